import PyProof.Rows.All
import Wide.All
import OpenK.AllK
import Wide.FinOn
import Lean
import PyProof.EqAt
import PyProof.EqKinds
import PyProof.TupleCall
import KE.KIsAll
import KE.KLam
import KE.KTryDeep
import PyProof.ExcAttrAll.ValueError
import KE.KSortTup
import KE.KItemsList
import KE.KDictList
import PyProof.Rows.SortRuns
import PyProof.Rows.SetFrom
import PyProof.FactsAll.set
import PyProof.Rows.SortStr
import PySem.Challenge.RW_growurns_k43_whole_orders
set_option Elab.async false
set_option linter.all false
set_option maxRecDepth 100000
namespace L2
open PySem PySem.Spec PyProof.Rows
noncomputable abbrev Key:=Sum Int Str
noncomputable def keyIs:Key->Value->Bool
 | .inl k,v=>Value.isInt k v
 | .inr x,v=>Value.isStrOf x v
noncomputable def a9d (w:World):Key->Int
 | .inl k=>hashInt k
 | .inr x=>hashStr w x
theorem keyIs_shape:∀{k:Key}{v:Value},keyIs k v=true->(∃i t,k=Sum.inl i/\v=Value.int i t) ∨ (∃x t,k=Sum.inr x/\v=Value.str x t)
 | .inl i,v,h=>by
  obtain ⟨t,e⟩:=Value.isInt_shape (k:=i) (v:=v) h
  exact .inl ⟨i,t,rfl,e⟩
 | .inr x,v,h=>by
  obtain ⟨t,e⟩:=Value.isStrOf_shape (x:=x) (v:=v) h
  exact .inr ⟨x,t,rfl,e⟩
theorem a4G (i:Int) (t:Tok):keyIs (.inl i) (.int i t)=true:=by simp[keyIs,Value.isInt]
theorem a4e (x:Str) (t:Tok):keyIs (.inr x) (.str x t)=true:=by simp[keyIs,Value.isStrOf]
theorem a7O (a b:Int):decide ((Sum.inl a:Key)=Sum.inl b)=(a == b):=by
 by_cases e:a=b
 ·subst e;simp
 ·have h:¬ (Sum.inl a:Key)=Sum.inl b:=fun q=>e (Sum.inl.inj q)
  rw[decide_eq_false h]
  exact (beq_eq_false_iff_ne.mpr e).symm
theorem a7j (a b:Str):decide ((Sum.inr a:Key)=Sum.inr b)=decide (a=b):=by
 by_cases e:a=b
 ·subst e;simp
 ·have h:¬ (Sum.inr a:Key)=Sum.inr b:=fun q=>e (Sum.inr.inj q)
  rw[decide_eq_false h,decide_eq_false e]
theorem a7K (a:Int) (b:Str):decide ((Sum.inl a:Key)=Sum.inr b)=false:=decide_eq_false (fun q=>nomatch q)
theorem a7I (a:Str) (b:Int):decide ((Sum.inr a:Key)=Sum.inl b)=false:=decide_eq_false (fun q=>nomatch q)
noncomputable def m9 (prog:Program) (w:World):PySem.KeyKind prog w Key where
 is:=keyIs
 hash:=a9d w
 inj:=fun v a b ha hb=>by
  rcases keyIs_shape ha with ⟨i,t,rfl,rfl⟩|⟨x,t,rfl,rfl⟩
  ·rcases keyIs_shape hb with ⟨j,u,rfl,e⟩|⟨y,u,rfl,e⟩
   ·injection e with e1 _;rw[e1]
   ·exact nomatch e
  ·rcases keyIs_shape hb with ⟨j,u,rfl,e⟩|⟨y,u,rfl,e⟩
   ·exact nomatch e
   ·injection e with e1 _;rw[e1]
 byValue:=fun k v h=>by
  rcases keyIs_shape h with ⟨i,t,rfl,rfl⟩|⟨x,t,rfl,rfl⟩ <;> rfl
 pyHash:=fun hv h=>by
  rcases keyIs_shape hv with ⟨i,t,rfl,rfl⟩|⟨x,t,rfl,rfl⟩
  ·exact wpAny_pyHash_int h
  ·exact wpAny_pyHash_str h
 eqBool:=fun hu hv h=>by
  rcases keyIs_shape hu with ⟨i,t,rfl,rfl⟩|⟨x,t,rfl,rfl⟩
  ·rcases keyIs_shape hv with ⟨j,u,rfl,rfl⟩|⟨y,u,rfl,rfl⟩
   ·rw[a7O] at h;exact wpAny_eqBool_int h
   ·rw[a7K] at h;exact SeqAt.EqAt.int_str i t y u _ _ _ _ h
  ·rcases keyIs_shape hv with ⟨j,u,rfl,rfl⟩|⟨y,u,rfl,rfl⟩
   ·rw[a7I] at h;exact SeqAt.EqAt.str_int x t j u _ _ _ _ h
   ·rw[a7j] at h;exact wpAny_eqBool_str h
 «strs»:=fun k x t v h=>by
  rcases keyIs_shape h with ⟨i,u,rfl,e⟩|⟨y,u,rfl,e⟩
  ·exact nomatch e
  ·injection e with e1 _
   subst e1
   cases v <;> rfl
theorem a2n (prog:Program) (w:World) (i:Int) (t:Tok):(m9 prog w).is (.inl i) (.int i t)=true:=a4G i t
theorem a2m (prog:Program) (w:World) (x:Str) (t:Tok):(m9 prog w).is (.inr x) (.str x t)=true:=a4e x t
end L2
namespace L2
open PySem PySem.Spec PyProof.Rows
inductive V where
 | non|bl (b:Bool)|int (i:Int)|str (x:Str)|byt (b:Array UInt8)|flt (b:UInt64)|ref (a:Addr)|ty (n:String)
 deriving DecidableEq
noncomputable def RelV:V->Value->Prop
 | .non,u=>u=Value.none
 | .bl b,u=>u=Value.bool b
 | .int i,u=>∃t,u=Value.int i t
 | .str x,u=>∃t,u=Value.str x t
 | .byt b,u=>∃t,u=Value.bytes b t
 | .flt b,u=>∃t,u=Value.float b t
 | .ref a,u=>u=Value.ref a
 | .ty n,u=>u=Value.type n
noncomputable abbrev Vals:List V->List Value->Prop:=Paired RelV
theorem Vals.length {xs:List V}{us:List Value} (r:Vals xs us):xs.length=us.length:=Paired.length r
theorem Vals.get:∀{xs:List V}{us:List Value}{i:Nat}{x:V},Vals xs us->xs[i]?=some x->∃u,us[i]?=some u/\RelV x u
 | _,_,_,_,.nil,e=>by simp at e
 | _,_,0,_,.cons r _,e=>by simp at e;subst e;exact ⟨_,rfl,r⟩
 | _,_,i+1,x,.cons _ t,e=>by
  obtain ⟨u,h1,h2⟩:=Vals.get (i:=i) (x:=x) t (by simpa using e)
  exact ⟨u,by simpa using h1,h2⟩
theorem Vals.set {x:V}{u:Value} (r:RelV x u):∀{xs:List V}{us:List Value} (i:Nat),Vals xs us->Vals (xs.set i x) (us.set i u)
 | _,_,_,.nil=>.nil
 | _,_,0,.cons _ t=>.cons r t
 | _,_,i+1,.cons q t=>.cons q (Vals.set r i t)
theorem Vals.append:∀{xs ys:List V}{us ws:List Value},Vals xs us->Vals ys ws->Vals (xs++ys) (us++ws)
 | _,_,_,_,.nil,s=>s
 | _,_,_,_,.cons r t,s=>.cons r (Vals.append t s)
theorem Vals.take:∀{xs:List V}{us:List Value} (n:Nat),Vals xs us->Vals (xs.take n) (us.take n)
 | _,_,0,_=>.nil
 | _,_,_+1,.nil=>.nil
 | _,_,n+1,.cons r t=>.cons r (Vals.take n t)
theorem Vals.drop:∀{xs:List V}{us:List Value} (n:Nat),Vals xs us->Vals (xs.drop n) (us.drop n)
 | _,_,0,r=>r
 | _,_,_+1,.nil=>.nil
 | _,_,n+1,.cons _ t=>Vals.drop n t
noncomputable def RelO:Option V->Option Value->Prop
 | some v,some u=>RelV v u
 | none,none=>True
 | _,_=>False
noncomputable def KV {κ:Type}:List (κ × V)->List (κ × Value)->Prop:=Paired fun (p:κ × V) (q:κ × Value)=>p.1=q.1/\RelV p.2 q.2
noncomputable def kV:Key->V
 | .inl i=>.int i
 | .inr x=>.str x
inductive HO where
 | lst (xs:List V)
 | tup (xs:List V)
 | dK (kvs:List (Key × V))|dT (kvs:List (List Key × V))
 | set (S:Int->Bool) (n:Nat)
 | ins (C dx:Addr) (fs:List (Str × V))
 | own (x:Addr)
 | xd (fs:List (Str × V))
 | met (f x:Addr)
 | rng (lo hi:Int)
 | frz (o:Obj) (u:HO)
 | tbl (ps:Array Value)
 | ext (φ:Heap->Prop)
noncomputable abbrev Hp:=Addr->Option HO
noncomputable def b7 (H:Hp) (a:Addr) (o:HO):Hp:=fun b=>if b=a then some o else H b
theorem b6 {H:Hp}{a:Addr}{o:HO}:b7 H a o a=some o:=by unfold b7;rw[if_pos rfl]
theorem d0 {H:Hp}{a b:Addr}{o:HO} (h:b≠a):b7 H a o b=H b:=by unfold b7;rw[if_neg h]
theorem U2 {H:Hp}{a b:Addr}{o u:HO} (h:H a=some o) (h':H b=some u) (d:o≠u):a≠b:=by
 intro e;subst e;rw[h] at h';exact d (Option.some.inj h')
theorem d6 {H:Hp}{a b:Addr}{o:HO} (h:H a=some o) (h':H b=none):a≠b:=by
 intro e;subst e;rw[h] at h';cases h'
section
variable (P:Program) (w:World)
noncomputable def ObjOk (H:Hp) (h:Heap) (a:Addr):HO->Prop
 | .lst xs=>xs.length<=sizeLine/\∃(its:List Value) (n:Nat),Vals xs its/\h.get? a=some { cls:=.type "list",data:=.seq its.toArray n }
 | .tup xs=>xs.length<=sizeLine/\∃its:List Value,Vals xs its/\IsTup h a its.toArray
 | .dK kvs=>kvs.length<=sizeLine/\(a == sysModules)=false/\∃vs,KV kvs vs/\h.DictOf (m9 P w) a vs
 | .dT kvs=>kvs.length<=sizeLine/\(a == sysModules)=false/\∃xs:List (List Key × Addr × Value),
   Paired (fun (p:List Key × V) (q:List Key × Addr × Value)=>p.1=q.1/\H q.2.1=some (.tup (p.1.map kV))/\RelV p.2 q.2.2) kvs xs /\
   ∃o es ep,h.get? a=some o/\o.ExactDict/\o.data=.dict es ep/\es.toList=xs.map (entryOfKey (tupleKind (m9 P w)))/\(xs.map (·.1)).Nodup
 | .set S n=>h.SetOf (intKind P w) a S n
 | .ins C dx fs=>H dx=some (.own a)/\fs.length<=1000/\dx≠a/\h.get? a=some (W.instObj C dx) /\
   ∃mA,h.Ns1 dx mA/\(∀f,RelO (fs.lookup f) (mA f))/\PySem.Within mA (fs.map (·.1))
 | .own _=>∃o,h.get? a=some o
 | .xd fs=>∃mA,h.Ns1 a mA/\∀f,RelO (fs.lookup f) (mA f)
 | .rng lo hi=>∃t u v,h.get? a=some { cls:=.type "range",data:=.fields #[.int lo t,.int hi u,.int 1 v] }
 | .frz o u=>h.get? a=some o/\ObjOk H h a u
 | .tbl ps=>h.get? a=some { cls:=.none,data:=.fields ps }
 | .met f x=>h.get? a=some (W.methodObj (.ref f) (.ref x))
 | .ext φ=>φ h/\(∃o,h.get? a=some o)/\∀h1 h2:Heap,φ h1->(∀o,h1.get? a=some o->h2.get? a=some o)->φ h2
noncomputable def HOk (H:Hp) (h:Heap):Prop:=∀a o,H a=some o->ObjOk P w H h a o
end
section
variable {P:Program}{w:World}{H H':Hp}{h h':Heap}{a:Addr}{o:HO}
theorem ObjOk.lt (x:ObjOk P w H h a o):a<h.objs.size:=by
 cases o with
 | lst xs=>obtain ⟨_,_,_,_,e⟩:=x;exact Heap.lt_size e
 | tup xs=>obtain ⟨_,_,_,p⟩:=x;exact p.lt
 | dK kvs=>obtain ⟨_,_,_,_,o,_,_,e,_⟩:=x;exact Heap.lt_size e
 | dT kvs=>obtain ⟨_,_,_,_,o,_,_,e,_⟩:=x;exact Heap.lt_size e
 | set S n=>obtain ⟨o,_,_,_,e,_⟩:=x;exact Heap.lt_size e
 | ins C dx fs=>obtain ⟨_,_,_,e,_⟩:=x;exact Heap.lt_size e
 | own y=>obtain ⟨_,e⟩:=x;exact Heap.lt_size e
 | xd fs=>obtain ⟨_,⟨_,_,_,e,_⟩,_⟩:=x;exact Heap.lt_size e
 | rng lo hi=>obtain ⟨_,_,_,e⟩:=x;exact Heap.lt_size e
 | frz ob u=>obtain ⟨e,_⟩:=x;exact Heap.lt_size e
 | tbl ps=>exact Heap.lt_size (show h.get? a=some _ from x)
 | met f y=>exact Heap.lt_size (show h.get? a=some _ from x)
 | ext φ=>obtain ⟨_,⟨_,e⟩,_⟩:=x;exact Heap.lt_size e
theorem Paired.mapP {α β:Type}{F G:α->β->Prop}:∀{l₁:List α}{l₂:List β},Paired F l₁ l₂->(∀a b,F a b->G a b)->Paired G l₁ l₂
 | _,_,.nil,_=>.nil
 | _,_,.cons r t,f=>.cons (f _ _ r) (Paired.mapP t f)
theorem ObjOk.stay (x:ObjOk P w H h a o) (k:∀b u,(b=a ∨ H b=some (.own a))->h.get? b=some u->h'.get? b=some u)
  (ho:∀b,H b=some (.own a)->H' b=some (.own a)) (ht:∀b xs,H b=some (.tup xs)->H' b=some (.tup xs)):ObjOk P w H' h' a o:=by
 induction o with
 | lst xs=>obtain ⟨z,its,n,r,e⟩:=x;exact ⟨z,its,n,r,k _ _ (.inl rfl) e⟩
 | tup xs=>obtain ⟨z,its,r,ob,e,c⟩:=x;exact ⟨z,its,r,ob,k _ _ (.inl rfl) e,c⟩
 | dK kvs=>obtain ⟨z,y,vs,r,ob,es,ep,e,c⟩:=x;exact ⟨z,y,vs,r,ob,es,ep,k _ _ (.inl rfl) e,c⟩
 | dT kvs =>
  obtain ⟨z,y,xs,r,ob,es,ep,e,c⟩:=x
  exact ⟨z,y,xs,Paired.mapP r fun p q z=>⟨z.1,ht _ _ z.2.1,z.2.2⟩,ob,es,ep,k _ _ (.inl rfl) e,c⟩
 | set S n=>obtain ⟨ob,es,ep,t,e,c⟩:=x;exact ⟨ob,es,ep,t,k _ _ (.inl rfl) e,c⟩
 | ins C dx fs =>
  obtain ⟨d,z,ne,e,mA,⟨od,es,ep,e2,c⟩,r⟩:=x
  exact ⟨ho _ d,z,ne,k _ _ (.inl rfl) e,mA,⟨od,es,ep,k _ _ (.inr d) e2,c⟩,r⟩
 | own y=>obtain ⟨ob,e⟩:=x;exact ⟨ob,k _ _ (.inl rfl) e⟩
 | xd fs=>obtain ⟨mA,⟨od,es,ep,e,c⟩,r⟩:=x;exact ⟨mA,⟨od,es,ep,k _ _ (.inl rfl) e,c⟩,r⟩
 | rng lo hi=>obtain ⟨t,u,v,e⟩:=x;exact ⟨t,u,v,k _ _ (.inl rfl) e⟩
 | frz ob u ih=>obtain ⟨e,q⟩:=x;exact ⟨k _ _ (.inl rfl) e,ih q⟩
 | tbl ps =>
  have e:h.get? a=some { cls:=.none,data:=.fields ps }:=x
  show h'.get? a=some { cls:=.none,data:=.fields ps }
  exact k a _ (.inl rfl) e
 | met f y =>
  have e:h.get? a=some (W.methodObj (.ref f) (.ref y)):=x
  show h'.get? a=some (W.methodObj (.ref f) (.ref y))
  exact k a _ (.inl rfl) e
 | ext φ=>obtain ⟨p,⟨o,e⟩,st⟩:=x;exact ⟨st _ _ p fun o q=>k _ _ (.inl rfl) q,⟨o,k _ _ (.inl rfl) e⟩,st⟩
theorem HOk.lt (x:HOk P w H h) (e:H a=some o):a<h.objs.size:=(x a o e).lt
theorem HOk.fresh (x:HOk P w H h) (e:h.objs.size<=a):H a=none:=by
 cases q:H a with
 | none=>rfl
 | some u=>exact absurd (Nat.lt_of_lt_of_le (x.lt q) e) (Nat.lt_irrefl _)
theorem HOk.kept (x:HOk P w H h) (k:∀b u,h.get? b=some u->h'.get? b=some u):HOk P w H h':=fun a o e =>
 (x a o e).stay (fun b u _ q=>k b u q) (fun _ q=>q) fun _ _ q=>q
theorem HOk.laid (x:HOk P w H h) (k:∀b u,h.get? b=some u->h'.get? b=some u) (hp:h.objs.size<=a) (new:ObjOk P w (b7 H a o) h' a o):HOk P w (b7 H a o) h':=fun b u e=>by
 have hn:=x.fresh hp
 by_cases hb:b=a
 ·subst hb;rw[b6] at e;cases e;exact new
 ·rw[d0 hb] at e
  exact (x b u e).stay (fun c v _ q=>k c v q) (fun c q=>by rw[d0 (d6 q hn)];exact q) fun c xs q=>by rw[d0 (d6 q hn)];exact q
end
noncomputable def Rd (H:Hp) (a:Addr) (u:HO):Prop:=H a=some u ∨ ∃o,H a=some (.frz o u)
theorem Rd.ok {P:Program}{w:World}{H:Hp}{h:Heap}{a:Addr}{u:HO} (r:Rd H a u) (x:HOk P w H h):ObjOk P w H h a u:=by
 rcases r with r|⟨o,r⟩
 ·exact x a u r
 ·obtain ⟨_,q⟩:=x a _ r
  exact q
noncomputable def Mut:Option HO->Prop
 | some (.lst _)=>True
 | some (.dK _)=>True
 | some (.dT _)=>True
 | some (.set _ _)=>True
 | some (.ins _ _ _)=>True
 | some (.ext _)=>True
 | _=>False
section
variable {P:Program}{w:World}{H:Hp}{h h':Heap}{x e:Addr}{o':HO}
theorem HOk.write (ok:HOk P w H h) (mu:Mut (H x)) (he:e=x ∨ H e=some (.own x)) (k:∀b u,b≠e->h.get? b=some u->h'.get? b=some u) (heo:∃u,h'.get? e=some u)
  (new:ObjOk P w (b7 H x o') h' x o'):HOk P w (b7 H x o') h':=fun b u q=>by
 have nown:∀c y,H c=some (.own y)->c≠x:=fun c y r z=>by subst z;rw[r] at mu;exact mu
 have ntup:∀c xs,H c=some (.tup xs)->c≠x:=fun c xs r z=>by subst z;rw[r] at mu;exact mu
 by_cases hb:b=x
 ·subst hb;rw[b6] at q;cases q;exact new
 ·rw[d0 hb] at q
  by_cases hbe:b=e
  ·have q':H b=some (.own x):=by
    rcases he with z|z
    ·exact absurd (hbe.trans z) hb
    ·rw[hbe];exact z
   rw[q] at q';cases q'
   obtain ⟨v,hv⟩:=heo
   exact ⟨v,by rw[hbe];exact hv⟩
  ·refine (ok b u q).stay (fun c v hc r=>k c v ?_ r) (fun c r=>by rw[d0 (nown c b r)];exact r) fun c xs r=>by rw[d0 (ntup c xs r)];exact r
   rcases hc with rfl|hc
   ·exact hbe
   ·rintro rfl
    rcases he with z|z
    ·exact nown c b hc z
    ·rw[hc] at z;cases z;exact hb rfl
end
structure Un (fs ex:List Addr) (H H':Hp) (h h':Heap):Prop where
 keep:∀b o,h.get? b=some o->H b=none->b ∉ fs->b ∉ ex->h'.get? b=some o
 slot:∀b o,h.get? b=some o->H b=none->b∈fs->b ∉ ex->∃sl,h'.get? b=some { o with slots:=sl }
 free:∀b o,h.get? b=some o->H b=none->b ∉ ex->H' b=none
 there:∀b o,h.get? b=some o->b ∉ ex->∃o',h'.get? b=some o'
 tups:∀b xs,H b=some (.tup xs)->H' b=some (.tup xs)
 frzs:∀b o u,H b=some (.frz o u)->H' b=some (.frz o u)
 tbls:∀b ps,H b=some (.tbl ps)->∃more,H' b=some (.tbl (ps++more))
section
variable {fs fs' ex ex':List Addr}{H H1 H2:Hp}{h h1 h2 h':Heap}{a x e:Addr}{o:HO}
theorem Un.any (u:Un fs ex H H1 h h1) {b:Addr}{ob:Obj} (q:h.get? b=some ob) (n:H b=none) (hx:b ∉ ex):∃sl,h1.get? b=some { ob with slots:=sl }:=by
 by_cases hb:b∈fs
 ·exact u.slot b ob q n hb hx
 ·exact ⟨ob.slots,u.keep b ob q n hb hx⟩
theorem Un.kept (k:∀b u,h.get? b=some u->h'.get? b=some u):Un fs ex H H h h' :=
 ⟨fun b ob q _ _ _=>k b ob q,fun b ob q _ _ _=>⟨ob.slots,k b ob q⟩,fun _ _ _ n _=>n,fun b ob q _=>⟨ob,k b ob q⟩,fun _ _ q=>q,fun _ _ _ q=>q,fun _ ps q=>⟨#[],by rw[q];simp⟩⟩
theorem Un.refl:Un fs ex H H h h:=Un.kept fun _ _ q=>q
theorem Un.laid (k:∀b u,h.get? b=some u->h'.get? b=some u) (hp:h.objs.size<=a) (hn:H a=none):Un fs ex H (b7 H a o) h h' where
 keep:=fun b u q _ _ _=>k b u q
 slot:=fun b u q _ _ _=>⟨u.slots,k b u q⟩
 free:=fun b u q n _=>by rw[d0 (Nat.ne_of_lt (Nat.lt_of_lt_of_le (Heap.lt_size q) hp))];exact n
 there:=fun b u q _=>⟨u,k b u q⟩
 tups:=fun b xs q=>by rw[d0 (d6 q hn)];exact q
 frzs:=fun b u xs q=>by rw[d0 (d6 q hn)];exact q
 tbls:=fun b ps q=>⟨#[],by rw[d0 (d6 q hn),q];simp⟩
theorem Un.write (mu:Mut (H x)) (he:e=x ∨ H e=some (.own x)) (k:∀b u,b≠e->h.get? b=some u->h'.get? b=some u) (heo:∃u,h'.get? e=some u):Un fs ex H (b7 H x o) h h':=by
 have hx:∀b,H b=none->b≠x:=fun b n z=>by subst z;rw[n] at mu;exact mu
 have hb:∀b,H b=none->b≠e:=fun b n z=>by
  subst z
  rcases he with r|r
  ·exact hx b n r
  ·rw[n] at r;cases r
 have hm:∀b u,H b=some u->¬ Mut (some u)->b≠x:=fun b u q nm z=>by subst z;rw[q] at mu;exact nm mu
 refine ⟨fun b u q n _ _=>k b u (hb b n) q,fun b u q n _ _=>⟨u.slots,k b u (hb b n) q⟩,fun b u q n _=>by rw[d0 (hx b n)];exact n,fun b u q _=>?_,
  fun b xs q=>by rw[d0 (hm b _ q fun z=>z)];exact q,fun b u xs q=>by rw[d0 (hm b _ q fun z=>z)];exact q,fun b ps q=>⟨#[],by rw[d0 (hm b _ q fun z=>z),q];simp⟩⟩
 by_cases hbe:b=e
 ·subst hbe;exact heo
 ·exact ⟨u,k b u hbe q⟩
end
noncomputable def trk (h:Heap) (H:Hp):List Addr:=(List.range h.objs.size).filter fun a=>(H a).isSome
noncomputable def Q8 (h:Heap) (H:Hp):Heap:=W.hideAll h (trk h H)
theorem a4n (h:Heap) (H:Hp):(Q8 h H).objs.size=h.objs.size:=W.hideAll_size _ _
theorem a5w {h:Heap}{H:Hp}{b:Addr}{o:Obj} (e:h.get? b=some o) (n:H b=none):(Q8 h H).get? b=some o :=
 W.hideAll_get _ e fun hm=>by
  have q:(H b).isSome=true:=(List.mem_filter.mp hm).2
  rw[n] at q;simp at q
theorem a6T {h:Heap}{H:Hp}{b:Addr}{o:Obj} (e:(Q8 h H).get? b=some o):h.get? b=some o/\H b=none:=by
 have e':h.get? b=some o:=W.of_hideAll (trk h H) e
 refine ⟨e',?_⟩
 cases q:H b with
 | none=>rfl
 | some x =>
  have hm:b∈trk h H:=List.mem_filter.mpr ⟨List.mem_range.mpr (Heap.lt_size e'),by simp[q]⟩
  have z:(Q8 h H).get? b=none:=W.hideAll_none (trk h H) hm
  rw[z] at e;cases e
noncomputable def a61 (g h:Heap) (L:Addr):List (Addr × Obj):=(List.range h.objs.size).filterMap fun a=>if a=L ∨ (g.get? a).isSome=true then none else (h.get? a).map fun o=>(a,o)
noncomputable def m7 (g h:Heap) (L d:Addr):List (Addr × Obj):=(a61 g h L).filter fun p=>decide (p.1≠d)
end L2
namespace L2
open PySem PySem.Spec PyProof.Rows
structure Mod (K:W.Frag) (mg:Str->Option Value) (base:Heap):Prop where
 kin:K.In base
 glob:base.Ns mainGlobals mg
 blt:∃mb,base.Ns builtinsNs mb/\∀x:Str,x≠"__name__"->mb x=bootBuiltins x
 nolimit:base.NoLimit
structure Cx where
 prog:Program
 w:World
 K:W.Frag
 mg:Str->Option Value
 base:Heap
 A:Around
 N:List Str
 s₀:Shared
 H₀:Hp
 env:Env
 outer:List Env
 stack:List Env
 ex:List Addr
 fn:Str->Bool
 calm:Bool
 pn:List (Addr × Obj)
 xe:Value->Shared->Prop
noncomputable def G3 (l:List Env):List Addr:=l.filterMap (·.frame)
noncomputable abbrev Cx.fs (X:Cx):List Addr:=G3 X.outer
noncomputable def Vis (sc:Scope) (x:Str):Prop:=sc.names.lookup x=some .local ∨ sc.names.lookup x=some .cell ∨ sc.names.lookup x=some .free
noncomputable def Loc (sc:Scope) (x:Str):Prop:=sc.names.lookup x=some .local ∨ sc.names.lookup x=some .cell
noncomputable def a87 (env:Env) (h:Heap) (m:Str->Option Value) (x:Str) (u:Value):Prop :=
 (env.kindOf x=some .local/\m x=some u) ∨ ((env.kindOf x=some .cell ∨ env.kindOf x=some .free)/\∃c,env.cells.lookup x=some c/\h.IsCell c (some u))
structure Cx.Ok (X:Cx):Prop where
 mod:Mod X.K X.mg X.base
 kind:X.env.scope.kind=.function
 glob:X.env.globals=mainGlobals
 blt:X.env.builtins=builtinsNs
 above:X.s₀.heap.objs.size<=X.env.locals
 inj:∀x y c,X.env.cells.lookup x=some c->X.env.cells.lookup y=some c->x=y
 has:∀x,(X.env.kindOf x=some .cell ∨ X.env.kindOf x=some .free)->∃c,X.env.cells.lookup x=some c
 cab:∀x c,X.fn x=true->X.env.cells.lookup x=some c->X.s₀.heap.objs.size<=c
 hd:X.calm=true->X.A.handled=none
 frames:X.A.frames=some X.stack
 stk:X.stack=X.outer ∨ (X.stack=X.env::X.outer/\X.env.frame=some X.env.locals)
 exf:∀b∈X.ex,b≠X.env.locals/\∀x c,X.env.cells.lookup x=some c->c≠b
 bs:∀b o,X.base.get? b=some o->X.s₀.heap.get? b=some o/\X.H₀ b=none
 bsz:X.base.objs.size<=X.s₀.heap.objs.size
 noex:∀b o,X.base.get? b=some o->b ∉ X.ex
 exfs:∀b∈X.ex,b ∉ X.fs
 funs:X.s₀.heap.FunFrames X.base X.outer
 frf:∀b∈X.fs,X.H₀ b=none
structure Inv (X:Cx) (pins:List (Addr × Obj)) (σ:List (Option V)) (H:Hp) (s:Shared):Prop where
 ok:X.Ok
 os:s.os=X.s₀.os
 bare:AllBare s.gens
 base:Un X.fs X.ex X.H₀ H X.s₀.heap s.heap
 loc:∃m,s.heap.Ns X.env.locals m/\∀(i:Nat) (x:Str) (v:V),X.N[i]?=some x->σ[i]?=some (some v)->Vis X.env.scope x->∃u,RelV v u/\a87 X.env s.heap m x u
 cell:∀x c,X.env.cells.lookup x=some c->∃v,s.heap.IsCell c v
 free:H X.env.locals=none
 freeC:∀x c,X.env.cells.lookup x=some c->H c=none
 pin:∀p∈X.pn++pins,s.heap.get? p.1=some p.2/\H p.1=none/\p.1≠X.env.locals/\p.1 ∉ X.fs/\∀v,p.2.data≠.cell v
 hok:HOk X.prog X.w H s.heap
 len:σ.length=X.N.length
section
variable {X:Cx}{pins:List (Addr × Obj)}{σ:List (Option V)}{H H':Hp}{s:Shared}{h':Heap}
theorem Cx.Ok.nofr (ok:X.Ok) {b:Addr}{o:Obj} (e:X.base.get? b=some o):b ∉ X.fs:=fun hb=>by
 have:=(ok.funs.mem hb).1
 rw[e] at this;cases this
theorem Inv.bs (I:Inv X pins σ H s):∀b o,X.base.get? b=some o->s.heap.get? b=some o/\H b=none:=fun b o e =>
 ⟨I.base.keep b o (I.ok.bs b o e).1 (I.ok.bs b o e).2 (I.ok.nofr e) (I.ok.noex b o e),I.base.free b o (I.ok.bs b o e).1 (I.ok.bs b o e).2 (I.ok.noex b o e)⟩
theorem Inv.bk (I:Inv X pins σ H s):∀b o,X.base.get? b=some o->s.heap.get? b=some o:=fun b o e=>(I.bs b o e).1
theorem Inv.mod (I:Inv X pins σ H s):Mod X.K X.mg X.base:=I.ok.mod
theorem Inv.kIn (I:Inv X pins σ H s):X.K.In s.heap:=I.ok.mod.kin.keeps I.bk
theorem Inv.lt (I:Inv X pins σ H s):X.env.locals<s.heap.objs.size:=let ⟨_,hn,_⟩:=I.loc;hn.lt
theorem Inv.sz (I:Inv X pins σ H s):X.s₀.heap.objs.size<=s.heap.objs.size:=Nat.le_trans I.ok.above (Nat.le_of_lt I.lt)
theorem Inv.nofs (I:Inv X pins σ H s) {a:Addr} (h:s.heap.objs.size<=a):a ∉ X.fs:=fun hb=>by
 obtain ⟨_,o,ho,_⟩:=I.ok.funs.mem hb
 exact absurd (Nat.lt_of_lt_of_le (Heap.lt_size ho) (Nat.le_trans I.sz h)) (Nat.lt_irrefl _)
theorem Inv.cne (I:Inv X pins σ H s):∀x c,X.env.cells.lookup x=some c->c≠X.env.locals:=fun x c e z=>by
 obtain ⟨v,o,ho,hd⟩:=I.cell x c e
 obtain ⟨m,⟨o',es,ep,ho',hd',_⟩,_⟩:=I.loc
 rw[z,ho'] at ho;cases ho;rw[hd'] at hd;cases hd
theorem Inv.funs (I:Inv X pins σ H s):s.heap.FunFrames X.base X.outer:=by
 have all:∀(l:List Env),(∀b∈G3 l,b∈X.fs)->X.s₀.heap.FunFrames X.base l->s.heap.FunFrames X.base l:=by
  intro l
  induction l with
  | nil=>intro _ _;trivial
  | cons env r ih =>
   intro hs hl
   obtain ⟨hk,⟨L,o,hf,hn,ho,hd⟩,hr⟩:=hl
   have hL:L∈X.fs:=hs L (by unfold G3;rw[List.filterMap_cons,hf];exact List.mem_cons_self)
   obtain ⟨sl,e⟩:=I.base.slot L o ho (I.ok.frf L hL) hL fun z=>I.ok.exfs L z hL
   exact ⟨hk,⟨L,_,hf,hn,e,hd⟩,ih (fun b hb=>hs b (by unfold G3;rw[List.filterMap_cons,hf];exact List.mem_cons_of_mem _ hb)) hr⟩
 exact all X.outer (fun _ hb=>hb) I.ok.funs
theorem Inv.stack (I:Inv X pins σ H s):s.heap.FunFrames X.base X.stack:=by
 rcases I.ok.stk with e|⟨e,hf⟩
 ·rw[e];exact I.funs
 ·rw[e]
  obtain ⟨m,hn,_⟩:=I.loc
  refine .cons (by rw[I.ok.kind];decide) hf hn ?_ I.funs
  exact Heap.get?_none_of_le (Nat.le_trans I.ok.bsz I.ok.above)
theorem Inv.stkSub (I:Inv X pins σ H s):∀b∈G3 X.stack,b∈X.env.locals::X.fs:=fun b hb=>by
 rcases I.ok.stk with e|⟨e,hf⟩
 ·rw[e] at hb;exact List.mem_cons_of_mem _ hb
 ·rw[e] at hb
  unfold G3 at hb
  rw[List.filterMap_cons,hf] at hb
  exact hb
theorem Inv.stkFree (I:Inv X pins σ H s):∀b∈G3 X.stack,H b=none:=fun b hb=>by
 rcases List.mem_cons.mp (I.stkSub b hb) with e|hb
 ·rw[e];exact I.free
 ·obtain ⟨_,o,ho,_⟩:=I.ok.funs.mem hb
  exact I.base.free b o ho (I.ok.frf b hb) fun z=>I.ok.exfs b z hb
theorem Inv.step {g':Array GenState}{t':Nat}{d':Drawn}{ch:List Addr} (I:Inv X pins σ H s)
  (hch:∀b∈ch,(b∈X.ex ∨ X.s₀.heap.objs.size<=b)/\b≠X.env.locals/\(∀x c,X.env.cells.lookup x=some c->c≠b)/\∀p∈X.pn++pins,p.1≠b)
  (keep:∀b o,b≠X.env.locals->b ∉ X.fs->b ∉ ch->s.heap.get? b=some o->H b=none->h'.get? b=some o)
  (slot:∀b o,b≠X.env.locals->b∈X.fs->b ∉ ch->s.heap.get? b=some o->H b=none->∃sl,h'.get? b=some { o with slots:=sl }) (free:∀b o,b ∉ ch->s.heap.get? b=some o->H b=none->H' b=none)
  (there:∀b o,b ∉ ch->s.heap.get? b=some o->∃o',h'.get? b=some o')
  (tups:∀b xs,H b=some (.tup xs)->H' b=some (.tup xs)) (frzs:∀b o u,H b=some (.frz o u)->H' b=some (.frz o u)) (tbls:∀b ps,H b=some (.tbl ps)->∃more,H' b=some (.tbl (ps++more)))
  (ns:∀m,s.heap.Ns X.env.locals m->h'.Ns X.env.locals m) (hok:HOk X.prog X.w H' h') (hg:AllBare g'):
  Inv X pins σ H' { s with heap:=h',gens:=g',drawn:=d',toks:=t' }:=by
 have neL:∀b o,X.s₀.heap.get? b=some o->b≠X.env.locals:=fun b o e=>Nat.ne_of_lt (Nat.lt_of_lt_of_le (Heap.lt_size e) I.ok.above)
 have neC:∀b o,X.s₀.heap.get? b=some o->b ∉ X.ex->b ∉ ch:=fun b o e hx hb=>by
  rcases (hch b hb).1 with z|z
  ·exact hx z
  ·exact absurd (Nat.lt_of_lt_of_le (Heap.lt_size e) z) (Nat.lt_irrefl _)
 have cellK:∀x c,X.env.cells.lookup x=some c->∀v,s.heap.IsCell c v->h'.IsCell c v:=fun x c e v ⟨o,ho,hd⟩=>by
  have nch:c ∉ ch:=fun z=>(hch c z).2.2.1 x c e rfl
  by_cases hc:c∈X.fs
  ·obtain ⟨sl,q⟩:=slot c o (I.cne x c e) hc nch ho (I.freeC x c e)
   exact ⟨_,q,hd⟩
  ·exact ⟨o,keep c o (I.cne x c e) hc nch ho (I.freeC x c e),hd⟩
 refine ⟨I.ok,I.os,hg,⟨fun b o e n hb hx=>?_,fun b o e n hb hx=>?_,fun b o e n hx=>?_,fun b o e hx=>?_,fun b xs e=>tups b xs (I.base.tups b xs e),fun b o xs e=>frzs b o xs (I.base.frzs b o xs e),fun b ps e=>?_⟩,?_,fun x c e=>?_,?_,fun x c e=>?_,fun p hp=>?_,hok,I.len⟩
 ·exact keep b o (neL b o e) hb (neC b o e hx) (I.base.keep b o e n hb hx) (I.base.free b o e n hx)
 ·obtain ⟨sl,e1⟩:=I.base.slot b o e n hb hx
  obtain ⟨sl',e2⟩:=slot b _ (neL b o e) hb (neC b o e hx) e1 (I.base.free b o e n hx)
  exact ⟨sl',e2⟩
 ·obtain ⟨o',e1⟩:=I.base.there b o e hx
  exact free b o' (neC b o e hx) e1 (I.base.free b o e n hx)
 ·obtain ⟨o',e1⟩:=I.base.there b o e hx
  exact there b o' (neC b o e hx) e1
 ·obtain ⟨m1,e1⟩:=I.base.tbls b ps e
  obtain ⟨m2,e2⟩:=tbls b _ e1
  exact ⟨m1++m2,by rw[e2,Array.append_assoc]⟩
 ·obtain ⟨m,hn,hl⟩:=I.loc
  refine ⟨m,ns m hn,fun i x v e1 e2 e3=>?_⟩
  obtain ⟨u,r,l⟩:=hl i x v e1 e2 e3
  refine ⟨u,r,?_⟩
  rcases l with l|⟨k,c,e,z⟩
  ·exact .inl l
  ·exact .inr ⟨k,c,e,cellK x c e _ z⟩
 ·obtain ⟨v,z⟩:=I.cell x c e
  exact ⟨v,cellK x c e v z⟩
 ·obtain ⟨m,⟨o,_,_,ho,_⟩,_⟩:=I.loc
  exact free _ o (fun z=>(hch _ z).2.1 rfl) ho I.free
 ·obtain ⟨v,o,ho,hd⟩:=I.cell x c e
  exact free c o (fun z=>(hch c z).2.2.1 x c e rfl) ho (I.freeC x c e)
 ·obtain ⟨e,n,ne,nf,d⟩:=I.pin p hp
  have nch:p.1 ∉ ch:=fun z=>(hch p.1 z).2.2.2 p hp rfl
  exact ⟨keep p.1 p.2 ne nf nch e n,free p.1 p.2 nch e n,ne,nf,d⟩
theorem Inv.un {t':Nat} (I:Inv X pins σ H s) (u:Un X.fs [] H H' s.heap h') (hok:HOk X.prog X.w H' h'):Inv X pins σ H' { s with heap:=h',toks:=t' }:=by
 obtain ⟨m,⟨o,es,ep,ho,r⟩,_⟩:=id I.loc
 obtain ⟨sl,hL⟩:=u.any ho I.free (by simp)
 exact I.step (g':=s.gens) (d':=s.drawn) (ch:=[]) (fun _ z=>nomatch z) (fun b o _ hb _ e n=>u.keep b o e n hb (by simp)) (fun b o _ hb _ e n=>u.slot b o e n hb (by simp)) (fun b o _ e n=>u.free b o e n (by simp)) (fun b o _ e=>u.there b o e (by simp)) u.tups u.frzs u.tbls (fun m' hm=>by
  obtain ⟨o',es',ep',ho',r'⟩:=hm
  rw[ho] at ho';cases ho'
  exact ⟨_,es',ep',hL,r'⟩) hok I.bare
theorem Inv.call {g':Array GenState}{t':Nat}{d':Drawn}{ch:List Addr} (I:Inv X pins σ H s) (u:Un (G3 X.stack) ch H H' s.heap h') (hok:HOk X.prog X.w H' h') (hg:AllBare g')
  (hch:∀b∈ch,(b∈X.ex ∨ X.s₀.heap.objs.size<=b)/\b≠X.env.locals/\(∀x c,X.env.cells.lookup x=some c->c≠b)/\∀p∈X.pn++pins,p.1≠b):
  Inv X pins σ H' { s with heap:=h',gens:=g',drawn:=d',toks:=t' }:=by
 obtain ⟨m,⟨o,es,ep,ho,r⟩,_⟩:=id I.loc
 obtain ⟨sl,hL⟩:=u.any ho I.free fun z=>(hch _ z).2.1 rfl
 exact I.step (ch:=ch) hch (fun b o hL hb hc e n=>u.keep b o e n (fun z=>(List.mem_cons.mp (I.stkSub b z)).elim hL hb) hc) (fun b o _ _ hc e n=>u.any e n hc) (fun b o hc e n=>u.free b o e n hc) (fun b o hc e=>u.there b o e hc) u.tups u.frzs u.tbls (fun m' hm=>by
  obtain ⟨o',es',ep',ho',r'⟩:=hm
  rw[ho] at ho';cases ho'
  exact ⟨_,es',ep',hL,r'⟩) hok hg
theorem Inv.turned {t':Nat}{it:Addr} (I:Inv X pins σ H s) (k:∀b o,b≠it->s.heap.get? b=some o->h'.get? b=some o) (hn:H it=none) (hL:it≠X.env.locals)
  (h1:it∈X.ex ∨ X.s₀.heap.objs.size<=it) (h2:∀x c,X.env.cells.lookup x=some c->c≠it) (h3:∀p∈X.pn++pins,p.1≠it):Inv X pins σ H { s with heap:=h',toks:=t' }:=by
 have nit:∀b u,H b=some u->b≠it:=fun b u e z=>by rw[z,hn] at e;cases e
 refine I.step (g':=s.gens) (d':=s.drawn) (ch:=[it]) (fun b hb=>?_) (fun b o _ _ hc e _=>k b o (fun z=>hc (by simp[z])) e) (fun b o _ _ hc e _=>⟨o.slots,k b o (fun z=>hc (by simp[z])) e⟩) (fun _ _ _ _ n=>n)
  (fun b o hc e=>⟨o,k b o (fun z=>hc (by simp[z])) e⟩) (fun _ _ e=>e) (fun _ _ _ e=>e) (fun b ps e=>⟨#[],by rw[e];simp⟩) (fun m hm=>?_) (fun b u e=>?_) I.bare
 ·have e:b=it:=by simpa using hb
  subst e
  exact ⟨h1,hL,h2,h3⟩
 ·obtain ⟨o,es,ep,ho,r⟩:=hm
  exact ⟨o,es,ep,k _ o (Ne.symm hL) ho,r⟩
 ·refine (I.hok b u e).stay (fun c v hc q=>k c v ?_ q) (fun _ q=>q) fun _ _ q=>q
  rcases hc with z|z
  ·rw[z];exact nit b u e
  ·exact nit c _ z
theorem Inv.tok (I:Inv X pins σ H s) (t:Nat):Inv X pins σ H { s with toks:=t }:=I.un (h':=s.heap) (t':=t) Un.refl I.hok
theorem Inv.kept {t':Nat} (I:Inv X pins σ H s) (k:∀b u,s.heap.get? b=some u->h'.get? b=some u):Inv X pins σ H { s with heap:=h',toks:=t' }:=I.un (Un.kept k) (I.hok.kept k)
theorem Inv.laid {a:Addr}{o:HO}{t':Nat} (I:Inv X pins σ H s) (k:∀b u,s.heap.get? b=some u->h'.get? b=some u) (hp:s.heap.objs.size<=a) (new:ObjOk X.prog X.w (b7 H a o) h' a o):
  Inv X pins σ (b7 H a o) { s with heap:=h',toks:=t' }:=I.un (Un.laid k hp (I.hok.fresh hp)) (I.hok.laid k hp new)
theorem Inv.write {x e:Addr}{o:HO}{t':Nat} (I:Inv X pins σ H s) (mu:Mut (H x)) (he:e=x ∨ H e=some (.own x)) (k:∀b u,b≠e->s.heap.get? b=some u->h'.get? b=some u) (heo:∃u,h'.get? e=some u)
  (new:ObjOk X.prog X.w (b7 H x o) h' x o):Inv X pins σ (b7 H x o) { s with heap:=h',toks:=t' }:=I.un (Un.write mu he k heo) (I.hok.write mu he k heo new)
theorem Inv.weak {σ':List (Option V)} (I:Inv X pins σ H s) (hl:σ'.length=σ.length) (w:∀(i:Nat) v,σ'[i]?=some (some v)->σ[i]?=some (some v)):Inv X pins σ' H s :=
 ⟨I.ok,I.os,I.bare,I.base,let ⟨m,hn,hl'⟩:=I.loc;⟨m,hn,fun i x v e1 e2 e3=>hl' i x v e1 (w i v e2) e3⟩,I.cell,I.free,I.freeC,I.pin,I.hok,hl.trans I.len⟩
theorem Inv.pins_of {pins':List (Addr × Obj)} (I:Inv X pins σ H s) (h:∀p∈pins',s.heap.get? p.1=some p.2/\H p.1=none/\p.1≠X.env.locals/\p.1 ∉ X.fs/\∀v,p.2.data≠.cell v):Inv X pins' σ H s :=
 ⟨I.ok,I.os,I.bare,I.base,I.loc,I.cell,I.free,I.freeC,fun p hp=>(List.mem_append.mp hp).elim (fun z=>I.pin p (List.mem_append_left _ z)) (h p),I.hok,I.len⟩
theorem a1H {N:List Str} (hN:N.Nodup) {i j:Nat}{x:Str} (a:N[i]?=some x) (b:N[j]?=some x):i=j:=by
 obtain ⟨h1,e1⟩:=List.getElem?_eq_some_iff.mp a
 obtain ⟨h2,e2⟩:=List.getElem?_eq_some_iff.mp b
 exact (List.getElem_inj hN).mp (e1.trans e2.symm)
theorem T7 {M:Model}{A:Around}{E:Value->Shared->Prop}{i:Nat}{x:Str}{v:V}{u:Value}{Q:Unit->Shared->Prop} (I:Inv X pins σ H s) (hN:X.N.Nodup) (hi:X.N[i]?=some x) (hx:Loc X.env.scope x) (r:RelV v u)
  (h:∀s',Inv X pins (σ.set i (some v)) H s'->(∃a,Heap.SameBut a s.heap s'.heap/\(a=X.env.locals ∨ X.env.cells.lookup x=some a))->Q () s') (hf:X.fn x=true ∨ X.env.scope.names.lookup x=some .local:=by first|exact .inl rfl|exact .inr rfl|assumption):wpAny M A (storeName X.env x u) Q E s:=by
 obtain ⟨m,hn,hl⟩:=id I.loc
 have hcls:(X.env.scope.kind == .class || (X.env.scope.kind == .module&&X.env.locals != X.env.globals))=false:=by rw[I.ok.kind];rfl
 have hiσ:i<σ.length:=by rw[I.len];exact (List.getElem?_eq_some_iff.mp hi).1
 have cne:=I.cne
 have tracked:∀{a:Addr}{h':Heap},(∃o,s.heap.get? a=some o/\H a=none)->Heap.SameBut a s.heap h'->HOk X.prog X.w H h':=fun {a h'} ha hs b ob e=>by
  obtain ⟨_,_,hfree⟩:=ha
  refine (I.hok b ob e).stay (fun c w' hc q=>(hs.2 c ?_).trans q) (fun _ q=>q) fun _ _ q=>q
  rintro rfl
  rcases hc with rfl|hc
  ·rw[hfree] at e;cases e
  ·rw[hfree] at hc;cases hc
 rcases hx with hk|hk
 ·refine wpAny_storeName_local hk hn (fun h' hn' hs=>?_) hcls
  obtain ⟨oL,_,_,hoL,_⟩:=id hn
  refine h _ ⟨I.ok,I.os,I.bare,⟨fun b o e n hb hx=>?_,fun b o e n hb hx=>?_,I.base.free,fun b o e hx=>?_,I.base.tups,I.base.frzs,I.base.tbls⟩,⟨_,hn',fun j y v' e1 e2 e3=>?_⟩,fun y c e=>?_,I.free,I.freeC,fun p hp=>?_,tracked ⟨oL,hoL,I.free⟩ hs,by simpa using I.len⟩ ⟨_,hs,.inl rfl⟩
  ·exact (hs.2 b (Nat.ne_of_lt (Nat.lt_of_lt_of_le (Heap.lt_size e) I.ok.above))).trans (I.base.keep b o e n hb hx)
  ·obtain ⟨sl,e1⟩:=I.base.slot b o e n hb hx
   exact ⟨sl,(hs.2 b (Nat.ne_of_lt (Nat.lt_of_lt_of_le (Heap.lt_size e) I.ok.above))).trans e1⟩
  ·obtain ⟨o',e1⟩:=I.base.there b o e hx
   exact ⟨o',(hs.2 b (Nat.ne_of_lt (Nat.lt_of_lt_of_le (Heap.lt_size e) I.ok.above))).trans e1⟩
  ·by_cases hj:j=i
   ·subst hj
    rw[hi] at e1;cases e1
    rw[List.getElem?_set_self hiσ] at e2
    cases e2
    exact ⟨u,r,.inl ⟨hk,by simp⟩⟩
   ·rw[List.getElem?_set_ne (Ne.symm hj)] at e2
    obtain ⟨u',r',q⟩:=hl j y v' e1 e2 e3
    refine ⟨u',r',?_⟩
    rcases q with ⟨k,e⟩|⟨k,c,e,z⟩
    ·refine .inl ⟨k,?_⟩
     have:y≠x:=fun e=>hj (a1H hN e1 (e ▸ hi))
     simp[this,e]
    ·exact .inr ⟨k,c,e,z.sameBut hs (cne y c e)⟩
  ·obtain ⟨w',z⟩:=I.cell y c e
   exact ⟨w',z.sameBut hs (cne y c e)⟩
  ·obtain ⟨e,n,ne,nf,d⟩:=I.pin p hp
   exact ⟨(hs.2 p.1 ne).trans e,n,ne,nf,d⟩
 ·have hfn:X.fn x=true:=by
   rcases hf with z|z
   ·exact z
   ·rw[z] at hk;cases hk
  obtain ⟨c,hc⟩:=I.ok.has x (.inl hk)
  obtain ⟨w',z⟩:=I.cell x c hc
  refine wpAny_storeName_cell I.ok.kind hk hc z (fun h' hc' hs=>?_)
  obtain ⟨oc,hoc,hocd⟩:=id z
  refine h { s with heap:=h' } ⟨I.ok,I.os,I.bare,⟨fun b o e n hb hx=>?_,fun b o e n hb hx=>?_,I.base.free,fun b o e hx=>?_,I.base.tups,I.base.frzs,I.base.tbls⟩,⟨m,hn.sameBut hs (Ne.symm (cne x c hc)),fun j y v' e1 e2 e3=>?_⟩,fun y c' e=>?_,I.free,I.freeC,fun p hp=>?_,tracked ⟨oc,hoc,I.freeC x c hc⟩ hs,by simpa using I.len⟩ ⟨c,hs,.inr hc⟩
  ·exact (hs.2 b (Nat.ne_of_lt (Nat.lt_of_lt_of_le (Heap.lt_size e) (I.ok.cab x c hfn hc)))).trans (I.base.keep b o e n hb hx)
  ·obtain ⟨sl,e1⟩:=I.base.slot b o e n hb hx
   exact ⟨sl,(hs.2 b (Nat.ne_of_lt (Nat.lt_of_lt_of_le (Heap.lt_size e) (I.ok.cab x c hfn hc)))).trans e1⟩
  ·obtain ⟨o',e1⟩:=I.base.there b o e hx
   exact ⟨o',(hs.2 b (Nat.ne_of_lt (Nat.lt_of_lt_of_le (Heap.lt_size e) (I.ok.cab x c hfn hc)))).trans e1⟩
  ·by_cases hj:j=i
   ·subst hj
    rw[hi] at e1;cases e1
    rw[List.getElem?_set_self hiσ] at e2
    cases e2
    exact ⟨u,r,.inr ⟨.inl hk,c,hc,hc'⟩⟩
   ·rw[List.getElem?_set_ne (Ne.symm hj)] at e2
    obtain ⟨u',r',q⟩:=hl j y v' e1 e2 e3
    refine ⟨u',r',?_⟩
    rcases q with q|⟨k,c',e,z'⟩
    ·exact .inl q
    ·refine .inr ⟨k,c',e,z'.sameBut hs ?_⟩
     rintro rfl
     exact hj (a1H hN e1 (I.ok.inj _ _ _ e hc ▸ hi))
  ·by_cases hcc:c'=c
   ·subst hcc;exact ⟨_,hc'⟩
   ·obtain ⟨w2,z2⟩:=I.cell y c' e
    exact ⟨w2,z2.sameBut hs hcc⟩
  ·obtain ⟨e,n,ne,nf,d⟩:=I.pin p hp
   refine ⟨(hs.2 p.1 ?_).trans e,n,ne,nf,d⟩
   intro q
   rw[q,hoc] at e
   have q':oc=p.2:=Option.some.inj e
   exact d w' (by rw[<- q'];exact hocd)
theorem Q0 {M:Model}{A:Around}{E:Value->Shared->Prop}{i:Nat}{x:Str}{v:V}{u:Value}{Q:Unit->Shared->Prop} (I:Inv X pins σ H s) (hN:X.N.Nodup) (hi:X.N[i]?=some x) (hx:Loc X.env.scope x) (r:RelV v u)
  (h:∀s',Inv X pins (σ.set i (some v)) H s'->Q () s') (hf:X.fn x=true ∨ X.env.scope.names.lookup x=some .local:=by first|exact .inl rfl|exact .inr rfl|assumption):wpAny M A (storeName X.env x u) Q E s :=
 T7 I hN hi hx r (fun s' I' _=>h s' I') hf
theorem Inv.call' {s':Shared}{ch:List Addr} (I:Inv X pins σ H s) (ho:s'.os=s.os) (u:Un (G3 X.stack) ch H H' s.heap s'.heap) (hok:HOk X.prog X.w H' s'.heap) (hg:AllBare s'.gens)
  (hch:∀b∈ch,(b∈X.ex ∨ X.s₀.heap.objs.size<=b)/\b≠X.env.locals/\(∀x c,X.env.cells.lookup x=some c->c≠b)/\∀p∈X.pn++pins,p.1≠b):Inv X pins σ H' s':=by
 obtain ⟨h',g',d',t',o'⟩:=s'
 have e:o'=s.os:=ho
 subst e
 exact I.call (g':=g') (t':=t') (d':=d') u hok hg hch
end
noncomputable abbrev XK:=Value->Option Addr->Hp->Prop
noncomputable abbrev St:=List (Option V)
noncomputable abbrev VK:=V->Hp->Prop
noncomputable abbrev TE:=St->Hp->VK->Prop
noncomputable abbrev TT:=St->Hp->(Bool->Hp->Prop)->Prop
noncomputable abbrev TA:=St->Hp->(List V->Hp->Prop)->Prop
structure Ends where
 nx:St->Hp->Prop
 rt:VK
 bk:St->Hp->Prop:=fun _ _=>False
 ct:St->Hp->Prop:=fun _ _=>False
noncomputable abbrev TS:=Ends->St->Hp->Prop
noncomputable def EP (X:Cx) (pins:List (Addr × Obj)) (σ:St) (Q:VK) (u:Value) (s':Shared):Prop:=∃v H',Inv X pins σ H' s'/\RelV v u/\Q v H'
noncomputable def TP (X:Cx) (pins:List (Addr × Obj)) (σ:St) (Q:Bool->Hp->Prop) (b:Bool) (s':Shared):Prop:=∃H',Inv X pins σ H' s'/\Q b H'
noncomputable def AP (X:Cx) (pins:List (Addr × Obj)) (σ:St) (Q:List V->Hp->Prop) (us:List Value) (s':Shared):Prop:=∃vs H',Inv X pins σ H' s'/\Vals vs us/\Q vs H'
noncomputable def SP (X:Cx) (pins:List (Addr × Obj)) (D:Ends) (f:Flow) (s':Shared):Prop :=
 match f with
 | .next=>∃σ' H',Inv X pins σ' H' s'/\D.nx σ' H'
 | .brk=>∃σ' H',Inv X pins σ' H' s'/\D.bk σ' H'
 | .cont=>∃σ' H',Inv X pins σ' H' s'/\D.ct σ' H'
 | .ret u=>∃v σ' H',Inv X pins σ' H' s'/\RelV v u/\D.rt v H'
noncomputable def PE (X:Cx) (e:Expr) (t:TE):Prop :=
 ∀(pins:List (Addr × Obj)) (s:Shared) (σ:St) (H:Hp) (Q:VK),Inv X pins σ H s->t σ H Q->wpAny (model X.prog X.w) X.A (eval e X.env) (EP X pins σ Q) X.xe s
noncomputable def PT (X:Cx) (e:Expr) (t:TT):Prop :=
 ∀(pins:List (Addr × Obj)) (s:Shared) (σ:St) (H:Hp) (Q:Bool->Hp->Prop),Inv X pins σ H s->t σ H Q->wpAny (model X.prog X.w) X.A (isTrue e X.env (eval e X.env)) (TP X pins σ Q) X.xe s
noncomputable def PW (X:Cx) (e:Expr) (t:TT):Prop :=
 ∀(whole:Sem Value) (pins:List (Addr × Obj)) (s:Shared) (σ:St) (H:Hp) (Q:Bool->Hp->Prop),Inv X pins σ H s->t σ H Q->wpAny (model X.prog X.w) X.A (isTrue e X.env whole) (TP X pins σ Q) X.xe s
theorem PW.pt {X:Cx}{e:Expr}{t:TT} (h:PW X e t):PT X e t:=h _
noncomputable def PA (X:Cx) (es:List Expr) (t:TA):Prop :=
 ∀(pos:Pos) (pins:List (Addr × Obj)) (s:Shared) (σ:St) (H:Hp) (Q:List V->Hp->Prop),Inv X pins σ H s->t σ H Q->wpAny (model X.prog X.w) X.A (spliced (backTo pos (starEach es X.env))) (AP X pins σ Q) X.xe s
noncomputable def PS (X:Cx) (st:Stmt) (t:TS):Prop :=
 ∀(pins:List (Addr × Obj)) (s:Shared) (σ:St) (H:Hp) (D:Ends),Inv X pins σ H s->t D σ H->wpAny (model X.prog X.w) X.A (exec st X.env) (SP X pins D) X.xe s
noncomputable def PSs (X:Cx) (st:List Stmt) (t:TS):Prop :=
 ∀(pins:List (Addr × Obj)) (s:Shared) (σ:St) (H:Hp) (D:Ends),Inv X pins σ H s->t D σ H->wpAny (model X.prog X.w) X.A (execs st X.env) (SP X pins D) X.xe s
theorem f7 {α:Type}{t:Sem α}{Q Q':α->Shared->Prop}{M:Model}{A:Around}{E:Value->Shared->Prop}{s:Shared} (h:wpAny M A t Q E s) (hQ:∀a s,Q a s->Q' a s):wpAny M A t Q' E s:=wpAny_mono h hQ fun _ _ x=>x
end L2
namespace L2
open PySem PySem.Spec PyProof.Rows
section
variable {X:Cx}
noncomputable def a3O (i:Nat):TE:=fun σ H Q=>∃v,σ[i]?=some (some v)/\Q v H
noncomputable def tC (v:V):TE:=fun _ H Q=>Q v H
theorem a7P {i:Nat}{x:Str}{pos:Pos} (hN:X.N[i]?=some x) (hv:Vis X.env.scope x) (hd:(x == ("__debug__":Str))=false:=by decide) (hcd:(x == ("__classdict__":Str))=false:=by decide):PE X (.Name x pos) (a3O i):=by
 intro pins s σ H Q I h
 obtain ⟨v,e,h⟩:=h
 obtain ⟨m,hn,hl⟩:=I.loc
 obtain ⟨u,r,l⟩:=hl i x v hN e hv
 have fin:EP X pins σ Q u s:=⟨v,H,I,r,h⟩
 rcases l with ⟨hk,hm⟩|⟨hk,c,hc,hcell⟩
 ·exact wpAny_Name (wpAny_loadName_local I.ok.kind hk hn hm fin) hd
 ·rcases hk with hk|hk
  ·exact wpAny_Name (wpAny_loadName_cell I.ok.kind hk hc hcell fin) hd
  ·exact wpAny_Name (wpAny_loadName_free I.ok.kind hk hc hcell fin hcd) hd
theorem b9 {i j pos}:PE X (.Constant (.int i) j pos) (tC (.int i)):=fun _ _ _ H _ I h=>wpAny_Constant_int ⟨.int i,H,I.tok _,⟨_,rfl⟩,h⟩
theorem C9 {b j pos}:PE X (.Constant (.bool b) j pos) (tC (.bl b)):=fun _ _ _ H _ I h=>Constant_bool ⟨.bl b,H,I,rfl,h⟩
theorem a4H {j pos}:PE X (.Constant .none j pos) (tC .non):=fun _ _ _ H _ I h=>Constant_none ⟨.non,H,I,rfl,h⟩
theorem a04 {x j pos}:PE X (.Constant (.str x) j pos) (tC (.str x)):=fun _ _ _ H _ I h=>Calls.Constant_str ⟨.str x,H,I.tok _,⟨_,rfl⟩,h⟩
noncomputable def Gl (X:Cx) (x:Str):Prop:=X.env.kindOf x=some .globalImplicit
theorem a0c {E:Value->Shared->Prop}{pins:List (Addr × Obj)}{s:Shared}{σ:St}{H:Hp}{x:Str}{u:Value}{pos:Pos}{Q:Value->Shared->Prop} (I:Inv X pins σ H s) (hg:Gl X x) (hm:X.mg x=some u) (h:Q u s)
  (hd:(x == ("__debug__":Str))=false:=by decide):wpAny (model X.prog X.w) X.A (eval (.Name x pos) X.env) Q E s :=
 Calls.Name_function_global I.ok.kind hg (Calls.loadGlobal_global (by rw[I.ok.glob];exact I.mod.glob.keeps I.bk) hm h) hd
theorem J9 {E:Value->Shared->Prop}{pins:List (Addr × Obj)}{s:Shared}{σ:St}{H:Hp}{x:Str}{u:Value}{pos:Pos}{Q:Value->Shared->Prop} (I:Inv X pins σ H s) (hg:Gl X x) (hm:X.mg x=none) (hv:bootBuiltins x=some u) (h:Q u s)
  (hn:x≠"__name__":=by decide) (hd:(x == ("__debug__":Str))=false:=by decide):wpAny (model X.prog X.w) X.A (eval (.Name x pos) X.env) Q E s:=by
 obtain ⟨mb,h1,h2⟩:=I.mod.blt
 exact Calls.Name_function_global I.ok.kind hg (Calls.loadGlobal_builtin (by rw[I.ok.glob];exact I.mod.glob.keeps I.bk) hm (by rw[I.ok.blt];exact h1.keeps I.bk) ((h2 x hn).trans hv) h) hd
theorem J3 {x:Str}{v:V}{u:Value}{pos:Pos} (hg:Gl X x) (hm:X.mg x=some u) (r:RelV v u) (hd:(x == ("__debug__":Str))=false:=by decide):PE X (.Name x pos) (tC v):=
 fun _ _ _ H _ I h=>a0c I hg hm ⟨v,H,I,r,h⟩ hd
theorem a6Z {x:Str}{v:V}{u:Value}{pos:Pos} (hg:Gl X x) (hm:X.mg x=none) (hv:bootBuiltins x=some u) (r:RelV v u) (hn:x≠"__name__":=by decide) (hd:(x == ("__debug__":Str))=false:=by decide):PE X (.Name x pos) (tC v):=
 fun _ _ _ H _ I h=>J9 I hg hm hv ⟨v,H,I,r,h⟩ hn hd
variable {a b:Expr}{ta tb:TE}{pos:Pos}
noncomputable def PC (X:Cx) (op:CmpOp) (a b:Expr) (t:TE):Prop :=
 ∀(pins:List (Addr × Obj)) (s:Shared) (σ:St) (H:Hp) (Q:VK),Inv X pins σ H s->t σ H Q ->
  wpAny (model X.prog X.w) X.A (eval a X.env) (fun v s₁=>wpAny (model X.prog X.w) X.A (eval b X.env) (fun u s₂=>wpAny (model X.prog X.w) X.A (compareOp op v u) (EP X pins σ Q) X.xe s₂) X.xe s₁) X.xe s
theorem a1g (b:Expr) {op:CmpOp} (h:op≠.In) (h2:op≠.NotIn):behindInMarks op b=false:=by
 have e1:(op == CmpOp.In)=false:=by cases op <;> first|rfl|exact absurd rfl h
 have e2:(op == CmpOp.NotIn)=false:=by cases op <;> first|rfl|exact absurd rfl h2
 cases b <;> simp[behindInMarks,e1,e2]
noncomputable def a88 (ta:TE):TE:=fun σ H Q=>ta σ H fun x H1=>Q (.bl (decide (x=.non))) H1
theorem RelV.none_iff {x:V}{v:Value} (r:RelV x v):(v == Value.none)=decide (x=.non):=by
 cases x with
 | non=>cases r;rfl
 | bl _=>cases r;rfl
 | int _=>obtain ⟨t,rfl⟩:=r;rfl
 | str _=>obtain ⟨t,rfl⟩:=r;rfl
 | byt _=>obtain ⟨t,rfl⟩:=r;rfl
 | flt _=>obtain ⟨t,rfl⟩:=r;rfl
 | ref _=>cases r;rfl
 | ty _=>cases r;rfl
theorem a5b {j pos'} (ha:PE X a ta):PC X .Is a (.Constant .none j pos') (a88 ta):=by
 intro pins s σ H Q I h
 refine f7 (ha pins s σ H _ I h) fun v s1 ⟨x,H1,I1,r1,q1⟩=>?_
 exact Constant_none (is_none_gen ⟨.bl _,H1,I1,by rw[r1.none_iff];rfl,q1⟩)
noncomputable def tB (t:TE):TT:=fun σ H Q=>t σ H fun x H1=>∃c,x=.bl c/\Q c H1
theorem a7B {op:CmpOp}{t:TE} (h:PC X op a b t) (h1:behindInMarks op b=false:=by first|exact a1g _ (by decide) (by decide)|rfl):PE X (.Compare a [op] [b] pos) t:=fun pins s σ H Q I hw=>wpAny_Compare1 (h pins s σ H Q I hw) h1
theorem a7Y {op:CmpOp}{t:TE} (h:PC X op a b t) (h1:behindInMarks op b=false:=by first|exact a1g _ (by decide) (by decide)|rfl):PT X (.Compare a [op] [b] pos) (tB t):=by
 intro pins s σ H Q I hw
 refine wpAny_isTrue_Compare1 (f7 (h pins s σ H _ I hw) fun v s1 h1=>f7 h1 fun u s2 h2=>f7 h2 fun c s3 ⟨x,H1,I1,r1,q1⟩=>?_) h1
 obtain ⟨d,rfl,q⟩:=q1
 cases r1
 exact wpAny_truthy_bool ⟨H1,I1,q⟩
theorem C4 {e:Expr}{t:TE} (h:PE X e t) (he:∀whole,isTrue e X.env whole=(do let v <- whole;standAt e.pos;holding [v] (truthy v)):=by intro _;rfl):PT X e (tB t):=by
 intro pins s σ H Q I hw
 refine isTrue_plain (f7 (h pins s σ H _ I hw) fun v s1 ⟨x,H1,I1,r1,q1⟩=>?_) (he _)
 obtain ⟨d,rfl,q⟩:=q1
 cases r1
 exact wpAny_truthy_bool ⟨H1,I1,q⟩
variable {tA tB':TT}{m7:List Expr}
noncomputable def tOr (t u:TT):TT:=fun σ H Q=>t σ H fun c H1=>if c=true then Q true H1 else u σ H1 Q
noncomputable def a9n (t:TT):TT:=fun σ H Q=>t σ H fun c H1=>Q (!c) H1
theorem O9 (ha:PT X a tA):PW X (.BoolOp .Or [a] pos) tA:=by
 intro wh pins s σ H Q I h
 refine isTrue_or (f7 (ha pins s σ H Q I h) fun c s1 e=>?_)
 cases c with
 | false=>exact isTrue_or_nil e
 | true=>exact e
theorem M9 (ha:PT X a tA) (hb:PW X (.BoolOp .Or (b::m7) pos) tB'):PW X (.BoolOp .Or (a::b::m7) pos) (tOr tA tB'):=by
 intro wh pins s σ H Q I h
 refine isTrue_or (f7 (ha pins s σ H _ I h) fun c s1 ⟨H1,I1,q1⟩=>?_)
 cases c with
 | true=>exact ⟨H1,I1,q1⟩
 | false=>exact hb wh pins s1 σ H1 Q I1 q1
theorem D6 (ha:PT X a tA):PT X (.UnaryOp .Not a pos) (a9n tA):=by
 intro pins s σ H Q I h
 exact isTrue_not (ha pins s σ H (fun c H1=>Q (!c) H1) I h)
noncomputable def a8m (ta tb:TE):TE:=fun σ H Q=>ta σ H fun x H1=>∃c,x=.bl c/\if c=true then tb σ H1 Q else Q (.bl false) H1
noncomputable def a8z (ta:TE):TE:=fun σ H Q=>ta σ H fun x H1=>∃c,x=.bl c/\Q (.bl (!c)) H1
theorem P2 {op}{t:TE} (h:PE X a t):PE X (.BoolOp op [a] pos) t:=fun pins s σ H Q I hw=>BoolOp_one (h pins s σ H Q I hw)
theorem P0 (ha:PE X a ta) (hb:PE X (.BoolOp .And (b::m7) pos) tb):PE X (.BoolOp .And (a::b::m7) pos) (a8m ta tb):=by
 intro pins s σ H Q I h
 refine BoolOp_and (f7 (ha pins s σ H _ I h) fun v s1 ⟨x,H1,I1,r1,q1⟩=>?_)
 obtain ⟨c,rfl,q1⟩:=q1
 cases r1
 refine wpAny_truthy_bool ?_
 cases c with
 | true=>exact hb pins s1 σ H1 Q I1 q1
 | false=>exact ⟨.bl false,H1,I1,rfl,q1⟩
theorem a7s (ha:PE X a ta):PE X (.UnaryOp .Not a pos) (a8z ta):=by
 intro pins s σ H Q I h
 refine UnaryOp_ (f7 (ha pins s σ H _ I h) fun v s1 ⟨x,H1,I1,r1,q1⟩=>?_)
 obtain ⟨c,rfl,q1⟩:=q1
 cases r1
 exact not_of (wpAny_truthy_bool ⟨.bl (!c),H1,I1,rfl,q1⟩)
end
end L2
namespace L2
open PySem PySem.Spec PyProof.Rows
noncomputable def SqL (K:W.Frag) (H:Hp) (a:Addr) (xs:List V):Prop :=
 Rd H a (.lst xs) ∨
  ∃(o:Obj) (its:Array Value) (n:Nat),K.lookup a=some o/\o.cls=.type "list"/\o.dict=none/\o.data=.seq its n/\its.size<=sizeLine/\Vals xs its.toList
noncomputable def SqT (K:W.Frag) (H:Hp) (a:Addr) (xs:List V):Prop :=
 Rd H a (.tup xs) ∨
  ∃(o:Obj) (its:Array Value) (n:Nat),K.lookup a=some o/\o.cls=.type "tuple"/\o.data=.seq its n/\its.size<=sizeLine/\Vals xs its.toList
noncomputable def absV:Value->Option V
 | .none=>some .non
 | .bool b=>some (.bl b)
 | .int i _=>some (.int i)
 | .str x _=>some (.str x)
 | .bytes b _=>some (.byt b)
 | .float b _=>some (.flt b)
 | .ref a=>some (.ref a)
 | .type n=>some (.ty n)
 | _=>none
theorem RelV.abs {x:V}{u:Value} (r:RelV x u):absV u=some x:=by
 cases x with
 | non=>cases r;rfl
 | bl _=>cases r;rfl
 | int _=>obtain ⟨t,rfl⟩:=r;rfl
 | str _=>obtain ⟨t,rfl⟩:=r;rfl
 | byt _=>obtain ⟨t,rfl⟩:=r;rfl
 | flt _=>obtain ⟨t,rfl⟩:=r;rfl
 | ref _=>cases r;rfl
 | ty _=>cases r;rfl
theorem RelV.inj {x y:V}{u:Value} (r:RelV x u) (q:RelV y u):x=y:=Option.some.inj (r.abs.symm.trans q.abs)
theorem Vals.inj:∀{xs ys:List V}{us:List Value},Vals xs us->Vals ys us->xs=ys
 | _,_,_,.nil,.nil=>rfl
 | _,_,_,.cons r t,.cons r' t'=>by rw[r.inj r',Vals.inj t t']
section
variable {X:Cx}{pins:List (Addr × Obj)}{σ:St}{H:Hp}{s:Shared}{a:Addr}{xs ys:List V}
theorem SqL.of {K:W.Frag} (h:H a=some (.lst xs)):SqL K H a xs:=.inl (.inl h)
theorem SqT.of {K:W.Frag} (h:H a=some (.tup xs)):SqT K H a xs:=.inl (.inl h)
theorem Inv.list (I:Inv X pins σ H s) (h:SqL X.K H a xs):∃its:List Value,Vals xs its/\PlainL s.heap a its.toArray/\xs.length<=sizeLine:=by
 rcases h with h|⟨o,its,n,hk,hc,hd,hs,hz,r⟩
 ·obtain ⟨z,its,n,r,e⟩:=h.ok I.hok
  exact ⟨its,r,⟨_,n,e,rfl,rfl,rfl⟩,z⟩
 ·refine ⟨its.toList,r,⟨o,n,I.kIn a o hk,hc,hd,by simpa using hs⟩,?_⟩
  have e:=r.length
  simp only[Array.length_toList] at e
  lia
theorem Inv.tuple (I:Inv X pins σ H s) (h:SqT X.K H a xs):∃its:List Value,Vals xs its/\IsTup s.heap a its.toArray/\xs.length<=sizeLine:=by
 rcases h with h|⟨o,its,n,hk,hc,hs,hz,r⟩
 ·obtain ⟨z,its,r,p⟩:=h.ok I.hok
  exact ⟨its,r,p,z⟩
 ·refine ⟨its.toList,r,⟨o,I.kIn a o hk,hc,n,by simpa using hs⟩,?_⟩
  have e:=r.length
  simp only[Array.length_toList] at e
  lia
theorem Inv.list_inj (I:Inv X pins σ H s) (h:SqL X.K H a xs) (h':SqL X.K H a ys):xs=ys:=by
 obtain ⟨its,r,⟨o,n,e,_,_,d⟩,_⟩:=I.list h
 obtain ⟨its',r',⟨o',n',e',_,_,d'⟩,_⟩:=I.list h'
 rw[e] at e';cases e'
 rw[d] at d'
 injection d' with d1 _
 have:its=its':=by simpa using congrArg Array.toList d1
 subst this
 exact r.inj r'
theorem Inv.tuple_inj (I:Inv X pins σ H s) (h:SqT X.K H a xs) (h':SqT X.K H a ys):xs=ys:=by
 obtain ⟨its,r,⟨o,e,_,n,d⟩,_⟩:=I.tuple h
 obtain ⟨its',r',⟨o',e',_,n',d'⟩,_⟩:=I.tuple h'
 rw[e] at e';cases e'
 rw[d] at d'
 injection d' with d1 _
 have:its=its':=by simpa using congrArg Array.toList d1
 subst this
 exact r.inj r'
end
noncomputable abbrev Cx.wish (X:Cx) (E:Value->Shared->Prop):Cx:={ X with xe:=E }
noncomputable abbrev Cx.nox (X:Cx):Cx:=X.wish fun _ _=>False
theorem Cx.Ok.wish {X:Cx} (ok:X.Ok) (E:Value->Shared->Prop):(X.wish E).Ok :=
 ⟨ok.mod,ok.kind,ok.glob,ok.blt,ok.above,ok.inj,ok.has,ok.cab,ok.hd,ok.frames,ok.stk,ok.exf,ok.bs,ok.bsz,ok.noex,ok.exfs,ok.funs,ok.frf⟩
theorem Cx.Ok.unwish {X:Cx}{E:Value->Shared->Prop} (ok:(X.wish E).Ok):X.Ok :=
 ⟨ok.mod,ok.kind,ok.glob,ok.blt,ok.above,ok.inj,ok.has,ok.cab,ok.hd,ok.frames,ok.stk,ok.exf,ok.bs,ok.bsz,ok.noex,ok.exfs,ok.funs,ok.frf⟩
section
variable {X:Cx}{pins:List (Addr × Obj)}{σ:St}{H:Hp}{s:Shared}{E:Value->Shared->Prop}
theorem Inv.wish (I:Inv X pins σ H s) (E:Value->Shared->Prop):Inv (X.wish E) pins σ H s:=⟨I.ok.wish E,I.os,I.bare,I.base,I.loc,I.cell,I.free,I.freeC,I.pin,I.hok,I.len⟩
theorem Inv.unwish (I:Inv (X.wish E) pins σ H s):Inv X pins σ H s:=⟨I.ok.unwish,I.os,I.bare,I.base,I.loc,I.cell,I.free,I.freeC,I.pin,I.hok,I.len⟩
theorem SP.unwish {D:Ends}{f:Flow}{s':Shared} (h:SP (X.wish E) pins D f s'):SP X pins D f s':=by
 cases f with
 | next=>obtain ⟨σ',H',I,q⟩:=h;exact ⟨σ',H',I.unwish,q⟩
 | brk=>obtain ⟨σ',H',I,q⟩:=h;exact ⟨σ',H',I.unwish,q⟩
 | cont=>obtain ⟨σ',H',I,q⟩:=h;exact ⟨σ',H',I.unwish,q⟩
 | ret u=>obtain ⟨v,σ',H',I,r,q⟩:=h;exact ⟨v,σ',H',I.unwish,r,q⟩
theorem PSs.nox {st:List Stmt}{t:TS} (h:PSs X.nox st t):PSs X st t:=fun pins s σ H D I hw =>
 wpAny_mono (h pins s σ H D (I.wish _) hw) (fun _ _ q=>q.unwish) fun _ _ z=>False.elim z
end
section
variable {X:Cx}{st:Stmt}{m7:List Stmt}{t u:TS}{e:Expr}{te:TE}{pos:Pos}
noncomputable def tNext:TS:=fun D σ H=>D.nx σ H
noncomputable def P4 (t u:TS):TS:=fun D σ H=>t { D with nx:=u D } σ H
theorem pss_nil:PSs X [] tNext:=fun _ _ σ H _ I h=>wpAny_execs_nil ⟨σ,H,I,h⟩
theorem b8 (h1:PS X st t) (h2:PSs X m7 u):PSs X (st::m7) (P4 t u):=by
 intro pins s σ H D I h
 refine wpAny_execs_cons (f7 (h1 pins s σ H { D with nx:=u D } I h) fun f s1 q=>?_)
 cases f with
 | next =>
  obtain ⟨σ',H',I',q⟩:=q
  exact h2 pins s1 σ' H' D I' q
 | ret v=>exact q
 | brk=>exact q
 | cont=>exact q
theorem c0 (h1:PS X st t):PSs X [st] t:=by
 intro pins s σ H D I h
 refine wpAny_execs_cons (f7 (h1 pins s σ H D I h) fun f s1 q=>?_)
 cases f with
 | next=>exact wpAny_execs_nil q
 | ret v=>exact q
 | brk=>exact q
 | cont=>exact q
theorem Inv.quiet {pins:List (Addr × Obj)}{σ:St}{H:Hp}{s:Shared} (I:Inv X pins σ H s):interactive X.env=false:=by simp[interactive,I.ok.kind]
noncomputable def a8v (te:TE):TS:=fun D σ H=>te σ H fun _ H1=>D.nx σ H1
theorem A2 (he:PE X e te) (hs:swapsWith e none pos.line X.env=pure false:=by rfl):PS X (.Expr e pos) (a8v te):=by
 intro pins s σ H D I h
 exact wpAny_Expr_any (f7 (he pins s σ H _ I h) fun v s1 ⟨x,H1,I1,r1,q1⟩=>⟨σ,H1,I1,q1⟩) I.quiet hs
noncomputable def a9p (te:TE):TS:=fun D σ H=>te σ H D.rt
theorem f6 (he:PE X e te):PS X (.Return (some e) pos) (a9p te):=by
 intro pins s σ H D I h
 exact wpAny_Return_some (f7 (he pins s σ H _ I h) fun v s1 ⟨x,H1,I1,r1,q1⟩=>⟨x,σ,H1,I1,r1,q1⟩)
noncomputable def a9m (c:TT) (t u:TS):TS:=fun D σ H=>c σ H fun b H1=>if b=true then t D σ H1 else u D σ H1
theorem t8 {c:Expr}{a b:List Stmt}{tc:TT} (hc:PT X c tc) (ha:PSs X a t) (hb:PSs X b u):PS X (.If c a b pos) (a9m tc t u):=by
 intro pins s σ H D I h
 refine wpAny_If (f7 (hc pins s σ H _ I h) fun d s1 ⟨H1,I1,q1⟩=>?_)
 cases d with
 | true=>exact ha pins s1 σ H1 D I1 q1
 | false=>exact hb pins s1 σ H1 D I1 q1
end
noncomputable abbrev TG:=V->St->Hp->(St->Hp->Prop)->Prop
noncomputable abbrev TGs:=List V->St->Hp->(St->Hp->Prop)->Prop
noncomputable def PG (X:Cx) (target:Expr) (t:TG):Prop :=
 ∀(pins:List (Addr × Obj)) (s:Shared) (σ:St) (H:Hp) (v:V) (u:Value) (Q:St->Hp->Prop),Inv X pins σ H s->RelV v u->t v σ H Q ->
  wpAny (model X.prog X.w) X.A (assign target X.env u) (fun _ s'=>∃σ' H',Inv X pins σ' H' s'/\Q σ' H') X.xe s
noncomputable def PGs (X:Cx) (ts:List Expr) (t:TGs):Prop :=
 ∀(pins:List (Addr × Obj)) (s:Shared) (σ:St) (H:Hp) (vs:List V) (us:List Value) (Q:St->Hp->Prop),Inv X pins σ H s->Vals vs us->t vs σ H Q ->
  wpAny (model X.prog X.w) X.A (assignInOrder ((assignEach ts X.env).map (·.2)) us) (fun _ s'=>∃σ' H',Inv X pins σ' H' s'/\Q σ' H') X.xe s
noncomputable abbrev TSet:=V->V->V->Hp->(Hp->Prop)->Prop
noncomputable def a68 (X:Cx) (t:TSet):Prop :=
 ∀(pins:List (Addr × Obj)) (s:Shared) (σ:St) (H:Hp) (o i v:V) (ov iv u:Value) (Q:Hp->Prop),Inv X pins σ H s->RelV o ov->RelV i iv->RelV v u->t o i v H Q ->
  wpAny (model X.prog X.w) X.A (setItem ov iv u) (fun _ s'=>∃H',Inv X pins σ H' s'/\Q H') X.xe s
section
variable {X:Cx}{pos:Pos}
noncomputable def r6 (i:Nat):TG:=fun v σ H Q=>Q (σ.set i (some v)) H
theorem u5 {i:Nat}{x:Str} (hN:X.N.Nodup) (hi:X.N[i]?=some x) (hx:Loc X.env.scope x) (hf:X.fn x=true ∨ X.env.scope.names.lookup x=some .local:=by first|exact .inl rfl|exact .inr rfl|assumption):PG X (.Name x pos) (r6 i):=by
 intro pins s σ H v u Q I r h
 exact wpAny_assign_Name (Q0 I hN hi hx r (fun s' I'=>⟨_,H,I',h⟩) hf)
noncomputable def gNil:TGs:=fun vs σ H Q=>vs=[]/\Q σ H
noncomputable def X0 (t:TG) (u:TGs):TGs:=fun vs σ H Q=>∃v r,vs=v::r/\t v σ H fun σ' H'=>u r σ' H' Q
theorem pgs_nil:PGs X [] gNil:=by
 intro pins s σ H vs us Q I r h
 obtain ⟨e,h⟩:=h
 subst e
 cases r
 exact assignInOrder_nil ⟨σ,H,I,h⟩
theorem A5 {e:Expr}{es:List Expr}{t:TG}{u:TGs} (h1:PG X e t) (h2:PGs X es u)
  (hs:(assignEach (e::es) X.env).map (·.2)=assign e X.env::(assignEach es X.env).map (·.2):=by rfl):PGs X (e::es) (X0 t u):=by
 intro pins s σ H vs us Q I r h
 obtain ⟨v,vr,e1,h⟩:=h
 subst e1
 cases r with
 | cons r rr =>
  rw[hs]
  refine assignInOrder_cons (f7 (h1 pins s σ H _ _ _ I r h) fun _ s1 ⟨σ1,H1,I1,q1⟩=>?_)
  exact h2 pins s1 σ1 H1 _ _ Q I1 rr q1
noncomputable def a3L (K:W.Frag) (n:Nat) (t:TGs):TG:=fun v σ H Q=>∃a xs,v=.ref a/\SqT K H a xs/\xs.length=n/\t xs σ H Q
theorem a2e {es:List Expr}{k:Nat}{t:TGs}{n:Nat} (hc:X.calm=true) (h:PGs X es t)
  (hn:(assignEach es X.env).length=n:=by rfl) (hst:(assignEach es X.env).findIdx? (·.1)=none:=by rfl):PG X (.Tuple es k pos) (a3L X.K n t):=by
 intro pins s σ H v u Q I r hw
 obtain ⟨a,xs,e1,hq,hl,hw⟩:=hw
 subst e1
 cases r
 obtain ⟨its,rv,ht,hz⟩:=I.tuple hq
 refine assign_Tuple_tuple (I.ok.hd hc) ht (by simp[hn,<- hl,rv.length]) hst fun h' hx=>?_
 have I1:Inv X pins σ H { s with heap:=h' }:=I.kept (t':=s.toks) fun b o e=>hx b o (Nat.ne_of_lt (Heap.lt_size e)) e
 exact h pins _ σ H xs _ Q I1 (by simpa using rv) hw
noncomputable def a9j (to ti:TE) (t:TSet):TG:=fun v σ H Q=>to σ H fun o H1=>ti σ H1 fun i H2=>t o i v H2 fun H3=>Q σ H3
theorem X1 {o i:Expr}{to ti:TE}{t:TSet} (ho:PE X o to) (hi:PE X i ti) (hs:a68 X t)
  (ha:∀v,assign (.Subscript o i pos) X.env v=(do
   let ov <- holding [v] (eval o X.env)
   let iv <- holding [v,ov] (eval i X.env)
   standAt pos
   holding [v,ov,iv] (setItem ov iv v)
   release [v,ov,iv] []):=by intro _;rfl):PG X (.Subscript o i pos) (a9j to ti t):=by
 intro pins s σ H v u Q I r h
 rw[ha]
 refine wpAny_bind (wpAny_holding (f7 (ho pins s σ H _ I h) fun ov s1 ⟨x,H1,I1,r1,q1⟩=>?_))
 refine wpAny_bind (wpAny_holding (f7 (hi pins s1 σ H1 _ I1 q1) fun iv s2 ⟨y,H2,I2,r2,q2⟩=>?_))
 refine wpAny_bind (wpAny_standAt (wpAny_bind (wpAny_holding (f7 (hs pins s2 σ H2 x y v ov iv u _ I2 r1 r2 r q2) fun _ s3 ⟨H3,I3,q3⟩=>?_))))
 exact wpAny_release ⟨σ,H3,I3,q3⟩
noncomputable def a7S (te:TE) (g:TG):TS:=fun D σ H=>te σ H fun x H1=>g x σ H1 D.nx
theorem S9 {tg e:Expr}{te:TE}{g:TG} (he:PE X e te) (hg:PG X tg g) (hs:swapsWithSole [tg] e pos.line X.env=pure false:=by rfl) (hw:swappedStores [tg] e X.env=pure none:=by rfl)
  (h1:(assignEach [tg] X.env).map (·.2)=[assign tg X.env]:=by rfl):PS X (.Assign [tg] e pos) (a7S te g):=by
 intro pins s σ H D I h
 refine wpAny_Assign_stores (f7 (he pins s σ H _ I h) fun v s1 ⟨x,H1,I1,r1,q1⟩=>?_) hs hw
 rw[h1]
 exact f7 (hg pins s1 σ H1 x v _ I1 r1 q1) fun _ s2 q=>q
theorem f9 {i:Nat}{x:Str}{e:Expr}{te:TE}{pos':Pos} (hN:X.N.Nodup) (hi:X.N[i]?=some x) (hx:Loc X.env.scope x) (he:PE X e te) (hs:swapsWith e (some (.Name x pos')) pos.line X.env=pure false:=by rfl) (hf:X.fn x=true ∨ X.env.scope.names.lookup x=some .local:=by first|exact .inl rfl|exact .inr rfl|assumption):
  PS X (.Assign [.Name x pos'] e pos) (a7S te (r6 i)):=by
 intro pins s σ H D I h
 refine wpAny_Assign_Name (f7 (he pins s σ H _ I h) fun v s1 ⟨y,H1,I1,r1,q1⟩=>?_) hs
 exact Q0 I1 hN hi hx r1 (fun s2 I2=>⟨_,H1,I2,q1⟩) hf
noncomputable def a89 (i j:Nat) (ta:TA):TS:=fun D σ H=>ta σ H fun vs H1=>∃v w,vs=[v,w]/\D.nx ((σ.set i (some v)).set j (some w)) H1
theorem Y9 {i j:Nat}{x y:Str}{a b:Expr}{ta:TA}{px py pt:Pos}{kt k2 pt2} (hc:X.calm=true) (hN:X.N.Nodup) (hi:X.N[i]?=some x) (hj:X.N[j]?=some y) (hij:i≠j)
  (hx:X.env.scope.names.lookup x=some .local) (hy:X.env.scope.names.lookup y=some .local) (ha:PA X [a,b] ta)
  (hw:swappedStores [.Tuple [.Name x px,.Name y py] kt pt] (.Tuple [a,b] k2 pt2) X.env=pure (some [x,y]))
  (hs:swapsWithSole [.Tuple [.Name x px,.Name y py] kt pt] (.Tuple [a,b] k2 pt2) pos.line X.env=pure false:=by rfl):
  PS X (.Assign [.Tuple [.Name x px,.Name y py] kt pt] (.Tuple [a,b] k2 pt2) pos) (a89 i j ta):=by
 intro pins s σ H D I h
 rw[exec_Assign_arm]
 refine wpAny_bind (wpAny_standAt ?_)
 rw[hs]
 refine wpAny_bind (wpAny_pure ?_)
 rw[if_neg (by decide)]
 refine wpAny_bind (Tuple_ (f7 (ha _ pins s σ H _ I h) fun us s1 ⟨vs,H1,I1,r1,q1⟩=>?_))
 obtain ⟨v,w,e1,q1⟩:=q1
 subst e1
 obtain ⟨u1,u2,rfl,rv,rw'⟩:∃u1 u2,us=[u1,u2]/\RelV v u1/\RelV w u2:=by
  cases r1 with
  | cons p q =>
   cases q with
   | cons p' q' =>
    cases q'
    exact ⟨_,_,rfl,p,p'⟩
 refine wpAny_newObj_type ?_ (by show 2<=sizeLine;decide)
 have I2:Inv X pins σ H1 { s1 with heap:=s1.heap.push { cls:=.type "tuple",data:=.seq [u1,u2].toArray } }:=I1.kept (t':=s1.toks) fun b o e=>Heap.get?_push_of_some _ e
 rw[hw]
 refine wpAny_bind (wpAny_pure ?_)
 show wpAny (model X.prog X.w) X.A (do rule "assign.swapped-stores";let items <- unpackItems (.ref s1.heap.objs.size) 2 none;assignInOrder [fun v=>bindName X.env y v,fun v=>bindName X.env x v] items.reverse;pure Flow.next) _ _ _
 refine wpAny_bind (wpAny_rule (wpAny_bind (unpackItems_tuple (items:=#[u1,u2]) (I.ok.hd hc) (IsTup.new s1.heap _) fun h' hx'=>?_)))
 have I3:=I2.kept (h':=h') (t':=s1.toks) fun b o e=>hx' b o (Nat.ne_of_lt (Heap.lt_size e)) e
 show wpAny _ _ (assignInOrder [fun v=>bindName X.env y v,fun v=>bindName X.env x v] [u2,u1] >>= fun _=>pure Flow.next) _ _ _
 refine wpAny_bind (assignInOrder_cons (wpAny_bindName (Q0 I3 hN hj (.inl hy) rw' (fun s2 I4=>?_) (.inr hy))))
 refine assignInOrder_cons (wpAny_bindName (Q0 I4 hN hi (.inl hx) rv (fun s3 I5=>assignInOrder_nil (wpAny_pure ?_)) (.inr hx)))
 rw[List.set_comm _ _ (Ne.symm hij)] at I5
 exact ⟨_,H1,I5,q1⟩
end
section
variable {X:Cx}{pos:Pos}
noncomputable def a79 (c:TT) (tb:TS):TS:=fun D σ H=>∃W:Nat->St->Hp->Prop,(∃m,W m σ H)/\∀m σ H,W m σ H ->
 c σ H fun b H1=>if b=true then ∃N:St->Hp->Prop,(∀σ' H',N σ' H'->∃m',m'<m/\W m' σ' H')/\tb { D with nx:=N,ct:=N,bk:=D.nx } σ H1 else D.nx σ H1
theorem a1P {c:Expr}{body:List Stmt}{tc:TT}{tb:TS} (hp:PassesOwn (model X.prog X.w) X.A X.env X.xe) (hc:PT X c tc) (hb:PSs X body tb):PS X (.While c body [] pos) (a79 tc tb):=by
 intro pins s σ H D I h
 obtain ⟨W,⟨m0,w0⟩,turn⟩:=h
 refine wpAny_While (codeAny_whileLoop (fun n s'=>∃σ' H',Inv X pins σ' H' s'/\W n σ' H') ?_ m0 ⟨σ,H,I,w0⟩)
 rintro n s1 ⟨σ1,H1,I1,w1⟩
 refine wpAny_passesOwn hp (f7 (hc pins s1 σ1 H1 _ I1 (turn n σ1 H1 w1)) fun b s2 ⟨H2,I2,q2⟩=>?_)
 cases b with
 | true =>
  obtain ⟨N,hN,q2⟩:=q2
  rw[if_pos rfl]
  refine wpAny_passesOwn hp (f7 (hb pins s2 σ1 H2 _ I2 q2) fun f s3 q3=>?_)
  cases f with
  | next =>
   obtain ⟨σ3,H3,I3,n3⟩:=q3
   obtain ⟨m',hm,w3⟩:=hN σ3 H3 n3
   exact ⟨m',hm,σ3,H3,I3,w3⟩
  | cont =>
   obtain ⟨σ3,H3,I3,n3⟩:=q3
   obtain ⟨m',hm,w3⟩:=hN σ3 H3 n3
   exact ⟨m',hm,σ3,H3,I3,w3⟩
  | brk=>exact q3
  | ret v=>exact q3
 | false =>
  rw[if_neg Bool.false_ne_true]
  exact wpAny_execs_nil ⟨σ1,H2,I2,q2⟩
end
structure It where
 go:Nat->Hp->Prop
 yld:Nat->Hp->V->Hp->Prop
 stop:Nat->Hp->Prop
noncomputable def C6 (X:Cx) (pins:List (Addr × Obj)) (H:Hp) (b:Addr):Prop :=
 H b=none/\b≠X.env.locals/\b ∉ X.fs/\(b∈X.ex ∨ X.s₀.heap.objs.size<=b)/\(∀x c,X.env.cells.lookup x=some c->c≠b)/\∀p∈X.pn++pins,p.1≠b
theorem Inv.fpOk {X:Cx}{pins:List (Addr × Obj)}{σ:St}{H H':Hp}{s:Shared}{b:Addr} (I:Inv X pins σ H s) (hb:s.heap.objs.size<=b) (hn:H' b=none):C6 X pins H' b:=by
 refine ⟨hn,Nat.ne_of_gt (Nat.lt_of_lt_of_le I.lt hb),I.nofs hb,.inr (Nat.le_trans I.sz hb),fun x c e z=>?_,fun p hp z=>?_⟩
 ·obtain ⟨v,q⟩:=I.cell x c e
  exact absurd (Nat.lt_of_lt_of_le q.lt (by rw[z];exact hb)) (Nat.lt_irrefl _)
 ·exact absurd (Nat.lt_of_lt_of_le (Heap.lt_size (I.pin p hp).1) (by rw[z];exact hb)) (Nat.lt_irrefl _)
structure Turn (P:Program) (w:World) (K:W.Frag) (tg:Expr) (J:It) (fp:List Addr) (it:Addr) (tn:Nat->Heap->Prop):Prop where
 mem:it∈fp
 obj:∀i h,tn i h->∀b∈fp,∃o,h.get? b=some o/\∀v,o.data≠.cell v
 keep:∀i h h',tn i h->(∀b∈fp,∀o,h.get? b=some o->h'.get? b=some o)->tn i h'
 item:∀(X:Cx),X.prog=P->X.w=w->X.K=K->X.calm=true->∀(i:Nat) (pins:List (Addr × Obj)) (s:Shared) (σ:St) (H:Hp) (E:Value->Shared->Prop),Inv X pins σ H s->(∀b∈fp,C6 X pins H b)->tn i s.heap->J.go i H ->
  wpAny (model P w) X.A (pyNext (.ref it)) (fun r s1=>∃u,r=some u /\
   wpAny (model P w) X.A (letOwnedTupleGo tg (.ref it) u) (fun _ s2=>∃x H',Inv X pins σ H' s2/\RelV x u/\J.yld i H x H'/\tn (i+1) s2.heap/\∀b∈fp,H' b=none) E s1) E s
 done:∀(X:Cx),X.prog=P->X.w=w->X.K=K->X.calm=true->∀(i:Nat) (pins:List (Addr × Obj)) (s:Shared) (σ:St) (H:Hp) (E:Value->Shared->Prop),Inv X pins σ H s->(∀b∈fp,C6 X pins H b)->tn i s.heap->J.stop i H ->
  wpAny (model P w) X.A (pyNext (.ref it)) (fun r s1=>r=none/\Inv X pins σ H s1) E s
 self:∀(A:Around) (i:Nat) (s:Shared) (Q:Value->Shared->Prop) (E:Value->Shared->Prop),tn i s.heap->Q (.ref it) s->wpAny (model P w) A (pyIter (.ref it)) Q E s
noncomputable abbrev TI:=St->Hp->(It->Hp->Prop)->Prop
noncomputable def PIE (X:Cx) (pins:List (Addr × Obj)) (σ:St) (tg:Expr) (R:It->Hp->Prop) (itv:Value) (s2:Shared):Prop :=
 ∃(it:Addr) (fp:List Addr) (tn:Nat->Heap->Prop) (J:It) (H':Hp),itv=.ref it/\Inv X pins σ H' s2/\Turn X.prog X.w X.K tg J fp it tn/\tn 0 s2.heap/\(∀b∈fp,C6 X pins H' b)/\R J H'
noncomputable def PI (X:Cx) (tg iter:Expr) (wi:TI):Prop :=
 ∀(pins:List (Addr × Obj)) (s:Shared) (σ:St) (H:Hp) (R:It->Hp->Prop),Inv X pins σ H s->wi σ H R ->
  wpAny (model X.prog X.w) X.A (eval iter X.env) (fun v s1=>wpAny (model X.prog X.w) X.A (pyIter v) (PIE X pins σ tg R) X.xe s1) X.xe s
theorem a3P {M:Model}{A:Around}{E:Value->Shared->Prop}{s:Shared}{tg:Expr}{it:Addr}{u:Value}{o:Obj}{n:String}{vs:Array Value}{Q:Unit->Shared->Prop} (ho:s.heap.get? it=some o) (hc:o.cls=.type n) (hd:o.data=.fields vs)
  (hn:["enumerate","zip","dict_itemiterator","dict_reverseitemiterator","odict_iterator","itertools.zip_longest","itertools.pairwise"].contains n=false) (hQ:Q () s):wpAny M A (letOwnedTupleGo tg (.ref it) u) Q E s:=by
 unfold letOwnedTupleGo
 cases tg <;> first
  | exact wpAny_pure hQ
  | (cases u <;> first
    | exact wpAny_pure hQ
    | (refine wpAny_bind (wpAny_load ho ?_)
       rw[hc,hd]
       show wpAny M A (if (["enumerate","zip","dict_itemiterator","dict_reverseitemiterator","odict_iterator","itertools.zip_longest","itertools.pairwise"].contains n&&vs[0]? == some (rawInt _))=true then _ else _) Q E s
       rw[if_neg (by intro h;rw[hn,Bool.false_and] at h;cases h)]
       exact wpAny_pure hQ))
noncomputable def Itl (K:W.Frag) (a:Addr):It :=
 ⟨fun i H=>∃xs x,SqL K H a xs/\xs[i]?=some x,fun i H x H'=>H'=H/\∀xs,SqL K H a xs->xs[i]?=some x,fun i H=>∃xs,SqL K H a xs/\xs.length<=i⟩
noncomputable def Itt (K:W.Frag) (a:Addr):It :=
 ⟨fun i H=>∃xs x,SqT K H a xs/\xs[i]?=some x,fun i H x H'=>H'=H/\∀xs,SqT K H a xs->xs[i]?=some x,fun i H=>∃xs,SqT K H a xs/\xs.length<=i⟩
noncomputable def X4 (lo:Int) (n:Nat):It:=⟨fun i _=>i<n,fun i H x H'=>H'=H/\x=.int (lo+i),fun i _=>n<=i⟩
theorem a4X {P:Program}{w:World}{K:W.Frag}{tg:Expr} (a it:Addr):Turn P w K tg (Itl K a) [it] it (fun i h=>h.IsListIter it a i) where
 mem:=by simp
 obj:=fun i h st b hb=>by
  have e:b=it:=by simpa using hb
  subst e
  obtain ⟨o,e,c,d⟩:=st
  exact ⟨o,e,fun v z=>by rw[d] at z;cases z⟩
 keep:=fun i h h' st k=>st.at fun o e=>k it (by simp) o e
 item:=by
  intro X hP hw hK hc i pins s σ H E I hf st hg
  subst hP hw hK
  obtain ⟨xs,x,hq,hx⟩:=hg
  obtain ⟨its,rv,p,hz⟩:=I.list hq
  obtain ⟨u,hu,ru⟩:=rv.get hx
  obtain ⟨f0,f1,f2,f3,f4,f5⟩:=hf it (by simp)
  refine wpAny_pyNext_list_item st p.isList (x:=u) (by simpa using hu) fun h' st' sb=>?_
  have I1:Inv X pins σ H { s with heap:=h' }:=I.turned (t':=s.toks) (fun b o hb e=>(sb.2 b hb).trans e) f0 f1 f3 f4 f5
  obtain ⟨o,e,c,d⟩:=id st'
  exact ⟨u,rfl,a3P (s:={ s with heap:=h' }) e c d (by decide) ⟨x,H,I1,ru,⟨rfl,fun ys hy=>by rw[I.list_inj hy hq];exact hx⟩,st',fun b hb=>(hf b hb).1⟩⟩
 done:=by
  intro X hP hw hK hc i pins s σ H E I hf st hg
  subst hP hw hK
  obtain ⟨xs,hq,hx⟩:=hg
  obtain ⟨its,rv,p,hz⟩:=I.list hq
  obtain ⟨f0,f1,f2,f3,f4,f5⟩:=hf it (by simp)
  have hl:=rv.length
  exact wpAny_pyNext_list_end (I.ok.hd hc) st p.isList (by simp;lia) fun h' eb=>⟨rfl,I.turned (t':=s.toks) (fun b o hb e=>eb b o hb e) f0 f1 f3 f4 f5⟩
 self:=fun _ _ _ _ _ st h=>wpAny_pyIter_listiter st h
theorem a3k {P:Program}{w:World}{K:W.Frag}{tg:Expr} (a it:Addr):Turn P w K tg (Itt K a) [it] it (fun i h=>h.IsTupleIter it a i) where
 mem:=by simp
 obj:=fun i h st b hb=>by
  have e:b=it:=by simpa using hb
  subst e
  obtain ⟨o,e,c,d⟩:=st
  exact ⟨o,e,fun v z=>by rw[d] at z;cases z⟩
 keep:=fun i h h' st k=>st.at fun o e=>k it (by simp) o e
 item:=by
  intro X hP hw hK hc i pins s σ H E I hf st hg
  subst hP hw hK
  obtain ⟨xs,x,hq,hx⟩:=hg
  obtain ⟨its,rv,p,hz⟩:=I.tuple hq
  obtain ⟨u,hu,ru⟩:=rv.get hx
  obtain ⟨f0,f1,f2,f3,f4,f5⟩:=hf it (by simp)
  refine wpAny_pyNext_tuple_item st (show s.heap.IsTuple a its.toArray from p) (x:=u) (by simpa using hu) fun h' st' sb=>?_
  have I1:Inv X pins σ H { s with heap:=h' }:=I.turned (t':=s.toks) (fun b o hb e=>(sb.2 b hb).trans e) f0 f1 f3 f4 f5
  obtain ⟨o,e,c,d⟩:=id st'
  exact ⟨u,rfl,a3P (s:={ s with heap:=h' }) e c d (by decide) ⟨x,H,I1,ru,⟨rfl,fun ys hy=>by rw[I.tuple_inj hy hq];exact hx⟩,st',fun b hb=>(hf b hb).1⟩⟩
 done:=by
  intro X hP hw hK hc i pins s σ H E I hf st hg
  subst hP hw hK
  obtain ⟨xs,hq,hx⟩:=hg
  obtain ⟨its,rv,p,hz⟩:=I.tuple hq
  obtain ⟨f0,f1,f2,f3,f4,f5⟩:=hf it (by simp)
  have hl:=rv.length
  exact wpAny_pyNext_tuple_end (I.ok.hd hc) st (show s.heap.IsTuple a its.toArray from p) (by simp;lia) fun h' eb=>⟨rfl,I.turned (t':=s.toks) (fun b o hb e=>eb b o hb e) f0 f1 f3 f4 f5⟩
 self:=fun _ _ _ _ _ st h=>wpAny_pyIter_tupleiter st h
theorem a3R {P:Program}{w:World}{K:W.Frag}{tg:Expr} (it:Addr) (lo:Int) (n:Nat):Turn P w K tg (X4 lo n) [it] it (fun i h=>IsRangeIter h it (lo+(i:Nat)*1) ((n:Int) - (i:Nat)) 1) where
 mem:=by simp
 obj:=fun i h st b hb=>by
  have e:b=it:=by simpa using hb
  subst e
  exact ⟨_,st,fun v z=>by
   have z':Data.fields _=Data.cell v:=z
   cases z'⟩
 keep:=fun i h h' st k=>k it (by simp) _ st
 item:=by
  intro X hP hw hK hc i pins s σ H E I hf st hg
  subst hP hw hK
  obtain ⟨f0,f1,f2,f3,f4,f5⟩:=hf it (by simp)
  have W:=Walks.range (prog:=X.prog) (w:=X.w) (I.ok.hd hc) it lo 1 n
  refine W.item i s _ _ hg st fun v h' tk hv st' kk=>?_
  obtain ⟨t,rfl⟩:=hv
  have I1:Inv X pins σ H { s with heap:=h',toks:=tk }:=I.turned (fun b o hb e=>kk b o (by simpa using hb) e) f0 f1 f3 f4 f5
  refine ⟨_,rfl,a3P (s:={ s with heap:=h',toks:=tk }) (n:="range_iterator") st' rfl rfl (by decide) ⟨.int (lo+i),H,I1,⟨t,?_⟩,⟨rfl,rfl⟩,st',fun b hb=>(hf b hb).1⟩⟩
  rw[Int.mul_one]
 done:=by
  intro X hP hw hK hc i pins s σ H E I hf st hg
  subst hP hw hK
  obtain ⟨f0,f1,f2,f3,f4,f5⟩:=hf it (by simp)
  exact wpAny_pyNext_range_end (I.ok.hd hc) st (by have:n<=i:=hg;lia) fun h' eb=>⟨rfl,I.turned (t':=s.toks) (fun b o hb e=>eb b o hb e) f0 f1 f3 f4 f5⟩
 self:=fun _ _ _ _ _ st h=>wpAny_pyIter_rangeiter st h
end L2
namespace L2
open PySem PySem.Spec PyProof.Rows
section
variable {X:Cx}{tg:Expr}
noncomputable def a8E (K:W.Frag) (tl:TE):TI:=fun σ H R=>tl σ H fun x H1=>∃a,x=.ref a/\(∃xs,SqL K H1 a xs)/\R (Itl K a) H1
noncomputable def a83 (K:W.Frag) (tl:TE):TI:=fun σ H R=>tl σ H fun x H1=>∃a,x=.ref a/\(∃xs,SqT K H1 a xs)/\R (Itt K a) H1
theorem G7 {l:Expr}{tl:TE} (hl:PE X l tl):PI X tg l (a8E X.K tl):=by
 intro pins s σ H R I h
 refine f7 (hl pins s σ H _ I h) fun v s1 ⟨x,H1,I1,r1,q1⟩=>?_
 obtain ⟨a,e,⟨xs,hq⟩,q⟩:=q1
 subst e
 cases r1
 obtain ⟨its,rv,p,hz⟩:=I1.list hq
 refine wpAny_pyIter_list p.isList ?_
 refine ⟨s1.heap.objs.size,[s1.heap.objs.size],_,_,H1,rfl,I1.kept (t':=s1.toks) fun b o e=>Heap.get?_push_of_some _ e,a4X a _,⟨_,Heap.get?_push_size _ rfl,rfl,rfl⟩,fun b hb=>?_,q⟩
 have e:b=s1.heap.objs.size:=by simpa using hb
 subst e
 exact I1.fpOk (Nat.le_refl _) (I1.hok.fresh (Nat.le_refl _))
theorem R4 {l:Expr}{tl:TE} (hl:PE X l tl):PI X tg l (a83 X.K tl):=by
 intro pins s σ H R I h
 refine f7 (hl pins s σ H _ I h) fun v s1 ⟨x,H1,I1,r1,q1⟩=>?_
 obtain ⟨a,e,⟨xs,hq⟩,q⟩:=q1
 subst e
 cases r1
 obtain ⟨its,rv,p,hz⟩:=I1.tuple hq
 refine wpAny_pyIter_tuple (show s1.heap.IsTuple a its.toArray from p) ?_
 refine ⟨s1.heap.objs.size,[s1.heap.objs.size],_,_,H1,rfl,I1.kept (t':=s1.toks) fun b o e=>Heap.get?_push_of_some _ e,a3k a _,⟨_,Heap.get?_push_size _ rfl,rfl,rfl⟩,fun b hb=>?_,q⟩
 have e:b=s1.heap.objs.size:=by simpa using hb
 subst e
 exact I1.fpOk (Nat.le_refl _) (I1.hok.fresh (Nat.le_refl _))
theorem a56 {pins:List (Addr × Obj)}{σ:St}{H:Hp}{s:Shared}{R:It->Hp->Prop}{E:Value->Shared->Prop}{lo hi:Int}{t u v:Tok}{tk:Nat} (I:Inv X pins σ H s) (h1:-(2 ^ 62)<=lo) (h2:lo<2 ^ 62) (h3:-(2 ^ 62)<=hi) (h4:hi<2 ^ 62)
  (q:R (X4 lo (hi - lo).toNat) H):wpAny (model X.prog X.w) X.A (pyIter (.ref s.heap.objs.size)) (PIE X pins σ tg R) E { s with heap:=s.heap.push { cls:=.type "range",data:=.fields #[.int lo t,.int hi u,.int 1 v] },toks:=tk }:=by
 refine wpAny_pyIter_range (IsRange.new ..) (small_one h1 h2 h3 h4) ?_
 have I1:Inv X pins σ H { s with heap:=s.heap.push { cls:=.type "range",data:=.fields #[.int lo t,.int hi u,.int 1 v] },toks:=tk }:=I.kept fun b o e=>Heap.get?_push_of_some _ e
 refine ⟨(s.heap.push { cls:=.type "range",data:=.fields #[.int lo t,.int hi u,.int 1 v] }).objs.size,[(s.heap.push { cls:=.type "range",data:=.fields #[.int lo t,.int hi u,.int 1 v] }).objs.size],_,_,H,rfl,
  I1.kept (t':=tk) fun b o e=>Heap.get?_push_of_some _ e,a3R _ lo (hi - lo).toNat,?_,fun b hb=>?_,q⟩
 ·have e1:lo+((0:Nat):Int)*1=lo:=by simp
  have e2:(((hi - lo).toNat:Nat):Int) - ((0:Nat):Int)=Builtin.Range.rangeSize lo hi 1:=by rw[rangeSize_one];split <;> lia
  show IsRangeIter _ _ (lo+((0:Nat):Int)*1) ((((hi - lo).toNat:Nat):Int) - ((0:Nat):Int)) 1
  rw[e1,e2]
  exact Heap.get?_push_size _ rfl
 ·have e:b=(s.heap.push { cls:=.type "range",data:=.fields #[.int lo t,.int hi u,.int 1 v] }).objs.size:=by simpa using hb
  subst e
  exact I1.fpOk (Nat.le_refl _) (I1.hok.fresh (Nat.le_refl _))
noncomputable def a8o (ta:TA):TI:=fun σ H R=>ta σ H fun vs H1=>∃j:Int,vs=[.int j]/\-(2 ^ 62)<=j/\j<2 ^ 62/\R (X4 0 j.toNat) H1
theorem i9 {a:Expr}{ta:TA}{p pos:Pos} (hg:Gl X "range") (hm:X.mg "range"=none) (ha:PA X [a] ta) (hs:starEach [a] X.env=[(false,eval a X.env)]:=by rfl):PI X tg (.Call (.Name "range" p) [a] [] pos) (a8o ta):=by
 intro pins s σ H R I h
 refine Call_ (J9 I hg hm boot_range (PyProof.Rows.callWith_type1 (f7 (ha pos pins s σ H _ I h) fun us s1 ⟨vs,H1,I1,r1,q1⟩=>?_) hs rfl))
 obtain ⟨j,e,q1,q2,q⟩:=q1
 subst e
 cases r1 with
 | cons r rr =>
  cases rr
  obtain ⟨t,rfl⟩:=r
  exact call_range_1 (a56 I1 (by lia) (by lia) q1 q2 (by simpa using q))
noncomputable def a9q (wi:TI) (g:TG) (tb:TS):TS:=fun D σ H=>wi σ H fun J H1=>∃W:Nat->Nat->St->Hp->Prop,(∃m,W 0 m σ H1)/\∀i m σ H,W i m σ H ->
 (J.stop i H/\D.nx σ H) ∨ (J.go i H/\∃N:St->Hp->Prop,(∀σ' H',N σ' H'->∃m',m'<m/\W (i+1) m' σ' H')/\∀x H',J.yld i H x H'->g x σ H' fun σ2 H2=>tb { D with nx:=N,ct:=N,bk:=D.nx } σ2 H2)
noncomputable def K1 (fp:List Addr) (h:Heap):List (Addr × Obj):=fp.filterMap fun b=>(h.get? b).map fun o=>(b,o)
theorem u4 {fp:List Addr}{h:Heap}{b:Addr}{o:Obj} (hb:b∈fp) (e:h.get? b=some o):(b,o)∈K1 fp h:=List.mem_filterMap.mpr ⟨b,hb,by rw[e];rfl⟩
theorem a4K {fp:List Addr}{h:Heap}{p:Addr × Obj} (hp:p∈K1 fp h):p.1∈fp/\h.get? p.1=some p.2:=by
 obtain ⟨b,hb,e⟩:=List.mem_filterMap.mp hp
 cases q:h.get? b with
 | none=>rw[q] at e;cases e
 | some o =>
  rw[q] at e
  have e':(b,o)=p:=Option.some.inj e
  subst e'
  exact ⟨hb,q⟩
theorem Inv.pinned {pins:List (Addr × Obj)}{σ:St}{H:Hp}{s:Shared}{fp:List Addr} (I:Inv X pins σ H s) (hf:∀b∈fp,C6 X pins H b) (ho:∀b∈fp,∃o,s.heap.get? b=some o/\∀v,o.data≠.cell v):Inv X (pins++K1 fp s.heap) σ H s :=
 I.pins_of fun p hp=>(List.mem_append.mp hp).elim (fun z=>I.pin p (List.mem_append_right _ z)) fun z=>by
  obtain ⟨hb,e⟩:=a4K z
  obtain ⟨f0,f1,f2,_⟩:=hf p.1 hb
  obtain ⟨o,e',d⟩:=ho p.1 hb
  rw[e] at e';cases e'
  exact ⟨e,f0,f1,f2,d⟩
theorem Inv.unpinned {pins pl:List (Addr × Obj)}{σ:St}{H:Hp}{s:Shared} (I:Inv X (pins++pl) σ H s):Inv X pins σ H s:=I.pins_of fun p hp=>I.pin p (List.mem_append_right _ (List.mem_append_left _ hp))
theorem B1 {iter:Expr}{body:List Stmt}{wi:TI}{g:TG}{tb:TS}{pos:Pos} (hp:PassesOwn (model X.prog X.w) X.A X.env X.xe) (hc:X.calm=true) (hi:PI X tg iter wi) (hg:PG X tg g) (hb:PSs X body tb)
  (hs:∀x,foldedSetIterable iter X.env x=pure x:=by intro _;rfl):PS X (.For tg iter body [] pos) (a9q wi g tb):=by
 intro pins s σ H D I h
 refine wpAny_For (f7 (hi pins s σ H _ I h) fun v s1 h1=>f7 h1 fun itv s2 h2=>?_) hs
 obtain ⟨it,fp,tn,J,H2,e,I2,T,st2,f2,W,⟨m0,w0⟩,turn⟩:=h2
 subst e
 have stat:∀{H':Hp},(∀b∈fp,H' b=none)->∀b∈fp,C6 X pins H' b:=fun hn b hb=>⟨hn b hb,(f2 b hb).2⟩
 refine codeAny_forLoop_any (fun n s'=>∃i σ' H',Inv X pins σ' H' s'/\tn i s'.heap/\(∀b∈fp,H' b=none)/\W i n σ' H') ?_ m0 ⟨0,σ,H2,I2,st2,fun b hb=>(f2 b hb).1,w0⟩
 rintro n s3 ⟨i,σ3,H3,I3,st3,fr3,w3⟩
 rcases turn i n σ3 H3 w3 with ⟨stop,qn⟩|⟨go,N,hN,step⟩
 ·refine wpAny_passesOwn hp (f7 (T.done X rfl rfl rfl hc i pins s3 σ3 H3 X.xe I3 (stat fr3) st3 stop) fun r s4 ⟨hr,I4⟩=>?_)
  subst hr
  exact wpAny_execs_nil ⟨σ3,H3,I4,qn⟩
 ·refine wpAny_passesOwn hp (f7 (T.item X rfl rfl rfl hc i pins s3 σ3 H3 X.xe I3 (stat fr3) st3 go) fun r s4 ⟨u,hr,h4⟩=>?_)
  subst hr
  refine wpAny_passesOwn hp (f7 h4 fun _ s5 ⟨x,H5,I5,r5,y5,st5,fr5⟩=>?_)
  have I5':=I5.pinned (stat fr5) (T.obj _ _ st5)
  refine wpAny_passesOwn hp (f7 (hg _ s5 σ3 H5 x u _ I5' r5 (step x H5 y5)) fun _ s6 ⟨σ6,H6,I6,q6⟩=>?_)
  refine wpAny_passesOwn hp (f7 (hb _ s6 σ6 H6 _ I6 q6) fun f s7 q7=>?_)
  have again:∀{σ7:St}{H7:Hp},Inv X (pins++K1 fp s5.heap) σ7 H7 s7->N σ7 H7->∃m,m<n/\∃i σ' H',Inv X pins σ' H' s7/\tn i s7.heap/\(∀b∈fp,H' b=none)/\W i m σ' H':=fun {σ7 H7} I7 n7=>by
   obtain ⟨m',hm,w7⟩:=hN σ7 H7 n7
   refine ⟨m',hm,i+1,σ7,H7,I7.unpinned,T.keep _ _ _ st5 fun b hb o e=>(I7.pin (b,o) (List.mem_append_right _ (List.mem_append_right _ (u4 hb e)))).1,fun b hb=>?_,w7⟩
   obtain ⟨o,e,d⟩:=T.obj _ _ st5 b hb
   exact (I7.pin (b,o) (List.mem_append_right _ (List.mem_append_right _ (u4 hb e)))).2.1
  cases f with
  | next=>obtain ⟨σ7,H7,I7,n7⟩:=q7;exact again I7 n7
  | cont=>obtain ⟨σ7,H7,I7,n7⟩:=q7;exact again I7 n7
  | brk=>obtain ⟨σ7,H7,I7,q7⟩:=q7;exact ⟨σ7,H7,I7.unpinned,q7⟩
  | ret v=>obtain ⟨x7,σ7,H7,I7,r7,q7⟩:=q7;exact ⟨x7,σ7,H7,I7.unpinned,r7,q7⟩
end
theorem M0 {K:W.Frag}{a:Addr}{xs:List V}{g:TG}{tb:TS}{D:Ends}{σ:St}{H:Hp} (Pv:Nat->St->Hp->Prop) (h0:Pv 0 σ H) (hl:∀i σ H,i<=xs.length->Pv i σ H->SqL K H a xs)
  (hs:∀i x σ H,xs[i]?=some x->Pv i σ H->g x σ H fun σ2 H2=>tb { D with nx:=Pv (i+1),ct:=Pv (i+1),bk:=D.nx } σ2 H2) (hd:∀σ H,Pv xs.length σ H->D.nx σ H):
  ∃W:Nat->Nat->St->Hp->Prop,(∃m,W 0 m σ H)/\∀i m σ H,W i m σ H ->
   ((Itl K a).stop i H/\D.nx σ H) ∨ ((Itl K a).go i H/\∃N:St->Hp->Prop,(∀σ' H',N σ' H'->∃m',m'<m/\W (i+1) m' σ' H')/\∀x H',(Itl K a).yld i H x H'->g x σ H' fun σ2 H2=>tb { D with nx:=N,ct:=N,bk:=D.nx } σ2 H2):=by
 refine ⟨fun i m σ H=>m=xs.length - i/\i<=xs.length/\Pv i σ H,⟨xs.length,by simp,Nat.zero_le _,h0⟩,?_⟩
 rintro i m σ H ⟨rfl,hi,p⟩
 have q:=hl i σ H hi p
 by_cases hlt:i<xs.length
 ·refine .inr ⟨⟨xs,xs[i],q,by simp[hlt]⟩,Pv (i+1),fun σ' H' p'=>⟨xs.length - (i+1),by lia,rfl,hlt,p'⟩,fun x H' y=>?_⟩
  obtain ⟨e,y⟩:=y
  subst e
  exact hs i x σ _ (y xs q) p
 ·have e:i=xs.length:=by lia
  subst e
  exact .inl ⟨⟨xs,q,Nat.le_refl _⟩,hd σ H p⟩
theorem a2u {K:W.Frag}{a:Addr}{xs:List V}{g:TG}{tb:TS}{D:Ends}{σ:St}{H:Hp} (Pv:Nat->St->Hp->Prop) (h0:Pv 0 σ H) (hl:∀i σ H,i<=xs.length->Pv i σ H->SqT K H a xs)
  (hs:∀i x σ H,xs[i]?=some x->Pv i σ H->g x σ H fun σ2 H2=>tb { D with nx:=Pv (i+1),ct:=Pv (i+1),bk:=D.nx } σ2 H2) (hd:∀σ H,Pv xs.length σ H->D.nx σ H):
  ∃W:Nat->Nat->St->Hp->Prop,(∃m,W 0 m σ H)/\∀i m σ H,W i m σ H ->
   ((Itt K a).stop i H/\D.nx σ H) ∨ ((Itt K a).go i H/\∃N:St->Hp->Prop,(∀σ' H',N σ' H'->∃m',m'<m/\W (i+1) m' σ' H')/\∀x H',(Itt K a).yld i H x H'->g x σ H' fun σ2 H2=>tb { D with nx:=N,ct:=N,bk:=D.nx } σ2 H2):=by
 refine ⟨fun i m σ H=>m=xs.length - i/\i<=xs.length/\Pv i σ H,⟨xs.length,by simp,Nat.zero_le _,h0⟩,?_⟩
 rintro i m σ H ⟨rfl,hi,p⟩
 have q:=hl i σ H hi p
 by_cases hlt:i<xs.length
 ·refine .inr ⟨⟨xs,xs[i],q,by simp[hlt]⟩,Pv (i+1),fun σ' H' p'=>⟨xs.length - (i+1),by lia,rfl,hlt,p'⟩,fun x H' y=>?_⟩
  obtain ⟨e,y⟩:=y
  subst e
  exact hs i x σ _ (y xs q) p
 ·have e:i=xs.length:=by lia
  subst e
  exact .inl ⟨⟨xs,q,Nat.le_refl _⟩,hd σ H p⟩
theorem K3 {lo:Int}{n:Nat}{g:TG}{tb:TS}{D:Ends}{σ:St}{H:Hp} (Pv:Nat->St->Hp->Prop) (h0:Pv 0 σ H)
  (hs:∀i σ H,i<n->Pv i σ H->g (.int (lo+i)) σ H fun σ2 H2=>tb { D with nx:=Pv (i+1),ct:=Pv (i+1),bk:=D.nx } σ2 H2) (hd:∀σ H,Pv n σ H->D.nx σ H):
  ∃W:Nat->Nat->St->Hp->Prop,(∃m,W 0 m σ H)/\∀i m σ H,W i m σ H ->
   ((X4 lo n).stop i H/\D.nx σ H) ∨ ((X4 lo n).go i H/\∃N:St->Hp->Prop,(∀σ' H',N σ' H'->∃m',m'<m/\W (i+1) m' σ' H')/\∀x H',(X4 lo n).yld i H x H'->g x σ H' fun σ2 H2=>tb { D with nx:=N,ct:=N,bk:=D.nx } σ2 H2):=by
 refine ⟨fun i m σ H=>m=n - i/\i<=n/\Pv i σ H,⟨n,by simp,Nat.zero_le _,h0⟩,?_⟩
 rintro i m σ H ⟨rfl,hi,p⟩
 by_cases hlt:i<n
 ·refine .inr ⟨hlt,Pv (i+1),fun σ' H' p'=>⟨n - (i+1),by lia,rfl,hlt,p'⟩,fun x H' y=>?_⟩
  obtain ⟨e,y⟩:=y
  subst e y
  exact hs i σ _ hlt p
 ·have e:i=n:=by lia
  subst e
  exact .inl ⟨Nat.le_refl _,hd σ H p⟩
end L2
namespace L2
open PySem PySem.Spec PyProof.Rows
noncomputable abbrev R2:=V->V->Hp->VK->Prop
noncomputable def v8 (X:Cx) (f:Value->Value->Sem Value) (r:R2):Prop :=
 ∀(pins:List (Addr × Obj)) (s:Shared) (σ:St) (H:Hp) (x y:V) (v u:Value) (Q:VK),Inv X pins σ H s->RelV x v->RelV y u->r x y H Q ->
  wpAny (model X.prog X.w) X.A (f v u) (EP X pins σ Q) X.xe s
noncomputable def UnR (X:Cx) (f:Value->Sem Value) (r:V->Hp->VK->Prop):Prop :=
 ∀(pins:List (Addr × Obj)) (s:Shared) (σ:St) (H:Hp) (x:V) (v:Value) (Q:VK),Inv X pins σ H s->RelV x v->r x H Q ->
  wpAny (model X.prog X.w) X.A (f v) (EP X pins σ Q) X.xe s
noncomputable def w5 (X:Cx) (f:Value) (r:List V->Hp->VK->Prop):Prop :=
 ∀(pins:List (Addr × Obj)) (s:Shared) (σ:St) (H:Hp) (xs:List V) (us:List Value) (Q:VK),Inv X pins σ H s->Vals xs us->r xs H Q ->
  wpAny (model X.prog X.w) X.A (call f us) (EP X pins σ Q) X.xe s
noncomputable def tOp (r:R2) (ta tb:TE):TE:=fun σ H Q=>ta σ H fun x H1=>tb σ H1 fun y H2=>r x y H2 Q
noncomputable def tUn (r:V->Hp->VK->Prop) (ta:TE):TE:=fun σ H Q=>ta σ H fun x H1=>r x H1 Q
noncomputable def rI (C:Int->Int->Prop) (g:Int->Int->V):R2:=fun x y H Q=>∃i j,x=.int i/\y=.int j/\C i j/\Q (g i j) H
noncomputable def rI0 (g:Int->Int->V):R2:=fun x y H Q=>∃i j,x=.int i/\y=.int j/\Q (g i j) H
noncomputable def rU (g:Int->V):V->Hp->VK->Prop:=fun x H Q=>∃i,x=.int i/\Q (g i) H
section
variable {X:Cx}{a b c:Expr}{ta tb tc:TE}{pos:Pos}
theorem a50 (ha:PE X a ta) (hb:PE X b tb) {pins:List (Addr × Obj)}{s:Shared}{σ:St}{H:Hp}{R:V->V->Hp->Prop} (I:Inv X pins σ H s)
  (h:ta σ H fun x H1=>tb σ H1 fun y H2=>R x y H2) {Q:Value->Shared->Prop}{f:Value->Value->Sem Value}
  (hf:∀v u s2 x y H2,Inv X pins σ H2 s2->RelV x v->RelV y u->R x y H2->wpAny (model X.prog X.w) X.A (f v u) Q X.xe s2):
  wpAny (model X.prog X.w) X.A (eval a X.env) (fun v s₁=>wpAny (model X.prog X.w) X.A (eval b X.env) (fun u s₂=>wpAny (model X.prog X.w) X.A (f v u) Q X.xe s₂) X.xe s₁) X.xe s:=by
 refine f7 (ha pins s σ H _ I h) fun v s1 ⟨x,H1,I1,r1,q1⟩=>?_
 refine f7 (hb pins s1 σ H1 _ I1 q1) fun u s2 ⟨y,H2,I2,r2,q2⟩=>?_
 exact hf v u s2 x y H2 I2 r1 r2 q2
theorem f8 {op:Operator}{r:R2} (ho:v8 X (binaryOp op) r) (ha:PE X a ta) (hb:PE X b tb):PE X (.BinOp a op b pos) (tOp r ta tb):=by
 intro pins s σ H Q I h
 exact wpAny_BinOp (a50 ha hb I h fun v u s2 x y H2 I2 rx ry q=>ho pins s2 σ H2 x y v u Q I2 rx ry q)
theorem a8s {op:UnaryOp}{r:V->Hp->VK->Prop} (ho:UnR X (unaryOp op) r) (ha:PE X a ta):PE X (.UnaryOp op a pos) (tUn r ta):=by
 intro pins s σ H Q I h
 exact UnaryOp_ (f7 (ha pins s σ H _ I h) fun v s1 ⟨x,H1,I1,r1,q1⟩=>ho pins s1 σ H1 x v Q I1 r1 q1)
theorem opI {f:Value->Value->Sem Value}{C:Int->Int->Prop}{g:Int->Int->Int}
  (rule:∀(i j:Int) (t u:Tok) (s:Shared) (Q:Value->Shared->Prop) (E:Value->Shared->Prop),C i j->Q (.int (g i j) s.toks) { s with toks:=s.toks+1 }->wpAny (model X.prog X.w) X.A (f (.int i t) (.int j u)) Q E s):
  v8 X f (rI C fun i j=>.int (g i j)):=by
 intro pins s σ H x y v u Q I rx ry h
 obtain ⟨i,j,rfl,rfl,hc,q⟩:=h
 obtain ⟨t,rfl⟩:=rx
 obtain ⟨t',rfl⟩:=ry
 exact rule i j t t' s _ _ hc ⟨.int (g i j),H,I.tok _,⟨_,rfl⟩,q⟩
theorem a8f {f:Value->Value->Sem Value}{g:Int->Int->Int}
  (rule:∀(i j:Int) (t u:Tok) (s:Shared) (Q:Value->Shared->Prop) (E:Value->Shared->Prop),Q (.int (g i j) s.toks) { s with toks:=s.toks+1 }->wpAny (model X.prog X.w) X.A (f (.int i t) (.int j u)) Q E s):
  v8 X f (rI0 fun i j=>.int (g i j)):=by
 intro pins s σ H x y v u Q I rx ry h
 obtain ⟨i,j,rfl,rfl,q⟩:=h
 obtain ⟨t,rfl⟩:=rx
 obtain ⟨t',rfl⟩:=ry
 exact rule i j t t' s _ _ ⟨.int (g i j),H,I.tok _,⟨_,rfl⟩,q⟩
theorem a3x {f:Value->Value->Sem Value}{g:Int->Int->Bool}
  (rule:∀(i j:Int) (t u:Tok) (s:Shared) (Q:Value->Shared->Prop) (E:Value->Shared->Prop),Q (.bool (g i j)) s->wpAny (model X.prog X.w) X.A (f (.int i t) (.int j u)) Q E s):
  v8 X f (rI0 fun i j=>.bl (g i j)):=by
 intro pins s σ H x y v u Q I rx ry h
 obtain ⟨i,j,rfl,rfl,q⟩:=h
 obtain ⟨t,rfl⟩:=rx
 obtain ⟨t',rfl⟩:=ry
 exact rule i j t t' s _ _ ⟨.bl (g i j),H,I,rfl,q⟩
noncomputable def a9a (i j:Int):Prop:=0<j/\j<1073741824
noncomputable def a8h (i j:Int):Prop:=0<=j/\j<=1000000/\i.natAbs<2 ^ 64
noncomputable def CMul (i j:Int):Prop:=(-(2 ^ 64)<i/\i<2 ^ 64) ∨ (-(2 ^ 64)<j/\j<2 ^ 64)
theorem CMul.ok {i j:Int} (h:CMul i j):IntMulOk i j:=by
 rcases h with ⟨h1,h2⟩|⟨h1,h2⟩
 ·exact .of_left (intBits_le_64 h1 h2)
 ·exact .of_right (intBits_le_64 h1 h2)
theorem op_add:v8 X (binaryOp .Add) (rI0 fun i j=>.int (i+j)):=a8f fun _ _ _ _ _ _ _ q=>add_int q
theorem op_sub:v8 X (binaryOp .Sub) (rI0 fun i j=>.int (i - j)):=a8f fun _ _ _ _ _ _ _ q=>sub_int q
theorem op_mul:v8 X (binaryOp .Mult) (rI CMul fun i j=>.int (i*j)):=opI fun _ _ _ _ _ _ _ hc q=>mul_int q hc.ok
theorem op_fdiv:v8 X (binaryOp .FloorDiv) (rI a9a fun i j=>.int (i / j)):=opI fun i j _ _ _ _ _ hc q=>by
 have h1:(0:Int)<j:=hc.1
 have h2:j<1073741824:=hc.2
 exact floordiv_int (by lia) (by rw[Int.fdiv_eq_ediv_of_nonneg i (by lia)];exact q) (.inl (PyProof.noPylong_small (by lia)))
theorem op_mod:v8 X (binaryOp .Mod) (rI (fun _ j=>0<j) fun i j=>.int (i % j)):=opI fun i j _ _ _ _ _ hc q=>by
 have h1:(0:Int)<j:=hc
 exact mod_int' (by lia) (by rw[Int.fmod_eq_emod_of_nonneg i (by lia)];exact q)
theorem op_pow:v8 X (binaryOp .Pow) (rI a8h fun i j=>.int (i ^ j.toNat)):=opI fun _ _ _ _ _ _ _ hc q=>pow_int_small hc.1 hc.2.1 hc.2.2 q
theorem unI {f:Value->Sem Value}{g:Int->Int}
  (rule:∀(i:Int) (t:Tok) (s:Shared) (Q:Value->Shared->Prop) (E:Value->Shared->Prop),Q (.int (g i) s.toks) { s with toks:=s.toks+1 }->wpAny (model X.prog X.w) X.A (f (.int i t)) Q E s):
  UnR X f (rU fun i=>.int (g i)):=by
 intro pins s σ H x v Q I rx h
 obtain ⟨i,rfl,q⟩:=h
 obtain ⟨t,rfl⟩:=rx
 exact rule i t s _ _ ⟨.int (g i),H,I.tok _,⟨_,rfl⟩,q⟩
theorem un_neg:UnR X (unaryOp .USub) (rU fun i=>.int (-i)):=unI fun _ _ _ _ _ q=>neg_int q
end
noncomputable def scal:V->V->Bool
 | .non,.non=>true | .non,.int _=>true | .int _,.non=>true | .non,.bl _=>true | .bl _,.non=>true | .non,.str _=>true | .str _,.non=>true
 | .int _,.int _=>true | .bl _,.bl _=>true | .str _,.str _=>true | .byt _,.byt _=>true
 | .int _,.str _=>true | .str _,.int _=>true | .bl _,.str _=>true | .str _,.bl _=>true
 | _,_=>false
noncomputable def rEq:R2:=fun x y H Q=>scal x y=true/\Q (.bl (decide (x=y))) H
noncomputable def rNe:R2:=fun x y H Q=>scal x y=true/\Q (.bl (!decide (x=y))) H
theorem a2w {i j:Int}:decide (V.int i=V.int j)=(i == j):=by
 rw[Bool.eq_iff_iff]
 simp
theorem a4Z {i j:Bool}:decide (V.bl i=V.bl j)=(i == j):=by
 rw[Bool.eq_iff_iff]
 simp
theorem a3a {i j:Str}:decide (V.str i=V.str j)=(i == j):=by
 rw[Bool.eq_iff_iff]
 simp
theorem a2O {i j:Array UInt8}:decide (V.byt i=V.byt j)=(i.toList == j.toList):=by
 rw[Bool.eq_iff_iff]
 cases i
 cases j
 simp
section
variable {X:Cx}{a b c:Expr}{ta tb tc:TE}{pos:Pos}
theorem i8 {pins:List (Addr × Obj)}{σ:St}{H:Hp}{s:Shared}{Q:VK}{k k':Bool} (I:Inv X pins σ H s) (q:Q (.bl k) H) (e:k=k'):EP X pins σ Q (.bool k') s:=by
 subst e
 exact ⟨.bl k,H,I,rfl,q⟩
theorem op_eq:v8 X (compareOp .Eq) rEq:=by
 intro pins s σ H x y v u Q I rx ry h
 obtain ⟨hs,q⟩:=h
 cases x with
 | non =>
  cases rx
  cases y with
  | non=>cases ry;exact PySem.EqNone.eq_none_none (i8 I q (by simp))
  | bl j=>cases ry;exact PySem.EqNone.eq_none_bool (i8 I q (by simp))
  | int j=>obtain ⟨t',rfl⟩:=ry;exact PySem.EqNone.eq_none_int (i8 I q (by simp))
  | str j=>obtain ⟨t',rfl⟩:=ry;exact PySem.EqNone.eq_none_str (i8 I q (by simp))
  | _=>exact absurd (show false=true from hs) Bool.false_ne_true
 | bl i =>
  cases rx
  cases y with
  | non=>cases ry;exact PySem.EqNone.eq_bool_none (i8 I q (by simp))
  | bl j=>cases ry;exact eq_bool (i8 I q a4Z)
  | str j=>obtain ⟨t',rfl⟩:=ry;exact PySem.EqMixed.eq_bool_str (i8 I q (by simp))
  | _=>exact absurd (show false=true from hs) Bool.false_ne_true
 | int i =>
  obtain ⟨t,rfl⟩:=rx
  cases y with
  | non=>cases ry;exact PySem.EqNone.eq_int_none (i8 I q (by simp))
  | int j=>obtain ⟨t',rfl⟩:=ry;exact eq_int (i8 I q a2w)
  | str j=>obtain ⟨t',rfl⟩:=ry;exact PySem.EqMixed.eq_int_str (i8 I q (by simp))
  | _=>exact absurd (show false=true from hs) Bool.false_ne_true
 | str i =>
  obtain ⟨t,rfl⟩:=rx
  cases y with
  | non=>cases ry;exact PySem.EqNone.eq_str_none (i8 I q (by simp))
  | bl j=>cases ry;exact PySem.EqMixed.eq_str_bool (i8 I q (by simp))
  | int j=>obtain ⟨t',rfl⟩:=ry;exact PySem.EqMixed.eq_str_int (i8 I q (by simp))
  | str j=>obtain ⟨t',rfl⟩:=ry;exact eq_str (i8 I q a3a)
  | _=>exact absurd (show false=true from hs) Bool.false_ne_true
 | byt i =>
  obtain ⟨t,rfl⟩:=rx
  cases y with
  | byt j=>obtain ⟨t',rfl⟩:=ry;exact W.eq_bytes (i8 I q a2O)
  | _=>exact absurd (show false=true from hs) Bool.false_ne_true
 | _=>cases y <;> exact absurd (show false=true from hs) Bool.false_ne_true
theorem op_ne:v8 X (compareOp .NotEq) rNe:=by
 intro pins s σ H x y v u Q I rx ry h
 obtain ⟨hs,q⟩:=h
 cases x with
 | non =>
  cases rx
  cases y with
  | non=>cases ry;exact PySem.EqNone.ne_none_none (i8 I q (by simp))
  | bl j=>cases ry;exact PySem.EqNone.ne_none_bool (i8 I q (by simp))
  | int j=>obtain ⟨t',rfl⟩:=ry;exact PySem.EqNone.ne_none_int (i8 I q (by simp))
  | str j=>obtain ⟨t',rfl⟩:=ry;exact PySem.EqNone.ne_none_str (i8 I q (by simp))
  | _=>exact absurd (show false=true from hs) Bool.false_ne_true
 | bl i =>
  cases rx
  cases y with
  | non=>cases ry;exact PySem.EqNone.ne_bool_none (i8 I q (by simp))
  | bl j=>cases ry;exact ne_bool (i8 I q (congrArg not a4Z))
  | str j=>obtain ⟨t',rfl⟩:=ry;exact PySem.EqMixed.ne_bool_str (i8 I q (by simp))
  | _=>exact absurd (show false=true from hs) Bool.false_ne_true
 | int i =>
  obtain ⟨t,rfl⟩:=rx
  cases y with
  | non=>cases ry;exact PySem.EqNone.ne_int_none (i8 I q (by simp))
  | int j=>obtain ⟨t',rfl⟩:=ry;exact ne_int (i8 I q (congrArg not a2w))
  | str j=>obtain ⟨t',rfl⟩:=ry;exact PySem.EqMixed.ne_int_str (i8 I q (by simp))
  | _=>exact absurd (show false=true from hs) Bool.false_ne_true
 | str i =>
  obtain ⟨t,rfl⟩:=rx
  cases y with
  | non=>cases ry;exact PySem.EqNone.ne_str_none (i8 I q (by simp))
  | bl j=>cases ry;exact PySem.EqMixed.ne_str_bool (i8 I q (by simp))
  | int j=>obtain ⟨t',rfl⟩:=ry;exact PySem.EqMixed.ne_str_int (i8 I q (by simp))
  | str j=>obtain ⟨t',rfl⟩:=ry;exact ne_str (i8 I q (congrArg not a3a))
  | _=>exact absurd (show false=true from hs) Bool.false_ne_true
 | byt i =>
  obtain ⟨t,rfl⟩:=rx
  cases y with
  | byt j=>obtain ⟨t',rfl⟩:=ry;exact W.ne_bytes (i8 I q (congrArg not a2O))
  | _=>exact absurd (show false=true from hs) Bool.false_ne_true
 | _=>cases y <;> exact absurd (show false=true from hs) Bool.false_ne_true
theorem op_lt:v8 X (compareOp .Lt) (rI0 fun i j=>.bl (decide (i<j))):=a3x fun _ _ _ _ _ _ _ q=>lt_int q
theorem op_le:v8 X (compareOp .LtE) (rI0 fun i j=>.bl (decide (i<=j))):=a3x fun _ _ _ _ _ _ _ q=>le_int q
theorem op_gt:v8 X (compareOp .Gt) (rI0 fun i j=>.bl (decide (j<i))):=a3x fun _ _ _ _ _ _ _ q=>gt_int q
theorem op_ge:v8 X (compareOp .GtE) (rI0 fun i j=>.bl (decide (j<=i))):=a3x fun _ _ _ _ _ _ _ q=>ge_int q
theorem j4 (b:Expr) {op:CmpOp} (h:op≠.In:=by decide) (h2:op≠.NotIn:=by decide):behindInMarks op b=false:=by
 have e1:(op == CmpOp.In)=false:=by cases op <;> first|rfl|exact absurd rfl h
 have e2:(op == CmpOp.NotIn)=false:=by cases op <;> first|rfl|exact absurd rfl h2
 cases b <;> simp[behindInMarks,e1,e2]
theorem E3 {op:CmpOp}{r:R2} (ho:v8 X (compareOp op) r) (ha:PE X a ta) (hb:PE X b tb) (hm:behindInMarks op b=false):PE X (.Compare a [op] [b] pos) (tOp r ta tb):=by
 intro pins s σ H Q I h
 exact wpAny_Compare1 (a50 ha hb I h fun v u s2 x y H2 I2 rx ry q=>ho pins s2 σ H2 x y v u Q I2 rx ry q) hm
noncomputable def a8n (t:TE):TT:=fun σ H Q=>t σ H fun x H'=>∃k,x=.bl k/\Q k H'
theorem j9 {op:CmpOp}{r:R2} (ho:v8 X (compareOp op) r) (ha:PE X a ta) (hb:PE X b tb) (hm:behindInMarks op b=false):PT X (.Compare a [op] [b] pos) (a8n (tOp r ta tb)):=by
 intro pins s σ H Q I h
 refine wpAny_isTrue_Compare1 (f7 (ha pins s σ H _ I h) fun v s1 ⟨x,H1,I1,r1,q1⟩=>f7 (hb pins s1 σ H1 _ I1 q1) fun u s2 ⟨y,H2,I2,r2,q2⟩ =>
  f7 (ho pins s2 σ H2 x y v u _ I2 r1 r2 q2) fun c s3 ⟨z,H3,I3,r3,k,e,q3⟩=>?_) hm
 subst e
 cases r3
 exact wpAny_truthy_bool ⟨H3,I3,q3⟩
noncomputable def a7W (r r':R2) (ta tb tc:TE):TE:=fun σ H Q=>ta σ H fun x H1=>tb σ H1 fun y H2=>r x y H2 fun z H3=>∃k,z=.bl k /\
 (if k=true then tc σ H3 fun w' H4=>r' y w' H4 Q else Q (.bl false) H3)
theorem a1J {op op':CmpOp}{r r':R2} (ho:v8 X (compareOp op) r) (ho':v8 X (compareOp op') r') (ha:PE X a ta) (hb:PE X b tb) (hc:PE X c tc)
  (hm:lastMarks [op,op'] [b,c]=false:=by with_unfolding_all rfl):PE X (.Compare a [op,op'] [b,c] pos) (a7W r r' ta tb tc):=by
 intro pins s σ H Q I h
 refine Compare_chain (f7 (ha pins s σ H _ I h) fun v s1 ⟨x,H1,I1,r1,q1⟩=>chain_link (f7 (hb pins s1 σ H1 _ I1 q1) fun u s2 ⟨y,H2,I2,r2,q2⟩ =>
  f7 (ho pins s2 σ H2 x y v u _ I2 r1 r2 q2) fun d s3 ⟨z,H3,I3,r3,k,e,q3⟩=>?_)) hm
 subst e
 cases r3
 refine wpAny_truthy_bool ?_
 cases k with
 | false=>exact ite_ff ⟨.bl false,H3,I3,rfl,q3⟩
 | true=>exact ite_tt (chain_last (f7 (hc pins s3 σ H3 _ I3 q3) fun w' s4 ⟨z',H4,I4,r4,q4⟩=>ho' pins s4 σ H4 y z' u w' Q I4 r2 r4 q4))
theorem line63:(sizeLine:Nat)<2 ^ 63:=by rw[sizeLine_eq];decide
theorem E1 {x:V}{us:List Value} (r:Vals [x] us):∃u,us=[u]/\RelV x u:=by
 cases r with
 | cons r1 r2=>cases r2;exact ⟨_,rfl,r1⟩
theorem a6n {x y:V}{us:List Value} (r:Vals [x,y] us):∃u w',us=[u,w']/\RelV x u/\RelV y w':=by
 cases r with
 | cons r1 r2 =>
  cases r2 with
  | cons r3 r4=>cases r4;exact ⟨_,_,rfl,r1,r3⟩
theorem call_abs:w5 X (.builtin "abs") (fun xs H Q=>∃i,xs=[.int i]/\Q (.int (if i<0 then -i else i)) H):=by
 intro pins s σ H xs us Q I r h
 obtain ⟨i,rfl,q⟩:=h
 obtain ⟨u,rfl,t,rfl⟩:=E1 r
 exact call_abs_int fun u tk=>⟨.int (if i<0 then -i else i),H,I.tok _,⟨_,rfl⟩,q⟩
theorem a3Z (hc:X.calm=true):w5 X (.builtin "max") (fun xs H Q=>∃i j,xs=[.int i,.int j]/\Q (.int (if j > i then j else i)) H):=by
 intro pins s σ H xs us Q I r h
 obtain ⟨i,j,rfl,q⟩:=h
 obtain ⟨u,w',rfl,⟨t,rfl⟩,⟨t',rfl⟩⟩:=a6n r
 refine max_two_ints (I.ok.hd hc) fun h' tk k=>⟨_,H,I.kept k,?_,q⟩
 by_cases hj:j > i
 ·rw[if_pos hj,if_pos hj];exact ⟨_,rfl⟩
 ·rw[if_neg hj,if_neg hj];exact ⟨_,rfl⟩
theorem a4l (hc:X.calm=true):w5 X (.builtin "min") (fun xs H Q=>∃i j,xs=[.int i,.int j]/\Q (.int (if j<i then j else i)) H):=by
 intro pins s σ H xs us Q I r h
 obtain ⟨i,j,rfl,q⟩:=h
 obtain ⟨u,w',rfl,⟨t,rfl⟩,⟨t',rfl⟩⟩:=a6n r
 refine min_two_ints (I.ok.hd hc) fun h' tk k=>⟨_,H,I.kept k,?_,q⟩
 by_cases hj:j<i
 ·rw[if_pos hj,if_pos hj];exact ⟨_,rfl⟩
 ·rw[if_neg hj,if_neg hj];exact ⟨_,rfl⟩
theorem call_int1:w5 X (.type "int") (fun xs H Q=>(∃i,xs=[.int i]/\Q (.int i) H) ∨ ∃k,xs=[.bl k]/\Q (.int (if k then 1 else 0)) H):=by
 intro pins s σ H xs us Q I r h
 rcases h with ⟨i,rfl,q⟩|⟨k,rfl,q⟩
 ·obtain ⟨u,rfl,t,rfl⟩:=E1 r
  exact call_int_int ⟨.int i,H,I,⟨_,rfl⟩,q⟩
 ·obtain ⟨u,rfl,r1⟩:=E1 r
  cases r1
  exact call_int_bool ⟨.int (if k then 1 else 0),H,I.tok _,⟨_,rfl⟩,q⟩
end
end L2
namespace L2
open PySem PySem.Spec PyProof.Rows
structure ObjM (h:Heap) (x dx C:Addr) (mA:Str->Option Value):Prop where
 obj:h.get? x=some (W.instObj C dx)
 ns:h.Ns1 dx mA
 ne:dx≠x
theorem a5f {h:Heap}{dx:Addr}{mA:Str->Option Value} (n:h.Ns1 dx mA):∃od,h.get? dx=some od/\∀name,W.lookIn name od=some (mA name):=by
 obtain ⟨o,es,ep,ho,hd,hk,_,hm⟩:=n
 refine ⟨o,ho,fun name=>?_⟩
 have e:=hm name
 unfold nsFind findBy at e
 rw[<- Array.find?_toList] at e
 unfold W.lookIn
 rw[hd]
 dsimp only
 split
 ·rename_i y q
  rw[q] at e
  exact congrArg some e
 ·rename_i q
  rw[q] at e
  have a:es.toList.any (·.refKey)=false:=by
   rw[List.any_eq_false]
   intro y hy
   obtain ⟨z,t,hkey⟩:=hk y (Array.mem_toList_iff.mp hy)
   simp[DictEntry.refKey,hkey]
  have a':¬ es.toList.any (·.refKey)=true:=by rw[a];exact Bool.false_ne_true
  rw[if_neg a']
  exact congrArg some e
theorem ObjM.look {h:Heap}{x dx C:Addr}{mA:Str->Option Value} (I:ObjM h x dx C mA):∃od,W.InstAt h x (W.instObj C dx) C (some od)/\∀name,W.lookIn name od=some (mA name):=
 let ⟨od,ho,hl⟩:=a5f I.ns
 ⟨od,⟨I.obj,rfl,rfl,ho⟩,hl⟩
section
variable {prog:Program}{w:World}{A:Around}{E:Value->Shared->Prop}{s:Shared}{K:W.Frag}{x dx C f:Addr}{mA:Str->Option Value}{name:Str}{v:Value}
end
theorem RelO.some_of {v:V}{o:Option Value} (r:RelO (some v) o):∃u,o=some u/\RelV v u:=by
 cases o with
 | none=>exact (show False from r).elim
 | some u=>exact ⟨u,rfl,r⟩
section
variable {P:Program}{w:World}{H H':Hp}{h h':Heap}{a C dx:Addr}{fs fs':List (Str × V)}
theorem a6B (hok:HOk P w H h) (e:H a=some (.ins C dx fs)):∃mA,ObjM h a dx C mA/\(∀f,RelO (fs.lookup f) (mA f))/\PySem.Within mA (fs.map (·.1))/\fs.length<=1000/\H dx=some (.own a):=by
 obtain ⟨d,z,ne,ob,mA,n,r,q⟩:=(show ObjOk P w H h a (.ins C dx fs) from hok a _ e)
 exact ⟨mA,⟨ob,n,ne⟩,r,q,z,d⟩
end
structure Cls (K:W.Frag) (C:Addr):Prop where
 pg:W.plainGet K C Str.empty=true
 hd:W.hasDictIn K C=true
 po:W.plainOver K C=true
 sa:W.findIn K (.ref C) "__setattr__"=some (some (.builtin "object.__setattr__"))
theorem Cls.get {K:W.Frag}{C:Addr} (c:Cls K C) (f:Str):W.plainGet K C f=true:=c.pg
structure Con (K:W.Frag) (C:Addr) (f:Str) (v:V) (u:Value):Prop where
 at_:W.findIn K (.ref C) f=some (some u)
 rel:RelV v u
 get:W.specialIn K u "__get__"=some none
 cp:W.copiedNames.contains f=false
structure Meth (K:W.Frag) (C:Addr) (m:Str) (f:Addr):Prop where
 at_:W.findIn K (.ref C) m=some (some (.ref f))
 fn:W.isFn K (.ref f)=true
 kp:W.keepIn K (.ref f)=true
section
variable {X:Cx}{pins:List (Addr × Obj)}{σ:St}{H:Hp}{s:Shared}{a C dx:Addr}{fs:List (Str × V)}{f:Str}{v:V}{A:Around}{E:Value->Shared->Prop}
end
section
variable {X:Cx}{o e value:Expr}{f:Str}{pos pos' tpos:Pos}{ta tv:TE}
end
section
variable {X:Cx}{pins:List (Addr × Obj)}{σ:St}{H:Hp}{s:Shared}{A:Around}{E:Value->Shared->Prop}{Q:Value->Shared->Prop}{c:Value}{b:Bool}
inductive TyOf (K:W.Frag) (H:Hp):V->Value->Prop where
 | non:TyOf K H .non (.type "NoneType")
 | bl (x:Bool):TyOf K H (.bl x) (.type "bool")
 | int (i:Int):TyOf K H (.int i) (.type "int")
 | str (x:Str):TyOf K H (.str x) (.type "str")
 | flt (x:UInt64):TyOf K H (.flt x) (.type "float")
 | lst {a:Addr}{xs:List V} (e:H a=some (.lst xs)):TyOf K H (.ref a) (.type "list")
 | frz {a:Addr}{o:Obj}{xs:List V} (e:H a=some (.frz o (.lst xs))):TyOf K H (.ref a) (.type "list")
 | tup {a:Addr}{xs:List V} (e:H a=some (.tup xs)):TyOf K H (.ref a) (.type "tuple")
 | dK {a:Addr}{kvs:List (Key × V)} (e:H a=some (.dK kvs)):TyOf K H (.ref a) (.type "dict")
 | dT {a:Addr}{kvs:List (List Key × V)} (e:H a=some (.dT kvs)):TyOf K H (.ref a) (.type "dict")
 | ins {a C dx:Addr}{fs:List (Str × V)} (e:H a=some (.ins C dx fs)) (cl:Cls K C) (ha:W.findIn K (.ref C) "__class__"=some (some (.builtin "object.__class__")))
   (hn:W.specialIn K (.builtin "object.__class__") "__get__"=some (some (.builtin "getset_descriptor.__get__"))) (htk:W.takesIn K (.builtin "object.__class__")=some true)
   (hm:W.mroIn K C (.type "object")=some true):TyOf K H (.ref a) (.ref C)
theorem a4m {x:V}{u t:Value} (I:Inv X pins σ H s) (rx:RelV x u) (ty:TyOf X.K H x t) (e:W.kitOne X.K t c=some b) (h:∀tk,Q (.bool b) { s with toks:=tk }):
  wpAny (model X.prog X.w) A (call (.builtin "isinstance") [u,c]) Q E s:=by
 cases ty with
 | non=>cases (show u=Value.none from rx);exact W.kia_one W.kitx_none I.kIn True.intro e (fun z=>nomatch z) h
 | bl y=>cases (show u=Value.bool y from rx);exact W.kia_one W.kitx_bool I.kIn True.intro e (fun z=>nomatch z) h
 | int i=>obtain ⟨t,q⟩:=(show ∃t,u=Value.int i t from rx);cases q;exact W.kia_one W.kitx_int I.kIn True.intro e (fun z=>nomatch z) h
 | str y=>obtain ⟨t,q⟩:=(show ∃t,u=Value.str y t from rx);cases q;exact W.kia_one W.kitx_str I.kIn True.intro e (fun z=>nomatch z) h
 | flt y=>obtain ⟨t,q⟩:=(show ∃t,u=Value.float y t from rx);cases q;exact W.kia_one W.kitx_float I.kIn True.intro e (fun z=>nomatch z) h
 | @lst a xs ea =>
  cases (show u=Value.ref a from rx)
  obtain ⟨_,_,n,_,h1⟩:=(show ObjOk X.prog X.w H s.heap a (.lst xs) from I.hok a _ ea)
  exact W.kia_one W.kitx_list I.kIn ⟨_,h1,rfl⟩ e (fun z=>nomatch z) h
 | @frz a ob xs ea =>
  cases (show u=Value.ref a from rx)
  obtain ⟨_,_,_,n,_,h1⟩:=(show ObjOk X.prog X.w H s.heap a (.frz ob (.lst xs)) from I.hok a _ ea)
  exact W.kia_one W.kitx_list I.kIn ⟨_,h1,rfl⟩ e (fun z=>nomatch z) h
 | @tup a xs ea =>
  cases (show u=Value.ref a from rx)
  obtain ⟨_,_,_,p⟩:=(show ObjOk X.prog X.w H s.heap a (.tup xs) from I.hok a _ ea)
  obtain ⟨o,h1,h2,_⟩:=p
  exact W.kia_one W.kitx_tuple I.kIn ⟨o,h1,h2⟩ e (fun z=>nomatch z) h
 | @dK a kvs ea =>
  cases (show u=Value.ref a from rx)
  obtain ⟨_,_,vs,_,p⟩:=(show ObjOk X.prog X.w H s.heap a (.dK kvs) from I.hok a _ ea)
  obtain ⟨o,es,ep,h1,h2,_⟩:=p
  exact W.kia_one W.kitx_dict I.kIn ⟨o,h1,h2.1⟩ e (fun z=>nomatch z) h
 | @dT a kvs ea =>
  cases (show u=Value.ref a from rx)
  obtain ⟨_,_,xs,_,o,es,ep,h1,h2,_⟩:=(show ObjOk X.prog X.w H s.heap a (.dT kvs) from I.hok a _ ea)
  exact W.kia_one W.kitx_dict I.kIn ⟨o,h1,h2.1⟩ e (fun z=>nomatch z) h
 | @ins a C dx fs ea cl ha hn htk hm =>
  cases (show u=Value.ref a from rx)
  obtain ⟨mA,O,_⟩:=a6B I.hok ea
  obtain ⟨od,J,_⟩:=O.look
  exact W.kia_one (W.kitx_own (cl.get _) cl.hd ha hn htk hm) I.kIn J e (fun z=>nomatch z) h
end
end L2
namespace L2
open PySem PySem.Spec PyProof.Rows
structure Room (k:Nat) (A:Around):Prop where
 hd:A.handled=none
 dp:A.depth+3*k+5<recursionLimit
 un:A.units+16*k+200<cLine
theorem Room.mono {j k:Nat}{A:Around} (r:Room k A) (h:j<=k):Room j A:=⟨r.hd,by have:=r.dp;lia,by have:=r.un;lia⟩
theorem Room.deeper {k:Nat}{A:Around} (r:Room (k+1) A) (env:Env):Room k (A.deeper env):=
 ⟨r.hd,by have:=r.dp;show A.depth+1+3*k+5<_;lia,by have:=r.un;show A.units+3+16*k+200<_;lia⟩
theorem Room.depth {k:Nat}{A:Around} (r:Room k A):A.depth<recursionLimit:=by have:=r.dp;lia
theorem Room.units {k:Nat}{A:Around} (r:Room k A):A.units+64<cLine:=by have:=r.un;lia
noncomputable def tNil:TA:=fun _ H Q=>Q [] H
noncomputable def a3r (ta:TE) (tr:TA):TA:=fun σ H Q=>ta σ H fun x H1=>tr σ H1 fun xs H2=>Q (x::xs) H2
section
variable {X:Cx}{e:Expr}{es:List Expr}{te:TE}{t:TA}{pos:Pos}
theorem pa_nil:PA X [] tNil:=fun _ _ _ _ H Q I h=>Calls.spliced_nil ⟨[],H,I,.nil,h⟩
theorem b5 (ha:PE X e te) (hr:PA X es t) (hs:starEach (e::es) X.env=(false,eval e X.env)::starEach es X.env:=by rfl):PA X (e::es) (a3r te t):=by
 intro pos pins s σ H Q I h
 rw[hs]
 show wpAny _ _ (spliced ((false,eval e X.env)::backTo pos (starEach es X.env))) _ _ s
 refine Calls.spliced_cons (f7 (ha pins s σ H _ I h) fun u s1 ⟨x,H1,I1,r1,q1⟩=>?_)
 exact f7 (hr pos pins s1 σ H1 _ I1 q1) fun us s2 ⟨xs,H2,I2,r2,q2⟩=>⟨x::xs,H2,I2,.cons r1 r2,q2⟩
noncomputable def a9i (t:TA):TE:=fun σ H Q=>t σ H fun xs H1=>xs.length<=sizeLine/\∀p,H1 p=none->Q (.ref p) (b7 H1 p (.tup xs))
noncomputable def a9t (t:TA):TE:=fun σ H Q=>t σ H fun xs H1=>xs.length<=sizeLine/\∀p,H1 p=none->Q (.ref p) (b7 H1 p (.lst xs))
theorem u3 {x1} (h:PA X es t):PE X (.Tuple es x1 pos) (a9i t):=by
 intro pins s σ H Q I hq
 refine wpAny_Tuple_spliced (f7 (h pos pins s σ H _ I hq) fun us s1 ⟨xs,H1,I1,r,z,q⟩=>⟨by rw[<- r.length];exact z,?_⟩)
 have hf:H1 s1.heap.objs.size=none:=I1.hok.fresh (Nat.le_refl _)
 refine ⟨.ref s1.heap.objs.size,b7 H1 s1.heap.objs.size (.tup xs),I1.laid (t':=s1.toks) (fun b u e=>Heap.get?_push_of_some _ e) (Nat.le_refl _) ?_,rfl,q _ hf⟩
 exact ⟨z,us,r,⟨_,Heap.get?_push_size _ rfl,rfl,_,rfl⟩⟩
theorem D4 (h:PA X es t):PE X (.List es pos) (a9t t):=by
 intro pins s σ H Q I hq
 refine wpAny_List_spliced (f7 (h pos pins s σ H _ I hq) fun us s1 ⟨xs,H1,I1,r,z,q⟩=>⟨by rw[<- r.length];exact z,?_⟩)
 have hf:H1 s1.heap.objs.size=none:=I1.hok.fresh (Nat.le_refl _)
 refine ⟨.ref s1.heap.objs.size,b7 H1 s1.heap.objs.size (.lst xs),I1.laid (t':=s1.toks) (fun b u e=>Heap.get?_push_of_some _ e) (Nat.le_refl _) ?_,rfl,q _ hf⟩
 exact ⟨z,us,0,r,Heap.get?_push_size _ rfl⟩
end
noncomputable abbrev Sp:=List V->Hp->VK->XK->Prop
noncomputable abbrev CXT:=List Env->Hp->Shared->XK->Value->Shared->Prop
structure Env0 (P:Program) (w:World) (K:W.Frag) (mg:Str->Option Value) (base:Heap) (A:Around) (outer:List Env) (s:Shared) (H:Hp):Prop where
 frames:A.frames=some outer
 mod:Mod K mg base
 bs:∀b o,base.get? b=some o->s.heap.get? b=some o/\H b=none
 bsz:base.objs.size<=s.heap.objs.size
 funs:s.heap.FunFrames base outer
 frf:∀b∈G3 outer,H b=none
 hok:HOk P w H s.heap
 bare:AllBare s.gens
noncomputable def CE (outer:List Env) (P:Program) (w:World) (H:Hp) (s:Shared) (Q:VK) (u:Value) (s':Shared):Prop :=
 ∃v H',s'.os=s.os/\AllBare s'.gens/\Un (G3 outer) [] H H' s.heap s'.heap/\HOk P w H' s'.heap/\RelV v u/\Q v H'
noncomputable def CR (CX:CXT) (outer:List Env) (P:Program) (w:World) (H:Hp) (s:Shared) (Q:VK) (E:XK) (r:Result) (s':Shared):Prop :=
 match r with
 | .ok (.ret u)=>CE outer P w H s Q u s'
 | .ok _=>False
 | .error e=>CX outer H s E e s'
structure FnOk (P:Program) (w:World) (K:W.Frag) (mg:Str->Option Value) (base:Heap) (CX:CXT) (k:Nat) (f:Addr) (fd:FuncData) (ps:List Str) (sp:Sp):Prop where
 len:∀vs H Q E,sp vs H Q E->vs.length=ps.length
 run:∀(A:Around) (outer:List Env) (s:Shared) (H:Hp) (args:Args) (us:List Value) (vs:List V) (Q:VK) (E:XK),Room k A->Env0 P w K mg base A outer s H->BindsTo s fd args (ps.zip us)->Vals vs us->sp vs H Q E ->
  codeAny (model P w) A (.call (.ref f) args) (CR CX outer P w H s Q E) s
theorem FnOk.mono {P:Program}{w:World}{K:W.Frag}{mg:Str->Option Value}{base:Heap}{CX:CXT}{j k:Nat}{f:Addr}{fd:FuncData}{ps:List Str}{sp:Sp} (F:FnOk P w K mg base CX j f fd ps sp) (h:j<=k):
  FnOk P w K mg base CX k f fd ps sp:=⟨F.len,fun A outer s H args us vs Q E hr=>F.run A outer s H args us vs Q E (hr.mono h)⟩
section
variable {X:Cx}{pins:List (Addr × Obj)}{σ:St}{H:Hp}{s s':Shared}
theorem Inv.env0 (I:Inv X pins σ H s):Env0 X.prog X.w X.K X.mg X.base X.A X.stack s H :=
 ⟨I.ok.frames,I.ok.mod,I.bs,Nat.le_trans I.ok.bsz I.sz,I.stack,I.stkFree,I.hok,I.bare⟩
theorem Inv.after {Q:VK}{u:Value} (I:Inv X pins σ H s) (h:CE X.stack X.prog X.w H s Q u s'):EP X pins σ Q u s':=by
 obtain ⟨v,H',os,bare,un,hok,r,q⟩:=h
 obtain ⟨hh,g,d,t,os'⟩:=s'
 obtain rfl:os'=s.os:=os
 exact ⟨v,H',I.call (h':=hh) (g':=g) (d':=d) (t':=t) (ch:=[]) un hok bare (fun b z=>absurd z (by simp)),r,q⟩
end
noncomputable def a3y (sp:Sp) (dvs:List V) (E:XK) (t:TA):TE:=fun σ H Q=>t σ H fun vs H1=>sp (vs++dvs) H1 Q E
noncomputable def Binds (K:W.Frag) (fd:FuncData) (ps:List Str) (ds:List Value):Prop :=
 ∀(s:Shared) (us:List Value),K.In s.heap->(us++ds).length=ps.length->BindsTo s fd ⟨us,[]⟩ (ps.zip (us++ds))
theorem Binds.all {K:W.Frag}{fd:FuncData}{ps:List Str} (h:∀us:List Value,us.length=ps.length->bindArgs fd ⟨us,[]⟩=pure (ps.zip us)):Binds K fd ps []:=fun s us _ hl=>by
 rw[List.append_nil] at hl ⊢
 exact .of_eq (h us hl)
noncomputable def O7 (CX:CXT) (X:Cx) (E:XK):Prop:=∀(pins:List (Addr × Obj)) (σ:St) (H:Hp) (s:Shared) (e:Value) (s':Shared),Inv X pins σ H s->CX X.stack H s E e s'->X.xe e s'
section
variable {X:Cx}{CX:CXT}{k:Nat}{f C:Addr}{fd:FuncData}{ps:List Str}{sp:Sp}{dvs:List V}{ds:List Value}{E:XK}{x m:Str}{p pos apos:Pos}{e o:Expr}{es:List Expr}{ta:TE}{t:TA}
theorem a7R {pins:List (Addr × Obj)}{σ:St}{H:Hp}{s:Shared}{Q:VK}{us:List Value}{vs:List V} (F:FnOk X.prog X.w X.K X.mg X.base CX k f fd ps sp) (hr:Room k X.A) (hb:Binds X.K fd ps ds) (hd:Vals dvs ds) (hx:O7 CX X E)
  (I:Inv X pins σ H s) (r:Vals vs us) (h:sp (vs++dvs) H Q E):wpAny (model X.prog X.w) X.A (call (.ref f) us) (EP X pins σ Q) X.xe s:=by
 have r2:Vals (vs++dvs) (us++ds):=r.append hd
 have hl:(us++ds).length=ps.length:=by rw[<- r2.length];exact F.len _ _ _ _ h
 refine wpAny_call (codeAny_mono (F.run X.A X.stack s H ⟨us,[]⟩ (us++ds) (vs++dvs) Q E hr I.env0 (hb s us I.kIn hl) r2 h) fun r s' hq=>?_)
 cases r with
 | error e=>exact hx pins σ H s e s' I hq
 | ok fl =>
  cases fl with
  | ret u=>exact I.after hq
  | next=>exact False.elim hq
  | brk=>exact False.elim hq
  | cont=>exact False.elim hq
theorem a2H (F:FnOk X.prog X.w X.K X.mg X.base CX k f fd ps sp) (hr:Room k X.A) (hg:Gl X x) (hm:X.mg x=some (.ref f)) (hk:W.keepIn X.K (.ref f)=true) (hb:Binds X.K fd ps ds) (hd:Vals dvs ds) (hx:O7 CX X E)
  (ha:PA X (e::es) t) (hdb:(x == ("__debug__":Str))=false:=by decide) (he:starEach (e::es) X.env=(false,eval e X.env)::starEach es X.env:=by rfl) (hpl:(backTo pos (starEach es X.env)).any (·.1)=false:=by rfl):
  PE X (.Call (.Name x p) (e::es) [] pos) (a3y sp dvs E t):=by
 intro pins s σ H Q I h
 refine wpAny_Call_Name_kw (a0c I hg hm ?_ hdb)
 refine W.callWith_K (h₀:=X.base) I.ok.mod.kin hk (f7 (ha pos pins s σ H _ I h) fun us s1 ⟨vs,H1,I1,r,q⟩=>⟨I1.kIn,?_⟩) he hpl
 exact a7R F hr hb hd hx I1 r q
structure Mk (K:W.Frag) (C f:Addr):Prop where
 makes:W.makesIn K C=true
 init:W.findIn K (.ref C) "__init__"=some (some (.ref f))
 fn:W.isFn K (.ref f)=true
 kp:W.keepIn K (.ref C)=true
end
section
variable {X:Cx}{CX:CXT}{k:Nat}{f C:Addr}{fd:FuncData}{ps ks:List Str}{sp:Sp}{E:XK}{x m:Str}{p pos apos kpos:Pos}{e o:Expr}{es:List Expr}{kws:List Keyword}{te ta:TE}{t tk:TA}{nm:Option Str}
structure KBinds (K:W.Frag) (fd:FuncData) (ps ks:List Str) (g:List Value->List Value->List Value) (gV:List V->List V->List V):Prop where
 to:∀(s:Shared) (us ws:List Value),K.In s.heap->(g us ws).length=ps.length->BindsTo s fd ⟨us,ks.zip ws⟩ (ps.zip (g us ws))
 rel:∀{vs:List V}{us:List Value}{zs:List V}{ws:List Value},Vals vs us->Vals zs ws->Vals (gV vs zs) (g us ws)
variable {g:List Value->List Value->List Value}{gV:List V->List V->List V}
end
structure FnScope (N P:List Str) (sc:Scope):Prop where
 kind:sc.kind=.function
 co:sc.isCoroutine=false
 gen:sc.isGenerator=false
 nd:N.Nodup
 pre:N.take P.length=P
 par:∀x∈P,sc.names.lookup x=some .local ∨ sc.names.lookup x=some .cell
 nofree:∀y∈sc.names,y.2≠.free
theorem a0H {kindOf:Str->Option NameKind}{x:Str}:∀{binds:List (Str × Value)}{m:Str->Option Value},(∀v,(x,v) ∉ binds)->bindL kindOf binds m x=m x
 | [],_,_=>rfl
 | (n,v)::r,m,h=>by
  unfold bindL
  rw[a0H fun w hw=>h w (List.mem_cons_of_mem _ hw)]
  split
  ·have:x≠n:=by rintro rfl;exact h v List.mem_cons_self
   simp[this]
  ·rfl
theorem a0I {kindOf:Str->Option NameKind}{x:Str}:∀{binds:List (Str × Value)}{m:Str->Option Value},(∀v,(x,v) ∉ binds)->bindC kindOf binds m x=m x
 | [],_,_=>rfl
 | (n,v)::r,m,h=>by
  unfold bindC
  rw[a0I fun w hw=>h w (List.mem_cons_of_mem _ hw)]
  split
  ·rfl
  ·have:x≠n:=by rintro rfl;exact h v List.mem_cons_self
   simp[this]
theorem a0v {kindOf:Str->Option NameKind}{x:Str}{v:Value}:∀{P:List Str}{vs:List Value}{i:Nat}{m:Str->Option Value},P.Nodup->P[i]?=some x->vs[i]?=some v->kindOf x=some .local ->
  bindL kindOf (P.zip vs) m x=some v
 | [],_,_,_,_,h,_,_=>by simp at h
 | _::_,[],_,_,_,_,h,_=>by simp at h
 | p::P,w::vs,0,m,nd,h1,h2,hk=>by
  simp at h1 h2;subst h1;subst h2
  show bindL kindOf ((p,w)::P.zip vs) m p=_
  unfold bindL
  rw[a0H fun v hv=>(List.nodup_cons.mp nd).1 (List.of_mem_zip hv).1,if_pos hk]
  simp
 | p::P,w::vs,i+1,m,nd,h1,h2,hk=>by
  show bindL kindOf ((p,w)::P.zip vs) m x=_
  unfold bindL
  exact a0v (i:=i) (List.nodup_cons.mp nd).2 (by simpa using h1) (by simpa using h2) hk
theorem a0r {kindOf:Str->Option NameKind}{x:Str}{v:Value}:∀{P:List Str}{vs:List Value}{i:Nat}{m:Str->Option Value},P.Nodup->P[i]?=some x->vs[i]?=some v->kindOf x≠some .local ->
  bindC kindOf (P.zip vs) m x=some v
 | [],_,_,_,_,h,_,_=>by simp at h
 | _::_,[],_,_,_,_,h,_=>by simp at h
 | p::P,w::vs,0,m,nd,h1,h2,hk=>by
  simp at h1 h2;subst h1;subst h2
  show bindC kindOf ((p,w)::P.zip vs) m p=_
  unfold bindC
  rw[a0I fun v hv=>(List.nodup_cons.mp nd).1 (List.of_mem_zip hv).1,if_neg hk]
  simp
 | p::P,w::vs,i+1,m,nd,h1,h2,hk=>by
  show bindC kindOf ((p,w)::P.zip vs) m x=_
  unfold bindC
  exact a0r (i:=i) (List.nodup_cons.mp nd).2 (by simpa using h1) (by simpa using h2) hk
noncomputable def start (N:List Str) (vs:List V):St:=vs.map some++List.replicate (N.length - vs.length) none
noncomputable def C3 (CX:CXT) (P:Program) (w:World) (K:W.Frag) (mg:Str->Option Value) (base:Heap) (N:List Str) (qual:Str) (scope:Scope) (f:Addr) (cd:Value) (A:Around) (outer:List Env) (s:Shared) (H:Hp) (E:XK):Cx where
 prog:=P
 w:=w
 K:=K
 mg:=mg
 base:=base
 A:=A.deeper (envOfC qual scope s.heap.objs.size f cd)
 N:=N
 s₀:=s
 H₀:=H
 env:=envOfC qual scope s.heap.objs.size f cd
 outer:=outer
 stack:=envOfC qual scope s.heap.objs.size f cd::outer
 ex:=[]
 calm:=true
 fn:=fun _=>true
 pn:=[]
 xe:=fun e s'=>wpAny (model P w) (A.deeper (envOfC qual scope s.heap.objs.size f cd)) (leaving (envOfC qual scope s.heap.objs.size f cd) e) (fun _ s''=>CX outer H s E e s'') (fun e' s''=>CX outer H s E e' s'') s'
theorem Q4 {sc:Scope}{n:Nat}{x:Str} (h:sc.names.lookup x=some .cell):∃c,(cellsFrom n sc.names []).lookup x=some c:=by
 have q:=W.cellsFrom_some sc.names n [] (.inl h)
 exact Option.isSome_iff_exists.mp q
theorem a0O {CX:CXT}{P:Program}{w:World}{K:W.Frag}{mg:Str->Option Value}{base:Heap}{N ps:List Str}{qual:Str}{scope:Scope}{f:Addr}{cd:Value}{A:Around}{outer:List Env}{s s1:Shared}{H:Hp}{E:XK}{us:List Value}{vs:List V}
  (S:FnScope N ps scope) (hd:A.handled=none) (e0:Env0 P w K mg base A outer s H) (hl:vs.length=ps.length) (r:Vals vs us)
  (x:InCallC s s.heap.objs.size (bindL (envOfC qual scope s.heap.objs.size f cd).kindOf (ps.zip us) fun _=>none) (cellsFrom (s.heap.objs.size+1) scope.names []) (bindC (envOfC qual scope s.heap.objs.size f cd).kindOf (ps.zip us) fun _=>none) s1):
  Inv (C3 CX P w K mg base N qual scope f cd A outer s H E) [] (start N vs) H s1:=by
 have hpl:ps.length<=N.length:=by have:=congrArg List.length S.pre;rw[List.length_take] at this;lia
 obtain ⟨h1,tk,rfl,hk⟩:=x.done
 have noA:∀b:Addr,b ∉ (C3 CX P w K mg base N qual scope f cd A outer s H E).ex:=fun b z=>absurd (show b∈([]:List Addr) from z) (by simp)
 refine ⟨⟨e0.mod,S.kind,rfl,rfl,Nat.le_refl _,fun y z c h1 h2=>?_,fun y hy=>?_,fun y c _ h=>?_,fun _=>hd,Around.frames_deeper e0.frames,.inr ⟨rfl,rfl⟩,fun b z=>absurd z (noA b),e0.bs,e0.bsz,fun b _ _=>noA b,fun b z=>absurd z (noA b),e0.funs,e0.frf⟩,
  rfl,e0.bare,Un.kept hk,⟨_,x.toInCall.ns,fun i y v h1 h2 h3=>?_⟩,fun y c h=>⟨_,x.cell y c h⟩,e0.hok.fresh (Nat.le_refl _),fun y c h=>?_,fun p hp=>absurd (show p∈([]:List (Addr × Obj)) from hp) (by simp),e0.hok.kept hk,?_⟩
 ·exact name_of_addr x.apart (PySem.mem_of_lookup h1) (PySem.mem_of_lookup h2)
 ·have hy:scope.names.lookup y=some .cell ∨ scope.names.lookup y=some .free:=hy
  rcases hy with hy|hy
  ·exact Q4 hy
  ·exact absurd rfl (S.nofree _ (PySem.mem_of_lookup hy))
 ·exact Nat.le_of_lt (x.above y c (PySem.mem_of_lookup h))
 ·have hi:i<vs.length:=by
   unfold start at h2
   by_cases hi:i<vs.length
   ·exact hi
   ·rw[List.getElem?_append_right (by simpa using hi)] at h2
    rw[List.getElem?_replicate] at h2
    split at h2 <;> cases h2
  have ha:vs[i]?=some v:=by
   unfold start at h2
   rw[List.getElem?_append_left (by simpa using hi),List.getElem?_map] at h2
   cases e:vs[i]? with
   | none=>rw[e] at h2;cases h2
   | some a=>rw[e] at h2;cases h2;rfl
  obtain ⟨u,hu,rv⟩:=r.get ha
  have hp:ps[i]?=some y:=by
   rw[<- S.pre,List.getElem?_take_of_lt (by lia)];exact h1
  have ndP:ps.Nodup:=by rw[<- S.pre];exact S.nd.sublist (List.take_sublist _ _)
  refine ⟨u,rv,?_⟩
  rcases S.par y (List.mem_of_getElem? hp) with k|k
  ·exact .inl ⟨k,a0v ndP hp hu k⟩
  ·obtain ⟨c,e⟩:=Q4 (n:=s.heap.objs.size+1) k
   refine .inr ⟨.inl k,c,e,?_⟩
   have q:=x.cell y c e
   rw[a0r ndP hp hu (by show scope.names.lookup y≠_;rw[k];decide)] at q
   exact q
 ·exact e0.hok.fresh (Nat.le_of_lt (x.above y c (PySem.mem_of_lookup h)))
 ·unfold start
  show _=N.length
  rw[List.length_append,List.length_map,List.length_replicate]
  lia
theorem a6f {CX:CXT}{P:Program}{w:World}{K:W.Frag}{mg:Str->Option Value}{base:Heap}{k:Nat}{f:Addr}{name qual:Str}{params:Arguments}{body:List Stmt}{scope:Scope}{dV kV doc pm cdv ct oc:Value}{an od:Option Addr}
  {osl:Array (Option Value)}{N ps:List Str}{sp:Sp} (lk:K.lookup f=some ⟨oc,od,.func (W.fnOf name qual params body scope dV kV doc pm an cdv ct),osl⟩) (hcd:W.codeIn K cdv qual=true) (S:FnScope N ps scope)
  (len:∀vs H Q E,sp vs H Q E->vs.length=ps.length)
  (hbody:∀(A:Around) (outer:List Env) (s:Shared) (H:Hp) (vs:List V) (Q:VK) (E:XK),Room k (A.deeper (envOfC qual scope s.heap.objs.size f cdv))->sp vs H Q E ->
   ∃t,PSs (C3 CX P w K mg base N qual scope f cdv A outer s H E) body t/\t { nx:=fun _ H'=>Q .non H',rt:=Q } (start N vs) H):
  FnOk P w K mg base CX (k+1) f (W.fnOf name qual params body scope dV kV doc pm an cdv ct) ps sp:=by
 refine ⟨len,fun A outer s H args us vs Q E hr e0 hb r hsp=>?_⟩
 have hl:=len _ _ _ _ hsp
 have KX:K.In s.heap:=e0.mod.kin.keeps fun b o e=>(e0.bs b o e).1
 have lim:s.heap.NoLimit:=e0.mod.nolimit.keeps fun b o e=>(e0.bs b o e).1
 have hkind:∀y∈ps.zip us,scope.names.lookup y.1=some .local ∨ (scope.names.lookup y.1=some .cell/\((cellsFrom (s.heap.objs.size+1) scope.names []).lookup y.1).isSome=true):=fun ⟨n,v⟩ hy=>by
  rcases S.par n (List.of_mem_zip hy).1 with q|q
  ·exact .inl q
  ·exact .inr ⟨q,W.cellsFrom_some _ _ _ (.inl q)⟩
 refine codeAny_call_function hr.depth (KX _ _ lk) rfl S.co S.gen rfl (W.codeRec_of KX hcd) (hb _ _ _ _ ?_)
 refine wpAny_newFunctionEnv_cells S.kind hkind fun env he s1 x=>?_
 subst he
 refine ⟨lim.keeps x.toInCall.keep,codeAny_func ?_⟩
 obtain ⟨t,ht,hq⟩:=hbody A outer s H vs Q E (hr.deeper _) hsp
 have I:Inv (C3 CX P w K mg base N qual scope f cdv A outer s H E) [] (start N vs) H s1:=a0O S hr.hd e0 hl r x
 refine wpAny_mono (ht [] s1 (start N vs) H _ I hq) (fun fl s' hs=>?_) fun e s' hs=>hs
 have fin:∀{σ':St}{H':Hp}{v:V}{u:Value},Inv (C3 CX P w K mg base N qual scope f cdv A outer s H E) [] σ' H' s'->RelV v u->Q v H'->CE outer P w H s Q u s' :=
  fun {σ' H' v u} J rv q=>⟨v,H',J.os,J.bare,J.base,J.hok,rv,q⟩
 cases fl with
 | ret u =>
  obtain ⟨v,σ',H',J,rv,q⟩:=hs
  exact fin J rv q
 | next =>
  obtain ⟨σ',H',J,q⟩:=hs
  exact fin (v:=V.non) (u:=Value.none) J rfl q
 | brk =>
  obtain ⟨_,_,_,q⟩:=hs
  exact False.elim q
 | cont =>
  obtain ⟨_,_,_,q⟩:=hs
  exact False.elim q
end L2
namespace L2
open PySem PySem.Spec PyProof.Rows
section
variable {X:Cx}{x:Str}{p pos:Pos}{e:Expr}{es:List Expr}{t:TA}{id T:String}{r:List V->Hp->VK->Prop}
noncomputable def tCB (r:List V->Hp->VK->Prop) (t:TA):TE:=fun σ H Q=>t σ H fun vs H1=>r vs H1 Q
theorem d8 (hc:w5 X (.builtin id) r) (hg:Gl X x) (hm:X.mg x=none) (hv:bootBuiltins x=some (.builtin id)) (ha:PA X (e::es) t) (hn:x≠"__name__":=by decide) (hdb:(x == ("__debug__":Str))=false:=by decide)
  (he:starEach (e::es) X.env=(false,eval e X.env)::starEach es X.env:=by rfl) (hpl:(backTo pos (starEach es X.env)).any (·.1)=false:=by rfl):PE X (.Call (.Name x p) (e::es) [] pos) (tCB r t):=by
 intro pins s σ H Q I h
 refine wpAny_Call_Name_kw (J9 I hg hm hv ?_ hn hdb)
 exact PyProof.Rows.callWith_builtin1 (f7 (ha pos pins s σ H _ I h) fun us s1 ⟨vs,H1,I1,r1,q1⟩=>hc pins s1 σ H1 vs us Q I1 r1 q1) he hpl
theorem i7 (hc:w5 X (.type T) r) (hg:Gl X x) (hm:X.mg x=none) (hv:bootBuiltins x=some (.type T)) (ha:PA X (e::es) t) (hn:x≠"__name__":=by decide) (hdb:(x == ("__debug__":Str))=false:=by decide)
  (he:starEach (e::es) X.env=(false,eval e X.env)::starEach es X.env:=by rfl) (hpl:(backTo pos (starEach es X.env)).any (·.1)=false:=by rfl):PE X (.Call (.Name x p) (e::es) [] pos) (tCB r t):=by
 intro pins s σ H Q I h
 refine wpAny_Call_Name_kw (J9 I hg hm hv ?_ hn hdb)
 exact PyProof.Rows.callWith_type1 (f7 (ha pos pins s σ H _ I h) fun us s1 ⟨vs,H1,I1,r1,q1⟩=>hc pins s1 σ H1 vs us Q I1 r1 q1) he hpl
end
end L2
namespace HT
open PySem PyProof.Rows
noncomputable def lexLt:List Int->List Int->Bool
 | [],[]=>false
 | [],_::_=>true
 | _::_,[]=>false
 | x::xs,y::ys=>if x=y then lexLt xs ys else decide (x<y)
theorem A0 (x y:Int) (xs ys:List Int):lexLt (x::xs) (y::ys)=if x=y then lexLt xs ys else decide (x<y):=rfl
theorem lexLt_nil_nil:lexLt [] []=false:=rfl
theorem D8 (y:Int) (ys:List Int):lexLt [] (y::ys)=true:=rfl
theorem B8 (x:Int) (xs:List Int):lexLt (x::xs) []=false:=rfl
theorem a05 (A:Around) (s:Shared) (a:Int) (t:Tok) (c:Int) (u:Tok):∃e,SeqAt.EqAt A s (.int a t) (.int c u) e/\(e=true ↔ a=c):=
 ⟨(a == c),SeqAt.EqAt.int_int a t c u,by simp⟩
theorem a5I (A:Around) (s:Shared) (a:Int) (t:Tok) (c:Int) (u:Tok) (prog:Program) (w:World) (E:Value->Shared->Prop) (Q:Value->Shared->Prop) (h:Q (.bool (decide (a<c))) s):
  wpAny (model prog w) A (richCompare .Lt (.int a t) (.int c u)) Q E s :=
 (PyProof.Rows.lt_int h:wpAny (model prog w) A (compareOp .Lt (.int a t) (.int c u)) Q E s)
section
open PySem.SeqAt
open PySem.AutoSeq1 (wpAny_loadPart')
open PySem.MeetsSeq PySem.MeetsSeq2 PySem.MeetsSeq3
theorem a0V (l b:Addr) (items items2:Array Value) (n n2:Nat) (dd dd2:Option Addr) (sl sl2:Array (Option Value)) (ns ms:List Int) (hi:IntsAre items.toList ns) (hj:IntsAre items2.toList ms):
  Meets (Builtin.«tuple.__lt__» ⟨[.ref l,.ref b],[]⟩)
   (fun _ R s=>s.heap.get? l=some { cls:=.type "tuple",dict:=dd,data:=.seq items n,slots:=sl }/\s.heap.get? b=some { cls:=.type "tuple",dict:=dd2,data:=.seq items2 n2,slots:=sl2 } /\
    R (.ok (.ret (.bool (lexLt ns ms)))) s):=
 .of_wp fun prog w A R s h=>by
  obtain ⟨hp,g,d,tk,os⟩:=s;obtain ⟨hl,hb,h⟩:=h
  have f2:=AutoSeq1.sub_tuple_tuple
  have z1:items.size=ns.length:=by rw[<- hi.length];simp
  have z2:items2.size=ms.length:=by rw[<- hj.length];simp
  wp_walk using wpAny_loadPart' hl,wpAny_loadPart' hb,wpAny_forIn_list _ (fun m7 b s'=>b.1=none/\s'=⟨hp,g,d,tk,os⟩/\∃(vs ws:List Value) (ns' ms':List Int),m7=vs.zip ws /\
   IntsAre vs ns'/\IntsAre ws ms'/\ns'.length+items2.size=ms'.length+items.size/\R (.ok (.ret (.bool (lexLt ns' ms')))) ⟨hp,g,d,tk,os⟩) _
  case turn =>
   rintro ⟨y,x⟩ m7 b s' ⟨hb',rfl,vs,ws,ns',ms',hz,hvi,hwi,hlen,hR⟩
   cases hvi with
   | nil=>rw[List.zip_nil_left] at hz;cases hz
   | cons a t hvi' =>
    cases hwi with
    | nil=>rw[List.zip_nil_right] at hz;cases hz
    | cons c u hwi' =>
     rw[List.zip_cons_cons] at hz
     injection hz with hyx hrest
     injection hyx with hy hx
     subst hy hx
     rw[A0] at hR
     simp only[List.length_cons] at hlen
     obtain ⟨e,he,hiff⟩:=a05 A.in1 ⟨hp,g,d,tk,os⟩ a t c u
     refine wpAny_bind (he prog w _ _ ?_)
     cases e with
     | true =>
      rw[if_pos (hiff.mp rfl)] at hR
      wp_walk
      exact ⟨rfl,rfl,_,_,_,_,hrest,hvi',hwi',by lia,hR⟩
     | false =>
      rw[if_neg (fun q=>absurd (hiff.mpr q) Bool.false_ne_true)] at hR
      have hri:=a5I A.in1 ⟨hp,g,d,tk,os⟩ a t c u prog w
      wp_walk using hri
      exact ⟨_,rfl,by simpa using hR⟩
  case fin =>
   rintro ⟨b1,b2⟩ s' ⟨hb',rfl,vs,ws,ns',ms',hz,hvi,hwi,hlen,hR⟩
   simp only at hb'
   subst hb'
   have hv:lexLt ns' ms'=decide (items.size<items2.size):=by
    cases hvi with
    | nil =>
     cases hwi with
     | nil =>
      simp only[List.length_nil] at hlen
      rw[lexLt_nil_nil]
      exact (decide_eq_false (by lia)).symm
     | cons c u hw =>
      simp only[List.length_nil,List.length_cons] at hlen
      rw[D8]
      exact (decide_eq_true (by lia)).symm
    | cons a t hv =>
     cases hwi with
     | nil =>
      simp only[List.length_nil,List.length_cons] at hlen
      rw[B8]
      exact (decide_eq_false (by lia)).symm
     | cons c u hw =>
      rw[List.zip_cons_cons] at hz
      cases hz
   rw[hv] at hR
   wp_walk
   exact ⟨_,rfl,by simpa [Builtin.Tuple.tupleCompareSizes] using hR⟩
  case h =>
   exact ⟨rfl,rfl,items.toList,items2.toList,ns,ms,rfl,hi,hj,by lia,h⟩
end
section
variable {prog:Program}{w:World}{A:Around}{E:Value->Shared->Prop}{s:Shared}
theorem lt_tupInts {l b:Addr}{items items2:Array Value}{ns ms:List Int}{Q:Value->Shared->Prop} (hl:IsTup s.heap l items) (hb:IsTup s.heap b items2) (hi:IntsAre items.toList ns) (hj:IntsAre items2.toList ms)
  (hu:A.units<cLine) (h:Q (.bool (lexLt ns ms)) s):wpAny (model prog w) A (compareOp .Lt (.ref l) (.ref b)) Q E s:=by
 obtain ⟨⟨cls,dd,data,sl⟩,ho,hc,n,hd⟩:=id hl
 obtain ⟨⟨cls2,dd2,data2,sl2⟩,ho2,hc2,n2,hd2⟩:=id hb
 simp only at hc hd hc2 hd2
 subst hc hd hc2 hd2
 exact richCompare_meets_room (op:=.Lt) ⟨_,ho,rfl⟩ ⟨_,ho2,rfl⟩ PySem.F.slot_tuple_lt PySem.F.entry_tuple_lt (PySem.F.args_tuple_lt_2 _ _) (a0V l b items items2 n n2 dd dd2 sl sl2 ns ms hi hj)
  ⟨ho,ho2,show Value.bool (lexLt ns ms)≠Value.notImplemented/\Q (.bool (lexLt ns ms)) s from ⟨(fun x=>nomatch x),h⟩⟩ hu
theorem cat_tup {t b:Addr}{vs ws:List Value}{Q:Value->Shared->Prop} (ht:IsTup s.heap t vs.toArray) (hb:IsTup s.heap b ws.toArray) (hv:vs≠[])
  (h1:ws=[]->Q (.ref t) s) (h2:ws≠[]->Q (.ref s.heap.objs.size) { s with heap:=s.heap.push { cls:=.type "tuple",data:=.seq (vs++ws).toArray } })
  (hsz:vs.length+ws.length<=sizeLine):wpAny (model prog w) A (binaryOp .Add (.ref t) (.ref b)) Q E s:=by
 obtain ⟨⟨cls,dd,data,sl⟩,ho,hc,n,hd⟩:=id ht
 obtain ⟨⟨cls2,dd2,data2,sl2⟩,ho2,hc2,n2,hd2⟩:=id hb
 simp only at hc hd hc2 hd2
 subst hc hd hc2 hd2
 have e:vs.toArray++ws.toArray=(vs++ws).toArray:=by simp
 by_cases hw:ws=[]
 ·exact concat_meets ⟨_,ho,rfl⟩ ⟨_,ho2,rfl⟩ noFill_tuple_add seq_tuple_add PySem.F.slot_tuple_add PySem.F.entry_tuple_add (PySem.F.args_tuple_add_2 _ _)
   (tuple_addW1 t b vs.toArray ws.toArray n n2 dd dd2 sl sl2 (by simpa using hv) (by simp[hw])) ⟨ho,ho2,h1 hw⟩
 ·refine concat_meets ⟨_,ho,rfl⟩ ⟨_,ho2,rfl⟩ noFill_tuple_add seq_tuple_add PySem.F.slot_tuple_add PySem.F.entry_tuple_add (PySem.F.args_tuple_add_2 _ _)
   (tuple_addW2 t b vs.toArray ws.toArray n n2 dd dd2 sl sl2 (by simpa using hv) (by simpa using hw) (by rw[List.size_toArray,List.size_toArray];exact hsz)) ⟨ho,ho2,?_⟩
  rw[e]
  exact h2 hw
noncomputable def sIx (n d:Nat):Option Int->Nat
 | none=>d
 | some v=>if v<0 then (v+(n:Int)).toNat else min v.toNat n
theorem sIx_none (n d:Nat):sIx n d none=d:=rfl
theorem sIx_nat (n d k:Nat):sIx n d (some (k:Int))=min k n:=by
 show (if (k:Int)<0 then ((k:Int)+(n:Int)).toNat else min (k:Int).toNat n)=min k n
 rw[if_neg (by lia),Int.toNat_natCast]
theorem a7F (n d:Nat) (hd:d<=n) (o:Option Int):sIx n d o<=n:=by
 cases o with
 | none=>exact hd
 | some v =>
  show (if v<0 then (v+(n:Int)).toNat else min v.toNat n)<=n
  by_cases hv:v<0
  ·rw[if_pos hv];lia
  ·rw[if_neg hv];exact Nat.min_le_right _ _
theorem a2r (v:Int) (n d:Nat):(if v<0 then max (v+(n:Int)) 0 else min v (n:Int))=((sIx n d (some v):Nat):Int):=by
 show (if v<0 then max (v+(n:Int)) 0 else min v (n:Int))=(((if v<0 then (v+(n:Int)).toNat else min v.toNat n):Nat):Int)
 by_cases hv:v<0
 ·simp only[if_pos hv];lia
 ·simp only[if_neg hv];lia
theorem a3D (lo hi:Option Int) (n:Nat):Builtin.Slice.sliceAdjust lo hi 1 (n:Int)=(((sIx n 0 lo:Nat):Int),((sIx n n hi:Nat):Int)):=by
 have h1:¬ ((1:Int)<0):=by lia
 unfold Builtin.Slice.sliceAdjust
 simp only[h1,if_false]
 refine Prod.ext ?_ ?_
 ·cases lo with
  | none=>rfl
  | some v=>exact a2r v n 0
 ·cases hi with
  | none=>rfl
  | some v=>exact a2r v n n
theorem a3F (i j:Nat):Builtin.Slice.slicePlaces (i:Int) (j:Int) 1=j - i:=by
 unfold Builtin.Slice.slicePlaces
 have h1:(1:Int) > 0:=by lia
 simp only[h1,if_true,Int.ediv_one]
 split <;> lia
theorem Y7 {v:Value}{o:Option Int}{Q:Option Int->Shared->Prop} (p:IsPart v o) (h:Q o s):wpAny (model prog w) A (Builtin.Slice.slicePartIndex v) Q E s:=by
 cases p with
 | none=>exact slicePart_none h
 | int i t=>exact slicePart_int h
theorem sliceApplied_gen {sl:Addr}{vl vu:Value}{lo hi:Option Int}{n:Nat}{Q:Int × Int × Nat->Shared->Prop} (hs:s.heap.IsSliceOf sl vl vu .none) (pl:IsPart vl lo) (pu:IsPart vu hi)
  (h:Q (((sIx n 0 lo:Nat):Int),1,sIx n n hi - sIx n 0 lo) s):wpAny (model prog w) A (Builtin.Slice.sliceApplied (.ref sl) (pure (n:Int))) Q E s:=by
 obtain ⟨os,hos,hcs,hds⟩:=id hs
 unfold Builtin.Slice.sliceApplied Builtin.Slice.sliceFields
 refine wpAny_bind (wpAny_bind (wpAny_field hos hds (x:=vl) rfl (wpAny_bind (wpAny_field hos hds (x:=vu) rfl (wpAny_bind (wpAny_field hos hds (x:=.none) rfl (wpAny_pure ?_)))))))
 refine wpAny_bind (slicePart_none ?_)
 show wpAny _ _ (if ((1:Int) == 0)=true then _ else _) _ _ s
 rw[if_neg (by decide)]
 refine wpAny_bind (Y7 pl (wpAny_bind (Y7 pu (wpAny_bind (wpAny_pure ?_)))))
 show wpAny _ _ (match Builtin.Slice.sliceAdjust lo hi 1 (n:Int) with | (lo,hi)=>pure (lo,(1:Int),Builtin.Slice.slicePlaces lo hi 1)) _ _ s
 rw[a3D lo hi n]
 show wpAny _ _ (pure (((sIx n 0 lo:Nat):Int),(1:Int),Builtin.Slice.slicePlaces ((sIx n 0 lo:Nat):Int) ((sIx n n hi:Nat):Int) 1)) _ _ s
 rw[a3F]
 exact wpAny_pure h
theorem a5j (xs:Array Value) (i k:Nat):((List.range k).filterMap fun (m:Nat)=>xs[((i:Int)+(m:Int)*1).toNat]?).toArray=((xs.toList.drop i).take k).toArray:=by
 have e:(fun (m:Nat)=>xs[((i:Int)+(m:Int)*1).toNat]?)=fun m=>xs[i+m]?:=by
  funext m
  have:((i:Int)+(m:Int)*1).toNat=i+m:=by lia
  rw[this]
 rw[e]
 have:=pick_run xs i k
 rw[List.filterMap_map] at this
 have e2:((fun x=>xs[x]?) ∘ fun x=>i+x)=fun m=>xs[i+m]?:=rfl
 rw[e2] at this
 rw[this]
theorem getItem_tuple_cut {t sl:Addr}{items:Array Value}{vl vu:Value}{lo hi:Option Int}{Q:Value->Shared->Prop} (ht:IsTup s.heap t items) (hs:s.heap.IsSliceOf sl vl vu .none) (pl:IsPart vl lo) (pu:IsPart vu hi)
  (hw:¬ (sIx items.size 0 lo=0/\sIx items.size items.size hi=items.size))
  (h:Q (.ref s.heap.objs.size) { s with heap:=s.heap.push { cls:=.type "tuple",data:=.seq ((items.toList.drop (sIx items.size 0 lo)).take (sIx items.size items.size hi - sIx items.size 0 lo)).toArray } })
  (hsz:items.size<=sizeLine):wpAny (model prog w) A (getItem (.ref t) (.ref sl)) Q E s:=by
 have htake:sizeOk (.seq ((items.toList.drop (sIx items.size 0 lo)).take (sIx items.size items.size hi - sIx items.size 0 lo)).toArray):=by
  show ((items.toList.drop (sIx items.size 0 lo)).take (sIx items.size items.size hi - sIx items.size 0 lo)).toArray.size<=sizeLine
  rw[List.size_toArray,List.length_take,List.length_drop,Array.length_toList]
  lia
 have hj:sIx items.size items.size hi<=items.size:=a7F _ _ (Nat.le_refl _) hi
 obtain ⟨os,hos,hcs,hds⟩:=id hs
 have hTs:s.TypeIs (.ref sl) "slice":=⟨os,hos,hcs⟩
 unfold getItem
 try with_reducible refine wpAny_holding ?_
 first|refine wpAny_bind (wpAny_pure ?_)|skip
 refine wpAny_bind (wpAny_sequenceKey ht.typeIs (by decide) ?_)
 refine wpAny_bind (wpAny_callSpecial?_slot (name:=Str.ofString "__getitem__") ht.typeIs PyProof.Rows.slot_tuple_getitem
  (wpAny_call_entry PyProof.Rows.slot_tuple_getitem ht.typeIs entry_tuple_getitem ?_ (args_tuple_getitem _ _)))
 show wpAny _ _ (Builtin.Tuple.tupleItemsOf (.ref t) >>= _) _ _ s
 refine wpAny_bind (tupleItemsOf_ ht ?_)
 refine wpAny_bind (wpAny_typeOf hTs ?_)
 rw[if_pos (by decide)]
 refine wpAny_bind (sliceApplied_gen hs pl pu ?_)
 have hno:¬ ((((sIx items.size 0 lo:Nat):Int) == 0&&(1:Int) == 1&&(sIx items.size items.size hi - sIx items.size 0 lo) == items.size)=true):=by
  intro q
  rw[Bool.and_eq_true,Bool.and_eq_true] at q
  have q1:((sIx items.size 0 lo:Nat):Int)=0:=eq_of_beq q.1.1
  have q2:sIx items.size items.size hi - sIx items.size 0 lo=items.size:=eq_of_beq q.2
  exact hw ⟨by lia,by lia⟩
 show wpAny _ _ (if (((sIx items.size 0 lo:Nat):Int) == 0&&(1:Int) == 1&&(sIx items.size items.size hi - sIx items.size 0 lo) == items.size)=true then _ else _) _ _ s
 rw[if_neg hno,a5j]
 first
  | exact wpAny_bind (m:=Builtin.Tuple.tupleExact _) (wpAny_newObj_type (wpAny_pure ⟨_,rfl,wpAny_pure h⟩) htake)
  | exact wpAny_bind (m:=Builtin.Tuple.tupleExact _) (wpAny_newObj_type (wpAny_bind (wpAny_pure (wpAny_pure ⟨_,rfl,wpAny_pure h⟩))) htake)
  | exact wpAny_bind (wpAny_bind (m:=Builtin.Tuple.tupleExact _) (wpAny_newObj_type (wpAny_pure (wpAny_pure ⟨_,rfl,wpAny_pure h⟩)) htake))
  | exact wpAny_bind (wpAny_bind (m:=Builtin.Tuple.tupleExact _) (wpAny_newObj_type (wpAny_pure ⟨_,rfl,wpAny_pure h⟩) htake))
end
end HT
namespace L2
open PySem PySem.Spec PyProof.Rows
noncomputable abbrev TO:=St->Hp->(Option Int->Hp->Prop)->Prop
noncomputable def PO (X:Cx) (e:Option Expr) (t:TO):Prop :=
 ∀(pins:List (Addr × Obj)) (s:Shared) (σ:St) (H:Hp) (Q:Option Int->Hp->Prop),Inv X pins σ H s->t σ H Q ->
  wpAny (model X.prog X.w) X.A (evalPart e X.env) (fun u s'=>∃o H',Inv X pins σ H' s'/\IsPart u o/\Q o H') X.xe s
noncomputable def tNoPart:TO:=fun _ H Q=>Q none H
noncomputable def a8i (t:TE):TO:=fun σ H Q=>t σ H fun x H1=>∃i,x=.int i/\Q (some i) H1
theorem K8 {ns:List Int}:∀{us:List Value},Vals (ns.map V.int) us->IntsAre us ns:=by
 induction ns with
 | nil=>intro us r;rw[List.map_nil] at r;cases r;exact .nil
 | cons n ns ih =>
  intro us r
  rw[List.map_cons] at r
  cases r with
  | cons r1 r2 =>
   obtain ⟨t,e⟩:=r1
   subst e
   exact .cons n t (ih r2)
section
variable {X:Cx}{e:Expr}{te:TE}{lo hi:Option Expr}{tl th:TO}{pos p2:Pos}
theorem po_none:PO X none tNoPart:=by
 intro pins s σ H Q I h
 rw[evalPart_none]
 exact wpAny_pure ⟨none,H,I,.none,h⟩
theorem L3 (h:PE X e te):PO X (some e) (a8i te):=by
 intro pins s σ H Q I hw
 rw[evalPart_some]
 refine f7 (h pins s σ H _ I hw) fun u s1 ⟨x,H1,I1,r1,q1⟩=>?_
 obtain ⟨i,rfl,q⟩:=q1
 obtain ⟨t,rfl⟩:=r1
 exact ⟨some i,H1,I1,.int i t,q⟩
noncomputable def SlR (X:Cx) (r:V->Option Int->Option Int->Hp->VK->Prop):Prop :=
 ∀(pins:List (Addr × Obj)) (s:Shared) (σ:St) (H:Hp) (x:V) (v vl vu:Value) (lo hi:Option Int) (sl:Addr) (Q:VK),Inv X pins σ H s->RelV x v->s.heap.IsSliceOf sl vl vu .none->IsPart vl lo->IsPart vu hi->r x lo hi H Q ->
  ∃T id,typeLookup (.type T) "__getitem__"=pure (some (.builtin id))/\s.TypeIs v T/\wpAny (model X.prog X.w) X.A (getItem v (.ref sl)) (EP X pins σ Q) X.xe s
noncomputable def tSl (r:V->Option Int->Option Int->Hp->VK->Prop) (te:TE) (tl th:TO):TE:=fun σ H Q=>te σ H fun x H1=>tl σ H1 fun l H2=>th σ H2 fun u H3=>r x l u H3 Q
theorem G6 {r:V->Option Int->Option Int->Hp->VK->Prop} (hr:SlR X r) (he:PE X e te) (hl:PO X lo tl) (hu:PO X hi th):PE X (.Subscript e (.Slice lo hi none p2) pos) (tSl r te tl th):=by
 intro pins s σ H Q I h
 refine Subscript_ (f7 (he pins s σ H _ I h) fun v s1 ⟨x,H1,I1,r1,q1⟩=>?_)
 refine wpAny_Slice (f7 (hl pins s1 σ H1 _ I1 q1) fun vl s2 ⟨l,H2,I2,pl,q2⟩=>f7 (hu pins s2 σ H2 _ I2 q2) fun vu s3 ⟨u,H3,I3,pu,q3⟩=>?_)
 rw[evalPart_none]
 refine wpAny_pure ?_
 have I4:Inv X pins σ H3 { s3 with heap:=s3.heap.push { cls:=.type "slice",data:=.fields #[vl,vu,.none] } }:=I3.kept (t':=s3.toks) fun b ob q=>Heap.get?_push_of_some _ q
 obtain ⟨T,id,hT,ht,hg⟩:=hr pins { s3 with heap:=s3.heap.push { cls:=.type "slice",data:=.fields #[vl,vu,.none] } } σ H3 x v vl vu l u s3.heap.objs.size Q I4 r1 (Heap.IsSliceOf.new ..) pl pu q3
 show wpAny (model X.prog X.w) X.A (subscriptTail e (.Slice lo hi none p2) v (.ref s3.heap.objs.size)) (EP X pins σ Q) X.xe { s3 with heap:=s3.heap.push { cls:=.type "slice",data:=.fields #[vl,vu,.none] } }
 exact tail_any (ops:=[.ref s3.heap.objs.size,v]) ht hT hg (by with_unfolding_all rfl)
noncomputable def D5 (xs:List V) (lo hi:Option Int):List V:=(xs.drop (HT.sIx xs.length 0 lo)).take (HT.sIx xs.length xs.length hi - HT.sIx xs.length 0 lo)
theorem A7 (xs:List V) (lo hi:Option Int):(D5 xs lo hi).length<=xs.length:=by
 unfold D5
 rw[List.length_take,List.length_drop]
 lia
noncomputable def a86 (K:W.Frag):V->Option Int->Option Int->Hp->VK->Prop:=fun x lo hi H Q=>∃a xs,x=.ref a/\SqT K H a xs /\
 ¬ (HT.sIx xs.length 0 lo=0/\HT.sIx xs.length xs.length hi=xs.length)/\∀p,H p=none->Q (.ref p) (b7 H p (.tup (D5 xs lo hi)))
theorem sl_tup:SlR X (a86 X.K):=by
 intro pins s σ H x v vl vu lo hi sl Q I rx hs pl pu h
 obtain ⟨a,xs,rfl,hx,hw,q⟩:=h
 cases rx
 obtain ⟨its,r,ht,hz⟩:=I.tuple hx
 have hlen:its.toArray.size=xs.length:=by rw[List.size_toArray];exact r.length.symm
 refine ⟨"tuple",_,PyProof.Rows.slot_tuple_getitem.lookup,ht.typeIs,?_⟩
 refine HT.getItem_tuple_cut ht hs pl pu (by rw[hlen];exact hw) ?_ (by rw[hlen];exact hz)
 rw[hlen]
 refine ⟨.ref s.heap.objs.size,_,I.laid (t':=s.toks) (o:=.tup (D5 xs lo hi)) (fun b ob q=>Heap.get?_push_of_some _ q) (Nat.le_refl _) ?_,rfl,q _ (I.hok.fresh (Nat.le_refl _))⟩
 exact ⟨Nat.le_trans (A7 xs lo hi) hz,_,(r.drop (HT.sIx xs.length 0 lo)).take (HT.sIx xs.length xs.length hi - HT.sIx xs.length 0 lo),IsTup.new _ _⟩
noncomputable def a8C (K:W.Frag):R2:=fun x y H Q=>∃a b xs ys,x=.ref a/\y=.ref b/\SqT K H a xs/\SqT K H b ys/\xs≠[]/\xs.length+ys.length<=sizeLine /\
 (ys=[]->Q (.ref a) H)/\(ys≠[]->∀p,H p=none->Q (.ref p) (b7 H p (.tup (xs++ys))))
theorem Vals.nil_iff {xs:List V}{us:List Value} (r:Vals xs us):us=[] ↔ xs=[]:=by
 cases r with
 | nil=>simp
 | cons _ _=>simp
theorem op_catT:v8 X (binaryOp .Add) (a8C X.K):=by
 intro pins s σ H x y v u Q I rx ry h
 obtain ⟨a,b,xs,ys,rfl,rfl,ha,hb,hx,hz,q1,q2⟩:=h
 cases rx
 cases ry
 obtain ⟨its,r1,p1,_⟩:=I.tuple ha
 obtain ⟨its2,r2,p2,_⟩:=I.tuple hb
 refine HT.cat_tup p1 p2 (fun z=>hx (r1.nil_iff.mp z)) (fun z=>⟨.ref a,H,I,rfl,q1 (r2.nil_iff.mp z)⟩) (fun z=>?_) (by rw[<- r1.length,<- r2.length];exact hz)
 refine ⟨.ref s.heap.objs.size,_,I.laid (t':=s.toks) (o:=.tup (xs++ys)) (fun b ob q=>Heap.get?_push_of_some _ q) (Nat.le_refl _) ?_,rfl,q2 (fun w=>z (r2.nil_iff.mpr w)) _ (I.hok.fresh (Nat.le_refl _))⟩
 exact ⟨by rw[List.length_append];exact hz,_,r1.append r2,IsTup.new _ _⟩
end
end L2
namespace L2
open PySem PySem.Spec PyProof.Rows
noncomputable def T6 (n:Nat) (i:Int):Option Nat:=if 0<=i then (if i<n then some i.toNat else none) else if -(n:Int)<=i then some (i+n).toNat else none
noncomputable def S3 {α:Type} (xs:List α) (i:Int):Option α:=(T6 xs.length i).bind fun j=>xs[j]?
theorem a2v {n:Nat}{i:Int}{j:Nat} (h:T6 n i=some j):seqIndex? i n=some j/\j<n/\-(n:Int)<=i/\i<n:=by
 unfold T6 at h
 by_cases h0:0<=i
 ·rw[if_pos h0] at h
  by_cases h1:i<n
  ·rw[if_pos h1] at h
   have e:i.toNat=j:=Option.some.inj h
   exact ⟨by rw[seqIndex_of h0 h1,e],by lia,by lia,h1⟩
  ·rw[if_neg h1] at h;cases h
 ·rw[if_neg h0] at h
  by_cases h1:-(n:Int)<=i
  ·rw[if_pos h1] at h
   have e:(i+n).toNat=j:=Option.some.inj h
   exact ⟨by rw[seqIndex_neg (by lia) h1,e],by lia,h1,by lia⟩
  ·rw[if_neg h1] at h;cases h
theorem a2L {α:Type}{xs:List α}{i:Int}{v:α} (h:S3 xs i=some v):∃j,seqIndex? i xs.length=some j/\xs[j]?=some v/\j<xs.length/\-(xs.length:Int)<=i/\i<xs.length:=by
 unfold S3 at h
 cases e:T6 xs.length i with
 | none=>rw[e] at h;cases h
 | some j =>
  rw[e] at h
  obtain ⟨h1,h2,h3,h4⟩:=a2v e
  exact ⟨j,h1,h,h2,h3,h4⟩
theorem i6 {α:Type}{xs:List α}{j:Nat}{v:α} (h:xs[j]?=some v):S3 xs (j:Int)=some v:=by
 have hj:j<xs.length:=(List.getElem?_eq_some_iff.mp h).1
 have e:T6 xs.length (j:Int)=some j:=by
  unfold T6
  rw[if_pos (by lia),if_pos (by lia)];simp
 unfold S3;rw[e];exact h
theorem a5M {α:Type} (xs:List α) (v:α):S3 (xs++[v]) (-1)=some v:=by
 have hl:(xs++[v]).length=xs.length+1:=by simp
 have e:T6 (xs++[v]).length (-1)=some xs.length:=by
  unfold T6
  rw[hl,if_neg (by decide),if_pos (by lia)]
  congr 1
  lia
 unfold S3
 rw[e]
 show (xs++[v])[xs.length]?=some v
 simp
noncomputable def a6v (b:Expr):Prop:=∀o i,subscripted b false o i=operate [o,i] (getItem o i)
noncomputable def IxR (X:Cx) (r:R2):Prop :=
 ∀(value slice:Expr) (pins:List (Addr × Obj)) (s:Shared) (σ:St) (H:Hp) (x y:V) (v u:Value) (Q:VK),Inv X pins σ H s->RelV x v->RelV y u->r x y H Q ->
  subscripted slice false v u=operate [v,u] (getItem v u)->wpAny (model X.prog X.w) X.A (subscriptTail value slice v u) (EP X pins σ Q) X.xe s
noncomputable def MtR (X:Cx) (id:String) (r:V->List V->Hp->VK->Prop):Prop :=
 ∀(pins:List (Addr × Obj)) (s:Shared) (σ:St) (H:Hp) (x:V) (xs:List V) (v:Value) (us:List Value) (Q:VK),Inv X pins σ H s->RelV x v->Vals xs us->r x xs H Q ->
  wpAny (model X.prog X.w) X.A (call (.builtin id) (v::us)) (EP X pins σ Q) X.xe s
section
variable {X:Cx}{a b:Expr}{ta tb:TE}{pos:Pos}
theorem j3 {r:R2} (hr:IxR X r) (ha:PE X a ta) (hb:PE X b tb) (hs:a6v b):PE X (.Subscript a b pos) (tOp r ta tb):=by
 intro pins s σ H Q I h
 exact Subscript_ (a50 ha hb I h fun v u s2 x y H2 I2 rx ry q=>hr a b pins s2 σ H2 x y v u Q I2 rx ry q (hs _ _))
noncomputable def a74 (K:W.Frag):R2:=fun x y H Q=>∃p xs i v,x=.ref p/\y=.int i/\SqL K H p xs/\S3 xs i=some v/\Q v H
noncomputable def a7z (K:W.Frag):R2:=fun x y H Q=>∃p xs i v,x=.ref p/\y=.int i/\SqT K H p xs/\S3 xs i=some v/\Q v H
theorem ix_list:IxR X (a74 X.K):=by
 intro value slice pins s σ H x y v u Q I rx ry h hs
 obtain ⟨p,xs,i,z,rfl,rfl,hq,he,q⟩:=h
 cases rx
 obtain ⟨t,rfl⟩:=ry
 obtain ⟨its,r,pl,hz⟩:=I.list hq
 obtain ⟨j,h1,h2,h3,h4,h5⟩:=a2L he
 obtain ⟨w,ew,rw'⟩:=r.get h2
 have hl:=r.length
 have hn:=line63
 have fin:EP X pins σ Q w s:=⟨z,H,I,rw',q⟩
 by_cases h0:0<=i
 ·have hj:i.toNat=j:=by
   rw[seqIndex_of h0 h5] at h1
   exact Option.some.inj h1
  exact item_listR pl.isList h0 (by lia) (by rw[hj];simpa using ew) fin hs
 ·have hj:(i+(its.toArray.size:Int)).toNat=j:=by
   rw[seqIndex_neg (by lia) h4] at h1
   rw[List.size_toArray,<- hl]
   exact Option.some.inj h1
  exact subscriptTail_builtinR (x:=w) pl.isList.typeIs slot_list_getitem.lookup
   (wpAny_getItem_list_neg (Q:=fun r s'=>r=w/\EP X pins σ Q r s') pl.isList (by lia) (by rw[List.size_toArray] <;> lia) (by lia) (by rw[hj];simpa using ew) ⟨rfl,fin⟩) hs
theorem ix_tup:IxR X (a7z X.K):=by
 intro value slice pins s σ H x y v u Q I rx ry h hs
 obtain ⟨p,xs,i,z,rfl,rfl,hq,he,q⟩:=h
 cases rx
 obtain ⟨t,rfl⟩:=ry
 obtain ⟨its,r,pl,hz⟩:=I.tuple hq
 obtain ⟨j,h1,h2,h3,h4,h5⟩:=a2L he
 obtain ⟨w,ew,rw'⟩:=r.get h2
 have hl:=r.length
 have hn:=line63
 have fin:EP X pins σ Q w s:=⟨z,H,I,rw',q⟩
 exact subscriptTail_builtinR (x:=w) pl.typeIs slot_tuple_getitem.lookup
  (getItem_tuple (j:=j) (Q:=fun r s'=>r=w/\EP X pins σ Q r s') pl (by lia) (by lia) (by rw[List.size_toArray,<- hl];exact h1) (by simpa using ew) ⟨rfl,fin⟩) hs
theorem a3I (its:List Value) (n j:Nat) (u:Value):Obj.mapSeq (·.setIfInBounds j u) { cls:=.type "list",data:=.seq its.toArray n }={ cls:=.type "list",data:=.seq (its.set j u).toArray n }:=by
 simp[Obj.mapSeq]
theorem Inv.lst {pins:List (Addr × Obj)}{σ:St}{H:Hp}{s:Shared}{p:Addr}{xs:List V} (I:Inv X pins σ H s) (h:H p=some (.lst xs)):
  ∃(its:List Value) (n:Nat),Vals xs its/\s.heap.get? p=some { cls:=.type "list",data:=.seq its.toArray n }/\xs.length<=sizeLine:=by
 obtain ⟨z,its,n,r,e⟩:=I.hok p _ h
 exact ⟨its,n,r,e,z⟩
theorem Inv.lstUpd {pins:List (Addr × Obj)}{σ:St}{H:Hp}{s:Shared}{p:Addr}{xs ys:List V}{its its':List Value}{n n':Nat}{f:Obj->Obj} (I:Inv X pins σ H s) (h:H p=some (.lst xs))
  (ho:s.heap.get? p=some { cls:=.type "list",data:=.seq its.toArray n }) (hf:f { cls:=.type "list",data:=.seq its.toArray n }={ cls:=.type "list",data:=.seq its'.toArray n' }) (r:Vals ys its') (hz:ys.length<=sizeLine) (t:Nat):
  Inv X pins σ (b7 H p (.lst ys)) { s with heap:=s.heap.update p f,toks:=t }:=by
 have e:(s.heap.update p f).get? p=some { cls:=.type "list",data:=.seq its'.toArray n' }:=by
  rw[Heap.get?_update_self f ho (by rw[hf] <;> rfl),hf]
 refine I.write (x:=p) (e:=p) (by rw[h];trivial) (.inl rfl) (fun b u hb q=>(Heap.get?_update_other _ _ (Ne.symm hb)).trans q) ⟨_,e⟩ ?_
 exact ⟨hz,its',n',r,e⟩
noncomputable def rSetL:V->V->V->Hp->(Hp->Prop)->Prop:=fun o i v H Q=>∃p xs k j,o=.ref p/\i=.int k/\H p=some (.lst xs)/\T6 xs.length k=some j/\Q (b7 H p (.lst (xs.set j v)))
theorem set_list:a68 X rSetL:=by
 intro pins s σ H o i v ov iv u Q I ro ri rv h
 obtain ⟨p,xs,k,j,rfl,rfl,hp,hj,q⟩:=h
 cases ro
 obtain ⟨t,rfl⟩:=ri
 obtain ⟨its,n,r,ho,hz⟩:=I.lst hp
 obtain ⟨h1,h2,h3,h4⟩:=a2v hj
 have hl:=r.length
 have hn:=line63
 have I':Inv X pins σ (b7 H p (.lst (xs.set j v))) { s with heap:=s.heap.update p (Obj.mapSeq (·.setIfInBounds j u)) } :=
  I.lstUpd hp ho (a3I its n j u) (r.set rv j) (by rw[List.length_set];exact hz) s.toks
 by_cases h0:0<=k
 ·have hk:k.toNat=j:=by
   rw[seqIndex_of h0 h4] at h1
   exact Option.some.inj h1
  exact W.ki_setAt ho h0 (by lia) (by rw[List.size_toArray,<- hl];exact h4) (by rw[hk];exact ⟨_,I',q⟩)
 ·have hk:(k+(its.toArray.size:Int)).toNat=j:=by
   rw[seqIndex_neg (by lia) h3] at h1
   rw[List.size_toArray,<- hl]
   exact Option.some.inj h1
  exact W.ki_setBack ho (by lia) (by rw[List.size_toArray,<- hl];exact h3) (by lia) (by rw[hk];exact ⟨_,I',q⟩)
theorem call_len_seq:w5 X (.builtin "len") (fun xs H Q=>∃p ys,xs=[.ref p]/\(SqL X.K H p ys ∨ SqT X.K H p ys)/\Q (.int ys.length) H):=by
 intro pins s σ H xs us Q I r h
 obtain ⟨p,ys,rfl,hq,q⟩:=h
 obtain ⟨u,rfl,rx⟩:=E1 r
 cases rx
 have hn:=line63
 rcases hq with hq|hq
 ·obtain ⟨its,r',pl,hz⟩:=I.list hq
  have hlen:=r'.length
  exact Calls.call_len_list pl.isList (by simp only[List.size_toArray] <;> lia) ⟨.int ys.length,H,I.tok _,⟨s.toks+1,by rw[List.size_toArray,hlen]⟩,q⟩
 ·obtain ⟨its,r',pl,hz⟩:=I.tuple hq
  have hlen:=r'.length
  exact len_tuple pl (by simp only[List.size_toArray] <;> lia) ⟨.int ys.length,H,I.tok _,⟨s.toks+1,by rw[List.size_toArray,hlen]⟩,q⟩
theorem call_list_of:w5 X (.type "list") (fun xs H Q=>∃p ys,xs=[.ref p]/\(SqL X.K H p ys ∨ SqT X.K H p ys)/\∀l,H l=none->Q (.ref l) (b7 H l (.lst ys))):=by
 intro pins s σ H xs us Q I r h
 obtain ⟨p,ys,rfl,hq,q⟩:=h
 obtain ⟨u,rfl,rx⟩:=E1 r
 cases rx
 have fin:∀(its:List Value),Vals ys its->ys.length<=sizeLine->∀(h':Heap) (c':Nat),(∀b o',s.heap.get? b=some o'->h'.get? b=some o') ->
   h'.get? s.heap.objs.size=some { cls:=.type "list",dict:=none,data:=.seq its.toArray c',slots:=#[] }->EP X pins σ Q (.ref s.heap.objs.size) { s with heap:=h' }:=fun its r' hz h' c' kp e =>
  ⟨.ref s.heap.objs.size,_,I.laid (t':=s.toks) kp (Nat.le_refl _) (show ObjOk X.prog X.w _ h' _ (.lst ys) from ⟨hz,its,c',r',e⟩),rfl,q _ (I.hok.fresh (Nat.le_refl _))⟩
 rcases hq with hq|hq
 ·obtain ⟨its,r',pl,hz⟩:=I.list hq
  have hlen:=r'.length
  obtain ⟨o,ho,hc,n,hd⟩:=pl.isList
  exact call_list_seq p (.inl rfl) ho hc hd (fun h' c' kp e=>fin its r' hz h' c' kp e) (by simp only[List.size_toArray] <;> lia)
 ·obtain ⟨its,r',pl,hz⟩:=I.tuple hq
  have hlen:=r'.length
  obtain ⟨o,ho,hc,n,hd⟩:=pl
  exact call_list_seq p (.inr rfl) ho hc hd (fun h' c' kp e=>fin its r' hz h' c' kp e) (by simp only[List.size_toArray] <;> lia)
theorem call_tuple_of:w5 X (.type "tuple") (fun xs H Q=>∃p ys,xs=[.ref p]/\((SqL X.K H p ys/\∀l,H l=none->Q (.ref l) (b7 H l (.tup ys))) ∨ (SqT X.K H p ys/\Q (.ref p) H))):=by
 intro pins s σ H xs us Q I r h
 obtain ⟨p,ys,rfl,h⟩:=h
 obtain ⟨u,rfl,rx⟩:=E1 r
 cases rx
 rcases h with ⟨hq,q⟩|⟨hq,q⟩
 ·obtain ⟨its,r',pl,hz⟩:=I.list hq
  have hlen:=r'.length
  refine call_tuple_list pl.isList (fun h' kp=>?_) (by simp only[List.size_toArray] <;> lia)
  have I1:Inv X pins σ H { s with heap:=h' }:=I.kept (t':=s.toks) kp
  have I2:Inv X pins σ (b7 H h'.objs.size (.tup ys)) { s with heap:=h'.push { cls:=.type "tuple",data:=.seq its.toArray } } :=
   I1.laid (t':=s.toks) (fun b o e=>Heap.get?_push_of_some _ e) (Nat.le_refl _) (show ObjOk X.prog X.w _ _ _ (.tup ys) from ⟨hz,its,r',IsTup.new _ _⟩)
  exact ⟨.ref h'.objs.size,_,I2,rfl,q _ (I1.hok.fresh (Nat.le_refl _))⟩
 ·obtain ⟨its,r',pl,hz⟩:=I.tuple hq
  exact call_tuple_same pl ⟨.ref p,H,I,rfl,q⟩
noncomputable def tyV (K:W.Frag) (T:String) (x:V) (H:Hp):Prop:=match x with
 | .str _=>T="str"
 | .int _=>T="int"
 | .ref p=>(T="list"/\∃xs,SqL K H p xs) ∨ (T="tuple"/\∃o,K.lookup p=some o/\o.cls=.type "tuple"/\o.dict=none) ∨
   (T="dict"/\((∃kvs,H p=some (.dK kvs)) ∨ ∃kvs,H p=some (.dT kvs))) ∨ (T="set"/\∃S n,H p=some (.set S n))
 | _=>False
theorem a7Q {pins:List (Addr × Obj)}{σ:St}{H:Hp}{s:Shared}{T:String}{x:V}{v:Value} (I:Inv X pins σ H s) (r:RelV x v) (ty:tyV X.K T x H):
  s.TypeIs v T/\∀a,v=.ref a->∃ob,s.heap.get? a=some ob/\ob.dict=none:=by
 cases x with
 | str z =>
  obtain ⟨t,rfl⟩:=r
  cases (show T="str" from ty)
  exact ⟨typeIs_str s z t,fun _ e=>nomatch e⟩
 | int i =>
  obtain ⟨t,rfl⟩:=r
  cases (show T="int" from ty)
  exact ⟨typeIs_int s i t,fun _ e=>nomatch e⟩
 | ref p =>
  cases r
  rcases ty with ⟨rfl,xs,hq⟩|⟨rfl,o,hk,hc,hd⟩|⟨rfl,hk⟩|⟨rfl,S,n,hk⟩
  ·obtain ⟨its,_,pl,_⟩:=I.list hq
   refine ⟨pl.isList.typeIs,fun a e=>?_⟩
   cases e
   obtain ⟨o,n,e,c,hd,_⟩:=pl
   exact ⟨o,e,hd⟩
  ·refine ⟨⟨o,I.kIn p o hk,hc⟩,fun a e=>?_⟩
   cases e
   exact ⟨o,I.kIn _ o hk,hd⟩
  ·have z:∃o,s.heap.get? p=some o/\o.ExactDict:=by
    rcases hk with ⟨kvs,hk⟩|⟨kvs,hk⟩
    ·obtain ⟨_,_,_,_,o,_,_,e,ex,_⟩:=I.hok p _ hk
     exact ⟨o,e,ex⟩
    ·obtain ⟨_,_,_,_,o,_,_,e,ex,_⟩:=I.hok p _ hk
     exact ⟨o,e,ex⟩
   obtain ⟨o,e,ex⟩:=z
   refine ⟨⟨o,e,ex.1⟩,fun a e2=>?_⟩
   cases e2
   exact ⟨o,e,ex.2.1⟩
  ·obtain ⟨o,_,_,_,e,ex,_⟩:=I.hok p _ hk
   refine ⟨⟨o,e,ex.1⟩,fun a e2=>?_⟩
   cases e2
   exact ⟨o,e,ex.2.1⟩
 | _=>exact False.elim ty
noncomputable def tBM (K:W.Frag) (T:String) (r:V->List V->Hp->VK->Prop) (to:TE) (t:TA):TE:=fun σ H Q=>to σ H fun x H1=>tyV K T x H1/\t σ H1 fun xs H2=>r x xs H2 Q
variable {o e:Expr}{es:List Expr}{to:TE}{t:TA}{name:Str}{apos cpos:Pos}{T id:String}{r:V->List V->Hp->VK->Prop}
theorem a3p (pa:PlainAttrs T) (slot:Slot T name id) (hty:typeOf (.builtin id)=pure (.type "method_descriptor")) (hm:MtR X id r) (ho:PE X o to) (ha:PA X (e::es) t)
  (hbase:attributeBase o name X.env (eval o X.env)=eval o X.env:=by rfl)
  (hfew:((backTo cpos (starEach (e::es) X.env)).all (fun x=>!x.1)&&(backToKw cpos (keywordEach [] X.env)).all (fun x=>x.1.isSome)
   && decide ((e::es).length+([]:List Keyword).length+(if ([]:List Keyword).isEmpty then 0 else 1)<30))=true:=by rfl)
  (hline:(apos.endLine == cpos.line)=true:=by rfl) (hs:starEach (e::es) X.env=(false,eval e X.env)::starEach es X.env:=by rfl) (hplain:(backTo cpos (starEach es X.env)).any (·.1)=false:=by rfl):
  PE X (.Call (.Attribute o name apos) (e::es) [] cpos) (tBM X.K T r to t):=by
 intro pins s σ H Q I h
 refine wpAny_Call_method_late hbase hfew hline rfl (f7 (ho pins s σ H _ I h) fun v s1 ⟨x,H1,I1,r1,ty,q1⟩=>?_)
 obtain ⟨h1,h2⟩:=a7Q I1 r1 ty
 refine ⟨T,id,pa,slot,hty,h1,h2,?_⟩
 have hA:=ha cpos pins s1 σ H1 _ I1 q1
 rw[hs] at hA ⊢
 refine Calls.callWith_builtin (by show (false || (backTo cpos (starEach es X.env)).any (·.1))=false;rw[hplain] <;> rfl) (Calls.evalArgs_plain ?_)
 exact f7 hA fun us s2 ⟨vs,H2,I2,r2,q2⟩=>hm pins s2 σ H2 x vs v us Q I2 r1 r2 q2
end
end L2
namespace L2
open PySem PySem.Spec PyProof.Rows
noncomputable def MtM (X:Cx) (id:String) (r:V->List V->Hp->VK->Prop):Prop :=
 ∀(pins:List (Addr × Obj)) (s:Shared) (σ:St) (H:Hp) (x:V) (xs:List V) (v:Value) (us:List Value) (Q:VK),Inv X pins σ H s->RelV x v->Vals xs us->r x xs H Q ->
  wpAny (model X.prog X.w) X.A (call (.builtin id) (v::us)) (EP X pins σ Q) X.xe s
theorem Vals.one:∀{x:V}{us:List Value},Vals [x] us->∃u,us=[u]/\RelV x u
 | _,_,.cons r .nil=>⟨_,rfl,r⟩
section
variable {X:Cx}{pins:List (Addr × Obj)}{σ:St}{H:Hp}{s:Shared}{l b:Addr}{xs ys zs:List V}
theorem Inv.lset {its its':List Value}{n:Nat}{f:Array Value->Array Value}{t':Nat} (I:Inv X pins σ H s) (hH:H l=some (.lst xs))
  (e:s.heap.get? l=some { cls:=.type "list",data:=.seq its.toArray n }) (hf:f its.toArray=its'.toArray) (hv:Vals ys its') (hz:ys.length<=sizeLine):
  Inv X pins σ (b7 H l (.lst ys)) { s with heap:=s.heap.update l (Obj.mapSeq f),toks:=t' }:=by
 have q:=PySem.IsL.update e f
 rw[hf] at q
 refine I.write (x:=l) (e:=l) (by rw[hH];exact trivial) (.inl rfl) (fun b' u hb hu=>(Heap.get?_update_other s.heap (Obj.mapSeq f) (Ne.symm hb)).trans hu) ⟨_,q⟩ ?_
 exact ⟨hz,its',_,hv,q⟩
theorem Inv.lstM (I:Inv X pins σ H s) (hH:H l=some (.lst xs)):xs.length<=sizeLine/\∃(its:List Value) (n:Nat),Vals xs its/\xs.length=its.length/\s.heap.get? l=some { cls:=.type "list",data:=.seq its.toArray n }:=by
 obtain ⟨z,its,n,r,e⟩:=I.hok l _ hH
 exact ⟨z,its,n,r,r.length,e⟩
theorem a5L {n:Nat} (h:n<=sizeLine):Builtin.List.listTooLong n=false:=by
 unfold Builtin.List.listTooLong
 exact decide_eq_false (by lia)
end
section
variable {X:Cx}
noncomputable def rAppend:V->List V->Hp->VK->Prop:=fun x vs H Q=>∃l xs y,x=.ref l/\vs=[y]/\H l=some (.lst xs)/\xs.length<sizeLine/\Q .non (b7 H l (.lst (xs++[y])))
theorem mt_append:MtM X "list.append" rAppend:=by
 intro pins s σ H x vs v us Q I rx rv h
 obtain ⟨l,xs,y,rfl,rfl,hH,hz,q⟩:=h
 cases rx
 obtain ⟨u,rfl,ru⟩:=rv.one
 obtain ⟨z,its,n,r,hl,e⟩:=I.lstM hH
 refine call_meets F.slot_list_append ⟨_,e,rfl⟩ F.entry_list_append (F.args_list_append_2 _ _) (PySem.list_append l its.toArray n u (by rw[List.size_toArray];lia)) ⟨e,?_⟩
 refine ⟨.non,_,I.lset (its':=its++[u]) hH e (by simp) (r.append (.cons ru .nil)) ?_,rfl,q⟩
 rw[List.length_append,List.length_singleton]
 lia
noncomputable def rExtend:V->List V->Hp->VK->Prop:=fun x vs H Q=>∃l b xs zs,x=.ref l/\vs=[.ref b]/\H l=some (.lst xs)/\H b=some (.lst zs)/\xs.length+zs.length<=sizeLine/\Q .non (b7 H l (.lst (xs++zs)))
theorem mt_extend:MtM X "list.extend" rExtend:=by
 intro pins s σ H x vs v us Q I rx rv h
 obtain ⟨l,b,xs,zs,rfl,rfl,hH,hB,hz,q⟩:=h
 cases rx
 obtain ⟨u,rfl,ru⟩:=rv.one
 cases ru
 obtain ⟨z,its,n,r,hl,e⟩:=I.lstM hH
 obtain ⟨z2,its2,n2,r2,hl2,e2⟩:=I.lstM hB
 have hsz:its.toArray.size+its2.toArray.size<=sizeLine:=by rw[List.size_toArray,List.size_toArray];lia
 have hlong:¬ (!its.toArray.isEmpty&&Builtin.List.listTooLong (its.toArray.size+its2.toArray.size))=true:=by
  rw[a5L hsz,Bool.and_false]
  exact Bool.false_ne_true
 refine call_meets F.slot_list_extend ⟨_,e,rfl⟩ F.entry_list_extend (F.args_list_extend_2 _ _)
  (AutoSeq1.list_extend_list_list_0 l its.toArray n b its2.toArray n2 hlong (by rw[List.size_toArray];lia) (by lia)) ⟨e,e2,?_⟩
 refine ⟨.non,_,I.lset (its':=its++its2) hH e (by simp) (r.append r2) ?_,rfl,q⟩
 rw[List.length_append]
 lia
end
section
variable {prog:Program}{w:World}{A:Around}{E:Value->Shared->Prop}{s:Shared}
set_option maxRecDepth 100000 in
end
section
variable {X:Cx}
end
end L2
namespace Att
open PySem PySem.W PySem.Calls PyProof.Rows
theorem Y2 {P:Params}{h:Heap}:∀(ns:List Int) (vs:List Value),WellAll P h vs (ns.map WData.int)->IntsAre vs ns:=by
 intro ns
 induction ns with
 | nil =>
  intro vs w
  rw[List.map_nil] at w
  cases w
  exact .nil
 | cons n ns ih =>
  intro vs w
  rw[List.map_cons] at w
  cases w with
  | cons a b =>
   cases a
   exact .cons _ _ (ih _ b)
theorem a4x {l:OpenLaw}{n:Nat} (hn:l.most=some n) {P:Params}{h:Heap}{args:List WData}{vals:List Value}
  (hpre:l.row.toRowW.claim.pre args=true) (hwl:WellAll P h vals args):
  ∃a vs ns,vals=[Value.ref a]/\args=[WData.list (ns.map WData.int)]/\h.get? a=some { cls:=.type "list",data:=.seq vs.toArray }/\IntsAre vs ns/\ns.length<=n:=by
 have hsh:WShape.hasAll [] args [.list .int]=true:=(pre_splitW hpre).1
 have hc:l.pre.holds [] { args:=args }=true:=(pre_splitW hpre).2
 obtain ⟨d,r,rfl,h1,h2⟩:=hasAllW_cons hsh
 obtain rfl:=hasAllW_nil h2
 obtain ⟨xs,rfl,h3⟩:=hasW_list h1
 obtain ⟨ns,rfl⟩:=items_int h3
 have hlen:ns.length<=n:=by
  unfold OpenLaw.pre at hc
  have h4:(WTm.not (.lt (.lit (.int (n:Int))) (.len (.arg 0)))).holds [] { args:=[.list (ns.map .int)] }=true:=by
   have h4:=(holds_andW hc).1
   rw[hn] at h4
   exact h4
  have h5:=condW_of h4 (w_not (w_lt w_lit (w_len_list (w_arg rfl))))
  rw[List.length_map] at h5
  refine Nat.le_of_not_lt fun q=>?_
  have q':(n:Int)<((ns.length:Nat):Int):=by lia
  first
   | (rw[decide_eq_true q'] at h5;exact absurd h5 (by decide))
   | (simp at h5;lia)
 cases hwl with
 | cons w1 w2 =>
  cases w2
  cases w1 with
  | list ho hall=>exact ⟨_,_,ns,rfl,rfl,ho,Y2 ns _ hall,hlen⟩
theorem a4s (l:OpenLaw) (args:List WData):l.row.toRowW.claim.post args (.bool true) args=true :=
 postW_of (r:=l.row.toRowW) (X:=(true == true))
  (show WShape.has [] (.bool true) .bool=true by first|rfl|decide|simp[WShape.has,WShape.arms,WShape.armsAll])
  (show (WTm.eq .res (.lit (.bool true))).value [] { args:=args,res:=some (.bool true),after:=args }=some (.bool (true == true)) from w_eq_bool (w_res rfl) w_lit) rfl
theorem attach_call {l:OpenLaw}{n:Nat}{q:Program}{loose:List Str}{XP:(Str->Option Value)->Heap->Prop}{YP:World->Heap->Prop}{d:DefRec}
  (hn:l.most=some n) (hdf:d.params.defaults=[])
  (call:∀(w:World) (s₀ s₁:Shared) (mg mb:Str->Option Value) (fa:Addr) (o:Obj) (pm cd doc:Value) (a:Addr) (vs:List Value) (ns:List Int),
   Ground q loose [] XP w s₀ mg mb s₁.heap->YP w s₁.heap ->
   s₁.heap.get? fa=some o->o.data=.func (docDef d.name d.params d.body d.scope pm cd doc)->s₁.heap.CodeRec cd d.name->mg d.name=some (.ref fa) ->
   s₁.heap.get? a=some { cls:=.type "list",data:=.seq vs.toArray }->IntsAre vs ns->ns.length<=n->s₁.gens=#[] ->
   codeAny (model l.prog w) callerA (.call (.ref fa) ⟨[.ref a],[]⟩) (fun r s'=>r=.ok (.ret (.bool true))/\OldK s₁.heap s'.heap/\s'.os=s₁.os/\AllBare s'.gens) s₁):
  WalkO q loose XP YP l.row.toRowW d [] (fun f vs=>PySem.call f vs):=by
 intro w s₀ s₁ mg mb G Y fa o pm cd doc dV kV ho hd hcd hD hmg hg args vals as hpre hlay hrd hwl hlo
 obtain rfl:dV=.none:=Dflts.none hD hdf
 obtain rfl:kV=.none:=Dflts.noKw hD
 obtain ⟨a,vs,ns,rfl,rfl,hobj,hints,hlen⟩:=a4x hn hpre hwl
 refine enter_call (codeAny_mono (call w s₀ s₁ mg mb fa o pm cd doc a vs ns G Y ho (fd_plain hd) hcd hmg hobj hints hlen hg) fun r s' hq=>?_)
 obtain ⟨rfl,h2,h3,h4⟩:=hq
 exact ⟨.inl ⟨.bool true,.bool true,[],rfl,fun _=>rfl,.bool true,a4s l _,fun _=>⟨List.Pairwise.nil,fun _ hm=>(nomatch hm)⟩⟩,h2,h3,h4⟩
section
variable {prog:Program}{w:World}{A:Around}{E:Value->Shared->Prop}{s:Shared}{K:Frag}
end
end Att
namespace L2
open PySem PySem.Spec PyProof.Rows
theorem vals_ints:∀{vs:List Value}{ns:List Int},IntsAre vs ns->Vals (ns.map V.int) vs
 | _,_,.nil=>.nil
 | _,_,.cons n t h=>.cons ⟨t,rfl⟩ (vals_ints h)
noncomputable def a5Z (H:Hp):Prop:=∀b,H b=none ∨ ∃o xs,H b=some (.frz o (.lst xs))
theorem a58 {P:Program}{w:World}{K:W.Frag}{mg mb:Str->Option Value}{CX:CXT}{k:Nat}{fa a:Addr}{fd:FuncData}{x:Str}{sp:Sp}{s₁:Shared}{vs:List Value}{ns:List Int}
  (KX:K.In s₁.heap) (hns:s₁.heap.Ns mainGlobals mg) (hb:s₁.heap.Ns builtinsNs mb) (hbb:∀x:Str,x≠"__name__"->mb x=bootBuiltins x) (hlim:s₁.heap.NoLimit) (hg:s₁.gens=#[])
  (ha:s₁.heap.get? a=some { cls:=.type "list",data:=.seq vs.toArray }) (hi:IntsAre vs ns) (hl:ns.length<=sizeLine) (hr:Room k callerA)
  (F:∀base:Heap,K.In base->base.Ns mainGlobals mg->FnOk P w K mg base CX k fa fd [x] sp) (hbind:∀(s:Shared) (u:Value),BindsTo s fd ⟨[u],[]⟩ [(x,u)])
  (hsp:∀H:Hp,a5Z H->SqL K H a (ns.map V.int)->sp [.ref a] H (fun v _=>v=.bl true) fun _ _ _=>False)
  (hCX:∀H e s',CX [] H s₁ (fun _ _ _=>False) e s'->False):
  codeAny (model P w) callerA (.call (.ref fa) ⟨[.ref a],[]⟩) (fun r s'=>r=.ok (.ret (.bool true))/\OldK s₁.heap s'.heap/\s'.os=s₁.os/\AllBare s'.gens) s₁:=by
 have rv:=vals_ints hi
 have lenV:=hi.length
 have core:∀H:Hp,a5Z H->SqL K H a (ns.map V.int)->HOk P w H s₁.heap->(∀b,H b≠none->b=a)->(H a≠none->K.lookup a=none) ->
   codeAny (model P w) callerA (.call (.ref fa) ⟨[.ref a],[]⟩) (fun r s'=>r=.ok (.ret (.bool true))/\OldK s₁.heap s'.heap/\s'.os=s₁.os/\AllBare s'.gens) s₁:=by
  intro H hO hS hok hA hK
  have base_of:∀{b:Addr}{o:Obj},s₁.heap.get? b=some o->H b=none->(Q8 s₁.heap H).get? b=some o:=fun e n=>a5w e n
  have noA:∀{b:Addr}{o:Obj}{es:Array DictEntry}{ep:Nat},s₁.heap.get? b=some o->o.data=.dict es ep->H b=none:=fun {b o es ep} e d=>by
   cases q:H b with
   | none=>rfl
   | some u =>
    have e':b=a:=hA b (by rw[q];simp)
    subst e'
    rw[ha] at e;cases e
    have d':Data.seq vs.toArray _=Data.dict es ep:=d
    cases d'
  have nsK:∀{b:Addr}{m:Str->Option Value},s₁.heap.Ns b m->(Q8 s₁.heap H).Ns b m:=fun {b m} ⟨o,es,ep,e,d,r⟩=>⟨o,es,ep,base_of e (noA e d),d,r⟩
  have hKb:K.In (Q8 s₁.heap H):=fun b o e=>base_of (KX b o e) (by
   cases q:H b with
   | none=>rfl
   | some u =>
    have e':b=a:=hA b (by rw[q];simp)
    subst e'
    rw[hK (by rw[q];simp)] at e;cases e)
  have hM:Mod K mg (Q8 s₁.heap H):=⟨hKb,nsK hns,⟨mb,nsK hb,hbb⟩,let ⟨mc,h1,h2⟩:=hlim;⟨mc,nsK h1,h2⟩⟩
  have e0:Env0 P w K mg (Q8 s₁.heap H) callerA [] s₁ H:=⟨rfl,hM,fun b o e=>a6T e,Nat.le_of_eq (a4n _ _),trivial,fun b hb=>absurd (show b∈([]:List Addr) from hb) (by simp),hok,.of_eq hg⟩
  refine codeAny_mono ((F _ hKb (nsK hns)).run callerA [] s₁ H ⟨[.ref a],[]⟩ [.ref a] [.ref a] _ _ hr e0 (hbind s₁ (.ref a)) (.cons rfl .nil) (hsp H hO hS)) fun r s' h=>?_
  cases r with
  | error e=>exact (hCX H e s' h).elim
  | ok fl =>
   cases fl with
   | next=>exact False.elim h
   | brk=>exact False.elim h
   | cont=>exact False.elim h
   | ret u =>
    obtain ⟨v,H',os,bare,un,hok',r',q⟩:=h
    have q':v=.bl true:=q
    subst q'
    obtain rfl:u=Value.bool true:=r'
    refine ⟨rfl,OldK.of_keep fun b o e=>?_,os,bare⟩
    cases q:H b with
    | none=>exact un.keep b o e q (by intro z;exact absurd (show b∈([]:List Addr) from z) (by simp)) (by simp)
    | some u =>
     rcases hO b with z|⟨ob,xs,z⟩
     ·rw[q] at z;cases z
     ·have z2:=un.frzs b ob _ z
      obtain ⟨e1,_⟩:=hok b _ z
      obtain ⟨e2,_⟩:=hok' b _ z2
      rw[e] at e1;cases e1
      exact e2
 cases hk:K.lookup a with
 | some o =>
  have e:=KX a o hk
  rw[ha] at e
  cases e
  refine core (fun _=>none) (fun _=>.inl rfl) (.inr ⟨_,vs.toArray,_,hk,rfl,rfl,rfl,by rw[List.size_toArray,lenV];exact hl,by simpa using rv⟩) (fun b u z=>by have z':(none:Option HO)=some u:=z;cases z') (fun b z=>absurd rfl z) fun z=>absurd rfl z
 | none =>
  refine core (fun b=>if b=a then some (.frz { cls:=.type "list",data:=.seq vs.toArray } (.lst (ns.map V.int))) else none) (fun b=>?_) (.inl (.inr ⟨{ cls:=.type "list",data:=.seq vs.toArray },if_pos rfl⟩)) (fun b u z=>?_) (fun b z=>?_) fun _=>hk
  ·by_cases hb:b=a
   ·exact .inr ⟨_,_,if_pos hb⟩
   ·exact .inl (if_neg hb)
  ·by_cases hb:b=a
   ·have z':=(if_pos hb).symm.trans z
    cases z'
    subst hb
    exact ⟨ha,by rw[List.length_map];exact hl,vs,_,rv,ha⟩
   ·have z':=(if_neg hb).symm.trans z
    cases z'
  ·by_cases hb:b=a
   ·exact hb
   ·exact absurd (if_neg hb) z
end L2
namespace L2
open PySem PySem.Spec PyProof.Rows
noncomputable abbrev KOf {K:W.Frag}{h:Heap} (_:K.In h):W.Frag:=K
theorem walk_of {l:W.OpenLaw}{n k:Nat}{q:Program}{loose:List Str}{XP:(Str->Option Value)->Heap->Prop}{YP:World->Heap->Prop}{d:DefRec}{K:Params->W.Frag}{CX:World->CXT}{sp:World->Sp}{x:Str}
  (hn:l.most=some n) (hn2:n<=sizeLine) (hdf:d.params.defaults=[]) (hr:Room k callerA)
  (hY:∀(w:World) (h:Heap),YP w h->(K w.params).In h)
  (F:∀(w:World) (mg:Str->Option Value) (fa:Addr) (h:Heap),(K w.params).In h->h.Ns mainGlobals mg->mg d.name=some (.ref fa) ->
   ∃fd:FuncData,(∀(s:Shared) (u:Value),BindsTo s fd ⟨[u],[]⟩ [(x,u)]) /\
    ∀base:Heap,(K w.params).In base->base.Ns mainGlobals mg->FnOk l.prog w (K w.params) mg base (CX w) k fa fd [x] (sp w))
  (hsp:∀(w:World) (H:Hp) (a:Addr) (ns:List Int),ns.length<=n->a5Z H->SqL (K w.params) H a (ns.map V.int)->sp w [.ref a] H (fun v _=>v=.bl true) fun _ _ _=>False)
  (hCX:∀(w:World) (H:Hp) (s:Shared) (e:Value) (s':Shared),CX w [] H s (fun _ _ _=>False) e s'->False):
  W.WalkO q loose XP YP l.row.toRowW d [] (fun f vs=>PySem.call f vs):=by
 refine Att.attach_call hn hdf fun w s₀ s₁ mg mb fa o pm cd doc a vs ns G Y ho hd hcd hmg hobj hints hlen hg=>?_
 have KX:=hY w _ Y
 obtain ⟨fd,hb,hF⟩:=F w mg fa _ KX G.T.g hmg
 exact a58 KX G.T.g G.T.b G.T.builtins G.T.nolimit hg hobj hints (Nat.le_trans hlen hn2) hr hF hb (fun H hO hS=>hsp w H a ns hlen hO hS) fun H e s'=>hCX w H s₁ e s'
end L2
namespace L2
open PySem PySem.Spec PyProof.Rows
noncomputable def J2 (s:Stmt):Arguments:=match s with
 | .FunctionDef _ a _ _ _ _ _ _ _ _=>a
 | _=>{ posonlyargs:=[],args:=[],vararg:=none,kwonlyargs:=[],kw_defaults:=[],kwarg:=none,defaults:=[] }
noncomputable def C5 (s:Stmt):List Stmt:=match s with
 | .FunctionDef _ _ b _ _ _ _ _ _ _=>b
 | _=>[]
noncomputable def d5 (s:Stmt):Scope:=match s with
 | .FunctionDef _ _ _ _ _ _ sc _ _ _=>sc
 | _=>{ kind:=.function,names:=[],isGenerator:=false,isCoroutine:=false }
noncomputable abbrev CX0:CXT:=fun _ _ _ _ _ _=>False
noncomputable abbrev E0:XK:=fun _ _ _=>False
theorem a8J {X:Cx}:O7 CX0 X E0:=fun _ _ _ _ _ _ _ h=>h.elim
structure Fun (K:W.Frag) (x qual:Str) (st:Stmt) (f:Addr) (fd:FuncData):Prop where
 ex:∃(oc:Value) (od:Option Addr) (kV doc pm:Value) (an:Option Addr) (cdv ct:Value) (osl:Array (Option Value)),
  fd=W.fnOf x qual (J2 st) (C5 st) (d5 st) .none kV doc pm an cdv ct/\K.lookup f=some ⟨oc,od,.func fd,osl⟩/\W.codeIn K cdv qual=true
 kp:W.keepIn K (.ref f)=true
section
variable {P:Program}{w:World}{K:W.Frag}{mg:Str->Option Value}{base:Heap}
theorem Fun.ok {x qual:Str}{st:Stmt}{f:Addr}{fd:FuncData}{N ps:List Str}{k:Nat}{sp:Sp} (F:Fun K x qual st f fd) (S:FnScope N ps (d5 st)) (len:∀vs H Q E,sp vs H Q E->vs.length=ps.length)
  (hbody:∀(cdv:Value) (A:Around) (outer:List Env) (s:Shared) (H:Hp) (vs:List V) (Q:VK) (E:XK),Room k (A.deeper (envOfC qual (d5 st) s.heap.objs.size f cdv))->sp vs H Q E ->
   ∃t,PSs (C3 CX0 P w K mg base N qual (d5 st) f cdv A outer s H E).nox (C5 st) t/\t { nx:=fun _ H'=>Q .non H',rt:=Q } (start N vs) H):FnOk P w K mg base CX0 (k+1) f fd ps sp:=by
 obtain ⟨oc,od,kV,doc,pm,an,cdv,ct,osl,rfl,lk,hcd⟩:=F.ex
 refine a6f lk hcd S len fun A outer s H vs Q E hr hsp=>?_
 obtain ⟨t,h,q⟩:=hbody cdv A outer s H vs Q E hr hsp
 exact ⟨t,h.nox,q⟩
theorem Fun.binds {x qual:Str}{st:Stmt}{f:Addr}{fd:FuncData}{ps:List Str} (F:Fun K x qual st f fd)
  (h:∀(kV doc pm:Value) (an:Option Addr) (cdv ct:Value) (us:List Value),us.length=ps.length->bindArgs (W.fnOf x qual (J2 st) (C5 st) (d5 st) .none kV doc pm an cdv ct) ⟨us,[]⟩=pure (ps.zip us)):Binds K fd ps []:=by
 obtain ⟨oc,od,kV,doc,pm,an,cdv,ct,osl,rfl,lk,hcd⟩:=F.ex
 exact .all (h kV doc pm an cdv ct)
theorem a1l {x qual:Str}{st:Stmt}{f:Addr}{oc:Value}{od an:Option Addr}{osl:Array (Option Value)}{kV doc pm cdv ct:Value} (l:K.lookup f=some ⟨oc,od,.func (W.fnOf x qual (J2 st) (C5 st) (d5 st) .none kV doc pm an cdv ct),osl⟩)
  (c:W.codeIn K cdv qual=true) (k:W.keepIn K (.ref f)=true):Fun K x qual st f (W.fnOf x qual (J2 st) (C5 st) (d5 st) .none kV doc pm an cdv ct):=⟨⟨oc,od,kV,doc,pm,an,cdv,ct,osl,rfl,l,c⟩,k⟩
end
theorem Z2 {A:Around}{k:Nat} (hr:Room k A):A.units+1<cLine:=Nat.lt_of_le_of_lt (Nat.add_le_add_left (by decide:1<=64) _) hr.units
theorem a0u {n:Nat} (h:n<=1000):n<sizeLine:=Nat.lt_of_le_of_lt h (by decide)
section
variable {X:Cx}
theorem pv (i:Nat) {x:Str}{pos:Pos} (hN:X.N[i]?=some x:=by rfl) (hv:Vis X.env.scope x:=by first|exact Or.inl rfl|exact Or.inr (Or.inl rfl)|exact Or.inr (Or.inr rfl)) (hd:(x == ("__debug__":Str))=false:=by decide)
  (hcd:(x == ("__classdict__":Str))=false:=by decide):PE X (.Name x pos) (a3O i):=a7P hN hv hd hcd
end
theorem q5 {A B:Prop} (h:B):if false=true then A else B:=by
 rw[if_neg Bool.false_ne_true]
 exact h
theorem u6 {A B:Prop} (h:A):if true=true then A else B:=by
 rw[if_pos rfl]
 exact h
theorem W0 {c A B:Prop} [Decidable c] (h1:c->A) (h2:¬ c->B):if c then A else B:=by
 by_cases h:c
 ·rw[if_pos h]
  exact h1 h
 ·rw[if_neg h]
  exact h2 h
noncomputable def Same (H H':Hp):Prop:=∀b o,H b=some o->H' b=some o
theorem Same.refl (H:Hp):Same H H:=fun _ _ h=>h
theorem Same.trans {H H1 H2:Hp} (a:Same H H1) (b:Same H1 H2):Same H H2:=fun c o h=>b c o (a c o h)
theorem Same.free {H H':Hp} (e:Same H H') {l:Addr} (h:H' l=Option.none):H l=Option.none:=by
 cases q:H l with
 | none=>rfl
 | some o =>
  rw[e l o q] at h
  cases h
end L2
set_option maxHeartbeats 4000000
namespace L2
open PySem PySem.Spec PyProof.Rows
theorem cellsFrom_app:∀(names:List (Str × NameKind)) (n:Nat) (acc:List (Str × Addr)),cellsFrom n names acc=cellsFrom n names []++acc
 | [],n,acc=>rfl
 | (x,k)::r,n,acc=>by
  unfold cellsFrom
  split
  ·rw[cellsFrom_app r (n+1) ((x,n)::acc),cellsFrom_app r (n+1) [(x,n)],List.append_assoc]
   rfl
  ·exact cellsFrom_app r n acc
noncomputable def B0 (env:Env):List (Str × NameKind)->List (Str × Addr)->List (Str × Addr)
 | [],acc=>acc
 | (x,k)::r,acc=>if k == .free then B0 env r ((x,(env.cells.lookup x).getD 0)::acc) else B0 env r acc
theorem a1c {env:Env} (f:Str × NameKind->List (Str × Addr)->Sem (ForInStep (List (Str × Addr))))
  (hf:∀name kind cs,f (name,kind) cs=if kind == .free then (do let a <- cellOf env name;pure (.yield ((name,a)::cs))) else pure (.yield cs)):
  ∀(names:List (Str × NameKind)) (acc:List (Str × Addr)),(∀x∈names,x.2=.free->∃c,env.cells.lookup x.1=some c)->forIn names acc f=pure (B0 env names acc)
 | [],acc,_=>by rw[List.forIn_nil];rfl
 | (x,k)::r,acc,h=>by
  have ih:=fun acc=>a1c f hf r acc fun y hy=>h y (List.mem_cons_of_mem _ hy)
  rw[List.forIn_cons,hf]
  unfold B0
  by_cases hk:(k == NameKind.free)=true
  ·rw[if_pos hk,if_pos hk]
   obtain ⟨c,hc⟩:=h (x,k) List.mem_cons_self (beq_iff_eq.mp hk)
   have hc':env.cells.lookup x=some c:=hc
   have:cellOf env x=pure c:=by unfold cellOf;rw[hc']
   rw[this,hc']
   simp only[pure_bind,Option.getD_some]
   exact ih _
  ·rw[if_neg hk,if_neg hk]
   simp only[pure_bind]
   exact ih _
theorem K6 {scope:Scope}{env:Env} (h:∀x∈scope.names,x.2=.free->∃c,env.cells.lookup x.1=some c):closureFor scope env=pure (B0 env scope.names []):=by
 simp only[closureFor]
 rw[a1c (env:=env) _ (fun name kind cs=>by cases hk:kind == NameKind.free <;> simp[hk]) scope.names [] h]
 rfl
theorem N0 {env:Env}:∀{names:List (Str × NameKind)}{acc:List (Str × Addr)}{x:Str}{c:Addr},(∀x∈names,x.2=.free->∃c,env.cells.lookup x.1=some c) ->
  (x,c)∈B0 env names acc->(x,c)∈acc ∨ env.cells.lookup x=some c
 | [],acc,x,c,_,hm=>.inl hm
 | (y,k)::r,acc,x,c,h,hm=>by
  have hr:∀x∈r,x.2=.free->∃c,env.cells.lookup x.1=some c:=fun z hz=>h z (List.mem_cons_of_mem _ hz)
  unfold B0 at hm
  by_cases hk:(k == NameKind.free)=true
  ·rw[if_pos hk] at hm
   obtain ⟨d,hd⟩:=h (y,k) List.mem_cons_self (beq_iff_eq.mp hk)
   have hd':env.cells.lookup y=some d:=hd
   rcases N0 hr hm with q|q
   ·rcases List.mem_cons.mp q with e|q
    ·cases e
     right;rw[hd'];rfl
    ·exact .inl q
   ·exact .inr q
  ·rw[if_neg hk] at hm
   exact N0 hr hm
theorem R6 {env:Env}:∀{names:List (Str × NameKind)}{acc:List (Str × Addr)}{p:Str × Addr},p∈acc->p∈B0 env names acc
 | [],_,_,h=>h
 | (y,k)::r,acc,p,h=>by
  unfold B0
  split
  ·exact R6 (List.mem_cons_of_mem _ h)
  ·exact R6 h
theorem M8 {env:Env}:∀{names:List (Str × NameKind)}{acc:List (Str × Addr)}{x:Str},(x,NameKind.free)∈names->∃c,(x,c)∈B0 env names acc
 | [],_,_,h=>by cases h
 | (y,k)::r,acc,x,h=>by
  unfold B0
  rcases List.mem_cons.mp h with e|h
  ·cases e
   rw[if_pos (by rfl)]
   exact ⟨_,R6 List.mem_cons_self⟩
  ·split
   ·exact M8 h
   ·exact M8 h
theorem K5 {α:Type}:∀{l:List (Str × α)}{x:Str}{c:α},(x,c)∈l->∃d,l.lookup x=some d
 | (k,v)::r,x,c,h=>by
  rw[List.lookup_cons]
  cases hb:x == k with
  | true=>exact ⟨v,rfl⟩
  | false =>
   rcases List.mem_cons.mp h with e|h
   ·cases e;simp at hb
   ·exact K5 h
theorem J7 {α:Type}:∀{l l':List (Str × α)}{x:Str}{c:α},(l++l').lookup x=some c->l.lookup x=some c ∨ (l.lookup x=none/\l'.lookup x=some c)
 | [],l',x,c,h=>.inr ⟨rfl,h⟩
 | (k,v)::r,l',x,c,h=>by
  rw[List.cons_append,List.lookup_cons] at h
  rw[List.lookup_cons]
  cases hb:x == k with
  | true=>rw[hb] at h;exact .inl h
  | false=>rw[hb] at h;exact J7 h
theorem A4 {α:Type}:∀{l l':List (Str × α)}{x:Str}{c:α},l.lookup x=some c->(l++l').lookup x=some c
 | [],l',x,c,h=>by cases h
 | (k,v)::r,l',x,c,h=>by
  rw[List.cons_append,List.lookup_cons]
  rw[List.lookup_cons] at h
  cases hb:x == k with
  | true=>rw[hb] at h;exact h
  | false=>rw[hb] at h;exact A4 h
theorem C7 {α:Type}:∀{l l':List (Str × α)}{x:Str},l.lookup x=none->(l++l').lookup x=l'.lookup x
 | [],l',x,h=>rfl
 | (k,v)::r,l',x,h=>by
  rw[List.cons_append,List.lookup_cons]
  rw[List.lookup_cons] at h
  cases hb:x == k with
  | true=>rw[hb] at h;cases h
  | false=>rw[hb] at h;exact C7 h
theorem G8 {env:Env}:∀(names:List (Str × NameKind)) (x:Str),
  (names.map fun (n,k)=>if (k == NameKind.free&&env.scope.kind == .function&&env.kindOf n == some .cell) then (n,NameKind.cell) else (n,k)).lookup x
   =(names.lookup x).map fun k=>if (k == NameKind.free&&env.scope.kind == .function&&env.kindOf x == some .cell)=true then NameKind.cell else k
 | [],x=>rfl
 | (n,k)::r,x=>by
  have ih:=G8 (env:=env) r x
  rw[List.map_cons]
  cases hx:x == n with
  | true =>
   have e:x=n:=beq_iff_eq.mp hx
   subst e
   by_cases hc:(k == NameKind.free&&env.scope.kind == .function&&env.kindOf x == some .cell)=true
   ·simp only[hc,if_true,List.lookup_cons,hx,Option.map_some]
   ·simp only[hc,List.lookup_cons,hx,Option.map_some]
    simp
  | false =>
   show List.lookup x ((if (k == NameKind.free&&env.scope.kind == .function&&env.kindOf n == some .cell)=true then (n,NameKind.cell) else (n,k))::_)=_
   by_cases hc:(k == NameKind.free&&env.scope.kind == .function&&env.kindOf n == some .cell)=true
   ·rw[if_pos hc]
    simp only[List.lookup_cons,hx]
    exact ih
   ·rw[if_neg hc]
    simp only[List.lookup_cons,hx]
    exact ih
theorem cellsFrom_in:∀{names:List (Str × NameKind)}{n:Nat}{acc:List (Str × Addr)}{x:Str}{d:Addr},(x,d)∈cellsFrom n names acc->(x,d)∈acc ∨ (x,NameKind.cell)∈names
 | [],_,_,_,_,h=>.inl h
 | (y,k)::r,n,acc,x,d,h=>by
  unfold cellsFrom at h
  by_cases hk:(k == NameKind.cell)=true
  ·rw[if_pos hk] at h
   have e:k=.cell:=beq_iff_eq.mp hk
   subst e
   rcases cellsFrom_in h with q|q
   ·rcases List.mem_cons.mp q with z|z
    ·cases z;exact .inr List.mem_cons_self
    ·exact .inl z
   ·exact .inr (List.mem_cons_of_mem _ q)
  ·rw[if_neg hk] at h
   rcases cellsFrom_in h with q|q
   ·exact .inl q
   ·exact .inr (List.mem_cons_of_mem _ q)
noncomputable def G9 (scope:Scope):Bool:=scope.names.all fun x=>scope.names.lookup x.1 == some x.2
theorem J6 {scope:Scope} (h:G9 scope=true) {x:Str × NameKind} (hx:x∈scope.names):scope.names.lookup x.1=some x.2:=beq_iff_eq.mp (List.all_eq_true.mp h x hx)
theorem a1S {scope:Scope}{env:Env}{x:Str} (h:(relabel scope env).names.lookup x=some .cell ∨ (relabel scope env).names.lookup x=some .free):
  scope.names.lookup x=some .cell ∨ scope.names.lookup x=some .free:=by
 unfold relabel at h
 rw[G8] at h
 cases e:scope.names.lookup x with
 | none=>rw[e] at h;rcases h with h|h <;> cases h
 | some k =>
  rw[e,Option.map_some] at h
  by_cases hc:(k == NameKind.free&&env.scope.kind == .function&&env.kindOf x == some .cell)=true
  ·rw[Bool.and_eq_true,Bool.and_eq_true] at hc
   exact .inr (by rw[beq_iff_eq.mp hc.1.1])
  ·simp only[hc] at h
   simpa using h
theorem V2 {M:Model}{A:Around}{E:Value->Shared->Prop}{s:Shared}{scope:Scope}{globals:Addr}{cl:List (Str × Addr)}{qual:Str}{env:Env}{Q:Env->Shared->Prop}
  (h:Q (newEnv scope s.heap.objs.size globals (cellsFrom (s.heap.objs.size+1) scope.names []++cl) qual none .none (some env) builtinsNs)
   { s with heap:=pushCells (s.heap.push { cls:=.type "dict",data:=.dict #[] }) scope.names }):
  wpAny M A (newFunctionEnv scope globals cl [] qual none .none (some env)) Q E s:=by
 simp only[newFunctionEnv,Option.isSome_some,if_true]
 refine wpAny_bind (wpAny_alloc ?_)
 refine wpAny_bind (wpAny_layCells _ (fun name kind cells=>by cases hkc:kind == NameKind.cell <;> simp[hkc]) _ _ _ _ ?_)
 rw[show ({ s with heap:=s.heap.push { cls:=.type "dict",data:=.dict #[] } }:Shared).heap.objs.size=s.heap.objs.size+1 from Heap.size_push ..,cellsFrom_app]
 exact wpAny_bind (wpAny_pure (wpAny_pure h))
noncomputable def Cx.comp (X:Cx) (scope:Scope) (N:List Str) (s:Shared) (H:Hp) (ex:List Addr):Cx where
 prog:=X.prog
 w:=X.w
 K:=X.K
 mg:=X.mg
 base:=X.base
 A:=X.A
 N:=N
 s₀:=s
 H₀:=H
 env:=compEnvC scope (cellsFrom (s.heap.objs.size+1) scope.names []++B0 X.env scope.names []) s.heap.objs.size X.env
 outer:=X.stack
 stack:=X.stack
 ex:=ex
 fn:=fun x=>scope.names.lookup x == some .cell
 calm:=X.calm
 pn:=[]
 xe:=fun _ _=>False
noncomputable def pick (ix:List (Option Nat)) (σ:St):St:=ix.map fun o=>o.bind fun i=>(σ[i]?).join
noncomputable def D0 (scope:Scope) (N:List Str):List Str->List (Option Nat)->Bool
 | [],[]=>true
 | _::N',none::ix=>D0 scope N N' ix
 | x::N',some i::ix=>N[i]? == some x&&scope.names.lookup x == some .free&&D0 scope N N' ix
 | _,_=>false
theorem W1 {scope:Scope}{N:List Str}:∀{N':List Str}{ix:List (Option Nat)},D0 scope N N' ix=true->ix.length=N'.length
 | [],[],_=>rfl
 | _::N',none::ix,h=>by simp[W1 (N':=N') (ix:=ix) h]
 | x::N',some i::ix,h=>by
  unfold D0 at h
  rw[Bool.and_eq_true] at h
  simp[W1 (N':=N') (ix:=ix) h.2]
 | [],_::_,h=>by simp[D0] at h
 | _::_,[],h=>by simp[D0] at h
theorem V7 {scope:Scope}{N:List Str}:∀{N':List Str}{ix:List (Option Nat)}{j i:Nat},D0 scope N N' ix=true->ix[j]?=some (some i) ->
  ∃x,N'[j]?=some x/\N[i]?=some x/\scope.names.lookup x=some .free
 | [],[],j,i,_,e=>by simp at e
 | y::N',none::ix,0,i,h,e=>by simp at e
 | y::N',none::ix,j+1,i,h,e=>by
  obtain ⟨x,h1,h2⟩:=V7 (N':=N') (ix:=ix) (j:=j) (i:=i) h (by simpa using e)
  exact ⟨x,by simpa using h1,h2⟩
 | y::N',some k::ix,0,i,h,e=>by
  unfold D0 at h
  rw[Bool.and_eq_true,Bool.and_eq_true] at h
  simp at e
  subst e
  exact ⟨y,rfl,beq_iff_eq.mp h.1.1,beq_iff_eq.mp h.1.2⟩
 | y::N',some k::ix,j+1,i,h,e=>by
  unfold D0 at h
  rw[Bool.and_eq_true] at h
  obtain ⟨x,h1,h2⟩:=V7 (N':=N') (ix:=ix) (j:=j) (i:=i) h.2 (by simpa using e)
  exact ⟨x,by simpa using h1,h2⟩
 | [],_::_,_,_,h,_=>by simp[D0] at h
 | _::_,[],_,_,h,_=>by simp[D0] at h
noncomputable def K2 (scope:Scope) (env:Env):Bool:=scope.names.all fun x=>!(x.2 == .free) || env.kindOf x.1 == some .cell || env.kindOf x.1 == some .free
theorem X9 {scope:Scope}{env:Env} (h:K2 scope env=true) {x:Str × NameKind} (hx:x∈scope.names) (hk:x.2=.free):env.kindOf x.1=some .cell ∨ env.kindOf x.1=some .free:=by
 have:=List.all_eq_true.mp h x hx
 rw[hk] at this
 simpa using this
section
variable {X:Cx}{pins:List (Addr × Obj)}{σ:St}{H:Hp}{s:Shared}{scope:Scope}{N:List Str}{ix:List (Option Nat)}{ex:List Addr}
theorem Inv.closed (I:Inv X pins σ H s) (hf:K2 scope X.env=true):∀x∈scope.names,x.2=.free->∃c,X.env.cells.lookup x.1=some c :=
 fun x hx hk=>I.ok.has x.1 (X9 hf hx hk)
theorem a55 {j:Nat}{v:V} (h:(pick ix σ)[j]?=some (some v)):∃i,ix[j]?=some (some i)/\σ[i]?=some (some v):=by
 unfold pick at h
 rw[List.getElem?_map] at h
 cases e:ix[j]? with
 | none=>rw[e] at h;cases h
 | some o =>
  rw[e] at h
  cases o with
  | none=>cases h
  | some i =>
   refine ⟨i,rfl,?_⟩
   have h':(σ[i]?).join=some v:=Option.some.inj h
   cases q:σ[i]? with
   | none=>rw[q] at h';cases h'
   | some z=>rw[q] at h';exact congrArg some h'
theorem Inv.comp (I:Inv X pins σ H s) (hk:scope.kind=.function) (hnm:G9 scope=true) (hf:K2 scope X.env=true) (hx:D0 scope X.N N ix=true)
  (hex:∀b∈ex,H b=none/\b≠X.env.locals/\b ∉ X.fs/\(b∈X.ex ∨ X.s₀.heap.objs.size<=b)/\(∀x c,X.env.cells.lookup x=some c->c≠b)/\b<s.heap.objs.size):
  Inv (X.comp scope N s H ex) [] (pick ix σ) H { s with heap:=pushCells (s.heap.push { cls:=.type "dict",data:=.dict #[] }) scope.names }:=by
 have hcl:=I.closed hf
 have hkeep:∀b o,s.heap.get? b=some o->(pushCells (s.heap.push { cls:=.type "dict",data:=.dict #[] }) scope.names).get? b=some o:=fun b o e=>pushCells_keeps _ _ b o (Heap.get?_push_of_some _ e)
 have ok:=cellsFrom_ok scope.names (s.heap.push { cls:=.type "dict",data:=.dict #[] }) (s.heap.objs.size+1) [] ⟨fun _ _ hm=>(nomatch hm),List.Pairwise.nil⟩ (by rw[Heap.size_push];exact Nat.le_refl _)
 rw[Heap.size_push] at ok
 have hns:(pushCells (s.heap.push { cls:=.type "dict",data:=.dict #[] }) scope.names).Ns s.heap.objs.size (fun _=>none):=(Heap.Ns.new s.heap (.type "dict")).keeps (pushCells_keeps _ _)
 have cells:∀x c,(X.comp scope N s H ex).env.cells.lookup x=some c->(x,c)∈cellsFrom (s.heap.objs.size+1) scope.names [] ∨ X.env.cells.lookup x=some c:=fun x c e=>by
  have e':(cellsFrom (s.heap.objs.size+1) scope.names []++B0 X.env scope.names []).lookup x=some c:=e
  rcases J7 e' with q|⟨_,q⟩
  ·exact .inl (mem_of_lookup q)
  ·rcases N0 hcl (mem_of_lookup q) with z|z
   ·cases z
   ·exact .inr z
 have old:∀x c,X.env.cells.lookup x=some c->c+1<=s.heap.objs.size:=fun x c e=>let ⟨v,q⟩:=I.cell x c e;q.lt
 have own:∀x c,(x,c)∈cellsFrom (s.heap.objs.size+1) scope.names []->s.heap.objs.size+1<=c:=fun x c e=>(ok.empty x c e).2
 refine ⟨⟨I.ok.mod,hk,I.ok.glob,I.ok.blt,Nat.le_refl _,fun x y c h1 h2=>?_,fun x h1=>?_,fun x c h1 h2=>?_,I.ok.hd,I.ok.frames,.inl rfl,fun b hb=>⟨?_,fun x c e=>?_⟩,I.bs,Nat.le_trans I.ok.bsz I.sz,fun b o e hb=>?_,fun b hb hb'=>?_,I.stack,I.stkFree⟩,
  rfl,I.bare,Un.kept hkeep,⟨_,hns,fun j x v h1 h2 h3=>?_⟩,fun x c e=>?_,I.hok.fresh (Nat.le_refl _),fun x c e=>?_,fun p hp=>absurd (show p∈([]:List (Addr × Obj)) from hp) (by simp),I.hok.kept hkeep,?_⟩
 ·rcases cells x c h1 with q1|q1 <;> rcases cells y c h2 with q2|q2
  ·exact name_of_addr ok.apart q1 q2
  ·exact absurd (Nat.le_trans (own _ _ q1) (Nat.le_trans (Nat.le_succ _) (old _ _ q2))) (Nat.not_succ_le_self _)
  ·exact absurd (Nat.le_trans (own _ _ q2) (Nat.le_trans (Nat.le_succ _) (old _ _ q1))) (Nat.not_succ_le_self _)
  ·exact I.ok.inj x y c q1 q2
 ·have h1':scope.names.lookup x=some .cell ∨ scope.names.lookup x=some .free:=a1S h1
  rcases h1' with q|q
  ·obtain ⟨c,e⟩:=Q4 (n:=s.heap.objs.size+1) (sc:=scope) q
   exact ⟨c,A4 e⟩
  ·obtain ⟨c,e⟩:=M8 (env:=X.env) (acc:=[]) (mem_of_lookup q)
   cases z:(cellsFrom (s.heap.objs.size+1) scope.names []).lookup x with
   | some d=>exact ⟨d,A4 z⟩
   | none =>
    obtain ⟨d,e'⟩:=K5 e
    exact ⟨d,(C7 z).trans e'⟩
 ·have h1':scope.names.lookup x=some .cell:=beq_iff_eq.mp h1
  obtain ⟨d,e⟩:=Q4 (n:=s.heap.objs.size+1) (sc:=scope) h1'
  have e':(cellsFrom (s.heap.objs.size+1) scope.names []++B0 X.env scope.names []).lookup x=some c:=h2
  rw[A4 e] at e'
  cases e'
  exact Nat.le_trans (Nat.le_succ _) (own _ _ (mem_of_lookup e))
 ·exact Nat.ne_of_lt (hex b hb).2.2.2.2.2
 ·rcases cells x c e with q|q
  ·exact Nat.ne_of_gt (Nat.lt_of_lt_of_le (hex b hb).2.2.2.2.2 (Nat.le_trans (Nat.le_succ _) (own _ _ q)))
  ·exact (hex b hb).2.2.2.2.1 x c q
 ·rcases (hex b hb).2.2.2.1 with z|z
  ·exact I.ok.noex b o e z
  ·exact absurd (Nat.lt_of_lt_of_le (Heap.lt_size e) (Nat.le_trans I.ok.bsz z)) (Nat.lt_irrefl _)
 ·rcases List.mem_cons.mp (I.stkSub b hb') with z|z
  ·exact (hex b hb).2.1 z
  ·exact (hex b hb).2.2.1 z
 ·obtain ⟨i,e1,e2⟩:=a55 h2
  obtain ⟨y,f1,f2,f3⟩:=V7 hx e1
  have exy:x=y:=by
   have h1':N[j]?=some x:=h1
   rw[f1] at h1';exact (Option.some.inj h1').symm
  subst exy
  obtain ⟨m,hm,hl⟩:=I.loc
  have kx:=X9 hf (mem_of_lookup f3) rfl
  have vis:Vis X.env.scope x:=by
   rcases kx with k|k
   ·exact .inr (.inl k)
   ·exact .inr (.inr k)
  obtain ⟨u,ru,l⟩:=hl i x v f2 e2 vis
  refine ⟨u,ru,.inr ?_⟩
  have hv:(relabel scope X.env).names.lookup x=some .cell ∨ (relabel scope X.env).names.lookup x=some .free:=by
   unfold relabel
   rw[G8,f3,Option.map_some]
   split
   ·exact .inl rfl
   ·exact .inr rfl
  refine ⟨hv,?_⟩
  rcases l with ⟨k,_⟩|⟨k,c,ec,z⟩
  ·have k':X.env.kindOf x=some .local:=k
   rcases kx with q|q <;> rw[q] at k' <;> cases k'
  ·obtain ⟨d,ed⟩:=M8 (env:=X.env) (acc:=[]) (mem_of_lookup f3)
   have nocell:(cellsFrom (s.heap.objs.size+1) scope.names []).lookup x=none ∨ ∃d,(cellsFrom (s.heap.objs.size+1) scope.names []).lookup x=some d:=by
    cases (cellsFrom (s.heap.objs.size+1) scope.names []).lookup x with
    | none=>exact .inl rfl
    | some d=>exact .inr ⟨d,rfl⟩
   rcases nocell with q|⟨d',q⟩
   ·obtain ⟨d2,ed2⟩:=K5 ed
    have hd2:X.env.cells.lookup x=some d2:=by
     rcases N0 hcl (mem_of_lookup ed2) with z|z
     ·cases z
     ·exact z
    rw[ec] at hd2
    cases hd2
    exact ⟨c,(C7 q).trans ed2,z.keeps hkeep⟩
   ·-- a name is not both free and a cell of the block
    exfalso
    rcases cellsFrom_in (mem_of_lookup q) with z|z
    ·cases z
    ·have z':=J6 hnm z
     rw[f3] at z'
     cases z'
 ·rcases cells x c e with q|q
  ·exact ⟨none,(ok.empty x c q).1⟩
  ·obtain ⟨v,z⟩:=I.cell x c q
   exact ⟨v,z.keeps hkeep⟩
 ·rcases cells x c e with q|q
  ·exact I.hok.fresh (Nat.le_trans (Nat.le_succ _) (own x c q))
  ·exact I.freeC x c q
 ·show (pick ix σ).length=N.length
  unfold pick
  rw[List.length_map]
  exact W1 hx
end
end L2
namespace L2
open PySem PySem.Spec PyProof.Rows
section
variable {prog:Program}{w:World}{A:Around}{R:Result->Shared->Prop}{s:Shared}
theorem a1L {elt target iter:Expr}{ifs:List Expr}{scope:Scope}{pos:Pos}{it acc:Value}{env:Env} (I:Nat->Shared->Prop)
  (turn:∀n s,I n s->wpAny (model prog w) A (pyNext it) (fun r s₁=>match r with
   | none=>R (.ok .next) s₁
   | some v=>wpAny (model prog w) A (letOwnedTupleGo target it v) (fun _ s₁'=>wpAny (model prog w) A (assign target env v) (fun _ s₂ =>
     wpAny (model prog w) A (forIn ifs true fun c r=>if r=true then do let ok <- isTrue c env (eval c env);pure (ForInStep.yield ok) else pure (ForInStep.yield r)) (fun ok s₃ =>
      if ok=true then wpAny (model prog w) A (eval elt env) (fun x s₄ =>
       wpAny (model prog w) A (call (.builtin "list.append") [acc,x]) (fun _ s₅=>∃m,m<n/\I m s₅) (fun _ _=>False) s₄) (fun _ _=>False) s₃
      else ∃m,m<n/\I m s₃) (fun _ _=>False) s₂) (fun _ _=>False) s₁') (fun _ _=>False) s₁) (fun _ _=>False) s)
  (n:Nat) (h:I n s):
  codeAny (model prog w) A (.compLoop (.ListComp elt [⟨target,iter,ifs,0⟩] scope pos) 0 it acc env) R s:=by
 refine codeAny_loop rfl I (fun n s hI=>?_) n h
 show wpAny _ A ((compTurn (.ListComp elt [⟨target,iter,ifs,0⟩] scope pos) 0 it acc env).onRaise (fun x=>do noteFrame x env;theTreesLotGoes x)) _ _ s
 refine wpAny_noted ?_
 rw[compTurn_list]
 refine wpAny_bind (wpAny_standAt (wpAny_bind (wpAny_mono (turn n s hI) (fun r s₁ h₁=>?_) fun _ _ h'=>h'.elim)))
 cases r with
 | none=>exact wpAny_pure h₁
 | some v =>
  refine wpAny_bind (wpAny_mono h₁ (fun _ s₁' h₁'=>?_) fun _ _ h'=>h'.elim)
  refine wpAny_bind (wpAny_mono h₁' (fun _ s₂ h₂=>wpAny_bind (wpAny_mono h₂ (fun ok s₃ h₃=>?_) fun _ _ h'=>h'.elim)) fun _ _ h'=>h'.elim)
  cases ok with
  | false=>exact wpAny_pure ⟨rfl,h₃⟩
  | true =>
   exact wpAny_bind (wpAny_bind (wpAny_mono h₃ (fun x s₄ h₄=>wpAny_bind (wpAny_mono h₄ (fun _ s₅ h₅=>wpAny_pure (wpAny_pure ⟨rfl,h₅⟩)) fun _ _ h'=>h'.elim)) fun _ _ h'=>h'.elim))
end
noncomputable def Wk (σ σ2:St):Prop:=σ.length=σ2.length/\∀(i:Nat) v,σ[i]?=some (some v)->σ2[i]?=some (some v)
theorem Wk.set {σ:St}{i:Nat}{v:V} (h:σ[i]?=some none ∨ σ[i]?=none):Wk σ (σ.set i (some v)):=by
 refine ⟨by simp,fun j u e=>?_⟩
 by_cases hj:j=i
 ·subst hj
  rcases h with h|h <;> rw[h] at e <;> cases e
 ·rw[List.getElem?_set_ne (Ne.symm hj)]
  exact e
section
variable {X:Cx}{pins:List (Addr × Obj)}{σ:St}{H H':Hp}{s s':Shared}{scope:Scope}{N:List Str}{ix:List (Option Nat)}{fp:List Addr}
noncomputable abbrev i5 (s:Shared):Shared:={ s with heap:=s.heap.push { cls:=.type "list",dict:=none,data:=.seq ([]:List Value).toArray } }
theorem n5 (s:Shared):(i5 s).heap.objs.size=s.heap.objs.size+1:=Heap.size_push ..
theorem Inv.comp_end {pins':List (Addr × Obj)}{σ':St}{ys:List V}{its:List Value}{n:Nat}{h':Heap} (I:Inv X pins σ H s) (J:Inv (X.comp scope N (i5 s) H (s.heap.objs.size::fp)) pins' σ' H' s') (hfp:∀b∈fp,C6 X pins H b)
  (hD:H' s.heap.objs.size=none) (hl:s'.heap.get? s.heap.objs.size=some { cls:=.type "list",data:=.seq its.toArray n }) (hv:Vals ys its) (hz:ys.length<=sizeLine)
  (hs:Heap.SameBut (i5 s).heap.objs.size s'.heap h'):Inv X pins σ (b7 H' s.heap.objs.size (.lst ys)) { s' with heap:=h' }:=by
 have oldC:∀b,b<s.heap.objs.size->b≠(i5 s).heap.objs.size:=fun b hb=>by rw[n5];exact Nat.ne_of_lt (Nat.lt_succ_of_lt hb)
 have DC:s.heap.objs.size≠(i5 s).heap.objs.size:=by rw[n5];exact Nat.ne_of_lt (Nat.lt_succ_self _)
 have pushed:∀b o,s.heap.get? b=some o->(i5 s).heap.get? b=some o:=fun b o e=>Heap.get?_push_of_some _ e
 have nex:∀b o,s.heap.get? b=some o->b ∉ fp->b ∉ (X.comp scope N (i5 s) H (s.heap.objs.size::fp)).ex:=fun b o e hb z=>by
  rcases List.mem_cons.mp (show b∈s.heap.objs.size::fp from z) with z|z
  ·rw[z] at e;exact absurd (Heap.lt_size e) (Nat.lt_irrefl _)
  ·exact hb z
 have U:=J.base
 have un:Un (G3 X.stack) fp H (b7 H' s.heap.objs.size (.lst ys)) s.heap h':=by
  refine ⟨fun b o e n hb hx=>?_,fun b o e n hb hx=>?_,fun b o e n hx=>?_,fun b o e hx=>?_,fun b xs e=>?_,fun b o u e=>?_,fun b ps e=>?_⟩
  ·exact (hs.2 b (oldC b (Heap.lt_size e))).trans (U.keep b o (pushed b o e) n hb (nex b o e hx))
  ·obtain ⟨sl,q⟩:=U.slot b o (pushed b o e) n hb (nex b o e hx)
   exact ⟨sl,(hs.2 b (oldC b (Heap.lt_size e))).trans q⟩
  ·rw[d0 (Nat.ne_of_lt (Heap.lt_size e))]
   exact U.free b o (pushed b o e) n (nex b o e hx)
  ·obtain ⟨o',q⟩:=U.there b o (pushed b o e) (nex b o e hx)
   exact ⟨o',(hs.2 b (oldC b (Heap.lt_size e))).trans q⟩
  ·have q:=U.tups b xs e
   rw[d0 (d6 q hD)];exact q
  ·have q:=U.frzs b o u e
   rw[d0 (d6 q hD)];exact q
  ·obtain ⟨m,q⟩:=U.tbls b ps e
   exact ⟨m,by rw[d0 (d6 q hD)];exact q⟩
 have hC:H' (i5 s).heap.objs.size=none:=J.free
 have hok:HOk X.prog X.w (b7 H' s.heap.objs.size (.lst ys)) h':=fun b u e=>by
  by_cases hb:b=s.heap.objs.size
  ·subst hb
   rw[b6] at e;cases e
   exact ⟨hz,its,n,hv,(hs.2 _ DC).trans hl⟩
  ·rw[d0 hb] at e
   refine (J.hok b u e).stay (fun c v hc q=>(hs.2 c ?_).trans q) (fun c q=>by rw[d0 (d6 q hD)];exact q) fun c xs q=>by rw[d0 (d6 q hD)];exact q
   rintro rfl
   rcases hc with z|z
   ·rw[<- z,hC] at e;cases e
   ·rw[hC] at z;cases z
 exact I.call' (s':={ s' with heap:=h' }) (ch:=fp) J.os un hok J.bare fun b hb=>⟨(hfp b hb).2.2.2.1,(hfp b hb).2.1,(hfp b hb).2.2.2.2.1,(hfp b hb).2.2.2.2.2⟩
end
section
variable {X:Cx}{scope:Scope}{N:List Str}{ix:List (Option Nat)}{elt target iter:Expr}{ifs:List Expr}{pos:Pos}{wi:TI}{g:TG}{te:TE}{tc:TT}
noncomputable def T4 (X:Cx) (ifs:List Expr) (t:TT):Prop :=
 ∀(pins:List (Addr × Obj)) (s:Shared) (σ:St) (H:Hp) (Q:Bool->Hp->Prop),Inv X pins σ H s->t σ H Q ->
  wpAny (model X.prog X.w) X.A (forIn ifs true fun c r=>if r=true then do let ok <- isTrue c X.env (eval c X.env);pure (ForInStep.yield ok) else pure (ForInStep.yield r)) (TP X pins σ Q) X.xe s
noncomputable def tTrue:TT:=fun _ H Q=>Q true H
theorem pifs_nil:T4 X [] tTrue:=fun _ _ _ H _ I h=>wpAny_tests_nil ⟨H,I,h⟩
theorem a5U {c:Expr} (h:PT X c tc):T4 X [c] tc:=fun pins s σ H Q I hq=>wpAny_tests_one (h pins s σ H Q I hq)
noncomputable def Y0 (J:It) (σ0:St) (g:TG) (tc:TT) (te:TE) (H1:Hp) (F:List V->Hp->Prop):Prop:=∃W:Nat->Nat->List V->Hp->Prop,(∃m,W 0 m [] H1)/\∀i m ys H2,W i m ys H2->ys.length<=sizeLine /\
 ((J.stop i H2/\F ys H2) ∨
  (J.go i H2/\∃(Ny:V->Hp->Prop) (Nn:Hp->Prop),(∀y H,Ny y H->∃m',m'<m/\W (i+1) m' (ys++[y]) H)/\(∀H,Nn H->∃m',m'<m/\W (i+1) m' ys H) /\
    ∀x H3,J.yld i H2 x H3->g x σ0 H3 fun σ2 H4=>Wk σ0 σ2/\tc σ2 H4 fun b H5=>if b=true then te σ2 H5 Ny else Nn H5))
theorem a1A {pins:List (Addr × Obj)}{σ:St}{H:Hp}{s:Shared}{it:Addr}{fp:List Addr}{tn:Nat->Heap->Prop}{J:It}{F:List V->Hp->Prop}{E:Value->Shared->Prop}{RR:Value->Addr->Result->Shared->Prop}
  (hc:X.calm=true) (hk:scope.kind=.function) (hnm:G9 scope=true) (hf:K2 scope X.env=true) (hx:D0 scope X.N N ix=true)
  (hg:∀s H ex,PG (X.comp scope N s H ex) target g) (ht:∀s H ex,T4 (X.comp scope N s H ex) ifs tc) (he:PE (X.comp scope N (i5 s) H (s.heap.objs.size::fp)) elt te)
  (I:Inv X pins σ H s) (T:Turn X.prog X.w X.K target J fp it tn) (st:tn 0 s.heap) (hfp:∀b∈fp,C6 X pins H b) (B:Y0 J (pick ix σ) g tc te H F)
  (fin:∀(ys:List V) (H':Hp) (s':Shared) (σ':St) (its:List Value) (n:Nat),Inv (X.comp scope N (i5 s) H (s.heap.objs.size::fp)) [] σ' H' s'->H' s.heap.objs.size=none ->
   s'.heap.get? s.heap.objs.size=some { cls:=.type "list",data:=.seq its.toArray n }->Vals ys its->ys.length<=sizeLine->F ys H'->RR (.ref s.heap.objs.size) (i5 s).heap.objs.size (.ok .next) s'):
  wpAny (model X.prog X.w) X.A (newList []) (fun acc s₃=>wpAny (model X.prog X.w) X.A (newFunctionEnv scope X.env.globals (B0 X.env scope.names []) [] X.env.qual none .none (some X.env)) (fun cenv s₄ =>
   codeAny (model X.prog X.w) X.A (.compStart (.ListComp elt [⟨target,iter,ifs,0⟩] scope pos) 0 (.ref it) acc { cenv with scope:=relabel scope X.env }) (RR acc cenv.locals) s₄) E s₃) E s:=by
 refine wpAny_newObj_type (V2 ?_) (by show ([]:List Value).toArray.size<=sizeLine;exact Nat.zero_le _)
 obtain ⟨W,⟨m0,w0⟩,turn⟩:=B
 have I1:Inv X pins σ H (i5 s):=I.kept (t':=s.toks) fun b o e=>Heap.get?_push_of_some _ e
 have fpLt:∀b∈fp,b<s.heap.objs.size:=fun b hb=>let ⟨o,e,_⟩:=T.obj 0 _ st b hb;Heap.lt_size e
 have accE:(i5 s).heap.get? s.heap.objs.size=some { cls:=.type "list",dict:=none,data:=.seq ([]:List Value).toArray }:=Heap.get?_push_size _ rfl
 have fD:C6 X pins H s.heap.objs.size:=I.fpOk (Nat.le_refl _) (I.hok.fresh (Nat.le_refl _))
 have J0:Inv (X.comp scope N (i5 s) H (s.heap.objs.size::fp)) [] (pick ix σ) H _:=I1.comp (N:=N) (ix:=ix) (ex:=s.heap.objs.size::fp) hk hnm hf hx fun b hb=>by
  rcases List.mem_cons.mp hb with z|z
  ·subst z
   exact ⟨fD.1,fD.2.1,fD.2.2.1,fD.2.2.2.1,fD.2.2.2.2.1,by rw[n5];exact Nat.lt_succ_self _⟩
  ·obtain ⟨f0,f1,f2,f3,f4,_⟩:=hfp b z
   exact ⟨f0,f1,f2,f3,f4,by rw[n5];exact Nat.lt_succ_of_lt (fpLt b z)⟩
 have keep0:∀b o,(i5 s).heap.get? b=some o->(pushCells ((i5 s).heap.push { cls:=.type "dict",data:=.dict #[] }) scope.names).get? b=some o:=fun b o e=>pushCells_keeps _ _ b o (Heap.get?_push_of_some _ e)
 have st0:tn 0 (pushCells ((i5 s).heap.push { cls:=.type "dict",data:=.dict #[] }) scope.names):=T.keep 0 _ _ st fun b hb o e=>keep0 b o (Heap.get?_push_of_some _ e)
 have exOk:∀b∈s.heap.objs.size::fp,b≠(X.comp scope N (i5 s) H (s.heap.objs.size::fp)).env.locals/\b ∉ (X.comp scope N (i5 s) H (s.heap.objs.size::fp)).fs /\
   ∀x c,(X.comp scope N (i5 s) H (s.heap.objs.size::fp)).env.cells.lookup x=some c->c≠b:=fun b hb=>⟨(J0.ok.exf b hb).1,J0.ok.exfs b hb,(J0.ok.exf b hb).2⟩
 have stat:∀{H':Hp}{o:Obj},(∀b∈fp,H' b=none)->∀b∈fp,C6 (X.comp scope N (i5 s) H (s.heap.objs.size::fp)) [(s.heap.objs.size,o)] H' b:=fun {H' o} hn b hb=>by
  obtain ⟨e1,e2,e3⟩:=exOk b (List.mem_cons_of_mem _ hb)
  refine ⟨hn b hb,e1,e2,.inl (List.mem_cons_of_mem _ hb),e3,fun p hp=>?_⟩
  have hp':p∈[(s.heap.objs.size,o)]:=(List.mem_append.mp hp).elim (fun z=>absurd (show p∈([]:List (Addr × Obj)) from z) (by simp)) id
  rw[List.mem_singleton.mp hp']
  exact Nat.ne_of_gt (fpLt b hb)
 have loop:codeAny (model X.prog X.w) X.A (.compLoop (.ListComp elt [⟨target,iter,ifs,0⟩] scope pos) 0 (.ref it) (.ref s.heap.objs.size) (X.comp scope N (i5 s) H (s.heap.objs.size::fp)).env) (RR (.ref s.heap.objs.size) (i5 s).heap.objs.size)
   { i5 s with heap:=pushCells ((i5 s).heap.push { cls:=.type "dict",data:=.dict #[] }) scope.names }:=by
  refine a1L (fun n s'=>∃i ys its k H',Inv (X.comp scope N (i5 s) H (s.heap.objs.size::fp)) [] (pick ix σ) H' s'/\tn i s'.heap/\(∀b∈fp,H' b=none)/\H' s.heap.objs.size=none /\
   s'.heap.get? s.heap.objs.size=some { cls:=.type "list",data:=.seq (its:List Value).toArray k }/\Vals ys its/\W i n ys H') ?_ m0
   ⟨0,[],[],0,H,J0,st0,fun b hb=>(hfp b hb).1,fD.1,keep0 _ _ accE,.nil,w0⟩
  rintro n s3 ⟨i,ys,its,k,H3,I3,st3,fr3,d3,l3,v3,w3⟩
  obtain ⟨hz,hw⟩:=turn i n ys H3 w3
  have pinD:Inv (X.comp scope N (i5 s) H (s.heap.objs.size::fp)) [(s.heap.objs.size,{ cls:=.type "list",data:=.seq its.toArray k })] (pick ix σ) H3 s3:=I3.pins_of fun p hp=>by
   rw[List.mem_singleton.mp hp]
   exact ⟨l3,d3,(exOk _ List.mem_cons_self).1,(exOk _ List.mem_cons_self).2.1,fun v z=>by cases z⟩
  rcases hw with ⟨stop,fy⟩|⟨go,Ny,Nn,hNy,hNn,step⟩
  ·refine f7 (T.done (X.comp scope N (i5 s) H (s.heap.objs.size::fp)) rfl rfl rfl hc i _ s3 (pick ix σ) H3 (fun _ _=>False) pinD (stat fr3) st3 stop) fun r s4 ⟨hr,I4⟩=>?_
   subst hr
   have q:=(I4.pin (s.heap.objs.size,_) (List.mem_append_right _ List.mem_cons_self)).1
   exact fin ys H3 s4 _ its k (I4.pins_of fun p hp=>by cases hp) d3 q v3 hz fy
  ·refine f7 (T.item (X.comp scope N (i5 s) H (s.heap.objs.size::fp)) rfl rfl rfl hc i _ s3 (pick ix σ) H3 (fun _ _=>False) pinD (stat fr3) st3 go) fun r s4 ⟨u,hr,h4⟩=>?_
   subst hr
   refine f7 h4 fun _ s5 ⟨x,H5,I5,r5,y5,st5,fr5⟩=>?_
   have I5':=I5.pinned (stat fr5) (T.obj _ _ st5)
   refine f7 (hg (i5 s) H (s.heap.objs.size::fp) _ s5 (pick ix σ) H5 x u _ I5' r5 (step x H5 y5)) fun _ s6 ⟨σ6,H6,I6,wk6,q6⟩=>?_
   refine f7 (ht (i5 s) H (s.heap.objs.size::fp) _ s6 σ6 H6 _ I6 q6) fun ok s7 ⟨H7,I7,q7⟩=>?_
   cases ok with
   | false =>
    obtain ⟨m',hm,w7⟩:=hNn H7 q7
    refine ⟨m',hm,i+1,ys,its,k,H7,(I7.weak wk6.1 wk6.2).pins_of (fun p hp=>by cases hp),?_,fun b hb=>?_,?_,?_,v3,w7⟩
    ·exact T.keep _ _ _ st5 fun b hb o e=>(I7.pin (b,o) (List.mem_append_right _ (List.mem_append_right _ (u4 hb e)))).1
    ·obtain ⟨o,e,d⟩:=T.obj _ _ st5 b hb
     exact (I7.pin (b,o) (List.mem_append_right _ (List.mem_append_right _ (u4 hb e)))).2.1
    ·exact (I7.pin (s.heap.objs.size,_) (List.mem_append_right _ (List.mem_append_left _ List.mem_cons_self))).2.1
    ·exact (I7.pin (s.heap.objs.size,_) (List.mem_append_right _ (List.mem_append_left _ List.mem_cons_self))).1
   | true =>
    show wpAny _ _ _ _ _ _
    refine f7 (he _ s7 σ6 H7 _ I7 q7) fun yv s8 ⟨y,H8,I8,r8,q8'⟩=>?_
    obtain ⟨m',hm,w8⟩:=hNy y H8 q8'
    have q8:=I8.pin (s.heap.objs.size,_) (List.mem_append_right _ (List.mem_append_left _ List.mem_cons_self))
    refine wpAny_list_append_plain (l:=s.heap.objs.size) (items:=its.toArray) ⟨k,q8.1⟩ (fun h' hl' sb=>?_) (by rw[List.size_toArray,<- v3.length];exact hz)
    obtain ⟨k',hl'⟩:=hl'
    have I9:Inv (X.comp scope N (i5 s) H (s.heap.objs.size::fp)) [] (pick ix σ) H8 { s8 with heap:=h' }:=((I8.weak wk6.1 wk6.2).pins_of (pins':=[]) (fun p hp=>by cases hp)).turned (t':=s8.toks) (it:=s.heap.objs.size)
     (fun b o hb e=>(sb.2 b hb).trans e) q8.2.1 (exOk _ List.mem_cons_self).1 (.inl List.mem_cons_self) (exOk _ List.mem_cons_self).2.2 (fun p hp=>absurd (show p∈([]:List (Addr × Obj)) from hp) (by simp))
    refine ⟨m',hm,i+1,ys++[y],its++[yv],k',H8,I9,?_,fun b hb=>?_,q8.2.1,?_,v3.append (.cons r8 .nil),w8⟩
    ·refine T.keep _ _ _ st5 fun b hb o e=>(sb.2 b (Nat.ne_of_lt (fpLt b hb))).trans (I8.pin (b,o) (List.mem_append_right _ (List.mem_append_right _ (u4 hb e)))).1
    ·obtain ⟨o,e,d⟩:=T.obj _ _ st5 b hb
     exact (I8.pin (b,o) (List.mem_append_right _ (List.mem_append_right _ (u4 hb e)))).2.1
    ·have e:its.toArray.push yv=(its++[yv]).toArray:=by simp
     rw[<- e];exact hl'
 exact codeAny_compStart_list loop (T.self _ 0 _ _ _ st0 loop)
theorem m6 (hc:X.calm=true) (hi:PI X target iter wi) (hg:∀s H ex,PG (X.comp scope N s H ex) target g) (ht:∀s H ex,T4 (X.comp scope N s H ex) ifs tc) (he:∀s H ex,PE (X.comp scope N s H ex) elt te)
  (hk:scope.kind=.function) (hnm:G9 scope=true) (hf:K2 scope X.env=true) (hx:D0 scope X.N N ix=true) (hs:∀x,foldedSetIterable iter X.env x=pure x):
  PE X (.ListComp elt [⟨target,iter,ifs,0⟩] scope pos) (fun σ H Q=>wi σ H fun J H1=>Y0 J (pick ix σ) g tc te H1 fun ys H2=>∀p,H2 p=none->Q (.ref p) (b7 H2 p (.lst ys))):=by
 intro pins s σ H Q I h
 rw[eval_ListComp]
 refine wpAny_comprehension_free (use:=none) rfl hs (K6 (I.closed hf)) hk (fun x hx hl=>(J6 hnm hx).trans (by rw[hl])) ?_
 refine f7 (hi pins s σ H _ I h) fun v s1 h1=>f7 h1 fun itv s2 h2=>?_
 obtain ⟨it,fp,tn,J,H2,e,I2,T,st2,f2,B⟩:=h2
 subst e
 refine a1A (RR:=fun acc C=>compPost (model X.prog X.w) X.A X.xe none (EP X pins σ Q) acc C) hc hk hnm hf hx hg ht (he _ _ _) I2 T st2 f2 B ?_
 intro ys H' s' σ' its n J' hD hl hv hz hF
 obtain ⟨m,hm,_⟩:=J'.loc
 exact ⟨m,hm,fun h' hs'=>⟨.ref s2.heap.objs.size,_,I2.comp_end J' f2 hD hl hv hz hs',rfl,hF _ hD⟩⟩
theorem N9 {i:Nat}{y:Str}{py spos:Pos} (hc:X.calm=true) (hN:X.N.Nodup) (hn:X.N[i]?=some y) (hy:X.env.scope.names.lookup y=some .local)
  (hi:PI X target iter wi) (hg:∀s H ex,PG (X.comp scope N s H ex) target g) (ht:∀s H ex,T4 (X.comp scope N s H ex) ifs tc) (he:∀s H ex,PE (X.comp scope N s H ex) elt te)
  (hk:scope.kind=.function) (hnm:G9 scope=true) (hf:K2 scope X.env=true) (hx:D0 scope X.N N ix=true) (hs:∀x,foldedSetIterable iter X.env x=pure x)
  (hsw:swapsWith (.ListComp elt [⟨target,iter,ifs,0⟩] scope pos) (some (.Name y py)) spos.line X.env=pure true):
  PS X (.Assign [.Name y py] (.ListComp elt [⟨target,iter,ifs,0⟩] scope pos) spos) (fun D σ H=>wi σ H fun J H1=>Y0 J (pick ix σ) g tc te H1 fun ys H2=>∀p,H2 p=none->D.nx (σ.set i (some (.ref p))) (b7 H2 p (.lst ys))):=by
 intro pins s σ H D I h
 rw[exec_Assign_Name_used _ _ _ _ hsw]
 refine wpAny_bind (wpAny_standAt (wpAny_bind ?_))
 show wpAny _ X.A (do let _ <- comprehension (.ListComp elt [⟨target,iter,ifs,0⟩] scope pos) scope X.env _ (newList []) false (eval iter X.env) (some (assign (.Name y py) X.env))) _ _ s
 refine wpAny_bind (f7 (wpAny_comprehension_free (use:=some (assign (.Name y py) X.env)) (Q:=fun _ s'=>SP X pins D .next s') rfl hs (K6 (I.closed hf)) hk (fun x hx hl=>(J6 hnm hx).trans (by rw[hl])) ?_) fun _ s' hq=>wpAny_pure (wpAny_pure hq))
 refine f7 (hi pins s σ H _ I h) fun v s1 h1=>f7 h1 fun itv s2 h2=>?_
 obtain ⟨it,fp,tn,J,H2,e,I2,T,st2,f2,B⟩:=h2
 subst e
 refine a1A (RR:=fun acc C=>compPost (model X.prog X.w) X.A X.xe (some (assign (.Name y py) X.env)) (fun _ s'=>SP X pins D .next s') acc C) hc hk hnm hf hx hg ht (he _ _ _) I2 T st2 f2 B ?_
 intro ys H' s' σ' its n J' hD hl hv hz hF
 obtain ⟨m,hm,_⟩:=J'.loc
 have I3:=I2.comp_end (h':=s'.heap) J' f2 hD hl hv hz (.refl ..)
 show wpAny _ X.A (assign (.Name y py) X.env (.ref s2.heap.objs.size)) _ _ _
 refine wpAny_assign_Name (T7 (v:=.ref s2.heap.objs.size) I3 hN hn (.inl hy) rfl (fun s'' I4 hsb=>?_) (.inr hy))
 obtain ⟨a,sb,ha⟩:=hsb
 have hCa:(i5 s2).heap.objs.size≠a:=by
  rw[n5]
  rcases ha with z|z
  ·rw[z];exact Nat.ne_of_gt (Nat.lt_succ_of_lt I2.lt)
  ·obtain ⟨v,q⟩:=I2.cell y a z
   exact Nat.ne_of_gt (Nat.lt_succ_of_lt q.lt)
 have hC2:(b7 H' s2.heap.objs.size (.lst ys)) (i5 s2).heap.objs.size=none:=by
  rw[d0 (by rw[n5];exact Nat.ne_of_gt (Nat.lt_succ_self _))]
  exact J'.free
 refine ⟨m,hm.sameBut sb hCa,fun h' hs'=>?_⟩
 refine ⟨_,_,?_,hF _ hD⟩
 obtain ⟨m2,n2,_⟩:=id I4.loc
 refine I4.turned (t':=s''.toks) (it:=(i5 s2).heap.objs.size) (fun b o hb e=>(hs'.2 b hb).trans e) hC2 ?_ ?_ ?_ ?_
 ·rw[n5];exact Nat.ne_of_gt (Nat.lt_succ_of_lt I2.lt)
 ·rw[n5];exact .inr (Nat.le_trans I2.sz (Nat.le_succ _))
 ·intro x c e
  obtain ⟨v,q⟩:=I2.cell x c e
  rw[n5];exact Nat.ne_of_lt (Nat.lt_succ_of_lt q.lt)
 ·intro p hp
  rw[n5];exact Nat.ne_of_lt (Nat.lt_succ_of_lt (Heap.lt_size (I2.pin p hp).1))
end
end L2
namespace L2
open PySem PySem.Spec PyProof.Rows
section
variable {X:Cx}{pins:List (Addr × Obj)}{σ:St}{H:Hp}{s:Shared}{p:Addr}{xs:List V}
theorem P8 {A:Around}{E:Value->Shared->Prop}{Q:Value->Shared->Prop} (I:Inv X pins σ H s) (hh:A.handled=none) (hs:SqL X.K H p xs ∨ SqT X.K H p xs)
  (h:∀(its:List Value) (it:Addr) (fp wr:List Addr) (St:Nat->Heap->Prop) (h2:Heap),Vals xs its->Walks X.prog X.w A it fp wr its.length (fun i v=>its[i]?=some v) St->St 0 h2->(∀b∈fp,b<h2.objs.size) ->
   (∀h':Heap,(∀b o,b ∉ wr->h2.get? b=some o->h'.get? b=some o)->∀b o,s.heap.get? b=some o->h'.get? b=some o)->Q (.ref it) { s with heap:=h2 }):
  wpAny (model X.prog X.w) A (pyIter (.ref p)) Q E s:=by
 have keep:∀(o:Obj) (h':Heap),(∀b u,b ∉ [s.heap.objs.size]->(s.heap.push o).get? b=some u->h'.get? b=some u)->∀b u,s.heap.get? b=some u->h'.get? b=some u:=fun o h' hk b u e =>
  hk b u (fun hm=>by rw[List.mem_singleton.mp hm] at e;exact Nat.lt_irrefl _ (Heap.lt_size e)) (Heap.get?_push_of_some _ e)
 rcases hs with hs|hs
 ·obtain ⟨its,rv,pl,hz⟩:=I.list hs
  have hlt:p<s.heap.objs.size:=by obtain ⟨_,e,_⟩:=pl.isList;exact Heap.lt_size e
  refine wpAny_pyIter_list pl.isList ?_
  have W:=Walks.list (prog:=X.prog) (w:=X.w) (A:=A) hh s.heap.objs.size p (Nat.ne_of_lt hlt) its.toArray
  refine h its s.heap.objs.size [s.heap.objs.size,p] [s.heap.objs.size] (fun i h=>h.IsListIter s.heap.objs.size p i/\h.IsList p its.toArray) _ rv (by simpa using W) ⟨⟨_,Heap.get?_push_size _ rfl,rfl,rfl⟩,pl.isList.push _⟩ (fun b hb=>?_) (keep _)
  rw[Heap.size_push]
  rcases List.mem_cons.mp hb with rfl|hb
  ·exact Nat.lt_succ_self _
  ·rw[List.mem_singleton.mp hb];exact Nat.lt_succ_of_lt hlt
 ·obtain ⟨its,rv,pl,hz⟩:=I.tuple hs
  have pl':s.heap.IsTuple p its.toArray:=pl
  have hlt:p<s.heap.objs.size:=pl.lt
  refine wpAny_pyIter_tuple pl' ?_
  have W:=Walks.tuple (prog:=X.prog) (w:=X.w) (A:=A) hh s.heap.objs.size p (Nat.ne_of_lt hlt) its.toArray
  refine h its s.heap.objs.size [s.heap.objs.size,p] [s.heap.objs.size] (fun i h=>h.IsTupleIter s.heap.objs.size p i/\h.IsTuple p its.toArray) _ rv (by simpa using W) ⟨⟨_,Heap.get?_push_size _ rfl,rfl,rfl⟩,pl'.push _⟩ (fun b hb=>?_) (keep _)
  rw[Heap.size_push]
  rcases List.mem_cons.mp hb with rfl|hb
  ·exact Nat.lt_succ_self _
  ·rw[List.mem_singleton.mp hb];exact Nat.lt_succ_of_lt hlt
noncomputable def nth (ns:List Int) (i:Nat):Int:=(ns[i]?).getD 0
theorem Y8 (ns:List Int):∀k,preSum (nth ns) k=(ns.take k).sum
 | 0=>by simp[preSum]
 | k+1=>by
  rw[preSum,Y8 ns k,List.take_add_one,List.sum_append]
  unfold nth
  cases ns[k]? <;> simp
theorem a5S {ns:List Int}{its:List Value} (r:Vals (ns.map V.int) its) {i:Nat}{v:Value} (e:its[i]?=some v):∃t,v=.int (nth ns i) t:=by
 have hl:=r.length
 rw[List.length_map] at hl
 have hi:i<ns.length:=by rw[hl];exact (List.getElem?_eq_some_iff.mp e).1
 obtain ⟨u,hu,ru⟩:=r.get (i:=i) (x:=.int ns[i]) (by rw[List.getElem?_map,List.getElem?_eq_getElem hi];rfl)
 rw[e] at hu;cases hu
 obtain ⟨t,rfl⟩:=ru
 exact ⟨t,by unfold nth;rw[List.getElem?_eq_getElem hi];rfl⟩
theorem L4 (hc:X.calm=true):w5 X (.builtin "sum") (fun xs H Q=>∃(p:Addr) (ns:List Int),xs=[.ref p]/\(SqL X.K H p (ns.map V.int) ∨ SqT X.K H p (ns.map V.int))/\Q (.int ns.sum) H):=by
 intro pins s σ H xs us Q I r h
 obtain ⟨p,ns,rfl,hs,q⟩:=h
 obtain ⟨u,rfl,ru⟩:=E1 r
 cases ru
 refine call_sum_walkG (P8 (A:=X.A.in1) I (I.ok.hd hc) hs fun its it fp wr St h2 rv W st hfp keep=>?_)
 refine ⟨it,fp,wr,its.length,_,St,nth ns,rfl,W,st,hfp,fun i v e=>a5S rv e,fun h' tk t' hk=>?_⟩
 have e:preSum (nth ns) its.length=ns.sum:=by
  rw[Y8,<- rv.length,List.length_map,List.take_length]
 rw[e]
 exact ⟨.int ns.sum,H,I.kept (keep h' hk),⟨_,rfl⟩,q⟩
noncomputable def truV:V->Bool
 | .bl b=>b
 | .int i=>i != 0
 | .non=>false
 | _=>true
noncomputable def okTru:V->Bool
 | .bl _=>true
 | .int _=>true
 | .non=>true
 | _=>false
theorem a66 {A:Around}{E:Value->Shared->Prop}{x:V}{v:Value}{s:Shared}{Q:Bool->Shared->Prop} (r:RelV x v) (ok:okTru x=true) (h:Q (truV x) s):wpAny (model X.prog X.w) A (truthy v) Q E s:=by
 cases x with
 | bl b=>cases r;exact wpAny_truthy_bool h
 | int i=>obtain ⟨t,rfl⟩:=r;exact PyProof.Rows.truthy_int h
 | non=>cases r;exact PyProof.Rows.truthy_none h
 | _=>exact absurd (show false=true from ok) Bool.false_ne_true
noncomputable def N5 (d:Bool) (xs:List V) (i:Nat):Bool:=((xs[i]?).map truV).getD d
theorem a64 (xs:List V):(List.range xs.length).all (N5 true xs)=xs.all truV:=by
 rw[Bool.eq_iff_iff,List.all_eq_true,List.all_eq_true]
 constructor
 ·intro h b hb
  obtain ⟨i,hi,e⟩:=List.getElem_of_mem hb
  have:=h i (List.mem_range.mpr hi)
  unfold N5 at this
  rw[List.getElem?_eq_getElem hi,e] at this
  exact this
 ·intro h i hi
  have hi':=List.mem_range.mp hi
  unfold N5
  rw[List.getElem?_eq_getElem hi']
  exact h _ (List.getElem_mem hi')
theorem a6X (xs:List V):(List.range xs.length).any (N5 false xs)=xs.any truV:=by
 rw[Bool.eq_iff_iff,List.any_eq_true,List.any_eq_true]
 constructor
 ·rintro ⟨i,hi,e⟩
  have hi':=List.mem_range.mp hi
  unfold N5 at e
  rw[List.getElem?_eq_getElem hi'] at e
  exact ⟨_,List.getElem_mem hi',e⟩
 ·rintro ⟨b,hb,e⟩
  obtain ⟨i,hi,rfl⟩:=List.getElem_of_mem hb
  refine ⟨i,List.mem_range.mpr hi,?_⟩
  unfold N5
  rw[List.getElem?_eq_getElem hi]
  exact e
theorem U6 {A:Around}{its:List Value} (d:Bool) (rv:Vals xs its) (ok:xs.all okTru=true):TruthOf X.prog X.w A (fun i v=>its[i]?=some v) (N5 d xs):=by
 intro i v s Q E e hQ
 have hi:i<xs.length:=by rw[rv.length];exact (List.getElem?_eq_some_iff.mp e).1
 obtain ⟨u,hu,ru⟩:=rv.get (i:=i) (x:=xs[i]) (by rw[List.getElem?_eq_getElem hi])
 rw[e] at hu;cases hu
 refine a66 (X:=X) ru (List.all_eq_true.mp ok _ (List.getElem_mem hi)) ?_
 unfold N5 at hQ
 rw[List.getElem?_eq_getElem hi] at hQ
 exact hQ
theorem M3 (hc:X.calm=true):w5 X (.builtin "all") (fun xs H Q=>∃(p:Addr) (ys:List V),xs=[.ref p]/\(SqL X.K H p ys ∨ SqT X.K H p ys)/\ys.all okTru=true/\Q (.bl (ys.all truV)) H):=by
 intro pins s σ H xs us Q I r h
 obtain ⟨p,ys,rfl,hs,ok,q⟩:=h
 obtain ⟨u,rfl,ru⟩:=E1 r
 cases ru
 refine call_all_walk (P8 (A:=X.A.in1) I (I.ok.hd hc) hs fun its it fp wr St h2 rv W st hfp keep=>?_)
 refine ⟨it,fp,wr,its.length,_,St,N5 true ys,rfl,W,st,U6 true rv ok,fun h' tk hk=>?_⟩
 rw[<- rv.length,a64]
 exact ⟨.bl _,H,I.kept (keep h' hk),rfl,q⟩
theorem a06 (hc:X.calm=true):w5 X (.builtin "any") (fun xs H Q=>∃(p:Addr) (ys:List V),xs=[.ref p]/\(SqL X.K H p ys ∨ SqT X.K H p ys)/\ys.all okTru=true/\Q (.bl (ys.any truV)) H):=by
 intro pins s σ H xs us Q I r h
 obtain ⟨p,ys,rfl,hs,ok,q⟩:=h
 obtain ⟨u,rfl,ru⟩:=E1 r
 cases ru
 refine call_any_walk (P8 (A:=X.A.in1) I (I.ok.hd hc) hs fun its it fp wr St h2 rv W st hfp keep=>?_)
 refine ⟨it,fp,wr,its.length,_,St,N5 false ys,rfl,W,st,U6 false rv ok,fun h' tk hk=>?_⟩
 rw[<- rv.length,a6X]
 exact ⟨.bl _,H,I.kept (keep h' hk),rfl,q⟩
end
end L2
namespace L2
open PySem PySem.Spec PyProof.Rows
section
variable {prog:Program}{w:World}{A:Around}{E:Value->Shared->Prop}{s:Shared}
theorem L1 {it t:Addr}{i:Nat}{its:Array Value}{x:Value}{Q:Value->Shared->Prop} (hit:s.heap.IsTupleIter it t i) (ht:s.heap.IsTuple t its) (hx:its[i]?=some x)
  (hQ:∀h',h'.IsTupleIter it t (i+1)->Heap.SameBut it s.heap h'->Q x { s with heap:=h' }):wpAny (model prog w) A (Builtin.SmallTypes.nextOf (.ref it)) Q E s:=by
 obtain ⟨o,ho,hc,hd⟩:=id hit
 obtain ⟨ol,hol,_,nl,hdl⟩:=ht
 unfold Builtin.SmallTypes.nextOf
 refine wpAny_bind (wpAny_callSpecial?_slot (name:=Str.ofString "__next__") hit.typeIs F.slot_tuple_iterator_next
  (wpAny_call_entry F.slot_tuple_iterator_next hit.typeIs F.entry_tuple_iterator_next ?_ (F.args_tuple_iterator_next_1 _)))
 show wpAny _ _ (field (.ref it) 0 >>= _) _ _ s
 refine wpAny_bind (wpAny_field ho hd (x:=.ref t) rfl ?_)
 show wpAny _ _ (if (Value.ref t == Value.none)=true then _ else _) _ _ s
 rw[if_neg (show ¬ ((Value.ref t == Value.none)=true) from Bool.false_ne_true)]
 show wpAny _ _ (field (.ref it) 1 >>= _) _ _ s
 refine wpAny_bind (wpAny_field ho hd (x:=.int i 0) rfl ?_)
 show wpAny _ _ (seqItems? (.ref t) >>= _) _ _ s
 refine wpAny_bind (wpAny_seqItems hol hdl ?_)
 simp only[Int.toNat_natCast,hx]
 refine wpAny_bind (wpAny_setField ho hd (by simp) (wpAny_pure ⟨x,rfl,wpAny_pure (hQ _ ?_ (Heap.SameBut.update ..))⟩))
 exact ⟨_,Heap.get?_update_self _ ho (Obj.isFreed_of_fields (Obj.data_mapFields hd _)),(Obj.cls_mapFields ..).trans hc,by
  rw[Obj.data_mapFields hd];simp[rawInt]⟩
end
end L2
namespace L2
open PySem PySem.Spec PyProof.Rows
section
variable {prog:Program}{w:World}{A:Around}{E:Value->Shared->Prop}{s:Shared}
theorem a0A {it t:Addr}{i:Nat}{its:Array Value}{Q:Value->Shared->Prop} (hh:A.handled=none) (hit:s.heap.IsTupleIter it t i) (ht:s.heap.IsTuple t its) (hx:its[i]?=none)
  (hE:∀h' e,Heap.ExtBut it s.heap h'->(∃o,h'.get? e=some o/\o.cls=.type "StopIteration")->E (.ref e) { s with heap:=h' }):wpAny (model prog w) A (Builtin.SmallTypes.nextOf (.ref it)) Q E s:=by
 obtain ⟨o,ho,hc,hd⟩:=id hit
 obtain ⟨ol,hol,_,nl,hdl⟩:=ht
 unfold Builtin.SmallTypes.nextOf
 refine wpAny_bind (wpAny_callSpecial?_slot (name:=Str.ofString "__next__") hit.typeIs F.slot_tuple_iterator_next
  (wpAny_call_entry F.slot_tuple_iterator_next hit.typeIs F.entry_tuple_iterator_next ?_ (F.args_tuple_iterator_next_1 _)))
 show wpAny _ _ (field (.ref it) 0 >>= _) _ _ s
 refine wpAny_bind (wpAny_field ho hd (x:=.ref t) rfl ?_)
 show wpAny _ _ (if (Value.ref t == Value.none)=true then _ else _) _ _ s
 rw[if_neg (show ¬ ((Value.ref t == Value.none)=true) from Bool.false_ne_true)]
 show wpAny _ _ (field (.ref it) 1 >>= _) _ _ s
 refine wpAny_bind (wpAny_field ho hd (x:=.int i 0) rfl ?_)
 show wpAny _ _ (seqItems? (.ref t) >>= _) _ _ s
 refine wpAny_bind (wpAny_seqItems hol hdl ?_)
 simp only[Int.toNat_natCast,hx]
 refine wpAny_bind (wpAny_rule (wpAny_bind (wpAny_setField ho hd (by simp) ?_)))
 show wpAny _ _ (newExc (.type "StopIteration") [] >>= _) _ _ _
 refine wpAny_bind ?_
 simp only[newExc,newTuple]
 refine wpAny_bind (wpAny_newObj_type ?_ (by size_fits))
 refine wpAny_bind (m:=firstArgMember _ _) (wpAny_of_eq (a:=Value.none) (by first|rfl | (simp only[firstArgMember];rfl)) ?_)
 refine wpAny_newObj_type ?_ (by size_fits)
 simp only[raiseNew]
 refine wpAny_bind (wpAny_handled ?_)
 first|rw[show A.in1.handled=none from hh]|rw[hh]
 exact wpAny_bind (wpAny_pure (wpAny_throw (hE _ _ (((Heap.SameBut.update ..).extBut.push _).push _) ⟨_,Heap.get?_push_size _ rfl,rfl⟩)))
structure ZipT (h:Heap) (z TI TO i1 i2 t1 t2:Addr) (k:Nat):Prop where
 zz:IsZip h z TI TO .none
 ti:IsPair h TI (.ref i1) (.ref i2)
 tO:∃a b,IsPair h TO a b
 it1:h.IsTupleIter i1 t1 k
 it2:h.IsTupleIter i2 t2 k
structure ZipD (z TI TO i1 i2 t1 t2:Addr):Prop where
 a1:TI≠z
 a2:TO≠z
 a3:i1≠z
 a4:i2≠z
 b1:TI≠TO
 b2:TI≠i1
 b3:TI≠i2
 c1:TO≠i1
 c2:TO≠i2
 d1:i1≠i2
 e1:t1≠z
 e2:t1≠TO
 e3:t1≠i1
 e4:t1≠i2
 f1:t2≠z
 f2:t2≠TO
 f3:t2≠i1
 f4:t2≠i2
theorem F2 {n a b:Nat} (h:a≠b):n+a≠n+b:=by lia
theorem M7 {n a t:Nat} (h:t<n):t≠n+a:=by lia
theorem ZipD.new {n t1 t2:Nat} (h1:t1<n) (h2:t2<n):ZipD (n+4) (n+2) (n+3) n (n+1) t1 t2 where
 a1:=F2 (by decide)
 a2:=F2 (by decide)
 a3:=F2 (n:=n) (a:=0) (by decide)
 a4:=F2 (by decide)
 b1:=F2 (by decide)
 b2:=F2 (n:=n) (b:=0) (by decide)
 b3:=F2 (by decide)
 c1:=F2 (n:=n) (b:=0) (by decide)
 c2:=F2 (by decide)
 d1:=F2 (n:=n) (a:=0) (by decide)
 e1:=M7 h1
 e2:=M7 h1
 e3:=M7 (a:=0) h1
 e4:=M7 h1
 f1:=M7 h2
 f2:=M7 h2
 f3:=M7 (a:=0) h2
 f4:=M7 h2
theorem a4z {z TI TO i1 i2 t1 t2:Addr}{xs ys:Array Value}{k:Nat}{x y:Value}{Q:Option Value->Shared->Prop} (D:ZipD z TI TO i1 i2 t1 t2) (Z:ZipT s.heap z TI TO i1 i2 t1 t2 k) (hl1:s.heap.IsTuple t1 xs) (hl2:s.heap.IsTuple t2 ys)
  (hx:xs[k]?=some x) (hy:ys[k]?=some y)
  (hQ:∀h',IsZip h' z TI TO (rawInt s.heap.objs.size)->IsPair h' TO x y->h'.IsTupleIter i1 t1 (k+1)->h'.IsTupleIter i2 t2 (k+1)->IsPair h' s.heap.objs.size x y->h'.objs.size=s.heap.objs.size+1 ->
   (∀c o,c ∉ [z,TO,i1,i2]->s.heap.get? c=some o->h'.get? c=some o)->Q (some (.ref s.heap.objs.size)) { s with heap:=h' }):
  wpAny (model prog w) A (pyNext (.ref z)) Q E s:=by
 obtain ⟨hz,hTI,⟨a,b,hTO⟩,h1,h2⟩:=Z
 have hT:s.TypeIs (.ref z) "zip":=⟨_,hz,rfl⟩
 unfold pyNext
 refine wpAny_bind (wpAny_attempt (wpAny_callSpecial?_slot (name:=Str.ofString "__next__") hT F.slot_zip_next (wpAny_call_entry F.slot_zip_next hT F.entry_zip_next ?_ (F.args_zip_next_1 _))))
 show wpAny _ _ (field (.ref z) 2 >>= _) _ _ _
 refine wpAny_bind (wpAny_field hz rfl (x:=.bool false) rfl ?_)
 show wpAny _ _ (field (.ref z) 3 >>= _) _ _ _
 refine wpAny_bind (wpAny_field hz rfl (x:=.ref TI) rfl (wpAny_bind (wpAny_seqItems hTI rfl ?_)))
 show wpAny _ _ (Builtin.SmallTypes.ownedTupleIsFree (.ref z) >>= _) _ _ _
 refine wpAny_bind ?_
 unfold Builtin.SmallTypes.ownedTupleIsFree
 refine wpAny_bind (wpAny_field hz rfl (x:=.none) rfl (wpAny_pure ?_))
 simp only[if_true]
 refine wpAny_bind (wpAny_rule (wpAny_bind (wpAny_field hz rfl (x:=.ref TO) rfl (wpAny_bind (wpAny_setField_rec hz (by simp) fun g1 z1 s1=>?_)))))
 replace z1:IsZip g1 z TI TO .ellipsis:=z1
 refine wpAny_bind ?_
 simp only[List.zipIdx_cons,List.zipIdx_nil,List.forIn_cons,List.forIn_nil]
 refine wpAny_bind (wpAny_bind (wpAny_onRaise ?_))
 show wpAny _ _ (Builtin.SmallTypes.nextOf (.ref i1) >>= _) _ _ _
 refine wpAny_bind (L1 (h1.at fun o e=>s1.extBut _ o D.a3 e) (hl1.at fun o e=>s1.extBut _ o D.e1 e) hx fun g2 j1 s2=>wpAny_pure ?_)
 have o2:IsPair g2 TO a b:=s2.extBut _ _ D.c1 (s1.extBut _ _ D.a2 hTO)
 refine wpAny_bind (wpAny_seqItems o2 rfl (wpAny_bind (wpAny_updateSeq_pair o2 fun g3 o3 s3=>?_)))
 replace o3:IsPair g3 TO x b:=o3
 refine wpAny_bind (wpAny_letGo (wpAny_pure (wpAny_bind (wpAny_bind (wpAny_onRaise ?_)))))
 show wpAny _ _ (Builtin.SmallTypes.nextOf (.ref i2) >>= _) _ _ _
 refine wpAny_bind (L1 (h2.at fun o e=>s3.extBut _ o D.c2.symm (s2.extBut _ o D.d1.symm (s1.extBut _ o D.a4 e))) (hl2.at fun o e=>s3.extBut _ o D.f2 (s2.extBut _ o D.f3 (s1.extBut _ o D.f1 e))) hy fun g4 j2 s4=>wpAny_pure ?_)
 have o4:IsPair g4 TO x b:=s4.extBut _ _ D.c2 o3
 refine wpAny_bind (wpAny_seqItems o4 rfl (wpAny_bind (wpAny_updateSeq_pair o4 fun g5 o5 s5=>?_)))
 replace o5:IsPair g5 TO x y:=o5
 refine wpAny_bind (wpAny_letGo (wpAny_pure (wpAny_pure ?_)))
 refine wpAny_bind (wpAny_seqItems o5 rfl (wpAny_bind (wpAny_newTuple ?_)))
 have hsz:g5.objs.size=s.heap.objs.size:=by rw[s5.1,s4.1,s3.1,s2.1,s1.1]
 have z5:IsZip g5 z TI TO .ellipsis:=s5.extBut _ _ D.a2.symm (s4.extBut _ _ D.a4.symm (s3.extBut _ _ D.a2.symm (s2.extBut _ _ D.a3.symm z1)))
 have k5:∀c o,c ∉ [z,TO,i1,i2]->s.heap.get? c=some o->g5.get? c=some o:=fun c o hc e=>by
  simp only[List.mem_cons,List.not_mem_nil,or_false,not_or] at hc
  exact s5.extBut _ _ hc.2.1 (s4.extBut _ _ hc.2.2.2 (s3.extBut _ _ hc.2.1 (s2.extBut _ _ hc.2.2.1 (s1.extBut _ _ hc.1 e))))
 have m1:g5.IsTupleIter i1 t1 (k+1):=j1.at fun o e=>s5.extBut _ o D.c1.symm (s4.extBut _ o D.d1 (s3.extBut _ o D.c1.symm e))
 have m2:g5.IsTupleIter i2 t2 (k+1):=j2.at fun o e=>s5.extBut _ o D.c2.symm e
 show wpAny _ _ (Builtin.SmallTypes.ownedTupleHandOut (.ref z) (.ref g5.objs.size) >>= _) _ _ _
 refine wpAny_bind ?_
 unfold Builtin.SmallTypes.ownedTupleHandOut
 have z6:IsZip (g5.push { cls:=.type "tuple",data:=.seq #[x,y] }) z TI TO .ellipsis:=Heap.get?_push_of_some _ z5
 refine wpAny_bind (wpAny_setField_rec z6 (by simp) fun g7 z7 s7=>?_)
 replace z7:IsZip g7 z TI TO (rawInt g5.objs.size):=z7
 refine wpAny_setField_rec z7 (by simp) fun g8 z8 s8=>?_
 replace z8:IsZip g8 z TI TO (rawInt g5.objs.size):=z8
 have up:∀c o,c≠z->g5.get? c=some o->g8.get? c=some o:=fun c o hc e=>s8.extBut _ _ hc (s7.extBut _ _ hc (Heap.get?_push_of_some _ e))
 have new8:IsPair g8 g5.objs.size x y:=s8.extBut _ _ (Nat.ne_of_gt (Heap.lt_size z5)) (s7.extBut _ _ (Nat.ne_of_gt (Heap.lt_size z5)) (Heap.get?_push_size _ rfl))
 have size8:g8.objs.size=g5.objs.size+1:=by rw[s8.1,s7.1,Heap.size_push]
 rw[hsz] at z8 new8 size8
 refine wpAny_pure ⟨_,rfl,wpAny_pure ?_⟩
 show Q (some (.ref g5.objs.size)) _
 rw[hsz]
 exact hQ g8 z8 (up _ _ D.a2 o5) (m1.at fun o e=>up _ o D.a3 e) (m2.at fun o e=>up _ o D.a4 e) new8 size8 fun c o hc e=>up c o (fun q=>hc (by simp[q])) (k5 c o hc e)
theorem a5C {z TI TO i1 i2 t1 t2:Addr}{xs:Array Value}{k:Nat}{Q:Option Value->Shared->Prop} (hh:A.handled=none) (D:ZipD z TI TO i1 i2 t1 t2) (Z:ZipT s.heap z TI TO i1 i2 t1 t2 k) (hl1:s.heap.IsTuple t1 xs)
  (hx:xs[k]?=none) (hQ:∀h',(∀c o,c ∉ [z,TO,i1,i2]->s.heap.get? c=some o->h'.get? c=some o)->Q none { s with heap:=h' }):wpAny (model prog w) A (pyNext (.ref z)) Q E s:=by
 obtain ⟨hz,hTI,⟨a,b,hTO⟩,h1,h2⟩:=Z
 have hT:s.TypeIs (.ref z) "zip":=⟨_,hz,rfl⟩
 unfold pyNext
 refine wpAny_bind (wpAny_attempt (wpAny_callSpecial?_slot (name:=Str.ofString "__next__") hT F.slot_zip_next (wpAny_call_entry F.slot_zip_next hT F.entry_zip_next ?_ (F.args_zip_next_1 _))))
 show wpAny _ _ (field (.ref z) 2 >>= _) _ _ _
 refine wpAny_bind (wpAny_field hz rfl (x:=.bool false) rfl ?_)
 show wpAny _ _ (field (.ref z) 3 >>= _) _ _ _
 refine wpAny_bind (wpAny_field hz rfl (x:=.ref TI) rfl (wpAny_bind (wpAny_seqItems hTI rfl ?_)))
 show wpAny _ _ (Builtin.SmallTypes.ownedTupleIsFree (.ref z) >>= _) _ _ _
 refine wpAny_bind ?_
 unfold Builtin.SmallTypes.ownedTupleIsFree
 refine wpAny_bind (wpAny_field hz rfl (x:=.none) rfl (wpAny_pure ?_))
 simp only[if_true]
 refine wpAny_bind (wpAny_rule (wpAny_bind (wpAny_field hz rfl (x:=.ref TO) rfl (wpAny_bind (wpAny_setField_rec hz (by simp) fun g1 z1 s1=>?_)))))
 replace z1:IsZip g1 z TI TO .ellipsis:=z1
 refine wpAny_bind ?_
 simp only[List.zipIdx_cons,List.zipIdx_nil,List.forIn_cons,List.forIn_nil]
 refine wpAny_bind (wpAny_bind (wpAny_onRaise ?_))
 show wpAny _ _ (Builtin.SmallTypes.nextOf (.ref i1) >>= _) _ _ _
 refine wpAny_bind (a0A hh (h1.at fun o e=>s1.extBut _ o D.a3 e) (hl1.at fun o e=>s1.extBut _ o D.e1 e) hx fun g2 e s2 he=>?_)
 obtain ⟨oe,hoe,hce⟩:=he
 have z2:IsZip g2 z TI TO .ellipsis:=s2 _ _ D.a3.symm z1
 have hez:e≠z:=fun q=>by subst q;rw[z2] at hoe;cases hoe;simp at hce
 refine wpAny_setField_rec z2 (by simp) fun g3 _ s3=>?_
 refine wpAny_bind (wpAny_isInstance (T:="StopIteration") (b:=true) ⟨oe,s3.extBut _ _ hez hoe,hce⟩ isSubtype_stop (wpAny_pure (hQ g3 fun c o hc q=>?_)))
 simp only[List.mem_cons,List.not_mem_nil,or_false,not_or] at hc
 exact s3.extBut _ _ hc.1 (s2 _ _ hc.2.2.1 (s1.extBut _ _ hc.1 q))
noncomputable abbrev tit (t:Addr):Obj:={ cls:=.type "tuple_iterator",data:=.fields #[.ref t,.int 0 0] }
noncomputable abbrev tpr (a b:Value):Obj:={ cls:=.type "tuple",data:=.seq #[a,b] }
noncomputable abbrev zob (a b:Addr):Obj:={ cls:=.type "zip",data:=.fields #[.none,.bool false,.bool false,.ref a,.ref b] }
noncomputable abbrev a6d (h:Heap) (t1 t2:Addr):Heap:=((((h.push (tit t1)).push (tit t2)).push (tpr (.ref h.objs.size) (.ref (h.objs.size+1)))).push (tpr .none .none)).push (zob (h.objs.size+2) (h.objs.size+3))
theorem a5H (t1 t2:Addr) (xs ys:Array Value):
  Meets (Builtin.«zip.__new__» ⟨[.type "zip",.ref t1,.ref t2],[]⟩) (fun _ R s=>s.heap.IsTuple t1 xs/\s.heap.IsTuple t2 ys/\R (.ok (.ret (.ref (s.heap.objs.size+4)))) { s with heap:=a6d s.heap t1 t2 }):=
 .of_wp fun prog w A R s h=>by
  obtain ⟨hp,g,d,tk,os⟩:=s;obtain ⟨hl1,hl2,h⟩:=h
  have hsub:=sub_zip
  have hL1:Heap.IsTuple (Shared.heap ⟨hp,g,d,tk,os⟩) t1 xs:=hl1
  have hL2:Heap.IsTuple (Shared.heap ⟨hp.push (tit t1),g,d,tk,os⟩) t2 ys:=Heap.IsTuple.push hl2 _
  wp_walk using wpAny_pyIter_tuple hL1,wpAny_pyIter_tuple hL2
  simp only[Heap.size_push]
  exact ⟨_,rfl,h⟩
theorem a0C {t1 t2:Addr}{xs ys:Array Value}{Q:Value->Shared->Prop} (hl1:s.heap.IsTuple t1 xs) (hl2:s.heap.IsTuple t2 ys)
  (h:∀h',ZipT h' (s.heap.objs.size+4) (s.heap.objs.size+2) (s.heap.objs.size+3) s.heap.objs.size (s.heap.objs.size+1) t1 t2 0->(∀c o,s.heap.get? c=some o->h'.get? c=some o)->h'.objs.size=s.heap.objs.size+5 ->
   Q (.ref (s.heap.objs.size+4)) { s with heap:=h' }):wpAny (model prog w) A (call (.type "zip") [.ref t1,.ref t2]) Q E s:=by
 refine callType_new F.called_zip (by decide) (F.typeCall_zip_2 _ _) (F.newCall_zip_2 _ _) (fun obj=>F.args_object_init_3 obj _ _) F.entry_zip_new (a5H t1 t2 xs ys) ⟨hl1,hl2,?_⟩
 have up:∀{b:Addr}{o:Obj} (h0:Heap) (x:Obj),h0.get? b=some o->(h0.push x).get? b=some o:=fun _ _ e=>Heap.get?_push_of_some _ e
 have here:∀(h0:Heap) (x:Obj) (n:Nat),x.isFreed=false->h0.objs.size=n->(h0.push x).get? n=some x:=fun h0 x n hf e=>by subst e;exact Heap.get?_push_size _ hf
 have Z:ZipT (a6d s.heap t1 t2) (s.heap.objs.size+4) (s.heap.objs.size+2) (s.heap.objs.size+3) s.heap.objs.size (s.heap.objs.size+1) t1 t2 0 :=
  ⟨here _ _ _ rfl (by simp only[Heap.size_push]),up _ _ (up _ _ (here _ _ _ rfl (by simp only[Heap.size_push]))),⟨_,_,up _ _ (here _ _ _ rfl (by simp only[Heap.size_push]))⟩,
   ⟨_,up _ _ (up _ _ (up _ _ (up _ _ (here _ _ _ rfl rfl)))),rfl,rfl⟩,⟨_,up _ _ (up _ _ (up _ _ (here _ _ _ rfl (by simp only[Heap.size_push])))),rfl,rfl⟩⟩
 exact ⟨⟨_,Z.zz,rfl⟩,h _ Z (fun c o e=>up _ _ (up _ _ (up _ _ (up _ _ (up _ _ e))))) (by simp only[Heap.size_push])⟩
end
section
variable {X:Cx}{pins:List (Addr × Obj)}{σ:St}{H:Hp}{s:Shared}
theorem Inv.turnedL {h':Heap}{t':Nat}{ch:List Addr} (I:Inv X pins σ H s) (k:∀b o,b ∉ ch->s.heap.get? b=some o->h'.get? b=some o) (hf:∀b∈ch,C6 X pins H b):Inv X pins σ H { s with heap:=h',toks:=t' }:=by
 have nit:∀b u,H b=some u->b ∉ ch:=fun b u e z=>by rw[(hf b z).1] at e;cases e
 refine I.step (g':=s.gens) (d':=s.drawn) (ch:=ch) (fun b hb=>⟨(hf b hb).2.2.2.1,(hf b hb).2.1,(hf b hb).2.2.2.2.1,(hf b hb).2.2.2.2.2⟩) (fun b o _ _ hc e _=>k b o hc e) (fun b o _ _ hc e _=>⟨o.slots,k b o hc e⟩) (fun _ _ _ _ n=>n)
  (fun b o hc e=>⟨o,k b o hc e⟩) (fun _ _ e=>e) (fun _ _ _ e=>e) (fun b ps e=>⟨#[],by rw[e];simp⟩) (fun m hm=>?_) (fun b u e=>?_) I.bare
 ·obtain ⟨o,es,ep,ho,r⟩:=hm
  exact ⟨o,es,ep,k _ o (fun z=>(hf _ z).2.1 rfl) ho,r⟩
 ·refine (I.hok b u e).stay (fun c v hc q=>k c v ?_ q) (fun _ q=>q) fun _ _ q=>q
  rcases hc with z|z
  ·rw[z];exact nit b u e
  ·exact nit c _ z
noncomputable def Itz (K:W.Frag) (a b:Addr):It :=
 ⟨fun i H=>∃xs ys x y,SqT K H a xs/\SqT K H b ys/\xs[i]?=some x/\ys[i]?=some y,fun i H v H'=>∃p x y,H p=none/\v=.ref p/\H'=b7 H p (.tup [x,y])/\(∀xs,SqT K H a xs->xs[i]?=some x)/\∀ys,SqT K H b ys->ys[i]?=some y,
  fun i H=>∃xs,SqT K H a xs/\xs.length<=i⟩
theorem a2d {P:Program}{w:World}{K:W.Frag}{es:List Expr}{kk:Nat}{pos:Pos}{a b z TI TO i1 i2:Addr} (D:ZipD z TI TO i1 i2 a b):
  Turn P w K (.Tuple es kk pos) (Itz K a b) [z,TI,TO,i1,i2] z (fun i h=>ZipT h z TI TO i1 i2 a b i) where
 mem:=by simp
 obj:=fun i h st c hc=>by
  obtain ⟨hz,hTI,⟨_,_,hTO⟩,⟨_,h1,_,d1⟩,⟨_,h2,_,d2⟩⟩:=st
  simp only[List.mem_cons,List.not_mem_nil,or_false] at hc
  rcases hc with rfl|rfl|rfl|rfl|rfl
  ·exact ⟨_,hz,fun v q=>by cases q⟩
  ·exact ⟨_,hTI,fun v q=>by cases q⟩
  ·exact ⟨_,hTO,fun v q=>by cases q⟩
  ·exact ⟨_,h1,fun v q=>by rw[d1] at q;cases q⟩
  ·exact ⟨_,h2,fun v q=>by rw[d2] at q;cases q⟩
 keep:=fun i h h' st k=>by
  obtain ⟨hz,hTI,⟨_,_,hTO⟩,h1,h2⟩:=st
  exact ⟨k _ (by simp) _ hz,k _ (by simp) _ hTI,⟨_,_,k _ (by simp) _ hTO⟩,h1.at fun o e=>k _ (by simp) o e,h2.at fun o e=>k _ (by simp) o e⟩
 item:=by
  intro X hP hw hK hc i pins s σ H E I hf st hg
  subst hP hw hK
  obtain ⟨xs,ys,x,y,ha,hb,hx,hy⟩:=hg
  obtain ⟨its,r1,p1,_⟩:=I.tuple ha
  obtain ⟨its2,r2,p2,_⟩:=I.tuple hb
  obtain ⟨u,hu,ru⟩:=r1.get hx
  obtain ⟨v,hv,rv⟩:=r2.get hy
  refine a4z D st (show s.heap.IsTuple a its.toArray from p1) (show s.heap.IsTuple b its2.toArray from p2) (x:=u) (y:=v) (by simpa using hu) (by simpa using hv) fun h' z1 o1 j1 j2 new sz keep=>?_
  refine ⟨_,rfl,wpAny_letOwnedTupleGo_zip (s:={ s with heap:=h' }) z1 fun h2 z2 sb=>?_⟩
  have hn:H s.heap.objs.size=none:=I.hok.fresh (Nat.le_refl _)
  have zlt:z<s.heap.objs.size:=Heap.lt_size st.zz
  have k2:∀c o,c ∉ [z,TI,TO,i1,i2]->s.heap.get? c=some o->h2.get? c=some o:=fun c o hc e=>by
   simp only[List.mem_cons,List.not_mem_nil,or_false,not_or] at hc
   exact sb.extBut _ _ hc.1 (keep c o (by simp only[List.mem_cons,List.not_mem_nil,or_false,not_or];exact ⟨hc.1,hc.2.2.1,hc.2.2.2.1,hc.2.2.2.2⟩) e)
  have e0:h2.get? s.heap.objs.size=some { cls:=.type "tuple",data:=.seq #[u,v] }:=sb.extBut _ _ (Nat.ne_of_gt zlt) new
  have pne:∀c o,s.heap.get? c=some o->c≠s.heap.objs.size:=fun c o e=>Nat.ne_of_lt (Heap.lt_size e)
  have nit:∀c u,H c=some u->c ∉ [z,TI,TO,i1,i2]:=fun c u e q=>by rw[(hf c q).1] at e;cases e
  have hok:HOk X.prog X.w (b7 H s.heap.objs.size (.tup [x,y])) h2:=fun c ob e=>by
   by_cases hq:c=s.heap.objs.size
   ·subst hq
    rw[b6] at e;cases e
    exact ⟨by show 2<=sizeLine;decide,[u,v],.cons ru (.cons rv .nil),⟨_,e0,rfl,_,rfl⟩⟩
   ·rw[d0 hq] at e
    refine (I.hok c ob e).stay (fun d w' hd q=>k2 d w' ?_ q) (fun d q=>by rw[d0 (d6 q hn)];exact q) fun d xs q=>by rw[d0 (d6 q hn)];exact q
    rcases hd with rfl|hd
    ·exact nit d ob e
    ·exact nit d _ hd
  have I2:Inv X pins σ (b7 H s.heap.objs.size (.tup [x,y])) { s with heap:=h2 }:=by
   refine I.step (g':=s.gens) (d':=s.drawn) (t':=s.toks) (ch:=[z,TI,TO,i1,i2]) (fun c hc=>⟨(hf c hc).2.2.2.1,(hf c hc).2.1,(hf c hc).2.2.2.2.1,(hf c hc).2.2.2.2.2⟩) (fun c o _ _ hc e _=>k2 c o hc e) (fun c o _ _ hc e _=>⟨o.slots,k2 c o hc e⟩)
    (fun c o _ e n=>by rw[d0 (pne c o e)];exact n) (fun c o hc e=>⟨o,k2 c o hc e⟩) (fun c xs e=>by rw[d0 (d6 e hn)];exact e) (fun c o u e=>by rw[d0 (d6 e hn)];exact e) (fun c ps e=>⟨#[],by rw[d0 (d6 e hn),e];simp⟩) (fun m hm=>?_) hok I.bare
   obtain ⟨o,es,ep,ho,r⟩:=hm
   exact ⟨o,es,ep,k2 _ o (fun q=>(hf _ q).2.1 rfl) ho,r⟩
  refine ⟨.ref s.heap.objs.size,_,I2,rfl,⟨_,x,y,hn,rfl,rfl,fun xs' h'=>by rw[I.tuple_inj h' ha];exact hx,fun ys' h'=>by rw[I.tuple_inj h' hb];exact hy⟩,?_,fun c hc=>?_⟩
  ·exact ⟨z2,sb.extBut _ _ D.a1 (keep _ _ (by simp only[List.mem_cons,List.not_mem_nil,or_false,not_or];exact ⟨D.a1,D.b1,D.b2,D.b3⟩) st.ti),⟨_,_,sb.extBut _ _ D.a2 o1⟩,j1.at fun o e=>sb.extBut _ o D.a3 e,j2.at fun o e=>sb.extBut _ o D.a4 e⟩
  ·have hlt:c<s.heap.objs.size:=by
    obtain ⟨hz,hTI,⟨_,_,hTO⟩,⟨_,h1,_⟩,⟨_,h2,_⟩⟩:=st
    simp only[List.mem_cons,List.not_mem_nil,or_false] at hc
    rcases hc with rfl|rfl|rfl|rfl|rfl
    ·exact Heap.lt_size hz
    ·exact Heap.lt_size hTI
    ·exact Heap.lt_size hTO
    ·exact Heap.lt_size h1
    ·exact Heap.lt_size h2
   rw[d0 (Nat.ne_of_lt hlt)]
   exact (hf c hc).1
 done:=by
  intro X hP hw hK hc i pins s σ H E I hf st hg
  subst hP hw hK
  obtain ⟨xs,ha,hx⟩:=hg
  obtain ⟨its,r1,p1,_⟩:=I.tuple ha
  have hl:=r1.length
  refine a5C (I.ok.hd hc) D st (show s.heap.IsTuple a its.toArray from p1) (by simp;lia) fun h' keep=>⟨rfl,I.turnedL (t':=s.toks) (ch:=[z,TI,TO,i1,i2]) (fun c o hc e=>keep c o (fun q=>hc ?_) e) hf⟩
  simp only[List.mem_cons,List.not_mem_nil,or_false] at q ⊢
  rcases q with q|q|q|q
  ·exact .inl q
  ·exact .inr (.inr (.inl q))
  ·exact .inr (.inr (.inr (.inl q)))
  ·exact .inr (.inr (.inr (.inr q)))
 self:=fun _ _ _ _ _ st h=>wpAny_pyIter_zip st.zz h
noncomputable def a9b (K:W.Frag) (ta:TA):TI:=fun σ H R=>ta σ H fun vs H1=>∃a b xs ys,vs=[.ref a,.ref b]/\SqT K H1 a xs/\SqT K H1 b ys/\R (Itz K a b) H1
theorem a7N {e1 e2:Expr}{es:List Expr}{kk:Nat}{pt p pos:Pos}{ta:TA} (hg:Gl X "zip") (hm:X.mg "zip"=none) (ha:PA X [e1,e2] ta) (hs:starEach [e1,e2] X.env=[(false,eval e1 X.env),(false,eval e2 X.env)]:=by rfl) (hs2:starEach [e2] X.env=[(false,eval e2 X.env)]:=by rfl):
  PI X (.Tuple es kk pt) (.Call (.Name "zip" p) [e1,e2] [] pos) (a9b X.K ta):=by
 intro pins s σ H R I h
 refine Call_ (J9 I hg hm boot_zip (PyProof.Rows.callWith_type1 (f7 (ha pos pins s σ H _ I h) fun us s1 ⟨vs,H1,I1,r1,q1⟩=>?_) (by rw[hs,hs2]) (by rw[hs2];rfl)))
 obtain ⟨a,b,xs,ys,rfl,hx,hy,q⟩:=q1
 cases r1 with
 | cons ra rr =>
  cases rr with
  | cons rb rr =>
   cases rr
   cases ra
   cases rb
   obtain ⟨its,r1,p1,_⟩:=I1.tuple hx
   obtain ⟨its2,r2,p2,_⟩:=I1.tuple hy
   refine a0C (show s1.heap.IsTuple a its.toArray from p1) (show s1.heap.IsTuple b its2.toArray from p2) fun h' Z keep sz=>?_
   refine wpAny_pyIter_zip (s:={ s1 with heap:=h' }) Z.zz ?_
   have I2:Inv X pins σ H1 { s1 with heap:=h' }:=I1.kept (t':=s1.toks) keep
   refine ⟨s1.heap.objs.size+4,[s1.heap.objs.size+4,s1.heap.objs.size+2,s1.heap.objs.size+3,s1.heap.objs.size,s1.heap.objs.size+1],_,_,H1,rfl,I2,a2d (ZipD.new p1.lt p2.lt),Z,fun c hc=>?_,q⟩
   have hge:s1.heap.objs.size<=c:=by
    simp only[List.mem_cons,List.not_mem_nil,or_false] at hc
    rcases hc with rfl|rfl|rfl|rfl|rfl <;> first|exact Nat.le_add_right _ _|exact Nat.le_refl _
   exact I1.fpOk hge (I1.hok.fresh hge)
end
end L2
namespace L2
open PySem PySem.Spec PyProof.Rows
mutual
noncomputable def Dt (st:Addr) (H:Hp):PyData->V->Prop
 | .none,v=>v=.non
 | .bool b,v=>v=.bl b
 | .int i,v=>v=.int i
 | .str x,v=>v=.str x
 | .tuple ds,v=>∃a xs,v=.ref a/\a≠st/\H a=some (.tup xs)/\Dts st H ds xs
 | .list ds,v=>∃a xs,v=.ref a/\a≠st/\H a=some (.lst xs)/\Dts st H ds xs
 | .dict _,v=>∃a ks,v=.ref a/\a≠st/\H a=some (.dK ks)
noncomputable def Dts (st:Addr) (H:Hp):List PyData->List V->Prop
 | [],xs=>xs=[]
 | d::ds,xs=>∃x r,xs=x::r/\Dt st H d x/\Dts st H ds r
end
noncomputable def Kp (st:Addr) (H H':Hp):Prop:=∀b o,b≠st->H b=some o->H' b=some o
theorem Kp.refl (st:Addr) (H:Hp):Kp st H H:=fun _ _ _ e=>e
theorem Kp.trans {st:Addr}{H H1 H2:Hp} (a:Kp st H H1) (b:Kp st H1 H2):Kp st H H2:=fun c o n e=>b c o n (a c o n e)
theorem Same.kp {H H':Hp} (a:Same H H') (st:Addr):Kp st H H':=fun b o _ e=>a b o e
theorem Same.new {H:Hp}{p:Addr}{o:HO} (h:H p=none):Same H (b7 H p o):=fun b u q=>by rw[d0 (d6 q h)];exact q
theorem Kp.new {st:Addr}{H:Hp}{p:Addr}{o:HO} (h:H p=none):Kp st H (b7 H p o):=(Same.new h).kp st
theorem Kp.at {st:Addr}{H:Hp}{o:HO}:Kp st H (b7 H st o):=fun b u n q=>by rw[d0 n];exact q
mutual
theorem Dt.kp {st:Addr}{H H':Hp} (k:Kp st H H'):∀{d:PyData}{v:V},Dt st H d v->Dt st H' d v
 | .none,_,h=>by unfold Dt at h ⊢;exact h
 | .bool _,_,h=>by unfold Dt at h ⊢;exact h
 | .int _,_,h=>by unfold Dt at h ⊢;exact h
 | .str _,_,h=>by unfold Dt at h ⊢;exact h
 | .tuple ds,_,h=>by
  unfold Dt at h ⊢
  obtain ⟨a,xs,e,n,q,r⟩:=h
  exact ⟨a,xs,e,n,k a _ n q,Dts.kp k r⟩
 | .list ds,_,h=>by
  unfold Dt at h ⊢
  obtain ⟨a,xs,e,n,q,r⟩:=h
  exact ⟨a,xs,e,n,k a _ n q,Dts.kp k r⟩
 | .dict kvs,_,h=>by
  unfold Dt at h ⊢
  obtain ⟨a,ks,e,n,q⟩:=h
  exact ⟨a,ks,e,n,k a _ n q⟩
theorem Dts.kp {st:Addr}{H H':Hp} (k:Kp st H H'):∀{ds:List PyData}{xs:List V},Dts st H ds xs->Dts st H' ds xs
 | [],_,h=>by unfold Dts at h ⊢;exact h
 | d::ds,_,h=>by
  unfold Dts at h ⊢
  obtain ⟨x,r,e,q1,q2⟩:=h
  exact ⟨x,r,e,Dt.kp k q1,Dts.kp k q2⟩
end
theorem Dt.int (st:Addr) (H:Hp) (i:Int):Dt st H (.int i) (.int i):=by unfold Dt;rfl
theorem Dt.tup {st:Addr}{H:Hp}{a:Addr}{xs:List V}{ds:List PyData} (n:a≠st) (h:H a=some (.tup xs)) (r:Dts st H ds xs):Dt st H (.tuple ds) (.ref a):=by unfold Dt;exact ⟨a,xs,rfl,n,h,r⟩
theorem Dt.lst {st:Addr}{H:Hp}{a:Addr}{xs:List V}{ds:List PyData} (n:a≠st) (h:H a=some (.lst xs)) (r:Dts st H ds xs):Dt st H (.list ds) (.ref a):=by unfold Dt;exact ⟨a,xs,rfl,n,h,r⟩
theorem Dts.nil (st:Addr) (H:Hp):Dts st H [] []:=by unfold Dts;rfl
theorem Dts.cons {st:Addr}{H:Hp}{d:PyData}{ds:List PyData}{x:V}{xs:List V} (h:Dt st H d x) (r:Dts st H ds xs):Dts st H (d::ds) (x::xs):=by unfold Dts;exact ⟨x,xs,rfl,h,r⟩
theorem Dts.uncons {st:Addr}{H:Hp}{d:PyData}{ds:List PyData}{xs:List V} (h:Dts st H (d::ds) xs):∃x r,xs=x::r/\Dt st H d x/\Dts st H ds r:=by unfold Dts at h;exact h
theorem Dts.len {st:Addr}{H:Hp}:∀{ds:List PyData}{xs:List V},Dts st H ds xs->ds.length=xs.length
 | [],_,h=>by unfold Dts at h;subst h;rfl
 | d::ds,_,h=>by
  obtain ⟨x,r,e,_,q⟩:=h.uncons
  subst e
  rw[List.length_cons,List.length_cons,Dts.len q]
theorem Dts.append {st:Addr}{H:Hp}:∀{ds es:List PyData}{xs ys:List V},Dts st H ds xs->Dts st H es ys->Dts st H (ds++es) (xs++ys)
 | [],_,_,_,h,q=>by unfold Dts at h;subst h;exact q
 | d::ds,_,_,_,h,q=>by
  obtain ⟨x,r,e,h1,h2⟩:=h.uncons
  subst e
  exact Dts.cons h1 (Dts.append h2 q)
theorem Dts.get {st:Addr}{H:Hp}:∀{ds:List PyData}{xs:List V}{i:Nat}{x:V},Dts st H ds xs->xs[i]?=some x->∃d,ds[i]?=some d/\Dt st H d x
 | [],_,i,x,h,e=>by unfold Dts at h;subst h;simp at e
 | d::ds,_,0,x,h,e=>by
  obtain ⟨y,r,e1,h1,h2⟩:=h.uncons
  subst e1
  simp at e;subst e
  exact ⟨d,rfl,h1⟩
 | d::ds,_,i+1,x,h,e=>by
  obtain ⟨y,r,e1,h1,h2⟩:=h.uncons
  subst e1
  obtain ⟨d',e2,h3⟩:=Dts.get (i:=i) (x:=x) h2 (by simpa using e)
  exact ⟨d',by simpa using e2,h3⟩
theorem Dts.ints (st:Addr) (H:Hp):∀ns:List Int,Dts st H (ns.map PyData.int) (ns.map V.int)
 | []=>Dts.nil st H
 | n::ns=>Dts.cons (Dt.int st H n) (Dts.ints st H ns)
theorem Dts.ints_eq {st:Addr}{H:Hp}:∀{ns:List Int}{xs:List V},Dts st H (ns.map PyData.int) xs->xs=ns.map V.int
 | [],_,h=>by unfold Dts at h;exact h
 | n::ns,_,h=>by
  rw[List.map_cons] at h
  obtain ⟨x,r,e,h1,h2⟩:=h.uncons
  unfold Dt at h1
  rw[e,h1,Dts.ints_eq h2,List.map_cons]
noncomputable abbrev DI (ns:List Int):PyData:=.tuple (ns.map .int)
theorem Dt.di {st:Addr}{H:Hp}{ns:List Int}{v:V} (h:Dt st H (DI ns) v):∃a,v=.ref a/\a≠st/\H a=some (.tup (ns.map V.int)):=by
 unfold DI Dt at h
 obtain ⟨a,xs,e,n,q,r⟩:=h
 exact ⟨a,e,n,by rw[q,r.ints_eq]⟩
theorem Dt.mkI {st:Addr}{H:Hp}{ns:List Int}{a:Addr} (n:a≠st) (h:H a=some (.tup (ns.map V.int))):Dt st H (DI ns) (.ref a):=Dt.tup n h (Dts.ints st H ns)
mutual
theorem Dt.reads {P:Program}{w:World}{st:Addr}{H:Hp}{h:Heap} (ok:HOk P w H h):∀{d:PyData}{v:V}{u:Value},d.canLay0=true->Dt st H d v->RelV v u->∃as,Reads h u d as
 | .none,_,u,_,q,r=>by unfold Dt at q;subst q;cases r;exact ⟨[],.none⟩
 | .bool b,_,u,_,q,r=>by unfold Dt at q;subst q;cases r;exact ⟨[],.bool b⟩
 | .int i,_,u,_,q,r=>by unfold Dt at q;subst q;obtain ⟨t,rfl⟩:=r;exact ⟨[],.int i t⟩
 | .str x,_,u,_,q,r=>by unfold Dt at q;subst q;obtain ⟨t,rfl⟩:=r;exact ⟨[],.str x t⟩
 | .tuple ds,_,u,cl,q,r=>by
  unfold PyData.canLay0 at cl
  unfold Dt at q
  obtain ⟨a,xs,e,n,hq,rs⟩:=q
  subst e
  cases r
  obtain ⟨_,its,rv,o,ho,hc,m,hd⟩:=ok a _ hq
  obtain ⟨as,ra⟩:=Dts.reads ok cl rs rv
  exact ⟨as,.tuple ho hc hd (by simpa using ra)⟩
 | .list ds,_,u,cl,q,r=>by
  unfold PyData.canLay0 at cl
  unfold Dt at q
  obtain ⟨a,xs,e,n,hq,rs⟩:=q
  subst e
  cases r
  obtain ⟨_,its,m,rv,ho⟩:=ok a _ hq
  obtain ⟨as,ra⟩:=Dts.reads ok cl rs rv
  exact ⟨a::as,.list ho rfl rfl (by simpa using ra)⟩
 | .dict kvs,_,u,cl,q,r=>by unfold PyData.canLay0 at cl;cases cl
theorem Dts.reads {P:Program}{w:World}{st:Addr}{H:Hp}{h:Heap} (ok:HOk P w H h):∀{ds:List PyData}{xs:List V}{us:List Value},PyData.canLayAll0 ds=true->Dts st H ds xs->Vals xs us->∃as,ReadsAll h us ds as
 | [],_,us,_,q,r=>by unfold Dts at q;subst q;cases r;exact ⟨[],.nil⟩
 | d::ds,_,us,cl,q,r=>by
  unfold PyData.canLayAll0 at cl
  rw[Bool.and_eq_true] at cl
  obtain ⟨x,rr,e,h1,h2⟩:=q.uncons
  subst e
  cases r with
  | cons r1 r2 =>
   obtain ⟨as,ra⟩:=Dt.reads ok cl.1 h1 r1
   obtain ⟨bs,rb⟩:=Dts.reads ok cl.2 h2 r2
   exact ⟨as++bs,.cons ra rb⟩
end
theorem K9 {d:PyData} (h:SeqAt.shaped d=true):d.canLay0=true:=by
 unfold SeqAt.shaped at h
 rw[Bool.and_eq_true] at h
 exact h.1
section
variable {X:Cx}
noncomputable def rEqD:R2:=fun x y H Q=>∃st d e,Dt st H d x/\Dt st H e y/\SeqAt.shaped d=true/\SeqAt.shaped e=true/\Q (.bl (PyData.eqv d e)) H
noncomputable def rNeD:R2:=fun x y H Q=>∃st d e,Dt st H d x/\Dt st H e y/\SeqAt.shaped d=true/\SeqAt.shaped e=true/\Q (.bl (!PyData.eqv d e)) H
theorem a7V (hu:X.A.units+64<cLine):v8 X (compareOp .Eq) rEqD:=by
 intro pins s σ H x y v u Q I rx ry h
 obtain ⟨st,d,e,h1,h2,s1,s2,q⟩:=h
 obtain ⟨as,ra⟩:=h1.reads I.hok (K9 s1) rx
 obtain ⟨bs,rb⟩:=h2.reads I.hok (K9 s2) ry
 exact eq_dataH ra rb s1 s2 hu (i8 I q rfl)
theorem R3 (hu:X.A.units+64<cLine):v8 X (compareOp .NotEq) rNeD:=by
 intro pins s σ H x y v u Q I rx ry h
 obtain ⟨st,d,e,h1,h2,s1,s2,q⟩:=h
 obtain ⟨as,ra⟩:=h1.reads I.hok (K9 s1) rx
 obtain ⟨bs,rb⟩:=h2.reads I.hok (K9 s2) ry
 exact ne_dataH ra rb s1 s2 hu (i8 I q rfl)
theorem op_isB:v8 X (compareOp .Is) (fun x y H Q=>∃a b,x=.bl a/\y=.bl b/\Q (.bl (a == b)) H):=by
 intro pins s σ H x y v u Q I rx ry h
 obtain ⟨a,b,rfl,rfl,q⟩:=h
 cases rx
 cases ry
 exact wpAny_pure (i8 I q (by cases a <;> cases b <;> rfl))
theorem op_isnotB:v8 X (compareOp .IsNot) (fun x y H Q=>∃a b,x=.bl a/\y=.bl b/\Q (.bl (!(a == b))) H):=by
 intro pins s σ H x y v u Q I rx ry h
 obtain ⟨a,b,rfl,rfl,q⟩:=h
 cases rx
 cases ry
 exact wpAny_pure (i8 I q (by cases a <;> cases b <;> rfl))
noncomputable def tyN:PyData->String
 | .none=>"NoneType"
 | .bool _=>"bool"
 | .int _=>"int"
 | .str _=>"str"
 | .list _=>"list"
 | .tuple _=>"tuple"
 | .dict _=>"dict"
theorem Dt.ty {K:W.Frag}{st:Addr}{H:Hp}{d:PyData}{v:V} (h:Dt st H d v):TyOf K H v (.type (tyN d)):=by
 cases d with
 | none=>unfold Dt at h;subst h;exact .non
 | bool b=>unfold Dt at h;subst h;exact .bl b
 | int i=>unfold Dt at h;subst h;exact .int i
 | str x=>unfold Dt at h;subst h;exact .str x
 | list ds=>unfold Dt at h;obtain ⟨a,xs,e,_,q,_⟩:=h;subst e;exact .lst q
 | tuple ds=>unfold Dt at h;obtain ⟨a,xs,e,_,q,_⟩:=h;subst e;exact .tup q
 | dict kvs=>unfold Dt at h;obtain ⟨a,ks,e,_,q⟩:=h;subst e;exact .dK q
noncomputable def isBoolD:PyData->Bool
 | .bool _=>true
 | _=>false
noncomputable def isIntD:PyData->Bool
 | .bool _=>true
 | .int _=>true
 | _=>false
noncomputable def isTupD:PyData->Bool
 | .tuple _=>true
 | _=>false
theorem a5J (K:W.Frag) (d:PyData):W.kitOne K (.type (tyN d)) (.type "bool")=some (isBoolD d):=by cases d <;> kernel_rfl
theorem a6I (K:W.Frag) (d:PyData):W.kitOne K (.type (tyN d)) (.type "int")=some (isIntD d):=by cases d <;> kernel_rfl
theorem a0l (K:W.Frag) (d:PyData):W.kitOne K (.type (tyN d)) (.type "tuple")=some (isTupD d):=by cases d <;> kernel_rfl
theorem Q1 {T:String}{f:PyData->Bool} (hk:∀K d,W.kitOne K (.type (tyN d)) (.type T)=some (f d)):
  w5 X (.builtin "isinstance") (fun xs H Q=>∃x st d,xs=[x,.ty T]/\Dt st H d x/\Q (.bl (f d)) H):=by
 intro pins s σ H xs us Q I r h
 obtain ⟨x,st,d,rfl,hd,q⟩:=h
 cases r with
 | cons r1 rr =>
  cases rr with
  | cons r2 rr =>
   cases rr
   cases r2
   exact a4m I r1 (hd.ty (K:=X.K)) (hk X.K d) fun tk=>⟨.bl (f d),H,I.tok tk,rfl,q⟩
theorem op_fdivB:v8 X (binaryOp .FloorDiv) (rI (fun _ j=>0<j/\j.natAbs.log2<9000) fun i j=>.int (i / j)):=opI fun i j _ _ _ _ _ hc q =>
 floordiv_int (by have:=hc.1;lia) (by rw[Int.fdiv_eq_ediv_of_nonneg i (by have:=hc.1;lia)];exact q) (.inl (PyProof.noPylong_of_log2 hc.2))
theorem op_mulB:v8 X (binaryOp .Mult) (rI (fun i j=>Builtin.Int.intBits i<=2 ^ 20/\Builtin.Int.intBits j<=2 ^ 20) fun i j=>.int (i*j)):=opI fun _ _ _ _ _ _ _ hc q=>mul_int q (.of_bits hc.1 hc.2)
noncomputable def a8j (K:W.Frag):R2:=fun x y H Q=>∃a b xs ys,x=.ref a/\y=.ref b/\SqT K H a xs/\SqT K H b ys/\xs.length+ys.length<=sizeLine /\
 (xs=[]->Q (.ref b) H)/\(xs≠[]->ys=[]->Q (.ref a) H)/\(xs≠[]->ys≠[]->∀p,H p=none->Q (.ref p) (b7 H p (.tup (xs++ys))))
theorem op_catA:v8 X (binaryOp .Add) (a8j X.K):=by
 intro pins s σ H x y v u Q I rx ry h
 obtain ⟨a,b,xs,ys,rfl,rfl,ha,hb,hz,q0,q1,q2⟩:=h
 by_cases hx:xs=[]
 ·subst hx
  cases rx
  cases ry
  obtain ⟨its,r1,p1,_⟩:=I.tuple ha
  obtain ⟨its2,r2,p2,_⟩:=I.tuple hb
  cases r1
  obtain ⟨⟨cls,dd,data,sl⟩,ho,hc,n,hd⟩:=id p1
  obtain ⟨⟨cls2,dd2,data2,sl2⟩,ho2,hc2,n2,hd2⟩:=id p2
  simp only at hc hd hc2 hd2
  subst hc hd hc2 hd2
  exact concat_meets ⟨_,ho,rfl⟩ ⟨_,ho2,rfl⟩ noFill_tuple_add seq_tuple_add PySem.F.slot_tuple_add PySem.F.entry_tuple_add (PySem.F.args_tuple_add_2 _ _)
   (tuple_addW0 a b _ _ n n2 dd dd2 sl sl2 (by rfl)) ⟨ho,ho2,⟨.ref b,H,I,rfl,q0 rfl⟩⟩
 ·exact op_catT pins s σ H _ _ v u Q I rx ry ⟨a,b,xs,ys,rfl,rfl,ha,hb,hx,hz,q1 hx,q2 hx⟩
end
end L2
namespace L2
open PySem PySem.Spec PyProof.Rows
section
variable {prog:Program}{w:World}{A:Around}{E:Value->Shared->Prop}{s:Shared}
theorem a0R {t sl:Addr}{items:Array Value}{vl vu:Value}{lo hi:Option Int}{Q:Value->Shared->Prop} (ht:IsTup s.heap t items) (hs:s.heap.IsSliceOf sl vl vu .none) (pl:IsPart vl lo) (pu:IsPart vu hi)
  (hw:HT.sIx items.size 0 lo=0/\HT.sIx items.size items.size hi=items.size) (h:Q (.ref t) s):wpAny (model prog w) A (getItem (.ref t) (.ref sl)) Q E s:=by
 obtain ⟨os,hos,hcs,hds⟩:=id hs
 have hTs:s.TypeIs (.ref sl) "slice":=⟨os,hos,hcs⟩
 unfold getItem
 try with_reducible refine wpAny_holding ?_
 first|refine wpAny_bind (wpAny_pure ?_)|skip
 refine wpAny_bind (wpAny_sequenceKey ht.typeIs (by decide) ?_)
 refine wpAny_bind (wpAny_callSpecial?_slot (name:=Str.ofString "__getitem__") ht.typeIs PyProof.Rows.slot_tuple_getitem
  (wpAny_call_entry PyProof.Rows.slot_tuple_getitem ht.typeIs entry_tuple_getitem ?_ (args_tuple_getitem _ _)))
 show wpAny _ _ (Builtin.Tuple.tupleItemsOf (.ref t) >>= _) _ _ s
 refine wpAny_bind (tupleItemsOf_ ht (wpAny_bind (wpAny_typeOf hTs ?_)))
 rw[if_pos (by decide)]
 refine wpAny_bind (HT.sliceApplied_gen hs pl pu ?_)
 show wpAny _ _ (if (((HT.sIx items.size 0 lo:Nat):Int) == 0&&(1:Int) == 1&&(HT.sIx items.size items.size hi - HT.sIx items.size 0 lo) == items.size)=true then _ else _) _ _ s
 rw[if_pos (by rw[hw.1,hw.2];simp)]
 refine wpAny_bind (m:=Builtin.Tuple.tupleIsExact (.ref t)) ?_
 unfold Builtin.Tuple.tupleIsExact
 refine wpAny_bind (wpAny_typeOf ht.typeIs (wpAny_pure ?_))
 rw[if_pos (by decide)]
 refine wpAny_bind (wpAny_rule ?_)
 first
  | exact wpAny_pure ⟨_,rfl,wpAny_pure h⟩
  | exact wpAny_bind (wpAny_pure (wpAny_pure ⟨_,rfl,wpAny_pure h⟩))
end
section
variable {X:Cx}
noncomputable def a9h (K:W.Frag):V->Option Int->Option Int->Hp->VK->Prop:=fun x lo hi H Q=>∃a xs,x=.ref a/\SqT K H a xs /\
 ((HT.sIx xs.length 0 lo=0/\HT.sIx xs.length xs.length hi=xs.length)->Q (.ref a) H) /\
 (¬ (HT.sIx xs.length 0 lo=0/\HT.sIx xs.length xs.length hi=xs.length)->∀p,H p=none->Q (.ref p) (b7 H p (.tup (D5 xs lo hi))))
theorem sl_any:SlR X (a9h X.K):=by
 intro pins s σ H x v vl vu lo hi sl Q I rx hs pl pu h
 obtain ⟨a,xs,rfl,hx,q1,q2⟩:=h
 by_cases hw:HT.sIx xs.length 0 lo=0/\HT.sIx xs.length xs.length hi=xs.length
 ·cases rx
  obtain ⟨its,r,ht,hz⟩:=I.tuple hx
  have hlen:its.toArray.size=xs.length:=by rw[List.size_toArray];exact r.length.symm
  exact ⟨"tuple",_,PyProof.Rows.slot_tuple_getitem.lookup,ht.typeIs,a0R ht hs pl pu (by rw[hlen];exact hw) ⟨.ref a,H,I,rfl,q1 hw⟩⟩
 ·exact sl_tup pins s σ H _ v vl vu lo hi sl Q I rx hs pl pu ⟨a,xs,rfl,hx,hw,q2 hw⟩
theorem noR_tuple:typeLookup (.type "tuple") (dunderR "mul")=pure (some (.builtin "tuple.__rmul__")):=by rw[typeLookup_type,builtinLookup_eq_fast];kernel_rfl
theorem noFill_tuple_mul:fillsNumberSlot (.type "tuple") "mul"=pure false :=
 PySem.fillsNumberSlot_seq (id:="tuple.__mul__") (r:=some (.builtin "tuple.__rmul__")) F.slot_tuple_mul.lookup (by decide +kernel) noR_tuple (by decide +kernel)
theorem repeat_tuple:seqRepeat? (.type "tuple")=pure (some (.builtin "tuple.__mul__")):=by
 unfold seqRepeat?
 rw[PySem.seqSlot_of (T:="tuple") (name:="__mul__") (id:="tuple.__mul__") F.slot_tuple_mul.lookup (by decide +kernel),PySem.seqSlot_of (T:="tuple") (name:="__rmul__") (id:="tuple.__rmul__") noR_tuple (by decide +kernel)]
 rfl
theorem a3B (a:Int) (t:Tok) (l:Addr) (items:Array Value) (n:Nat) (dd:Option Addr) (sl:Array (Option Value)):
  Meets (Builtin.«int.__rmul__» ⟨[.int a t,.ref l],[]⟩) (fun _ R s=>s.heap.get? l=some { cls:=.type "tuple",dict:=dd,data:=.seq items n,slots:=sl }/\R (.ok (.ret Value.notImplemented)) s):=
 .of_wp fun prog w A R s h=>by obtain ⟨hp,g,d,tk,os⟩:=s;obtain ⟨hl,h⟩:=h;wp_walk;exact ⟨_,rfl,h⟩
theorem a3o (l:Addr) (items:Array Value) (n:Nat) (dd:Option Addr) (sl:Array (Option Value)) (t:Tok):
  Meets (Builtin.«tuple.__mul__» ⟨[.ref l,.int 1 t],[]⟩) (fun _ R s=>s.heap.get? l=some { cls:=.type "tuple",dict:=dd,data:=.seq items n,slots:=sl }/\R (.ok (.ret (.ref l))) s):=
 .of_wp fun prog w A R s h=>by
  obtain ⟨hp,g,d,tk,os⟩:=s;obtain ⟨hl,h⟩:=h
  wp_walk
  exact ⟨_,rfl,h⟩
theorem a3l (l:Addr) (v:Value) (n:Nat) (dd:Option Addr) (sl:Array (Option Value)) (k:Int) (t:Tok) (hk:k=2 ∨ k=3 ∨ k=4):
  Meets (Builtin.«tuple.__mul__» ⟨[.ref l,.int k t],[]⟩) (fun _ R s=>s.heap.get? l=some { cls:=.type "tuple",dict:=dd,data:=.seq #[v] n,slots:=sl } /\
   R (.ok (.ret (.ref s.heap.objs.size))) { s with heap:=s.heap.push { cls:=.type "tuple",data:=.seq (List.replicate k.toNat v).toArray } }):=
 .of_wp fun prog w A R s h=>by
  obtain ⟨hp,g,d,tk,os⟩:=s;obtain ⟨hl,h⟩:=h
  rcases hk with rfl|rfl|rfl
  ·wp_walk
   exact ⟨_,rfl,h⟩
  ·wp_walk
   exact ⟨_,rfl,h⟩
  ·wp_walk
   exact ⟨_,rfl,h⟩
noncomputable def a8l (K:W.Frag):R2:=fun x y H Q=>∃a v k,x=.ref a/\y=.int k/\SqT K H a [v]/\1<=k/\k<=4/\(k=1->Q (.ref a) H)/\(k≠1->∀p,H p=none->Q (.ref p) (b7 H p (.tup (List.replicate k.toNat v))))
theorem a1b {v:V}{u:Value} (r:RelV v u):∀n:Nat,Vals (List.replicate n v) (List.replicate n u)
 | 0=>.nil
 | n+1=>.cons r (a1b r n)
theorem op_rep1:v8 X (binaryOp .Mult) (a8l X.K):=by
 intro pins s σ H x y w' u Q I rx ry h
 obtain ⟨a,v,k,rfl,rfl,ha,h1,h4,q1,q2⟩:=h
 cases rx
 obtain ⟨t,rfl⟩:=ry
 obtain ⟨its,r,p1,_⟩:=I.tuple ha
 cases r with
 | cons r1 rr =>
  cases rr
  obtain ⟨⟨cls,dd,data,sl⟩,ho,hc,n,hd⟩:=id p1
  simp only at hc hd
  subst hc hd
  refine wpAny_binaryOp_repeat_ref (T:="tuple") (U:="int") (by decide) ⟨_,ho,rfl⟩ (fun s'=>typeIs_int s' k t) noFill_tuple_mul F.fills_int_mul F.slot_int_rmul repeat_tuple F.slot_int_index.lookup
   (call_meets F.slot_int_rmul (typeIs_int s k t) F.entry_int_rmul (F.args_int_rmul_2 _ _) (a3B k t a _ n dd sl) ⟨ho,rfl,⟨_,ho,rfl⟩,?_⟩)
  by_cases hk:k=1
  ·subst hk
   exact call_meets F.slot_tuple_mul ⟨_,ho,rfl⟩ F.entry_tuple_mul (F.args_tuple_mul_2 _ _) (a3o a _ n dd sl t) ⟨ho,⟨.ref a,H,I,rfl,q1 rfl⟩⟩
  ·refine call_meets F.slot_tuple_mul ⟨_,ho,rfl⟩ F.entry_tuple_mul (F.args_tuple_mul_2 _ _) (a3l a _ n dd sl k t (by lia)) ⟨ho,?_⟩
   refine ⟨.ref s.heap.objs.size,_,I.laid (t':=s.toks) (o:=.tup (List.replicate k.toNat v)) (fun b ob q=>Heap.get?_push_of_some _ q) (Nat.le_refl _) ?_,rfl,q2 hk _ (I.hok.fresh (Nat.le_refl _))⟩
   exact ⟨by rw[List.length_replicate];exact Nat.le_trans (show k.toNat<=1000 by lia) (Nat.le_of_lt (a0u (Nat.le_refl _))),_,a1b r1 _,IsTup.new _ _⟩
end
end L2
namespace L2
open PySem PySem.Spec PyProof.Rows
structure Cal (P:Program) (w:World) (K:W.Frag) (mg:Str->Option Value) (base:Heap) (k:Nat) (x:Str) (ps:List Str) (sp:Sp):Prop where
 ex:∃f fd,mg x=some (.ref f)/\W.keepIn K (.ref f)=true/\Binds K fd ps []/\FnOk P w K mg base CX0 k f fd ps sp
theorem Cal.up {P:Program}{w:World}{K:W.Frag}{mg:Str->Option Value}{base:Heap}{j k:Nat}{x:Str}{ps:List Str}{sp:Sp} (C:Cal P w K mg base j x ps sp) (h:j<=k):Cal P w K mg base k x ps sp :=
 let ⟨f,fd,a,b,c,d⟩:=C.ex;⟨f,fd,a,b,c,d.mono h⟩
noncomputable def tCb (sp:Sp) (t:TA):TE:=fun σ H Q=>t σ H fun vs H1=>sp vs H1 Q E0
section
variable {X:Cx}{k:Nat}{x:Str}{ps:List Str}{sp:Sp}{p pos:Pos}{e:Expr}{es:List Expr}{t:TA}
theorem d7 (C:Cal X.prog X.w X.K X.mg X.base k x ps sp) (hr:Room k X.A) (hg:Gl X x) (ha:PA X (e::es) t)
  (hdb:(x == ("__debug__":Str))=false:=by decide) (he:starEach (e::es) X.env=(false,eval e X.env)::starEach es X.env:=by rfl) (hpl:(backTo pos (starEach es X.env)).any (·.1)=false:=by rfl):
  PE X (.Call (.Name x p) (e::es) [] pos) (tCb sp t):=by
 obtain ⟨f,fd,hm,hk,hb,F⟩:=C.ex
 have h:=a2H (x:=x) (p:=p) (pos:=pos) F hr hg hm hk hb .nil a8J ha hdb he hpl
 have e:a3y sp [] E0 t=tCb sp t:=by
  funext σ H Q
  show t σ H (fun vs H1=>sp (vs++[]) H1 Q E0)=t σ H (fun vs H1=>sp vs H1 Q E0)
  congr 1
  funext vs H1
  rw[List.append_nil]
 rw[<- e];exact h
end
section
variable {K:W.Frag}{σ0:St}{te:TE}{H:Hp}{F:List V->Hp->Prop}
theorem q9 {lo:Int}{n:Nat} (hn:n<=sizeLine) (Pv:Nat->List V->Hp->Prop) (h0:Pv 0 [] H) (hl:∀i ys H,Pv i ys H->ys.length=i) (hσ:σ0[0]?=some none)
  (hs:∀i ys H,i<n->Pv i ys H->te (σ0.set 0 (some (.int (lo+i)))) H fun y H'=>Pv (i+1) (ys++[y]) H') (hd:∀ys H,Pv n ys H->F ys H):Y0 (X4 lo n) σ0 (r6 0) tTrue te H F:=by
 refine ⟨fun i m ys H=>m=n - i/\i<=n/\Pv i ys H,⟨n,by simp,Nat.zero_le _,h0⟩,?_⟩
 rintro i m ys H2 ⟨rfl,hi,p⟩
 refine ⟨by rw[hl i ys H2 p];lia,?_⟩
 by_cases hlt:i<n
 ·refine .inr ⟨hlt,fun y H'=>Pv (i+1) (ys++[y]) H',fun _=>False,fun y H' q=>⟨n - (i+1),by lia,rfl,hlt,q⟩,fun _ q=>q.elim,fun x H3 y=>?_⟩
  obtain ⟨rfl,rfl⟩:=y
  exact ⟨Wk.set (.inl hσ),hs i ys _ hlt p⟩
 ·have e:i=n:=by lia
  subst e
  exact .inl ⟨Nat.le_refl _,hd ys H2 p⟩
theorem Z4 {a:Addr}{xs:List V} (hn:xs.length<=sizeLine) (Pv:Nat->List V->Hp->Prop) (h0:Pv 0 [] H) (hl:∀i ys H,Pv i ys H->ys.length=i) (hq:∀i ys H,i<=xs.length->Pv i ys H->SqT K H a xs) (hσ:σ0[0]?=some none)
  (hs:∀i ys H x,xs[i]?=some x->Pv i ys H->te (σ0.set 0 (some x)) H fun y H'=>Pv (i+1) (ys++[y]) H') (hd:∀ys H,Pv xs.length ys H->F ys H):Y0 (Itt K a) σ0 (r6 0) tTrue te H F:=by
 refine ⟨fun i m ys H=>m=xs.length - i/\i<=xs.length/\Pv i ys H,⟨xs.length,by simp,Nat.zero_le _,h0⟩,?_⟩
 rintro i m ys H2 ⟨rfl,hi,p⟩
 have q:=hq i ys H2 hi p
 refine ⟨by rw[hl i ys H2 p];lia,?_⟩
 by_cases hlt:i<xs.length
 ·refine .inr ⟨⟨xs,xs[i],q,by simp[hlt]⟩,fun y H'=>Pv (i+1) (ys++[y]) H',fun _=>False,fun y H' q=>⟨xs.length - (i+1),by lia,rfl,hlt,q⟩,fun _ q=>q.elim,fun x H3 y=>?_⟩
  obtain ⟨rfl,y⟩:=y
  exact ⟨Wk.set (.inl hσ),hs i ys _ x (y xs q) p⟩
 ·have e:i=xs.length:=by lia
  subst e
  exact .inl ⟨⟨xs,q,Nat.le_refl _⟩,hd ys H2 p⟩
theorem a3f {a b:Addr}{xs ys:List V} (hn:xs.length<=sizeLine) (hxy:xs.length=ys.length) (Pv:Nat->List V->Hp->Prop) (h0:Pv 0 [] H) (hl:∀i zs H,Pv i zs H->zs.length=i)
  (hq:∀i zs H,i<=xs.length->Pv i zs H->SqT K H a xs/\SqT K H b ys) (hσ:σ0[0]?=some none/\σ0[1]?=some none)
  (hs:∀i zs H x y p,xs[i]?=some x->ys[i]?=some y->H p=none->Pv i zs H->te ((σ0.set 0 (some x)).set 1 (some y)) (b7 H p (.tup [x,y])) fun z H'=>Pv (i+1) (zs++[z]) H') (hd:∀zs H,Pv xs.length zs H->F zs H):
  Y0 (Itz K a b) σ0 (a3L K 2 (X0 (r6 0) (X0 (r6 1) gNil))) tTrue te H F:=by
 refine ⟨fun i m zs H=>m=xs.length - i/\i<=xs.length/\Pv i zs H,⟨xs.length,by simp,Nat.zero_le _,h0⟩,?_⟩
 rintro i m zs H2 ⟨rfl,hi,p⟩
 obtain ⟨q1,q2⟩:=hq i zs H2 hi p
 refine ⟨by rw[hl i zs H2 p];lia,?_⟩
 by_cases hlt:i<xs.length
 ·refine .inr ⟨⟨xs,ys,xs[i],ys[i]'(by lia),q1,q2,by simp[hlt],by rw[List.getElem?_eq_getElem (by lia)]⟩,fun y H'=>Pv (i+1) (zs++[y]) H',fun _=>False,fun y H' q=>⟨xs.length - (i+1),by lia,rfl,hlt,q⟩,fun _ q=>q.elim,fun v H3 yld=>?_⟩
  obtain ⟨r,x,y,hr,rfl,rfl,hx,hy⟩:=yld
  refine ⟨r,[x,y],rfl,.of b6,rfl,x,[y],rfl,y,[],rfl,rfl,?_,?_⟩
  ·refine ⟨by simp,fun j u e=>?_⟩
   by_cases h1:j=1
   ·subst h1;rw[hσ.2] at e;cases e
   ·rw[List.getElem?_set_ne (Ne.symm h1)]
    by_cases h2:j=0
    ·subst h2;rw[hσ.1] at e;cases e
    ·rw[List.getElem?_set_ne (Ne.symm h2)];exact e
  ·exact hs i zs _ x y r (hx xs q1) (hy ys q2) hr p
 ·have e:i=xs.length:=by lia
  subst e
  exact .inl ⟨⟨xs,q1,Nat.le_refl _⟩,hd zs H2 p⟩
end
section
variable {X:Cx}
theorem R9 {x:Str}{T:String}{pos:Pos} (hg:Gl X x) (hm:X.mg x=none) (hv:bootBuiltins x=some (.type T)) (hn:x≠"__name__":=by decide) (hd:(x == ("__debug__":Str))=false:=by decide):PE X (.Name x pos) (tC (.ty T)):=a6Z hg hm hv (v:=.ty T) rfl hn hd
theorem v0 {scope:Scope}{N:List Str}{s:Shared}{H:Hp}{ex:List Addr}{i:Nat}{x:Str}{pos:Pos} (hN:N.Nodup) (hi:N[i]?=some x) (hx:Loc (X.comp scope N s H ex).env.scope x)
  (hf:(X.comp scope N s H ex).fn x=true ∨ (X.comp scope N s H ex).env.scope.names.lookup x=some .local):PG (X.comp scope N s H ex) (.Name x pos) (r6 i):=u5 hN hi hx hf
end
theorem sz {n:Nat} (h:n<=1000):n<=sizeLine:=Nat.le_of_lt (a0u h)
end L2
namespace L2
open PySem PySem.Spec PyProof.Rows
section
variable {X:Cx}{K:W.Frag}
theorem a9l (h:X.K=K):w5 X (.builtin "len") (fun xs H Q=>∃p ys,xs=[.ref p]/\(SqL K H p ys ∨ SqT K H p ys)/\Q (.int ys.length) H):=by subst h;exact call_len_seq
theorem a9s (h:X.K=K) (hc:X.calm=true):w5 X (.builtin "sum") (fun xs H Q=>∃(p:Addr) (ns:List Int),xs=[.ref p]/\(SqL K H p (ns.map V.int) ∨ SqT K H p (ns.map V.int))/\Q (.int ns.sum) H):=by subst h;exact L4 hc
theorem a3v (h:X.K=K):w5 X (.type "tuple") (fun xs H Q=>∃p ys,xs=[.ref p]/\((SqL K H p ys/\∀l,H l=none->Q (.ref l) (b7 H l (.tup ys))) ∨ (SqT K H p ys/\Q (.ref p) H))):=by subst h;exact call_tuple_of
theorem ixK (h:X.K=K):IxR X (a7z K):=by subst h;exact ix_tup
theorem a9c (h:X.K=K):IxR X (a74 K):=by subst h;exact ix_list
theorem a5B (h:X.K=K) {es:List Expr}{k:Nat}{t:TGs}{n:Nat}{pos:Pos} (hc:X.calm=true) (hp:PGs X es t)
  (hn:(assignEach es X.env).length=n:=by rfl) (hst:(assignEach es X.env).findIdx? (·.1)=none:=by rfl):PG X (.Tuple es k pos) (a3L K n t):=by subst h;exact a2e hc hp hn hst
end
end L2
namespace L2
open PySem PySem.Spec PyProof.Rows
noncomputable def Hd (h:Heap) (a C:Addr):Option Addr->Prop
 | none=>∃oe vs,h.get? a=some oe/\oe.cls=.ref C/\oe.dict=none/\oe.data=.fields vs/\vs[1]?=some .none
 | some T=>∃oe vs oT ts,h.get? a=some oe/\oe.cls=.ref C/\oe.dict=none/\oe.data=.fields vs/\vs[1]?=some (.ref T)/\T≠a/\h.get? T=some oT/\oT.data=.fields ts/\ts[3]?=some .none
theorem a0d (f:Array Value->Array Value) (o:Obj):(Obj.mapFields f o).dict=o.dict:=by
 obtain ⟨c,d,dt,sl⟩:=o
 cases dt <;> rfl
theorem a2B {M:Model}{A:Around}{E:Value->Shared->Prop}{s:Shared}{bs:Heap}{ev:Env}{out:List Env}{L a C:Addr}{ob:Obj}{us:Array Value}{hdv:Value}{hn:Bool}{Q:Unit->Shared->Prop}
  (fr:A.frames=some (ev::out)) (ff:s.heap.FunFrames bs (ev::out)) (fl:ev.frame=some L) (ga:s.heap.get? a=some ob) (gc:ob.cls=.ref C) (gd:ob.dict=none) (gf:ob.data=.fields us) (sz:1<us.size)
  (k:∀h' T,Hd h' a C (some T)->s.heap.objs.size<=T->(∀b o,b≠a->b ∉ G3 (ev::out)->s.heap.get? b=some o->h'.get? b=some o) ->
   (∀b o,b≠a->s.heap.get? b=some o->∃sl,h'.get? b=some { o with slots:=sl })->Q () { s with heap:=h' }):
  wpAny M A (do let x <- frameOf ev;let pl <- entryPlaceOf L hn;let b <- EntryCells.newEntry hdv x .none (rawInt L) .none pl;setField (.ref a) 1 b) (fun _ s'=>wpAny M A (setFlight (.ref a) none) Q E s') E s:=by
 have na:a ∉ (ev::out).filterMap (·.frame):=fun hm=>by
  obtain ⟨_,o,ho,hnf⟩:=ff.mem hm
  rw[ga] at ho
  cases ho
  exact hnf us gf
 refine wpAny_bind (wpAny_frameOf_fun fr ff fl fun g1 hs=>?_)
 refine wpAny_bind (wpAny_entryPlaceOf fun pl hpl=>?_)
 unfold EntryCells.newEntry newFields
 refine wpAny_bind (wpAny_newObj_type ?_ (hpl.sizeOk5 _ _ _ _ _))
 have ga1:g1.get? a=some ob:=(hs.2.1 a na).trans ga
 generalize hnew:({ cls:=.type "traceback",dict:=none,data:=.fields ([hdv,.ref L,.none,rawInt L,.none]++(if pl.isEmpty then List.replicate 6 Value.none else pl)).toArray }:Obj)=ot
 have ga2:(g1.push ot).get? a=some ob:=Heap.get?_push_of_some (h:=g1) ot ga1
 have gt2:(g1.push ot).get? g1.objs.size=some ot:=Heap.get?_push_size g1 (by rw[<- hnew];rfl)
 have otd:∃ts,ot.data=.fields ts/\3<ts.size:=by
  refine ⟨_,by rw[<- hnew],?_⟩
  simp only[List.size_toArray,List.length_append,List.length_cons,List.length_nil]
  lia
 obtain ⟨ts,otd,tsz⟩:=otd
 refine wpAny_setField ga2 gf sz ?_
 have neT:g1.objs.size≠a:=Nat.ne_of_gt (Heap.lt_size ga1)
 have d3:=Obj.data_mapFields gf (·.setIfInBounds 1 (Value.ref g1.objs.size))
 have ga3:=Heap.get?_update_self (Obj.mapFields (·.setIfInBounds 1 (Value.ref g1.objs.size))) ga2 (Obj.isFreed_of_fields d3)
 have gt3:((g1.push ot).update a (Obj.mapFields (·.setIfInBounds 1 (Value.ref g1.objs.size)))).get? g1.objs.size=some ot :=
  (Heap.get?_update_other (g1.push ot) (Obj.mapFields (·.setIfInBounds 1 (Value.ref g1.objs.size))) (Ne.symm neT)).trans gt2
 unfold setFlight
 refine wpAny_bind (wpAny_field ga3 d3 (x:=.ref g1.objs.size) (by simp[sz]) ?_)
 rw[if_pos (show (Value.ref g1.objs.size != Value.none)=true from by simp)]
 refine wpAny_setField gt3 otd tsz ?_
 have kp:∀b o,b≠a->g1.get? b=some o ->
   (((g1.push ot).update a (Obj.mapFields (·.setIfInBounds 1 (Value.ref g1.objs.size)))).update g1.objs.size (Obj.mapFields (·.setIfInBounds 3 ((none:Option Addr).elim Value.none fun f=>rawInt f)))).get? b=some o:=by
  intro b o hb e
  have hbT:g1.objs.size≠b:=Nat.ne_of_gt (Heap.lt_size e)
  rw[Heap.get?_update_other _ _ hbT,Heap.get?_update_other _ _ (Ne.symm hb)]
  exact Heap.get?_push_of_some _ e
 refine k _ g1.objs.size ⟨_,_,_,_,(Heap.get?_update_other _ _ neT).trans ga3,?_,?_,d3,by simp[sz],neT,Heap.get?_update_self _ gt3 (Obj.isFreed_of_fields (Obj.data_mapFields otd _)),Obj.data_mapFields otd _,?_⟩ (by rw[hs.1];exact Nat.le_refl _) (fun b o hb hf e=>?_) (fun b o hb e=>?_)
 ·rw[Obj.cls_mapFields]
  exact gc
 ·rw[a0d]
  exact gd
 ·rw[Array.getElem?_setIfInBounds_self_of_lt tsz]
  rfl
 ·exact kp b o hb ((hs.2.1 b hf).trans e)
 ·obtain ⟨sl,e1⟩:=hs.2.2 b o e
  exact ⟨sl,kp b _ hb e1⟩
theorem a7U {M:Model}{A:Around}{E:Value->Shared->Prop}{s:Shared}{bs:Heap}{ev:Env}{out:List Env}{L a C:Addr}{hd:Option Addr}{Q:Unit->Shared->Prop}
  (fr:A.frames=some (ev::out)) (ff:s.heap.FunFrames bs (ev::out)) (fl:ev.frame=some L) (x:Hd s.heap a C hd)
  (k:∀h' T,Hd h' a C (some T)->s.heap.objs.size<=T->(∀b o,b≠a->hd≠some b->b ∉ G3 (ev::out)->s.heap.get? b=some o->h'.get? b=some o) ->
   (∀b o,b≠a->hd≠some b->s.heap.get? b=some o->∃sl,h'.get? b=some { o with slots:=sl })->Q () { s with heap:=h' }):
  wpAny M A (noteFrame (.ref a) ev) (fun _ s'=>wpAny M A (setFlight (.ref a) none) Q E s') E s:=by
 unfold noteFrame
 simp only[fl]
 cases hd with
 | none =>
  obtain ⟨oe,vs,e1,e2,e3,e4,e5⟩:=x
  refine wpAny_bind (wpAny_field e1 e4 e5 ?_)
  rw[if_neg (by decide)]
  exact a2B fr ff fl e1 e2 e3 e4 (Array.getElem?_eq_some_iff.mp e5).1 fun h' T q1 q2 q3 q4=>k h' T q1 q2 (fun b o hb _=>q3 b o hb) (fun b o hb _=>q4 b o hb)
 | some T0 =>
  obtain ⟨oe,vs,oT,ts,e1,e2,e3,e4,e5,ne,t1,t2,t3⟩:=x
  refine wpAny_bind (wpAny_field e1 e4 e5 ?_)
  rw[if_pos (show (Value.ref T0 != Value.none)=true from by simp)]
  refine wpAny_bind (wpAny_field t1 t2 t3 ?_)
  rw[if_neg (show ¬ ((Value.none == rawInt L)=true) from by simp[rawInt])]
  refine wpAny_bind (wpAny_setField t1 t2 (Array.getElem?_eq_some_iff.mp t3).1 ?_)
  have ot:∀b,b≠T0->(s.heap.update T0 (Obj.mapFields (·.setIfInBounds 3 Value.none))).get? b=s.heap.get? b:=fun b hb=>Heap.get?_update_other _ _ (Ne.symm hb)
  have nr:∀b o,s.heap.get? b=some o->(∀vs,o.data≠.fields vs)->b≠T0:=fun b o hb hnf q=>by
   rw[q,t1] at hb
   cases hb
   exact hnf ts t2
  refine a2B fr (ff.of_keeps fun b o hb hnf=>⟨o,(ot b (nr b o hb hnf)).trans hb,rfl⟩) fl ((ot a (Ne.symm ne)).trans e1) e2 e3 e4 (Array.getElem?_eq_some_iff.mp e5).1 fun h' T q1 q2 q3 q4=>?_
  have q2':s.heap.objs.size<=T:=by
   have z:=Heap.size_after_update s.heap T0 (Obj.mapFields (·.setIfInBounds 3 Value.none))
   rw[<- z];exact q2
  exact k h' T q1 q2' (fun b o hb hx hf e=>q3 b o hb hf ((ot b fun z=>hx (by rw[z])).trans e)) (fun b o hb hx e=>q4 b o hb ((ot b fun z=>hx (by rw[z])).trans e))
theorem a6w {M:Model}{A:Around}{E:Value->Shared->Prop}{s:Shared}{bs:Heap}{ev:Env}{out:List Env}{L a C:Addr}{hd:Option Addr}{Q:Unit->Shared->Prop}
  (fr:A.frames=some (ev::out)) (ff:s.heap.FunFrames bs (ev::out)) (fl:ev.frame=some L) (x:Hd s.heap a C hd)
  (k:∀h' T,Hd h' a C (some T)->s.heap.objs.size<=T->(∀b o,b≠a->hd≠some b->b ∉ G3 (ev::out)->s.heap.get? b=some o->h'.get? b=some o) ->
   (∀b o,b≠a->hd≠some b->s.heap.get? b=some o->∃sl,h'.get? b=some { o with slots:=sl })->Q () { s with heap:=h' }):
  wpAny M A (leaving ev (.ref a)) Q E s:=by
 unfold leaving
 exact wpAny_bind (a7U fr ff fl x k)
end L2
namespace L2
open PySem PySem.Spec PyProof.Rows
theorem ObjOk.there {P:Program}{w:World}{H:Hp}{h:Heap}{a:Addr}{o:HO} (x:ObjOk P w H h a o):∃u,h.get? a=some u:=by
 cases o with
 | lst xs=>obtain ⟨_,_,_,_,e⟩:=x;exact ⟨_,e⟩
 | tup xs=>obtain ⟨_,_,_,ob,e,_⟩:=x;exact ⟨_,e⟩
 | dK kvs=>obtain ⟨_,_,_,_,ob,_,_,e,_⟩:=x;exact ⟨_,e⟩
 | dT kvs=>obtain ⟨_,_,_,_,ob,_,_,e,_⟩:=x;exact ⟨_,e⟩
 | set S n=>obtain ⟨ob,_,_,_,e,_⟩:=x;exact ⟨_,e⟩
 | ins C dx fs=>obtain ⟨_,_,_,e,_⟩:=x;exact ⟨_,e⟩
 | own y=>exact x
 | xd fs=>obtain ⟨_,⟨_,_,_,e,_⟩,_⟩:=x;exact ⟨_,e⟩
 | rng lo hi=>obtain ⟨_,_,_,e⟩:=x;exact ⟨_,e⟩
 | frz ob u=>obtain ⟨e,_⟩:=x;exact ⟨_,e⟩
 | tbl ps=>exact ⟨_,(show h.get? a=some _ from x)⟩
 | met f y=>exact ⟨_,(show h.get? a=some _ from x)⟩
 | ext φ=>obtain ⟨_,e,_⟩:=x;exact e
theorem HOk.none_of {P:Program}{w:World}{H:Hp}{h:Heap}{a:Addr} (x:HOk P w H h) (e:h.get? a=none):H a=none:=by
 cases z:H a with
 | none=>rfl
 | some u =>
  obtain ⟨o,eo⟩:=(x a u z).there
  rw[e] at eo
  cases eo
structure Fly (P:Program) (w:World) (fs:List Addr) (H:Hp) (s:Shared) (a C:Addr) (H':Hp) (s':Shared):Prop where
 os:s'.os=s.os
 bare:AllBare s'.gens
 un:Un fs [] H H' s.heap s'.heap
 hok:HOk P w H' s'.heap
 exc:∃T,Hd s'.heap a C (some T)/\s.heap.get? a=none/\s.heap.get? T=none/\H' a=none/\H' T=none
noncomputable def A9 (P:Program) (w:World):CXT:=fun outer H s E e s'=>∃a C H',e=.ref a/\Fly P w (G3 outer) H s a C H' s'/\E (.ref C) none H'
theorem a9k {fs:List Addr}{H:Hp}{h h':Heap}{a:Addr}{hd:Option Addr} (ha:H a=none) (ht:∀T,hd=some T->H T=none) (hf:∀b∈fs,H b=none)
  (k1:∀b o,b≠a->hd≠some b->b ∉ fs->h.get? b=some o->h'.get? b=some o) {P:Program}{w:World} (ok:HOk P w H h):HOk P w H h':=fun b o e=>by
 have nt:∀c u,H c=some u->c≠a/\hd≠some c/\c ∉ fs:=fun c u q=>by
  refine ⟨fun z=>?_,fun z=>?_,fun z=>?_⟩
  ·rw[z,ha] at q;cases q
  ·rw[ht c z] at q;cases q
  ·rw[hf c z] at q;cases q
 refine (ok b o e).stay (fun c u hc q=>?_) (fun _ q=>q) fun _ _ q=>q
 rcases hc with z|z
 ·subst z
  obtain ⟨n1,n2,n3⟩:=nt _ _ e
  exact k1 _ u n1 n2 n3 q
 ·obtain ⟨n1,n2,n3⟩:=nt _ _ z
  exact k1 _ u n1 n2 n3 q
theorem a3h {X:Cx}{pins:List (Addr × Obj)}{σ:St}{H:Hp}{s:Shared}{a C:Addr}{hd:Option Addr}{M:Model}{Q:Unit->Shared->Prop}{E:Value->Shared->Prop} (I:Inv X pins σ H s) (hs:X.stack=X.env::X.outer) (hf:X.env.frame=some X.env.locals) (hex:X.ex=[])
  (x:Hd s.heap a C hd) (na:X.s₀.heap.get? a=none) (nT:∀T,hd=some T->X.s₀.heap.get? T=none) (ha:H a=none) (ht:∀T,hd=some T->H T=none)
  (q:∀s',Fly X.prog X.w X.fs X.H₀ X.s₀ a C H s'->Q () s'):wpAny M X.A (leaving X.env (.ref a)) Q E s:=by
 have fr:X.A.frames=some (X.env::X.outer):=by rw[I.ok.frames,hs]
 have ff:s.heap.FunFrames X.base (X.env::X.outer):=by rw[<- hs];exact I.stack
 have hfs:G3 (X.env::X.outer)=X.env.locals::X.fs:=by
  unfold G3
  rw[List.filterMap_cons,hf]
  rfl
 refine a6w fr ff hf x fun h' T k0 k00 k1 k2=>q _ ?_
 have exN:∀b,b ∉ X.ex:=fun b z=>by rw[hex] at z;cases z
 have neA:∀b o,X.s₀.heap.get? b=some o->b≠a/\hd≠some b/\b≠X.env.locals:=fun b o e=>by
  refine ⟨fun z=>?_,fun z=>?_,Nat.ne_of_lt (Nat.lt_of_lt_of_le (Heap.lt_size e) I.ok.above)⟩
  ·rw[z,na] at e;cases e
  ·rw[nT b z] at e;cases e
 refine ⟨I.os,I.bare,⟨fun b o e n hb _=>?_,fun b o e n hb _=>?_,fun b o e n _=>I.base.free b o e n (exN b),fun b o e _=>?_,I.base.tups,I.base.frzs,I.base.tbls⟩,a9k (fs:=G3 (X.env::X.outer)) ha ht (fun b hb=>I.stkFree b (by rw[hs];exact hb)) k1 I.hok,T,k0,na,?_,ha,I.hok.fresh k00⟩
 ·obtain ⟨n1,n2,n3⟩:=neA b o e
  exact k1 b o n1 n2 (by rw[hfs];intro z;rcases List.mem_cons.mp z with z|z;exact n3 z;exact hb z) (I.base.keep b o e n hb (exN b))
 ·obtain ⟨n1,n2,n3⟩:=neA b o e
  obtain ⟨sl,e1⟩:=I.base.slot b o e n hb (exN b)
  obtain ⟨sl',e2⟩:=k2 b _ n1 n2 e1
  exact ⟨sl',e2⟩
 ·obtain ⟨n1,n2,n3⟩:=neA b o e
  obtain ⟨o',e1⟩:=I.base.there b o e (exN b)
  obtain ⟨sl',e2⟩:=k2 b _ n1 n2 e1
  exact ⟨_,e2⟩
 ·exact Heap.get?_none_of_le (Nat.le_trans I.sz k00)
theorem T9 {fs:List Addr}{H H':Hp}{h h':Heap} (u:Un fs [] H H' h h') {b:Addr} (e:h'.get? b=none):h.get? b=none:=by
 cases q:h.get? b with
 | none=>rfl
 | some o =>
  obtain ⟨o',e'⟩:=u.there b o q (by simp)
  rw[e'] at e
  cases e
section
variable {P:Program}{w:World}{K:W.Frag}{mg:Str->Option Value}{base:Heap}{N:List Str}{qual:Str}{scope:Scope}{f:Addr}{cd:Value}{A:Around}{outer:List Env}{s₀:Shared}{H₀:Hp}{E:XK}
theorem passes1:O7 (A9 P w) (C3 (A9 P w) P w K mg base N qual scope f cd A outer s₀ H₀ E) E:=by
 intro pins σ H s e s' I h
 obtain ⟨a,C,H',rfl,F,hE⟩:=h
 obtain ⟨T,x,n1,n2,n3,n4⟩:=F.exc
 have I':=I.call' (ch:=[]) F.os F.un F.hok F.bare (fun b z=>absurd z (by simp))
 exact a3h I' rfl rfl rfl x (T9 I.base n1) (fun T' z=>by cases z;exact T9 I.base n2) n3 (fun T' z=>by cases z;exact n4) fun s'' F'=>⟨a,C,H',rfl,F',hE⟩
noncomputable def vE:List Value:=[.type "ValueError",.type "Exception",.type "BaseException",.type "object"]
noncomputable def XC (K:W.Frag) (C:Addr):Prop:=W.excIn K C vE "ValueError.__new__"=true
theorem a6H {K:W.Frag}{h:Heap}{C:Addr} (X:K.In h) (q:XC K C):
  ∃bm N nm q bs hdct sn sub ab col dd k0 k1 k2 k3 k5 mN,h.get? C=some (excClassObj nm q C N bs bm hdct sn sub ab col dd k0 k1 k2 k3 k5 "ValueError.__new__")/\h.Ns N mN/\mN "__init__"=none/\OwnTail h vE bm:=by
 unfold XC W.excIn at q
 split at q
 case h_2=>cases q
 case h_1 dd cd sl ho =>
  split at q
  case h_2=>cases q
  case h_1 C' bm k0 k1 k2 k3 n k5 hm hs =>
   simp only[Bool.and_eq_true,beq_iff_eq,Bool.not_eq_true'] at q
   obtain ⟨⟨⟨⟨⟨z1,z2⟩,hdel⟩,ht⟩,hok⟩,hni⟩:=q
   subst z1
   subst z2
   obtain ⟨nm,bs,mro,ns,qn,hd,sn,sub,ab,col,del⟩:=cd
   dsimp only at hm hdel hok hni
   subst hm hdel
   have hsl:sl=#[k0,k1,k2,k3,some (.builtin "ValueError.__new__"),k5]:=by
    obtain ⟨l⟩:=sl
    simp only at hs
    rw[hs]
   subst hsl
   exact ⟨bm,ns,nm,qn,bs,hd,sn,sub,ab,col,dd,k0,k1,k2,k3,k5,_,X _ _ ho,.of_isNs (W.isNs_of_in X hok),W.nsMap_none_of_in X hok hni,W.tail_of_in X ht⟩
noncomputable def a8b (C:Addr) (E:XK) (t:TA):TS:=fun _ σ H=>t σ H fun _ H1=>E (.ref C) none H1
theorem a5l {x:Str}{C:Addr}{e:Expr}{es:List Expr}{t:TA}{np cpos pos:Pos} (hg:Gl (C3 (A9 P w) P w K mg base N qual scope f cd A outer s₀ H₀ E) x) (hm:mg x=some (.ref C)) (hc:XC K C)
  (ha:PA (C3 (A9 P w) P w K mg base N qual scope f cd A outer s₀ H₀ E) (e::es) t) (hl:(e::es).length<=1:=by decide)
  (hdb:(x == ("__debug__":Str))=false:=by decide)
  (he:starEach (e::es) (envOfC qual scope s₀.heap.objs.size f cd)=(false,eval e (envOfC qual scope s₀.heap.objs.size f cd))::starEach es (envOfC qual scope s₀.heap.objs.size f cd):=by rfl)
  (hpl:(backTo cpos (starEach es (envOfC qual scope s₀.heap.objs.size f cd))).any (·.1)=false:=by rfl)
  (hvl:∀σ H Q,t σ H Q->t σ H fun vs H1=>vs.length<=sizeLine/\Q vs H1):
  PS (C3 (A9 P w) P w K mg base N qual scope f cd A outer s₀ H₀ E) (.Raise (some (.Call (.Name x np) (e::es) [] cpos)) none pos) (a8b C E t):=by
 intro pins s σ H D I h
 obtain ⟨bm,NN,nm,q,bs,hdct,sn,sub,ab,col,dd,k0,k1,k2,k3,k5,mN,hC,hN,hni,T⟩:=a6H I.ok.mod.kin hc
 have FB:=PySem.F.excBase_ValueError
 refine wpAny_Raise_call_subT (C:=C) (nm:=nm) (q:=q) (N:=NN) (bs:=bs) (bm:=bm) (hdct:=hdct) (sn:=sn) (sub:=sub) (ab:=ab) (col:=col) (dd:=dd) (k0:=k0) (k1:=k1) (k2:=k2) (k3:=k3) (k5:=k5)
  FB (mN:=mN) (T.hasType FB.hasBase) (I.ok.hd rfl) ?_ hni (a0c I hg hm ⟨rfl,?_⟩ hdb)
 ·show (backTo cpos (starEach (e::es) (envOfC qual scope s₀.heap.objs.size f cd))).any (·.1)=false
  rw[he]
  show (false || (backTo cpos (starEach es (envOfC qual scope s₀.heap.objs.size f cd))).any (·.1))=false
  rw[hpl]
  rfl
 ·have hq:=ha cpos pins s σ H _ I (hvl _ _ _ h)
  show wpAny _ _ (evalArgs (.ref C) true (backTo cpos (starEach (e::es) (envOfC qual scope s₀.heap.objs.size f cd))) []) _ _ s
  have hq':wpAny (model P w) (A.deeper (envOfC qual scope s₀.heap.objs.size f cd)) (spliced (backTo cpos (starEach (e::es) (envOfC qual scope s₀.heap.objs.size f cd)))) _ _ s:=hq
  rw[he] at hq' ⊢
  refine Calls.evalArgs_plain (wpAny_mono hq' (fun us s2 ⟨vs,H2,I2,r,lv,hE⟩=>⟨rfl,?_,I2.bk _ _ hC,hN.keeps I2.bk,T.keeps I2.bk,fun h' a mk=>?_⟩) fun _ _ y=>y)
  ·show us.length<=sizeLine
   rw[<- r.length]
   exact lv
  ·obtain ⟨t,ea,tn,et⟩:=mk.there
   have ha:H2 a=none:=I2.hok.none_of mk.new
   have I3:Inv (C3 (A9 P w) P w K mg base N qual scope f cd A outer s₀ H₀ E) pins σ H2 { s2 with heap:=h' }:=I2.kept mk.keeps
   exact a3h (hd:=none) I3 rfl rfl rfl ⟨_,_,ea,rfl,rfl,rfl,rfl⟩ (T9 I2.base mk.new) (fun T' z=>by cases z) ha (fun T' z=>by cases z) fun s'' F'=>⟨a,C,H2,rfl,F',hE⟩
end
end L2
namespace L2
open PySem PySem.Spec PyProof.Rows
noncomputable abbrev KN (o:Obj):HO:=.frz o (.ext fun _=>True)
theorem a8O {P:Program}{w:World}{H:Hp}{h:Heap}{a:Addr}{o:Obj} (e:h.get? a=some o):ObjOk P w H h a (KN o):=⟨e,trivial,⟨o,e⟩,fun _ _ _ _=>trivial⟩
theorem HOk.kn {P:Program}{w:World}{H:Hp}{h:Heap}{a:Addr}{o:Obj} (x:HOk P w H h) (e:H a=some (KN o)):h.get? a=some o:=(x a _ e).1
section
variable {P:Program}{w:World}{fs:List Addr}{H H':Hp}{s s':Shared}{a C:Addr}{M:Model}{A:Around}{E:Value->Shared->Prop}{Q:Unit->Shared->Prop}
end
end L2
namespace L2
open PySem PySem.Spec PyProof.Rows
end L2
namespace L2
open PySem PySem.Spec PyProof.Rows
structure XI (K:W.Frag) (C:Addr):Prop where
 ga:W.findIn K (.ref C) "__getattribute__"=some (some (.builtin "BaseException.__getattribute__"))
 gt:W.findIn K (.ref C) "__getattr__"=some none
 sb:W.subIn K (.ref C) (.type "BaseException")=some true
 hc:(W.clsIn K C).isSome=true
 ha:W.findIn K (.ref C) "__class__"=some (some (.builtin "object.__class__"))
 hn:W.specialIn K (.builtin "object.__class__") "__get__"=some (some (.builtin "getset_descriptor.__get__"))
 tk:W.takesIn K (.builtin "object.__class__")=some true
 hm:W.mroIn K C (.type "object")=some true
end L2
namespace L2
open PySem PySem.Spec PyProof.Rows
noncomputable def Cel (cl:List (Str × Addr)) (b:Addr):Prop:=∃x,cl.lookup x=some b
open Classical in
noncomputable def a9F (cl:List (Str × Addr)) (H:Hp):Hp:=fun b=>if Cel cl b then none else H b
open Classical in
noncomputable def onC (cl:List (Str × Addr)) (H H':Hp):Hp:=fun b=>if Cel cl b then H b else H' b
noncomputable def a80 (cl:List (Str × Addr)) (H:Hp):Prop:=∀x c,cl.lookup x=some c->∃oc v,H c=some (KN oc)/\oc.data=.cell v
section
variable {P:Program}{w:World}{fs:List Addr}{cl:List (Str × Addr)}{H H':Hp}{h h':Heap}
end
structure LamX (X:Cx) (T:Addr):Prop where
 code:∃c,X.env.code=.ref c/\W.CodeHd X.base c T
 blt:X.base.BuiltinsAt X.mg T
end L2
namespace L2
open PySem PySem.Spec PyProof.Rows
section
variable {P:Program}{w:World}{K:W.Frag}{mg:Str->Option Value}{base:Heap}{N:List Str}{qual:Str}{scope:Scope}{f:Addr}{cd:Value}{cl:List (Str × Addr)}{A:Around}{outer:List Env}{s₀:Shared}{H₀:Hp}{E:XK}
end
structure LamScope (cl:List (Str × Addr)) (scope:Scope):Prop where
 kind:scope.kind=.function
 co:scope.isCoroutine=false
 gen:scope.isGenerator=false
 nocell:∀x∈scope.names,x.2≠.cell
 inj:∀x y c,cl.lookup x=some c->cl.lookup y=some c->x=y
 has:∀x,scope.names.lookup x=some .free->∃c,cl.lookup x=some c
structure FrzX (X:Cx) (σ:St) (H Hf:Hp):Prop where
 out:∀b,¬ Cel X.env.cells b->Hf b=H b
 none:∀b,Cel X.env.cells b->H b=none
 cell:a80 X.env.cells Hf
 val:∀(i:Nat) (x:Str) (v:V),X.N[i]?=some x->σ[i]?=some (some v)->(X.env.kindOf x=some .cell ∨ X.env.kindOf x=some .free)->∃c oc u,X.env.cells.lookup x=some c/\Hf c=some (KN oc)/\oc.data=.cell (some u)/\RelV v u
open Classical in
noncomputable def a9y (cl:List (Str × Addr)) (h:Heap) (H:Hp):Hp:=fun b=>if Cel cl b then (h.get? b).map (fun o=>KN o) else H b
end L2
namespace L2
open PySem PySem.Spec PyProof.Rows
noncomputable abbrev TJ:=St->Hp->(Hp->Prop)->Prop
noncomputable def PJ (X:Cx) (es:List Expr) (n:Nat) (t:TJ):Prop :=
 ∀(acc:Str),acc.length<=n->∀(pins:List (Addr × Obj)) (s:Shared) (σ:St) (H:Hp) (Q:Hp->Prop),Inv X pins σ H s->t σ H Q ->
  wpAny (model X.prog X.w) X.A (joinParts acc (evalEach es X.env)) (fun u s'=>∃z H',Inv X pins σ H' s'/\RelV (.str z) u/\Q H') X.xe s
section
variable {X:Cx}{es:List Expr}{n:Nat}{t:TJ}
theorem a4U (h:n<=sizeLine:=by decide):PJ X [] n (fun _ H Q=>Q H):=by
 intro acc ha pins s σ H Q I q
 exact joinParts_nil (s:=s) ⟨acc,H,I.tok _,⟨_,rfl⟩,q⟩ (Nat.le_trans ha h)
theorem X8 {x:Str}{j:Nat}{pos:Pos} (h:PJ X es (n+x.length) t) (hz:n+x.length<=sizeLine:=by decide):PJ X (.Constant (.str x) j pos::es) n t:=by
 intro acc ha pins s σ H Q I q
 show wpAny _ _ (joinParts acc (eval (.Constant (.str x) j pos) X.env::evalEach es X.env)) _ _ _
 refine joinParts_cons (Calls.Constant_str ⟨?_,?_⟩)
 ·rw[strLen_append];lia
 ·exact h (acc++x) (by rw[strLen_append];lia) pins _ σ H Q (I.tok _) q
theorem a2c {e:Expr}{te:TE}{pos:Pos} (he:PE X e te) (h:PJ X es (n+100) t) (hz:n+100<=sizeLine:=by decide):
  PJ X (.FormattedValue e (-1) none pos::es) n (fun σ H Q=>te σ H fun v H1=>∃i:Int,v=.int i/\i.natAbs.log2<1920/\(toString i:Str).length<=100/\t σ H1 Q):=by
 intro acc ha pins s σ H Q I q
 show wpAny _ _ (joinParts acc (eval (.FormattedValue e (-1) none pos) X.env::evalEach es X.env)) _ _ _
 refine joinParts_cons (FormattedValue_plain (f7 (he pins s σ H _ I q) fun u s1 ⟨v,H1,I1,r,i,ev,hl,hz',q1⟩=>?_))
 subst ev
 obtain ⟨tk,rfl⟩:=r
 refine formatField_int_small hl ⟨?_,?_⟩
 ·rw[strLen_append];lia
 ·exact h _ (by rw[strLen_append];lia) pins _ σ H1 Q (I1.tok _) q1
theorem a3i {v1 v2:Expr}{m7:List Expr}{pos:Pos} (h:PJ X (v1::v2::m7) 0 t):PE X (.JoinedStr (v1::v2::m7) pos) (fun σ H Q=>t σ H fun H1=>∀z,Q (.str z) H1):=by
 intro pins s σ H Q I q
 exact JoinedStr_many (f7 (h Str.empty (Nat.le_refl _) pins s σ H _ I q) fun u s1 ⟨z,H1,I1,r,q1⟩=>⟨.str z,H1,I1,r,q1 z⟩)
end
theorem B5 {P:Program}{w:World}{X:Cx}:O7 (A9 P w) X E0:=fun _ _ _ _ _ _ _ h=>by
 obtain ⟨_,_,_,_,_,z⟩:=h
 exact z.elim
section
variable {P:Program}{w:World}{K:W.Frag}{mg:Str->Option Value}{base:Heap}
theorem Fun.okX {x qual:Str}{st:Stmt}{f:Addr}{fd:FuncData}{N ps:List Str}{k:Nat}{sp:Sp} (F:Fun K x qual st f fd) (S:FnScope N ps (d5 st)) (len:∀vs H Q E,sp vs H Q E->vs.length=ps.length)
  (hbody:∀(cdv:Value) (A:Around) (outer:List Env) (s:Shared) (H:Hp) (vs:List V) (Q:VK) (E:XK),Room k (A.deeper (envOfC qual (d5 st) s.heap.objs.size f cdv))->sp vs H Q E ->
   ∃t,PSs (C3 (A9 P w) P w K mg base N qual (d5 st) f cdv A outer s H E) (C5 st) t/\t { nx:=fun _ H'=>Q .non H',rt:=Q } (start N vs) H):FnOk P w K mg base (A9 P w) (k+1) f fd ps sp:=by
 obtain ⟨oc,od,kV,doc,pm,an,cdv,ct,osl,rfl,lk,hcd⟩:=F.ex
 exact a6f lk hcd S len fun A outer s H vs Q E hr hsp=>hbody cdv A outer s H vs Q E hr hsp
end
section
variable {P:Program}{w:World}{K:W.Frag}{mg:Str->Option Value}{base:Heap}{N:List Str}{qual:Str}{scope:Scope}{f:Addr}{cd:Value}{A:Around}{outer:List Env}{s₀:Shared}{H₀:Hp}{E:XK}
theorem J8 {x:Str}{C:Addr}{e:Expr}{te:TE}{np cpos pos:Pos} (hm:mg x=some (.ref C)) (hc:XC K C) (he:PE (C3 (A9 P w) P w K mg base N qual scope f cd A outer s₀ H₀ E) e te)
  (hmono:∀σ H (Q Q':VK),(∀v H1,Q v H1->Q' v H1)->te σ H Q->te σ H Q')
  (hg:Gl (C3 (A9 P w) P w K mg base N qual scope f cd A outer s₀ H₀ E) x:=by rfl)
  (hdb:(x == ("__debug__":Str))=false:=by decide)
  (hst:starEach [e] (envOfC qual scope s₀.heap.objs.size f cd)=(false,eval e (envOfC qual scope s₀.heap.objs.size f cd))::starEach [] (envOfC qual scope s₀.heap.objs.size f cd):=by rfl):
  PS (C3 (A9 P w) P w K mg base N qual scope f cd A outer s₀ H₀ E) (.Raise (some (.Call (.Name x np) [e] [] cpos)) none pos) (fun _ σ H=>te σ H fun _ H1=>E (.ref C) none H1):=by
 have h:=a5l (E:=E) (pos:=pos) (np:=np) (cpos:=cpos) (t:=a3r te tNil) hg hm hc (b5 he pa_nil (hs:=hst)) (Nat.le_refl _) hdb hst rfl (fun σ H Q q=>hmono _ _ _ _ (fun v H1 z=>⟨by show 1<=sizeLine;decide,z⟩) q)
 exact h
end
end L2
namespace L2
open PySem PySem.Spec PyProof.Rows
end L2
namespace L2
open PySem PySem.Spec PyProof.Rows
structure CalX (P:Program) (w:World) (K:W.Frag) (mg:Str->Option Value) (base:Heap) (k:Nat) (x:Str) (ps:List Str) (sp:Sp):Prop where
 ex:∃f fd,mg x=some (.ref f)/\W.keepIn K (.ref f)=true/\Binds K fd ps []/\FnOk P w K mg base (A9 P w) k f fd ps sp
theorem CalX.up {P:Program}{w:World}{K:W.Frag}{mg:Str->Option Value}{base:Heap}{j k:Nat}{x:Str}{ps:List Str}{sp:Sp} (C:CalX P w K mg base j x ps sp) (h:j<=k):CalX P w K mg base k x ps sp :=
 let ⟨f,fd,a,b,c,d⟩:=C.ex;⟨f,fd,a,b,c,d.mono h⟩
noncomputable def tCx (sp:Sp) (E:XK) (t:TA):TE:=fun σ H Q=>t σ H fun vs H1=>sp vs H1 Q E
section
variable {X:Cx}{k:Nat}{x:Str}{ps:List Str}{sp:Sp}{p pos:Pos}{e:Expr}{es:List Expr}{t:TA}{E:XK}
theorem j7 (C:CalX X.prog X.w X.K X.mg X.base k x ps sp) (hr:Room k X.A) (hg:Gl X x) (hx:O7 (A9 X.prog X.w) X E) (ha:PA X (e::es) t)
  (hdb:(x == ("__debug__":Str))=false:=by decide) (he:starEach (e::es) X.env=(false,eval e X.env)::starEach es X.env:=by rfl) (hpl:(backTo pos (starEach es X.env)).any (·.1)=false:=by rfl):
  PE X (.Call (.Name x p) (e::es) [] pos) (tCx sp E t):=by
 obtain ⟨f,fd,hm,hk,hb,F⟩:=C.ex
 have h:=a2H (x:=x) (p:=p) (pos:=pos) F hr hg hm hk hb .nil hx ha hdb he hpl
 have e:a3y sp [] E t=tCx sp E t:=by
  funext σ H Q
  show t σ H (fun vs H1=>sp (vs++[]) H1 Q E)=t σ H (fun vs H1=>sp vs H1 Q E)
  congr 1
  funext vs H1
  rw[List.append_nil]
 rw[<- e];exact h
end
structure Errs (K:W.Frag) (mg:Str->Option Value) (c:Nat->Addr) (B:Addr):Prop where
 e0:mg "NoUrn"=some (.ref (c 0))
 e1:mg "NoRule"=some (.ref (c 1))
 e2:mg "NoKind"=some (.ref (c 2))
 e3:mg "NoBall"=some (.ref (c 3))
 e4:mg "NoDraws"=some (.ref (c 4))
 e5:mg "NoNumber"=some (.ref (c 5))
 e6:mg "NotEven"=some (.ref (c 6))
 e7:mg "NoCounts"=some (.ref (c 7))
 e8:mg "NotAlike"=some (.ref (c 8))
 e9:mg "BadNote"=some (.ref (c 9))
 eb:mg "UrnError"=some (.ref B)
 xc:∀i,i<10->XC K (c i)
 xi:∀i,i<10->XI K (c i)
 sub:∀i,i<10->W.kitCls K (.ref (c i)) (.ref B)=some true
 bb:W.subIn K (.ref B) (.type "BaseException")=some true
 one:∀i j,i<10->j<10->W.kitOne K (.ref (c i)) (.ref (c j))=some (decide (i=j))
 val:∀i,i<10->W.kitOne K (.ref (c i)) (.type "ValueError")=some true
noncomputable def Sm (i:Int):Prop:=i.natAbs.log2<1920/\(toString i:Str).length<=100
end L2
namespace L2
open PySem PySem.Spec PyProof.Rows
section
variable {X:Cx}{pins:List (Addr × Obj)}{σ:St}{H:Hp}{s:Shared}
noncomputable def rCatS:R2:=fun x y H Q=>∃(a b:Addr) (xs ys:List V),x=.ref a/\y=.ref b/\H a=some (.tup xs)/\H b=some (.tup ys)/\xs.length+ys.length<=1000/\∀p H',Same H H'->H' p=some (.tup (xs++ys))->Q (.ref p) H'
theorem catS:v8 X (binaryOp .Add) rCatS:=by
 intro pins s σ H x y v u Q I rx ry h
 obtain ⟨a,b,xs,ys,rfl,rfl,ha,hb,hz,q⟩:=h
 refine op_catA pins s σ H _ _ v u Q I rx ry ⟨a,b,xs,ys,rfl,rfl,.of ha,.of hb,Nat.le_trans hz (by decide),fun e=>?_,fun _ e=>?_,fun _ _ p hp=>?_⟩
 ·subst e
  exact q b H (Same.refl H) hb
 ·subst e
  exact q a H (Same.refl H) (by rw[List.append_nil];exact ha)
 ·exact q p _ (Same.new hp) b6
end
section
variable {K:W.Frag}{σ0:St}{te:TE}{H:Hp}{F:List V->Hp->Prop}
theorem a5z {a:Addr}{xs:List V} (hn:xs.length<=sizeLine) (Pv:Nat->List V->Hp->Prop) (h0:Pv 0 [] H) (hl:∀i ys H,Pv i ys H->ys.length=i) (hq:∀i ys H,i<=xs.length->Pv i ys H->SqL K H a xs) (hσ:σ0[0]?=some none)
  (hs:∀i ys H x,xs[i]?=some x->Pv i ys H->te (σ0.set 0 (some x)) H fun y H'=>Pv (i+1) (ys++[y]) H') (hd:∀ys H,Pv xs.length ys H->F ys H):Y0 (Itl K a) σ0 (r6 0) tTrue te H F:=by
 refine ⟨fun i m ys H=>m=xs.length - i/\i<=xs.length/\Pv i ys H,⟨xs.length,by simp,Nat.zero_le _,h0⟩,?_⟩
 rintro i m ys H2 ⟨rfl,hi,p⟩
 have q:=hq i ys H2 hi p
 refine ⟨by rw[hl i ys H2 p];lia,?_⟩
 by_cases hlt:i<xs.length
 ·refine .inr ⟨⟨xs,xs[i],q,by simp[hlt]⟩,fun y H'=>Pv (i+1) (ys++[y]) H',fun _=>False,fun y H' q=>⟨xs.length - (i+1),by lia,rfl,hlt,q⟩,fun _ q=>q.elim,fun x H3 y=>?_⟩
  obtain ⟨rfl,y⟩:=y
  exact ⟨Wk.set (.inl hσ),hs i ys _ x (y xs q) p⟩
 ·have e:i=xs.length:=by lia
  subst e
  exact .inl ⟨⟨xs,q,Nat.le_refl _⟩,hd ys H2 p⟩
end
end L2
namespace L2
open PySem PySem.Spec PyProof.Rows
section
variable {X:Cx}{es:List Expr}{te:TE}{t:TA}
end
end L2
namespace L2
open PySem PySem.Spec PyProof.Rows
end L2
namespace L2
open PySem PySem.Spec PyProof.Rows
structure Clo (X:Cx):Prop where
 inj:∀x y c,X.env.cells.lookup x=some c->X.env.cells.lookup y=some c->x=y
 has:∀x,(X.env.kindOf x=some .cell ∨ X.env.kindOf x=some .free)->∃c,X.env.cells.lookup x=some c
section
variable {X:Cx}{σ:L2.St}{H Hf:Hp}{scope:Scope}
end
end L2
namespace L2
open PySem PySem.Spec PyProof.Rows
section
variable {X:Cx}
end
end L2
namespace L2
open PySem PySem.Spec PyProof.Rows
section
variable {X:Cx}{scope:Scope}{N:List Str}{ix:List (Option Nat)}{elt target iter:Expr}{ifs:List Expr}{pos:Pos}{wi:TI}{g:TG}{tc:TT}
end
end L2
namespace L2
open PySem PySem.Spec PyProof.Rows
section
variable {X:Cx}
end
end L2
namespace L2
open PySem PySem.Spec PyProof.Rows
end L2
namespace L2
open PySem PySem.Spec PyProof.Rows
section
variable (P:Program) (w:World)
end
section
variable {P:Program}{w:World}{H H':Hp}{h h':Heap}{a:Addr}{o:HO}
end
section
variable {P:Program}{w:World}{H:Hp}{h h':Heap}{x e:Addr}{o':HO}
end
section
variable {fs fs' ex ex':List Addr}{H H1 H2:Hp}{h h1 h2 h':Heap}{a x e:Addr}{o:HO}
end
end L2
namespace L2
open PySem PySem.Spec PyProof.Rows
section
variable {X:Cx}{pins:List (Addr × Obj)}{σ:List (Option V)}{H H':Hp}{s:Shared}{h':Heap}
end
end L2
namespace L2
open PySem PySem.Spec PyProof.Rows
section
variable {X:Cx}
variable {a b:Expr}{ta tb:TE}{pos:Pos}
variable {tA tB':TT}{m7:List Expr}
end
end L2
namespace L2
open PySem PySem.Spec PyProof.Rows
section
variable {X:Cx}{pins:List (Addr × Obj)}{σ:St}{H:Hp}{s:Shared}{a:Addr}{xs ys:List V}
end
section
variable {X:Cx}{pins:List (Addr × Obj)}{σ:St}{H:Hp}{s:Shared}{E:Value->Shared->Prop}
end
section
variable {X:Cx}{st:Stmt}{m7:List Stmt}{t u:TS}{e:Expr}{te:TE}{pos:Pos}
end
section
variable {X:Cx}{pos:Pos}
end
section
variable {X:Cx}{pos:Pos}
end
end L2
namespace L2
open PySem PySem.Spec PyProof.Rows
section
variable {X:Cx}{tg:Expr}
end
end L2
namespace L2
open PySem PySem.Spec PyProof.Rows
section
variable {X:Cx}{a b c:Expr}{ta tb tc:TE}{pos:Pos}
end
section
variable {X:Cx}{a b c:Expr}{ta tb tc:TE}{pos:Pos}
end
end L2
namespace L2
open PySem PySem.Spec PyProof.Rows
section
variable {prog:Program}{w:World}{A:Around}{E:Value->Shared->Prop}{s:Shared}{K:W.Frag}{x dx C f:Addr}{mA:Str->Option Value}{name:Str}{v:Value}
end
section
variable {P:Program}{w:World}{H H':Hp}{h h':Heap}{a C dx:Addr}{fs fs':List (Str × V)}
end
section
variable {X:Cx}{pins:List (Addr × Obj)}{σ:St}{H:Hp}{s:Shared}{a C dx:Addr}{fs:List (Str × V)}{f:Str}{v:V}{A:Around}{E:Value->Shared->Prop}
end
section
variable {X:Cx}{o e value:Expr}{f:Str}{pos pos' tpos:Pos}{ta tv:TE}
end
section
variable {X:Cx}{pins:List (Addr × Obj)}{σ:St}{H:Hp}{s:Shared}{A:Around}{E:Value->Shared->Prop}{Q:Value->Shared->Prop}{c:Value}{b:Bool}
end
end L2
namespace L2
open PySem PySem.Spec PyProof.Rows
section
variable {X:Cx}{e:Expr}{es:List Expr}{te:TE}{t:TA}{pos:Pos}
end
section
variable {X:Cx}{pins:List (Addr × Obj)}{σ:St}{H:Hp}{s s':Shared}
end
section
variable {X:Cx}{CX:CXT}{k:Nat}{f C:Addr}{fd:FuncData}{ps:List Str}{sp:Sp}{dvs:List V}{ds:List Value}{E:XK}{x m:Str}{p pos apos:Pos}{e o:Expr}{es:List Expr}{ta:TE}{t:TA}
end
section
variable {X:Cx}{CX:CXT}{k:Nat}{f C:Addr}{fd:FuncData}{ps ks:List Str}{sp:Sp}{E:XK}{x m:Str}{p pos apos kpos:Pos}{e o:Expr}{es:List Expr}{kws:List Keyword}{te ta:TE}{t tk:TA}{nm:Option Str}
variable {g:List Value->List Value->List Value}{gV:List V->List V->List V}
end
end L2
namespace L2
open PySem PySem.Spec PyProof.Rows
section
variable {X:Cx}{x:Str}{p pos:Pos}{e:Expr}{es:List Expr}{t:TA}{id T:String}{r:List V->Hp->VK->Prop}
end
end L2
namespace L2
open PySem PySem.Spec PyProof.Rows
section
variable {κ:Type} [DecidableEq κ]
noncomputable def I0 (kvs:List (κ × V)) (k:κ):Option V:=(kvs.find? fun kv=>decide (kv.1=k)).map (·.2)
noncomputable def G1 (kvs:List (κ × V)) (k:κ) (v:V):List (κ × V):=
 if (kvs.any fun kv=>decide (kv.1=k))=true then kvs.map (fun kv=>if kv.1=k then (kv.1,v) else kv) else kvs++[(k,v)]
theorem M6 {p:κ × V}{r:List (κ × V)}{k:κ} (e:p.1=k):I0 (p::r) k=some p.2:=by simp[I0,List.find?_cons,e]
theorem L9 {p:κ × V}{r:List (κ × V)}{k:κ} (e:¬ p.1=k):I0 (p::r) k=I0 r k:=by simp[I0,List.find?_cons,e]
theorem a1i (k:κ):∀kvs:List (κ × V),(kvs.any fun kv=>decide (kv.1=k))=(I0 kvs k).isSome
 | []=>rfl
 | p::r=>by
  rw[List.any_cons]
  by_cases e:p.1=k
  ·simp only[M6 e,decide_eq_true e,Bool.true_or,Option.isSome_some]
  ·rw[L9 e,decide_eq_false e,Bool.false_or];exact a1i k r
theorem U7 (kvs:List (κ × V)) (k:κ) (v:V):(G1 kvs k v).length<=kvs.length+1:=by
 unfold G1
 split
 ·rw[List.length_map];lia
 ·rw[List.length_append,List.length_cons,List.length_nil];lia
theorem RelO.isSome_eq {o:Option V}{u:Option Value} (r:RelO o u):o.isSome=u.isSome:=by
 cases o with
 | none=>cases u with
  | none=>rfl
  | some _=>exact (show False from r).elim
 | some _=>cases u with
  | none=>exact (show False from r).elim
  | some _=>rfl
theorem RelO.getD {o:Option V}{u:Option Value}{d:V}{d':Value} (r:RelO o u) (rd:RelV d d'):RelV (o.getD d) (u.getD d'):=by
 cases o with
 | none=>cases u with
  | none=>exact rd
  | some _=>exact (show False from r).elim
 | some _=>cases u with
  | none=>exact (show False from r).elim
  | some _=>exact r
theorem KV.val {kvs:List (κ × V)}{vs:List (κ × Value)} (r:KV kvs vs) (k:κ):RelO (I0 kvs k) (valueAt vs k):=by
 unfold KV at r
 induction r with
 | nil=>exact True.intro
 | @cons p q ps qs h t ih =>
  obtain ⟨h1,h2⟩:=h
  by_cases e:p.1=k
  ·have e':q.1=k:=h1.symm.trans e
   have b:valueAt (q::qs) k=some q.2:=by simp[valueAt,List.find?_cons,e']
   rw[M6 e,b];exact h2
  ·have e':¬ q.1=k:=fun z=>e (h1.trans z)
   have b:valueAt (q::qs) k=valueAt qs k:=by simp[valueAt,List.find?_cons,e']
   rw[L9 e,b];exact ih
theorem KV.any {kvs:List (κ × V)}{vs:List (κ × Value)} (r:KV kvs vs) (k:κ):(kvs.any fun kv=>decide (kv.1=k))=vs.any fun kv=>decide (kv.1=k):=by
 unfold KV at r
 induction r with
 | nil=>rfl
 | cons h t ih=>rw[List.any_cons,List.any_cons,ih,h.1]
theorem KV.repl {kvs:List (κ × V)}{vs:List (κ × Value)} (r:KV kvs vs) (k:κ) {y:V}{u:Value} (ry:RelV y u):
  KV (kvs.map fun kv=>if kv.1=k then (kv.1,y) else kv) (vs.map fun kv=>if kv.1=k then (kv.1,u) else kv):=by
 unfold KV at r ⊢
 induction r with
 | nil=>exact .nil
 | @cons p q ps qs h t ih =>
  rw[List.map_cons,List.map_cons]
  refine .cons ?_ ih
  obtain ⟨h1,h2⟩:=h
  by_cases e:p.1=k
  ·rw[if_pos e,if_pos (h1.symm.trans e)];exact ⟨h1,ry⟩
  ·rw[if_neg e,if_neg (fun z=>e (h1.trans z))];exact ⟨h1,h2⟩
theorem KV.put {kvs:List (κ × V)}{vs:List (κ × Value)} (r:KV kvs vs) (k:κ) {y:V}{u:Value} (ry:RelV y u):KV (G1 kvs k y) (stored vs k u):=by
 unfold G1 stored
 rw[r.any k]
 by_cases e:(vs.any fun kv=>decide (kv.1=k))=true
 ·rw[if_pos e,if_pos e];exact r.repl k ry
 ·rw[if_neg e,if_neg e];exact Paired.snoc r ⟨rfl,ry⟩
theorem KV.length {kvs:List (κ × V)}{vs:List (κ × Value)} (r:KV kvs vs):kvs.length=vs.length:=Paired.length r
end
theorem a0Y {P:Program}{w:World}{k:Key}{u:Value} (r:RelV (kV k) u):(m9 P w).is k u=true:=by
 cases k with
 | inl i=>obtain ⟨t,e⟩:=(show ∃t,u=Value.int i t from r);subst e;exact a2n P w i t
 | inr x=>obtain ⟨t,e⟩:=(show ∃t,u=Value.str x t from r);subst e;exact a2m P w x t
theorem a0w {P:Program}{w:World}:∀{ks:List Key}{us:List Value},Vals (ks.map kV) us->ItemsAre (m9 P w) ks us
 | [],_,r=>by rw[List.map_nil] at r;cases r;exact .nil
 | k::ks,_,r=>by
  rw[List.map_cons] at r
  cases r with
  | cons h t=>exact .cons (a0Y h) (a0w t)
noncomputable abbrev KT (H:Hp):List (List Key × V)->List (List Key × Addr × Value)->Prop:=Paired fun p q=>p.1=q.1/\H q.2.1=some (.tup (p.1.map kV))/\RelV p.2 q.2.2
theorem KT.val {H:Hp}{kvs:List (List Key × V)}{xs:List (List Key × Addr × Value)} (r:KT H kvs xs) (k:List Key):RelO (I0 kvs k) ((atKey xs k).map (·.2)):=by
 induction r with
 | nil=>exact True.intro
 | @cons p q ps qs h t ih =>
  obtain ⟨h1,_,h2⟩:=h
  by_cases e:p.1=k
  ·have e':q.1=k:=h1.symm.trans e
   have b:atKey (q::qs) k=some q.2:=by simp[atKey,List.find?_cons,e']
   rw[M6 e,b];exact h2
  ·have e':¬ q.1=k:=fun z=>e (h1.trans z)
   have b:atKey (q::qs) k=atKey qs k:=by simp[atKey,List.find?_cons,e']
   rw[L9 e,b];exact ih
theorem KT.repl {H:Hp}{kvs:List (List Key × V)}{xs:List (List Key × Addr × Value)} (r:KT H kvs xs) (k:List Key) {y:V}{u:Value} (ry:RelV y u):
  KT H (kvs.map fun kv=>if kv.1=k then (kv.1,y) else kv) (xs.map (putAt k u)):=by
 induction r with
 | nil=>exact .nil
 | @cons p q ps qs h t ih =>
  rw[List.map_cons,List.map_cons]
  refine .cons ?_ ih
  obtain ⟨h1,h2,h3⟩:=h
  unfold putAt
  by_cases e:p.1=k
  ·rw[if_pos e,if_pos (h1.symm.trans e)];exact ⟨h1,h2,ry⟩
  ·rw[if_neg e,if_neg (fun z=>e (h1.trans z))];exact ⟨h1,h2,h3⟩
theorem KT.put {H:Hp}{kvs:List (List Key × V)}{xs:List (List Key × Addr × Value)} (r:KT H kvs xs) (k:List Key) {b:Addr}{y:V}{u:Value} (hb:H b=some (.tup (k.map kV))) (ry:RelV y u):
  KT H (G1 kvs k y) (storedH xs k b u):=by
 have e:(kvs.any fun kv=>decide (kv.1=k))=(atKey xs k).isSome:=by
  rw[a1i,(r.val k).isSome_eq,Option.isSome_map]
 unfold G1 storedH
 rw[e]
 by_cases q:(atKey xs k).isSome=true
 ·rw[if_pos q,if_pos q];exact r.repl k ry
 ·rw[if_neg q,if_neg q];exact Paired.snoc r ⟨rfl,hb,ry⟩
theorem KT.keeps {H H':Hp}{kvs:List (List Key × V)}{xs:List (List Key × Addr × Value)} (r:KT H kvs xs) (ht:∀b ys,H b=some (.tup ys)->H' b=some (.tup ys)):KT H' kvs xs :=
 Paired.mapP r fun _ _ z=>⟨z.1,ht _ _ z.2.1,z.2.2⟩
section
variable {P:Program}{w:World}{H:Hp}{h:Heap}{a:Addr}
theorem a6i {u:HO} (ok:HOk P w H h) (e:Rd H a u):ObjOk P w H h a u:=e.ok ok
theorem X5 {kvs:List (Key × V)} (ok:HOk P w H h) (e:Rd H a (.dK kvs)):kvs.length<=sizeLine/\(a == sysModules)=false/\∃vs,KV kvs vs/\h.DictOf (m9 P w) a vs :=
 show ObjOk P w H h a (.dK kvs) from a6i ok e
theorem a8D {kvs:List (Key × V)} (ok:HOk P w H h) (e:H a=some (.dK kvs)):kvs.length<=sizeLine/\(a == sysModules)=false/\∃vs,KV kvs vs/\h.DictOf (m9 P w) a vs:=X5 ok (.inl e)
theorem O6 {ks:List Key} (ok:HOk P w H h) (e:H a=some (.tup (ks.map kV))):(tupleKind (m9 P w)).is h ks a:=by
 obtain ⟨_,its,r,o,h1,h2,n,h3⟩:=(show ObjOk P w H h a (.tup (ks.map kV)) from ok a _ e)
 exact ⟨o,its.toArray,n,h1,h2,h3,by simpa using a0w r⟩
theorem X3 {kvs:List (List Key × V)} (ok:HOk P w H h) (e:Rd H a (.dT kvs)):kvs.length<=sizeLine/\(a == sysModules)=false /\
  ∃xs,KT H kvs xs/\h.DictOfH (tupleKind (m9 P w)) a xs:=by
 obtain ⟨z,y,xs,r,o,es,ep,h1,h2,h3,h4,h5⟩:=(show ObjOk P w H h a (.dT kvs) from a6i ok e)
 refine ⟨z,y,xs,r,o,es,ep,h1,h2,h3,h4,fun x hx=>?_,h5⟩
 have all:∀{l:List (List Key × V)}{m:List (List Key × Addr × Value)},KT H l m->∀x∈m,(tupleKind (m9 P w)).is h x.1 x.2.1:=by
  intro l m q
  induction q with
  | nil=>intro x hx;exact nomatch hx
  | @cons p q ps qs hq t ih =>
   intro x hx
   rcases List.mem_cons.mp hx with e|hx
   ·subst e
    exact O6 ok (by rw[<- hq.1];exact hq.2.1)
   ·exact ih x hx
 exact all r x hx
theorem a6g {kvs:List (List Key × V)} (ok:HOk P w H h) (e:H a=some (.dT kvs)):kvs.length<=sizeLine/\(a == sysModules)=false /\
  ∃xs,KT H kvs xs/\h.DictOfH (tupleKind (m9 P w)) a xs:=X3 ok (.inl e)
end
noncomputable def DGet (H:Hp) (a:Addr) (y:V) (r:Option V):Prop :=
 (∃kvs k,Rd H a (.dK kvs)/\y=kV k/\r=I0 kvs k) ∨ ∃kvs k b,Rd H a (.dT kvs)/\y=.ref b/\H b=some (.tup (k.map kV))/\r=I0 kvs k
noncomputable def DPut (H:Hp) (a:Addr) (y v:V) (H':Hp):Prop :=
 (∃kvs k,H a=some (.dK kvs)/\y=kV k/\kvs.length<sizeLine/\H'=b7 H a (.dK (G1 kvs k v))) ∨
 ∃kvs k b,H a=some (.dT kvs)/\y=.ref b/\H b=some (.tup (k.map kV))/\kvs.length<sizeLine/\H'=b7 H a (.dT (G1 kvs k v))
theorem DGet.t {H:Hp}{a b:Addr}{kvs:List (List Key × V)}{k:List Key} (e:H a=some (.dT kvs)) (eb:H b=some (.tup (k.map kV))):DGet H a (.ref b) (I0 kvs k):=.inr ⟨kvs,k,b,.inl e,rfl,eb,rfl⟩
theorem DPut.t {H:Hp}{a b:Addr}{kvs:List (List Key × V)}{k:List Key}{v:V} (e:H a=some (.dT kvs)) (eb:H b=some (.tup (k.map kV))) (hl:kvs.length<sizeLine):
  DPut H a (.ref b) v (b7 H a (.dT (G1 kvs k v))):=.inr ⟨kvs,k,b,e,rfl,eb,hl,rfl⟩
section
variable {X:Cx}{pins:List (Addr × Obj)}{σ:St}{H:Hp}{s:Shared}{a:Addr}{y v:V}{u r:Value}{o:Option V}{A:Around}{E:Value->Shared->Prop}
theorem Inv.big (I:Inv X pins σ H s):sysModules<s.heap.objs.size:=by
 have h:mainGlobals<s.heap.objs.size:=(I.mod.glob.keeps I.bk).lt
 exact Nat.lt_trans (by decide) h
theorem a4C {Q:Value->Shared->Prop} (hu:A.units+1<cLine) (I:Inv X pins σ H s) (g:DGet H a y (some v)) (ry:RelV y u) (h:∀w' s',Inv X pins σ H s'->RelV v w'->Q w' s'):
  wpAny (model X.prog X.w) A (getItem (.ref a) u) Q E s:=by
 rcases g with ⟨kvs,k,e,ey,l⟩|⟨kvs,k,b,e,ey,eb,l⟩
 ·subst ey
  obtain ⟨z,hd,vs,rel,dd⟩:=X5 I.hok e
  obtain ⟨w',hw,rw'⟩:=RelO.some_of (v:=v) (o:=valueAt vs k) (by rw[l];exact rel.val k)
  exact wpAny_getItem_of (a0Y ry) dd.mapOf hw (h w' _ (I.tok _) rw')
 ·subst ey
  cases (show u=Value.ref b from ry)
  obtain ⟨z,hd,xs,rel,dd⟩:=X3 I.hok e
  obtain ⟨w',hw,rw'⟩:=RelO.some_of (v:=v) (o:=(atKey xs k).map (·.2)) (by rw[l];exact rel.val k)
  obtain ⟨p,hp,hp2⟩:=Option.map_eq_some_iff.mp hw
  refine wpAny_getItem_heap (tupleKind_room_in1 hu) (O6 I.hok eb) dd hp ?_
  rw[hp2]
  exact h w' _ (I.tok _) rw'
theorem Z6 {h':Heap}{t':Nat}{ob:HO} (I:Inv X pins σ H s) (mu:Mut (H a)) (hs:Heap.SameBut a s.heap h') (he:∃q,h'.get? a=some q) (new:ObjOk X.prog X.w (b7 H a ob) h' a ob):
  Inv X pins σ (b7 H a ob) { s with heap:=h',toks:=t' } :=
 I.write (x:=a) (e:=a) mu (.inl rfl) (fun b q hb z=>(hs.2 b hb).trans z) he new
theorem a7a {P:Program}{w:World}{H':Hp}{h':Heap}{kvs:List (Key × V)}{vs:List (Key × Value)} (z:kvs.length<=sizeLine) (hd:(a == sysModules)=false) (rel:KV kvs vs) (dd:h'.DictOf (m9 P w) a vs):
  ObjOk P w H' h' a (.dK kvs):=⟨z,hd,vs,rel,dd⟩
theorem a45 {H':Hp}{Q:Unit->Shared->Prop} (hu:A.units+1<cLine) (I:Inv X pins σ H s) (g:DPut H a y v H') (ry:RelV y u) (rv:RelV v r) (h:∀s',Inv X pins σ H' s'->Q () s'):
  wpAny (model X.prog X.w) A (setItem (.ref a) u r) Q E s:=by
 rcases g with ⟨kvs,k,e,ey,l,eH⟩|⟨kvs,k,b,e,ey,eb,l,eH⟩
 ·subst ey eH
  obtain ⟨z,hd,vs,rel,dd⟩:=a8D I.hok e
  have hz:vs.length<=sizeLine:=by rw[<- rel.length];exact z
  have hl:(G1 kvs k v).length<=sizeLine:=by have:=U7 kvs k v;lia
  refine wpAny_setItem_pairs (hsz:=hz) (a0Y ry) dd fun h' dd' hs=>h _ ?_
  have he:∃q,h'.get? a=some q:=let ⟨q,_,_,hq,_⟩:=dd';⟨q,hq⟩
  exact Z6 I (by rw[e];exact True.intro) hs he (a7a hl hd (rel.put k rv) dd')
 ·subst ey eH
  cases (show u=Value.ref b from ry)
  obtain ⟨z,hd,xs,rel,dd⟩:=a6g I.hok e
  have hz:xs.length<=sizeLine:=by rw[<- Paired.length rel];exact z
  have hl:(G1 kvs k v).length<=sizeLine:=by have:=U7 kvs k v;lia
  refine wpAny_setItem_heap (hsz:=hz) (tupleKind_room_in1 hu) (O6 I.hok eb) dd fun h' dd' hs=>h _ ?_
  obtain ⟨q,es,ep,hq,h2,h3,h4,_,h5⟩:=dd'
  refine Z6 I (by rw[e];exact True.intro) hs ⟨q,hq⟩ ⟨hl,hd,_,(rel.put k eb rv).keeps fun c ys ec=>?_,q,es,ep,hq,h2,h3,h4,h5⟩
  rw[d0 (U2 ec e (fun z=>nomatch z))]
  exact ec
end
section
variable {X:Cx}{pins:List (Addr × Obj)}{σ:St}{H:Hp}{s:Shared}{a:Addr}{kvs:List (Key × V)}{k:Key}{u:Value}{A:Around}{E:Value->Shared->Prop}
end
noncomputable def a7v (i:Expr):Prop:=∀ov iv,subscripted i false ov iv=operate [ov,iv] (getItem ov iv)
theorem a67 {prog:Program}{w:World}{A:Around}{E:Value->Shared->Prop}{s:Shared}{env:Env}{value slice:Expr}{pos:Pos}{T id:String}{Q:Value->Shared->Prop}
  (hl:typeLookup (.type T) "__getitem__"=pure (some (.builtin id))) (hs:a7v slice)
  (h:wpAny (model prog w) A (eval value env) (fun o s₁=>wpAny (model prog w) A (eval slice env) (fun i s₂=>s₂.TypeIs o T/\wpAny (model prog w) A (getItem o i) Q E s₂) E s₁) E s):
  wpAny (model prog w) A (eval (.Subscript value slice pos) env) Q E s:=by
 refine Subscript_ (wpAny_mono h (fun o s₁ h₁=>wpAny_mono h₁ (fun i s₂ h₂=>?_) fun _ _ x=>x) fun _ _ x=>x)
 obtain ⟨hT,h₂⟩:=h₂
 unfold subscriptTail
 refine wpAny_bind ?_
 rw[getitemInPython_of_ne hT.not_modules]
 refine wpAny_bind (wpAny_specialOf hT hl ?_)
 have fin:wpAny (model prog w) A (subscripted slice false o i) (fun r s₃=>wpAny (model prog w) A (letTemporaryGo value o r >>= fun _=>pure r) Q E s₃) E s₂:=by
  rw[hs o i]
  exact wpAny_operating (wpAny_mono h₂ (fun r s₃ h₃=>wpAny_bind (wpAny_letTemporaryGo (wpAny_pure h₃))) fun _ _ x=>x)
 first
  | exact wpAny_pure (wpAny_bind fin)
  | exact wpAny_bind (wpAny_pure (wpAny_bind fin))
  | exact wpAny_bind fin
theorem a2l {X:Cx}{pins:List (Addr × Obj)}{σ:St}{H:Hp}{s:Shared}{a:Addr}{y:V}{o:Option V} (I:Inv X pins σ H s) (g:DGet H a y o):s.TypeIs (.ref a) "dict":=by
 rcases g with ⟨kvs,k,e,_,_⟩|⟨kvs,k,b,e,_,_,_⟩
 ·obtain ⟨_,_,vs,_,dd⟩:=X5 I.hok e
  exact dd.typeIs
 ·obtain ⟨_,_,xs,_,dd⟩:=X3 I.hok e
  exact dd.typeIs
noncomputable def a8N (td ty:TE):TE:=fun σ H Q=>td σ H fun x H1=>ty σ H1 fun y H2=>∃a v,x=.ref a/\DGet H2 a y (some v)/\Q v H2
noncomputable def a8p (td ty tv:TE):TS:=fun D σ H=>tv σ H fun v H1=>td σ H1 fun x H2=>ty σ H2 fun y H3=>∃a H4,x=.ref a/\DPut H3 a y v H4/\D.nx σ H4
section
variable {X:Cx}{o i e value:Expr}{pos pos' tpos:Pos}{td ty tv:TE}
theorem a6x (hu:X.A.units+1<cLine) (ho:PE X o td) (hi:PE X i ty) (hs:a7v i):PE X (.Subscript o i pos) (a8N td ty):=by
 intro pins s σ H Q I h
 refine a67 PySem.F.slot_dict_getitem.lookup hs (f7 (ho pins s σ H _ I h) fun u s1 ⟨x,H1,I1,rx,q1⟩=>f7 (hi pins s1 σ H1 _ I1 q1) fun iv s2 ⟨y,H2,I2,ry,a,v,ex,g,q2⟩=>?_)
 subst ex
 obtain rfl:u=Value.ref a:=rx
 exact ⟨a2l I2 g,a4C hu I2 g ry fun w' s3 I3 rw'=>⟨v,H2,I3,rw',q2⟩⟩
theorem a65 (hu:X.A.units+1<cLine) (ho:PE X o td) (hi:PE X i ty) (hv:PE X value tv) (hs:swapsWith value (some (.Subscript o i pos')) pos.line X.env=pure false):
  PS X (.Assign [.Subscript o i pos'] value pos) (a8p td ty tv):=by
 intro pins s σ H D I h
 refine wpAny_Assign_Subscript (f7 (hv pins s σ H _ I h) fun r s1 ⟨v,H1,I1,rv,q1⟩=>f7 (ho pins s1 σ H1 _ I1 q1) fun u s2 ⟨x,H2,I2,rx,q2⟩=>f7 (hi pins s2 σ H2 _ I2 q2) fun iv s3 ⟨y,H3,I3,ry,a,H4,ex,g,q3⟩=>?_) hs
 subst ex
 obtain rfl:u=Value.ref a:=rx
 exact a45 hu I3 g ry rv fun s4 I4=>⟨σ,H4,I4,q3⟩
end
theorem a1q {P:Program}{w:World}{H:Hp} (h:Heap) (hb:sysModules<h.objs.size):ObjOk P w H (h.push { cls:=.type "dict",data:=.dict #[] }) h.objs.size (.dT []):=
 ⟨Nat.zero_le _,beq_eq_false_iff_ne.mpr (Ne.symm (Nat.ne_of_lt hb)),[],.nil,_,#[],0,Heap.get?_push_size _ rfl,⟨rfl,rfl,rfl⟩,rfl,rfl,List.nodup_nil⟩
noncomputable def tDNewT:TE:=fun _ H Q=>∀p,H p=none->Q (.ref p) (b7 H p (.dT []))
section
variable {X:Cx}{pos:Pos}
theorem pe_dnewT:PE X (.Dict [] [] pos) tDNewT:=fun pins s σ H Q I h =>
 wpAny_Dict_empty ⟨.ref s.heap.objs.size,_,I.laid (a:=s.heap.objs.size) (o:=.dT []) (t':=s.toks) (fun _ _ q=>Heap.get?_push_of_some _ q) (Nat.le_refl _) (a1q s.heap I.big),rfl,h _ (I.hok.fresh (Nat.le_refl _))⟩
end
structure M1 (X:Cx) (o:Expr) (m:Str) (apos:Pos) (e:Expr) (cpos:Pos):Prop where
 base:attributeBase o m X.env (eval o X.env)=eval o X.env
 few:((backTo cpos (starEach [e] X.env)).all (fun x=>!x.1)&&(backToKw cpos (keywordEach [] X.env)).all (fun x=>x.1.isSome)
  && decide (([e]:List Expr).length+([]:List Keyword).length+(if ([]:List Keyword).isEmpty then 0 else 1)<30))=true
 line:(apos.endLine == cpos.line)=true
 trees:backTo cpos (starEach [e] X.env)=[(false,eval e X.env)]
structure M2 (X:Cx) (o:Expr) (m:Str) (apos:Pos) (e f:Expr) (cpos:Pos):Prop where
 base:attributeBase o m X.env (eval o X.env)=eval o X.env
 few:((backTo cpos (starEach [e,f] X.env)).all (fun x=>!x.1)&&(backToKw cpos (keywordEach [] X.env)).all (fun x=>x.1.isSome)
  && decide (([e,f]:List Expr).length+([]:List Keyword).length+(if ([]:List Keyword).isEmpty then 0 else 1)<30))=true
 line:(apos.endLine == cpos.line)=true
 trees:backTo cpos (starEach [e,f] X.env)=[(false,eval e X.env),(false,eval f X.env)]
noncomputable def IsD (H:Hp) (a:Addr):Prop:=(∃kvs,Rd H a (.dK kvs)) ∨ ∃kvs,Rd H a (.dT kvs)
theorem a7q {X:Cx}{pins:List (Addr × Obj)}{σ:St}{H:Hp}{s:Shared}{a:Addr} (I:Inv X pins σ H s) (d:IsD H a):
  s.TypeIs (.ref a) "dict"/\(∀b,Value.ref a=.ref b->∃ob,s.heap.get? b=some ob/\ob.dict=none)/\(a == sysModules)=false:=by
 rcases d with ⟨kvs,e⟩|⟨kvs,e⟩
 ·obtain ⟨_,hd,vs,_,dd⟩:=X5 I.hok e
  refine ⟨dd.typeIs,fun b q=>?_,hd⟩
  cases q
  obtain ⟨ob,_,_,h1,h2,_⟩:=dd
  exact ⟨ob,h1,h2.2.1⟩
 ·obtain ⟨_,hd,xs,_,dd⟩:=X3 I.hok e
  refine ⟨dd.typeIs,fun b q=>?_,hd⟩
  cases q
  obtain ⟨ob,_,_,h1,h2,_⟩:=dd
  exact ⟨ob,h1,h2.2.1⟩
section
variable {X:Cx}{pins:List (Addr × Obj)}{σ:St}{H:Hp}{s:Shared}{a:Addr}{y d:V}{u r:Value}{o:Option V}{A:Around}{E:Value->Shared->Prop}
theorem a7H {Q:Value->Shared->Prop} (hu:A.units+1<cLine) (I:Inv X pins σ H s) (g:DGet H a y o) (ry:RelV y u) (rd:RelV d r) (h:∀w' s',Inv X pins σ H s'->RelV (o.getD d) w'->Q w' s'):
  wpAny (model X.prog X.w) A (call (.builtin "dict.get") [.ref a,u,r]) Q E s:=by
 rcases g with ⟨kvs,k,e,ey,l⟩|⟨kvs,k,b,e,ey,eb,l⟩
 ·subst ey
  obtain ⟨z,hd,vs,rel,dd⟩:=X5 I.hok e
  refine call_meetsIn PySem.F.slot_dict_get dd.typeIs PySem.F.entry_dict_get (PySem.F.args_dict_get_3 _ _ _) (meets_dict_get_default (m9 X.prog X.w) a (a0Y ry) hd r) ⟨_,dd.mapOf,h _ _ (I.tok _) ?_⟩
  rw[l]
  exact (rel.val k).getD rd
 ·subst ey
  cases (show u=Value.ref b from ry)
  obtain ⟨z,hd,xs,rel,dd⟩:=X3 I.hok e
  refine call_meetsIn PySem.F.slot_dict_get dd.typeIs PySem.F.entry_dict_get (PySem.F.args_dict_get_3 _ _ _) (meetsH_dict_get_default (tupleKind (m9 X.prog X.w)) a b hd r) ⟨tupleKind_room_in1 hu,k,xs,O6 I.hok eb,dd,h _ _ (I.tok _) ?_⟩
  rw[l]
  exact (rel.val k).getD rd
end
noncomputable def a7X (td ty tx:TE):TE:=fun σ H Q=>td σ H fun x H1=>∃a,x=.ref a/\IsD H1 a/\ty σ H1 fun y H2=>tx σ H2 fun z H3=>∃o,DGet H3 a y o/\Q (o.getD z) H3
section
variable {X:Cx}{o e f:Expr}{apos cpos:Pos}{td ty tx:TE}
theorem a5k (hu:X.A.units+1<cLine) (ho:PE X o td) (he:PE X e ty) (hf:PE X f tx) (m:M2 X o "get" apos e f cpos):PE X (.Call (.Attribute o "get" apos) [e,f] [] cpos) (a7X td ty tx):=by
 intro pins s σ H Q I h
 refine wpAny_Call_method m.base m.few m.line PySem.F.plainAttrs_dict PySem.F.slot_dict_get PySem.F.type_dict_get (f7 (ho pins s σ H _ I h) fun u s1 ⟨x,H1,I1,rx,a,ex,d,q1⟩=>?_)
 subst ex
 obtain rfl:u=Value.ref a:=rx
 obtain ⟨t1,t2,_⟩:=a7q I1 d
 refine ⟨t1,t2,?_⟩
 rw[m.trees]
 refine Calls.callWith_builtin rfl (Calls.evalArgs_plain (Calls.spliced_cons (f7 (he pins s1 σ H1 _ I1 q1) fun iv s2 ⟨y,H2,I2,ry,q2⟩ =>
  Calls.spliced_cons (f7 (hf pins s2 σ H2 _ I2 q2) fun fv s3 ⟨z,H3,I3,rz,ov,g,q3⟩=>Calls.spliced_nil ?_))))
 exact a7H hu I3 g ry rz fun w' s4 I4 rw'=>⟨_,H3,I4,rw',q3⟩
end
section
variable {X:Cx}{pins:List (Addr × Obj)}{σ:St}{H:Hp}{s:Shared}{a:Addr}{kvs:List (Key × V)}{A:Around}{E:Value->Shared->Prop}
end
section
variable {X:Cx}{pins:List (Addr × Obj)}{σ:St}{H:Hp}{s:Shared}{a:Addr}{y:V}{u:Value}{A:Around}{E:Value->Shared->Prop}
end
end L2
namespace Att
open PySem PySem.W PySem.Calls PyProof.Rows
section
variable {prog:Program}{w:World}{A:Around}{E:Value->Shared->Prop}{s:Shared}{K:Frag}
end
end Att
namespace L2
open PySem PySem.Spec PyProof.Rows
end L2
namespace L2
open PySem PySem.Spec PyProof.Rows
end L2
namespace L2
open PySem PySem.Spec PyProof.Rows
section
variable {P:Program}{w:World}{K:W.Frag}{mg:Str->Option Value}{base:Heap}
end
section
variable {X:Cx}
end
section
variable {κ:Type} [DecidableEq κ]
end
end L2
namespace L2
open PySem PySem.Spec PyProof.Rows
section
variable {prog:Program}{w:World}{A:Around}{E:Value->Shared->Prop}{s:Shared}
structure EnT (h:Heap) (e it t:Addr) (k:Nat):Prop where
 en:∃old,IsEnum h e it k old
 it:h.IsTupleIter it t k
end
section
variable {X:Cx}{pins:List (Addr × Obj)}{σ:St}{H:Hp}{s:Shared}
theorem Inv.yieldPair {h2:Heap}{t':Nat}{fp:List Addr}{x y:V}{u v:Value} (I:Inv X pins σ H s) (hf:∀b∈fp,C6 X pins H b) (k2:∀c o,c ∉ fp->s.heap.get? c=some o->h2.get? c=some o)
  (e0:h2.get? s.heap.objs.size=some { cls:=.type "tuple",data:=.seq #[u,v] }) (ru:RelV x u) (rv:RelV y v):Inv X pins σ (b7 H s.heap.objs.size (.tup [x,y])) { s with heap:=h2,toks:=t' }:=by
 have hn:H s.heap.objs.size=none:=I.hok.fresh (Nat.le_refl _)
 have pne:∀c o,s.heap.get? c=some o->c≠s.heap.objs.size:=fun c o e=>Nat.ne_of_lt (Heap.lt_size e)
 have nit:∀c u,H c=some u->c ∉ fp:=fun c u e q=>by rw[(hf c q).1] at e;cases e
 have hok:HOk X.prog X.w (b7 H s.heap.objs.size (.tup [x,y])) h2:=fun c ob e=>by
  by_cases hq:c=s.heap.objs.size
  ·subst hq
   rw[b6] at e;cases e
   exact ⟨by show 2<=sizeLine;decide,[u,v],.cons ru (.cons rv .nil),⟨_,e0,rfl,_,rfl⟩⟩
  ·rw[d0 hq] at e
   refine (I.hok c ob e).stay (fun d w' hd q=>k2 d w' ?_ q) (fun d q=>by rw[d0 (d6 q hn)];exact q) fun d xs q=>by rw[d0 (d6 q hn)];exact q
   rcases hd with rfl|hd
   ·exact nit d ob e
   ·exact nit d _ hd
 refine I.step (g':=s.gens) (d':=s.drawn) (t':=t') (ch:=fp) (fun c hc=>⟨(hf c hc).2.2.2.1,(hf c hc).2.1,(hf c hc).2.2.2.2.1,(hf c hc).2.2.2.2.2⟩) (fun c o _ _ hc e _=>k2 c o hc e) (fun c o _ _ hc e _=>⟨o.slots,k2 c o hc e⟩)
  (fun c o _ e n=>by rw[d0 (pne c o e)];exact n) (fun c o hc e=>⟨o,k2 c o hc e⟩) (fun c xs e=>by rw[d0 (d6 e hn)];exact e) (fun c o u e=>by rw[d0 (d6 e hn)];exact e) (fun c ps e=>⟨#[],by rw[d0 (d6 e hn),e];simp⟩) (fun m hm=>?_) hok I.bare
 obtain ⟨o,es,ep,ho,r⟩:=hm
 exact ⟨o,es,ep,k2 _ o (fun q=>(hf _ q).2.1 rfl) ho,r⟩
end
end L2
namespace L2
open PySem PySem.Spec PyProof.Rows
section
variable {prog:Program}{w:World}{A:Around}{E:Value->Shared->Prop}{s:Shared}
theorem a3J {d:Addr}{Q:Value->Shared->Prop} (hd:(d == sysModules)=false) (hT:s.TypeIs (.ref d) "dict") (h:Q (.ref s.heap.objs.size) { s with heap:=s.heap.push { cls:=.type "dict_items",data:=.fields #[.ref d] } }):
  wpAny (model prog w) A (call (.builtin "dict.items") [.ref d]) Q E s:=by
 have g:MeetsIn prog w (Builtin.«dict.items» ⟨[.ref d],[]⟩) (fun _ R s=>s.TypeIs (.ref d) "dict"/\R (.ok (.ret (.ref s.heap.objs.size))) { s with heap:=s.heap.push { cls:=.type "dict_items",data:=.fields #[.ref d] } }):=
  .of_wp fun A R s ⟨hm,h⟩=>by
   unfold Builtin.«dict.items»
   refine wpAny_bind ?_
   unfold Builtin.Dict.noArgs
   refine wpAny_bind (wpAny_notOrdered_dict hm ?_)
   show wpAny _ _ (pure d) _ _ s
   refine wpAny_pure ?_
   show wpAny _ _ (Builtin.Dict.showsAll d >>= _) _ _ s
   unfold Builtin.Dict.showsAll
   rw[if_neg (by rw[hd];exact Bool.false_ne_true)]
   refine wpAny_bind (wpAny_pure ?_)
   exact wpAny_bind (wpAny_newObj_type (wpAny_pure ⟨_,rfl,h⟩))
 exact call_meetsIn PySem.F.slot_dict_items hT PySem.F.entry_dict_items (PySem.F.args_dict_items_1 _) g ⟨hT,h⟩
theorem a2i {v d:Addr}{od:Obj}{es:Array DictEntry}{ep:Nat}{Q:Value->Shared->Prop} (hv:s.heap.IsItemsView v d) (ho:s.heap.get? d=some od) (hdat:od.data=.dict es ep)
  (hQ:Q (.ref s.heap.objs.size) { s with heap:=s.heap.push { cls:=.type "dict_itemiterator",data:=.fields #[.none,.bool false,.ref d,.int 0 0,.int es.size 0,.int ep 0,.none,.none] } }):
  wpAny (model prog w) A (pyIter (.ref v)) Q E s:=by
 obtain ⟨ov,hov,hcv,hdv⟩:=id hv
 refine wpAny_pyIter_slot hv.typeIs F.slot_dict_items_iter (wpAny_call_entry F.slot_dict_items_iter hv.typeIs F.entry_dict_items_iter ?_ (F.args_dict_items_iter_1 _))
 unfold Builtin.«dict_items.__iter__»
 refine wpAny_bind (wpAny_pure ?_)
 refine wpAny_bind ?_
 unfold Builtin.Dict_items.dictOf
 refine wpAny_bind (wpAny_field hov hdv (x:=.ref d) rfl (wpAny_pure ?_))
 refine wpAny_bind ?_
 unfold Builtin.Dict_items.newIterator
 refine wpAny_bind (wpAny_dictEntries ho hdat ?_)
 refine wpAny_bind (wpAny_dictEpoch ho hdat ?_)
 have hown:Builtin.Dict_items.ownsTuple "dict_itemiterator"=true:=by decide
 simp only[hown,if_true]
 refine wpAny_newObj_type (wpAny_pure ⟨_,rfl,"dict_itemiterator",_,⟨_,Heap.get?_push_size _ rfl,rfl⟩,F.slot_dict_itemiterator_next.lookup,?_⟩)
  (by simp only[sizeOk,Builtin.Dict_items.ownedTupleFields,List.size_toArray,List.length_append,List.length_cons,List.length_nil,sizeLine_eq];lia)
 simpa [rawInt,Builtin.Dict_items.ownedTupleFields] using hQ
theorem a2j {it d:Addr}{i ep:Nat}{od:Obj}{es:Array DictEntry}{en:DictEntry}{ok ov:Value}{Q:Option Value->Shared->Prop} (hit:IsItemIter s.heap it d i es.size ep ok ov)
  (hod:s.heap.get? d=some od) (hdd:od.data=.dict es ep) (hx:es[i]?=some en)
  (hQ:∀h',IsItemIterOut h' it d (i+1) es.size ep en.key en.val s.heap.objs.size->h'.get? s.heap.objs.size=some { cls:=.type "tuple",data:=.seq #[en.key,en.val] }->h'.objs.size=s.heap.objs.size+1 ->
   (∀b o,b≠it->s.heap.get? b=some o->h'.get? b=some o)->Q (some (.ref s.heap.objs.size)) { s with heap:=h' }):wpAny (model prog w) A (pyNext (.ref it)) Q E s:=by
 obtain ⟨hp,g,dr,tk,os⟩:=s
 have hT:Shared.TypeIs ⟨hp,g,dr,tk,os⟩ (.ref it) "dict_itemiterator":=⟨_,hit,rfl⟩
 unfold pyNext
 refine wpAny_bind (wpAny_attempt (wpAny_callSpecial?_slot (name:=Str.ofString "__next__") hT F.slot_dict_itemiterator_next
  (wpAny_call_entry F.slot_dict_itemiterator_next hT F.entry_dict_itemiterator_next ?_ (F.args_dict_itemiterator_next_1 _))))
 refine wpAny_bind (wpAny_pure ?_)
 refine wpAny_bind ?_
 refine wpAny_bind ?_
 first|refine wpAny_bind (wpAny_typeNameOfWhole_itemiter hT (wpAny_pure ?_))|refine wpAny_bind (wpAny_typeNameOf_itemiter hT (wpAny_pure ?_))
 refine wpAny_bind (wpAny_fieldsOf hit rfl ?_)
 have hown:Builtin.Dict_items.ownsTuple "dict_itemiterator"=true:=by decide
 simp only[hown,if_true]
 show wpAny _ _ (if (Value.ref d == Value.none)=true then _ else _) _ _ _
 rw[if_neg (show ¬ ((Value.ref d == Value.none)=true) from Bool.false_ne_true)]
 refine wpAny_bind (wpAny_pure ?_)
 refine wpAny_bind (wpAny_dictEntries hod hdd ?_)
 rw[if_neg (by simp)]
 refine wpAny_bind (wpAny_pure ?_)
 refine wpAny_bind (wpAny_dictEpoch hod hdd ?_)
 rw[if_neg (by simp)]
 refine wpAny_pure ?_
 obtain ⟨hlt',hen⟩:=Array.getElem?_eq_some_iff.mp hx
 simp only[show ¬ ((i:Int)<0) from by lia,if_false,Int.toNat_natCast,hx]
 refine wpAny_bind ?_
 first|refine wpAny_bind (wpAny_typeNameOfWhole_itemiter hT (wpAny_pure ?_))|refine wpAny_bind (wpAny_typeNameOf_itemiter hT (wpAny_pure ?_))
 refine wpAny_bind (wpAny_isOneOf_itemiter hT ?_)
 show wpAny _ _ (setField (.ref it) 3 (rawInt ((i:Int)+1)) >>= _) _ _ ⟨hp,g,dr,tk,os⟩
 refine wpAny_bind (wpAny_setField_rec hit (by simp) fun h1 he1 s1=>?_)
 replace s1:Heap.SameBut it hp h1:=s1
 replace he1:IsItemIter h1 it d (i+1) es.size ep ok ov:=by
  have e:((i+1:Nat):Int)=(i:Int)+1:=by lia
  unfold IsItemIter;rw[e];simpa [rawInt] using he1
 have hT1:Shared.TypeIs ⟨h1,g,dr,tk,os⟩ (.ref it) "dict_itemiterator":=⟨_,he1,rfl⟩
 refine wpAny_bind (wpAny_holding ?_)
 refine wpAny_bind (wpAny_isOneOf_itemiter hT1 ?_)
 refine wpAny_bind (wpAny_isOneOf_itemiter hT1 ?_)
 show wpAny _ _ (Builtin.Dict_items.pairFromOwner (.ref it) 6 en.key en.val) _ _ ⟨h1,g,dr,tk,os⟩
 unfold Builtin.Dict_items.pairFromOwner
 refine wpAny_bind (wpAny_newTuple ?_)
 have he2:IsItemIter (h1.push { cls:=.type "tuple",data:=.seq #[en.key,en.val] }) it d (i+1) es.size ep ok ov:=Heap.get?_push_of_some _ he1
 generalize hh2:h1.push { cls:=.type "tuple",data:=.seq #[en.key,en.val] }=h2 at he2
 have hz1:h1.objs.size=hp.objs.size:=s1.1
 have hil:it<hp.objs.size:=Heap.lt_size hit
 have ht2:h2.get? hp.objs.size=some { cls:=.type "tuple",data:=.seq #[en.key,en.val] }:=by rw[<- hh2,<- hz1];exact Heap.get?_push_size _ rfl
 have hz2:h2.objs.size=hp.objs.size+1:=by rw[<- hh2,Heap.size_push,hz1]
 have hk2:∀b o,b≠it->hp.get? b=some o->h2.get? b=some o:=fun b o hb e=>by rw[<- hh2];exact Heap.get?_push_of_some _ (s1.extBut b o hb e)
 show wpAny _ _ (Builtin.Dict_items.ownedTupleIsFree (.ref it) >>= _) _ _ ⟨h2,g,dr,tk,os⟩
 rw[hz1]
 clear hh2 he1 s1 hT1 hz1 h1
 refine wpAny_bind ?_
 unfold Builtin.Dict_items.ownedTupleIsFree
 refine wpAny_bind (wpAny_field he2 rfl (x:=.none) rfl (wpAny_pure ?_))
 simp only[if_true]
 refine wpAny_bind (wpAny_field he2 rfl (x:=ok) rfl ?_)
 refine wpAny_bind (wpAny_field he2 rfl (x:=ov) rfl ?_)
 refine wpAny_bind (wpAny_setField_rec he2 (by simp) fun h3 he3 s3=>?_)
 replace s3:Heap.SameBut it h2 h3:=s3
 replace he3:IsItemIter h3 it d (i+1) es.size ep en.key ov:=he3
 refine wpAny_bind (wpAny_setField_rec he3 (by simp) fun h4 he4 s4=>?_)
 replace s4:Heap.SameBut it h3 h4:=s4
 replace he4:IsItemIter h4 it d (i+1) es.size ep en.key en.val:=he4
 refine wpAny_bind (wpAny_setField_rec he4 (by simp) fun h5 he5 s5=>?_)
 replace s5:Heap.SameBut it h4 h5:=s5
 replace he5:IsItemIterOut h5 it d (i+1) es.size ep en.key en.val hp.objs.size:=he5
 refine wpAny_bind (wpAny_setField_rec he5 (by simp) fun h6 he6 s6=>?_)
 replace s6:Heap.SameBut it h5 h6:=s6
 replace he6:IsItemIterOut h6 it d (i+1) es.size ep en.key en.val hp.objs.size:=he6
 refine wpAny_bind (wpAny_letGo (wpAny_pure (wpAny_pure ⟨_,rfl,wpAny_pure (hQ h6 he6 ?_ ?_ ?_)⟩)))
 ·exact s6.extBut _ _ (Nat.ne_of_gt hil) (s5.extBut _ _ (Nat.ne_of_gt hil) (s4.extBut _ _ (Nat.ne_of_gt hil) (s3.extBut _ _ (Nat.ne_of_gt hil) ht2)))
 ·show h6.objs.size=hp.objs.size+1
  rw[s6.1,s5.1,s4.1,s3.1,hz2]
 ·exact fun b o hb e=>s6.extBut b o hb (s5.extBut b o hb (s4.extBut b o hb (s3.extBut b o hb (hk2 b o hb e))))
theorem a3S {it d:Addr}{i ep:Nat}{od:Obj}{es:Array DictEntry}{ok ov:Value}{Q:Option Value->Shared->Prop} (hh:A.handled=none) (hit:IsItemIter s.heap it d i es.size ep ok ov)
  (hod:s.heap.get? d=some od) (hdd:od.data=.dict es ep) (hge:es.size<=i) (hQ:∀h',Heap.ExtBut it s.heap h'->Q none { s with heap:=h' }):wpAny (model prog w) A (pyNext (.ref it)) Q E s:=by
 have hT:s.TypeIs (.ref it) "dict_itemiterator":=⟨_,hit,rfl⟩
 unfold pyNext
 refine wpAny_bind (wpAny_attempt (wpAny_callSpecial?_slot (name:=Str.ofString "__next__") hT F.slot_dict_itemiterator_next
  (wpAny_call_entry F.slot_dict_itemiterator_next hT F.entry_dict_itemiterator_next ?_ (F.args_dict_itemiterator_next_1 _))))
 refine wpAny_bind (wpAny_pure ?_)
 refine wpAny_bind ?_
 refine wpAny_bind ?_
 first|refine wpAny_bind (wpAny_typeNameOfWhole_itemiter hT (wpAny_pure ?_))|refine wpAny_bind (wpAny_typeNameOf_itemiter hT (wpAny_pure ?_))
 refine wpAny_bind (wpAny_fieldsOf hit rfl ?_)
 have hown:Builtin.Dict_items.ownsTuple "dict_itemiterator"=true:=by decide
 simp only[hown,if_true]
 show wpAny _ _ (if (Value.ref d == Value.none)=true then _ else _) _ _ s
 rw[if_neg (show ¬ ((Value.ref d == Value.none)=true) from Bool.false_ne_true)]
 refine wpAny_bind (wpAny_pure ?_)
 refine wpAny_bind (wpAny_dictEntries hod hdd ?_)
 rw[if_neg (by simp)]
 refine wpAny_bind (wpAny_pure ?_)
 refine wpAny_bind (wpAny_dictEpoch hod hdd ?_)
 rw[if_neg (by simp)]
 refine wpAny_pure ?_
 simp only[show ¬ ((i:Int)<0) from by lia,if_false,Int.toNat_natCast,Array.getElem?_eq_none hge]
 refine wpAny_bind ?_
 first|refine wpAny_bind (wpAny_typeNameOfWhole_itemiter hT (wpAny_pure ?_))|refine wpAny_bind (wpAny_typeNameOf_itemiter hT (wpAny_pure ?_))
 show wpAny _ _ (setField (.ref it) 2 .none >>= _) _ _ s
 refine wpAny_bind (wpAny_setField hit rfl (by simp) ?_)
 show wpAny _ _ (newExc (.type "StopIteration") [] >>= _) _ _ _
 refine wpAny_bind ?_
 simp only[newExc,newTuple]
 refine wpAny_bind (wpAny_newObj_type ?_ (by size_fits))
 refine wpAny_bind (m:=firstArgMember _ _) (wpAny_of_eq (a:=Value.none) (by first|rfl | (simp only[firstArgMember];rfl)) ?_)
 refine wpAny_newObj_type ?_ (by size_fits)
 simp only[raiseNew]
 refine wpAny_bind (wpAny_handled ?_)
 rw[show A.in1.handled=none from hh]
 refine wpAny_bind (wpAny_pure (wpAny_throw ?_))
 refine wpAny_bind (wpAny_isInstance (T:="StopIteration") (b:=true) ⟨_,Heap.get?_push_size _ rfl,rfl⟩ isSubtype_stop ?_)
 exact wpAny_pure (hQ _ (((Heap.SameBut.update ..).extBut.push _).push _))
theorem entry_itemiter_iter:entryFor table "dict_itemiterator.__iter__"=some Builtin.«dict_keyiterator.__iter__»:=entryFor_alias (id':="dict_keyiterator.__iter__") (by kernel_rfl) rfl (by decide +kernel) (by kernel_rfl)
theorem a0T {it d:Addr}{i n ep:Nat}{ok ov:Value}{Q:Value->Shared->Prop} (h:IsItemIter s.heap it d i n ep ok ov) (q:Q (.ref it) s):wpAny (model prog w) A (pyIter (.ref it)) Q E s:=by
 have hT:s.TypeIs (.ref it) "dict_itemiterator":=⟨_,h,rfl⟩
 refine wpAny_pyIter_slot hT F.slot_dict_itemiterator_iter (wpAny_call_entry F.slot_dict_itemiterator_iter hT entry_itemiter_iter ?_ (F.args_dict_itemiterator_iter_1 _))
 exact wpAny_pure ⟨_,rfl,"dict_itemiterator",_,hT,F.slot_dict_itemiterator_next.lookup,q⟩
end
section
variable {X:Cx}{pins:List (Addr × Obj)}{σ:St}{H:Hp}{s:Shared}
noncomputable def Itd (d:Addr) (o:Obj) (kvs:List (List Key × V)):It :=
 ⟨fun i H=>H d=some (.frz o (.dT kvs))/\i<kvs.length,fun i H v H'=>∃p ka k x,H p=none/\v=.ref p/\H'=b7 H p (.tup [.ref ka,x])/\kvs[i]?=some (k,x)/\H ka=some (.tup (k.map kV)),fun i H=>H d=some (.frz o (.dT kvs))/\kvs.length<=i⟩
theorem Paired.get {α β:Type}{F:α->β->Prop}:∀{l:List α}{m:List β}{i:Nat}{a:α},Paired F l m->l[i]?=some a->∃b,m[i]?=some b/\F a b
 | _::_,_::_,0,_,.cons r _,h=>by cases h;exact ⟨_,rfl,r⟩
 | _::_,_::_,i+1,_,.cons _ t,h=>by
  obtain ⟨b,e,r⟩:=Paired.get (i:=i) t (by simpa using h)
  exact ⟨b,by simpa using e,r⟩
theorem Inv.frzT {d:Addr}{o:Obj}{kvs:List (List Key × V)}{es:Array DictEntry}{ep:Nat} (I:Inv X pins σ H s) (e:H d=some (.frz o (.dT kvs))) (hd:o.data=.dict es ep):
  s.heap.get? d=some o/\es.size=kvs.length/\∀(i:Nat) (k:List Key) (x:V),kvs[i]?=some (k,x)->∃(ka:Addr) (u:Value) (en:DictEntry),es[i]?=some en/\en.key=.ref ka/\en.val=u/\H ka=some (.tup (k.map kV))/\RelV x u:=by
 obtain ⟨h1,_,_,xs,r,o',es',ep',h2,_,h3,h4,_⟩:=(show ObjOk X.prog X.w H s.heap d (.frz o (.dT kvs)) from I.hok d _ e)
 rw[h1] at h2
 cases h2
 rw[hd] at h3
 cases h3
 have hl:es.size=kvs.length:=by
  rw[<- Array.length_toList,h4,List.length_map];exact (Paired.length r).symm
 refine ⟨h1,hl,fun i k x hx=>?_⟩
 obtain ⟨q,hq,f1,f2,f3⟩:=Paired.get r hx
 refine ⟨q.2.1,q.2.2,entryOfKey (tupleKind (m9 X.prog X.w)) q,?_,rfl,rfl,f2,f3⟩
 rw[<- Array.getElem?_toList,h4,List.getElem?_map,hq];rfl
theorem a3M {P:Program}{w:World}{K:W.Frag}{els:List Expr}{kk:Nat}{pos:Pos}{d it:Addr}{o:Obj}{kvs:List (List Key × V)}{es:Array DictEntry}{ep:Nat} (hd:o.data=.dict es ep):
  Turn P w K (.Tuple els kk pos) (Itd d o kvs) [it] it (fun i h=>∃ok ov,IsItemIter h it d i es.size ep ok ov) where
 mem:=by simp
 obj:=fun i h st c hc=>by
  obtain ⟨ok,ov,he⟩:=st
  simp only[List.mem_cons,List.not_mem_nil,or_false] at hc
  subst hc
  exact ⟨_,he,fun v q=>by cases q⟩
 keep:=fun i h h' st k=>let ⟨ok,ov,he⟩:=st;⟨ok,ov,k _ (by simp) _ he⟩
 item:=by
  intro X hP hw hK hc i pins s σ H E I hf st hg
  subst hP hw hK
  obtain ⟨hF,hi⟩:=hg
  obtain ⟨ok,ov,he⟩:=st
  obtain ⟨h1,hsz,hget⟩:=I.frzT hF hd
  obtain ⟨⟨k,x⟩,hkx⟩:∃kx,kvs[i]?=some kx:=⟨_,List.getElem?_eq_getElem hi⟩
  obtain ⟨ka,u,en,e1,e2,e3,e4,ru⟩:=hget i k x hkx
  refine a2j he h1 hd e1 fun h' z1 new sz keep=>?_
  rw[e2,e3] at z1 new
  refine ⟨_,rfl,wpAny_letOwnedTupleGo_items (s:={ s with heap:=h' }) z1 fun h2 z2 sb=>?_⟩
  have ilt:it<s.heap.objs.size:=Heap.lt_size he
  have k2:∀c o,c ∉ [it]->s.heap.get? c=some o->h2.get? c=some o:=fun c o hc q=>sb.extBut _ _ (fun z=>hc (by simp[z])) (keep c o (fun z=>hc (by simp[z])) q)
  have e0:h2.get? s.heap.objs.size=some { cls:=.type "tuple",data:=.seq #[.ref ka,u] }:=sb.extBut _ _ (Nat.ne_of_gt ilt) new
  have hn:H s.heap.objs.size=none:=I.hok.fresh (Nat.le_refl _)
  refine ⟨.ref s.heap.objs.size,_,I.yieldPair (t':=s.toks) (x:=.ref ka) (y:=x) hf k2 e0 rfl ru,rfl,⟨_,ka,k,x,hn,rfl,rfl,hkx,e4⟩,⟨_,_,z2⟩,fun c hc=>?_⟩
  have hlt:c<s.heap.objs.size:=by
   simp only[List.mem_cons,List.not_mem_nil,or_false] at hc
   subst hc;exact ilt
  rw[d0 (Nat.ne_of_lt hlt)]
  exact (hf c hc).1
 done:=by
  intro X hP hw hK hc i pins s σ H E I hf st hg
  subst hP hw hK
  obtain ⟨hF,hi⟩:=hg
  obtain ⟨ok,ov,he⟩:=st
  obtain ⟨h1,hsz,_⟩:=I.frzT hF hd
  exact a3S (I.ok.hd hc) he h1 hd (by lia) fun h' keep=>⟨rfl,I.turnedL (t':=s.toks) (ch:=[it]) (fun c o hc e=>keep c o (fun q=>hc (by simp[q])) e) hf⟩
 self:=fun _ _ _ _ _ st h=>let ⟨_,_,he⟩:=st;a0T he h
theorem Inv.freeze {d:Addr}{kvs:List (List Key × V)} (I:Inv X pins σ H s) (e:H d=some (.dT kvs)):∃o es ep,o.data=.dict es ep/\s.heap.get? d=some o/\Inv X pins σ (b7 H d (.frz o (.dT kvs))) s:=by
 have ok:=(show ObjOk X.prog X.w H s.heap d (.dT kvs) from I.hok d _ e)
 obtain ⟨_,_,_,_,o,es,ep,ho,_,hd,_⟩:=id ok
 refine ⟨o,es,ep,hd,ho,?_⟩
 have tup:∀b xs,H b=some (.tup xs)->b7 H d (.frz o (.dT kvs)) b=some (.tup xs):=fun b xs q=>by
  rw[d0 (U2 q e (by intro z;cases z))];exact q
 have own:∀b c,H b=some (.own c)->b7 H d (.frz o (.dT kvs)) b=some (.own c):=fun b c q=>by
  rw[d0 (U2 q e (by intro z;cases z))];exact q
 have:=I.step (H':=b7 H d (.frz o (.dT kvs))) (h':=s.heap) (g':=s.gens) (d':=s.drawn) (t':=s.toks) (ch:=[]) (fun _ z=>nomatch z) (fun b o _ _ _ q _=>q) (fun b o _ _ _ q _=>⟨o.slots,q⟩)
  (fun b o _ _ n=>by
   by_cases hb:b=d
   ·subst hb;rw[e] at n;cases n
   ·rw[d0 hb];exact n) (fun b o _ q=>⟨o,q⟩) tup (fun b o u q=>by rw[d0 (U2 q e (by intro z;cases z))];exact q) (fun b ps q=>⟨#[],by rw[d0 (U2 q e (by intro z;cases z)),q];simp⟩) (fun m hm=>hm)
  (fun b ob q=>by
   by_cases hb:b=d
   ·subst hb
    rw[b6] at q;cases q
    exact ⟨ho,ok.stay (fun c v _ q=>q) (fun c q=>own c _ q) tup⟩
   ·rw[d0 hb] at q
    exact (I.hok b ob q).stay (fun c v _ q=>q) (fun c q=>own c _ q) tup) I.bare
 exact this
noncomputable def a7i (td:TE):TI:=fun σ H R=>td σ H fun x H1=>∃d kvs,x=.ref d/\H1 d=some (.dT kvs)/\∀o,R (Itd d o kvs) (b7 H1 d (.frz o (.dT kvs)))
theorem a5X {e:Expr}{els:List Expr}{kk:Nat}{pt apos cpos:Pos}{td:TE} (ho:PE X e td) (hbase:attributeBase e "items" X.env (eval e X.env)=eval e X.env:=by rfl) (hline:(apos.endLine == cpos.line)=true:=by rfl):
  PI X (.Tuple els kk pt) (.Call (.Attribute e "items" apos) [] [] cpos) (a7i td):=by
 intro pins s σ H R I h
 refine wpAny_Call_method0_late hbase hline (f7 (ho pins s σ H _ I h) fun v s1 ⟨x,H1,I1,r1,d,kvs,ex,hd,q⟩=>?_)
 subst ex
 cases r1
 obtain ⟨o,es,ep,hdat,hob,I2⟩:=I1.freeze hd
 obtain ⟨_,hsys,_,_,o',_,_,hob',hex,_⟩:=(show ObjOk X.prog X.w H1 s1.heap d (.dT kvs) from I1.hok d _ hd)
 rw[hob] at hob'
 cases hob'
 refine ⟨"dict","dict.items",PySem.F.plainAttrs_dict,PySem.F.slot_dict_items,PySem.F.type_dict_items,⟨o,hob,hex.1⟩,fun a e=>by cases e;exact ⟨o,hob,hex.2.1⟩,Calls.callWith_builtin rfl (PySem.evalArgs_none ?_)⟩
 refine a3J hsys ⟨o,hob,hex.1⟩ ?_
 refine a2i (s:={ s1 with heap:=s1.heap.push { cls:=.type "dict_items",data:=.fields #[.ref d] } }) ⟨_,Heap.get?_push_size _ rfl,rfl,rfl⟩ (Heap.get?_push_of_some _ hob) hdat ?_
 have I3:Inv X pins σ (b7 H1 d (.frz o (.dT kvs))) { s1 with heap:=s1.heap.push { cls:=.type "dict_items",data:=.fields #[.ref d] } }:=I2.kept (t':=s1.toks) fun b o e=>Heap.get?_push_of_some _ e
 refine ⟨_,[_],_,_,b7 H1 d (.frz o (.dT kvs)),rfl,I3.kept (t':=s1.toks) fun b o e=>Heap.get?_push_of_some _ e,a3M hdat,⟨_,_,Heap.get?_push_size _ rfl⟩,fun b hb=>?_,q o⟩
 have e:b=(s1.heap.push { cls:=.type "dict_items",data:=.fields #[.ref d] }).objs.size:=by simpa using hb
 subst e
 exact I3.fpOk (Nat.le_refl _) (I3.hok.fresh (Nat.le_refl _))
end
end L2
namespace L2
open PySem PySem.Spec PyProof.Rows
section
variable {X:Cx}
noncomputable def a9e (tk tv:TE):TE:=fun σ H Q=>∀p,H p=none->tk σ (b7 H p (.dT [])) fun y H1=>tv σ H1 fun x H2=>H2 p=some (.dT [])/\∃b ks,y=.ref b/\H2 b=some (.tup (ks.map kV))/\Q (.ref p) (b7 H2 p (.dT [(ks,x)]))
theorem a7L {k v:Expr}{tk tv:TE}{pos:Pos} (hu:X.A.units+1<cLine) (hk:PE X k tk) (hv:PE X v tv):PE X (.Dict [some k] [v] pos) (a9e tk tv):=by
 intro pins s σ H Q I q
 have hn:=I.hok.fresh (Nat.le_refl s.heap.objs.size)
 have I1:=I.laid (a:=s.heap.objs.size) (o:=.dT []) (h':=s.heap.push { cls:=.type "dict",data:=.dict #[] }) (t':=s.toks) (fun _ _ q=>Heap.get?_push_of_some _ q) (Nat.le_refl _) (a1q s.heap I.big)
 refine wpAny_Dict_any rfl rfl (by simp) (by simp) (pairTrees_cons_walk (f7 (hk pins _ σ _ _ I1 (q _ hn)) fun u s1 ⟨y,H1,I2,ry,q1⟩=>f7 (hv pins s1 σ H1 _ I2 q1) fun r s2 ⟨x,H2,I3,rx,e,b,ks,ey,eb,q2⟩=>pairTrees_nil_walk ?_))
 subst ey
 cases ry
 unfold storeAll
 rw[List.forIn_cons]
 obtain ⟨z,hd,xs,rel,dd⟩:=a6g I3.hok e
 have hz:xs.length<=sizeLine:=by rw[<- Paired.length rel];exact z
 refine wpAny_bind (wpAny_bind (wpAny_dictSet_heap (hsz:=hz) (knd:=tupleKind (m9 X.prog X.w)) (show (tupleKind (m9 X.prog X.w)).room X.A from Nat.lt_of_succ_lt hu) (O6 I3.hok eb) dd fun h' dd' hs=>wpAny_pure ?_))
 show wpAny _ _ (forIn [] PUnit.unit _) _ _ _
 rw[List.forIn_nil]
 refine wpAny_pure ⟨.ref s.heap.objs.size,_,?_,rfl,q2⟩
 obtain ⟨qo,es,ep,hq,h2,h3,h4,_,h5⟩:=dd'
 refine Z6 I3 (by rw[e];exact True.intro) hs ⟨qo,hq⟩ ⟨by show 1<=sizeLine;decide,hd,_,(rel.put ks eb rx).keeps fun c ys ec=>?_,qo,es,ep,hq,h2,h3,h4,h5⟩
 rw[d0 (U2 ec e (fun z=>nomatch z))]
 exact ec
end
section
theorem a42 {d:Addr}{o:Obj}{kvs:List (List Key × V)}{g:TG}{tb:TS}{D:Ends}{σ:St}{H:Hp} (Pv:Nat->St->Hp->Prop) (h0:Pv 0 σ H) (hl:∀i σ H,i<=kvs.length->Pv i σ H->H d=some (.frz o (.dT kvs)))
  (hs:∀i k x σ H p ka,kvs[i]?=some (k,x)->H p=none->H ka=some (.tup (k.map kV))->Pv i σ H->g (.ref p) σ (b7 H p (.tup [.ref ka,x])) fun σ2 H2=>tb { D with nx:=Pv (i+1),ct:=Pv (i+1),bk:=D.nx } σ2 H2) (hd:∀σ H,Pv kvs.length σ H->D.nx σ H):
  ∃W:Nat->Nat->St->Hp->Prop,(∃m,W 0 m σ H)/\∀i m σ H,W i m σ H ->
   ((Itd d o kvs).stop i H/\D.nx σ H) ∨ ((Itd d o kvs).go i H/\∃N:St->Hp->Prop,(∀σ' H',N σ' H'->∃m',m'<m/\W (i+1) m' σ' H')/\∀x H',(Itd d o kvs).yld i H x H'->g x σ H' fun σ2 H2=>tb { D with nx:=N,ct:=N,bk:=D.nx } σ2 H2):=by
 refine ⟨fun i m σ H=>m=kvs.length - i/\i<=kvs.length/\Pv i σ H,⟨kvs.length,by simp,Nat.zero_le _,h0⟩,?_⟩
 rintro i m σ H ⟨rfl,hi,p⟩
 have q:=hl i σ H hi p
 rcases Nat.lt_or_ge i kvs.length with h|h
 ·refine .inr ⟨⟨q,h⟩,Pv (i+1),fun σ' H' p'=>⟨_,by lia,rfl,by lia,p'⟩,fun x H' y=>?_⟩
  obtain ⟨pp,ka,k,x',hp,rfl,rfl,hx,hk⟩:=y
  exact hs i k x' σ H pp ka hx hp hk p
 ·have e:i=kvs.length:=by lia
  subst e
  exact .inl ⟨⟨q,Nat.le_refl _⟩,hd σ H p⟩
theorem wk2 {σ0:St} (hσ:σ0[0]?=some none/\σ0[1]?=some none) (x y:V):Wk σ0 ((σ0.set 0 (some x)).set 1 (some y)):=by
 refine ⟨by simp,fun j u e=>?_⟩
 by_cases h1:j=1
 ·subst h1;rw[hσ.2] at e;cases e
 ·rw[List.getElem?_set_ne (Ne.symm h1)]
  by_cases h2:j=0
  ·subst h2;rw[hσ.1] at e;cases e
  ·rw[List.getElem?_set_ne (Ne.symm h2)];exact e
end
end L2
namespace Mt
noncomputable def fr (q:Rat):List Int:=[q.num,(q.den:Int)]
noncomputable def cut (t b:Int):Rat:=mkRat t b.toNat
theorem Z3 {t b:Int} (hb:0<b):(cut t b).num=t / (Int.gcd t b:Int):=by
 have h:b.toNat≠0:=by lia
 unfold cut
 rw[Rat.mkRat_def,dif_neg h,Rat.num_normalize]
 have e:b.toNat=b.natAbs:=by lia
 rw[e];rfl
theorem a2I {t b:Int} (hb:0<b):((cut t b).den:Int)=b / (Int.gcd t b:Int):=by
 have h:b.toNat≠0:=by lia
 unfold cut
 rw[Rat.mkRat_def,dif_neg h,Rat.den_normalize]
 have e:b.toNat=b.natAbs:=by lia
 rw[e,Int.natCast_ediv]
 have e2:((b.natAbs:Nat):Int)=b:=by lia
 rw[e2];rfl
theorem a4J {t b:Int} (hb:0<b):fr (cut t b)=[t / (Int.gcd t b:Int),b / (Int.gcd t b:Int)]:=by
 unfold fr;rw[Z3 hb,a2I hb]
theorem a0i (p q:Rat):cut (p.num*q.num) ((p.den:Int)*(q.den:Int))=p*q:=by
 unfold cut
 rw[Rat.mul_def,Rat.mkRat_def]
 have e:((p.den:Int)*(q.den:Int)).toNat=p.den*q.den:=by rw[<- Int.natCast_mul];rfl
 have hp:=p.den_nz;have hq:=q.den_nz
 have h:p.den*q.den≠0:=Nat.mul_ne_zero hp hq
 rw[dif_neg (by rw[e];exact h)]
 congr 1
theorem a2D (p q:Rat):cut (p.num*(q.den:Int)+q.num*(p.den:Int)) ((p.den:Int)*(q.den:Int))=p+q:=by
 unfold cut
 rw[Rat.add_def,Rat.mkRat_def]
 have e:((p.den:Int)*(q.den:Int)).toNat=p.den*q.den:=by rw[<- Int.natCast_mul];rfl
 have hp:=p.den_nz;have hq:=q.den_nz
 have h:p.den*q.den≠0:=Nat.mul_ne_zero hp hq
 rw[dif_neg (by rw[e];exact h)]
 congr 1
theorem a1V {a b c:Int} (hc:0<c):cut a c+cut b c=cut (a+b) c:=by
 unfold cut
 have h:c.toNat≠0:=by lia
 rw[Rat.mkRat_add_mkRat _ _ h h,Rat.mkRat_eq_iff (Nat.mul_ne_zero h h) h]
 have e:((c.toNat:Nat):Int)=c:=by lia
 rw[Int.natCast_mul,e]
 grind
theorem a5m {c:Int} (hc:0<c):cut 0 c=0:=by
 unfold cut
 rw[Rat.mkRat_eq_zero (by lia)]
theorem a5Y {c:Int} (hc:0<c):cut c c=1:=by
 unfold cut
 have h:c.toNat≠0:=by lia
 have e:((c.toNat:Nat):Int)=c:=by lia
 have:mkRat c c.toNat=mkRat 1 1:=by
  rw[Rat.mkRat_eq_iff h (by decide),e];grind
 rw[this];rfl
theorem a5a {p q:Rat} (h:fr p=fr q):p=q:=by
 unfold fr at h
 simp only[List.cons.injEq,and_true] at h
 exact Rat.ext h.1 (by lia)
structure Bd (n:Nat) (q:Rat):Prop where
 num:q.num.natAbs<=2 ^ n
 den:q.den<=2 ^ n
theorem O4 (a:Int) (g:Nat):(a / (g:Int)).natAbs<=a.natAbs:=by
 rcases Nat.eq_zero_or_pos g with h|h
 ·subst h;simp
 ·have h0:(0:Int)<g:=by lia
  rcases Int.le_total 0 a with ha|ha
  ·have h1:0<=a / (g:Int):=Int.ediv_nonneg ha (by lia)
   have h2:a / (g:Int)<=a:=Int.ediv_le_self _ ha
   lia
  ·have h1:a<=a / (g:Int):=by
    rw[Int.le_ediv_iff_mul_le h0]
    have:a*(g:Int)<=a*1:=Int.mul_le_mul_of_nonpos_left ha (by lia)
    lia
   have h2:a / (g:Int)<=0:=by
    have:=Int.ediv_le_ediv h0 ha
    simpa using this
   lia
theorem Bd.cut {t b:Int}{n:Nat} (hb:0<b) (h1:t.natAbs<=2 ^ n) (h2:b.natAbs<=2 ^ n):Bd n (Mt.cut t b):=by
 refine ⟨?_,?_⟩
 ·rw[Z3 hb];exact Nat.le_trans (O4 _ _) h1
 ·have:=a2I (t:=t) hb
  have l:=O4 b (Int.gcd t b)
  lia
theorem Bd.mul {n m:Nat}{p q:Rat} (a:Bd n p) (b:Bd m q):Bd (n+m) (p*q):=by
 have hp:=p.den_nz;have hq:=q.den_nz
 rw[<- a0i]
 refine Bd.cut ?_ ?_ ?_
 ·have:=Nat.mul_pos (Nat.pos_of_ne_zero hp) (Nat.pos_of_ne_zero hq)
  rw[<- Int.natCast_mul];lia
 ·rw[Int.natAbs_mul,Nat.pow_add];exact Nat.mul_le_mul a.num b.num
 ·rw[Int.natAbs_mul,Nat.pow_add];exact Nat.mul_le_mul a.den b.den
theorem Bd.one:Bd 0 1:=⟨by decide,by decide⟩
noncomputable def addL:List Int->List Int->List Int:=List.zipWith (·+·)
noncomputable def share (ns:List Int) (k:Nat):Rat:=cut (ns.getD k 0) ns.sum
noncomputable def u0 (rs:List (List Int)):List Int->List Nat->Rat × Option (List Int)
 | ns,[]=>(1,some ns)
 | ns,k::ds=>if ns.getD k 0=0 then (0,none) else (share ns k*(u0 rs (addL ns (rs.getD k [])) ds).1,(u0 rs (addL ns (rs.getD k [])) ds).2)
theorem U3 (rs:List (List Int)) (ns:List Int):u0 rs ns []=(1,some ns):=rfl
theorem v7 (rs:List (List Int)) (ns:List Int) (k:Nat) (ds:List Nat):
  u0 rs ns (k::ds)=if ns.getD k 0=0 then (0,none) else (share ns k*(u0 rs (addL ns (rs.getD k [])) ds).1,(u0 rs (addL ns (rs.getD k [])) ds).2):=rfl
theorem V9 {rs:List (List Int)}:∀{ds:List Nat}{ns:List Int},(u0 rs ns ds).2=none->(u0 rs ns ds).1=0
 | [],ns,h=>by cases h
 | k::ds,ns,h=>by
  rw[v7] at h ⊢
  by_cases hz:ns.getD k 0=0
  ·rw[if_pos hz]
  ·rw[if_neg hz] at h ⊢
   have:=V9 (ds:=ds) (ns:=addL ns (rs.getD k [])) h
   show share ns k*_=0
   rw[this];grind
structure Urn (n m:Nat) (ns:List Int):Prop where
 len:ns.length=n
 nn:∀x∈ns,0<=x/\x<=m
 pos:0<ns.sum
structure Row (n m:Nat) (r:List Int):Prop where
 len:r.length=n
 nn:∀x∈r,0<=x/\x<=m
structure Rul (n m:Nat) (rs:List (List Int)):Prop where
 len:rs.length=n
 row:∀r∈rs,Row n m r
theorem Rul.at {n m:Nat}{rs:List (List Int)} (h:Rul n m rs) {k:Nat} (hk:k<n):Row n m (rs.getD k []):=by
 have hk':k<rs.length:=by rw[h.len];exact hk
 have:rs.getD k []=rs[k]:=by rw[List.getD_eq_getElem?_getD,List.getElem?_eq_getElem hk'];rfl
 rw[this];exact h.row _ (List.getElem_mem hk')
theorem sum_nonneg:∀{l:List Int},(∀x∈l,0<=x)->0<=l.sum
 | [],_=>by simp
 | a::l,h=>by
  rw[List.sum_cons]
  have h1:=h a List.mem_cons_self
  have h2:=sum_nonneg fun x hx=>h x (List.mem_cons_of_mem _ hx)
  lia
theorem sum_le {m:Int}:∀{l:List Int},(∀x∈l,x<=m)->l.sum<=m*(l.length:Int)
 | [],_=>by simp
 | a::l,h=>by
  rw[List.sum_cons,List.length_cons]
  have h1:=h a List.mem_cons_self
  have h2:=sum_le fun x hx=>h x (List.mem_cons_of_mem _ hx)
  have e:m*((l.length+1:Nat):Int)=m*(l.length:Int)+m:=by rw[Int.natCast_add,Int.mul_add];simp
  lia
theorem addL_sum:∀{a b:List Int},a.length=b.length->(addL a b).sum=a.sum+b.sum
 | [],[],_=>by simp[addL]
 | x::a,y::b,h=>by
  have ih:=addL_sum (a:=a) (b:=b) (by simpa using h)
  show ((x+y)::addL a b).sum=_
  rw[List.sum_cons,List.sum_cons,List.sum_cons,ih];lia
 | [],_::_,h=>by simp at h
 | _::_,[],h=>by simp at h
theorem addL_mem:∀{a b:List Int}{x:Int},x∈addL a b->∃y∈a,∃z∈b,x=y+z
 | [],b,x,h=>by simp[addL] at h
 | _::_,[],x,h=>by simp[addL] at h
 | p::a,q::b,x,h=>by
  rcases List.mem_cons.mp (show x∈(p+q)::addL a b from h) with e|h
  ·exact ⟨p,List.mem_cons_self,q,List.mem_cons_self,e⟩
  ·obtain ⟨y,hy,z,hz,e⟩:=addL_mem h
   exact ⟨y,List.mem_cons_of_mem _ hy,z,List.mem_cons_of_mem _ hz,e⟩
theorem Urn.add {n m j:Nat}{ns r:List Int} (h:Urn n m ns) (hr:Row n j r):Urn n (m+j) (addL ns r):=by
 have hl:ns.length=r.length:=by rw[h.len,hr.len]
 refine ⟨?_,fun x hx=>?_,?_⟩
 ·unfold addL;rw[List.length_zipWith,h.len,hr.len];lia
 ·obtain ⟨y,hy,z,hz,e⟩:=addL_mem hx
  have:=h.nn y hy;have:=hr.nn z hz;lia
 ·rw[addL_sum hl]
  have:=sum_nonneg (l:=r) fun x hx=>(hr.nn x hx).1
  have:=h.pos;lia
theorem Urn.getD {n m:Nat}{ns:List Int} (h:Urn n m ns) (k:Nat):0<=ns.getD k 0/\ns.getD k 0<=m:=by
 rw[List.getD_eq_getElem?_getD]
 cases e:ns[k]? with
 | none=>simp
 | some x=>exact h.nn x (List.mem_of_getElem? e)
noncomputable def psh (ns:List Int) (i:Nat):Rat:=cut (ns.take i).sum ns.sum
theorem a5D {ns:List Int} (h:0<ns.sum):psh ns 0=0:=by unfold psh;simp[a5m h]
theorem a5p {ns:List Int} (h:0<ns.sum) (i:Nat):psh ns (i+1)=psh ns i+share ns i:=by
 unfold psh share
 rw[a1V h]
 congr 1
 rw[List.take_add_one,List.sum_append,List.getD_eq_getElem?_getD]
 cases ns[i]? <;> simp
theorem a6A {ns:List Int} (h:0<ns.sum):psh ns ns.length=1:=by
 unfold psh;rw[List.take_length,a5Y h]
noncomputable def sumQ:List Rat->Rat
 | []=>0
 | q::r=>q+sumQ r
theorem sumQ_append:∀a b:List Rat,sumQ (a++b)=sumQ a+sumQ b
 | [],b=>by show sumQ b=0+sumQ b;grind
 | q::a,b=>by show q+sumQ (a++b)=q+sumQ a+sumQ b;rw[sumQ_append a b];grind
theorem n8 {α:Type}{f g:α->Rat}:∀{l:List α},(∀a∈l,f a=g a)->sumQ (l.map f)=sumQ (l.map g)
 | [],_=>rfl
 | a::l,h=>by
  show f a+_=g a+_
  rw[h a List.mem_cons_self,n8 fun x hx=>h x (List.mem_cons_of_mem _ hx)]
theorem a2U {n j:Nat}{rs:List (List Int)} (hr:Rul n j rs):∀{ds:List Nat}{ns u:List Int}{m:Nat},Urn n m ns->(∀k∈ds,k<n)->(u0 rs ns ds).2=some u->Urn n (m+j*ds.length) u
 | [],ns,u,m,h,_,e=>by
  rw[U3] at e
  have:ns=u:=Option.some.inj e
  subst this;simpa using h
 | k::ds,ns,u,m,h,hk,e=>by
  rw[v7] at e
  by_cases hz:ns.getD k 0=0
  ·rw[if_pos hz] at e;cases e
  ·rw[if_neg hz] at e
   have h2:=a2U hr (h.add (hr.at (hk k List.mem_cons_self))) (fun x hx=>hk x (List.mem_cons_of_mem _ hx)) e
   have e2:m+j+j*ds.length=m+j*(k::ds).length:=by rw[List.length_cons,Nat.mul_succ];lia
   rw[e2] at h2;exact h2
end Mt
namespace Md
open PySem PySem.Spec L2 Mt
noncomputable def kI (ns:List Int):List Key:=ns.map Sum.inl
theorem a3C (ns:List Int):(kI ns).map kV=ns.map V.int:=by
 unfold kI;rw[List.map_map];rfl
theorem kI_inj:∀{a b:List Int},kI a=kI b->a=b
 | [],[],_=>rfl
 | [],_::_,h=>by cases h
 | _::_,[],h=>by cases h
 | x::a,y::b,h=>by
  have h':(Sum.inl x:Key)::kI a=Sum.inl y::kI b:=h
  injection h' with h1 h2
  injection h1 with h1
  rw[h1,kI_inj h2]
noncomputable def E8 (rs:List (List Int)) (i:Nat):List Int->Nat->Int
 | [],_=>0
 | c::cs,j=>c*(rs.getD j []).getD i 0+E8 rs i cs (j+1)
noncomputable def n6 (u:List Int) (rs:List (List Int)) (c:List Int):List Int:=(List.range u.length).map fun i=>u.getD i 0+E8 rs i c 0
noncomputable def inc (c:List Int) (i:Nat):List Int:=c.set i (c.getD i 0+1)
theorem a1p (rs:List (List Int)) (i:Nat):∀(c:List Int) (j k:Nat),k<c.length->E8 rs i (inc c k) j=E8 rs i c j+(rs.getD (j+k) []).getD i 0
 | [],_,_,h=>by simp at h
 | x::c,j,0,_=>by
  show (x+1)*_+E8 rs i c (j+1)=x*_+E8 rs i c (j+1)+_
  rw[Int.add_mul];simp;lia
 | x::c,j,k+1,h=>by
  have ih:=a1p rs i c (j+1) k (by simpa using h)
  show x*_+E8 rs i (inc c k) (j+1)=x*_+E8 rs i c (j+1)+_
  rw[ih,show j+1+k=j+(k+1) by lia];lia
theorem a2Z {n:Nat}{u c:List Int}{rs:List (List Int)}{k:Nat} (hu:u.length=n) (hc:c.length=n) (hR:Rul n 5 rs) (hk:k<n):n6 u rs (inc c k)=addL (n6 u rs c) (rs.getD k []):=by
 have hr:=hR.at hk
 have l1:(n6 u rs c).length=n:=by unfold n6;simp[hu]
 apply List.ext_getElem?
 intro i
 unfold addL
 rw[List.getElem?_zipWith]
 unfold n6
 rw[List.getElem?_map,List.getElem?_map]
 by_cases hi:i<n
 ·rw[List.getElem?_range (by lia)]
  rw[List.getElem?_eq_getElem (l:=rs.getD k []) (by rw[hr.len];exact hi)]
  simp only[Option.map_some]
  rw[a1p rs i c 0 k (by lia),Nat.zero_add]
  congr 1
  rw[show (rs.getD k []).getD i 0=(rs.getD k [])[i]'(by rw[hr.len];exact hi) by rw[List.getD_eq_getElem?_getD (l:=rs.getD k []),List.getElem?_eq_getElem (by rw[hr.len];exact hi)];rfl]
  lia
 ·rw[List.getElem?_eq_none (by simp;lia)]
  simp
theorem a0L (rs:List (List Int)) (i:Nat):∀(n j:Nat),E8 rs i (List.replicate n 0) j=0
 | 0,_=>rfl
 | n+1,j=>by
  show (0:Int)*_+E8 rs i (List.replicate n 0) (j+1)=0
  rw[a0L rs i n (j+1)];lia
theorem a1t (u:List Int) (rs:List (List Int)) (n:Nat):n6 u rs (List.replicate n 0)=u:=by
 unfold n6
 apply List.ext_getElem?
 intro i
 rw[List.getElem?_map]
 by_cases hi:i<u.length
 ·rw[List.getElem?_range hi,Option.map_some,a0L,List.getD_eq_getElem?_getD,List.getElem?_eq_getElem hi];simp
 ·rw[List.getElem?_eq_none (by simp;lia),List.getElem?_eq_none (by lia)];rfl
end Md
namespace L2
open PySem PySem.Spec PyProof.Rows
theorem _root_.PySem.Heap.IsList.at' {h h':Heap}{a:Addr}{items:Array Value} (x:h.IsList a items) (e:∀o,h.get? a=some o->h'.get? a=some o):h'.IsList a items:=let ⟨o,ho,r⟩:=x;⟨o,e _ ho,r⟩
section
variable {prog:Program}{w:World}{A:Around}{E:Value->Shared->Prop}{s:Shared}
theorem _root_.PySem.Heap.IsList.lt' {h:Heap}{a:Addr}{items:Array Value} (x:h.IsList a items):a<h.objs.size:=let ⟨_,ho,_⟩:=x;Heap.lt_size ho
structure ZipL (h:Heap) (z TI TO i1 i2 t1 t2:Addr) (k:Nat):Prop where
 zz:IsZip h z TI TO .none
 ti:IsPair h TI (.ref i1) (.ref i2)
 tO:∃a b,IsPair h TO a b
 it1:h.IsListIter i1 t1 k
 it2:h.IsTupleIter i2 t2 k
theorem a4T {z TI TO i1 i2 t1 t2:Addr}{xs ys:Array Value}{k:Nat}{x y:Value}{Q:Option Value->Shared->Prop} (D:ZipD z TI TO i1 i2 t1 t2) (Z:ZipL s.heap z TI TO i1 i2 t1 t2 k) (hl1:s.heap.IsList t1 xs) (hl2:s.heap.IsTuple t2 ys)
  (hx:xs[k]?=some x) (hy:ys[k]?=some y)
  (hQ:∀h',IsZip h' z TI TO (rawInt s.heap.objs.size)->IsPair h' TO x y->h'.IsListIter i1 t1 (k+1)->h'.IsTupleIter i2 t2 (k+1)->IsPair h' s.heap.objs.size x y->h'.objs.size=s.heap.objs.size+1 ->
   (∀c o,c ∉ [z,TO,i1,i2]->s.heap.get? c=some o->h'.get? c=some o)->Q (some (.ref s.heap.objs.size)) { s with heap:=h' }):
  wpAny (model prog w) A (pyNext (.ref z)) Q E s:=by
 obtain ⟨hz,hTI,⟨a,b,hTO⟩,h1,h2⟩:=Z
 have hT:s.TypeIs (.ref z) "zip":=⟨_,hz,rfl⟩
 unfold pyNext
 refine wpAny_bind (wpAny_attempt (wpAny_callSpecial?_slot (name:=Str.ofString "__next__") hT F.slot_zip_next (wpAny_call_entry F.slot_zip_next hT F.entry_zip_next ?_ (F.args_zip_next_1 _))))
 show wpAny _ _ (field (.ref z) 2 >>= _) _ _ _
 refine wpAny_bind (wpAny_field hz rfl (x:=.bool false) rfl ?_)
 show wpAny _ _ (field (.ref z) 3 >>= _) _ _ _
 refine wpAny_bind (wpAny_field hz rfl (x:=.ref TI) rfl (wpAny_bind (wpAny_seqItems hTI rfl ?_)))
 show wpAny _ _ (Builtin.SmallTypes.ownedTupleIsFree (.ref z) >>= _) _ _ _
 refine wpAny_bind ?_
 unfold Builtin.SmallTypes.ownedTupleIsFree
 refine wpAny_bind (wpAny_field hz rfl (x:=.none) rfl (wpAny_pure ?_))
 simp only[if_true]
 refine wpAny_bind (wpAny_rule (wpAny_bind (wpAny_field hz rfl (x:=.ref TO) rfl (wpAny_bind (wpAny_setField_rec hz (by simp) fun g1 z1 s1=>?_)))))
 replace z1:IsZip g1 z TI TO .ellipsis:=z1
 refine wpAny_bind ?_
 simp only[List.zipIdx_cons,List.zipIdx_nil,List.forIn_cons,List.forIn_nil]
 refine wpAny_bind (wpAny_bind (wpAny_onRaise ?_))
 show wpAny _ _ (Builtin.SmallTypes.nextOf (.ref i1) >>= _) _ _ _
 refine wpAny_bind (wpAny_nextOf_list_item (h1.at fun o e=>s1.extBut _ o D.a3 e) (hl1.at' fun o e=>s1.extBut _ o D.e1 e) hx fun g2 j1 s2=>wpAny_pure ?_)
 have o2:IsPair g2 TO a b:=s2.extBut _ _ D.c1 (s1.extBut _ _ D.a2 hTO)
 refine wpAny_bind (wpAny_seqItems o2 rfl (wpAny_bind (wpAny_updateSeq_pair o2 fun g3 o3 s3=>?_)))
 replace o3:IsPair g3 TO x b:=o3
 refine wpAny_bind (wpAny_letGo (wpAny_pure (wpAny_bind (wpAny_bind (wpAny_onRaise ?_)))))
 show wpAny _ _ (Builtin.SmallTypes.nextOf (.ref i2) >>= _) _ _ _
 refine wpAny_bind (L1 (h2.at fun o e=>s3.extBut _ o D.c2.symm (s2.extBut _ o D.d1.symm (s1.extBut _ o D.a4 e))) (hl2.at fun o e=>s3.extBut _ o D.f2 (s2.extBut _ o D.f3 (s1.extBut _ o D.f1 e))) hy fun g4 j2 s4=>wpAny_pure ?_)
 have o4:IsPair g4 TO x b:=s4.extBut _ _ D.c2 o3
 refine wpAny_bind (wpAny_seqItems o4 rfl (wpAny_bind (wpAny_updateSeq_pair o4 fun g5 o5 s5=>?_)))
 replace o5:IsPair g5 TO x y:=o5
 refine wpAny_bind (wpAny_letGo (wpAny_pure (wpAny_pure ?_)))
 refine wpAny_bind (wpAny_seqItems o5 rfl (wpAny_bind (wpAny_newTuple ?_)))
 have hsz:g5.objs.size=s.heap.objs.size:=by rw[s5.1,s4.1,s3.1,s2.1,s1.1]
 have z5:IsZip g5 z TI TO .ellipsis:=s5.extBut _ _ D.a2.symm (s4.extBut _ _ D.a4.symm (s3.extBut _ _ D.a2.symm (s2.extBut _ _ D.a3.symm z1)))
 have k5:∀c o,c ∉ [z,TO,i1,i2]->s.heap.get? c=some o->g5.get? c=some o:=fun c o hc e=>by
  simp only[List.mem_cons,List.not_mem_nil,or_false,not_or] at hc
  exact s5.extBut _ _ hc.2.1 (s4.extBut _ _ hc.2.2.2 (s3.extBut _ _ hc.2.1 (s2.extBut _ _ hc.2.2.1 (s1.extBut _ _ hc.1 e))))
 have m1:g5.IsListIter i1 t1 (k+1):=j1.at fun o e=>s5.extBut _ o D.c1.symm (s4.extBut _ o D.d1 (s3.extBut _ o D.c1.symm e))
 have m2:g5.IsTupleIter i2 t2 (k+1):=j2.at fun o e=>s5.extBut _ o D.c2.symm e
 show wpAny _ _ (Builtin.SmallTypes.ownedTupleHandOut (.ref z) (.ref g5.objs.size) >>= _) _ _ _
 refine wpAny_bind ?_
 unfold Builtin.SmallTypes.ownedTupleHandOut
 have z6:IsZip (g5.push { cls:=.type "tuple",data:=.seq #[x,y] }) z TI TO .ellipsis:=Heap.get?_push_of_some _ z5
 refine wpAny_bind (wpAny_setField_rec z6 (by simp) fun g7 z7 s7=>?_)
 replace z7:IsZip g7 z TI TO (rawInt g5.objs.size):=z7
 refine wpAny_setField_rec z7 (by simp) fun g8 z8 s8=>?_
 replace z8:IsZip g8 z TI TO (rawInt g5.objs.size):=z8
 have up:∀c o,c≠z->g5.get? c=some o->g8.get? c=some o:=fun c o hc e=>s8.extBut _ _ hc (s7.extBut _ _ hc (Heap.get?_push_of_some _ e))
 have new8:IsPair g8 g5.objs.size x y:=s8.extBut _ _ (Nat.ne_of_gt (Heap.lt_size z5)) (s7.extBut _ _ (Nat.ne_of_gt (Heap.lt_size z5)) (Heap.get?_push_size _ rfl))
 have size8:g8.objs.size=g5.objs.size+1:=by rw[s8.1,s7.1,Heap.size_push]
 rw[hsz] at z8 new8 size8
 refine wpAny_pure ⟨_,rfl,wpAny_pure ?_⟩
 show Q (some (.ref g5.objs.size)) _
 rw[hsz]
 exact hQ g8 z8 (up _ _ D.a2 o5) (m1.at fun o e=>up _ o D.a3 e) (m2.at fun o e=>up _ o D.a4 e) new8 size8 fun c o hc e=>up c o (fun q=>hc (by simp[q])) (k5 c o hc e)
theorem a5A {z TI TO i1 i2 t1 t2:Addr}{xs:Array Value}{k:Nat}{Q:Option Value->Shared->Prop} (hh:A.handled=none) (D:ZipD z TI TO i1 i2 t1 t2) (Z:ZipL s.heap z TI TO i1 i2 t1 t2 k) (hl1:s.heap.IsList t1 xs)
  (hx:xs[k]?=none) (hQ:∀h',(∀c o,c ∉ [z,TO,i1,i2]->s.heap.get? c=some o->h'.get? c=some o)->Q none { s with heap:=h' }):wpAny (model prog w) A (pyNext (.ref z)) Q E s:=by
 obtain ⟨hz,hTI,⟨a,b,hTO⟩,h1,h2⟩:=Z
 have hT:s.TypeIs (.ref z) "zip":=⟨_,hz,rfl⟩
 unfold pyNext
 refine wpAny_bind (wpAny_attempt (wpAny_callSpecial?_slot (name:=Str.ofString "__next__") hT F.slot_zip_next (wpAny_call_entry F.slot_zip_next hT F.entry_zip_next ?_ (F.args_zip_next_1 _))))
 show wpAny _ _ (field (.ref z) 2 >>= _) _ _ _
 refine wpAny_bind (wpAny_field hz rfl (x:=.bool false) rfl ?_)
 show wpAny _ _ (field (.ref z) 3 >>= _) _ _ _
 refine wpAny_bind (wpAny_field hz rfl (x:=.ref TI) rfl (wpAny_bind (wpAny_seqItems hTI rfl ?_)))
 show wpAny _ _ (Builtin.SmallTypes.ownedTupleIsFree (.ref z) >>= _) _ _ _
 refine wpAny_bind ?_
 unfold Builtin.SmallTypes.ownedTupleIsFree
 refine wpAny_bind (wpAny_field hz rfl (x:=.none) rfl (wpAny_pure ?_))
 simp only[if_true]
 refine wpAny_bind (wpAny_rule (wpAny_bind (wpAny_field hz rfl (x:=.ref TO) rfl (wpAny_bind (wpAny_setField_rec hz (by simp) fun g1 z1 s1=>?_)))))
 replace z1:IsZip g1 z TI TO .ellipsis:=z1
 refine wpAny_bind ?_
 simp only[List.zipIdx_cons,List.zipIdx_nil,List.forIn_cons,List.forIn_nil]
 refine wpAny_bind (wpAny_bind (wpAny_onRaise ?_))
 show wpAny _ _ (Builtin.SmallTypes.nextOf (.ref i1) >>= _) _ _ _
 refine wpAny_bind (wpAny_nextOf_list_end hh (h1.at fun o e=>s1.extBut _ o D.a3 e) (hl1.at' fun o e=>s1.extBut _ o D.e1 e) hx fun g2 e s2 he=>?_)
 obtain ⟨oe,hoe,hce⟩:=he
 have z2:IsZip g2 z TI TO .ellipsis:=s2 _ _ D.a3.symm z1
 have hez:e≠z:=fun q=>by subst q;rw[z2] at hoe;cases hoe;simp at hce
 refine wpAny_setField_rec z2 (by simp) fun g3 _ s3=>?_
 refine wpAny_bind (wpAny_isInstance (T:="StopIteration") (b:=true) ⟨oe,s3.extBut _ _ hez hoe,hce⟩ isSubtype_stop (wpAny_pure (hQ g3 fun c o hc q=>?_)))
 simp only[List.mem_cons,List.not_mem_nil,or_false,not_or] at hc
 exact s3.extBut _ _ hc.1 (s2 _ _ hc.2.2.1 (s1.extBut _ _ hc.1 q))
noncomputable abbrev lit (t:Addr):Obj:={ cls:=.type "list_iterator",data:=.fields #[.ref t,.int 0 0] }
noncomputable abbrev a4E (h:Heap) (t1 t2:Addr):Heap:=((((h.push (lit t1)).push (tit t2)).push (tpr (.ref h.objs.size) (.ref (h.objs.size+1)))).push (tpr .none .none)).push (zob (h.objs.size+2) (h.objs.size+3))
theorem a5s (t1 t2:Addr) (xs ys:Array Value):
  Meets (Builtin.«zip.__new__» ⟨[.type "zip",.ref t1,.ref t2],[]⟩) (fun _ R s=>s.heap.IsList t1 xs/\s.heap.IsTuple t2 ys/\R (.ok (.ret (.ref (s.heap.objs.size+4)))) { s with heap:=a4E s.heap t1 t2 }):=
 .of_wp fun prog w A R s h=>by
  obtain ⟨hp,g,d,tk,os⟩:=s;obtain ⟨hl1,hl2,h⟩:=h
  have hsub:=sub_zip
  have hL1:Heap.IsList (Shared.heap ⟨hp,g,d,tk,os⟩) t1 xs:=hl1
  have hL2:Heap.IsTuple (Shared.heap ⟨hp.push (lit t1),g,d,tk,os⟩) t2 ys:=Heap.IsTuple.push hl2 _
  wp_walk using wpAny_pyIter_list hL1,wpAny_pyIter_tuple hL2
  simp only[Heap.size_push]
  exact ⟨_,rfl,h⟩
theorem a4P {t1 t2:Addr}{xs ys:Array Value}{Q:Value->Shared->Prop} (hl1:s.heap.IsList t1 xs) (hl2:s.heap.IsTuple t2 ys)
  (h:∀h',ZipL h' (s.heap.objs.size+4) (s.heap.objs.size+2) (s.heap.objs.size+3) s.heap.objs.size (s.heap.objs.size+1) t1 t2 0->(∀c o,s.heap.get? c=some o->h'.get? c=some o)->h'.objs.size=s.heap.objs.size+5 ->
   Q (.ref (s.heap.objs.size+4)) { s with heap:=h' }):wpAny (model prog w) A (call (.type "zip") [.ref t1,.ref t2]) Q E s:=by
 refine callType_new F.called_zip (by decide) (F.typeCall_zip_2 _ _) (F.newCall_zip_2 _ _) (fun obj=>F.args_object_init_3 obj _ _) F.entry_zip_new (a5s t1 t2 xs ys) ⟨hl1,hl2,?_⟩
 have up:∀{b:Addr}{o:Obj} (h0:Heap) (x:Obj),h0.get? b=some o->(h0.push x).get? b=some o:=fun _ _ e=>Heap.get?_push_of_some _ e
 have here:∀(h0:Heap) (x:Obj) (n:Nat),x.isFreed=false->h0.objs.size=n->(h0.push x).get? n=some x:=fun h0 x n hf e=>by subst e;exact Heap.get?_push_size _ hf
 have Z:ZipL (a4E s.heap t1 t2) (s.heap.objs.size+4) (s.heap.objs.size+2) (s.heap.objs.size+3) s.heap.objs.size (s.heap.objs.size+1) t1 t2 0 :=
  ⟨here _ _ _ rfl (by simp only[Heap.size_push]),up _ _ (up _ _ (here _ _ _ rfl (by simp only[Heap.size_push]))),⟨_,_,up _ _ (here _ _ _ rfl (by simp only[Heap.size_push]))⟩,
   ⟨_,up _ _ (up _ _ (up _ _ (up _ _ (here _ _ _ rfl rfl)))),rfl,rfl⟩,⟨_,up _ _ (up _ _ (up _ _ (here _ _ _ rfl (by simp only[Heap.size_push])))),rfl,rfl⟩⟩
 exact ⟨⟨_,Z.zz,rfl⟩,h _ Z (fun c o e=>up _ _ (up _ _ (up _ _ (up _ _ (up _ _ e))))) (by simp only[Heap.size_push])⟩
end
section
variable {X:Cx}{pins:List (Addr × Obj)}{σ:St}{H:Hp}{s:Shared}
noncomputable def a76 (K:W.Frag) (a b:Addr):It :=
 ⟨fun i H=>∃xs ys x y,SqL K H a xs/\SqT K H b ys/\xs[i]?=some x/\ys[i]?=some y,fun i H v H'=>∃p x y,H p=none/\v=.ref p/\H'=b7 H p (.tup [x,y])/\(∀xs,SqL K H a xs->xs[i]?=some x)/\∀ys,SqT K H b ys->ys[i]?=some y,
  fun i H=>∃xs,SqL K H a xs/\xs.length<=i⟩
theorem a4r {P:Program}{w:World}{K:W.Frag}{es:List Expr}{kk:Nat}{pos:Pos}{a b z TI TO i1 i2:Addr} (D:ZipD z TI TO i1 i2 a b):
  Turn P w K (.Tuple es kk pos) (a76 K a b) [z,TI,TO,i1,i2] z (fun i h=>ZipL h z TI TO i1 i2 a b i) where
 mem:=by simp
 obj:=fun i h st c hc=>by
  obtain ⟨hz,hTI,⟨_,_,hTO⟩,⟨_,h1,_,d1⟩,⟨_,h2,_,d2⟩⟩:=st
  simp only[List.mem_cons,List.not_mem_nil,or_false] at hc
  rcases hc with rfl|rfl|rfl|rfl|rfl
  ·exact ⟨_,hz,fun v q=>by cases q⟩
  ·exact ⟨_,hTI,fun v q=>by cases q⟩
  ·exact ⟨_,hTO,fun v q=>by cases q⟩
  ·exact ⟨_,h1,fun v q=>by rw[d1] at q;cases q⟩
  ·exact ⟨_,h2,fun v q=>by rw[d2] at q;cases q⟩
 keep:=fun i h h' st k=>by
  obtain ⟨hz,hTI,⟨_,_,hTO⟩,h1,h2⟩:=st
  exact ⟨k _ (by simp) _ hz,k _ (by simp) _ hTI,⟨_,_,k _ (by simp) _ hTO⟩,h1.at fun o e=>k _ (by simp) o e,h2.at fun o e=>k _ (by simp) o e⟩
 item:=by
  intro X hP hw hK hc i pins s σ H E I hf st hg
  subst hP hw hK
  obtain ⟨xs,ys,x,y,ha,hb,hx,hy⟩:=hg
  obtain ⟨its,r1,p1,_⟩:=I.list ha
  obtain ⟨its2,r2,p2,_⟩:=I.tuple hb
  obtain ⟨u,hu,ru⟩:=r1.get hx
  obtain ⟨v,hv,rv⟩:=r2.get hy
  refine a4T D st (show s.heap.IsList a its.toArray from p1.isList) (show s.heap.IsTuple b its2.toArray from p2) (x:=u) (y:=v) (by simpa using hu) (by simpa using hv) fun h' z1 o1 j1 j2 new sz keep=>?_
  refine ⟨_,rfl,wpAny_letOwnedTupleGo_zip (s:={ s with heap:=h' }) z1 fun h2 z2 sb=>?_⟩
  have hn:H s.heap.objs.size=none:=I.hok.fresh (Nat.le_refl _)
  have zlt:z<s.heap.objs.size:=Heap.lt_size st.zz
  have k2:∀c o,c ∉ [z,TI,TO,i1,i2]->s.heap.get? c=some o->h2.get? c=some o:=fun c o hc e=>by
   simp only[List.mem_cons,List.not_mem_nil,or_false,not_or] at hc
   exact sb.extBut _ _ hc.1 (keep c o (by simp only[List.mem_cons,List.not_mem_nil,or_false,not_or];exact ⟨hc.1,hc.2.2.1,hc.2.2.2.1,hc.2.2.2.2⟩) e)
  have e0:h2.get? s.heap.objs.size=some { cls:=.type "tuple",data:=.seq #[u,v] }:=sb.extBut _ _ (Nat.ne_of_gt zlt) new
  have pne:∀c o,s.heap.get? c=some o->c≠s.heap.objs.size:=fun c o e=>Nat.ne_of_lt (Heap.lt_size e)
  have nit:∀c u,H c=some u->c ∉ [z,TI,TO,i1,i2]:=fun c u e q=>by rw[(hf c q).1] at e;cases e
  have hok:HOk X.prog X.w (b7 H s.heap.objs.size (.tup [x,y])) h2:=fun c ob e=>by
   by_cases hq:c=s.heap.objs.size
   ·subst hq
    rw[b6] at e;cases e
    exact ⟨by show 2<=sizeLine;decide,[u,v],.cons ru (.cons rv .nil),⟨_,e0,rfl,_,rfl⟩⟩
   ·rw[d0 hq] at e
    refine (I.hok c ob e).stay (fun d w' hd q=>k2 d w' ?_ q) (fun d q=>by rw[d0 (d6 q hn)];exact q) fun d xs q=>by rw[d0 (d6 q hn)];exact q
    rcases hd with rfl|hd
    ·exact nit d ob e
    ·exact nit d _ hd
  have I2:Inv X pins σ (b7 H s.heap.objs.size (.tup [x,y])) { s with heap:=h2 }:=by
   refine I.step (g':=s.gens) (d':=s.drawn) (t':=s.toks) (ch:=[z,TI,TO,i1,i2]) (fun c hc=>⟨(hf c hc).2.2.2.1,(hf c hc).2.1,(hf c hc).2.2.2.2.1,(hf c hc).2.2.2.2.2⟩) (fun c o _ _ hc e _=>k2 c o hc e) (fun c o _ _ hc e _=>⟨o.slots,k2 c o hc e⟩)
    (fun c o _ e n=>by rw[d0 (pne c o e)];exact n) (fun c o hc e=>⟨o,k2 c o hc e⟩) (fun c xs e=>by rw[d0 (d6 e hn)];exact e) (fun c o u e=>by rw[d0 (d6 e hn)];exact e) (fun c ps e=>⟨#[],by rw[d0 (d6 e hn),e];simp⟩) (fun m hm=>?_) hok I.bare
   obtain ⟨o,es,ep,ho,r⟩:=hm
   exact ⟨o,es,ep,k2 _ o (fun q=>(hf _ q).2.1 rfl) ho,r⟩
  refine ⟨.ref s.heap.objs.size,_,I2,rfl,⟨_,x,y,hn,rfl,rfl,fun xs' h'=>by rw[I.list_inj h' ha];exact hx,fun ys' h'=>by rw[I.tuple_inj h' hb];exact hy⟩,?_,fun c hc=>?_⟩
  ·exact ⟨z2,sb.extBut _ _ D.a1 (keep _ _ (by simp only[List.mem_cons,List.not_mem_nil,or_false,not_or];exact ⟨D.a1,D.b1,D.b2,D.b3⟩) st.ti),⟨_,_,sb.extBut _ _ D.a2 o1⟩,j1.at fun o e=>sb.extBut _ o D.a3 e,j2.at fun o e=>sb.extBut _ o D.a4 e⟩
  ·have hlt:c<s.heap.objs.size:=by
    obtain ⟨hz,hTI,⟨_,_,hTO⟩,⟨_,h1,_⟩,⟨_,h2,_⟩⟩:=st
    simp only[List.mem_cons,List.not_mem_nil,or_false] at hc
    rcases hc with rfl|rfl|rfl|rfl|rfl
    ·exact Heap.lt_size hz
    ·exact Heap.lt_size hTI
    ·exact Heap.lt_size hTO
    ·exact Heap.lt_size h1
    ·exact Heap.lt_size h2
   rw[d0 (Nat.ne_of_lt hlt)]
   exact (hf c hc).1
 done:=by
  intro X hP hw hK hc i pins s σ H E I hf st hg
  subst hP hw hK
  obtain ⟨xs,ha,hx⟩:=hg
  obtain ⟨its,r1,p1,_⟩:=I.list ha
  have hl:=r1.length
  refine a5A (I.ok.hd hc) D st (show s.heap.IsList a its.toArray from p1.isList) (by simp;lia) fun h' keep=>⟨rfl,I.turnedL (t':=s.toks) (ch:=[z,TI,TO,i1,i2]) (fun c o hc e=>keep c o (fun q=>hc ?_) e) hf⟩
  simp only[List.mem_cons,List.not_mem_nil,or_false] at q ⊢
  rcases q with q|q|q|q
  ·exact .inl q
  ·exact .inr (.inr (.inl q))
  ·exact .inr (.inr (.inr (.inl q)))
  ·exact .inr (.inr (.inr (.inr q)))
 self:=fun _ _ _ _ _ st h=>wpAny_pyIter_zip st.zz h
end
end L2
namespace L2
open PySem PySem.Spec PyProof.Rows
section
variable {X:Cx}{K:W.Frag}
noncomputable def a6k (K:W.Frag) (ta:TA):TI:=fun σ H R=>ta σ H fun vs H1=>∃a b xs ys,vs=[.ref a,.ref b]/\SqT K H1 b ys/\((SqT K H1 a xs/\R (Itz K a b) H1) ∨ (SqL K H1 a xs/\R (a76 K a b) H1))
theorem a6E {e1 e2:Expr}{es:List Expr}{kk:Nat}{pt p pos:Pos}{ta:TA} (hg:Gl X "zip") (hm:X.mg "zip"=none) (ha:PA X [e1,e2] ta) (hs:starEach [e1,e2] X.env=[(false,eval e1 X.env),(false,eval e2 X.env)]:=by rfl) (hs2:starEach [e2] X.env=[(false,eval e2 X.env)]:=by rfl):
  PI X (.Tuple es kk pt) (.Call (.Name "zip" p) [e1,e2] [] pos) (a6k X.K ta):=by
 intro pins s σ H R I h
 refine Call_ (J9 I hg hm boot_zip (PyProof.Rows.callWith_type1 (f7 (ha pos pins s σ H _ I h) fun us s1 ⟨vs,H1,I1,r1,q1⟩=>?_) (by rw[hs,hs2]) (by rw[hs2];rfl)))
 obtain ⟨a,b,xs,ys,rfl,hy,hx⟩:=q1
 cases r1 with
 | cons ra rr =>
  cases rr with
  | cons rb rr =>
   cases rr
   cases ra
   cases rb
   obtain ⟨its2,r2,p2,_⟩:=I1.tuple hy
   have lo:∀c,c∈[s1.heap.objs.size+4,s1.heap.objs.size+2,s1.heap.objs.size+3,s1.heap.objs.size,s1.heap.objs.size+1]->s1.heap.objs.size<=c:=fun c hc=>by
    simp only[List.mem_cons,List.not_mem_nil,or_false] at hc
    rcases hc with rfl|rfl|rfl|rfl|rfl <;> first|exact Nat.le_add_right _ _|exact Nat.le_refl _
   rcases hx with ⟨hx,q⟩|⟨hx,q⟩
   ·obtain ⟨its,r1,p1,_⟩:=I1.tuple hx
    refine a0C (show s1.heap.IsTuple a its.toArray from p1) (show s1.heap.IsTuple b its2.toArray from p2) fun h' Z keep sz=>?_
    refine wpAny_pyIter_zip (s:={ s1 with heap:=h' }) Z.zz ?_
    have I2:Inv X pins σ H1 { s1 with heap:=h' }:=I1.kept (t':=s1.toks) keep
    exact ⟨s1.heap.objs.size+4,[s1.heap.objs.size+4,s1.heap.objs.size+2,s1.heap.objs.size+3,s1.heap.objs.size,s1.heap.objs.size+1],_,_,H1,rfl,I2,a2d (ZipD.new p1.lt p2.lt),Z,fun c hc=>I1.fpOk (lo c hc) (I1.hok.fresh (lo c hc)),q⟩
   ·obtain ⟨its,r1,p1,_⟩:=I1.list hx
    refine a4P (show s1.heap.IsList a its.toArray from p1.isList) (show s1.heap.IsTuple b its2.toArray from p2) fun h' Z keep sz=>?_
    refine wpAny_pyIter_zip (s:={ s1 with heap:=h' }) Z.zz ?_
    have I2:Inv X pins σ H1 { s1 with heap:=h' }:=I1.kept (t':=s1.toks) keep
    exact ⟨s1.heap.objs.size+4,[s1.heap.objs.size+4,s1.heap.objs.size+2,s1.heap.objs.size+3,s1.heap.objs.size,s1.heap.objs.size+1],_,_,H1,rfl,I2,a4r (ZipD.new p1.isList.lt' p2.lt),Z,fun c hc=>I1.fpOk (lo c hc) (I1.hok.fresh (lo c hc)),q⟩
theorem a53 (h:X.K=K) {e1 e2:Expr}{es:List Expr}{kk:Nat}{pt p pos:Pos}{ta:TA} (hg:Gl X "zip") (hm:X.mg "zip"=none) (ha:PA X [e1,e2] ta) (hs:starEach [e1,e2] X.env=[(false,eval e1 X.env),(false,eval e2 X.env)]:=by rfl) (hs2:starEach [e2] X.env=[(false,eval e2 X.env)]:=by rfl):
  PI X (.Tuple es kk pt) (.Call (.Name "zip" p) [e1,e2] [] pos) (a6k K ta):=by subst h;exact a6E hg hm ha hs hs2
end
section
variable {prog:Program}{w:World}{A:Around}{E:Value->Shared->Prop}{s:Shared}
end
section
variable {X:Cx}
end
end L2
namespace L2
open PySem PySem.Spec PyProof.Rows
theorem a7C {CX:CXT}{P:Program}{w:World}{K:W.Frag}{mg:Str->Option Value}{base:Heap}{f:Addr}{name qual:Str}{params:Arguments}{body:List Stmt}{scope:Scope}{dV kV doc pm cdv ct oc:Value}{an od:Option Addr}
  {osl:Array (Option Value)}{N ps:List Str}{sp:Sp} (lk:K.lookup f=some ⟨oc,od,.func (W.fnOf name qual params body scope dV kV doc pm an cdv ct),osl⟩) (hcd:W.codeIn K cdv qual=true) (S:FnScope N ps scope)
  (len:∀vs H Q E,sp vs H Q E->vs.length=ps.length)
  (hbody:∀(A:Around) (outer:List Env) (s:Shared) (H:Hp) (vs:List V) (Q:VK) (E:XK),sp vs H Q E ->
   ∃t,PSs (C3 CX P w K mg base N qual scope f cdv A outer s H E) body t/\t { nx:=fun _ H'=>Q .non H',rt:=Q } (start N vs) H):
  FnOk P w K mg base CX 0 f (W.fnOf name qual params body scope dV kV doc pm an cdv ct) ps sp:=by
 refine ⟨len,fun A outer s H args us vs Q E hr e0 hb r hsp=>?_⟩
 have hl:=len _ _ _ _ hsp
 have KX:K.In s.heap:=e0.mod.kin.keeps fun b o e=>(e0.bs b o e).1
 have lim:s.heap.NoLimit:=e0.mod.nolimit.keeps fun b o e=>(e0.bs b o e).1
 have hkind:∀y∈ps.zip us,scope.names.lookup y.1=some .local ∨ (scope.names.lookup y.1=some .cell/\((cellsFrom (s.heap.objs.size+1) scope.names []).lookup y.1).isSome=true):=fun ⟨n,v⟩ hy=>by
  rcases S.par n (List.of_mem_zip hy).1 with q|q
  ·exact .inl q
  ·exact .inr ⟨q,W.cellsFrom_some _ _ _ (.inl q)⟩
 refine codeAny_call_function hr.depth (KX _ _ lk) rfl S.co S.gen rfl (W.codeRec_of KX hcd) (hb _ _ _ _ ?_)
 refine wpAny_newFunctionEnv_cells S.kind hkind fun env he s1 x=>?_
 subst he
 refine ⟨lim.keeps x.toInCall.keep,codeAny_func ?_⟩
 obtain ⟨t,ht,hq⟩:=hbody A outer s H vs Q E hsp
 have I:Inv (C3 CX P w K mg base N qual scope f cdv A outer s H E) [] (start N vs) H s1:=a0O S hr.hd e0 hl r x
 refine wpAny_mono (ht [] s1 (start N vs) H _ I hq) (fun fl s' hs=>?_) fun e s' hs=>hs
 have fin:∀{σ':St}{H':Hp}{v:V}{u:Value},Inv (C3 CX P w K mg base N qual scope f cdv A outer s H E) [] σ' H' s'->RelV v u->Q v H'->CE outer P w H s Q u s' :=
  fun {σ' H' v u} J rv q=>⟨v,H',J.os,J.bare,J.base,J.hok,rv,q⟩
 cases fl with
 | ret u =>
  obtain ⟨v,σ',H',J,rv,q⟩:=hs
  exact fin J rv q
 | next =>
  obtain ⟨σ',H',J,q⟩:=hs
  exact fin (v:=V.non) (u:=Value.none) J rfl q
 | brk =>
  obtain ⟨_,_,_,q⟩:=hs
  exact False.elim q
 | cont =>
  obtain ⟨_,_,_,q⟩:=hs
  exact False.elim q
theorem Fun.ok0 {P:Program}{w:World}{K:W.Frag}{mg:Str->Option Value}{base:Heap}{x qual:Str}{st:Stmt}{f:Addr}{fd:FuncData}{N ps:List Str}{sp:Sp} (F:Fun K x qual st f fd) (S:FnScope N ps (d5 st)) (len:∀vs H Q E,sp vs H Q E->vs.length=ps.length)
  (hbody:∀(cdv:Value) (A:Around) (outer:List Env) (s:Shared) (H:Hp) (vs:List V) (Q:VK) (E:XK),sp vs H Q E ->
   ∃t,PSs (C3 CX0 P w K mg base N qual (d5 st) f cdv A outer s H E).nox (C5 st) t/\t { nx:=fun _ H'=>Q .non H',rt:=Q } (start N vs) H):FnOk P w K mg base CX0 0 f fd ps sp:=by
 obtain ⟨oc,od,kV,doc,pm,an,cdv,ct,osl,rfl,lk,hcd⟩:=F.ex
 refine a7C lk hcd S len fun A outer s H vs Q E hsp=>?_
 obtain ⟨t,h,q⟩:=hbody cdv A outer s H vs Q E hsp
 exact ⟨t,h.nox,q⟩
section
variable {X:Cx}
end
end L2
namespace G
open PySem PySem.Spec PyProof.Rows L2 Mt
structure Errs (K:W.Frag) (mg:Str->Option Value) (c:Nat->Addr) (B:Addr):Prop where
 e0:mg "NoUrn"=some (.ref (c 0))
 e1:mg "NoRule"=some (.ref (c 1))
 e4:mg "NoDraws"=some (.ref (c 4))
 e5:mg "NoNumber"=some (.ref (c 5))
 xc:∀i,i<10->XC K (c i)
noncomputable def u7 (i:Nat):Stmt:=PySem.Challenge.pw_growurns_k43_whole_orders.main.body.getD i (.Pass ⟨0,0,0,0⟩)
structure Bt (mg:Str->Option Value):Prop where
 isinstance:mg "isinstance"=none
 bool:mg "bool"=none
 int:mg "int"=none
 tuple:mg "tuple"=none
 list:mg "list"=none
 all:mg "all"=none
 sum:mg "sum"=none
 len:mg "len"=none
 range:mg "range"=none
 max:mg "max"=none
 min:mg "min"=none
 abs:mg "abs"=none
 zip:mg "zip"=none
noncomputable def w6 (lo hi:Int):PyData->Bool
 | .int i=>decide (lo<=i)&&decide (i<=hi)
 | _=>false
section
variable {P:Program}{w:World}{K:W.Frag}{mg:Str->Option Value}{base:Heap}{f:Addr}{fd:FuncData}
noncomputable def numD:PyData->Bool
 | .int _=>true
 | _=>false
noncomputable def sp_is_number:Sp:=fun vs H Q _=>∃(v:V) (st:Addr) (d:PyData),vs=[v]/\Dt st H d v/\Q (.bl (numD d)) H
noncomputable abbrev s_is_number:Stmt:=u7 7
theorem sc_is_number:FnScope ["thing"] ["thing"] (d5 s_is_number):=⟨rfl,rfl,rfl,by decide +kernel,rfl,by decide +kernel,by decide +kernel⟩
theorem a08 (F:Fun K "is_number" "is_number" s_is_number f fd) (B:Bt mg):FnOk P w K mg base CX0 0 f fd ["thing"] sp_is_number:=by
 refine F.ok0 sc_is_number (fun vs H Q E h=>?_) (fun cdv A outer s H vs Q E h=>?_)
 ·obtain ⟨v,st,d,rfl,_⟩:=h
  rfl
 obtain ⟨v,st,d,rfl,hd,q⟩:=h
 refine ⟨_,c0 (f6 (P0 (d8 (Q1 a6I) rfl B.isinstance boot_isinstance (b5 (pv 0) (b5 (R9 rfl B.int boot_int) pa_nil)))
  (P2 (a7s (d8 (Q1 a5J) rfl B.isinstance boot_isinstance (b5 (pv 0) (b5 (R9 rfl B.bool boot_bool) pa_nil))))))),?_⟩
 refine ⟨_,rfl,v,st,d,rfl,hd,_,rfl,?_⟩
 cases d with
 | bool b=>exact ⟨_,rfl,v,st,_,rfl,hd,_,rfl,q⟩
 | int i=>exact ⟨_,rfl,v,st,_,rfl,hd,_,rfl,q⟩
 | none=>exact q
 | str x=>exact q
 | list ds=>exact q
 | tuple ds=>exact q
 | dict kvs=>exact q
noncomputable def sp_is_whole:Sp:=fun vs H Q _=>∃(v:V) (st:Addr) (d:PyData) (lo hi:Int),vs=[v,.int lo,.int hi]/\Dt st H d v/\Q (.bl (w6 lo hi d)) H
noncomputable abbrev s_is_whole:Stmt:=u7 8
theorem sc_is_whole:FnScope ["thing","low","high"] ["thing","low","high"] (d5 s_is_whole):=⟨rfl,rfl,rfl,by decide +kernel,rfl,by decide +kernel,by decide +kernel⟩
theorem a2h (F:Fun K "is_whole" "is_whole" s_is_whole f fd) (c1:Cal P w K mg base 0 "is_number" ["thing"] sp_is_number):FnOk P w K mg base CX0 1 f fd ["thing","low","high"] sp_is_whole:=by
 refine F.ok sc_is_whole (fun vs H Q E h=>?_) (fun cdv A outer s H vs Q E hr h=>?_)
 ·obtain ⟨v,st,d,lo,hi,rfl,_⟩:=h
  rfl
 obtain ⟨v,st,d,lo,hi,rfl,hd,q⟩:=h
 refine ⟨_,c0 (f6 (P0 (d7 c1 hr rfl (b5 (pv 0) pa_nil)) (P2 (a1J op_le op_le (pv 1) (pv 0) (pv 2))))),?_⟩
 refine ⟨_,rfl,v,st,d,rfl,hd,_,rfl,?_⟩
 cases d with
 | int i =>
  refine u6 ?_
  unfold Dt at hd
  subst hd
  refine ⟨_,rfl,_,rfl,lo,i,rfl,rfl,_,rfl,?_⟩
  have q':Q (.bl (decide (lo<=i)&&decide (i<=hi))) H:=q
  by_cases h1:lo<=i
  ·rw[decide_eq_true h1,Bool.true_and] at q'
   rw[decide_eq_true h1]
   exact u6 ⟨_,rfl,i,hi,rfl,rfl,q'⟩
  ·rw[decide_eq_false h1,Bool.false_and] at q'
   rw[decide_eq_false h1]
   exact q5 q'
 | bool b=>exact q
 | none=>exact q
 | str x=>exact q
 | list ds=>exact q
 | tuple ds=>exact q
 | dict kvs=>exact q
noncomputable def r0 (lo hi:Int):PyData->Bool
 | .tuple ds=>ds.all (w6 lo hi)
 | _=>false
noncomputable def sp_are_wholes:Sp:=fun vs H Q _=>∃(v:V) (st:Addr) (d:PyData) (lo hi:Int),vs=[v,.int lo,.int hi]/\Dt st H d v/\(∀ds,d=.tuple ds->ds.length<=1000)/\∀H',Same H H'->Q (.bl (r0 lo hi d)) H'
noncomputable abbrev s_are_wholes:Stmt:=u7 9
theorem sc_are_wholes:FnScope ["thing","low","high"] ["thing","low","high"] (d5 s_are_wholes):=⟨rfl,rfl,rfl,by decide +kernel,rfl,by decide +kernel,by decide +kernel⟩
theorem a0U (F:Fun K "are_wholes" "are_wholes" s_are_wholes f fd) (B:Bt mg) (c1:Cal P w K mg base 1 "is_whole" ["thing","low","high"] sp_is_whole):FnOk P w K mg base CX0 2 f fd ["thing","low","high"] sp_are_wholes:=by
 refine F.ok sc_are_wholes (fun vs H Q E h=>?_) (fun cdv A outer s H vs Q E hr h=>?_)
 ·obtain ⟨v,st,d,lo,hi,rfl,_⟩:=h
  rfl
 obtain ⟨v,st,d,lo,hi,rfl,hd,hl,q⟩:=h
 refine ⟨_,c0 (f6 (P0 (d8 (Q1 a0l) rfl B.isinstance boot_isinstance (b5 (pv 0) (b5 (R9 rfl B.tuple boot_tuple) pa_nil)))
  (P2 (d8 (M3 rfl) rfl B.all boot_all (b5 (m6 (N:=["part","low","high"]) (ix:=[none,some 1,some 2]) (ifs:=[]) (tc:=tTrue) rfl (R4 (pv 0))
   (fun s H ex=>v0 (i:=0) (by decide +kernel) rfl (Or.inl rfl) (.inr rfl)) (fun s H ex=>pifs_nil) (fun s H ex=>d7 c1 hr rfl (b5 (pv 0) (b5 (pv 1) (b5 (pv 2) pa_nil)))) rfl (by decide +kernel) (by rfl) (by rfl) (fun _=>rfl)) pa_nil))))),?_⟩
 refine ⟨_,rfl,v,st,d,rfl,hd,_,rfl,?_⟩
 cases d with
 | tuple ds =>
  refine u6 ?_
  obtain ⟨a,xs,rfl,ne,ha,hds⟩:∃a xs,v=.ref a/\a≠st/\H a=some (.tup xs)/\Dts st H ds xs:=by unfold Dt at hd;exact hd
  have hlen:=hds.len
  have hl':=hl ds rfl
  refine ⟨_,rfl,a,rfl,⟨xs,.of ha⟩,Z4 (K:=K) (a:=a) (xs:=xs) (sz (by lia)) (fun i ys H2=>Same H H2/\i<=ds.length/\ys=(ds.take i).map fun d=>V.bl (w6 lo hi d)) ⟨Same.refl H,Nat.zero_le _,rfl⟩ (fun i ys H2 h=>?_) (fun i ys H2 _ h=>.of (h.1 _ _ ha)) rfl (fun i ys H2 x hx h=>?_) (fun ys H2 h=>?_)⟩
  ·obtain ⟨_,hi,rfl⟩:=h
   rw[List.length_map,List.length_take];lia
  ·obtain ⟨hS,hil,rfl⟩:=h
   obtain ⟨d,hd',dt⟩:=hds.get hx
   refine ⟨_,rfl,_,rfl,_,rfl,x,st,d,lo,hi,rfl,dt.kp (hS.kp st),hS,(List.getElem?_eq_some_iff.mp hd').1,?_⟩
   rw[List.take_add_one,hd',List.map_append];rfl
  ·obtain ⟨hS,hil,rfl⟩:=h
   intro p hp
   refine ⟨p,_,rfl,.inl (.of b6),?_,?_⟩
   ·rw[List.all_map];exact List.all_eq_true.mpr fun _ _=>rfl
   ·have e:(((ds.take xs.length).map fun d=>V.bl (w6 lo hi d)).all truV)=r0 lo hi (.tuple ds):=by
     rw[<- hlen,List.take_length,List.all_map];rfl
    rw[e]
    exact q _ (hS.trans (Same.new hp))
 | _=>exact q H (Same.refl H)
end
end G
namespace G
open PySem PySem.Spec PyProof.Rows L2 Mt
structure Ct (mg:Str->Option Value):Prop where
 kinds:∃t,mg "MOST_KINDS"=some (.int 4 t)
 balls:∃t,mg "MOST_BALLS"=some (.int 20 t)
 puts:∃t,mg "MOST_PUT_IN"=some (.int 5 t)
theorem _root_.L2.Dt.untup {st:Addr}{H:Hp}{ds:List PyData}{v:V} (h:Dt st H (.tuple ds) v):∃a xs,v=.ref a/\a≠st/\H a=some (.tup xs)/\Dts st H ds xs:=by unfold Dt at h;exact h
theorem _root_.L2.Dt.unint {st:Addr}{H:Hp}{i:Int}{v:V} (h:Dt st H (.int i) v):v=.int i:=by unfold Dt at h;exact h
theorem Y4 {lo hi:Int}{d:PyData} (h:w6 lo hi d=true):∃i,d=.int i/\lo<=i/\i<=hi:=by
 cases d with
 | int i =>
  have h':(decide (lo<=i)&&decide (i<=hi))=true:=h
  rw[Bool.and_eq_true] at h'
  exact ⟨i,rfl,of_decide_eq_true h'.1,of_decide_eq_true h'.2⟩
 | _=>cases (show false=true from h)
theorem a1R {lo hi:Int}:∀{ds:List PyData},ds.all (w6 lo hi)=true->∃ns:List Int,ds=ns.map .int/\∀x∈ns,lo<=x/\x<=hi
 | [],_=>⟨[],rfl,by simp⟩
 | d::ds,h=>by
  rw[List.all_cons,Bool.and_eq_true] at h
  obtain ⟨i,e,h1,h2⟩:=Y4 h.1
  obtain ⟨ns,e2,h3⟩:=a1R h.2
  subst e e2
  exact ⟨i::ns,rfl,fun x hx=>by
   rcases List.mem_cons.mp hx with z|z
   ·subst z;exact ⟨h1,h2⟩
   ·exact h3 x z⟩
theorem F9 {lo hi:Int}{d:PyData} (h:r0 lo hi d=true):∃ns:List Int,d=DI ns/\∀x∈ns,lo<=x/\x<=hi:=by
 cases d with
 | tuple ds =>
  obtain ⟨ns,e,h2⟩:=a1R (ds:=ds) h
  subst e
  exact ⟨ns,rfl,h2⟩
 | _=>cases (show false=true from h)
noncomputable def intD:PyData->Int
 | .int i=>i
 | _=>0
noncomputable def lenD:PyData->Nat
 | .tuple ds=>ds.length
 | _=>0
noncomputable def sumD:PyData->Int
 | .tuple ds=>(ds.map intD).sum
 | _=>0
theorem a0m (ns:List Int):sumD (DI ns)=ns.sum:=by
 show ((ns.map PyData.int).map intD).sum=ns.sum
 rw[List.map_map]
 have e:(intD ∘ PyData.int)=id:=by funext i;rfl
 rw[e,List.map_id]
theorem B6 (ns:List Int):lenD (DI ns)=ns.length:=by show (ns.map PyData.int).length=_;rw[List.length_map]
noncomputable def E7 (m:Int) (d:PyData):Bool:=r0 0 m d&&((decide ((1:Int)<=lenD d)&&decide ((lenD d:Int)<=4))&&decide ((0:Int)<sumD d))
noncomputable def E2 (k:Int) (d:PyData):Bool:=match d with
 | .tuple ds=>decide ((ds.length:Int)=k)&&ds.all (fun r=>r0 0 5 r&&decide ((lenD r:Int)=k))
 | _=>false
noncomputable def E4 (d:PyData):Prop:=∀ds,d=.tuple ds->ds.length<=1000
section
variable {P:Program}{w:World}{K:W.Frag}{mg:Str->Option Value}{base:Heap}{f:Addr}{fd:FuncData}
noncomputable def sp_is_urn_up_to:Sp:=fun vs H Q _=>∃(v:V) (st:Addr) (d:PyData) (m:Int),vs=[v,.int m]/\Dt st H d v/\E4 d/\∀H',Same H H'->Q (.bl (E7 m d)) H'
noncomputable abbrev s_is_urn_up_to:Stmt:=u7 21
theorem sc_is_urn_up_to:FnScope ["thing","most"] ["thing","most"] (d5 s_is_urn_up_to):=⟨rfl,rfl,rfl,by decide +kernel,rfl,by decide +kernel,by decide +kernel⟩
theorem Y3 (F:Fun K "is_urn_up_to" "is_urn_up_to" s_is_urn_up_to f fd) (B:Bt mg) (C:Ct mg) (c1:Cal P w K mg base 2 "are_wholes" ["thing","low","high"] sp_are_wholes):FnOk P w K mg base CX0 3 f fd ["thing","most"] sp_is_urn_up_to:=by
 refine F.ok sc_is_urn_up_to (fun vs H Q E h=>?_) (fun cdv A outer s H vs Q E hr h=>?_)
 ·obtain ⟨v,st,d,m,rfl,_⟩:=h
  rfl
 obtain ⟨v,st,d,m,rfl,hd,hl,q⟩:=h
 obtain ⟨tk,hk⟩:=C.kinds
 refine ⟨_,b8 (t8 (D6 (C4 (d7 c1 hr rfl (b5 (pv 0) (b5 b9 (b5 (pv 1) pa_nil)))))) (c0 (f6 C9)) pss_nil)
  (c0 (f6 (P0 (a1J op_le op_le b9 (d8 call_len_seq rfl B.len PySem.boot_len (b5 (pv 0) pa_nil)) (J3 (v:=.int 4) rfl hk ⟨tk,rfl⟩))
   (P2 (E3 op_gt (d8 (L4 rfl) rfl B.sum boot_sum (b5 (pv 0) pa_nil)) b9 (j4 _)))))),?_⟩
 refine ⟨_,rfl,_,rfl,v,st,d,0,m,rfl,hd,hl,fun H1 g1=>⟨_,rfl,?_⟩⟩
 have q1:=q H1 g1
 unfold E7 at q1
 cases hw:r0 0 m d with
 | false =>
  rw[hw,Bool.false_and] at q1
  exact u6 q1
 | true =>
  rw[hw,Bool.true_and] at q1
  refine q5 ?_
  obtain ⟨ns,e,hns⟩:=F9 hw
  subst e
  obtain ⟨a,e,ne,ha⟩:=hd.di
  subst e
  rw[B6,a0m] at q1
  have ha1:=g1 _ _ ha
  refine ⟨_,rfl,a,_,rfl,.inr (.of ha1),_,_,rfl,rfl,_,rfl,?_⟩
  rw[List.length_map]
  by_cases h1:(1:Int)<=(ns.length:Int)
  ·rw[decide_eq_true h1,Bool.true_and] at q1
   rw[decide_eq_true h1]
   refine u6 ⟨_,_,rfl,rfl,_,rfl,?_⟩
   by_cases h2:(ns.length:Int)<=4
   ·rw[decide_eq_true h2,Bool.true_and] at q1
    rw[decide_eq_true h2]
    exact u6 ⟨_,rfl,a,ns,rfl,.inr (.of ha1),_,_,rfl,rfl,q1⟩
   ·rw[decide_eq_false h2,Bool.false_and] at q1
    rw[decide_eq_false h2]
    exact q5 q1
  ·rw[decide_eq_false h1,Bool.false_and,Bool.false_and] at q1
   rw[decide_eq_false h1]
   exact q5 ⟨_,rfl,q5 q1⟩
noncomputable def sp_is_urn:Sp:=fun vs H Q _=>∃(v:V) (st:Addr) (d:PyData),vs=[v]/\Dt st H d v/\E4 d/\∀H',Same H H'->Q (.bl (E7 20 d)) H'
noncomputable abbrev s_is_urn:Stmt:=u7 20
theorem sc_is_urn:FnScope ["thing"] ["thing"] (d5 s_is_urn):=⟨rfl,rfl,rfl,by decide +kernel,rfl,by decide +kernel,by decide +kernel⟩
theorem a5d (F:Fun K "is_urn" "is_urn" s_is_urn f fd) (C:Ct mg) (c1:Cal P w K mg base 3 "is_urn_up_to" ["thing","most"] sp_is_urn_up_to):FnOk P w K mg base CX0 4 f fd ["thing"] sp_is_urn:=by
 refine F.ok sc_is_urn (fun vs H Q E h=>?_) (fun cdv A outer s H vs Q E hr h=>?_)
 ·obtain ⟨v,st,d,rfl,_⟩:=h
  rfl
 obtain ⟨v,st,d,rfl,hd,hl,q⟩:=h
 obtain ⟨tk,hk⟩:=C.balls
 refine ⟨_,c0 (f6 (d7 c1 hr rfl (b5 (pv 0) (b5 (J3 (v:=.int 20) rfl hk ⟨tk,rfl⟩) pa_nil)))),?_⟩
 exact ⟨_,rfl,v,st,d,20,rfl,hd,hl,q⟩
noncomputable def D9 (c:Nat->Addr):Sp:=fun vs H Q E=>∃(v:V) (st:Addr) (d:PyData) (lo hi:Int),vs=[v,.int lo,.int hi]/\Dt st H d v/\Sm lo/\Sm hi/\(w6 lo hi d=true->Q .non H)/\(w6 lo hi d=false->E (.ref (c 5)) none H)
noncomputable abbrev s_need_number:Stmt:=u7 10
theorem sc_need_number:FnScope ["thing","low","high"] ["thing","low","high"] (d5 s_need_number):=⟨rfl,rfl,rfl,by decide +kernel,rfl,by decide +kernel,by decide +kernel⟩
theorem a0n {c:Nat->Addr}{B:Addr} (F:Fun K "need_number" "need_number" s_need_number f fd) (R:Errs K mg c B) (c1:Cal P w K mg base 1 "is_whole" ["thing","low","high"] sp_is_whole):FnOk P w K mg base (A9 P w) 2 f fd ["thing","low","high"] (D9 c):=by
 refine F.okX sc_need_number (fun vs H Q E h=>?_) (fun cdv A outer s H vs Q E hr h=>?_)
 ·obtain ⟨v,st,d,lo,hi,rfl,_⟩:=h
  rfl
 obtain ⟨v,st,d,lo,hi,rfl,hd,slo,shi,q1,q2⟩:=h
 refine ⟨_,c0 (t8 (D6 (C4 (d7 c1 hr rfl (b5 (pv 0) (b5 (pv 1) (b5 (pv 2) pa_nil)))))) (c0 (J8 R.e5 (R.xc 5 (by decide)) (a3i (X8 (a2c (pv 1) (X8 (a2c (pv 2) a4U))))) (fun σ H Q Q' m q=>?_))) pss_nil),?_⟩
 ·obtain ⟨v1,z1,i1,z2,z3,z4,v2,z5,i2,z6,z7,z8,z9⟩:=q
  exact ⟨v1,z1,i1,z2,z3,z4,v2,z5,i2,z6,z7,z8,fun z=>m _ _ (z9 z)⟩
 refine ⟨_,rfl,_,rfl,_,rfl,v,st,d,lo,hi,rfl,hd,_,rfl,?_⟩
 cases hw:w6 lo hi d with
 | true=>exact q5 (q1 hw)
 | false=>exact u6 ⟨_,rfl,lo,rfl,slo.1,slo.2,_,rfl,hi,rfl,shi.1,shi.2,fun z=>q2 hw⟩
noncomputable def Q7 (c:Nat->Addr):Sp:=fun vs H Q E=>∃(u v:V) (st:Addr) (dk d:PyData),vs=[u,v]/\Dt st H dk u/\(w6 1 4 dk=false->E (.ref (c 5)) none H) /\
 (∀k,dk=.int k->1<=k->k<=4->Dt st H d v/\E4 d/\(∀ds,d=.tuple ds->∀r∈ds,E4 r)/\∀H',Same H H'->Q (.bl (E2 k d)) H')
noncomputable abbrev s_is_rule:Stmt:=u7 22
theorem sc_is_rule:FnScope ["kinds","thing"] ["kinds","thing"] (d5 s_is_rule):=⟨rfl,rfl,rfl,by decide +kernel,rfl,by decide +kernel,by decide +kernel⟩
theorem sm1:Sm 1:=by unfold Sm;decide +kernel
theorem sm4:Sm 4:=by unfold Sm;decide +kernel
theorem a3n {c:Nat->Addr} (F:Fun K "is_rule" "is_rule" s_is_rule f fd) (B:Bt mg) (C:Ct mg) (c1:Cal P w K mg base 2 "are_wholes" ["thing","low","high"] sp_are_wholes) (c2:CalX P w K mg base 2 "need_number" ["thing","low","high"] (D9 c)):FnOk P w K mg base (A9 P w) 3 f fd ["kinds","thing"] (Q7 c):=by
 refine F.okX sc_is_rule (fun vs H Q E h=>?_) (fun cdv A outer s H vs Q E hr h=>?_)
 ·obtain ⟨u,v,st,dk,d,rfl,_⟩:=h
  rfl
 obtain ⟨u,v,st,dk,d,rfl,hu,qE,qQ⟩:=h
 obtain ⟨tk,hk⟩:=C.kinds
 obtain ⟨tp,hp⟩:=C.puts
 refine ⟨_,b8 (A2 (j7 c2 hr rfl passes1 (b5 (pv 0) (b5 b9 (b5 (J3 (v:=.int 4) rfl hk ⟨tk,rfl⟩) pa_nil)))))
  (PSs.nox (b8 (t8 (PW.pt (M9 (D6 (C4 (d8 (Q1 a0l) rfl B.isinstance boot_isinstance (b5 (pv 1) (b5 (R9 rfl B.tuple boot_tuple) pa_nil)))))
   (O9 (j9 op_ne (d8 call_len_seq rfl B.len PySem.boot_len (b5 (pv 1) pa_nil)) (pv 0) (j4 _))))) (c0 (f6 C9)) pss_nil)
  (c0 (f6 (d8 (M3 rfl) rfl B.all boot_all (b5 (m6 (N:=["row","kinds"]) (ix:=[none,some 0]) (ifs:=[]) (tc:=tTrue) rfl (R4 (pv 1))
   (fun s H ex=>v0 (i:=0) (by decide +kernel) rfl (Or.inl rfl) (.inr rfl)) (fun s H ex=>pifs_nil)
   (fun s H ex=>P0 (d7 c1 hr rfl (b5 (pv 0) (b5 b9 (b5 (J3 (v:=.int 5) rfl hp ⟨tp,rfl⟩) pa_nil)))) (P2 (E3 op_eq (d8 (a9l (K:=K) rfl) rfl B.len PySem.boot_len (b5 (pv 0) pa_nil)) (pv 1) (j4 _)))) rfl (by decide +kernel) (by rfl) (by rfl) (fun _=>rfl)) pa_nil)))))),?_⟩
 refine ⟨_,rfl,u,st,dk,1,4,rfl,hu,sm1,sm4,fun hw=>?_,qE⟩
 obtain ⟨k,e,k1,k4⟩:=Y4 hw
 subst e
 obtain rfl:=hu.unint
 obtain ⟨hd,hl,hl2,q⟩:=qQ k rfl k1 k4
 refine ⟨_,rfl,v,st,d,rfl,hd,_,rfl,?_⟩
 cases d with
 | tuple ds =>
  obtain ⟨a,xs,e,ne,ha,hds⟩:=hd.untup
  subst e
  have hlen:=hds.len
  have hl':=hl ds rfl
  refine q5 ⟨_,rfl,a,xs,rfl,.inr (.of ha),_,rfl,rfl,_,rfl,?_⟩
  have q0:=fun H' g=>q H' g
  unfold E2 at q0
  by_cases hk':(ds.length:Int)=k
  ·have e1:V.int (xs.length:Int)=V.int k:=by rw[<- hlen,hk']
   rw[decide_eq_true e1]
   refine q5 ?_
   have q1:∀H',Same H H'->Q (.bl (ds.all (fun r=>r0 0 5 r&&decide ((lenD r:Int)=k)))) H':=fun H' g=>by
    have:=q0 H' g
    simp only[decide_eq_true hk',Bool.true_and] at this
    exact this
   refine ⟨_,rfl,a,rfl,⟨xs,.of ha⟩,Z4 (K:=K) (a:=a) (xs:=xs) (sz (by lia)) (fun i ys H2=>Same H H2/\i<=ds.length/\ys=(ds.take i).map fun r=>V.bl (r0 0 5 r&&decide ((lenD r:Int)=k))) ⟨Same.refl H,Nat.zero_le _,rfl⟩ (fun i ys H2 h=>?_) (fun i ys H2 _ h=>.of (h.1 _ _ ha)) rfl (fun i ys H2 x hx h=>?_) (fun ys H2 h=>?_)⟩
   ·obtain ⟨_,hil,rfl⟩:=h
    rw[List.length_map,List.length_take];lia
   ·obtain ⟨hS,hil,rfl⟩:=h
    obtain ⟨d,hd',dt⟩:=hds.get hx
    have dt2:=dt.kp (hS.kp st)
    refine ⟨_,rfl,x,st,d,0,5,rfl,dt2,hl2 ds rfl d (List.mem_of_getElem? hd'),fun H3 g3=>⟨_,rfl,?_⟩⟩
    have fin:∀b:Bool,b=(r0 0 5 d&&decide ((lenD d:Int)=k))->Same H H3/\i+1<=ds.length/\((ds.take i).map fun r=>V.bl (r0 0 5 r&&decide ((lenD r:Int)=k)))++[V.bl b]=(ds.take (i+1)).map fun r=>V.bl (r0 0 5 r&&decide ((lenD r:Int)=k)):=fun b e=>by
     subst e
     refine ⟨hS.trans g3,(List.getElem?_eq_some_iff.mp hd').1,?_⟩
     rw[List.take_add_one,hd',List.map_append];rfl
    cases hw:r0 0 5 d with
    | false=>exact q5 (fin false (by rw[hw];rfl))
    | true =>
     obtain ⟨ns,e,_⟩:=F9 hw
     subst e
     obtain ⟨b,e,_,hb⟩:=dt2.di
     subst e
     refine u6 ⟨_,rfl,b,_,rfl,.inr (.of (g3 _ _ hb)),_,rfl,rfl,?_⟩
     refine fin _ ?_
     rw[hw,Bool.true_and,B6,List.length_map]
     rw[decide_eq_decide]
     constructor
     ·intro e;injection e
     ·intro e;rw[e]
   ·obtain ⟨hS,hil,rfl⟩:=h
    intro p hp
    refine ⟨p,_,rfl,.inl (.of b6),?_,?_⟩
    ·rw[List.all_map];exact List.all_eq_true.mpr fun _ _=>rfl
    ·have e:(((ds.take xs.length).map fun r=>V.bl (r0 0 5 r&&decide ((lenD r:Int)=k))).all truV)=ds.all (fun r=>r0 0 5 r&&decide ((lenD r:Int)=k)):=by
      rw[<- hlen,List.take_length,List.all_map];rfl
     rw[e]
     exact q1 _ (hS.trans (Same.new hp))
  ·have e1:¬ V.int (xs.length:Int)=V.int k:=fun e=>hk' (by rw[hlen];injection e)
   rw[decide_eq_false e1]
   refine u6 ?_
   have:=q0 H (Same.refl H)
   simp only[decide_eq_false hk',Bool.false_and] at this
   exact this
 | _=>exact u6 (u6 (q H (Same.refl H)))
end
end G
namespace G
open PySem PySem.Spec PyProof.Rows L2 Mt
theorem J5 {ns:List Int}{k:Nat} (h:k<ns.length):S3 (ns.map V.int) (k:Int)=some (.int (ns.getD k 0)):=by
 refine i6 ?_
 rw[List.getElem?_map,List.getElem?_eq_getElem h,List.getD_eq_getElem?_getD,List.getElem?_eq_getElem h];rfl
noncomputable def P7 (x:Int) (b:Bool):Prop:=b=false->0<=x/\x<2147483647
section
variable {P:Program}{w:World}{K:W.Frag}{mg:Str->Option Value}{base:Heap}{f:Addr}{fd:FuncData}
noncomputable def Q9 (K:W.Frag):Sp:=fun vs H Q _=>∃(a:Addr) (ns:List Int) (k:Nat),vs=[.ref a,.int k]/\SqL K H a (ns.map V.int)/\∀x,Q (.int x) H
noncomputable abbrev s_cell_at:Stmt:=u7 43
theorem sc_cell_at:FnScope ["_law_script","_law_k"] ["_law_script","_law_k"] (d5 s_cell_at):=⟨rfl,rfl,rfl,by decide +kernel,rfl,by decide +kernel,by decide +kernel⟩
theorem a3s (F:Fun K "_law_cell_at" "_law_cell_at" s_cell_at f fd) (B:Bt mg):FnOk P w K mg base CX0 1 f fd ["_law_script","_law_k"] (Q9 K):=by
 refine F.ok sc_cell_at (fun vs H Q E h=>?_) (fun cdv A outer s H vs Q E hr h=>?_)
 ·obtain ⟨a,ns,k,rfl,_⟩:=h
  rfl
 obtain ⟨a,ns,k,rfl,ha,q⟩:=h
 refine ⟨_,b8 (t8 (j9 op_lt (pv 1) (d8 call_len_seq rfl B.len PySem.boot_len (b5 (pv 0) pa_nil)) (j4 _)) (c0 (f6 (j3 ix_list (pv 0) (pv 1) (fun _ _=>rfl)))) pss_nil)
  (c0 (f6 b9)),?_⟩
 refine ⟨_,rfl,_,rfl,a,_,rfl,.inl ha,_,_,rfl,rfl,_,rfl,?_⟩
 refine W0 (fun c=>?_) (fun c=>q 0)
 have c':(k:Int)<(((ns.map V.int).length:Nat):Int):=of_decide_eq_true c
 rw[List.length_map] at c'
 exact ⟨_,rfl,_,rfl,a,_,_,_,rfl,rfl,ha,J5 (by lia),q _⟩
noncomputable def W4 (K:W.Frag):Sp:=fun vs H Q _=>∃(a:Addr) (ns:List Int) (k:Nat),vs=[.ref a,.int k]/\SqL K H a (ns.map V.int)/\∀l x b,H l=none->P7 x b->Q (.ref l) (b7 H l (.lst [.int x,.bl b]))
noncomputable abbrev s_state:Stmt:=u7 44
theorem sc_state:FnScope ["_law_script","_law_k","_law_cell"] ["_law_script","_law_k"] (d5 s_state):=⟨rfl,rfl,rfl,by decide +kernel,rfl,by decide +kernel,by decide +kernel⟩
theorem a5x (F:Fun K "_law_state" "_law_state" s_state f fd) (c1:Cal P w K mg base 1 "_law_cell_at" ["_law_script","_law_k"] (Q9 K)):FnOk P w K mg base CX0 2 f fd ["_law_script","_law_k"] (W4 K):=by
 refine F.ok sc_state (fun vs H Q E h=>?_) (fun cdv A outer s H vs Q E hr h=>?_)
 ·obtain ⟨a,ns,k,rfl,_⟩:=h
  rfl
 obtain ⟨a,ns,k,rfl,ha,q⟩:=h
 refine ⟨_,b8 (f9 (i:=2) sc_state.nd rfl (Or.inl rfl) (d7 c1 hr rfl (b5 (pv 0) (b5 (pv 1) pa_nil))))
  (b8 (t8 (j9 op_ge (pv 2) (f8 op_pow b9 b9) (j4 _)) (c0 (f6 (D4 (b5 (f8 op_sub (pv 2) (f8 op_pow b9 b9)) (b5 C9 pa_nil))))) pss_nil)
  (c0 (f6 (D4 (b5 (f8 op_mod (pv 2) b9) (b5 C9 pa_nil)))))),?_⟩
 have hp:a8h 10 18:=⟨by decide,by decide,by decide⟩
 refine ⟨_,rfl,_,rfl,a,ns,k,rfl,ha,fun x=>?_⟩
 refine ⟨_,rfl,_,_,rfl,rfl,hp,_,_,rfl,rfl,_,rfl,?_⟩
 refine W0 (fun c=>?_) (fun c=>?_)
 ·exact ⟨_,rfl,_,_,rfl,rfl,hp,_,_,rfl,rfl,(by show 2<=sizeLine;decide),fun l hl=>q l _ _ hl (fun z=>by cases z)⟩
 ·exact ⟨_,rfl,_,_,rfl,rfl,(by show (0:Int)<2147483647;decide),(by show 2<=sizeLine;decide),fun l hl=>q l _ _ hl (fun _=>⟨Int.emod_nonneg _ (by decide),Int.emod_lt_of_pos _ (by decide)⟩)⟩
noncomputable def sp_take:Sp:=fun vs H Q _=>∃(l:Addr) (m x:Int) (b:Bool),vs=[.ref l,.int m]/\H l=some (.lst [.int x,.bl b])/\P7 x b/\1<=m/\m<=1000 /\
 ∀(y:Nat) (x':Int),(y:Int)<m->P7 x' b->Q (.int y) (b7 H l (.lst [.int x',.bl b]))
noncomputable abbrev s_take:Stmt:=u7 45
theorem sc_take:FnScope ["_law_state_here","_law_many","_law_found","_law_mixed"] ["_law_state_here","_law_many"] (d5 s_take):=⟨rfl,rfl,rfl,by decide +kernel,rfl,by decide +kernel,by decide +kernel⟩
theorem a6M (F:Fun K "_law_take" "_law_take" s_take f fd):FnOk P w K mg base CX0 1 f fd ["_law_state_here","_law_many"] sp_take:=by
 refine F.ok sc_take (fun vs H Q E h=>?_) (fun cdv A outer s H vs Q E hr h=>?_)
 ·obtain ⟨l,m,x,b,rfl,_⟩:=h
  rfl
 obtain ⟨l,m,x,b,rfl,hl,hst,m1,m2,q⟩:=h
 refine ⟨_,b8 (t8 (C4 (j3 ix_list (pv 0) b9 (fun _ _=>rfl)))
   (b8 (f9 (i:=2) sc_take.nd rfl (Or.inl rfl) (f8 op_mod (j3 ix_list (pv 0) b9 (fun _ _=>rfl)) (pv 1)))
   (b8 (S9 (f8 op_fdiv (j3 ix_list (pv 0) b9 (fun _ _=>rfl)) (pv 1)) (X1 (pv 0) b9 set_list))
   (c0 (f6 (pv 2))))) pss_nil)
  (b8 (S9 (f8 op_mod (f8 op_add (f8 op_mul (j3 ix_list (pv 0) b9 (fun _ _=>rfl)) b9) b9) b9) (X1 (pv 0) b9 set_list))
  (b8 (f9 (i:=3) sc_take.nd rfl (Or.inl rfl) (f8 op_mod (f8 op_add (f8 op_add (f8 op_mul (j3 ix_list (pv 0) b9 (fun _ _=>rfl)) (j3 ix_list (pv 0) b9 (fun _ _=>rfl))) (f8 op_mul b9 (j3 ix_list (pv 0) b9 (fun _ _=>rfl)))) b9) b9))
  (b8 (f9 (i:=3) sc_take.nd rfl (Or.inl rfl) (f8 op_mod (f8 op_add (f8 op_mul (pv 3) (pv 3)) (f8 op_mul b9 (pv 3))) b9))
  (c0 (f6 (f8 op_mod (f8 op_fdiv (pv 3) b9) (pv 1))))))),?_⟩
 have fin:∀(z x':Int),P7 x' b->Q (.int (z % m)) (b7 H l (.lst [.int x',.bl b])):=fun z x' h=>by
  have h1:=Int.emod_nonneg z (show m≠0 by lia)
  have h2:=Int.emod_lt_of_pos z (show 0<m by lia)
  have e:z % m=(((z % m).toNat:Nat):Int):=by lia
  rw[e]
  exact q _ x' (by lia) h
 refine ⟨_,rfl,l,_,_,_,rfl,rfl,.of hl,i6 (j:=1) rfl,_,rfl,?_⟩
 cases b with
 | true =>
  refine u6 ⟨_,rfl,l,_,_,_,rfl,rfl,.of hl,i6 (j:=0) rfl,_,rfl,_,_,rfl,rfl,(by lia),?_⟩
  refine ⟨_,rfl,l,_,_,_,rfl,rfl,.of hl,i6 (j:=0) rfl,_,rfl,_,_,rfl,rfl,⟨by lia,by lia⟩,_,rfl,l,_,_,0,rfl,rfl,hl,rfl,?_⟩
  exact ⟨_,rfl,fin _ _ (fun z=>by cases z)⟩
 | false =>
  obtain ⟨x0,x1⟩:=hst rfl
  refine q5 ⟨_,rfl,l,_,_,_,rfl,rfl,.of hl,i6 (j:=0) rfl,_,_,rfl,rfl,.inl ⟨by lia,by lia⟩,_,_,rfl,rfl,_,_,rfl,rfl,(by show (0:Int)<2147483647;decide),_,rfl,l,_,_,0,rfl,rfl,hl,rfl,?_⟩
  have y0:=Int.emod_nonneg (x*48271+29) (show (2147483647:Int)≠0 by decide)
  have y1:=Int.emod_lt_of_pos (x*48271+29) (show (0:Int)<2147483647 by decide)
  show P4 _ _ _ _ (b7 H l (.lst [.int ((x*48271+29) % 2147483647),.bl false]))
  generalize (x*48271+29) % 2147483647=y at y0 y1
  have hl2:b7 H l (.lst [.int y,.bl false]) l=some (.lst [.int y,.bl false]):=b6
  refine ⟨_,rfl,l,_,_,_,rfl,rfl,.of hl2,i6 (j:=0) rfl,_,rfl,l,_,_,_,rfl,rfl,.of hl2,i6 (j:=0) rfl,_,_,rfl,rfl,.inl ⟨by lia,by lia⟩,_,rfl,l,_,_,_,rfl,rfl,.of hl2,i6 (j:=0) rfl,_,_,rfl,rfl,.inr ⟨by lia,by lia⟩,_,_,rfl,rfl,_,_,rfl,rfl,_,_,rfl,rfl,(by show (0:Int)<2147483629;decide),?_⟩
  have z0:=Int.emod_nonneg (y*y+39373*y+7) (show (2147483629:Int)≠0 by decide)
  have z1:=Int.emod_lt_of_pos (y*y+39373*y+7) (show (0:Int)<2147483629 by decide)
  generalize (y*y+39373*y+7) % 2147483629=z at z0 z1
  refine ⟨_,rfl,_,rfl,_,_,rfl,rfl,.inl ⟨by lia,by lia⟩,_,rfl,_,_,rfl,rfl,.inr ⟨by lia,by lia⟩,_,_,rfl,rfl,_,_,rfl,rfl,(by show (0:Int)<2147483587;decide),?_⟩
  exact ⟨_,rfl,_,_,rfl,rfl,⟨by decide,by decide⟩,_,rfl,_,_,rfl,rfl,(by lia),fin _ _ (fun _=>⟨y0,y1⟩)⟩
end
end G
namespace G
open PySem PySem.Spec PyProof.Rows L2 Mt
structure Bt2 (mg:Str->Option Value):Prop where
 any:mg "any"=none
theorem boot_any:bootBuiltins "any"=some (.builtin "any"):=by decide +kernel
theorem any_pos:∀{ns:List Int},(∀x∈ns,0<=x)->(ns.map V.int).any truV=decide (0<ns.sum)
 | [],_=>rfl
 | a::ns,h=>by
  have h1:=h a List.mem_cons_self
  have h2:=Mt.sum_nonneg (l:=ns) fun x hx=>h x (List.mem_cons_of_mem _ hx)
  rw[List.map_cons,List.any_cons,any_pos fun x hx=>h x (List.mem_cons_of_mem _ hx),List.sum_cons]
  show ((a != 0) || _)=_
  by_cases ha:a=0
  ·subst ha
   rw[Int.zero_add];rfl
  ·rw[bne_iff_ne.mpr ha,Bool.true_or,decide_eq_true (by lia)]
section
variable {P:Program}{w:World}{K:W.Frag}{mg:Str->Option Value}{base:Heap}{f:Addr}{fd:FuncData}
end
end G
namespace G
open PySem PySem.Spec PyProof.Rows L2 Mt
theorem Z7 {n k:Nat} (h:k<n):T6 n (k:Int)=some k:=by
 unfold T6
 rw[if_pos (by lia),if_pos (by lia)];simp
theorem set_pos':∀{l:List Int}{y:Nat}{v:Int},(∀x∈l,0<=x)->0<v->y<l.length->0<(l.set y v).sum
 | [],y,_,_,_,h=>by simp at h
 | a::l,0,v,h,hv,_=>by
  rw[List.set_cons_zero,List.sum_cons]
  have:=Mt.sum_nonneg (l:=l) fun x hx=>h x (List.mem_cons_of_mem _ hx)
  lia
 | a::l,y+1,v,h,hv,hy=>by
  rw[List.set_cons_succ,List.sum_cons]
  have h1:=set_pos' (l:=l) (y:=y) (fun x hx=>h x (List.mem_cons_of_mem _ hx)) hv (by simpa using hy)
  have h2:=h a List.mem_cons_self
  lia
noncomputable abbrev DR (rs:List (List Int)):PyData:=.tuple (rs.map DI)
theorem L8 {ns:List Int} (h:ns.length<=1000):E4 (DI ns):=fun ds e=>by
 injection e with e
 rw[<- e,List.length_map];exact h
theorem W5 {rs:List (List Int)} (h:rs.length<=1000):E4 (DR rs):=fun ds e=>by
 injection e with e
 rw[<- e,List.length_map];exact h
theorem R7 {n:Nat}{rs:List (List Int)} (h:Rul n 5 rs) (hn:n<=1000):∀ds,DR rs=.tuple ds->∀r∈ds,E4 r:=fun ds e r hr=>by
 injection e with e
 rw[<- e] at hr
 obtain ⟨row,hrow,e2⟩:=List.mem_map.mp hr
 rw[<- e2]
 exact L8 (by rw[(h.row row hrow).len];exact hn)
theorem a7r {st:Addr}{H:Hp}{rs:List (List Int)}{v:V}{k:Nat} (h:Dt st H (DR rs) v) (hk:k<rs.length):
  ∃r xs b,v=.ref r/\H r=some (.tup xs)/\xs[k]?=some (.ref b)/\H b=some (.tup ((rs.getD k []).map V.int)):=by
 obtain ⟨r,xs,e,_,hr,hds⟩:=h.untup
 have hl:=hds.len
 rw[List.length_map] at hl
 have hkx:k<xs.length:=by lia
 obtain ⟨d,hd,dt⟩:=hds.get (i:=k) (x:=xs[k]) (List.getElem?_eq_getElem hkx)
 rw[List.getElem?_map,List.getElem?_eq_getElem hk] at hd
 have e2:rs.getD k []=rs[k]:=by rw[List.getD_eq_getElem?_getD,List.getElem?_eq_getElem hk];rfl
 have e3:d=DI rs[k]:=(Option.some.inj hd).symm
 subst e3
 obtain ⟨b,eb,_,hb⟩:=dt.di
 exact ⟨r,xs,b,e,hr,by rw[List.getElem?_eq_getElem hkx,eb],by rw[e2];exact hb⟩
theorem a0e {n:Nat}{ns:List Int} (h:Urn n 20 ns) (h1:1<=n) (h4:n<=4):E7 20 (DI ns)=true:=by
 unfold E7
 rw[B6,a0m,h.len,decide_eq_true (show (1:Int)<=(n:Int) by lia),decide_eq_true (show (n:Int)<=4 by lia),decide_eq_true h.pos]
 have:r0 0 20 (DI ns)=true:=by
  show (ns.map PyData.int).all (w6 0 20)=true
  rw[List.all_map]
  refine List.all_eq_true.mpr fun x hx=>?_
  have:=h.nn x hx
  show (decide ((0:Int)<=x)&&decide (x<=20))=true
  rw[decide_eq_true this.1,decide_eq_true (show x<=20 by lia)];rfl
 rw[this];rfl
theorem W6 {n:Nat}{rs:List (List Int)} (h:Rul n 5 rs):E2 n (DR rs)=true:=by
 show (decide (((rs.map DI).length:Int)=n)&&(rs.map DI).all (fun r=>r0 0 5 r&&decide ((lenD r:Int)=n)))=true
 rw[List.length_map,h.len,decide_eq_true rfl,Bool.true_and,List.all_map]
 refine List.all_eq_true.mpr fun r hr=>?_
 have hw:=h.row r hr
 show (r0 0 5 (DI r)&&decide ((lenD (DI r):Int)=n))=true
 rw[B6,hw.len,decide_eq_true rfl,Bool.and_true]
 show (r.map PyData.int).all (w6 0 5)=true
 rw[List.all_map]
 refine List.all_eq_true.mpr fun x hx=>?_
 have:=hw.nn x hx
 show (decide ((0:Int)<=x)&&decide (x<=5))=true
 rw[decide_eq_true this.1,decide_eq_true (show x<=5 by lia)];rfl
theorem a2z {st:Addr}{H:Hp}{d:PyData}{v:V} (h:Dt st H d v):∀n:Nat,Dts st H (List.replicate n d) (List.replicate n v)
 | 0=>Dts.nil st H
 | n+1=>Dts.cons h (a2z h n)
section
variable {X:Cx}
noncomputable def rRepS:R2:=fun x y H Q=>∃(a:Addr) (v:V) (k:Nat),x=.ref a/\y=.int (k:Int)/\H a=some (.tup [v])/\1<=k/\k<=4/\∀p H',Same H H'->H' p=some (.tup (List.replicate k v))->Q (.ref p) H'
theorem repS:v8 X (binaryOp .Mult) rRepS:=by
 intro pins s σ H x y v u Q I rx ry h
 obtain ⟨a,v',k,rfl,rfl,ha,h1,h4,q⟩:=h
 refine op_rep1 pins s σ H _ _ v u Q I rx ry ⟨a,v',(k:Int),rfl,rfl,.of ha,by lia,by lia,fun hk=>?_,fun hk p hp=>?_⟩
 ·have hk':k=1:=by lia
  subst hk'
  exact q a H (Same.refl H) ha
 ·exact q p _ (Same.new hp) b6
noncomputable def rSlS:V->Option Int->Option Int->Hp->VK->Prop:=fun x lo hi H Q=>∃(a:Addr) (xs:List V),x=.ref a/\H a=some (.tup xs)/\∀p H',Same H H'->H' p=some (.tup (D5 xs lo hi))->Q (.ref p) H'
theorem slS:SlR X rSlS:=by
 intro pins s σ H x v vl vu lo hi sl Q I rx hs pl pu h
 obtain ⟨a,xs,rfl,ha,q⟩:=h
 refine sl_any pins s σ H _ v vl vu lo hi sl Q I rx hs pl pu ⟨a,xs,rfl,.of ha,fun hw=>?_,fun hw p hp=>?_⟩
 ·refine q a H (Same.refl H) ?_
  unfold D5
  rw[hw.1,hw.2,List.drop_zero,Nat.sub_zero,List.take_length];exact ha
 ·exact q p _ (Same.new hp) b6
end
section
variable {P:Program}{w:World}{K:W.Frag}{mg:Str->Option Value}{base:Heap}{f:Addr}{fd:FuncData}
noncomputable def Sta (l:Addr) (b:Bool) (H H':Hp):Prop:=Kp l H H'/\∃x,H' l=some (.lst [.int x,.bl b])/\P7 x b
theorem Sta.start {l:Addr}{b:Bool}{H:Hp}{x:Int} (h:H l=some (.lst [.int x,.bl b])) (ok:P7 x b):Sta l b H H:=⟨Kp.refl l H,x,h,ok⟩
theorem Sta.same {l:Addr}{b:Bool}{H H1 H2:Hp} (s:Sta l b H H1) (g:Same H1 H2):Sta l b H H2:=by
 obtain ⟨k,x,h,ok⟩:=s
 exact ⟨k.trans (g.kp l),x,g _ _ h,ok⟩
theorem Sta.new {l:Addr}{b:Bool}{H H1:Hp}{p:Addr}{o:HO} (s:Sta l b H H1) (h:H1 p=none):Sta l b H (b7 H1 p o):=s.same (Same.new h)
theorem Sta.trans {l:Addr}{b:Bool}{H H1 H2:Hp} (s:Sta l b H H1) (t:Sta l b H1 H2):Sta l b H H2:=⟨s.1.trans t.1,t.2⟩
theorem Sta.ne {l:Addr}{b:Bool}{H H1:Hp}{p:Addr} (s:Sta l b H H1) (h:H1 p=none):l≠p:=by
 obtain ⟨_,x,e,_⟩:=s
 exact d6 e h
theorem Sta.go {l:Addr}{b:Bool}{H H1:Hp}{x:Int} (s:Sta l b H H1) (ok:P7 x b):Sta l b H (b7 H1 l (.lst [.int x,.bl b])):=⟨s.1.trans Kp.at,x,b6,ok⟩
theorem Sta.neL {l:Addr}{b:Bool}{H H1:Hp}{p:Addr}{xs:List V} (s:Sta l b H H1) (h:H1 p=some (.tup xs)):p≠l:=fun e=>by
 obtain ⟨_,x,q,_⟩:=s
 rw[e,q] at h;cases h
theorem Sta.lput {l p:Addr}{b:Bool}{H H1:Hp}{o:HO} (s:Sta l b H H1) (hpl:p≠l) (hpn:H p=none):Sta l b H (b7 H1 p o):=by
 obtain ⟨k,x',e,ok⟩:=s
 exact ⟨fun c o hc hco=>by rw[d0 (fun z=>by rw[z,hpn] at hco;cases hco)];exact k c o hc hco,x',by rw[d0 hpl.symm];exact e,ok⟩
noncomputable def sp_lurn:Sp:=fun vs H Q _=>∃(l:Addr) (n:Nat) (x:Int) (b:Bool),vs=[.ref l,.int n]/\H l=some (.lst [.int x,.bl b])/\P7 x b/\1<=n/\n<=4 /\
 ∀(p:Addr) (H':Hp) (ns:List Int),Sta l b H H'->H' p=some (.tup (ns.map V.int))->Mt.Urn n 20 ns->Q (.ref p) H'
noncomputable abbrev s_lurn:Stmt:=u7 46
theorem sc_lurn:FnScope ["_law_state_here","_law_kinds","_law_most","_law_found"] ["_law_state_here","_law_kinds"] (d5 s_lurn):=⟨rfl,rfl,rfl,by decide +kernel,rfl,by decide +kernel,by decide +kernel⟩
theorem a6G (F:Fun K "_law_urn_of" "_law_urn_of" s_lurn f fd) (B:Bt mg) (B2:Bt2 mg) (c1:Cal P w K mg base 1 "_law_take" ["_law_state_here","_law_many"] sp_take):FnOk P w K mg base CX0 2 f fd ["_law_state_here","_law_kinds"] sp_lurn:=by
 refine F.ok sc_lurn (fun vs H Q E h=>?_) (fun cdv A outer s H vs Q E hr h=>?_)
 ·obtain ⟨l,n,x,b,rfl,_⟩:=h
  rfl
 obtain ⟨l,n,x,b,rfl,hl,hst,n1,n4,q⟩:=h
 refine ⟨_,b8 (f9 (i:=2) sc_lurn.nd rfl (Or.inr rfl) (j3 ix_list (D4 (b5 b9 (b5 b9 (b5 b9 (b5 b9 pa_nil))))) (d7 c1 hr rfl (b5 (pv 0) (b5 b9 pa_nil))) (fun _ _=>rfl)))
  (b8 (N9 (N:=["_law_kind","_law_state_here","_law_most"]) (ix:=[none,some 0,some 2]) (ifs:=[]) (tc:=tTrue) (i:=3) rfl sc_lurn.nd rfl rfl (i9 rfl B.range (b5 (pv 1) pa_nil))
   (fun s H ex=>v0 (i:=0) (by decide +kernel) rfl (Or.inl rfl) (.inr rfl)) (fun s H ex=>pifs_nil) (fun s H ex=>d7 c1 hr rfl (b5 (pv 1) (b5 (pv 2) pa_nil))) rfl (by decide +kernel) (by rfl) (by rfl) (fun _=>rfl) (by rfl))
  (b8 (t8 (j9 op_eq (d7 c1 hr rfl (b5 (pv 0) (b5 b9 pa_nil))) b9 (j4 _)) (c0 (S9 b9 (X1 (pv 3) (d7 c1 hr rfl (b5 (pv 0) (b5 (pv 1) pa_nil))) set_list))) pss_nil)
  (b8 (t8 (D6 (C4 (d8 (a06 rfl) rfl B2.any boot_any (b5 (pv 3) pa_nil)))) (c0 (S9 (f8 op_add b9 (d7 c1 hr rfl (b5 (pv 0) (b5 b9 pa_nil)))) (X1 (pv 3) (d7 c1 hr rfl (b5 (pv 0) (b5 (pv 1) pa_nil))) set_list))) pss_nil)
  (c0 (f6 (i7 call_tuple_of rfl B.tuple boot_tuple (b5 (pv 3) pa_nil))))))),?_⟩
 have s0:Sta l b H H:=Sta.start hl hst
 refine ⟨(by show 4<=sizeLine;decide),fun p0 hp0=>⟨_,rfl,?_⟩⟩
 have s1:Sta l b H (b7 H p0 (.lst [.int 3,.int 3,.int 6,.int 21])):=s0.new hp0
 obtain ⟨_,x1,hx1,ok1⟩:=id s1
 refine ⟨l,4,x1,b,rfl,hx1,ok1,by decide,by decide,fun y x2 hy ok2=>?_⟩
 have s2:=s1.go ok2
 have k2:Kp l (b7 H p0 (.lst [.int 3,.int 3,.int 6,.int 21])) (b7 (b7 H p0 (.lst [.int 3,.int 3,.int 6,.int 21])) l (.lst [.int x2,.bl b])):=Kp.at
 generalize b7 (b7 H p0 (.lst [.int 3,.int 3,.int 6,.int 21])) l (.lst [.int x2,.bl b])=H1 at s2 k2
 have hp1:H1 p0=some (.lst [.int 3,.int 3,.int 6,.int 21]):=k2 _ _ (s0.ne hp0).symm b6
 obtain ⟨m,hm,m1,m2⟩:∃m:Int,([.int 3,.int 3,.int 6,.int 21]:List V)[y]?=some (.int m)/\1<=m/\m<=21:=by
  have hy':y<4:=by lia
  match y,hy' with
  | 0,_=>exact ⟨3,rfl,by decide,by decide⟩
  | 1,_=>exact ⟨3,rfl,by decide,by decide⟩
  | 2,_=>exact ⟨6,rfl,by decide,by decide⟩
  | 3,_=>exact ⟨21,rfl,by decide,by decide⟩
 refine ⟨p0,_,_,_,rfl,rfl,.of hp1,i6 hm,?_⟩
 refine ⟨_,rfl,(n:Int),rfl,by lia,by lia,?_⟩
 refine q9 (lo:=0) (n:=n) (sz (by lia)) (fun i ys H2=>Sta l b H H2/\∃ns:List Int,ys=ns.map V.int/\ns.length=i/\∀z∈ns,0<=z/\z<=20)
  ⟨s2,[],rfl,rfl,by simp⟩ (fun i ys H2 h=>?_) rfl (fun i ys H2 hi h=>?_) (fun ys H2 h=>?_)
 ·obtain ⟨_,ns,rfl,hn,_⟩:=h
  rw[List.length_map];exact hn
 ·obtain ⟨s3,ns,rfl,hn,hb⟩:=h
  obtain ⟨_,x3,hx3,ok3⟩:=id s3
  refine ⟨_,rfl,_,rfl,l,m,x3,b,rfl,hx3,ok3,m1,by lia,fun y x4 hy ok4=>?_⟩
  refine ⟨s3.go ok4,ns++[(y:Int)],by rw[List.map_append];rfl,by rw[List.length_append,hn];rfl,fun z hz=>?_⟩
  rcases List.mem_append.mp hz with h|h
  ·exact hb z h
  ·rw[List.mem_singleton.mp h];lia
 ·obtain ⟨s3,ns,rfl,hn,hb⟩:=h
  intro p hp
  have s4:Sta l b H (b7 H2 p (.lst (ns.map V.int))):=s3.new hp
  have hpl:p≠l:=(s3.ne hp).symm
  have hpn:H p=none:=by
   cases e:H p with
   | none=>rfl
   | some o=>rw[s3.1 p o hpl e] at hp;cases hp
  have hp4:b7 H2 p (.lst (ns.map V.int)) p=some (.lst (ns.map V.int)):=b6
  show P4 _ _ _ _ (b7 H2 p (.lst (ns.map V.int)))
  generalize b7 H2 p (.lst (ns.map V.int))=H3 at s4 hp4
  obtain ⟨_,x4,hx4,ok4⟩:=id s4
  refine ⟨_,rfl,l,8,x4,b,rfl,hx4,ok4,by decide,by decide,fun y8 x8 hy8 ok8=>⟨rfl,_,rfl,?_⟩⟩
  have s8:=s4.go ok8
  have k8:Kp l H3 (b7 H3 l (.lst [.int x8,.bl b])):=Kp.at
  generalize b7 H3 l (.lst [.int x8,.bl b])=H8 at s8 k8
  have hp8:=k8 _ _ hpl hp4
  refine W0 (fun _=>?_) (fun _=>?_)
  ·obtain ⟨_,x9,hx9,ok9⟩:=id s8
   refine ⟨_,rfl,_,rfl,_,rfl,l,n,x9,b,rfl,hx9,ok9,by lia,by lia,fun y9 xa hy9 oka=>?_⟩
   have s9:=s8.go oka
   have k9:Kp l H8 (b7 H8 l (.lst [.int xa,.bl b])):=Kp.at
   generalize b7 H8 l (.lst [.int xa,.bl b])=H9 at s9 k9
   have hp9:=k9 _ _ hpl hp8
   have hy9':y9<ns.length:=by lia
   refine ⟨p,_,_,y9,rfl,rfl,hp9,Z7 (by rw[List.length_map];exact hy9'),?_⟩
   have sA:=s9.lput (o:=.lst ((ns.map V.int).set y9 (.int 20))) hpl hpn
   have hpA:b7 H9 p (.lst ((ns.map V.int).set y9 (.int 20))) p=some (.lst ((ns.set y9 20).map V.int)):=by rw[b6,List.map_set]
   have hnA:(ns.set y9 20).length=n:=by rw[List.length_set];exact hn
   have hbA:∀z∈ns.set y9 20,0<=z/\z<=20:=fun z hz=>by
    rcases List.mem_or_eq_of_mem_set hz with h|h
    ·exact hb z h
    ·rw[h];decide
   show P4 _ _ _ _ (b7 H9 p (.lst ((ns.map V.int).set y9 (.int 20))))
   generalize b7 H9 p (.lst ((ns.map V.int).set y9 (.int 20)))=HA at sA hpA
   generalize ns.set y9 20=nsA at hpA hnA hbA
   refine ⟨_,rfl,p,_,rfl,.inl (.of hpA),(by rw[List.all_map];exact List.all_eq_true.mpr fun _ _=>rfl),_,rfl,?_⟩
   rw[any_pos fun x hx=>(hbA x hx).1]
   by_cases hz:0<nsA.sum
   ·rw[decide_eq_true hz]
    refine q5 ⟨_,rfl,p,_,rfl,.inl ⟨.of hpA,fun t ht=>?_⟩⟩
    exact q t _ nsA (sA.new ht) b6 ⟨hnA,hbA,hz⟩
   ·rw[decide_eq_false hz]
    obtain ⟨_,xz,hxz,okz⟩:=id sA
    refine u6 ⟨_,rfl,l,3,xz,b,rfl,hxz,okz,by decide,by decide,fun v x5 hv ok5=>?_⟩
    have s5:=sA.go ok5
    have k5:Kp l HA (b7 HA l (.lst [.int x5,.bl b])):=Kp.at
    generalize b7 HA l (.lst [.int x5,.bl b])=H4 at s5 k5
    obtain ⟨_,x6,hx6,ok6⟩:=id s5
    refine ⟨_,_,rfl,rfl,_,rfl,_,rfl,_,rfl,l,n,x6,b,rfl,hx6,ok6,by lia,by lia,fun y x7 hy ok7=>?_⟩
    have s6:=s5.go ok7
    have k6:Kp l H4 (b7 H4 l (.lst [.int x7,.bl b])):=Kp.at
    generalize b7 H4 l (.lst [.int x7,.bl b])=H5 at s6 k6
    have hp5:H5 p=some (.lst (nsA.map V.int)):=k6 _ _ hpl (k5 _ _ hpl hpA)
    have hy':y<nsA.length:=by lia
    refine ⟨p,_,_,y,rfl,rfl,hp5,Z7 (by rw[List.length_map];exact hy'),?_⟩
    refine ⟨_,rfl,p,_,rfl,.inl ⟨.of b6,fun t ht=>?_⟩⟩
    have s7:=s6.lput (o:=.lst ((nsA.map V.int).set y (.int (1+v)))) hpl hpn
    refine q t _ (nsA.set y (1+v)) (s7.new ht) (by rw[b6,List.map_set]) ⟨by rw[List.length_set];exact hnA,fun z hz=>?_,set_pos' (fun z hz=>(hbA z hz).1) (by lia) hy'⟩
    rcases List.mem_or_eq_of_mem_set hz with h|h
    ·exact hbA z h
    ·rw[h];lia
  ·show P4 _ _ _ _ H8
   refine ⟨_,rfl,p,_,rfl,.inl (.of hp8),(by rw[List.all_map];exact List.all_eq_true.mpr fun _ _=>rfl),_,rfl,?_⟩
   rw[any_pos fun x hx=>(hb x hx).1]
   by_cases hz:0<ns.sum
   ·rw[decide_eq_true hz]
    refine q5 ⟨_,rfl,p,_,rfl,.inl ⟨.of hp8,fun t ht=>?_⟩⟩
    exact q t _ ns (s8.new ht) b6 ⟨hn,hb,hz⟩
   ·rw[decide_eq_false hz]
    obtain ⟨_,xz,hxz,okz⟩:=id s8
    refine u6 ⟨_,rfl,l,3,xz,b,rfl,hxz,okz,by decide,by decide,fun v x5 hv ok5=>?_⟩
    have s5:=s8.go ok5
    have k5:Kp l H8 (b7 H8 l (.lst [.int x5,.bl b])):=Kp.at
    generalize b7 H8 l (.lst [.int x5,.bl b])=H4 at s5 k5
    obtain ⟨_,x6,hx6,ok6⟩:=id s5
    refine ⟨_,_,rfl,rfl,_,rfl,_,rfl,_,rfl,l,n,x6,b,rfl,hx6,ok6,by lia,by lia,fun y x7 hy ok7=>?_⟩
    have s6:=s5.go ok7
    have k6:Kp l H4 (b7 H4 l (.lst [.int x7,.bl b])):=Kp.at
    generalize b7 H4 l (.lst [.int x7,.bl b])=H5 at s6 k6
    have hp5:H5 p=some (.lst (ns.map V.int)):=k6 _ _ hpl (k5 _ _ hpl hp8)
    have hy':y<ns.length:=by lia
    refine ⟨p,_,_,y,rfl,rfl,hp5,Z7 (by rw[List.length_map];exact hy'),?_⟩
    refine ⟨_,rfl,p,_,rfl,.inl ⟨.of b6,fun t ht=>?_⟩⟩
    have s7:=s6.lput (o:=.lst ((ns.map V.int).set y (.int (1+v)))) hpl hpn
    refine q t _ (ns.set y (1+v)) (s7.new ht) (by rw[b6,List.map_set]) ⟨by rw[List.length_set];exact hn,fun z hz=>?_,set_pos' (fun z hz=>(hb z hz).1) (by lia) hy'⟩
    rcases List.mem_or_eq_of_mem_set hz with h|h
    ·exact hb z h
    ·rw[h];lia
end
end G
namespace G
open PySem PySem.Spec PyProof.Rows L2 Mt
theorem W7 {xs:List V}{y:Nat} (h:y<=xs.length):D5 xs (some (y:Int)) none=xs.drop y:=by
 unfold D5
 have e1:HT.sIx xs.length 0 (some (y:Int))=y:=by rw[HT.sIx_nat];lia
 rw[e1,HT.sIx_none]
 exact List.take_of_length_le (by rw[List.length_drop];lia)
theorem W2 {xs:List V}{y:Nat} (h:y<=xs.length):D5 xs none (some (y:Int))=xs.take y:=by
 unfold D5
 have e1:HT.sIx xs.length xs.length (some (y:Int))=y:=by rw[HT.sIx_nat];lia
 rw[e1,HT.sIx_none,List.drop_zero,Nat.sub_zero]
section
variable {P:Program}{w:World}{K:W.Frag}{mg:Str->Option Value}{base:Heap}{f:Addr}{fd:FuncData}
noncomputable def sp_lrule:Sp:=fun vs H Q _=>∃(l:Addr) (n:Nat) (x:Int) (b:Bool),vs=[.ref l,.int n]/\H l=some (.lst [.int x,.bl b])/\P7 x b/\1<=n/\n<=4 /\
 ∀(v:V) (H':Hp) (rs:List (List Int)),Sta l b H H'->Dt l H' (DR rs) v->Mt.Rul n 5 rs->Q v H'
noncomputable abbrev s_lrule:Stmt:=u7 47
theorem sc_lrule:FnScope ["_law_state_here","_law_kinds","_law_way","_law_more","_law_row","_law_far"] ["_law_state_here","_law_kinds"] (d5 s_lrule):=⟨rfl,rfl,rfl,by decide +kernel,rfl,by decide +kernel,by decide +kernel⟩
theorem a5v (F:Fun K "_law_rule" "_law_rule" s_lrule f fd) (B:Bt mg) (c1:Cal P w K mg base 1 "_law_take" ["_law_state_here","_law_many"] sp_take):FnOk P w K mg base CX0 2 f fd ["_law_state_here","_law_kinds"] sp_lrule:=by
 refine F.ok sc_lrule (fun vs H Q E h=>?_) (fun cdv A outer s H vs Q E hr h=>?_)
 ·obtain ⟨l,n,x,b,rfl,_⟩:=h
  rfl
 obtain ⟨l,n,x,b,rfl,hl,hst,n1,n4,q⟩:=h
 refine ⟨_,b8 (f9 (i:=2) sc_lrule.nd rfl (Or.inl rfl) (d7 c1 hr rfl (b5 (pv 0) (b5 b9 pa_nil))))
  (b8 (f9 (i:=3) sc_lrule.nd rfl (Or.inr rfl) (d7 c1 hr rfl (b5 (pv 0) (b5 b9 pa_nil))))
  (b8 (t8 (j9 op_eq (pv 2) b9 (j4 _)) (c0 (f6 (i7 call_tuple_of rfl B.tuple boot_tuple (b5 (m6 (N:=["_law_kind","_law_kinds","_law_more"]) (ix:=[none,some 1,some 3]) (ifs:=[]) (tc:=tTrue) rfl (i9 rfl B.range (b5 (pv 1) pa_nil)) (fun s H ex=>v0 (i:=0) (by decide +kernel) rfl (Or.inr rfl) (.inl rfl)) (fun s H ex=>pifs_nil) (fun s H ex=>(i7 (a3v (K:=K) rfl) rfl B.tuple boot_tuple (b5 (m6 (N:=["_law_one","_law_more","_law_kind"]) (ix:=[none,some 2,some 0]) (ifs:=[]) (tc:=tTrue) rfl (i9 rfl B.range (b5 (pv 1) pa_nil)) (fun s H ex=>v0 (i:=0) (by decide +kernel) rfl (Or.inl rfl) (.inr rfl)) (fun s H ex=>pifs_nil) (fun s H ex=>f8 op_mul (pv 1) (i7 call_int1 rfl B.int boot_int (b5 (E3 op_eq (pv 0) (pv 2) (j4 _)) pa_nil))) rfl (by decide +kernel) (by rfl) (by rfl) (fun _=>rfl)) pa_nil))) rfl (by decide +kernel) (by rfl) (by rfl) (fun _=>rfl)) pa_nil)))) pss_nil)
  (b8 (f9 (i:=4) sc_lrule.nd rfl (Or.inr rfl) (i7 call_tuple_of rfl B.tuple boot_tuple (b5 (m6 (N:=["_law_kind","_law_state_here"]) (ix:=[none,some 0]) (ifs:=[]) (tc:=tTrue) rfl (i9 rfl B.range (b5 (pv 1) pa_nil)) (fun s H ex=>v0 (i:=0) (by decide +kernel) rfl (Or.inl rfl) (.inr rfl)) (fun s H ex=>pifs_nil) (fun s H ex=>d7 c1 hr rfl (b5 (pv 1) (b5 (j3 (a9c (K:=K) rfl) (D4 (b5 b9 (b5 b9 (b5 b9 pa_nil)))) (d7 c1 hr rfl (b5 (pv 1) (b5 b9 pa_nil))) (fun _ _=>rfl)) pa_nil))) rfl (by decide +kernel) (by rfl) (by rfl) (fun _=>rfl)) pa_nil)))
  (b8 (t8 (j9 op_eq (pv 2) b9 (j4 _)) (c0 (f6 (f8 repS (u3 (b5 (pv 4) pa_nil)) (pv 1)))) pss_nil)
  (b8 (t8 (j9 op_eq (pv 2) b9 (j4 _)) (b8 (N9 (N:=["_law_kind","_law_state_here","_law_kinds"]) (ix:=[none,some 0,some 1]) (ifs:=[]) (tc:=tTrue) (i:=5) rfl sc_lrule.nd rfl rfl (i9 rfl B.range (b5 (pv 1) pa_nil)) (fun s H ex=>v0 (i:=0) (by decide +kernel) rfl (Or.inl rfl) (.inr rfl)) (fun s H ex=>pifs_nil) (fun s H ex=>d7 c1 hr rfl (b5 (pv 1) (b5 (pv 2) pa_nil))) rfl (by decide +kernel) (by rfl) (by rfl) (fun _=>rfl) (by rfl)) (c0 (f6 (i7 call_tuple_of rfl B.tuple boot_tuple (b5 (m6 (N:=["_law_place","_law_row"]) (ix:=[none,some 4]) (ifs:=[]) (tc:=tTrue) rfl (G7 (pv 5)) (fun s H ex=>v0 (i:=0) (by decide +kernel) rfl (Or.inl rfl) (.inr rfl)) (fun s H ex=>pifs_nil) (fun s H ex=>f8 catS (G6 slS (pv 1) (L3 (pv 0)) po_none) (G6 slS (pv 1) po_none (L3 (pv 0)))) rfl (by decide +kernel) (by rfl) (by rfl) (fun _=>rfl)) pa_nil))))) pss_nil)
  (b8 (t8 (j9 op_eq (pv 2) b9 (j4 _)) (c0 (f6 (i7 call_tuple_of rfl B.tuple boot_tuple (b5 (m6 (N:=["_law_kind","_law_kinds","_law_more"]) (ix:=[none,some 1,some 3]) (ifs:=[]) (tc:=tTrue) rfl (i9 rfl B.range (b5 (pv 1) pa_nil)) (fun s H ex=>v0 (i:=0) (by decide +kernel) rfl (Or.inr rfl) (.inl rfl)) (fun s H ex=>pifs_nil) (fun s H ex=>(i7 (a3v (K:=K) rfl) rfl B.tuple boot_tuple (b5 (m6 (N:=["_law_one","_law_kind","_law_kinds","_law_more"]) (ix:=[none,some 0,some 1,some 2]) (ifs:=[]) (tc:=tTrue) rfl (i9 rfl B.range (b5 (pv 1) pa_nil)) (fun s H ex=>v0 (i:=0) (by decide +kernel) rfl (Or.inl rfl) (.inr rfl)) (fun s H ex=>pifs_nil) (fun s H ex=>f8 op_mul (pv 3) (i7 call_int1 rfl B.int boot_int (b5 (E3 op_eq (pv 0) (f8 op_mod (f8 op_add (pv 1) b9) (pv 2)) (j4 _)) pa_nil))) rfl (by decide +kernel) (by rfl) (by rfl) (fun _=>rfl)) pa_nil))) rfl (by decide +kernel) (by rfl) (by rfl) (fun _=>rfl)) pa_nil)))) pss_nil)
  (c0 (f6 (i7 call_tuple_of rfl B.tuple boot_tuple (b5 (m6 (N:=["_law_kind","_law_kinds","_law_state_here"]) (ix:=[none,some 1,some 0]) (ifs:=[]) (tc:=tTrue) rfl (i9 rfl B.range (b5 (pv 1) pa_nil)) (fun s H ex=>v0 (i:=0) (by decide +kernel) rfl (Or.inl rfl) (.inr rfl)) (fun s H ex=>pifs_nil) (fun s H ex=>(i7 (a3v (K:=K) rfl) rfl B.tuple boot_tuple (b5 (m6 (N:=["_law_one","_law_state_here"]) (ix:=[none,some 2]) (ifs:=[]) (tc:=tTrue) rfl (i9 rfl B.range (b5 (pv 1) pa_nil)) (fun s H ex=>v0 (i:=0) (by decide +kernel) rfl (Or.inl rfl) (.inr rfl)) (fun s H ex=>pifs_nil) (fun s H ex=>d7 c1 hr rfl (b5 (pv 1) (b5 b9 pa_nil))) rfl (by decide +kernel) (by rfl) (by rfl) (fun _=>rfl)) pa_nil))) rfl (by decide +kernel) (by rfl) (by rfl) (fun _=>rfl)) pa_nil)))))))))),?_⟩
 have lo62:-(2 ^ 62)<=((n:Nat):Int):=by lia
 have hi62:((n:Nat):Int)<2 ^ 62:=by lia
 have s0:Sta l b H H:=Sta.start hl hst
 have fin:∀(rs:List (List Int)) (ys:List V) (H3:Hp) (p ra:Addr),Sta l b H H3->rs.length=n->(∀r∈rs,Mt.Row n 5 r)->Dts l H3 (rs.map DI) ys->H3 p=none->b7 H3 p (.lst ys) ra=none->Q (.ref ra) (b7 (b7 H3 p (.lst ys)) ra (.tup ys)):=fun rs ys H3 p ra s3 h1 h2 h3 hp hra=>by
  have s4:Sta l b H (b7 H3 p (.lst ys)):=s3.new hp
  exact q _ _ rs (s4.new hra) (Dt.tup (s4.ne hra).symm b6 (h3.kp ((Kp.new hp).trans (Kp.new hra)))) ⟨h1,h2⟩
 refine ⟨_,rfl,l,5,x,b,rfl,hl,hst,by decide,by decide,fun wy x1 hwy ok1=>?_⟩
 have s1:=s0.go ok1
 show P4 _ _ _ _ (b7 H l (.lst [.int x1,.bl b]))
 generalize b7 H l (.lst [.int x1,.bl b])=H1 at s1
 obtain ⟨_,x2,hx2,ok2⟩:=id s1
 refine ⟨_,rfl,l,6,x2,b,rfl,hx2,ok2,by decide,by decide,fun mo x3 hmo ok3=>?_⟩
 have s2:=s1.go ok3
 show P4 _ _ _ _ (b7 H1 l (.lst [.int x3,.bl b]))
 generalize b7 H1 l (.lst [.int x3,.bl b])=H2 at s2
 refine ⟨_,rfl,rfl,_,rfl,W0 (fun _=>?_) (fun _=>?_)⟩
 ·refine ⟨_,rfl,(n:Int),rfl,lo62,hi62,?_⟩
  refine q9 (lo:=0) (n:=n) (sz (by lia)) (fun i ys H3=>Sta l b H H3/\∃rs:List (List Int),rs.length=i/\(∀r∈rs,Mt.Row n 5 r)/\Dts l H3 (rs.map DI) ys)
   ⟨s2,[],rfl,by simp,Dts.nil _ _⟩ (fun i ys H3 h=>?_) rfl (fun i ys H3 hi h=>?_) (fun ys H3 h=>?_)
  ·obtain ⟨_,rs,hr1,_,hd⟩:=h
   rw[<- hd.len,List.length_map];exact hr1
  ·obtain ⟨s3,rs,hr1,hr2,hd⟩:=h
   refine ⟨_,rfl,(n:Int),rfl,lo62,hi62,?_⟩
   refine q9 (lo:=0) (n:=n) (sz (by lia)) (fun j zs H4=>Sta l b H H4/\Kp l H3 H4/\∃r:List Int,zs=r.map V.int/\r.length=j/\∀z∈r,0<=z/\z<=5)
    ⟨s3,Kp.refl _ _,[],rfl,rfl,by simp⟩ (fun j zs H4 h=>?_) rfl (fun j zs H4 hj h=>?_) (fun zs H4 h=>?_)
   ·obtain ⟨_,_,r,rfl,hr,_⟩:=h
    rw[List.length_map];exact hr
   ·obtain ⟨s4,k4,r,rfl,hr,hz⟩:=h
    refine ⟨_,rfl,_,rfl,_,rfl,rfl,.inr ⟨_,rfl,_,_,rfl,rfl,.inl ⟨by lia,by lia⟩,?_⟩⟩
    refine ⟨s4,k4,r++[_],by rw[List.map_append];rfl,by rw[List.length_append,hr];rfl,fun z hz'=>?_⟩
    rcases List.mem_append.mp hz' with h|h
    ·exact hz z h
    ·rw[List.mem_singleton.mp h]
     split <;> lia
   ·obtain ⟨s4,k4,r,rfl,hr,hz⟩:=h
    intro p hp
    have s5:Sta l b H (b7 H4 p (.lst (r.map V.int))):=s4.new hp
    refine ⟨p,_,rfl,.inl ⟨.of b6,fun t ht=>?_⟩⟩
    have kk:Kp l H3 (b7 (b7 H4 p (.lst (r.map V.int))) t (.tup (r.map V.int))):=(k4.trans (Kp.new hp)).trans (Kp.new ht)
    refine ⟨s5.new ht,rs++[r],by rw[List.length_append,hr1];rfl,fun r' hr'=>?_,?_⟩
    ·rcases List.mem_append.mp hr' with h|h
     ·exact hr2 r' h
     ·rw[List.mem_singleton.mp h];exact ⟨hr,hz⟩
    ·rw[List.map_append]
     exact (hd.kp kk).append (Dts.cons (Dt.mkI (s5.ne ht).symm b6) (Dts.nil _ _))
  ·obtain ⟨s3,rs,hr1,hr2,hd⟩:=h
   exact fun p hp=>⟨p,_,rfl,.inl ⟨.of b6,fun ra hra=>fin rs ys H3 p ra s3 hr1 hr2 hd hp hra⟩⟩
 refine ⟨_,rfl,(n:Int),rfl,lo62,hi62,?_⟩
 refine q9 (lo:=0) (n:=n) (sz (by lia)) (fun i ys H3=>Sta l b H H3/\∃ns:List Int,ys=ns.map V.int/\ns.length=i/\∀z∈ns,0<=z/\z<=5)
  ⟨s2,[],rfl,rfl,by simp⟩ (fun i ys H3 h=>?_) rfl (fun i ys H3 hi h=>?_) (fun ys H3 h=>?_)
 ·obtain ⟨_,ns,rfl,hn,_⟩:=h
  rw[List.length_map];exact hn
 ·obtain ⟨s3,ns,rfl,hn,hb⟩:=h
  refine ⟨_,rfl,(by show 3<=sizeLine;decide),fun p5 hp5=>?_⟩
  have s5:Sta l b H (b7 H3 p5 (.lst [.int 2,.int 3,.int 6])):=s3.new hp5
  have np5:p5≠l:=(s3.ne hp5).symm
  obtain ⟨_,x5,hx5,ok5⟩:=id s5
  refine ⟨_,rfl,l,3,x5,b,rfl,hx5,ok5,by decide,by decide,fun y x6 hy ok6=>?_⟩
  have s6:=s5.go ok6
  have k6:Kp l (b7 H3 p5 (.lst [.int 2,.int 3,.int 6])) (b7 (b7 H3 p5 (.lst [.int 2,.int 3,.int 6])) l (.lst [.int x6,.bl b])):=Kp.at
  have hp6:=k6 _ _ np5 b6
  obtain ⟨m,hm,m1,m2⟩:∃m:Int,([.int 2,.int 3,.int 6]:List V)[y]?=some (.int m)/\1<=m/\m<=6:=by
   have hy':y<3:=by lia
   match y,hy' with
   | 0,_=>exact ⟨2,rfl,by decide,by decide⟩
   | 1,_=>exact ⟨3,rfl,by decide,by decide⟩
   | 2,_=>exact ⟨6,rfl,by decide,by decide⟩
  obtain ⟨_,x7,hx7,ok7⟩:=id s6
  refine ⟨p5,_,_,_,rfl,rfl,.of hp6,i6 hm,l,m,x7,b,rfl,hx7,ok7,m1,by lia,fun y2 x8 hy2 ok8=>?_⟩
  refine ⟨s6.go ok8,ns++[(y2:Int)],by rw[List.map_append];rfl,by rw[List.length_append,hn];rfl,fun z hz=>?_⟩
  rcases List.mem_append.mp hz with h|h
  ·exact hb z h
  ·rw[List.mem_singleton.mp h];lia
 obtain ⟨s3,ns,rfl,hn,hb⟩:=h
 intro p3 hp3
 refine ⟨p3,_,rfl,.inl ⟨.of b6,fun rw hrw=>?_⟩⟩
 have s4:Sta l b H (b7 H3 p3 (.lst (ns.map V.int))):=s3.new hp3
 have s5:=s4.new (o:=.tup (ns.map V.int)) hrw
 have hr5:b7 (b7 H3 p3 (.lst (ns.map V.int))) rw (.tup (ns.map V.int)) rw=some (.tup (ns.map V.int)):=b6
 show P4 _ _ _ _ (b7 (b7 H3 p3 (.lst (ns.map V.int))) rw (.tup (ns.map V.int)))
 generalize b7 (b7 H3 p3 (.lst (ns.map V.int))) rw (.tup (ns.map V.int))=H5 at s5 hr5
 have nrw:rw≠l:=s5.neL hr5
 have hrow:Mt.Row n 5 ns:=⟨hn,hb⟩
 refine ⟨_,rfl,rfl,_,rfl,W0 (fun _=>?_) (fun _=>?_)⟩
 ·refine ⟨_,rfl,(by show 1<=sizeLine;decide),fun pa hpa=>⟨_,rfl,pa,.ref rw,n,rfl,rfl,b6,n1,n4,fun pb Hb gb hpb=>?_⟩⟩
  have g:=(Same.new (o:=.tup [.ref rw]) hpa).trans gb
  have s6:=s5.same g
  refine q _ _ (List.replicate n ns) s6 (Dt.tup (s6.neL hpb) hpb ?_) ⟨List.length_replicate,fun r hr=>by rw[List.eq_of_mem_replicate hr];exact hrow⟩
  rw[List.map_replicate]
  exact a2z (Dt.mkI nrw (g _ _ hr5)) n
 refine ⟨_,rfl,rfl,_,rfl,W0 (fun _=>?_) (fun _=>?_)⟩
 ·refine ⟨_,rfl,(n:Int),rfl,lo62,hi62,?_⟩
  refine q9 (lo:=0) (n:=n) (sz (by lia)) (fun i ys H6=>Sta l b H H6/\Kp l H5 H6/\∃ks:List Nat,ys=ks.map (fun (k:Nat)=>V.int k)/\ks.length=i/\∀z∈ks,z<n)
   ⟨s5,Kp.refl _ _,[],rfl,rfl,by simp⟩ (fun i ys H6 h=>?_) rfl (fun i ys H6 hi h=>?_) (fun ys H6 h=>?_)
  ·obtain ⟨_,_,ks,rfl,hk,_⟩:=h
   rw[List.length_map];exact hk
  ·obtain ⟨s6,k6,ks,rfl,hk,hlt⟩:=h
   obtain ⟨_,x6,hx6,ok6⟩:=id s6
   refine ⟨_,rfl,_,rfl,l,n,x6,b,rfl,hx6,ok6,by lia,by lia,fun y x7 hy ok7=>?_⟩
   refine ⟨s6.go ok7,k6.trans Kp.at,ks++[y],by rw[List.map_append];rfl,by rw[List.length_append,hk];rfl,fun z hz=>?_⟩
   rcases List.mem_append.mp hz with h|h
   ·exact hlt z h
   ·rw[List.mem_singleton.mp h];lia
  obtain ⟨s6,k6,ks,rfl,hk,hlt⟩:=h
  intro pf hpf
  have s7:=s6.new (o:=.lst (ks.map (fun (k:Nat)=>V.int k))) hpf
  have npf:pf≠l:=(s6.ne hpf).symm
  have hf7:b7 H6 pf (.lst (ks.map (fun (k:Nat)=>V.int k))) pf=some (.lst (ks.map (fun (k:Nat)=>V.int k))):=b6
  have hr7:b7 H6 pf (.lst (ks.map (fun (k:Nat)=>V.int k))) rw=some (.tup (ns.map V.int)):=Same.new hpf _ _ (k6 _ _ nrw hr5)
  generalize b7 H6 pf (.lst (ks.map (fun (k:Nat)=>V.int k)))=H7 at s7 hf7 hr7
  refine ⟨_,rfl,pf,rfl,⟨_,.of hf7⟩,a5z (K:=K) (a:=pf) (xs:=ks.map (fun (k:Nat)=>V.int k)) (by rw[List.length_map,hk];exact sz (by lia)) (fun i ys H8=>Same H7 H8/\i<=n/\∃rs:List (List Int),rs.length=i/\(∀r∈rs,Mt.Row n 5 r)/\Dts l H8 (rs.map DI) ys)
   ⟨Same.refl _,Nat.zero_le _,[],rfl,by simp,Dts.nil _ _⟩ (fun i ys H8 h=>?_) (fun i ys H8 _ h=>.of (h.1 _ _ hf7)) rfl (fun i ys H8 v hv h=>?_) (fun ys H8 h=>?_)⟩
  ·obtain ⟨_,_,rs,hr1,_,hd⟩:=h
   rw[<- hd.len,List.length_map];exact hr1
  ·obtain ⟨g8,hin,rs,hr1,hr2,hd⟩:=h
   rw[List.getElem?_map] at hv
   obtain ⟨k,hk',ev⟩:=Option.map_eq_some_iff.mp hv
   subst ev
   have hik:=(List.getElem?_eq_some_iff.mp hk').1
   have hkn:=hlt k (List.mem_of_getElem? hk')
   have hr8:=g8 _ _ hr7
   have hkl:k<=(ns.map V.int).length:=by rw[List.length_map];lia
   have ea:D5 (ns.map V.int) (some (k:Int)) none=(ns.drop k).map V.int:=by rw[W7 hkl,List.map_drop]
   have eb:D5 (ns.map V.int) none (some (k:Int))=(ns.take k).map V.int:=by rw[W2 hkl,List.map_take]
   refine ⟨_,rfl,_,rfl,_,rfl,rw,_,rfl,hr8,fun p1 H9 g9 hp1=>⟨_,rfl,_,rfl,_,rfl,rw,_,rfl,g9 _ _ hr8,fun p2 HA gA hp2=>?_⟩⟩
   rw[ea] at hp1
   rw[eb] at hp2
   refine ⟨p1,p2,_,_,rfl,rfl,gA _ _ hp1,hp2,(by rw[List.length_map,List.length_map,List.length_drop,List.length_take];lia),fun p HB gB hpB=>?_⟩
   have gAll:=(g9.trans gA).trans gB
   have gTot:=g8.trans gAll
   have sB:=s7.same gTot
   refine ⟨gTot,by lia,rs++[ns.drop k++ns.take k],by rw[List.length_append,hr1];rfl,fun r' hr'=>?_,?_⟩
   ·rcases List.mem_append.mp hr' with h|h
    ·exact hr2 r' h
    ·rw[List.mem_singleton.mp h]
     refine ⟨by rw[List.length_append,List.length_drop,List.length_take];lia,fun z hz=>?_⟩
     have hz':z∈ns:=by
      rcases List.mem_append.mp hz with h|h
      ·exact List.mem_of_mem_drop h
      ·exact List.mem_of_mem_take h
     exact hb z hz'
   ·rw[List.map_append]
    exact (hd.kp (gAll.kp l)).append (Dts.cons (Dt.mkI (sB.neL hpB) (by rw[hpB,List.map_append])) (Dts.nil _ _))
  ·obtain ⟨g8,_,rs,hr1,hr2,hd⟩:=h
   rw[List.length_map,hk] at hr1
   exact fun p hp=>⟨p,_,rfl,.inl ⟨.of b6,fun ra hra=>fin rs ys H8 p ra (s7.same g8) hr1 hr2 hd hp hra⟩⟩
 refine ⟨_,rfl,rfl,_,rfl,W0 (fun _=>?_) (fun _=>?_)⟩
 ·refine ⟨_,rfl,(n:Int),rfl,lo62,hi62,?_⟩
  refine q9 (lo:=0) (n:=n) (sz (by lia)) (fun i ys H3=>Sta l b H H3/\∃rs:List (List Int),rs.length=i/\(∀r∈rs,Mt.Row n 5 r)/\Dts l H3 (rs.map DI) ys)
   ⟨s5,[],rfl,by simp,Dts.nil _ _⟩ (fun i ys H3 h=>?_) rfl (fun i ys H3 hi h=>?_) (fun ys H3 h=>?_)
  ·obtain ⟨_,rs,hr1,_,hd⟩:=h
   rw[<- hd.len,List.length_map];exact hr1
  ·obtain ⟨s3,rs,hr1,hr2,hd⟩:=h
   refine ⟨_,rfl,(n:Int),rfl,lo62,hi62,?_⟩
   refine q9 (lo:=0) (n:=n) (sz (by lia)) (fun j zs H4=>Sta l b H H4/\Kp l H3 H4/\∃r:List Int,zs=r.map V.int/\r.length=j/\∀z∈r,0<=z/\z<=5)
    ⟨s3,Kp.refl _ _,[],rfl,rfl,by simp⟩ (fun j zs H4 h=>?_) rfl (fun j zs H4 hj h=>?_) (fun zs H4 h=>?_)
   ·obtain ⟨_,_,r,rfl,hr,_⟩:=h
    rw[List.length_map];exact hr
   ·obtain ⟨s4,k4,r,rfl,hr,hz⟩:=h
    refine ⟨_,rfl,_,rfl,_,rfl,_,_,rfl,rfl,_,rfl,_,_,rfl,rfl,(by lia),rfl,.inr ⟨_,rfl,_,_,rfl,rfl,.inl ⟨by lia,by lia⟩,?_⟩⟩
    refine ⟨s4,k4,r++[_],by rw[List.map_append];rfl,by rw[List.length_append,hr];rfl,fun z hz'=>?_⟩
    rcases List.mem_append.mp hz' with h|h
    ·exact hz z h
    ·rw[List.mem_singleton.mp h]
     split <;> lia
   ·obtain ⟨s4,k4,r,rfl,hr,hz⟩:=h
    intro p hp
    have s5:Sta l b H (b7 H4 p (.lst (r.map V.int))):=s4.new hp
    refine ⟨p,_,rfl,.inl ⟨.of b6,fun t ht=>?_⟩⟩
    have kk:Kp l H3 (b7 (b7 H4 p (.lst (r.map V.int))) t (.tup (r.map V.int))):=(k4.trans (Kp.new hp)).trans (Kp.new ht)
    refine ⟨s5.new ht,rs++[r],by rw[List.length_append,hr1];rfl,fun r' hr'=>?_,?_⟩
    ·rcases List.mem_append.mp hr' with h|h
     ·exact hr2 r' h
     ·rw[List.mem_singleton.mp h];exact ⟨hr,hz⟩
    ·rw[List.map_append]
     exact (hd.kp kk).append (Dts.cons (Dt.mkI (s5.ne ht).symm b6) (Dts.nil _ _))
  ·obtain ⟨s3,rs,hr1,hr2,hd⟩:=h
   exact fun p hp=>⟨p,_,rfl,.inl ⟨.of b6,fun ra hra=>fin rs ys H3 p ra s3 hr1 hr2 hd hp hra⟩⟩
 refine ⟨_,rfl,(n:Int),rfl,lo62,hi62,?_⟩
 refine q9 (lo:=0) (n:=n) (sz (by lia)) (fun i ys H3=>Sta l b H H3/\∃rs:List (List Int),rs.length=i/\(∀r∈rs,Mt.Row n 5 r)/\Dts l H3 (rs.map DI) ys)
  ⟨s5,[],rfl,by simp,Dts.nil _ _⟩ (fun i ys H3 h=>?_) rfl (fun i ys H3 hi h=>?_) (fun ys H3 h=>?_)
 ·obtain ⟨_,rs,hr1,_,hd⟩:=h
  rw[<- hd.len,List.length_map];exact hr1
 ·obtain ⟨s3,rs,hr1,hr2,hd⟩:=h
  refine ⟨_,rfl,(n:Int),rfl,lo62,hi62,?_⟩
  refine q9 (lo:=0) (n:=n) (sz (by lia)) (fun j zs H4=>Sta l b H H4/\Kp l H3 H4/\∃r:List Int,zs=r.map V.int/\r.length=j/\∀z∈r,0<=z/\z<=5)
   ⟨s3,Kp.refl _ _,[],rfl,rfl,by simp⟩ (fun j zs H4 h=>?_) rfl (fun j zs H4 hj h=>?_) (fun zs H4 h=>?_)
  ·obtain ⟨_,_,r,rfl,hr,_⟩:=h
   rw[List.length_map];exact hr
  ·obtain ⟨s4,k4,r,rfl,hr,hz⟩:=h
   obtain ⟨_,x5,hx5,ok5⟩:=id s4
   refine ⟨_,rfl,l,6,x5,b,rfl,hx5,ok5,by decide,by decide,fun y x6 hy ok6=>?_⟩
   refine ⟨s4.go ok6,k4.trans Kp.at,r++[(y:Int)],by rw[List.map_append];rfl,by rw[List.length_append,hr];rfl,fun z hz'=>?_⟩
   rcases List.mem_append.mp hz' with h|h
   ·exact hz z h
   ·rw[List.mem_singleton.mp h];lia
  ·obtain ⟨s4,k4,r,rfl,hr,hz⟩:=h
   intro p hp
   have s5:Sta l b H (b7 H4 p (.lst (r.map V.int))):=s4.new hp
   refine ⟨p,_,rfl,.inl ⟨.of b6,fun t ht=>?_⟩⟩
   have kk:Kp l H3 (b7 (b7 H4 p (.lst (r.map V.int))) t (.tup (r.map V.int))):=(k4.trans (Kp.new hp)).trans (Kp.new ht)
   refine ⟨s5.new ht,rs++[r],by rw[List.length_append,hr1];rfl,fun r' hr'=>?_,?_⟩
   ·rcases List.mem_append.mp hr' with h|h
    ·exact hr2 r' h
    ·rw[List.mem_singleton.mp h];exact ⟨hr,hz⟩
   ·rw[List.map_append]
    exact (hd.kp kk).append (Dts.cons (Dt.mkI (s5.ne ht).symm b6) (Dts.nil _ _))
 ·obtain ⟨s3,rs,hr1,hr2,hd⟩:=h
  exact fun p hp=>⟨p,_,rfl,.inl ⟨.of b6,fun ra hra=>fin rs ys H3 p ra s3 hr1 hr2 hd hp hra⟩⟩
end
end G
namespace G
open PySem PySem.Spec PyProof.Rows L2 Mt
noncomputable def ok2 (d:PyData):Prop:=E4 d/\∀ds,d=.tuple ds->∀r∈ds,E4 r
section
variable {Pr:Hp->V->Prop}{m m1 m2:Nat}{ta tb te:TE}{σ:L2.St}{H:Hp}
end
end G
namespace L2
open PySem PySem.Spec PyProof.Rows
noncomputable def TL (H:Hp):List (List Int)->List V->Prop
 | [],[]=>True
 | z::zs,x::xs=>(∃a,x=.ref a/\H a=some (.tup (z.map V.int)))/\TL H zs xs
 | _,_=>False
theorem TL.same {H H':Hp} (g:Same H H'):∀{zs:List (List Int)}{xs:List V},TL H zs xs->TL H' zs xs
 | [],[],_=>trivial
 | z::zs,x::xs,h=>⟨let ⟨a,e,q⟩:=h.1;⟨a,e,g _ _ q⟩,TL.same g h.2⟩
 | [],_::_,h=>h.elim
 | _::_,[],h=>h.elim
theorem TL.len {H:Hp}:∀{zs:List (List Int)}{xs:List V},TL H zs xs->zs.length=xs.length
 | [],[],_=>rfl
 | z::zs,x::xs,h=>by rw[List.length_cons,List.length_cons,TL.len h.2]
 | [],_::_,h=>h.elim
 | _::_,[],h=>h.elim
theorem TL.get {H:Hp}:∀{zs:List (List Int)}{xs:List V}{i:Nat}{x:V},TL H zs xs->xs[i]?=some x->∃z a,zs[i]?=some z/\x=.ref a/\H a=some (.tup (z.map V.int))
 | z::zs,x::xs,0,y,h,e=>by
  obtain ⟨a,ea,q⟩:=h.1
  cases e
  exact ⟨z,a,rfl,ea,q⟩
 | z::zs,x::xs,i+1,y,h,e=>TL.get (i:=i) h.2 e
 | [],[],i,y,h,e=>by simp at e
 | [],_::_,i,y,h,e=>h.elim
 | _::_,[],i,y,h,e=>h.elim
theorem TL.snoc {H:Hp}{z:List Int}{a:Addr} (q:H a=some (.tup (z.map V.int))):∀{zs:List (List Int)}{xs:List V},TL H zs xs->TL H (zs++[z]) (xs++[.ref a])
 | [],[],_=>⟨⟨a,rfl,q⟩,trivial⟩
 | w::zs,x::xs,h=>⟨h.1,TL.snoc q h.2⟩
 | [],_::_,h=>h.elim
 | _::_,[],h=>h.elim
theorem a3u {lo:Int}{n:Nat}{σ0:St}{tc:TT}{te:TE}{H:Hp}{F:List V->Hp->Prop} (hn:n<=sizeLine) (Pv:Nat->List V->Hp->Prop) (h0:Pv 0 [] H) (hl:∀i ys H,Pv i ys H->ys.length<=i) (hσ:σ0[0]?=some none)
  (hs:∀i ys H,i<n->Pv i ys H->tc (σ0.set 0 (some (.int (lo+i)))) H fun b H5=>if b=true then te (σ0.set 0 (some (.int (lo+i)))) H5 (fun z H'=>Pv (i+1) (ys++[z]) H') else Pv (i+1) ys H5) (hd:∀ys H,Pv n ys H->F ys H):Y0 (X4 lo n) σ0 (r6 0) tc te H F:=by
 refine ⟨fun i m ys H=>m=n - i/\i<=n/\Pv i ys H,⟨n,by simp,Nat.zero_le _,h0⟩,?_⟩
 rintro i m ys H2 ⟨rfl,hi,p⟩
 have hlen:=hl i ys H2 p
 refine ⟨by lia,?_⟩
 by_cases hlt:i<n
 ·refine .inr ⟨hlt,fun y H'=>Pv (i+1) (ys++[y]) H',fun H'=>Pv (i+1) ys H',fun y H' q=>⟨n - (i+1),by lia,rfl,hlt,q⟩,fun H' q=>⟨n - (i+1),by lia,rfl,hlt,q⟩,fun x H3 y=>?_⟩
  obtain ⟨rfl,rfl⟩:=y
  exact ⟨Wk.set (.inl hσ),hs i ys _ hlt p⟩
 ·have e:i=n:=by lia
  subst e
  exact .inl ⟨Nat.le_refl _,hd ys H2 p⟩
theorem eqvI2:∀a b:List Int,PyData.eqvAll (a.map PyData.int) (b.map PyData.int)=decide (a=b)
 | [],[]=>by unfold PyData.eqvAll;rfl
 | [],y::b=>by
  show PyData.eqvAll [] (.int y::b.map PyData.int)=_
  unfold PyData.eqvAll;rfl
 | x::a,[]=>by
  show PyData.eqvAll (.int x::a.map PyData.int) []=_
  unfold PyData.eqvAll;rfl
 | x::a,y::b=>by
  show PyData.eqvAll (.int x::a.map PyData.int) (.int y::b.map PyData.int)=_
  unfold PyData.eqvAll
  rw[eqvI2 a b]
  unfold PyData.eqv
  by_cases h:x=y
  ·subst h;simp
  ·simp[h]
end L2
namespace L2
open PySem PySem.Spec PyProof.Rows
open PySem.W (KasT)
section
variable {n:Nat} (hn:0<n)
include hn
end
end L2
namespace L2
open PySem PySem.Spec PyProof.Rows
section
variable {prog:Program}{w:World}{A:Around}{E:Value->Shared->Prop}{s:Shared}
end
end L2
namespace L2
open PySem PySem.Spec PyProof.Rows
section
variable {prog:Program}{w:World}{A:Around}{E:Value->Shared->Prop}{s:Shared}{v d:Addr}{od:Obj}{es:Array DictEntry}{ep:Nat}
end
section
variable {prog:Program}{w:World}{A:Around}{E:Value->Shared->Prop}{s:Shared}
end
end L2
namespace L2
open PySem PySem.Spec PyProof.Rows
section
variable {prog:Program}{w:World}{A:Around}{E:Value->Shared->Prop}{s:Shared}
end
end L2
namespace L2
open PySem PySem.Spec PyProof.Rows
theorem F6 {α β:Type}{f:α->β}:∀{l:List β}{m:List α},l.Perm (m.map f)->∃m':List α,m'.Perm m/\l=m'.map f
 | [],m,h=>by
  have e:m.map f=[]:=h.nil_eq.symm
  rw[List.map_eq_nil_iff] at e
  exact ⟨[],by rw[e],rfl⟩
 | b::l,m,h=>by
  have hb:b∈m.map f:=h.mem_iff.mp List.mem_cons_self
  obtain ⟨x,hx,e⟩:=List.mem_map.mp hb
  obtain ⟨p,q,em⟩:=List.append_of_mem hx
  subst em e
  have h2:(f x::l).Perm (f x::(p++q).map f):=h.trans (by
   rw[List.map_append,List.map_cons,List.map_append]
   exact List.perm_middle)
  obtain ⟨m',h3,e3⟩:=F6 (m:=p++q) h2.cons_inv
  exact ⟨x::m',(h3.cons x).trans List.perm_middle.symm,by rw[e3];rfl⟩
section
variable {X:Cx}{pins:List (Addr × Obj)}{σ:St}{H:Hp}{s:Shared}
theorem Inv.lays {N:Hp}{h':Heap}{t':Nat} (I:Inv X pins σ H s) (k:∀b u,s.heap.get? b=some u->h'.get? b=some u)
  (ok:∀b o,s.heap.objs.size<=b->N b=some o->ObjOk X.prog X.w (fun b=>if b<s.heap.objs.size then H b else N b) h' b o):
  Inv X pins σ (fun b=>if b<s.heap.objs.size then H b else N b) { s with heap:=h',toks:=t' }:=by
 have lo:∀b o,H b=some o->(fun b=>if b<s.heap.objs.size then H b else N b) b=some o:=fun b o e=>by
  show (if b<s.heap.objs.size then H b else N b)=some o
  rw[if_pos (I.hok.lt e)];exact e
 refine I.un ⟨fun b o q _ _ _=>k b o q,fun b o q _ _ _=>⟨o.slots,k b o q⟩,fun b o q n _=>?_,fun b o q _=>⟨o,k b o q⟩,fun b xs q=>lo b _ q,fun b o u q=>lo b _ q,fun b ps q=>⟨#[],(lo b _ q).trans (by simp)⟩⟩ fun b o e=>?_
 ·show (if b<s.heap.objs.size then H b else N b)=none
  rw[if_pos (Heap.lt_size q)];exact n
 ·by_cases hb:b<s.heap.objs.size
  ·have e':H b=some o:=by
    have:(if b<s.heap.objs.size then H b else N b)=some o:=e
    rwa [if_pos hb] at this
   exact (I.hok b o e').stay (fun c v _ q=>k c v q) (fun c q=>lo c _ q) fun c xs q=>lo c _ q
  ·have e':N b=some o:=by
    have:(if b<s.heap.objs.size then H b else N b)=some o:=e
    rwa [if_neg hb] at this
   exact ok b o (Nat.le_of_not_lt hb) e'
theorem a6K (ns:List Int):(ns.map (Sum.inl:Int->Key)).map kV=ns.map V.int:=by rw[List.map_map];rfl
end
end L2
namespace L2
open PySem PySem.Spec PyProof.Rows
section
variable {K:W.Frag}{σ0:St}{te:TE}{H:Hp}{F:List V->Hp->Prop}
end
theorem canLayI':∀ns:List Int,PyData.canLayAll0 (ns.map PyData.int)=true
 | []=>rfl
 | n::ns=>by
  show PyData.canLayAll0 (.int n::ns.map PyData.int)=true
  unfold PyData.canLayAll0
  rw[canLayI' ns]
  first|rfl|simp[PyData.canLay0]
theorem depthI':∀ns:List Int,PyData.depthAll (ns.map PyData.int)<=1
 | []=>by first|decide|simp[PyData.depthAll]
 | n::ns=>by
  have:=depthI' ns
  show PyData.depthAll (.int n::ns.map PyData.int)<=1
  unfold PyData.depthAll
  have h:PyData.depth (.int n)<=1:=by first|decide|simp[PyData.depth]
  lia
theorem a8e (ns:List Int):PyData.canLay0 (DI ns)=true/\PyData.depth (DI ns)<=2:=by
 refine ⟨?_,?_⟩
 ·show PyData.canLay0 (.tuple (ns.map PyData.int))=true
  unfold PyData.canLay0
  exact canLayI' ns
 ·have:=depthI' ns
  show PyData.depth (.tuple (ns.map PyData.int))<=2
  unfold PyData.depth
  lia
theorem J4 (ns:List Int):SeqAt.shaped (DI ns)=true:=by
 unfold SeqAt.shaped
 rw[Bool.and_eq_true]
 exact ⟨(a8e ns).1,decide_eq_true (by have:=(a8e ns).2;lia)⟩
theorem a5R (a b:List Int):PyData.eqv (DI a) (DI b)=decide (a=b):=by unfold DI PyData.eqv;exact eqvI2 a b
theorem a6z {H:Hp}{x y:V}{a b:List Int}{l:Addr}{Q:VK} (hx:Dt l H (DI a) x) (hy:Dt l H (DI b) y) (q:Q (.bl (decide (a=b))) H):rEqD x y H Q:=by
 refine ⟨l,DI a,DI b,hx,hy,J4 a,J4 b,?_⟩
 rw[a5R];exact q
theorem a6R {H:Hp}{x y:V}{a b:List Int}{l:Addr}{Q:VK} (hx:Dt l H (DI a) x) (hy:Dt l H (DI b) y) (q:Q (.bl (!decide (a=b))) H):rNeD x y H Q:=by
 refine ⟨l,DI a,DI b,hx,hy,J4 a,J4 b,?_⟩
 rw[a5R];exact q
end L2
namespace Mq
open PySem PySem.Spec L2 Mt Md
noncomputable abbrev TabQ:=List (List Int × Rat)
noncomputable def addQ:TabQ->List Int->Rat->TabQ
 | [],k,x=>[(k,x)]
 | p::D,k,x=>if p.1=k then (p.1,p.2+x)::D else p::addQ D k x
noncomputable def valQ:TabQ->List Int->Rat
 | [],_=>0
 | p::D,k=>if p.1=k then p.2 else valQ D k
noncomputable def linQ:TabQ->(List Int->Rat)->Rat
 | [],_=>0
 | p::D,φ=>p.2*φ p.1+linQ D φ
theorem F5 (p:List Int × Rat) (D:TabQ) (φ:List Int->Rat):linQ (p::D) φ=p.2*φ p.1+linQ D φ:=rfl
theorem a2a (k:List Int) (x:Rat) (φ:List Int->Rat):∀D:TabQ,linQ (addQ D k x) φ=linQ D φ+x*φ k
 | []=>by show x*φ k+0=0+x*φ k;grind
 | p::D=>by
  unfold addQ
  split
  ·rename_i e
   rw[F5,F5]
   show (p.2+x)*φ p.1+_=_
   rw[e];grind
  ·rw[F5,F5,a2a k x φ D];grind
theorem R1 {k:List Int}{x:Rat}:∀{D:TabQ}{p:List Int × Rat},p∈addQ D k x->p.1=k ∨ ∃q∈D,q.1=p.1
 | [],p,h=>by
  unfold addQ at h
  rw[List.mem_singleton.mp h];exact .inl rfl
 | q::D,p,h=>by
  unfold addQ at h
  split at h
  ·rcases List.mem_cons.mp h with z|z
   ·subst z;exact .inr ⟨q,List.mem_cons_self,rfl⟩
   ·exact .inr ⟨p,List.mem_cons_of_mem _ z,rfl⟩
  ·rcases List.mem_cons.mp h with z|z
   ·subst z;exact .inr ⟨_,List.mem_cons_self,rfl⟩
   ·rcases R1 z with y|⟨r,hr,e⟩
    ·exact .inl y
    ·exact .inr ⟨r,List.mem_cons_of_mem _ hr,e⟩
theorem a1B (k:List Int) (x:Rat):∀D:TabQ,(addQ D k x).length<=D.length+1
 | []=>by unfold addQ;simp
 | p::D=>by
  unfold addQ
  split
  ·simp
  ·have:=a1B k x D
   rw[List.length_cons,List.length_cons];lia
noncomputable def F7 (D:TabQ):Prop:=(D.map (·.1)).Nodup
theorem a2X {k:List Int}{x:Rat}:∀{D:TabQ},F7 D->F7 (addQ D k x)
 | [],_=>by unfold addQ F7;simp
 | p::D,h=>by
  unfold F7 at h
  rw[List.map_cons,List.nodup_cons] at h
  unfold addQ
  split
  ·unfold F7;rw[List.map_cons,List.nodup_cons];exact h
  ·rename_i e
   unfold F7;rw[List.map_cons,List.nodup_cons]
   refine ⟨fun z=>?_,a2X h.2⟩
   obtain ⟨q,hq,eq⟩:=List.mem_map.mp z
   rcases R1 hq with y|⟨r,hr,er⟩
   ·exact e (by rw[<- eq,y])
   ·exact h.1 (List.mem_map.mpr ⟨r,hr,by rw[er,eq]⟩)
noncomputable def FrAt (H:Hp) (x:Rat) (v:V):Prop:=∃q,v=.ref q/\H q=some (.tup ((fr x).map V.int))
theorem FrAt.same {H H':Hp}{x:Rat}{v:V} (h:∀a xs,H a=some (.tup xs)->H' a=some (.tup xs)):FrAt H x v->FrAt H' x v:=fun ⟨q,e,a⟩=>⟨q,e,h _ _ a⟩
noncomputable def QE (H:Hp):TabQ->List (List Key × V)->Prop
 | [],[]=>True
 | p::T,kv::kvs=>kv.1=kI p.1/\FrAt H p.2 kv.2/\QE H T kvs
 | _,_=>False
theorem QE.mono {H H':Hp} (h:∀a xs,H a=some (.tup xs)->H' a=some (.tup xs)):∀{T:TabQ}{kvs:List (List Key × V)},QE H T kvs->QE H' T kvs
 | [],[],_=>trivial
 | _::_,_::_,⟨a,b,c⟩=>⟨a,b.same h,QE.mono h c⟩
 | [],_::_,h'=>h'.elim
 | _::_,[],h'=>h'.elim
theorem QE.len {H:Hp}:∀{T:TabQ}{kvs:List (List Key × V)},QE H T kvs->kvs.length=T.length
 | [],[],_=>rfl
 | _::_,_::_,⟨_,_,c⟩=>by rw[List.length_cons,List.length_cons,QE.len c]
 | [],_::_,h'=>h'.elim
 | _::_,[],h'=>h'.elim
theorem QE.get {H:Hp}:∀{T:TabQ}{kvs:List (List Key × V)}{i:Nat}{k:List Key}{x:V},QE H T kvs->kvs[i]?=some (k,x)->∃p,T[i]?=some p/\k=kI p.1/\FrAt H p.2 x
 | p::_,_::_,0,_,_,⟨a,b,_⟩,h=>by cases h;exact ⟨p,rfl,a,b⟩
 | _::_,_::_,i+1,_,_,⟨_,_,c⟩,h=>QE.get (i:=i) c (by simpa using h)
 | [],[],_,_,_,_,h=>by simp at h
 | [],_::_,_,_,_,h',_=>h'.elim
 | _::_,[],_,_,_,h',_=>h'.elim
theorem QE.val {H:Hp}{k:List Int}{z:V} (hz:FrAt H 0 z):∀{T:TabQ}{kvs:List (List Key × V)},QE H T kvs->FrAt H (valQ T k) ((I0 kvs (kI k)).getD z)
 | [],[],_=>hz
 | p::T,kv::kvs,⟨a,b,c⟩=>by
  obtain ⟨kk,x⟩:=kv
  have a:kk=kI p.1:=a
  subst a
  unfold valQ
  by_cases e:p.1=k
  ·rw[if_pos e,M6 (by rw[e])];exact b
  ·rw[if_neg e,L9 (fun z=>e (kI_inj z))];exact QE.val hz c
 | [],_::_,h'=>h'.elim
 | _::_,[],h'=>h'.elim
theorem QE.any {H:Hp}{k:List Int}:∀{T:TabQ}{kvs:List (List Key × V)},QE H T kvs->(kvs.any fun kv=>decide (kv.1=kI k))=decide (k∈T.map (·.1))
 | [],[],_=>rfl
 | p::T,kv::kvs,⟨a,_,c⟩=>by
  obtain ⟨kk,x⟩:=kv
  have a:kk=kI p.1:=a
  subst a
  show (decide (kI p.1=kI k) || kvs.any _)=_
  rw[QE.any c]
  by_cases e:p.1=k
  ·rw[decide_eq_true (show kI p.1=kI k by rw[e]),Bool.true_or,decide_eq_true (by rw[<- e];simp)]
  ·rw[decide_eq_false (fun z=>e (kI_inj z)),Bool.false_or]
   congr 1
   simp[Ne.symm e]
 | [],_::_,h'=>h'.elim
 | _::_,[],h'=>h'.elim
theorem QE.keep {H:Hp}{k:List Int}{v:V}:∀{T:TabQ}{kvs:List (List Key × V)},QE H T kvs->¬ k∈T.map (·.1)->kvs.map (fun kv=>if kv.1=kI k then (kv.1,v) else kv)=kvs
 | [],[],_,_=>rfl
 | p::T,kv::kvs,⟨a,_,c⟩,h=>by
  obtain ⟨kk,x⟩:=kv
  have a:kk=kI p.1:=a
  subst a
  rw[List.map_cons,List.mem_cons,not_or] at h
  show (if kI p.1=kI k then (kI p.1,v) else (kI p.1,x))::kvs.map _=(kI p.1,x)::kvs
  rw[if_neg (fun z=>h.1 (kI_inj z).symm),QE.keep c h.2]
 | [],_::_,h',_=>h'.elim
 | _::_,[],h',_=>h'.elim
theorem QE.snoc {H:Hp}{k:List Int}{x:Rat}{v:V} (hv:FrAt H x v):∀{T:TabQ}{kvs:List (List Key × V)},QE H T kvs->QE H (T++[(k,x)]) (kvs++[(kI k,v)])
 | [],[],_=>⟨rfl,hv,trivial⟩
 | p::T,kv::kvs,⟨a,b,c⟩=>⟨a,b,QE.snoc hv c⟩
 | [],_::_,h'=>h'.elim
 | _::_,[],h'=>h'.elim
theorem a2K {k:List Int}{x:Rat}:∀(D:TabQ),¬ k∈D.map (·.1)->addQ D k x=D++[(k,x)]
 | [],_=>rfl
 | p::D,h=>by
  rw[List.map_cons,List.mem_cons,not_or] at h
  unfold addQ
  rw[if_neg (Ne.symm h.1),a2K D h.2];rfl
theorem a0k {k:List Int}:∀(D:TabQ),¬ k∈D.map (·.1)->valQ D k=0
 | [],_=>rfl
 | p::D,h=>by
  rw[List.map_cons,List.mem_cons,not_or] at h
  unfold valQ
  rw[if_neg (Ne.symm h.1),a0k D h.2]
theorem QE.put {H:Hp}{k:List Int}{x:Rat}{v:V}:∀{T:TabQ}{kvs:List (List Key × V)},QE H T kvs->F7 T->FrAt H (valQ T k+x) v->QE H (addQ T k x) (G1 kvs (kI k) v):=by
 intro T kvs q nd hv
 unfold G1
 rw[q.any]
 by_cases hk:k∈T.map (·.1)
 ·rw[decide_eq_true hk,if_pos rfl]
  induction T generalizing kvs with
  | nil=>simp at hk
  | cons p T ih =>
   cases kvs with
   | nil=>exact q.elim
   | cons kv kvs =>
    obtain ⟨a,b,c⟩:=q
    obtain ⟨kk,y⟩:=kv
    have a:kk=kI p.1:=a
    subst a
    unfold F7 at nd
    rw[List.map_cons,List.nodup_cons] at nd
    unfold addQ
    by_cases e:p.1=k
    ·rw[if_pos e]
     show QE H _ ((if kI p.1=kI k then _ else _)::kvs.map _)
     rw[if_pos (by rw[e]),c.keep (by rw[<- e];exact nd.1)]
     unfold valQ at hv
     rw[if_pos e] at hv
     exact ⟨rfl,hv,c⟩
    ·rw[if_neg e]
     show QE H _ ((if kI p.1=kI k then _ else _)::kvs.map _)
     rw[if_neg (fun z=>e (kI_inj z))]
     unfold valQ at hv
     rw[if_neg e] at hv
     have hk':k∈T.map (·.1):=by
      rw[List.map_cons,List.mem_cons] at hk
      exact hk.resolve_left (Ne.symm e)
     exact ⟨rfl,b,ih c nd.2 hv hk'⟩
 ·rw[decide_eq_false hk,if_neg (by decide),a2K T hk]
  rw[a0k T hk] at hv
  refine QE.snoc ?_ q
  rw[show (0:Rat)+x=x by grind] at hv
  exact hv
noncomputable def u8 (x:Rat) (s:Int):List (Int × List Int)->TabQ->TabQ
 | [],D=>D
 | b::bs,D=>u8 x s bs (addQ D b.2 (x*cut b.1 s))
theorem X6 (x:Rat) (s:Int) (b:Int × List Int):∀(bs:List (Int × List Int)) (D:TabQ),u8 x s (bs++[b]) D=addQ (u8 x s bs D) b.2 (x*cut b.1 s)
 | [],D=>rfl
 | c::bs,D=>by
  show u8 x s (bs++[b]) (addQ D c.2 (x*cut c.1 s))=_
  rw[X6 x s b bs];rfl
theorem a0G (x:Rat) (s:Int) (φ:List Int->Rat):∀(bs:List (Int × List Int)) (D:TabQ),linQ (u8 x s bs D) φ=linQ D φ+x*sumQ (bs.map fun b=>cut b.1 s*φ b.2)
 | [],D=>by show _=_+x*0;unfold u8;grind
 | b::bs,D=>by
  unfold u8
  rw[a0G x s φ bs,a2a,List.map_cons]
  show _=_+x*(cut b.1 s*φ b.2+sumQ _)
  grind
structure Vq (N B:Nat) (x:Rat):Prop where
 nn:0<=x
 le:x<=(B:Rat)
 dv:∃z:Int,x*(N:Rat)=(z:Rat)
theorem Vq.mono {N B C:Nat}{x:Rat} (h:Vq N B x) (l:B<=C):Vq N C x:=⟨h.nn,by
 have:((B:Nat):Rat)<=((C:Nat):Rat):=by exact_mod_cast l
 have:=h.le
 grind,h.dv⟩
theorem Vq.zero (N B:Nat):Vq N B 0:=⟨by grind,by exact_mod_cast Nat.zero_le B,0,by grind⟩
theorem Vq.add {N B C:Nat}{x y:Rat} (h:Vq N B x) (k:Vq N C y):Vq N (B+C) (x+y):=by
 obtain ⟨z,hz⟩:=h.dv
 obtain ⟨t,ht⟩:=k.dv
 have h1:=h.nn;have h2:=h.le;have k1:=k.nn;have k2:=k.le
 refine ⟨by grind,?_,z+t,?_⟩
 ·have:((B+C:Nat):Rat)=(B:Rat)+(C:Rat):=by push_cast;rfl
  grind
 ·have:((z+t:Int):Rat)=(z:Rat)+(t:Rat):=by push_cast;rfl
  grind
theorem Vq.mul {N M B C:Nat}{x y:Rat} (h:Vq N B x) (k:Vq M C y):Vq (N*M) (B*C) (x*y):=by
 obtain ⟨z,hz⟩:=h.dv
 obtain ⟨t,ht⟩:=k.dv
 have h1:=h.nn;have h2:=h.le;have k1:=k.nn;have k2:=k.le
 have hB:(0:Rat)<=(B:Rat):=by grind
 refine ⟨Rat.mul_nonneg h1 k1,?_,z*t,?_⟩
 ·have e:((B*C:Nat):Rat)=(B:Rat)*(C:Rat):=by push_cast;rfl
  rw[e]
  have a1:=Rat.mul_le_mul_of_nonneg_right h2 k1
  have a2:=Rat.mul_le_mul_of_nonneg_left k2 hB
  grind
 ·have e1:((N*M:Nat):Rat)=(N:Rat)*(M:Rat):=by push_cast;rfl
  have e2:((z*t:Int):Rat)=(z:Rat)*(t:Rat):=by push_cast;rfl
  rw[e1,e2,<- hz,<- ht];grind
theorem Vq.one (N:Nat):Vq N 1 1:=⟨by grind,by grind,N,by
 have:((N:Int):Rat)=(N:Rat):=by norm_cast
 grind⟩
end Mq
namespace Mq
open PySem PySem.Spec L2 Mt Md
noncomputable def LL:Nat:=(List.range 200).foldl (fun a i=>Nat.lcm a (i+1)) 1
theorem a7n {s:Nat} (h0:0<s) (h:s<=200):∃q,LL=s*q:=by
 have h1:(List.range 201).all (fun s=>s == 0 || LL % s == 0)=true:=by decide +kernel
 have h2:=List.all_eq_true.mp h1 s (List.mem_range.mpr (by lia))
 have h3:LL % s=0:=by
  have:(s == 0)=false:=by simp;lia
  rw[this,Bool.false_or] at h2
  exact beq_iff_eq.mp h2
 exact ⟨LL / s,(Nat.mul_div_cancel' (Nat.dvd_of_mod_eq_zero h3)).symm⟩
theorem LL_le:LL<=2 ^ 300:=by decide +kernel
theorem LL_pos:0<LL:=by decide +kernel
theorem B9 {t s:Int} (hs:0<s):cut t s*(s:Rat)=(t:Rat):=by
 unfold cut
 have e:(((s.toNat:Nat):Int):Rat)=(s:Rat):=by congr 1;lia
 rw[Rat.mkRat_eq_div,<- e]
 have h:((s.toNat:Nat):Rat)≠0:=by
  intro z
  have:s.toNat=0:=by exact_mod_cast z
  lia
 have e2:(((s.toNat:Nat):Int):Rat)=((s.toNat:Nat):Rat):=by norm_cast
 rw[e2]
 exact Rat.div_mul_cancel h
theorem N1 {x y:Rat}{s:Rat} (hs:0<s) (h:x*s<=y*s):x<=y:=Rat.le_of_mul_le_mul_right h hs
theorem a0y {x y:Rat}{s:Rat} (hs:0<s) (h:x*s=y*s):x=y:=by
 have h1:=N1 hs (show x*s<=y*s by grind)
 have h2:=N1 hs (show y*s<=x*s by grind)
 grind
theorem Q2 {s:Int} (hs:0<s):(0:Rat)<(s:Rat):=by exact_mod_cast hs
theorem a1C {t s:Int} (h0:0<=t) (h1:t<=s) (hs:0<s) (h2:s<=200):Vq LL 1 (cut t s):=by
 have hm:=B9 (t:=t) hs
 have hp:=Q2 hs
 obtain ⟨q,hq⟩:=a7n (s:=s.toNat) (by lia) (by lia)
 refine ⟨N1 hp ?_,N1 hp ?_,t*q,?_⟩
 ·rw[hm]
  have:(0:Rat)<=(t:Rat):=by exact_mod_cast h0
  grind
 ·rw[hm]
  have:(t:Rat)<=(s:Rat):=by exact_mod_cast h1
  have e:((1:Nat):Rat)=1:=rfl
  rw[e];grind
 ·rw[hq]
  have e1:((s.toNat*q:Nat):Rat)=((s.toNat:Nat):Rat)*(q:Rat):=by push_cast;rfl
  have e2:((s.toNat:Nat):Rat)=(s:Rat):=by
   have:(((s.toNat:Nat):Int):Rat)=(s:Rat):=by congr 1;lia
   rw[<- this];norm_cast
  have e3:((t*(q:Int):Int):Rat)=(t:Rat)*(q:Rat):=by push_cast;rfl
  rw[e1,e2,e3,<- hm];grind
theorem Vq.bd {N B n:Nat}{x:Rat} (h:Vq N B x) (h0:0<N) (h1:N*B<=2 ^ n) (h2:N<=2 ^ n):Bd n x:=by
 obtain ⟨z,hz⟩:=h.dv
 have hp:(0:Int)<(N:Int):=by lia
 have hm:=B9 (t:=z) hp
 have e:(((N:Nat):Int):Rat)=(N:Rat):=by norm_cast
 rw[e] at hm
 have hq:(0:Rat)<(N:Rat):=by rw[<- e];exact Q2 hp
 have ex:x=cut z N:=a0y hq (by rw[hz,hm])
 have l0:(0:Rat)<=(z:Rat):=by rw[<- hz];exact Rat.mul_nonneg h.nn (by grind)
 have l1:(z:Rat)<=((B*N:Nat):Rat):=by
  have e2:((B*N:Nat):Rat)=(B:Rat)*(N:Rat):=by push_cast;rfl
  rw[<- hz,e2]
  exact Rat.mul_le_mul_of_nonneg_right h.le (by grind)
 have m0:0<=z:=by exact_mod_cast l0
 have m1:z<=((B*N:Nat):Int):=by exact_mod_cast l1
 rw[ex]
 rw[Nat.mul_comm] at h1
 exact Bd.cut hp (by lia) (by lia)
theorem le_sum:∀{l:List Int},(∀x∈l,0<=x)->∀x∈l,x<=l.sum
 | [],_,x,h=>by simp at h
 | a::l,h,x,hx=>by
  have h1:=h a List.mem_cons_self
  have h2:=sum_nonneg fun y hy=>h y (List.mem_cons_of_mem _ hy)
  rw[List.sum_cons]
  rcases List.mem_cons.mp hx with e|e
  ·lia
  ·have:=le_sum (fun y hy=>h y (List.mem_cons_of_mem _ hy)) x e
   lia
theorem N8 {n m:Nat}{u:List Int} (h:Urn n m u) (k:Nat):u.getD k 0<=u.sum:=by
 rw[List.getD_eq_getElem?_getD]
 cases e:u[k]? with
 | none=>have:=h.pos;show (0:Int)<=_;lia
 | some x=>exact le_sum (fun x hx=>(h.nn x hx).1) x (List.mem_of_getElem? e)
theorem a0h {n m:Nat}{u:List Int} (h:Urn n m u) (n4:n<=4) (hm:m<=50):u.sum<=200:=by
 have:=Mt.sum_le (m:=50) (l:=u) fun x hx=>by have:=(h.nn x hx).2;lia
 rw[h.len] at this
 lia
noncomputable def AllQ (N B:Nat) (D:TabQ):Prop:=∀p∈D,Vq N B p.2
theorem AllQ.add {N B C:Nat}{k:List Int}{x:Rat} (hx:Vq N C x):∀{D:TabQ},AllQ N B D->AllQ N (B+C) (addQ D k x)
 | [],_=>fun p hp=>by
  unfold addQ at hp
  rw[List.mem_singleton.mp hp]
  exact hx.mono (by lia)
 | q::D,h=>fun p hp=>by
  unfold addQ at hp
  split at hp
  ·rcases List.mem_cons.mp hp with z|z
   ·rw[z];exact (h q List.mem_cons_self).add hx
   ·exact (h p (List.mem_cons_of_mem _ z)).mono (by lia)
  ·rcases List.mem_cons.mp hp with z|z
   ·rw[z];exact (h q List.mem_cons_self).mono (by lia)
   ·exact AllQ.add hx (fun r hr=>h r (List.mem_cons_of_mem _ hr)) p z
theorem AllQ.val {N B:Nat}{k:List Int}:∀{D:TabQ},AllQ N B D->Vq N B (valQ D k)
 | [],_=>Vq.zero N B
 | q::D,h=>by
  unfold valQ
  split
  ·exact h q List.mem_cons_self
  ·exact AllQ.val fun r hr=>h r (List.mem_cons_of_mem _ hr)
theorem AllQ.mono {N B C:Nat}{D:TabQ} (h:AllQ N B D) (l:B<=C):AllQ N C D:=fun p hp=>(h p hp).mono l
theorem a4Q (k:Nat):LL ^ k<=2 ^ (300*k):=by
 rw[Nat.pow_mul];exact Nat.pow_le_pow_left LL_le k
theorem a2s (k:Nat):0<LL ^ k:=Nat.pow_pos LL_pos
theorem O8 {N B:Nat}:∀{xs:List Rat},(∀x∈xs,Vq N B x)->Vq N (B*xs.length) (sumQ xs)
 | [],_=>Vq.zero N _
 | x::xs,h=>by
  have h1:=O8 fun y hy=>h y (List.mem_cons_of_mem _ hy)
  have h2:=(h x List.mem_cons_self).add h1
  exact h2.mono (by rw[List.length_cons,Nat.mul_add];lia)
theorem a0x (xs:List Rat) (x:Rat):sumQ (xs++[x])=sumQ xs+x:=by
 rw[sumQ_append];show _+(x+0)=_;grind
end Mq
namespace G
open PySem PySem.Spec PyProof.Rows L2 Mt Md Mq
structure Ct2 (mg:Str->Option Value):Prop where
 stand:∃t,mg "MOST_STAND_DRAWS"=some (.int 6 t)
structure Bt3 (mg:Str->Option Value):Prop where
 enumerate:mg "enumerate"=none
 sorted:mg "sorted"=none
theorem a5W {k:Int} (h1:1<=k) (h4:k<=4):Sm k:=by
 have h:k=1 ∨ k=2 ∨ k=3 ∨ k=4:=by lia
 rcases h with rfl|rfl|rfl|rfl <;> (unfold Sm;decide +kernel)
theorem a4v {m:Int}{d:PyData} (h:E7 m d=true):∃ns:List Int,d=DI ns/\1<=ns.length/\ns.length<=4/\(∀x∈ns,0<=x/\x<=m)/\0<ns.sum:=by
 unfold E7 at h
 rw[Bool.and_eq_true,Bool.and_eq_true,Bool.and_eq_true] at h
 obtain ⟨hw,⟨h1,h4⟩,hs⟩:=h
 obtain ⟨ns,e,hn⟩:=F9 hw
 subst e
 rw[B6] at h1 h4
 rw[a0m] at hs
 have h1':=of_decide_eq_true h1
 have h4':=of_decide_eq_true h4
 exact ⟨ns,rfl,by lia,by lia,hn,of_decide_eq_true hs⟩
theorem u9 {i:Int}{n:Nat} (h:i.natAbs<=2 ^ n) (hn:n<=100000):Builtin.Int.intBits i<=2 ^ 20:=by
 unfold Builtin.Int.intBits
 split
 ·exact Nat.zero_le _
 ·rename_i hz
  have hz':i.natAbs≠0:=fun e=>hz (by rw[beq_iff_eq];lia)
  have h2:i.natAbs.log2<n+1:=(Nat.log2_lt hz').mpr (Nat.lt_of_le_of_lt h (Nat.pow_lt_pow_right (by decide) (by lia)))
  lia
theorem a7D {i:Int}{n:Nat} (h0:0<i) (h:i.natAbs<=2 ^ n) (hn:n<8999):i.natAbs.log2<9000:=by
 rw[Nat.log2_lt (by lia)]
 exact Nat.lt_of_le_of_lt h (Nat.pow_lt_pow_right (by decide) (by lia))
theorem a1G {x y:Int} (hx:0<=x) (hy:0<y):Int.gcd y (x % y)=Int.gcd x y:=by
 have h1:(x % y).natAbs=x.natAbs % y.natAbs:=by
  rw[Int.natAbs_emod_of_nonneg hx]
 unfold Int.gcd
 rw[h1,Nat.gcd_comm x.natAbs,Nat.gcd_rec y.natAbs x.natAbs,Nat.gcd_comm]
theorem a7Z {t b:Int} (ht:0<=t) (hb:0<b):0<=(cut t b).num:=by
 rw[Z3 hb];exact Int.ediv_nonneg ht (by lia)
theorem a1a {n m:Nat}{ns:List Int} (h:Urn n m ns) (k:Nat):0<=Mt.share ns k:=Rat.num_nonneg.mp (a7Z (h.getD k).1 h.pos)
theorem Urn.sum_le {n m:Nat}{ns:List Int} (h:Mt.Urn n m ns) (hn:n<=4):ns.sum<=(m:Int)*4:=by
 have:=Mt.sum_le (m:=(m:Int)) (l:=ns) fun x hx=>(h.nn x hx).2
 rw[h.len] at this
 refine Int.le_trans this (Int.mul_le_mul_of_nonneg_left (by lia) (by lia))
theorem a09 {n m:Nat}{ns:List Int} (h:Mt.Urn n m ns) (hn:n<=4) (hm:m<=1000) (k:Nat):Bd 12 (Mt.share ns k):=by
 have h1:=h.getD k
 have h2:=Urn.sum_le h hn
 have h3:=h.pos
 refine Bd.cut h.pos ?_ ?_
 ·show _<=4096;lia
 ·show _<=4096;lia
mutual
theorem a4p {l T:Addr}{H:Hp}{ps:List (List Key × V)} (hT:H T=some (.dT ps)):∀{d:PyData}{v:V},Dt l H d v->Dt T H d v
 | .none,_,h=>by unfold Dt at h ⊢;exact h
 | .bool _,_,h=>by unfold Dt at h ⊢;exact h
 | .int _,_,h=>by unfold Dt at h ⊢;exact h
 | .str _,_,h=>by unfold Dt at h ⊢;exact h
 | .tuple ds,_,h=>by
  unfold Dt at h ⊢
  obtain ⟨a,xs,e,n,q,r⟩:=h
  exact ⟨a,xs,e,(fun z=>by rw[z,hT] at q;cases q),q,a0f hT r⟩
 | .list ds,_,h=>by
  unfold Dt at h ⊢
  obtain ⟨a,xs,e,n,q,r⟩:=h
  exact ⟨a,xs,e,(fun z=>by rw[z,hT] at q;cases q),q,a0f hT r⟩
 | .dict kvs,_,h=>by
  unfold Dt at h ⊢
  obtain ⟨z,a,e,n,q⟩:=h
  exact ⟨z,a,e,(fun z=>by rw[z,hT] at q;cases q),q⟩
theorem a0f {l T:Addr}{H:Hp}{ps:List (List Key × V)} (hT:H T=some (.dT ps)):∀{ds:List PyData}{xs:List V},Dts l H ds xs->Dts T H ds xs
 | [],_,h=>by unfold Dts at h ⊢;exact h
 | d::ds,_,h=>by
  unfold Dts at h ⊢
  obtain ⟨x,r,e,q1,q2⟩:=h
  exact ⟨x,r,e,a4p hT q1,a0f hT q2⟩
end
theorem sm_0:Sm 0:=by unfold Sm;decide +kernel
theorem a4o {n:Nat} (h:n<=10000):n<sizeLine:=by rw[sizeLine_eq];lia
section
variable {P:Program}{w:World}{K:W.Frag}{mg:Str->Option Value}{base:Heap}{f:Addr}{fd:FuncData}{ec:Nat->Addr}{Bs:Addr}
noncomputable def O0 (ec:Nat->Addr):Sp:=fun vs H Q E=>∃(v:V) (st:Addr) (d:PyData),vs=[v]/\Dt st H d v/\E4 d/\(E7 20 d=true->∀H',Same H H'->Q .non H')/\(E7 20 d=false->∀H',Same H H'->E (.ref (ec 0)) none H')
noncomputable abbrev s_need_urn:Stmt:=u7 23
theorem sc_need_urn:FnScope ["thing"] ["thing"] (d5 s_need_urn):=⟨rfl,rfl,rfl,by decide +kernel,rfl,by decide +kernel,by decide +kernel⟩
theorem a2q (F:Fun K "need_urn" "need_urn" s_need_urn f fd) (R:Errs K mg ec Bs) (c1:Cal P w K mg base 4 "is_urn" ["thing"] sp_is_urn):FnOk P w K mg base (A9 P w) 5 f fd ["thing"] (O0 ec):=by
 refine F.okX sc_need_urn (fun vs H Q E h=>?_) (fun cdv A outer s H vs Q E hr h=>?_)
 ·obtain ⟨v,st,d,rfl,_⟩:=h
  rfl
 obtain ⟨v,st,d,rfl,hd,hs,q1,q2⟩:=h
 refine ⟨_,c0 (t8 (D6 (C4 (d7 c1 hr rfl (b5 (pv 0) pa_nil)))) (c0 (J8 R.e0 (R.xc 0 (by decide)) a04 (fun σ H Q Q' m q=>m _ _ q))) pss_nil),?_⟩
 refine ⟨_,rfl,v,st,d,rfl,hd,hs,fun H1 g1=>⟨_,rfl,?_⟩⟩
 cases hw:E7 20 d with
 | true=>exact q5 (q1 hw H1 g1)
 | false=>exact u6 (q2 hw H1 g1)
noncomputable def L6 (ec:Nat->Addr):Sp:=fun vs H Q E=>∃(v:V) (st:Addr) (d:PyData) (k:Int),vs=[.int k,v]/\1<=k/\k<=4/\Dt st H d v/\ok2 d/\(E2 k d=true->∀H',Same H H'->Q .non H')/\(E2 k d=false->∀H',Same H H'->E (.ref (ec 1)) none H')
noncomputable abbrev s_need_rule:Stmt:=u7 24
theorem sc_need_rule:FnScope ["kinds","thing"] ["kinds","thing"] (d5 s_need_rule):=⟨rfl,rfl,rfl,by decide +kernel,rfl,by decide +kernel,by decide +kernel⟩
theorem a1y (F:Fun K "need_rule" "need_rule" s_need_rule f fd) (R:Errs K mg ec Bs) (c1:CalX P w K mg base 3 "is_rule" ["kinds","thing"] (Q7 ec)):FnOk P w K mg base (A9 P w) 4 f fd ["kinds","thing"] (L6 ec):=by
 refine F.okX sc_need_rule (fun vs H Q E h=>?_) (fun cdv A outer s H vs Q E hr h=>?_)
 ·obtain ⟨v,st,d,k,rfl,_⟩:=h
  rfl
 obtain ⟨v,st,d,k,rfl,k1,k4,hd,ok,q1,q2⟩:=h
 refine ⟨_,c0 (t8 (D6 (C4 (j7 c1 hr rfl passes1 (b5 (pv 0) (b5 (pv 1) pa_nil))))) (c0 (J8 R.e1 (R.xc 1 (by decide)) (a3i (X8 (a2c (pv 0) (X8 a4U)))) (fun σ H Q Q' m q=>?_))) pss_nil),?_⟩
 ·obtain ⟨v1,z1,i1,z2,z3,z4,z5⟩:=q
  exact ⟨v1,z1,i1,z2,z3,z4,fun z=>m _ _ (z5 z)⟩
 refine ⟨_,rfl,_,rfl,.int k,v,st,.int k,d,rfl,Dt.int _ _ _,(fun hw=>?_),fun k' e _ _=>?_⟩
 ·have hw':(decide ((1:Int)<=k)&&decide (k<=4))=false:=hw
  rw[decide_eq_true k1,decide_eq_true k4] at hw'
  cases hw'
 cases e
 refine ⟨hd,ok.1,ok.2,fun H1 g1=>⟨_,rfl,?_⟩⟩
 cases hw:E2 k d with
 | true=>exact q5 (q1 hw H1 g1)
 | false=>exact u6 ⟨_,rfl,k,rfl,(a5W k1 k4).1,(a5W k1 k4).2,fun z=>q2 hw H1 g1⟩
noncomputable def T8 (ec:Nat->Addr):Sp:=fun vs H Q E=>∃(u v:V) (st:Addr) (d e:PyData),vs=[u,v]/\Dt st H d u/\E4 d/\Dt st H e v/\ok2 e/\(E7 20 d=false->∀H',Same H H'->E (.ref (ec 0)) none H') /\
 (E7 20 d=true->E2 (lenD d) e=false->∀H',Same H H'->E (.ref (ec 1)) none H')/\(E7 20 d=true->E2 (lenD d) e=true->∀H',Same H H'->Q .non H')
noncomputable abbrev s_nur:Stmt:=u7 25
theorem sc_nur:FnScope ["urn","rule"] ["urn","rule"] (d5 s_nur):=⟨rfl,rfl,rfl,by decide +kernel,rfl,by decide +kernel,by decide +kernel⟩
theorem a7M (F:Fun K "need_urn_and_rule" "need_urn_and_rule" s_nur f fd) (B:Bt mg) (c1:CalX P w K mg base 5 "need_urn" ["thing"] (O0 ec)) (c2:CalX P w K mg base 4 "need_rule" ["kinds","thing"] (L6 ec)):FnOk P w K mg base (A9 P w) 6 f fd ["urn","rule"] (T8 ec):=by
 refine F.okX sc_nur (fun vs H Q E h=>?_) (fun cdv A outer s H vs Q E hr h=>?_)
 ·obtain ⟨u,v,st,d,e,rfl,_⟩:=h
  rfl
 obtain ⟨u,v,st,d,e,rfl,hu,hus,hv,hvo,q0,q1,q2⟩:=h
 refine ⟨_,b8 (A2 (j7 c1 hr rfl passes1 (b5 (pv 0) pa_nil))) (c0 (A2 (j7 (c2.up (by decide)) hr rfl passes1 (b5 (d8 call_len_seq rfl B.len PySem.boot_len (b5 (pv 0) pa_nil)) (b5 (pv 1) pa_nil))))),?_⟩
 refine ⟨_,rfl,u,st,d,rfl,hu,hus,fun hw H1 g1=>?_,q0⟩
 obtain ⟨ns,e1,l1,l4,_⟩:=a4v hw
 subst e1
 obtain ⟨a,e2,_,ha⟩:=hu.di
 subst e2
 have q1':=q1 hw
 have q2':=q2 hw
 rw[B6] at q1' q2'
 refine ⟨_,rfl,a,_,rfl,.inr (.of (g1 _ _ ha)),_,rfl,v,st,e,(ns.length:Int),?_,by lia,by lia,hv.kp (g1.kp st),hvo,fun hr2 H2 g2=>q2' hr2 H2 (g1.trans g2),fun hr2 H2 g2=>q1' hr2 H2 (g1.trans g2)⟩
 rw[List.length_map]
noncomputable def sp_gd:Sp:=fun vs H Q _=>∃x y:Int,vs=[.int x,.int y]/\0<=x/\0<=y/\Q (.int (Int.gcd x y:Nat)) H
noncomputable abbrev s_gd:Stmt:=u7 11
theorem sc_gd:FnScope ["one","other"] ["one","other"] (d5 s_gd):=⟨rfl,rfl,rfl,by decide +kernel,rfl,by decide +kernel,by decide +kernel⟩
theorem a8y (F:Fun K "greatest_divisor" "greatest_divisor" s_gd f fd) (B:Bt mg):FnOk P w K mg base CX0 1 f fd ["one","other"] sp_gd:=by
 refine F.ok sc_gd (fun vs H Q E h=>?_) (fun cdv A outer s H vs Q E hr h=>?_)
 ·obtain ⟨x,y,rfl,_⟩:=h
  rfl
 obtain ⟨x,y,rfl,hx,hy,q⟩:=h
 refine ⟨_,b8 (a1P PassesOwn.never (j9 op_ne (pv 1) b9 (j4 _)) (c0 (Y9 (i:=0) (j:=1) rfl sc_gd.nd rfl rfl (by decide) rfl rfl (b5 (pv 1) (b5 (f8 op_mod (pv 0) (pv 1)) pa_nil)) rfl)))
  (c0 (f6 (d8 call_abs rfl B.abs boot_abs (b5 (pv 0) pa_nil)))),?_⟩
 refine ⟨fun m σ H2=>H2=H/\∃x' y':Int,0<=x'/\0<=y'/\σ=[some (.int x'),some (.int y')]/\m=y'.toNat/\Int.gcd x' y'=Int.gcd x y,⟨_,rfl,x,y,hx,hy,rfl,rfl,rfl⟩,?_⟩
 rintro m σ H2 ⟨rfl,x',y',h1,h2,rfl,rfl,e⟩
 refine ⟨_,rfl,rfl,_,rfl,?_⟩
 by_cases hz:y'=0
 ·subst hz
  rw[decide_eq_true rfl]
  refine q5 ⟨_,rfl,x',rfl,?_⟩
  have e2:(if x'<0 then -x' else x')=((Int.gcd x y:Nat):Int):=by
   rw[<- e,Int.gcd_zero_right]
   split <;> lia
  rw[e2];exact q
 ·rw[decide_eq_false (show ¬ V.int y'=V.int 0 from fun z=>hz (by injection z))]
  refine u6 ⟨fun σ' H'=>H'=H2/\∃a b:Int,0<=a/\0<=b/\σ'=[some (.int a),some (.int b)]/\b.toNat<y'.toNat/\Int.gcd a b=Int.gcd x y,?_,?_⟩
  ·rintro σ' H' ⟨rfl,a,b,ha,hb,rfl,hlt,e2⟩
   exact ⟨_,hlt,rfl,a,b,ha,hb,rfl,rfl,e2⟩
  ·have hm:=Int.emod_nonneg x' (show y'≠0 from hz)
   have hm2:=Int.emod_lt_of_pos x' (show 0<y' by lia)
   refine ⟨_,rfl,_,rfl,_,rfl,_,_,rfl,rfl,(by lia),_,_,rfl,?_⟩
   exact ⟨rfl,y',x' % y',h2,hm,rfl,by lia,by rw[a1G h1 (by lia)];exact e⟩
noncomputable def sp_fraction:Sp:=fun vs H Q _=>∃t b:Int,vs=[.int t,.int b]/\0<=t/\0<b/\b.natAbs.log2<9000/\∀p H',Same H H'->H' p=some (.tup ((fr (cut t b)).map V.int))->Q (.ref p) H'
noncomputable abbrev s_fraction:Stmt:=u7 12
theorem sc_fraction:FnScope ["top","bottom","divisor"] ["top","bottom"] (d5 s_fraction):=⟨rfl,rfl,rfl,by decide +kernel,rfl,by decide +kernel,by decide +kernel⟩
theorem a2C {t b:Int} (hb:0<b) (h:b.natAbs.log2<9000):0<((Int.gcd t b:Nat):Int)/\((Int.gcd t b:Nat):Int).natAbs.log2<9000:=by
 have h0:0<Int.gcd t b:=Int.gcd_pos_of_ne_zero_right _ (by lia)
 refine ⟨by lia,?_⟩
 rw[Int.natAbs_natCast]
 have l:Int.gcd t b<=b.natAbs:=Nat.le_of_dvd (by lia) (Nat.gcd_dvd_right _ _)
 rw[Nat.log2_lt (by lia)] at h ⊢
 lia
theorem a2k (F:Fun K "fraction" "fraction" s_fraction f fd) (c1:Cal P w K mg base 1 "greatest_divisor" ["one","other"] sp_gd):FnOk P w K mg base CX0 2 f fd ["top","bottom"] sp_fraction:=by
 refine F.ok sc_fraction (fun vs H Q E h=>?_) (fun cdv A outer s H vs Q E hr h=>?_)
 ·obtain ⟨x,y,rfl,_⟩:=h
  rfl
 obtain ⟨t,b,rfl,ht,hb,hlog,q⟩:=h
 refine ⟨_,b8 (f9 (i:=2) sc_fraction.nd rfl (Or.inl rfl) (d7 c1 hr rfl (b5 (pv 0) (b5 (pv 1) pa_nil))))
  (c0 (f6 (u3 (b5 (f8 op_fdivB (pv 0) (pv 2)) (b5 (f8 op_fdivB (pv 1) (pv 2)) pa_nil))))),?_⟩
 have g:=a2C (t:=t) hb hlog
 refine ⟨_,rfl,_,rfl,t,b,rfl,ht,by lia,?_⟩
 refine ⟨_,rfl,_,rfl,_,_,rfl,rfl,g,_,rfl,_,rfl,_,_,rfl,rfl,g,(by show 2<=sizeLine;decide),fun p hp=>?_⟩
 refine q p _ (Same.new hp) ?_
 rw[b6,a4J hb];rfl
noncomputable def sp_times:Sp:=fun vs H Q _=>∃(p q:Addr) (x y:Rat) (n m:Nat),vs=[.ref p,.ref q]/\H p=some (.tup ((fr x).map V.int))/\H q=some (.tup ((fr y).map V.int))/\0<=x.num/\0<=y.num/\Bd n x/\Bd m y/\n+m<=8000 /\
 ∀r H',Same H H'->H' r=some (.tup ((fr (x*y)).map V.int))->Q (.ref r) H'
noncomputable abbrev s_times:Stmt:=u7 14
theorem sc_times:FnScope ["one","other"] ["one","other"] (d5 s_times):=⟨rfl,rfl,rfl,by decide +kernel,rfl,by decide +kernel,by decide +kernel⟩
theorem a5i (F:Fun K "times" "times" s_times f fd) (c1:Cal P w K mg base 2 "fraction" ["top","bottom"] sp_fraction):FnOk P w K mg base CX0 3 f fd ["one","other"] sp_times:=by
 refine F.ok sc_times (fun vs H Q E h=>?_) (fun cdv A outer s H vs Q E hr h=>?_)
 ·obtain ⟨p,q,x,y,n,m,rfl,_⟩:=h
  rfl
 obtain ⟨p,q,x,y,n,m,rfl,hp,hq,x0,y0,bx,by',hnm,k⟩:=h
 refine ⟨_,c0 (f6 (d7 c1 hr rfl (b5 (f8 op_mulB (j3 ix_tup (pv 0) b9 (fun _ _=>rfl)) (j3 ix_tup (pv 1) b9 (fun _ _=>rfl))) (b5 (f8 op_mulB (j3 ix_tup (pv 0) b9 (fun _ _=>rfl)) (j3 ix_tup (pv 1) b9 (fun _ _=>rfl))) pa_nil)))),?_⟩
 have hp':H p=some (.tup [.int x.num,.int x.den]):=hp
 have hq':H q=some (.tup [.int y.num,.int y.den]):=hq
 have b1:Builtin.Int.intBits x.num<=2 ^ 20:=u9 bx.num (by lia)
 have b2:Builtin.Int.intBits y.num<=2 ^ 20:=u9 by'.num (by lia)
 have b3:Builtin.Int.intBits (x.den:Int)<=2 ^ 20:=u9 (by rw[Int.natAbs_natCast];exact bx.den) (by lia)
 have b4:Builtin.Int.intBits (y.den:Int)<=2 ^ 20:=u9 (by rw[Int.natAbs_natCast];exact by'.den) (by lia)
 refine ⟨_,rfl,p,_,_,_,rfl,rfl,.of hp',i6 (j:=0) rfl,_,rfl,q,_,_,_,rfl,rfl,.of hq',i6 (j:=0) rfl,_,_,rfl,rfl,⟨b1,b2⟩,
  _,rfl,p,_,_,_,rfl,rfl,.of hp',i6 (j:=1) rfl,_,rfl,q,_,_,_,rfl,rfl,.of hq',i6 (j:=1) rfl,_,_,rfl,rfl,⟨b3,b4⟩,_,_,rfl,Int.mul_nonneg x0 y0,?_,?_,?_⟩
 ·have h1:=x.den_nz;have h2:=y.den_nz
  have:=Nat.mul_pos (Nat.pos_of_ne_zero h1) (Nat.pos_of_ne_zero h2)
  rw[<- Int.natCast_mul];lia
 ·rw[Nat.log2_lt (by have h1:=x.den_nz;have h2:=y.den_nz;rw[Int.natAbs_mul];exact Nat.mul_ne_zero (by lia) (by lia)),Int.natAbs_mul]
  refine Nat.lt_of_le_of_lt (Nat.mul_le_mul bx.den by'.den) ?_
  rw[<- Nat.pow_add]
  exact Nat.pow_lt_pow_right (by decide) (by lia)
 ·rw[a0i];exact k
noncomputable def sp_plus:Sp:=fun vs H Q _=>∃(p q:Addr) (x y:Rat) (n m:Nat),vs=[.ref p,.ref q]/\H p=some (.tup ((fr x).map V.int))/\H q=some (.tup ((fr y).map V.int))/\0<=x.num/\0<=y.num/\Bd n x/\Bd m y/\n+m<=8000 /\
 ∀r H',Same H H'->H' r=some (.tup ((fr (x+y)).map V.int))->Q (.ref r) H'
noncomputable abbrev s_plus:Stmt:=u7 13
theorem sc_plus:FnScope ["one","other"] ["one","other"] (d5 s_plus):=⟨rfl,rfl,rfl,by decide +kernel,rfl,by decide +kernel,by decide +kernel⟩
theorem a6Y (F:Fun K "plus" "plus" s_plus f fd) (c1:Cal P w K mg base 2 "fraction" ["top","bottom"] sp_fraction):FnOk P w K mg base CX0 3 f fd ["one","other"] sp_plus:=by
 refine F.ok sc_plus (fun vs H Q E h=>?_) (fun cdv A outer s H vs Q E hr h=>?_)
 ·obtain ⟨p,q,x,y,n,m,rfl,_⟩:=h
  rfl
 obtain ⟨p,q,x,y,n,m,rfl,hp,hq,x0,y0,bx,by',hnm,k⟩:=h
 refine ⟨_,c0 (f6 (d7 c1 hr rfl (b5 (f8 op_add (f8 op_mulB (j3 ix_tup (pv 0) b9 (fun _ _=>rfl)) (j3 ix_tup (pv 1) b9 (fun _ _=>rfl))) (f8 op_mulB (j3 ix_tup (pv 1) b9 (fun _ _=>rfl)) (j3 ix_tup (pv 0) b9 (fun _ _=>rfl)))) (b5 (f8 op_mulB (j3 ix_tup (pv 0) b9 (fun _ _=>rfl)) (j3 ix_tup (pv 1) b9 (fun _ _=>rfl))) pa_nil)))),?_⟩
 have hp':H p=some (.tup [.int x.num,.int x.den]):=hp
 have hq':H q=some (.tup [.int y.num,.int y.den]):=hq
 have b1:Builtin.Int.intBits x.num<=2 ^ 20:=u9 bx.num (by lia)
 have b2:Builtin.Int.intBits y.num<=2 ^ 20:=u9 by'.num (by lia)
 have b3:Builtin.Int.intBits (x.den:Int)<=2 ^ 20:=u9 (by rw[Int.natAbs_natCast];exact bx.den) (by lia)
 have b4:Builtin.Int.intBits (y.den:Int)<=2 ^ 20:=u9 (by rw[Int.natAbs_natCast];exact by'.den) (by lia)
 refine ⟨_,rfl,p,_,_,_,rfl,rfl,.of hp',i6 (j:=0) rfl,_,rfl,q,_,_,_,rfl,rfl,.of hq',i6 (j:=1) rfl,_,_,rfl,rfl,⟨b1,b4⟩,
  _,rfl,q,_,_,_,rfl,rfl,.of hq',i6 (j:=0) rfl,_,rfl,p,_,_,_,rfl,rfl,.of hp',i6 (j:=1) rfl,_,_,rfl,rfl,⟨b2,b3⟩,_,_,rfl,rfl,
  _,rfl,p,_,_,_,rfl,rfl,.of hp',i6 (j:=1) rfl,_,rfl,q,_,_,_,rfl,rfl,.of hq',i6 (j:=1) rfl,_,_,rfl,rfl,⟨b3,b4⟩,_,_,rfl,?_,?_,?_,?_⟩
 ·exact Int.add_nonneg (Int.mul_nonneg x0 (by lia)) (Int.mul_nonneg y0 (by lia))
 ·have h1:=x.den_nz;have h2:=y.den_nz
  have:=Nat.mul_pos (Nat.pos_of_ne_zero h1) (Nat.pos_of_ne_zero h2)
  rw[<- Int.natCast_mul];lia
 ·rw[Nat.log2_lt (by have h1:=x.den_nz;have h2:=y.den_nz;rw[Int.natAbs_mul];exact Nat.mul_ne_zero (by lia) (by lia)),Int.natAbs_mul]
  refine Nat.lt_of_le_of_lt (Nat.mul_le_mul bx.den by'.den) ?_
  rw[<- Nat.pow_add]
  exact Nat.pow_lt_pow_right (by decide) (by lia)
 ·rw[a2D];exact k
noncomputable def sp_share:Sp:=fun vs H Q _=>∃(a:Addr) (n m:Nat) (ns:List Int) (k:Nat),vs=[.ref a,.int k]/\H a=some (.tup (ns.map V.int))/\Mt.Urn n m ns/\n<=4/\m<=1000/\k<n/\∀p H',Same H H'->H' p=some (.tup ((fr (Mt.share ns k)).map V.int))->Q (.ref p) H'
noncomputable abbrev s_share:Stmt:=u7 27
theorem sc_share:FnScope ["urn","kind"] ["urn","kind"] (d5 s_share):=⟨rfl,rfl,rfl,by decide +kernel,rfl,by decide +kernel,by decide +kernel⟩
theorem a5K (F:Fun K "share" "share" s_share f fd) (B:Bt mg) (c1:Cal P w K mg base 2 "fraction" ["top","bottom"] sp_fraction):FnOk P w K mg base CX0 3 f fd ["urn","kind"] sp_share:=by
 refine F.ok sc_share (fun vs H Q E h=>?_) (fun cdv A outer s H vs Q E hr h=>?_)
 ·obtain ⟨a,n,m,ns,k,rfl,_⟩:=h
  rfl
 obtain ⟨a,n,m,ns,k,rfl,ha,hu,h4,hm,hk,q⟩:=h
 refine ⟨_,c0 (f6 (d7 c1 hr rfl (b5 (j3 ix_tup (pv 0) (pv 1) (fun _ _=>rfl)) (b5 (d8 (L4 rfl) rfl B.sum boot_sum (b5 (pv 0) pa_nil)) pa_nil)))),?_⟩
 have h2:=Urn.sum_le hu h4
 have h3:=hu.pos
 refine ⟨_,rfl,_,rfl,a,_,_,_,rfl,rfl,.of ha,J5 (by rw[hu.len];exact hk),_,rfl,a,ns,rfl,.inr (.of ha),_,_,rfl,(hu.getD k).1,h3,a7D (n:=12) h3 (by show _<=4096;lia) (by lia),q⟩
noncomputable def sp_put_in:Sp:=fun vs H Q _=>∃(a st:Addr) (v:V) (n j:Nat) (ns:List Int) (rs:List (List Int)) (k:Nat),vs=[.ref a,v,.int k]/\H a=some (.tup (ns.map V.int))/\ns.length=n/\Dt st H (DR rs) v/\Mt.Rul n j rs/\n<=4/\k<n /\
 ∀p H',Same H H'->H' p=some (.tup ((addL ns (rs.getD k [])).map V.int))->Q (.ref p) H'
noncomputable abbrev s_put_in:Stmt:=u7 28
theorem sc_put_in:FnScope ["urn","rule","kind"] ["urn","rule","kind"] (d5 s_put_in):=⟨rfl,rfl,rfl,by decide +kernel,rfl,by decide +kernel,by decide +kernel⟩
theorem a5e (F:Fun K "put_in" "put_in" s_put_in f fd) (B:Bt mg):FnOk P w K mg base CX0 1 f fd ["urn","rule","kind"] sp_put_in:=by
 refine F.ok sc_put_in (fun vs H Q E h=>?_) (fun cdv A outer s H vs Q E hr h=>?_)
 ·obtain ⟨a,st,v,n,j,ns,rs,k,rfl,_⟩:=h
  rfl
 obtain ⟨a,st,v,n,j,ns,rs,k,rfl,ha,hn,hd,hru,h4,hk,q⟩:=h
 refine ⟨_,c0 (f6 (i7 call_tuple_of rfl B.tuple boot_tuple (b5 (m6 (N:=["balls","more"]) (ix:=[none,none]) (ifs:=[]) (tc:=tTrue) rfl
   (a7N rfl B.zip (b5 (pv 0) (b5 (j3 ix_tup (pv 1) (pv 2) (fun _ _=>rfl)) pa_nil)))
   (fun s H ex=>a5B (K:=K) (n:=2) rfl rfl (A5 (v0 (i:=0) (by decide +kernel) rfl (Or.inl rfl) (.inr rfl)) (A5 (v0 (i:=1) (by decide +kernel) rfl (Or.inl rfl) (.inr rfl)) pgs_nil))) (fun s H ex=>pifs_nil)
   (fun s H ex=>f8 op_add (pv 0) (pv 1)) rfl (by decide +kernel) (by rfl) (by rfl) (fun _=>rfl)) pa_nil))),?_⟩
 obtain ⟨r,xs,b,e,hr2,hx,hb⟩:=a7r hd (by rw[hru.len];exact hk)
 subst e
 have hrow:=hru.at hk
 generalize hrw:rs.getD k []=row at *
 refine ⟨_,rfl,_,rfl,_,rfl,r,_,_,_,rfl,rfl,.of hr2,i6 hx,a,b,_,_,rfl,.of ha,.of hb,?_⟩
 have l1:ns.length=row.length:=by rw[hn,hrow.len]
 refine a3f (K:=K) (a:=a) (b:=b) (xs:=ns.map V.int) (ys:=row.map V.int) (sz (by rw[List.length_map];lia)) (by rw[List.length_map,List.length_map];exact l1)
  (fun i zs H2=>Same H H2/\i<=n/\zs=((addL ns row).take i).map V.int) ⟨Same.refl H,Nat.zero_le _,rfl⟩ (fun i zs H2 h=>?_) (fun i zs H2 _ h=>⟨.of (h.1 _ _ ha),.of (h.1 _ _ hb)⟩) ⟨rfl,rfl⟩ (fun i zs H2 x y p hx hy hp h=>?_) (fun zs H2 h=>?_)
 ·obtain ⟨_,hil,rfl⟩:=h
  have:(addL ns row).length=n:=by unfold addL;rw[List.length_zipWith,<- l1,hn];lia
  rw[List.length_map,List.length_take,this];lia
 ·obtain ⟨hS,hil,rfl⟩:=h
  have hi:i<ns.length:=by have:=(List.getElem?_eq_some_iff.mp hx).1;rwa [List.length_map] at this
  have hi2:i<row.length:=by lia
  rw[List.getElem?_map,List.getElem?_eq_getElem hi] at hx
  rw[List.getElem?_map,List.getElem?_eq_getElem hi2] at hy
  cases hx
  cases hy
  refine ⟨_,rfl,_,rfl,_,_,rfl,rfl,hS.trans (Same.new hp),by lia,?_⟩
  have e:(addL ns row)[i]?=some (ns[i]+row[i]):=by
   unfold addL;rw[List.getElem?_zipWith,List.getElem?_eq_getElem hi,List.getElem?_eq_getElem hi2]
  rw[List.take_add_one,e,List.map_append];rfl
 ·obtain ⟨hS,hil,rfl⟩:=h
  intro p hp
  refine ⟨p,_,rfl,.inl ⟨.of b6,fun l hl=>?_⟩⟩
  refine q l _ ((hS.trans (Same.new hp)).trans (Same.new hl)) ?_
  rw[b6,List.length_map]
  have:(addL ns row).length=ns.length:=by unfold addL;rw[List.length_zipWith,<- l1];lia
  rw[<- this,List.take_length]
noncomputable def sp_own_urn:Sp:=fun vs H Q _=>∃(a:Addr) (xs:List V),vs=[.ref a]/\H a=some (.tup xs)/\∀p H',Same H H'->H' p=some (.tup xs)->Q (.ref p) H'
noncomputable abbrev s_own_urn:Stmt:=u7 29
theorem sc_own_urn:FnScope ["urn"] ["urn"] (d5 s_own_urn):=⟨rfl,rfl,rfl,by decide +kernel,rfl,by decide +kernel,by decide +kernel⟩
theorem a3H (F:Fun K "own_urn" "own_urn" s_own_urn f fd) (B:Bt mg):FnOk P w K mg base CX0 1 f fd ["urn"] sp_own_urn:=by
 refine F.ok sc_own_urn (fun vs H Q E h=>?_) (fun cdv A outer s H vs Q E hr h=>?_)
 ·obtain ⟨a,xs,rfl,_⟩:=h
  rfl
 obtain ⟨a,xs,rfl,ha,q⟩:=h
 refine ⟨_,c0 (f6 (i7 call_tuple_of rfl B.tuple boot_tuple (b5 (i7 call_list_of rfl B.list boot_list (b5 (pv 0) pa_nil)) pa_nil))),?_⟩
 refine ⟨_,rfl,a,_,rfl,.inr (.of ha),fun l hl=>⟨l,_,rfl,.inl ⟨.of b6,fun p hp=>?_⟩⟩⟩
 exact q p _ ((Same.new hl).trans (Same.new hp)) b6
end
end G
namespace G
open PySem PySem.Spec PyProof.Rows L2 Mt Md Mq
theorem O5 {l:Addr}{H H':Hp}{o:HO} (hl:H l=some o) (ho:∀xs,o≠.tup xs) (k:Kp l H H'):∀a xs,H a=some (.tup xs)->H' a=some (.tup xs):=fun a xs e=>k a _ (fun z=>by rw[z,hl] at e;injection e with e;exact ho _ e) e
section
variable {P:Program}{w:World}{K:W.Frag}{mg:Str->Option Value}{base:Heap}{f:Addr}{fd:FuncData}{ec:Nat->Addr}{Bs:Addr}
end
end G
namespace Mq
open PySem PySem.Spec L2 Mt Md
noncomputable def dd {α:Type} [DecidableEq α]:List α->List α
 | []=>[]
 | a::l=>if a∈dd l then dd l else a::dd l
end Mq
namespace Mq
open PySem PySem.Spec L2 Mt Md
theorem a0K {u:List Int} (h:0<u.sum):∀i:Nat,sumQ ((List.range i).map fun k=>share u k*1)=psh u i
 | 0=>by rw[a5D h];rfl
 | i+1=>by
  rw[List.range_succ,List.map_append,sumQ_append,a0K h i,a5p h]
  show _+(share u i*1+0)=_
  grind
end Mq
namespace Mq
open PySem PySem.Spec L2 Mt Md
theorem a4R {n m:Nat}{u:List Int} (h:Urn n m u):sumQ ((List.range n).map fun i=>share u i)=1:=by
 have e:=a0K h.pos n
 have e2:((List.range n).map fun k=>share u k*1)=(List.range n).map fun i=>share u i:=List.map_congr_left fun k _=>by grind
 rw[e2] at e
 rw[e,<- h.len,a6A h.pos]
end Mq
namespace Mq
open PySem PySem.Spec L2 Mt Md
noncomputable def E6 (n:Nat) (c:Int) (i:Nat):List Int:=(List.range n).map fun j=>c*(if i=j then 1 else 0)
noncomputable def U0 (n:Nat) (c:Int):List (List Int):=(List.range n).map fun i=>E6 n c i
theorem a2N {n:Nat}{c:Int}{i:Nat} (h:i<n):(U0 n c).getD i []=E6 n c i:=by
 unfold U0
 rw[List.getD_eq_getElem?_getD,List.getElem?_map,List.getElem?_range h];rfl
theorem a1h {n:Nat}{c:Int}{i j:Nat} (h:j<n):(E6 n c i).getD j 0=c*(if i=j then 1 else 0):=by
 unfold E6
 rw[List.getD_eq_getElem?_getD,List.getElem?_map,List.getElem?_range h];rfl
theorem a3d {n:Nat}{c:Int} (h0:0<=c) (h5:c<=5):Rul n 5 (U0 n c):=by
 refine ⟨by unfold U0;rw[List.length_map,List.length_range],fun r hr=>?_⟩
 obtain ⟨i,_,e⟩:=List.mem_map.mp hr
 rw[<- e]
 refine ⟨by unfold E6;rw[List.length_map,List.length_range],fun x hx=>?_⟩
 obtain ⟨j,_,e2⟩:=List.mem_map.mp hx
 rw[<- e2]
 split <;> lia
theorem a0q {u r:List Int}{k:Nat} (h:u.length=r.length) (hk:k<u.length):(addL u r).getD k 0=u.getD k 0+r.getD k 0:=by
 unfold addL
 have hk2:k<r.length:=by lia
 rw[List.getD_eq_getElem?_getD,List.getElem?_zipWith,List.getElem?_eq_getElem hk,List.getElem?_eq_getElem hk2,List.getD_eq_getElem?_getD,List.getD_eq_getElem?_getD,List.getElem?_eq_getElem hk,List.getElem?_eq_getElem hk2];rfl
end Mq
set_option maxHeartbeats 1000000
namespace Mq
open PySem PySem.Spec L2 Mt Md
noncomputable def N3 (g c:List Int) (i:Nat):List Nat:=(List.range i).filter fun j=>decide (c.getD j 0<g.getD j 0)
noncomputable def C8 (u:List Int) (rs:List (List Int)) (g c:List Int) (i:Nat):List (Int × List Int):=(N3 g c i).map fun j=>((n6 u rs c).getD j 0,inc c j)
noncomputable def j6 (u:List Int) (rs:List (List Int)) (g:List Int):TabQ->TabQ->TabQ
 | [],D=>D
 | p::T,D=>j6 u rs g T (u8 p.2 (n6 u rs p.1).sum (C8 u rs g p.1 u.length) D)
noncomputable def E5 (u:List Int) (rs:List (List Int)) (g:List Int):Nat->TabQ
 | 0=>[(List.replicate u.length 0,1)]
 | k+1=>j6 u rs g (E5 u rs g k) []
theorem U8 (u:List Int) (rs:List (List Int)) (g:List Int) (p:List Int × Rat):∀(T D:TabQ),j6 u rs g (T++[p]) D=u8 p.2 (n6 u rs p.1).sum (C8 u rs g p.1 u.length) (j6 u rs g T D)
 | [],D=>rfl
 | q::T,D=>by
  show j6 u rs g (T++[p]) _=u8 _ _ _ (j6 u rs g T _)
  exact U8 u rs g p T _
theorem a3U (g c:List Int) (i:Nat):N3 g c (i+1)=if c.getD i 0<g.getD i 0 then N3 g c i++[i] else N3 g c i:=by
 unfold N3
 rw[List.range_succ,List.filter_append]
 by_cases h:c.getD i 0<g.getD i 0
 ·rw[if_pos h,List.filter_cons,if_pos (decide_eq_true h)];rfl
 ·rw[if_neg h,List.filter_cons,if_neg (by rw[decide_eq_false h];decide)];simp
theorem a5N (u:List Int) (rs:List (List Int)) (g c:List Int) (i:Nat):C8 u rs g c (i+1)=if c.getD i 0<g.getD i 0 then C8 u rs g c i++[((n6 u rs c).getD i 0,inc c i)] else C8 u rs g c i:=by
 unfold C8
 rw[a3U]
 split
 ·rw[List.map_append];rfl
 ·rfl
theorem a5Q (g c:List Int) (i:Nat):(N3 g c i).length<=i:=by
 unfold N3
 exact Nat.le_trans (List.length_filter_le _ _) (by rw[List.length_range];exact Nat.le_refl _)
theorem a3j (u:List Int) (rs:List (List Int)) (g c:List Int) (i:Nat):(C8 u rs g c i).length<=i:=by
 unfold C8;rw[List.length_map];exact a5Q g c i
structure Cn (u:List Int) (rs:List (List Int)) (n k:Nat) (c:List Int):Prop where
 len:c.length=n
 nn:∀x∈c,0<=x/\x<=(k:Int)
 urn:Urn n (20+5*k) (n6 u rs c)
theorem a6N (c:List Int) (j:Nat):(inc c j).length=c.length:=by unfold inc;rw[List.length_set]
theorem a44 {c:List Int}{j:Nat} (h:j<c.length):c.getD j 0∈c:=by
 rw[List.getD_eq_getElem?_getD,List.getElem?_eq_getElem h];exact List.getElem_mem h
theorem Cn.inc {u:List Int}{rs:List (List Int)}{n k j:Nat}{c:List Int} (hu:u.length=n) (hR:Rul n 5 rs) (h:Cn u rs n k c) (hj:j<n):Cn u rs n (k+1) (Md.inc c j):=by
 refine ⟨by rw[a6N];exact h.len,fun x hx=>?_,?_⟩
 ·have hm:=h.nn _ (a44 (show j<c.length by rw[h.len];exact hj))
  unfold Md.inc at hx
  rcases List.mem_or_eq_of_mem_set hx with hx|hx
  ·have:=h.nn x hx;lia
  ·rw[hx];lia
 ·rw[a2Z hu h.len hR hj,show 20+5*(k+1)=20+5*k+5 by lia]
  exact h.urn.add (hR.at hj)
theorem Cn.zero {u:List Int}{rs:List (List Int)}{n:Nat} (h:Urn n 20 u):Cn u rs n 0 (List.replicate u.length 0):=by
 refine ⟨by rw[List.length_replicate];exact h.len,fun x hx=>?_,?_⟩
 ·rw[List.eq_of_mem_replicate hx];lia
 ·rw[a1t];exact h
noncomputable def KC (u:List Int) (rs:List (List Int)) (n k:Nat) (T:TabQ):Prop:=∀p∈T,Cn u rs n k p.1
theorem KC.add {u:List Int}{rs:List (List Int)}{n k:Nat}{D:TabQ}{c:List Int}{x:Rat} (h:KC u rs n k D) (hk:Cn u rs n k c):KC u rs n k (addQ D c x):=fun p hp=>by
 rcases R1 hp with e|⟨q,hq,e⟩
 ·rw[e];exact hk
 ·rw[<- e];exact h q hq
theorem a6C {u:List Int}{rs:List (List Int)}{g c:List Int}{i:Nat}{b:Int × List Int} (h:b∈C8 u rs g c i):∃j,j<i/\b=((n6 u rs c).getD j 0,inc c j):=by
 unfold C8 at h
 obtain ⟨j,hj,e⟩:=List.mem_map.mp h
 unfold N3 at hj
 exact ⟨j,List.mem_range.mp (List.mem_filter.mp hj).1,e.symm⟩
theorem V6 {u:List Int}{rs:List (List Int)}{n k N E:Nat}{x:Rat}{s:Int} (hx:Vq N E x) (hs:0<s) (hs2:s<=200):∀(bs:List (Int × List Int)) {D:TabQ}{B:Nat},(∀b∈bs,(0<=b.1/\b.1<=s)/\Cn u rs n k b.2)->KC u rs n k D->F7 D->AllQ (N*LL) B D ->
  KC u rs n k (u8 x s bs D)/\F7 (u8 x s bs D)/\AllQ (N*LL) (B+E*bs.length) (u8 x s bs D)/\(u8 x s bs D).length<=D.length+bs.length
 | [],D,B,_,h1,h2,h3=>⟨h1,h2,h3,by unfold u8;simp⟩
 | b::bs,D,B,h,h1,h2,h3=>by
  unfold u8
  have hb:=h b List.mem_cons_self
  have hv:Vq (N*LL) E (x*cut b.1 s):=(hx.mul (a1C (by lia) hb.1.2 hs hs2)).mono (by lia)
  obtain ⟨a1,a2,a3,a4⟩:=V6 hx hs hs2 bs (D:=addQ D b.2 (x*cut b.1 s)) (fun c hc=>h c (List.mem_cons_of_mem _ hc)) (h1.add hb.2) (a2X h2) (h3.add hv)
  refine ⟨a1,a2,a3.mono ?_,?_⟩
  ·rw[List.length_cons,Nat.mul_add];lia
  ·have:=a1B b.2 (x*cut b.1 s) D
   rw[List.length_cons];lia
theorem a4t {u:List Int}{rs:List (List Int)}{g:List Int}{n k i:Nat}{c:List Int} (hu:u.length=n) (hR:Rul n 5 rs) (h:Cn u rs n k c) (hi:i<=n):∀b∈C8 u rs g c i,(0<=b.1/\b.1<=(n6 u rs c).sum)/\Cn u rs n (k+1) b.2:=fun b hb=>by
 obtain ⟨j,hj,e⟩:=a6C hb
 rw[e]
 exact ⟨⟨(h.urn.getD j).1,N8 h.urn j⟩,h.inc hu hR (by lia)⟩
theorem S0 {u:List Int}{rs:List (List Int)}{g:List Int}{n k N E:Nat} (hu:u.length=n) (hR:Rul n 5 rs) (n4:n<=4) (hk:k<=6):∀(T:TabQ) {D:TabQ}{B:Nat},KC u rs n k T->AllQ N E T->KC u rs n (k+1) D->F7 D->AllQ (N*LL) B D ->
  KC u rs n (k+1) (j6 u rs g T D)/\F7 (j6 u rs g T D)/\AllQ (N*LL) (B+E*(4*T.length)) (j6 u rs g T D)/\(j6 u rs g T D).length<=D.length+n*T.length
 | [],D,B,_,_,h1,h2,h3=>⟨h1,h2,h3,by unfold j6;simp⟩
 | p::T,D,B,h,hE,h1,h2,h3=>by
  unfold j6
  have hp:=h p List.mem_cons_self
  obtain ⟨b1,b2,b3,b4⟩:=V6 (k:=k+1) (hE p List.mem_cons_self) hp.urn.pos (a0h hp.urn n4 (by lia)) (C8 u rs g p.1 u.length) (a4t hu hR hp (by lia)) h1 h2 h3
  obtain ⟨a1,a2,a3,a4⟩:=S0 (g:=g) hu hR n4 hk T (fun q hq=>h q (List.mem_cons_of_mem _ hq)) (fun q hq=>hE q (List.mem_cons_of_mem _ hq)) b1 b2 b3
  have e:=a3j u rs g p.1 u.length
  refine ⟨a1,a2,a3.mono ?_,?_⟩
  ·have:E*(C8 u rs g p.1 u.length).length<=E*4:=Nat.mul_le_mul_left _ (by lia)
   rw[List.length_cons,Nat.mul_add 4,Nat.mul_add E];lia
  ·rw[List.length_cons,Nat.mul_add,Nat.mul_one];lia
theorem a3K {n:Nat}{rs:List (List Int)}{u:List Int} (g:List Int) (hR:Rul n 5 rs) (n4:n<=4) (hu:Urn n 20 u):∀k:Nat,k<=6->KC u rs n k (E5 u rs g k)/\F7 (E5 u rs g k)/\AllQ (LL ^ k) (4 ^ (k*k)) (E5 u rs g k)/\(E5 u rs g k).length<=4 ^ k
 | 0,_=>⟨fun p hp=>by rw[List.mem_singleton.mp hp];exact Cn.zero hu,by unfold F7;simp[E5],fun p hp=>by rw[List.mem_singleton.mp hp];exact Vq.one _,by show 1<=1;decide⟩
 | k+1,hk=>by
  obtain ⟨a1,a2,a3,a4⟩:=a3K g hR n4 hu k (by lia)
  obtain ⟨b1,b2,b3,b4⟩:=S0 (D:=[]) (B:=0) (g:=g) hu.len hR n4 (by lia) (E5 u rs g k) a1 a3 (fun p hp=>by simp at hp) (by unfold F7;simp) (fun p hp=>by simp at hp)
  refine ⟨b1,b2,?_,?_⟩
  ·rw[Nat.pow_succ]
   refine b3.mono ?_
   rw[Nat.zero_add]
   have e1:4*(E5 u rs g k).length<=4*4 ^ k:=Nat.mul_le_mul_left _ a4
   have e2:4 ^ (k*k)*(4*4 ^ k)<=4 ^ ((k+1)*(k+1)):=by
    rw[show 4*4 ^ k=4 ^ (k+1) by rw[Nat.pow_succ,Nat.mul_comm],<- Nat.pow_add]
    refine Nat.pow_le_pow_right (by decide) ?_
    rw[Nat.add_mul,Nat.mul_add,Nat.mul_one,Nat.one_mul];lia
   exact Nat.le_trans (Nat.mul_le_mul_left _ e1) e2
  ·show (j6 u rs g (E5 u rs g k) []).length<=4 ^ (k+1)
   rw[List.length_nil,Nat.zero_add] at b4
   have:n*(E5 u rs g k).length<=4*4 ^ k:=Nat.mul_le_mul n4 a4
   rw[Nat.pow_succ];lia
noncomputable def opC (u:List Int) (rs:List (List Int)) (g:List Int) (φ:List Int->Rat) (c:List Int):Rat:=sumQ ((C8 u rs g c u.length).map fun b=>cut b.1 (n6 u rs c).sum*φ b.2)
theorem V4 (u:List Int) (rs:List (List Int)) (g:List Int) (φ:List Int->Rat):∀(T D:TabQ),linQ (j6 u rs g T D) φ=linQ D φ+linQ T (opC u rs g φ)
 | [],D=>by unfold j6;show _=_+0;grind
 | p::T,D=>by
  unfold j6
  rw[V4 u rs g φ T,a0G,F5]
  unfold opC
  grind
theorem a60 (u:List Int) (rs:List (List Int)) (g:List Int) (φ:List Int->Rat) (k:Nat):linQ (E5 u rs g (k+1)) φ=linQ (E5 u rs g k) (opC u rs g φ):=by
 show linQ (j6 u rs g (E5 u rs g k) []) φ=_
 rw[V4]
 show 0+_=_
 grind
noncomputable abbrev DrL:=List (List Nat × List Int × Rat)
noncomputable def a0g (u:List Int) (i:Nat):List Nat:=(List.range i).filter fun j=>decide (0<u.getD j 0)
noncomputable def a8u (rs:List (List Int)) (n:Nat) (A:DrL):DrL:=A.flatMap fun e=>(a0g e.2.1 n).map fun j=>(e.1++[j],addL e.2.1 (rs.getD j []),e.2.2*cut (e.2.1.getD j 0) e.2.1.sum)
noncomputable def v6 (u:List Int) (rs:List (List Int)):Nat->DrL
 | 0=>[([],u,1)]
 | k+1=>a8u rs u.length (v6 u rs k)
noncomputable def n9 (A:DrL) (φ:List Nat->Rat):Rat:=sumQ (A.map fun e=>e.2.2*φ e.1)
noncomputable def t9 (n:Nat) (ds:List Nat):List Int:=(List.range n).map fun j=>((ds.count j:Nat):Int)
theorem G5 (n:Nat) (ds:List Nat):(t9 n ds).length=n:=by unfold t9;rw[List.length_map,List.length_range]
theorem a1n {n j:Nat} (ds:List Nat) (h:j<n):(t9 n ds).getD j 0=((ds.count j:Nat):Int):=by
 unfold t9
 rw[List.getD_eq_getElem?_getD,List.getElem?_map,List.getElem?_range h];rfl
theorem a1o (n:Nat):t9 n []=List.replicate n 0:=by
 unfold t9
 refine List.ext_getElem (by simp) fun i h1 h2=>by simp
theorem S7 {n j:Nat} (ds:List Nat) (hj:j<n):t9 n (ds++[j])=inc (t9 n ds) j:=by
 show _=(t9 n ds).set j ((t9 n ds).getD j 0+1)
 rw[a1n ds hj]
 refine List.ext_getElem (by rw[List.length_set,G5,G5]) fun i h1 h2=>?_
 have hi:i<n:=by rw[G5] at h1;exact h1
 have e1:(t9 n (ds++[j]))[i]=(((ds++[j]).count i:Nat):Int):=by unfold t9;simp
 rw[e1,List.getElem_set]
 have e2:(t9 n ds)[i]'(by rw[G5];exact hi)=((ds.count i:Nat):Int):=by unfold t9;simp
 rw[List.count_append]
 by_cases hij:j=i
 ·subst hij
  rw[if_pos rfl];simp
 ·rw[if_neg hij,e2]
  have:List.count i [j]=0:=by rw[List.count_eq_zero];simp;exact fun z=>hij z.symm
  rw[this];simp
structure DrOk (u:List Int) (rs:List (List Int)) (n k:Nat) (e:List Nat × List Int × Rat):Prop where
 len:e.1.length=k
 lt:∀j∈e.1,j<n
 urn:e.2.1=n6 u rs (t9 n e.1)
 ok:Urn n (20+5*k) e.2.1
 vq:Vq (LL ^ k) 1 e.2.2
theorem a52 {u:List Int}{i j:Nat}:j∈a0g u i ↔ j<i/\0<u.getD j 0:=by
 unfold a0g
 rw[List.mem_filter,List.mem_range];simp
theorem a5u (u:List Int) (i:Nat):(a0g u i).length<=i:=by
 unfold a0g
 exact Nat.le_trans (List.length_filter_le _ _) (by rw[List.length_range];exact Nat.le_refl _)
theorem O1 {n:Nat}{rs:List (List Int)}{u:List Int} (hR:Rul n 5 rs) (n4:n<=4) (hu:Urn n 20 u):∀k:Nat,k<=6->(∀e∈v6 u rs k,DrOk u rs n k e)/\(v6 u rs k).length<=n ^ k
 | 0,_=>⟨fun e he=>by
   rw[List.mem_singleton.mp he]
   exact ⟨rfl,by simp,by show u=_;rw[a1o,a1t],hu,Vq.one _⟩,by show 1<=1;decide⟩
 | k+1,hk=>by
  obtain ⟨a1,a2⟩:=O1 hR n4 hu k (by lia)
  constructor
  ·intro e he
   obtain ⟨e0,h0,h1⟩:=List.mem_flatMap.mp (show e∈(v6 u rs k).flatMap _ from he)
   obtain ⟨j,hj,ej⟩:=List.mem_map.mp h1
   have o:=a1 e0 h0
   obtain ⟨hj1,hj2⟩:=a52.mp hj
   rw[hu.len] at hj1
   subst ej
   refine ⟨by show (e0.1++[j]).length=_;rw[List.length_append,o.len];rfl,fun i hi=>?_,?_,?_,?_⟩
   ·rcases List.mem_append.mp (show i∈e0.1++[j] from hi) with h|h
    ·exact o.lt i h
    ·rw[List.mem_singleton.mp h];exact hj1
   ·show addL e0.2.1 _=n6 u rs (t9 n (e0.1++[j]))
    rw[S7 _ hj1,a2Z hu.len (G5 n _) hR hj1,<- o.urn]
   ·show Urn n _ (addL e0.2.1 _)
    rw[show 20+5*(k+1)=20+5*k+5 by lia]
    exact o.ok.add (hR.at hj1)
   ·show Vq (LL ^ (k+1)) 1 (e0.2.2*cut (e0.2.1.getD j 0) e0.2.1.sum)
    rw[Nat.pow_succ]
    exact (o.vq.mul (a1C (by lia) (N8 o.ok j) o.ok.pos (a0h o.ok n4 (by lia)))).mono (by decide)
  ·show ((v6 u rs k).flatMap _).length<=n ^ (k+1)
   rw[List.length_flatMap]
   have:∀(A:DrL),(A.map fun e=>((a0g e.2.1 u.length).map fun j=>((e.1++[j],addL e.2.1 (rs.getD j []),e.2.2*cut (e.2.1.getD j 0) e.2.1.sum):List Nat × List Int × Rat)).length).sum<=n*A.length:=by
    intro A
    induction A with
    | nil=>simp
    | cons e A ih =>
     rw[List.map_cons,List.sum_cons,List.length_cons,Nat.mul_add,Nat.mul_one,List.length_map]
     have:=a5u e.2.1 u.length
     rw[hu.len] at this
     rw[hu.len] at ih ⊢
     lia
   refine Nat.le_trans (this _) ?_
   rw[Nat.pow_succ,Nat.mul_comm]
   exact Nat.mul_le_mul_right _ a2
theorem S8 {α β:Type} (F:β->Rat) (g:α->List β):∀l:List α,sumQ ((l.flatMap g).map F)=sumQ (l.map fun a=>sumQ ((g a).map F))
 | []=>rfl
 | a::l=>by
  rw[List.flatMap_cons,List.map_append,sumQ_append,S8 F g l];rfl
theorem S1 (c:Rat):∀l:List Rat,c*sumQ l=sumQ (l.map fun x=>c*x)
 | []=>by show c*0=0;grind
 | a::l=>by
  show c*(a+sumQ l)=c*a+sumQ (l.map _)
  rw[<- S1 c l];grind
theorem N4 (p:Nat->Bool) (f:Nat->Rat):∀l:List Nat,sumQ ((l.filter p).map f)=sumQ (l.map fun j=>if p j=true then f j else 0)
 | []=>rfl
 | a::l=>by
  rw[List.filter_cons,List.map_cons]
  show _=(if p a=true then f a else 0)+sumQ (l.map _)
  rw[<- N4 p f l]
  split
  ·rfl
  ·grind
theorem a0z (u:List Int) (rs:List (List Int)) (φ:List Nat->Rat) (k:Nat):n9 (v6 u rs (k+1)) φ=sumQ ((v6 u rs k).map fun e=>e.2.2*sumQ ((List.range u.length).map fun j=>if 0<e.2.1.getD j 0 then share e.2.1 j*φ (e.1++[j]) else 0)):=by
 unfold n9
 show sumQ (((v6 u rs k).flatMap _).map _)=_
 rw[S8]
 refine n8 fun e _=>?_
 rw[List.map_map,S1]
 have:=N4 (fun j=>decide (0<e.2.1.getD j 0)) (fun j=>e.2.2*(share e.2.1 j*φ (e.1++[j]))) (List.range u.length)
 rw[List.map_map]
 refine Eq.trans ?_ (Eq.trans this ?_)
 ·refine n8 fun j _=>?_
  show e.2.2*cut _ _*φ (e.1++[j])=e.2.2*(cut _ _*φ (e.1++[j]))
  grind
 ·refine n8 fun j _=>?_
  show _=e.2.2*(if 0<e.2.1.getD j 0 then share e.2.1 j*φ (e.1++[j]) else 0)
  by_cases h:0<e.2.1.getD j 0
  ·rw[if_pos (decide_eq_true h),if_pos h]
  ·rw[if_neg (by rw[decide_eq_false h];decide),if_neg h];grind
noncomputable def V0 (n:Nat) (c g:List Int):Bool:=(List.range n).all fun j=>decide (c.getD j 0<=g.getD j 0)
theorem U1 {n:Nat}{c g:List Int}:V0 n c g=true ↔ ∀j,j<n->c.getD j 0<=g.getD j 0:=by
 unfold V0
 rw[List.all_eq_true]
 exact ⟨fun h j hj=>by simpa using h j (List.mem_range.mpr hj),fun h j hj=>by simpa using h j (List.mem_range.mp hj)⟩
theorem a0o {c:List Int}{j i:Nat} (hj:j<c.length):(inc c j).getD i 0=if j=i then c.getD j 0+1 else c.getD i 0:=by
 unfold inc
 rw[List.getD_eq_getElem?_getD,List.getElem?_set]
 by_cases h:j=i
 ·subst h;rw[if_pos rfl,if_pos rfl,if_pos hj];rfl
 ·rw[if_neg h,if_neg h,List.getD_eq_getElem?_getD (i:=i)]
theorem a2y {n j:Nat}{c g:List Int} (hc:c.length=n) (hj:j<n):V0 n (inc c j) g=(V0 n c g&&decide (c.getD j 0<g.getD j 0)):=by
 have hj':j<c.length:=by rw[hc];exact hj
 rw[Bool.eq_iff_iff,Bool.and_eq_true,U1,U1,decide_eq_true_iff]
 constructor
 ·intro h
  have h1:=h j hj
  rw[a0o hj',if_pos rfl] at h1
  refine ⟨fun i hi=>?_,by lia⟩
  have:=h i hi
  rw[a0o hj'] at this
  split at this
  ·rename_i e;subst e;lia
  ·exact this
 ·rintro ⟨h1,h2⟩ i hi
  rw[a0o hj']
  split
  ·rename_i e;subst e;lia
  ·exact h1 i hi
theorem a0E (s:Int):cut 0 s=0:=by
 unfold cut
 exact Rat.zero_mkRat _
theorem a3Y {n:Nat}{rs:List (List Int)}{u:List Int} (g:List Int) (hg:∀j,0<=g.getD j 0) (hR:Rul n 5 rs) (n4:n<=4) (hu:Urn n 20 u):∀(k:Nat),k<=6->∀φ:List Int->Rat,linQ (E5 u rs g k) φ=n9 (v6 u rs k) (fun ds=>if V0 n (t9 n ds) g=true then φ (t9 n ds) else 0)
 | 0,_,φ=>by
  show 1*φ (List.replicate u.length 0)+0=1*(if V0 n (t9 n []) g=true then φ (t9 n []) else 0)+0
  have:V0 n (t9 n []) g=true:=U1.mpr fun j hj=>by rw[a1n [] hj];simp;exact hg j
  rw[if_pos this,a1o,hu.len]
 | k+1,hk,φ=>by
  obtain ⟨a1,_⟩:=O1 hR n4 hu k (by lia)
  rw[a60,a3Y g hg hR n4 hu k (by lia),a0z]
  unfold n9
  refine n8 fun e he=>?_
  have o:=a1 e he
  congr 1
  have hl:=G5 n e.1
  dsimp only
  by_cases hle:V0 n (t9 n e.1) g=true
  ·rw[if_pos hle]
   unfold opC C8 N3
   rw[List.map_map]
   have:=N4 (fun j=>decide ((t9 n e.1).getD j 0<g.getD j 0)) (fun j=>cut ((n6 u rs (t9 n e.1)).getD j 0) (n6 u rs (t9 n e.1)).sum*φ (inc (t9 n e.1) j)) (List.range u.length)
   refine Eq.trans this (n8 fun j hj=>?_)
   have hjn:j<n:=by rw[<- hu.len];exact List.mem_range.mp hj
   rw[<- o.urn,S7 _ hjn,a2y hl hjn,hle,Bool.true_and]
   unfold share
   by_cases h2:(t9 n e.1).getD j 0<g.getD j 0
   ·rw[decide_eq_true h2,if_pos rfl]
    by_cases h3:0<e.2.1.getD j 0
    ·rw[if_pos h3,if_pos rfl]
    ·rw[if_neg h3]
     have:e.2.1.getD j 0=0:=by have:=(o.ok.getD j).1;lia
     rw[this,a0E];grind
   ·rw[decide_eq_false h2]
    simp only[Bool.false_eq_true,if_false]
    split
    ·grind
    ·rfl
  ·rw[if_neg hle]
   refine Eq.symm ?_
   have z:∀l:List Nat,(∀j∈l,j<n)->sumQ (l.map fun j=>if 0<e.2.1.getD j 0 then share e.2.1 j*(if V0 n (t9 n (e.1++[j])) g=true then φ (t9 n (e.1++[j])) else 0) else 0)=0:=by
    intro l
    induction l with
    | nil=>intro _;rfl
    | cons j l ih =>
     intro hl2
     show _+sumQ (l.map _)=0
     rw[ih fun i hi=>hl2 i (List.mem_cons_of_mem _ hi)]
     have hjn:=hl2 j List.mem_cons_self
     dsimp only
     rw[S7 _ hjn,a2y hl hjn]
     have:V0 n (t9 n e.1) g=false:=by simpa using hle
     rw[this,Bool.false_and]
     simp only[Bool.false_eq_true,if_false]
     split <;> grind
   exact z _ fun j hj=>by rw[<- hu.len];exact List.mem_range.mp hj
theorem a3A {n m:Nat}{u:List Int} (h:Urn n m u):sumQ ((List.range n).map fun j=>if 0<u.getD j 0 then share u j else 0)=1:=by
 rw[<- a4R h]
 refine n8 fun j _=>?_
 by_cases hj:0<u.getD j 0
 ·rw[if_pos hj]
 ·rw[if_neg hj]
  have:u.getD j 0=0:=by have:=(h.getD j).1;lia
  unfold share
  rw[this,a0E]
theorem a4D {n k:Nat}{rs:List (List Int)}{u:List Int} (hR:Rul n 5 rs) (n4:n<=4) (hu:Urn n 20 u) (hk:k<=6) {φ ψ:List Nat->Rat} (h:∀ds:List Nat,ds.length=k->∀j,φ (ds++[j])=ψ ds):n9 (v6 u rs (k+1)) φ=n9 (v6 u rs k) ψ:=by
 obtain ⟨a1,_⟩:=O1 hR n4 hu k hk
 rw[a0z]
 unfold n9
 refine n8 fun e he=>?_
 have o:=a1 e he
 congr 1
 have e1:sumQ ((List.range u.length).map fun j=>if 0<e.2.1.getD j 0 then share e.2.1 j*φ (e.1++[j]) else 0)=sumQ ((List.range n).map fun j=>(if 0<e.2.1.getD j 0 then share e.2.1 j else 0)*ψ e.1):=by
  rw[hu.len]
  refine n8 fun j _=>?_
  rw[h e.1 o.len j]
  split
  ·rfl
  ·grind
 rw[e1]
 have e2:=S1 (ψ e.1) ((List.range n).map fun j=>if 0<e.2.1.getD j 0 then share e.2.1 j else 0)
 rw[a3A o.ok,List.map_map] at e2
 have e3:sumQ ((List.range n).map fun j=>(if 0<e.2.1.getD j 0 then share e.2.1 j else 0)*ψ e.1)=sumQ ((List.range n).map ((fun x=>ψ e.1*x) ∘ fun j=>if 0<e.2.1.getD j 0 then share e.2.1 j else 0)):=by
  refine n8 fun j _=>?_
  show _=ψ e.1*_
  grind
 rw[e3,<- e2];grind
theorem a5P (A:DrL) (φ ψ:List Nat->Rat):n9 A (fun ds=>φ ds - ψ ds)=n9 A φ - n9 A ψ:=by
 unfold n9
 induction A with
 | nil=>show (0:Rat)=0 - 0;grind
 | cons e A ih =>
  show e.2.2*(φ e.1 - ψ e.1)+sumQ (A.map _)=(e.2.2*φ e.1+sumQ (A.map _)) - (e.2.2*ψ e.1+sumQ (A.map _))
  rw[ih];grind
theorem Y5 {n k:Nat}{rs:List (List Int)}{u:List Int} (hR:Rul n 5 rs) (n4:n<=4) (hu:Urn n 20 u) (hk:k<=6) {φ ψ:List Nat->Rat} (h:∀ds:List Nat,ds.length=k->(∀j∈ds,j<n)->φ ds=ψ ds):n9 (v6 u rs k) φ=n9 (v6 u rs k) ψ:=by
 obtain ⟨a1,_⟩:=O1 hR n4 hu k hk
 unfold n9
 refine n8 fun e he=>?_
 have o:=a1 e he
 rw[h e.1 o.len o.lt]
end Mq
set_option maxHeartbeats 4000000
namespace L2
open PySem PySem.Spec PyProof.Rows
section
variable {K:W.Frag}{σ0:St}{te:TE}{H:Hp}{F:List V->Hp->Prop}
end
end L2
namespace L2
open PySem PySem.Spec PyProof.Rows
section
variable {prog:Program}{w:World}{A:Around}{E:Value->Shared->Prop}{s:Shared}
structure ZipTL (h:Heap) (z TI TO i1 i2 t1 t2:Addr) (k:Nat):Prop where
 zz:IsZip h z TI TO .none
 ti:IsPair h TI (.ref i1) (.ref i2)
 tO:∃a b,IsPair h TO a b
 it1:h.IsTupleIter i1 t1 k
 it2:h.IsListIter i2 t2 k
theorem a3m {z TI TO i1 i2 t1 t2:Addr}{xs ys:Array Value}{k:Nat}{x y:Value}{Q:Option Value->Shared->Prop} (D:ZipD z TI TO i1 i2 t1 t2) (Z:ZipTL s.heap z TI TO i1 i2 t1 t2 k) (hl1:s.heap.IsTuple t1 xs) (hl2:s.heap.IsList t2 ys)
  (hx:xs[k]?=some x) (hy:ys[k]?=some y)
  (hQ:∀h',IsZip h' z TI TO (rawInt s.heap.objs.size)->IsPair h' TO x y->h'.IsTupleIter i1 t1 (k+1)->h'.IsListIter i2 t2 (k+1)->IsPair h' s.heap.objs.size x y->h'.objs.size=s.heap.objs.size+1 ->
   (∀c o,c ∉ [z,TO,i1,i2]->s.heap.get? c=some o->h'.get? c=some o)->Q (some (.ref s.heap.objs.size)) { s with heap:=h' }):
  wpAny (model prog w) A (pyNext (.ref z)) Q E s:=by
 obtain ⟨hz,hTI,⟨a,b,hTO⟩,h1,h2⟩:=Z
 have hT:s.TypeIs (.ref z) "zip":=⟨_,hz,rfl⟩
 unfold pyNext
 refine wpAny_bind (wpAny_attempt (wpAny_callSpecial?_slot (name:=Str.ofString "__next__") hT F.slot_zip_next (wpAny_call_entry F.slot_zip_next hT F.entry_zip_next ?_ (F.args_zip_next_1 _))))
 show wpAny _ _ (field (.ref z) 2 >>= _) _ _ _
 refine wpAny_bind (wpAny_field hz rfl (x:=.bool false) rfl ?_)
 show wpAny _ _ (field (.ref z) 3 >>= _) _ _ _
 refine wpAny_bind (wpAny_field hz rfl (x:=.ref TI) rfl (wpAny_bind (wpAny_seqItems hTI rfl ?_)))
 show wpAny _ _ (Builtin.SmallTypes.ownedTupleIsFree (.ref z) >>= _) _ _ _
 refine wpAny_bind ?_
 unfold Builtin.SmallTypes.ownedTupleIsFree
 refine wpAny_bind (wpAny_field hz rfl (x:=.none) rfl (wpAny_pure ?_))
 simp only[if_true]
 refine wpAny_bind (wpAny_rule (wpAny_bind (wpAny_field hz rfl (x:=.ref TO) rfl (wpAny_bind (wpAny_setField_rec hz (by simp) fun g1 z1 s1=>?_)))))
 replace z1:IsZip g1 z TI TO .ellipsis:=z1
 refine wpAny_bind ?_
 simp only[List.zipIdx_cons,List.zipIdx_nil,List.forIn_cons,List.forIn_nil]
 refine wpAny_bind (wpAny_bind (wpAny_onRaise ?_))
 show wpAny _ _ (Builtin.SmallTypes.nextOf (.ref i1) >>= _) _ _ _
 refine wpAny_bind (L1 (h1.at fun o e=>s1.extBut _ o D.a3 e) (hl1.at fun o e=>s1.extBut _ o D.e1 e) hx fun g2 j1 s2=>wpAny_pure ?_)
 have o2:IsPair g2 TO a b:=s2.extBut _ _ D.c1 (s1.extBut _ _ D.a2 hTO)
 refine wpAny_bind (wpAny_seqItems o2 rfl (wpAny_bind (wpAny_updateSeq_pair o2 fun g3 o3 s3=>?_)))
 replace o3:IsPair g3 TO x b:=o3
 refine wpAny_bind (wpAny_letGo (wpAny_pure (wpAny_bind (wpAny_bind (wpAny_onRaise ?_)))))
 show wpAny _ _ (Builtin.SmallTypes.nextOf (.ref i2) >>= _) _ _ _
 refine wpAny_bind (wpAny_nextOf_list_item (h2.at fun o e=>s3.extBut _ o D.c2.symm (s2.extBut _ o D.d1.symm (s1.extBut _ o D.a4 e))) (hl2.at' fun o e=>s3.extBut _ o D.f2 (s2.extBut _ o D.f3 (s1.extBut _ o D.f1 e))) hy fun g4 j2 s4=>wpAny_pure ?_)
 have o4:IsPair g4 TO x b:=s4.extBut _ _ D.c2 o3
 refine wpAny_bind (wpAny_seqItems o4 rfl (wpAny_bind (wpAny_updateSeq_pair o4 fun g5 o5 s5=>?_)))
 replace o5:IsPair g5 TO x y:=o5
 refine wpAny_bind (wpAny_letGo (wpAny_pure (wpAny_pure ?_)))
 refine wpAny_bind (wpAny_seqItems o5 rfl (wpAny_bind (wpAny_newTuple ?_)))
 have hsz:g5.objs.size=s.heap.objs.size:=by rw[s5.1,s4.1,s3.1,s2.1,s1.1]
 have z5:IsZip g5 z TI TO .ellipsis:=s5.extBut _ _ D.a2.symm (s4.extBut _ _ D.a4.symm (s3.extBut _ _ D.a2.symm (s2.extBut _ _ D.a3.symm z1)))
 have k5:∀c o,c ∉ [z,TO,i1,i2]->s.heap.get? c=some o->g5.get? c=some o:=fun c o hc e=>by
  simp only[List.mem_cons,List.not_mem_nil,or_false,not_or] at hc
  exact s5.extBut _ _ hc.2.1 (s4.extBut _ _ hc.2.2.2 (s3.extBut _ _ hc.2.1 (s2.extBut _ _ hc.2.2.1 (s1.extBut _ _ hc.1 e))))
 have m1:g5.IsTupleIter i1 t1 (k+1):=j1.at fun o e=>s5.extBut _ o D.c1.symm (s4.extBut _ o D.d1 (s3.extBut _ o D.c1.symm e))
 have m2:g5.IsListIter i2 t2 (k+1):=j2.at fun o e=>s5.extBut _ o D.c2.symm e
 show wpAny _ _ (Builtin.SmallTypes.ownedTupleHandOut (.ref z) (.ref g5.objs.size) >>= _) _ _ _
 refine wpAny_bind ?_
 unfold Builtin.SmallTypes.ownedTupleHandOut
 have z6:IsZip (g5.push { cls:=.type "tuple",data:=.seq #[x,y] }) z TI TO .ellipsis:=Heap.get?_push_of_some _ z5
 refine wpAny_bind (wpAny_setField_rec z6 (by simp) fun g7 z7 s7=>?_)
 replace z7:IsZip g7 z TI TO (rawInt g5.objs.size):=z7
 refine wpAny_setField_rec z7 (by simp) fun g8 z8 s8=>?_
 replace z8:IsZip g8 z TI TO (rawInt g5.objs.size):=z8
 have up:∀c o,c≠z->g5.get? c=some o->g8.get? c=some o:=fun c o hc e=>s8.extBut _ _ hc (s7.extBut _ _ hc (Heap.get?_push_of_some _ e))
 have new8:IsPair g8 g5.objs.size x y:=s8.extBut _ _ (Nat.ne_of_gt (Heap.lt_size z5)) (s7.extBut _ _ (Nat.ne_of_gt (Heap.lt_size z5)) (Heap.get?_push_size _ rfl))
 have size8:g8.objs.size=g5.objs.size+1:=by rw[s8.1,s7.1,Heap.size_push]
 rw[hsz] at z8 new8 size8
 refine wpAny_pure ⟨_,rfl,wpAny_pure ?_⟩
 show Q (some (.ref g5.objs.size)) _
 rw[hsz]
 exact hQ g8 z8 (up _ _ D.a2 o5) (m1.at fun o e=>up _ o D.a3 e) (m2.at fun o e=>up _ o D.a4 e) new8 size8 fun c o hc e=>up c o (fun q=>hc (by simp[q])) (k5 c o hc e)
theorem a4O {z TI TO i1 i2 t1 t2:Addr}{xs:Array Value}{k:Nat}{Q:Option Value->Shared->Prop} (hh:A.handled=none) (D:ZipD z TI TO i1 i2 t1 t2) (Z:ZipTL s.heap z TI TO i1 i2 t1 t2 k) (hl1:s.heap.IsTuple t1 xs)
  (hx:xs[k]?=none) (hQ:∀h',(∀c o,c ∉ [z,TO,i1,i2]->s.heap.get? c=some o->h'.get? c=some o)->Q none { s with heap:=h' }):wpAny (model prog w) A (pyNext (.ref z)) Q E s:=by
 obtain ⟨hz,hTI,⟨a,b,hTO⟩,h1,h2⟩:=Z
 have hT:s.TypeIs (.ref z) "zip":=⟨_,hz,rfl⟩
 unfold pyNext
 refine wpAny_bind (wpAny_attempt (wpAny_callSpecial?_slot (name:=Str.ofString "__next__") hT F.slot_zip_next (wpAny_call_entry F.slot_zip_next hT F.entry_zip_next ?_ (F.args_zip_next_1 _))))
 show wpAny _ _ (field (.ref z) 2 >>= _) _ _ _
 refine wpAny_bind (wpAny_field hz rfl (x:=.bool false) rfl ?_)
 show wpAny _ _ (field (.ref z) 3 >>= _) _ _ _
 refine wpAny_bind (wpAny_field hz rfl (x:=.ref TI) rfl (wpAny_bind (wpAny_seqItems hTI rfl ?_)))
 show wpAny _ _ (Builtin.SmallTypes.ownedTupleIsFree (.ref z) >>= _) _ _ _
 refine wpAny_bind ?_
 unfold Builtin.SmallTypes.ownedTupleIsFree
 refine wpAny_bind (wpAny_field hz rfl (x:=.none) rfl (wpAny_pure ?_))
 simp only[if_true]
 refine wpAny_bind (wpAny_rule (wpAny_bind (wpAny_field hz rfl (x:=.ref TO) rfl (wpAny_bind (wpAny_setField_rec hz (by simp) fun g1 z1 s1=>?_)))))
 replace z1:IsZip g1 z TI TO .ellipsis:=z1
 refine wpAny_bind ?_
 simp only[List.zipIdx_cons,List.zipIdx_nil,List.forIn_cons,List.forIn_nil]
 refine wpAny_bind (wpAny_bind (wpAny_onRaise ?_))
 show wpAny _ _ (Builtin.SmallTypes.nextOf (.ref i1) >>= _) _ _ _
 refine wpAny_bind (a0A hh (h1.at fun o e=>s1.extBut _ o D.a3 e) (hl1.at fun o e=>s1.extBut _ o D.e1 e) hx fun g2 e s2 he=>?_)
 obtain ⟨oe,hoe,hce⟩:=he
 have z2:IsZip g2 z TI TO .ellipsis:=s2 _ _ D.a3.symm z1
 have hez:e≠z:=fun q=>by subst q;rw[z2] at hoe;cases hoe;simp at hce
 refine wpAny_setField_rec z2 (by simp) fun g3 _ s3=>?_
 refine wpAny_bind (wpAny_isInstance (T:="StopIteration") (b:=true) ⟨oe,s3.extBut _ _ hez hoe,hce⟩ isSubtype_stop (wpAny_pure (hQ g3 fun c o hc q=>?_)))
 simp only[List.mem_cons,List.not_mem_nil,or_false,not_or] at hc
 exact s3.extBut _ _ hc.1 (s2 _ _ hc.2.2.1 (s1.extBut _ _ hc.1 q))
noncomputable abbrev a2J (h:Heap) (t1 t2:Addr):Heap:=((((h.push (tit t1)).push (lit t2)).push (tpr (.ref h.objs.size) (.ref (h.objs.size+1)))).push (tpr .none .none)).push (zob (h.objs.size+2) (h.objs.size+3))
theorem a4y (t1 t2:Addr) (xs ys:Array Value):
  Meets (Builtin.«zip.__new__» ⟨[.type "zip",.ref t1,.ref t2],[]⟩) (fun _ R s=>s.heap.IsTuple t1 xs/\s.heap.IsList t2 ys/\R (.ok (.ret (.ref (s.heap.objs.size+4)))) { s with heap:=a2J s.heap t1 t2 }):=
 .of_wp fun prog w A R s h=>by
  obtain ⟨hp,g,d,tk,os⟩:=s;obtain ⟨hl1,hl2,h⟩:=h
  have hsub:=sub_zip
  have hL1:Heap.IsTuple (Shared.heap ⟨hp,g,d,tk,os⟩) t1 xs:=hl1
  have hL2:Heap.IsList (Shared.heap ⟨hp.push (tit t1),g,d,tk,os⟩) t2 ys:=Heap.IsList.push hl2 _
  wp_walk using wpAny_pyIter_tuple hL1,wpAny_pyIter_list hL2
  simp only[Heap.size_push]
  exact ⟨_,rfl,h⟩
theorem a3z {t1 t2:Addr}{xs ys:Array Value}{Q:Value->Shared->Prop} (hl1:s.heap.IsTuple t1 xs) (hl2:s.heap.IsList t2 ys)
  (h:∀h',ZipTL h' (s.heap.objs.size+4) (s.heap.objs.size+2) (s.heap.objs.size+3) s.heap.objs.size (s.heap.objs.size+1) t1 t2 0->(∀c o,s.heap.get? c=some o->h'.get? c=some o)->h'.objs.size=s.heap.objs.size+5 ->
   Q (.ref (s.heap.objs.size+4)) { s with heap:=h' }):wpAny (model prog w) A (call (.type "zip") [.ref t1,.ref t2]) Q E s:=by
 refine callType_new F.called_zip (by decide) (F.typeCall_zip_2 _ _) (F.newCall_zip_2 _ _) (fun obj=>F.args_object_init_3 obj _ _) F.entry_zip_new (a4y t1 t2 xs ys) ⟨hl1,hl2,?_⟩
 have up:∀{b:Addr}{o:Obj} (h0:Heap) (x:Obj),h0.get? b=some o->(h0.push x).get? b=some o:=fun _ _ e=>Heap.get?_push_of_some _ e
 have here:∀(h0:Heap) (x:Obj) (n:Nat),x.isFreed=false->h0.objs.size=n->(h0.push x).get? n=some x:=fun h0 x n hf e=>by subst e;exact Heap.get?_push_size _ hf
 have Z:ZipTL (a2J s.heap t1 t2) (s.heap.objs.size+4) (s.heap.objs.size+2) (s.heap.objs.size+3) s.heap.objs.size (s.heap.objs.size+1) t1 t2 0 :=
  ⟨here _ _ _ rfl (by simp only[Heap.size_push]),up _ _ (up _ _ (here _ _ _ rfl (by simp only[Heap.size_push]))),⟨_,_,up _ _ (here _ _ _ rfl (by simp only[Heap.size_push]))⟩,
   ⟨_,up _ _ (up _ _ (up _ _ (up _ _ (here _ _ _ rfl rfl)))),rfl,rfl⟩,⟨_,up _ _ (up _ _ (up _ _ (here _ _ _ rfl (by simp only[Heap.size_push])))),rfl,rfl⟩⟩
 exact ⟨⟨_,Z.zz,rfl⟩,h _ Z (fun c o e=>up _ _ (up _ _ (up _ _ (up _ _ (up _ _ e))))) (by simp only[Heap.size_push])⟩
end
section
variable {X:Cx}{pins:List (Addr × Obj)}{σ:St}{H:Hp}{s:Shared}
noncomputable def a3w (K:W.Frag) (a b:Addr):It :=
 ⟨fun i H=>∃xs ys x y,SqT K H a xs/\SqL K H b ys/\xs[i]?=some x/\ys[i]?=some y,fun i H v H'=>∃p x y,H p=none/\v=.ref p/\H'=b7 H p (.tup [x,y])/\(∀xs,SqT K H a xs->xs[i]?=some x)/\∀ys,SqL K H b ys->ys[i]?=some y,
  fun i H=>∃xs,SqT K H a xs/\xs.length<=i⟩
theorem a3E {P:Program}{w:World}{K:W.Frag}{es:List Expr}{kk:Nat}{pos:Pos}{a b z TI TO i1 i2:Addr} (D:ZipD z TI TO i1 i2 a b):
  Turn P w K (.Tuple es kk pos) (a3w K a b) [z,TI,TO,i1,i2] z (fun i h=>ZipTL h z TI TO i1 i2 a b i) where
 mem:=by simp
 obj:=fun i h st c hc=>by
  obtain ⟨hz,hTI,⟨_,_,hTO⟩,⟨_,h1,_,d1⟩,⟨_,h2,_,d2⟩⟩:=st
  simp only[List.mem_cons,List.not_mem_nil,or_false] at hc
  rcases hc with rfl|rfl|rfl|rfl|rfl
  ·exact ⟨_,hz,fun v q=>by cases q⟩
  ·exact ⟨_,hTI,fun v q=>by cases q⟩
  ·exact ⟨_,hTO,fun v q=>by cases q⟩
  ·exact ⟨_,h1,fun v q=>by rw[d1] at q;cases q⟩
  ·exact ⟨_,h2,fun v q=>by rw[d2] at q;cases q⟩
 keep:=fun i h h' st k=>by
  obtain ⟨hz,hTI,⟨_,_,hTO⟩,h1,h2⟩:=st
  exact ⟨k _ (by simp) _ hz,k _ (by simp) _ hTI,⟨_,_,k _ (by simp) _ hTO⟩,h1.at fun o e=>k _ (by simp) o e,h2.at fun o e=>k _ (by simp) o e⟩
 item:=by
  intro X hP hw hK hc i pins s σ H E I hf st hg
  subst hP hw hK
  obtain ⟨xs,ys,x,y,ha,hb,hx,hy⟩:=hg
  obtain ⟨its,r1,p1,_⟩:=I.tuple ha
  obtain ⟨its2,r2,p2,_⟩:=I.list hb
  obtain ⟨u,hu,ru⟩:=r1.get hx
  obtain ⟨v,hv,rv⟩:=r2.get hy
  refine a3m D st (show s.heap.IsTuple a its.toArray from p1) (show s.heap.IsList b its2.toArray from p2.isList) (x:=u) (y:=v) (by simpa using hu) (by simpa using hv) fun h' z1 o1 j1 j2 new sz keep=>?_
  refine ⟨_,rfl,wpAny_letOwnedTupleGo_zip (s:={ s with heap:=h' }) z1 fun h2 z2 sb=>?_⟩
  have hn:H s.heap.objs.size=none:=I.hok.fresh (Nat.le_refl _)
  have zlt:z<s.heap.objs.size:=Heap.lt_size st.zz
  have k2:∀c o,c ∉ [z,TI,TO,i1,i2]->s.heap.get? c=some o->h2.get? c=some o:=fun c o hc e=>by
   simp only[List.mem_cons,List.not_mem_nil,or_false,not_or] at hc
   exact sb.extBut _ _ hc.1 (keep c o (by simp only[List.mem_cons,List.not_mem_nil,or_false,not_or];exact ⟨hc.1,hc.2.2.1,hc.2.2.2.1,hc.2.2.2.2⟩) e)
  have e0:h2.get? s.heap.objs.size=some { cls:=.type "tuple",data:=.seq #[u,v] }:=sb.extBut _ _ (Nat.ne_of_gt zlt) new
  have pne:∀c o,s.heap.get? c=some o->c≠s.heap.objs.size:=fun c o e=>Nat.ne_of_lt (Heap.lt_size e)
  have nit:∀c u,H c=some u->c ∉ [z,TI,TO,i1,i2]:=fun c u e q=>by rw[(hf c q).1] at e;cases e
  have hok:HOk X.prog X.w (b7 H s.heap.objs.size (.tup [x,y])) h2:=fun c ob e=>by
   by_cases hq:c=s.heap.objs.size
   ·subst hq
    rw[b6] at e;cases e
    exact ⟨by show 2<=sizeLine;decide,[u,v],.cons ru (.cons rv .nil),⟨_,e0,rfl,_,rfl⟩⟩
   ·rw[d0 hq] at e
    refine (I.hok c ob e).stay (fun d w' hd q=>k2 d w' ?_ q) (fun d q=>by rw[d0 (d6 q hn)];exact q) fun d xs q=>by rw[d0 (d6 q hn)];exact q
    rcases hd with rfl|hd
    ·exact nit d ob e
    ·exact nit d _ hd
  have I2:Inv X pins σ (b7 H s.heap.objs.size (.tup [x,y])) { s with heap:=h2 }:=by
   refine I.step (g':=s.gens) (d':=s.drawn) (t':=s.toks) (ch:=[z,TI,TO,i1,i2]) (fun c hc=>⟨(hf c hc).2.2.2.1,(hf c hc).2.1,(hf c hc).2.2.2.2.1,(hf c hc).2.2.2.2.2⟩) (fun c o _ _ hc e _=>k2 c o hc e) (fun c o _ _ hc e _=>⟨o.slots,k2 c o hc e⟩)
    (fun c o _ e n=>by rw[d0 (pne c o e)];exact n) (fun c o hc e=>⟨o,k2 c o hc e⟩) (fun c xs e=>by rw[d0 (d6 e hn)];exact e) (fun c o u e=>by rw[d0 (d6 e hn)];exact e) (fun c ps e=>⟨#[],by rw[d0 (d6 e hn),e];simp⟩) (fun m hm=>?_) hok I.bare
   obtain ⟨o,es,ep,ho,r⟩:=hm
   exact ⟨o,es,ep,k2 _ o (fun q=>(hf _ q).2.1 rfl) ho,r⟩
  refine ⟨.ref s.heap.objs.size,_,I2,rfl,⟨_,x,y,hn,rfl,rfl,fun xs' h'=>by rw[I.tuple_inj h' ha];exact hx,fun ys' h'=>by rw[I.list_inj h' hb];exact hy⟩,?_,fun c hc=>?_⟩
  ·exact ⟨z2,sb.extBut _ _ D.a1 (keep _ _ (by simp only[List.mem_cons,List.not_mem_nil,or_false,not_or];exact ⟨D.a1,D.b1,D.b2,D.b3⟩) st.ti),⟨_,_,sb.extBut _ _ D.a2 o1⟩,j1.at fun o e=>sb.extBut _ o D.a3 e,j2.at fun o e=>sb.extBut _ o D.a4 e⟩
  ·have hlt:c<s.heap.objs.size:=by
    obtain ⟨hz,hTI,⟨_,_,hTO⟩,⟨_,h1,_⟩,⟨_,h2,_⟩⟩:=st
    simp only[List.mem_cons,List.not_mem_nil,or_false] at hc
    rcases hc with rfl|rfl|rfl|rfl|rfl
    ·exact Heap.lt_size hz
    ·exact Heap.lt_size hTI
    ·exact Heap.lt_size hTO
    ·exact Heap.lt_size h1
    ·exact Heap.lt_size h2
   rw[d0 (Nat.ne_of_lt hlt)]
   exact (hf c hc).1
 done:=by
  intro X hP hw hK hc i pins s σ H E I hf st hg
  subst hP hw hK
  obtain ⟨xs,ha,hx⟩:=hg
  obtain ⟨its,r1,p1,_⟩:=I.tuple ha
  have hl:=r1.length
  refine a4O (I.ok.hd hc) D st (show s.heap.IsTuple a its.toArray from p1) (by simp;lia) fun h' keep=>⟨rfl,I.turnedL (t':=s.toks) (ch:=[z,TI,TO,i1,i2]) (fun c o hc e=>keep c o (fun q=>hc ?_) e) hf⟩
  simp only[List.mem_cons,List.not_mem_nil,or_false] at q ⊢
  rcases q with q|q|q|q
  ·exact .inl q
  ·exact .inr (.inr (.inl q))
  ·exact .inr (.inr (.inr (.inl q)))
  ·exact .inr (.inr (.inr (.inr q)))
 self:=fun _ _ _ _ _ st h=>wpAny_pyIter_zip st.zz h
noncomputable def a7l (K:W.Frag) (ta:TA):TI:=fun σ H R=>ta σ H fun vs H1=>∃a b xs ys,vs=[.ref a,.ref b]/\SqT K H1 a xs/\SqL K H1 b ys/\R (a3w K a b) H1
theorem a5o {e1 e2:Expr}{es:List Expr}{kk:Nat}{pt p pos:Pos}{ta:TA} (hg:Gl X "zip") (hm:X.mg "zip"=none) (ha:PA X [e1,e2] ta) (hs:starEach [e1,e2] X.env=[(false,eval e1 X.env),(false,eval e2 X.env)]:=by rfl) (hs2:starEach [e2] X.env=[(false,eval e2 X.env)]:=by rfl):
  PI X (.Tuple es kk pt) (.Call (.Name "zip" p) [e1,e2] [] pos) (a7l X.K ta):=by
 intro pins s σ H R I h
 refine Call_ (J9 I hg hm boot_zip (PyProof.Rows.callWith_type1 (f7 (ha pos pins s σ H _ I h) fun us s1 ⟨vs,H1,I1,r1,q1⟩=>?_) (by rw[hs,hs2]) (by rw[hs2];rfl)))
 obtain ⟨a,b,xs,ys,rfl,hx,hy,q⟩:=q1
 cases r1 with
 | cons ra rr =>
  cases rr with
  | cons rb rr =>
   cases rr
   cases ra
   cases rb
   obtain ⟨its,r1,p1,_⟩:=I1.tuple hx
   obtain ⟨its2,r2,p2,_⟩:=I1.list hy
   refine a3z (show s1.heap.IsTuple a its.toArray from p1) (show s1.heap.IsList b its2.toArray from p2.isList) fun h' Z keep sz=>?_
   refine wpAny_pyIter_zip (s:={ s1 with heap:=h' }) Z.zz ?_
   have I2:Inv X pins σ H1 { s1 with heap:=h' }:=I1.kept (t':=s1.toks) keep
   refine ⟨s1.heap.objs.size+4,[s1.heap.objs.size+4,s1.heap.objs.size+2,s1.heap.objs.size+3,s1.heap.objs.size,s1.heap.objs.size+1],_,_,H1,rfl,I2,a3E (ZipD.new p1.lt p2.isList.lt'),Z,fun c hc=>?_,q⟩
   have hge:s1.heap.objs.size<=c:=by
    simp only[List.mem_cons,List.not_mem_nil,or_false] at hc
    rcases hc with rfl|rfl|rfl|rfl|rfl <;> first|exact Nat.le_add_right _ _|exact Nat.le_refl _
   exact I1.fpOk hge (I1.hok.fresh hge)
end
section
variable {X:Cx}{K:W.Frag}
theorem a4N {a b:Addr}{xs ys:List V}{σ0:St}{te:TE}{H:Hp}{F:List V->Hp->Prop} (hn:xs.length<=sizeLine) (hxy:xs.length=ys.length) (Pv:Nat->List V->Hp->Prop) (h0:Pv 0 [] H) (hl:∀i zs H,Pv i zs H->zs.length=i)
  (hq:∀i zs H,i<=xs.length->Pv i zs H->SqT K H a xs/\SqL K H b ys) (hσ:σ0[0]?=some none/\σ0[1]?=some none)
  (hs:∀i zs H x y p,xs[i]?=some x->ys[i]?=some y->H p=none->Pv i zs H->te ((σ0.set 0 (some x)).set 1 (some y)) (b7 H p (.tup [x,y])) fun z H'=>Pv (i+1) (zs++[z]) H') (hd:∀zs H,Pv xs.length zs H->F zs H):
  Y0 (a3w K a b) σ0 (a3L K 2 (X0 (r6 0) (X0 (r6 1) gNil))) tTrue te H F:=by
 refine ⟨fun i m zs H=>m=xs.length - i/\i<=xs.length/\Pv i zs H,⟨xs.length,by simp,Nat.zero_le _,h0⟩,?_⟩
 rintro i m zs H2 ⟨rfl,hi,p⟩
 obtain ⟨q1,q2⟩:=hq i zs H2 hi p
 refine ⟨by rw[hl i zs H2 p];lia,?_⟩
 by_cases hlt:i<xs.length
 ·refine .inr ⟨⟨xs,ys,xs[i],ys[i]'(by lia),q1,q2,by simp[hlt],by rw[List.getElem?_eq_getElem (by lia)]⟩,fun y H'=>Pv (i+1) (zs++[y]) H',fun _=>False,fun y H' q=>⟨xs.length - (i+1),by lia,rfl,hlt,q⟩,fun _ q=>q.elim,fun v H3 yld=>?_⟩
  obtain ⟨r,x,y,hr,rfl,rfl,hx,hy⟩:=yld
  exact ⟨r,[x,y],rfl,.of b6,rfl,x,[y],rfl,y,[],rfl,rfl,wk2 hσ _ _,hs i zs _ x y r (hx xs q1) (hy ys q2) hr p⟩
 ·have e:i=xs.length:=by lia
  subst e
  exact .inl ⟨⟨xs,q1,Nat.le_refl _⟩,hd zs H2 p⟩
end
section
variable {X:Cx}{K:W.Frag}
end
section
variable {prog:Program}{w:World}{A:Around}{E:Value->Shared->Prop}{s:Shared}
structure ZipLM (h:Heap) (z TI TO i1 i2 t1 t2:Addr) (k:Nat):Prop where
 zz:IsZip h z TI TO .none
 ti:IsPair h TI (.ref i1) (.ref i2)
 tO:∃a b,IsPair h TO a b
 it1:h.IsListIter i1 t1 k
 it2:h.IsListIter i2 t2 k
end
section
variable {X:Cx}{pins:List (Addr × Obj)}{σ:St}{H:Hp}{s:Shared}
end
section
variable {X:Cx}{K:W.Frag}
end
end L2
namespace G
open PySem PySem.Spec PyProof.Rows L2 Mt Md Mq
noncomputable def F3 (i:Nat) (cs:List Int) (rs:List (List Int)):List Int:=List.zipWith (fun c r=>c*r.getD i 0) cs rs
theorem Z1 (rs:List (List Int)) (i:Nat):∀(cs:List Int) (j:Nat),cs.length+j<=rs.length->E8 rs i cs j=(F3 i cs (rs.drop j)).sum
 | [],_,_=>by unfold E8 F3;simp
 | c::cs,j,h=>by
  rw[List.length_cons] at h
  have hj:j<rs.length:=by lia
  unfold E8
  rw[Z1 rs i cs (j+1) (by lia),List.drop_eq_getElem_cons hj]
  unfold F3
  rw[List.zipWith_cons_cons,List.sum_cons,List.getD_eq_getElem?_getD (l:=rs),List.getElem?_eq_getElem hj];rfl
theorem inc_cut:∀(c:List Int) (k:Nat),k<c.length->inc c k=c.take k++[c.getD k 0+1]++c.drop (k+1)
 | x::c,0,_=>rfl
 | x::c,k+1,h=>by
  have:=inc_cut c k (by simpa using h)
  show x::inc c k=x::(c.take k++[c.getD k 0+1]++c.drop (k+1))
  rw[this]
noncomputable def K4 (rs:List (List Int)) (cs:List Int) (i:Nat):List Int:=(List.range i).map fun j=>E8 rs j cs 0
theorem a1W (rs:List (List Int)) (cs:List Int) (i:Nat):(K4 rs cs i).length=i:=by unfold K4;rw[List.length_map,List.length_range]
section
variable {P:Program}{w:World}{K:W.Frag}{mg:Str->Option Value}{base:Heap}{f:Addr}{fd:FuncData}{ec:Nat->Addr}{Bs:Addr}
noncomputable def sp_ubc:Sp:=fun vs H Q _=>∃(a c st:Addr) (v:V) (n:Nat) (ns cs:List Int) (rs:List (List Int)),vs=[.ref a,v,.ref c]/\H a=some (.tup (ns.map V.int))/\ns.length=n/\Dt st H (DR rs) v/\Mt.Rul n 5 rs/\n<=4/\cs.length=n/\H c=some (.tup (cs.map V.int))/\(∀x∈cs,0<=x/\x<=100) /\
 ∀p H',Same H H'->H' p=some (.tup ((n6 ns rs cs).map V.int))->Q (.ref p) H'
noncomputable abbrev s_ubc:Stmt:=u7 37
theorem sc_ubc:FnScope ["urn","rule","counts","put"] ["urn","rule","counts"] (d5 s_ubc):=⟨rfl,rfl,rfl,by decide +kernel,rfl,by decide +kernel,by decide +kernel⟩
theorem a7T (F:Fun K "urn_by_counts" "urn_by_counts" s_ubc f fd) (B:Bt mg):FnOk P w K mg base CX0 1 f fd ["urn","rule","counts"] sp_ubc:=by
 refine F.ok sc_ubc (fun vs H Q E h=>?_) (fun cdv A outer s H vs Q E hr h=>?_)
 ·obtain ⟨a,c,st,v,n,ns,cs,rs,rfl,_⟩:=h
  rfl
 obtain ⟨a,c,st,v,n,ns,cs,rs,rfl,ha,hn,hv,hR,n4,hcl,hc,hcb,q⟩:=h
 refine ⟨_,(@b8 _ _ _ _ _ (N9 (N:=["kind","counts","rule"]) (ix:=[none,some 2,some 1]) (ifs:=[]) (tc:=tTrue) (i:=3) rfl sc_ubc.nd rfl rfl  (i9 rfl B.range (@b5 _ _ _ _ _ (d8 call_len_seq rfl B.len PySem.boot_len (@b5 _ _ _ _ _ (pv 0) pa_nil (by rfl))) pa_nil (by rfl)))
   (fun s H ex=>v0 (i:=0) (by decide +kernel) rfl (Or.inr rfl) (.inl rfl)) (fun s H ex=>pifs_nil) (fun s H ex=>(d8 (a9s (K:=K) rfl rfl) rfl B.sum boot_sum (@b5 _ _ _ _ _ (m6 (N:=["many","row","kind"]) (ix:=[none,none,some 0]) (ifs:=[]) (tc:=tTrue) rfl (a53 (K:=K) rfl rfl B.zip (@b5 _ _ _ _ _ (pv 1) (@b5 _ _ _ _ _ (pv 2) pa_nil (by rfl)) (by rfl)))
   (fun s H ex=>a5B (K:=K) (n:=2) rfl rfl (A5 (v0 (i:=0) (by decide +kernel) rfl (Or.inl rfl) (.inr rfl)) (A5 (v0 (i:=1) (by decide +kernel) rfl (Or.inl rfl) (.inr rfl)) pgs_nil))) (fun s H ex=>pifs_nil) (fun s H ex=>(@f8 _ _ _ _ _ _ _ _ op_mul (pv 0) (@j3 _ _ _ _ _ _ _ (ixK (K:=K) rfl) (pv 1) (pv 2) (fun _ _=>rfl)))) rfl (by decide +kernel) (by rfl) (by rfl) (fun _=>rfl)) pa_nil (by rfl)))) rfl (by decide +kernel) (by rfl) (by rfl) (fun _=>rfl) (by rfl))
  (@c0 _ _ _ (f6 (i7 call_tuple_of rfl B.tuple boot_tuple (@b5 _ _ _ _ _ (m6 (N:=["balls","more"]) (ix:=[none,none]) (ifs:=[]) (tc:=tTrue) rfl (a5o rfl B.zip (@b5 _ _ _ _ _ (pv 0) (@b5 _ _ _ _ _ (pv 3) pa_nil (by rfl)) (by rfl)))
   (fun s H ex=>a5B (K:=K) (n:=2) rfl rfl (A5 (v0 (i:=0) (by decide +kernel) rfl (Or.inl rfl) (.inr rfl)) (A5 (v0 (i:=1) (by decide +kernel) rfl (Or.inl rfl) (.inr rfl)) pgs_nil))) (fun s H ex=>pifs_nil) (fun s H ex=>(@f8 _ _ _ _ _ _ _ _ op_add (pv 0) (pv 1))) rfl (by decide +kernel) (by rfl) (by rfl) (fun _=>rfl)) pa_nil (by rfl)))))),?_⟩
 obtain ⟨r,xs,er,_,hr2,hds⟩:=hv.untup
 subst er
 have hxl:=hds.len
 rw[List.length_map,hR.len] at hxl
 refine ⟨_,rfl,a,_,rfl,.inr (.of ha),_,rfl,by rw[List.length_map];lia,by rw[List.length_map];lia,?_⟩
 have en:(((ns.map V.int).length:Nat):Int).toNat=n:=by rw[List.length_map];lia
 rw[en]
 have bl:(n6 ns rs cs).length=n:=by unfold n6;simp[hn]
 have lx:(cs.map V.int).length=n:=by rw[List.length_map];exact hcl
 refine q9 (lo:=0) (n:=n) (sz (by lia)) (fun i ys H2=>Same H H2/\i<=n/\ys=(K4 rs cs i).map V.int) ⟨Same.refl H,Nat.zero_le _,rfl⟩ (fun i ys H2 h=>?_) rfl (fun i ys H2 hi h=>?_) (fun ys H2 h=>?_)
 ·obtain ⟨_,hi,rfl⟩:=h
  rw[List.length_map,a1W]
 ·obtain ⟨g2,hin,rfl⟩:=h
  have e0:(0:Int)+(i:Int)=(i:Int):=by lia
  rw[e0]
  refine ⟨_,rfl,_,rfl,c,r,cs.map V.int,xs,rfl,.of (g2 _ _ hr2),.inl ⟨.of (g2 _ _ hc),?_⟩⟩
  have hpl:(F3 i cs rs).length=n:=by unfold F3;rw[List.length_zipWith,hcl,hR.len];lia
  refine a3f (K:=K) (a:=c) (b:=r) (xs:=cs.map V.int) (ys:=xs) (sz (by lia)) (by lia) (fun j zs H3=>Same H H3/\j<=n/\zs=((F3 i cs rs).take j).map V.int) ⟨g2,Nat.zero_le _,rfl⟩ (fun j zs H3 h=>?_) (fun j zs H3 _ h=>⟨.of (h.1 _ _ hc),.of (h.1 _ _ hr2)⟩) ⟨rfl,rfl⟩ (fun j zs H3 x y p hx hy hp h=>?_) (fun zs H3 h=>?_)
  ·obtain ⟨_,hj,rfl⟩:=h
   rw[List.length_map,List.length_take,hpl];lia
  ·obtain ⟨g3,hjn,rfl⟩:=h
   rw[List.getElem?_map] at hx
   obtain ⟨cj,hcj,ex⟩:=Option.map_eq_some_iff.mp hx
   subst ex
   obtain ⟨d,hd,dt⟩:=hds.get hy
   rw[List.getElem?_map] at hd
   obtain ⟨row,hrow,ed⟩:=Option.map_eq_some_iff.mp hd
   subst ed
   obtain ⟨rb,eb,_,hb⟩:=dt.di
   subst eb
   have hjl:=(List.getElem?_eq_some_iff.mp hcj).1
   have hrl:row.length=n:=(hR.row row (List.mem_of_getElem? hrow)).len
   have g4:=g3.trans (Same.new hp (o:=.tup [.int cj,.ref rb]))
   have hcb':=hcb cj (List.mem_of_getElem? hcj)
   refine ⟨_,rfl,_,rfl,_,rfl,rb,_,_,_,rfl,rfl,.of (g4 _ _ hb),J5 (by lia),_,_,rfl,rfl,.inl ⟨by lia,by lia⟩,g4,by lia,?_⟩
   have e2:(F3 i cs rs)[j]?=some (cj*row.getD i 0):=by unfold F3;rw[List.getElem?_zipWith,hcj,hrow]
   rw[List.take_add_one,e2,List.map_append];rfl
  ·rw[lx] at h
   obtain ⟨g3,_,rfl⟩:=h
   intro p hp
   rw[show (F3 i cs rs).take n=F3 i cs rs from List.take_of_length_le (by lia)]
   refine ⟨p,F3 i cs rs,rfl,.inl (.of b6),g3.trans (Same.new hp),by lia,?_⟩
   have e3:K4 rs cs (i+1)=K4 rs cs i++[(F3 i cs rs).sum]:=by
    unfold K4
    rw[List.range_succ,List.map_append]
    congr 1
    show [E8 rs i cs 0]=_
    rw[Z1 rs i cs 0 (by rw[hcl,hR.len];lia),List.drop_zero]
   rw[e3,List.map_append];rfl
 ·obtain ⟨g2,_,rfl⟩:=h
  intro pl hpl
  have g3:Same H2 (b7 H2 pl (.lst ((K4 rs cs n).map V.int))):=Same.new hpl
  have h3:b7 H2 pl (.lst ((K4 rs cs n).map V.int)) pl=some (.lst ((K4 rs cs n).map V.int)):=b6
  have g13:=g2.trans g3
  try dsimp -proj only[r6]
  generalize b7 H2 pl (.lst ((K4 rs cs n).map V.int))=H3 at g3 h3 g13
  refine ⟨_,rfl,_,rfl,a,pl,_,_,rfl,.of (g13 _ _ ha),.of h3,?_⟩
  refine a4N (K:=K) (a:=a) (b:=pl) (xs:=ns.map V.int) (ys:=(K4 rs cs n).map V.int) (sz (by rw[List.length_map];lia)) (by rw[List.length_map,List.length_map,a1W];exact hn) (fun j zs H4=>Same H3 H4/\j<=n/\zs=((n6 ns rs cs).take j).map V.int) ⟨Same.refl _,Nat.zero_le _,rfl⟩ (fun j zs H4 h=>?_) (fun j zs H4 _ h=>⟨.of (h.1 _ _ (g13 _ _ ha)),.of (h.1 _ _ h3)⟩) ⟨rfl,rfl⟩ (fun j zs H4 x y p hx hy hp h=>?_) (fun zs H4 h=>?_)
  ·obtain ⟨_,hj,rfl⟩:=h
   rw[List.length_map,List.length_take,bl];lia
  ·obtain ⟨g4,hjn,rfl⟩:=h
   rw[List.getElem?_map] at hx hy
   obtain ⟨b0,hb0,ex⟩:=Option.map_eq_some_iff.mp hx
   obtain ⟨m0,hm0,ey⟩:=Option.map_eq_some_iff.mp hy
   subst ex ey
   have hjl:=(List.getElem?_eq_some_iff.mp hb0).1
   refine ⟨_,rfl,_,rfl,_,_,rfl,rfl,g4.trans (Same.new hp),by lia,?_⟩
   have e4:m0=E8 rs j cs 0:=by
    unfold K4 at hm0
    rw[List.getElem?_map,List.getElem?_range (by lia)] at hm0
    injection hm0 with hm0;exact hm0.symm
   have e5:(n6 ns rs cs)[j]?=some (b0+m0):=by
    unfold n6
    rw[List.getElem?_map,List.getElem?_range (by lia),Option.map_some,e4,List.getD_eq_getElem?_getD,hb0];rfl
   rw[List.take_add_one,e5,List.map_append];rfl
  ·obtain ⟨g4,_,rfl⟩:=h
   intro p hp
   refine ⟨p,_,rfl,.inl ⟨.of b6,fun l hl=>?_⟩⟩
   refine q l _ ((g13.trans g4).trans ((Same.new hp).trans (Same.new hl))) ?_
   rw[b6,List.length_map,hn,<- bl,List.take_length]
noncomputable def sp_om:Sp:=fun vs H Q _=>∃(c:Addr) (cs:List Int) (k:Nat),vs=[.ref c,.int k]/\H c=some (.tup (cs.map V.int))/\k<cs.length/\cs.length<=4/\∀p H',Same H H'->H' p=some (.tup ((inc cs k).map V.int))->Q (.ref p) H'
noncomputable abbrev s_om:Stmt:=u7 38
theorem sc_om:FnScope ["counts","kind"] ["counts","kind"] (d5 s_om):=⟨rfl,rfl,rfl,by decide +kernel,rfl,by decide +kernel,by decide +kernel⟩
theorem a8G (F:Fun K "one_more" "one_more" s_om f fd):FnOk P w K mg base CX0 1 f fd ["counts","kind"] sp_om:=by
 refine F.ok sc_om (fun vs H Q E h=>?_) (fun cdv A outer s H vs Q E hr h=>?_)
 ·obtain ⟨c,cs,k,rfl,_⟩:=h
  rfl
 obtain ⟨ka,c,t,rfl,hka,htc,l4,q⟩:=h
 refine ⟨_,(@c0 _ _ _ (f6 (@f8 _ _ _ _ _ _ _ _ catS (@f8 _ _ _ _ _ _ _ _ catS (@G6 _ _ _ _ _ _ _ _ _ _ slS (pv 0) po_none (L3 (pv 1))) (@u3 _ _ _ _ _ (@b5 _ _ _ _ _ (@f8 _ _ _ _ _ _ _ _ op_add (@j3 _ _ _ _ _ _ _ ix_tup (pv 0) (pv 1) (fun _ _=>rfl)) b9) pa_nil (by rfl)))) (@G6 _ _ _ _ _ _ _ _ _ _ slS (pv 0) (L3 (@f8 _ _ _ _ _ _ _ _ op_add (pv 1) b9)) po_none)))),?_⟩
 have l1:(c.map V.int).length=c.length:=by rw[List.length_map]
 refine ⟨_,rfl,_,rfl,(t:Int),rfl,ka,_,rfl,hka,fun p1 Ha ga hp1=>?_⟩
 refine ⟨_,rfl,_,rfl,ka,_,_,_,rfl,rfl,.of (ga _ _ hka),J5 htc,_,_,rfl,rfl,(by show 1<=sizeLine;decide),fun p2 hp2=>?_⟩
 have gb:Same Ha (b7 Ha p2 (.tup [.int (c.getD t 0+1)])):=Same.new hp2
 have hp2b:b7 Ha p2 (.tup [.int (c.getD t 0+1)]) p2=some (.tup [.int (c.getD t 0+1)]):=b6
 try dsimp only
 generalize b7 Ha p2 (.tup [.int (c.getD t 0+1)])=Hb at gb hp2b
 refine ⟨p1,p2,_,_,rfl,rfl,gb _ _ hp1,hp2b,?_,fun p3 Hc gc hp3=>?_⟩
 ·have:=A7 (c.map V.int) none (some (t:Int))
  rw[l1] at this
  simp only[List.length_cons,List.length_nil];lia
 refine ⟨_,rfl,_,rfl,_,_,rfl,rfl,((t:Int)+1),rfl,ka,_,rfl,(gb.trans gc) _ _ (ga _ _ hka),fun p4 Hd gd hp4'=>?_⟩
 refine ⟨p3,p4,_,_,rfl,rfl,gd _ _ hp3,hp4',?_,fun p5 He ge hp5=>?_⟩
 ·have h1:=A7 (c.map V.int) none (some (t:Int))
  have h2:=A7 (c.map V.int) (some ((t:Int)+1)) none
  rw[l1] at h1 h2
  rw[List.length_append]
  simp only[List.length_cons,List.length_nil];lia
 have ethere:D5 (c.map V.int) none (some (t:Int))++[V.int (c.getD t 0+1)]++D5 (c.map V.int) (some ((t:Int)+1)) none=(inc c t).map V.int:=by
  rw[W2 (by lia),show ((t:Int)+1)=((t+1:Nat):Int) by lia,W7 (by lia),inc_cut c t htc,List.map_append,List.map_append,List.map_take,List.map_drop];rfl
 rw[ethere] at hp5
 exact q p5 He ((((ga.trans gb).trans gc).trans gd).trans ge) hp5
noncomputable def sp_ncc:Sp:=fun vs H Q _=>∃(d a ga st:Addr) (v:V) (n k N E:Nat) (T:TabQ) (kvs:List (List Key × V)) (ns gs:List Int) (rs:List (List Int)),vs=[.ref d,.ref a,v,.ref ga]/\H d=some (.dT kvs)/\QE H T kvs/\KC ns rs n k T/\k<=5/\T.length<=1024/\AllQ N E T/\0<N/\N<=2 ^ 1600/\E<=2 ^ 60 /\
 H a=some (.tup (ns.map V.int))/\ns.length=n/\H ga=some (.tup (gs.map V.int))/\gs.length=n/\Dt st H (DR rs) v/\Mt.Rul n 5 rs/\1<=n/\n<=4 /\
 ∀p kvs' H',Kp d H H'->H p=none->H' p=some (.dT kvs')->QE H' (j6 ns rs gs T []) kvs'->Q (.ref p) H'
noncomputable abbrev s_ncc:Stmt:=u7 39
theorem sc_ncc:FnScope ["chances","urn","rule","goal","later","counts","so_far","now","kind","behind","part"] ["chances","urn","rule","goal"] (d5 s_ncc):=⟨rfl,rfl,rfl,by decide +kernel,rfl,by decide +kernel,by decide +kernel⟩
theorem a7p (F:Fun K "next_chances_by_counts" "next_chances_by_counts" s_ncc f fd) (B:Bt mg) (c1:Cal P w K mg base 1 "urn_by_counts" ["urn","rule","counts"] sp_ubc) (c2:Cal P w K mg base 1 "one_more" ["counts","kind"] sp_om) (c3:Cal P w K mg base 3 "times" ["one","other"] sp_times) (c4:Cal P w K mg base 3 "share" ["urn","kind"] sp_share) (c5:Cal P w K mg base 3 "plus" ["one","other"] sp_plus):FnOk P w K mg base CX0 4 f fd ["chances","urn","rule","goal"] sp_ncc:=by
 refine F.ok sc_ncc (fun vs H Q E h=>?_) (fun cdv A outer s H vs Q E hr h=>?_)
 ·obtain ⟨d,a,ga,st,v,n,k,N,E,T,kvs,ns,gs,rs,rfl,_⟩:=h
  rfl
 obtain ⟨d,a,ga,st,v,n,k,N,En,T,kvs,ns,gs,rs,rfl,hd,hQ,hK,hk5,hT,hE,hN0,hN,hEn,ha,hnl,hga,hgl,hv,hR,n1,n4,q⟩:=h
 refine ⟨_,(@b8 _ _ _ _ _ (@f9 _ _ 4 _ _ _ _ sc_ncc.nd rfl (Or.inl rfl) pe_dnewT (by rfl) (by first|exact .inl rfl|exact .inr rfl))
  (@b8 _ _ _ _ _ (B1 PassesOwn.never rfl (a5X (pv 0)) (a2e rfl (A5 (u5 (i:=5) sc_ncc.nd rfl (Or.inl rfl)) (A5 (u5 (i:=6) sc_ncc.nd rfl (Or.inl rfl)) pgs_nil)))
  (@b8 _ _ _ _ _ (@f9 _ _ 7 _ _ _ _ sc_ncc.nd rfl (Or.inl rfl) (d7 (c1.up (by decide)) hr rfl (@b5 _ _ _ _ _ (pv 1) (@b5 _ _ _ _ _ (pv 2) (@b5 _ _ _ _ _ (pv 5) pa_nil (by rfl)) (by rfl)) (by rfl))) (by rfl) (by first|exact .inl rfl|exact .inr rfl))
  (@c0 _ _ _ (B1 PassesOwn.never rfl (i9 rfl B.range (@b5 _ _ _ _ _ (d8 call_len_seq rfl B.len PySem.boot_len (@b5 _ _ _ _ _ (pv 1) pa_nil (by rfl))) pa_nil (by rfl))) (u5 (i:=8) sc_ncc.nd rfl (Or.inl rfl))
  (@c0 _ _ _ (t8 (@j9 _ _ _ _ _ _ _ _ op_lt (@j3 _ _ _ _ _ _ _ ix_tup (pv 5) (pv 8) (fun _ _=>rfl)) (@j3 _ _ _ _ _ _ _ ix_tup (pv 3) (pv 8) (fun _ _=>rfl)) (j4 _)) (@b8 _ _ _ _ _ (@f9 _ _ 9 _ _ _ _ sc_ncc.nd rfl (Or.inl rfl) (d7 (c2.up (by decide)) hr rfl (@b5 _ _ _ _ _ (pv 5) (@b5 _ _ _ _ _ (pv 8) pa_nil (by rfl)) (by rfl))) (by rfl) (by first|exact .inl rfl|exact .inr rfl))
  (@b8 _ _ _ _ _ (@f9 _ _ 10 _ _ _ _ sc_ncc.nd rfl (Or.inl rfl) (d7 c3 hr rfl (@b5 _ _ _ _ _ (pv 6) (@b5 _ _ _ _ _ (d7 c4 hr rfl (@b5 _ _ _ _ _ (pv 7) (@b5 _ _ _ _ _ (pv 8) pa_nil (by rfl)) (by rfl))) pa_nil (by rfl)) (by rfl))) (by rfl) (by first|exact .inl rfl|exact .inr rfl))
  (@c0 _ _ _ (a65 (Z2 hr) (pv 4) (pv 9) (d7 c5 hr rfl (@b5 _ _ _ _ _ (a5k (Z2 hr) (pv 4) (pv 9) (@u3 _ _ _ _ _ (@b5 _ _ _ _ _ b9 (@b5 _ _ _ _ _ b9 pa_nil (by rfl)) (by rfl))) ⟨rfl,rfl,rfl,rfl⟩) (@b5 _ _ _ _ _ (pv 10) pa_nil (by rfl)) (by rfl))) rfl)))) pss_nil))))))
  (@c0 _ _ _ (f6 (pv 4))))),?_⟩
 have hv0:=a4p hd hv
 intro lt hlt
 have nlt:d≠lt:=d6 hd hlt
 have ndt:∀(ps:List (List Key × V)) xs,HO.dT ps≠.tup xs:=fun _ _ z=>by cases z
 refine ⟨_,rfl,d,kvs,rfl,(by rw[d0 nlt];exact hd),fun o=>?_⟩
 have k0:Kp d H (b7 (b7 H lt (.dT [])) d (.frz o (.dT kvs))):=fun b u nb e=>by rw[d0 nb,d0 (d6 e hlt)];exact e
 refine a42 (o:=o) (fun i σ H2=>Kp d H H2/\H2 d=some (.frz o (.dT kvs))/\(∃ks,H2 lt=some (.dT ks)/\QE H2 (j6 ns rs gs (T.take i) []) ks)/\i<=T.length/\∃o5 o6 o7 o8 o9 oa,σ=[some (.ref d),some (.ref a),some v,some (.ref ga),some (.ref lt),o5,o6,o7,o8,o9,oa])
  ⟨k0,b6,⟨[],by rw[d0 nlt.symm,b6],trivial⟩,Nat.zero_le _,none,none,none,none,none,none,rfl⟩ (fun i σ H2 _ h=>h.2.1) (fun i kk x σ H2 p ka hx hp hka h=>?_) (fun σ H2 h=>?_)
 ·obtain ⟨k2,hd2,⟨ks2,hl2,hq2⟩,hi,o5,o6,o7,o8,o9,oa,rfl⟩:=h
  obtain ⟨um,hum,ek,xq,ex,hxq⟩:=hQ.get hx
  subst ek ex
  obtain ⟨c,mm⟩:=um
  simp only at hka hxq
  have hil:=(List.getElem?_eq_some_iff.mp hum).1
  have hkc:Cn ns rs n k c:=hK (c,mm) (List.mem_of_getElem? hum)
  have hmm:Vq N En mm:=hE (c,mm) (List.mem_of_getElem? hum)
  rw[a3C] at hka
  refine ⟨p,_,rfl,.of b6,rfl,_,_,rfl,_,_,rfl,rfl,?_⟩
  have g3:Same H2 (b7 H2 p (.tup [.ref ka,.ref xq])):=Same.new hp
  try dsimp -proj only[r6]
  generalize b7 H2 p (.tup [.ref ka,.ref xq])=H3 at g3
  have k3:Kp d H H3:=k2.trans (g3.kp d)
  have ha3:=O5 hd (ndt _) k3 _ _ ha
  have hga3:=O5 hd (ndt _) k3 _ _ hga
  refine ⟨_,rfl,_,rfl,_,rfl,a,ka,d,v,n,ns,c,rs,rfl,ha3,hnl,hv0.kp k3,hR,n4,hkc.len,g3 _ _ hka,(fun x hx=>by have:=hkc.nn x hx;lia),fun pn H4 g4 hpn=>?_⟩
  have k4:Kp d H H4:=k3.trans (g4.kp d)
  have hl4:=g4 _ _ (g3 _ _ hl2)
  have hd4:=g4 _ _ (g3 _ _ hd2)
  have ha4:=g4 _ _ ha3
  have hga4:=g4 _ _ hga3
  have hka4:H4 ka=some (.tup (c.map V.int)):=g4 _ _ (g3 _ _ hka)
  have hq4:QE H4 (j6 ns rs gs (T.take i) []) ks2:=hq2.mono fun a xs e=>g4 _ _ (g3 _ _ e)
  have hx4:H4 xq=some (.tup ((fr mm).map V.int)):=O5 hd (ndt _) k4 _ _ hxq
  obtain ⟨kk1,kk2,kk3,kk4⟩:=S0 (g:=gs) (D:=[]) (B:=0) hnl hR n4 (show k<=6 by lia) (T.take i) (fun q hq=>hK q (List.mem_of_mem_take hq)) (fun q hq=>hE q (List.mem_of_mem_take hq)) (fun p hp=>by simp at hp) (by unfold F7;simp) (fun p hp=>by simp at hp)
  have hti:(T.take i).length<=1024:=by rw[List.length_take];lia
  have hle:(j6 ns rs gs (T.take i) []).length<=4*1024:=Nat.le_trans kk4 (by rw[List.length_nil,Nat.zero_add];exact Nat.mul_le_mul n4 hti)
  have hU:=hkc.urn
  have hs0:=hU.pos
  have hs1:=a0h hU n4 (by lia)
  refine ⟨_,rfl,a,_,rfl,.inr (.of ha4),(n:Int),by rw[List.length_map,hnl],by lia,by lia,?_⟩
  refine K3 (lo:=0) (n:=n) (fun j σ H5=>Kp lt H4 H5/\(∃ks,H5 lt=some (.dT ks)/\QE H5 (u8 mm (n6 ns rs c).sum (C8 ns rs gs c j) (j6 ns rs gs (T.take i) [])) ks)/\j<=n/\∃o8 o9 oa,σ=[some (.ref d),some (.ref a),some v,some (.ref ga),some (.ref lt),some (.ref ka),some (.ref xq),some (.ref pn),o8,o9,oa])
   ⟨Kp.refl _ _,⟨ks2,hl4,hq4⟩,Nat.zero_le _,o8,o9,oa,rfl⟩ (fun j σ H5 hj h=>?_) (fun σ H5 h=>?_)
  ·obtain ⟨k5,⟨ks5,hl5,hq5⟩,hjn,o8,o9,oa,rfl⟩:=h
   have e0:(0:Int)+(j:Int)=(j:Int):=by lia
   rw[e0]
   have t45:=O5 hl4 (ndt _) k5
   have hx5:=t45 _ _ hx4
   have hka5:=t45 _ _ hka4
   have hga5:=t45 _ _ hga4
   have hpn5:=t45 _ _ hpn
   obtain ⟨pp1,pp2,pp3,pp4⟩:=V6 (k:=k+1) hmm hs0 hs1 (C8 ns rs gs c j) (a4t hnl hR hkc (by lia)) kk1 kk2 kk3
   have hjt:=a3j ns rs gs c j
   have hlen:(u8 mm (n6 ns rs c).sum (C8 ns rs gs c j) (j6 ns rs gs (T.take i) [])).length<=10000:=by lia
   refine ⟨_,rfl,_,rfl,ka,_,_,_,rfl,rfl,.of hka5,J5 (by rw[hkc.len];exact hj),_,rfl,_,rfl,ga,_,_,_,rfl,rfl,.of hga5,J5 (by rw[hgl];exact hj),_,_,rfl,rfl,_,rfl,?_⟩
   have hsu:=a5N ns rs gs c j
   by_cases hlt2:c.getD j 0<gs.getD j 0
   ·rw[decide_eq_true hlt2]
    rw[if_pos hlt2] at hsu
    refine u6 ?_
    have hsh:Mt.share (n6 ns rs c) j=cut ((n6 ns rs c).getD j 0) (n6 ns rs c).sum:=rfl
    have cv:Vq LL 1 (cut ((n6 ns rs c).getD j 0) (n6 ns rs c).sum):=a1C (hU.getD j).1 (N8 hU j) hs0 hs1
    have cb:Bd 12 (cut ((n6 ns rs c).getD j 0) (n6 ns rs c).sum):=Bd.cut hs0 (by have:=hU.getD j;show _<=4096;lia) (by show _<=4096;lia)
    have pv':Vq (N*LL) En (mm*cut ((n6 ns rs c).getD j 0) (n6 ns rs c).sum):=(hmm.mul cv).mono (by lia)
    have hNL:N*LL<=2 ^ 1900:=by
     have:(2:Nat) ^ 1900=2 ^ 1600*2 ^ 300:=by rw[<- Nat.pow_add]
     rw[this];exact Nat.mul_le_mul hN LL_le
    have hNL0:0<N*LL:=Nat.mul_pos hN0 LL_pos
    have big:∀X:Nat,X<=2 ^ 60*2 ^ 13->N*LL*X<=2 ^ 1973:=fun X hX=>by
     have:(2:Nat) ^ 1973=2 ^ 1900*(2 ^ 60*2 ^ 13):=by rw[<- Nat.pow_add,<- Nat.pow_add]
     rw[this];exact Nat.mul_le_mul hNL hX
    have hNL2:N*LL<=2 ^ 1973:=Nat.le_trans hNL (Nat.pow_le_pow_right (by decide) (by decide))
    have d1:Bd 1660 mm:=hmm.bd hN0 (by
     have:(2:Nat) ^ 1660=2 ^ 1600*2 ^ 60:=by rw[<- Nat.pow_add]
     rw[this];exact Nat.mul_le_mul hN hEn) (Nat.le_trans hN (Nat.pow_le_pow_right (by decide) (by decide)))
    have d2:Bd 1973 (mm*cut ((n6 ns rs c).getD j 0) (n6 ns rs c).sum):=pv'.bd hNL0 (big _ (Nat.le_trans hEn (Nat.le_mul_of_pos_right _ (by decide)))) hNL2
    have vv:=pp3.val (k:=inc c j)
    have d3:Bd 1973 (valQ (u8 mm (n6 ns rs c).sum (C8 ns rs gs c j) (j6 ns rs gs (T.take i) [])) (inc c j)):=vv.bd hNL0 (big _ (by
     have e1:0+En*(4*(T.take i).length)+En*(C8 ns rs gs c j).length<=En*(2 ^ 13):=by
      rw[Nat.zero_add,<- Nat.mul_add];exact Nat.mul_le_mul_left _ (by lia)
     exact Nat.le_trans e1 (Nat.mul_le_mul_right _ hEn))) hNL2
    refine ⟨_,rfl,_,rfl,ka,c,j,rfl,hka5,by rw[hkc.len];exact hj,by rw[hkc.len];exact n4,fun p6 H6 g6 hp6=>?_⟩
    refine ⟨_,rfl,_,rfl,_,rfl,pn,n,20+5*k,n6 ns rs c,j,rfl,g6 _ _ hpn5,hU,n4,by lia,hj,fun p7 H7 g7 hp7=>?_⟩
    refine ⟨xq,p7,mm,cut ((n6 ns rs c).getD j 0) (n6 ns rs c).sum,1660,12,rfl,g7 _ _ (g6 _ _ hx5),hp7,Rat.num_nonneg.mpr hmm.nn,Rat.num_nonneg.mpr cv.nn,d1,cb,by decide,fun p8 H8 g8 hp8=>?_⟩
    have g58:=(g6.trans g7).trans g8
    have hl8:=g58 _ _ hl5
    have hp6':H6 p6=some (.tup ((kI (inc c j)).map kV)):=by rw[a3C];exact hp6
    have hw8:=(g7.trans g8) _ _ hp6'
    refine ⟨_,rfl,lt,rfl,.inr ⟨_,.inl hl8⟩,_,rfl,(by show 2<=sizeLine;decide),fun p9 hp9=>?_⟩
    have g9:Same H8 (b7 H8 p9 (.tup [.int 0,.int 1])):=Same.new hp9
    have hz9:FrAt (b7 H8 p9 (.tup [.int 0,.int 1])) 0 (.ref p9):=⟨p9,rfl,b6⟩
    try dsimp -proj only
    generalize b7 H8 p9 (.tup [.int 0,.int 1])=H9 at g9 hz9
    have hl9:=g9 _ _ hl8
    have hw9:=g9 _ _ hw8
    have hq9:QE H9 (u8 mm (n6 ns rs c).sum (C8 ns rs gs c j) (j6 ns rs gs (T.take i) [])) ks5:=hq5.mono fun a xs e=>g9 _ _ (g58 _ _ e)
    obtain ⟨r9,er9,hr9⟩:=hq9.val (k:=inc c j) hz9
    refine ⟨_,DGet.t hl9 hw9,?_⟩
    rw[er9]
    refine ⟨_,rfl,r9,p8,_,mm*cut ((n6 ns rs c).getD j 0) (n6 ns rs c).sum,1973,1973,rfl,hr9,g9 _ _ hp8,Rat.num_nonneg.mpr vv.nn,Rat.num_nonneg.mpr pv'.nn,d3,d2,by decide,fun pa Ha gA hpa=>?_⟩
    have g5a:Same H5 Ha:=g58.trans (g9.trans gA)
    have hla:=gA _ _ hl9
    have hwa:=gA _ _ hw9
    have hqa:QE Ha (u8 mm (n6 ns rs c).sum (C8 ns rs gs c j) (j6 ns rs gs (T.take i) [])) ks5:=hq9.mono fun a xs e=>gA _ _ e
    refine ⟨_,rfl,_,rfl,lt,_,rfl,DPut.t hla hwa (by rw[hqa.len];exact a4o hlen),?_⟩
    have hqb:=hqa.put (k:=inc c j) (x:=mm*cut ((n6 ns rs c).getD j 0) (n6 ns rs c).sum) (v:=.ref pa) pp2 ⟨pa,rfl,hpa⟩
    have kb:Kp lt H4 (b7 Ha lt (.dT (G1 ks5 (kI (inc c j)) (.ref pa)))):=(k5.trans (g5a.kp lt)).trans Kp.at
    refine ⟨kb,⟨_,b6,?_⟩,by lia,_,_,_,rfl⟩
    rw[hsu,X6]
    exact hqb.mono (O5 hla (ndt _) Kp.at)
   ·rw[decide_eq_false hlt2]
    rw[if_neg hlt2] at hsu
    refine q5 ⟨k5,⟨ks5,hl5,by rw[hsu];exact hq5⟩,by lia,_,_,_,rfl⟩
  ·obtain ⟨k5,⟨ks5,hl5,hq5⟩,_,o8,o9,oa,rfl⟩:=h
   have hlt2:H lt=none:=hlt
   refine ⟨fun c o nc e=>k5 _ _ (d6 e hlt2) (k4 _ _ nc e),k5 _ _ nlt hd4,⟨ks5,hl5,?_⟩,hil,_,_,_,_,_,_,rfl⟩
   rw[List.take_add_one,hum]
   show QE H5 (j6 ns rs gs (T.take i++[(c,mm)]) []) ks5
   rw[U8,hnl]
   exact hq5
 ·obtain ⟨k2,hd2,⟨ks2,hl2,hq2⟩,_,o5,o6,o7,o8,o9,oa,rfl⟩:=h
  rw[hQ.len,List.take_length] at hq2
  exact ⟨_,rfl,q lt ks2 H2 k2 hlt hl2 hq2⟩
noncomputable def sp_cbc:Sp:=fun vs H Q _=>∃(a ga st:Addr) (v:V) (n k:Nat) (ns gs:List Int) (rs:List (List Int)),vs=[.ref a,v,.ref ga,.int k]/\H a=some (.tup (ns.map V.int))/\Mt.Urn n 20 ns/\H ga=some (.tup (gs.map V.int))/\gs.length=n/\Dt st H (DR rs) v/\Mt.Rul n 5 rs/\1<=n/\n<=4/\k<=6 /\
 ∀p kvs H',Same H H'->H p=none->H' p=some (.dT kvs)->QE H' (E5 ns rs gs k) kvs->Q (.ref p) H'
noncomputable abbrev s_cbc:Stmt:=u7 40
theorem sc_cbc:FnScope ["urn","rule","goal","draws","chances","turn"] ["urn","rule","goal","draws"] (d5 s_cbc):=⟨rfl,rfl,rfl,by decide +kernel,rfl,by decide +kernel,by decide +kernel⟩
theorem a7G (F:Fun K "chances_by_counts" "chances_by_counts" s_cbc f fd) (B:Bt mg) (c1:Cal P w K mg base 4 "next_chances_by_counts" ["chances","urn","rule","goal"] sp_ncc):FnOk P w K mg base CX0 5 f fd ["urn","rule","goal","draws"] sp_cbc:=by
 refine F.ok sc_cbc (fun vs H Q E h=>?_) (fun cdv A outer s H vs Q E hr h=>?_)
 ·obtain ⟨a,ga,st,v,n,k,ns,gs,rs,rfl,_⟩:=h
  rfl
 obtain ⟨a,ga,st,v,n,k,ns,gs,rs,rfl,ha,hU,hga,hgl,hv,hR,n1,n4,k6,q⟩:=h
 refine ⟨_,(@b8 _ _ _ _ _ (@f9 _ _ 4 _ _ _ _ sc_cbc.nd rfl (Or.inl rfl) (a7L (Z2 hr) (@f8 _ _ _ _ _ _ _ _ repS (@u3 _ _ _ _ _ (@b5 _ _ _ _ _ b9 pa_nil (by rfl))) (d8 call_len_seq rfl B.len PySem.boot_len (@b5 _ _ _ _ _ (pv 0) pa_nil (by rfl)))) (@u3 _ _ _ _ _ (@b5 _ _ _ _ _ b9 (@b5 _ _ _ _ _ b9 pa_nil (by rfl)) (by rfl)))) (by rfl) (by first|exact .inl rfl|exact .inr rfl))
  (@b8 _ _ _ _ _ (B1 PassesOwn.never rfl (i9 rfl B.range (@b5 _ _ _ _ _ (pv 3) pa_nil (by rfl))) (u5 (i:=5) sc_cbc.nd rfl (Or.inl rfl))
  (@c0 _ _ _ (@f9 _ _ 4 _ _ _ _ sc_cbc.nd rfl (Or.inl rfl) (d7 c1 hr rfl (@b5 _ _ _ _ _ (pv 4) (@b5 _ _ _ _ _ (pv 0) (@b5 _ _ _ _ _ (pv 1) (@b5 _ _ _ _ _ (pv 2) pa_nil (by rfl)) (by rfl)) (by rfl)) (by rfl))) (by rfl) (by first|exact .inl rfl|exact .inr rfl))))
  (@c0 _ _ _ (f6 (pv 4))))),?_⟩
 intro p hp
 have g1:Same H (b7 H p (.dT [])):=Same.new hp
 have hp1:b7 H p (.dT []) p=some (.dT []):=b6
 generalize b7 H p (.dT [])=H1 at g1 hp1
 refine ⟨(by show 1<=sizeLine;decide),fun z0 hz0=>?_⟩
 have g2:Same H1 (b7 H1 z0 (.tup [.int 0])):=Same.new hz0
 have hz2:b7 H1 z0 (.tup [.int 0]) z0=some (.tup [.int 0]):=b6
 try dsimp -proj only
 generalize b7 H1 z0 (.tup [.int 0])=H2 at g2 hz2
 refine ⟨_,rfl,a,_,rfl,.inr (.of ((g1.trans g2) _ _ ha)),z0,.int 0,n,rfl,(by rw[List.length_map,hU.len]),hz2,n1,n4,fun b H3 g3 hb=>⟨(by show 2<=sizeLine;decide),fun c hc=>?_⟩⟩
 have g4:Same H3 (b7 H3 c (.tup [.int 1,.int 1])):=Same.new hc
 have hc4:b7 H3 c (.tup [.int 1,.int 1]) c=some (.tup [.int 1,.int 1]):=b6
 try dsimp -proj only
 generalize b7 H3 c (.tup [.int 1,.int 1])=H4 at g4 hc4
 have hp4:=g4 _ _ (g3 _ _ (g2 _ _ hp1))
 have hb4:H4 b=some (.tup ((kI (List.replicate n 0)).map kV)):=by
  rw[a3C,List.map_replicate];exact g4 _ _ hb
 have gg:Same H H4:=((g1.trans g2).trans g3).trans g4
 have ndt:∀(ps:List (List Key × V)) xs,HO.dT ps≠.tup xs:=fun _ _ z=>by cases z
 refine ⟨hp4,b,kI (List.replicate n 0),rfl,hb4,?_⟩
 have wo:=fun j hj=>a3K gs hR n4 hU j hj
 refine ⟨_,rfl,(k:Int),rfl,by lia,by lia,?_⟩
 refine K3 (lo:=0) (n:=k) (fun j σ H3=>Same H H3/\j<=k/\∃p kvs o5,H p=none/\H3 p=some (.dT kvs)/\QE H3 (E5 ns rs gs j) kvs/\σ=[some (.ref a),some v,some (.ref ga),some (.int k),some (.ref p),o5])
  ⟨fun c o e=>by rw[d0 (d6 e hp)];exact gg _ _ e,Nat.zero_le _,p,_,none,hp,b6,⟨by rw[hU.len],⟨c,rfl,O5 hp4 (ndt _) Kp.at _ _ hc4⟩,trivial⟩,rfl⟩ (fun j σ H3 hj h=>?_) (fun σ H3 h=>?_)
 ·obtain ⟨g3,hjk,p,kvs,o5,hpn,hp3,hq3,rfl⟩:=h
  obtain ⟨w1,w2,w3,w4⟩:=wo j (by lia)
  have hl:(E5 ns rs gs j).length<=1024:=Nat.le_trans w4 (Nat.pow_le_pow_right (n:=4) (by decide) (show j<=5 by lia))
  have hj5:j<=5:=by lia
  have e1:LL ^ j<=2 ^ 1600:=Nat.le_trans (a4Q j) (Nat.pow_le_pow_right (by decide) (by lia))
  have e2:4 ^ (j*j)<=2 ^ 60:=by
   have:j*j<=5*5:=Nat.mul_le_mul hj5 hj5
   exact Nat.le_trans (Nat.pow_le_pow_right (by decide) this) (by decide)
  refine ⟨_,rfl,_,rfl,_,rfl,_,rfl,p,a,ga,st,v,n,j,LL ^ j,4 ^ (j*j),_,kvs,ns,gs,rs,rfl,hp3,hq3,w1,hj5,hl,w3,a2s j,e1,e2,g3 _ _ ha,hU.len,g3 _ _ hga,hgl,hv.kp (g3.kp st),hR,n1,n4,fun p' kvs' H4 k4 hp' h4 hq4=>?_⟩
  have g4:Same H H4:=fun c o e=>k4 _ _ (d6 e hpn) (g3 _ _ e)
  exact ⟨g4,by lia,p',kvs',_,g3.free hp',h4,hq4,rfl⟩
 ·obtain ⟨g3,_,p,kvs,o5,hpn,hp3,hq3,rfl⟩:=h
  exact ⟨_,rfl,q p kvs H3 g3 hpn hp3 hq3⟩
end
end G
namespace L2
open PySem PySem.Spec PyProof.Rows
section
variable {prog:Program}{w:World}{A:Around}{E:Value->Shared->Prop}{s:Shared}
end
section
variable {X:Cx}{pins:List (Addr × Obj)}{σ:St}{H:Hp}{s:Shared}
end
end L2
namespace L2
open PySem PySem.Spec PyProof.Rows
section
variable {X:Cx}{K:W.Frag}
end
end L2
namespace L2
open PySem PySem.Spec PyProof.Rows PySem.SeqAt
section
variable {X:Cx}{K:W.Frag}
end
end L2
namespace L2
open PySem PySem.Spec PyProof.Rows
section
variable {prog:Program}{w:World}{A:Around}{E:Value->Shared->Prop}{s:Shared}
structure ZipLL (h:Heap) (z TI TO i1 i2 t1 t2:Addr) (k:Nat):Prop where
 zz:IsZip h z TI TO .none
 ti:IsPair h TI (.ref i1) (.ref i2)
 tO:∃a b,IsPair h TO a b
 it1:h.IsListIter i1 t1 k
 it2:h.IsListIter i2 t2 k
end
section
variable {X:Cx}{pins:List (Addr × Obj)}{σ:St}{H:Hp}{s:Shared}
end
section
variable {X:Cx}{K:W.Frag}
end
section
variable {X:Cx}{K:W.Frag}
end
end L2
namespace L2
open PySem PySem.Spec PyProof.Rows
section
variable {X:Cx}
end
end L2
namespace L2
open PySem PySem.Spec PyProof.Rows PySem.SeqAt
noncomputable def NoD (o:Obj):Prop:=o.cls=.type "tuple"/\o.dict=none
noncomputable def TupN (H:Hp) (a:Addr) (xs:List V):Prop:=∃o,NoD o/\H a=some (.frz o (.tup xs))
theorem TupN.sq {K:W.Frag}{H:Hp}{a:Addr}{xs:List V} (h:TupN H a xs):SqT K H a xs:=let ⟨o,_,e⟩:=h;.inl (.inr ⟨o,e⟩)
theorem TupN.same {H H':Hp}{a:Addr}{xs:List V} (h:TupN H a xs) (g:Same H H'):TupN H' a xs:=let ⟨o,n,e⟩:=h;⟨o,n,g _ _ e⟩
section
variable {X:Cx}{K:W.Frag}
noncomputable def a6c (t:TA):TE:=fun σ H Q=>t σ H fun xs H1=>xs.length<=sizeLine/\∀p o,H1 p=none->NoD o->Q (.ref p) (b7 H1 p (.frz o (.tup xs)))
theorem a3b {es:List Expr}{t:TA}{pos:Pos}{x1} (h:PA X es t):PE X (.Tuple es x1 pos) (a6c t):=by
 intro pins s σ H Q I hq
 refine wpAny_Tuple_spliced (f7 (h pos pins s σ H _ I hq) fun us s1 ⟨xs,H1,I1,r,z,q⟩=>⟨by rw[<- r.length];exact z,?_⟩)
 have hf:H1 s1.heap.objs.size=none:=I1.hok.fresh (Nat.le_refl _)
 refine ⟨.ref s1.heap.objs.size,b7 H1 s1.heap.objs.size (.frz _ (.tup xs)),I1.laid (t':=s1.toks) (fun b u e=>Heap.get?_push_of_some _ e) (Nat.le_refl _) ?_,rfl,q _ { cls:=.type "tuple",data:=.seq us.toArray } hf ⟨rfl,rfl⟩⟩
 exact ⟨Heap.get?_push_size _ rfl,z,us,r,⟨_,Heap.get?_push_size _ rfl,rfl,_,rfl⟩⟩
noncomputable def a8L (K:W.Frag):R2:=fun x y H Q=>∃(a b:Addr) (xs ys:List V),x=.ref a/\y=.ref b/\SqT K H a xs/\TupN H b ys/\ys≠[]/\xs.length+ys.length<=sizeLine/\(xs=[]->Q (.ref b) H)/\(xs≠[]->∀p o,H p=none->NoD o->Q (.ref p) (b7 H p (.frz o (.tup (xs++ys)))))
theorem catN:v8 X (binaryOp .Add) (a8L X.K):=by
 intro pins s σ H x y v u Q I rx ry h
 obtain ⟨a,b,xs,ys,rfl,rfl,ha,hb,hy,hz,q0,q1⟩:=h
 by_cases hx:xs=[]
 ·exact op_catA pins s σ H _ _ v u Q I rx ry ⟨a,b,xs,ys,rfl,rfl,ha,hb.sq,hz,q0,fun z=>absurd hx z,fun z=>absurd hx z⟩
 ·cases rx
  cases ry
  obtain ⟨its,r1,p1,_⟩:=I.tuple ha
  obtain ⟨its2,r2,p2,_⟩:=I.tuple hb.sq
  refine HT.cat_tup p1 p2 (fun z=>hx (r1.nil_iff.mp z)) (fun z=>absurd (r2.nil_iff.mp z) hy) (fun z=>?_) (by rw[<- r1.length,<- r2.length];exact hz)
  refine ⟨.ref s.heap.objs.size,_,I.laid (t':=s.toks) (o:=.frz _ (.tup (xs++ys))) (fun b ob q=>Heap.get?_push_of_some _ q) (Nat.le_refl _) ?_,rfl,q1 hx _ { cls:=.type "tuple",data:=.seq (its++its2).toArray } (I.hok.fresh (Nat.le_refl _)) ⟨rfl,rfl⟩⟩
  exact ⟨Heap.get?_push_size _ rfl,by rw[List.length_append];exact hz,_,r1.append r2,IsTup.new _ _⟩
noncomputable def a9r (r:V->List V->Hp->VK->Prop) (to:TE) (t:TA):TE:=fun σ H Q=>to σ H fun x H1=>(∃p xs,x=.ref p/\TupN H1 p xs)/\t σ H1 fun xs H2=>r x xs H2 Q
theorem a8c {o e:Expr}{es:List Expr}{to:TE}{t:TA}{name:Str}{apos cpos:Pos}{id:String}{r:V->List V->Hp->VK->Prop} (slot:Slot "tuple" name id) (hty:typeOf (.builtin id)=pure (.type "method_descriptor")) (hm:MtR X id r) (ho:PE X o to) (ha:PA X (e::es) t)
  (hbase:attributeBase o name X.env (eval o X.env)=eval o X.env:=by rfl)
  (hfew:((backTo cpos (starEach (e::es) X.env)).all (fun x=>!x.1)&&(backToKw cpos (keywordEach [] X.env)).all (fun x=>x.1.isSome)
   && decide ((e::es).length+([]:List Keyword).length+(if ([]:List Keyword).isEmpty then 0 else 1)<30))=true:=by rfl)
  (hline:(apos.endLine == cpos.line)=true:=by rfl) (hs:starEach (e::es) X.env=(false,eval e X.env)::starEach es X.env:=by rfl) (hplain:(backTo cpos (starEach es X.env)).any (·.1)=false:=by rfl):
  PE X (.Call (.Attribute o name apos) (e::es) [] cpos) (a9r r to t):=by
 intro pins s σ H Q I h
 refine wpAny_Call_method_late hbase hfew hline rfl (f7 (ho pins s σ H _ I h) fun v s1 ⟨x,H1,I1,r1,⟨p,xs,ex,ob,nd,hp⟩,q1⟩=>?_)
 subst ex
 cases r1
 obtain ⟨hg,_⟩:=(show ObjOk X.prog X.w H1 s1.heap p (.frz ob (.tup xs)) from I1.hok p _ hp)
 refine ⟨"tuple",id,PySem.F.plainAttrs_tuple,slot,hty,⟨ob,hg,nd.1⟩,fun a e=>by cases e;exact ⟨ob,hg,nd.2⟩,?_⟩
 have hA:=ha cpos pins s1 σ H1 _ I1 q1
 rw[hs] at hA ⊢
 refine Calls.callWith_builtin (by show (false || (backTo cpos (starEach es X.env)).any (·.1))=false;rw[hplain] <;> rfl) (Calls.evalArgs_plain ?_)
 exact f7 hA fun us s2 ⟨vs,H2,I2,r2,q2⟩=>hm pins s2 σ H2 (.ref p) vs (.ref p) us Q I2 rfl r2 q2
end
end L2
namespace L2
open PySem PySem.Spec PyProof.Rows PySem.SeqAt
section
variable {X:Cx}{K:W.Frag}
noncomputable def a1r (K:W.Frag):R2:=fun x y H Q=>∃(a b:Addr) (xs ys:List V),x=.ref a/\y=.ref b/\SqT K H a xs/\TupN H b ys/\ys≠[]/\xs.length+ys.length<=1000/\∀p H',Same H H'->TupN H' p (xs++ys)->Q (.ref p) H'
theorem catNS:v8 X (binaryOp .Add) (a1r X.K):=by
 intro pins s σ H x y v u Q I rx ry h
 obtain ⟨a,b,xs,ys,rfl,rfl,ha,hb,hy,hz,q⟩:=h
 refine catN pins s σ H _ _ v u Q I rx ry ⟨a,b,xs,ys,rfl,rfl,ha,hb,hy,Nat.le_trans hz (by decide),fun e=>?_,fun e p o hp nd=>?_⟩
 ·subst e
  exact q b H (Same.refl H) hb
 ·exact q p _ (Same.new hp) ⟨o,nd,b6⟩
end
noncomputable def KTn (H H':Hp):Prop:=(∀a xs,H a=some (.tup xs)->H' a=some (.tup xs))/\∀a o xs,H a=some (.frz o (.tup xs))->H' a=some (.frz o (.tup xs))
theorem KTn.same {H H':Hp} (g:Same H H'):KTn H H':=⟨fun a xs e=>g _ _ e,fun a o xs e=>g _ _ e⟩
theorem KTn.kp {l:Addr}{H H':Hp}{zs:List V} (hl:H l=some (.lst zs)) (k:Kp l H H'):KTn H H' :=
 ⟨fun a xs e=>k a _ (fun z=>by rw[z,hl] at e;cases e) e,fun a o xs e=>k a _ (fun z=>by rw[z,hl] at e;cases e) e⟩
theorem KTn.trans {H H' H'':Hp} (g:KTn H H') (g':KTn H' H''):KTn H H'':=⟨fun a xs e=>g'.1 _ _ (g.1 _ _ e),fun a o xs e=>g'.2 _ _ _ (g.2 _ _ _ e)⟩
theorem TupN.kt {H H':Hp}{a:Addr}{xs:List V} (h:TupN H a xs) (g:KTn H H'):TupN H' a xs:=let ⟨o,n,e⟩:=h;⟨o,n,g.2 _ _ _ e⟩
end L2
namespace L2
open PySem PySem.Spec PyProof.Rows PySem.SeqAt
section
variable {X:Cx}{K:W.Frag}
theorem call_isiN:w5 X (.builtin "isinstance") (fun xs H Q=>∃(a:Addr) (ys:List V),xs=[.ref a,.ty "tuple"]/\TupN H a ys/\Q (.bl true) H):=by
 intro pins s σ H xs us Q I r h
 obtain ⟨a,ys,rfl,⟨o,nd,e⟩,q⟩:=h
 cases r with
 | cons r1 rr =>
  cases rr with
  | cons r2 rr =>
   cases rr
   cases r2
   cases r1
   obtain ⟨hg,_⟩:=(show ObjOk X.prog X.w H s.heap a (.frz o (.tup ys)) from I.hok a _ e)
   exact W.kia_one W.kitx_tuple I.kIn ⟨o,hg,nd.1⟩ (a0l X.K (.tuple [])) (fun z=>nomatch z) (fun tk=>⟨.bl true,H,I.tok tk,rfl,q⟩)
theorem call_tupN:w5 X (.type "tuple") (fun xs H Q=>∃(p:Addr) (ys:List V),xs=[.ref p]/\SqL X.K H p ys/\∀l H',Same H H'->TupN H' l ys->Q (.ref l) H'):=by
 intro pins s σ H xs us Q I r h
 obtain ⟨p,ys,rfl,hq,q⟩:=h
 obtain ⟨u,rfl,rx⟩:=E1 r
 cases rx
 obtain ⟨its,r',pl,hz⟩:=I.list hq
 have hlen:=r'.length
 refine call_tuple_list pl.isList (fun h' kp=>?_) (by simp only[List.size_toArray] <;> lia)
 have I1:Inv X pins σ H { s with heap:=h' }:=I.kept (t':=s.toks) kp
 have hf:H h'.objs.size=none:=I1.hok.fresh (Nat.le_refl _)
 refine ⟨.ref h'.objs.size,b7 H h'.objs.size (.frz { cls:=.type "tuple",data:=.seq its.toArray } (.tup ys)),I1.laid (t':=s.toks) (fun b o e=>Heap.get?_push_of_some _ e) (Nat.le_refl _) ?_,rfl,q _ _ (Same.new hf) ⟨_,⟨rfl,rfl⟩,b6⟩⟩
 exact ⟨Heap.get?_push_size _ rfl,hz,its,r',IsTup.new _ _⟩
noncomputable def a6e (K:W.Frag):V->List V->Hp->VK->Prop:=fun x vs H Q=>∃(t:Addr) (ns:List Int) (k:Int),x=.ref t/\vs=[.int k]/\SqT K H t (ns.map V.int)/\Q (.int (ns.count k:Nat)) H
theorem U9 {k:Int}:∀{ns:List Int}{its:List Value},Vals (ns.map V.int) its->its.countP (fun y=>match y with | .int i _=>i == k|_=>false)=ns.count k
 | [],its,r=>by cases r;rfl
 | n::ns,its,r=>by
  cases r with
  | cons r1 rr =>
   obtain ⟨tk,rfl⟩:=r1
   rw[List.countP_cons,List.count_cons,U9 rr]
theorem mtN_count:MtR X "tuple.count" (a6e X.K):=by
 intro pins s σ H x vs v us Q I rx rv h
 obtain ⟨t,ns,k,rfl,rfl,hH,q⟩:=h
 cases rx
 obtain ⟨u,rfl,ru⟩:=rv.one
 obtain ⟨tk,rfl⟩:=ru
 obtain ⟨its,r,p,z⟩:=I.tuple hH
 obtain ⟨o,ho,hc,n,hd⟩:=p
 have hlen:=r.length
 rw[List.length_map] at hlen
 obtain ⟨cl,dd,dt,sl⟩:=o
 simp only at hc hd
 subst hc hd
 refine call_meets F.slot_tuple_count ⟨_,ho,rfl⟩ F.entry_tuple_count (F.args_tuple_count_2 _ _)
  (tuple_countAt t its.toArray n dd sl (.int k tk) (fun y=>match y with | .int i _=>i == k|_=>false)) ⟨ho,fun y hy=>?_,?_⟩
 ·obtain ⟨m,hm,rfl⟩:=Array.mem_iff_getElem.mp hy
  have hm':m<ns.length:=by rw[hlen];simpa using hm
  obtain ⟨u,hu,ru⟩:=r.get (i:=m) (x:=.int (ns.getD m 0)) (by rw[List.getElem?_map,List.getElem?_eq_getElem hm',List.getD_eq_getElem?_getD,List.getElem?_eq_getElem hm'];rfl)
  obtain ⟨tk',rfl⟩:=ru
  have e:=(List.getElem?_eq_some_iff.mp hu).2
  have e':its.toArray[m]=.int (ns.getD m 0) tk':=by simpa using e
  rw[e']
  exact SeqAt.EqAt.int_int _ _ _ _
 ·have e:(its.toArray.toList.countP fun y=>match y with | .int i _=>i == k|_=>false)=ns.count k:=U9 r
  rw[e]
  exact ⟨.int (ns.count k:Nat),H,I.tok _,⟨_,rfl⟩,q⟩
theorem a84 (h:X.K=K):MtR X "tuple.count" (a6e K):=by subst h;exact mtN_count
end
end L2
namespace G
open PySem PySem.Spec PyProof.Rows L2 Mt
structure CtD (mg:Str->Option Value):Prop where
 draws:∃t,mg "MOST_DRAWS"=some (.int 20 t)
theorem a8w {P:Program}{w:World}{K:W.Frag}{mg:Str->Option Value}{base:Heap}{CX:CXT}{k:Nat}{f:Addr}{fd:FuncData}{ps:List Str}{s1 s2:Sp} (a:FnOk P w K mg base CX k f fd ps s1) (b:FnOk P w K mg base CX k f fd ps s2):
  FnOk P w K mg base CX k f fd ps (fun vs H Q E=>s1 vs H Q E ∨ s2 vs H Q E):=
 ⟨fun vs H Q E h=>h.elim (a.len vs H Q E) (b.len vs H Q E),fun A outer s H args us vs Q E hr he hb hv h=>h.elim (a.run A outer s H args us vs Q E hr he hb hv) (b.run A outer s H args us vs Q E hr he hb hv)⟩
noncomputable def O3 (n:Nat) (d:PyData):Bool:=r0 0 ((n:Int) - 1) d&&decide (lenD d<=20)
noncomputable def kI (ks:List Nat):List Int:=ks.map fun (k:Nat)=>(k:Int)
theorem F1 (ks:List Nat):(kI ks).length=ks.length:=by unfold kI;rw[List.length_map]
theorem a4a {n:Nat}{ks:List Nat} (hl:ks.length<=20) (hk:∀k∈ks,k<n):O3 n (DI (kI ks))=true:=by
 unfold O3
 rw[B6,F1,decide_eq_true hl,Bool.and_true]
 show ((kI ks).map PyData.int).all (w6 0 ((n:Int) - 1))=true
 rw[List.all_map]
 refine List.all_eq_true.mpr fun x hx=>?_
 obtain ⟨k,hk1,e⟩:=List.mem_map.mp hx
 have:=hk k hk1
 show (decide ((0:Int)<=x)&&decide (x<=(n:Int) - 1))=true
 rw[decide_eq_true (show (0:Int)<=x by lia),decide_eq_true (show x<=(n:Int) - 1 by lia)];rfl
theorem a2S {ks:List Nat}{i:Nat} (h:i<ks.length):((kI ks).map V.int)[i]?=some (.int ((ks[i]:Nat):Int)):=by
 unfold kI
 rw[List.getElem?_map,List.getElem?_map,List.getElem?_eq_getElem h];rfl
section
variable {P:Program}{w:World}{K:W.Frag}{mg:Str->Option Value}{base:Heap}{f:Addr}{fd:FuncData}{ec:Nat->Addr}{Bs:Addr}
noncomputable def R0 (ec:Nat->Addr):Sp:=fun vs H Q E=>∃(a st:Addr) (xs:List V) (v:V) (d:PyData),vs=[.ref a,v]/\H a=some (.tup xs)/\Dt st H d v/\E4 d/\(O3 xs.length d=true->∀H',Same H H'->Q .non H')/\(O3 xs.length d=false->∀H',Same H H'->E (.ref (ec 4)) none H')
noncomputable abbrev s_need_draws:Stmt:=u7 26
theorem sc_need_draws:FnScope ["urn","thing"] ["urn","thing"] (d5 s_need_draws):=⟨rfl,rfl,rfl,by decide +kernel,rfl,by decide +kernel,by decide +kernel⟩
theorem a0S (F:Fun K "need_draws" "need_draws" s_need_draws f fd) (B:Bt mg) (C:CtD mg) (R:Errs K mg ec Bs) (c1:Cal P w K mg base 2 "are_wholes" ["thing","low","high"] sp_are_wholes):FnOk P w K mg base (A9 P w) 3 f fd ["urn","thing"] (R0 ec):=by
 refine F.okX sc_need_draws (fun vs H Q E h=>?_) (fun cdv A outer s H vs Q E hr h=>?_)
 ·obtain ⟨a,st,xs,v,d,rfl,_⟩:=h
  rfl
 obtain ⟨a,st,xs,v,d,rfl,ha,hd,hs,q1,q2⟩:=h
 obtain ⟨td,hD⟩:=C.draws
 refine ⟨_,c0 (t8 (PW.pt (M9 (D6 (C4 (d7 c1 hr rfl (b5 (pv 1) (b5 b9 (b5 (f8 op_sub (d8 call_len_seq rfl B.len PySem.boot_len (b5 (pv 0) pa_nil)) b9) pa_nil))))))
  (O9 (j9 op_gt (d8 call_len_seq rfl B.len PySem.boot_len (b5 (pv 1) pa_nil)) (J3 (v:=.int 20) rfl hD ⟨td,rfl⟩) (j4 _))))) (c0 (J8 R.e4 (R.xc 4 (by decide)) a04 (fun σ H Q Q' m q=>m _ _ q))) pss_nil),?_⟩
 refine ⟨_,rfl,_,rfl,a,_,rfl,.inr (.of ha),_,_,rfl,rfl,_,st,d,0,_,rfl,hd,hs,fun H1 g1=>⟨_,rfl,?_⟩⟩
 unfold O3 at q1 q2
 cases hw:r0 0 ((xs.length:Int) - 1) d with
 | false =>
  rw[hw,Bool.false_and] at q2
  exact u6 (u6 (q2 rfl H1 g1))
 | true =>
  rw[hw,Bool.true_and] at q1 q2
  obtain ⟨ns,e,_⟩:=F9 hw
  subst e
  obtain ⟨b,e,_,hb⟩:=hd.di
  subst e
  rw[B6] at q1 q2
  refine q5 ⟨_,rfl,b,_,rfl,.inr (.of (g1 _ _ hb)),_,_,rfl,rfl,_,rfl,?_⟩
  rw[List.length_map]
  by_cases hl:ns.length<=20
  ·rw[decide_eq_false (show ¬ (20:Int)<(ns.length:Int) by lia)]
   exact q5 (q1 (decide_eq_true hl) H1 g1)
  ·rw[decide_eq_true (show (20:Int)<(ns.length:Int) by lia)]
   exact u6 (q2 (decide_eq_false hl) H1 g1)
noncomputable def sp_awN:Sp:=fun vs H Q _=>∃(a:Addr) (ks:List Nat) (n:Nat),vs=[.ref a,.int 0,.int ((n:Int) - 1)]/\TupN H a ((kI ks).map V.int)/\(∀k∈ks,k<n)/\ks.length<=20/\∀H',Same H H'->Q (.bl true) H'
theorem a7x (F:Fun K "are_wholes" "are_wholes" s_are_wholes f fd) (B:Bt mg) (c1:Cal P w K mg base 1 "is_whole" ["thing","low","high"] sp_is_whole):FnOk P w K mg base CX0 2 f fd ["thing","low","high"] sp_awN:=by
 refine F.ok sc_are_wholes (fun vs H Q E h=>?_) (fun cdv A outer s H vs Q E hr h=>?_)
 ·obtain ⟨a,ks,n,rfl,_⟩:=h
  rfl
 obtain ⟨a,ks,n,rfl,hT,hk,hl,q⟩:=h
 refine ⟨_,c0 (f6 (P0 (d8 call_isiN rfl B.isinstance boot_isinstance (b5 (pv 0) (b5 (R9 rfl B.tuple boot_tuple) pa_nil)))
  (P2 (d8 (M3 rfl) rfl B.all boot_all (b5 (m6 (N:=["part","low","high"]) (ix:=[none,some 1,some 2]) (ifs:=[]) (tc:=tTrue) rfl (R4 (pv 0))
   (fun s H ex=>v0 (i:=0) (by decide +kernel) rfl (Or.inl rfl) (.inr rfl)) (fun s H ex=>pifs_nil) (fun s H ex=>d7 c1 hr rfl (b5 (pv 0) (b5 (pv 1) (b5 (pv 2) pa_nil)))) rfl (by decide +kernel) (by rfl) (by rfl) (fun _=>rfl)) pa_nil))))),?_⟩
 refine ⟨_,rfl,a,_,rfl,hT,_,rfl,u6 ?_⟩
 have xl:((kI ks).map V.int).length=ks.length:=by rw[List.length_map,F1]
 refine ⟨_,rfl,a,rfl,⟨_,hT.sq⟩,Z4 (K:=K) (a:=a) (xs:=(kI ks).map V.int) (sz (by lia)) (fun i ys H2=>Same H H2/\i<=ks.length/\ys=List.replicate i (.bl true)) ⟨Same.refl H,Nat.zero_le _,rfl⟩ (fun i ys H2 h=>?_) (fun i ys H2 _ h=>(hT.same h.1).sq) rfl (fun i ys H2 x hx h=>?_) (fun ys H2 h=>?_)⟩
 ·rw[h.2.2,List.length_replicate]
 ·obtain ⟨hS,hil,rfl⟩:=h
  have hik:i<ks.length:=by rw[<- xl];exact (List.getElem?_eq_some_iff.mp hx).1
  rw[a2S hik] at hx
  injection hx with hx
  subst hx
  refine ⟨_,rfl,_,rfl,_,rfl,_,0,.int ((ks[i]:Nat):Int),0,_,rfl,Dt.int _ _ _,hS,hik,?_⟩
  have:=hk _ (List.getElem_mem hik)
  have e:w6 0 ((n:Int) - 1) (.int ((ks[i]:Nat):Int))=true:=by
   show (decide ((0:Int)<=((ks[i]:Nat):Int))&&decide (((ks[i]:Nat):Int)<=(n:Int) - 1))=true
   rw[decide_eq_true (by lia),decide_eq_true (by lia)];rfl
  rw[e,List.replicate_succ']
 ·obtain ⟨hS,hil,rfl⟩:=h
  intro p hp
  have rt:(List.replicate ((kI ks).map V.int).length (V.bl true)).all truV=true:=List.all_eq_true.mpr fun y hy=>by rw[List.eq_of_mem_replicate hy];rfl
  refine ⟨p,_,rfl,.inl (.of b6),List.all_eq_true.mpr fun y hy=>by rw[List.eq_of_mem_replicate hy];rfl,?_⟩
  rw[rt]
  exact q _ (hS.trans (Same.new hp))
noncomputable def sp_ndN:Sp:=fun vs H Q _=>∃(a d:Addr) (xs:List V) (ks:List Nat),vs=[.ref a,.ref d]/\H a=some (.tup xs)/\TupN H d ((kI ks).map V.int)/\(∀k∈ks,k<xs.length)/\ks.length<=20/\∀H',Same H H'->Q .non H'
theorem a7y (F:Fun K "need_draws" "need_draws" s_need_draws f fd) (B:Bt mg) (C:CtD mg) (R:Errs K mg ec Bs) (c1:Cal P w K mg base 2 "are_wholes" ["thing","low","high"] sp_awN):FnOk P w K mg base (A9 P w) 3 f fd ["urn","thing"] sp_ndN:=by
 refine F.okX sc_need_draws (fun vs H Q E h=>?_) (fun cdv A outer s H vs Q E hr h=>?_)
 ·obtain ⟨a,d,xs,ks,rfl,_⟩:=h
  rfl
 obtain ⟨a,d,xs,ks,rfl,ha,hT,hk,hl,q⟩:=h
 obtain ⟨td,hD⟩:=C.draws
 refine ⟨_,c0 (t8 (PW.pt (M9 (D6 (C4 (d7 c1 hr rfl (b5 (pv 1) (b5 b9 (b5 (f8 op_sub (d8 call_len_seq rfl B.len PySem.boot_len (b5 (pv 0) pa_nil)) b9) pa_nil))))))
  (O9 (j9 op_gt (d8 call_len_seq rfl B.len PySem.boot_len (b5 (pv 1) pa_nil)) (J3 (v:=.int 20) rfl hD ⟨td,rfl⟩) (j4 _))))) (c0 (J8 R.e4 (R.xc 4 (by decide)) a04 (fun σ H Q Q' m q=>m _ _ q))) pss_nil),?_⟩
 refine ⟨_,rfl,_,rfl,a,_,rfl,.inr (.of ha),_,_,rfl,rfl,d,ks,xs.length,rfl,hT,hk,hl,fun H1 g1=>⟨_,rfl,q5 ?_⟩⟩
 refine ⟨_,rfl,d,_,rfl,.inr (hT.same g1).sq,_,_,rfl,rfl,_,rfl,?_⟩
 rw[List.length_map,F1,decide_eq_false (show ¬ (20:Int)<(ks.length:Int) by lia)]
 exact q5 (q H1 g1)
noncomputable def DrT (st:Addr) (H:Hp) (ks:List Nat) (d:Addr):Prop:=Dt st H (DI (kI ks)) (.ref d) ∨ TupN H d ((kI ks).map V.int)
theorem DrT.kp {st:Addr}{H H':Hp}{ks:List Nat}{d:Addr} (h:DrT st H ks d) (g:Same H H'):DrT st H' ks d:=h.elim (fun a=>.inl (a.kp (g.kp st))) fun a=>.inr (a.same g)
theorem DrT.sq {K:W.Frag}{st:Addr}{H:Hp}{ks:List Nat}{d:Addr} (h:DrT st H ks d):SqT K H d ((kI ks).map V.int):=h.elim (fun a=>let ⟨_,e,_,q⟩:=a.di;by cases e;exact .of q) fun a=>a.sq
noncomputable def S4 (ec:Nat->Addr):Sp:=fun vs H Q E=>R0 ec vs H Q E ∨ sp_ndN vs H Q E
theorem a8g (F:Fun K "need_draws" "need_draws" s_need_draws f fd) (B:Bt mg) (C:CtD mg) (R:Errs K mg ec Bs) (c1:Cal P w K mg base 2 "are_wholes" ["thing","low","high"] sp_are_wholes) (c2:Cal P w K mg base 2 "are_wholes" ["thing","low","high"] sp_awN):FnOk P w K mg base (A9 P w) 3 f fd ["urn","thing"] (S4 ec):=
 a8w (a0S F B C R c1) (a7y F B C R c2)
theorem a4f {st a d:Addr}{H:Hp}{xs:List V}{ks:List Nat}{Q:VK}{E:XK} (ha:H a=some (.tup xs)) (hd:DrT st H ks d) (hk:∀k∈ks,k<xs.length) (hl:ks.length<=20) (q:∀H',Same H H'->Q .non H'):S4 ec [.ref a,.ref d] H Q E:=by
 rcases hd with hd|hd
 ·have dok:O3 xs.length (DI (kI ks))=true:=a4a hl hk
  exact .inl ⟨a,st,xs,_,DI (kI ks),rfl,ha,hd,L8 (by rw[F1];lia),(fun _=>q),(fun z=>by rw[dok] at z;cases z)⟩
 ·exact .inr ⟨a,d,xs,ks,rfl,ha,hd,hk,hl,q⟩
end
end G
namespace G
open PySem PySem.Spec PyProof.Rows L2 Mt
noncomputable def a9f (H:Hp):Option (List Int)->V->Prop
 | none,u=>u=.non
 | some ms,u=>∃b,u=.ref b/\H b=some (.tup (ms.map V.int))
structure V3 (st:Addr) (H:Hp) (n:Nat) (ns:List Int) (rs:List (List Int)) (ks:List Nat) (a:Addr) (v:V) (d:Addr):Prop where
 u:Dt st H (DI ns) (.ref a)
 uu:Mt.Urn n 20 ns
 r:Dt st H (DR rs) v
 ru:Mt.Rul n 5 rs
 d:DrT st H ks d
 n1:1<=n
 n4:n<=4
 len:ks.length<=20
 lt:∀k∈ks,k<n
section
variable {P:Program}{w:World}{K:W.Frag}{mg:Str->Option Value}{base:Heap}{f:Addr}{fd:FuncData}{ec:Nat->Addr}{Bs:Addr}
noncomputable def sp_followV:Sp:=fun vs H Q _=>∃(st a d:Addr) (v:V) (n:Nat) (ns:List Int) (rs:List (List Int)) (ks:List Nat),vs=[.ref a,v,.ref d]/\V3 st H n ns rs ks a v d /\
 ∀p q u H',Same H H'->H' p=some (.tup [.ref q,u])->H' q=some (.tup ((fr (u0 rs ns ks).1).map V.int))->a9f H' (u0 rs ns ks).2 u->Q (.ref p) H'
noncomputable def T5 (ec:Nat->Addr):Sp:=fun vs H Q E=>False ∨ sp_followV vs H Q E
noncomputable abbrev s_follow:Stmt:=u7 30
theorem sc_follow:FnScope ["urn","rule","draws","so_far","now","kind"] ["urn","rule","draws"] (d5 s_follow):=⟨rfl,rfl,rfl,by decide +kernel,rfl,by decide +kernel,by decide +kernel⟩
theorem a4i (F:Fun K "follow" "follow" s_follow f fd) (B:Bt mg) (c1:CalX P w K mg base 6 "need_urn_and_rule" ["urn","rule"] (T8 ec)) (c2:CalX P w K mg base 3 "need_draws" ["urn","thing"] (S4 ec))
  (c3:Cal P w K mg base 1 "own_urn" ["urn"] sp_own_urn) (c4:Cal P w K mg base 3 "times" ["one","other"] sp_times) (c5:Cal P w K mg base 3 "share" ["urn","kind"] sp_share) (c6:Cal P w K mg base 1 "put_in" ["urn","rule","kind"] sp_put_in):FnOk P w K mg base (A9 P w) 7 f fd ["urn","rule","draws"] (T5 ec):=by
 refine F.okX sc_follow (fun vs H Q E h=>?_) (fun cdv A outer s H vs Q E hr h=>?_)
 ·rcases h with h|⟨st,a,d,v,n,ns,rs,ks,rfl,_⟩
  ·exact h.elim
  ·rfl
 refine ⟨_,b8 (A2 (j7 c1 hr rfl passes1 (b5 (pv 0) (b5 (pv 1) pa_nil)))) (b8 (A2 (j7 (c2.up (by decide)) hr rfl passes1 (b5 (pv 0) (b5 (pv 2) pa_nil))))
  (PSs.nox (b8 (f9 (i:=3) sc_follow.nd rfl (Or.inl rfl) (u3 (b5 b9 (b5 b9 pa_nil))))
  (b8 (f9 (i:=4) sc_follow.nd rfl (Or.inl rfl) (d7 (c3.up (by decide)) hr rfl (b5 (pv 0) pa_nil)))
  (b8 (B1 PassesOwn.never rfl (R4 (pv 2)) (u5 (i:=5) sc_follow.nd rfl (Or.inl rfl))
   (b8 (t8 (j9 op_eq (j3 ix_tup (pv 4) (pv 5) (fun _ _=>rfl)) b9 (j4 _)) (c0 (f6 (u3 (b5 (u3 (b5 b9 (b5 b9 pa_nil))) (b5 a4H pa_nil))))) pss_nil)
   (b8 (f9 (i:=3) sc_follow.nd rfl (Or.inl rfl) (d7 (c4.up (by decide)) hr rfl (b5 (pv 3) (b5 (d7 (c5.up (by decide)) hr rfl (b5 (pv 4) (b5 (pv 5) pa_nil))) pa_nil))))
   (c0 (f9 (i:=4) sc_follow.nd rfl (Or.inl rfl) (d7 (c6.up (by decide)) hr rfl (b5 (pv 4) (b5 (pv 1) (b5 (pv 5) pa_nil)))))))))
  (c0 (f6 (u3 (b5 (pv 3) (b5 (pv 4) pa_nil)))))))))),?_⟩
 rcases h with h|⟨st,a,d,v,n,ns,rs,ks,rfl,hA,q⟩
 ·exact h.elim
 obtain ⟨a',e,_,ha⟩:=hA.u.di
 cases e
 have lk:(kI ks).length=ks.length:=by unfold kI;rw[List.length_map]
 have hn4:=hA.n4
 have uok:=a0e hA.uu hA.n1 hA.n4
 have rok:E2 (lenD (DI ns):Int) (DR rs)=true:=by rw[B6,hA.uu.len];exact W6 hA.ru
 refine ⟨_,rfl,_,rfl,_,_,st,DI ns,DR rs,rfl,hA.u,L8 (by rw[hA.uu.len];lia),hA.r,⟨W5 (by rw[hA.ru.len];lia),R7 hA.ru (by lia)⟩,(fun z=>by rw[uok] at z;cases z),(fun _ z=>by rw[rok] at z;cases z),fun _ _ H1 g1=>?_⟩
 refine ⟨_,rfl,_,rfl,a4f (st:=st) (ks:=ks) (g1 _ _ ha) (hA.d.kp g1) (by rw[List.length_map,hA.uu.len];exact hA.lt) hA.len fun H2 g2=>?_⟩
 refine ⟨(by show 2<=sizeLine;decide),fun c hc=>?_⟩
 have s2:Same H (b7 H2 c (.tup [.int 1,.int 1])):=(g1.trans g2).trans (Same.new hc)
 refine ⟨_,rfl,a,_,rfl,s2 _ _ ha,fun b H3 g3 hb=>?_⟩
 have s3:Same H H3:=s2.trans g3
 refine ⟨_,rfl,d,rfl,⟨_,(hA.d.kp s3).sq⟩,?_⟩
 refine a2u (K:=K) (a:=d) (xs:=(kI ks).map V.int) (fun i σ H4=>Same H H4/\∃c b o x ms,σ=[some (.ref a),some v,some (.ref d),some (.ref c),some (.ref b),o]/\H4 c=some (.tup ((fr x).map V.int))/\H4 b=some (.tup (ms.map V.int)) /\
  Mt.Urn n (20+5*i) ms/\Bd (12*i) x/\0<=x/\x*(u0 rs ms (ks.drop i)).1=(u0 rs ns ks).1/\(u0 rs ms (ks.drop i)).2=(u0 rs ns ks).2)
  ⟨s3,c,b,none,1,ns,rfl,g3 _ _ b6,hb,hA.uu,Bd.one,(by decide),(by rw[List.drop_zero];grind),(by rw[List.drop_zero])⟩ (fun i σ H4 _ h=>(hA.d.kp h.1).sq) (fun i x σ H4 hx h=>?_) (fun σ H4 h=>?_)
 ·obtain ⟨s4,c,b,o,x',ms,rfl,hc4,hb4,hu4,hB,hx0,e1,e2⟩:=h
  have hi:i<ks.length:=by have:=(List.getElem?_eq_some_iff.mp hx).1;rwa [List.length_map,lk] at this
  have ex:x=.int ((ks[i]:Nat):Int):=by
   unfold kI at hx
   rw[List.getElem?_map,List.getElem?_map,List.getElem?_eq_getElem hi] at hx
   exact (Option.some.inj hx).symm
  subst ex
  have hk:=hA.lt ks[i] (List.getElem_mem hi)
  have hlen:=hA.len
  rw[List.drop_eq_getElem_cons hi] at e1 e2
  generalize ks[i]=k at *
  have hkm:k<ms.length:=by rw[hu4.len];exact hk
  refine ⟨_,rfl,_,rfl,b,_,_,_,rfl,rfl,.of hb4,J5 hkm,rfl,_,rfl,?_⟩
  by_cases hz:ms.getD k 0=0
  ·rw[hz,decide_eq_true rfl]
   refine u6 ⟨(by show 2<=sizeLine;decide),fun p1 hp1=>⟨(by show 2<=sizeLine;decide),fun p2 hp2=>?_⟩⟩
   rw[v7,if_pos hz] at e1 e2
   have e1':(u0 rs ns ks).1=0:=by rw[<- e1];grind
   have e2':(u0 rs ns ks).2=none:=by rw[<- e2]
   have hpp:p1≠p2:=fun e=>by rw[<- e,b6] at hp2;cases hp2
   refine q p2 p1 .non _ ((s4.trans (Same.new hp1)).trans (Same.new hp2)) b6 ?_ ?_
   ·rw[d0 hpp,b6,e1'];rfl
   ·rw[e2'];exact rfl
  ·rw[decide_eq_false (show ¬ V.int (ms.getD k 0)=V.int 0 from fun z=>hz (by injection z))]
   refine q5 ?_
   rw[v7,if_neg hz] at e1 e2
   refine ⟨_,rfl,_,rfl,_,rfl,b,n,_,ms,k,rfl,hb4,hu4,hn4,(by lia),hk,fun p5 H5 g5 h5=>?_⟩
   refine ⟨c,p5,x',Mt.share ms k,12*i,12,rfl,g5 _ _ hc4,h5,Rat.num_nonneg.mpr hx0,Rat.num_nonneg.mpr (a1a hu4 k),hB,a09 hu4 hn4 (by lia) k,(by lia),fun p6 H6 g6 h6=>?_⟩
   have s6:Same H H6:=s4.trans (g5.trans g6)
   have g46:Same H4 H6:=g5.trans g6
   refine ⟨_,rfl,_,rfl,_,rfl,b,st,v,n,5,ms,rs,k,rfl,g46 _ _ hb4,hu4.len,hA.r.kp (s6.kp st),hA.ru,hn4,hk,fun p7 H7 g7 h7=>?_⟩
   refine ⟨s6.trans g7,p6,p7,_,x'*Mt.share ms k,_,rfl,g7 _ _ h6,h7,?_,?_,Rat.mul_nonneg hx0 (a1a hu4 k),?_,e2⟩
   ·have:=hu4.add (hA.ru.at hk)
    rw[show 20+5*(i+1)=20+5*i+5 by lia];exact this
   ·rw[show 12*(i+1)=12*i+12 by lia];exact hB.mul (a09 hu4 hn4 (by lia) k)
   ·rw[<- e1];grind
 ·obtain ⟨s4,c,b,o,x',ms,rfl,hc4,hb4,hu4,hB,hx0,e1,e2⟩:=h
  rw[List.length_map,lk,List.drop_length,U3] at e1 e2
  refine ⟨_,rfl,_,rfl,(by show 2<=sizeLine;decide),fun p hp=>?_⟩
  have g:=Same.new (o:=.tup [.ref c,.ref b]) hp
  refine q p c (.ref b) _ (s4.trans g) b6 ?_ ?_
  ·rw[g _ _ hc4,<- e1];congr 4;grind
  ·rw[<- e2];exact ⟨b,rfl,g _ _ hb4⟩
noncomputable def sp_chance_ofV:Sp:=fun vs H Q _=>∃(st a d:Addr) (v:V) (n:Nat) (ns:List Int) (rs:List (List Int)) (ks:List Nat),vs=[.ref a,v,.ref d]/\V3 st H n ns rs ks a v d /\
 ∀q H',Same H H'->H' q=some (.tup ((fr (u0 rs ns ks).1).map V.int))->Q (.ref q) H'
noncomputable def G2 (ec:Nat->Addr):Sp:=fun vs H Q E=>False ∨ sp_chance_ofV vs H Q E
noncomputable abbrev s_chance_of:Stmt:=u7 31
theorem sc_chance_of:FnScope ["urn","rule","draws"] ["urn","rule","draws"] (d5 s_chance_of):=⟨rfl,rfl,rfl,by decide +kernel,rfl,by decide +kernel,by decide +kernel⟩
theorem a1v (F:Fun K "chance_of" "chance_of" s_chance_of f fd) (c1:CalX P w K mg base 7 "follow" ["urn","rule","draws"] (T5 ec)):FnOk P w K mg base (A9 P w) 8 f fd ["urn","rule","draws"] (G2 ec):=by
 refine F.okX sc_chance_of (fun vs H Q E h=>?_) (fun cdv A outer s H vs Q E hr h=>?_)
 ·rcases h with h|⟨st,a,d,v,n,ns,rs,ks,rfl,_⟩
  ·exact h.elim
  ·rfl
 refine ⟨_,c0 (f6 (j3 ix_tup (j7 c1 hr rfl passes1 (b5 (pv 0) (b5 (pv 1) (b5 (pv 2) pa_nil)))) b9 (fun _ _=>rfl))),?_⟩
 rcases h with h|⟨st,a,d,v,n,ns,rs,ks,rfl,hA,q⟩
 ·exact h.elim
 refine ⟨_,rfl,_,rfl,_,rfl,.inr ⟨st,a,d,v,n,ns,rs,ks,rfl,hA,fun p c u H1 g1 hp hc hu=>?_⟩⟩
 exact ⟨p,_,_,_,rfl,rfl,.of hp,i6 (j:=0) rfl,q c H1 g1 hc⟩
end
end G
set_option maxHeartbeats 1000000
namespace So
open PySem PyProof.Rows
section
variable {prog:Program}{w:World}{A:Around}{E:Value->Shared->Prop}{s:Shared}{rk:Keyed->Int}{M:Keyed->Prop}{κ:SortKind}
noncomputable def V3 (prog:Program) (w:World) (A:Around) (s:Shared) (rk:Keyed->Int) (M:Keyed->Prop) (κ:SortKind):Prop:=∀x y:Keyed,M x->M y->∀Q:Bool->Shared->Prop,Q (decide (rk x<rk y)) s->wpAny (model prog w) A (keyLt' κ x.1 y.1) Q (fun _ _=>False) s
theorem a7J {x y:Keyed}{st:SortSt}{Q:Option Bool->SortSt->Prop} (hA:V3 prog w A s rk M κ) (hk:kindOf st=κ) (hx:M x) (hy:M y) (h:Q (some (decide (rk x<rk y))) st):wpS (model prog w) A E s (lt' x y) Q st:=by
 rw[lt'_eq]
 refine wpS_bind (wpS_get ?_)
 rw[hk]
 refine wpS_bind (wpS_lift (wpAny_attempt (wpAny_mono (hA x y hx hy (fun b s'=>s'=s/\b=decide (rk x<rk y)) ⟨rfl,rfl⟩) (fun b s' hb=>⟨hb.1,?_⟩) fun _ _ z=>z.elim)))
 obtain ⟨_,rfl⟩:=hb
 exact wpS_pure h
theorem a1D {arr:Array Keyed}{i:Nat}{x:Keyed}{st:SortSt}{Q:Keyed->SortSt->Prop} (h:arr[i]?=some x) (q:Q x st):wpS (model prog w) A E s (elem' arr i) Q st:=by
 rw[elem'_eq,h]
 exact wpS_pure q
end
end So
namespace So
open PySem PyProof.Rows
noncomputable def Up (rk:Keyed->Int) (l:List Keyed):Prop:=l.Pairwise fun x y=>rk x<=rk y
structure Mg (rk:Keyed->Int) (la lb O:List Keyed) (ia ib:Nat):Prop where
 perm:O.Perm (la.take ia++lb.take ib)
 up:Up rk O
 low:∀x∈O,∀y∈la.drop ia++lb.drop ib,rk x<=rk y
end So
set_option maxHeartbeats 4000000
namespace So
open PySem PyProof.Rows
noncomputable def Gl (st st':SortSt):Prop:=kindOf st'=kindOf st/\arrOf st'=arrOf st/\pendingOf st'=pendingOf st/\failedOf st'=failedOf st
section
variable {rk:Keyed->Int}{a b out:Array Keyed}{ia ib:Nat}
theorem a3X {i:Nat} (h:i<a.size):∃x,a[i]?=some x/\x∈a.toList:=⟨a[i],Array.getElem?_eq_getElem h,Array.getElem_mem_toList h⟩
end
section
variable {prog:Program}{w:World}{A:Around}{E:Value->Shared->Prop}{s:Shared}{rk:Keyed->Int}{M:Keyed->Prop}{κ:SortKind}
end
end So
namespace So
open PySem PyProof.Rows
section
variable {prog:Program}{w:World}{A:Around}{E:Value->Shared->Prop}{s:Shared}{rk:Keyed->Int}{M:Keyed->Prop}{κ:SortKind}
end
end So
namespace So
open PySem PyProof.Rows
structure Mh (rk:Keyed->Int) (la lb O:List Keyed) (na nb:Nat):Prop where
 perm:O.Perm (la.drop na++lb.drop nb)
 up:Up rk O
 hi:∀x∈la.take na++lb.take nb,∀y∈O,rk x<=rk y
section
variable {rk:Keyed->Int}{a b out:Array Keyed}{na nb:Nat}
end
section
variable {prog:Program}{w:World}{A:Around}{E:Value->Shared->Prop}{s:Shared}{rk:Keyed->Int}{M:Keyed->Prop}{κ:SortKind}
end
end So
namespace So
open PySem PyProof.Rows
section
variable {prog:Program}{w:World}{A:Around}{E:Value->Shared->Prop}{s:Shared}{rk:Keyed->Int}{M:Keyed->Prop}{κ:SortKind}
end
end So
namespace So
open PySem PyProof.Rows
section
variable {prog:Program}{w:World}{A:Around}{E:Value->Shared->Prop}{s:Shared}{rk:Keyed->Int}{M:Keyed->Prop}{κ:SortKind}
end
end So
namespace So
open PySem PyProof.Rows
noncomputable def Kv (rk:Keyed->Int) (arr:Array Keyed) (i:Nat):Int:=rk ((arr[i]?).getD (Value.none,Value.none))
theorem Kv.congr {rk:Keyed->Int}{a b:Array Keyed}{i j:Nat} (h:a[i]?=b[j]?):Kv rk a i=Kv rk b j:=by unfold Kv;rw[h]
noncomputable def K7 (rk:Keyed->Int) (arr:Array Keyed) (lo n:Nat):Prop:=∀i j,lo<=i->i<=j->j<lo+n->Kv rk arr i<=Kv rk arr j
noncomputable def Dcr (rk:Keyed->Int) (arr:Array Keyed) (lo n:Nat):Prop:=∀i j,lo<=i->i<=j->j<lo+n->Kv rk arr j<=Kv rk arr i
structure Kpt (lo:Nat) (a b:Array Keyed):Prop where
 perm:b.toList.Perm a.toList
 low:∀i,i<lo->b[i]?=a[i]?
theorem Kpt.refl (lo:Nat) (a:Array Keyed):Kpt lo a a:=⟨List.Perm.refl _,fun _ _=>rfl⟩
theorem Kpt.trans {lo:Nat}{a b c:Array Keyed} (h:Kpt lo a b) (k:Kpt lo b c):Kpt lo a c:=⟨k.perm.trans h.perm,fun i hi=>(k.low i hi).trans (h.low i hi)⟩
theorem Kpt.size {lo:Nat}{a b:Array Keyed} (h:Kpt lo a b):b.size=a.size:=by have:=h.perm.length_eq;simpa using this
theorem Kpt.mirror {lo i j:Nat}{a:Array Keyed} (hi:lo<=i) (hj:j<=a.size):Kpt lo a (mirror a i j ((j - i) / 2)):=
 ⟨Array.perm_iff_toList_perm.mp (mirror_perm a i j _),fun k hk=>by rw[getElem?_mirror_all hj,if_neg (by lia)]⟩
theorem Kv.mirror {rk:Keyed->Int}{a:Array Keyed}{i j:Nat} (hj:j<=a.size) (k:Nat):Kv rk (mirror a i j ((j - i) / 2)) k=if i<=k/\k<j then Kv rk a (i+j - 1 - k) else Kv rk a k:=by
 have e:=getElem?_mirror_all (i:=i) hj k
 by_cases h1:i<=k/\k<j
 ·rw[if_pos h1] at e ⊢;exact Kv.congr e
 ·rw[if_neg h1] at e ⊢;exact Kv.congr e
theorem K0 {rk:Keyed->Int}{a:Array Keyed}{i j:Nat} (hj:j<=a.size) (heq:∀k,i<=k->k<j->Kv rk a k=Kv rk a (j - 1)) (k:Nat):Kv rk (mirror a i j ((j - i) / 2)) k=Kv rk a k:=by
 rw[Kv.mirror hj]
 split
 ·rw[heq _ (by lia) (by lia),heq k (by lia) (by lia)]
 ·rfl
theorem Dcr.more' {rk:Keyed->Int}{a:Array Keyed}{lo x:Nat} (h:Dcr rk a lo x) (hlt:Kv rk a (lo+x)<=Kv rk a (lo+x - 1)):Dcr rk a lo (x+1):=fun i j hi hij hj=>by
 by_cases hjx:j<lo+x
 ·exact h i j hi hij hjx
 ·have:j=lo+x:=by lia
  subst this
  by_cases hix:i=lo+x
  ·subst hix;exact Int.le_refl _
  ·exact Int.le_trans hlt (h i (lo+x - 1) hi (by lia) (by lia))
theorem Dcr.more {rk:Keyed->Int}{a:Array Keyed}{lo x:Nat} (h:Dcr rk a lo x) (hlt:Kv rk a (lo+x)<Kv rk a (lo+x - 1)):Dcr rk a lo (x+1):=h.more' (Int.le_of_lt hlt)
section
variable {prog:Program}{w:World}{A:Around}{E:Value->Shared->Prop}{s:Shared}{rk:Keyed->Int}{M:Keyed->Prop}{κ:SortKind}{pd:Array (Nat × Nat × Nat)}{mg:Nat}
theorem B4 {arr:Array Keyed}{i j:Nat}{Q:Option Bool->SortSt->Prop} (hA:V3 prog w A s rk M κ) (m:∀x∈arr.toList,M x) (hi:i<arr.size) (hj:j<arr.size) (h:Q (some (decide (Kv rk arr i<Kv rk arr j))) (SortSt.mk' κ arr pd mg none)):wpS (model prog w) A E s (ltAt' i j) Q (SortSt.mk' κ arr pd mg none):=by
 obtain ⟨x,hx,mx⟩:=a3X (a:=arr) hi
 obtain ⟨y,hy,my⟩:=a3X (a:=arr) hj
 have e1:Kv rk arr i=rk x:=by unfold Kv;rw[hx];rfl
 have e2:Kv rk arr j=rk y:=by unfold Kv;rw[hy];rfl
 rw[e1,e2] at h
 rw[ltAt'_eq]
 refine wpS_bind (wpS_get ?_)
 exact wpS_bind (a1D hx (wpS_bind (a1D hy (a7J hA rfl (m x mx) (m y my) h))))
theorem M5 {arr:Array Keyed}{st:SortSt}{lo a nrem:Nat}{f:Nat->Option (Option Nat) × Nat->StateT SortSt Sem (ForInStep (Option (Option Nat) × Nat))}{Q:Option (Option Nat) × Nat->SortSt->Prop}
  (hstep:∀(x n:Nat) (R:ForInStep (Option (Option Nat) × Nat)->SortSt->Prop),1<=n->n<nrem->(Kv rk arr (lo+n)<Kv rk arr (lo+n - 1)->R (.done (none,n)) st)->(¬ Kv rk arr (lo+n)<Kv rk arr (lo+n - 1)->R (.yield (none,n+1)) st)->wpS (model prog w) A E s (f x (none,n)) R st)
  (ha:1<=a) (han:a<=nrem) (hs:K7 rk arr lo a) (h:∀n,a<=n->n<=nrem->K7 rk arr lo n->(n=nrem ∨ Kv rk arr (lo+n)<Kv rk arr (lo+n - 1))->Q (none,n) st):wpS (model prog w) A E s (forIn [a:nrem] (none,a) f) Q st:=by
 refine wpS_forRange (I:=fun x c st'=>st'=st/\c=(none,x)/\K7 rk arr lo x) ?_ ?_ ⟨rfl,rfl,hs⟩
 ·rintro x c st' hax hxn ⟨rfl,rfl,hs'⟩
  refine hstep x x _ (by lia) hxn (fun hlt=>h x hax (by lia) hs' (.inr hlt)) (fun hlt=>⟨rfl,rfl,fun i j hi hij hj=>?_⟩)
  by_cases hjx:j<lo+x
  ·exact hs' i j hi hij hjx
  ·have hj':j=lo+x:=by lia
   subst hj'
   by_cases hi':i=lo+x
   ·subst hi';exact Int.le_refl _
   ·exact Int.le_trans (hs' i (lo+x - 1) hi (by lia) (by lia)) (Int.not_lt.mp hlt)
 ·rintro c st' ⟨rfl,rfl,hs'⟩
  rw[show max a nrem=nrem by lia] at hs' ⊢
  exact h nrem han (Nat.le_refl _) hs' (.inl rfl)
theorem a2g {arr:Array Keyed}{lo nrem:Nat}{Q:Option Nat->SortSt->Prop} (hA:V3 prog w A s rk M κ) (m:∀x∈arr.toList,M x) (h1:1<=nrem) (hN:lo+nrem<=arr.size)
  (h:∀(arr':Array Keyed) (n:Nat),1<=n->n<=nrem->Kpt lo arr arr'->K7 rk arr' lo n->Q (some n) (SortSt.mk' κ arr' pd mg none)):wpS (model prog w) A E s (countRun' lo nrem) Q (SortSt.mk' κ arr pd mg none):=by
 have one:K7 rk arr lo 1:=fun i j hi hij hj=>by
  have:i=j:=by lia
  subst this;exact Int.le_refl _
 refine wpS_bind (M5 (arr:=arr) (lo:=lo) ?_ (Nat.le_refl 1) h1 one fun n hn1 hn2 hs hend=>?_)
 ·intro x n R hn hnn r1 r2
  dsimp only
  refine wpS_bind (B4 hA m (by lia) (by lia) ?_)
  by_cases hlt:Kv rk arr (lo+n)<Kv rk arr (lo+n - 1)
  ·rw[decide_eq_true hlt];exact wpS_pure (r1 hlt)
  ·rw[decide_eq_false hlt];exact wpS_pure (r2 hlt)
 dsimp only
 by_cases e1:(n == nrem)=true
 ·rw[if_pos e1]
  exact wpS_pure (h arr n hn1 hn2 (Kpt.refl lo arr) hs)
 rw[if_neg e1]
 have e1':n≠nrem:=by simpa using e1
 have hlt:=hend.resolve_left e1'
 by_cases hn:n > 1
 ·rw[if_pos hn]
  refine wpS_bind (B4 hA m (by lia) (by lia) ?_)
  by_cases hrose:Kv rk arr lo<Kv rk arr (lo+n - 1)
  ·rw[decide_eq_true hrose]
   exact wpS_pure (h arr n hn1 hn2 (Kpt.refl lo arr) hs)
  rw[decide_eq_false hrose]
  dsimp only
  rw[if_neg (by decide)]
  refine wpS_bind (wpS_modify ?_)
  have alleq:∀k,lo<=k->k<lo+n->Kv rk arr k=Kv rk arr (lo+n - 1):=fun k hk1 hk2=>by
   have a1:=hs lo k (Nat.le_refl _) hk1 hk2
   have a2:=hs k (lo+n - 1) hk1 (by lia) (by lia)
   lia
  have eqv:=K0 (rk:=rk) (a:=arr) (i:=lo) (j:=lo+n) (by lia) alleq
  have k1:Kpt lo arr (mirror arr lo (lo+n) ((lo+n - lo) / 2)):=Kpt.mirror (Nat.le_refl _) (by lia)
  have d1:Dcr rk (mirror arr lo (lo+n) ((lo+n - lo) / 2)) lo (n+1):=by
   refine Dcr.more (fun i j hi hij hj=>?_) (by rw[eqv,eqv];exact hlt)
   rw[eqv,eqv,alleq i hi (by lia),alleq j (by lia) (by lia)]
   exact Int.le_refl _
  show wpS _ _ _ _ _ _ (SortSt.mk' κ (mirror arr lo (lo+n) ((lo+n - lo) / 2)) pd mg none)
  generalize mirror arr lo (lo+n) ((lo+n - lo) / 2)=arr1 at k1 d1
  refine wpS_bind (wpS_lift (wpAny_rule ⟨rfl,?_⟩))
  refine wpS_bind (wpS_mono (wpS_forRange (I:=fun x c st'=>∃arr2 neq,c=(none,x,neq)/\st'=SortSt.mk' κ arr2 pd mg none/\Kpt lo arr arr2/\Dcr rk arr2 lo x/\neq+1<=x/\(∀i,lo+x - (neq+1)<=i->i<lo+x->Kv rk arr2 i=Kv rk arr2 (lo+x - 1)))
   (Q:=fun c st'=>∃arr2 n2 neq,c=(none,n2,neq)/\st'=SortSt.mk' κ arr2 pd mg none/\Kpt lo arr arr2/\Dcr rk arr2 lo n2/\neq+1<=n2/\(∀i,lo+n2 - (neq+1)<=i->i<lo+n2->Kv rk arr2 i=Kv rk arr2 (lo+n2 - 1))/\n+1<=n2/\n2<=nrem) ?_ ?_ ⟨_,0,rfl,rfl,k1,d1,by lia,fun i hi hi2=>by congr 1;lia⟩) ?_)
  ·rintro x c st' hnx hx ⟨arr2,neq,rfl,rfl,k2,d2,q1,q2⟩
   have m2:∀x∈arr2.toList,M x:=fun x hx=>m x (k2.perm.mem_iff.mp hx)
   have z2:=k2.size
   dsimp only
   refine wpS_bind (B4 hA m2 (by lia) (by lia) ?_)
   by_cases hlt:Kv rk arr2 (lo+x)<Kv rk arr2 (lo+x - 1)
   ·rw[decide_eq_true hlt]
    dsimp only
    rw[if_pos rfl]
    by_cases hq:neq > 0
    ·rw[if_pos hq]
     refine wpS_bind (wpS_modify (wpS_pure ⟨_,0,rfl,rfl,k2.trans (Kpt.mirror (by lia) (by lia)),?_,by lia,fun i hi hi2=>by congr 1;lia⟩))
     have eqv:=K0 (rk:=rk) (a:=arr2) (i:=lo+x - (neq+1)) (j:=lo+x) (by lia) q2
     intro i j hi hij hj
     show Kv rk (mirror arr2 _ _ _) j<=Kv rk (mirror arr2 _ _ _) i
     rw[eqv,eqv]
     exact d2.more hlt i j hi hij (by lia)
    ·rw[if_neg hq]
     exact wpS_pure ⟨arr2,0,rfl,rfl,k2,fun i j hi hij hj=>d2.more hlt i j hi hij (by lia),by lia,fun i hi hi2=>by congr 1;lia⟩
   ·rw[decide_eq_false hlt]
    dsimp only
    rw[if_neg (by decide)]
    refine wpS_bind (B4 hA m2 (by lia) (by lia) ?_)
    by_cases hgt:Kv rk arr2 (lo+x - 1)<Kv rk arr2 (lo+x)
    ·rw[decide_eq_true hgt]
     dsimp only
     rw[if_pos rfl]
     exact wpS_pure ⟨arr2,x,neq,rfl,rfl,k2,d2,q1,q2,hnx,by lia⟩
    ·rw[decide_eq_false hgt]
     dsimp only
     rw[if_neg (by decide)]
     have heq:Kv rk arr2 (lo+x)=Kv rk arr2 (lo+x - 1):=by lia
     refine wpS_pure ⟨arr2,neq+1,rfl,rfl,k2,fun i j hi hij hj=>?_,by lia,fun i hi hi2=>?_⟩
     ·exact d2.more' (by lia) i j hi hij (by lia)
     ·rw[show lo+(x+1) - 1=lo+x by lia,heq]
      by_cases hix:i=lo+x
      ·rw[hix,heq]
      ·exact q2 i (by lia) (by lia)
  ·rintro c st' ⟨arr2,neq,rfl,rfl,k2,d2,q1,q2⟩
   rw[show max (n+1) nrem=nrem by lia] at d2 q1 q2 ⊢
   exact ⟨arr2,nrem,neq,rfl,rfl,k2,d2,q1,q2,by lia,Nat.le_refl _⟩
  ·rintro c st' ⟨arr2,n2,neq,rfl,rfl,k2,d2,q1,q2,hn2a,hn2b⟩
   have z2:=k2.size
   dsimp only
   by_cases hq:neq > 0
   ·rw[if_pos hq]
    refine wpS_bind (wpS_modify ?_)
    have eqv:=K0 (rk:=rk) (a:=arr2) (i:=lo+n2 - (neq+1)) (j:=lo+n2) (by lia) q2
    have k4:Kpt lo arr (mirror arr2 (lo+n2 - (neq+1)) (lo+n2) ((lo+n2 - (lo+n2 - (neq+1))) / 2)):=k2.trans (Kpt.mirror (by lia) (by lia))
    have d4:Dcr rk (mirror arr2 (lo+n2 - (neq+1)) (lo+n2) ((lo+n2 - (lo+n2 - (neq+1))) / 2)) lo n2:=fun i j hi hij hj=>by rw[eqv,eqv];exact d2 i j hi hij hj
    show wpS _ _ _ _ _ _ (SortSt.mk' κ (mirror arr2 (lo+n2 - (neq+1)) (lo+n2) ((lo+n2 - (lo+n2 - (neq+1))) / 2)) pd mg none)
    generalize mirror arr2 (lo+n2 - (neq+1)) (lo+n2) ((lo+n2 - (lo+n2 - (neq+1))) / 2)=arr4 at k4 d4
    refine wpS_bind (wpS_modify ?_)
    have k5:Kpt lo arr (mirror arr4 lo (lo+n2) ((lo+n2 - lo) / 2)):=k4.trans (Kpt.mirror (Nat.le_refl _) (by rw[k4.size];lia))
    have s5:K7 rk (mirror arr4 lo (lo+n2) ((lo+n2 - lo) / 2)) lo n2:=fun i j hi hij hj=>by
     rw[Kv.mirror (by rw[k4.size];lia),Kv.mirror (by rw[k4.size];lia),if_pos (by lia),if_pos (by lia)]
     exact d4 _ _ (by lia) (by lia) (by lia)
    have m5:∀x∈(mirror arr4 lo (lo+n2) ((lo+n2 - lo) / 2)).toList,M x:=fun x hx=>m x (k5.perm.mem_iff.mp hx)
    have z5:=k5.size
    show wpS _ _ _ _ _ _ (SortSt.mk' κ (mirror arr4 lo (lo+n2) ((lo+n2 - lo) / 2)) pd mg none)
    generalize mirror arr4 lo (lo+n2) ((lo+n2 - lo) / 2)=arr5 at k5 s5 m5 z5
    refine wpS_bind (M5 (arr:=arr5) (lo:=lo) ?_ (by lia) (by lia) s5 fun n3 hn31 hn32 hs3 _=>wpS_pure (h arr5 n3 (by lia) hn32 k5 hs3))
    intro x n R hn hnn r1 r2
    dsimp only
    refine wpS_bind (B4 hA m5 (by lia) (by lia) ?_)
    by_cases hlt:Kv rk arr5 (lo+n)<Kv rk arr5 (lo+n - 1)
    ·rw[decide_eq_true hlt];exact wpS_pure (r1 hlt)
    ·rw[decide_eq_false hlt];exact wpS_pure (r2 hlt)
   ·rw[if_neg hq]
    have k4:=k2
    have d4:=d2
    generalize arr2=arr4 at k4 d4
    refine wpS_bind (wpS_modify ?_)
    have k5:Kpt lo arr (mirror arr4 lo (lo+n2) ((lo+n2 - lo) / 2)):=k4.trans (Kpt.mirror (Nat.le_refl _) (by rw[k4.size];lia))
    have s5:K7 rk (mirror arr4 lo (lo+n2) ((lo+n2 - lo) / 2)) lo n2:=fun i j hi hij hj=>by
     rw[Kv.mirror (by rw[k4.size];lia),Kv.mirror (by rw[k4.size];lia),if_pos (by lia),if_pos (by lia)]
     exact d4 _ _ (by lia) (by lia) (by lia)
    have m5:∀x∈(mirror arr4 lo (lo+n2) ((lo+n2 - lo) / 2)).toList,M x:=fun x hx=>m x (k5.perm.mem_iff.mp hx)
    have z5:=k5.size
    show wpS _ _ _ _ _ _ (SortSt.mk' κ (mirror arr4 lo (lo+n2) ((lo+n2 - lo) / 2)) pd mg none)
    generalize mirror arr4 lo (lo+n2) ((lo+n2 - lo) / 2)=arr5 at k5 s5 m5 z5
    refine wpS_bind (M5 (arr:=arr5) (lo:=lo) ?_ (by lia) (by lia) s5 fun n3 hn31 hn32 hs3 _=>wpS_pure (h arr5 n3 (by lia) hn32 k5 hs3))
    intro x n R hn hnn r1 r2
    dsimp only
    refine wpS_bind (B4 hA m5 (by lia) (by lia) ?_)
    by_cases hlt:Kv rk arr5 (lo+n)<Kv rk arr5 (lo+n - 1)
    ·rw[decide_eq_true hlt];exact wpS_pure (r1 hlt)
    ·rw[decide_eq_false hlt];exact wpS_pure (r2 hlt)
 rw[if_neg hn]
 have k1:Kpt lo arr arr:=Kpt.refl lo arr
 have en:n=1:=by lia
 have d1:Dcr rk arr lo (n+1):=by
  refine Dcr.more (fun i j hi hij hj=>?_) hlt
  have:i=j:=by lia
  subst this;exact Int.le_refl _
 refine wpS_bind (wpS_lift (wpAny_rule ⟨rfl,?_⟩))
 refine wpS_bind (wpS_mono (wpS_forRange (I:=fun x c st'=>∃arr2 neq,c=(none,x,neq)/\st'=SortSt.mk' κ arr2 pd mg none/\Kpt lo arr arr2/\Dcr rk arr2 lo x/\neq+1<=x/\(∀i,lo+x - (neq+1)<=i->i<lo+x->Kv rk arr2 i=Kv rk arr2 (lo+x - 1)))
  (Q:=fun c st'=>∃arr2 n2 neq,c=(none,n2,neq)/\st'=SortSt.mk' κ arr2 pd mg none/\Kpt lo arr arr2/\Dcr rk arr2 lo n2/\neq+1<=n2/\(∀i,lo+n2 - (neq+1)<=i->i<lo+n2->Kv rk arr2 i=Kv rk arr2 (lo+n2 - 1))/\n+1<=n2/\n2<=nrem) ?_ ?_ ⟨_,0,rfl,rfl,k1,d1,by lia,fun i hi hi2=>by congr 1;lia⟩) ?_)
 ·rintro x c st' hnx hx ⟨arr2,neq,rfl,rfl,k2,d2,q1,q2⟩
  have m2:∀x∈arr2.toList,M x:=fun x hx=>m x (k2.perm.mem_iff.mp hx)
  have z2:=k2.size
  dsimp only
  refine wpS_bind (B4 hA m2 (by lia) (by lia) ?_)
  by_cases hlt:Kv rk arr2 (lo+x)<Kv rk arr2 (lo+x - 1)
  ·rw[decide_eq_true hlt]
   dsimp only
   rw[if_pos rfl]
   by_cases hq:neq > 0
   ·rw[if_pos hq]
    refine wpS_bind (wpS_modify (wpS_pure ⟨_,0,rfl,rfl,k2.trans (Kpt.mirror (by lia) (by lia)),?_,by lia,fun i hi hi2=>by congr 1;lia⟩))
    have eqv:=K0 (rk:=rk) (a:=arr2) (i:=lo+x - (neq+1)) (j:=lo+x) (by lia) q2
    intro i j hi hij hj
    show Kv rk (mirror arr2 _ _ _) j<=Kv rk (mirror arr2 _ _ _) i
    rw[eqv,eqv]
    exact d2.more hlt i j hi hij (by lia)
   ·rw[if_neg hq]
    exact wpS_pure ⟨arr2,0,rfl,rfl,k2,fun i j hi hij hj=>d2.more hlt i j hi hij (by lia),by lia,fun i hi hi2=>by congr 1;lia⟩
  ·rw[decide_eq_false hlt]
   dsimp only
   rw[if_neg (by decide)]
   refine wpS_bind (B4 hA m2 (by lia) (by lia) ?_)
   by_cases hgt:Kv rk arr2 (lo+x - 1)<Kv rk arr2 (lo+x)
   ·rw[decide_eq_true hgt]
    dsimp only
    rw[if_pos rfl]
    exact wpS_pure ⟨arr2,x,neq,rfl,rfl,k2,d2,q1,q2,hnx,by lia⟩
   ·rw[decide_eq_false hgt]
    dsimp only
    rw[if_neg (by decide)]
    have heq:Kv rk arr2 (lo+x)=Kv rk arr2 (lo+x - 1):=by lia
    refine wpS_pure ⟨arr2,neq+1,rfl,rfl,k2,fun i j hi hij hj=>?_,by lia,fun i hi hi2=>?_⟩
    ·exact d2.more' (by lia) i j hi hij (by lia)
    ·rw[show lo+(x+1) - 1=lo+x by lia,heq]
     by_cases hix:i=lo+x
     ·rw[hix,heq]
     ·exact q2 i (by lia) (by lia)
 ·rintro c st' ⟨arr2,neq,rfl,rfl,k2,d2,q1,q2⟩
  rw[show max (n+1) nrem=nrem by lia] at d2 q1 q2 ⊢
  exact ⟨arr2,nrem,neq,rfl,rfl,k2,d2,q1,q2,by lia,Nat.le_refl _⟩
 ·rintro c st' ⟨arr2,n2,neq,rfl,rfl,k2,d2,q1,q2,hn2a,hn2b⟩
  have z2:=k2.size
  dsimp only
  by_cases hq:neq > 0
  ·rw[if_pos hq]
   refine wpS_bind (wpS_modify ?_)
   have eqv:=K0 (rk:=rk) (a:=arr2) (i:=lo+n2 - (neq+1)) (j:=lo+n2) (by lia) q2
   have k4:Kpt lo arr (mirror arr2 (lo+n2 - (neq+1)) (lo+n2) ((lo+n2 - (lo+n2 - (neq+1))) / 2)):=k2.trans (Kpt.mirror (by lia) (by lia))
   have d4:Dcr rk (mirror arr2 (lo+n2 - (neq+1)) (lo+n2) ((lo+n2 - (lo+n2 - (neq+1))) / 2)) lo n2:=fun i j hi hij hj=>by rw[eqv,eqv];exact d2 i j hi hij hj
   show wpS _ _ _ _ _ _ (SortSt.mk' κ (mirror arr2 (lo+n2 - (neq+1)) (lo+n2) ((lo+n2 - (lo+n2 - (neq+1))) / 2)) pd mg none)
   generalize mirror arr2 (lo+n2 - (neq+1)) (lo+n2) ((lo+n2 - (lo+n2 - (neq+1))) / 2)=arr4 at k4 d4
   refine wpS_bind (wpS_modify ?_)
   have k5:Kpt lo arr (mirror arr4 lo (lo+n2) ((lo+n2 - lo) / 2)):=k4.trans (Kpt.mirror (Nat.le_refl _) (by rw[k4.size];lia))
   have s5:K7 rk (mirror arr4 lo (lo+n2) ((lo+n2 - lo) / 2)) lo n2:=fun i j hi hij hj=>by
    rw[Kv.mirror (by rw[k4.size];lia),Kv.mirror (by rw[k4.size];lia),if_pos (by lia),if_pos (by lia)]
    exact d4 _ _ (by lia) (by lia) (by lia)
   have m5:∀x∈(mirror arr4 lo (lo+n2) ((lo+n2 - lo) / 2)).toList,M x:=fun x hx=>m x (k5.perm.mem_iff.mp hx)
   have z5:=k5.size
   show wpS _ _ _ _ _ _ (SortSt.mk' κ (mirror arr4 lo (lo+n2) ((lo+n2 - lo) / 2)) pd mg none)
   generalize mirror arr4 lo (lo+n2) ((lo+n2 - lo) / 2)=arr5 at k5 s5 m5 z5
   refine wpS_bind (M5 (arr:=arr5) (lo:=lo) ?_ (by lia) (by lia) s5 fun n3 hn31 hn32 hs3 _=>wpS_pure (h arr5 n3 (by lia) hn32 k5 hs3))
   intro x n R hn hnn r1 r2
   dsimp only
   refine wpS_bind (B4 hA m5 (by lia) (by lia) ?_)
   by_cases hlt:Kv rk arr5 (lo+n)<Kv rk arr5 (lo+n - 1)
   ·rw[decide_eq_true hlt];exact wpS_pure (r1 hlt)
   ·rw[decide_eq_false hlt];exact wpS_pure (r2 hlt)
  ·rw[if_neg hq]
   have k4:=k2
   have d4:=d2
   generalize arr2=arr4 at k4 d4
   refine wpS_bind (wpS_modify ?_)
   have k5:Kpt lo arr (mirror arr4 lo (lo+n2) ((lo+n2 - lo) / 2)):=k4.trans (Kpt.mirror (Nat.le_refl _) (by rw[k4.size];lia))
   have s5:K7 rk (mirror arr4 lo (lo+n2) ((lo+n2 - lo) / 2)) lo n2:=fun i j hi hij hj=>by
    rw[Kv.mirror (by rw[k4.size];lia),Kv.mirror (by rw[k4.size];lia),if_pos (by lia),if_pos (by lia)]
    exact d4 _ _ (by lia) (by lia) (by lia)
   have m5:∀x∈(mirror arr4 lo (lo+n2) ((lo+n2 - lo) / 2)).toList,M x:=fun x hx=>m x (k5.perm.mem_iff.mp hx)
   have z5:=k5.size
   show wpS _ _ _ _ _ _ (SortSt.mk' κ (mirror arr4 lo (lo+n2) ((lo+n2 - lo) / 2)) pd mg none)
   generalize mirror arr4 lo (lo+n2) ((lo+n2 - lo) / 2)=arr5 at k5 s5 m5 z5
   refine wpS_bind (M5 (arr:=arr5) (lo:=lo) ?_ (by lia) (by lia) s5 fun n3 hn31 hn32 hs3 _=>wpS_pure (h arr5 n3 (by lia) hn32 k5 hs3))
   intro x n R hn hnn r1 r2
   dsimp only
   refine wpS_bind (B4 hA m5 (by lia) (by lia) ?_)
   by_cases hlt:Kv rk arr5 (lo+n)<Kv rk arr5 (lo+n - 1)
   ·rw[decide_eq_true hlt];exact wpS_pure (r1 hlt)
   ·rw[decide_eq_false hlt];exact wpS_pure (r2 hlt)
end
end So
namespace So
open PySem PyProof.Rows
theorem Kpt.bubble {lo src d:Nat}{a:Array Keyed} (hs:src<a.size) (hd:lo+d<=src):Kpt lo a (bubble a src d):=
 ⟨Array.perm_iff_toList_perm.mp (bubble_perm a src d),fun k hk=>by rw[getElem?_bubble hs d (by lia),if_neg (by lia),if_neg (by lia)]⟩
theorem Kv.bubble {rk:Keyed->Int}{a:Array Keyed}{src d:Nat} (hs:src<a.size) (hd:d<=src) (k:Nat):Kv rk (bubble a src d) k=if k=src - d then Kv rk a src else if src - d<k/\k<=src then Kv rk a (k - 1) else Kv rk a k:=by
 have e:=getElem?_bubble hs d hd k
 by_cases h1:k=src - d
 ·rw[if_pos h1] at e ⊢;exact Kv.congr e
 ·rw[if_neg h1] at e ⊢
  by_cases h2:src - d<k/\k<=src
  ·rw[if_pos h2] at e ⊢;exact Kv.congr e
  ·rw[if_neg h2] at e ⊢;exact Kv.congr e
section
variable {prog:Program}{w:World}{A:Around}{E:Value->Shared->Prop}{s:Shared}{rk:Keyed->Int}{M:Keyed->Prop}{κ:SortKind}{pd:Array (Nat × Nat × Nat)}{mg:Nat}
theorem a0P {arr:Array Keyed}{lo n ok:Nat}{Q:Bool->SortSt->Prop} (hA:V3 prog w A s rk M κ) (m:∀x∈arr.toList,M x) (h1:1<=ok) (h2:ok<=n) (hN:lo+n<=arr.size) (hs:K7 rk arr lo ok)
  (h:∀(arr':Array Keyed),Kpt lo arr arr'->K7 rk arr' lo n->Q true (SortSt.mk' κ arr' pd mg none)):wpS (model prog w) A E s (binarySort' lo n ok) Q (SortSt.mk' κ arr pd mg none):=by
 refine wpS_bind (wpS_mono (wpS_forRange (I:=fun k c st'=>c=(none,())/\∃arr2,st'=SortSt.mk' κ arr2 pd mg none/\Kpt lo arr arr2/\K7 rk arr2 lo k) (Q:=fun c st'=>c=(none,())/\∃arr2,st'=SortSt.mk' κ arr2 pd mg none/\Kpt lo arr arr2/\K7 rk arr2 lo n) ?_ ?_ ⟨rfl,arr,rfl,Kpt.refl lo arr,by rw[Nat.max_eq_left h1];exact hs⟩) ?_)
 ·rintro k c st' hk1 hk2 ⟨rfl,arr2,rfl,k2,s2⟩
  have z2:=k2.size
  have m2:∀x∈arr2.toList,M x:=fun x hx=>m x (k2.perm.mem_iff.mp hx)
  rw[Nat.max_eq_left h1] at hk1
  dsimp only
  refine wpS_bind (wpS_mono (wpS_forRange (I:=fun x c st'=>st'=SortSt.mk' κ arr2 pd mg none/\∃l r,c=(none,l,r)/\l<=r/\r<=k/\r - l<=k - x/\(∀i,i<l->Kv rk arr2 (lo+i)<=Kv rk arr2 (lo+k))/\(∀i,r<=i->i<k->Kv rk arr2 (lo+k)<=Kv rk arr2 (lo+i)))
   (Q:=fun c st'=>st'=SortSt.mk' κ arr2 pd mg none/\∃l,c=(none,l,l)/\l<=k/\(∀i,i<l->Kv rk arr2 (lo+i)<=Kv rk arr2 (lo+k))/\(∀i,l<=i->i<k->Kv rk arr2 (lo+k)<=Kv rk arr2 (lo+i))) ?_ ?_ ⟨rfl,0,k,rfl,Nat.zero_le _,Nat.le_refl _,by lia,fun i hi=>by lia,fun i hi hi2=>by lia⟩) ?_)
  ·rintro x c st' _ hx ⟨rfl,l,r,rfl,a1,a2,a3,a4,a5⟩
   dsimp only
   by_cases hge:l ≥ r
   ·rw[if_pos hge]
    have e:l=r:=by lia
    subst e
    exact wpS_pure ⟨rfl,l,rfl,a2,a4,a5⟩
   rw[if_neg hge]
   refine wpS_bind (B4 hA m2 (by lia) (by lia) ?_)
   by_cases hlt:Kv rk arr2 (lo+k)<Kv rk arr2 (lo+(l+r) / 2)
   ·rw[decide_eq_true hlt]
    refine wpS_pure ⟨rfl,l,(l+r) / 2,rfl,by lia,by lia,by lia,a4,fun i hi hi2=>?_⟩
    exact Int.le_trans (Int.le_of_lt hlt) (s2 _ _ (by lia) (by lia) (by lia))
   ·rw[decide_eq_false hlt]
    refine wpS_pure ⟨rfl,(l+r) / 2+1,r,rfl,by lia,a2,by lia,fun i hi=>?_,a5⟩
    exact Int.le_trans (s2 _ (lo+(l+r) / 2) (by lia) (by lia) (by lia)) (Int.not_lt.mp hlt)
  ·rintro c st' ⟨rfl,l,r,rfl,a1,a2,a3,a4,a5⟩
   have e:l=r:=by lia
   subst e
   exact ⟨rfl,l,rfl,a2,a4,a5⟩
  ·rintro c st' ⟨rfl,l,rfl,a2,a4,a5⟩
   dsimp only
   refine wpS_bind (wpS_modify (wpS_pure ⟨rfl,_,rfl,k2.trans (Kpt.bubble (src:=lo+k) (d:=lo+k - (lo+l)) (by lia) (by lia)),?_⟩))
   intro i j hi hij hj
   show Kv rk (bubble arr2 (lo+k) (lo+k - (lo+l))) i<=Kv rk (bubble arr2 (lo+k) (lo+k - (lo+l))) j
   rw[Kv.bubble (by lia) (by lia),Kv.bubble (by lia) (by lia),show lo+k - (lo+k - (lo+l))=lo+l by lia]
   by_cases c1:i=lo+l
   ·rw[if_pos c1]
    by_cases c2:j=lo+l
    ·rw[if_pos c2];exact Int.le_refl _
    ·rw[if_neg c2,if_pos (by lia)]
     have:=a5 (j - 1 - lo) (by lia) (by lia)
     rw[show lo+(j - 1 - lo)=j - 1 by lia] at this
     exact this
   ·rw[if_neg c1]
    by_cases c3:lo+l<i/\i<=lo+k
    ·rw[if_pos c3,if_neg (by lia),if_pos (by lia)]
     exact s2 _ _ (by lia) (by lia) (by lia)
    ·rw[if_neg c3]
     by_cases c2:j=lo+l
     ·rw[if_pos c2]
      have:=a4 (i - lo) (by lia)
      rw[show lo+(i - lo)=i by lia] at this
      exact this
     ·rw[if_neg c2]
      by_cases c4:lo+l<j/\j<=lo+k
      ·rw[if_pos c4]
       exact s2 _ _ hi (by lia) (by lia)
      ·rw[if_neg c4]
       exact s2 _ _ hi hij (by lia)
 ·rintro c st' ⟨rfl,arr2,rfl,k2,s2⟩
  rw[show max (max ok 1) n=n by lia] at s2
  exact ⟨rfl,arr2,rfl,k2,s2⟩
 ·rintro c st' ⟨rfl,arr2,rfl,k2,s2⟩
  exact wpS_pure (h arr2 k2 s2)
end
end So
namespace So
open PySem PyProof.Rows
theorem a7b {rk:Keyed->Int}{arr:Array Keyed}{lo n:Nat} (h:K7 rk arr lo n) (hN:lo+n<=arr.size):Up rk ((arr.toList.drop lo).take n):=by
 refine List.pairwise_iff_getElem.mpr fun i j hi hj hij=>?_
 have hj':j<n:=by rw[List.length_take] at hj;lia
 have e:∀k (hk:k<((arr.toList.drop lo).take n).length),rk (((arr.toList.drop lo).take n)[k])=Kv rk arr (lo+k):=fun k hk=>by
  have hk':k<n:=by rw[List.length_take] at hk;lia
  have e1:((arr.toList.drop lo).take n)[k]?=arr[lo+k]?:=by rw[List.getElem?_take,if_pos hk',List.getElem?_drop];simp
  unfold Kv
  rw[<- e1,List.getElem?_eq_getElem hk];rfl
 rw[e i hi,e j hj]
 exact h _ _ (by lia) (by lia) (by lia)
section
variable {prog:Program}{w:World}{A:Around}{E:Value->Shared->Prop}{s:Shared}{rk:Keyed->Int}{M:Keyed->Prop}{κ:SortKind}
end
end So
namespace So
open PySem PyProof.Rows PySem.Spec L2
section
variable {prog:Program}{w:World}{A:Around}{E:Value->Shared->Prop}{s:Shared}{rk:Keyed->Int}{M:Keyed->Prop}{κ:SortKind}
theorem a0a {arr:Array Keyed}{Q:Unit->SortSt->Prop} (hA:V3 prog w A s rk M κ) (m:∀x∈arr.toList,M x) (h2:2<=arr.size) (h64:arr.size<64)
  (h:∀st',(arrOf st').toList.Perm arr.toList->failedOf st'=none->Up rk (arrOf st').toList->Q () st'):wpS (model prog w) A E s sortRuns' Q (SortSt.mk' κ arr #[] 7 none):=by
 rw[sortRuns'_eq]
 refine wpS_bind (wpS_get ?_)
 dsimp only
 obtain ⟨N,eN⟩:∃N,N=arr.size:=⟨_,rfl⟩
 have hmr:minRun' N N 0=N:=by
  obtain ⟨f,hf⟩:∃f,N=f+1:=⟨N - 1,by lia⟩
  have:minRun' (f+1) N 0=N:=by rw[minRun'_succ,if_pos (by lia)];rfl
  rw[<- hf] at this
  exact this
 simp only[<- eN,hmr]
 refine wpS_bind (wpS_mono (wpS_forRange
  (I:=fun x c st'=>(x=0/\c=(none,0)/\st'=SortSt.mk' κ arr #[] 7 none) ∨ (1<=x/\∃arr2,c=(none,N)/\st'=SortSt.mk' κ arr2 #[(0,N,0)] 7 none/\Kpt 0 arr arr2/\K7 rk arr2 0 N))
  (Q:=fun c st'=>c.1=none/\∃arr2,st'=SortSt.mk' κ arr2 #[(0,N,0)] 7 none/\Kpt 0 arr arr2/\K7 rk arr2 0 N) ?_ ?_ (.inl ⟨rfl,rfl,rfl⟩)) ?_)
 ·rintro x c st' _ hx (⟨rfl,rfl,rfl⟩|⟨hx1,arr2,rfl,rfl,k2,s2⟩)
  ·dsimp only
   rw[if_neg (by lia)]
   simp only[Nat.sub_zero,Nat.zero_add,Nat.min_self]
   refine wpS_bind (a2g hA m (by lia) (by lia) fun arr2 n hn1 hn2 k2 s2=>?_)
   have m2:∀x∈arr2.toList,M x:=fun x hx=>m x (k2.perm.mem_iff.mp hx)
   have z2:=k2.size
   dsimp only
   by_cases hlt:n<N
   ·rw[if_pos hlt]
    refine wpS_bind (wpS_lift (wpAny_rule ⟨rfl,?_⟩))
    refine wpS_bind (a0P hA m2 hn1 (by lia) (by lia) s2 fun arr3 k3 s3=>?_)
    simp only[Bool.not_true,Bool.false_eq_true,if_false]
    refine wpS_bind (wpS_get ?_)
    have hb:(pendingOf (SortSt.mk' κ arr3 #[] 7 none)).back?=none:=rfl
    rw[hb]
    dsimp only
    exact wpS_bind (wpS_modify (wpS_pure (.inr ⟨by lia,arr3,rfl,rfl,k2.trans k3,s3⟩)))
   ·rw[if_neg hlt]
    have e:n=N:=by lia
    subst e
    refine wpS_bind (wpS_get ?_)
    have hb:(pendingOf (SortSt.mk' κ arr2 #[] 7 none)).back?=none:=rfl
    rw[hb]
    dsimp only
    exact wpS_bind (wpS_modify (wpS_pure (.inr ⟨by lia,arr2,rfl,rfl,k2,s2⟩)))
  ·dsimp only
   rw[if_pos (Nat.le_refl _)]
   exact wpS_pure ⟨rfl,arr2,rfl,k2,s2⟩
 ·rintro c st' (⟨hx,rfl,rfl⟩|⟨hx1,arr2,rfl,rfl,k2,s2⟩)
  ·lia
  ·exact ⟨rfl,arr2,rfl,k2,s2⟩
 ·rintro ⟨c1,c2⟩ st' ⟨hc,arr2,rfl,k2,s2⟩
  dsimp only at hc
  subst hc
  dsimp only
  refine wpS_bind (wpS_mono (wpS_forRange (I:=fun _ c st'=>c=(none,())/\st'=SortSt.mk' κ arr2 #[(0,N,0)] 7 none) (Q:=fun c st'=>c=(none,())/\st'=SortSt.mk' κ arr2 #[(0,N,0)] 7 none) ?_ (fun _ _ z=>z) ⟨rfl,rfl⟩) ?_)
  ·rintro x c st' _ _ ⟨rfl,rfl⟩
   refine wpS_bind (wpS_get ?_)
   rw[if_pos (by show (1:Nat)<=1;exact Nat.le_refl 1)]
   exact wpS_pure ⟨rfl,rfl⟩
  ·rintro c st' ⟨rfl,rfl⟩
   have z2:=k2.size
   refine wpS_pure (h _ k2.perm rfl ?_)
   have:=a7b s2 (by lia)
   rw[List.drop_zero,List.take_of_length_le (by rw[Array.length_toList];lia)] at this
   exact this
end
end So
namespace L2
open PySem PySem.Spec PyProof.Rows HT
theorem lex_irr:∀a:List Int,lexLt a a=false
 | []=>rfl
 | x::a=>by rw[A0,if_pos rfl];exact lex_irr a
theorem lex_tri:∀{a b:List Int},lexLt a b=false->lexLt b a=false->a=b
 | [],[],_,_=>rfl
 | [],_::_,h,_=>by rw[D8] at h;cases h
 | _::_,[],_,h=>by rw[D8] at h;cases h
 | x::a,y::b,h,k=>by
  rw[A0] at h k
  by_cases e:x=y
  ·rw[if_pos e] at h
   rw[if_pos e.symm] at k
   rw[e,lex_tri h k]
  ·rw[if_neg e,decide_eq_false_iff_not] at h
   rw[if_neg fun z=>e z.symm,decide_eq_false_iff_not] at k
   lia
theorem lex_trans:∀{a b c:List Int},lexLt a b=true->lexLt b c=true->lexLt a c=true
 | [],[],[],h,_=>by cases h
 | [],_::_,[],_,k=>by rw[B8] at k;cases k
 | [],_,_::_,_,_=>rfl
 | x::a,[],_,h,_=>by rw[B8] at h;cases h
 | x::a,y::b,[],_,k=>by rw[B8] at k;cases k
 | x::a,y::b,z::c,h,k=>by
  rw[A0] at h k ⊢
  by_cases e1:x=y
  ·rw[if_pos e1] at h
   by_cases e2:y=z
   ·rw[if_pos e2] at k
    rw[if_pos (e1.trans e2)]
    exact lex_trans h k
   ·rw[if_neg e2,decide_eq_true_iff] at k
    rw[if_neg (by lia),decide_eq_true_iff];lia
  ·rw[if_neg e1,decide_eq_true_iff] at h
   by_cases e2:y=z
   ·rw[if_neg (by lia),decide_eq_true_iff];lia
   ·rw[if_neg e2,decide_eq_true_iff] at k
    rw[if_neg (by lia),decide_eq_true_iff];lia
noncomputable def P5 (ks:List (List Int)) (k:List Int):Nat:=ks.countP fun z=>lexLt z k
theorem a2M {ks:List (List Int)}{a b:List Int} (ha:a∈ks) (h:lexLt a b=true):P5 ks a<P5 ks b:=by
 unfold P5
 have mono:∀l:List (List Int),l.countP (fun z=>lexLt z a)<=l.countP (fun z=>lexLt z b):=fun l=>List.countP_mono_left fun z _ hz=>lex_trans hz h
 induction ks with
 | nil=>cases ha
 | cons z ks ih =>
  rw[List.countP_cons,List.countP_cons]
  rcases List.mem_cons.mp ha with e|e
  ·subst e
   rw[if_neg (by rw[lex_irr];decide),if_pos h]
   have:=mono ks
   lia
  ·have:=ih e
   by_cases hz:lexLt z a=true
   ·rw[if_pos hz,if_pos (lex_trans hz h)];lia
   ·rw[if_neg hz]
    split <;> lia
theorem a1m {ks:List (List Int)}{a b:List Int} (ha:a∈ks) (hb:b∈ks):decide ((P5 ks a:Int)<(P5 ks b:Int))=lexLt a b:=by
 cases h:lexLt a b with
 | true=>exact decide_eq_true (by have:=a2M ha h;lia)
 | false =>
  refine decide_eq_false fun z=>?_
  cases h2:lexLt b a with
  | true=>have:=a2M hb h2;lia
  | false=>rw[lex_tri h h2] at z;lia
section
variable {prog:Program}{w:World}{A:Around}{E:Value->Shared->Prop}{s:Shared}
noncomputable def IntsAt (h:Heap) (v:Value) (ns:List Int):Prop:=∃(a:Addr) (us:List Value),v=.ref a/\IsTup h a us.toArray/\IntsAre us ns
theorem ints_at:∀{us:List Value}{ns:List Int}{j:Nat}{v:Value},IntsAre us ns->us[j]?=some v->∃t,v=Value.int (ns.getD j 0) t
 | _,_,0,v,.cons _ _ _,e=>by cases e;exact ⟨_,rfl⟩
 | _,_,j+1,v,.cons _ _ t,e=>by
  obtain ⟨t',h⟩:=ints_at (j:=j) t (by simpa using e)
  exact ⟨t',by rw[h];rfl⟩
theorem ints_ln:∀{us:List Value}{ns:List Int},IntsAre us ns->us.length=ns.length
 | _,_,.nil=>rfl
 | _,_,.cons _ _ t=>by rw[List.length_cons,List.length_cons,ints_ln t]
theorem ints_fn:∀{us:List Value}{ns ms:List Int},IntsAre us ns->IntsAre us ms->ns=ms
 | _,_,_,.nil,.nil=>rfl
 | _,_,_,.cons _ _ t,.cons _ _ u=>by rw[ints_fn t u]
theorem IntsAt.eq {p q:Value}{ns ms:List Int} (h1:IntsAt s.heap p ns) (h2:IntsAt s.heap q ms) (hu:A.units<cLine) (hne:ns≠ms):SeqAt.EqAt A s p q false:=by
 obtain ⟨a,us,rfl,⟨oa,ha,hca,na,hda⟩,i1⟩:=h1
 obtain ⟨b,vs,rfl,⟨ob,hb,hcb,nb,hdb⟩,i2⟩:=h2
 have l1:=ints_ln i1
 have l2:=ints_ln i2
 by_cases hab:a=b
 ·subst hab
  rw[ha] at hb
  cases hb
  rw[hda] at hdb
  injection hdb with e1 _
  have e2:us=vs:=by simpa using e1
  subst e2
  exact absurd (ints_fn i1 i2) hne
 ·have:=SeqAt.EqAt.of_refs hab (SeqAt.RcAt.tuples (A:=A) (e:=fun j=>decide (ns.getD j 0=ms.getD j 0)) ⟨oa,ha,hca,na,hda⟩ ⟨ob,hb,hcb,nb,hdb⟩ hu fun j h1 h2=>by
   have h1':j<us.length:=by simpa using h1
   have h2':j<vs.length:=by simpa using h2
   obtain ⟨t,ex⟩:=ints_at i1 (List.getElem?_eq_getElem h1')
   obtain ⟨u,ey⟩:=ints_at i2 (List.getElem?_eq_getElem h2')
   have e1:us.toArray[j]=.int (ns.getD j 0) t:=by rw[List.getElem_toArray];exact ex
   have e2:vs.toArray[j]=.int (ms.getD j 0) u:=by rw[List.getElem_toArray];exact ey
   rw[e1,e2]
   have e3:decide (ns.getD j 0=ms.getD j 0)=(ns.getD j 0 == ms.getD j 0):=by rw[Bool.eq_iff_iff];simp
   rw[e3]
   exact SeqAt.EqAt.int_int _ t _ u)
  have e:((List.range (min us.toArray.size vs.toArray.size)).all (fun j=>decide (ns.getD j 0=ms.getD j 0))&&us.toArray.size == vs.toArray.size)=false:=by
   rw[Bool.eq_false_iff]
   intro z
   rw[Bool.and_eq_true,List.all_eq_true,beq_iff_eq,List.size_toArray,List.size_toArray] at z
   refine hne (List.ext_getElem (by lia) fun i h1 h2=>?_)
   have:=of_decide_eq_true (z.1 i (List.mem_range.mpr (by lia)))
   rw[List.getD_eq_getElem?_getD,List.getD_eq_getElem?_getD,List.getElem?_eq_getElem h1,List.getElem?_eq_getElem h2] at this
   exact this
  rw[e] at this
  exact this
theorem IntsAt.lt {p q:Value}{ns ms:List Int} (h1:IntsAt s.heap p ns) (h2:IntsAt s.heap q ms) (hu:A.units<cLine) {Q:Value->Shared->Prop} (hq:Q (.bool (lexLt ns ms)) s):wpAny (model prog w) A (compareOp .Lt p q) Q E s:=by
 obtain ⟨a,us,rfl,ta,i1⟩:=h1
 obtain ⟨b,vs,rfl,tb,i2⟩:=h2
 exact HT.lt_tupInts ta tb i1 i2 hu hq
end
end L2
namespace L2
open PySem PySem.Spec PyProof.Rows HT
noncomputable def kz (k:List Key):List Int:=k.map fun z=>match z with | .inl i=>i | .inr _=>0
section
variable {X:Cx}{H:Hp}
theorem a0p {P:Program}{w:World}{h:Heap}{q:Addr}{ms:List Int} (ok:HOk P w H h) (e:H q=some (.tup (ms.map V.int))):IntsAt h (.ref q) ms:=by
 obtain ⟨_,its,r,t⟩:=(show ObjOk P w H h q (.tup (ms.map V.int)) from ok q _ e)
 exact ⟨q,its,rfl,t,K8 r⟩
theorem IntsAt.keep {h h':Heap}{v:Value}{ns:List Int} (x:IntsAt h v ns) (k:∀a o,v=.ref a->h.get? a=some o->h'.get? a=some o):IntsAt h' v ns:=by
 obtain ⟨a,us,e,⟨o,ho,r⟩,i⟩:=x
 exact ⟨a,us,e,⟨o,k a o e ho,r⟩,i⟩
end
end L2
namespace L2
open PySem PySem.Spec PyProof.Rows HT
section
variable {X:Cx}{H:Hp}
theorem refs_vals:∀{as:List Addr}{its:List Value},Vals (as.map V.ref) its->its=as.map Value.ref
 | [],its,r=>by cases r;rfl
 | a::as,its,r=>by
  cases r with
  | cons r1 rr =>
   cases r1
   rw[refs_vals rr];rfl
noncomputable def S6 (h:Heap) (a:Addr):Value:=match h.get? a with
 | some o=>(match o.data with | .seq xs _=>xs.getD 0 .none|_=>.none)
 | none=>.none
end
end L2
namespace L2
open PySem PySem.Spec PyProof.Rows
section
variable {prog:Program}{w:World}{A:Around}{E:Value->Shared->Prop}{s:Shared}
end
section
variable {X:Cx}{pins:List (Addr × Obj)}{σ:St}{H:Hp}{s:Shared}
end
section
variable {X:Cx}
open Classical in
end
end L2
namespace So
open PySem PyProof.Rows PySem.Spec L2
section
variable {prog:Program}{w:World}{A:Around}{E:Value->Shared->Prop}{s:Shared}{rk:Keyed->Int}{M:Keyed->Prop}{κ:SortKind}
theorem sort_raw64 {rv:Value->Int}{B:Addr}{vs:List Value}{c:Nat}{P:PySem.Fin->Shared->Prop} (hB:s.heap.get? B=some (seqObj "list" vs.toArray c)) (h64:vs.length<64)
  (hk:2<=vs.length->∀h1,(∀b o,b≠B->s.heap.get? b=some o->h1.get? b=some o) ->
   wpAny (model prog w) A (keyKind' vs.toArray) (fun κ s'=>s'={ s with heap:=h1 }/\V3 prog w A { s with heap:=h1 } (fun x=>rv x.1) (fun x=>x.1∈vs) κ) (fun _ _=>False) { s with heap:=h1 })
  (hP:∀h' vs' c',vs'.Perm vs->vs'.Pairwise (fun x y=>rv x<=rv y)->(∀b o,b≠B->s.heap.get? b=some o->h'.get? b=some o)->h'.get? B=some (seqObj "list" (List.toArray vs') c')->P (.done (.ret .none)) { s with heap:=h' }):wpAny (model prog w) A (Builtin.«list.sort» ⟨[.ref B],[]⟩) P E s:=by
 obtain ⟨e1,hB1⟩:∃e1,(s.heap.update B (Obj.mapSeq fun _=>(#[]:Array Value))).get? B=some (seqObj "list" #[] e1):=⟨_,get?_update_seq hB fun _=>#[]⟩
 have b1:=Heap.SameBut.update s.heap B (Obj.mapSeq fun _=>(#[]:Array Value))
 obtain ⟨h3,eh3⟩:∃h3,h3=((s.heap.update B (Obj.mapSeq fun _=>(#[]:Array Value))).push (seqObj "tuple" vs.toArray 0)).push (seqObj "list" #[] 0):=⟨_,rfl⟩
 have hB3:h3.get? B=some (seqObj "list" #[] e1):=by rw[eh3];exact Heap.get?_push_of_some _ (Heap.get?_push_of_some _ hB1)
 have k3:∀b o,b≠B->s.heap.get? b=some o->h3.get? b=some o:=fun b o hb q=>by rw[eh3];exact Heap.get?_push_of_some _ (Heap.get?_push_of_some _ (b1.extBut b o hb q))
 rw[list_sort_plain]
 refine wpAny_bind (listItems_at hB rfl (wpAny_bind (listUpdate_at hB rfl ?_ (by rw[List.size_toArray,sizeLine_eq];lia) (Nat.zero_le _))))
 refine wpAny_bind (seqEpoch_at hB1 rfl (wpAny_bind (wpAny_newTuple ?_ (by show vs.length<=_;rw[sizeLine_eq];lia))))
 refine wpAny_bind (wpAny_newList (wpAny_holding ?_) (Nat.zero_le _))
 show wpAny (model prog w) A _ P E { s with heap:=((s.heap.update B (Obj.mapSeq fun _=>(#[]:Array Value))).push (seqObj "tuple" vs.toArray 0)).push (seqObj "list" #[] 0) }
 rw[<- eh3]
 dsimp only
 have fin:∀(st:SortSt) (out:List Value),(arrOf st).map (·.2)=List.toArray out->out.length=vs.length->failedOf st=none->out.Perm vs->out.Pairwise (fun x y=>rv x<=rv y) ->
   wpAny (model prog w) A (do
    let sorted:=(arrOf st).map (·.2)
    let touched:=(<- seqEpoch B) != e1
    Builtin.List.listUpdate (.ref B) fun _=>sorted
    if let some e:=failedOf st then rule "list.sort.comparison-raised";throw e
    if touched then rule "list.sort.modified";raiseError "ValueError" "list modified during sort"
    ret .none) P E { s with heap:=h3 }:=fun st out ho hl hf hp hu=>by
  rw[ho]
  have sz:(List.toArray out).size<=sizeLine:=by rw[List.size_toArray,hl,sizeLine_eq];lia
  obtain ⟨c2,hc2⟩:∃c2,(h3.update B (Obj.mapSeq fun _=>List.toArray out)).get? B=some (seqObj "list" (List.toArray out) c2):=⟨_,get?_update_seq hB3 fun _=>List.toArray out⟩
  refine wpAny_bind (seqEpoch_at hB3 rfl (wpAny_bind (listUpdate_at hB3 rfl ?_ (Nat.zero_le _) (Nat.le_trans sz (Nat.le_succ _)))))
  rw[hf]
  simp only[bne_self_eq_false,Bool.false_eq_true,if_false]
  exact wpAny_pure (hP _ out c2 hp hu (fun b o hb q=>(Heap.SameBut.update h3 B _).extBut b o hb (k3 b o hb q)) hc2)
 by_cases h2:2<=vs.length
 ·have hn2:¬ vs.toArray.size<2:=by rw[List.size_toArray];lia
  rw[if_neg hn2,if_neg hn2]
  refine wpAny_bind (wpAny_mono (hk h2 h3 k3) (fun κ s0 hh=>?_) fun _ _ x=>x.elim)
  obtain ⟨rfl,ask⟩:=hh
  have ez:(vs.toArray.zip vs.toArray).toList=vs.map fun v=>(v,v):=by
   rw[Array.toList_zip]
   show vs.zip vs=_
   clear hk hP hB h64 h2 hn2 ask fin hB1 b1 eh3 hB3 k3
   induction vs with
   | nil=>rfl
   | cons v vs ih=>rw[List.zip_cons_cons,ih];rfl
  refine wpAny_bind (wpAny_mono (a0a (rk:=fun x=>rv x.1) (M:=fun x=>x.1∈vs) (s:={ s with heap:=h3 }) (Q:=fun _ st'=>(arrOf st').toList.Perm (vs.map fun v=>(v,v))/\failedOf st'=none/\Up (fun x=>rv x.1) (arrOf st').toList) ask (fun x hx=>?_) ?_ ?_ (fun st' a1 a2 a3=>⟨by rw[ez] at a1;exact a1,a2,a3⟩)) ?_ fun _ _ e=>e)
  ·rw[ez] at hx
   obtain ⟨v,hv,rfl⟩:=List.mem_map.mp hx
   exact hv
  ·have:=congrArg List.length ez
   simp at this ⊢
   lia
  ·have:=congrArg List.length ez
   simp at this ⊢
   lia
  rintro ⟨⟨⟩,st'⟩ s' ⟨rfl,hp,hf,hu⟩
  dsimp only at hp hf hu ⊢
  have twin:∀x∈(arrOf st').toList,x.1=x.2:=fun x hx=>by
   obtain ⟨v,_,rfl⟩:=List.mem_map.mp (hp.mem_iff.mp hx)
   rfl
  have hp2:((arrOf st').toList.map (·.2)).Perm vs:=by
   have:=hp.map (·.2)
   rw[List.map_map] at this
   have e:vs.map ((fun x:Keyed=>x.2) ∘ fun v=>(v,v))=vs:=by
    have:((fun x:Keyed=>x.2) ∘ fun v=>(v,v))=id:=rfl
    rw[this,List.map_id]
   rw[e] at this
   exact this
  refine fin st' ((arrOf st').toList.map (·.2)) ?_ hp2.length_eq hf hp2 ?_
  ·apply Array.toList_inj.mp
   simp
  ·rw[List.pairwise_map]
   refine List.Pairwise.imp_of_mem ?_ hu
   intro x y hx hy hxy
   rw[<- twin x hx,<- twin y hy]
   exact hxy
 ·have hn2:vs.toArray.size<2:=by rw[List.size_toArray];lia
  rw[if_pos hn2,if_pos hn2]
  refine wpAny_bind (wpAny_pure (wpAny_bind ?_))
  rw[StateT.run_pure]
  refine wpAny_pure ?_
  refine fin _ vs (by
   show ((vs.toArray.zip vs.toArray).map (·.2))=vs.toArray
   apply Array.toList_inj.mp
   simp[List.map_snd_zip]) rfl rfl (List.Perm.refl _) ?_
  match vs,h2 with
  | [],_=>exact List.Pairwise.nil
  | [v],_=>exact List.pairwise_singleton _ _
  | a::b::l,h2=>exact absurd (by simp:2<=(a::b::l).length) h2
end
end So
namespace L2
open PySem PySem.Spec PyProof.Rows HT
section
variable {X:Cx}{H:Hp}
noncomputable def rvI:Value->Int
 | .int i _=>i
 | _=>0
theorem ints_rv:∀{ns:List Int}{its:List Value},Vals (ns.map V.int) its->its.map rvI=ns/\∀v∈its,∃i t,v=.int i t
 | [],its,r=>by
  cases r
  exact ⟨rfl,fun v h=>by cases h⟩
 | n::ns,its,r=>by
  cases r with
  | cons r1 rr =>
   obtain ⟨t,rfl⟩:=r1
   obtain ⟨e,h⟩:=ints_rv rr
   refine ⟨by rw[List.map_cons,e];rfl,fun v hv=>?_⟩
   rcases List.mem_cons.mp hv with z|z
   ·exact ⟨n,t,z⟩
   ·exact h v z
theorem vals_rv:∀{its:List Value},(∀v∈its,∃i t,v=Value.int i t)->Vals ((its.map rvI).map V.int) its
 | [],_=>.nil
 | v::its,h=>by
  obtain ⟨i,t,e⟩:=h v List.mem_cons_self
  subst e
  exact .cons ⟨t,rfl⟩ (vals_rv fun v hv=>h v (List.mem_cons_of_mem _ hv))
end
end L2
namespace L2
open PySem PySem.Spec PyProof.Rows
noncomputable abbrev DLi (ns:List Int):PyData:=.list (ns.map PyData.int)
theorem a6o (ns:List Int):PyData.canLay0 (DLi ns)=true/\PyData.depth (DLi ns)<=2:=by
 refine ⟨?_,?_⟩
 ·show PyData.canLay0 (.list (ns.map PyData.int))=true
  unfold PyData.canLay0
  exact canLayI' ns
 ·have:=depthI' ns
  show PyData.depth (.list (ns.map PyData.int))<=2
  unfold PyData.depth
  lia
theorem a1O (ns:List Int):SeqAt.shaped (DLi ns)=true:=by
 unfold SeqAt.shaped
 rw[Bool.and_eq_true]
 exact ⟨(a6o ns).1,decide_eq_true (by have:=(a6o ns).2;lia)⟩
theorem a8B (a b:List Int):PyData.eqv (DLi a) (DLi b)=decide (a=b):=by
 show PyData.eqv (.list (a.map PyData.int)) (.list (b.map PyData.int))=_
 unfold PyData.eqv;exact eqvI2 a b
theorem Dt.mkL {st:Addr}{H:Hp}{ns:List Int}{a:Addr} (n:a≠st) (h:H a=some (.lst (ns.map V.int))):Dt st H (DLi ns) (.ref a):=Dt.lst n h (Dts.ints st H ns)
theorem a6U {H:Hp}{p r:Addr}{a b:List Int}{Q:VK} (hp:H p=some (.lst (a.map V.int))) (hr:H r=some (.lst (b.map V.int))) (q:Q (.bl (decide (a=b))) H):rEqD (.ref p) (.ref r) H Q:=by
 refine ⟨p+r+1,DLi a,DLi b,Dt.mkL (Nat.ne_of_lt (Nat.lt_succ_of_le (Nat.le_add_right p r))) hp,Dt.mkL (Nat.ne_of_lt (Nat.lt_succ_of_le (Nat.le_add_left r p))) hr,a1O a,a1O b,?_⟩
 rw[a8B];exact q
section
variable {X:Cx}
open Classical in
end
end L2
namespace L2
open PySem PySem.Spec PyProof.Rows
section
variable {X:Cx}
end
end L2
namespace L2
open PySem PySem.Spec PyProof.Rows
section
variable {prog:Program}{w:World}{A:Around}{R:Result->Shared->Prop}{s:Shared}
end
section
variable {X:Cx}{pins:List (Addr × Obj)}{σ:St}{H H':Hp}{s s':Shared}{scope:Scope}{N:List Str}{ix:List (Option Nat)}{fp:List Addr}
end
section
variable {X:Cx}{scope:Scope}{N:List Str}{ix:List (Option Nat)}{kx vx target iter:Expr}{pos:Pos}{wi:TI}{g:TG}{tk tv:TE}
end
end L2
namespace L2
open PySem PySem.Spec PyProof.Rows
section
variable {X:Cx}
noncomputable abbrev TJx:=St->Hp->(Str->Hp->Prop)->Prop
section
variable {es:List Expr}{n:Nat}{t:TJx}
end
end
noncomputable def jl (c:Nat):List (List Nat)->List Nat
 | []=>[]
 | [p]=>p
 | p::q::r=>p++c::jl c (q::r)
end L2
namespace L2
open PySem PySem.Spec PyProof.Rows
section
variable {prog:Program}{w:World}{A:Around}{E:Value->Shared->Prop}{s:Shared}
end
end L2
namespace L2
open PySem PySem.Spec PyProof.Rows
section
variable {X:Cx}{pins:List (Addr × Obj)}{σ:St}{H:Hp}{p d it:Addr}{rs:List Addr}{kvs:List (Key × V)}{A:Around}{R:Result->Shared->Prop}
end
end L2
namespace L2
open PySem PySem.Spec PyProof.Rows
section
variable {X:Cx}{pins:List (Addr × Obj)}{σ:St}{H:Hp}{s:Shared}
end
end L2
namespace L2
open PySem PySem.Spec PyProof.Rows
section
variable {X:Cx}
noncomputable def rSlS:V->Option Int->Option Int->Hp->VK->Prop:=fun x lo hi H Q=>∃a,x=.str a/\a.length<=sizeLine/\Q (.str (Txt.slice a lo hi)) H
end
end L2
namespace L2
open PySem PySem.Spec PyProof.Rows
end L2
namespace L2
open PySem PySem.Spec PyProof.Rows
section
variable {prog:Program}{w:World}{A:Around}{E:Value->Shared->Prop}{s:Shared}
end
section
variable {X:Cx}{pos:Pos}
end
end L2
namespace L2
open PySem PySem.Spec PyProof.Rows
end L2
namespace L2
open PySem PySem.Spec PyProof.Rows
section
variable {prog:Program}{w:World}{A:Around}{R:Result->Shared->Prop}{s:Shared}{elt t0 i0 t1 i1:Expr}{fs:List Expr}{scope:Scope}{pos:Pos}{it acc:Value}{env:Env}
noncomputable abbrev E9 (elt t0 i0 t1 i1:Expr) (fs:List Expr) (scope:Scope) (pos:Pos):Expr:=.ListComp elt [⟨t0,i0,[],0⟩,⟨t1,i1,fs,0⟩] scope pos
noncomputable abbrev NoE:Value->Shared->Prop:=fun _ _=>False
theorem a69 (I:Nat->Shared->Prop)
  (turn:∀n s,I n s->wpAny (model prog w) A (pyNext it) (fun r s1=>match r with
   | none=>R (.ok .next) s1
   | some v=>wpAny (model prog w) A (letOwnedTupleGo t1 it v) (fun _ s2=>wpAny (model prog w) A (assign t1 env v) (fun _ s3 =>
     wpAny (model prog w) A (forIn fs true fun c r=>if r=true then do let ok <- isTrue c env (eval c env);pure (ForInStep.yield ok) else pure (ForInStep.yield r)) (fun ok s4 =>
      if ok=true then wpAny (model prog w) A (eval elt env) (fun x s5=>wpAny (model prog w) A (call (.builtin "list.append") [acc,x]) (fun _ s6=>∃m,m<n/\I m s6) NoE s5) NoE s4
      else ∃m,m<n/\I m s4) NoE s3) NoE s2) NoE s1) NoE s)
  (n:Nat) (h:I n s):codeAny (model prog w) A (.compLoop (E9 elt t0 i0 t1 i1 fs scope pos) 1 it acc env) R s:=by
 refine codeAny_loop rfl I (fun n s hI=>?_) n h
 show wpAny _ A ((compTurn (E9 elt t0 i0 t1 i1 fs scope pos) 1 it acc env).onRaise (fun x=>do noteFrame x env;theTreesLotGoes x)) _ _ s
 refine wpAny_noted ?_
 have e:compTurn (E9 elt t0 i0 t1 i1 fs scope pos) 1 it acc env=(do
   standAt i1.pos
   let r <- pyNext it
   match r with
   | none=>pure (.done .next)
   | some v =>
    letOwnedTupleGo t1 it v
    assign t1 env v
    let ok <- forIn fs true fun c r=>if r=true then do let ok <- isTrue c env (eval c env);pure (ForInStep.yield ok) else pure (ForInStep.yield r)
    if ok then
     (do let _ <- call (.builtin "list.append") [acc,<- eval elt env])
    again (.compLoop (E9 elt t0 i0 t1 i1 fs scope pos) 1 it acc env)):=by rfl
 rw[e]
 refine wpAny_bind (wpAny_standAt (wpAny_bind (wpAny_mono (turn n s hI) (fun r s1 h1=>?_) fun _ _ h'=>h'.elim)))
 cases r with
 | none=>exact wpAny_pure h1
 | some v =>
  refine wpAny_bind (wpAny_mono h1 (fun _ s2 h2=>?_) fun _ _ h'=>h'.elim)
  refine wpAny_bind (wpAny_mono h2 (fun _ s3 h3=>wpAny_bind (wpAny_mono h3 (fun ok s4 h4=>?_) fun _ _ h'=>h'.elim)) fun _ _ h'=>h'.elim)
  cases ok with
  | false=>exact wpAny_pure ⟨rfl,h4⟩
  | true=>exact wpAny_bind (wpAny_bind (wpAny_mono h4 (fun x s5 h5=>wpAny_bind (wpAny_mono h5 (fun _ s6 h6=>wpAny_pure (wpAny_pure ⟨rfl,h6⟩)) fun _ _ h'=>h'.elim)) fun _ _ h'=>h'.elim))
theorem a6L (hs:∀x,foldedSetIterable i1 env x=pure x) (I:Nat->Shared->Prop)
  (turn:∀n s,I n s->wpAny (model prog w) A (pyNext it) (fun r s1=>match r with
   | none=>R (.ok .next) s1
   | some v=>wpAny (model prog w) A (letOwnedTupleGo t0 it v) (fun _ s2=>wpAny (model prog w) A (assign t0 env v) (fun _ s3 =>
     wpAny (model prog w) A (eval i1 env) (fun x s4=>wpAny (model prog w) A (pyIter x) (fun jt s5 =>
      codeAny (model prog w) A (.compStart (E9 elt t0 i0 t1 i1 fs scope pos) 1 jt acc env) (fun r s6=>(∃f,r=.ok f)/\∃m,m<n/\I m s6) s5) NoE s4) NoE s3) NoE s2) NoE s1) NoE s)
  (n:Nat) (h:I n s):codeAny (model prog w) A (.compLoop (E9 elt t0 i0 t1 i1 fs scope pos) 0 it acc env) R s:=by
 refine codeAny_loop rfl I (fun n s hI=>?_) n h
 show wpAny _ A ((compTurn (E9 elt t0 i0 t1 i1 fs scope pos) 0 it acc env).onRaise (fun x=>do noteFrame x env;theTreesLotGoes x)) _ _ s
 refine wpAny_noted ?_
 have e:compTurn (E9 elt t0 i0 t1 i1 fs scope pos) 0 it acc env=(do
   standAt i0.pos
   let r <- pyNext it
   match r with
   | none=>pure (.done .next)
   | some v =>
    letOwnedTupleGo t0 it v
    assign t0 env v
    let x <- eval i1 env
    standAt i1.pos
    let x <- foldedSetIterable i1 env x
    let _ <- runOwn (.compStart (E9 elt t0 i0 t1 i1 fs scope pos) 1 (<- holding [x] (pyIter x)) acc env) env
    again (.compLoop (E9 elt t0 i0 t1 i1 fs scope pos) 0 it acc env)):=by rfl
 rw[e]
 refine wpAny_bind (wpAny_standAt (wpAny_bind (wpAny_mono (turn n s hI) (fun r s1 h1=>?_) fun _ _ h'=>h'.elim)))
 cases r with
 | none=>exact wpAny_pure h1
 | some v =>
  refine wpAny_bind (wpAny_mono h1 (fun _ s2 h2=>?_) fun _ _ h'=>h'.elim)
  refine wpAny_bind (wpAny_mono h2 (fun _ s3 h3=>wpAny_bind (wpAny_mono h3 (fun x s4 h4=>wpAny_bind (wpAny_standAt ?_)) fun _ _ h'=>h'.elim)) fun _ _ h'=>h'.elim)
  rw[hs x]
  refine wpAny_bind (wpAny_pure (wpAny_bind (wpAny_holding (wpAny_mono h4 (fun jt s5 h5=>?_) fun _ _ h'=>h'.elim))))
  refine wpAny_bind (wpAny_runOwn (codeAny_mono h5 fun r s6 h6=>?_))
  obtain ⟨⟨f,e⟩,h6⟩:=h6
  subst e
  exact wpAny_pure ⟨rfl,h6⟩
theorem a41 (h0:codeAny (model prog w) A (.compLoop (E9 elt t0 i0 t1 i1 fs scope pos) 1 it acc env) R s)
  (h:∀E,wpAny (model prog w) A (pyIter it) (fun jt s'=>codeAny (model prog w) A (.compLoop (E9 elt t0 i0 t1 i1 fs scope pos) 1 jt acc env) R s') E s):
  codeAny (model prog w) A (.compStart (E9 elt t0 i0 t1 i1 fs scope pos) 1 it acc env) R s:=by
 refine codeAny_of_tree ?_
 show wpAny _ _ ((compStart (E9 elt t0 i0 t1 i1 fs scope pos) 1 it acc env).onRaise (fun x=>do noteFrame x env;standAt theWindowsPlace)) _ _ s
 refine wpAny_notedAt ?_
 unfold compStart
 show wpAny _ _ (ask >>= _) _ _ s
 refine wpAny_bind (wpAny_askSetting (wpAny_ite ?_))
 split
 ·first
   | exact wpAny_bind (wpAny_pure (wpAny_pure ⟨rfl,h0⟩))
   | exact wpAny_pure ⟨rfl,h0⟩
 ·refine wpAny_bind (wpAny_rule ?_)
  show wpAny _ _ (standAt i1.pos >>= _) _ _ s
  exact wpAny_bind (wpAny_standAt (wpAny_bind (wpAny_mono (h _) (fun jt s' h'=>wpAny_pure ⟨rfl,h'⟩) fun _ _ x=>x)))
end
end L2
namespace L2
open PySem PySem.Spec PyProof.Rows
section
variable {X:Cx}{scope:Scope}{N:List Str}{ix:List (Option Nat)}{elt t0 i0 t1 i1:Expr}{fs:List Expr}{pos:Pos}{wi wj:TI}{g g1:TG}{te:TE}{tc:TT}
noncomputable def a78 (J:It) (σ0:St) (g:TG) (tc:TT) (te:TE) (H1:Hp) (y0:List V) (F:List V->Hp->Prop):Prop:=∃W:Nat->Nat->List V->Hp->Prop,(∃m,W 0 m y0 H1)/\∀i m ys H2,W i m ys H2->ys.length<=sizeLine /\
 ((J.stop i H2/\F ys H2) ∨
  (J.go i H2/\∃(Ny:V->Hp->Prop) (Nn:Hp->Prop),(∀y H,Ny y H->∃m',m'<m/\W (i+1) m' (ys++[y]) H)/\(∀H,Nn H->∃m',m'<m/\W (i+1) m' ys H) /\
    ∀x H3,J.yld i H2 x H3->g x σ0 H3 fun σ2 H4=>Wk σ0 σ2/\tc σ2 H4 fun b H5=>if b=true then te σ2 H5 Ny else Nn H5))
noncomputable def a5T (J:It) (σ0:St) (g:TG) (wj:TI) (g1:TG) (tc:TT) (te:TE) (H1:Hp) (F:List V->Hp->Prop):Prop:=∃W:Nat->Nat->List V->Hp->Prop,(∃m,W 0 m [] H1)/\∀i m ys H2,W i m ys H2->ys.length<=sizeLine /\
 ((J.stop i H2/\F ys H2) ∨
  (J.go i H2/\∀x H3,J.yld i H2 x H3->g x σ0 H3 fun σ2 H4=>Wk σ0 σ2/\wj σ2 H4 fun J1 H5=>a78 J1 σ2 g1 tc te H5 ys fun ys' H6=>∃m',m'<m/\W (i+1) m' ys' H6))
noncomputable abbrev LO (its:List Value) (k:Nat):Obj:={ cls:=.type "list",data:=.seq its.toArray k }
theorem a6b {its:List Value}{k:Nat}:∀v,(LO its k).data≠.cell v:=fun v z=>by cases z
theorem a7t {s0:Shared}{H0:Hp}{ex0:List Addr}{pins:List (Addr × Obj)}{σ:St}{H:Hp}{s:Shared}{D:Addr}{ys:List V}{its:List Value}{k:Nat}{F:List V->Hp->Prop} (hc:X.calm=true)
  (hD:D∈ex0) (hf:∀{H':Hp},H' D=none->C6 (X.comp scope N s0 H0 ex0) pins H' D)
  (hi:PI (X.comp scope N s0 H0 ex0) t1 i1 wj) (hg:PG (X.comp scope N s0 H0 ex0) t1 g1) (ht:T4 (X.comp scope N s0 H0 ex0) fs tc) (he:PE (X.comp scope N s0 H0 ex0) elt te)
  (I:Inv (X.comp scope N s0 H0 ex0) pins σ H s) (d:H D=none) (l:s.heap.get? D=some (LO its k)) (v:Vals ys its)
  (B:wj σ H fun J H1=>a78 J σ g1 tc te H1 ys F):
  wpAny (model X.prog X.w) X.A (eval i1 (X.comp scope N s0 H0 ex0).env) (fun x s4=>wpAny (model X.prog X.w) X.A (pyIter x) (fun jt s5 =>
   codeAny (model X.prog X.w) X.A (.compStart (E9 elt t0 i0 t1 i1 fs scope pos) 1 jt (.ref D) (X.comp scope N s0 H0 ex0).env)
    (fun r s6=>(∃f,r=.ok f)/\∃ys' its' k' H',Inv (X.comp scope N s0 H0 ex0) pins σ H' s6/\H' D=none/\s6.heap.get? D=some (LO its' k')/\Vals ys' its'/\F ys' H') s5) NoE s4) NoE s:=by
 generalize hY:X.comp scope N s0 H0 ex0=Y at *
 have eP:Y.prog=X.prog:=by rw[<- hY];rfl
 have eW:Y.w=X.w:=by rw[<- hY];rfl
 have eA:Y.A=X.A:=by rw[<- hY];rfl
 have eC:Y.calm=true:=by rw[<- hY];exact hc
 have eE:Y.xe=NoE:=by rw[<- hY];rfl
 have eX:Y.ex=ex0:=by rw[<- hY];rfl
 have pin1:∀{H':Hp}{s':Shared}{σ':St}{its':List Value}{k':Nat},Inv Y pins σ' H' s'->H' D=none->s'.heap.get? D=some (LO its' k')->Inv Y (pins++[(D,LO its' k')]) σ' H' s':=fun {H' s' σ' its' k'} I' d' l' =>
  I'.pins_of fun p hp=>by
   rcases List.mem_append.mp hp with z|z
   ·exact I'.pin p (List.mem_append_right _ z)
   ·rw[List.mem_singleton.mp z]
    obtain ⟨_,f1,f2,_⟩:=hf d'
    exact ⟨l',d',f1,f2,a6b⟩
 rw[<- eP,<- eW,<- eA]
 have h1:=hi (pins++[(D,LO its k)]) s σ H _ (pin1 I d l) B
 rw[eE] at h1
 refine f7 h1 fun x s4 h4=>f7 h4 fun jt s5 h5=>?_
 obtain ⟨it,fp,tn,J,H2,rfl,I2,T,st2,f2,B2⟩:=h5
 have q2:=I2.pin (D,LO its k) (List.mem_append_right _ (List.mem_append_right _ List.mem_cons_self))
 have nD:∀b∈fp,D≠b:=fun b hb=>(f2 b hb).2.2.2.2.2 (D,LO its k) (List.mem_append_right _ (List.mem_append_right _ List.mem_cons_self))
 have stat:∀{H':Hp}{o:Obj},(∀b∈fp,H' b=none)->∀b∈fp,C6 Y (pins++[(D,o)]) H' b:=fun {H' o} hn b hb=>by
  obtain ⟨_,e1,e2,e3,e4,e5⟩:=f2 b hb
  refine ⟨hn b hb,e1,e2,e3,e4,fun p hp=>?_⟩
  rcases List.mem_append.mp hp with z|z
  ·exact e5 p (List.mem_append_left _ z)
  ·rcases List.mem_append.mp z with z|z
   ·exact e5 p (List.mem_append_right _ (List.mem_append_left _ z))
   ·rw[List.mem_singleton.mp z];exact nD b hb
 obtain ⟨W,⟨m0,w0⟩,turn⟩:=B2
 have drop:∀{σ':St}{H':Hp}{s':Shared}{ps:List (Addr × Obj)},Inv Y ((pins++ps)) σ' H' s'->Inv Y pins σ' H' s':=fun {σ' H' s' ps} I'=>I'.pins_of fun p hp=>I'.pin p (List.mem_append_right _ (List.mem_append_left _ hp))
 have drop2:∀{σ':St}{H':Hp}{s':Shared}{ps qs:List (Addr × Obj)},Inv Y (pins++ps++qs) σ' H' s'->Inv Y pins σ' H' s':=fun {σ' H' s' ps qs} I'=>drop (ps:=ps++qs) (by rw[<- List.append_assoc];exact I')
 have loop:codeAny (model Y.prog Y.w) Y.A (.compLoop (E9 elt t0 i0 t1 i1 fs scope pos) 1 (.ref it) (.ref D) Y.env) (fun r s6=>(∃f,r=.ok f)/\∃ys' its' k' H',Inv Y pins σ H' s6/\H' D=none/\s6.heap.get? D=some (LO its' k')/\Vals ys' its'/\F ys' H') s5:=by
  refine a69 (fun n s'=>∃i ys its k H',Inv Y pins σ H' s'/\tn i s'.heap/\(∀b∈fp,H' b=none)/\H' D=none/\s'.heap.get? D=some (LO its k)/\Vals ys its/\W i n ys H') ?_ m0
   ⟨0,ys,its,k,H2,drop I2,st2,fun b hb=>(f2 b hb).1,q2.2.1,q2.1,v,w0⟩
  rintro n s3 ⟨i,ys,its,k,H3,I3,st3,fr3,d3,l3,v3,w3⟩
  obtain ⟨hz,hw⟩:=turn i n ys H3 w3
  have I3':=pin1 I3 d3 l3
  rcases hw with ⟨stop,fy⟩|⟨go,Ny,Nn,hNy,hNn,step⟩
  ·refine f7 (T.done Y rfl rfl rfl eC i _ s3 σ H3 _ I3' (stat fr3) st3 stop) fun r s4 ⟨hr,I4⟩=>?_
   subst hr
   exact ⟨⟨_,rfl⟩,ys,its,k,H3,drop I4,d3,(I4.pin (D,_) (List.mem_append_right _ (List.mem_append_right _ List.mem_cons_self))).1,v3,fy⟩
  ·refine f7 (T.item Y rfl rfl rfl eC i _ s3 σ H3 _ I3' (stat fr3) st3 go) fun r s4 ⟨u,hr,h4⟩=>?_
   subst hr
   refine f7 h4 fun _ s5 ⟨x,H5,I5,r5,y5,st5,fr5⟩=>?_
   have I5':=I5.pinned (stat fr5) (T.obj _ _ st5)
   have hg':=hg _ s5 σ H5 x u _ I5' r5 (step x H5 y5)
   rw[eE] at hg'
   refine f7 hg' fun _ s6 ⟨σ6,H6,I6,wk6,q6⟩=>?_
   have ht':=ht _ s6 σ6 H6 _ I6 q6
   rw[eE] at ht'
   refine f7 ht' fun ok s7 ⟨H7,I7,q7⟩=>?_
   have inD:∀{o:Obj},(D,o)∈Y.pn++(pins++[(D,o)]++K1 fp s5.heap):=fun {o}=>List.mem_append_right _ (List.mem_append_left _ (List.mem_append_right _ List.mem_cons_self))
   cases ok with
   | false =>
    obtain ⟨m',hm,w7⟩:=hNn H7 q7
    refine ⟨m',hm,i+1,ys,its,k,H7,drop2 (I7.weak wk6.1 wk6.2),?_,fun b hb=>?_,(I7.pin (D,_) inD).2.1,(I7.pin (D,_) inD).1,v3,w7⟩
    ·exact T.keep _ _ _ st5 fun b hb o e=>(I7.pin (b,o) (List.mem_append_right _ (List.mem_append_right _ (u4 hb e)))).1
    ·obtain ⟨o,e,_⟩:=T.obj _ _ st5 b hb
     exact (I7.pin (b,o) (List.mem_append_right _ (List.mem_append_right _ (u4 hb e)))).2.1
   | true =>
    show wpAny _ _ _ _ _ _
    have he':=he _ s7 σ6 H7 _ I7 q7
    rw[eE] at he'
    refine f7 he' fun yv s8 ⟨y,H8,I8,r8,q8'⟩=>?_
    obtain ⟨m',hm,w8⟩:=hNy y H8 q8'
    have q8:=I8.pin (D,_) inD
    refine wpAny_list_append_plain (l:=D) (items:=its.toArray) ⟨k,q8.1⟩ (fun h' hl' sb=>?_) (by rw[List.size_toArray,<- v3.length];exact hz)
    obtain ⟨k',hl'⟩:=hl'
    obtain ⟨_,f1,f2',f3,f4,f5⟩:=hf q8.2.1
    have I9:Inv Y pins σ H8 { s8 with heap:=h' }:=(drop2 (I8.weak wk6.1 wk6.2)).turned (t':=s8.toks) (it:=D) (fun b o hb e=>(sb.2 b hb).trans e) q8.2.1 f1 f3 f4 f5
    refine ⟨m',hm,i+1,ys++[y],its++[yv],k',H8,I9,?_,fun b hb=>?_,q8.2.1,?_,v3.append (.cons r8 .nil),w8⟩
    ·exact T.keep _ _ _ st5 fun b hb o e=>(sb.2 b (nD b hb).symm).trans (I8.pin (b,o) (List.mem_append_right _ (List.mem_append_right _ (u4 hb e)))).1
    ·obtain ⟨o,e,_⟩:=T.obj _ _ st5 b hb
     exact (I8.pin (b,o) (List.mem_append_right _ (List.mem_append_right _ (u4 hb e)))).2.1
    ·have e:its.toArray.push yv=(its++[yv]).toArray:=by simp
     unfold LO;rw[<- e];exact hl'
 exact a41 loop fun E=>T.self _ 0 _ _ _ st2 loop
theorem a4c {pins:List (Addr × Obj)}{σ:St}{H:Hp}{s:Shared}{it:Addr}{fp:List Addr}{tn:Nat->Heap->Prop}{J:It}{F:List V->Hp->Prop}{E:Value->Shared->Prop}{RR:Value->Addr->Result->Shared->Prop}
  (hc:X.calm=true) (hk:scope.kind=.function) (hnm:G9 scope=true) (hf:K2 scope X.env=true) (hx:D0 scope X.N N ix=true) (hs:∀s H ex x,foldedSetIterable i1 (X.comp scope N s H ex).env x=pure x)
  (hg:∀s H ex,PG (X.comp scope N s H ex) t0 g) (hj:∀s H ex,PI (X.comp scope N s H ex) t1 i1 wj) (hg1:∀s H ex,PG (X.comp scope N s H ex) t1 g1) (ht:∀s H ex,T4 (X.comp scope N s H ex) fs tc) (he:∀s H ex,PE (X.comp scope N s H ex) elt te)
  (I:Inv X pins σ H s) (T:Turn X.prog X.w X.K t0 J fp it tn) (st:tn 0 s.heap) (hfp:∀b∈fp,C6 X pins H b) (B:a5T J (pick ix σ) g wj g1 tc te H F)
  (fin:∀(ys:List V) (H':Hp) (s':Shared) (σ':St) (its:List Value) (n:Nat),Inv (X.comp scope N (i5 s) H (s.heap.objs.size::fp)) [] σ' H' s'->H' s.heap.objs.size=none ->
   s'.heap.get? s.heap.objs.size=some (LO its n)->Vals ys its->ys.length<=sizeLine->F ys H'->RR (.ref s.heap.objs.size) (i5 s).heap.objs.size (.ok .next) s'):
  wpAny (model X.prog X.w) X.A (newList []) (fun acc s₃=>wpAny (model X.prog X.w) X.A (newFunctionEnv scope X.env.globals (B0 X.env scope.names []) [] X.env.qual none .none (some X.env)) (fun cenv s₄ =>
   codeAny (model X.prog X.w) X.A (.compStart (E9 elt t0 i0 t1 i1 fs scope pos) 0 (.ref it) acc { cenv with scope:=relabel scope X.env }) (RR acc cenv.locals) s₄) E s₃) E s:=by
 refine wpAny_newObj_type (V2 ?_) (by show ([]:List Value).toArray.size<=sizeLine;exact Nat.zero_le _)
 obtain ⟨W,⟨m0,w0⟩,turn⟩:=B
 have I1:Inv X pins σ H (i5 s):=I.kept (t':=s.toks) fun b o e=>Heap.get?_push_of_some _ e
 have fpLt:∀b∈fp,b<s.heap.objs.size:=fun b hb=>let ⟨o,e,_⟩:=T.obj 0 _ st b hb;Heap.lt_size e
 have accE:(i5 s).heap.get? s.heap.objs.size=some { cls:=.type "list",dict:=none,data:=.seq ([]:List Value).toArray }:=Heap.get?_push_size _ rfl
 have fD:C6 X pins H s.heap.objs.size:=I.fpOk (Nat.le_refl _) (I.hok.fresh (Nat.le_refl _))
 have J0:Inv (X.comp scope N (i5 s) H (s.heap.objs.size::fp)) [] (pick ix σ) H _:=I1.comp (N:=N) (ix:=ix) (ex:=s.heap.objs.size::fp) hk hnm hf hx fun b hb=>by
  rcases List.mem_cons.mp hb with z|z
  ·subst z
   exact ⟨fD.1,fD.2.1,fD.2.2.1,fD.2.2.2.1,fD.2.2.2.2.1,by rw[n5];exact Nat.lt_succ_self _⟩
  ·obtain ⟨f0,f1,f2,f3,f4,_⟩:=hfp b z
   exact ⟨f0,f1,f2,f3,f4,by rw[n5];exact Nat.lt_succ_of_lt (fpLt b z)⟩
 have keep0:∀b o,(i5 s).heap.get? b=some o->(pushCells ((i5 s).heap.push { cls:=.type "dict",data:=.dict #[] }) scope.names).get? b=some o:=fun b o e=>pushCells_keeps _ _ b o (Heap.get?_push_of_some _ e)
 have st0:tn 0 (pushCells ((i5 s).heap.push { cls:=.type "dict",data:=.dict #[] }) scope.names):=T.keep 0 _ _ st fun b hb o e=>keep0 b o (Heap.get?_push_of_some _ e)
 have exOk:∀b∈s.heap.objs.size::fp,b≠(X.comp scope N (i5 s) H (s.heap.objs.size::fp)).env.locals/\b ∉ (X.comp scope N (i5 s) H (s.heap.objs.size::fp)).fs /\
   ∀x c,(X.comp scope N (i5 s) H (s.heap.objs.size::fp)).env.cells.lookup x=some c->c≠b:=fun b hb=>⟨(J0.ok.exf b hb).1,J0.ok.exfs b hb,(J0.ok.exf b hb).2⟩
 have statP:∀{H':Hp}{ps:List (Addr × Obj)},(∀p∈ps,p.1=s.heap.objs.size)->(∀b∈fp,H' b=none)->∀b∈fp,C6 (X.comp scope N (i5 s) H (s.heap.objs.size::fp)) ps H' b:=fun {H' ps} hps hn b hb=>by
  obtain ⟨e1,e2,e3⟩:=exOk b (List.mem_cons_of_mem _ hb)
  refine ⟨hn b hb,e1,e2,.inl (List.mem_cons_of_mem _ hb),e3,fun p hp=>?_⟩
  have hp':p∈ps:=(List.mem_append.mp hp).elim (fun z=>absurd (show p∈([]:List (Addr × Obj)) from z) (by simp)) id
  rw[hps p hp']
  exact Nat.ne_of_gt (fpLt b hb)
 have statD:∀{H':Hp}{h:Heap},H' s.heap.objs.size=none->C6 (X.comp scope N (i5 s) H (s.heap.objs.size::fp)) (K1 fp h) H' s.heap.objs.size:=fun {H' h} hn=>by
  obtain ⟨e1,e2,e3⟩:=exOk _ List.mem_cons_self
  refine ⟨hn,e1,e2,.inl List.mem_cons_self,e3,fun p hp=>?_⟩
  have hp':p∈K1 fp h:=(List.mem_append.mp hp).elim (fun z=>absurd (show p∈([]:List (Addr × Obj)) from z) (by simp)) id
  obtain ⟨b,hb,e⟩:=List.mem_filterMap.mp hp'
  cases q:h.get? b with
  | none=>rw[q] at e;cases e
  | some o =>
   rw[q] at e;cases e
   exact Nat.ne_of_lt (fpLt b hb)
 have loop:codeAny (model X.prog X.w) X.A (.compLoop (E9 elt t0 i0 t1 i1 fs scope pos) 0 (.ref it) (.ref s.heap.objs.size) (X.comp scope N (i5 s) H (s.heap.objs.size::fp)).env) (RR (.ref s.heap.objs.size) (i5 s).heap.objs.size)
   { i5 s with heap:=pushCells ((i5 s).heap.push { cls:=.type "dict",data:=.dict #[] }) scope.names }:=by
  refine a6L (hs _ _ _) (fun n s'=>∃i ys its k H',Inv (X.comp scope N (i5 s) H (s.heap.objs.size::fp)) [] (pick ix σ) H' s'/\tn i s'.heap/\(∀b∈fp,H' b=none)/\H' s.heap.objs.size=none /\
   s'.heap.get? s.heap.objs.size=some (LO its k)/\Vals ys its/\W i n ys H') ?_ m0
   ⟨0,[],[],0,H,J0,st0,fun b hb=>(hfp b hb).1,fD.1,keep0 _ _ accE,.nil,w0⟩
  rintro n s3 ⟨i,ys,its,k,H3,I3,st3,fr3,d3,l3,v3,w3⟩
  obtain ⟨hz,hw⟩:=turn i n ys H3 w3
  have pinD:Inv (X.comp scope N (i5 s) H (s.heap.objs.size::fp)) [(s.heap.objs.size,LO its k)] (pick ix σ) H3 s3:=I3.pins_of fun p hp=>by
   rw[List.mem_singleton.mp hp]
   exact ⟨l3,d3,(exOk _ List.mem_cons_self).1,(exOk _ List.mem_cons_self).2.1,a6b⟩
  have one:∀p∈[(s.heap.objs.size,LO its k)],p.1=s.heap.objs.size:=fun p hp=>by rw[List.mem_singleton.mp hp]
  rcases hw with ⟨stop,fy⟩|⟨go,step⟩
  ·refine f7 (T.done (X.comp scope N (i5 s) H (s.heap.objs.size::fp)) rfl rfl rfl hc i _ s3 (pick ix σ) H3 (fun _ _=>False) pinD (statP one fr3) st3 stop) fun r s4 ⟨hr,I4⟩=>?_
   subst hr
   have q:=(I4.pin (s.heap.objs.size,_) (List.mem_append_right _ List.mem_cons_self)).1
   exact fin ys H3 s4 _ its k (I4.pins_of fun p hp=>by cases hp) d3 q v3 hz fy
  ·refine f7 (T.item (X.comp scope N (i5 s) H (s.heap.objs.size::fp)) rfl rfl rfl hc i _ s3 (pick ix σ) H3 (fun _ _=>False) pinD (statP one fr3) st3 go) fun r s4 ⟨u,hr,h4⟩=>?_
   subst hr
   refine f7 h4 fun _ s5 ⟨x,H5,I5,r5,y5,st5,fr5⟩=>?_
   have I5':=I5.pinned (statP one fr5) (T.obj _ _ st5)
   refine f7 (hg (i5 s) H (s.heap.objs.size::fp) _ s5 (pick ix σ) H5 x u _ I5' r5 (step x H5 y5)) fun _ s6 ⟨σ6,H6,I6,wk6,q6⟩=>?_
   have qD:=I6.pin (s.heap.objs.size,LO its k) (List.mem_append_right _ (List.mem_append_left _ List.mem_cons_self))
   have I6':Inv (X.comp scope N (i5 s) H (s.heap.objs.size::fp)) (K1 fp s5.heap) σ6 H6 s6:=I6.pins_of fun p hp=>I6.pin p (List.mem_append_right _ (List.mem_append_right _ hp))
   refine f7 (a7t (t0:=t0) (i0:=i0) (pos:=pos) hc List.mem_cons_self statD (hj _ _ _) (hg1 _ _ _) (ht _ _ _) (he _ _ _) I6' qD.2.1 qD.1 v3 q6) fun x s7 h7=>f7 h7 fun jt s8 h8=>codeAny_mono h8 fun r s9 h9=>?_
   obtain ⟨ok,ys',its',k',H',I9,d9,l9,v9,m',hm,w9⟩:=h9
   refine ⟨ok,m',hm,i+1,ys',its',k',H',(I9.weak wk6.1 wk6.2).pins_of (fun p hp=>by cases hp),?_,fun b hb=>?_,d9,l9,v9,w9⟩
   ·exact T.keep _ _ _ st5 fun b hb o e=>(I9.pin (b,o) (List.mem_append_right _ (u4 hb e))).1
   ·obtain ⟨o,e,_⟩:=T.obj _ _ st5 b hb
    exact (I9.pin (b,o) (List.mem_append_right _ (u4 hb e))).2.1
 exact codeAny_compStart_list loop (T.self _ 0 _ _ _ st0 loop)
noncomputable def a8I (wi:TI) (ix:List (Option Nat)) (g:TG) (wj:TI) (g1:TG) (tc:TT) (te:TE) (i:Nat):TS:=fun D σ H=>wi σ H fun J H1=>a5T J (pick ix σ) g wj g1 tc te H1 fun ys H2=>∀p,H2 p=none->D.nx (σ.set i (some (.ref p))) (b7 H2 p (.lst ys))
theorem a2o {i:Nat}{y:Str}{py spos:Pos} (hc:X.calm=true) (hN:X.N.Nodup) (hn:X.N[i]?=some y) (hy:X.env.scope.names.lookup y=some .local)
  (hi:PI X t0 i0 wi) (hg:∀s H ex,PG (X.comp scope N s H ex) t0 g) (hj:∀s H ex,PI (X.comp scope N s H ex) t1 i1 wj) (hg1:∀s H ex,PG (X.comp scope N s H ex) t1 g1) (ht:∀s H ex,T4 (X.comp scope N s H ex) fs tc) (he:∀s H ex,PE (X.comp scope N s H ex) elt te)
  (hk:scope.kind=.function) (hnm:G9 scope=true) (hf:K2 scope X.env=true) (hx:D0 scope X.N N ix=true) (hs:∀x,foldedSetIterable i0 X.env x=pure x) (hs1:∀s H ex x,foldedSetIterable i1 (X.comp scope N s H ex).env x=pure x)
  (hsw:swapsWith (E9 elt t0 i0 t1 i1 fs scope pos) (some (.Name y py)) spos.line X.env=pure true):
  PS X (.Assign [.Name y py] (E9 elt t0 i0 t1 i1 fs scope pos) spos) (a8I wi ix g wj g1 tc te i):=by
 intro pins s σ H D I h
 rw[exec_Assign_Name_used _ _ _ _ hsw]
 refine wpAny_bind (wpAny_standAt (wpAny_bind ?_))
 show wpAny _ X.A (do let _ <- comprehension (E9 elt t0 i0 t1 i1 fs scope pos) scope X.env _ (newList []) false (eval i0 X.env) (some (assign (.Name y py) X.env))) _ _ s
 refine wpAny_bind (f7 (wpAny_comprehension_free (use:=some (assign (.Name y py) X.env)) (Q:=fun _ s'=>SP X pins D .next s') rfl hs (K6 (I.closed hf)) hk (fun x hx hl=>(J6 hnm hx).trans (by rw[hl])) ?_) fun _ s' hq=>wpAny_pure (wpAny_pure hq))
 refine f7 (hi pins s σ H _ I h) fun v s1 h1=>f7 h1 fun itv s2 h2=>?_
 obtain ⟨it,fp,tn,J,H2,e,I2,T,st2,f2,B⟩:=h2
 subst e
 refine a4c (RR:=fun acc C=>compPost (model X.prog X.w) X.A X.xe (some (assign (.Name y py) X.env)) (fun _ s'=>SP X pins D .next s') acc C) hc hk hnm hf hx hs1 hg hj hg1 ht he I2 T st2 f2 B ?_
 intro ys H' s' σ' its n J' hD hl hv hz hF
 obtain ⟨m,hm,_⟩:=J'.loc
 have I3:=I2.comp_end (h':=s'.heap) J' f2 hD hl hv hz (.refl ..)
 show wpAny _ X.A (assign (.Name y py) X.env (.ref s2.heap.objs.size)) _ _ _
 refine wpAny_assign_Name (T7 (v:=.ref s2.heap.objs.size) I3 hN hn (.inl hy) rfl (fun s'' I4 hsb=>?_) (.inr hy))
 obtain ⟨a,sb,ha⟩:=hsb
 have hCa:(i5 s2).heap.objs.size≠a:=by
  rw[n5]
  rcases ha with z|z
  ·rw[z];exact Nat.ne_of_gt (Nat.lt_succ_of_lt I2.lt)
  ·obtain ⟨v,q⟩:=I2.cell y a z
   exact Nat.ne_of_gt (Nat.lt_succ_of_lt q.lt)
 have hC2:(b7 H' s2.heap.objs.size (.lst ys)) (i5 s2).heap.objs.size=none:=by
  rw[d0 (by rw[n5];exact Nat.ne_of_gt (Nat.lt_succ_self _))]
  exact J'.free
 refine ⟨m,hm.sameBut sb hCa,fun h' hs'=>⟨_,_,?_,hF _ hD⟩⟩
 refine I4.turned (t':=s''.toks) (it:=(i5 s2).heap.objs.size) (fun b o hb e=>(hs'.2 b hb).trans e) hC2 ?_ ?_ ?_ ?_
 ·rw[n5];exact Nat.ne_of_gt (Nat.lt_succ_of_lt I2.lt)
 ·rw[n5];exact .inr (Nat.le_trans I2.sz (Nat.le_succ _))
 ·intro x c e
  obtain ⟨v,q⟩:=I2.cell x c e
  rw[n5];exact Nat.ne_of_lt (Nat.lt_succ_of_lt q.lt)
 ·intro p hp
  rw[n5];exact Nat.ne_of_lt (Nat.lt_succ_of_lt (Heap.lt_size (I2.pin p hp).1))
end
end L2
namespace L2
open PySem PySem.Spec PyProof.Rows HT
noncomputable def v5 (a b:List Int × List Int):Bool:=if a.1=b.1 then lexLt a.2 b.2 else lexLt a.1 b.1
theorem a5E (a:List Int × List Int):v5 a a=false:=by unfold v5;rw[if_pos rfl];exact lex_irr _
theorem P6 {a b c:List Int × List Int} (h1:v5 a b=true) (h2:v5 b c=true):v5 a c=true:=by
 unfold v5 at *
 by_cases e1:a.1=b.1
 ·by_cases e2:b.1=c.1
  ·rw[if_pos e1] at h1;rw[if_pos e2] at h2;rw[if_pos (e1.trans e2)];exact lex_trans h1 h2
  ·rw[if_neg e2] at h2;rw[if_neg (fun z=>e2 (e1.symm.trans z)),e1];exact h2
 ·rw[if_neg e1] at h1
  by_cases e2:b.1=c.1
  ·rw[if_neg (fun z=>e1 (z.trans e2.symm)),<- e2];exact h1
  ·rw[if_neg e2] at h2
   have:=lex_trans h1 h2
   rw[if_neg fun z=>by rw[z,lex_irr] at this;cases this];exact this
theorem a2P {bt:Nat->Nat->Bool} (hi:∀a,bt a a=false) (ht:∀a b c,bt a b=true->bt b c=true->bt a c=true):∀k,argBest bt k<=k/\∀i,i<=k->bt i (argBest bt k)=false
 | 0=>⟨Nat.le_refl _,fun i h=>by rw[Nat.le_zero.mp h];exact hi 0⟩
 | k+1=>by
  obtain ⟨a1,a2⟩:=a2P hi ht k
  unfold argBest
  cases hb:bt (k+1) (argBest bt k) with
  | true =>
   rw[if_pos rfl]
   refine ⟨Nat.le_refl _,fun i h=>?_⟩
   rcases Nat.lt_or_eq_of_le h with z|z
   ·rw[Bool.eq_false_iff]
    intro q
    have:=ht _ _ _ q hb
    rw[a2 i (by lia)] at this;cases this
   ·rw[z];exact hi _
  | false =>
   rw[if_neg Bool.false_ne_true]
   refine ⟨by lia,fun i h=>?_⟩
   rcases Nat.lt_or_eq_of_le h with z|z
   ·exact a2 i (by lia)
   ·rw[z];exact hb
theorem IntsAt.same {A:Around}{s:Shared}{p q:Value}{ns:List Int} (h1:IntsAt s.heap p ns) (h2:IntsAt s.heap q ns) (hu:A.units<cLine):SeqAt.EqAt A s p q true:=by
 obtain ⟨a,us,rfl,⟨oa,ha,hca,na,hda⟩,i1⟩:=h1
 obtain ⟨b,vs,rfl,⟨ob,hb,hcb,nb,hdb⟩,i2⟩:=h2
 by_cases hab:a=b
 ·subst hab;exact SeqAt.EqAt.same _
 ·have:=SeqAt.EqAt.of_refs hab (SeqAt.RcAt.tuples (A:=A) (e:=fun _=>true) ⟨oa,ha,hca,na,hda⟩ ⟨ob,hb,hcb,nb,hdb⟩ hu fun j h1 h2=>by
   obtain ⟨t,ex⟩:=ints_at i1 (List.getElem?_eq_getElem (show j<us.length by simpa using h1))
   obtain ⟨u,ey⟩:=ints_at i2 (List.getElem?_eq_getElem (show j<vs.length by simpa using h2))
   rw[List.getElem_toArray,List.getElem_toArray,ex,ey]
   have:=SeqAt.EqAt.int_int (A:=A.in1) (s:=s) (ns.getD j 0) t (ns.getD j 0) u
   rw[beq_self_eq_true] at this
   exact this)
  have e:((List.range (min us.toArray.size vs.toArray.size)).all (fun _=>true)&&us.toArray.size == vs.toArray.size)=true:=by
   rw[Bool.and_eq_true,List.all_eq_true,beq_iff_eq,List.size_toArray,List.size_toArray,ints_ln i1,ints_ln i2]
   exact ⟨fun _ _=>rfl,rfl⟩
  rw[e] at this
  exact this
section
open PySem.SeqAt
open PySem.AutoSeq1 (wpAny_loadPart')
open PySem.MeetsSeq PySem.MeetsSeq2 PySem.MeetsSeq3
theorem a0j (l b:Addr) (p1 q1 p2 q2:Value) (n n2:Nat) (dd dd2:Option Addr) (sl sl2:Array (Option Value)) (x y:List Int × List Int):
  Meets (Builtin.«tuple.__lt__» ⟨[.ref l,.ref b],[]⟩)
   (fun A R s=>s.heap.get? l=some { cls:=.type "tuple",dict:=dd,data:=.seq #[p1,q1] n,slots:=sl }/\s.heap.get? b=some { cls:=.type "tuple",dict:=dd2,data:=.seq #[p2,q2] n2,slots:=sl2 } /\
    IntsAt s.heap p1 x.1/\IntsAt s.heap p2 y.1/\IntsAt s.heap q1 x.2/\IntsAt s.heap q2 y.2/\A.in1.units<cLine/\R (.ok (.ret (.bool (v5 x y)))) s):=
 .of_wp fun prog w A R s h=>by
  obtain ⟨hp,g,d,tk,os⟩:=s
  obtain ⟨hl,hb,i1,i2,i3,i4,hu,h⟩:=h
  have f2:=AutoSeq1.sub_tuple_tuple
  have eqs:∀{v u:Value}{ns ms:List Int},IntsAt hp v ns->IntsAt hp u ms->SeqAt.EqAt A.in1 ⟨hp,g,d,tk,os⟩ v u (decide (ns=ms)):=fun {v u ns ms} h1 h2=>by
   by_cases e:ns=ms
   ·rw[decide_eq_true e];subst e;exact IntsAt.same h1 h2 hu
   ·rw[decide_eq_false e];exact IntsAt.eq (s:=⟨hp,g,d,tk,os⟩) h1 h2 hu e
  have lts:∀{v u:Value}{ns ms:List Int},IntsAt hp v ns->IntsAt hp u ms->∀(E:Value->Shared->Prop) (Q:Value->Shared->Prop),Q (.bool (lexLt ns ms)) ⟨hp,g,d,tk,os⟩->wpAny (model prog w) A.in1 (richCompare .Lt v u) Q E ⟨hp,g,d,tk,os⟩:=fun h1 h2 E Q q =>
   IntsAt.lt (s:=⟨hp,g,d,tk,os⟩) h1 h2 hu q
  wp_walk using wpAny_loadPart' hl,wpAny_loadPart' hb,wpAny_forIn_list _ (fun m7 b s'=>b.1=none/\s'=⟨hp,g,d,tk,os⟩/\((m7=[(p1,p2),(q1,q2)]/\R (.ok (.ret (.bool (v5 x y)))) ⟨hp,g,d,tk,os⟩) ∨ (m7=[(q1,q2)]/\R (.ok (.ret (.bool (lexLt x.2 y.2)))) ⟨hp,g,d,tk,os⟩) ∨ (m7=[]/\R (.ok (.ret (.bool false))) ⟨hp,g,d,tk,os⟩))) _
  case turn =>
   rintro ⟨u,v⟩ m7 b s' ⟨hb',rfl,hR⟩
   rcases hR with ⟨e,hR⟩|⟨e,hR⟩|⟨e,hR⟩
   ·injection e with e1 e2
    injection e1 with eu ev
    subst eu ev
    refine wpAny_bind (eqs i1 i2 prog w _ _ ?_)
    by_cases c:x.1=y.1
    ·rw[decide_eq_true c]
     unfold v5 at hR
     rw[if_pos c] at hR
     wp_walk
     exact ⟨rfl,rfl,.inr (.inl ⟨e2,hR⟩)⟩
    ·rw[decide_eq_false c]
     unfold v5 at hR
     rw[if_neg c] at hR
     have hri:=lts i1 i2
     wp_walk using hri
     exact ⟨_,rfl,by simpa using hR⟩
   ·injection e with e1 e2
    injection e1 with eu ev
    subst eu ev
    refine wpAny_bind (eqs i3 i4 prog w _ _ ?_)
    by_cases c:x.2=y.2
    ·rw[decide_eq_true c]
     rw[c,lex_irr] at hR
     wp_walk
     exact ⟨rfl,rfl,.inr (.inr ⟨e2,hR⟩)⟩
    ·rw[decide_eq_false c]
     have hri:=lts i3 i4
     wp_walk using hri
     exact ⟨_,rfl,by simpa using hR⟩
   ·cases e
  case fin =>
   rintro ⟨b1,b2⟩ s' ⟨hb',rfl,hR⟩
   simp only at hb'
   subst hb'
   rcases hR with ⟨e,_⟩|⟨e,_⟩|⟨_,hR⟩
   ·cases e
   ·cases e
   ·wp_walk
    exact ⟨_,rfl,by simpa [Builtin.Tuple.tupleCompareSizes] using hR⟩
  case h=>exact ⟨rfl,rfl,.inl ⟨rfl,h⟩⟩
end
section
variable {prog:Program}{w:World}{A:Around}{s:Shared}
theorem a51 {E:Value->Shared->Prop}{l b:Addr}{p1 q1 p2 q2:Value}{x y:List Int × List Int}{Q:Value->Shared->Prop} (hl:IsTup s.heap l #[p1,q1]) (hb:IsTup s.heap b #[p2,q2])
  (i1:IntsAt s.heap p1 x.1) (i2:IntsAt s.heap p2 y.1) (i3:IntsAt s.heap q1 x.2) (i4:IntsAt s.heap q2 y.2) (hu:A.units+1<cLine) (h:Q (.bool (v5 x y)) s):wpAny (model prog w) A (richCompare .Lt (.ref l) (.ref b)) Q E s:=by
 obtain ⟨⟨cls,dd,data,sl⟩,ho,hc,n,hd⟩:=id hl
 obtain ⟨⟨cls2,dd2,data2,sl2⟩,ho2,hc2,n2,hd2⟩:=id hb
 simp only at hc hd hc2 hd2
 subst hc hd hc2 hd2
 exact richCompare_meets_room (op:=.Lt) ⟨_,ho,rfl⟩ ⟨_,ho2,rfl⟩ PySem.F.slot_tuple_lt PySem.F.entry_tuple_lt (PySem.F.args_tuple_lt_2 _ _) (a0j l b p1 q1 p2 q2 n n2 dd dd2 sl sl2 x y)
  ⟨ho,ho2,i1,i2,i3,i4,hu,show Value.bool (v5 x y)≠Value.notImplemented/\Q (.bool (v5 x y)) s from ⟨(fun x=>nomatch x),h⟩⟩ (by lia)
noncomputable def kept2:Option Value->Array Value
 | none=>#[]
 | some v=>#[v,v]
theorem a5O {R:Result->Shared->Prop}{I:Addr}{fp wr:List Addr}{n:Nat}{P:Nat->Value->Prop}{St:Nat->Heap->Prop} (W:Walks prog w A.in1 I fp wr n P St) (bt:Nat->Nat->Bool) (h0:Heap) (S:Addr) (hSf:S ∉ fp) (d:Value)
  (hcmp:∀i j vi vj (s:Shared) (Q:Value->Shared->Prop) (E:Value->Shared->Prop),(∀b o,b ∉ wr->b≠S->h0.get? b=some o->s.heap.get? b=some o)->P i vi->P j vj->Q (.bool (bt i j)) s->wpAny (model prog w) A.in1 (richCompare .Lt vi vj) Q E s):
  ∀(r j:Nat) (s:Shared) (ob:Option Value) (c:Nat),n - j=r->j<=n->St j s.heap->(∀b o,b ∉ wr->b≠S->h0.get? b=some o->s.heap.get? b=some o)->(match ob with|none=>j=0|some v=>0<j/\P (argBest bt (j - 1)) v) ->
  s.heap.get? S=some { cls:=.type "list",dict:=none,data:=.seq (kept2 ob) c,slots:=#[] } ->
  (∀v h' tk,(n=0/\v=d ∨ 0<n/\P (argBest bt (n - 1)) v)->(∀b o,b ∉ wr->b≠S->h0.get? b=some o->h'.get? b=some o)->R (.ok (.ret v)) { s with heap:=h',toks:=tk }) ->
  codeAny (model prog w) A (.builtin "min.loop" ⟨[.ref I,.none,.ref S],[("default",d)]⟩) R s:=by
 have hSw:S ∉ wr:=fun h=>hSf (W.sub _ h)
 have nm:(toString "min"++toString ".loop":String)="min.loop":=by decide
 intro r
 induction r with
 | zero =>
  intro j s ob c hk hj hst k0 hob hS hR
  have hin:j=n:=by lia
  subst hin
  refine codeAny_builtin PySem.F.entry_min_loop ?_
  rw[Around.under_plainId PySem.F.plain_min_loop _]
  show wpAny _ A.in1 (seqItems? (.ref S) >>= _) _ _ s
  refine wpAny_bind (wpAny_seqItems hS rfl ?_)
  cases ob with
  | none =>
   have hob:j=0:=hob
   subst hob
   show wpAny _ A.in1 (tryCatch (pyNext (.ref I)) _ >>= _) _ _ s
   refine wpAny_bind (wpAny_tryCatch (W.done s _ _ hst fun h' tk hk'=>?_))
   exact wpAny_bind (wpAny_rule (wpAny_pure (hR d h' tk (.inl ⟨rfl,rfl⟩) fun b o hw hs e=>hk' b o hw (k0 b o hw hs e))))
  | some v =>
   obtain ⟨hj0,hP⟩:=hob
   show wpAny _ A.in1 (tryCatch (pyNext (.ref I)) _ >>= _) _ _ s
   refine wpAny_bind (wpAny_tryCatch (W.done s _ _ hst fun h' tk hk'=>?_))
   have hS':=hk' S _ hSw hS
   show wpAny _ A.in1 (updateSeq S (fun _=>#[]) >>= _) _ _ _
   refine wpAny_bind ?_
   refine wpAny_updateSeq (hz:=by show 2<=sizeLine;decide) hS' rfl (wpAny_bind (wpAny_letGo (wpAny_pure ?_)))
   exact hR v _ tk (.inr ⟨hj0,hP⟩) fun b o hw hs e=>(Heap.get?_update_other _ _ (Ne.symm hs)).trans (hk' b o hw (k0 b o hw hs e))
 | succ r ih =>
  intro j s ob c hk hj hst k0 hob hS hR
  have hlt:j<n:=by lia
  have go:∀(h' h2:Heap) (tk c':Nat) (v:Value),St (j+1) h'->(∀b o,b ∉ wr->s.heap.get? b=some o->h'.get? b=some o)->(∀b,b≠S->∀o,h'.get? b=some o->h2.get? b=some o) ->
    P (argBest bt j) v->h2.get? S=some { cls:=.type "list",dict:=none,data:=.seq (kept2 (some v)) c',slots:=#[] } ->
    codeAny (model prog w) A (.builtin "min.loop" ⟨[.ref I,.none,.ref S],[("default",d)]⟩) R { s with heap:=h2,toks:=tk }:=fun h' h2 tk c' v st' k1 k2 hP hS2 =>
   ih (j+1) { s with heap:=h2,toks:=tk } (some v) c' (by lia) hlt (W.frame _ _ _ st' fun b hb o e=>k2 b (fun z=>hSf (z ▸ hb)) o e) (fun b o hw hs e=>k2 b hs o (k1 b o hw (k0 b o hw hs e))) ⟨by lia,hP⟩ hS2 fun v' h'' tk'' q kk=>hR v' h'' tk'' q kk
  refine codeAny_builtin PySem.F.entry_min_loop ?_
  rw[Around.under_plainId PySem.F.plain_min_loop _]
  show wpAny _ A.in1 (seqItems? (.ref S) >>= _) _ _ s
  refine wpAny_bind (wpAny_seqItems hS rfl ?_)
  cases ob with
  | none =>
   have hob:j=0:=hob
   subst hob
   show wpAny _ A.in1 (tryCatch (pyNext (.ref I)) _ >>= _) _ _ s
   refine wpAny_bind (wpAny_tryCatch (W.item 0 s _ _ hlt hst fun v h' tk hP hst' hk'=>?_))
   have hS':=hk' S _ hSw hS
   show wpAny _ A.in1 (updateSeq S (fun _=>#[v,v]) >>= _) _ _ _
   refine wpAny_bind ?_
   refine wpAny_updateSeq hS' rfl ?_
   rw[nm]
   exact wpAny_pure ⟨plainId_quiet PySem.F.plain_min_loop _,go h' _ tk _ v hst' hk' (fun b hb o e=>(Heap.get?_update_other _ _ (Ne.symm hb)).trans e) hP (Heap.get?_update_self _ hS' rfl)⟩
  | some vb =>
   obtain ⟨hj0,hPb⟩:=hob
   show wpAny _ A.in1 (tryCatch (pyNext (.ref I)) _ >>= _) _ _ s
   refine wpAny_bind (wpAny_tryCatch (W.item j s _ _ hlt hst fun v h' tk hP hst' hk'=>?_))
   have hS':=hk' S _ hSw hS
   show wpAny _ A.in1 (tryCatch (holding [v,v] (richCompare .Lt v vb >>= _)) _ >>= _) _ _ _
   refine wpAny_bind (wpAny_tryCatch (wpAny_holding (wpAny_bind (hcmp j (argBest bt (j - 1)) v vb _ _ _ (fun b o hw hs e=>hk' b o hw (k0 b o hw hs e)) hP hPb ?_))))
   refine wpAny_bind (wpAny_holding (wpAny_truthy_bool ?_))
   refine wpAny_bind (wpAny_letGo (wpAny_pure ?_))
   obtain ⟨i,rfl⟩:∃i,j=i+1:=⟨j - 1,by lia⟩
   rw[Nat.add_sub_cancel] at hPb ⊢
   cases hb:bt (i+1) (argBest bt i) with
   | true =>
    simp only[if_true]
    refine wpAny_bind ?_
    refine wpAny_updateSeq (hz:=by show 2<=sizeLine;decide) hS' rfl (wpAny_bind (wpAny_letGo ?_))
    rw[nm]
    exact wpAny_pure ⟨plainId_quiet PySem.F.plain_min_loop _,go h' _ tk _ v hst' hk' (fun b hb o e=>(Heap.get?_update_other _ _ (Ne.symm hb)).trans e) (by simp only[argBest,hb,if_true];exact hP) (Heap.get?_update_self _ hS' rfl)⟩
   | false =>
    simp only[Bool.false_eq_true,if_false]
    refine wpAny_bind (wpAny_letGo ?_)
    rw[nm]
    exact wpAny_pure ⟨plainId_quiet PySem.F.plain_min_loop _,go h' h' tk c vb hst' hk' (fun _ _ _ e=>e) (by simp only[argBest,hb,Bool.false_eq_true,if_false];exact hPb) hS'⟩
end
end L2
namespace L2
open PySem PySem.Spec PyProof.Rows HT
section
variable {X:Cx}
noncomputable def a4u (X:Cx) (f:Value) (k:Str) (r:List V->V->Hp->VK->Prop):Prop :=
 ∀(pins:List (Addr × Obj)) (s:Shared) (σ:St) (H:Hp) (xs:List V) (us:List Value) (y:V) (u:Value) (Q:VK),Inv X pins σ H s->Vals xs us->RelV y u->r xs y H Q ->
  wpAny (model X.prog X.w) X.A (call f us [(k,u)]) (EP X pins σ Q) X.xe s
noncomputable def tCK (r:List V->V->Hp->VK->Prop) (t:TA) (te:TE):TE:=fun σ H Q=>t σ H fun vs H1=>te σ H1 fun y H2=>r vs y H2 Q
theorem a49 {x k:Str}{p pos kp:Pos}{e ke:Expr}{es:List Expr}{t:TA}{te:TE}{id:String}{r:List V->V->Hp->VK->Prop} (hc:a4u X (.builtin id) k r) (hg:Gl X x) (hm:X.mg x=none) (hv:bootBuiltins x=some (.builtin id)) (ha:PA X (e::es) t) (hk:PE X ke te) (hn:x≠"__name__":=by decide) (hdb:(x == ("__debug__":Str))=false:=by decide)
  (he:starEach (e::es) X.env=(false,eval e X.env)::starEach es X.env:=by rfl) (hpl:(backTo pos (starEach es X.env)).any (·.1)=false:=by rfl):PE X (.Call (.Name x p) (e::es) [⟨some k,ke,kp⟩] pos) (tCK r t te):=by
 intro pins s σ H Q I h
 refine wpAny_Call_Name_kw (J9 I hg hm hv ?_ hn hdb)
 refine PyProof.Rows.callWith_kw (f7 (ha pos pins s σ H _ I h) fun us s1 ⟨vs,H1,I1,r1,q1⟩=>?_) ?_ ?_
 ·refine PyProof.Rows.kws_cons (f7 (hk pins s1 σ H1 _ I1 q1) fun u s2 ⟨y,H2,I2,r2,q2⟩=>PyProof.Rows.kws_nil ?_)
  exact hc pins s2 σ H2 vs us y u Q I2 r1 r2 q2
 ·rw[he];rfl
 ·rw[he];exact hpl
theorem a4b (a d:Value):argsOk "min" ⟨[a],[("default",d)]⟩:=by unfold argsOk;kernel_rfl
noncomputable def rMinD:List V->V->Hp->VK->Prop:=fun xs y H Q=>∃(p:Addr) (rs:List Addr) (ks:List (List Int × List Int)),xs=[.ref p]/\y=.non/\H p=some (.lst (rs.map V.ref))/\rs.length=ks.length /\
 (∀(j:Nat) r k,rs[j]?=some r->ks[j]?=some k->∃a b,H r=some (.tup [.ref a,.ref b])/\H a=some (.tup (k.1.map V.int))/\H b=some (.tup (k.2.map V.int))) /\
 (ks=[]->Q .non H)/\∀(j:Nat) r k,rs[j]?=some r->ks[j]?=some k->(∀k'∈ks,v5 k' k=false)->Q (.ref r) H
theorem a46 (hc:X.calm=true) (hu:X.A.units+64<cLine):a4u X (.builtin "min") "default" rMinD:=by
 intro pins s σ H xs us y u Q I r ry h
 obtain ⟨p,rs,ks,rfl,rfl,hp,hl,hk,q0,q1⟩:=h
 obtain ⟨u',rfl,ru⟩:=E1 r
 cases ru
 cases ry
 have tupH:∀{s':Shared},(∀b o,s.heap.get? b=some o->s'.heap.get? b=some o)->∀{t:Addr}{a b:Addr},H t=some (.tup [.ref a,.ref b])->IsTup s'.heap t #[.ref a,.ref b]:=fun {s'} kp {t a b} e=>by
  obtain ⟨_,its,rv,o,e1,e2,e3⟩:=(show ObjOk X.prog X.w H s.heap t (.tup [.ref a,.ref b]) from I.hok t _ e)
  have ei:=refs_vals (as:=[a,b]) rv
  subst ei
  exact ⟨o,kp _ _ e1,e2,e3⟩
 have intH:∀{s':Shared},(∀b o,s.heap.get? b=some o->s'.heap.get? b=some o)->∀{t:Addr}{ns:List Int},H t=some (.tup (ns.map V.int))->IntsAt s'.heap (.ref t) ns:=fun {s'} kp {t ns} e =>
  (a0p I.hok e).keep fun a o _ e=>kp a o e
 refine wpAny_call (codeAny_call_builtin PySem.F.plain_min PySem.F.entry_min ?_)
 simp only[checkBuiltinCall,PySem.F.kind_min]
 have body:wpAny (model X.prog X.w) X.A.in1 (Builtin.«min» ⟨[.ref p],[("default",.none)]⟩) (fun fin s'=>match fin with
   | .done f=>(match (Except.ok f:Result) with | .ok (.ret v)=>EP X pins σ Q v s' | .ok _=>False | .error e=>X.xe e s')
   | .again c'=>c'.quiet=true/\codeAny (model X.prog X.w) X.A c' (fun r s'=>match r with | .ok (.ret v)=>EP X pins σ Q v s' | .ok _=>False | .error e=>X.xe e s') s') X.xe s:=by
  have nm:(toString "min"++toString ".loop":String)="min.loop":=by decide
  show wpAny _ X.A.in1 (Builtin.Builtins.bindParams "min" ["key","default"] 0 ⟨[],[("default",.none)]⟩ >>= _) _ _ s
  refine wpAny_bind (wpAny_of_eq (show Builtin.Builtins.bindParams "min" ["key","default"] 0 ⟨[],[("default",.none)]⟩=pure [none,some .none] from rfl) (wpAny_bind (wpAny_pure (wpAny_bind ?_))))
  refine P8 (A:=X.A.in1) I (I.ok.hd hc) (.inl (.of hp)) fun its it fp wr St h2 rv W st hfp keep=>?_
  have ei:=refs_vals rv
  subst ei
  refine wpAny_bind (wpAny_newObj_type ?_)
  have hSf:h2.objs.size ∉ fp:=fun hm=>Nat.lt_irrefl _ (hfp _ hm)
  have kp:∀{h':Heap},(∀b o,b ∉ wr->b≠h2.objs.size->h2.get? b=some o->h'.get? b=some o)->∀b o,s.heap.get? b=some o->h'.get? b=some o:=fun k=>keep _ fun b o hw e=>k b o hw (Nat.ne_of_lt (Heap.lt_size e)) e
  rw[nm]
  have at':∀{i:Nat}{v:Value},(rs.map Value.ref)[i]?=some v->∃r,rs[i]?=some r/\v=.ref r/\ks[i]?=some (ks.getD i ([],[])):=fun {i v} e=>by
   rw[List.getElem?_map] at e
   cases hr:rs[i]? with
   | none=>rw[hr] at e;cases e
   | some r =>
    rw[hr] at e;cases e
    have hi:i<ks.length:=by rw[<- hl];exact (List.getElem?_eq_some_iff.mp hr).1
    exact ⟨r,rfl,rfl,by rw[List.getD_eq_getElem?_getD,List.getElem?_eq_getElem hi];rfl⟩
  refine wpAny_pure ⟨plainId_quiet PySem.F.plain_min_loop _,a5O W (fun i j=>v5 (ks.getD i ([],[])) (ks.getD j ([],[]))) h2 h2.objs.size hSf .none ?_ _ 0 _ none 0 rfl (Nat.zero_le _) (W.frame _ _ _ st fun b _ o e=>Heap.get?_push_of_some _ e) (fun b o _ _ e=>Heap.get?_push_of_some _ e) rfl (Heap.get?_push_size _ rfl) ?_⟩
  ·intro i j vi vj s' Q' E' k1 e1 e2 q
   obtain ⟨r1,g1,rfl,g2⟩:=at' e1
   obtain ⟨r2,g3,rfl,g4⟩:=at' e2
   obtain ⟨a1,b1,t1,t2,t3⟩:=hk i _ _ g1 g2
   obtain ⟨a2,b2,t4,t5,t6⟩:=hk j _ _ g3 g4
   exact a51 (tupH (kp k1) t1) (tupH (kp k1) t4) (intH (kp k1) t2) (intH (kp k1) t5) (intH (kp k1) t3) (intH (kp k1) t6) (by show X.A.units+1+1<cLine;lia) q
  ·intro v h' tk hv k1
   rcases hv with ⟨hn,rfl⟩|⟨hn,hv⟩
   ·have:ks=[]:=List.length_eq_zero_iff.mp (by rw[List.length_map] at hn;lia)
    exact ⟨.non,H,I.kept (kp k1),rfl,q0 this⟩
   ·obtain ⟨r,g1,rfl,g2⟩:=at' hv
    rw[List.length_map] at g1 g2 hn
    refine ⟨.ref r,H,I.kept (kp k1),rfl,q1 _ r _ g1 g2 fun k' hk'=>?_⟩
    obtain ⟨i,hi,rfl⟩:=List.getElem_of_mem hk'
    have:=(a2P (bt:=fun i j=>v5 (ks.getD i ([],[])) (ks.getD j ([],[]))) (fun a=>a5E _) (fun a b c=>P6) (rs.length - 1)).2 i (by lia)
    rw[List.getD_eq_getElem?_getD,List.getElem?_eq_getElem hi] at this
    exact this
 cases hsig:Manifest.signature? "min" with
 | none=>exact wpAny_pure body
 | some sig =>
  have ha:=a4b (.ref p) .none
  simp only[argsOk,hsig] at ha
  show wpAny _ X.A.in1 (Bind.checkArgs "min" sig ⟨[.ref p],[("default",.none)]⟩) _ _ s
  rw[show Bind.checkArgs "min" sig ⟨[.ref p],[("default",.none)]⟩=pure () from ha];exact wpAny_pure body
end
end L2
namespace L2
open PySem PySem.Spec PyProof.Rows
section
variable {X:Cx}{pins:List (Addr × Obj)}{σ:St}{H:Hp}{p d it:Addr}{rs:List Addr}{kvs:List (List Key × V)}{A:Around}{R:Result->Shared->Prop}
end
end L2
namespace L2
open PySem PySem.Spec PyProof.Rows HT
section
variable {prog:Program}{w:World}{A:Around}{E:Value->Shared->Prop}{s:Shared}
theorem a2f {l:Addr}{vs:List Value}{Q:List Value->Shared->Prop} (hl:IsTup s.heap l vs.toArray)
  (h:Q vs { s with heap:=(s.heap.push (seqObj "list" #[] 0)).update s.heap.objs.size (Obj.mapSeq (·++vs.toArray)) }) (hsz:vs.length<=sizeLine):wpAny (model prog w) A (collect (.ref l)) Q E s:=by
 obtain ⟨o,ho,hc,n,hd⟩:=id hl
 unfold collect
 refine wpAny_bind (wpAny_runValue (codeAny_builtin entry_proto_collect' ?_))
 show wpAny _ _ (do again (.builtin "list.__iadd__" ⟨[<- newList [],.ref l],[]⟩)) _ _ s
 refine wpAny_bind (wpAny_newList (wpAny_pure ⟨Code.quiet_builtin _ (by decide +kernel),codeAny_builtin entry_list_iadd' ?_⟩))
 show wpAny _ _ (Builtin.List.listExtendWith (.ref s.heap.objs.size) (.ref l) (.ref s.heap.objs.size)) _ _ { s with heap:=s.heap.push (seqObj "list" #[] 0) }
 unfold Builtin.List.listExtendWith
 have e1:(s.heap.push (seqObj "list" #[] 0)).get? l=some o:=Heap.get?_push_of_some _ ho
 refine wpAny_bind (wpAny_typeOf (T:="tuple") ⟨o,e1,hc⟩ ?_)
 rw[if_pos (by rw[Bool.or_eq_true];exact .inr rfl)]
 refine wpAny_bind (listItems_at e1 hd (wpAny_bind (listItems_at (xs:=#[]) (n:=0) (Heap.get?_push_size _ rfl) rfl ?_)))
 rw[if_neg (by simp)]
 refine wpAny_bind (listUpdate_at (xs:=#[]) (n:=0) (Heap.get?_push_size _ rfl) rfl (wpAny_pure ?_) (Nat.zero_le _) (by show (#[]++vs.toArray).size<=sizeLine+1;simp only[Array.size_append,List.size_toArray,List.length_nil];lia))
 show wpAny (model prog w) A (do
   let o <- load s.heap.objs.size
   match o.data with
   | .seq xs _=>pure xs.toList
   | _=>unsupported "internal:collect") Q E { s with heap:=(s.heap.push (seqObj "list" #[] 0)).update s.heap.objs.size (Obj.mapSeq (·++vs.toArray)) }
 refine wpAny_bind (wpAny_load (get?_update_seq (Heap.get?_push_size _ rfl) _) ?_)
 show wpAny _ _ (pure ((#[]:Array Value)++vs.toArray).toList) Q E _
 rw[show ((#[]:Array Value)++vs.toArray).toList=vs by simp]
 exact wpAny_pure h
end
section
variable {X:Cx}{H:Hp}
noncomputable def a7g (K:W.Frag):List V->Hp->VK->Prop:=fun xs H Q=>∃(p:Addr) (ns:List Int),xs=[.ref p]/\SqT K H p (ns.map V.int)/\ns.length<64 /\
 ∀(D:Addr) (ms:List Int) (H':Hp),ms.Perm ns->ms.Pairwise (·<=·)->Same H H'->H' D=some (.lst (ms.map V.int))->Q (.ref D) H'
theorem call_sortT:w5 X (.builtin "sorted") (a7g X.K):=by
 intro pins s σ H xs us Q I rr h
 obtain ⟨p,ns,rfl,hp,h64,q⟩:=h
 cases rr with
 | cons r1 rr =>
  cases rr
  cases r1
  obtain ⟨its,rv',hl,hz⟩:=I.tuple hp
  obtain ⟨eN,hint⟩:=ints_rv rv'
  have hIA:=K8 rv'
  have hil:its.length=ns.length:=by rw[<- eN,List.length_map]
  refine Calls.call_function_entry kind_sorted plain_sorted entry_sorted (args_sorted1 _) ?_
  unfold Builtin.«sorted»
  refine wpAny_bind (m:=checkCount "sorted" 1 1 _) (wpAny_pure ?_)
  refine wpAny_bind (a2f hl ?_ (by rw[sizeLine_eq];lia))
  refine wpAny_bind (wpAny_newList ?_ (by rw[sizeLine_eq];lia))
  obtain ⟨h',eh'⟩:∃h',h'=(s.heap.push (seqObj "list" #[] 0)).update s.heap.objs.size (Obj.mapSeq (·++its.toArray)):=⟨_,rfl⟩
  rw[<- eh']
  have hsz:h'.objs.size=s.heap.objs.size+1:=by rw[eh',Heap.size_update,size_push']
  have k1:∀b o,s.heap.get? b=some o->h'.get? b=some o:=fun b o q=>by
   have hlt:b<s.heap.objs.size:=Heap.lt_size q
   rw[eh',Heap.get?_update_ne _ _ _ _ (Nat.ne_of_lt hlt),Heap.get?_push_ne _ _ _ (Nat.ne_of_lt hlt)]
   exact q
  have hB:(h'.push (seqObj "list" its.toArray 0)).get? h'.objs.size=some (seqObj "list" its.toArray 0):=Heap.get?_push_size _ rfl
  have k2:∀b o,s.heap.get? b=some o->(h'.push (seqObj "list" its.toArray 0)).get? b=some o:=fun b o e=>Heap.get?_push_of_some _ (k1 b o e)
  have lt1:∀b o,s.heap.get? b=some o->b≠h'.objs.size:=fun b o e=>by
   have:=Heap.lt_size e
   rw[hsz]
   exact Nat.ne_of_lt (Nat.lt_succ_of_lt this)
  show wpAny _ _ _ _ _ { s with heap:=h'.push (seqObj "list" its.toArray 0) }
  refine wpAny_bind (wpAny_holding (wpAny_call_entry slot_list_sort ⟨_,hB,rfl⟩ entry_list_sort ?body (args_list_sort _)))
  refine So.sort_raw64 (rv:=rvI) (s:={ s with heap:=h'.push (seqObj "list" its.toArray 0) }) (vs:=its) hB (by rw[hil];exact h64) (fun h2 h1 kp=>?_) (fun h5 vs' c' hpm hup kp hB5=>?_)
  ·rw[PyProof.Rows.ksk_kind (keys:=its.toArray) (kz:=ns) (by simpa using hIA) (by simpa using h2)]
   refine wpAny_pure ⟨rfl,fun x y hx hy Q hQ=>?_⟩
   obtain ⟨x1,x2⟩:=x
   obtain ⟨y1,y2⟩:=y
   dsimp only at hx hy hQ ⊢
   obtain ⟨i,t,rfl⟩:=hint x1 hx
   obtain ⟨j,u,rfl⟩:=hint y1 hy
   exact W.kat_lt_int hQ
  ·refine ⟨_,rfl,wpAny_pure ⟨_,rfl,?_⟩⟩
   have hint':∀v∈vs',∃i t,v=Value.int i t:=fun v hv=>hint v (hpm.mem_iff.mp hv)
   have k5:∀b o,s.heap.get? b=some o->h5.get? b=some o:=fun b o e=>kp b o (lt1 b o e) (k2 b o e)
   have J:=I.lays (N:=fun b=>if b=h'.objs.size then some (.lst ((vs'.map rvI).map V.int)) else none) (h':=h5) (t':=s.toks) k5 (fun b o hb e=>?_)
   ·refine ⟨.ref h'.objs.size,_,J,rfl,q _ (vs'.map rvI) _ ?_ ?_ (fun b o e=>?_) ?_⟩
    ·rw[<- eN];exact hpm.map _
    ·rw[List.pairwise_map];exact hup
    ·show (if b<s.heap.objs.size then H b else _)=some o
     rw[if_pos (I.hok.lt e)];exact e
    ·show (if h'.objs.size<s.heap.objs.size then H h'.objs.size else (if h'.objs.size=h'.objs.size then _ else _))=_
     rw[if_neg (by rw[hsz];exact Nat.not_lt_of_le (Nat.le_succ _)),if_pos rfl]
   ·by_cases hbB:b=h'.objs.size
    ·rw[if_pos hbB] at e
     cases e
     refine ⟨?_,vs',c',vals_rv hint',?_⟩
     ·rw[List.length_map,List.length_map,hpm.length_eq,sizeLine_eq];lia
     ·rw[hbB,hB5]
    ·rw[if_neg hbB] at e
     cases e
end
end L2
namespace Mo
open L2 HT Mt Md
noncomputable def zI (ds:List Nat):List Int:=ds.map fun (k:Nat)=>(k:Int)
theorem P1 {a b:List Nat} (h:zI a=zI b):a=b:=by
 have:(fun (k:Nat)=>(k:Int)).Injective:=fun x y e=>by exact Int.ofNat.inj e
 exact (List.map_inj_right this).mp h
theorem G0 (a:List Nat):(zI a).length=a.length:=List.length_map ..
noncomputable def dr (n:Nat):Nat->List (List Nat)
 | 0=>[[]]
 | k+1=>(dr n k).flatMap fun d=>(List.range n).map fun j=>d++[j]
theorem v4 {n:Nat}:∀{k:Nat}{d:List Nat},d∈dr n k ↔ d.length=k/\∀x∈d,x<n
 | 0,d=>by
  unfold dr
  rw[List.mem_singleton]
  refine ⟨fun e=>by rw[e];exact ⟨rfl,fun x h=>by cases h⟩,fun ⟨h,_⟩=>List.length_eq_zero_iff.mp h⟩
 | k+1,d=>by
  unfold dr
  rw[List.mem_flatMap]
  constructor
  ·rintro ⟨a,ha,h⟩
   obtain ⟨j,hj,rfl⟩:=List.mem_map.mp h
   obtain ⟨h1,h2⟩:=v4.mp ha
   refine ⟨by rw[List.length_append,h1];rfl,fun x hx=>?_⟩
   rcases List.mem_append.mp hx with z|z
   ·exact h2 x z
   ·rw[List.mem_singleton.mp z];exact List.mem_range.mp hj
  ·rintro ⟨h1,h2⟩
   have hne:d≠[]:=fun z=>by rw[z] at h1;cases h1
   refine ⟨d.dropLast,v4.mpr ⟨by rw[List.length_dropLast];lia,fun x hx=>h2 x (List.dropLast_subset d hx)⟩,List.mem_map.mpr ⟨d.getLast hne,List.mem_range.mpr (h2 _ (List.getLast_mem hne)),List.dropLast_concat_getLast hne⟩⟩
theorem a1j (n:Nat):∀k,(dr n k).length=n ^ k
 | 0=>rfl
 | k+1=>by
  unfold dr
  rw[List.length_flatMap]
  have:(dr n k).map (fun d=>((List.range n).map fun j=>d++[j]).length)=(dr n k).map fun _=>n:=List.map_congr_left fun d _=>by rw[List.length_map,List.length_range]
  rw[this,List.map_const',List.sum_replicate_nat,a1j n k,Nat.pow_succ]
noncomputable def m8 (ds:List Nat):List Nat:=ds.mergeSort fun a b=>decide (a<=b)
theorem F4 (ds:List Nat):(m8 ds).Perm ds:=List.mergeSort_perm ..
theorem a1F (ds:List Nat):(m8 ds).Pairwise (·<=·):=by
 have:=List.pairwise_mergeSort (le:=fun (a b:Nat)=>decide (a<=b)) (fun a b c h1 h2=>by simp only[decide_eq_true_eq] at *;lia) (fun a b=>by simp only[Bool.or_eq_true,decide_eq_true_eq];lia) ds
 exact this.imp fun h=>of_decide_eq_true h
theorem a3G {a:List Nat} (h:a.Pairwise (·<=·)):(zI a).Pairwise (·<=·):=List.pairwise_map.mpr (h.imp fun h=>by lia)
theorem W9 {ms:List Int}{ds:List Nat} (h:ms.Perm (zI ds)) (hp:ms.Pairwise (·<=·)):ms=zI (m8 ds):=by
 have h2:ms.Perm (zI (m8 ds)):=h.trans ((F4 ds).map _).symm
 exact h2.eq_of_pairwise (fun a b _ _ x y=>by lia) hp (a3G (a1F ds))
theorem a47 {a b:List Nat} (h:a.Perm b):m8 a=m8 b:=P1 (W9 ((h.symm.map _ |>.symm |>.trans (List.Perm.refl _)) |> fun q=>((F4 a).map _).trans q) (a3G (a1F a)))
theorem a6F (a:List Nat):m8 (m8 a)=m8 a:=a47 (F4 a)
theorem lex_least:∀{ms ns:List Int},ms.Perm ns->ms.Pairwise (·<=·)->lexLt ns ms=false
 | [],ns,h,_=>by rw[h.symm.eq_nil];rfl
 | m::ms,[],h,_=>by cases h.eq_nil
 | m::ms,n::ns,h,hp=>by
  have hm:m<=n:=by
   rcases List.mem_cons.mp (h.mem_iff.mpr (List.mem_cons_self:n∈n::ns)) with e|e
   ·lia
   ·exact (List.pairwise_cons.mp hp).1 n e
  rw[A0]
  by_cases e:n=m
  ·subst e
   rw[if_pos rfl]
   exact lex_least ((List.perm_cons _).mp h) (List.pairwise_cons.mp hp).2
  ·rw[if_neg e];exact decide_eq_false (by lia)
theorem a0F (ds:List Nat):lexLt (zI ds) (zI (m8 ds))=false:=lex_least ((F4 ds).map _) (a3G (a1F ds))
theorem a1u {n k:Nat}{d:List Nat} (h:d∈dr n k):m8 d∈dr n k:=by
 obtain ⟨h1,h2⟩:=v4.mp h
 exact v4.mpr ⟨by rw[(F4 d).length_eq,h1],fun x hx=>h2 x ((F4 d).mem_iff.mp hx)⟩
noncomputable def Un (c:List Nat->Rat) (a b:List Nat):Prop:=lexLt (zI a) (zI b)=true/\m8 a=m8 b/\c a≠c b
noncomputable def IsF (c:List Nat->Rat) (R:List (List Nat)):Option (List Nat × List Nat)->Prop
 | none=>∀a∈R,∀b∈R,¬ Un c a b
 | some (a,b)=>a∈R/\b∈R/\Un c a b/\∀a'∈R,∀b'∈R,Un c a' b'->v5 (zI a',zI b') (zI a,zI b)=false
theorem a5r {a b a' b':List Int} (h1:v5 (a,b) (a',b')=false) (h2:v5 (a',b') (a,b)=false):a=a'/\b=b':=by
 unfold v5 at h1 h2
 dsimp only at h1 h2
 by_cases e:a=a'
 ·rw[if_pos e] at h1;rw[if_pos e.symm] at h2
  exact ⟨e,lex_tri h1 h2⟩
 ·rw[if_neg e] at h1;rw[if_neg (Ne.symm e)] at h2
  exact absurd (lex_tri h1 h2) e
theorem IsF.uniq {c:List Nat->Rat}{R:List (List Nat)}:∀{o1 o2:Option (List Nat × List Nat)},IsF c R o1->IsF c R o2->o1=o2
 | none,none,_,_=>rfl
 | none,some (a,b),h1,h2=>absurd h2.2.2.1 (h1 a h2.1 b h2.2.1)
 | some (a,b),none,h1,h2=>absurd h1.2.2.1 (h2 a h1.1 b h1.2.1)
 | some (a,b),some (a',b'),h1,h2=>by
  obtain ⟨e1,e2⟩:=a5r (h2.2.2.2 a h1.1 b h1.2.1 h1.2.2.1) (h1.2.2.2 a' h2.1 b' h2.2.1 h2.2.2.1)
  rw[P1 e1,P1 e2]
theorem a1M {c:List Nat->Rat}{b:List Nat} (h:c b≠c (m8 b)):Un c (m8 b) b:=by
 refine ⟨?_,a6F b,fun e=>h e.symm⟩
 cases e:lexLt (zI (m8 b)) (zI b) with
 | true=>rfl
 | false=>rw[P1 (lex_tri e (a0F b))] at h;exact absurd rfl h
theorem a2b {c:List Nat->Rat}{n k:Nat} (h:∀b∈dr n k,c b=c (m8 b)):IsF c (dr n k) none:=fun a ha b hb hu=>hu.2.2 (by rw[h a ha,h b hb,hu.2.1])
theorem a6a {c:List Nat->Rat}{n k:Nat}{b:List Nat} (hb:b∈dr n k) (hc:c b≠c (m8 b)) (hm:∀d∈dr n k,c d≠c (m8 d)->v5 (zI (m8 d),zI d) (zI (m8 b),zI b)=false):IsF c (dr n k) (some (m8 b,b)):=by
 refine ⟨a1u hb,hb,a1M hc,fun x hx y hy hu=>?_⟩
 cases q:v5 (zI x,zI y) (zI (m8 b),zI b) with
 | false=>rfl
 | true =>
  exfalso
  by_cases hcx:c x=c (m8 x)
  ·have hcy:c y≠c (m8 y):=fun e=>hu.2.2 (by rw[hcx,e,hu.2.1])
   have h1:=hm y hy hcy
   by_cases e:x=m8 y
   ·rw[e] at q;rw[q] at h1;cases h1
   ·have l:lexLt (zI (m8 y)) (zI x)=true:=by
     cases z:lexLt (zI (m8 y)) (zI x) with
     | true=>rfl
     | false=>exact absurd (P1 (lex_tri z (by rw[<- hu.2.1];exact a0F x))).symm e
    have:v5 (zI (m8 y),zI y) (zI x,zI y)=true:=by
     unfold v5;dsimp only;rw[if_neg fun z=>by rw[z,lex_irr] at l;cases l];exact l
    rw[P6 this q] at h1;cases h1
  ·have h1:=hm x hx hcx
   have l:=(a1M hcx).1
   have:v5 (zI (m8 x),zI x) (zI x,zI y)=true:=by
    unfold v5;dsimp only;rw[if_neg fun z=>by rw[z,lex_irr] at l;cases l];exact l
   rw[P6 this q] at h1;cases h1
end Mo
namespace L2
open PySem PySem.Spec PyProof.Rows
theorem a6O {K:W.Frag}{σ0:St}{te:TE}{H:Hp}{F:List V->Hp->Prop}{a:Addr}{xs:List V}{n i0 i1:Nat}{wj:TI} (Pv:Nat->Nat->List V->Hp->Prop) (h0:Pv 0 0 [] H) (hl:∀i j ys H,Pv i j ys H->ys.length<=sizeLine)
  (hq:∀i ys H,i<=xs.length->Pv i 0 ys H->SqL K H a xs) (hσ:σ0[i0]?=some none) (hσ1:σ0[i1]?=some none) (hne:i0≠i1)
  (hw:∀x H R,R (X4 0 n) H->wj (σ0.set i0 (some x)) H R)
  (hs:∀i j x ys H,xs[i]?=some x->j<n->Pv i j ys H->te ((σ0.set i0 (some x)).set i1 (some (.int (0+j)))) H fun y H'=>Pv i (j+1) (ys++[y]) H')
  (hx:∀i ys H,i<xs.length->Pv i n ys H->Pv (i+1) 0 ys H) (hd:∀ys H,Pv xs.length 0 ys H->F ys H):a5T (Itl K a) σ0 (r6 i0) wj (r6 i1) tTrue te H F:=by
 refine ⟨fun i m ys H=>m=xs.length - i/\i<=xs.length/\Pv i 0 ys H,⟨xs.length,by simp,Nat.zero_le _,h0⟩,?_⟩
 rintro i m ys H2 ⟨rfl,hi,p⟩
 have q:=hq i ys H2 hi p
 refine ⟨hl i 0 ys H2 p,?_⟩
 by_cases hlt:i<xs.length
 ·refine .inr ⟨⟨xs,xs[i],q,by simp[hlt]⟩,fun x H3 y=>?_⟩
  obtain ⟨rfl,y⟩:=y
  have hxi:=y xs q
  refine ⟨Wk.set (.inl hσ),hw x _ _ ?_⟩
  refine ⟨fun j m' ys H=>m'=n - j/\j<=n/\Pv i j ys H,⟨n,by simp,Nat.zero_le _,p⟩,?_⟩
  rintro j m' ys' H5 ⟨rfl,hj,p'⟩
  refine ⟨hl i j ys' H5 p',?_⟩
  by_cases hjn:j<n
  ·refine .inr ⟨hjn,fun y H'=>Pv i (j+1) (ys'++[y]) H',fun _=>False,fun y H' q=>⟨n - (j+1),by lia,rfl,hjn,q⟩,fun _ q=>q.elim,fun z H6 yz=>?_⟩
   obtain ⟨rfl,rfl⟩:=yz
   refine ⟨Wk.set (.inl ?_),hs i j x ys' _ hxi hjn p'⟩
   rw[List.getElem?_set_ne hne];exact hσ1
  ·have e:j=n:=by lia
   subst e
   exact .inl ⟨Nat.le_refl _,xs.length - (i+1),by lia,rfl,hlt,hx i ys' H5 hlt p'⟩
 ·have e:i=xs.length:=by lia
  subst e
  exact .inl ⟨⟨xs,q,Nat.le_refl _⟩,hd ys H2 p⟩
end L2
namespace G
open PySem PySem.Spec PyProof.Rows L2 Mt Md Mo
structure CtO (mg:Str->Option Value):Prop where
 order:∃t,mg "MOST_ORDER_DRAWS"=some (.int 4 t)
theorem boot_sorted:bootBuiltins "sorted"=some (Value.builtin "sorted"):=by decide +kernel
theorem Y1 {H:Hp}{p r:Addr}{a b:List Int}{Q:VK} (hp:H p=some (.tup (a.map V.int))) (hr:H r=some (.tup (b.map V.int))) (q:Q (.bl (!decide (a=b))) H):rNeD (.ref p) (.ref r) H Q :=
 a6R (l:=p+r+1) (Dt.mkI (Nat.ne_of_lt (Nat.lt_succ_of_le (Nat.le_add_right p r))) hp) (Dt.mkI (Nat.ne_of_lt (Nat.lt_succ_of_le (Nat.le_add_left r p))) hr) q
theorem Z8 (a:List Nat) (j:Nat):zI (a++[j])=zI a++[(j:Int)]:=by unfold zI;rw[List.map_append];rfl
theorem a00 {n k:Nat} (n4:n<=4) (k4:k<=4):(dr n k).length<=256:=by
 rw[a1j]
 exact Nat.le_trans (Nat.pow_le_pow_left n4 k) (Nat.pow_le_pow_right (n:=4) (by decide) k4)
section
variable {P:Program}{w:World}{K:W.Frag}{mg:Str->Option Value}{base:Heap}{f:Addr}{fd:FuncData}{ec:Nat->Addr}{Bs:Addr}
noncomputable def sp_ad:Sp:=fun vs H Q _=>∃n k:Nat,vs=[.int n,.int k]/\n<=4/\k<=4/\∀p ys H',Same H H'->H' p=some (.lst ys)->TL H' ((dr n k).map zI) ys->Q (.ref p) H'
noncomputable abbrev s_ad:Stmt:=u7 34
theorem sc_ad:FnScope ["kinds","many","found","turn"] ["kinds","many"] (d5 s_ad):=⟨rfl,rfl,rfl,by decide +kernel,rfl,by decide +kernel,by decide +kernel⟩
theorem a8q (F:Fun K "all_draws" "all_draws" s_ad f fd) (B:Bt mg):FnOk P w K mg base CX0 1 f fd ["kinds","many"] sp_ad:=by
 refine F.ok sc_ad (fun vs H Q E h=>?_) (fun cdv A outer s H vs Q E hr h=>?_)
 ·obtain ⟨n,k,rfl,_⟩:=h
  rfl
 obtain ⟨n,k,rfl,n4,k4,q⟩:=h
 refine ⟨_,b8 (f9 (i:=2) sc_ad.nd rfl (Or.inl rfl) (D4 (b5 (u3 pa_nil) pa_nil)))
  (b8 (B1 PassesOwn.never rfl (i9 rfl B.range (b5 (pv 1) pa_nil)) (u5 (i:=3) sc_ad.nd rfl (Or.inl rfl))
   (c0 (a2o (N:=["draws","kind","kinds"]) (ix:=[none,none,some 0]) (fs:=[]) (tc:=tTrue) (i:=2) rfl sc_ad.nd rfl rfl (G7 (pv 2))
    (fun s H ex=>v0 (i:=0) (by decide +kernel) rfl (Or.inl rfl) (.inr rfl)) (fun s H ex=>i9 rfl B.range (b5 (pv 2) pa_nil)) (fun s H ex=>v0 (i:=1) (by decide +kernel) rfl (Or.inl rfl) (.inr rfl)) (fun s H ex=>pifs_nil)
    (fun s H ex=>f8 catS (pv 0) (u3 (b5 (pv 1) pa_nil))) rfl (by decide +kernel) (by rfl) (by rfl) (fun _=>rfl) (fun _ _ _ _=>rfl) (by rfl))))
  (c0 (f6 (pv 2)))),?_⟩
 refine ⟨(by show 0<=sizeLine;decide),fun p0 hp0=>⟨(by show 1<=sizeLine;decide),fun pl hpl=>?_⟩⟩
 have g0:Same H (b7 H p0 (.tup [])):=Same.new hp0
 have h0:b7 H p0 (.tup []) p0=some (.tup []):=b6
 try dsimp -proj only[r6] at *
 generalize b7 H p0 (.tup [])=H0 at g0 h0 hpl
 have g1:Same H0 (b7 H0 pl (.lst [.ref p0])):=Same.new hpl
 have h1:b7 H0 pl (.lst [.ref p0]) pl=some (.lst [.ref p0]):=b6
 generalize b7 H0 pl (.lst [.ref p0])=H1 at g1 h1
 refine ⟨_,rfl,(k:Int),rfl,by lia,by lia,?_⟩
 refine K3 (lo:=0) (n:=k) (fun j σ H4=>Same H H4/\j<=k/\∃p ys o3,σ=[some (.int n),some (.int k),some (.ref p),o3]/\H4 p=some (.lst ys)/\TL H4 ((dr n j).map zI) ys)
  ⟨g0.trans g1,Nat.zero_le _,pl,_,none,rfl,h1,⟨p0,rfl,g1 _ _ h0⟩,trivial⟩ (fun j σ H4 hj h=>?_) (fun σ H4 h=>?_)
 ·obtain ⟨g4,hjk,p,ys,o3,rfl,hp4,hT⟩:=h
  have lA:=a00 (n:=n) (k:=j) n4 (by lia)
  have lB:=a00 (n:=n) (k:=j+1) n4 (by lia)
  have ed:dr n (j+1)=(dr n j).flatMap fun d=>(List.range n).map fun y=>d++[y]:=rfl
  have dm:∀d∈dr n j,d.length=j:=fun d hd=>(v4.mp hd).1
  generalize dr n (j+1)=A' at ed lB
  generalize dr n j=A at hT lA ed dm
  have yl:ys.length=A.length:=by rw[<- hT.len,List.length_map]
  refine ⟨_,rfl,p,rfl,⟨_,.of hp4⟩,?_⟩
  refine a6O (xs:=ys) (n:=n) (fun i y cs H7=>Same H4 H7/\i<=A.length/\y<=n/\(y=0 ∨ i<A.length)/\TL H7 (((A.take i).flatMap (fun d=>(List.range n).map fun y=>d++[y])++(List.range y).map fun y=>A.getD i []++[y]).map zI) cs)
   ⟨Same.refl _,Nat.zero_le _,Nat.zero_le _,.inl rfl,trivial⟩ (fun i y cs H7 h=>?_) (fun i cs H7 _ h=>.of (h.1 _ _ hp4)) rfl rfl (by decide) (fun x H7 R h=>⟨_,rfl,(n:Int),rfl,by lia,by lia,h⟩) (fun i y x cs H7 hx hy h=>?_) (fun i cs H7 hi h=>?_) (fun cs H7 h=>?_)
  ·obtain ⟨_,hi,hy,hz,hc⟩:=h
   refine sz ?_
   rw[<- hc.len,List.length_map,List.length_append,List.length_map,List.length_range]
   have:∀i,((A.take i).flatMap fun d=>(List.range n).map fun y=>d++[y]).length<=A'.length:=fun i=>by
    rw[ed]
    conv=>rhs;rw[<- List.take_append_drop i A,List.flatMap_append,List.length_append]
    lia
   have:=this i
   lia
  ·obtain ⟨g7,hi,hyn,hz,hc⟩:=h
   obtain ⟨z,d,hz',rfl,hd⟩:=(hT.same g7).get hx
   rw[List.getElem?_map] at hz'
   obtain ⟨s0,hs0,ez⟩:=Option.map_eq_some_iff.mp hz'
   subst ez
   have e0:(0:Int)+(y:Int)=(y:Int):=by lia
   rw[e0]
   have sl:=dm s0 (List.mem_of_getElem? hs0)
   refine ⟨_,rfl,_,rfl,(by show 1<=sizeLine;decide),fun p1 hp1=>⟨d,p1,(zI s0).map V.int,[.int y],rfl,rfl,(Same.new hp1) _ _ hd,b6,(by rw[List.length_map,G0];show s0.length+1<=_;lia),fun pd Hc gc hpd=>⟨g7.trans ((Same.new hp1).trans gc),hi,by lia,.inr (List.getElem?_eq_some_iff.mp hs0).1,?_⟩⟩⟩
   rw[List.map_append] at hc
   rw[List.range_succ,List.map_append,List.map_append,List.map_append,<- List.append_assoc]
   refine TL.snoc ?_ (hc.same ((Same.new hp1).trans gc))
   rw[hpd,List.getD_eq_getElem?_getD,hs0]
   show _=some (HO.tup ((zI (s0++[y])).map V.int))
   rw[Z8,List.map_append];rfl
  ·obtain ⟨g7,_,_,_,hc⟩:=h
   refine ⟨g7,by lia,Nat.zero_le _,.inl rfl,?_⟩
   have hi':i<A.length:=by lia
   rw[List.range_zero,List.map_nil,List.append_nil,List.take_add_one,List.getElem?_eq_getElem hi',List.flatMap_append]
   rw[List.getD_eq_getElem?_getD,List.getElem?_eq_getElem hi'] at hc
   simpa using hc
  ·obtain ⟨g7,_,_,_,hc⟩:=h
   intro pc hpc
   refine ⟨(g4.trans g7).trans (Same.new hpc),by lia,pc,cs,_,rfl,b6,?_⟩
   rw[List.range_zero,List.map_nil,List.append_nil,yl,List.take_length,<- ed] at hc
   exact hc.same (Same.new hpc)
 ·obtain ⟨g4,_,p,ys,o3,rfl,hp4,hT⟩:=h
  exact ⟨_,rfl,q p ys H4 g4 hp4 hT⟩
end
end G
namespace G
open PySem PySem.Spec PyProof.Rows L2 Mt Md Mo
theorem a01 {st:Addr}{H H':Hp}{o:HO} (hst:H st=some o) (ho:∀xs,o≠.tup xs) (k:Kp st H H'):∀a xs,H a=some (.tup xs)->H' a=some (.tup xs):=fun a xs q=>k _ _ (fun z=>by rw[z,hst] at q;exact ho _ (Option.some.inj q)) q
noncomputable def PL (H:Hp):List (List Int × List Int)->List V->Prop
 | [],[]=>True
 | k::ks,x::xs=>(∃r a b,x=.ref r/\H r=some (.tup [.ref a,.ref b])/\H a=some (.tup (k.1.map V.int))/\H b=some (.tup (k.2.map V.int)))/\PL H ks xs
 | _,_=>False
theorem PL.to {H H':Hp} (k:∀a xs,H a=some (.tup xs)->H' a=some (.tup xs)):∀{ks:List (List Int × List Int)}{xs:List V},PL H ks xs->PL H' ks xs
 | [],[],_=>trivial
 | _::_,_::_,h=>⟨let ⟨r,a,b,e,h1,h2,h3⟩:=h.1;⟨r,a,b,e,k _ _ h1,k _ _ h2,k _ _ h3⟩,PL.to k h.2⟩
 | [],_::_,h=>h.elim
 | _::_,[],h=>h.elim
theorem PL.snoc {H:Hp}{r a b:Addr}{x:List Int × List Int} (h1:H r=some (.tup [.ref a,.ref b])) (h2:H a=some (.tup (x.1.map V.int))) (h3:H b=some (.tup (x.2.map V.int))):∀{ks:List (List Int × List Int)}{xs:List V},PL H ks xs->PL H (ks++[x]) (xs++[.ref r])
 | [],[],_=>⟨⟨r,a,b,rfl,h1,h2,h3⟩,trivial⟩
 | _::_,_::_,h=>⟨h.1,PL.snoc h1 h2 h3 h.2⟩
 | [],_::_,h=>h.elim
 | _::_,[],h=>h.elim
theorem PL.refs {H:Hp}:∀{ks:List (List Int × List Int)}{xs:List V},PL H ks xs->∃rs:List Addr,xs=rs.map V.ref/\rs.length=ks.length/\∀(j:Nat) r k,rs[j]?=some r->ks[j]?=some k->∃a b,H r=some (.tup [.ref a,.ref b])/\H a=some (.tup (k.1.map V.int))/\H b=some (.tup (k.2.map V.int))
 | [],[],_=>⟨[],rfl,rfl,fun j r k h=>by cases h⟩
 | k0::ks,x::xs,h=>by
  obtain ⟨r,a,b,e,h1,h2,h3⟩:=h.1
  obtain ⟨rs,e2,e3,e4⟩:=PL.refs h.2
  refine ⟨r::rs,by rw[e,e2];rfl,by rw[List.length_cons,List.length_cons,e3],fun j r' k hr hk=>?_⟩
  cases j with
  | zero=>cases hr;cases hk;exact ⟨a,b,h1,h2,h3⟩
  | succ j=>exact e4 j r' k (by simpa using hr) (by simpa using hk)
 | [],_::_,h=>h.elim
 | _::_,[],h=>h.elim
noncomputable def a8k (H:Hp):Option (List Nat × List Nat)->V->Prop
 | none,u=>u=.non
 | some (a,b),u=>∃p x y,u=.ref p/\H p=some (.tup [.ref x,.ref y])/\H x=some (.tup ((zI a).map V.int))/\H y=some (.tup ((zI b).map V.int))
structure AskO (st:Addr) (H:Hp) (n:Nat) (ns:List Int) (rs:List (List Int)) (k:Nat) (a:Addr) (v:V):Prop where
 u:Dt st H (DI ns) (.ref a)
 uu:Mt.Urn n 20 ns
 r:Dt st H (DR rs) v
 ru:Mt.Rul n 5 rs
 n1:1<=n
 n4:n<=4
 k4:k<=4
 t:∃o,H st=some o/\∀xs,o≠.tup xs
theorem AskO.same {st:Addr}{H H':Hp}{n:Nat}{ns:List Int}{rs:List (List Int)}{k:Nat}{a:Addr}{v:V} (h:AskO st H n ns rs k a v) (g:Same H H'):AskO st H' n ns rs k a v :=
 ⟨h.u.kp (g.kp st),h.uu,h.r.kp (g.kp st),h.ru,h.n1,h.n4,h.k4,let ⟨o,e,q⟩:=h.t;⟨o,g _ _ e,q⟩⟩
theorem AskO.ask {st:Addr}{H:Hp}{n:Nat}{ns:List Int}{rs:List (List Int)}{k:Nat}{a d:Addr}{v:V}{ks:List Nat} (h:AskO st H n ns rs k a v) (hd:H d=some (.tup ((zI ks).map V.int))) (hk:ks∈dr n k):V3 st H n ns rs ks a v d:=by
 obtain ⟨o,e,q⟩:=h.t
 obtain ⟨h1,h2⟩:=v4.mp hk
 exact ⟨h.u,h.uu,h.r,h.ru,.inl <| Dt.mkI (fun z=>by rw[z,e] at hd;exact q _ (by injection hd)) hd,h.n1,h.n4,by have:=h.k4;lia,h2⟩
noncomputable def chO (rs:List (List Int)) (ns:List Int) (d:List Nat):Rat:=(u0 rs ns d).1
noncomputable def V5 (c:List Nat->Rat) (A:List (List Nat)):List (List Int × List Int):=(A.filter fun d=>!decide (c d=c (m8 d))).map fun d=>(zI (m8 d),zI d)
theorem a1I (c:List Nat->Rat) (A:List (List Nat)) (d:List Nat):V5 c (A++[d])=V5 c A++(if c d=c (m8 d) then [] else [(zI (m8 d),zI d)]):=by
 unfold V5
 rw[List.filter_append,List.map_append]
 by_cases h:c d=c (m8 d)
 ·rw[if_pos h];simp[h]
 ·rw[if_neg h];simp[h]
theorem a6Q (c:List Nat->Rat) (A:List (List Nat)):(V5 c A).length<=A.length:=by unfold V5;rw[List.length_map];exact List.length_filter_le ..
theorem a6s {c:List Nat->Rat}{n k:Nat}:(V5 c (dr n k)=[]->IsF c (dr n k) none)/\∀x,x∈V5 c (dr n k)->(∀y∈V5 c (dr n k),v5 y x=false)->∃a b,x=(zI a,zI b)/\IsF c (dr n k) (some (a,b)):=by
 refine ⟨fun h=>a2b fun b hb=>?_,fun x hx hm=>?_⟩
 ·by_cases e:c b=c (m8 b)
  ·exact e
  ·have:(zI (m8 b),zI b)∈V5 c (dr n k):=List.mem_map.mpr ⟨b,List.mem_filter.mpr ⟨hb,by simp[e]⟩,rfl⟩
   rw[h] at this;cases this
 ·obtain ⟨b,hb,rfl⟩:=List.mem_map.mp hx
  obtain ⟨hb1,hb2⟩:=List.mem_filter.mp hb
  refine ⟨m8 b,b,rfl,a6a hb1 (by simpa using hb2) fun d hd hc=>hm _ (List.mem_map.mpr ⟨d,List.mem_filter.mpr ⟨hd,by simp[hc]⟩,rfl⟩)⟩
noncomputable def a7f (d e g:PyData) (i:Nat):Prop:=(i=0/\E7 20 d=false) ∨ (i=1/\E7 20 d=true/\E2 (lenD d) e=false) ∨ (i=5/\E7 20 d=true/\E2 (lenD d) e=true/\w6 0 4 g=false)
noncomputable def a7w (ec:Nat->Addr) (vs:List V) (H:Hp) (E:XK):Prop:=∃(st:Addr) (u v x:V) (d e g:PyData) (i:Nat),vs=[u,v,x]/\Dt st H d u/\E4 d/\Dt st H e v/\ok2 e/\Dt st H g x/\a7f d e g i/\∀H',Same H H'->E (.ref (ec i)) none H'
theorem sm_4:Sm 4:=a5W (by decide) (by decide)
section
variable {P:Program}{w:World}{K:W.Frag}{mg:Str->Option Value}{base:Heap}{f:Addr}{fd:FuncData}{ec:Nat->Addr}{Bs:Addr}
noncomputable def sp_fuV:Sp:=fun vs H Q _=>∃(st a:Addr) (v:V) (n k:Nat) (ns:List Int) (rs:List (List Int)),vs=[.ref a,v,.int k]/\AskO st H n ns rs k a v /\
 ∀o u H',Same H H'->IsF (chO rs ns) (dr n k) o->a8k H' o u->Q u H'
noncomputable def a03 (ec:Nat->Addr):Sp:=fun vs H Q E=>a7w ec vs H E ∨ sp_fuV vs H Q E
noncomputable abbrev s_fu:Stmt:=u7 35
theorem sc_fu:FnScope ["urn","rule","draws","unlike","order","least"] ["urn","rule","draws"] (d5 s_fu):=⟨rfl,rfl,rfl,by decide +kernel,rfl,by decide +kernel,by decide +kernel⟩
theorem a8r (F:Fun K "first_unlike" "first_unlike" s_fu f fd) (B:Bt mg) (B3:Bt3 mg) (C2:CtO mg) (c1:CalX P w K mg base 6 "need_urn_and_rule" ["urn","rule"] (T8 ec)) (c2:CalX P w K mg base 2 "need_number" ["thing","low","high"] (D9 ec)) (c3:Cal P w K mg base 1 "all_draws" ["kinds","many"] sp_ad) (c4:CalX P w K mg base 8 "chance_of" ["urn","rule","draws"] (G2 ec)):FnOk P w K mg base (A9 P w) 9 f fd ["urn","rule","draws"] (a03 ec):=by
 refine F.okX sc_fu (fun vs H Q E h=>?_) (fun cdv A outer s H vs Q E hr h=>?_)
 ·rcases h with ⟨st,u,v,x,d,e,g,i,rfl,_⟩|⟨st,a,v,n,k,ns,rs,rfl,_⟩
  ·rfl
  ·rfl
 obtain ⟨tw,hW⟩:=C2.order
 refine ⟨_,b8 (A2 (j7 (c1.up (by decide)) hr rfl passes1 (b5 (pv 0) (b5 (pv 1) pa_nil)))) (b8 (A2 (j7 (c2.up (by decide)) hr rfl passes1 (b5 (pv 2) (b5 b9 (b5 (J3 (v:=.int 4) rfl hW ⟨tw,rfl⟩) pa_nil)))))
  (PSs.nox (b8 (f9 (i:=3) sc_fu.nd rfl (Or.inl rfl) (D4 pa_nil))
  (b8 (B1 PassesOwn.never rfl (G7 (d7 (c3.up (by decide)) hr rfl (b5 (d8 call_len_seq rfl B.len PySem.boot_len (b5 (pv 0) pa_nil)) (b5 (pv 2) pa_nil)))) (u5 (i:=4) sc_fu.nd rfl (Or.inl rfl))
   (b8 (f9 (i:=5) sc_fu.nd rfl (Or.inl rfl) (i7 call_tuple_of rfl B.tuple boot_tuple (b5 (d8 call_sortT rfl B3.sorted boot_sorted (b5 (pv 4) pa_nil)) pa_nil)))
   (c0 (t8 (j9 (R3 hr.units) (j7 c4 hr rfl B5 (b5 (pv 0) (b5 (pv 1) (b5 (pv 4) pa_nil)))) (j7 c4 hr rfl B5 (b5 (pv 0) (b5 (pv 1) (b5 (pv 5) pa_nil)))) (j4 _))
    (c0 (A2 (a3p PySem.F.plainAttrs_list PySem.F.slot_list_append PySem.F.type_list_append mt_append (pv 3) (b5 (u3 (b5 (pv 5) (b5 (pv 4) pa_nil))) pa_nil)))) pss_nil))))
  (c0 (f6 (a49 (a46 rfl hr.units) rfl B.min boot_min (b5 (pv 3) pa_nil) a4H))))))),?_⟩
 rcases h with ⟨st,u,v,x,d,e,g,i,rfl,hu,hus,hv,hvo,hx,due,q⟩|⟨st,a,v,n,k,ns,rs,rfl,hA,q⟩
 ·unfold a7f at due
  refine ⟨_,rfl,_,rfl,u,v,st,d,e,rfl,hu,hus,hv,hvo,fun hw H1 g1=>?_,fun hw hw2 H1 g1=>?_,fun hw hw2 H1 g1=>?_⟩
  ·rcases due with ⟨rfl,_⟩|⟨_,z,_⟩|⟨_,z,_⟩
   ·exact q H1 g1
   all_goals (rw[hw] at z;cases z)
  ·rcases due with ⟨_,z⟩|⟨rfl,_⟩|⟨_,_,z,_⟩
   ·rw[hw] at z;cases z
   ·exact q H1 g1
   ·rw[hw2] at z;cases z
  ·rcases due with ⟨_,z⟩|⟨_,_,z⟩|⟨rfl,_,_,z⟩
   ·rw[hw] at z;cases z
   ·rw[hw2] at z;cases z
   ·exact ⟨_,rfl,x,st,g,0,4,rfl,hx.kp (g1.kp st),sm_0,sm_4,(fun zt=>by rw[z] at zt;cases zt),fun _=>q H1 g1⟩
 ·have hU:=hA.uu
  have hR:=hA.ru
  have n1:=hA.n1
  have n4:=hA.n4
  have k4:=hA.k4
  obtain ⟨a',e,_,ha⟩:=hA.u.di
  cases e
  have uok:=a0e hU n1 n4
  have rok:E2 (lenD (DI ns):Int) (DR rs)=true:=by rw[B6,hU.len];exact W6 hR
  have hlen:=hR.len
  refine ⟨_,rfl,_,rfl,_,_,st,DI ns,DR rs,rfl,hA.u,L8 (by rw[hU.len];lia),hA.r,⟨W5 (by lia),R7 hR (by lia)⟩,(fun z=>by rw[uok] at z;cases z),(fun _ z=>by rw[rok] at z;cases z),fun _ _ H1 g1=>?_⟩
  have hwk:w6 0 4 (.int (k:Int))=true:=by
   show (decide ((0:Int)<=(k:Int))&&decide ((k:Int)<=4))=true
   rw[decide_eq_true (by lia),decide_eq_true (by lia)];rfl
  refine ⟨_,rfl,_,st,.int k,0,4,rfl,Dt.int _ _ _,sm_0,sm_4,(fun _=>?_),(fun z=>by rw[hwk] at z;cases z)⟩
  refine ⟨(by show 0<=sizeLine;decide),fun lu hlu=>?_⟩
  have g2:Same H1 (b7 H1 lu (.lst [])):=Same.new hlu
  have h2:b7 H1 lu (.lst []) lu=some (.lst []):=b6
  have hHl:H lu=none:=g1.free hlu
  try dsimp -proj only
  generalize b7 H1 lu (.lst [])=H2 at g2 h2
  have g12:=g1.trans g2
  have ha2:=g12 _ _ ha
  have eN:((ns.map V.int).length:Int)=(n:Int):=by rw[List.length_map,hU.len]
  refine ⟨_,rfl,a,_,rfl,.inr (.of ha2),_,rfl,n,k,(by show [V.int ((ns.map V.int).length:Int),V.int (k:Int)]=_;rw[eN]),n4,k4,fun pa ys H3 g3 hpa hT=>?_⟩
  have lA:=a00 n4 k4
  have yl:ys.length=(dr n k).length:=by rw[<- hT.len,List.length_map]
  have hlu3:=g3 _ _ h2
  have y1:0<ys.length:=by rw[yl,a1j];exact Nat.pow_pos (by lia)
  have npa:pa≠lu:=fun e=>by
   rw[e,hlu3] at hpa
   injection hpa with z
   injection z with z
   rw[<- z] at y1;cases y1
  have nls:∀xs ys,HO.lst xs≠.tup ys:=fun _ _ z=>by cases z
  have g13:=g12.trans g3
  refine ⟨pa,rfl,⟨_,.of hpa⟩,?_⟩
  refine M0 (K:=K) (a:=pa) (xs:=ys) (fun i σ H6=>Kp lu H3 H6/\(∃zs,H6 lu=some (.lst zs)/\PL H6 (V5 (chO rs ns) ((dr n k).take i)) zs)/\i<=ys.length/\∃o4 o5,σ=[some (.ref a),some v,some (.int k),some (.ref lu),o4,o5])
   ⟨Kp.refl _ _,⟨[],hlu3,trivial⟩,Nat.zero_le _,none,none,rfl⟩ (fun i σ H6 _ h=>.of (h.1 _ _ npa hpa)) (fun i t σ H6 ht h=>?_) (fun σ H6 h=>?_)
  ·obtain ⟨k6,⟨zs,hz6,hP⟩,hi,o4,o5,rfl⟩:=h
   have t36:=a01 hlu3 (nls _) k6
   obtain ⟨z,d,hz,rfl,hd3⟩:=hT.get ht
   rw[List.getElem?_map] at hz
   obtain ⟨s0,hs0,ez⟩:=Option.map_eq_some_iff.mp hz
   subst ez
   have hm:=List.mem_of_getElem? hs0
   have hd6:=t36 _ _ hd3
   have sl:s0.length<=4:=by rw[(v4.mp hm).1];exact k4
   have il:=(List.getElem?_eq_some_iff.mp ht).1
   have hl6:Same H H6:=fun b o e=>k6 _ _ (fun z=>by rw[z,hHl] at e;cases e) (g13 _ _ e)
   have etk:(dr n k).take (i+1)=(dr n k).take i++[s0]:=by rw[List.take_add_one,hs0];rfl
   refine ⟨_,rfl,d,zI s0,rfl,.of hd6,by rw[G0];lia,fun D ms H7 hpm hpw g7 hD=>?_⟩
   have em:=W9 hpm hpw
   subst em
   refine ⟨D,_,rfl,.inl ⟨.of hD,fun t ht'=>?_⟩⟩
   have g8:Same H6 (b7 H7 t (.tup ((zI (m8 s0)).map V.int))):=g7.trans (Same.new ht')
   have ht8:b7 H7 t (.tup ((zI (m8 s0)).map V.int)) t=some (.tup ((zI (m8 s0)).map V.int)):=b6
   try dsimp -proj only
   generalize b7 H7 t (.tup ((zI (m8 s0)).map V.int))=H8 at g8 ht8
   have A8:=hA.same (hl6.trans g8)
   refine ⟨_,rfl,_,rfl,_,rfl,.inr ⟨st,a,d,v,n,ns,rs,s0,rfl,A8.ask (g8 _ _ hd6) hm,fun q1 H9 g9 hq1=>?_⟩⟩
   refine ⟨_,rfl,_,rfl,_,rfl,.inr ⟨st,a,t,v,n,ns,rs,m8 s0,rfl,(A8.same g9).ask (g9 _ _ ht8) (a1u hm),fun q2 Ha ga hq2=>?_⟩⟩
   refine Y1 (ga _ _ hq1) hq2 ?_
   have gA:Same H6 Ha:=g8.trans (g9.trans ga)
   have hzA:=gA _ _ hz6
   have hPA:=hP.to (H':=Ha) fun b xs e=>gA _ _ e
   by_cases hc:chO rs ns s0=chO rs ns (m8 s0)
   ·have e1:decide (fr (u0 rs ns s0).1=fr (u0 rs ns (m8 s0)).1)=true:=decide_eq_true (by have:(u0 rs ns s0).1=(u0 rs ns (m8 s0)).1:=hc;rw[this])
    rw[e1]
    refine ⟨false,rfl,q5 ⟨k6.trans (gA.kp lu),⟨zs,hzA,?_⟩,il,_,_,rfl⟩⟩
    rw[etk,a1I,if_pos hc,List.append_nil];exact hPA
   ·have e1:decide (fr (u0 rs ns s0).1=fr (u0 rs ns (m8 s0)).1)=false:=decide_eq_false fun z=>hc (a5a z)
    rw[e1]
    refine ⟨true,rfl,u6 ⟨_,rfl,.inl ⟨rfl,_,.of hzA⟩,_,rfl,_,rfl,(by show 2<=sizeLine;decide),fun pp hpp=>?_⟩⟩
    have gB:=Same.new (o:=.tup [.ref t,.ref d]) hpp
    have hpB:b7 Ha pp (.tup [.ref t,.ref d]) pp=some (.tup [.ref t,.ref d]):=b6
    try dsimp -proj only
    generalize b7 Ha pp (.tup [.ref t,.ref d])=Hb at gB hpB
    have hzB:=gB _ _ hzA
    have zl:zs.length<=256:=by
     obtain ⟨rr,e1,e2,_⟩:=hP.refs
     rw[e1,List.length_map,e2]
     refine Nat.le_trans (a6Q _ _) ?_
     rw[List.length_take];lia
    refine ⟨lu,zs,_,rfl,rfl,hzB,Nat.lt_of_le_of_lt zl (by decide),?_⟩
    have kB:Kp lu Hb (b7 Hb lu (.lst (zs++[.ref pp]))):=Kp.at
    refine ⟨k6.trans (((gA.trans gB).kp lu).trans kB),⟨_,b6,?_⟩,il,_,_,rfl⟩
    rw[etk,a1I,if_neg hc]
    have tB:=a01 hzB (nls _) kB
    exact PL.snoc (tB _ _ hpB) (tB _ _ (gB _ _ (ga _ _ (g9 _ _ ht8)))) (tB _ _ (gB _ _ (gA _ _ hd6))) (hPA.to fun b xs e=>tB _ _ (gB _ _ e))
  ·obtain ⟨k6,⟨zs,hz6,hP⟩,hi,o4,o5,rfl⟩:=h
   have et:(dr n k).take ys.length=dr n k:=by rw[yl,List.take_length]
   rw[et] at hP
   obtain ⟨rr,e1,e2,e3⟩:=hP.refs
   subst e1
   have gH:Same H H6:=fun b o e=>k6 _ _ (fun z=>by rw[z,hHl] at e;cases e) (g13 _ _ e)
   refine ⟨_,rfl,lu,rr,_,rfl,rfl,hz6,e2,e3,fun h0=>q none _ H6 gH (a6s.1 h0) rfl,fun j r x hr hx hmin=>?_⟩
   obtain ⟨a1,b1,e,hF⟩:=a6s.2 x (List.mem_of_getElem? hx) hmin
   subst e
   obtain ⟨xa,xb,h5,h6,h7⟩:=e3 j r _ hr hx
   exact q _ _ H6 gH hF ⟨r,xa,xb,rfl,h5,h6,h7⟩
noncomputable def sp_oaV:Sp:=fun vs H Q _=>∃(st a:Addr) (v:V) (n k:Nat) (ns:List Int) (rs:List (List Int)),vs=[.ref a,v,.int k]/\AskO st H n ns rs k a v /\
 ∀o H',Same H H'->IsF (chO rs ns) (dr n k) o->Q (.bl o.isNone) H'
noncomputable def a02 (ec:Nat->Addr):Sp:=fun vs H Q E=>a7w ec vs H E ∨ sp_oaV vs H Q E
noncomputable abbrev s_oa:Stmt:=u7 36
theorem sc_oa:FnScope ["urn","rule","draws"] ["urn","rule","draws"] (d5 s_oa):=⟨rfl,rfl,rfl,by decide +kernel,rfl,by decide +kernel,by decide +kernel⟩
theorem a8A (F:Fun K "orders_alike" "orders_alike" s_oa f fd) (c1:CalX P w K mg base 9 "first_unlike" ["urn","rule","draws"] (a03 ec)):FnOk P w K mg base (A9 P w) 10 f fd ["urn","rule","draws"] (a02 ec):=by
 refine F.okX sc_oa (fun vs H Q E h=>?_) (fun cdv A outer s H vs Q E hr h=>?_)
 ·rcases h with ⟨st,u,v,x,d,e,g,i,rfl,_⟩|⟨st,a,v,n,k,ns,rs,rfl,_⟩
  ·rfl
  ·rfl
 refine ⟨_,c0 (f6 (a7B (a5b (j7 c1 hr rfl passes1 (b5 (pv 0) (b5 (pv 1) (b5 (pv 2) pa_nil))))))),?_⟩
 rcases h with ⟨st,u,v,x,d,e,g,i,rfl,hu,hus,hv,hvo,hx,due,q⟩|⟨st,a,v,n,k,ns,rs,rfl,hA,q⟩
 ·exact ⟨_,rfl,_,rfl,_,rfl,.inl ⟨st,u,v,x,d,e,g,i,rfl,hu,hus,hv,hvo,hx,due,q⟩⟩
 ·refine ⟨_,rfl,_,rfl,_,rfl,.inr ⟨st,a,v,n,k,ns,rs,rfl,hA,fun o u H' g hF hP=>?_⟩⟩
  have:=q o H' g hF
  cases o with
  | none=>cases (show u=.non from hP);exact this
  | some x =>
   obtain ⟨a,b⟩:=x
   obtain ⟨p,y,z,rfl,_⟩:=hP
   exact this
end
end G
set_option maxHeartbeats 1000000
namespace Mq
open PySem PySem.Spec L2 Mt Md
theorem a5G (A:DrL) (φ ψ:List Nat->Rat):n9 A (fun ds=>φ ds+ψ ds)=n9 A φ+n9 A ψ:=by
 unfold n9
 induction A with
 | nil=>show (0:Rat)=0+0;grind
 | cons e A ih =>
  show e.2.2*(φ e.1+ψ e.1)+sumQ (A.map _)=(e.2.2*φ e.1+sumQ (A.map _))+(e.2.2*ψ e.1+sumQ (A.map _))
  rw[ih];grind
theorem Vq.up {N B:Nat} (M:Nat) {x:Rat} (h:Vq N B x):Vq (N*M) B x:=by
 obtain ⟨z,hz⟩:=h.dv
 refine ⟨h.nn,h.le,z*M,?_⟩
 have e1:((N*M:Nat):Rat)=(N:Rat)*(M:Rat):=by push_cast;rfl
 have e2:((z*(M:Int):Int):Rat)=(z:Rat)*(M:Rat):=by push_cast;rfl
 rw[e1,e2,<- hz];grind
theorem Vq.pow {j k B:Nat}{x:Rat} (h:Vq (LL ^ j) B x) (l:j<=k):Vq (LL ^ k) B x:=by
 have:LL ^ k=LL ^ j*LL ^ (k - j):=by rw[<- Nat.pow_add];congr 1;lia
 rw[this];exact h.up _
end Mq
namespace Mt
noncomputable def rp (s g:Int):Nat->Int
 | 0=>1
 | n+1=>rp s g n*(s+(n:Int)*g)
noncomputable abbrev fct (n:Nat):Int:=rp 1 1 n
noncomputable def tot:List Nat->Nat
 | []=>0
 | c::cs=>c+tot cs
noncomputable def a7A (a:Int):List Nat->Int
 | []=>a
 | c::cs=>a7A (a / fct c) cs
noncomputable def a85 (cs:List Nat):Int:=a7A (fct (tot cs)) cs
noncomputable def rps (g:Int):List Int->List Nat->Int
 | b::bs,c::cs=>rp b g c*rps g bs cs
 | _,_=>1
noncomputable def cch (ns:List Int) (g:Int) (cs:List Nat):Rat:=cut (a85 cs*rps g ns cs) (rp ns.sum g (tot cs))
end Mt
namespace Mt
noncomputable def a81 (g:Int) (ns:List Int) (cs:List Nat):List Int:=List.zipWith (fun b (c:Nat)=>b+g*(c:Int)) ns cs
end Mt
namespace Mq
open PySem PySem.Spec L2 Mt Md
noncomputable def N6 (c:List Nat) (j:Nat):List Nat:=c.set j (c.getD j 0+1)
noncomputable def P9 (c:List Nat) (j:Nat):List Nat:=c.set j (c.getD j 0 - 1)
theorem a1E (c:List Nat) (j:Nat):(N6 c j).length=c.length:=by unfold N6;rw[List.length_set]
theorem Q6 (c:List Nat) (j:Nat):(P9 c j).length=c.length:=by unfold P9;rw[List.length_set]
theorem a07 {c:List Nat}{j i:Nat} (hj:j<c.length):(N6 c j).getD i 0=if j=i then c.getD j 0+1 else c.getD i 0:=by
 unfold N6
 rw[List.getD_eq_getElem?_getD,List.getElem?_set]
 by_cases h:j=i
 ·subst h;rw[if_pos rfl,if_pos rfl,if_pos hj];rfl
 ·rw[if_neg h,if_neg h,List.getD_eq_getElem?_getD (i:=i)]
theorem P3 {c:List Nat}{j i:Nat} (hj:j<c.length):(P9 c j).getD i 0=if j=i then c.getD j 0 - 1 else c.getD i 0:=by
 unfold P9
 rw[List.getD_eq_getElem?_getD,List.getElem?_set]
 by_cases h:j=i
 ·subst h;rw[if_pos rfl,if_pos rfl,if_pos hj];rfl
 ·rw[if_neg h,if_neg h,List.getD_eq_getElem?_getD (i:=i)]
theorem a1T {a b:List Nat} (hl:a.length=b.length) (h:∀i,a.getD i 0=b.getD i 0):a=b:=by
 refine List.ext_getElem hl fun i h1 h2=>?_
 have:=h i
 rw[List.getD_eq_getElem?_getD,List.getD_eq_getElem?_getD,List.getElem?_eq_getElem h1,List.getElem?_eq_getElem h2] at this
 exact this
theorem a2E {c:List Nat}{j:Nat} (hj:j<c.length) (h:0<c.getD j 0):N6 (P9 c j) j=c:=by
 refine a1T (by rw[a1E,Q6]) fun i=>?_
 rw[a07 (by rw[Q6];exact hj),P3 hj,P3 hj,if_pos rfl]
 by_cases e:j=i
 ·subst e;rw[if_pos rfl];lia
 ·rw[if_neg e,if_neg e]
theorem tot_inc:∀{c:List Nat}{j:Nat},j<c.length->tot (N6 c j)=tot c+1
 | x::c,0,_=>by show (x+1)+tot c=x+tot c+1;lia
 | x::c,j+1,h=>by
  have:=tot_inc (c:=c) (j:=j) (by simpa using h)
  show x+tot (N6 c j)=x+tot c+1
  lia
noncomputable def a9E (ns:List Int) (g:Int) (c:List Nat) (j:Nat):Rat:=if 0<c.getD j 0 then cch ns g (P9 c j)*share (a81 g ns (P9 c j)) j else 0
noncomputable def j5 (n:Nat) (ds:List Nat):List Nat:=(List.range n).map fun j=>ds.count j
theorem D7 (n:Nat) (ds:List Nat):(j5 n ds).length=n:=by unfold j5;rw[List.length_map,List.length_range]
theorem M4 {n j:Nat} (ds:List Nat) (h:j<n):(j5 n ds).getD j 0=ds.count j:=by
 unfold j5
 rw[List.getD_eq_getElem?_getD,List.getElem?_map,List.getElem?_range h];rfl
theorem a4j {n j:Nat} (ds:List Nat) (hj:j<n):j5 n (ds++[j])=N6 (j5 n ds) j:=by
 refine a1T (by rw[a1E,D7,D7]) fun i=>?_
 rw[a07 (by rw[D7];exact hj),M4 ds hj]
 by_cases hi:i<n
 ·rw[M4 _ hi,M4 _ hi,List.count_append]
  by_cases e:j=i
  ·subst e;rw[if_pos rfl];simp
  ·rw[if_neg e]
   have:List.count i [j]=0:=by rw[List.count_eq_zero];simp;exact fun z=>e z.symm
   lia
 ·rw[if_neg (by lia)]
  have z:∀x:List Nat,(j5 n x).getD i 0=0:=fun x=>by rw[List.getD_eq_getElem?_getD,List.getElem?_eq_none (by rw[D7];lia)];rfl
  rw[z,z]
noncomputable def iC (n:Nat) (c:List Nat) (ds:List Nat):Rat:=if j5 n ds=c then 1 else 0
theorem a43 (A:DrL):n9 A (fun _=>0)=0:=by
 have h1:=a5P A (fun _=>1) (fun _=>1)
 have h2:(fun _:List Nat=>(1:Rat) - 1)=fun _=>0:=by funext _;grind
 rw[h2] at h1
 rw[h1];grind
theorem tot_zero:∀{c:List Nat},tot c=0->c=List.replicate c.length 0
 | [],_=>rfl
 | x::c,h=>by
  have h':x+tot c=0:=h
  have:=tot_zero (c:=c) (by lia)
  rw[List.length_cons,List.replicate_succ,<- this,show x=0 by lia]
end Mq
namespace Mq
open PySem PySem.Spec L2 Mt Md
theorem a0D {α:Type} (A:DrL) (F:α->List Nat->Rat):∀l:List α,n9 A (fun ds=>sumQ (l.map fun j=>F j ds))=sumQ (l.map fun j=>n9 A (F j))
 | []=>a43 A
 | j::l=>by
  show n9 A (fun ds=>F j ds+sumQ (l.map fun j=>F j ds))=n9 A (F j)+sumQ (l.map fun j=>n9 A (F j))
  rw[a5G,a0D A F l]
theorem a1s {n:Nat}:∀l:List Nat,(∀j∈l,j<n)->tot (j5 n l.reverse)=l.length
 | [],_=>by
  have:j5 n []=List.replicate n 0:=by
   unfold j5
   refine List.ext_getElem (by simp) fun i h1 h2=>by simp
  rw[List.reverse_nil,this]
  clear this
  induction n with
  | zero=>rfl
  | succ n ih=>rw[List.replicate_succ];show 0+tot (List.replicate n 0)=0;simp at ih;lia
 | a::l,h=>by
  have ha:=h a List.mem_cons_self
  rw[List.reverse_cons,a4j _ ha,tot_inc (by rw[D7];exact ha),a1s l fun j hj=>h j (List.mem_cons_of_mem _ hj)]
  rfl
theorem a6S {n:Nat}{ds:List Nat} (h:∀j∈ds,j<n):tot (j5 n ds)=ds.length:=by
 have:=a1s (n:=n) ds.reverse fun j hj=>h j (List.mem_reverse.mp hj)
 rw[List.reverse_reverse,List.length_reverse] at this
 exact this
theorem R5 {α:Type} (p:α->Bool) (f:α->Rat):∀l:List α,sumQ ((l.filter p).map f)=sumQ (l.map fun j=>if p j=true then f j else 0)
 | []=>rfl
 | a::l=>by
  rw[List.filter_cons,List.map_cons]
  show _=(if p a=true then f a else 0)+sumQ (l.map _)
  rw[<- R5 p f l]
  split
  ·rfl
  ·grind
noncomputable def cI (c:List Nat):List Int:=c.map fun (k:Nat)=>(k:Int)
theorem Y6 (c:List Nat) (j:Nat):(cI c).getD j 0=((c.getD j 0:Nat):Int):=by
 unfold cI
 rw[List.getD_eq_getElem?_getD,List.getD_eq_getElem?_getD,List.getElem?_map]
 cases c[j]? <;> rfl
theorem a7c (c:List Nat) (j:Nat):inc (cI c) j=cI (N6 c j):=by
 unfold inc N6
 rw[Y6]
 unfold cI
 rw[List.map_set];rfl
theorem a8d (n:Nat) (ds:List Nat):t9 n ds=cI (j5 n ds):=by
 unfold t9 cI j5
 rw[List.map_map];rfl
theorem a7k {a b:List Nat} (h:cI a=cI b):a=b:=by
 unfold cI at h
 exact (List.map_inj_right fun x y e=>by lia).mp h
theorem a2W {D:TabQ}{k x:List Int}{r:Rat} (h:x=k ∨ x∈D.map (·.1)):x∈(addQ D k r).map (·.1):=by
 induction D with
 | nil =>
  rcases h with h|h
  ·rw[h];exact List.mem_singleton.mpr rfl
  ·cases h
 | cons p D ih =>
  unfold addQ
  split
  ·rename_i e
   rcases h with h|h
   ·rw[h]
    exact List.mem_cons.mpr (.inl (by first|rfl|exact e.symm|exact e))
   ·rcases List.mem_cons.mp h with h|h
    ·exact List.mem_cons.mpr (.inl (by first|exact h | (rw[h];exact e) | (rw[h,e])))
    ·exact List.mem_cons.mpr (.inr h)
  ·rcases h with h|h
   ·exact List.mem_cons.mpr (.inr (ih (.inl h)))
   ·rcases List.mem_cons.mp h with h|h
    ·exact List.mem_cons.mpr (.inl h)
    ·exact List.mem_cons.mpr (.inr (ih (.inr h)))
theorem W3 {x:List Int}{r:Rat}{s:Int}:∀{bs:List (Int × List Int)}{D:TabQ},((∃b∈bs,b.2=x) ∨ x∈D.map (·.1))->x∈(u8 r s bs D).map (·.1)
 | [],D,h=>by
  rcases h with ⟨b,hb,_⟩|h
  ·cases hb
  ·exact h
 | b::bs,D,h=>by
  unfold u8
  refine W3 (bs:=bs) ?_
  rcases h with ⟨c,hc,e⟩|h
  ·rcases List.mem_cons.mp hc with z|z
   ·exact .inr (a2W (.inl (by rw[<- e,z])))
   ·exact .inl ⟨c,z,e⟩
  ·exact .inr (a2W (.inr h))
theorem a1f {u:List Int}{rs:List (List Int)}{g x:List Int}:∀{T D:TabQ},((∃p∈T,∃b∈C8 u rs g p.1 u.length,b.2=x) ∨ x∈D.map (·.1))->x∈(j6 u rs g T D).map (·.1)
 | [],D,h=>by
  rcases h with ⟨p,hp,_⟩|h
  ·cases hp
  ·exact h
 | q::T,D,h=>by
  unfold j6
  refine a1f (T:=T) ?_
  rcases h with ⟨p,hp,b,hb,e⟩|h
  ·rcases List.mem_cons.mp hp with z|z
   ·exact .inr (W3 (.inl ⟨b,by rw[<- z];exact hb,e⟩))
   ·exact .inl ⟨p,z,b,hb,e⟩
  ·exact .inr (W3 (.inr h))
theorem a4h {n:Nat}{rs:List (List Int)}{u g:List Int} (hu:u.length=n):∀(k:Nat) (c:List Nat),c.length=n->tot c=k->(∀j,((c.getD j 0:Nat):Int)<=g.getD j 0)->cI c∈(E5 u rs g k).map (·.1)
 | 0,c,hc,ht,_=>by
  have e:=tot_zero ht
  rw[hc] at e
  rw[e]
  show _∈[List.replicate u.length 0]
  rw[hu]
  refine List.mem_singleton.mpr ?_
  unfold cI
  rw[List.map_replicate];rfl
 | k+1,c,hc,ht,hg=>by
  have ex:∀l:List Nat,0<tot l->∃j,j<l.length/\0<l.getD j 0:=by
   intro l
   induction l with
   | nil=>intro h;exact absurd h (Nat.lt_irrefl 0)
   | cons a l ih =>
    intro h
    have h':0<a+tot l:=h
    by_cases ha:0<a
    ·exact ⟨0,by simp,ha⟩
    ·obtain ⟨j,hj,h0⟩:=ih (by lia)
     exact ⟨j+1,by simpa using hj,by simpa using h0⟩
  obtain ⟨j,hj,h0⟩:=ex c (by lia)
  have t1:=tot_inc (c:=P9 c j) (j:=j) (by rw[Q6];exact hj)
  rw[a2E hj h0] at t1
  have ih:=a4h (rs:=rs) (g:=g) hu k (P9 c j) (by rw[Q6];exact hc) (by lia) fun i=>by
   have:=hg i
   rw[P3 hj]
   split
   ·rename_i e;subst e;lia
   ·exact this
  obtain ⟨p,hp,e⟩:=List.mem_map.mp ih
  show cI c∈(j6 u rs g (E5 u rs g k) []).map (·.1)
  refine a1f (.inl ⟨p,hp,((n6 u rs p.1).getD j 0,inc p.1 j),?_,?_⟩)
  ·unfold C8 N3
   refine List.mem_map.mpr ⟨j,List.mem_filter.mpr ⟨List.mem_range.mpr (by lia),decide_eq_true ?_⟩,rfl⟩
   have:=hg j
   rw[e,Y6,P3 hj,if_pos rfl]
   lia
  ·show inc p.1 j=cI c
   rw[e,a7c,a2E hj h0]
theorem a2F {x:List Int}:∀{T:TabQ},F7 T->linQ T (fun k=>if k=x then (1:Rat) else 0)=valQ T x
 | [],_=>rfl
 | p::T,h=>by
  have h1:p.1 ∉ T.map (·.1)/\F7 T:=by unfold F7 at h ⊢;rw[List.map_cons,List.nodup_cons] at h;exact h
  rw[F5,a2F h1.2]
  show p.2*(if p.1=x then (1:Rat) else 0)+valQ T x=if p.1=x then p.2 else valQ T x
  by_cases e:p.1=x
  ·have hz:valQ T x=0:=a0k T (by rw[<- e];exact h1.1)
   rw[if_pos e,if_pos e,hz];grind
  ·rw[if_neg e,if_neg e];grind
theorem a6W {n k:Nat}{rs:List (List Int)}{u:List Int}{c:List Nat} (hR:Rul n 5 rs) (n4:n<=4) (hu:Urn n 20 u) (hk:k<=6) (hc:c.length=n):valQ (E5 u rs (cI c) k) (cI c)=n9 (v6 u rs k) (iC n c):=by
 obtain ⟨w1,w2,w3,w4⟩:=a3K (cI c) hR n4 hu k hk
 rw[<- a2F w2,a3Y (cI c) (fun j=>by rw[Y6];lia) hR n4 hu k hk]
 refine Y5 hR n4 hu hk fun ds hl hlt=>?_
 unfold iC
 rw[a8d]
 by_cases h:j5 n ds=c
 ·rw[if_pos h,h,if_pos rfl,if_pos]
  exact U1.mpr fun j _=>Int.le_refl _
 ·rw[if_neg h,if_neg fun z=>h (a7k z)]
  split <;> rfl
end Mq
set_option maxHeartbeats 4000000
namespace G
open PySem PySem.Spec PyProof.Rows L2 Mt Mq
structure AskW (st:Addr) (H:Hp) (n:Nat) (ns:List Int) (rs:List (List Int)) (k:Nat) (a:Addr) (v:V):Prop where
 u:Dt st H (DI ns) (.ref a)
 uu:Mt.Urn n 20 ns
 r:Dt st H (DR rs) v
 ru:Mt.Rul n 5 rs
 n1:1<=n
 n4:n<=4
 k6:k<=6
theorem a4q {H:Hp}{k:List Int}:∀{T:TabQ}{kvs:List (List Key × V)},QE H T kvs->k∈T.map (·.1)->∃v,I0 kvs (Md.kI k)=some v/\FrAt H (valQ T k) v
 | [],[],_,h=>by cases h
 | p::T,kv::kvs,⟨a,b,c⟩,h=>by
  obtain ⟨kk,x⟩:=kv
  have a:kk=Md.kI p.1:=a
  subst a
  unfold valQ
  by_cases e:p.1=k
  ·rw[if_pos e,M6 (by rw[e])]
   exact ⟨x,rfl,b⟩
  ·rw[if_neg e,L9 (fun z=>e (Md.kI_inj z))]
   refine a4q c ?_
   rcases List.mem_cons.mp h with z|z
   ·exact absurd z.symm e
   ·exact z
 | [],_::_,h',_=>h'.elim
 | _::_,[],h',_=>h'.elim
theorem a54 (ks:List Nat) (j:Nat):(kI ks).count (j:Int)=ks.count j:=by
 unfold kI
 induction ks with
 | nil=>rfl
 | cons a ks ih =>
  rw[List.map_cons,List.count_cons,List.count_cons,ih]
  congr 1
  by_cases e:a=j
  ·subst e;simp
  ·have:¬ ((a:Int)=(j:Int)):=fun z=>e (by lia)
   simp[e,this]
section
variable {P:Program}{w:World}{K:W.Frag}{mg:Str->Option Value}{base:Heap}{f:Addr}{fd:FuncData}{ec:Nat->Addr}{Bs:Addr}
noncomputable def sp_ao:Sp:=fun vs H Q _=>∃(st a d:Addr) (v:V) (n:Nat) (ns:List Int) (rs:List (List Int)) (ks:List Nat),vs=[.ref a,v,.ref d]/\AskW st H n ns rs ks.length a v/\TupN H d ((kI ks).map V.int)/\(∀k∈ks,k<n) /\
 ∀r H',Same H H'->H' r=some (.tup ((fr (n9 (v6 ns rs ks.length) (iC n (j5 n ks)))).map V.int))->Q (.ref r) H'
noncomputable abbrev s_ao:Stmt:=u7 41
theorem sc_ao:FnScope ["urn","rule","draws","goal"] ["urn","rule","draws"] (d5 s_ao):=⟨rfl,rfl,rfl,by decide +kernel,rfl,by decide +kernel,by decide +kernel⟩
theorem a8P (F:Fun K "any_order" "any_order" s_ao f fd) (B:Bt mg) (c1:CalX P w K mg base 6 "need_urn_and_rule" ["urn","rule"] (T8 ec)) (c2:CalX P w K mg base 3 "need_draws" ["urn","thing"] (S4 ec)) (c3:Cal P w K mg base 5 "chances_by_counts" ["urn","rule","goal","draws"] sp_cbc):FnOk P w K mg base (A9 P w) 7 f fd ["urn","rule","draws"] sp_ao:=by
 refine F.okX sc_ao (fun vs H Q E h=>?_) (fun cdv A outer s H vs Q E hr h=>?_)
 ·obtain ⟨st,a,d,v,n,ns,rs,ks,rfl,_⟩:=h
  rfl
 obtain ⟨st,a,d,v,n,ns,rs,ks,rfl,hA,hT,hk,q⟩:=h
 refine ⟨_,(@b8 _ _ _ _ _ (A2 (j7 c1 hr rfl passes1 (@b5 _ _ _ _ _ (pv 0) (@b5 _ _ _ _ _ (pv 1) pa_nil (by rfl)) (by rfl))))
  (@b8 _ _ _ _ _ (A2 (j7 (c2.up (by decide)) hr rfl passes1 (@b5 _ _ _ _ _ (pv 0) (@b5 _ _ _ _ _ (pv 2) pa_nil (by rfl)) (by rfl))))
  (PSs.nox (@b8 _ _ _ _ _ (@f9 _ _ 3 _ _ _ _ sc_ao.nd rfl (Or.inl rfl) (i7 call_tuple_of rfl B.tuple boot_tuple (@b5 _ _ _ _ _ (m6 (N:=["kind","draws"]) (ix:=[none,some 2]) (ifs:=[]) (tc:=tTrue) rfl (i9 rfl B.range (@b5 _ _ _ _ _ (d8 call_len_seq rfl B.len PySem.boot_len (@b5 _ _ _ _ _ (pv 0) pa_nil (by rfl))) pa_nil (by rfl)))
   (fun s H ex=>v0 (i:=0) (by decide +kernel) rfl (Or.inl rfl) (.inr rfl)) (fun s H ex=>pifs_nil) (fun s H ex=>(a8c PySem.F.slot_tuple_count PySem.F.type_tuple_count (a84 (K:=K) rfl) (pv 1) (@b5 _ _ _ _ _ (pv 0) pa_nil (by rfl)))) rfl (by decide +kernel) (by rfl) (by rfl) (fun _=>rfl)) pa_nil (by rfl))) (by rfl) (by first|exact .inl rfl|exact .inr rfl))
  (@c0 _ _ _ (f6 (a6x (Z2 hr) (d7 (c3.up (by decide)) hr rfl (@b5 _ _ _ _ _ (pv 0) (@b5 _ _ _ _ _ (pv 1) (@b5 _ _ _ _ _ (pv 3) (@b5 _ _ _ _ _ (d8 call_len_seq rfl B.len PySem.boot_len (@b5 _ _ _ _ _ (pv 2) pa_nil (by rfl))) pa_nil (by rfl)) (by rfl)) (by rfl)) (by rfl))) (pv 3) (fun _ _=>rfl)))))))),?_⟩
 obtain ⟨a',e,_,ha⟩:=hA.u.di
 cases e
 have hU:=hA.uu
 have hR:=hA.ru
 have n1:=hA.n1
 have n4:=hA.n4
 have k6:=hA.k6
 have hul:=hU.len
 have uok:=a0e hU n1 n4
 have rok:E2 (lenD (DI ns):Int) (DR rs)=true:=by rw[B6,hU.len];exact W6 hR
 have hlen:=hR.len
 refine ⟨_,rfl,_,rfl,_,_,st,DI ns,DR rs,rfl,hA.u,L8 (by rw[hU.len];lia),hA.r,⟨W5 (by lia),R7 hR (by lia)⟩,(fun z=>by rw[uok] at z;cases z),(fun _ z=>by rw[rok] at z;cases z),fun _ _ H1 g1=>?_⟩
 refine ⟨_,rfl,_,rfl,a4f (st:=st) (ks:=ks) (g1 _ _ ha) (.inr (hT.same g1)) (by rw[List.length_map,hul];exact hk) (by lia) fun H2 g2=>?_⟩
 have g12:=g1.trans g2
 refine ⟨_,rfl,a,_,rfl,.inr (.of (g12 _ _ ha)),(n:Int),by rw[List.length_map,hul],by lia,by lia,?_⟩
 have gl:(kI (j5 n ks)).length=n:=by rw[F1,D7]
 refine q9 (lo:=0) (n:=n) (sz (by lia)) (fun i ys H3=>Same H2 H3/\i<=n/\ys=((kI (j5 n ks)).take i).map V.int) ⟨Same.refl _,Nat.zero_le _,rfl⟩ (fun i ys H3 h=>?_) rfl (fun i ys H3 hi h=>?_) (fun ys H3 h=>?_)
 ·obtain ⟨_,hi,rfl⟩:=h
  rw[List.length_map,List.length_take,gl];lia
 ·obtain ⟨g3,hin,rfl⟩:=h
  have e0:(0:Int)+(i:Int)=(i:Int):=by lia
  rw[e0]
  have hT3:=hT.same (g12.trans g3)
  refine ⟨_,rfl,⟨d,_,rfl,hT3⟩,_,rfl,d,kI ks,(i:Int),rfl,rfl,hT3.sq,g3,by lia,?_⟩
  have eg:(kI (j5 n ks))[i]?=some ((ks.count i:Nat):Int):=by
   unfold kI j5
   rw[List.getElem?_map,List.getElem?_map,List.getElem?_range hi];rfl
  rw[List.take_add_one,eg,List.map_append,a54];rfl
 obtain ⟨g3,_,rfl⟩:=h
 intro pl hpl
 rw[show (kI (j5 n ks)).take n=kI (j5 n ks) from List.take_of_length_le (by lia)]
 refine ⟨pl,_,rfl,.inl ⟨.of b6,fun ga hga=>?_⟩⟩
 have g4:Same H3 (b7 (b7 H3 pl (.lst ((kI (j5 n ks)).map V.int))) ga (.tup ((kI (j5 n ks)).map V.int))):=(Same.new hpl).trans (Same.new hga)
 have h4:b7 (b7 H3 pl (.lst ((kI (j5 n ks)).map V.int))) ga (.tup ((kI (j5 n ks)).map V.int)) ga=some (.tup ((kI (j5 n ks)).map V.int)):=b6
 try dsimp -proj only[r6]
 generalize b7 (b7 H3 pl (.lst ((kI (j5 n ks)).map V.int))) ga (.tup ((kI (j5 n ks)).map V.int))=H4 at g4 h4
 have g14:=(g12.trans g3).trans g4
 refine ⟨_,rfl,_,rfl,_,rfl,_,rfl,d,_,rfl,.inr (hT.same g14).sq,?_⟩
 rw[List.length_map,F1]
 refine ⟨a,ga,st,v,n,ks.length,ns,kI (j5 n ks),rs,rfl,g14 _ _ ha,hU,h4,gl,hA.r.kp (g14.kp st),hR,n1,n4,k6,fun p kvs H5 g5 hpn hp5 hq5=>?_⟩
 have hkey:kI (j5 n ks)∈(E5 ns rs (kI (j5 n ks)) ks.length).map (·.1):=a4h (rs:=rs) (g:=cI (j5 n ks)) hul ks.length (j5 n ks) (D7 n ks) (a6S hk) fun j=>by rw[Y6];exact Int.le_refl _
 obtain ⟨x,hx1,r,rfl,hr⟩:=a4q hq5 hkey
 have hval:valQ (E5 ns rs (kI (j5 n ks)) ks.length) (kI (j5 n ks))=n9 (v6 ns rs ks.length) (iC n (j5 n ks)):=a6W hR n4 hU k6 (D7 n ks)
 rw[hval] at hr
 have hk5:H5 ga=some (.tup ((Md.kI (kI (j5 n ks))).map kV)):=by
  rw[g5 _ _ h4]
  unfold Md.kI
  rw[List.map_map];rfl
 refine ⟨_,rfl,p,_,rfl,?_,q r H5 (g14.trans g5) hr⟩
 have:=DGet.t (H:=H5) hp5 hk5
 rw[hx1] at this
 exact this
end
end G
namespace Mq
open PySem PySem.Spec L2 Mt Md
end Mq
namespace G
open PySem PySem.Spec PyProof.Rows L2 Mt Md Mq
section
variable {P:Program}{w:World}{K:W.Frag}{mg:Str->Option Value}{base:Heap}{f:Addr}{fd:FuncData}{ec:Nat->Addr}{Bs:Addr}
noncomputable def sp_cut:Sp:=fun vs H Q _=>∃t b:Int,vs=[.int t,.int b]/\0<=t/\0<b/\b.natAbs.log2<9000/\∀p H',Same H H'->H' p=some (.tup ((fr (cut t b)).map V.int))->Q (.ref p) H'
noncomputable abbrev s_cut:Stmt:=u7 48
theorem sc_cut:FnScope ["_law_top","_law_bottom","_law_one","_law_other"] ["_law_top","_law_bottom"] (d5 s_cut):=⟨rfl,rfl,rfl,by decide +kernel,rfl,by decide +kernel,by decide +kernel⟩
theorem a7u (F:Fun K "_law_fraction" "_law_fraction" s_cut f fd) (B:Bt mg):FnOk P w K mg base CX0 1 f fd ["_law_top","_law_bottom"] sp_cut:=by
 refine F.ok sc_cut (fun vs H Q E h=>?_) (fun cdv A outer s H vs Q E hr h=>?_)
 ·obtain ⟨x,y,rfl,_⟩:=h
  rfl
 obtain ⟨t,b,rfl,ht,hb,hlog,q⟩:=h
 refine ⟨_,b8 (Y9 (i:=2) (j:=3) rfl sc_cut.nd rfl rfl (by decide) rfl rfl (b5 (pv 1) (b5 (d8 call_abs rfl B.abs boot_abs (b5 (pv 0) pa_nil)) pa_nil)) rfl)
  (b8 (a1P PassesOwn.never (j9 op_gt (pv 3) b9 (j4 _)) (c0 (Y9 (i:=2) (j:=3) rfl sc_cut.nd rfl rfl (by decide) rfl rfl (b5 (pv 3) (b5 (f8 op_mod (pv 2) (pv 3)) pa_nil)) rfl)))
  (c0 (f6 (u3 (b5 (f8 op_fdivB (pv 0) (pv 2)) (b5 (f8 op_fdivB (pv 1) (pv 2)) pa_nil)))))),?_⟩
 have g:=a2C (t:=t) hb hlog
 refine ⟨_,rfl,_,rfl,t,rfl,_,_,rfl,?_⟩
 rw[if_neg (show ¬ t<0 by lia)]
 refine ⟨fun m σ H2=>H2=H/\∃x' y':Int,0<=x'/\0<=y'/\σ=[some (.int t),some (.int b),some (.int x'),some (.int y')]/\m=y'.toNat/\Int.gcd x' y'=Int.gcd t b,⟨_,rfl,b,t,by lia,ht,rfl,rfl,Int.gcd_comm b t⟩,?_⟩
 rintro m σ H2 ⟨rfl,x',y',h1,h2,rfl,rfl,e⟩
 refine ⟨_,rfl,_,_,rfl,rfl,_,rfl,?_⟩
 by_cases hz:0<y'
 ·rw[decide_eq_true hz]
  refine u6 ⟨fun σ' H'=>H'=H2/\∃a c:Int,0<=a/\0<=c/\σ'=[some (.int t),some (.int b),some (.int a),some (.int c)]/\c.toNat<y'.toNat/\Int.gcd a c=Int.gcd t b,?_,?_⟩
  ·rintro σ' H' ⟨rfl,a,c,ha,hc,rfl,hlt,e2⟩
   exact ⟨_,hlt,rfl,a,c,ha,hc,rfl,rfl,e2⟩
  ·have hm:=Int.emod_nonneg x' (show y'≠0 by lia)
   have hm2:=Int.emod_lt_of_pos x' hz
   refine ⟨_,rfl,_,rfl,_,rfl,_,_,rfl,rfl,hz,_,_,rfl,?_⟩
   exact ⟨rfl,y',x' % y',h2,hm,rfl,by lia,by rw[a1G h1 hz];exact e⟩
 ·rw[decide_eq_false hz]
  have hy:y'=0:=by lia
  subst hy
  have e2:x'=((Int.gcd t b:Nat):Int):=by rw[<- e,Int.gcd_zero_right];lia
  subst e2
  refine q5 ⟨_,rfl,_,rfl,_,_,rfl,rfl,g,_,rfl,_,rfl,_,_,rfl,rfl,g,(by show 2<=sizeLine;decide),fun p hp=>?_⟩
  refine q p _ (Same.new hp) ?_
  rw[b6,a4J hb];rfl
noncomputable abbrev s_by:Stmt:=u7 50
theorem sc_by:FnScope ["_law_one","_law_other"] ["_law_one","_law_other"] (d5 s_by):=⟨rfl,rfl,rfl,by decide +kernel,rfl,by decide +kernel,by decide +kernel⟩
theorem a8t (F:Fun K "_law_by" "_law_by" s_by f fd) (c1:Cal P w K mg base 1 "_law_fraction" ["_law_top","_law_bottom"] sp_cut):FnOk P w K mg base CX0 2 f fd ["_law_one","_law_other"] sp_times:=by
 refine F.ok sc_by (fun vs H Q E h=>?_) (fun cdv A outer s H vs Q E hr h=>?_)
 ·obtain ⟨p,q,x,y,n,m,rfl,_⟩:=h
  rfl
 obtain ⟨p,q,x,y,n,m,rfl,hp,hq,x0,y0,bx,by',hnm,k⟩:=h
 refine ⟨_,c0 (f6 (d7 c1 hr rfl (b5 (f8 op_mulB (j3 ix_tup (pv 0) b9 (fun _ _=>rfl)) (j3 ix_tup (pv 1) b9 (fun _ _=>rfl))) (b5 (f8 op_mulB (j3 ix_tup (pv 0) b9 (fun _ _=>rfl)) (j3 ix_tup (pv 1) b9 (fun _ _=>rfl))) pa_nil)))),?_⟩
 have hp':H p=some (.tup [.int x.num,.int x.den]):=hp
 have hq':H q=some (.tup [.int y.num,.int y.den]):=hq
 have b1:Builtin.Int.intBits x.num<=2 ^ 20:=u9 bx.num (by lia)
 have b2:Builtin.Int.intBits y.num<=2 ^ 20:=u9 by'.num (by lia)
 have b3:Builtin.Int.intBits (x.den:Int)<=2 ^ 20:=u9 (by rw[Int.natAbs_natCast];exact bx.den) (by lia)
 have b4:Builtin.Int.intBits (y.den:Int)<=2 ^ 20:=u9 (by rw[Int.natAbs_natCast];exact by'.den) (by lia)
 refine ⟨_,rfl,p,_,_,_,rfl,rfl,.of hp',i6 (j:=0) rfl,_,rfl,q,_,_,_,rfl,rfl,.of hq',i6 (j:=0) rfl,_,_,rfl,rfl,⟨b1,b2⟩,
  _,rfl,p,_,_,_,rfl,rfl,.of hp',i6 (j:=1) rfl,_,rfl,q,_,_,_,rfl,rfl,.of hq',i6 (j:=1) rfl,_,_,rfl,rfl,⟨b3,b4⟩,_,_,rfl,?_,?_,?_,?_⟩
 ·exact Int.mul_nonneg x0 y0
 ·have h1:=x.den_nz;have h2:=y.den_nz
  have:=Nat.mul_pos (Nat.pos_of_ne_zero h1) (Nat.pos_of_ne_zero h2)
  rw[<- Int.natCast_mul];lia
 ·rw[Nat.log2_lt (by have h1:=x.den_nz;have h2:=y.den_nz;rw[Int.natAbs_mul];exact Nat.mul_ne_zero (by lia) (by lia)),Int.natAbs_mul]
  refine Nat.lt_of_le_of_lt (Nat.mul_le_mul bx.den by'.den) ?_
  rw[<- Nat.pow_add]
  exact Nat.pow_lt_pow_right (by decide) (by lia)
 ·rw[a0i];exact k
noncomputable abbrev s_lplus:Stmt:=u7 49
theorem sc_lplus:FnScope ["_law_one","_law_other"] ["_law_one","_law_other"] (d5 s_lplus):=⟨rfl,rfl,rfl,by decide +kernel,rfl,by decide +kernel,by decide +kernel⟩
theorem a5F (F:Fun K "_law_plus" "_law_plus" s_lplus f fd) (c1:Cal P w K mg base 1 "_law_fraction" ["_law_top","_law_bottom"] sp_cut):FnOk P w K mg base CX0 2 f fd ["_law_one","_law_other"] sp_plus:=by
 refine F.ok sc_lplus (fun vs H Q E h=>?_) (fun cdv A outer s H vs Q E hr h=>?_)
 ·obtain ⟨p,q,x,y,n,m,rfl,_⟩:=h
  rfl
 obtain ⟨p,q,x,y,n,m,rfl,hp,hq,x0,y0,bx,by',hnm,k⟩:=h
 refine ⟨_,c0 (f6 (d7 c1 hr rfl (b5 (f8 op_add (f8 op_mulB (j3 ix_tup (pv 0) b9 (fun _ _=>rfl)) (j3 ix_tup (pv 1) b9 (fun _ _=>rfl))) (f8 op_mulB (j3 ix_tup (pv 1) b9 (fun _ _=>rfl)) (j3 ix_tup (pv 0) b9 (fun _ _=>rfl)))) (b5 (f8 op_mulB (j3 ix_tup (pv 0) b9 (fun _ _=>rfl)) (j3 ix_tup (pv 1) b9 (fun _ _=>rfl))) pa_nil)))),?_⟩
 have hp':H p=some (.tup [.int x.num,.int x.den]):=hp
 have hq':H q=some (.tup [.int y.num,.int y.den]):=hq
 have b1:Builtin.Int.intBits x.num<=2 ^ 20:=u9 bx.num (by lia)
 have b2:Builtin.Int.intBits y.num<=2 ^ 20:=u9 by'.num (by lia)
 have b3:Builtin.Int.intBits (x.den:Int)<=2 ^ 20:=u9 (by rw[Int.natAbs_natCast];exact bx.den) (by lia)
 have b4:Builtin.Int.intBits (y.den:Int)<=2 ^ 20:=u9 (by rw[Int.natAbs_natCast];exact by'.den) (by lia)
 refine ⟨_,rfl,p,_,_,_,rfl,rfl,.of hp',i6 (j:=0) rfl,_,rfl,q,_,_,_,rfl,rfl,.of hq',i6 (j:=1) rfl,_,_,rfl,rfl,⟨b1,b4⟩,
  _,rfl,q,_,_,_,rfl,rfl,.of hq',i6 (j:=0) rfl,_,rfl,p,_,_,_,rfl,rfl,.of hp',i6 (j:=1) rfl,_,_,rfl,rfl,⟨b2,b3⟩,_,_,rfl,rfl,
  _,rfl,p,_,_,_,rfl,rfl,.of hp',i6 (j:=1) rfl,_,rfl,q,_,_,_,rfl,rfl,.of hq',i6 (j:=1) rfl,_,_,rfl,rfl,⟨b3,b4⟩,_,_,rfl,?_,?_,?_,?_⟩
 ·exact Int.add_nonneg (Int.mul_nonneg x0 (by lia)) (Int.mul_nonneg y0 (by lia))
 ·have h1:=x.den_nz;have h2:=y.den_nz
  have:=Nat.mul_pos (Nat.pos_of_ne_zero h1) (Nat.pos_of_ne_zero h2)
  rw[<- Int.natCast_mul];lia
 ·rw[Nat.log2_lt (by have h1:=x.den_nz;have h2:=y.den_nz;rw[Int.natAbs_mul];exact Nat.mul_ne_zero (by lia) (by lia)),Int.natAbs_mul]
  refine Nat.lt_of_le_of_lt (Nat.mul_le_mul bx.den by'.den) ?_
  rw[<- Nat.pow_add]
  exact Nat.pow_lt_pow_right (by decide) (by lia)
 ·rw[a2D];exact k
end
end G
namespace L2
open PySem PySem.Spec PyProof.Rows
noncomputable def hT (ns:List Int):Int:=reduceHash (Builtin.Tuple.tupleHashOf (ns.map hashInt))
section
variable {prog:Program}{w:World}
theorem a7m (ns:List Int):tupleKeyHash (m9 prog w) (ns.map Sum.inl)=hT ns:=by
 unfold tupleKeyHash hT
 rw[List.map_map]
 rfl
variable (prog w) in
noncomputable abbrev TK (h:Heap) (ns:List Int) (a:Addr):Prop:=IsTupleKey (m9 prog w) h (ns.map Sum.inl) a
variable (prog w) in
noncomputable def EsT (h:Heap) (B:List Int->Addr->Prop):List (List Int)->List (Int × Value)->Prop
 | [],es=>es=[]
 | k::ks,es=>∃a r,es=(hT k,.ref a)::r/\(TK prog w h k a/\B k a)/\EsT h B ks r
section
variable {h h':Heap}{B:List Int->Addr->Prop}
theorem EsT.len:∀{ks:List (List Int)}{es:List (Int × Value)},EsT prog w h B ks es->es.length=ks.length
 | [],_,e=>by rw[show _=[] from e];rfl
 | _::_,_,⟨_,_,e,_,r⟩=>by rw[e,List.length_cons,List.length_cons,EsT.len r]
theorem EsT.append:∀{ks ls:List (List Int)}{es fs:List (Int × Value)},EsT prog w h B ks es->EsT prog w h B ls fs->EsT prog w h B (ks++ls) (es++fs)
 | [],_,_,_,e,f=>by rw[show _=[] from e];exact f
 | _::_,_,_,_,⟨a,r,e,t,q⟩,f=>by rw[e];exact ⟨a,_,rfl,t,EsT.append q f⟩
theorem EsT.take:∀(n:Nat) {ks:List (List Int)}{es:List (Int × Value)},EsT prog w h B ks es->EsT prog w h B (ks.take n) (es.take n)
 | 0,_,_,_=>rfl
 | n+1,[],_,e=>by rw[show _=[] from e];rfl
 | n+1,_::_,_,⟨a,r,e,t,q⟩=>by rw[e];exact ⟨a,_,rfl,t,EsT.take n q⟩
theorem EsT.drop:∀(n:Nat) {ks:List (List Int)}{es:List (Int × Value)},EsT prog w h B ks es->EsT prog w h B (ks.drop n) (es.drop n)
 | 0,_,_,e=>e
 | n+1,[],_,e=>by rw[show _=[] from e];rfl
 | n+1,_::_,_,⟨a,r,e,t,q⟩=>by rw[e];exact EsT.drop n q
theorem EsT.get:∀{ks:List (List Int)}{es:List (Int × Value)}{i:Nat}{k:List Int},EsT prog w h B ks es->ks[i]?=some k->∃a,es[i]?=some (hT k,.ref a)/\TK prog w h k a/\B k a
 | _::_,_,0,_,⟨a,r,e,t,q⟩,z=>by cases z;rw[e];exact ⟨a,rfl,t⟩
 | _::_,_,i+1,_,⟨a,r,e,t,q⟩,z=>by rw[e];exact EsT.get (i:=i) q (by simpa using z)
theorem EsT.none {ks:List (List Int)}{es:List (Int × Value)}{i:Nat} (q:EsT prog w h B ks es) (z:ks[i]?=none):es[i]?=none:=by
 rw[List.getElem?_eq_none_iff] at z ⊢
 rw[q.len];exact z
theorem EsT.hash {ks:List (List Int)}{es:List (Int × Value)} (q:EsT prog w h B ks es) (i:Nat):(es[i]?.map (·.1)).getD 0=(ks[i]?.map hT).getD 0:=by
 cases z:ks[i]? with
 | none=>rw[q.none z];rfl
 | some k =>
  obtain ⟨a,e,_⟩:=q.get z
  rw[e];rfl
theorem EsT.hashes:∀{ks:List (List Int)}{es:List (Int × Value)},EsT prog w h B ks es->es.map (·.1)=ks.map hT
 | [],_,e=>by rw[show _=[] from e];rfl
 | _::_,_,⟨a,r,e,t,q⟩=>by rw[e,List.map_cons,List.map_cons,EsT.hashes q]
theorem EsT.pick {ks:List (List Int)}{es:List (Int × Value)} (q:EsT prog w h B ks es):∀(order:List Nat),EsT prog w h B (order.filterMap (ks[·]?)) (order.filterMap (es[·]?))
 | []=>rfl
 | i::order=>by
  rw[List.filterMap_cons,List.filterMap_cons]
  cases z:ks[i]? with
  | none=>rw[q.none z];exact EsT.pick q order
  | some k =>
   obtain ⟨a,e,t⟩:=q.get z
   rw[e]
   exact ⟨a,_,rfl,t,EsT.pick q order⟩
theorem EsT.keep (g:∀k a,TK prog w h k a->B k a->TK prog w h' k a):∀{ks:List (List Int)}{es:List (Int × Value)},EsT prog w h B ks es->EsT prog w h' B ks es
 | [],_,e=>e
 | _::_,_,⟨a,r,e,t,q⟩=>⟨a,r,e,⟨g _ _ t.1 t.2,t.2⟩,EsT.keep g q⟩
end
variable (prog w) in
structure SetT (h:Heap) (B:List Int->Addr->Prop) (S:Addr) (ks:List (List Int)) (t:SetTable):Prop where
 ex:∃o es ep,h.get? S=some o/\o.ExactSet/\o.data=.set es ep t/\EsT prog w h B ks es.toList
 fits:t.fits ks.length=true
 plain:t.plain=true
noncomputable def U5 (ks:List (List Int)) (t:SetTable) (k:List Int):Option (List (List Int) × SetTable):=
 if t.gaveWay=true then none else
 match t.probe (fun i=>(ks[i]?.map hT).getD 0) (hT k) (t.probeStart (hT k)) with
 | some (.empty j none) =>
  if ((t.put j).1.fits (ks.length+1)&&(t.put j).1.plain)=true then
   if (t.put j).1.tooFull=true then
    (match (t.put j).1.relaid ((ks.take (t.put j).2++k::ks.drop (t.put j).2).map hT).toArray (SetTable.grown (ks.length+1)) with
    | some (t2,order)=>if (decide ((order.toList.filterMap ((ks.take (t.put j).2++k::ks.drop (t.put j).2)[·]?)).length=ks.length+1)&&t2.fits (ks.length+1)&&t2.plain&&decide (SetTable.sizeAbove (SetTable.grown (ks.length+1))<=16777216))=true then some (order.toList.filterMap ((ks.take (t.put j).2++k::ks.drop (t.put j).2)[·]?),t2) else none
    | none=>none)
   else some (ks.take (t.put j).2++k::ks.drop (t.put j).2,(t.put j).1)
  else none
 | some (.candidate _ i _)=>if ks[i]?=some k then some (ks,t) else none
 | _=>none
section
variable {A:Around}{E:Value->Shared->Prop}{s:Shared}
theorem X7 {ns:List Int}{a:Addr}{Q:Bool->Shared->Prop} (hk:TK prog w s.heap ns a) (h:Q true s):wpAny (model prog w) A (hashByValue 8 (.ref a)) Q E s:=by
 have hT:=hk.typeIs
 obtain ⟨o,items,n,ho,_,hd,hi⟩:=hk
 have hint:∀v∈items.toList,∃i t,v=Value.int i t:=fun v hv=>by
  obtain ⟨j,hj⟩:=List.getElem?_of_mem hv
  generalize items.toList=l at hi hj
  generalize hks:ns.map (Sum.inl:Int->Key)=ks at hi
  clear hv hd ho
  induction hi generalizing ns j with
  | nil=>simp at hj
  | @cons k v' ks' vs' h1 _ ih =>
   cases ns with
   | nil=>cases hks
   | cons n0 ns =>
    injection hks with e1 e2
    cases j with
    | zero =>
     cases hj
     subst e1
     obtain ⟨t,e⟩:=Value.isInt_shape (k:=n0) (v:=v) h1
     exact ⟨n0,t,e⟩
    | succ j=>exact ih j (by simpa using hj) e2
 unfold hashByValue
 refine wpAny_bind (wpAny_specialOf hT F.slot_tuple_hash.lookup ?_)
 show wpAny _ _ (seqItems? (.ref a) >>= _) _ _ s
 refine wpAny_bind (wpAny_seqItems ho hd ?_)
 refine wpAny_bind ?_
 show wpAny _ _ (forIn items _ _) _ _ s
 rw[<- Array.forIn_toList]
 refine wpAny_forIn_list _ (fun m7 r s'=>r.1=none/\s'=s/\∀v∈m7,∃i t,v=Value.int i t) _ ?_ ?_ _ _ ⟨rfl,rfl,hint⟩
 ·rintro v m7 r s' ⟨hr,rfl,hall⟩
  obtain ⟨i,t,e⟩:=hall v List.mem_cons_self
  subst e
  refine wpAny_bind (m:=hashByValue 7 (.int i t)) (wpAny_pure ?_)
  simp only[Bool.not_true,Bool.false_eq_true,if_false]
  exact wpAny_pure ⟨rfl,rfl,fun u hu'=>hall u (List.mem_cons_of_mem _ hu')⟩
 ·rintro ⟨r1,r2⟩ s' ⟨hr,rfl,_⟩
  simp only at hr
  subst hr
  exact wpAny_pure h
theorem TK.sameBut {h h':Heap}{S:Addr}{o:Obj}{es:Array (Int × Value)}{ep:Nat}{t:SetTable} (ho:h.get? S=some o) (hd:o.data=.set es ep t) (hs:Heap.SameBut S h h') {ns:List Int}{a:Addr} (x:TK prog w h ns a):TK prog w h' ns a:=by
 obtain ⟨o',items,n,ho',hc,hd',hi⟩:=x
 have hne:a≠S:=by
  rintro rfl
  obtain rfl:o'=o:=Option.some.inj (ho'.symm.trans ho)
  rw[hd] at hd';exact nomatch hd'
 exact ⟨o',items,n,(hs.2 a hne).trans ho',hc,hd',hi⟩
theorem a2x {h:Heap}{S:Addr}{o:Obj}{es es':Array (Int × Value)}{ep:Nat}{t t':SetTable} (ho:h.get? S=some o) (hd:o.data=.set es ep t) (hx:o.ExactSet):∃o',(h.update S (Obj.putSet es' t')).get? S=some o'/\o'.ExactSet/\o'.data=.set es' (ep+1) t':=by
 have e:=putSet_of es' t' hd
 refine ⟨{ o with data:=.set es' (ep+1) t' },?_,hx,rfl⟩
 have:=Heap.get?_update_self (Obj.putSet es' t') ho (by rw[e];rfl)
 rw[this,e]
theorem a6D {ns:List Int}{items:List Value} (hi:ItemsAre (m9 prog w) (ns.map Sum.inl) items):∀v∈items,∃i t,v=Value.int i t:=fun v hv=>by
 obtain ⟨j,hj⟩:=List.getElem?_of_mem hv
 generalize hks:ns.map (Sum.inl:Int->Key)=ks at hi
 clear hv
 induction hi generalizing ns j with
 | nil=>simp at hj
 | @cons k v' ks' vs' h1 _ ih =>
  cases ns with
  | nil=>cases hks
  | cons n0 ns =>
   injection hks with e1 e2
   cases j with
   | zero =>
    cases hj
    subst e1
    obtain ⟨t,e⟩:=Value.isInt_shape (k:=n0) (v:=v) h1
    exact ⟨n0,t,e⟩
   | succ j=>exact ih j (by simpa using hj) e2
theorem a0J {ns:List Int}{a:Addr}{Q:Bool->Shared->Prop} (hk:TK prog w s.heap ns a) (h:Q false s):wpAny (model prog w) A (ofAClassStatement 8 (.ref a)) Q E s:=by
 have hT:=hk.typeIs
 obtain ⟨o,items,n,ho,_,hd,hi⟩:=hk
 have hint:=a6D hi
 unfold ofAClassStatement
 refine wpAny_bind (wpAny_typeOf hT ?_)
 show wpAny _ _ (pure true >>= _) _ _ s
 refine wpAny_bind (wpAny_pure ?_)
 simp only[Bool.not_true,Bool.false_eq_true,if_false]
 refine wpAny_bind (wpAny_seqItems ho hd ?_)
 refine wpAny_bind ?_
 show wpAny _ _ (forIn items _ _) _ _ s
 rw[<- Array.forIn_toList]
 refine wpAny_forIn_list _ (fun m7 r s'=>r.1=none/\s'=s/\∀v∈m7,∃i t,v=Value.int i t) _ ?_ ?_ _ _ ⟨rfl,rfl,hint⟩
 ·rintro v m7 r s' ⟨hr,rfl,hall⟩
  obtain ⟨i,t,e⟩:=hall v List.mem_cons_self
  subst e
  refine wpAny_bind (m:=ofAClassStatement 7 (.int i t)) (wpAny_pure ?_)
  simp only[Bool.false_eq_true,if_false]
  exact wpAny_pure ⟨rfl,rfl,fun u hu'=>hall u (List.mem_cons_of_mem _ hu')⟩
 ·rintro ⟨r1,r2⟩ s' ⟨hr,rfl,_⟩
  simp only at hr
  subst hr
  exact wpAny_pure h
theorem a5g {ns:List Int}{a:Addr}{ys:List Value}{Q:Bool->Shared->Prop} (hk:TK prog w s.heap ns a) (hy:∀y∈ys,∃k c,y=.ref c/\TK prog w s.heap k c) (h:Q false s):wpAny (model prog w) A (searchCouldBeSeen (.ref a) ys) Q E s:=by
 unfold searchCouldBeSeen
 refine wpAny_bind ?_
 refine wpAny_forIn_list _ (fun m7 r s'=>r.1=none/\s'=s/\∀y∈m7,∃k c,y=.ref c/\TK prog w s.heap k c) _ ?_ ?_ _ _ ⟨rfl,rfl,hy⟩
 ·rintro v m7 r s' ⟨hr,rfl,hall⟩
  obtain ⟨k,c,e,tc⟩:=hall v List.mem_cons_self
  subst e
  have nx:∀u∈m7,∃k c,u=.ref c/\TK prog w s'.heap k c:=fun u hu'=>hall u (List.mem_cons_of_mem _ hu')
  dsimp only
  split
  ·exact wpAny_pure ⟨rfl,rfl,nx⟩
  ·refine wpAny_bind (wpAny_eqIsQuiet_tuple hk ?_)
   simp only[Bool.not_true,Bool.false_eq_true,if_false]
   refine wpAny_bind (wpAny_eqIsQuiet_tuple tc ?_)
   simp only[Bool.not_true,Bool.false_eq_true,if_false]
   refine wpAny_bind (a0J hk ?_)
   simp only[Bool.false_eq_true,if_false]
   refine wpAny_bind (a0J tc ?_)
   simp only[Bool.false_eq_true,if_false]
   exact wpAny_pure ⟨rfl,rfl,nx⟩
 ·rintro ⟨r1,r2⟩ s' ⟨hr,rfl,_⟩
  simp only at hr
  subst hr
  exact wpAny_pure h
theorem a3c {B:List Int->Addr->Prop}{S a:Addr}{ks:List (List Int)}{t:SetTable}{k:List Int}{Q:SetFound->Shared->Prop} (hu:A.units<cLine) (hS:SetT prog w s.heap B S ks t) (hk:TK prog w s.heap k a) (hg:t.gaveWay=false)
  (h:(∃j,t.probe (fun i=>(ks[i]?.map hT).getD 0) (hT k) (t.probeStart (hT k))=some (.empty j none)/\Q (.free j false) s) ∨ (∃j i nx,t.probe (fun i=>(ks[i]?.map hT).getD 0) (hT k) (t.probeStart (hT k))=some (.candidate j i nx)/\ks[i]?=some k/\Q (.there none) s)):
  wpAny (model prog w) A (setSearch S (.ref a) (hT k) true) Q E s:=by
 obtain ⟨o,es,ep,ho,hx,hd,hE⟩:=hS.ex
 have hf:t.fits es.size=true:=by
  have:=hE.len
  rw[Array.length_toList] at this
  rw[this];exact hS.fits
 have hsh:∀i:Nat,((es[i]?).map (fun e:Int × Value=>e.1)).getD 0=(ks[i]?.map hT).getD 0:=fun i=>by
  rw[<- Array.getElem?_toList];exact hE.hash i
 unfold setSearch
 show wpAny _ _ (setSearchFrom S (.ref a) (hT k) true (99999+1) none) _ _ _
 unfold setSearchFrom
 refine wpAny_bind (wpAny_setState_of ho hd hf ?_)
 dsimp only
 rw[hg]
 simp only[Bool.false_eq_true,if_false]
 have hfn:(fun i:Nat=>((es[i]?).map (fun e:Int × Value=>e.1)).getD 0)=fun i:Nat=>(ks[i]?.map hT).getD 0:=funext hsh
 split
 ·rename_i met hm
  have hm':t.probe (fun i=>(ks[i]?.map hT).getD 0) (hT k) (t.probeStart (hT k))=some met:=by rw[<- hfn];exact hm
  rcases h with ⟨j,e,q⟩|⟨j,i,nx,e,ek,q⟩
  ·rw[hm'] at e
   cases e
   exact wpAny_pure q
  ·rw[hm'] at e
   cases e
   obtain ⟨b,eb,tb⟩:=hE.get ek
   have eb':es[i]?=some (hT k,.ref b):=by rw[<- Array.getElem?_toList];exact eb
   cases hl:t.led with
   | true =>
    simp only[Bool.not_true,Bool.false_eq_true,if_false,eb']
    refine wpAny_bind (wpAny_holding (wpAny_eqBool_tuple hu tb.1 hk ?_))
    rw[decide_eq_true rfl]
    refine wpAny_bind (wpAny_setState_of ho hd hf ?_)
    exact wpAny_pure q
   | false =>
    simp only[Bool.not_false,if_true,eb']
    refine wpAny_bind (a5g hk (fun y hy=>?_) ?_)
    ·obtain ⟨e0,he0,rfl⟩:=List.mem_map.mp hy
     have hm0:e0∈es.toList:=by
      have:=(Array.mem_filter.mp (Array.mem_toList_iff.mp he0)).1
      exact Array.mem_toList_iff.mpr this
     obtain ⟨j0,hj0⟩:=List.getElem?_of_mem hm0
     cases hk0:ks[j0]? with
     | none=>rw[hE.none hk0] at hj0;cases hj0
     | some k0 =>
      obtain ⟨c,ec,tc⟩:=hE.get hk0
      rw[ec] at hj0
      cases hj0
      exact ⟨k0,c,rfl,tc.1⟩
    ·simp only[Bool.false_eq_true,if_false]
     refine wpAny_bind (wpAny_holding (wpAny_eqBool_tuple hu tb.1 hk ?_))
     rw[decide_eq_true rfl]
     refine wpAny_bind (wpAny_setState_of ho hd hf ?_)
     exact wpAny_pure q
 ·rename_i hm
  exfalso
  rcases h with ⟨j,e,q⟩|⟨j,i,nx,e,ek,q⟩
  ·rw[<- hfn] at e
   exact hm _ e
  ·rw[<- hfn] at e
   exact hm _ e
theorem W8 {α:Type} (xs:Array α) (p:Nat) (x:α):(SetTable.insertAt xs p x).toList=xs.toList.take p++x::xs.toList.drop p:=by
 unfold SetTable.insertAt
 simp[Array.toList_extract,List.extract_eq_drop_take]
 exact List.take_of_length_le (by rw[List.length_drop,Array.length_toList];exact Nat.le_refl _)
theorem a1X {B:List Int->Addr->Prop}{S:Addr}{ks':List (List Int)}{t t':SetTable}{o:Obj}{es es':Array (Int × Value)}{ep:Nat}{h:Heap} (ho:h.get? S=some o) (hd:o.data=.set es ep t) (hx:o.ExactSet) (hE:EsT prog w h B ks' es'.toList) (hf:t'.fits ks'.length=true) (hp:t'.plain=true):SetT prog w (h.update S (Obj.putSet es' t')) B S ks' t':=by
 obtain ⟨o',g1,g2,g3⟩:=a2x (es':=es') (t':=t') ho hd hx
 exact ⟨⟨o',es',ep+1,g1,g2,g3,hE.keep fun k a x _=>x.sameBut ho hd (Heap.SameBut.update h S _)⟩,hf,hp⟩
theorem a9o {B:List Int->Addr->Prop}{S a:Addr}{ks ks':List (List Int)}{t t':SetTable}{k:List Int}{Q:Bool->Shared->Prop} (hu:A.units<cLine) (hS:SetT prog w s.heap B S ks t) (hk:TK prog w s.heap k a) (hB:B k a) (hst:U5 ks t k=some (ks',t')) (hl:ks.length<=1000)
  (q:∀b h' tk,s.toks<=tk->Heap.SameBut S s.heap h'->SetT prog w h' B S ks' t'->Q b { s with heap:=h',toks:=tk }):wpAny (model prog w) A (setAdd S (.ref a)) Q E s:=by
 obtain ⟨o,es,ep,ho,hx,hd,hE⟩:=hS.ex
 have hes:es.size=ks.length:=by
  have:=hE.len
  rwa [Array.length_toList] at this
 have hf:t.fits es.size=true:=by rw[hes];exact hS.fits
 unfold U5 at hst
 by_cases hg:t.gaveWay=true
 ·rw[if_pos hg] at hst;cases hst
 rw[if_neg hg] at hst
 have hg':t.gaveWay=false:=by simpa using hg
 unfold setAdd
 refine wpAny_holding ?_
 refine wpAny_bind (wpAny_pyHash_tuple hu hk ?_)
 rw[a7m]
 unfold setAddHashed
 refine wpAny_holding ?_
 show wpAny _ _ (setAddHashedIn S (.ref a) (hT k) (99999+1)) _ _ _
 unfold setAddHashedIn
 refine wpAny_bind (wpAny_setState_of (s:={ s with toks:=s.toks+((k.map (Sum.inl:Int->Key)).length+1) }) ho hd hf ?_)
 dsimp only
 have hsc:byScan (.ref a) es=false:=by unfold byScan;rfl
 rw[hsc]
 simp only[Bool.false_eq_true,if_false]
 cases hpr:t.probe (fun i=>(ks[i]?.map hT).getD 0) (hT k) (t.probeStart (hT k)) with
 | none=>rw[hpr] at hst;cases hst
 | some met =>
  cases met with
  | candidate j i nx =>
   rw[hpr] at hst
   dsimp only at hst
   by_cases hki:ks[i]?=some k
   ·rw[if_pos hki] at hst
    cases hst
    refine wpAny_bind (a3c (s:={ s with toks:=s.toks+((k.map (Sum.inl:Int->Key)).length+1) }) hu ⟨⟨o,es,ep,ho,hx,hd,hE⟩,hS.fits,hS.plain⟩ hk hg' (.inr ⟨j,i,nx,hpr,hki,?_⟩))
    exact wpAny_pure (q false s.heap _ (Nat.le_add_right _ _) (Heap.SameBut.refl S s.heap) hS)
   ·rw[if_neg hki] at hst;cases hst
  | empty j dm =>
   cases dm with
   | some d=>rw[hpr] at hst;cases hst
   | none =>
    rw[hpr] at hst
    dsimp only at hst
    refine wpAny_bind (a3c (s:={ s with toks:=s.toks+((k.map (Sum.inl:Int->Key)).length+1) }) hu ⟨⟨o,es,ep,ho,hx,hd,hE⟩,hS.fits,hS.plain⟩ hk hg' (.inl ⟨j,hpr,?_⟩))
    dsimp only
    refine wpAny_bind (wpAny_setState_of (s:={ s with toks:=s.toks+((k.map (Sum.inl:Int->Key)).length+1) }) ho hd hf ?_)
    dsimp only
    by_cases hc:((t.put j).1.fits (ks.length+1)&&(t.put j).1.plain)=true
    rotate_left
    ·rw[if_neg hc] at hst;cases hst
    rw[if_pos hc] at hst
    rw[Bool.and_eq_true] at hc
    have hE1:EsT prog w s.heap B (ks.take (t.put j).2++k::ks.drop (t.put j).2) (SetTable.insertAt es (t.put j).2 (hT k,.ref a)).toList:=by
     rw[W8]
     exact (hE.take _).append ⟨a,_,rfl,⟨hk,hB⟩,hE.drop _⟩
    have hl1:(ks.take (t.put j).2++k::ks.drop (t.put j).2).length=ks.length+1:=by
     rw[List.length_append,List.length_cons,List.length_take,List.length_drop];lia
    have hs1:(SetTable.insertAt es (t.put j).2 (hT k,Value.ref a)).size=ks.length+1:=by
     have:=hE1.len
     rwa [Array.length_toList,hl1] at this
    generalize hp:t.put j=tp at hst hc hE1 hl1 hs1
    obtain ⟨t1,p⟩:=tp
    dsimp only at hst hc hE1 hl1 hs1 ⊢
    generalize hks1:ks.take p++k::ks.drop p=ks1 at hst hE1 hl1
    generalize hes1:SetTable.insertAt es p (hT k,Value.ref a)=es1 at hE1 hs1
    rw[if_pos hc.2]
    refine wpAny_bind (X7 (s:={ s with toks:=s.toks+((k.map (Sum.inl:Int->Key)).length+1) }) hk ?_)
    simp only[if_true]
    refine wpAny_bind (wpAny_storeSet_of (s:={ s with toks:=s.toks+((k.map (Sum.inl:Int->Key)).length+1) }) ho hd ?_ (by rw[hs1,sizeLine_eq];lia))
    have hT1:SetT prog w (s.heap.update S (Obj.putSet es1 t1)) B S ks1 t1:=a1X ho hd hx hE1 (by rw[hl1];exact hc.1) hc.2
    have hsb1:=Heap.SameBut.update s.heap S (Obj.putSet es1 t1)
    by_cases htf:t1.tooFull=true
    rotate_left
    ·rw[if_neg htf] at hst
     have htf':t1.tooFull=false:=by simpa using htf
     simp only[htf',Bool.not_false,Bool.and_false,Bool.false_eq_true,if_false]
     cases hst
     exact wpAny_pure (q true _ _ (Nat.le_add_right _ _) hsb1 hT1)
    rw[if_pos htf] at hst
    simp only[htf,Bool.not_false,Bool.and_true,if_true]
    cases hrl:t1.relaid (ks1.map hT).toArray (SetTable.grown (ks.length+1)) with
    | none=>rw[hrl] at hst;cases hst
    | some to =>
     obtain ⟨t2,order⟩:=to
     rw[hrl] at hst
     dsimp only at hst
     by_cases hd2:(decide ((order.toList.filterMap (ks1[·]?)).length=ks.length+1)&&t2.fits (ks.length+1)&&t2.plain&&decide (SetTable.sizeAbove (SetTable.grown (ks.length+1))<=16777216))=true
     rotate_left
     ·rw[if_neg hd2] at hst;cases hst
     rw[if_pos hd2] at hst
     cases hst
     simp only[Bool.and_eq_true,decide_eq_true_eq] at hd2
     obtain ⟨⟨⟨hn2,hf2⟩,hp2⟩,hz2⟩:=hd2
     obtain ⟨o1,es1',ep1,ho1,hx1,hd1,hEE⟩:=hT1.ex
     obtain ⟨o1',g1,g2,g3⟩:=a2x (es':=es1) (t':=t1) ho hd hx
     have eo:o1'=o1:=Option.some.inj (g1.symm.trans ho1)
     subst eo
     have ee:es1'=es1:=by rw[g3] at hd1;injection hd1 with e1 _ _;exact e1.symm
     subst ee
     unfold setRelay
     rw[hes]
     refine wpAny_bind (wpAny_bind (wpAny_setState_of (s:={ s with heap:=s.heap.update S (Obj.putSet es1' t1),toks:=s.toks+((k.map (Sum.inl:Int->Key)).length+1) }) ho1 hd1 (by rw[hs1];exact hc.1) ?_))
     dsimp only
     rw[if_neg (by rw[sizeLine_eq];lia)]
     have hmp:es1'.map (·.1)=(ks1.map hT).toArray:=by
      have:(es1'.map (·.1)).toList=ks1.map hT:=by rw[Array.toList_map];exact hE1.hashes
      rw[<- this,Array.toArray_toList]
     rw[hmp,hrl]
     have hE2:EsT prog w (s.heap.update S (Obj.putSet es1' t1)) B (order.toList.filterMap (ks1[·]?)) (order.filterMap (es1'[·]?)).toList:=by
      rw[Array.toList_filterMap]
      have:=hEE.pick order.toList
      simpa using this
     have hs2:(order.filterMap (es1'[·]?)).size=ks.length+1:=by
      have:=hE2.len
      rwa [Array.length_toList,hn2] at this
     refine wpAny_bind ?_
     show wpAny _ _ (if ((order.filterMap (es1'[·]?)).size != es1'.size)=true then _ else _) _ _ _
     rw[if_neg (by rw[hs2,hs1];simp)]
     refine wpAny_pure ?_
     dsimp only
     refine wpAny_storeSet_of (s:={ s with heap:=s.heap.update S (Obj.putSet es1' t1),toks:=s.toks+((k.map (Sum.inl:Int->Key)).length+1) }) ho1 hd1 ?_ (by rw[hs2,sizeLine_eq];lia)
     refine wpAny_pure (q true _ _ (Nat.le_add_right _ _) (hsb1.trans (Heap.SameBut.update _ S _)) (a1X ho1 hd1 hx1 hE2 (by rw[hn2];exact hf2) hp2))
end
end
end L2
namespace L2
open PySem PySem.Spec PyProof.Rows
noncomputable def runS:List (List Int)->List (List Int)->SetTable->Option (List (List Int) × SetTable)
 | [],ks,t=>some (ks,t)
 | k::r,ks,t=>match U5 ks t k with
  | some (ks',t')=>runS r ks' t'
  | none=>none
theorem a4L {ks ks':List (List Int)}{t t':SetTable}{k:List Int} (h:U5 ks t k=some (ks',t')):ks'.length<=ks.length+1:=by
 unfold U5 at h
 split at h
 ·cases h
 ·split at h
  ·split at h
   ·split at h
    ·split at h
     ·split at h
      ·rename_i h2
       cases h
       simp only[Bool.and_eq_true,decide_eq_true_eq] at h2
       lia
      ·cases h
     ·cases h
    ·cases h
     rw[List.length_append,List.length_cons,List.length_take,List.length_drop];lia
   ·cases h
  ·split at h
   ·cases h;lia
   ·cases h
  ·cases h
section
variable {prog:Program}{w:World}{A:Around}{R:Result->Shared->Prop}{I:Addr}{fp wr:List Addr}{G:Array GenState->Array GenState->Prop}{n:Nat}{P:Nat->Value->Prop}{St:Nat->Shared->Prop}
theorem TK.at {h h':Heap}{ns:List Int}{a:Addr} (x:TK prog w h ns a) (g:∀o,h.get? a=some o->h'.get? a=some o):TK prog w h' ns a :=
 let ⟨o,items,n,ho,r⟩:=x;⟨o,items,n,g o ho,r⟩
theorem SetT.moved {B:List Int->Addr->Prop}{h h':Heap}{S:Addr}{ks:List (List Int)}{t:SetTable} (hS:SetT prog w h B S ks t) (g:∀o,h.get? S=some o->h'.get? S=some o) (g2:∀k a o,B k a->h.get? a=some o->h'.get? a=some o):SetT prog w h' B S ks t:=by
 obtain ⟨o,es,ep,ho,hx,hd,hE⟩:=hS.ex
 exact ⟨⟨o,es,ep,g o ho,hx,hd,hE.keep fun k a x hb=>x.at fun o e=>g2 k a o hb e⟩,hS.fits,hS.plain⟩
theorem a6p {S:Addr}{s:Shared} (h:wpAny (model prog w) A.in1 (pyNext (.ref I)) (fun x s1=>match x with
   | none=>R (.ok (.ret .none)) s1
   | some v=>wpAny (model prog w) A.in1 (setAdd S v) (fun _ s2=>codeAny (model prog w) A (.builtin "set.update.loop" ⟨[.ref S,.ref I],[]⟩) R s2) (fun e s2=>R (.error e) s2) s1) (fun e s1=>R (.error e) s1) s):
  codeAny (model prog w) A (.builtin "set.update.loop" ⟨[.ref S,.ref I],[]⟩) R s:=by
 refine codeAny_builtin F.entry_set_update_loop (Around.under_plainId F.plain_set_update_loop _ ▸ wpAny_bind (wpAny_mono h (fun x s1 y=>?_) fun _ _ y=>y))
 cases x with
 | none=>exact wpAny_pure y
 | some v=>exact wpAny_bind (wpAny_holding (wpAny_mono y (fun _ s2 z=>wpAny_pure ⟨plainId_quiet F.plain_set_update_loop _,z⟩) fun _ _ z=>z))
theorem a6m {B:List Int->Addr->Prop} (W:WalksS prog w A.in1 I fp wr G n P St) (S:Addr) (hSf:S ∉ fp) (hu:A.in1.units<cLine) (hSB:∀k a,B k a->a≠S) (hwB:∀k b,B k b->b ∉ wr) {h0:Heap}{kz:List (List Int)} (hn:kz.length=n) (h500:n<=500) (hval:∀i v,P i v->∃k a,kz[i]?=some k/\v=.ref a/\B k a/\TK prog w h0 k a) {kf:List (List Int)}{tf:SetTable} :
  ∀(m7:List (List Int)) (i:Nat) (s:Shared) (ks:List (List Int)) (t:SetTable),kz.drop i=m7->i<=n->St i s->SetT prog w s.heap B S ks t->ks.length<=i->runS m7 ks t=some (kf,tf)->(∀k b o,B k b->h0.get? b=some o->s.heap.get? b=some o) ->
   (∀s',Moved (S::wr) G s s'->SetT prog w s'.heap B S kf tf->R (.ok (.ret .none)) s') ->
   codeAny (model prog w) A (.builtin "set.update.loop" ⟨[.ref S,.ref I],[]⟩) R s
 | [],i,s,ks,t,hdr,hi,st,T,hl,run,kp,fin=>by
  have e:i=n:=Nat.le_antisymm hi (hn ▸ List.drop_eq_nil_iff.mp hdr)
  subst e
  cases run
  refine a6p (W.done s _ _ st fun s1 m=>fin s1 (m.mono fun b hb=>List.mem_cons_of_mem _ hb) (T.moved (fun o e=>m.heap S o (fun z=>hSf (W.sub _ z)) e) fun k a o hb e=>m.heap a o (hwB k a hb) e))
 | k0::m7,i,s,ks,t,hdr,hi,st,T,hl,run,kp,fin=>by
  have li:i<kz.length:=by
   refine Nat.lt_of_not_le fun z=>?_
   rw[List.drop_eq_nil_of_le z] at hdr;cases hdr
  rw[List.drop_eq_getElem_cons li] at hdr
  injection hdr with e1 e2
  refine a6p (W.item i s _ _ (hn ▸ li) st fun v s1 p st1 m=>?_)
  obtain ⟨k1,a,hk1,rfl,ha,tk⟩:=hval i v p
  rw[List.getElem?_eq_getElem li,e1] at hk1
  cases hk1
  unfold runS at run
  cases hs:U5 ks t k0 with
  | none=>rw[hs] at run;cases run
  | some kt =>
   rw[hs] at run
   have T1:=T.moved (h':=s1.heap) (fun o e=>m.heap S o (fun z=>hSf (W.sub _ z)) e) fun k a o hb e=>m.heap a o (hwB k a hb) e
   refine a9o hu T1 (tk.at fun o e=>m.heap a o (hwB k0 a ha) (kp k0 a o ha e)) ha hs (by lia) fun bb h2 tk2 le2 sb T2=>?_
   refine a6m W S hSf hu hSB hwB hn h500 hval m7 (i+1) _ kt.1 kt.2 e2 (hn ▸ li) (W.frame _ s1 _ _ st1 le2 fun b hb o e=>(sb.2 b fun z=>hSf (z ▸ hb)).trans e) T2 (by have:=a4L hs;lia) run
    (fun k b o hb e=>(sb.2 b (hSB k b hb)).trans (m.heap b o (hwB k b hb) (kp k b o hb e))) fun s3 m3 T3=>?_
   exact fin s3 (Moved.trans W.gtrans ((m.mono fun b hb=>List.mem_cons_of_mem _ hb).then_heap le2 fun b o hb e=>(sb.2 b fun z=>hb (z ▸ List.mem_cons_self)).trans e) m3) T3
end
end L2
namespace L2
open PySem PySem.Spec PyProof.Rows
theorem si_slot_next:Slot "set_iterator" "__next__" "set_iterator.__next__" :=
 .of (owner:="set_iterator") (n:="__next__") (by rw[typeLookup_type,builtinLookup_eq_fast];kernel_rfl) (by decide +kernel) (by decide +kernel) (by decide +kernel)
  (by first|exact .inl (by decide +kernel)|exact .inr (by decide +kernel)) (by rw[isSubtype_type];kernel_rfl)
theorem si_entry_next:entryFor table "set_iterator.__next__"=some Builtin.«set_iterator.__next__»:=entryFor_of_tree (by kernel_rfl)
theorem si_owner:Manifest.owners.lookup (String.ofList ['r','o','t','a','r','e','t','i','_','t','e','s'].reverse)=some Manifest.sig_set_iterator:=by kernel_rfl
theorem S2 (a:Value):argsOk "set_iterator.__next__" ⟨[a],[]⟩:=by
 unfold argsOk;rw[signature?_of (id:="set_iterator.__next__") (n:=['_','_','t','x','e','n','_','_']) (o:=['r','o','t','a','r','e','t','i','_','t','e','s']) (by kernel_rfl) si_owner];kernel_rfl
theorem st_entry_iter:entryFor table "set.__iter__"=some Builtin.«frozenset.__iter__» :=
 entryFor_alias (id':="frozenset.__iter__") (by kernel_rfl) rfl (by decide +kernel) (by kernel_rfl)
theorem a0B {α:Type} (next:Nat->Nat) (xs:Array α):(pickOrder next xs).toList.Perm xs.toList:=by
 have key:∀(fuel k:Nat) (left:List α) (out:Array α),left.length=fuel->(pickOrder.go next fuel k left out).toList.Perm (out.toList++left):=by
  intro fuel
  induction fuel with
  | zero =>
   intro k left out h
   rw[List.length_eq_zero_iff.mp h,List.append_nil]
   exact List.Perm.refl _
  | succ n ih =>
   intro k left out h
   unfold pickOrder.go
   have hlt:next k % left.length<left.length:=Nat.mod_lt _ (by lia)
   rw[List.getElem?_eq_getElem hlt]
   dsimp only
   refine (ih (k+1) _ _ (by rw[List.length_eraseIdx_of_lt hlt];lia)).trans ?_
   rw[Array.toList_push,List.append_assoc]
   refine List.Perm.append_left _ ?_
   show (left[next k % left.length]::left.eraseIdx (next k % left.length)).Perm left
   generalize next k % left.length=j at hlt
   have e:left=left.take j++left[j]::left.drop (j+1):=by rw[<- List.drop_eq_getElem_cons hlt,List.take_append_drop]
   rw[List.eraseIdx_eq_take_drop_succ]
   exact (List.perm_middle.symm).trans (by rw[<- e])
 have:=key xs.size 0 xs.toList #[] (by rw[Array.length_toList])
 rw[show (#[]:Array α).toList++xs.toList=xs.toList from rfl] at this
 exact this
section
variable {prog:Program}{w:World}{A:Around}{E:Value->Shared->Prop}{s:Shared}
noncomputable abbrev byTx (w:World):Bool:=w.params.followText "set-order"
theorem N2 {Q:Bool->Shared->Prop} (h:Q (byTx w) s):wpAny (model prog w) A setsByText Q E s:=by
 unfold setsByText
 exact wpAny_bind (wpAny_askSetting (wpAny_pure h))
noncomputable def SetE (h:Heap) (S:Addr) (es:Array (Int × Value)) (ep:Nat) (t:SetTable):Prop:=∃o,h.get? S=some o/\o.ExactSet/\o.data=.set es ep t
noncomputable def itO (S:Addr) (slot i n ep:Nat):Obj:={ cls:=.type "set_iterator",data:=.fields #[.int slot 0,.int i 0,.ref S,.int n 0,.int ep 0] }
theorem a3T {S:Addr}{es:Array (Int × Value)}{ep:Nat}{t:SetTable}{Q:Value->Shared->Prop} (hS:SetE s.heap S es ep t) (hf:t.fits es.size=true) (hp:t.plain=true)
  (h:Q (.ref s.heap.objs.size) { s with heap:=s.heap.push (itO S 0 0 es.size ep) }):wpAny (model prog w) A (pyIter (.ref S)) Q E s:=by
 obtain ⟨o,ho,hx,hd⟩:=hS
 have hT:s.TypeIs (.ref S) "set":=⟨o,ho,hx.1⟩
 refine wpAny_pyIter_slot hT F.slot_set_iter (wpAny_call_entry F.slot_set_iter hT st_entry_iter ?_ (F.args_set_iter_1 _))
 unfold Builtin.«frozenset.__iter__» Builtin.Frozenset.slot0
 refine wpAny_bind (wpAny_bind (m:=slotArgs _ _ _) (wpAny_pure ?_))
 show wpAny _ _ (pure S) _ _ s
 refine wpAny_pure ?_
 unfold Builtin.Frozenset.sizeOf
 refine wpAny_bind (wpAny_bind (wpAny_setEntries_of ho hd hf (wpAny_pure ?_)))
 unfold setDrawn
 refine wpAny_bind (wpAny_bind (wpAny_setState_of ho hd hf ?_))
 dsimp only
 refine wpAny_bind (N2 (wpAny_pure ?_))
 show wpAny _ _ (if (!byTx w&&(!t.plain&&decide (es.size > 1)))=true then _ else _) _ _ _
 rw[hp]
 rw[if_neg (by simp)]
 refine wpAny_bind (wpAny_pure ?_)
 refine wpAny_bind (wpAny_setEpoch_of ho hd hf ?_)
 unfold newFields
 refine wpAny_bind (wpAny_newObj_type (wpAny_pure ?_) (by size_fits))
 exact ⟨_,rfl,"set_iterator",_,⟨_,Heap.get?_push_size _ rfl,rfl⟩,si_slot_next.lookup,h⟩
noncomputable def C0 (w:World) (S:Addr) (ep:Nat) (es:Array (Int × Value)):Array (Int × Value):=if byTx w=true then pickOrder (w.params.setOrder S ep) es else es
noncomputable def R8 (t:SetTable):Nat->Nat
 | 0=>0
 | i+1=>t.place.getD i 0+1
noncomputable def C1 (t:SetTable) (n:Nat):Bool:=(List.range (n+1)).all fun i=>decide (SetTable.below t.place (R8 t i)=i)
noncomputable def sl (w:World) (t:SetTable) (i:Nat):Nat:=if byTx w=true then 0 else R8 t i
theorem a3q (w:World) (S:Addr) (ep:Nat) (es:Array (Int × Value)):(C0 w S ep es).toList.Perm es.toList:=by
 unfold C0
 split
 ·exact a0B _ _
 ·exact List.Perm.refl _
theorem Q3 (w:World) (S:Addr) (ep:Nat) (es:Array (Int × Value)):(C0 w S ep es).size=es.size:=by
 have:=(a3q w S ep es).length_eq
 rwa [Array.length_toList,Array.length_toList] at this
theorem Z0 {S:Addr}{es:Array (Int × Value)}{ep i:Nat}{t:SetTable}{Q:Option (Value × Nat)->Shared->Prop} (hS:SetE s.heap S es ep t) (hf:t.fits es.size=true) (hp:t.plain=true) (hl:byTx w=false->t.led=true) (hpl:C1 t es.size=true) (hi:i<=es.size)
  (h:Q (((C0 w S ep es)[i]?).map fun e=>(e.2,sl w t (i+1))) s):wpAny (model prog w) A (setNext S (sl w t i) i ep) Q E s:=by
 obtain ⟨o,ho,hx,hd⟩:=hS
 unfold setNext
 refine wpAny_bind (wpAny_setState_of ho hd hf ?_)
 dsimp only
 refine wpAny_bind (N2 ?_)
 cases hb:byTx w with
 | true =>
  rw[if_pos rfl]
  simp only[bne_self_eq_false,Bool.false_eq_true,if_false]
  unfold setWalk
  refine wpAny_bind (wpAny_bind (wpAny_setState_of ho hd hf ?_))
  dsimp only
  refine wpAny_bind (N2 ?_)
  rw[hb,if_pos rfl]
  refine wpAny_bind (wpAny_askSetting (wpAny_pure ?_))
  refine wpAny_pure ?_
  unfold C0 sl at h
  rw[hb,if_pos rfl,if_pos rfl] at h
  unfold sl
  rw[hb,if_pos rfl]
  exact h
 | false =>
  simp only[Bool.false_eq_true,if_false]
  show wpAny _ _ (if (!t.plain&&decide (es.size > 1))=true then _ else _) _ _ _
  rw[if_neg (by rw[hp];simp)]
  refine wpAny_bind ?_
  show wpAny _ _ (if (!t.led&&!es.isEmpty)=true then _ else _) _ _ _
  rw[if_neg (by rw[hl hb];simp)]
  refine wpAny_pure (wpAny_pure ?_)
  have hsl:sl w t i=R8 t i:=by unfold sl;rw[hb];rfl
  have hbl:SetTable.below t.place (R8 t i)=i:=of_decide_eq_true (List.all_eq_true.mp hpl i (List.mem_range.mpr (by lia)))
  rw[hsl,hbl]
  have hw:C0 w S ep es=es:=by unfold C0;rw[hb];rfl
  have hs1:sl w t (i+1)=t.place.getD i 0+1:=by unfold sl;rw[hb];rfl
  rw[hw,hs1] at h
  have hps:t.place.size=es.size:=by
   unfold SetTable.fits at hf
   rw[Bool.and_eq_true] at hf
   exact beq_iff_eq.mp hf.1
  rcases Nat.lt_or_ge i es.size with hlt|hge
  ·have e1:t.place[i]?=some (t.place.getD i 0):=by
    have hlt':i<t.place.size:=by lia
    rw[Array.getD_eq_getD_getElem?,Array.getElem?_eq_getElem hlt'];rfl
   rw[e1]
   rw[Array.getElem?_eq_getElem hlt] at h ⊢
   exact h
  ·rw[Array.getElem?_eq_none hge] at h ⊢
   exact h
theorem a4I {it S:Addr}{es:Array (Int × Value)}{ep i:Nat}{t:SetTable}{e:Int × Value}{Q:Option Value->Shared->Prop} (hit:s.heap.get? it=some (itO S (sl w t i) i es.size ep)) (hS:SetE s.heap S es ep t) (hf:t.fits es.size=true) (hp:t.plain=true) (hl:byTx w=false->t.led=true) (hpl:C1 t es.size=true) (hi:i<es.size) (he:(C0 w S ep es)[i]?=some e)
  (h:∀h',h'.get? it=some (itO S (sl w t (i+1)) (i+1) es.size ep)->Heap.SameBut it s.heap h'->Q (some e.2) { s with heap:=h' }):wpAny (model prog w) A (pyNext (.ref it)) Q E s:=by
 have hT:s.TypeIs (.ref it) "set_iterator":=⟨_,hit,rfl⟩
 obtain ⟨o,ho,hx,hd⟩:=id hS
 unfold pyNext
 refine wpAny_bind (wpAny_attempt (wpAny_callSpecial?_slot (name:=Str.ofString "__next__") hT si_slot_next (wpAny_call_entry si_slot_next hT si_entry_next ?_ (S2 _))))
 unfold Builtin.«set_iterator.__next__»
 refine wpAny_bind (m:=slotArgs _ _ _) (wpAny_pure ?_)
 refine wpAny_bind (wpAny_fieldsOf hit rfl ?_)
 dsimp only
 refine wpAny_bind (wpAny_setEntries_of ho hd hf ?_)
 rw[if_neg (by simp)]
 simp only[Int.toNat_natCast]
 refine wpAny_bind (Z0 hS hf hp hl hpl (by lia) ?_)
 rw[he]
 dsimp only[Option.map]
 refine wpAny_bind (wpAny_setField hit rfl (by simp) ?_)
 have d1:=Obj.data_mapFields (o:=itO S (sl w t i) i es.size ep) rfl (·.setIfInBounds 0 (rawInt ((sl w t (i+1):Nat):Int)))
 have g1:=Heap.get?_update_self (Obj.mapFields (·.setIfInBounds 0 (rawInt ((sl w t (i+1):Nat):Int)))) hit (Obj.isFreed_of_fields d1)
 refine wpAny_bind (wpAny_setField g1 d1 (by simp) ?_)
 refine wpAny_pure ⟨_,rfl,wpAny_pure ?_⟩
 have d2:=Obj.data_mapFields d1 (·.setIfInBounds 1 (rawInt ((i:Int)+1)))
 have g2:=Heap.get?_update_self (Obj.mapFields (·.setIfInBounds 1 (rawInt ((i:Int)+1)))) g1 (Obj.isFreed_of_fields d2)
 exact h _ (g2.trans rfl) ((Heap.SameBut.update ..).trans (Heap.SameBut.update ..))
theorem a5h {it S:Addr}{es:Array (Int × Value)}{ep:Nat}{t:SetTable}{Q:Option Value->Shared->Prop} (hh:A.handled=none) (hit:s.heap.get? it=some (itO S (sl w t es.size) es.size es.size ep)) (hS:SetE s.heap S es ep t) (hf:t.fits es.size=true) (hp:t.plain=true) (hl:byTx w=false->t.led=true) (hpl:C1 t es.size=true)
  (h:∀h',Heap.ExtBut it s.heap h'->Q none { s with heap:=h' }):wpAny (model prog w) A (pyNext (.ref it)) Q E s:=by
 have hT:s.TypeIs (.ref it) "set_iterator":=⟨_,hit,rfl⟩
 obtain ⟨o,ho,hx,hd⟩:=id hS
 unfold pyNext
 refine wpAny_bind (wpAny_attempt (wpAny_callSpecial?_slot (name:=Str.ofString "__next__") hT si_slot_next (wpAny_call_entry si_slot_next hT si_entry_next ?_ (S2 _))))
 unfold Builtin.«set_iterator.__next__»
 refine wpAny_bind (m:=slotArgs _ _ _) (wpAny_pure ?_)
 refine wpAny_bind (wpAny_fieldsOf hit rfl ?_)
 dsimp only
 refine wpAny_bind (wpAny_setEntries_of ho hd hf ?_)
 rw[if_neg (by simp)]
 simp only[Int.toNat_natCast]
 refine wpAny_bind (Z0 hS hf hp hl hpl (Nat.le_refl _) ?_)
 rw[Array.getElem?_eq_none (by rw[Q3];exact Nat.le_refl _)]
 dsimp only[Option.map]
 refine wpAny_bind (wpAny_setField hit rfl (by simp) ?_)
 refine wpAny_bind ?_
 simp only[newExc,newTuple]
 refine wpAny_bind (wpAny_newObj_type ?_ (by size_fits))
 refine wpAny_bind (m:=firstArgMember _ _) (wpAny_of_eq (a:=Value.none) (by first|rfl | (simp only[firstArgMember];rfl)) ?_)
 refine wpAny_newObj_type ?_ (by size_fits)
 simp only[raiseNew]
 refine wpAny_bind (wpAny_handled ?_)
 rw[show A.in1.handled=none from hh]
 refine wpAny_bind (wpAny_pure (wpAny_throw ?_))
 refine wpAny_bind (wpAny_isInstance (T:="StopIteration") (b:=true) ⟨_,Heap.get?_push_size _ rfl,rfl⟩ isSubtype_stop ?_)
 exact wpAny_pure (h _ (((Heap.SameBut.update ..).extBut.push _).push _))
end
end L2
namespace L2
open PySem PySem.Spec PyProof.Rows
noncomputable abbrev F0 (w:World):Obj:={ cls:=.type "set",dict:=none,data:=.set #[] 0 (SetTable.fresh 0 0 (!byTx w)) }
section
variable {prog:Program}{w:World}{A:Around}{E:Value->Shared->Prop}{s:Shared}
theorem a7e (a:Value):codeAny (model prog w) A (.call (.builtin "set.__new__") ⟨[.type "set",a],[]⟩) (wants (fun obj s₁=>obj=.ref s.heap.objs.size/\s₁={ s with heap:=s.heap.push (F0 w) }) E) s:=by
 refine codeAny_call_builtin F.plain_set_new F.entry_set_new (wpAny_of_eq (F.newCall_set_1 a) ?_)
 have hsub:=sub_set_self
 unfold Builtin.«set.__new__» Builtin.Frozenset.newClass
 generalize hN:newSet=N
 wp_walk
 subst hN
 unfold newSet
 exact wpAny_bind (N2 (wpAny_newObj_type (wpAny_pure ⟨rfl,rfl⟩)))
theorem a4W {B:List Int->Addr->Prop}{l:Addr}{items:Array Value}{kz kf:List (List Int)}{tf:SetTable}{R:Value->Shared->Prop}
  (hh:A.handled=none) (hu:A.in1.in1.units<cLine) (hl:s.heap.IsList l items) (hn:kz.length=items.size) (h500:items.size<=500) (hi:∀(i:Nat) (v:Value),items[i]?=some v->∃(k:List Int) (a:Addr),kz[i]?=some k/\v=Value.ref a/\B k a/\TK prog w s.heap k a) (hB:∀k a,B k a->a<s.heap.objs.size)
  (hrun:runS kz [] (SetTable.fresh 0 0 (!byTx w))=some (kf,tf))
  (h:∀(h':Heap) (tk:Nat),SetT prog w h' B s.heap.objs.size kf tf->(∀b o,s.heap.get? b=some o->h'.get? b=some o)->R .none { s with heap:=h',toks:=tk }):
  wpAny (model prog w) A.in1 (Builtin.«set.__init__» ⟨[.ref s.heap.objs.size,.ref l],[]⟩)
   (fun fin s'=>match fin with | .done f=>wants R E (.ok f) s' | .again c'=>c'.quiet=true/\codeAny (model prog w) A c' (wants R E) s') (fun e s'=>wants R E (.error e) s') { s with heap:=s.heap.push (F0 w) }:=by
 have lt:l<s.heap.objs.size:=let ⟨_,ho,_⟩:=hl;Heap.lt_size ho
 have gS:(s.heap.push (F0 w)).get? s.heap.objs.size=some (F0 w):=Heap.get?_push_size _ rfl
 have gL:(s.heap.push (F0 w)).IsList l items:=hl.push _
 have tS:Shared.TypeIs { s with heap:=s.heap.push (F0 w) } (.ref s.heap.objs.size) "set":=⟨_,gS,rfl⟩
 have tL:Shared.TypeIs { s with heap:=s.heap.push (F0 w) } (.ref l) "list":=let ⟨o,ho,hc,_⟩:=gL;⟨o,ho,hc⟩
 have z1:=F.sub_list_set
 have z2:=F.sub_list_frozenset
 have z3:(Value.type "list" == Value.type "dict")=false:=by decide
 unfold Builtin.«set.__init__» noKeywords Builtin.Frozenset.updateFrom
 generalize hPI:pyIter=PI
 wp_walk
 subst hPI
 refine wpAny_pyIter_list gL ?_
 refine wpAny_bind (wpAny_runValue ?_)
 have lt2:s.heap.objs.size<(s.heap.push (F0 w)).objs.size:=by rw[Heap.size_push];exact Nat.lt_succ_self _
 refine a6m (B:=B) (h0:=s.heap) (kz:=kz) (kf:=kf) (tf:=tf) ((Walks.list (A:=A.in1.in1) (by simp[hh]) (s.heap.push (F0 w)).objs.size l (Nat.ne_of_lt (Nat.lt_trans lt lt2)) items).toS) s.heap.objs.size
  (by simp only[List.mem_cons,List.not_mem_nil,or_false,not_or];exact ⟨Nat.ne_of_lt lt2,Nat.ne_of_gt lt⟩) hu (fun k a q=>Nat.ne_of_lt (hB k a q)) (fun k b q hb=>by rw[List.mem_singleton.mp hb] at q;exact absurd (Nat.lt_trans lt2 (hB _ _ q)) (Nat.lt_irrefl _)) hn h500 hi
  kz 0 _ [] (SetTable.fresh 0 0 (!byTx w)) rfl (Nat.zero_le _)
  ⟨⟨_,Heap.get?_push_size _ rfl,rfl,rfl⟩,gL.push _⟩ ⟨⟨_,#[],0,Heap.get?_push_of_some _ gS,⟨rfl,rfl,rfl⟩,rfl,rfl⟩,rfl,rfl⟩ (Nat.zero_le _) hrun
  (fun k b o hb e=>Heap.get?_push_of_some _ (Heap.get?_push_of_some _ e)) fun s' hm hT=>?_
 obtain ⟨h',g',d',tk',os'⟩:=s'
 obtain rfl:g'=s.gens:=hm.gens
 obtain rfl:d'=s.drawn:=hm.drawn
 obtain rfl:os'=s.os:=hm.os
 refine wpAny_pure (wpAny_pure (h h' tk' hT fun b o e=>hm.heap b o (fun hb=>?_) (Heap.get?_push_of_some _ (Heap.get?_push_of_some _ e))))
 have:=Heap.lt_size e
 simp only[List.mem_cons,List.not_mem_nil,or_false] at hb
 rcases hb with rfl|rfl
 ·exact Nat.lt_irrefl _ this
 ·exact absurd (Nat.lt_trans lt2 this) (Nat.lt_irrefl _)
theorem a0Q {B:List Int->Addr->Prop}{l:Addr}{items:Array Value}{kz kf:List (List Int)}{tf:SetTable}{Q:Value->Shared->Prop}
  (hh:A.handled=none) (hu:A.in1.in1.in1.units<cLine) (hl:s.heap.IsList l items) (hn:kz.length=items.size) (h500:items.size<=500) (hi:∀(i:Nat) (v:Value),items[i]?=some v->∃(k:List Int) (a:Addr),kz[i]?=some k/\v=Value.ref a/\B k a/\TK prog w s.heap k a) (hB:∀k a,B k a->a<s.heap.objs.size)
  (hrun:runS kz [] (SetTable.fresh 0 0 (!byTx w))=some (kf,tf))
  (h:∀(h':Heap) (tk:Nat),SetT prog w h' B s.heap.objs.size kf tf->(∀b o,s.heap.get? b=some o->h'.get? b=some o)->Q (.ref s.heap.objs.size) { s with heap:=h',toks:=tk }):
  wpAny (model prog w) A (call (.type "set") [.ref l]) Q E s:=by
 obtain ⟨c,tl,y1⟩:=F.called_set.mro
 have y2:=F.called_set.made
 have y3:=F.called_set.sub
 have y4:=F.called_set.notType
 have y5:=F.called_set.canCreate
 have y6:=F.typeCall_set_1 (.ref l)
 have y7:=F.called_set.init.lookup
 have y8:=F.called_set.init.bind (.ref s.heap.objs.size)
 have tS:Shared.TypeIs { s with heap:=s.heap.push (F0 w) } (.ref s.heap.objs.size) "set":=⟨_,Heap.get?_push_size _ rfl,rfl⟩
 refine wpAny_call (codeAny_of_tree ?_)
 show wpAny _ _ (callAny (.type "set") _) _ _ _
 refine wpAny_pure ⟨Code.quiet_builtin _ (by decide +kernel),codeAny_builtin F.entry_type_call ?_⟩
 rw[Around.under_plain (weight_type_call_type "set" [.ref l] []) rfl]
 repeat (any_goals (first|assumption|wp_step))
 refine codeAny_mono (a7e (.ref l) (E:=E)) fun r s1 x=>?_
 match r,s1,x with
 | .error _,_,x=>exact x
 | .ok (.ret _),_,⟨rfl,rfl⟩ =>
  repeat (any_goals (first|assumption|wp_step))
  refine codeAny_mono (codeAny_call_builtin (R:=wants (fun r s2=>r=.none/\Q (.ref s.heap.objs.size) s2) E) F.called_set.init.plain F.entry_set_init (check_set_init_1 tS (a4W (A:=A.in1) (by simp[hh]) hu hl hn h500 hi hB hrun fun h' tk a b=>⟨rfl,h h' tk a b⟩))) fun r s2 x=>?_
  match r,x with
  | .error _,x=>exact x
  | .ok (.ret _),⟨rfl,q⟩ =>
   repeat (any_goals (first|assumption|wp_step))
end
end L2
namespace L2
open PySem PySem.Spec PyProof.Rows
theorem si_slot_iter:Slot "set_iterator" "__iter__" "set_iterator.__iter__" :=
 .of (owner:="set_iterator") (n:="__iter__") (by rw[typeLookup_type,builtinLookup_eq_fast];kernel_rfl) (by decide +kernel) (by decide +kernel) (by decide +kernel)
  (by first|exact .inl (by decide +kernel)|exact .inr (by decide +kernel)) (by rw[isSubtype_type];kernel_rfl)
theorem si_entry_iter:entryFor table "set_iterator.__iter__"=some Builtin.«dict_keyiterator.__iter__» :=
 entryFor_alias (id':="dict_keyiterator.__iter__") (by kernel_rfl) rfl (by decide +kernel) (by kernel_rfl)
theorem a1k (a:Value):argsOk "set_iterator.__iter__" ⟨[a],[]⟩:=by
 unfold argsOk;rw[signature?_of (id:="set_iterator.__iter__") (n:=['_','_','r','e','t','i','_','_']) (o:=['r','o','t','a','r','e','t','i','_','t','e','s']) (by kernel_rfl) si_owner];kernel_rfl
section
variable {prog:Program}{w:World}{A:Around}{E:Value->Shared->Prop}{s:Shared}
theorem SetE.at {h h':Heap}{S:Addr}{es:Array (Int × Value)}{ep:Nat}{t:SetTable} (x:SetE h S es ep t) (g:∀o,h.get? S=some o->h'.get? S=some o):SetE h' S es ep t :=
 let ⟨o,ho,r⟩:=x;⟨o,g o ho,r⟩
theorem a5t (hh:A.handled=none) (I S:Addr) (hne:S≠I) {es:Array (Int × Value)}{ep:Nat}{t:SetTable} (hf:t.fits es.size=true) (hp:t.plain=true) (hl:byTx w=false->t.led=true) (hpl:C1 t es.size=true):
  Walks prog w A I [I,S] [I] es.size (fun i v=>∃e,(C0 w S ep es)[i]?=some e/\v=e.2) (fun i h=>h.get? I=some (itO S (sl w t i) i es.size ep)/\SetE h S es ep t) where
 sub:=fun b hb=>by simp at hb;simp[hb]
 frame:=fun _ _ _ st hk=>⟨hk I (by simp) _ st.1,st.2.at fun o e=>hk S (by simp) o e⟩
 item:=fun i s Q E hi st hQ=>by
  obtain ⟨e,he⟩:∃e,(C0 w S ep es)[i]?=some e:=⟨_,Array.getElem?_eq_getElem (by rw[Q3];exact hi)⟩
  refine a4I st.1 st.2 hf hp hl hpl hi he fun h' g1 hs'=>?_
  exact hQ e.2 h' s.toks ⟨e,he,rfl⟩ ⟨g1,st.2.at fun o x=>(hs'.2 S hne).trans x⟩ fun b o hb x=>hs'.extBut b o (fun h=>hb (by simp[h])) x
 done:=fun s Q E st hQ=>a5h hh st.1 st.2 hf hp hl hpl fun h' he'=>hQ h' s.toks fun b o hb e=>he' b o (fun h=>hb (by simp[h])) e
 self:=fun i s Q E st hQ=>by
  have hT:s.TypeIs (.ref I) "set_iterator":=⟨_,st.1,rfl⟩
  refine wpAny_pyIter_slot hT si_slot_iter (wpAny_call_entry si_slot_iter hT si_entry_iter ?_ (a1k _))
  show wpAny _ _ (ret (.ref I)) _ _ s
  exact wpAny_pure ⟨_,rfl,"set_iterator",_,hT,si_slot_next.lookup,hQ⟩
theorem a5V {r:Addr}{Q:Bool->Shared->Prop} (hT:s.TypeIs (.ref r) "set") (h:Q false s):wpAny (model prog w) A (Builtin.List.listLengthHint (.ref r)) Q E s:=by
 unfold Builtin.List.listLengthHint
 refine wpAny_bind (wpAny_specialOf hT PySem.F.slot_set_len.lookup ?_)
 generalize hid:("set.__len__":String)=id0
 wp_delta
 rw[show splitId id0=some ("set","__len__") from by subst hid;decide +kernel]
 subst hid
 refine wpAny_bind (wpAny_isInstance (T:="set") (b:=true) hT (by rw[isSubtype_type];kernel_rfl) ?_)
 refine wpAny_ite_split (fun hab=>absurd hab (by decide)) (fun _=>?_)
 refine wpAny_ite_split (fun _=>?_) (fun hab=>absurd (by decide +kernel) hab)
 refine wpAny_bind (wpAny_typeOf hT ?_)
 exact wpAny_pure h
theorem a63 {S:Addr}{es:Array (Int × Value)}{ep:Nat}{t:SetTable} (hf:t.fits es.size=true) (hp:t.plain=true) (hl:byTx w=false->t.led=true) (hpl:C1 t es.size=true):
  W.KdlSrc prog w "set" S S es.size (fun i v=>∃e,(C0 w S ep es)[i]?=some e/\v=e.2) (fun h=>SetE h S es ep t) where
 type:=fun s ⟨o,ho,hx,_⟩=>⟨o,ho,hx.1⟩
 there:=fun h ⟨o,ho,_⟩=>⟨Heap.lt_size ho,Heap.lt_size ho⟩
 keep:=fun h h' x hk=>x.at fun o e=>hk S (.inl rfl) o e
 notList:=by decide
 notTuple:=by decide
 hint:=fun _ _ s _ x hq=>a5V (let ⟨o,ho,hx,_⟩:=x;⟨o,ho,hx.1⟩) hq
 iter:=fun A s hh x=>⟨_,_,(fun E Q hq=>a3T x hf hp hq),a5t hh _ S (let ⟨o,ho,_⟩:=x;Nat.ne_of_lt (Heap.lt_size ho)) hf hp hl hpl,⟨by
   rw[show sl w t 0=0 by unfold sl R8;split <;> rfl]
   exact Heap.get?_push_size _ rfl,x.at fun o e=>Heap.get?_push_of_some _ e⟩⟩
theorem a2p {S:Addr}{es:Array (Int × Value)}{ep:Nat}{t:SetTable}{Q:List Value->Shared->Prop} (hh:A.handled=none) (hS:SetE s.heap S es ep t) (hf:t.fits es.size=true) (hp:t.plain=true) (hl:byTx w=false->t.led=true) (hpl:C1 t es.size=true) (hsz:es.size<=sizeLine)
  (h:∀vs h' tk,vs=(C0 w S ep es).toList.map (·.2)->s.heap.objs.size<h'.objs.size->(∀b o,s.heap.get? b=some o->h'.get? b=some o)->Q vs { s with heap:=h',toks:=tk }):wpAny (model prog w) A (collect (.ref S)) Q E s:=by
 have lt:S<s.heap.objs.size:=let ⟨o,ho,_⟩:=hS;Heap.lt_size ho
 unfold collect
 refine wpAny_bind (wpAny_runValue (codeAny_builtin F.entry_proto_collect ?_))
 rw[Around.under_plainId F.plain_proto_collect _]
 show wpAny _ A.in1 (newList [] >>= fun l=>again (.builtin "list.__iadd__" ⟨[l,.ref S],[]⟩)) _ _ s
 refine wpAny_bind (wpAny_newObj_type (wpAny_pure ⟨plainId_quiet F.plain_list_iadd _,codeAny_builtin F.entry_list_iadd ?_⟩))
 rw[Around.under_plainId F.plain_list_iadd _]
 have hS1:(s.heap.push { cls:=.type "list",data:=.seq ([]:List Value).toArray }).get? s.heap.objs.size=some { cls:=.type "list",data:=.seq #[] }:=Heap.get?_push_size _ rfl
 show wpAny _ A.in1 (Builtin.List.listExtendWith (.ref s.heap.objs.size) (.ref S) (.ref s.heap.objs.size)) _ _ _
 have key:=W.kdl_extend (A:=A) (s:={ s with heap:=s.heap.push { cls:=.type "list",data:=.seq ([]:List Value).toArray } }) (a63 (prog:=prog) (w:=w) (S:=S) (es:=es) (ep:=ep) (t:=t) hf hp hl hpl)
  (R:=fun (q:Result) (s':Shared)=>∃(h':Heap) (tk:Nat) (acc':Array Value) (c':Nat),q=.ok (.ret (.ref s.heap.objs.size))/\s'={ s with heap:=h',toks:=tk } /\
   (∀b o,s.heap.get? b=some o->h'.get? b=some o)/\h'.get? s.heap.objs.size=some { cls:=.type "list",dict:=none,data:=.seq acc' c',slots:=#[] }/\ItemsOf (fun i v=>∃e,(C0 w S ep es)[i]?=some e/\v=e.2) acc' es.size)
  hh (hS.at fun o e=>Heap.get?_push_of_some _ e) s.heap.objs.size (Nat.ne_of_gt lt) (Nat.ne_of_gt lt) (.ref s.heap.objs.size) 0 hS1
  (fun h' tk acc' c' hk hS' hacc=>⟨h',tk,acc',c',rfl,rfl,fun b o e=>hk b o (Nat.ne_of_lt (Heap.lt_size e)) (Heap.get?_push_of_some _ e),hS',hacc⟩) hsz
 have out:∀(h':Heap) (tk:Nat) (acc':Array Value) (c':Nat),(∀b o,s.heap.get? b=some o->h'.get? b=some o)->h'.get? s.heap.objs.size=some { cls:=.type "list",dict:=none,data:=.seq acc' c',slots:=#[] }->ItemsOf (fun i v=>∃e,(C0 w S ep es)[i]?=some e/\v=e.2) acc' es.size ->
   wpAny (model prog w) A (do
    let o <- load s.heap.objs.size
    match o.data with
    | .seq xs _=>pure xs.toList
    | _=>unsupported "internal:collect") Q E { s with heap:=h',toks:=tk }:=fun h' tk acc' c' k1 k2 k3=>by
  refine wpAny_bind (wpAny_load k2 (wpAny_pure ?_))
  show Q acc'.toList _
  refine h acc'.toList h' tk ?_ (Heap.lt_size k2) k1
  refine List.ext_getElem? fun j=>?_
  rw[List.getElem?_map,Array.getElem?_toList,Array.getElem?_toList]
  cases hj:acc'[j]? with
  | none =>
   have:acc'.size<=j:=Array.getElem?_eq_none_iff.mp hj
   rw[Array.getElem?_eq_none (by rw[Q3];have:=k3.1;lia)];rfl
  | some v =>
   obtain ⟨e,he,hv⟩:=k3.2 j v hj
   rw[he,hv];rfl
 refine wpAny_mono key (fun fin s' x=>?_) fun e s' x=>?_
 ·cases fin with
  | done f =>
   obtain ⟨h',tk,acc',c',e,rfl,k1,k2,k3⟩:=x
   cases e
   exact out h' tk acc' c' k1 k2 k3
  | again c1 =>
   refine ⟨x.1,codeAny_mono x.2 fun r s2 y=>?_⟩
   obtain ⟨h',tk,acc',c',e,rfl,k1,k2,k3⟩:=y
   subst e
   exact out h' tk acc' c' k1 k2 k3
 ·obtain ⟨_,_,_,_,z,_⟩:=x
  cases z
end
end L2
namespace L2
open PySem PySem.Spec PyProof.Rows HT
section
variable {prog:Program}{w:World}{A:Around}{E:Value->Shared->Prop}{s:Shared}
end
section
variable {X:Cx}{H:Hp}
end
end L2
namespace L2
open PySem PySem.Spec PyProof.Rows HT
section
variable {prog:Program}{w:World}{A:Around}{E:Value->Shared->Prop}{s:Shared}
theorem a6y {c:Bool}{x y:Int}{t u:Tok}{Q:Bool->Shared->Prop} (h:Q (decide (x<y)) s):wpAny (model prog w) A (oneLt' c (.int x t) (.int y u)) Q E s:=by
 cases c with
 | true=>exact oneLt_int h
 | false=>exact W.kat_one _ _ (wpAny_lt_int h)
theorem a4F {b fin:Bool}{Q:Bool->Shared->Prop}:∀{us vs:List Value}{ns ms:List Int} (i:Nat),IntsAre us ns->IntsAre vs ms->Q (if (ns.take ms.length=ms.take ns.length) then fin else lexLt ns ms) s->W.KatLex prog w A b fin Q (us.zip vs) i s
 | [],vs,_,ms,i,.nil,_,h=>W.kat_nil (by simpa using h)
 | _::_,[],_,_,i,.cons _ _ _,.nil,h=>W.kat_nil (by simpa using h)
 | _::us,_::vs,_,_,i,.cons n t r,.cons m u q,h=>by
  refine W.kat_cons (SeqAt.EqAt.int_int n t m u prog w _ _ ?_)
  by_cases e:n=m
  ·subst e
   rw[beq_self_eq_true]
   refine W.kat_yes (a4F (i+1) r q ?_)
   simpa [A0] using h
  ·rw[show (n == m)=false from by simpa using e]
   refine W.kat_no (a6y ?_)
   simpa [A0,e] using h
theorem lex_pre:∀(ns ms:List Int),(if ns.take ms.length=ms.take ns.length then decide (ns.length<ms.length) else lexLt ns ms)=lexLt ns ms
 | [],[]=>rfl
 | [],_::_=>rfl
 | _::_,[]=>rfl
 | n::ns,m::ms=>by
  have ih:=lex_pre ns ms
  rw[A0]
  by_cases e:n=m
  ·subst e
   simp only[List.length_cons,List.take_succ_cons,List.cons.injEq,true_and,Nat.add_lt_add_iff_right,if_true]
   exact ih
  ·simp[e]
theorem a72 {x y:Addr}{b:Bool}{ns ms:List Int}{Q:Bool->Shared->Prop} (h1:IntsAt s.heap (.ref x) ns) (h2:IntsAt s.heap (.ref y) ms) (hq:Q (lexLt ns ms) s):wpAny (model prog w) A (keyLt' (tuples' b) (.ref x) (.ref y)) Q E s:=by
 obtain ⟨a,us,e1,⟨ox,hx,_,n,dx⟩,i1⟩:=h1
 obtain ⟨c,vs,e2,⟨oy,hy,_,k,dy⟩,i2⟩:=h2
 cases e1
 cases e2
 refine W.kat_lt hx dx hy dy (a4F 0 i1 i2 ?_)
 rw[List.size_toArray,List.size_toArray,ints_ln i1,ints_ln i2,lex_pre]
 exact hq
end
noncomputable abbrev Pl:=Addr × List Int
noncomputable def rvP (L:List Pl):Value->Int
 | .ref a=>(L.lookup a).elim 0 fun k=>(P5 (L.map (·.2)) k:Int)
 | _=>0
theorem lookup_fn:∀{L:List Pl}{t:Pl},(∀u∈L,∀v∈L,u.1=v.1->u.2=v.2)->t∈L->L.lookup t.1=some t.2
 | u::L,t,hf,ht=>by
  rw[show u::L=(u.1,u.2)::L from rfl,List.lookup_cons]
  by_cases e:t.1=u.1
  ·rw[show (t.1 == u.1)=true by simp[e]]
   exact congrArg some (hf u List.mem_cons_self t ht e.symm)
  ·rw[show (t.1 == u.1)=false by simpa using e]
   rcases List.mem_cons.mp ht with rfl|ht'
   ·exact absurd rfl e
   ·exact lookup_fn (fun u hu v hv=>hf u (List.mem_cons_of_mem _ hu) v (List.mem_cons_of_mem _ hv)) ht'
theorem a1e {h:Heap}:∀{L:List Pl},(∀t∈L,IntsAt h (.ref t.1) t.2/\t.2≠[])->W.KatTups h (L.map fun t=>Value.ref t.1) (L.map fun t=>S6 h t.1)
 | [],_=>W.KatTups.nil
 | t::L,hh=>by
  obtain ⟨⟨a,us,e,⟨o,h1,h2,n,h3⟩,ia⟩,ne⟩:=hh t List.mem_cons_self
  cases e
  refine W.KatTups.cons h1 h2 h3 ?_ (a1e fun u hu=>hh u (List.mem_cons_of_mem _ hu))
  have hl:=ints_ln ia
  match us,hl with
  | [],z=>exact absurd (List.length_eq_zero_iff.mp z.symm) ne
  | u::us,_ =>
   show (u::us).toArray[0]?=some (S6 h t.1)
   unfold S6
   rw[h1]
   dsimp only
   rw[h3];rfl
noncomputable def a7o (w:World) (H:Hp) (kf:List (List Int)) (o:Obj):Prop:=∃(es:Array (Int × Value)) (ep:Nat) (t:SetTable) (L:List Pl),o.ExactSet/\o.data=.set es ep t/\t.fits es.size=true/\t.plain=true/\(byTx w=false->t.led=true)/\C1 t es.size=true /\
 es.toList.map (·.2)=L.map (fun t=>Value.ref t.1)/\(L.map (·.2)).Perm kf/\∀t∈L,H t.1=some (.tup (t.2.map V.int))
theorem EsT.pls {prog:Program}{w:World}{h:Heap}{B:List Int->Addr->Prop}:∀{ks:List (List Int)}{es:List (Int × Value)},EsT prog w h B ks es->∃L:List Pl,es.map (·.2)=L.map (fun t=>Value.ref t.1)/\L.map (·.2)=ks/\∀t∈L,B t.2 t.1
 | [],es,q=>by
  cases (show es=[] from q)
  exact ⟨[],rfl,rfl,fun t h=>by cases h⟩
 | k::ks,es,q=>by
  obtain ⟨a,r,rfl,⟨_,hb⟩,q⟩:=q
  obtain ⟨L,e1,e2,e3⟩:=EsT.pls q
  refine ⟨(a,k)::L,by rw[List.map_cons,List.map_cons,e1],by rw[List.map_cons,e2],fun t ht=>?_⟩
  rcases List.mem_cons.mp ht with rfl|ht
  ·exact hb
  ·exact e3 t ht
noncomputable def a0Z (kz kf:List (List Int)):Bool:=[true,false].all fun led=>match runS kz [] (SetTable.fresh 0 0 led) with
 | some (ks,t)=>t.led == led&&C1 t ks.length&&ks.isPerm kf
 | none=>false
theorem a6P {kz kf:List (List Int)} (h:a0Z kz kf=true) (led:Bool):∃ks t,runS kz [] (SetTable.fresh 0 0 led)=some (ks,t)/\t.led=led/\C1 t ks.length=true/\ks.Perm kf:=by
 have:=List.all_eq_true.mp h led (by cases led <;> simp)
 revert this
 cases runS kz [] (SetTable.fresh 0 0 led) with
 | none=>intro h;cases h
 | some x =>
  intro h
  dsimp only at h
  rw[Bool.and_eq_true,Bool.and_eq_true] at h
  exact ⟨x.1,x.2,rfl,beq_iff_eq.mp h.1.1,h.1.2,List.isPerm_iff.mp h.2⟩
section
variable {X:Cx}{H:Hp}
noncomputable def a8H (w:World) (K:W.Frag):List V->Hp->VK->Prop:=fun xs H Q=>∃(p:Addr) (ys:List V) (kz kf:List (List Int)),xs=[.ref p]/\SqL K H p ys/\TL H kz ys/\kz.length<=500/\a0Z kz kf=true /\
 ∀d o,H d=none->a7o w (b7 H d (KN o)) kf o->Q (.ref d) (b7 H d (KN o))
theorem a4A (hc:X.calm=true) (hu:X.A.units+64<cLine):w5 X (.type "set") (a8H X.w X.K):=by
 intro pins s σ H xs us Q I r h
 obtain ⟨p,ys,kz,kf,rfl,hp,hT,h500,hg,q⟩:=h
 obtain ⟨u,rfl,rx⟩:=E1 r
 cases rx
 have hd:=I.hok.fresh (Nat.le_refl s.heap.objs.size)
 have hh:X.A.handled=none:=I.ok.hd hc
 obtain ⟨its,rv,pl,hz⟩:=I.list hp
 have hl:=rv.length
 have tl:=hT.len
 obtain ⟨ks,t,e1,e2,e3,e4⟩:=a6P hg (!byTx X.w)
 refine a0Q (B:=fun k a=>H a=some (.tup (k.map V.int))) (items:=its.toArray) (kz:=kz) hh (by show X.A.units+1+1+1<cLine;lia) pl.isList (by rw[List.size_toArray];lia) (by rw[List.size_toArray];lia) (fun i v hv=>?_) (fun k a e=>I.hok.lt e) e1 fun h' tk hS kp=>?_
 ·have hv':its[i]?=some v:=by rw[<- hv,List.getElem?_toArray]
  have hi:=(List.getElem?_eq_some_iff.mp hv').1
  have hy:ys[i]?=some ys[i]:=List.getElem?_eq_getElem (by lia)
  obtain ⟨z,a,h1,h2,h3⟩:=hT.get hy
  obtain ⟨u,h4,h5⟩:=rv.get hy
  rw[hv'] at h4
  cases h4
  rw[h2] at h5
  cases h5
  exact ⟨z,a,h1,rfl,h3,O6 I.hok (ks:=z.map Sum.inl) (by rw[a6K];exact h3)⟩
 ·obtain ⟨o,es,ep,g1,g2,g3,g4⟩:=hS.ex
  obtain ⟨L,l1,l2,l3⟩:=g4.pls
  have el:es.size=ks.length:=by have:=g4.len;rwa [Array.length_toList] at this
  refine ⟨.ref s.heap.objs.size,_,I.laid (o:=KN o) (t':=tk) kp (Nat.le_refl _) (a8O g1),rfl,q _ o hd ⟨es,ep,t,L,g2,g3,by rw[el];exact hS.fits,hS.plain,fun hb=>by rw[e2,hb];rfl,by rw[el];exact e3,l1,by rw[l2];exact e4,fun u hu=>?_⟩⟩
  have:=l3 u hu
  rw[d0 (d6 this hd)]
  exact this
noncomputable def a7E (w:World):List V->Hp->VK->Prop:=fun xs H Q=>∃(p:Addr) (o:Obj) (kf:List (List Int)),xs=[.ref p]/\H p=some (KN o)/\a7o w H kf o/\kf.length<64/\(2<=kf.length->∀k∈kf,k≠[]) /\
 ∀(D:Addr) (ys:List V) (ms:List (List Int)) (H':Hp),ms.Perm kf->ms.Pairwise (fun a b=>HT.lexLt b a=false)->Same H H'->H' D=some (.lst ys)->TL H' ms ys->Q (.ref D) H'
theorem TL.mk {H:Hp}:∀{L:List Pl},(∀t∈L,H t.1=some (.tup (t.2.map V.int)))->TL H (L.map (·.2)) (L.map fun t=>V.ref t.1)
 | [],_=>trivial
 | t::L,h=>⟨⟨t.1,rfl,h t List.mem_cons_self⟩,TL.mk fun u hu=>h u (List.mem_cons_of_mem _ hu)⟩
theorem vals_pl:∀L:List Pl,Vals (L.map fun t=>V.ref t.1) (L.map fun t=>Value.ref t.1)
 | []=>.nil
 | _::L=>.cons rfl (vals_pl L)
theorem a3Q (hc:X.calm=true):w5 X (.builtin "sorted") (a7E X.w):=by
 intro pins s σ H xs us Q I rr h
 obtain ⟨p,o,kf,rfl,hp,⟨es,ep,t,L0,x1,x2,x3,x4,x5,x6,x7,x8,x9⟩,h64,hne,q⟩:=h
 obtain ⟨u,rfl,rx⟩:=E1 rr
 cases rx
 have ho:=I.hok.kn hp
 have hL0:L0.length=kf.length:=by have:=x8.length_eq;rwa [List.length_map] at this
 have hes:es.size=kf.length:=by have:=congrArg List.length x7;rw[List.length_map,List.length_map,Array.length_toList] at this;lia
 refine Calls.call_function_entry kind_sorted plain_sorted entry_sorted (args_sorted1 _) ?_
 unfold Builtin.«sorted»
 refine wpAny_bind (m:=checkCount "sorted" 1 1 _) (wpAny_pure ?_)
 refine wpAny_bind (a2p (by exact I.ok.hd hc) ⟨o,ho,x1,x2⟩ x3 x4 x5 x6 (by rw[hes,sizeLine_eq];lia) fun its h' tk hits hsz k1=>?_)
 have pm:its.Perm (L0.map fun t=>Value.ref t.1):=by
  rw[hits,<- x7]
  refine List.Perm.map _ ?_
  unfold C0
  split
  ·exact a0B _ _
  ·exact List.Perm.refl _
 obtain ⟨L,hL,rfl⟩:=F6 pm
 clear hits pm
 have y8:(L.map (·.2)).Perm kf:=(hL.map _).trans x8
 have y9:∀t∈L,H t.1=some (.tup (t.2.map V.int)):=fun t ht=>x9 t (hL.mem_iff.mp ht)
 have yl:L.length=kf.length:=by rw[hL.length_eq,hL0]
 have fn:∀u∈L,∀v∈L,u.1=v.1->u.2=v.2:=fun u hu v hv e=>by
  have h1:=y9 u hu
  have h2:=y9 v hv
  rw[e,h2] at h1
  injection h1 with h1
  injection h1 with h1
  exact ((List.map_inj_right fun x y e=>by injection e).mp h1).symm
 have rvE:∀t∈L,rvP L (.ref t.1)=(P5 (L.map (·.2)) t.2:Int):=fun t ht=>by
  show (L.lookup t.1).elim 0 _=_
  rw[lookup_fn fn ht];rfl
 have mem:∀t∈L,t.2∈L.map (·.2):=fun t ht=>List.mem_map.mpr ⟨t,ht,rfl⟩
 refine wpAny_bind (wpAny_newList ?_ (by rw[List.length_map,sizeLine_eq];lia))
 have hB:(h'.push (seqObj "list" (L.map fun t=>Value.ref t.1).toArray 0)).get? h'.objs.size=some (seqObj "list" (L.map fun t=>Value.ref t.1).toArray 0):=Heap.get?_push_size _ rfl
 have k2:∀b o,s.heap.get? b=some o->(h'.push (seqObj "list" (L.map fun t=>Value.ref t.1).toArray 0)).get? b=some o:=fun b o e=>Heap.get?_push_of_some _ (k1 b o e)
 have lt1:∀b o,s.heap.get? b=some o->b≠h'.objs.size:=fun b o e=>Nat.ne_of_lt (Heap.lt_size (k1 b o e))
 show wpAny _ _ _ _ _ { s with heap:=h'.push (seqObj "list" (L.map fun t=>Value.ref t.1).toArray 0),toks:=tk }
 refine wpAny_bind (wpAny_holding (wpAny_call_entry slot_list_sort ⟨_,hB,rfl⟩ entry_list_sort ?body (args_list_sort _)))
 refine So.sort_raw64 (rv:=rvP L) (s:={ s with heap:=h'.push (seqObj "list" (L.map fun t=>Value.ref t.1).toArray 0),toks:=tk }) (vs:=L.map fun t=>Value.ref t.1) hB (by rw[List.length_map];lia) (fun h2 h1 kp=>?_) (fun h5 vs' c' hpm hup kp hB5=>?_)
 ·rw[List.length_map] at h2
  have at1:∀t∈L,IntsAt h1 (.ref t.1) t.2/\t.2≠[]:=fun t ht=>⟨(a0p I.hok (y9 t ht)).keep fun b o _ e=>kp b o (lt1 b o e) (k2 b o e),hne (by lia) _ (y8.mem_iff.mp (mem t ht))⟩
  refine W.kat_kind (T:=.type "int") (a1e at1) (by rw[List.length_map];lia) (fun f hf=>?_) (by decide) ⟨rfl,fun x y hx hy Q hQ=>?_⟩
  ·obtain ⟨t,ht,rfl⟩:=List.mem_map.mp hf
   obtain ⟨⟨a,us,e,⟨o,h1',h2',n,h3'⟩,ia⟩,ne⟩:=at1 t ht
   cases e
   have hl:=ints_ln ia
   match us,hl with
   | [],z=>exact absurd (List.length_eq_zero_iff.mp z.symm) ne
   | u::us,_ =>
    obtain ⟨t',e⟩:=ints_at (j:=0) ia rfl
    have:S6 h1 t.1=u:=by
     unfold S6
     rw[h1']
     dsimp only
     rw[h3'];rfl
    rw[this,e]
    exact W.Looks.of_pure rfl
  ·obtain ⟨x1',x2'⟩:=x
   obtain ⟨y1',y2'⟩:=y
   dsimp only at hx hy hQ ⊢
   obtain ⟨tx,hax,rfl⟩:=List.mem_map.mp hx
   obtain ⟨ty,hay,rfl⟩:=List.mem_map.mp hy
   have eR:decide (rvP L (.ref tx.1)<rvP L (.ref ty.1))=HT.lexLt tx.2 ty.2:=by
    rw[<- a1m (mem tx hax) (mem ty hay)]
    simp only[rvE tx hax,rvE ty hay]
   replace hQ:Q (decide (rvP L (.ref tx.1)<rvP L (.ref ty.1))) _:=hQ
   rw[eR] at hQ
   exact a72 (at1 tx hax).1 (at1 ty hay).1 hQ
 ·refine ⟨_,rfl,wpAny_pure ⟨_,rfl,?_⟩⟩
  obtain ⟨M,hM,rfl⟩:=F6 hpm
  have k5:∀b o,s.heap.get? b=some o->h5.get? b=some o:=fun b o e=>kp b o (lt1 b o e) (k2 b o e)
  have J:=I.lays (N:=fun b=>if b=h'.objs.size then some (.lst (M.map fun t=>V.ref t.1)) else none) (h':=h5) (t':=tk) k5 (fun b o hb e=>?_)
  ·have sm:Same H (fun b=>if b<s.heap.objs.size then H b else if b=h'.objs.size then some (.lst (M.map fun t=>V.ref t.1)) else none):=fun b o e=>by
    show (if b<s.heap.objs.size then H b else _)=some o
    rw[if_pos (I.hok.lt e)];exact e
   refine ⟨.ref h'.objs.size,_,J,rfl,q _ _ (M.map (·.2)) _ ((hM.map _).trans y8) ?_ sm ?_ (TL.mk fun t ht=>sm _ _ (y9 t (hM.mem_iff.mp ht)))⟩
   ·rw[List.pairwise_map]
    rw[List.pairwise_map] at hup
    refine List.Pairwise.imp_of_mem ?_ hup
    intro a b ha hb hab
    have ha':=hM.mem_iff.mp ha
    have hb':=hM.mem_iff.mp hb
    rw[rvE a ha',rvE b hb'] at hab
    rw[<- a1m (mem b hb') (mem a ha')]
    exact decide_eq_false (by lia)
   ·show (if h'.objs.size<s.heap.objs.size then H h'.objs.size else (if h'.objs.size=h'.objs.size then _ else _))=_
    rw[if_neg (Nat.not_lt_of_lt hsz),if_pos rfl]
  ·by_cases hbB:b=h'.objs.size
   ·rw[if_pos hbB] at e
    cases e
    refine ⟨by rw[List.length_map,hM.length_eq,sizeLine_eq];lia,M.map (fun t=>Value.ref t.1),c',vals_pl M,by rw[hbB,hB5]⟩
   ·rw[if_neg hbB] at e
    cases e
end
end L2
namespace Mo
open L2 HT Mt Md Mq
theorem S5 {rs:List (List Int)}{k:Nat}:∀{ds:List Nat}{ns:List Int},u0 rs ns (ds++[k])=match (u0 rs ns ds).2 with|none=>(0,none)|some u=>if u.getD k 0=0 then (0,none) else ((u0 rs ns ds).1*share u k,some (addL u (rs.getD k [])))
 | [],ns=>by
  show u0 rs ns [k]=_
  rw[v7,U3]
  dsimp only[U3]
  split
  ·rfl
  ·congr 1;grind
 | j::ds,ns=>by
  rw[List.cons_append,v7,v7]
  by_cases h:ns.getD j 0=0
  ·rw[if_pos h,if_pos h]
  ·rw[if_neg h,if_neg h,S5 (ds:=ds)]
   cases (u0 rs (addL ns (rs.getD j [])) ds).2 with
   | none=>dsimp only;congr 1;grind
   | some u =>
    dsimp only
    split
    ·congr 1;grind
    ·congr 1;grind
noncomputable def fE (rs:List (List Int)) (u:List Int) (d:List Nat):Option (List Nat × List Int × Rat):=(u0 rs u d).2.map fun v=>(d,v,(u0 rs u d).1)
theorem a2V {α β γ:Type} (f:α->Option β) (g:β->List γ):∀l:List α,(l.filterMap f).flatMap g=l.flatMap fun a=>match f a with|some b=>g b|none=>[]
 | []=>rfl
 | a::l=>by
  rw[List.filterMap_cons,List.flatMap_cons,<- a2V f g l]
  cases f a <;> rfl
theorem a2T {α β γ:Type} (f:β->Option γ) (g:α->List β):∀l:List α,(l.flatMap g).filterMap f=l.flatMap fun a=>(g a).filterMap f
 | []=>rfl
 | a::l=>by rw[List.flatMap_cons,List.flatMap_cons,List.filterMap_append,a2T f g l]
theorem a4Y {α β:Type} (p:α->Bool) (f:α->β):∀l:List α,l.filterMap (fun j=>if p j=true then some (f j) else none)=(l.filter p).map f
 | []=>rfl
 | a::l=>by
  rw[List.filterMap_cons,List.filter_cons,a4Y p f l]
  cases p a <;> rfl
theorem X2 {α β:Type}{f g:α->List β}:∀{l:List α},(∀a∈l,f a=g a)->l.flatMap f=l.flatMap g
 | [],_=>rfl
 | a::l,h=>by rw[List.flatMap_cons,List.flatMap_cons,h a List.mem_cons_self,X2 fun b hb=>h b (List.mem_cons_of_mem _ hb)]
theorem a0b {n:Nat}{rs:List (List Int)}{u:List Int} (hR:Rul n 5 rs) (hu:Urn n 20 u):∀k:Nat,v6 u rs k=(dr n k).filterMap (fE rs u)
 | 0=>rfl
 | k+1=>by
  show (v6 u rs k).flatMap _=((dr n k).flatMap _).filterMap _
  rw[a0b hR hu k,a2V,a2T]
  refine X2 fun d hd=>?_
  obtain ⟨h1,h2⟩:=v4.mp hd
  rw[List.filterMap_map]
  cases e:(u0 rs u d).2 with
  | none =>
   rw[show fE rs u d=none by unfold fE;rw[e];rfl]
   dsimp only
   symm
   rw[List.filterMap_eq_nil_iff]
   intro j hj
   show Option.map _ (u0 rs u (d++[j])).2=none
   rw[S5,e];rfl
  | some v =>
   rw[show fE rs u d=some (d,v,(u0 rs u d).1) by unfold fE;rw[e];rfl]
   have ok:=a2U hR hu h2 e
   have this:∀j,fE rs u (d++[j])=if decide (0<v.getD j 0)=true then some ((d++[j],addL v (rs.getD j []),(u0 rs u d).1*cut (v.getD j 0) v.sum):List Nat × List Int × Rat) else none:=fun j=>by
    unfold fE
    rw[S5,e]
    dsimp only
    by_cases hz:v.getD j 0=0
    ·rw[if_pos hz,if_neg (by rw[hz];decide)];rfl
    ·have:=(ok.getD j).1
     rw[if_neg hz,if_pos (by rw[decide_eq_true_iff];lia)];rfl
   rw[show (fE rs u ∘ fun j=>d++[j])=_ from funext this,a4Y,hu.len];rfl
theorem Z5 {α β:Type} (f:α->Option β) (F:β->Rat):∀l:List α,sumQ ((l.filterMap f).map F)=sumQ (l.map fun a=>match f a with|some b=>F b|none=>0)
 | []=>rfl
 | a::l=>by
  rw[List.filterMap_cons,List.map_cons]
  cases h:f a with
  | none =>
   dsimp only
   rw[Z5 f F l]
   show _=0+_
   grind
  | some b =>
   dsimp only
   show F b+_=F b+_
   rw[Z5 f F l]
noncomputable def F8 (rs:List (List Int)) (u:List Int) (d:List Nat):Rat:=(u0 rs u d).1
theorem a62 {n:Nat}{rs:List (List Int)}{u:List Int} (hR:Rul n 5 rs) (hu:Urn n 20 u) (k:Nat) (φ:List Nat->Rat):n9 (v6 u rs k) φ=sumQ ((dr n k).map fun d=>F8 rs u d*φ d):=by
 unfold n9
 rw[a0b hR hu,Z5]
 refine n8 fun d _=>?_
 unfold fE F8
 cases e:(u0 rs u d).2 with
 | none =>
  dsimp only[Option.map]
  rw[V9 e];grind
 | some v=>rfl
theorem a1K {n k:Nat}{rs:List (List Int)}{u:List Int} (hR:Rul n 5 rs) (n4:n<=4) (hu:Urn n 20 u) (hk:k<=6) {d:List Nat} (hd:d∈dr n k):Vq (LL ^ k) 1 (F8 rs u d):=by
 cases e:(u0 rs u d).2 with
 | none=>unfold F8;rw[V9 e];exact Vq.zero _ _
 | some v =>
  have:(d,v,(u0 rs u d).1)∈v6 u rs k:=by
   rw[a0b hR hu]
   exact List.mem_filterMap.mpr ⟨d,hd,by unfold fE;rw[e];rfl⟩
  exact ((O1 hR n4 hu k hk).1 _ this).vq
noncomputable def D3 (x:Nat) (row:List Nat):List (List Nat):=(List.range (row.length+1)).map fun i=>row.take i++[x]++row.drop i
noncomputable def G4 (d:List Nat):List (List Nat):=d.foldl (fun acc k=>acc.flatMap (D3 k)) [[]]
noncomputable def N7 (n:Nat) (d:List Nat):List (List Nat):=(dr n d.length).filter fun e=>e.isPerm d
theorem a1N {n:Nat}{d e:List Nat} (hd:∀x∈d,x<n) (he:∀x∈e,x<n):j5 n d=j5 n e ↔ d.Perm e:=by
 rw[List.perm_iff_count]
 constructor
 ·intro h a
  by_cases ha:a<n
  ·rw[<- M4 d ha,<- M4 e ha,h]
  ·rw[List.count_eq_zero.mpr fun z=>ha (hd a z),List.count_eq_zero.mpr fun z=>ha (he a z)]
 ·intro h
  unfold j5
  exact List.map_congr_left fun j _=>h j
theorem a2Y {n:Nat}{rs:List (List Int)}{u:List Int} (hR:Rul n 5 rs) (hu:Urn n 20 u) {ks:List Nat} (hk:∀k∈ks,k<n):n9 (v6 u rs ks.length) (iC n (j5 n ks))=sumQ ((N7 n ks).map (F8 rs u)):=by
 rw[a62 hR hu]
 unfold N7
 rw[R5]
 refine n8 fun d hd=>?_
 have:=a1N (v4.mp hd).2 hk
 unfold iC
 by_cases h:d.Perm ks
 ·rw[if_pos (this.mpr h),if_pos (List.isPerm_iff.mpr h)];grind
 ·rw[if_neg (fun z=>h (this.mp z)),if_neg (fun z=>h (List.isPerm_iff.mp z))];grind
theorem a4g {a b:List Rat} (h:a.Perm b):sumQ a=sumQ b:=by
 induction h with
 | nil=>rfl
 | cons x _ ih=>show x+_=x+_;rw[ih]
 | swap x y l=>show y+(x+_)=x+(y+_);grind
 | trans _ _ h1 h2=>rw[h1,h2]
theorem Q5 (x:Rat):∀{l:List Rat},(∀y∈l,y=x)->sumQ l=(l.length:Rat)*x
 | [],_=>by show (0:Rat)=_;rw[List.length_nil];grind
 | y::l,h=>by
  show y+sumQ l=_
  rw[Q5 x fun z hz=>h z (List.mem_cons_of_mem _ hz),h y List.mem_cons_self,List.length_cons]
  have:((l.length+1:Nat):Rat)=(l.length:Rat)+1:=by exact_mod_cast rfl
  rw[this];grind
theorem a48 {c:List Nat->Rat}{n:Nat}{ks:List Nat} (hk:∀k∈ks,k<n) (h:IsF c (dr n ks.length) none):sumQ ((N7 n ks).map c)=((N7 n ks).length:Rat)*c ks:=by
 rw[Q5 (c ks),List.length_map]
 intro y hy
 obtain ⟨d,hd,rfl⟩:=List.mem_map.mp hy
 obtain ⟨h1,h2⟩:=List.mem_filter.mp hd
 have hm:ks∈dr n ks.length:=v4.mpr ⟨rfl,hk⟩
 have e:m8 d=m8 ks:=a47 (List.isPerm_iff.mp h2)
 have key:∀b∈dr n ks.length,c b=c (m8 b):=fun b hb=>Decidable.byContradiction fun z=>h (m8 b) (a1u hb) b hb (a1M z)
 rw[key d h1,key ks hm,e]
theorem addL_swap:∀(u a b:List Int),addL (addL u a) b=addL (addL u b) a
 | [],_,_=>rfl
 | _::_,[],[]=>rfl
 | _::_,[],_::_=>rfl
 | _::_,_::_,[]=>rfl
 | x::u,y::a,z::b=>by
  show (x+y+z)::addL (addL u a) b=(x+z+y)::addL (addL u b) a
  rw[addL_swap u a b,show x+y+z=x+z+y by lia]
theorem a1Q {n i:Nat}{g:Int} (hi:i<n):(E6 n g i).sum=g:=by
 unfold E6
 have:∀m,((List.range m).map fun j=>g*(if i=j then 1 else 0)).sum=if i<m then g else 0:=fun m=>by
  induction m with
  | zero=>rfl
  | succ m ih =>
   rw[List.range_succ,List.map_append,List.sum_append,ih]
   show _+(g*(if i=m then 1 else 0)+0)=_
   by_cases h1:i<m
   ·rw[if_pos h1,if_neg (by lia),if_pos (by lia)];lia
   ·by_cases h2:i=m
    ·rw[if_neg h1,if_pos h2,if_pos (by lia)];lia
    ·rw[if_neg h1,if_neg h2,if_neg (by lia)];lia
 rw[this,if_pos hi]
theorem a57 {a b s t:Int} (hs:0<s) (ht:0<t):cut a s*cut b t=cut b s*cut a t:=by
 have p:(0:Rat)<(s:Rat)*(t:Rat):=Rat.mul_pos (Q2 hs) (Q2 ht)
 refine a0y p ?_
 have h1:=B9 (t:=a) hs
 have h2:=B9 (t:=b) ht
 have h3:=B9 (t:=b) hs
 have h4:=B9 (t:=a) ht
 have e1:cut a s*cut b t*((s:Rat)*(t:Rat))=(cut a s*(s:Rat))*(cut b t*(t:Rat)):=by grind
 have e2:cut b s*cut a t*((s:Rat)*(t:Rat))=(cut b s*(s:Rat))*(cut a t*(t:Rat)):=by grind
 rw[e1,e2,h1,h2,h3,h4];grind
theorem a59 {n:Nat}{g:Int} (h0:0<=g) (h5:g<=5) {d e:List Nat} (h:d.Perm e):(∀x∈d,x<n)->∀{m:Nat}{u:List Int},Urn n m u->F8 (U0 n g) u d=F8 (U0 n g) u e:=by
 have hR:Rul n 5 (U0 n g):=a3d h0 h5
 induction h with
 | nil=>intros;rfl
 | cons x p ih =>
  intro hx m u hu
  unfold F8 at ih ⊢
  rw[v7,v7]
  split
  ·rfl
  ·dsimp only
   rw[ih (fun y hy=>hx y (List.mem_cons_of_mem _ hy)) (hu.add (hR.at (hx x List.mem_cons_self)))]
 | swap x y l =>
  intro hx m u hu
  by_cases hxy:x=y
  ·rw[hxy]
  have hy':=hx y List.mem_cons_self
  have hx':=hx x (List.mem_cons_of_mem _ List.mem_cons_self)
  have lr:∀i,(E6 n g i).length=n:=fun i=>by unfold E6;rw[List.length_map,List.length_range]
  unfold F8
  rw[v7,v7,v7,v7,a2N hx',a2N hy',addL_swap u (E6 n g y) (E6 n g x)]
  have g1:(addL u (E6 n g y)).getD x 0=u.getD x 0:=by rw[a0q (by rw[hu.len,lr]) (by rw[hu.len];exact hx'),a1h hx',if_neg (fun z=>hxy z.symm)];lia
  have g2:(addL u (E6 n g x)).getD y 0=u.getD y 0:=by rw[a0q (by rw[hu.len,lr]) (by rw[hu.len];exact hy'),a1h hy',if_neg hxy];lia
  have s1:(addL u (E6 n g y)).sum=u.sum+g:=by rw[addL_sum (by rw[hu.len,lr]),a1Q hy']
  have s2:(addL u (E6 n g x)).sum=u.sum+g:=by rw[addL_sum (by rw[hu.len,lr]),a1Q hx']
  rw[g1,g2]
  unfold share
  rw[g1,g2,s1,s2]
  have hp:=hu.pos
  have:=a57 (a:=u.getD y 0) (b:=u.getD x 0) hp (show 0<u.sum+g by lia)
  by_cases hy0:u.getD y 0=0
  ·rw[if_pos hy0]
   by_cases hx0:u.getD x 0=0
   ·rw[if_pos hx0]
   ·rw[if_neg hx0]
    dsimp only
    rw[if_pos hy0];grind
  ·rw[if_neg hy0]
   by_cases hx0:u.getD x 0=0
   ·rw[if_pos hx0,if_pos hx0];dsimp only;grind
   ·rw[if_neg hx0,if_neg hx0]
    dsimp only
    rw[if_neg hy0]
    dsimp only
    grind
 | trans p1 _ h1 h2=>exact fun hx m u hu=>(h1 hx hu).trans (h2 (fun y hy=>hx y (p1.mem_iff.mpr hy)) hu)
theorem a4k {n k:Nat}{g:Int} (h0:0<=g) (h5:g<=5) {u:List Int} (hu:Urn n 20 u):IsF (F8 (U0 n g) u) (dr n k) none :=
 a2b fun b hb=>a59 h0 h5 (F4 b).symm (v4.mp hb).2 hu
noncomputable def A1 (n:Nat):Nat->List (List Nat)
 | 0=>[[]]
 | k+1=>(A1 n k).flatMap fun r=>((List.range n).filter fun y=>r == [] || decide (r.getLastD 0<=y)).map fun y=>r++[y]
noncomputable def okR (n k:Nat):Bool:=(dr n k).all fun d=>(A1 n k).countP (fun r=>d.isPerm r) == 1
theorem okR_all:((List.range 5).all fun k=>(List.range 5).all fun n=>okR n k)=true:=by decide +kernel
theorem L7 {n:Nat}:∀{k:Nat}{r:List Nat},r∈A1 n k->r.length=k/\∀x∈r,x<n
 | 0,r,h=>by rw[List.mem_singleton.mp h];exact ⟨rfl,fun x h=>by cases h⟩
 | k+1,r,h=>by
  obtain ⟨s,hs,h⟩:=List.mem_flatMap.mp h
  obtain ⟨y,hy,rfl⟩:=List.mem_map.mp h
  obtain ⟨h1,h2⟩:=L7 hs
  have hy':=List.mem_range.mp (List.mem_filter.mp hy).1
  refine ⟨by rw[List.length_append,h1];rfl,fun x hx=>?_⟩
  rcases List.mem_append.mp hx with z|z
  ·exact h2 x z
  ·rw[List.mem_singleton.mp z];exact hy'
theorem a1w {α:Type} (p:α->Bool):∀l:List α,sumQ (l.map fun r=>if p r=true then (1:Rat) else 0)=(l.countP p:Rat)
 | []=>rfl
 | a::l=>by
  show (if p a=true then (1:Rat) else 0)+_=_
  rw[a1w p l,List.countP_cons]
  by_cases h:p a=true
  ·rw[if_pos h,if_pos h]
   have:((l.countP p+1:Nat):Rat)=(l.countP p:Rat)+1:=by exact_mod_cast rfl
   rw[this];grind
  ·rw[if_neg h,if_neg h,Nat.add_zero];grind
theorem a4B {n:Nat}{rs:List (List Int)}{u:List Int} (hR:Rul n 5 rs) (n4:n<=4) (hu:Urn n 20 u):∀k,k<=6->n9 (v6 u rs k) (fun _=>1)=1
 | 0,_=>by show (1:Rat)*1+0=1;grind
 | k+1,h=>(a4D hR n4 hu (by lia) (ψ:=fun _=>1) fun _ _ _=>rfl).trans (a4B hR n4 hu k (by lia))
theorem a5q {n k:Nat}{rs:List (List Int)}{u:List Int} (hR:Rul n 5 rs) (n4:n<=4) (hu:Urn n 20 u) (k4:k<=4):sumQ ((A1 n k).map fun r=>n9 (v6 u rs k) (iC n (j5 n r)))=1:=by
 rw[<- a0D,<- a4B hR n4 hu k (by lia)]
 refine Y5 hR n4 hu (by lia) fun ds h1 h2=>?_
 have hm:ds∈dr n k:=v4.mpr ⟨h1,h2⟩
 have ok:=List.all_eq_true.mp (List.all_eq_true.mp (List.all_eq_true.mp okR_all k (List.mem_range.mpr (by lia))) n (List.mem_range.mpr (by lia))) ds hm
 have e:sumQ ((A1 n k).map fun r=>iC n (j5 n r) ds)=sumQ ((A1 n k).map fun r=>if ds.isPerm r=true then (1:Rat) else 0):=n8 fun r hr=>by
  have:=a1N h2 (L7 hr).2
  unfold iC
  by_cases h:ds.Perm r
  ·rw[if_pos (this.mpr h),if_pos (List.isPerm_iff.mpr h)]
  ·rw[if_neg (fun z=>h (this.mp z)),if_neg (fun z=>h (List.isPerm_iff.mp z))]
 rw[e,a1w,beq_iff_eq.mp ok];rfl
end Mo
namespace Mo
open L2 HT Mt Md Mq
noncomputable def O2 (n k j:Nat):Bool:=(dr n k).all fun d=>d.headD 0 != j || a0Z ((G4 d).map zI) ((N7 n d).map zI)
theorem ok34_0:O2 3 4 0=true:=by decide +kernel
theorem ok34_1:O2 3 4 1=true:=by decide +kernel
theorem ok34_2:O2 3 4 2=true:=by decide +kernel
theorem ok3_3:((List.range 4).all fun k=>(List.range 3).all fun j=>O2 3 k j)=true:=by decide +kernel
theorem ok43_0:(O2 4 3 0&&O2 4 3 1)=true:=by decide +kernel
theorem ok43_2:(O2 4 3 2&&O2 4 3 3)=true:=by decide +kernel
theorem ok4_2:((List.range 3).all fun k=>(List.range 4).all fun j=>O2 4 k j)=true:=by decide +kernel
theorem ok12:((List.range 5).all fun k=>O2 1 k 0&&(O2 2 k 0&&O2 2 k 1))=true:=by decide +kernel
theorem a6u {n k j:Nat} (hj:j<n) (n4:n<=4) (hk:k<=if n<4 then 4 else 3):O2 n k j=true:=by
 have h:n=1 ∨ n=2 ∨ n=3 ∨ n=4:=by lia
 rcases h with rfl|rfl|rfl|rfl
 ·have h:=List.all_eq_true.mp ok12 k (List.mem_range.mpr (by rw[if_pos (by decide)] at hk;lia))
  rw[Bool.and_eq_true] at h
  have:j=0:=by lia
  subst this
  exact h.1
 ·have h:=List.all_eq_true.mp ok12 k (List.mem_range.mpr (by rw[if_pos (by decide)] at hk;lia))
  rw[Bool.and_eq_true,Bool.and_eq_true] at h
  have:j=0 ∨ j=1:=by lia
  rcases this with rfl|rfl
  ·exact h.2.1
  ·exact h.2.2
 ·rw[if_pos (by decide)] at hk
  by_cases e:k=4
  ·subst e
   have:j=0 ∨ j=1 ∨ j=2:=by lia
   rcases this with rfl|rfl|rfl
   ·exact ok34_0
   ·exact ok34_1
   ·exact ok34_2
  ·exact List.all_eq_true.mp (List.all_eq_true.mp ok3_3 k (List.mem_range.mpr (by lia))) j (List.mem_range.mpr hj)
 ·rw[if_neg (by decide)] at hk
  by_cases e:k=3
  ·subst e
   have a:=ok43_0
   have b:=ok43_2
   rw[Bool.and_eq_true] at a b
   have:j=0 ∨ j=1 ∨ j=2 ∨ j=3:=by lia
   rcases this with rfl|rfl|rfl|rfl
   ·exact a.1
   ·exact a.2
   ·exact b.1
   ·exact b.2
  ·exact List.all_eq_true.mp (List.all_eq_true.mp ok4_2 k (List.mem_range.mpr (by lia))) j (List.mem_range.mpr hj)
theorem a6J {n k:Nat} (n1:1<=n) (n4:n<=4) (hk:k<=if n<4 then 4 else 3) {d:List Nat} (hd:d∈dr n k):a0Z ((G4 d).map zI) ((N7 n d).map zI)=true:=by
 have hj:d.headD 0<n:=by
  have:=(v4.mp hd).2
  cases d with
  | nil=>exact n1
  | cons x d=>exact this x List.mem_cons_self
 have:=List.all_eq_true.mp (a6u hj n4 hk) d hd
 rw[bne_self_eq_false,Bool.false_or] at this
 exact this
noncomputable def okL (n k:Nat):Bool:=(dr n k).all fun d=>decide ((N7 n d).length<64)
theorem okL_all:(((List.range 4).all fun n=>(List.range 5).all fun k=>okL n k)&&((List.range 4).all fun k=>okL 4 k))=true:=by decide +kernel
theorem a1U {n k:Nat} (n1:1<=n) (n4:n<=4) (hk:k<=if n<4 then 4 else 3) {d:List Nat} (hd:d∈dr n k):(N7 n d).length<64:=by
 have h:=okL_all
 rw[Bool.and_eq_true] at h
 have:okL n k=true:=by
  by_cases e:n<4
  ·rw[if_pos e] at hk
   exact List.all_eq_true.mp (List.all_eq_true.mp h.1 n (List.mem_range.mpr e)) k (List.mem_range.mpr (by lia))
  ·rw[if_neg e] at hk
   have:n=4:=by lia
   subst this
   exact List.all_eq_true.mp h.2 k (List.mem_range.mpr (by lia))
 exact of_decide_eq_true (List.all_eq_true.mp this d hd)
end Mo
namespace G
open PySem PySem.Spec PyProof.Rows L2 Mt Md Mo
theorem boot_set:bootBuiltins "set"=some (.type "set"):=by decide +kernel
theorem fact_ins:∀(A:List (List Nat)) (k m:Nat),(∀r∈A,r.length<=m)->(A.flatMap (D3 k)).length<=A.length*(m+1)
 | [],k,m,_=>Nat.zero_le _
 | r::A,k,m,h=>by
  have h1:=fact_ins A k m fun s hs=>h s (List.mem_cons_of_mem _ hs)
  have h2:=h r List.mem_cons_self
  rw[List.flatMap_cons,List.length_append,List.length_cons,Nat.add_mul,Nat.one_mul]
  have:(D3 k r).length=r.length+1:=by unfold D3;rw[List.length_map,List.length_range]
  lia
theorem a0M (d:List Nat) (k:Nat):G4 (d++[k])=(G4 d).flatMap (D3 k):=by unfold G4;rw[List.foldl_append];rfl
theorem a3N {k:Nat}{r s:List Nat} (h:s∈D3 k r):s.length=r.length+1:=by
 obtain ⟨i,hi,rfl⟩:=List.mem_map.mp h
 have:=List.mem_range.mp hi
 rw[List.length_append,List.length_append,List.length_take,List.length_drop]
 show min i r.length+1+_=_
 lia
theorem ordA_len:∀(e:List Nat),(∀r∈G4 e.reverse,r.length=e.length)/\(G4 e.reverse).length<=4 ^ e.length ∨ 4<e.length
 | []=>.inl ⟨fun r h=>by rw[List.mem_singleton.mp h],Nat.le_refl _⟩
 | k::e=>by
  rcases ordA_len e with ⟨h1,h2⟩|h
  ·by_cases h4:e.length<=3
   ·rw[List.reverse_cons,a0M]
    refine .inl ⟨fun r hr=>?_,?_⟩
    ·obtain ⟨s,hs,hr⟩:=List.mem_flatMap.mp hr
     rw[a3N hr,h1 s hs];rfl
    ·refine Nat.le_trans (fact_ins _ k 3 fun r hr=>by rw[h1 r hr];lia) ?_
     rw[List.length_cons,Nat.pow_succ]
     exact Nat.mul_le_mul_right _ h2
   ·exact .inr (by rw[List.length_cons];lia)
  ·exact .inr (by rw[List.length_cons];lia)
theorem Z9 {d:List Nat} (h:d.length<=4):(∀r∈G4 d,r.length=d.length)/\(G4 d).length<=256:=by
 have:=ordA_len d.reverse
 rw[List.reverse_reverse,List.length_reverse] at this
 rcases this with ⟨h1,h2⟩|z
 ·exact ⟨h1,Nat.le_trans h2 (Nat.pow_le_pow_right (n:=4) (by decide) h)⟩
 ·lia
theorem a3t {H H':Hp} (k:∀a xs,H a=some (.tup xs)->H' a=some (.tup xs)):∀{ks:List (List Int)}{xs:List V},TL H ks xs->TL H' ks xs
 | [],[],_=>trivial
 | _::_,_::_,h=>⟨let ⟨a,e,h1⟩:=h.1;⟨a,e,k _ _ h1⟩,a3t k h.2⟩
 | [],_::_,h=>h.elim
 | _::_,[],h=>h.elim
theorem a4M {H:Hp}:∀{ks ls:List (List Int)}{xs ys:List V},TL H ks xs->TL H ls ys->TL H (ks++ls) (xs++ys)
 | [],_,[],_,_,h=>h
 | _::_,_,_::_,_,a,h=>⟨a.1,a4M a.2 h⟩
 | [],_,_::_,_,a,_=>a.elim
 | _::_,_,[],_,a,_=>a.elim
section
variable {P:Program}{w:World}{K:W.Frag}{mg:Str->Option Value}{base:Heap}{f:Addr}{fd:FuncData}{ec:Nat->Addr}{Bs:Addr}
noncomputable def sp_lo:Sp:=fun vs H Q _=>∃(st d:Addr) (ks:List Nat) (n:Nat),vs=[.ref d]/\DrT st H ks d/\(∀k∈ks,k<n)/\1<=n/\n<=4/\ks.length<=(if n<4 then 4 else 3) /\
 ∀(p:Addr) (ys:List V) (os:List (List Nat)) (H':Hp),Same H H'->os.Perm (N7 n ks)->H' p=some (.lst ys)->TL H' (os.map zI) ys->Q (.ref p) H'
noncomputable abbrev s_lo:Stmt:=u7 51
theorem sc_lo:FnScope ["_law_draws","_law_found","_law_kind","_law_longer","_law_row"] ["_law_draws"] (d5 s_lo):=⟨rfl,rfl,rfl,by decide +kernel,rfl,by decide +kernel,by decide +kernel⟩
theorem a8M (F:Fun K "_law_orders" "_law_orders" s_lo f fd) (B:Bt mg) (B3:Bt3 mg) (hSet:mg "set"=none):FnOk P w K mg base CX0 1 f fd ["_law_draws"] sp_lo:=by
 refine F.ok sc_lo (fun vs H Q E h=>?_) (fun cdv A outer s H vs Q E hr h=>?_)
 ·obtain ⟨st,d,ks,n,rfl,_⟩:=h
  rfl
 obtain ⟨st,d,ks,n,rfl,hD,hk,n1,n4,kl,q⟩:=h
 refine ⟨_,(@b8 _ _ _ _ _ (@f9 _ _ 1 _ _ _ _ sc_lo.nd rfl (Or.inl rfl) (@D4 _ _ _ _ (@b5 _ _ _ _ _ (@u3 _ _ _ _ _ pa_nil) pa_nil (by rfl))) (by rfl) (by first|exact .inl rfl|exact .inr rfl))
  (@b8 _ _ _ _ _ (B1 PassesOwn.never rfl (R4 (pv 0)) (u5 (i:=2) sc_lo.nd rfl (Or.inr rfl))
  (@b8 _ _ _ _ _ (@f9 _ _ 3 _ _ _ _ sc_lo.nd rfl (Or.inl rfl) (@D4 _ _ _ _ pa_nil) (by rfl) (by first|exact .inl rfl|exact .inr rfl))
  (@b8 _ _ _ _ _ (B1 PassesOwn.never rfl (G7 (pv 1)) (u5 (i:=4) sc_lo.nd rfl (Or.inr rfl))
  (@c0 _ _ _ (A2 (a3p PySem.F.plainAttrs_list PySem.F.slot_list_extend PySem.F.type_list_extend mt_extend (pv 3) (@b5 _ _ _ _ _ (m6 (N:=["_law_at","_law_row","_law_kind"]) (ix:=[none,some 4,some 2]) (ifs:=[]) (tc:=tTrue) rfl (i9 rfl B.range (@b5 _ _ _ _ _ (@f8 _ _ _ _ _ _ _ _ op_add (d8 call_len_seq rfl B.len PySem.boot_len (@b5 _ _ _ _ _ (pv 4) pa_nil (by rfl))) b9) pa_nil (by rfl)))
   (fun s H ex=>v0 (i:=0) (by decide +kernel) rfl (Or.inl rfl) (.inr rfl)) (fun s H ex=>pifs_nil) (fun s H ex=>(@f8 _ _ _ _ _ _ _ _ catS (@f8 _ _ _ _ _ _ _ _ catS (@G6 _ _ _ _ _ _ _ _ _ _ slS (pv 1) po_none (L3 (pv 0))) (@u3 _ _ _ _ _ (@b5 _ _ _ _ _ (pv 2) pa_nil (by rfl)))) (@G6 _ _ _ _ _ _ _ _ _ _ slS (pv 1) (L3 (pv 0)) po_none))) rfl (by decide +kernel) (by rfl) (by rfl) (fun _=>rfl)) pa_nil (by rfl))))))
  (@c0 _ _ _ (@f9 _ _ 1 _ _ _ _ sc_lo.nd rfl (Or.inl rfl) (pv 3) (by rfl) (by first|exact .inl rfl|exact .inr rfl))))))
  (@c0 _ _ _ (f6 (d8 (a3Q rfl) rfl B3.sorted boot_sorted (@b5 _ _ _ _ _ (i7 (a4A rfl hr.units) rfl hSet boot_set (@b5 _ _ _ _ _ (pv 1) pa_nil (by rfl))) pa_nil (by rfl))))))),?_⟩
 have k4:ks.length<=4:=by split at kl <;> lia
 refine ⟨(by show 0<=sizeLine;decide),fun p0 hp0=>⟨(by show 1<=sizeLine;decide),fun pl hpl=>?_⟩⟩
 have g0:Same H (b7 H p0 (.tup [])):=Same.new hp0
 have h0:b7 H p0 (.tup []) p0=some (.tup []):=b6
 try dsimp -proj only[r6] at *
 generalize b7 H p0 (.tup [])=H0 at g0 h0 hpl
 have g1:Same H0 (b7 H0 pl (.lst [.ref p0])):=Same.new hpl
 have h1:b7 H0 pl (.lst [.ref p0]) pl=some (.lst [.ref p0]):=b6
 generalize b7 H0 pl (.lst [.ref p0])=H1 at g1 h1
 have g01:=g0.trans g1
 refine ⟨_,rfl,d,rfl,⟨_,(hD.kp g01).sq⟩,?_⟩
 refine a2u (K:=K) (a:=d) (xs:=(kI ks).map V.int) (fun i σ H4=>Same H H4/\i<=ks.length/\∃p ys o2 o3 o4,σ=[some (.ref d),some (.ref p),o2,o3,o4]/\H4 p=some (.lst ys)/\TL H4 ((G4 (ks.take i)).map zI) ys)
  ⟨g01,Nat.zero_le _,pl,_,none,none,none,rfl,h1,⟨p0,rfl,g1 _ _ h0⟩,trivial⟩ (fun i σ H4 _ h=>(hD.kp h.1).sq) (fun i x σ H4 hx h=>?_) (fun σ H4 h=>?_)
 ·obtain ⟨g4,hi,p,ys,o2,o3,o4,rfl,hp4,hT⟩:=h
  have hi':i<ks.length:=by have:=(List.getElem?_eq_some_iff.mp hx).1;rwa [List.length_map,F1] at this
  rw[a2S hi'] at hx
  cases hx
  have eA:G4 (ks.take (i+1))=(G4 (ks.take i)).flatMap (D3 ks[i]):=by rw[List.take_add_one,List.getElem?_eq_getElem hi'];exact a0M _ _
  have okA:=Z9 (d:=ks.take i) (by rw[List.length_take];lia)
  have okB:=Z9 (d:=ks.take (i+1)) (by rw[List.length_take];lia)
  rw[eA] at okB ⊢
  have rl:∀r∈G4 (ks.take i),r.length<=4:=fun r hr=>by rw[okA.1 r hr,List.length_take];lia
  generalize G4 (ks.take i)=A at hT okA okB rl
  clear eA
  generalize ks[i]=k at okB ⊢
  have yl:ys.length=A.length:=by rw[<- hT.len,List.length_map]
  refine ⟨(by show 0<=sizeLine;decide),fun lu hlu=>?_⟩
  have npl:p≠lu:=fun e=>by rw[e,hlu] at hp4;cases hp4
  have g5:Same H4 (b7 H4 lu (.lst [])):=Same.new hlu
  have h5:b7 H4 lu (.lst []) lu=some (.lst []):=b6
  try dsimp -proj only
  generalize b7 H4 lu (.lst [])=H5 at g5 h5
  have nls:∀xs ys,HO.lst xs≠.tup ys:=fun _ _ z=>by cases z
  refine ⟨_,rfl,p,rfl,⟨_,.of (g5 _ _ hp4)⟩,?_⟩
  refine M0 (K:=K) (a:=p) (xs:=ys) (fun j σ H6=>Kp lu H5 H6/\(∃zs,H6 lu=some (.lst zs)/\TL H6 (((A.take j).flatMap (D3 k)).map zI) zs)/\j<=ys.length/\∃o4,σ=[some (.ref d),some (.ref p),some (.int k),some (.ref lu),o4])
   ⟨Kp.refl _ _,⟨[],h5,trivial⟩,Nat.zero_le _,o4,rfl⟩ (fun j σ H6 _ h=>.of (h.1 _ _ npl (g5 _ _ hp4))) (fun j t σ H6 ht h=>?_) (fun σ H6 h=>?_)
  ·obtain ⟨k6,⟨zs,hz6,hP⟩,hj,o4,rfl⟩:=h
   have t56:=a01 h5 (nls _) k6
   obtain ⟨z,r,hz,rfl,hr4⟩:=hT.get ht
   rw[List.getElem?_map] at hz
   obtain ⟨s0,hs0,ez⟩:=Option.map_eq_some_iff.mp hz
   subst ez
   have hr6:=t56 _ _ (g5 _ _ hr4)
   have sl:=rl s0 (List.mem_of_getElem? hs0)
   have jl:=(List.getElem?_eq_some_iff.mp ht).1
   have zl:zs.length<=256:=by
    rw[<- hP.len,List.length_map]
    refine Nat.le_trans ?_ okB.2
    conv=>rhs;rw[<- List.take_append_drop j A,List.flatMap_append,List.length_append]
    lia
   refine ⟨_,rfl,.inl ⟨rfl,_,.of hz6⟩,_,rfl,r,_,rfl,.inr (.of hr6),_,_,rfl,rfl,((s0.length+1:Nat):Int),(by show [V.int _]=[V.int _];rw[List.length_map,G0];rfl),(by lia),(by lia),?_⟩
   refine q9 (lo:=0) (n:=s0.length+1) (sz (by lia)) (fun a cs H7=>Same H6 H7/\a<=s0.length+1/\TL H7 (((List.range a).map fun i=>s0.take i++[k]++s0.drop i).map zI) cs)
    ⟨Same.refl _,Nat.zero_le _,trivial⟩ (fun a cs H7 h=>?_) rfl (fun a cs H7 ha h=>?_) (fun cs H7 h=>?_)
   ·rw[<- h.2.2.len,List.length_map,List.length_map,List.length_range]
   ·obtain ⟨g7,ha',hc⟩:=h
    have e0:(0:Int)+(a:Int)=(a:Int):=by lia
    rw[e0]
    have l1:((zI s0).map V.int).length=s0.length:=by rw[List.length_map,G0]
    refine ⟨_,rfl,_,rfl,(a:Int),rfl,r,_,rfl,g7 _ _ hr6,fun p1 Ha ga hp1=>?_⟩
    refine ⟨_,rfl,(by show 1<=sizeLine;decide),fun p2 hp2=>?_⟩
    have gb:Same Ha (b7 Ha p2 (.tup [.int k])):=Same.new hp2
    have hp2b:b7 Ha p2 (.tup [.int k]) p2=some (.tup [.int k]):=b6
    try dsimp only
    generalize b7 Ha p2 (.tup [.int k])=Hb at gb hp2b
    refine ⟨p1,p2,_,_,rfl,rfl,gb _ _ hp1,hp2b,?_,fun p3 Hc gc hp3=>?_⟩
    ·have:=A7 ((zI s0).map V.int) none (some (a:Int))
     rw[l1] at this
     simp only[List.length_cons,List.length_nil];lia
    refine ⟨_,rfl,_,rfl,(a:Int),rfl,r,_,rfl,((g7.trans ga).trans (gb.trans gc)) _ _ hr6,fun p4 Hd gd hp4'=>?_⟩
    refine ⟨p3,p4,_,_,rfl,rfl,gd _ _ hp3,hp4',?_,fun p5 He ge hp5=>?_⟩
    ·have h1:=A7 ((zI s0).map V.int) none (some (a:Int))
     have h2:=A7 ((zI s0).map V.int) (some (a:Int)) none
     rw[l1] at h1 h2
     rw[List.length_append]
     simp only[List.length_cons,List.length_nil];lia
    have ethere:D5 ((zI s0).map V.int) none (some (a:Int))++[V.int k]++D5 ((zI s0).map V.int) (some (a:Int)) none=(zI (s0.take a++[k]++s0.drop a)).map V.int:=by
     rw[W2 (by lia),W7 (by lia)]
     unfold zI
     simp only[List.map_append,List.map_take,List.map_drop,List.map_cons,List.map_nil]
    rw[ethere] at hp5
    have gg:=(((ga.trans gb).trans gc).trans gd).trans ge
    refine ⟨g7.trans gg,by lia,?_⟩
    rw[List.range_succ,List.map_append,List.map_append]
    exact TL.snoc hp5 (hc.same gg)
   ·obtain ⟨g7,_,hc⟩:=h
    intro pc hpc
    have g8:Same H7 (b7 H7 pc (.lst cs)):=Same.new hpc
    have h8:b7 H7 pc (.lst cs) pc=some (.lst cs):=b6
    try dsimp -proj only
    generalize b7 H7 pc (.lst cs)=H8 at g8 h8
    have g68:=g7.trans g8
    have cl:cs.length=s0.length+1:=by rw[<- hc.len,List.length_map,List.length_map,List.length_range]
    refine ⟨lu,pc,zs,cs,rfl,rfl,g68 _ _ hz6,h8,Nat.le_trans (show zs.length+cs.length<=1000 by lia) (by decide),?_⟩
    have kB:Kp lu H8 (b7 H8 lu (.lst (zs++cs))):=Kp.at
    refine ⟨(k6.trans (g68.kp lu)).trans kB,⟨_,b6,?_⟩,jl,_,rfl⟩
    have tB:=a01 (g68 _ _ hz6) (nls _) kB
    rw[List.take_add_one,hs0,List.flatMap_append,List.map_append]
    refine a4M (a3t (fun a xs e=>tB _ _ (g68 _ _ e)) hP) ?_
    have:([s0].flatMap (D3 k))=D3 k s0:=by simp
    show TL _ (([s0].flatMap (D3 k)).map zI) cs
    rw[this]
    exact a3t (fun a xs e=>tB _ _ (g8 _ _ e)) hc
  ·obtain ⟨k6,⟨zs,hz6,hP⟩,_,o4,rfl⟩:=h
   rw[yl,List.take_length] at hP
   refine ⟨_,rfl,fun b o e=>k6 _ _ (fun z=>by rw[z] at e;have:=g4 _ _ e;rw[hlu] at this;cases this) (g5 _ _ (g4 _ _ e)),hi',lu,zs,_,_,_,rfl,hz6,hP⟩
 ·obtain ⟨g4,_,p,ys,o2,o3,o4,rfl,hp4,hT⟩:=h
  rw[List.length_map,F1,List.take_length] at hT
  have okA:=Z9 (d:=ks) k4
  have hm:ks∈dr n ks.length:=v4.mpr ⟨rfl,hk⟩
  refine ⟨_,rfl,p,ys,_,_,rfl,.of hp4,hT,?_,a6J n1 n4 kl hm,fun d2 o hd2 hO=>?_⟩
  ·rw[List.length_map];exact Nat.le_trans okA.2 (by decide)
  have g5:Same H4 (b7 H4 d2 (KN o)):=Same.new hd2
  have h5:b7 H4 d2 (KN o) d2=some (KN o):=b6
  try dsimp -proj only
  generalize b7 H4 d2 (KN o)=H5 at g5 h5 hO
  refine ⟨d2,o,_,rfl,h5,hO,?_,?_,fun D zs ms H6 hpm _ g6 hD6 hT6=>?_⟩
  ·rw[List.length_map];exact a1U n1 n4 kl hm
  ·intro h2 z hz
   obtain ⟨e,he,rfl⟩:=List.mem_map.mp hz
   intro z0
   have e1:=(v4.mp (List.mem_filter.mp he).1).1
   have e2:e.length=0:=by rw[<- G0,z0];rfl
   have e3:ks=[]:=List.length_eq_zero_iff.mp (by lia)
   rw[e3,List.length_map] at h2
   exact absurd (Nat.le_trans h2 (List.length_filter_le ..)) (by show ¬ 2<=1;decide)
  ·obtain ⟨os,ho,rfl⟩:=F6 hpm
   exact q D zs os H6 ((g4.trans g5).trans g6) ho hD6 hT6
end
end G
namespace HT
open PySem PyProof.Rows
theorem a5n (A:Around) (s:Shared) (a:Int) (t:Tok) (c:Int) (u:Tok) (prog:Program) (w:World) (E:Value->Shared->Prop) (Q:Value->Shared->Prop) (h:Q (.bool (decide (c<=a))) s):
  wpAny (model prog w) A (richCompare .GtE (.int a t) (.int c u)) Q E s :=
 (PyProof.Rows.ge_int h:wpAny (model prog w) A (compareOp .GtE (.int a t) (.int c u)) Q E s)
section
open PySem.SeqAt
open PySem.AutoSeq1 (wpAny_loadPart')
open PySem.MeetsSeq PySem.MeetsSeq2 PySem.MeetsSeq3
theorem a0W (l b:Addr) (items items2:Array Value) (n n2:Nat) (dd dd2:Option Addr) (sl sl2:Array (Option Value)) (ns ms:List Int) (hi:IntsAre items.toList ns) (hj:IntsAre items2.toList ms):
  Meets (Builtin.«tuple.__ge__» ⟨[.ref l,.ref b],[]⟩)
   (fun _ R s=>s.heap.get? l=some { cls:=.type "tuple",dict:=dd,data:=.seq items n,slots:=sl }/\s.heap.get? b=some { cls:=.type "tuple",dict:=dd2,data:=.seq items2 n2,slots:=sl2 } /\
    R (.ok (.ret (.bool (!lexLt ns ms)))) s):=
 .of_wp fun prog w A R s h=>by
  obtain ⟨hp,g,d,tk,os⟩:=s;obtain ⟨hl,hb,h⟩:=h
  have f2:=AutoSeq1.sub_tuple_tuple
  have z1:items.size=ns.length:=by rw[<- hi.length];simp
  have z2:items2.size=ms.length:=by rw[<- hj.length];simp
  wp_walk using wpAny_loadPart' hl,wpAny_loadPart' hb,wpAny_forIn_list _ (fun m7 b s'=>b.1=none/\s'=⟨hp,g,d,tk,os⟩/\∃(vs ws:List Value) (ns' ms':List Int),m7=vs.zip ws /\
   IntsAre vs ns'/\IntsAre ws ms'/\ns'.length+items2.size=ms'.length+items.size/\R (.ok (.ret (.bool (!lexLt ns' ms')))) ⟨hp,g,d,tk,os⟩) _
  case turn =>
   rintro ⟨y,x⟩ m7 b s' ⟨hb',rfl,vs,ws,ns',ms',hz,hvi,hwi,hlen,hR⟩
   cases hvi with
   | nil=>rw[List.zip_nil_left] at hz;cases hz
   | cons a t hvi' =>
    cases hwi with
    | nil=>rw[List.zip_nil_right] at hz;cases hz
    | cons c u hwi' =>
     rw[List.zip_cons_cons] at hz
     injection hz with hyx hrest
     injection hyx with hy hx
     subst hy hx
     rw[A0] at hR
     simp only[List.length_cons] at hlen
     obtain ⟨e,he,hiff⟩:=a05 A.in1 ⟨hp,g,d,tk,os⟩ a t c u
     refine wpAny_bind (he prog w _ _ ?_)
     cases e with
     | true =>
      rw[if_pos (hiff.mp rfl)] at hR
      wp_walk
      exact ⟨rfl,rfl,_,_,_,_,hrest,hvi',hwi',by lia,hR⟩
     | false =>
      rw[if_neg (fun q=>absurd (hiff.mpr q) Bool.false_ne_true)] at hR
      have hri:=a5n A.in1 ⟨hp,g,d,tk,os⟩ a t c u prog w
      wp_walk using hri
      have e:(!decide (a<c))=decide (c<=a):=by rw[<- decide_not];exact decide_eq_decide.mpr Int.not_lt
      rw[e] at hR
      exact ⟨_,rfl,by simpa using hR⟩
  case fin =>
   rintro ⟨b1,b2⟩ s' ⟨hb',rfl,vs,ws,ns',ms',hz,hvi,hwi,hlen,hR⟩
   simp only at hb'
   subst hb'
   have hv:lexLt ns' ms'=decide (items.size<items2.size):=by
    cases hvi with
    | nil =>
     cases hwi with
     | nil =>
      simp only[List.length_nil] at hlen
      rw[lexLt_nil_nil]
      exact (decide_eq_false (by lia)).symm
     | cons c u hw =>
      simp only[List.length_nil,List.length_cons] at hlen
      rw[D8]
      exact (decide_eq_true (by lia)).symm
    | cons a t hv =>
     cases hwi with
     | nil =>
      simp only[List.length_nil,List.length_cons] at hlen
      rw[B8]
      exact (decide_eq_false (by lia)).symm
     | cons c u hw =>
      rw[List.zip_cons_cons] at hz
      cases hz
   have e:(!decide (items.size<items2.size))=decide (items2.size<=items.size):=by rw[<- decide_not];exact decide_eq_decide.mpr Nat.not_lt
   rw[hv,e] at hR
   wp_walk
   exact ⟨_,rfl,by simpa [Builtin.Tuple.tupleCompareSizes] using hR⟩
  case h =>
   exact ⟨rfl,rfl,items.toList,items2.toList,ns,ms,rfl,hi,hj,by lia,h⟩
end
section
variable {prog:Program}{w:World}{A:Around}{E:Value->Shared->Prop}{s:Shared}
theorem ge_tupInts {l b:Addr}{items items2:Array Value}{ns ms:List Int}{Q:Value->Shared->Prop} (hl:IsTup s.heap l items) (hb:IsTup s.heap b items2) (hi:IntsAre items.toList ns) (hj:IntsAre items2.toList ms)
  (hu:A.units<cLine) (h:Q (.bool (!lexLt ns ms)) s):wpAny (model prog w) A (compareOp .GtE (.ref l) (.ref b)) Q E s:=by
 obtain ⟨⟨cls,dd,data,sl⟩,ho,hc,n,hd⟩:=id hl
 obtain ⟨⟨cls2,dd2,data2,sl2⟩,ho2,hc2,n2,hd2⟩:=id hb
 simp only at hc hd hc2 hd2
 subst hc hd hc2 hd2
 exact richCompare_meets_room (op:=.GtE) ⟨_,ho,rfl⟩ ⟨_,ho2,rfl⟩ PySem.F.slot_tuple_ge PySem.F.entry_tuple_ge (PySem.F.args_tuple_ge_2 _ _) (a0W l b items items2 n n2 dd dd2 sl sl2 ns ms hi hj)
  ⟨ho,ho2,show Value.bool (!lexLt ns ms)≠Value.notImplemented/\Q (.bool (!lexLt ns ms)) s from ⟨(fun x=>nomatch x),h⟩⟩ hu
end
end HT
namespace L2
open PySem PySem.Spec PyProof.Rows
section
variable {X:Cx}
noncomputable def a9g (K:W.Frag):R2:=fun x y H Q=>∃a b ns ms,x=.ref a/\y=.ref b/\SqT K H a (ns.map V.int)/\SqT K H b (ms.map V.int)/\Q (.bl (!HT.lexLt ns ms)) H
theorem a73 (hu:X.A.units<cLine):v8 X (compareOp .GtE) (a9g X.K):=by
 intro pins s σ H x y v u Q I rx ry h
 obtain ⟨a,b,ns,ms,rfl,rfl,ha,hb,q⟩:=h
 cases rx
 cases ry
 obtain ⟨its,r1,p1,_⟩:=I.tuple ha
 obtain ⟨its2,r2,p2,_⟩:=I.tuple hb
 have i1:IntsAre its.toArray.toList ns:=K8 r1
 have i2:IntsAre its2.toArray.toList ms:=K8 r2
 exact HT.ge_tupInts p1 p2 i1 i2 hu ⟨.bl (!HT.lexLt ns ms),H,I,rfl,q⟩
end
end L2
namespace G
open PySem PySem.Spec PyProof.Rows L2 Mt Md Mo Mq
theorem U4 {B:Nat}{x:Rat} (h:Vq (LL ^ 4) B x) (hB:B<=2 ^ 20):Bd 1300 x:=by
 have e:(2:Nat) ^ 1300=2 ^ 1200*2 ^ 100:=by rw[<- Nat.pow_add]
 have h2:(2:Nat) ^ 20<=2 ^ 100:=by decide
 have h1:=a4Q 4
 refine h.bd (a2s 4) ?_ ?_
 ·rw[e];exact Nat.mul_le_mul h1 (Nat.le_trans hB h2)
 ·rw[e];exact Nat.le_trans h1 (Nat.le_mul_of_pos_right _ (by decide))
theorem a6V {H:Hp}{p r:Addr}{a b:List Int}{Q:VK} (hp:H p=some (.lst (a.map V.int))) (hr:H r=some (.lst (b.map V.int))) (q:Q (.bl (!decide (a=b))) H):rNeD (.ref p) (.ref r) H Q:=by
 obtain ⟨st,d,e,h1,h2,s1,s2,q2⟩:=a6U (Q:=fun v H=>v=.bl (decide (a=b))/\H=H) hp hr ⟨rfl,rfl⟩
 refine ⟨st,d,e,h1,h2,s1,s2,?_⟩
 have:PyData.eqv d e=decide (a=b):=by injection q2.1
 rw[this];exact q
theorem a70 {H:Hp}{p r:Addr}{a b:List Int}{Q:VK} (hp:H p=some (.tup (a.map V.int))) (hr:H r=some (.tup (b.map V.int))) (q:Q (.bl (decide (a=b))) H):rEqD (.ref p) (.ref r) H Q :=
 a6z (l:=p+r+1) (Dt.mkI (Nat.ne_of_lt (Nat.lt_succ_of_le (Nat.le_add_right p r))) hp) (Dt.mkI (Nat.ne_of_lt (Nat.lt_succ_of_le (Nat.le_add_left r p))) hr) q
section
variable {P:Program}{w:World}{K:W.Frag}{mg:Str->Option Value}{base:Heap}{f:Addr}{fd:FuncData}{ec:Nat->Addr}{Bs:Addr}
structure CalT (P:Program) (w:World) (K:W.Frag) (mg:Str->Option Value) (base:Heap) (ec:Nat->Addr):Prop where
 lo:Cal P w K mg base 10 "_law_orders" ["_law_draws"] sp_lo
 co:CalX P w K mg base 10 "chance_of" ["urn","rule","draws"] (G2 ec)
 ao:CalX P w K mg base 10 "any_order" ["urn","rule","draws"] sp_ao
 oa:CalX P w K mg base 10 "orders_alike" ["urn","rule","draws"] (a02 ec)
 fu:CalX P w K mg base 10 "first_unlike" ["urn","rule","draws"] (a03 ec)
 plus:Cal P w K mg base 10 "_law_plus" ["_law_one","_law_other"] sp_plus
 by':Cal P w K mg base 10 "_law_by" ["_law_one","_law_other"] sp_times
noncomputable def sp_ar:Sp:=fun vs H Q _=>∃(st a d:Addr) (v:V) (n:Nat) (ns:List Int) (rs:List (List Int)) (ks:List Nat),vs=[.ref a,v,.ref d]/\AskO st H n ns rs ks.length a v/\TupN H d ((kI ks).map V.int)/\(∀k∈ks,k<n)/\ks.length<=(if n<4 then 4 else 3) /\
 ∀H',Same H H'->Q (.bl true) H'
noncomputable abbrev s_ar:Stmt:=u7 52
theorem sc_ar:FnScope ["_law_urn","_law_rule_here","_law_draws","_law_every","_law_total","_law_row"] ["_law_urn","_law_rule_here","_law_draws"] (d5 s_ar):=⟨rfl,rfl,rfl,by decide +kernel,rfl,by decide +kernel,by decide +kernel⟩
theorem a8K (F:Fun K "_law_any_right" "_law_any_right" s_ar f fd) (B:Bt mg) (C:CalT P w K mg base ec):FnOk P w K mg base CX0 11 f fd ["_law_urn","_law_rule_here","_law_draws"] sp_ar:=by
 refine F.ok sc_ar (fun vs H Q E h=>?_) (fun cdv A outer s H vs Q E hr h=>?_)
 ·obtain ⟨st,a,d,v,n,ns,rs,ks,rfl,_⟩:=h
  rfl
 obtain ⟨st,a,d,v,n,ns,rs,ks,rfl,hA,hT,hk,kl,q⟩:=h
 refine ⟨_,(@b8 _ _ _ _ _ (@f9 _ _ 3 _ _ _ _ sc_ar.nd rfl (Or.inl rfl) (d7 C.lo hr rfl (@b5 _ _ _ _ _ (pv 2) pa_nil (by rfl))) (by rfl) (by first|exact .inl rfl|exact .inr rfl))
  (@b8 _ _ _ _ _ (@f9 _ _ 4 _ _ _ _ sc_ar.nd rfl (Or.inl rfl) (@u3 _ _ _ _ _ (@b5 _ _ _ _ _ b9 (@b5 _ _ _ _ _ b9 pa_nil (by rfl)) (by rfl))) (by rfl) (by first|exact .inl rfl|exact .inr rfl))
  (@b8 _ _ _ _ _ (B1 PassesOwn.never rfl (G7 (pv 3)) (u5 (i:=5) sc_ar.nd rfl (Or.inl rfl))
  (@c0 _ _ _ (@f9 _ _ 4 _ _ _ _ sc_ar.nd rfl (Or.inl rfl) (d7 C.plus hr rfl (@b5 _ _ _ _ _ (pv 4) (@b5 _ _ _ _ _ (j7 C.co hr rfl B5 (@b5 _ _ _ _ _ (pv 0) (@b5 _ _ _ _ _ (pv 1) (@b5 _ _ _ _ _ (pv 5) pa_nil (by rfl)) (by rfl)) (by rfl))) pa_nil (by rfl)) (by rfl))) (by rfl) (by first|exact .inl rfl|exact .inr rfl))))
  (@b8 _ _ _ _ _ (t8 (@j9 _ _ _ _ _ _ _ _ (R3 hr.units) (j7 C.ao hr rfl B5 (@b5 _ _ _ _ _ (pv 0) (@b5 _ _ _ _ _ (pv 1) (@b5 _ _ _ _ _ (pv 2) pa_nil (by rfl)) (by rfl)) (by rfl))) (pv 4) (j4 _)) (@c0 _ _ _ (f6 C9)) pss_nil)
  (@b8 _ _ _ _ _ (t8 (D6 (C4 (j7 C.oa hr rfl B5 (@b5 _ _ _ _ _ (pv 0) (@b5 _ _ _ _ _ (pv 1) (@b5 _ _ _ _ _ (d8 call_len_seq rfl B.len PySem.boot_len (@b5 _ _ _ _ _ (pv 2) pa_nil (by rfl))) pa_nil (by rfl)) (by rfl)) (by rfl))))) (@c0 _ _ _ (f6 C9)) pss_nil)
  (@c0 _ _ _ (f6 (E3 (a7V hr.units) (pv 4) (d7 C.by' hr rfl (@b5 _ _ _ _ _ (@u3 _ _ _ _ _ (@b5 _ _ _ _ _ (d8 call_len_seq rfl B.len PySem.boot_len (@b5 _ _ _ _ _ (pv 3) pa_nil (by rfl))) (@b5 _ _ _ _ _ b9 pa_nil (by rfl)) (by rfl))) (@b5 _ _ _ _ _ (j7 C.co hr rfl B5 (@b5 _ _ _ _ _ (pv 0) (@b5 _ _ _ _ _ (pv 1) (@b5 _ _ _ _ _ (pv 2) pa_nil (by rfl)) (by rfl)) (by rfl))) pa_nil (by rfl)) (by rfl))) (j4 _))))))))),?_⟩
 have hU:=hA.uu
 have hR:=hA.ru
 have n1:=hA.n1
 have n4:=hA.n4
 have k4:=hA.k4
 have hkd:ks∈dr n ks.length:=v4.mpr ⟨rfl,hk⟩
 refine ⟨_,rfl,st,d,ks,n,rfl,.inr hT,hk,n1,n4,kl,fun p ys os H1 g1 ho hp hTL=>?_⟩
 refine ⟨(by show 2<=sizeLine;decide),fun c hc=>?_⟩
 have g2:Same H1 (b7 H1 c (.tup [.int 0,.int 1])):=Same.new hc
 have h2:b7 H1 c (.tup [.int 0,.int 1]) c=some (.tup [.int 0,.int 1]):=b6
 try dsimp -proj only[r6]
 generalize b7 H1 c (.tup [.int 0,.int 1])=H2 at g2 h2
 have g12:=g1.trans g2
 have hTL2:=hTL.same g2
 have hp2:=g2 _ _ hp
 have mem:∀e∈os,e∈dr n ks.length:=fun e he=>(List.mem_filter.mp (ho.mem_iff.mp he)).1
 have ol:os.length<64:=by rw[ho.length_eq];exact a1U n1 n4 kl hkd
 have yl:ys.length=os.length:=by rw[<- hTL.len,List.length_map]
 have V1:∀e∈os,Vq (LL ^ 4) 1 (F8 rs ns e):=fun e he=>(a1K hR n4 hU (by lia) (mem e he)).pow k4
 have VS:∀t,Vq (LL ^ 4) 64 (sumQ ((os.take t).map (F8 rs ns))):=fun t=>(O8 (N:=LL ^ 4) (B:=1) fun x hx=>by
  obtain ⟨e,he,rfl⟩:=List.mem_map.mp hx
  exact V1 e (List.mem_of_mem_take he)).mono (by rw[List.length_map,List.length_take];lia)
 refine ⟨_,rfl,p,rfl,⟨_,.of hp2⟩,?_⟩
 refine M0 (K:=K) (a:=p) (xs:=ys) (fun t σ H3=>Same H2 H3/\t<=ys.length/\∃r o5,σ=[some (.ref a),some v,some (.ref d),some (.ref p),some (.ref r),o5]/\H3 r=some (.tup ((fr (sumQ ((os.take t).map (F8 rs ns)))).map V.int)))
  ⟨Same.refl _,Nat.zero_le _,c,none,rfl,h2⟩ (fun t σ H3 _ h=>.of (h.1 _ _ hp2)) (fun t x σ H3 ht h=>?_) (fun σ H3 h=>?_)
 ·obtain ⟨g3,hi,r,o5,rfl,hr3⟩:=h
  obtain ⟨z,e,hz,rfl,he3⟩:=(hTL2.same g3).get ht
  rw[List.getElem?_map] at hz
  obtain ⟨e0,he0,ez⟩:=Option.map_eq_some_iff.mp hz
  subst ez
  have hem:=List.mem_of_getElem? he0
  have tl:=(List.getElem?_eq_some_iff.mp ht).1
  refine ⟨_,rfl,_,rfl,_,rfl,_,rfl,.inr ⟨st,a,e,v,n,ns,rs,e0,rfl,(hA.same (g12.trans g3)).ask he3 (mem e0 hem),fun q1 H4 g4 hq1=>?_⟩⟩
  refine ⟨r,q1,_,_,1300,1300,rfl,g4 _ _ hr3,hq1,Rat.num_nonneg.mpr (VS t).nn,Rat.num_nonneg.mpr (V1 e0 hem).nn,U4 (VS t) (by decide),U4 (V1 e0 hem) (by decide),by decide,fun r2 H5 g5 hr5=>?_⟩
  refine ⟨(g3.trans g4).trans g5,tl,r2,_,rfl,?_⟩
  rw[hr5,List.take_add_one,he0]
  show _=some (HO.tup ((fr (sumQ ((os.take t++[e0]).map (F8 rs ns)))).map V.int))
  rw[List.map_append,List.map_singleton,a0x];rfl
 obtain ⟨g3,_,r,o5,rfl,hr3⟩:=h
 rw[yl,List.take_length] at hr3
 have VT:Vq (LL ^ 4) 64 (sumQ (os.map (F8 rs ns))):=by have:=VS os.length;rwa [List.take_length] at this
 have g13:=g12.trans g3
 have A3:=hA.same g13
 refine ⟨_,rfl,_,rfl,_,rfl,st,a,d,v,n,ns,rs,ks,rfl,⟨A3.u,hU,A3.r,hR,n1,n4,by lia⟩,hT.same g13,hk,fun r1 H4 g4 hr4=>?_⟩
 have esum:sumQ (os.map (F8 rs ns))=sumQ ((N7 n ks).map (F8 rs ns)):=a4g (ho.map _)
 rw[a2Y hR hU hk,<- esum] at hr4
 refine ⟨_,rfl,Y1 hr4 (g4 _ _ hr3) ⟨_,rfl,?_⟩⟩
 rw[decide_eq_true rfl]
 refine q5 ?_
 have g14:=g13.trans g4
 refine ⟨_,rfl,_,rfl,_,rfl,d,_,rfl,.inr (hT.same g14).sq,.inr ⟨st,a,v,n,ks.length,ns,rs,(by rw[List.length_map,F1]),hA.same g14,fun o H5 g5 hF=>?_⟩⟩
 have g15:=g14.trans g5
 cases o with
 | some x=>exact ⟨_,rfl,u6 (q H5 g15)⟩
 | none =>
  refine ⟨_,rfl,q5 ?_⟩
  have oT:Vq (LL ^ 4) 64 ((os.length:Nat):Rat):=by
   have e:((os.length:Nat):Rat)=sumQ (os.map fun _=>(1:Rat)):=by rw[Q5 1 (fun y hy=>by obtain ⟨_,_,rfl⟩:=List.mem_map.mp hy;rfl),List.length_map];grind
   rw[e]
   exact (O8 (N:=LL ^ 4) (B:=1) fun x hx=>by obtain ⟨_,_,rfl⟩:=List.mem_map.mp hx;exact Vq.one _).mono (by rw[List.length_map];lia)
  have VC:Vq (LL ^ 4) 1 (F8 rs ns ks):=(a1K hR n4 hU (by lia) hkd).pow k4
  refine ⟨_,rfl,_,rfl,p,_,rfl,.inl (.of ((g3.trans (g4.trans g5)) _ _ hp2)),(by show 2<=sizeLine;decide),fun pt hpt=>?_⟩
  have g6:Same H5 (b7 H5 pt (.tup [.int (ys.length:Int),.int 1])):=Same.new hpt
  have h6:b7 H5 pt (.tup [.int (ys.length:Int),.int 1]) pt=some (.tup ((fr ((os.length:Nat):Rat)).map V.int)):=by rw[b6,yl];rfl
  try dsimp -proj only
  generalize b7 H5 pt (.tup [.int (ys.length:Int),.int 1])=H6 at g6 h6
  have g16:=g15.trans g6
  have A6:=hA.same g16
  refine ⟨_,rfl,_,rfl,_,rfl,.inr ⟨st,a,d,v,n,ns,rs,ks,rfl,⟨A6.u,hU,A6.r,hR,.inr (hT.same g16),n1,n4,by lia,hk⟩,fun q1 H7 g7 hq1=>?_⟩⟩
  refine ⟨pt,q1,_,_,1300,1300,rfl,g7 _ _ h6,hq1,Rat.num_nonneg.mpr oT.nn,Rat.num_nonneg.mpr VC.nn,U4 oT (by decide),U4 VC (by decide),by decide,fun r2 H8 g8 hr8=>?_⟩
  have key:((os.length:Nat):Rat)*(u0 rs ns ks).1=sumQ (os.map (F8 rs ns)):=by
   rw[esum,ho.length_eq]
   exact (a48 hk hF).symm
  rw[key] at hr8
  refine a70 ((g4.trans (g5.trans (g6.trans (g7.trans g8)))) _ _ hr3) hr8 ?_
  rw[decide_eq_true rfl]
  exact q H8 (g16.trans (g7.trans g8))
noncomputable def sp_fr:Sp:=fun vs H Q _=>∃(st a:Addr) (v:V) (n k:Nat) (ns:List Int) (rs:List (List Int)),vs=[.ref a,v,.int k]/\AskO st H n ns rs k a v/\∀H',Same H H'->Q (.bl true) H'
noncomputable abbrev s_fr:Stmt:=u7 53
theorem sc_fr:FnScope ["_law_urn","_law_rule_here","_law_draws","_law_found","_law_one","_law_other"] ["_law_urn","_law_rule_here","_law_draws"] (d5 s_fr):=⟨rfl,rfl,rfl,by decide +kernel,rfl,by decide +kernel,by decide +kernel⟩
theorem a8F (F:Fun K "_law_first_right" "_law_first_right" s_fr f fd) (B:Bt mg) (B3:Bt3 mg) (C:CalT P w K mg base ec):FnOk P w K mg base CX0 11 f fd ["_law_urn","_law_rule_here","_law_draws"] sp_fr:=by
 refine F.ok sc_fr (fun vs H Q E h=>?_) (fun cdv A outer s H vs Q E hr h=>?_)
 ·obtain ⟨st,a,v,n,k,ns,rs,rfl,_⟩:=h
  rfl
 obtain ⟨st,a,v,n,k,ns,rs,rfl,hA,q⟩:=h
 refine ⟨_,(@b8 _ _ _ _ _ (@f9 _ _ 3 _ _ _ _ sc_fr.nd rfl (Or.inl rfl) (j7 C.fu hr rfl B5 (@b5 _ _ _ _ _ (pv 0) (@b5 _ _ _ _ _ (pv 1) (@b5 _ _ _ _ _ (pv 2) pa_nil (by rfl)) (by rfl)) (by rfl))) (by rfl) (by first|exact .inl rfl|exact .inr rfl))
  (@b8 _ _ _ _ _ (t8 (a7Y (a5b (pv 3))) (@c0 _ _ _ (f6 (E3 op_isB (j7 C.oa hr rfl B5 (@b5 _ _ _ _ _ (pv 0) (@b5 _ _ _ _ _ (pv 1) (@b5 _ _ _ _ _ (pv 2) pa_nil (by rfl)) (by rfl)) (by rfl))) C9 (j4 _)))) pss_nil)
  (@b8 _ _ _ _ _ (S9 (pv 3) (a2e rfl (A5 (u5 (i:=4) sc_fr.nd rfl (Or.inl rfl)) (A5 (u5 (i:=5) sc_fr.nd rfl (Or.inl rfl)) pgs_nil))))
  (@b8 _ _ _ _ _ (t8 (PW.pt (M9 (@j9 _ _ _ _ _ _ _ _ op_ne (d8 call_len_seq rfl B.len PySem.boot_len (@b5 _ _ _ _ _ (pv 4) pa_nil (by rfl))) (pv 2) (j4 _)) (M9 (@j9 _ _ _ _ _ _ _ _ (R3 hr.units) (d8 call_sortT rfl B3.sorted boot_sorted (@b5 _ _ _ _ _ (pv 4) pa_nil (by rfl))) (d8 call_sortT rfl B3.sorted boot_sorted (@b5 _ _ _ _ _ (pv 5) pa_nil (by rfl))) (j4 _)) (M9 (@j9 _ _ _ _ _ _ _ _ (a73 (Nat.lt_of_succ_lt (Z2 hr))) (pv 4) (pv 5) (j4 _)) (O9 (@j9 _ _ _ _ _ _ _ _ op_isnotB (j7 C.oa hr rfl B5 (@b5 _ _ _ _ _ (pv 0) (@b5 _ _ _ _ _ (pv 1) (@b5 _ _ _ _ _ (pv 2) pa_nil (by rfl)) (by rfl)) (by rfl))) C9 (j4 _))))))) (@c0 _ _ _ (f6 C9)) pss_nil)
  (@c0 _ _ _ (f6 (E3 (R3 hr.units) (j7 C.co hr rfl B5 (@b5 _ _ _ _ _ (pv 0) (@b5 _ _ _ _ _ (pv 1) (@b5 _ _ _ _ _ (pv 4) pa_nil (by rfl)) (by rfl)) (by rfl))) (j7 C.co hr rfl B5 (@b5 _ _ _ _ _ (pv 0) (@b5 _ _ _ _ _ (pv 1) (@b5 _ _ _ _ _ (pv 5) pa_nil (by rfl)) (by rfl)) (by rfl))) (j4 _)))))))),?_⟩
 refine ⟨_,rfl,_,rfl,_,rfl,.inr ⟨st,a,v,n,k,ns,rs,rfl,hA,fun o u H1 g1 hF hP=>?_⟩⟩
 cases o with
 | none =>
  cases (show u=.non from hP)
  refine ⟨_,rfl,_,rfl,?_⟩
  rw[decide_eq_true rfl]
  refine u6 ⟨_,rfl,_,rfl,_,rfl,.inr ⟨st,a,v,n,k,ns,rs,rfl,hA.same g1,fun o2 H2 g2 hF2=>?_⟩⟩
  cases hF2.uniq hF
  exact ⟨_,_,rfl,rfl,q H2 (g1.trans g2)⟩
 | some ab =>
  obtain ⟨x,y⟩:=ab
  obtain ⟨p,xa,ya,rfl,hp,hx,hy⟩:=hP
  obtain ⟨hxm,hym,⟨hlt,hs,hne⟩,_⟩:=id hF
  have hxl:=(v4.mp hxm).1
  have hyl:=(v4.mp hym).1
  have k4:=hA.k4
  refine ⟨_,rfl,_,rfl,?_⟩
  rw[decide_eq_false (fun z=>by cases z)]
  refine q5 ⟨_,rfl,p,_,rfl,.of hp,rfl,_,_,rfl,_,_,rfl,rfl,?_⟩
  have lx:((zI x).map V.int).length=k:=by rw[List.length_map,G0,hxl]
  refine ⟨_,rfl,xa,_,rfl,.inr (.of hx),_,rfl,?_⟩
  rw[lx]
  refine ⟨rfl,_,rfl,?_⟩
  rw[decide_eq_true rfl]
  refine q5 ?_
  refine ⟨_,rfl,xa,zI x,rfl,.of hx,by rw[G0];lia,fun D1 m1 H2 p1 w1 g2 hD1=>?_⟩
  refine ⟨_,rfl,ya,zI y,rfl,.of (g2 _ _ hy),by rw[G0];lia,fun D2 m2 H3 p2 w2 g3 hD2=>?_⟩
  have e1:=W9 p1 w1
  have e2:=W9 p2 w2
  subst e1
  subst e2
  refine a6V (g3 _ _ hD1) hD2 ⟨_,rfl,?_⟩
  rw[decide_eq_true (by rw[hs])]
  refine q5 ?_
  have g13:=g1.trans (g2.trans g3)
  have hx3:=(g2.trans g3) _ _ hx
  have hy3:=(g2.trans g3) _ _ hy
  refine ⟨_,rfl,_,rfl,xa,ya,_,_,rfl,rfl,.of hx3,.of hy3,⟨_,rfl,?_⟩⟩
  rw[hlt]
  refine q5 ?_
  refine ⟨_,rfl,_,rfl,_,rfl,.inr ⟨st,a,v,n,k,ns,rs,rfl,hA.same g13,fun o2 H4 g4 hF2=>?_⟩⟩
  cases hF2.uniq hF
  refine ⟨_,_,rfl,rfl,⟨_,rfl,?_⟩⟩
  refine q5 ?_
  have g14:=g13.trans g4
  refine ⟨_,rfl,_,rfl,_,rfl,.inr ⟨st,a,xa,v,n,ns,rs,x,rfl,(hA.same g14).ask (g4 _ _ hx3) hxm,fun q1 H5 g5 hq1=>?_⟩⟩
  refine ⟨_,rfl,_,rfl,_,rfl,.inr ⟨st,a,ya,v,n,ns,rs,y,rfl,(hA.same (g14.trans g5)).ask ((g4.trans g5) _ _ hy3) hym,fun q2 H6 g6 hq2=>?_⟩⟩
  refine Y1 (g6 _ _ hq1) hq2 ?_
  rw[decide_eq_false (show ¬ fr (u0 rs ns x).1=fr (u0 rs ns y).1 from fun z=>hne (a5a z))]
  exact q H6 (g14.trans (g5.trans g6))
end
end G
namespace L2
open PySem PySem.Spec PyProof.Rows
section
variable {X:Cx}{K:W.Frag}
noncomputable def a82 (K:W.Frag):R2:=fun x y H Q=>∃(a b:Addr) (ns ms:List Int),x=.ref a/\y=.ref b/\SqT K H a (ns.map V.int)/\SqT K H b (ms.map V.int)/\Q (.bl (decide (ns=ms))) H
theorem a8a (hu:X.A.units+64<cLine) (hK:X.K=K):v8 X (compareOp .Eq) (a82 K):=by
 subst hK
 intro pins s σ H x y v u Q I rx ry h
 obtain ⟨a,b,ns,ms,rfl,rfl,ha,hb,q⟩:=h
 cases rx
 cases ry
 have rd:∀{c:Addr}{zs:List Int},SqT X.K H c (zs.map V.int)->∃as,Reads s.heap (.ref c) (DI zs) as:=fun {c zs} hc'=>by
  obtain ⟨its,r1,⟨o,ho,hc,n,hd⟩,_⟩:=I.tuple hc'
  obtain ⟨as,ra⟩:=Dts.reads I.hok (canLayI' zs) (Dts.ints 0 H zs) r1
  exact ⟨as,.tuple ho hc hd (by simpa using ra)⟩
 obtain ⟨as,ra⟩:=rd ha
 obtain ⟨bs,rb⟩:=rd hb
 exact eq_dataH ra rb (J4 ns) (J4 ms) hu (i8 I (by rw[a5R];exact q) rfl)
theorem a8x (hK:X.K=K):v8 X (binaryOp .Add) (a1r K):=by subst hK;exact catNS
end
noncomputable def TN (H:Hp):List (List Int)->List V->Prop
 | [],[]=>True
 | k::ks,x::xs=>(∃a,x=.ref a/\TupN H a (k.map V.int))/\TN H ks xs
 | _,_=>False
theorem TN.to {H H':Hp} (g:KTn H H'):∀{ks:List (List Int)}{xs:List V},TN H ks xs->TN H' ks xs
 | [],[],_=>trivial
 | _::_,_::_,h=>⟨let ⟨a,e,h1⟩:=h.1;⟨a,e,h1.kt g⟩,TN.to g h.2⟩
 | [],_::_,h=>h.elim
 | _::_,[],h=>h.elim
theorem TN.len {H:Hp}:∀{ks:List (List Int)}{xs:List V},TN H ks xs->ks.length=xs.length
 | [],[],_=>rfl
 | _::_,_::_,h=>by rw[List.length_cons,List.length_cons,TN.len h.2]
 | [],_::_,h=>h.elim
 | _::_,[],h=>h.elim
theorem TN.append {H:Hp}:∀{ks ls:List (List Int)}{xs ys:List V},TN H ks xs->TN H ls ys->TN H (ks++ls) (xs++ys)
 | [],_,[],_,_,h=>h
 | _::_,_,_::_,_,a,h=>⟨a.1,TN.append a.2 h⟩
 | [],_,_::_,_,a,_=>a.elim
 | _::_,_,[],_,a,_=>a.elim
theorem TN.get {H:Hp}:∀{ks:List (List Int)}{xs:List V}{i:Nat}{x:V},TN H ks xs->xs[i]?=some x->∃z a,ks[i]?=some z/\x=.ref a/\TupN H a (z.map V.int)
 | k::ks,x::xs,0,_,h,e=>by cases e;obtain ⟨a,e,q⟩:=h.1;exact ⟨k,a,rfl,e,q⟩
 | k::ks,x::xs,i+1,_,h,e=>by
  obtain ⟨z,a,h1,h2,h3⟩:=TN.get (i:=i) h.2 (by simpa using e)
  exact ⟨z,a,by simpa using h1,h2,h3⟩
 | [],[],i,_,_,e=>by cases i <;> cases e
 | [],_::_,_,_,h,_=>h.elim
 | _::_,[],_,_,h,_=>h.elim
end L2
set_option maxHeartbeats 8000000
namespace G
open PySem PySem.Spec PyProof.Rows L2 Mt Md Mo Mq
theorem a5y {s:List Nat} (h:s≠[]):S3 ((zI s).map V.int) (-1)=some (.int ((s.getLastD 0:Nat):Int)):=by
 have e:s=s.dropLast++[s.getLastD 0]:=by
  rw[List.getLastD_eq_getLast?,List.getLast?_eq_some_getLast h]
  exact (List.dropLast_concat_getLast h).symm
 generalize s.getLastD 0=y at e ⊢
 rw[e,Z8,List.map_append]
 exact a5M _ _
noncomputable def L5 (r:List Nat) (y:Nat):Bool:=r == [] || decide (r.getLastD 0<=y)
noncomputable def a1x (n:Nat) (r:List Nat):List (List Nat):=((List.range n).filter (L5 r)).map fun y=>r++[y]
theorem okRL:((List.range 5).all fun n=>(List.range 5).all fun k=>decide ((A1 n k).length<=64))=true:=by decide +kernel
theorem V8 {n k:Nat} (n4:n<=4) (k4:k<=4):(A1 n k).length<=64:=of_decide_eq_true (List.all_eq_true.mp (List.all_eq_true.mp okRL n (List.mem_range.mpr (by lia))) k (List.mem_range.mpr (by lia)))
section
variable {P:Program}{w:World}{K:W.Frag}{mg:Str->Option Value}{base:Heap}{f:Addr}{fd:FuncData}
structure Cals (P:Program) (w:World) (K:W.Frag) (mg:Str->Option Value) (base:Heap) (c:Nat->Addr):Prop where
 state:Cal P w K mg base 11 "_law_state" ["_law_script","_law_k"] (W4 K)
 take:Cal P w K mg base 11 "_law_take" ["_law_state_here","_law_many"] sp_take
 urn:Cal P w K mg base 11 "_law_urn_of" ["_law_state_here","_law_kinds"] sp_lurn
 rule:Cal P w K mg base 11 "_law_rule" ["_law_state_here","_law_kinds"] sp_lrule
 ar:Cal P w K mg base 11 "_law_any_right" ["_law_urn","_law_rule_here","_law_draws"] sp_ar
 fr:Cal P w K mg base 11 "_law_first_right" ["_law_urn","_law_rule_here","_law_draws"] sp_fr
 oa:CalX P w K mg base 11 "orders_alike" ["urn","rule","draws"] (a02 c)
 plus:Cal P w K mg base 11 "_law_plus" ["_law_one","_law_other"] sp_plus
 ao:CalX P w K mg base 11 "any_order" ["urn","rule","draws"] sp_ao
noncomputable def a0X (K:W.Frag):Sp:=fun vs H Q _=>∃(a:Addr) (ns:List Int),vs=[.ref a]/\SqL K H a (ns.map V.int)/\ns.length<=63/\∀H',Q (.bl true) H'
noncomputable abbrev s_law:Stmt:=u7 54
theorem sc_law:FnScope ["_law_script","_law_k","_law_state_here","_law_kinds","_law_urn","_law_rule_here","_law_many","_law_draws","_law_more","_law_simple","_law_total","_law_rows","_law_turn","_law_longer","_law_row"] ["_law_script"] (d5 s_law):=⟨rfl,rfl,rfl,by decide +kernel,rfl,by decide +kernel,by decide +kernel⟩
theorem a7d {c:Nat->Addr} (F:Fun K "law" "law" s_law f fd) (B:Bt mg) (C:Cals P w K mg base c):FnOk P w K mg base CX0 12 f fd ["_law_script"] (a0X K):=by
 refine F.ok sc_law (fun vs H Q E h=>?_) (fun cdv A outer s H vs Q E hr h=>?_)
 ·obtain ⟨a,ns,rfl,_⟩:=h
  rfl
 obtain ⟨a,scr,rfl,hS,h63,q⟩:=h
 refine ⟨_,(@b8 _ _ _ _ _ (B1 PassesOwn.never rfl (i9 rfl B.range (@b5 _ _ _ _ _ (d8 (a3Z rfl) rfl B.max boot_max (@b5 _ _ _ _ _ b9 (@b5 _ _ _ _ _ (d8 (a4l rfl) rfl B.min boot_min (@b5 _ _ _ _ _ (d8 call_len_seq rfl B.len PySem.boot_len (@b5 _ _ _ _ _ (pv 0) pa_nil (by rfl))) (@b5 _ _ _ _ _ b9 pa_nil (by rfl)) (by rfl))) pa_nil (by rfl)) (by rfl))) pa_nil (by rfl))) (u5 (i:=1) sc_law.nd rfl (Or.inl rfl))
  (@b8 _ _ _ _ _ (@f9 _ _ 2 _ _ _ _ sc_law.nd rfl (Or.inr rfl) (d7 C.state hr rfl (@b5 _ _ _ _ _ (pv 0) (@b5 _ _ _ _ _ (pv 1) pa_nil (by rfl)) (by rfl))) (by rfl) (by first|exact .inl rfl|exact .inr rfl))
  (@b8 _ _ _ _ _ (@f9 _ _ 3 _ _ _ _ sc_law.nd rfl (Or.inr rfl) (@f8 _ _ _ _ _ _ _ _ op_add b9 (d7 C.take hr rfl (@b5 _ _ _ _ _ (pv 2) (@b5 _ _ _ _ _ b9 pa_nil (by rfl)) (by rfl)))) (by rfl) (by first|exact .inl rfl|exact .inr rfl))
  (@b8 _ _ _ _ _ (Y9 (i:=4) (j:=5) rfl sc_law.nd rfl rfl (by decide) rfl rfl (@b5 _ _ _ _ _ (d7 C.urn hr rfl (@b5 _ _ _ _ _ (pv 2) (@b5 _ _ _ _ _ (pv 3) pa_nil (by rfl)) (by rfl))) (@b5 _ _ _ _ _ (d7 C.rule hr rfl (@b5 _ _ _ _ _ (pv 2) (@b5 _ _ _ _ _ (pv 3) pa_nil (by rfl)) (by rfl))) pa_nil (by rfl)) (by rfl)) rfl)
  (@b8 _ _ _ _ _ (@f9 _ _ 6 _ _ _ _ sc_law.nd rfl (Or.inl rfl) (d7 C.take hr rfl (@b5 _ _ _ _ _ (pv 2) (@b5 _ _ _ _ _ (@j3 _ _ _ _ _ _ _ ix_list (@D4 _ _ _ _ (@b5 _ _ _ _ _ b9 (@b5 _ _ _ _ _ b9 pa_nil (by rfl)) (by rfl))) (i7 call_int1 rfl B.int boot_int (@b5 _ _ _ _ _ (E3 op_lt (pv 3) b9 (j4 _)) pa_nil (by rfl))) (fun _ _=>rfl)) pa_nil (by rfl)) (by rfl))) (by rfl) (by first|exact .inl rfl|exact .inr rfl))
  (@b8 _ _ _ _ _ (@f9 _ _ 7 _ _ _ _ sc_law.nd rfl (Or.inl rfl) (i7 call_tupN rfl B.tuple boot_tuple (@b5 _ _ _ _ _ (m6 (N:=["_law_turn","_law_state_here","_law_kinds"]) (ix:=[none,some 2,some 3]) (ifs:=[]) (tc:=tTrue) rfl (i9 rfl B.range (@b5 _ _ _ _ _ (pv 6) pa_nil (by rfl)))
   (fun s H ex=>v0 (i:=0) (by decide +kernel) rfl (Or.inl rfl) (.inr rfl)) (fun s H ex=>pifs_nil) (fun s H ex=>(d7 C.take hr rfl (@b5 _ _ _ _ _ (pv 1) (@b5 _ _ _ _ _ (pv 2) pa_nil (by rfl)) (by rfl)))) rfl (by decide +kernel) (by rfl) (by rfl) (fun _=>rfl)) pa_nil (by rfl))) (by rfl) (by first|exact .inl rfl|exact .inr rfl))
  (@b8 _ _ _ _ _ (t8 (PW.pt (M9 (D6 (C4 (d7 C.ar hr rfl (@b5 _ _ _ _ _ (pv 4) (@b5 _ _ _ _ _ (pv 5) (@b5 _ _ _ _ _ (pv 7) pa_nil (by rfl)) (by rfl)) (by rfl))))) (O9 (D6 (C4 (d7 C.fr hr rfl (@b5 _ _ _ _ _ (pv 4) (@b5 _ _ _ _ _ (pv 5) (@b5 _ _ _ _ _ (pv 6) pa_nil (by rfl)) (by rfl)) (by rfl)))))))) (@c0 _ _ _ (f6 C9)) pss_nil)
  (@b8 _ _ _ _ _ (@f9 _ _ 8 _ _ _ _ sc_law.nd rfl (Or.inr rfl) (d7 C.take hr rfl (@b5 _ _ _ _ _ (pv 2) (@b5 _ _ _ _ _ b9 pa_nil (by rfl)) (by rfl))) (by rfl) (by first|exact .inl rfl|exact .inr rfl))
  (@b8 _ _ _ _ _ (@f9 _ _ 9 _ _ _ _ sc_law.nd rfl (Or.inl rfl) (i7 call_tuple_of rfl B.tuple boot_tuple (@b5 _ _ _ _ _ (m6 (N:=["_law_kind","_law_kinds","_law_more"]) (ix:=[none,some 3,some 8]) (ifs:=[]) (tc:=tTrue) rfl (i9 rfl B.range (@b5 _ _ _ _ _ (pv 3) pa_nil (by rfl)))
   (fun s H ex=>v0 (i:=0) (by decide +kernel) rfl (Or.inr rfl) (.inl rfl)) (fun s H ex=>pifs_nil) (fun s H ex=>(i7 (a3v (K:=K) rfl) rfl B.tuple boot_tuple (@b5 _ _ _ _ _ (m6 (N:=["_law_one","_law_more","_law_kind"]) (ix:=[none,some 2,some 0]) (ifs:=[]) (tc:=tTrue) rfl (i9 rfl B.range (@b5 _ _ _ _ _ (pv 1) pa_nil (by rfl)))
   (fun s H ex=>v0 (i:=0) (by decide +kernel) rfl (Or.inl rfl) (.inr rfl)) (fun s H ex=>pifs_nil) (fun s H ex=>(@f8 _ _ _ _ _ _ _ _ op_mul (pv 1) (i7 call_int1 rfl B.int boot_int (@b5 _ _ _ _ _ (E3 op_eq (pv 0) (pv 2) (j4 _)) pa_nil (by rfl))))) rfl (by decide +kernel) (by rfl) (by rfl) (fun _=>rfl)) pa_nil (by rfl)))) rfl (by decide +kernel) (by rfl) (by rfl) (fun _=>rfl)) pa_nil (by rfl))) (by rfl) (by first|exact .inl rfl|exact .inr rfl))
  (@b8 _ _ _ _ _ (t8 (@j9 _ _ _ _ _ _ _ _ op_isnotB (j7 C.oa hr rfl B5 (@b5 _ _ _ _ _ (pv 4) (@b5 _ _ _ _ _ (pv 9) (@b5 _ _ _ _ _ (pv 6) pa_nil (by rfl)) (by rfl)) (by rfl))) C9 (j4 _)) (@c0 _ _ _ (f6 C9)) pss_nil)
  (@b8 _ _ _ _ _ (@f9 _ _ 10 _ _ _ _ sc_law.nd rfl (Or.inl rfl) (@u3 _ _ _ _ _ (@b5 _ _ _ _ _ b9 (@b5 _ _ _ _ _ b9 pa_nil (by rfl)) (by rfl))) (by rfl) (by first|exact .inl rfl|exact .inr rfl))
  (@b8 _ _ _ _ _ (@f9 _ _ 11 _ _ _ _ sc_law.nd rfl (Or.inl rfl) (@D4 _ _ _ _ (@b5 _ _ _ _ _ (a3b pa_nil) pa_nil (by rfl))) (by rfl) (by first|exact .inl rfl|exact .inr rfl))
  (@b8 _ _ _ _ _ (B1 PassesOwn.never rfl (i9 rfl B.range (@b5 _ _ _ _ _ (pv 6) pa_nil (by rfl))) (u5 (i:=12) sc_law.nd rfl (Or.inl rfl))
  (@b8 _ _ _ _ _ (@f9 _ _ 13 _ _ _ _ sc_law.nd rfl (Or.inl rfl) (@D4 _ _ _ _ pa_nil) (by rfl) (by first|exact .inl rfl|exact .inr rfl))
  (@b8 _ _ _ _ _ (B1 PassesOwn.never rfl (G7 (pv 11)) (u5 (i:=14) sc_law.nd rfl (Or.inr rfl))
  (@c0 _ _ _ (A2 (a3p PySem.F.plainAttrs_list PySem.F.slot_list_extend PySem.F.type_list_extend mt_extend (pv 13) (@b5 _ _ _ _ _ (m6 (N:=["_law_kind","_law_row"]) (ix:=[none,some 14]) rfl (i9 rfl B.range (@b5 _ _ _ _ _ (pv 3) pa_nil (by rfl)))
   (fun s H ex=>v0 (i:=0) (by decide +kernel) rfl (Or.inl rfl) (.inr rfl)) (fun s H ex=>a5U (PW.pt (M9 (@j9 _ _ _ _ _ _ _ _ (a8a (K:=K) hr.units rfl) (pv 1) (@u3 _ _ _ _ _ pa_nil) (j4 _)) (O9 (@j9 _ _ _ _ _ _ _ _ op_ge (pv 0) (@j3 _ _ _ _ _ _ _ (ixK (K:=K) rfl) (pv 1) (a8s un_neg b9) (fun _ _=>rfl)) (j4 _)))))) (fun s H ex=>(@f8 _ _ _ _ _ _ _ _ (a8x (K:=K) rfl) (pv 1) (a3b (@b5 _ _ _ _ _ (pv 0) pa_nil (by rfl))))) rfl (by decide +kernel) (by rfl) (by rfl) (fun _=>rfl)) pa_nil (by rfl))))))
  (@c0 _ _ _ (@f9 _ _ 11 _ _ _ _ sc_law.nd rfl (Or.inl rfl) (pv 13) (by rfl) (by first|exact .inl rfl|exact .inr rfl))))))
  (@b8 _ _ _ _ _ (B1 PassesOwn.never rfl (G7 (pv 11)) (u5 (i:=14) sc_law.nd rfl (Or.inr rfl))
  (@c0 _ _ _ (@f9 _ _ 10 _ _ _ _ sc_law.nd rfl (Or.inl rfl) (d7 C.plus hr rfl (@b5 _ _ _ _ _ (pv 10) (@b5 _ _ _ _ _ (j7 C.ao hr rfl B5 (@b5 _ _ _ _ _ (pv 4) (@b5 _ _ _ _ _ (pv 5) (@b5 _ _ _ _ _ (pv 14) pa_nil (by rfl)) (by rfl)) (by rfl))) pa_nil (by rfl)) (by rfl))) (by rfl) (by first|exact .inl rfl|exact .inr rfl))))
  (@c0 _ _ _ (t8 (@j9 _ _ _ _ _ _ _ _ (R3 hr.units) (pv 10) (@u3 _ _ _ _ _ (@b5 _ _ _ _ _ b9 (@b5 _ _ _ _ _ b9 pa_nil (by rfl)) (by rfl))) (j4 _)) (@c0 _ _ _ (f6 C9)) pss_nil))))))))))))))))
  (@c0 _ _ _ (f6 C9))),?_⟩
 refine ⟨_,rfl,a,_,rfl,.inl hS,_,_,rfl,_,_,rfl,_,rfl,?_,?_,?_⟩
 ·split <;> split <;> lia
 ·rw[List.length_map];split <;> split <;> lia
 refine K3 (lo:=0) (fun i σ H2=>SqL K H2 a (scr.map V.int)/\∃o1 o2 o3 o4 o5 o6 o7 o8 o9 oa ob oc od oe,σ=[some (.ref a),o1,o2,o3,o4,o5,o6,o7,o8,o9,oa,ob,oc,od,oe])
  ⟨hS,none,none,none,none,none,none,none,none,none,none,none,none,none,none,rfl⟩ (fun i σ H2 hi h=>?_) (fun σ H2 h=>q H2)
 obtain ⟨hS2,o1,o2,o3,o4,o5,o6,o7,o8,o9,oa,ob,oc,od,oe,rfl⟩:=h
 have e0:(0:Int)+(i:Int)=(i:Int):=by lia
 rw[e0]
 refine ⟨_,rfl,_,rfl,a,scr,i,rfl,hS2,fun l x b hl hst=>?_⟩
 have s3:Sta l b (b7 H2 l (.lst [.int x,.bl b])) (b7 H2 l (.lst [.int x,.bl b])):=Sta.start b6 hst
 have hA:∀H',Kp l (b7 H2 l (.lst [.int x,.bl b])) H'->SqL K H' a (scr.map V.int):=fun H' k=>by
  rcases hS2 with (h|⟨o,h⟩)|h
  ·exact .inl (.inl (k _ _ (d6 h hl) (Same.new hl _ _ h)))
  ·exact .inl (.inr ⟨o,k _ _ (d6 h hl) (Same.new hl _ _ h)⟩)
  ·exact .inr h
 show P4 _ _ _ _ (b7 H2 l (.lst [.int x,.bl b]))
 generalize b7 H2 l (.lst [.int x,.bl b])=H3 at s3 hA
 clear hS2 hl hst
 obtain ⟨_,x3,hx3,ok3⟩:=id s3
 refine ⟨_,rfl,l,4,x3,b,rfl,hx3,ok3,by decide,by decide,fun y x1 hy ok1=>⟨_,_,rfl,rfl,?_⟩⟩
 have en:(1:Int)+(y:Int)=((1+y:Nat):Int):=by lia
 try dsimp only
 rw[en]
 have n1:1<=1+y:=by lia
 have n4:1+y<=4:=by lia
 generalize 1+y=n at n1 n4
 have s4:=s3.go ok1
 generalize b7 H3 l (.lst [.int x1,.bl b])=H4 at s4
 obtain ⟨_,x4,hx4,ok4⟩:=id s4
 refine ⟨_,rfl,_,rfl,l,n,x4,b,rfl,hx4,ok4,n1,n4,fun ua H5 ns s5' hua hU=>?_⟩
 have s5:=s4.trans s5'
 have nua:=s5.neL hua
 obtain ⟨_,x5,hx5,ok5⟩:=id s5
 refine ⟨_,rfl,_,rfl,l,n,x5,b,rfl,hx5,ok5,n1,n4,fun rv H6 rs s6' hrd hR=>?_⟩
 have s6:=s5.trans s6'
 have hua6:=s6'.1 _ _ nua hua
 clear s5' hua s6' s5 s4
 refine ⟨_,_,rfl,?_⟩
 refine ⟨_,rfl,(by show 2<=sizeLine;decide),fun pd hpd=>?_⟩
 have s7:=s6.new (o:=.lst [.int 4,.int 5]) hpd
 have g7:Same H6 (b7 H6 pd (.lst [.int 4,.int 5])):=Same.new hpd
 have hpd7:b7 H6 pd (.lst [.int 4,.int 5]) pd=some (.lst [.int 4,.int 5]):=b6
 try dsimp -proj only[r6]
 generalize b7 H6 pd (.lst [.int 4,.int 5])=H7 at s7 g7 hpd7
 obtain ⟨_,x7,hx7,ok7⟩:=id s7
 obtain ⟨md,hmd,m1,m2,m3⟩:∃m:Int,S3 ([.int 4,.int 5]:List V) (if decide ((n:Int)<4)=true then 1 else 0)=some (.int m)/\1<=m/\m<=5/\∀k:Nat,(k:Int)<m->k<=if n<4 then 4 else 3:=by
  by_cases e:n<4
  ·rw[decide_eq_true (show (n:Int)<4 by lia),if_pos rfl,if_pos e]
   exact ⟨5,rfl,by decide,by decide,fun k hk=>by lia⟩
  ·rw[decide_eq_false (show ¬ (n:Int)<4 by lia),if_neg (by decide),if_neg e]
   exact ⟨4,rfl,by decide,by decide,fun k hk=>by lia⟩
 refine ⟨_,rfl,_,_,rfl,rfl,.inr ⟨_,rfl,pd,_,_,_,rfl,rfl,.of hpd7,hmd,l,md,x7,b,rfl,hx7,ok7,m1,by lia,fun k x8 hk ok8=>?_⟩⟩
 have kl:=m3 k hk
 have k4:k<=4:=by lia
 have s8:=s7.go ok8
 have k8:Kp l H7 (b7 H7 l (.lst [.int x8,.bl b])):=Kp.at
 try dsimp -proj only[r6]
 generalize b7 H7 l (.lst [.int x8,.bl b])=H8 at s8 k8
 have hua8:=k8 _ _ nua (g7 _ _ hua6)
 have hrd8:=(hrd.kp (g7.kp l)).kp k8
 clear hpd7 hpd g7 k8 hx7 ok7 s7 s6 hua6 hrd hmd m3
 have nl4:ns.length=n:=hU.len
 have lo62:-(2 ^ 62)<=((n:Nat):Int):=by lia
 have hi62:((n:Nat):Int)<2 ^ 62:=by lia
 obtain ⟨_,xD,hxD,okD⟩:=id s8
 refine ⟨_,rfl,(k:Int),rfl,by lia,by lia,?_⟩
 refine q9 (lo:=0) (n:=k) (sz (by lia)) (fun i ys HE=>Sta l b H8 HE/\∃ds:List Nat,ys=(kI ds).map V.int/\ds.length=i/\∀z∈ds,z<n)
  ⟨Sta.start hxD okD,[],rfl,rfl,by simp⟩ (fun i ys HE h=>?_) rfl (fun i ys HE hi h=>?_) (fun ys HE h=>?_)
 ·obtain ⟨_,ds,rfl,hn,_⟩:=h
  rw[List.length_map,F1];exact hn
 ·obtain ⟨sE,ds,rfl,hn,hb⟩:=h
  obtain ⟨_,xE,hxE,okE⟩:=id sE
  refine ⟨_,rfl,_,rfl,l,n,xE,b,rfl,hxE,okE,by lia,by lia,fun y x4 hy ok4=>?_⟩
  refine ⟨sE.go ok4,ds++[y],?_,by rw[List.length_append,hn];rfl,fun z hz=>?_⟩
  ·unfold kI
   rw[List.map_append,List.map_append];rfl
  ·rcases List.mem_append.mp hz with h|h
   ·exact hb z h
   ·rw[List.mem_singleton.mp h];lia
 obtain ⟨sE,ds,rfl,hdl,hdb⟩:=h
 intro pz hpz
 have gz:Same HE (b7 HE pz (.lst ((kI ds).map V.int))):=Same.new hpz
 have hz:b7 HE pz (.lst ((kI ds).map V.int)) pz=some (.lst ((kI ds).map V.int)):=b6
 try dsimp -proj only[r6]
 generalize b7 HE pz (.lst ((kI ds).map V.int))=HZ at gz hz
 refine ⟨pz,_,rfl,.of hz,fun dt H9 g9 hT=>?_⟩
 have s9:=(s8.trans sE).same (gz.trans g9)
 have hua9:=(gz.trans g9) _ _ (sE.1 _ _ nua hua8)
 have hrd9:=(hrd8.kp sE.1).kp ((gz.trans g9).kp l)
 clear hz gz hpz sE s8 hua8 hrd8 g9
 have AO:∀(H':Hp) (rs':List (List Int)) (v':V),Kp l H9 H'->(∃o,H' l=some o/\∀xs,o≠.tup xs)->Dt l H' (DR rs') v'->Mt.Rul n 5 rs'->AskO l H' n ns rs' k ua v':=fun H' rs' v' g tl d r=>⟨Dt.mkI nua (g _ _ nua hua9),hU,d,r,n1,n4,k4,tl⟩
 have tl9:∀H',Sta l b H3 H'->∃o,H' l=some o/\∀xs,o≠.tup xs:=fun H' s=>let ⟨_,x,hx,_⟩:=s;⟨_,hx,fun xs z=>by cases z⟩
 refine ⟨_,rfl,_,rfl,_,rfl,l,ua,dt,rv,n,ns,rs,ds,rfl,(by rw[hdl];exact AO _ rs rv (Kp.refl _ _) (tl9 _ s9) hrd9 hR),hT,hdb,(by rw[hdl];exact kl),fun HA gA=>⟨_,rfl,q5 ?_⟩⟩
 refine ⟨_,rfl,_,rfl,_,rfl,l,ua,rv,n,k,ns,rs,rfl,AO _ rs rv (gA.kp l) (tl9 _ (s9.same gA)) (hrd9.kp (gA.kp l)) hR,fun HB gB=>⟨_,rfl,q5 ?_⟩⟩
 have gAB:=gA.trans gB
 have sB:=s9.same gAB
 have huaB:=gAB _ _ hua9
 have hrdB:=hrd9.kp (gAB.kp l)
 clear hT gA gB gAB s9 hua9 hrd9 AO
 obtain ⟨_,xB,hxB,okB⟩:=id sB
 refine ⟨_,rfl,l,6,xB,b,rfl,hxB,okB,by decide,by decide,fun mo x6 hmo ok6=>?_⟩
 have s10:=sB.go ok6
 have k10:Kp l HB (b7 HB l (.lst [.int x6,.bl b])):=Kp.at
 try dsimp -proj only[r6]
 generalize b7 HB l (.lst [.int x6,.bl b])=H10 at s10 k10
 have hua10:=k10 _ _ nua huaB
 have hrd10:=hrdB.kp k10
 have g0:(0:Int)<=(mo:Int):=by lia
 have g5:(mo:Int)<=5:=by lia
 clear k10 huaB hrdB hxB okB sB
 refine ⟨_,rfl,(n:Int),rfl,lo62,hi62,?_⟩
 refine q9 (lo:=0) (n:=n) (sz (by lia)) (fun i ys Hj=>Same H10 Hj/\i<=n/\Dts l Hj (((List.range i).map fun i=>E6 n (mo:Int) i).map DI) ys)
  ⟨Same.refl _,Nat.zero_le _,Dts.nil _ _⟩ (fun i ys Hj h=>?_) rfl (fun i ys Hj hi h=>?_) (fun ys Hj h=>?_)
 ·rw[<- h.2.2.len,List.length_map,List.length_map,List.length_range]
 ·obtain ⟨gj,hin,hd⟩:=h
  refine ⟨_,rfl,(n:Int),rfl,lo62,hi62,?_⟩
  refine q9 (lo:=0) (n:=n) (sz (by lia)) (fun j zs Hk=>Same Hj Hk/\j<=n/\zs=((List.range j).map fun j=>(mo:Int)*(if i=j then 1 else 0)).map V.int)
   ⟨Same.refl _,Nat.zero_le _,rfl⟩ (fun j zs Hk h=>?_) rfl (fun j zs Hk hj h=>?_) (fun zs Hk h=>?_)
  ·rw[h.2.2,List.length_map,List.length_map,List.length_range]
  ·obtain ⟨gk,hjn,rfl⟩:=h
   refine ⟨_,rfl,_,rfl,_,rfl,rfl,.inr ⟨_,rfl,_,_,rfl,rfl,.inl ⟨by lia,by lia⟩,gk,by lia,?_⟩⟩
   rw[List.range_succ,List.map_append,List.map_append]
   congr 1
   show [V.int _]=[V.int _]
   congr 2
   by_cases hij:i=j
   ·subst hij
    simp
   ·have:¬ (V.int ((0:Int)+(j:Int))=V.int (0+(i:Int))):=fun z=>hij (by injection z with z;lia)
    rw[decide_eq_false this]
    simp[hij]
  ·obtain ⟨gk,_,rfl⟩:=h
   intro p hp
   refine ⟨p,_,rfl,.inl ⟨.of b6,fun t ht=>?_⟩⟩
   have gg:Same Hj (b7 (b7 Hk p (.lst (((List.range n).map fun j=>(mo:Int)*(if i=j then 1 else 0)).map V.int))) t (.tup (((List.range n).map fun j=>(mo:Int)*(if i=j then 1 else 0)).map V.int))):=(gk.trans (Same.new hp)).trans (Same.new ht)
   have sq:Sta l b _ _:=s10.same ((gj.trans gk).trans (Same.new hp (o:=.lst (((List.range n).map fun j=>(mo:Int)*(if i=j then 1 else 0)).map V.int))))
   refine ⟨gj.trans gg,by lia,?_⟩
   rw[List.range_succ,List.map_append,List.map_append]
   exact (hd.kp (gg.kp l)).append (Dts.cons (Dt.mkI (sq.ne ht).symm b6) (Dts.nil _ _))
 obtain ⟨gj,_,hd⟩:=h
 intro pz hpz
 refine ⟨pz,_,rfl,.inl ⟨.of b6,fun al hal=>?_⟩⟩
 have gg:Same H10 (b7 (b7 Hj pz (.lst ys)) al (.tup ys)):=(gj.trans (Same.new hpz)).trans (Same.new hal)
 have sq:Sta l b _ _:=s10.same (gj.trans (Same.new (o:=.lst ys) hpz))
 have hda:Dt l (b7 (b7 Hj pz (.lst ys)) al (.tup ys)) (DR (U0 n mo)) (.ref al):=Dt.tup (sq.ne hal).symm b6 (hd.kp (((Same.new hpz).trans (Same.new hal)).kp l))
 have hRa:Mt.Rul n 5 (U0 n mo):=a3d g0 g5
 have s11:=s10.same gg
 have hua11:=gg _ _ hua10
 have hrd11:=hrd10.kp (gg.kp l)
 try dsimp -proj only[r6]
 generalize b7 (b7 Hj pz (.lst ys)) al (.tup ys)=H11 at s11 hua11 hrd11 hda
 clear gg sq hd gj hua10 hrd10 s10 hpz hal
 refine ⟨_,rfl,_,rfl,_,rfl,.inr ⟨l,ua,_,n,k,ns,U0 n mo,rfl,⟨Dt.mkI nua hua11,hU,hda,hRa,n1,n4,k4,tl9 _ s11⟩,fun o H12 g12 hF=>?_⟩⟩
 cases hF.uniq (a4k g0 g5 hU)
 refine ⟨_,_,rfl,rfl,⟨_,rfl,q5 ?_⟩⟩
 have s12:=s11.same g12
 have hua12:=g12 _ _ hua11
 have hrd12:=hrd11.kp (g12.kp l)
 clear hF hda hRa g12 s11 hua11 hrd11
 refine ⟨(by show 2<=sizeLine;decide),fun pt hpt=>?_⟩
 have g13:Same H12 (b7 H12 pt (.tup [.int 0,.int 1])):=Same.new hpt
 have hpt13:b7 H12 pt (.tup [.int 0,.int 1]) pt=some (.tup [.int 0,.int 1]):=b6
 try dsimp -proj only[r6]
 generalize b7 H12 pt (.tup [.int 0,.int 1])=H13 at g13 hpt13
 refine ⟨(by show 0<=sizeLine;decide),fun p0 o0 hp0 nd0=>⟨(by show 1<=sizeLine;decide),fun pl hpl=>?_⟩⟩
 have g14:Same H13 (b7 H13 p0 (.frz o0 (.tup []))):=Same.new hp0
 have h14:TupN (b7 H13 p0 (.frz o0 (.tup []))) p0 []:=⟨o0,nd0,b6⟩
 try dsimp -proj only[r6] at *
 generalize b7 H13 p0 (.frz o0 (.tup []))=H14 at g14 h14 hpl
 have g15:Same H14 (b7 H14 pl (.lst [.ref p0])):=Same.new hpl
 have h15:b7 H14 pl (.lst [.ref p0]) pl=some (.lst [.ref p0]):=b6
 generalize b7 H14 pl (.lst [.ref p0])=H15 at g15 h15
 have gg:=g13.trans (g14.trans g15)
 have s15:=s12.same gg
 have hua15:=gg _ _ hua12
 have hrd15:=hrd12.kp (gg.kp l)
 have hpt15:=(g14.trans g15) _ _ hpt13
 have hp15:=h14.same g15
 clear gg h14 g14 g15 g13 s12 hua12 hrd12 hpt13 hpt hp0 hpl
 refine ⟨_,rfl,(k:Int),rfl,by lia,by lia,?_⟩
 refine K3 (lo:=0) (n:=k) (fun j σ H4=>Same H15 H4/\j<=k/\∃p ys oc od oe,σ=[some (.ref a),some (.int i),some (.ref l),some (.int n),some (.ref ua),some rv,some (.int k),some (.ref dt),some (.int mo),some (.ref al),some (.ref pt),some (.ref p),oc,od,oe]/\H4 p=some (.lst ys)/\TN H4 ((A1 n j).map zI) ys)
  ⟨Same.refl _,Nat.zero_le _,pl,_,oc,od,oe,rfl,h15,⟨p0,rfl,hp15⟩,trivial⟩ (fun j σ H4 hj h=>?_) (fun σ H4 h=>?_)
 ·obtain ⟨g4,hjk,p,ys,oc,od,oe,rfl,hp4,hT⟩:=h
  have e0:(0:Int)+(j:Int)=(j:Int):=by lia
  rw[e0]
  have lA:=V8 n4 (show j<=4 by lia)
  have lB:=V8 n4 (show j+1<=4 by lia)
  have ed:A1 n (j+1)=(A1 n j).flatMap (a1x n):=rfl
  have dm:∀r∈A1 n j,r.length<=4:=fun r hr=>by rw[(L7 hr).1];lia
  rw[ed] at lB ⊢
  generalize A1 n j=R at hT lA lB dm
  have yl:ys.length=R.length:=by rw[<- hT.len,List.length_map]
  refine ⟨(by show 0<=sizeLine;decide),fun lu hlu=>?_⟩
  have npl:p≠lu:=fun e=>by rw[e,hlu] at hp4;cases hp4
  have g5':Same H4 (b7 H4 lu (.lst [])):=Same.new hlu
  have h5:b7 H4 lu (.lst []) lu=some (.lst []):=b6
  try dsimp -proj only[r6]
  generalize b7 H4 lu (.lst [])=H5 at g5' h5
  refine ⟨_,rfl,p,rfl,⟨_,.of (g5' _ _ hp4)⟩,?_⟩
  refine M0 (K:=K) (a:=p) (xs:=ys) (fun t σ H6=>Kp lu H5 H6/\(∃zs,H6 lu=some (.lst zs)/\TN H6 (((R.take t).flatMap (a1x n)).map zI) zs)/\t<=ys.length/\∃oe,σ=[some (.ref a),some (.int i),some (.ref l),some (.int n),some (.ref ua),some rv,some (.int k),some (.ref dt),some (.int mo),some (.ref al),some (.ref pt),some (.ref p),some (.int j),some (.ref lu),oe])
   ⟨Kp.refl _ _,⟨[],h5,trivial⟩,Nat.zero_le _,oe,rfl⟩ (fun t σ H6 _ h=>.of (h.1 _ _ npl (g5' _ _ hp4))) (fun t x σ H6 ht h=>?_) (fun σ H6 h=>?_)
  ·obtain ⟨k6,⟨zs,hz6,hP⟩,htl,oe,rfl⟩:=h
   have t56:=KTn.kp h5 k6
   obtain ⟨z,r,hz,rfl,hr4⟩:=hT.get ht
   rw[List.getElem?_map] at hz
   obtain ⟨s0,hs0,ez⟩:=Option.map_eq_some_iff.mp hz
   subst ez
   have hr6:=(hr4.same g5').kt t56
   have sl:=dm s0 (List.mem_of_getElem? hs0)
   have tl:=(List.getElem?_eq_some_iff.mp ht).1
   have zl:zs.length<=64:=by
    rw[<- hP.len,List.length_map]
    refine Nat.le_trans ?_ lB
    conv=>rhs;rw[<- List.take_append_drop t R,List.flatMap_append,List.length_append]
    lia
   refine ⟨_,rfl,.inl ⟨rfl,_,.of hz6⟩,_,rfl,(n:Int),rfl,lo62,hi62,?_⟩
   refine a3u (lo:=0) (n:=n) (sz (by lia)) (fun y cs H7=>Same H6 H7/\y<=n/\cs.length<=y/\TN H7 ((((List.range y).filter (L5 s0)).map fun y=>s0++[y]).map zI) cs)
    ⟨Same.refl _,Nat.zero_le _,Nat.zero_le _,trivial⟩ (fun y cs H7 h=>h.2.2.1) rfl (fun y cs H7 hy h=>?_) (fun cs H7 h=>?_)
   ·obtain ⟨g7,hyn,hcl,hc⟩:=h
    have ey:(0:Int)+(y:Int)=(y:Int):=by lia
    rw[ey]
    have TAKE:L5 s0 y=true->∀H8,Same H7 H8->tOp (a1r K) (a3O 1) (a6c (a3r (a3O 0) tNil)) [some (.int (y:Int)),some (.ref r)] H8 fun z H'=>Same H6 H'/\y+1<=n/\(cs++[z]).length<=y+1/\TN H' ((((List.range (y+1)).filter (L5 s0)).map fun y=>s0++[y]).map zI) (cs++[z]):=fun hb H8 g8=>by
     refine ⟨_,rfl,_,rfl,(by show 1<=sizeLine;decide),fun p1 o1 hp1 nd1=>?_⟩
     have g9:=Same.new (o:=.frz o1 (.tup [.int y])) hp1
     refine ⟨r,p1,(zI s0).map V.int,[.int y],rfl,rfl,(hr6.same (g7.trans (g8.trans g9))).sq,⟨o1,nd1,b6⟩,by simp,(by rw[List.length_map,G0];show s0.length+1<=1000;lia),fun p2 H' g' hN=>?_⟩
     have gg:=(g8.trans g9).trans g'
     refine ⟨g7.trans gg,hy,by rw[List.length_append];show cs.length+1<=_;lia,?_⟩
     rw[List.range_succ,List.filter_append,List.map_append,List.map_append]
     refine TN.append (hc.to (KTn.same gg)) ?_
     rw[show [y].filter (L5 s0)=[y] by simp[hb]]
     refine ⟨⟨p2,rfl,?_⟩,trivial⟩
     rw[Z8,List.map_append]
     exact hN
    have SKIP:L5 s0 y=false->∀H8,Same H7 H8->Same H6 H8/\y+1<=n/\cs.length<=y+1/\TN H8 ((((List.range (y+1)).filter (L5 s0)).map fun y=>s0++[y]).map zI) cs:=fun hb H8 g8=>by
     refine ⟨g7.trans g8,hy,by lia,?_⟩
     rw[List.range_succ,List.filter_append,show [y].filter (L5 s0)=[] by simp[hb],List.append_nil]
     exact hc.to (KTn.same g8)
    refine ⟨_,rfl,(by show 0<=sizeLine;decide),fun pe hpe=>?_⟩
    have g8:Same H7 (b7 H7 pe (.tup [])):=Same.new hpe
    have h8:b7 H7 pe (.tup []) pe=some (.tup []):=b6
    try dsimp -proj only
    generalize b7 H7 pe (.tup [])=H8 at g8 h8
    have hr8:=(hr6.same g7).same g8
    refine ⟨r,pe,zI s0,[],rfl,rfl,hr8.sq,.of h8,⟨_,rfl,?_⟩⟩
    by_cases hs:s0=[]
    ·rw[decide_eq_true (show zI s0=[] by rw[hs];rfl)]
     exact u6 (u6 (TAKE (by unfold L5;rw[hs];rfl) H8 g8))
    ·rw[decide_eq_false (fun z=>hs (P1 (z.trans rfl)))]
     have hp:L5 s0 y=decide (s0.getLastD 0<=y):=by unfold L5;rw[show (s0 == [])=false by simpa using hs,Bool.false_or]
     refine q5 ⟨_,rfl,_,rfl,_,rfl,r,_,_,_,rfl,rfl,hr8.sq,a5y hs,⟨_,_,rfl,rfl,⟨_,rfl,?_⟩⟩⟩
     by_cases hle:s0.getLastD 0<=y
     ·rw[decide_eq_true (show ((s0.getLastD 0:Nat):Int)<=(y:Int) by lia)]
      exact u6 (TAKE (hp.trans (decide_eq_true hle)) H8 g8)
     ·rw[decide_eq_false (show ¬ ((s0.getLastD 0:Nat):Int)<=(y:Int) by lia)]
      exact q5 (SKIP (hp.trans (decide_eq_false hle)) H8 g8)
   ·obtain ⟨g7,_,hcl,hc⟩:=h
    intro pc hpc
    have g8:Same H7 (b7 H7 pc (.lst cs)):=Same.new hpc
    have h8:b7 H7 pc (.lst cs) pc=some (.lst cs):=b6
    try dsimp -proj only
    generalize b7 H7 pc (.lst cs)=H8 at g8 h8
    have g68:=g7.trans g8
    refine ⟨lu,pc,zs,cs,rfl,rfl,g68 _ _ hz6,h8,Nat.le_trans (show zs.length+cs.length<=1000 by lia) (by decide),?_⟩
    have kB:Kp lu H8 (b7 H8 lu (.lst (zs++cs))):=Kp.at
    refine ⟨(k6.trans (g68.kp lu)).trans kB,⟨_,b6,?_⟩,tl,_,rfl⟩
    have tB:=KTn.kp (g68 _ _ hz6) kB
    rw[List.take_add_one,hs0,List.flatMap_append,List.map_append]
    refine TN.append (hP.to ((KTn.same g68).trans tB)) ?_
    have:([s0].flatMap (a1x n))=a1x n s0:=by simp
    show TN _ (([s0].flatMap (a1x n)).map zI) cs
    rw[this]
    exact hc.to ((KTn.same g8).trans tB)
  ·obtain ⟨k6,⟨zs,hz6,hP⟩,_,oe,rfl⟩:=h
   rw[yl,List.take_length] at hP
   refine ⟨_,rfl,fun b o e=>k6 _ _ (fun z=>by rw[z] at e;have:=g4 _ _ e;rw[hlu] at this;cases this) (g5' _ _ (g4 _ _ e)),hj,lu,zs,_,_,_,rfl,hz6,hP⟩
 obtain ⟨g4,_,p,ys,oc,od,oe,rfl,hp4,hT⟩:=h
 have yl:ys.length=(A1 n k).length:=by rw[<- hT.len,List.length_map]
 have lA:=V8 n4 k4
 have VR:∀r∈A1 n k,Vq (LL ^ 4) 256 (n9 (v6 ns rs k) (iC n (j5 n r))):=fun r hr=>by
  obtain ⟨h1,h2⟩:=L7 hr
  have e:=a2Y hR hU h2
  rw[h1] at e
  rw[e]
  refine (O8 (N:=LL ^ 4) (B:=1) fun x hx=>?_).mono ?_
  ·obtain ⟨d,hd,rfl⟩:=List.mem_map.mp hx
   have hm:=(List.mem_filter.mp hd).1
   exact (a1K hR n4 hU (by lia) hm).pow (by lia)
  ·rw[List.length_map,Nat.one_mul]
   refine Nat.le_trans (List.length_filter_le ..) ?_
   exact a00 n4 (by lia)
 have VS:∀t,Vq (LL ^ 4) 16384 (sumQ (((A1 n k).take t).map fun r=>n9 (v6 ns rs k) (iC n (j5 n r)))):=fun t=>(O8 (N:=LL ^ 4) (B:=256) fun x hx=>by
  obtain ⟨e,he,rfl⟩:=List.mem_map.mp hx
  exact VR e (List.mem_of_mem_take he)).mono (by rw[List.length_map,List.length_take];lia)
 refine ⟨_,rfl,p,rfl,⟨_,.of hp4⟩,?_⟩
 refine M0 (K:=K) (a:=p) (xs:=ys) (fun t σ H5=>Same H4 H5/\t<=ys.length/\∃r oe,σ=[some (.ref a),some (.int i),some (.ref l),some (.int n),some (.ref ua),some rv,some (.int k),some (.ref dt),some (.int mo),some (.ref al),some (.ref r),some (.ref p),oc,od,oe]/\H5 r=some (.tup ((fr (sumQ (((A1 n k).take t).map fun r=>n9 (v6 ns rs k) (iC n (j5 n r))))).map V.int)))
  ⟨Same.refl _,Nat.zero_le _,pt,oe,rfl,g4 _ _ hpt15⟩ (fun t σ H5 _ h=>.of (h.1 _ _ hp4)) (fun t x σ H5 ht h=>?_) (fun σ H5 h=>?_)
 ·obtain ⟨g5',htl,r,oe,rfl,hr5⟩:=h
  obtain ⟨z,e,hz,rfl,he⟩:=(hT.to (KTn.same g5')).get ht
  rw[List.getElem?_map] at hz
  obtain ⟨e0,he0,ez⟩:=Option.map_eq_some_iff.mp hz
  subst ez
  have hem:=List.mem_of_getElem? he0
  obtain ⟨el,elt⟩:=L7 hem
  have tl:=(List.getElem?_eq_some_iff.mp ht).1
  have g45:=g4.trans g5'
  refine ⟨_,rfl,_,rfl,_,rfl,_,rfl,l,ua,e,rv,n,ns,rs,e0,rfl,⟨Dt.mkI nua (g45 _ _ hua15),hU,hrd15.kp (g45.kp l),hR,n1,n4,by lia⟩,he,elt,fun q1 H6 g6 hq1=>?_⟩
  rw[el] at hq1
  refine ⟨r,q1,_,_,1300,1300,rfl,g6 _ _ hr5,hq1,Rat.num_nonneg.mpr (VS t).nn,Rat.num_nonneg.mpr (VR e0 hem).nn,U4 (VS t) (by decide),U4 (VR e0 hem) (by decide),by decide,fun r2 H7 g7 hr7=>?_⟩
  refine ⟨(g5'.trans g6).trans g7,tl,r2,_,rfl,?_⟩
  rw[hr7,List.take_add_one,he0]
  show _=some (HO.tup ((fr (sumQ (((A1 n k).take t++[e0]).map fun r=>n9 (v6 ns rs k) (iC n (j5 n r))))).map V.int))
  rw[List.map_append,List.map_singleton,a0x]
 obtain ⟨g5',_,r,oe,rfl,hr5⟩:=h
 rw[yl,List.take_length,a5q hR n4 hU k4] at hr5
 refine ⟨_,rfl,(by show 2<=sizeLine;decide),fun p4 hp4'=>?_⟩
 have g6:Same H5 (b7 H5 p4 (.tup [.int 1,.int 1])):=Same.new hp4'
 refine Y1 (a:=[1,1]) (b:=[1,1]) (g6 _ _ hr5) b6 ⟨_,rfl,?_⟩
 rw[decide_eq_true rfl]
 refine q5 ⟨hA _ ((s15.same (g4.trans (g5'.trans g6))).1),_,_,_,_,_,_,_,_,_,_,_,_,_,_,rfl⟩
end
end G
set_option maxHeartbeats 4000000
namespace G
open PySem PySem.Spec PyProof.Rows L2 Mt
noncomputable def t7 (K:W.Frag) (x:Str) (st:Stmt):Prop:=∃(f:Addr) (oc:Value) (od:Option Addr) (kV doc pm:Value) (an:Option Addr) (cdv ct:Value) (sl:Array (Option Value)),
 W.nsIn K mainGlobals x=some (some (.ref f))/\K.lookup f=some ⟨oc,od,.func (W.fnOf x x (J2 st) (C5 st) (d5 st) .none kV doc pm an cdv ct),sl⟩/\W.codeIn K cdv x=true/\W.keepIn K (.ref f)=true
theorem has_mk {K:W.Frag}{x:Str}{st:Stmt}{f:Addr}{oc:Value}{od:Option Addr}{kV doc pm:Value}{an:Option Addr}{cdv ct:Value}{sl:Array (Option Value)}
  (a:W.nsIn K mainGlobals x=some (some (.ref f))) (l:K.lookup f=some ⟨oc,od,.func (W.fnOf x x (J2 st) (C5 st) (d5 st) .none kV doc pm an cdv ct),sl⟩) (c:W.codeIn K cdv x=true) (k:W.keepIn K (.ref f)=true):t7 K x st :=
 ⟨f,oc,od,kV,doc,pm,an,cdv,ct,sl,a,l,c,k⟩
theorem j8 {P:Program}{w:World}{K:W.Frag}{mg:Str->Option Value}{base h:Heap}{x:Str}{st:Stmt}{ps:List Str}{k:Nat}{sp:Sp} (X:K.In h) (G:h.Ns mainGlobals mg) (H:t7 K x st)
  (hb:∀(f:Addr) (fd:FuncData),Fun K x x st f fd->Binds K fd ps []) (ok:∀(f:Addr) (fd:FuncData),Fun K x x st f fd->FnOk P w K mg base CX0 k f fd ps sp):Cal P w K mg base k x ps sp:=by
 obtain ⟨f,oc,od,kV,doc,pm,an,cdv,ct,sl,a,l,c,kp⟩:=H
 have F:=a1l (st:=st) l c kp
 exact ⟨f,_,W.mg_of X G a,kp,hb _ _ F,ok _ _ F⟩
theorem B7 {P:Program}{w:World}{K:W.Frag}{mg:Str->Option Value}{base h:Heap}{x:Str}{st:Stmt}{ps:List Str}{k:Nat}{sp:Sp} (X:K.In h) (G:h.Ns mainGlobals mg) (H:t7 K x st)
  (hb:∀(f:Addr) (fd:FuncData),Fun K x x st f fd->Binds K fd ps []) (ok:∀(f:Addr) (fd:FuncData),Fun K x x st f fd->FnOk P w K mg base (A9 P w) k f fd ps sp):CalX P w K mg base k x ps sp:=by
 obtain ⟨f,oc,od,kV,doc,pm,an,cdv,ct,sl,a,l,c,kp⟩:=H
 have F:=a1l (st:=st) l c kp
 exact ⟨f,_,W.mg_of X G a,kp,hb _ _ F,ok _ _ F⟩
noncomputable def a1z (K:W.Frag):List Addr->Bool
 | []=>true
 | C::cs=>W.excIn K C vE "ValueError.__new__"&&a1z K cs
theorem a1d {K:W.Frag}:∀{cs:List Addr}{i:Nat},a1z K cs=true->i<cs.length->W.excIn K (cs.getD i 0) vE "ValueError.__new__"=true
 | C::cs,0,h,_=>by
  unfold a1z at h
  rw[Bool.and_eq_true] at h
  exact h.1
 | C::cs,i+1,h,hi=>by
  unfold a1z at h
  rw[Bool.and_eq_true] at h
  have:=a1d (cs:=cs) (i:=i) h.2 (by simpa using hi)
  simpa using this
theorem errs_mk {K:W.Frag}{h:Heap}{mg:Str->Option Value}{a0 a1 a4 a5 B:Addr} (X:K.In h) (G:h.Ns mainGlobals mg)
  (e0:W.nsIn K mainGlobals "NoUrn"=some (some (.ref a0))) (e1:W.nsIn K mainGlobals "NoRule"=some (some (.ref a1))) (e4:W.nsIn K mainGlobals "NoDraws"=some (some (.ref a4))) (e5:W.nsIn K mainGlobals "NoNumber"=some (some (.ref a5)))
  (hX:a1z K [a0,a1,a0,a0,a4,a5,a0,a0,a0,a0]=true):Errs K mg (fun i=>[a0,a1,a0,a0,a4,a5,a0,a0,a0,a0].getD i 0) B :=
 ⟨W.mg_of X G e0,W.mg_of X G e1,W.mg_of X G e4,W.mg_of X G e5,fun i hi=>a1d hX hi⟩
theorem all_mk {l:W.OpenLaw}{w:World}{K:W.Frag}{h:Heap}{mg:Str->Option Value}{fa Bs:Addr}{c:Nat->Addr} (X:K.In h) (G:h.Ns mainGlobals mg) (hfa:mg "law"=some (.ref fa)) (R:Errs K mg c Bs)
  (h1:t7 K "is_number" s_is_number) (h2:t7 K "is_whole" s_is_whole) (h3:t7 K "are_wholes" s_are_wholes) (h4:t7 K "need_number" s_need_number) (h5:t7 K "is_urn_up_to" s_is_urn_up_to) (h6:t7 K "is_urn" s_is_urn) (h7:t7 K "is_rule" s_is_rule) (h8:t7 K "need_urn" s_need_urn) (h9:t7 K "need_rule" s_need_rule) (h10:t7 K "need_urn_and_rule" s_nur) (h11:t7 K "greatest_divisor" s_gd) (h12:t7 K "fraction" s_fraction) (h13:t7 K "times" s_times) (h14:t7 K "plus" s_plus) (h15:t7 K "share" s_share) (h16:t7 K "put_in" s_put_in) (h17:t7 K "own_urn" s_own_urn) (h18:t7 K "urn_by_counts" s_ubc) (h19:t7 K "one_more" s_om) (h20:t7 K "next_chances_by_counts" s_ncc) (h21:t7 K "chances_by_counts" s_cbc) (h22:t7 K "are_wholes" s_are_wholes) (h23:t7 K "need_draws" s_need_draws) (h24:t7 K "follow" s_follow) (h25:t7 K "chance_of" s_chance_of) (h26:t7 K "all_draws" s_ad) (h27:t7 K "first_unlike" s_fu) (h28:t7 K "orders_alike" s_oa) (h29:t7 K "any_order" s_ao) (h30:t7 K "_law_cell_at" s_cell_at) (h31:t7 K "_law_state" s_state) (h32:t7 K "_law_take" s_take) (h33:t7 K "_law_urn_of" s_lurn) (h34:t7 K "_law_rule" s_lrule) (h35:t7 K "_law_fraction" s_cut) (h36:t7 K "_law_plus" s_lplus) (h37:t7 K "_law_by" s_by) (h38:t7 K "_law_orders" s_lo) (h39:t7 K "_law_any_right" s_ar) (h40:t7 K "_law_first_right" s_fr)
  (hlaw:t7 K "law" s_law)
  (z1:W.nsIn K mainGlobals "isinstance"=some none) (z2:W.nsIn K mainGlobals "bool"=some none) (z3:W.nsIn K mainGlobals "int"=some none) (z4:W.nsIn K mainGlobals "tuple"=some none) (z5:W.nsIn K mainGlobals "list"=some none) (z6:W.nsIn K mainGlobals "all"=some none) (z7:W.nsIn K mainGlobals "sum"=some none) (z8:W.nsIn K mainGlobals "len"=some none) (z9:W.nsIn K mainGlobals "range"=some none) (z10:W.nsIn K mainGlobals "max"=some none) (z11:W.nsIn K mainGlobals "min"=some none) (z12:W.nsIn K mainGlobals "abs"=some none) (z13:W.nsIn K mainGlobals "zip"=some none) (z14:W.nsIn K mainGlobals "any"=some none) (z15:W.nsIn K mainGlobals "enumerate"=some none) (z16:W.nsIn K mainGlobals "sorted"=some none) (z17:W.nsIn K mainGlobals "set"=some none)
  {t1:Tok} (m1:W.nsIn K mainGlobals "MOST_KINDS"=some (some (.int 4 t1))) {t2:Tok} (m2:W.nsIn K mainGlobals "MOST_BALLS"=some (some (.int 20 t2))) {t3:Tok} (m3:W.nsIn K mainGlobals "MOST_PUT_IN"=some (some (.int 5 t3))) {t4:Tok} (m4:W.nsIn K mainGlobals "MOST_DRAWS"=some (some (.int 20 t4))) {t5:Tok} (m5:W.nsIn K mainGlobals "MOST_ORDER_DRAWS"=some (some (.int 4 t5))):
  ∃fd:FuncData,(∀(s:Shared) (v:Value),BindsTo s fd ⟨[v],[]⟩ [("_law_script",v)])/\∀base:Heap,K.In base->base.Ns mainGlobals mg->FnOk l.prog w K mg base CX0 12 fa fd ["_law_script"] (a0X K):=by
 obtain ⟨f,oc,od,kV,doc,pm,an,cdv,ct,sl,a,lk,c',kp⟩:=hlaw
 have e:=hfa.symm.trans (W.mg_of X G a)
 cases e
 have F:=a1l (st:=s_law) lk c' kp
 have B:Bt mg:=⟨W.mg_none_of X G z1,W.mg_none_of X G z2,W.mg_none_of X G z3,W.mg_none_of X G z4,W.mg_none_of X G z5,W.mg_none_of X G z6,W.mg_none_of X G z7,W.mg_none_of X G z8,W.mg_none_of X G z9,W.mg_none_of X G z10,W.mg_none_of X G z11,W.mg_none_of X G z12,W.mg_none_of X G z13⟩
 have B2:Bt2 mg:=⟨W.mg_none_of X G z14⟩
 have B3:Bt3 mg:=⟨W.mg_none_of X G z15,W.mg_none_of X G z16⟩
 have hSet:=W.mg_none_of X G z17
 have C:Ct mg:=⟨⟨_,W.mg_of X G m1⟩,⟨_,W.mg_of X G m2⟩,⟨_,W.mg_of X G m3⟩⟩
 have CD:CtD mg:=⟨⟨_,W.mg_of X G m4⟩⟩
 have CO:CtO mg:=⟨⟨_,W.mg_of X G m5⟩⟩
 refine ⟨W.fnOf "law" "law" (J2 s_law) (C5 s_law) (d5 s_law) .none kV doc pm an cdv ct,fun s v=>.of_eq rfl,fun base _ _=>?_⟩
 have c_is_number:Cal l.prog w K mg base 0 "is_number" ["thing"] sp_is_number:=j8 X G h1 (fun f fd F=>F.binds (ps:=["thing"]) fun _ _ _ _ _ _ us hl=>match us,(show us.length=1 from hl) with | [_],_=>rfl) (fun f fd F=>a08 F B)
 have c_is_whole:Cal l.prog w K mg base 1 "is_whole" ["thing","low","high"] sp_is_whole:=j8 X G h2 (fun f fd F=>F.binds (ps:=["thing","low","high"]) fun _ _ _ _ _ _ us hl=>match us,(show us.length=3 from hl) with | [_,_,_],_=>rfl) (fun f fd F=>a2h F c_is_number)
 have c_are_wholes:Cal l.prog w K mg base 2 "are_wholes" ["thing","low","high"] sp_are_wholes:=j8 X G h3 (fun f fd F=>F.binds (ps:=["thing","low","high"]) fun _ _ _ _ _ _ us hl=>match us,(show us.length=3 from hl) with | [_,_,_],_=>rfl) (fun f fd F=>a0U F B c_is_whole)
 have c_need_number:CalX l.prog w K mg base 2 "need_number" ["thing","low","high"] (D9 c):=B7 X G h4 (fun f fd F=>F.binds (ps:=["thing","low","high"]) fun _ _ _ _ _ _ us hl=>match us,(show us.length=3 from hl) with | [_,_,_],_=>rfl) (fun f fd F=>a0n F R c_is_whole)
 have c_is_urn_up_to:Cal l.prog w K mg base 3 "is_urn_up_to" ["thing","most"] sp_is_urn_up_to:=j8 X G h5 (fun f fd F=>F.binds (ps:=["thing","most"]) fun _ _ _ _ _ _ us hl=>match us,(show us.length=2 from hl) with | [_,_],_=>rfl) (fun f fd F=>Y3 F B C c_are_wholes)
 have c_is_urn:Cal l.prog w K mg base 4 "is_urn" ["thing"] sp_is_urn:=j8 X G h6 (fun f fd F=>F.binds (ps:=["thing"]) fun _ _ _ _ _ _ us hl=>match us,(show us.length=1 from hl) with | [_],_=>rfl) (fun f fd F=>a5d F C c_is_urn_up_to)
 have c_is_rule:CalX l.prog w K mg base 3 "is_rule" ["kinds","thing"] (Q7 c):=B7 X G h7 (fun f fd F=>F.binds (ps:=["kinds","thing"]) fun _ _ _ _ _ _ us hl=>match us,(show us.length=2 from hl) with | [_,_],_=>rfl) (fun f fd F=>a3n F B C c_are_wholes c_need_number)
 have c_need_urn:CalX l.prog w K mg base 5 "need_urn" ["thing"] (O0 c):=B7 X G h8 (fun f fd F=>F.binds (ps:=["thing"]) fun _ _ _ _ _ _ us hl=>match us,(show us.length=1 from hl) with | [_],_=>rfl) (fun f fd F=>a2q F R c_is_urn)
 have c_need_rule:CalX l.prog w K mg base 4 "need_rule" ["kinds","thing"] (L6 c):=B7 X G h9 (fun f fd F=>F.binds (ps:=["kinds","thing"]) fun _ _ _ _ _ _ us hl=>match us,(show us.length=2 from hl) with | [_,_],_=>rfl) (fun f fd F=>a1y F R c_is_rule)
 have c_need_urn_and_rule:CalX l.prog w K mg base 6 "need_urn_and_rule" ["urn","rule"] (T8 c):=B7 X G h10 (fun f fd F=>F.binds (ps:=["urn","rule"]) fun _ _ _ _ _ _ us hl=>match us,(show us.length=2 from hl) with | [_,_],_=>rfl) (fun f fd F=>a7M F B c_need_urn c_need_rule)
 have c_greatest_divisor:Cal l.prog w K mg base 1 "greatest_divisor" ["one","other"] sp_gd:=j8 X G h11 (fun f fd F=>F.binds (ps:=["one","other"]) fun _ _ _ _ _ _ us hl=>match us,(show us.length=2 from hl) with | [_,_],_=>rfl) (fun f fd F=>a8y F B)
 have c_fraction:Cal l.prog w K mg base 2 "fraction" ["top","bottom"] sp_fraction:=j8 X G h12 (fun f fd F=>F.binds (ps:=["top","bottom"]) fun _ _ _ _ _ _ us hl=>match us,(show us.length=2 from hl) with | [_,_],_=>rfl) (fun f fd F=>a2k F c_greatest_divisor)
 have c_times:Cal l.prog w K mg base 3 "times" ["one","other"] sp_times:=j8 X G h13 (fun f fd F=>F.binds (ps:=["one","other"]) fun _ _ _ _ _ _ us hl=>match us,(show us.length=2 from hl) with | [_,_],_=>rfl) (fun f fd F=>a5i F c_fraction)
 have c_plus:Cal l.prog w K mg base 3 "plus" ["one","other"] sp_plus:=j8 X G h14 (fun f fd F=>F.binds (ps:=["one","other"]) fun _ _ _ _ _ _ us hl=>match us,(show us.length=2 from hl) with | [_,_],_=>rfl) (fun f fd F=>a6Y F c_fraction)
 have c_share:Cal l.prog w K mg base 3 "share" ["urn","kind"] sp_share:=j8 X G h15 (fun f fd F=>F.binds (ps:=["urn","kind"]) fun _ _ _ _ _ _ us hl=>match us,(show us.length=2 from hl) with | [_,_],_=>rfl) (fun f fd F=>a5K F B c_fraction)
 have c_put_in:Cal l.prog w K mg base 1 "put_in" ["urn","rule","kind"] sp_put_in:=j8 X G h16 (fun f fd F=>F.binds (ps:=["urn","rule","kind"]) fun _ _ _ _ _ _ us hl=>match us,(show us.length=3 from hl) with | [_,_,_],_=>rfl) (fun f fd F=>a5e F B)
 have c_own_urn:Cal l.prog w K mg base 1 "own_urn" ["urn"] sp_own_urn:=j8 X G h17 (fun f fd F=>F.binds (ps:=["urn"]) fun _ _ _ _ _ _ us hl=>match us,(show us.length=1 from hl) with | [_],_=>rfl) (fun f fd F=>a3H F B)
 have c_urn_by_counts:Cal l.prog w K mg base 1 "urn_by_counts" ["urn","rule","counts"] sp_ubc:=j8 X G h18 (fun f fd F=>F.binds (ps:=["urn","rule","counts"]) fun _ _ _ _ _ _ us hl=>match us,(show us.length=3 from hl) with | [_,_,_],_=>rfl) (fun f fd F=>a7T F B)
 have c_one_more:Cal l.prog w K mg base 1 "one_more" ["counts","kind"] sp_om:=j8 X G h19 (fun f fd F=>F.binds (ps:=["counts","kind"]) fun _ _ _ _ _ _ us hl=>match us,(show us.length=2 from hl) with | [_,_],_=>rfl) (fun f fd F=>a8G F )
 have c_next_chances_by_counts:Cal l.prog w K mg base 4 "next_chances_by_counts" ["chances","urn","rule","goal"] sp_ncc:=j8 X G h20 (fun f fd F=>F.binds (ps:=["chances","urn","rule","goal"]) fun _ _ _ _ _ _ us hl=>match us,(show us.length=4 from hl) with | [_,_,_,_],_=>rfl) (fun f fd F=>a7p F B c_urn_by_counts c_one_more c_times c_share c_plus)
 have c_chances_by_counts:Cal l.prog w K mg base 5 "chances_by_counts" ["urn","rule","goal","draws"] sp_cbc:=j8 X G h21 (fun f fd F=>F.binds (ps:=["urn","rule","goal","draws"]) fun _ _ _ _ _ _ us hl=>match us,(show us.length=4 from hl) with | [_,_,_,_],_=>rfl) (fun f fd F=>a7G F B c_next_chances_by_counts)
 have c_are_wholes_0:=c_are_wholes
 have c_are_wholes:Cal l.prog w K mg base 2 "are_wholes" ["thing","low","high"] sp_awN:=j8 X G h22 (fun f fd F=>F.binds (ps:=["thing","low","high"]) fun _ _ _ _ _ _ us hl=>match us,(show us.length=3 from hl) with | [_,_,_],_=>rfl) (fun f fd F=>a7x F B c_is_whole)
 have c_need_draws:CalX l.prog w K mg base 3 "need_draws" ["urn","thing"] (S4 c):=B7 X G h23 (fun f fd F=>F.binds (ps:=["urn","thing"]) fun _ _ _ _ _ _ us hl=>match us,(show us.length=2 from hl) with | [_,_],_=>rfl) (fun f fd F=>a8g F B CD R c_are_wholes_0 c_are_wholes)
 have c_follow:CalX l.prog w K mg base 7 "follow" ["urn","rule","draws"] (T5 c):=B7 X G h24 (fun f fd F=>F.binds (ps:=["urn","rule","draws"]) fun _ _ _ _ _ _ us hl=>match us,(show us.length=3 from hl) with | [_,_,_],_=>rfl) (fun f fd F=>a4i F B c_need_urn_and_rule c_need_draws c_own_urn c_times c_share c_put_in)
 have c_chance_of:CalX l.prog w K mg base 8 "chance_of" ["urn","rule","draws"] (G2 c):=B7 X G h25 (fun f fd F=>F.binds (ps:=["urn","rule","draws"]) fun _ _ _ _ _ _ us hl=>match us,(show us.length=3 from hl) with | [_,_,_],_=>rfl) (fun f fd F=>a1v F c_follow)
 have c_all_draws:Cal l.prog w K mg base 1 "all_draws" ["kinds","many"] sp_ad:=j8 X G h26 (fun f fd F=>F.binds (ps:=["kinds","many"]) fun _ _ _ _ _ _ us hl=>match us,(show us.length=2 from hl) with | [_,_],_=>rfl) (fun f fd F=>a8q F B)
 have c_first_unlike:CalX l.prog w K mg base 9 "first_unlike" ["urn","rule","draws"] (a03 c):=B7 X G h27 (fun f fd F=>F.binds (ps:=["urn","rule","draws"]) fun _ _ _ _ _ _ us hl=>match us,(show us.length=3 from hl) with | [_,_,_],_=>rfl) (fun f fd F=>a8r F B B3 CO c_need_urn_and_rule c_need_number c_all_draws c_chance_of)
 have c_orders_alike:CalX l.prog w K mg base 10 "orders_alike" ["urn","rule","draws"] (a02 c):=B7 X G h28 (fun f fd F=>F.binds (ps:=["urn","rule","draws"]) fun _ _ _ _ _ _ us hl=>match us,(show us.length=3 from hl) with | [_,_,_],_=>rfl) (fun f fd F=>a8A F c_first_unlike)
 have c_any_order:CalX l.prog w K mg base 7 "any_order" ["urn","rule","draws"] sp_ao:=B7 X G h29 (fun f fd F=>F.binds (ps:=["urn","rule","draws"]) fun _ _ _ _ _ _ us hl=>match us,(show us.length=3 from hl) with | [_,_,_],_=>rfl) (fun f fd F=>a8P F B c_need_urn_and_rule c_need_draws c_chances_by_counts)
 have c__law_cell_at:Cal l.prog w K mg base 1 "_law_cell_at" ["_law_script","_law_k"] (Q9 K):=j8 X G h30 (fun f fd F=>F.binds (ps:=["_law_script","_law_k"]) fun _ _ _ _ _ _ us hl=>match us,(show us.length=2 from hl) with | [_,_],_=>rfl) (fun f fd F=>a3s F B)
 have c__law_state:Cal l.prog w K mg base 2 "_law_state" ["_law_script","_law_k"] (W4 K):=j8 X G h31 (fun f fd F=>F.binds (ps:=["_law_script","_law_k"]) fun _ _ _ _ _ _ us hl=>match us,(show us.length=2 from hl) with | [_,_],_=>rfl) (fun f fd F=>a5x F c__law_cell_at)
 have c__law_take:Cal l.prog w K mg base 1 "_law_take" ["_law_state_here","_law_many"] sp_take:=j8 X G h32 (fun f fd F=>F.binds (ps:=["_law_state_here","_law_many"]) fun _ _ _ _ _ _ us hl=>match us,(show us.length=2 from hl) with | [_,_],_=>rfl) (fun f fd F=>a6M F )
 have c__law_urn_of:Cal l.prog w K mg base 2 "_law_urn_of" ["_law_state_here","_law_kinds"] sp_lurn:=j8 X G h33 (fun f fd F=>F.binds (ps:=["_law_state_here","_law_kinds"]) fun _ _ _ _ _ _ us hl=>match us,(show us.length=2 from hl) with | [_,_],_=>rfl) (fun f fd F=>a6G F B B2 c__law_take)
 have c__law_rule:Cal l.prog w K mg base 2 "_law_rule" ["_law_state_here","_law_kinds"] sp_lrule:=j8 X G h34 (fun f fd F=>F.binds (ps:=["_law_state_here","_law_kinds"]) fun _ _ _ _ _ _ us hl=>match us,(show us.length=2 from hl) with | [_,_],_=>rfl) (fun f fd F=>a5v F B c__law_take)
 have c__law_fraction:Cal l.prog w K mg base 1 "_law_fraction" ["_law_top","_law_bottom"] sp_cut:=j8 X G h35 (fun f fd F=>F.binds (ps:=["_law_top","_law_bottom"]) fun _ _ _ _ _ _ us hl=>match us,(show us.length=2 from hl) with | [_,_],_=>rfl) (fun f fd F=>a7u F B)
 have c__law_plus:Cal l.prog w K mg base 2 "_law_plus" ["_law_one","_law_other"] sp_plus:=j8 X G h36 (fun f fd F=>F.binds (ps:=["_law_one","_law_other"]) fun _ _ _ _ _ _ us hl=>match us,(show us.length=2 from hl) with | [_,_],_=>rfl) (fun f fd F=>a5F F c__law_fraction)
 have c__law_by:Cal l.prog w K mg base 2 "_law_by" ["_law_one","_law_other"] sp_times:=j8 X G h37 (fun f fd F=>F.binds (ps:=["_law_one","_law_other"]) fun _ _ _ _ _ _ us hl=>match us,(show us.length=2 from hl) with | [_,_],_=>rfl) (fun f fd F=>a8t F c__law_fraction)
 have c__law_orders:Cal l.prog w K mg base 1 "_law_orders" ["_law_draws"] sp_lo:=j8 X G h38 (fun f fd F=>F.binds (ps:=["_law_draws"]) fun _ _ _ _ _ _ us hl=>match us,(show us.length=1 from hl) with | [_],_=>rfl) (fun f fd F=>a8M F B B3 hSet)
 have c__law_any_right:Cal l.prog w K mg base 11 "_law_any_right" ["_law_urn","_law_rule_here","_law_draws"] sp_ar:=j8 X G h39 (fun f fd F=>F.binds (ps:=["_law_urn","_law_rule_here","_law_draws"]) fun _ _ _ _ _ _ us hl=>match us,(show us.length=3 from hl) with | [_,_,_],_=>rfl) (fun f fd F=>a8K F B ⟨c__law_orders.up (by decide),c_chance_of.up (by decide),c_any_order.up (by decide),c_orders_alike,c_first_unlike.up (by decide),c__law_plus.up (by decide),c__law_by.up (by decide)⟩)
 have c__law_first_right:Cal l.prog w K mg base 11 "_law_first_right" ["_law_urn","_law_rule_here","_law_draws"] sp_fr:=j8 X G h40 (fun f fd F=>F.binds (ps:=["_law_urn","_law_rule_here","_law_draws"]) fun _ _ _ _ _ _ us hl=>match us,(show us.length=3 from hl) with | [_,_,_],_=>rfl) (fun f fd F=>a8F F B B3 ⟨c__law_orders.up (by decide),c_chance_of.up (by decide),c_any_order.up (by decide),c_orders_alike,c_first_unlike.up (by decide),c__law_plus.up (by decide),c__law_by.up (by decide)⟩)
 exact a7d F B ⟨(c__law_state.up (by decide)),(c__law_take.up (by decide)),(c__law_urn_of.up (by decide)),(c__law_rule.up (by decide)),c__law_any_right,c__law_first_right,(c_orders_alike.up (by decide)),(c__law_plus.up (by decide)),(c_any_order.up (by decide))⟩
theorem walk {l:W.OpenLaw}{q:Program}{loose:List Str}{XP:(Str->Option Value)->Heap->Prop}{YP:World->Heap->Prop}{d:DefRec}{K:Params->W.Frag} (hn:l.most=some 63) (hdf:d.params.defaults=[])
  (hY:∀(w:World) (h:Heap),YP w h->(K w.params).In h)
  (F:∀(w:World) (mg:Str->Option Value) (fa:Addr) (h:Heap),(K w.params).In h->h.Ns mainGlobals mg->mg d.name=some (.ref fa) ->
   ∃fd:FuncData,(∀(s:Shared) (u:Value),BindsTo s fd ⟨[u],[]⟩ [("_law_script",u)])/\∀base:Heap,(K w.params).In base->base.Ns mainGlobals mg->FnOk l.prog w (K w.params) mg base CX0 12 fa fd ["_law_script"] (a0X (K w.params))):
  W.WalkO q loose XP YP l.row.toRowW d [] (fun f vs=>PySem.call f vs):=
 L2.walk_of (n:=63) (k:=12) (x:="_law_script") (CX:=fun _=>CX0) (sp:=fun w=>a0X (K w.params)) hn (by decide) hdf ⟨rfl,by decide,by decide⟩ hY F (fun _ _ a ns hl _ hS=>⟨a,ns,rfl,hS,hl,fun _=>rfl⟩) fun _ _ _ _ _ z=>z
end G
noncomputable def PySem.Challenge.cw_growurns_k43_whole_orders_holds.tw4476047139484385999 : Unit:=()
noncomputable def PySem.Challenge.cw_growurns_k43_whole_orders_holds.tw5630144099929816102 : Unit:=()
noncomputable def PySem.Challenge.cw_growurns_k43_whole_orders_holds.tw7588815820241858982 : Unit:=()
noncomputable def PySem.Challenge.cw_growurns_k43_whole_orders_holds.tw15695097431112550886 : Unit:=()
noncomputable def PySem.Challenge.cw_growurns_k43_whole_orders_holds.tw7897972178959659548 : Unit:=()
noncomputable def PySem.Challenge.cw_growurns_k43_whole_orders_holds.tw10961421514139992434 : Unit:=()
noncomputable def PySem.Challenge.cw_growurns_k43_whole_orders_holds.tw17121663173577898820 : Unit:=()
noncomputable def PySem.Challenge.cw_growurns_k43_whole_orders_holds.tw18317078938634788591 : Unit:=()
noncomputable def PySem.Challenge.cw_growurns_k43_whole_orders_holds.tw15236331645662111139 : Unit:=()
noncomputable def PySem.Challenge.cw_growurns_k43_whole_orders_holds.tw4748761489188179859 : Unit:=()
noncomputable def PySem.Challenge.cw_growurns_k43_whole_orders_holds.tw17757642220151706801 : Unit:=()
noncomputable def PySem.Challenge.cw_growurns_k43_whole_orders_holds.tw10492478626274985324 : Unit:=()
noncomputable def PySem.Challenge.cw_growurns_k43_whole_orders_holds.tw1650641078867176677 : Unit:=()
noncomputable def PySem.Challenge.cw_growurns_k43_whole_orders_holds.tw4178423042880417661 : Unit:=()
noncomputable def PySem.Challenge.cw_growurns_k43_whole_orders_holds.tw14386082271643082236 : Unit:=()
noncomputable def PySem.Challenge.cw_growurns_k43_whole_orders_holds.tw9025207046821111106 : Unit:=()
noncomputable def PySem.Challenge.cw_growurns_k43_whole_orders_holds.tw13391209997602694516 : Unit:=()
noncomputable def PySem.Challenge.cw_growurns_k43_whole_orders_holds.tw14162477845032811053 : Unit:=()
noncomputable def PySem.Challenge.cw_growurns_k43_whole_orders_holds.tw15611063391010394212 : Unit:=()
noncomputable def PySem.Challenge.cw_growurns_k43_whole_orders_holds.tw15894970807287267797 : Unit:=()
noncomputable def PySem.Challenge.cw_growurns_k43_whole_orders_holds.tw9802254207354119181 : Unit:=()
noncomputable def PySem.Challenge.cw_growurns_k43_whole_orders_holds.tw8320624417222449171 : Unit:=()
noncomputable def PySem.Challenge.cw_growurns_k43_whole_orders_holds.tw14763268668267780754 : Unit:=()
noncomputable def PySem.Challenge.cw_growurns_k43_whole_orders_holds.tw8007490631116978412 : Unit:=()
noncomputable def PySem.Challenge.cw_growurns_k43_whole_orders_holds.tw15619117545847899517 : Unit:=()
noncomputable def PySem.Challenge.cw_growurns_k43_whole_orders_holds.tw12465509173799604452 : Unit:=()
noncomputable def PySem.Challenge.cw_growurns_k43_whole_orders_holds.tw17498344622879614238 : Unit:=()
noncomputable def PySem.Challenge.cw_growurns_k43_whole_orders_holds.tw17232296524922670504 : Unit:=()
noncomputable def PySem.Challenge.cw_growurns_k43_whole_orders_holds.tw198159958457770463 : Unit:=()
noncomputable def PySem.Challenge.cw_growurns_k43_whole_orders_holds.tw7806917006847827288 : Unit:=()
noncomputable def PySem.Challenge.cw_growurns_k43_whole_orders_holds.tw11368711041291174963 : Unit:=()
noncomputable def PySem.Challenge.cw_growurns_k43_whole_orders_holds.tw488238034231777080 : Unit:=()
noncomputable def PySem.Challenge.cw_growurns_k43_whole_orders_holds.tw9514586070020659492 : Unit:=()
noncomputable def PySem.Challenge.cw_growurns_k43_whole_orders_holds.tw8321265718955242740 : Unit:=()
noncomputable def PySem.Challenge.cw_growurns_k43_whole_orders_holds.tw13179821556940544154 : Unit:=()
noncomputable def PySem.Challenge.cw_growurns_k43_whole_orders_holds.tw12427221017829151772 : Unit:=()
noncomputable def PySem.Challenge.cw_growurns_k43_whole_orders_holds.tw9788842992373149347 : Unit:=()
noncomputable def PySem.Challenge.cw_growurns_k43_whole_orders_holds.tw3654362820765595768 : Unit:=()
set_option Elab.async true
open PySem PySem.W PyProof.Rows
set_option maxRecDepth 100000 in
set_option maxHeartbeats 0 in
theorem PySem.Challenge.cw_growurns_k43_whole_orders_holds : PySem.Challenge.rw_growurns_k43_whole_orders.Holds := by
 w_on;o_law;k_head;(case hw=>w_witness2)
 k_fill
 refine G.walk (l:=PySem.Challenge.rw_growurns_k43_whole_orders) rfl rfl (fun w h Y=>W.kIn_of Y) ?F
 case F =>
  intro w mg fa h KX NS hmg
  refine' G.all_mk KX NS hmg (G.errs_mk (B:=0) KX NS ?e0 ?e1 ?e4 ?e5 ?eX) (G.has_mk ?a1 ?l1 ?c1 ?k1) (G.has_mk ?a2 ?l2 ?c2 ?k2) (G.has_mk ?a3 ?l3 ?c3 ?k3) (G.has_mk ?a4 ?l4 ?c4 ?k4) (G.has_mk ?a5 ?l5 ?c5 ?k5) (G.has_mk ?a6 ?l6 ?c6 ?k6) (G.has_mk ?a7 ?l7 ?c7 ?k7) (G.has_mk ?a8 ?l8 ?c8 ?k8) (G.has_mk ?a9 ?l9 ?c9 ?k9) (G.has_mk ?a10 ?l10 ?c10 ?k10) (G.has_mk ?a11 ?l11 ?c11 ?k11) (G.has_mk ?a12 ?l12 ?c12 ?k12) (G.has_mk ?a13 ?l13 ?c13 ?k13) (G.has_mk ?a14 ?l14 ?c14 ?k14) (G.has_mk ?a15 ?l15 ?c15 ?k15) (G.has_mk ?a16 ?l16 ?c16 ?k16) (G.has_mk ?a17 ?l17 ?c17 ?k17) (G.has_mk ?a18 ?l18 ?c18 ?k18) (G.has_mk ?a19 ?l19 ?c19 ?k19) (G.has_mk ?a20 ?l20 ?c20 ?k20) (G.has_mk ?a21 ?l21 ?c21 ?k21) (G.has_mk ?a22 ?l22 ?c22 ?k22) (G.has_mk ?a23 ?l23 ?c23 ?k23) (G.has_mk ?a24 ?l24 ?c24 ?k24) (G.has_mk ?a25 ?l25 ?c25 ?k25) (G.has_mk ?a26 ?l26 ?c26 ?k26) (G.has_mk ?a27 ?l27 ?c27 ?k27) (G.has_mk ?a28 ?l28 ?c28 ?k28) (G.has_mk ?a29 ?l29 ?c29 ?k29) (G.has_mk ?a30 ?l30 ?c30 ?k30) (G.has_mk ?a31 ?l31 ?c31 ?k31) (G.has_mk ?a32 ?l32 ?c32 ?k32) (G.has_mk ?a33 ?l33 ?c33 ?k33) (G.has_mk ?a34 ?l34 ?c34 ?k34) (G.has_mk ?a35 ?l35 ?c35 ?k35) (G.has_mk ?a36 ?l36 ?c36 ?k36) (G.has_mk ?a37 ?l37 ?c37 ?k37) (G.has_mk ?a38 ?l38 ?c38 ?k38) (G.has_mk ?a39 ?l39 ?c39 ?k39) (G.has_mk ?a40 ?l40 ?c40 ?k40) (G.has_mk ?la ?ll ?lc ?lk) ?z1 ?z2 ?z3 ?z4 ?z5 ?z6 ?z7 ?z8 ?z9 ?z10 ?z11 ?z12 ?z13 ?z14 ?z15 ?z16 ?z17 ?m1 ?m2 ?m3 ?m4 ?m5
  (case e0=>k_is);(case e1=>k_is);(case e4=>k_is);(case e5=>k_is)
  (case eX=>kernel_rfl)
  (case a1=>k_is);(case l1=>k_is);(case c1=>k_is);(case k1=>k_is)
  (case a2=>k_is);(case l2=>k_is);(case c2=>k_is);(case k2=>k_is)
  (case a3=>k_is);(case l3=>k_is);(case c3=>k_is);(case k3=>k_is)
  (case a4=>k_is);(case l4=>k_is);(case c4=>k_is);(case k4=>k_is)
  (case a5=>k_is);(case l5=>k_is);(case c5=>k_is);(case k5=>k_is)
  (case a6=>k_is);(case l6=>k_is);(case c6=>k_is);(case k6=>k_is)
  (case a7=>k_is);(case l7=>k_is);(case c7=>k_is);(case k7=>k_is)
  (case a8=>k_is);(case l8=>k_is);(case c8=>k_is);(case k8=>k_is)
  (case a9=>k_is);(case l9=>k_is);(case c9=>k_is);(case k9=>k_is)
  (case a10=>k_is);(case l10=>k_is);(case c10=>k_is);(case k10=>k_is)
  (case a11=>k_is);(case l11=>k_is);(case c11=>k_is);(case k11=>k_is)
  (case a12=>k_is);(case l12=>k_is);(case c12=>k_is);(case k12=>k_is)
  (case a13=>k_is);(case l13=>k_is);(case c13=>k_is);(case k13=>k_is)
  (case a14=>k_is);(case l14=>k_is);(case c14=>k_is);(case k14=>k_is)
  (case a15=>k_is);(case l15=>k_is);(case c15=>k_is);(case k15=>k_is)
  (case a16=>k_is);(case l16=>k_is);(case c16=>k_is);(case k16=>k_is)
  (case a17=>k_is);(case l17=>k_is);(case c17=>k_is);(case k17=>k_is)
  (case a18=>k_is);(case l18=>k_is);(case c18=>k_is);(case k18=>k_is)
  (case a19=>k_is);(case l19=>k_is);(case c19=>k_is);(case k19=>k_is)
  (case a20=>k_is);(case l20=>k_is);(case c20=>k_is);(case k20=>k_is)
  (case a21=>k_is);(case l21=>k_is);(case c21=>k_is);(case k21=>k_is)
  (case a22=>k_is);(case l22=>k_is);(case c22=>k_is);(case k22=>k_is)
  (case a23=>k_is);(case l23=>k_is);(case c23=>k_is);(case k23=>k_is)
  (case a24=>k_is);(case l24=>k_is);(case c24=>k_is);(case k24=>k_is)
  (case a25=>k_is);(case l25=>k_is);(case c25=>k_is);(case k25=>k_is)
  (case a26=>k_is);(case l26=>k_is);(case c26=>k_is);(case k26=>k_is)
  (case a27=>k_is);(case l27=>k_is);(case c27=>k_is);(case k27=>k_is)
  (case a28=>k_is);(case l28=>k_is);(case c28=>k_is);(case k28=>k_is)
  (case a29=>k_is);(case l29=>k_is);(case c29=>k_is);(case k29=>k_is)
  (case a30=>k_is);(case l30=>k_is);(case c30=>k_is);(case k30=>k_is)
  (case a31=>k_is);(case l31=>k_is);(case c31=>k_is);(case k31=>k_is)
  (case a32=>k_is);(case l32=>k_is);(case c32=>k_is);(case k32=>k_is)
  (case a33=>k_is);(case l33=>k_is);(case c33=>k_is);(case k33=>k_is)
  (case a34=>k_is);(case l34=>k_is);(case c34=>k_is);(case k34=>k_is)
  (case a35=>k_is);(case l35=>k_is);(case c35=>k_is);(case k35=>k_is)
  (case a36=>k_is);(case l36=>k_is);(case c36=>k_is);(case k36=>k_is)
  (case a37=>k_is);(case l37=>k_is);(case c37=>k_is);(case k37=>k_is)
  (case a38=>k_is);(case l38=>k_is);(case c38=>k_is);(case k38=>k_is)
  (case a39=>k_is);(case l39=>k_is);(case c39=>k_is);(case k39=>k_is)
  (case a40=>k_is);(case l40=>k_is);(case c40=>k_is);(case k40=>k_is)
  (case la=>k_is);(case ll=>k_is);(case lc=>k_is);(case lk=>k_is)
  (case z1=>k_is);(case z2=>k_is);(case z3=>k_is);(case z4=>k_is);(case z5=>k_is);(case z6=>k_is);(case z7=>k_is);(case z8=>k_is);(case z9=>k_is);(case z10=>k_is);(case z11=>k_is);(case z12=>k_is);(case z13=>k_is);(case z14=>k_is);(case z15=>k_is);(case z16=>k_is);(case z17=>k_is)
  (case m1=>k_is);(case m2=>k_is);(case m3=>k_is);(case m4=>k_is);(case m5=>k_is)
#print axioms PySem.Challenge.cw_growurns_k43_whole_orders_holds
