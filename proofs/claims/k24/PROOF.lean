import PyProof.Rows.All
import Wide.All
import OpenK.AllK
import Wide.FinOn
import Lean
import PyProof.EqAt
import PyProof.EqKinds
import PyProof.TupleCall
import KE.KIsAll
import KE.KLam
import KE.KTryDeep
import PyProof.ExcAttrAll.ValueError
import KE.KSortTup
import KE.KItemsList
import PyProof.Rows.SortRuns
import KE.KDictList
import PySem.Challenge.RW_growurns_k24_whole_stands
set_option Elab.async false
set_option linter.all false
set_option maxRecDepth 100000
namespace L2
open PySem PySem.Spec PyProof.Rows
noncomputable abbrev Key:=Sum Int Str
noncomputable def keyIs:Key->Value->Bool
 | .inl k,v=>Value.isInt k v
 | .inr x,v=>Value.isStrOf x v
noncomputable def keyH (w:World):Key->Int
 | .inl k=>hashInt k
 | .inr x=>hashStr w x
theorem keyIs_shape:∀{k:Key}{v:Value},keyIs k v=true->(∃i t,k=Sum.inl i/\v=Value.int i t) ∨ (∃x t,k=Sum.inr x/\v=Value.str x t)
 | .inl i,v,h=>by
  obtain ⟨t,e⟩:=Value.isInt_shape (k:=i) (v:=v) h
  exact .inl ⟨i,t,rfl,e⟩
 | .inr x,v,h=>by
  obtain ⟨t,e⟩:=Value.isStrOf_shape (x:=x) (v:=v) h
  exact .inr ⟨x,t,rfl,e⟩
theorem keyIs_int (i:Int) (t:Tok):keyIs (.inl i) (.int i t)=true:=by simp[keyIs,Value.isInt]
theorem keyIs_str (x:Str) (t:Tok):keyIs (.inr x) (.str x t)=true:=by simp[keyIs,Value.isStrOf]
theorem key_ll (a b:Int):decide ((Sum.inl a:Key)=Sum.inl b)=(a == b):=by
 by_cases e:a=b
 ·subst e;simp
 ·have h:¬ (Sum.inl a:Key)=Sum.inl b:=fun q=>e (Sum.inl.inj q)
  rw[decide_eq_false h]
  exact (beq_eq_false_iff_ne.mpr e).symm
theorem key_rr (a b:Str):decide ((Sum.inr a:Key)=Sum.inr b)=decide (a=b):=by
 by_cases e:a=b
 ·subst e;simp
 ·have h:¬ (Sum.inr a:Key)=Sum.inr b:=fun q=>e (Sum.inr.inj q)
  rw[decide_eq_false h,decide_eq_false e]
theorem key_lr (a:Int) (b:Str):decide ((Sum.inl a:Key)=Sum.inr b)=false:=decide_eq_false (fun q=>nomatch q)
theorem key_rl (a:Str) (b:Int):decide ((Sum.inr a:Key)=Sum.inl b)=false:=decide_eq_false (fun q=>nomatch q)
noncomputable def mixKind (prog:Program) (w:World):PySem.KeyKind prog w Key where
 is:=keyIs
 hash:=keyH w
 inj:=fun v a b ha hb=>by
  rcases keyIs_shape ha with ⟨i,t,rfl,rfl⟩|⟨x,t,rfl,rfl⟩
  ·rcases keyIs_shape hb with ⟨j,u,rfl,e⟩|⟨y,u,rfl,e⟩
   ·injection e with e1 _;rw[e1]
   ·exact nomatch e
  ·rcases keyIs_shape hb with ⟨j,u,rfl,e⟩|⟨y,u,rfl,e⟩
   ·exact nomatch e
   ·injection e with e1 _;rw[e1]
 byValue:=fun k v h=>by
  rcases keyIs_shape h with ⟨i,t,rfl,rfl⟩|⟨x,t,rfl,rfl⟩ <;> rfl
 pyHash:=fun hv h=>by
  rcases keyIs_shape hv with ⟨i,t,rfl,rfl⟩|⟨x,t,rfl,rfl⟩
  ·exact wpAny_pyHash_int h
  ·exact wpAny_pyHash_str h
 eqBool:=fun hu hv h=>by
  rcases keyIs_shape hu with ⟨i,t,rfl,rfl⟩|⟨x,t,rfl,rfl⟩
  ·rcases keyIs_shape hv with ⟨j,u,rfl,rfl⟩|⟨y,u,rfl,rfl⟩
   ·rw[key_ll] at h;exact wpAny_eqBool_int h
   ·rw[key_lr] at h;exact SeqAt.EqAt.int_str i t y u _ _ _ _ h
  ·rcases keyIs_shape hv with ⟨j,u,rfl,rfl⟩|⟨y,u,rfl,rfl⟩
   ·rw[key_rl] at h;exact SeqAt.EqAt.str_int x t j u _ _ _ _ h
   ·rw[key_rr] at h;exact wpAny_eqBool_str h
 «strs»:=fun k x t v h=>by
  rcases keyIs_shape h with ⟨i,u,rfl,e⟩|⟨y,u,rfl,e⟩
  ·exact nomatch e
  ·injection e with e1 _
   subst e1
   cases v <;> rfl
theorem mixKind_int (prog:Program) (w:World) (i:Int) (t:Tok):(mixKind prog w).is (.inl i) (.int i t)=true:=keyIs_int i t
theorem mixKind_str (prog:Program) (w:World) (x:Str) (t:Tok):(mixKind prog w).is (.inr x) (.str x t)=true:=keyIs_str x t
end L2
namespace L2
open PySem PySem.Spec PyProof.Rows
inductive V where
 | non|bl (b:Bool)|int (i:Int)|str (x:Str)|byt (b:Array UInt8)|flt (b:UInt64)|ref (a:Addr)|ty (n:String)
 deriving DecidableEq
noncomputable def RelV:V->Value->Prop
 | .non,u=>u=Value.none
 | .bl b,u=>u=Value.bool b
 | .int i,u=>∃t,u=Value.int i t
 | .str x,u=>∃t,u=Value.str x t
 | .byt b,u=>∃t,u=Value.bytes b t
 | .flt b,u=>∃t,u=Value.float b t
 | .ref a,u=>u=Value.ref a
 | .ty n,u=>u=Value.type n
noncomputable abbrev Vals:List V->List Value->Prop:=Paired RelV
theorem Vals.length {xs:List V}{us:List Value} (r:Vals xs us):xs.length=us.length:=Paired.length r
theorem Vals.get:∀{xs:List V}{us:List Value}{i:Nat}{x:V},Vals xs us->xs[i]?=some x->∃u,us[i]?=some u/\RelV x u
 | _,_,_,_,.nil,e=>by simp at e
 | _,_,0,_,.cons r _,e=>by simp at e;subst e;exact ⟨_,rfl,r⟩
 | _,_,i+1,x,.cons _ t,e=>by
  obtain ⟨u,h1,h2⟩:=Vals.get (i:=i) (x:=x) t (by simpa using e)
  exact ⟨u,by simpa using h1,h2⟩
theorem Vals.set {x:V}{u:Value} (r:RelV x u):∀{xs:List V}{us:List Value} (i:Nat),Vals xs us->Vals (xs.set i x) (us.set i u)
 | _,_,_,.nil=>.nil
 | _,_,0,.cons _ t=>.cons r t
 | _,_,i+1,.cons q t=>.cons q (Vals.set r i t)
theorem Vals.append:∀{xs ys:List V}{us ws:List Value},Vals xs us->Vals ys ws->Vals (xs++ys) (us++ws)
 | _,_,_,_,.nil,s=>s
 | _,_,_,_,.cons r t,s=>.cons r (Vals.append t s)
theorem Vals.take:∀{xs:List V}{us:List Value} (n:Nat),Vals xs us->Vals (xs.take n) (us.take n)
 | _,_,0,_=>.nil
 | _,_,_+1,.nil=>.nil
 | _,_,n+1,.cons r t=>.cons r (Vals.take n t)
theorem Vals.drop:∀{xs:List V}{us:List Value} (n:Nat),Vals xs us->Vals (xs.drop n) (us.drop n)
 | _,_,0,r=>r
 | _,_,_+1,.nil=>.nil
 | _,_,n+1,.cons _ t=>Vals.drop n t
noncomputable def RelO:Option V->Option Value->Prop
 | some v,some u=>RelV v u
 | none,none=>True
 | _,_=>False
noncomputable def KV {κ:Type}:List (κ × V)->List (κ × Value)->Prop:=Paired fun (p:κ × V) (q:κ × Value)=>p.1=q.1/\RelV p.2 q.2
noncomputable def kV:Key->V
 | .inl i=>.int i
 | .inr x=>.str x
inductive HO where
 | lst (xs:List V)
 | tup (xs:List V)
 | dK (kvs:List (Key × V))|dT (kvs:List (List Key × V))
 | set (S:Int->Bool) (n:Nat)
 | ins (C dx:Addr) (fs:List (Str × V))
 | own (x:Addr)
 | xd (fs:List (Str × V))
 | met (f x:Addr)
 | rng (lo hi:Int)
 | frz (o:Obj) (u:HO)
 | tbl (ps:Array Value)
 | ext (φ:Heap->Prop)
noncomputable abbrev Hp:=Addr->Option HO
noncomputable def upd (H:Hp) (a:Addr) (o:HO):Hp:=fun b=>if b=a then some o else H b
theorem upd_same {H:Hp}{a:Addr}{o:HO}:upd H a o a=some o:=by unfold upd;rw[if_pos rfl]
theorem upd_ne {H:Hp}{a b:Addr}{o:HO} (h:b≠a):upd H a o b=H b:=by unfold upd;rw[if_neg h]
theorem ne_of {H:Hp}{a b:Addr}{o u:HO} (h:H a=some o) (h':H b=some u) (d:o≠u):a≠b:=by
 intro e;subst e;rw[h] at h';exact d (Option.some.inj h')
theorem ne_of_none {H:Hp}{a b:Addr}{o:HO} (h:H a=some o) (h':H b=none):a≠b:=by
 intro e;subst e;rw[h] at h';cases h'
section
variable (P:Program) (w:World)
noncomputable def ObjOk (H:Hp) (h:Heap) (a:Addr):HO->Prop
 | .lst xs=>xs.length<=sizeLine/\∃(its:List Value) (n:Nat),Vals xs its/\h.get? a=some { cls:=.type "list",data:=.seq its.toArray n }
 | .tup xs=>xs.length<=sizeLine/\∃its:List Value,Vals xs its/\IsTup h a its.toArray
 | .dK kvs=>kvs.length<=sizeLine/\(a == sysModules)=false/\∃vs,KV kvs vs/\h.DictOf (mixKind P w) a vs
 | .dT kvs=>kvs.length<=sizeLine/\(a == sysModules)=false/\∃xs:List (List Key × Addr × Value),
   Paired (fun (p:List Key × V) (q:List Key × Addr × Value)=>p.1=q.1/\H q.2.1=some (.tup (p.1.map kV))/\RelV p.2 q.2.2) kvs xs /\
   ∃o es ep,h.get? a=some o/\o.ExactDict/\o.data=.dict es ep/\es.toList=xs.map (entryOfKey (tupleKind (mixKind P w)))/\(xs.map (·.1)).Nodup
 | .set S n=>h.SetOf (intKind P w) a S n
 | .ins C dx fs=>H dx=some (.own a)/\fs.length<=1000/\dx≠a/\h.get? a=some (W.instObj C dx) /\
   ∃mA,h.Ns1 dx mA/\(∀f,RelO (fs.lookup f) (mA f))/\PySem.Within mA (fs.map (·.1))
 | .own _=>∃o,h.get? a=some o
 | .xd fs=>∃mA,h.Ns1 a mA/\∀f,RelO (fs.lookup f) (mA f)
 | .rng lo hi=>∃t u v,h.get? a=some { cls:=.type "range",data:=.fields #[.int lo t,.int hi u,.int 1 v] }
 | .frz o u=>h.get? a=some o/\ObjOk H h a u
 | .tbl ps=>h.get? a=some { cls:=.none,data:=.fields ps }
 | .met f x=>h.get? a=some (W.methodObj (.ref f) (.ref x))
 | .ext φ=>φ h/\(∃o,h.get? a=some o)/\∀h1 h2:Heap,φ h1->(∀o,h1.get? a=some o->h2.get? a=some o)->φ h2
noncomputable def HOk (H:Hp) (h:Heap):Prop:=∀a o,H a=some o->ObjOk P w H h a o
end
section
variable {P:Program}{w:World}{H H':Hp}{h h':Heap}{a:Addr}{o:HO}
theorem ObjOk.lt (x:ObjOk P w H h a o):a<h.objs.size:=by
 cases o with
 | lst xs=>obtain ⟨_,_,_,_,e⟩:=x;exact Heap.lt_size e
 | tup xs=>obtain ⟨_,_,_,p⟩:=x;exact p.lt
 | dK kvs=>obtain ⟨_,_,_,_,o,_,_,e,_⟩:=x;exact Heap.lt_size e
 | dT kvs=>obtain ⟨_,_,_,_,o,_,_,e,_⟩:=x;exact Heap.lt_size e
 | set S n=>obtain ⟨o,_,_,_,e,_⟩:=x;exact Heap.lt_size e
 | ins C dx fs=>obtain ⟨_,_,_,e,_⟩:=x;exact Heap.lt_size e
 | own y=>obtain ⟨_,e⟩:=x;exact Heap.lt_size e
 | xd fs=>obtain ⟨_,⟨_,_,_,e,_⟩,_⟩:=x;exact Heap.lt_size e
 | rng lo hi=>obtain ⟨_,_,_,e⟩:=x;exact Heap.lt_size e
 | frz ob u=>obtain ⟨e,_⟩:=x;exact Heap.lt_size e
 | tbl ps=>exact Heap.lt_size (show h.get? a=some _ from x)
 | met f y=>exact Heap.lt_size (show h.get? a=some _ from x)
 | ext φ=>obtain ⟨_,⟨_,e⟩,_⟩:=x;exact Heap.lt_size e
theorem Paired.mapP {α β:Type}{F G:α->β->Prop}:∀{l₁:List α}{l₂:List β},Paired F l₁ l₂->(∀a b,F a b->G a b)->Paired G l₁ l₂
 | _,_,.nil,_=>.nil
 | _,_,.cons r t,f=>.cons (f _ _ r) (Paired.mapP t f)
theorem ObjOk.stay (x:ObjOk P w H h a o) (k:∀b u,(b=a ∨ H b=some (.own a))->h.get? b=some u->h'.get? b=some u)
  (ho:∀b,H b=some (.own a)->H' b=some (.own a)) (ht:∀b xs,H b=some (.tup xs)->H' b=some (.tup xs)):ObjOk P w H' h' a o:=by
 induction o with
 | lst xs=>obtain ⟨z,its,n,r,e⟩:=x;exact ⟨z,its,n,r,k _ _ (.inl rfl) e⟩
 | tup xs=>obtain ⟨z,its,r,ob,e,c⟩:=x;exact ⟨z,its,r,ob,k _ _ (.inl rfl) e,c⟩
 | dK kvs=>obtain ⟨z,y,vs,r,ob,es,ep,e,c⟩:=x;exact ⟨z,y,vs,r,ob,es,ep,k _ _ (.inl rfl) e,c⟩
 | dT kvs =>
  obtain ⟨z,y,xs,r,ob,es,ep,e,c⟩:=x
  exact ⟨z,y,xs,Paired.mapP r fun p q z=>⟨z.1,ht _ _ z.2.1,z.2.2⟩,ob,es,ep,k _ _ (.inl rfl) e,c⟩
 | set S n=>obtain ⟨ob,es,ep,t,e,c⟩:=x;exact ⟨ob,es,ep,t,k _ _ (.inl rfl) e,c⟩
 | ins C dx fs =>
  obtain ⟨d,z,ne,e,mA,⟨od,es,ep,e2,c⟩,r⟩:=x
  exact ⟨ho _ d,z,ne,k _ _ (.inl rfl) e,mA,⟨od,es,ep,k _ _ (.inr d) e2,c⟩,r⟩
 | own y=>obtain ⟨ob,e⟩:=x;exact ⟨ob,k _ _ (.inl rfl) e⟩
 | xd fs=>obtain ⟨mA,⟨od,es,ep,e,c⟩,r⟩:=x;exact ⟨mA,⟨od,es,ep,k _ _ (.inl rfl) e,c⟩,r⟩
 | rng lo hi=>obtain ⟨t,u,v,e⟩:=x;exact ⟨t,u,v,k _ _ (.inl rfl) e⟩
 | frz ob u ih=>obtain ⟨e,q⟩:=x;exact ⟨k _ _ (.inl rfl) e,ih q⟩
 | tbl ps =>
  have e:h.get? a=some { cls:=.none,data:=.fields ps }:=x
  show h'.get? a=some { cls:=.none,data:=.fields ps }
  exact k a _ (.inl rfl) e
 | met f y =>
  have e:h.get? a=some (W.methodObj (.ref f) (.ref y)):=x
  show h'.get? a=some (W.methodObj (.ref f) (.ref y))
  exact k a _ (.inl rfl) e
 | ext φ=>obtain ⟨p,⟨o,e⟩,st⟩:=x;exact ⟨st _ _ p fun o q=>k _ _ (.inl rfl) q,⟨o,k _ _ (.inl rfl) e⟩,st⟩
theorem HOk.lt (x:HOk P w H h) (e:H a=some o):a<h.objs.size:=(x a o e).lt
theorem HOk.fresh (x:HOk P w H h) (e:h.objs.size<=a):H a=none:=by
 cases q:H a with
 | none=>rfl
 | some u=>exact absurd (Nat.lt_of_lt_of_le (x.lt q) e) (Nat.lt_irrefl _)
theorem HOk.kept (x:HOk P w H h) (k:∀b u,h.get? b=some u->h'.get? b=some u):HOk P w H h':=fun a o e =>
 (x a o e).stay (fun b u _ q=>k b u q) (fun _ q=>q) fun _ _ q=>q
theorem HOk.laid (x:HOk P w H h) (k:∀b u,h.get? b=some u->h'.get? b=some u) (hp:h.objs.size<=a) (new:ObjOk P w (upd H a o) h' a o):HOk P w (upd H a o) h':=fun b u e=>by
 have hn:=x.fresh hp
 by_cases hb:b=a
 ·subst hb;rw[upd_same] at e;cases e;exact new
 ·rw[upd_ne hb] at e
  exact (x b u e).stay (fun c v _ q=>k c v q) (fun c q=>by rw[upd_ne (ne_of_none q hn)];exact q) fun c xs q=>by rw[upd_ne (ne_of_none q hn)];exact q
end
noncomputable def Rd (H:Hp) (a:Addr) (u:HO):Prop:=H a=some u ∨ ∃o,H a=some (.frz o u)
theorem Rd.ok {P:Program}{w:World}{H:Hp}{h:Heap}{a:Addr}{u:HO} (r:Rd H a u) (x:HOk P w H h):ObjOk P w H h a u:=by
 rcases r with r|⟨o,r⟩
 ·exact x a u r
 ·obtain ⟨_,q⟩:=x a _ r
  exact q
noncomputable def Mut:Option HO->Prop
 | some (.lst _)=>True
 | some (.dK _)=>True
 | some (.dT _)=>True
 | some (.set _ _)=>True
 | some (.ins _ _ _)=>True
 | some (.ext _)=>True
 | _=>False
section
variable {P:Program}{w:World}{H:Hp}{h h':Heap}{x e:Addr}{o':HO}
theorem HOk.write (ok:HOk P w H h) (mu:Mut (H x)) (he:e=x ∨ H e=some (.own x)) (k:∀b u,b≠e->h.get? b=some u->h'.get? b=some u) (heo:∃u,h'.get? e=some u)
  (new:ObjOk P w (upd H x o') h' x o'):HOk P w (upd H x o') h':=fun b u q=>by
 have nown:∀c y,H c=some (.own y)->c≠x:=fun c y r z=>by subst z;rw[r] at mu;exact mu
 have ntup:∀c xs,H c=some (.tup xs)->c≠x:=fun c xs r z=>by subst z;rw[r] at mu;exact mu
 by_cases hb:b=x
 ·subst hb;rw[upd_same] at q;cases q;exact new
 ·rw[upd_ne hb] at q
  by_cases hbe:b=e
  ·have q':H b=some (.own x):=by
    rcases he with z|z
    ·exact absurd (hbe.trans z) hb
    ·rw[hbe];exact z
   rw[q] at q';cases q'
   obtain ⟨v,hv⟩:=heo
   exact ⟨v,by rw[hbe];exact hv⟩
  ·refine (ok b u q).stay (fun c v hc r=>k c v ?_ r) (fun c r=>by rw[upd_ne (nown c b r)];exact r) fun c xs r=>by rw[upd_ne (ntup c xs r)];exact r
   rcases hc with rfl|hc
   ·exact hbe
   ·rintro rfl
    rcases he with z|z
    ·exact nown c b hc z
    ·rw[hc] at z;cases z;exact hb rfl
end
structure Un (fs ex:List Addr) (H H':Hp) (h h':Heap):Prop where
 keep:∀b o,h.get? b=some o->H b=none->b ∉ fs->b ∉ ex->h'.get? b=some o
 slot:∀b o,h.get? b=some o->H b=none->b∈fs->b ∉ ex->∃sl,h'.get? b=some { o with slots:=sl }
 free:∀b o,h.get? b=some o->H b=none->b ∉ ex->H' b=none
 there:∀b o,h.get? b=some o->b ∉ ex->∃o',h'.get? b=some o'
 tups:∀b xs,H b=some (.tup xs)->H' b=some (.tup xs)
 frzs:∀b o u,H b=some (.frz o u)->H' b=some (.frz o u)
 tbls:∀b ps,H b=some (.tbl ps)->∃more,H' b=some (.tbl (ps++more))
section
variable {fs fs' ex ex':List Addr}{H H1 H2:Hp}{h h1 h2 h':Heap}{a x e:Addr}{o:HO}
theorem Un.any (u:Un fs ex H H1 h h1) {b:Addr}{ob:Obj} (q:h.get? b=some ob) (n:H b=none) (hx:b ∉ ex):∃sl,h1.get? b=some { ob with slots:=sl }:=by
 by_cases hb:b∈fs
 ·exact u.slot b ob q n hb hx
 ·exact ⟨ob.slots,u.keep b ob q n hb hx⟩
theorem Un.kept (k:∀b u,h.get? b=some u->h'.get? b=some u):Un fs ex H H h h' :=
 ⟨fun b ob q _ _ _=>k b ob q,fun b ob q _ _ _=>⟨ob.slots,k b ob q⟩,fun _ _ _ n _=>n,fun b ob q _=>⟨ob,k b ob q⟩,fun _ _ q=>q,fun _ _ _ q=>q,fun _ ps q=>⟨#[],by rw[q];simp⟩⟩
theorem Un.refl:Un fs ex H H h h:=Un.kept fun _ _ q=>q
theorem Un.laid (k:∀b u,h.get? b=some u->h'.get? b=some u) (hp:h.objs.size<=a) (hn:H a=none):Un fs ex H (upd H a o) h h' where
 keep:=fun b u q _ _ _=>k b u q
 slot:=fun b u q _ _ _=>⟨u.slots,k b u q⟩
 free:=fun b u q n _=>by rw[upd_ne (Nat.ne_of_lt (Nat.lt_of_lt_of_le (Heap.lt_size q) hp))];exact n
 there:=fun b u q _=>⟨u,k b u q⟩
 tups:=fun b xs q=>by rw[upd_ne (ne_of_none q hn)];exact q
 frzs:=fun b u xs q=>by rw[upd_ne (ne_of_none q hn)];exact q
 tbls:=fun b ps q=>⟨#[],by rw[upd_ne (ne_of_none q hn),q];simp⟩
theorem Un.write (mu:Mut (H x)) (he:e=x ∨ H e=some (.own x)) (k:∀b u,b≠e->h.get? b=some u->h'.get? b=some u) (heo:∃u,h'.get? e=some u):Un fs ex H (upd H x o) h h':=by
 have hx:∀b,H b=none->b≠x:=fun b n z=>by subst z;rw[n] at mu;exact mu
 have hb:∀b,H b=none->b≠e:=fun b n z=>by
  subst z
  rcases he with r|r
  ·exact hx b n r
  ·rw[n] at r;cases r
 have hm:∀b u,H b=some u->¬ Mut (some u)->b≠x:=fun b u q nm z=>by subst z;rw[q] at mu;exact nm mu
 refine ⟨fun b u q n _ _=>k b u (hb b n) q,fun b u q n _ _=>⟨u.slots,k b u (hb b n) q⟩,fun b u q n _=>by rw[upd_ne (hx b n)];exact n,fun b u q _=>?_,
  fun b xs q=>by rw[upd_ne (hm b _ q fun z=>z)];exact q,fun b u xs q=>by rw[upd_ne (hm b _ q fun z=>z)];exact q,fun b ps q=>⟨#[],by rw[upd_ne (hm b _ q fun z=>z),q];simp⟩⟩
 by_cases hbe:b=e
 ·subst hbe;exact heo
 ·exact ⟨u,k b u hbe q⟩
end
noncomputable def trk (h:Heap) (H:Hp):List Addr:=(List.range h.objs.size).filter fun a=>(H a).isSome
noncomputable def hidT (h:Heap) (H:Hp):Heap:=W.hideAll h (trk h H)
theorem hidT_size (h:Heap) (H:Hp):(hidT h H).objs.size=h.objs.size:=W.hideAll_size _ _
theorem hidT_get {h:Heap}{H:Hp}{b:Addr}{o:Obj} (e:h.get? b=some o) (n:H b=none):(hidT h H).get? b=some o :=
 W.hideAll_get _ e fun hm=>by
  have q:(H b).isSome=true:=(List.mem_filter.mp hm).2
  rw[n] at q;simp at q
theorem of_hidT {h:Heap}{H:Hp}{b:Addr}{o:Obj} (e:(hidT h H).get? b=some o):h.get? b=some o/\H b=none:=by
 have e':h.get? b=some o:=W.of_hideAll (trk h H) e
 refine ⟨e',?_⟩
 cases q:H b with
 | none=>rfl
 | some x =>
  have hm:b∈trk h H:=List.mem_filter.mpr ⟨List.mem_range.mpr (Heap.lt_size e'),by simp[q]⟩
  have z:(hidT h H).get? b=none:=W.hideAll_none (trk h H) hm
  rw[z] at e;cases e
noncomputable def allNews (g h:Heap) (L:Addr):List (Addr × Obj):=(List.range h.objs.size).filterMap fun a=>if a=L ∨ (g.get? a).isSome=true then none else (h.get? a).map fun o=>(a,o)
noncomputable def rest (g h:Heap) (L d:Addr):List (Addr × Obj):=(allNews g h L).filter fun p=>decide (p.1≠d)
end L2
namespace L2
open PySem PySem.Spec PyProof.Rows
structure Mod (K:W.Frag) (mg:Str->Option Value) (base:Heap):Prop where
 kin:K.In base
 glob:base.Ns mainGlobals mg
 blt:∃mb,base.Ns builtinsNs mb/\∀x:Str,x≠"__name__"->mb x=bootBuiltins x
 nolimit:base.NoLimit
structure Cx where
 prog:Program
 w:World
 K:W.Frag
 mg:Str->Option Value
 base:Heap
 A:Around
 N:List Str
 s₀:Shared
 H₀:Hp
 env:Env
 outer:List Env
 stack:List Env
 ex:List Addr
 fn:Str->Bool
 calm:Bool
 pn:List (Addr × Obj)
 xe:Value->Shared->Prop
noncomputable def frs (l:List Env):List Addr:=l.filterMap (·.frame)
noncomputable abbrev Cx.fs (X:Cx):List Addr:=frs X.outer
noncomputable def Vis (sc:Scope) (x:Str):Prop:=sc.names.lookup x=some .local ∨ sc.names.lookup x=some .cell ∨ sc.names.lookup x=some .free
noncomputable def Loc (sc:Scope) (x:Str):Prop:=sc.names.lookup x=some .local ∨ sc.names.lookup x=some .cell
noncomputable def Look (env:Env) (h:Heap) (m:Str->Option Value) (x:Str) (u:Value):Prop :=
 (env.kindOf x=some .local/\m x=some u) ∨ ((env.kindOf x=some .cell ∨ env.kindOf x=some .free)/\∃c,env.cells.lookup x=some c/\h.IsCell c (some u))
structure Cx.Ok (X:Cx):Prop where
 mod:Mod X.K X.mg X.base
 kind:X.env.scope.kind=.function
 glob:X.env.globals=mainGlobals
 blt:X.env.builtins=builtinsNs
 above:X.s₀.heap.objs.size<=X.env.locals
 inj:∀x y c,X.env.cells.lookup x=some c->X.env.cells.lookup y=some c->x=y
 has:∀x,(X.env.kindOf x=some .cell ∨ X.env.kindOf x=some .free)->∃c,X.env.cells.lookup x=some c
 cab:∀x c,X.fn x=true->X.env.cells.lookup x=some c->X.s₀.heap.objs.size<=c
 hd:X.calm=true->X.A.handled=none
 frames:X.A.frames=some X.stack
 stk:X.stack=X.outer ∨ (X.stack=X.env::X.outer/\X.env.frame=some X.env.locals)
 exf:∀b∈X.ex,b≠X.env.locals/\∀x c,X.env.cells.lookup x=some c->c≠b
 bs:∀b o,X.base.get? b=some o->X.s₀.heap.get? b=some o/\X.H₀ b=none
 bsz:X.base.objs.size<=X.s₀.heap.objs.size
 noex:∀b o,X.base.get? b=some o->b ∉ X.ex
 exfs:∀b∈X.ex,b ∉ X.fs
 funs:X.s₀.heap.FunFrames X.base X.outer
 frf:∀b∈X.fs,X.H₀ b=none
structure Inv (X:Cx) (pins:List (Addr × Obj)) (σ:List (Option V)) (H:Hp) (s:Shared):Prop where
 ok:X.Ok
 os:s.os=X.s₀.os
 bare:AllBare s.gens
 base:Un X.fs X.ex X.H₀ H X.s₀.heap s.heap
 loc:∃m,s.heap.Ns X.env.locals m/\∀(i:Nat) (x:Str) (v:V),X.N[i]?=some x->σ[i]?=some (some v)->Vis X.env.scope x->∃u,RelV v u/\Look X.env s.heap m x u
 cell:∀x c,X.env.cells.lookup x=some c->∃v,s.heap.IsCell c v
 free:H X.env.locals=none
 freeC:∀x c,X.env.cells.lookup x=some c->H c=none
 pin:∀p∈X.pn++pins,s.heap.get? p.1=some p.2/\H p.1=none/\p.1≠X.env.locals/\p.1 ∉ X.fs/\∀v,p.2.data≠.cell v
 hok:HOk X.prog X.w H s.heap
 len:σ.length=X.N.length
section
variable {X:Cx}{pins:List (Addr × Obj)}{σ:List (Option V)}{H H':Hp}{s:Shared}{h':Heap}
theorem Cx.Ok.nofr (ok:X.Ok) {b:Addr}{o:Obj} (e:X.base.get? b=some o):b ∉ X.fs:=fun hb=>by
 have:=(ok.funs.mem hb).1
 rw[e] at this;cases this
theorem Inv.bs (I:Inv X pins σ H s):∀b o,X.base.get? b=some o->s.heap.get? b=some o/\H b=none:=fun b o e =>
 ⟨I.base.keep b o (I.ok.bs b o e).1 (I.ok.bs b o e).2 (I.ok.nofr e) (I.ok.noex b o e),I.base.free b o (I.ok.bs b o e).1 (I.ok.bs b o e).2 (I.ok.noex b o e)⟩
theorem Inv.bk (I:Inv X pins σ H s):∀b o,X.base.get? b=some o->s.heap.get? b=some o:=fun b o e=>(I.bs b o e).1
theorem Inv.mod (I:Inv X pins σ H s):Mod X.K X.mg X.base:=I.ok.mod
theorem Inv.kIn (I:Inv X pins σ H s):X.K.In s.heap:=I.ok.mod.kin.keeps I.bk
theorem Inv.lt (I:Inv X pins σ H s):X.env.locals<s.heap.objs.size:=let ⟨_,hn,_⟩:=I.loc;hn.lt
theorem Inv.sz (I:Inv X pins σ H s):X.s₀.heap.objs.size<=s.heap.objs.size:=Nat.le_trans I.ok.above (Nat.le_of_lt I.lt)
theorem Inv.nofs (I:Inv X pins σ H s) {a:Addr} (h:s.heap.objs.size<=a):a ∉ X.fs:=fun hb=>by
 obtain ⟨_,o,ho,_⟩:=I.ok.funs.mem hb
 exact absurd (Nat.lt_of_lt_of_le (Heap.lt_size ho) (Nat.le_trans I.sz h)) (Nat.lt_irrefl _)
theorem Inv.cne (I:Inv X pins σ H s):∀x c,X.env.cells.lookup x=some c->c≠X.env.locals:=fun x c e z=>by
 obtain ⟨v,o,ho,hd⟩:=I.cell x c e
 obtain ⟨m,⟨o',es,ep,ho',hd',_⟩,_⟩:=I.loc
 rw[z,ho'] at ho;cases ho;rw[hd'] at hd;cases hd
theorem Inv.funs (I:Inv X pins σ H s):s.heap.FunFrames X.base X.outer:=by
 have all:∀(l:List Env),(∀b∈frs l,b∈X.fs)->X.s₀.heap.FunFrames X.base l->s.heap.FunFrames X.base l:=by
  intro l
  induction l with
  | nil=>intro _ _;trivial
  | cons env r ih =>
   intro hs hl
   obtain ⟨hk,⟨L,o,hf,hn,ho,hd⟩,hr⟩:=hl
   have hL:L∈X.fs:=hs L (by unfold frs;rw[List.filterMap_cons,hf];exact List.mem_cons_self)
   obtain ⟨sl,e⟩:=I.base.slot L o ho (I.ok.frf L hL) hL fun z=>I.ok.exfs L z hL
   exact ⟨hk,⟨L,_,hf,hn,e,hd⟩,ih (fun b hb=>hs b (by unfold frs;rw[List.filterMap_cons,hf];exact List.mem_cons_of_mem _ hb)) hr⟩
 exact all X.outer (fun _ hb=>hb) I.ok.funs
theorem Inv.stack (I:Inv X pins σ H s):s.heap.FunFrames X.base X.stack:=by
 rcases I.ok.stk with e|⟨e,hf⟩
 ·rw[e];exact I.funs
 ·rw[e]
  obtain ⟨m,hn,_⟩:=I.loc
  refine .cons (by rw[I.ok.kind];decide) hf hn ?_ I.funs
  exact Heap.get?_none_of_le (Nat.le_trans I.ok.bsz I.ok.above)
theorem Inv.stkSub (I:Inv X pins σ H s):∀b∈frs X.stack,b∈X.env.locals::X.fs:=fun b hb=>by
 rcases I.ok.stk with e|⟨e,hf⟩
 ·rw[e] at hb;exact List.mem_cons_of_mem _ hb
 ·rw[e] at hb
  unfold frs at hb
  rw[List.filterMap_cons,hf] at hb
  exact hb
theorem Inv.stkFree (I:Inv X pins σ H s):∀b∈frs X.stack,H b=none:=fun b hb=>by
 rcases List.mem_cons.mp (I.stkSub b hb) with e|hb
 ·rw[e];exact I.free
 ·obtain ⟨_,o,ho,_⟩:=I.ok.funs.mem hb
  exact I.base.free b o ho (I.ok.frf b hb) fun z=>I.ok.exfs b z hb
theorem Inv.step {g':Array GenState}{t':Nat}{d':Drawn}{ch:List Addr} (I:Inv X pins σ H s)
  (hch:∀b∈ch,(b∈X.ex ∨ X.s₀.heap.objs.size<=b)/\b≠X.env.locals/\(∀x c,X.env.cells.lookup x=some c->c≠b)/\∀p∈X.pn++pins,p.1≠b)
  (keep:∀b o,b≠X.env.locals->b ∉ X.fs->b ∉ ch->s.heap.get? b=some o->H b=none->h'.get? b=some o)
  (slot:∀b o,b≠X.env.locals->b∈X.fs->b ∉ ch->s.heap.get? b=some o->H b=none->∃sl,h'.get? b=some { o with slots:=sl }) (free:∀b o,b ∉ ch->s.heap.get? b=some o->H b=none->H' b=none)
  (there:∀b o,b ∉ ch->s.heap.get? b=some o->∃o',h'.get? b=some o')
  (tups:∀b xs,H b=some (.tup xs)->H' b=some (.tup xs)) (frzs:∀b o u,H b=some (.frz o u)->H' b=some (.frz o u)) (tbls:∀b ps,H b=some (.tbl ps)->∃more,H' b=some (.tbl (ps++more)))
  (ns:∀m,s.heap.Ns X.env.locals m->h'.Ns X.env.locals m) (hok:HOk X.prog X.w H' h') (hg:AllBare g'):
  Inv X pins σ H' { s with heap:=h',gens:=g',drawn:=d',toks:=t' }:=by
 have neL:∀b o,X.s₀.heap.get? b=some o->b≠X.env.locals:=fun b o e=>Nat.ne_of_lt (Nat.lt_of_lt_of_le (Heap.lt_size e) I.ok.above)
 have neC:∀b o,X.s₀.heap.get? b=some o->b ∉ X.ex->b ∉ ch:=fun b o e hx hb=>by
  rcases (hch b hb).1 with z|z
  ·exact hx z
  ·exact absurd (Nat.lt_of_lt_of_le (Heap.lt_size e) z) (Nat.lt_irrefl _)
 have cellK:∀x c,X.env.cells.lookup x=some c->∀v,s.heap.IsCell c v->h'.IsCell c v:=fun x c e v ⟨o,ho,hd⟩=>by
  have nch:c ∉ ch:=fun z=>(hch c z).2.2.1 x c e rfl
  by_cases hc:c∈X.fs
  ·obtain ⟨sl,q⟩:=slot c o (I.cne x c e) hc nch ho (I.freeC x c e)
   exact ⟨_,q,hd⟩
  ·exact ⟨o,keep c o (I.cne x c e) hc nch ho (I.freeC x c e),hd⟩
 refine ⟨I.ok,I.os,hg,⟨fun b o e n hb hx=>?_,fun b o e n hb hx=>?_,fun b o e n hx=>?_,fun b o e hx=>?_,fun b xs e=>tups b xs (I.base.tups b xs e),fun b o xs e=>frzs b o xs (I.base.frzs b o xs e),fun b ps e=>?_⟩,?_,fun x c e=>?_,?_,fun x c e=>?_,fun p hp=>?_,hok,I.len⟩
 ·exact keep b o (neL b o e) hb (neC b o e hx) (I.base.keep b o e n hb hx) (I.base.free b o e n hx)
 ·obtain ⟨sl,e1⟩:=I.base.slot b o e n hb hx
  obtain ⟨sl',e2⟩:=slot b _ (neL b o e) hb (neC b o e hx) e1 (I.base.free b o e n hx)
  exact ⟨sl',e2⟩
 ·obtain ⟨o',e1⟩:=I.base.there b o e hx
  exact free b o' (neC b o e hx) e1 (I.base.free b o e n hx)
 ·obtain ⟨o',e1⟩:=I.base.there b o e hx
  exact there b o' (neC b o e hx) e1
 ·obtain ⟨m1,e1⟩:=I.base.tbls b ps e
  obtain ⟨m2,e2⟩:=tbls b _ e1
  exact ⟨m1++m2,by rw[e2,Array.append_assoc]⟩
 ·obtain ⟨m,hn,hl⟩:=I.loc
  refine ⟨m,ns m hn,fun i x v e1 e2 e3=>?_⟩
  obtain ⟨u,r,l⟩:=hl i x v e1 e2 e3
  refine ⟨u,r,?_⟩
  rcases l with l|⟨k,c,e,z⟩
  ·exact .inl l
  ·exact .inr ⟨k,c,e,cellK x c e _ z⟩
 ·obtain ⟨v,z⟩:=I.cell x c e
  exact ⟨v,cellK x c e v z⟩
 ·obtain ⟨m,⟨o,_,_,ho,_⟩,_⟩:=I.loc
  exact free _ o (fun z=>(hch _ z).2.1 rfl) ho I.free
 ·obtain ⟨v,o,ho,hd⟩:=I.cell x c e
  exact free c o (fun z=>(hch c z).2.2.1 x c e rfl) ho (I.freeC x c e)
 ·obtain ⟨e,n,ne,nf,d⟩:=I.pin p hp
  have nch:p.1 ∉ ch:=fun z=>(hch p.1 z).2.2.2 p hp rfl
  exact ⟨keep p.1 p.2 ne nf nch e n,free p.1 p.2 nch e n,ne,nf,d⟩
theorem Inv.un {t':Nat} (I:Inv X pins σ H s) (u:Un X.fs [] H H' s.heap h') (hok:HOk X.prog X.w H' h'):Inv X pins σ H' { s with heap:=h',toks:=t' }:=by
 obtain ⟨m,⟨o,es,ep,ho,r⟩,_⟩:=id I.loc
 obtain ⟨sl,hL⟩:=u.any ho I.free (by simp)
 exact I.step (g':=s.gens) (d':=s.drawn) (ch:=[]) (fun _ z=>nomatch z) (fun b o _ hb _ e n=>u.keep b o e n hb (by simp)) (fun b o _ hb _ e n=>u.slot b o e n hb (by simp)) (fun b o _ e n=>u.free b o e n (by simp)) (fun b o _ e=>u.there b o e (by simp)) u.tups u.frzs u.tbls (fun m' hm=>by
  obtain ⟨o',es',ep',ho',r'⟩:=hm
  rw[ho] at ho';cases ho'
  exact ⟨_,es',ep',hL,r'⟩) hok I.bare
theorem Inv.call {g':Array GenState}{t':Nat}{d':Drawn}{ch:List Addr} (I:Inv X pins σ H s) (u:Un (frs X.stack) ch H H' s.heap h') (hok:HOk X.prog X.w H' h') (hg:AllBare g')
  (hch:∀b∈ch,(b∈X.ex ∨ X.s₀.heap.objs.size<=b)/\b≠X.env.locals/\(∀x c,X.env.cells.lookup x=some c->c≠b)/\∀p∈X.pn++pins,p.1≠b):
  Inv X pins σ H' { s with heap:=h',gens:=g',drawn:=d',toks:=t' }:=by
 obtain ⟨m,⟨o,es,ep,ho,r⟩,_⟩:=id I.loc
 obtain ⟨sl,hL⟩:=u.any ho I.free fun z=>(hch _ z).2.1 rfl
 exact I.step (ch:=ch) hch (fun b o hL hb hc e n=>u.keep b o e n (fun z=>(List.mem_cons.mp (I.stkSub b z)).elim hL hb) hc) (fun b o _ _ hc e n=>u.any e n hc) (fun b o hc e n=>u.free b o e n hc) (fun b o hc e=>u.there b o e hc) u.tups u.frzs u.tbls (fun m' hm=>by
  obtain ⟨o',es',ep',ho',r'⟩:=hm
  rw[ho] at ho';cases ho'
  exact ⟨_,es',ep',hL,r'⟩) hok hg
theorem Inv.turned {t':Nat}{it:Addr} (I:Inv X pins σ H s) (k:∀b o,b≠it->s.heap.get? b=some o->h'.get? b=some o) (hn:H it=none) (hL:it≠X.env.locals)
  (h1:it∈X.ex ∨ X.s₀.heap.objs.size<=it) (h2:∀x c,X.env.cells.lookup x=some c->c≠it) (h3:∀p∈X.pn++pins,p.1≠it):Inv X pins σ H { s with heap:=h',toks:=t' }:=by
 have nit:∀b u,H b=some u->b≠it:=fun b u e z=>by rw[z,hn] at e;cases e
 refine I.step (g':=s.gens) (d':=s.drawn) (ch:=[it]) (fun b hb=>?_) (fun b o _ _ hc e _=>k b o (fun z=>hc (by simp[z])) e) (fun b o _ _ hc e _=>⟨o.slots,k b o (fun z=>hc (by simp[z])) e⟩) (fun _ _ _ _ n=>n)
  (fun b o hc e=>⟨o,k b o (fun z=>hc (by simp[z])) e⟩) (fun _ _ e=>e) (fun _ _ _ e=>e) (fun b ps e=>⟨#[],by rw[e];simp⟩) (fun m hm=>?_) (fun b u e=>?_) I.bare
 ·have e:b=it:=by simpa using hb
  subst e
  exact ⟨h1,hL,h2,h3⟩
 ·obtain ⟨o,es,ep,ho,r⟩:=hm
  exact ⟨o,es,ep,k _ o (Ne.symm hL) ho,r⟩
 ·refine (I.hok b u e).stay (fun c v hc q=>k c v ?_ q) (fun _ q=>q) fun _ _ q=>q
  rcases hc with z|z
  ·rw[z];exact nit b u e
  ·exact nit c _ z
theorem Inv.tok (I:Inv X pins σ H s) (t:Nat):Inv X pins σ H { s with toks:=t }:=I.un (h':=s.heap) (t':=t) Un.refl I.hok
theorem Inv.kept {t':Nat} (I:Inv X pins σ H s) (k:∀b u,s.heap.get? b=some u->h'.get? b=some u):Inv X pins σ H { s with heap:=h',toks:=t' }:=I.un (Un.kept k) (I.hok.kept k)
theorem Inv.laid {a:Addr}{o:HO}{t':Nat} (I:Inv X pins σ H s) (k:∀b u,s.heap.get? b=some u->h'.get? b=some u) (hp:s.heap.objs.size<=a) (new:ObjOk X.prog X.w (upd H a o) h' a o):
  Inv X pins σ (upd H a o) { s with heap:=h',toks:=t' }:=I.un (Un.laid k hp (I.hok.fresh hp)) (I.hok.laid k hp new)
theorem Inv.write {x e:Addr}{o:HO}{t':Nat} (I:Inv X pins σ H s) (mu:Mut (H x)) (he:e=x ∨ H e=some (.own x)) (k:∀b u,b≠e->s.heap.get? b=some u->h'.get? b=some u) (heo:∃u,h'.get? e=some u)
  (new:ObjOk X.prog X.w (upd H x o) h' x o):Inv X pins σ (upd H x o) { s with heap:=h',toks:=t' }:=I.un (Un.write mu he k heo) (I.hok.write mu he k heo new)
theorem Inv.weak {σ':List (Option V)} (I:Inv X pins σ H s) (hl:σ'.length=σ.length) (w:∀(i:Nat) v,σ'[i]?=some (some v)->σ[i]?=some (some v)):Inv X pins σ' H s :=
 ⟨I.ok,I.os,I.bare,I.base,let ⟨m,hn,hl'⟩:=I.loc;⟨m,hn,fun i x v e1 e2 e3=>hl' i x v e1 (w i v e2) e3⟩,I.cell,I.free,I.freeC,I.pin,I.hok,hl.trans I.len⟩
theorem Inv.pins_of {pins':List (Addr × Obj)} (I:Inv X pins σ H s) (h:∀p∈pins',s.heap.get? p.1=some p.2/\H p.1=none/\p.1≠X.env.locals/\p.1 ∉ X.fs/\∀v,p.2.data≠.cell v):Inv X pins' σ H s :=
 ⟨I.ok,I.os,I.bare,I.base,I.loc,I.cell,I.free,I.freeC,fun p hp=>(List.mem_append.mp hp).elim (fun z=>I.pin p (List.mem_append_left _ z)) (h p),I.hok,I.len⟩
theorem nodup_ix {N:List Str} (hN:N.Nodup) {i j:Nat}{x:Str} (a:N[i]?=some x) (b:N[j]?=some x):i=j:=by
 obtain ⟨h1,e1⟩:=List.getElem?_eq_some_iff.mp a
 obtain ⟨h2,e2⟩:=List.getElem?_eq_some_iff.mp b
 exact (List.getElem_inj hN).mp (e1.trans e2.symm)
theorem store_ok2 {M:Model}{A:Around}{E:Value->Shared->Prop}{i:Nat}{x:Str}{v:V}{u:Value}{Q:Unit->Shared->Prop} (I:Inv X pins σ H s) (hN:X.N.Nodup) (hi:X.N[i]?=some x) (hx:Loc X.env.scope x) (r:RelV v u)
  (h:∀s',Inv X pins (σ.set i (some v)) H s'->(∃a,Heap.SameBut a s.heap s'.heap/\(a=X.env.locals ∨ X.env.cells.lookup x=some a))->Q () s') (hf:X.fn x=true ∨ X.env.scope.names.lookup x=some .local:=by first|exact .inl rfl|exact .inr rfl|assumption):wpAny M A (storeName X.env x u) Q E s:=by
 obtain ⟨m,hn,hl⟩:=id I.loc
 have hcls:(X.env.scope.kind == .class || (X.env.scope.kind == .module&&X.env.locals != X.env.globals))=false:=by rw[I.ok.kind];rfl
 have hiσ:i<σ.length:=by rw[I.len];exact (List.getElem?_eq_some_iff.mp hi).1
 have cne:=I.cne
 have tracked:∀{a:Addr}{h':Heap},(∃o,s.heap.get? a=some o/\H a=none)->Heap.SameBut a s.heap h'->HOk X.prog X.w H h':=fun {a h'} ha hs b ob e=>by
  obtain ⟨_,_,hfree⟩:=ha
  refine (I.hok b ob e).stay (fun c w' hc q=>(hs.2 c ?_).trans q) (fun _ q=>q) fun _ _ q=>q
  rintro rfl
  rcases hc with rfl|hc
  ·rw[hfree] at e;cases e
  ·rw[hfree] at hc;cases hc
 rcases hx with hk|hk
 ·refine wpAny_storeName_local hk hn (fun h' hn' hs=>?_) hcls
  obtain ⟨oL,_,_,hoL,_⟩:=id hn
  refine h _ ⟨I.ok,I.os,I.bare,⟨fun b o e n hb hx=>?_,fun b o e n hb hx=>?_,I.base.free,fun b o e hx=>?_,I.base.tups,I.base.frzs,I.base.tbls⟩,⟨_,hn',fun j y v' e1 e2 e3=>?_⟩,fun y c e=>?_,I.free,I.freeC,fun p hp=>?_,tracked ⟨oL,hoL,I.free⟩ hs,by simpa using I.len⟩ ⟨_,hs,.inl rfl⟩
  ·exact (hs.2 b (Nat.ne_of_lt (Nat.lt_of_lt_of_le (Heap.lt_size e) I.ok.above))).trans (I.base.keep b o e n hb hx)
  ·obtain ⟨sl,e1⟩:=I.base.slot b o e n hb hx
   exact ⟨sl,(hs.2 b (Nat.ne_of_lt (Nat.lt_of_lt_of_le (Heap.lt_size e) I.ok.above))).trans e1⟩
  ·obtain ⟨o',e1⟩:=I.base.there b o e hx
   exact ⟨o',(hs.2 b (Nat.ne_of_lt (Nat.lt_of_lt_of_le (Heap.lt_size e) I.ok.above))).trans e1⟩
  ·by_cases hj:j=i
   ·subst hj
    rw[hi] at e1;cases e1
    rw[List.getElem?_set_self hiσ] at e2
    cases e2
    exact ⟨u,r,.inl ⟨hk,by simp⟩⟩
   ·rw[List.getElem?_set_ne (Ne.symm hj)] at e2
    obtain ⟨u',r',q⟩:=hl j y v' e1 e2 e3
    refine ⟨u',r',?_⟩
    rcases q with ⟨k,e⟩|⟨k,c,e,z⟩
    ·refine .inl ⟨k,?_⟩
     have:y≠x:=fun e=>hj (nodup_ix hN e1 (e ▸ hi))
     simp[this,e]
    ·exact .inr ⟨k,c,e,z.sameBut hs (cne y c e)⟩
  ·obtain ⟨w',z⟩:=I.cell y c e
   exact ⟨w',z.sameBut hs (cne y c e)⟩
  ·obtain ⟨e,n,ne,nf,d⟩:=I.pin p hp
   exact ⟨(hs.2 p.1 ne).trans e,n,ne,nf,d⟩
 ·have hfn:X.fn x=true:=by
   rcases hf with z|z
   ·exact z
   ·rw[z] at hk;cases hk
  obtain ⟨c,hc⟩:=I.ok.has x (.inl hk)
  obtain ⟨w',z⟩:=I.cell x c hc
  refine wpAny_storeName_cell I.ok.kind hk hc z (fun h' hc' hs=>?_)
  obtain ⟨oc,hoc,hocd⟩:=id z
  refine h { s with heap:=h' } ⟨I.ok,I.os,I.bare,⟨fun b o e n hb hx=>?_,fun b o e n hb hx=>?_,I.base.free,fun b o e hx=>?_,I.base.tups,I.base.frzs,I.base.tbls⟩,⟨m,hn.sameBut hs (Ne.symm (cne x c hc)),fun j y v' e1 e2 e3=>?_⟩,fun y c' e=>?_,I.free,I.freeC,fun p hp=>?_,tracked ⟨oc,hoc,I.freeC x c hc⟩ hs,by simpa using I.len⟩ ⟨c,hs,.inr hc⟩
  ·exact (hs.2 b (Nat.ne_of_lt (Nat.lt_of_lt_of_le (Heap.lt_size e) (I.ok.cab x c hfn hc)))).trans (I.base.keep b o e n hb hx)
  ·obtain ⟨sl,e1⟩:=I.base.slot b o e n hb hx
   exact ⟨sl,(hs.2 b (Nat.ne_of_lt (Nat.lt_of_lt_of_le (Heap.lt_size e) (I.ok.cab x c hfn hc)))).trans e1⟩
  ·obtain ⟨o',e1⟩:=I.base.there b o e hx
   exact ⟨o',(hs.2 b (Nat.ne_of_lt (Nat.lt_of_lt_of_le (Heap.lt_size e) (I.ok.cab x c hfn hc)))).trans e1⟩
  ·by_cases hj:j=i
   ·subst hj
    rw[hi] at e1;cases e1
    rw[List.getElem?_set_self hiσ] at e2
    cases e2
    exact ⟨u,r,.inr ⟨.inl hk,c,hc,hc'⟩⟩
   ·rw[List.getElem?_set_ne (Ne.symm hj)] at e2
    obtain ⟨u',r',q⟩:=hl j y v' e1 e2 e3
    refine ⟨u',r',?_⟩
    rcases q with q|⟨k,c',e,z'⟩
    ·exact .inl q
    ·refine .inr ⟨k,c',e,z'.sameBut hs ?_⟩
     rintro rfl
     exact hj (nodup_ix hN e1 (I.ok.inj _ _ _ e hc ▸ hi))
  ·by_cases hcc:c'=c
   ·subst hcc;exact ⟨_,hc'⟩
   ·obtain ⟨w2,z2⟩:=I.cell y c' e
    exact ⟨w2,z2.sameBut hs hcc⟩
  ·obtain ⟨e,n,ne,nf,d⟩:=I.pin p hp
   refine ⟨(hs.2 p.1 ?_).trans e,n,ne,nf,d⟩
   intro q
   rw[q,hoc] at e
   have q':oc=p.2:=Option.some.inj e
   exact d w' (by rw[<- q'];exact hocd)
theorem store_ok {M:Model}{A:Around}{E:Value->Shared->Prop}{i:Nat}{x:Str}{v:V}{u:Value}{Q:Unit->Shared->Prop} (I:Inv X pins σ H s) (hN:X.N.Nodup) (hi:X.N[i]?=some x) (hx:Loc X.env.scope x) (r:RelV v u)
  (h:∀s',Inv X pins (σ.set i (some v)) H s'->Q () s') (hf:X.fn x=true ∨ X.env.scope.names.lookup x=some .local:=by first|exact .inl rfl|exact .inr rfl|assumption):wpAny M A (storeName X.env x u) Q E s :=
 store_ok2 I hN hi hx r (fun s' I' _=>h s' I') hf
theorem Inv.call' {s':Shared}{ch:List Addr} (I:Inv X pins σ H s) (ho:s'.os=s.os) (u:Un (frs X.stack) ch H H' s.heap s'.heap) (hok:HOk X.prog X.w H' s'.heap) (hg:AllBare s'.gens)
  (hch:∀b∈ch,(b∈X.ex ∨ X.s₀.heap.objs.size<=b)/\b≠X.env.locals/\(∀x c,X.env.cells.lookup x=some c->c≠b)/\∀p∈X.pn++pins,p.1≠b):Inv X pins σ H' s':=by
 obtain ⟨h',g',d',t',o'⟩:=s'
 have e:o'=s.os:=ho
 subst e
 exact I.call (g':=g') (t':=t') (d':=d') u hok hg hch
end
noncomputable abbrev XK:=Value->Option Addr->Hp->Prop
noncomputable abbrev St:=List (Option V)
noncomputable abbrev VK:=V->Hp->Prop
noncomputable abbrev TE:=St->Hp->VK->Prop
noncomputable abbrev TT:=St->Hp->(Bool->Hp->Prop)->Prop
noncomputable abbrev TA:=St->Hp->(List V->Hp->Prop)->Prop
structure Ends where
 nx:St->Hp->Prop
 rt:VK
 bk:St->Hp->Prop:=fun _ _=>False
 ct:St->Hp->Prop:=fun _ _=>False
noncomputable abbrev TS:=Ends->St->Hp->Prop
noncomputable def EP (X:Cx) (pins:List (Addr × Obj)) (σ:St) (Q:VK) (u:Value) (s':Shared):Prop:=∃v H',Inv X pins σ H' s'/\RelV v u/\Q v H'
noncomputable def TP (X:Cx) (pins:List (Addr × Obj)) (σ:St) (Q:Bool->Hp->Prop) (b:Bool) (s':Shared):Prop:=∃H',Inv X pins σ H' s'/\Q b H'
noncomputable def AP (X:Cx) (pins:List (Addr × Obj)) (σ:St) (Q:List V->Hp->Prop) (us:List Value) (s':Shared):Prop:=∃vs H',Inv X pins σ H' s'/\Vals vs us/\Q vs H'
noncomputable def SP (X:Cx) (pins:List (Addr × Obj)) (D:Ends) (f:Flow) (s':Shared):Prop :=
 match f with
 | .next=>∃σ' H',Inv X pins σ' H' s'/\D.nx σ' H'
 | .brk=>∃σ' H',Inv X pins σ' H' s'/\D.bk σ' H'
 | .cont=>∃σ' H',Inv X pins σ' H' s'/\D.ct σ' H'
 | .ret u=>∃v σ' H',Inv X pins σ' H' s'/\RelV v u/\D.rt v H'
noncomputable def PE (X:Cx) (e:Expr) (t:TE):Prop :=
 ∀(pins:List (Addr × Obj)) (s:Shared) (σ:St) (H:Hp) (Q:VK),Inv X pins σ H s->t σ H Q->wpAny (model X.prog X.w) X.A (eval e X.env) (EP X pins σ Q) X.xe s
noncomputable def PT (X:Cx) (e:Expr) (t:TT):Prop :=
 ∀(pins:List (Addr × Obj)) (s:Shared) (σ:St) (H:Hp) (Q:Bool->Hp->Prop),Inv X pins σ H s->t σ H Q->wpAny (model X.prog X.w) X.A (isTrue e X.env (eval e X.env)) (TP X pins σ Q) X.xe s
noncomputable def PW (X:Cx) (e:Expr) (t:TT):Prop :=
 ∀(whole:Sem Value) (pins:List (Addr × Obj)) (s:Shared) (σ:St) (H:Hp) (Q:Bool->Hp->Prop),Inv X pins σ H s->t σ H Q->wpAny (model X.prog X.w) X.A (isTrue e X.env whole) (TP X pins σ Q) X.xe s
theorem PW.pt {X:Cx}{e:Expr}{t:TT} (h:PW X e t):PT X e t:=h _
noncomputable def PA (X:Cx) (es:List Expr) (t:TA):Prop :=
 ∀(pos:Pos) (pins:List (Addr × Obj)) (s:Shared) (σ:St) (H:Hp) (Q:List V->Hp->Prop),Inv X pins σ H s->t σ H Q->wpAny (model X.prog X.w) X.A (spliced (backTo pos (starEach es X.env))) (AP X pins σ Q) X.xe s
noncomputable def PS (X:Cx) (st:Stmt) (t:TS):Prop :=
 ∀(pins:List (Addr × Obj)) (s:Shared) (σ:St) (H:Hp) (D:Ends),Inv X pins σ H s->t D σ H->wpAny (model X.prog X.w) X.A (exec st X.env) (SP X pins D) X.xe s
noncomputable def PSs (X:Cx) (st:List Stmt) (t:TS):Prop :=
 ∀(pins:List (Addr × Obj)) (s:Shared) (σ:St) (H:Hp) (D:Ends),Inv X pins σ H s->t D σ H->wpAny (model X.prog X.w) X.A (execs st X.env) (SP X pins D) X.xe s
theorem thn {α:Type}{t:Sem α}{Q Q':α->Shared->Prop}{M:Model}{A:Around}{E:Value->Shared->Prop}{s:Shared} (h:wpAny M A t Q E s) (hQ:∀a s,Q a s->Q' a s):wpAny M A t Q' E s:=wpAny_mono h hQ fun _ _ x=>x
end L2
namespace L2
open PySem PySem.Spec PyProof.Rows
section
variable {X:Cx}
noncomputable def tVar (i:Nat):TE:=fun σ H Q=>∃v,σ[i]?=some (some v)/\Q v H
noncomputable def tC (v:V):TE:=fun _ H Q=>Q v H
theorem pe_var {i:Nat}{x:Str}{pos:Pos} (hN:X.N[i]?=some x) (hv:Vis X.env.scope x) (hd:(x == ("__debug__":Str))=false:=by decide) (hcd:(x == ("__classdict__":Str))=false:=by decide):PE X (.Name x pos) (tVar i):=by
 intro pins s σ H Q I h
 obtain ⟨v,e,h⟩:=h
 obtain ⟨m,hn,hl⟩:=I.loc
 obtain ⟨u,r,l⟩:=hl i x v hN e hv
 have fin:EP X pins σ Q u s:=⟨v,H,I,r,h⟩
 rcases l with ⟨hk,hm⟩|⟨hk,c,hc,hcell⟩
 ·exact wpAny_Name (wpAny_loadName_local I.ok.kind hk hn hm fin) hd
 ·rcases hk with hk|hk
  ·exact wpAny_Name (wpAny_loadName_cell I.ok.kind hk hc hcell fin) hd
  ·exact wpAny_Name (wpAny_loadName_free I.ok.kind hk hc hcell fin hcd) hd
theorem pe_int {i j pos}:PE X (.Constant (.int i) j pos) (tC (.int i)):=fun _ _ _ H _ I h=>wpAny_Constant_int ⟨.int i,H,I.tok _,⟨_,rfl⟩,h⟩
theorem pe_bl {b j pos}:PE X (.Constant (.bool b) j pos) (tC (.bl b)):=fun _ _ _ H _ I h=>Constant_bool ⟨.bl b,H,I,rfl,h⟩
theorem pe_non {j pos}:PE X (.Constant .none j pos) (tC .non):=fun _ _ _ H _ I h=>Constant_none ⟨.non,H,I,rfl,h⟩
theorem pe_str {x j pos}:PE X (.Constant (.str x) j pos) (tC (.str x)):=fun _ _ _ H _ I h=>Calls.Constant_str ⟨.str x,H,I.tok _,⟨_,rfl⟩,h⟩
noncomputable def Gl (X:Cx) (x:Str):Prop:=X.env.kindOf x=some .globalImplicit
theorem ld_glob {E:Value->Shared->Prop}{pins:List (Addr × Obj)}{s:Shared}{σ:St}{H:Hp}{x:Str}{u:Value}{pos:Pos}{Q:Value->Shared->Prop} (I:Inv X pins σ H s) (hg:Gl X x) (hm:X.mg x=some u) (h:Q u s)
  (hd:(x == ("__debug__":Str))=false:=by decide):wpAny (model X.prog X.w) X.A (eval (.Name x pos) X.env) Q E s :=
 Calls.Name_function_global I.ok.kind hg (Calls.loadGlobal_global (by rw[I.ok.glob];exact I.mod.glob.keeps I.bk) hm h) hd
theorem ld_blt {E:Value->Shared->Prop}{pins:List (Addr × Obj)}{s:Shared}{σ:St}{H:Hp}{x:Str}{u:Value}{pos:Pos}{Q:Value->Shared->Prop} (I:Inv X pins σ H s) (hg:Gl X x) (hm:X.mg x=none) (hv:bootBuiltins x=some u) (h:Q u s)
  (hn:x≠"__name__":=by decide) (hd:(x == ("__debug__":Str))=false:=by decide):wpAny (model X.prog X.w) X.A (eval (.Name x pos) X.env) Q E s:=by
 obtain ⟨mb,h1,h2⟩:=I.mod.blt
 exact Calls.Name_function_global I.ok.kind hg (Calls.loadGlobal_builtin (by rw[I.ok.glob];exact I.mod.glob.keeps I.bk) hm (by rw[I.ok.blt];exact h1.keeps I.bk) ((h2 x hn).trans hv) h) hd
theorem pe_glob {x:Str}{v:V}{u:Value}{pos:Pos} (hg:Gl X x) (hm:X.mg x=some u) (r:RelV v u) (hd:(x == ("__debug__":Str))=false:=by decide):PE X (.Name x pos) (tC v):=
 fun _ _ _ H _ I h=>ld_glob I hg hm ⟨v,H,I,r,h⟩ hd
theorem pe_bltn {x:Str}{v:V}{u:Value}{pos:Pos} (hg:Gl X x) (hm:X.mg x=none) (hv:bootBuiltins x=some u) (r:RelV v u) (hn:x≠"__name__":=by decide) (hd:(x == ("__debug__":Str))=false:=by decide):PE X (.Name x pos) (tC v):=
 fun _ _ _ H _ I h=>ld_blt I hg hm hv ⟨v,H,I,r,h⟩ hn hd
variable {a b:Expr}{ta tb:TE}{pos:Pos}
noncomputable def PC (X:Cx) (op:CmpOp) (a b:Expr) (t:TE):Prop :=
 ∀(pins:List (Addr × Obj)) (s:Shared) (σ:St) (H:Hp) (Q:VK),Inv X pins σ H s->t σ H Q ->
  wpAny (model X.prog X.w) X.A (eval a X.env) (fun v s₁=>wpAny (model X.prog X.w) X.A (eval b X.env) (fun u s₂=>wpAny (model X.prog X.w) X.A (compareOp op v u) (EP X pins σ Q) X.xe s₂) X.xe s₁) X.xe s
theorem nobehind (b:Expr) {op:CmpOp} (h:op≠.In) (h2:op≠.NotIn):behindInMarks op b=false:=by
 have e1:(op == CmpOp.In)=false:=by cases op <;> first|rfl|exact absurd rfl h
 have e2:(op == CmpOp.NotIn)=false:=by cases op <;> first|rfl|exact absurd rfl h2
 cases b <;> simp[behindInMarks,e1,e2]
noncomputable def tIsN (ta:TE):TE:=fun σ H Q=>ta σ H fun x H1=>Q (.bl (decide (x=.non))) H1
noncomputable def tNotN (ta:TE):TE:=fun σ H Q=>ta σ H fun x H1=>Q (.bl (!decide (x=.non))) H1
theorem RelV.none_iff {x:V}{v:Value} (r:RelV x v):(v == Value.none)=decide (x=.non):=by
 cases x with
 | non=>cases r;rfl
 | bl _=>cases r;rfl
 | int _=>obtain ⟨t,rfl⟩:=r;rfl
 | str _=>obtain ⟨t,rfl⟩:=r;rfl
 | byt _=>obtain ⟨t,rfl⟩:=r;rfl
 | flt _=>obtain ⟨t,rfl⟩:=r;rfl
 | ref _=>cases r;rfl
 | ty _=>cases r;rfl
theorem pc_isN {j pos'} (ha:PE X a ta):PC X .Is a (.Constant .none j pos') (tIsN ta):=by
 intro pins s σ H Q I h
 refine thn (ha pins s σ H _ I h) fun v s1 ⟨x,H1,I1,r1,q1⟩=>?_
 exact Constant_none (is_none_gen ⟨.bl _,H1,I1,by rw[r1.none_iff];rfl,q1⟩)
theorem pc_notN {j pos'} (ha:PE X a ta):PC X .IsNot a (.Constant .none j pos') (tNotN ta):=by
 intro pins s σ H Q I h
 refine thn (ha pins s σ H _ I h) fun v s1 ⟨x,H1,I1,r1,q1⟩=>?_
 exact Constant_none (isnot_none_gen ⟨.bl _,H1,I1,by rw[r1.none_iff];rfl,q1⟩)
noncomputable def tB (t:TE):TT:=fun σ H Q=>t σ H fun x H1=>∃c,x=.bl c/\Q c H1
theorem pe_cmp {op:CmpOp}{t:TE} (h:PC X op a b t) (h1:behindInMarks op b=false:=by first|exact nobehind _ (by decide) (by decide)|rfl):PE X (.Compare a [op] [b] pos) t:=fun pins s σ H Q I hw=>wpAny_Compare1 (h pins s σ H Q I hw) h1
theorem pt_cmp {op:CmpOp}{t:TE} (h:PC X op a b t) (h1:behindInMarks op b=false:=by first|exact nobehind _ (by decide) (by decide)|rfl):PT X (.Compare a [op] [b] pos) (tB t):=by
 intro pins s σ H Q I hw
 refine wpAny_isTrue_Compare1 (thn (h pins s σ H _ I hw) fun v s1 h1=>thn h1 fun u s2 h2=>thn h2 fun c s3 ⟨x,H1,I1,r1,q1⟩=>?_) h1
 obtain ⟨d,rfl,q⟩:=q1
 cases r1
 exact wpAny_truthy_bool ⟨H1,I1,q⟩
theorem pt_val {e:Expr}{t:TE} (h:PE X e t) (he:∀whole,isTrue e X.env whole=(do let v <- whole;standAt e.pos;holding [v] (truthy v)):=by intro _;rfl):PT X e (tB t):=by
 intro pins s σ H Q I hw
 refine isTrue_plain (thn (h pins s σ H _ I hw) fun v s1 ⟨x,H1,I1,r1,q1⟩=>?_) (he _)
 obtain ⟨d,rfl,q⟩:=q1
 cases r1
 exact wpAny_truthy_bool ⟨H1,I1,q⟩
variable {tA tB':TT}{rest:List Expr}
noncomputable def tAnd (t u:TT):TT:=fun σ H Q=>t σ H fun c H1=>if c=true then u σ H1 Q else Q false H1
noncomputable def tOr (t u:TT):TT:=fun σ H Q=>t σ H fun c H1=>if c=true then Q true H1 else u σ H1 Q
noncomputable def tNot (t:TT):TT:=fun σ H Q=>t σ H fun c H1=>Q (!c) H1
theorem pw_and1 (ha:PT X a tA):PW X (.BoolOp .And [a] pos) tA:=by
 intro wh pins s σ H Q I h
 refine isTrue_and (thn (ha pins s σ H Q I h) fun c s1 e=>?_)
 cases c with
 | true=>exact isTrue_and_nil e
 | false=>exact e
theorem pw_or1 (ha:PT X a tA):PW X (.BoolOp .Or [a] pos) tA:=by
 intro wh pins s σ H Q I h
 refine isTrue_or (thn (ha pins s σ H Q I h) fun c s1 e=>?_)
 cases c with
 | false=>exact isTrue_or_nil e
 | true=>exact e
theorem pw_and (ha:PT X a tA) (hb:PW X (.BoolOp .And (b::rest) pos) tB'):PW X (.BoolOp .And (a::b::rest) pos) (tAnd tA tB'):=by
 intro wh pins s σ H Q I h
 refine isTrue_and (thn (ha pins s σ H _ I h) fun c s1 ⟨H1,I1,q1⟩=>?_)
 cases c with
 | true=>exact hb wh pins s1 σ H1 Q I1 q1
 | false=>exact ⟨H1,I1,q1⟩
theorem pw_or (ha:PT X a tA) (hb:PW X (.BoolOp .Or (b::rest) pos) tB'):PW X (.BoolOp .Or (a::b::rest) pos) (tOr tA tB'):=by
 intro wh pins s σ H Q I h
 refine isTrue_or (thn (ha pins s σ H _ I h) fun c s1 ⟨H1,I1,q1⟩=>?_)
 cases c with
 | true=>exact ⟨H1,I1,q1⟩
 | false=>exact hb wh pins s1 σ H1 Q I1 q1
theorem pt_not (ha:PT X a tA):PT X (.UnaryOp .Not a pos) (tNot tA):=by
 intro pins s σ H Q I h
 exact isTrue_not (ha pins s σ H (fun c H1=>Q (!c) H1) I h)
noncomputable def tAndV (ta tb:TE):TE:=fun σ H Q=>ta σ H fun x H1=>∃c,x=.bl c/\if c=true then tb σ H1 Q else Q (.bl false) H1
noncomputable def tNotV (ta:TE):TE:=fun σ H Q=>ta σ H fun x H1=>∃c,x=.bl c/\Q (.bl (!c)) H1
theorem pe_one {op}{t:TE} (h:PE X a t):PE X (.BoolOp op [a] pos) t:=fun pins s σ H Q I hw=>BoolOp_one (h pins s σ H Q I hw)
theorem pe_and (ha:PE X a ta) (hb:PE X (.BoolOp .And (b::rest) pos) tb):PE X (.BoolOp .And (a::b::rest) pos) (tAndV ta tb):=by
 intro pins s σ H Q I h
 refine BoolOp_and (thn (ha pins s σ H _ I h) fun v s1 ⟨x,H1,I1,r1,q1⟩=>?_)
 obtain ⟨c,rfl,q1⟩:=q1
 cases r1
 refine wpAny_truthy_bool ?_
 cases c with
 | true=>exact hb pins s1 σ H1 Q I1 q1
 | false=>exact ⟨.bl false,H1,I1,rfl,q1⟩
theorem pe_not (ha:PE X a ta):PE X (.UnaryOp .Not a pos) (tNotV ta):=by
 intro pins s σ H Q I h
 refine UnaryOp_ (thn (ha pins s σ H _ I h) fun v s1 ⟨x,H1,I1,r1,q1⟩=>?_)
 obtain ⟨c,rfl,q1⟩:=q1
 cases r1
 exact not_of (wpAny_truthy_bool ⟨.bl (!c),H1,I1,rfl,q1⟩)
noncomputable def tIf (t:TT) (ta tb:TE):TE:=fun σ H Q=>t σ H fun c H1=>if c=true then ta σ H1 Q else tb σ H1 Q
theorem pe_ifExp {c:Expr} (hc:PT X c tA) (ha:PE X a ta) (hb:PE X b tb):PE X (.IfExp c a b pos) (tIf tA ta tb):=by
 intro pins s σ H Q I h
 refine wpAny_IfExp (thn (hc pins s σ H _ I h) fun d s1 ⟨H1,I1,q1⟩=>?_)
 cases d with
 | true=>exact ha pins s1 σ H1 Q I1 q1
 | false=>exact hb pins s1 σ H1 Q I1 q1
end
end L2
namespace L2
open PySem PySem.Spec PyProof.Rows
noncomputable def SqL (K:W.Frag) (H:Hp) (a:Addr) (xs:List V):Prop :=
 Rd H a (.lst xs) ∨
  ∃(o:Obj) (its:Array Value) (n:Nat),K.lookup a=some o/\o.cls=.type "list"/\o.dict=none/\o.data=.seq its n/\its.size<=sizeLine/\Vals xs its.toList
noncomputable def SqT (K:W.Frag) (H:Hp) (a:Addr) (xs:List V):Prop :=
 Rd H a (.tup xs) ∨
  ∃(o:Obj) (its:Array Value) (n:Nat),K.lookup a=some o/\o.cls=.type "tuple"/\o.data=.seq its n/\its.size<=sizeLine/\Vals xs its.toList
noncomputable def absV:Value->Option V
 | .none=>some .non
 | .bool b=>some (.bl b)
 | .int i _=>some (.int i)
 | .str x _=>some (.str x)
 | .bytes b _=>some (.byt b)
 | .float b _=>some (.flt b)
 | .ref a=>some (.ref a)
 | .type n=>some (.ty n)
 | _=>none
theorem RelV.abs {x:V}{u:Value} (r:RelV x u):absV u=some x:=by
 cases x with
 | non=>cases r;rfl
 | bl _=>cases r;rfl
 | int _=>obtain ⟨t,rfl⟩:=r;rfl
 | str _=>obtain ⟨t,rfl⟩:=r;rfl
 | byt _=>obtain ⟨t,rfl⟩:=r;rfl
 | flt _=>obtain ⟨t,rfl⟩:=r;rfl
 | ref _=>cases r;rfl
 | ty _=>cases r;rfl
theorem RelV.inj {x y:V}{u:Value} (r:RelV x u) (q:RelV y u):x=y:=Option.some.inj (r.abs.symm.trans q.abs)
theorem Vals.inj:∀{xs ys:List V}{us:List Value},Vals xs us->Vals ys us->xs=ys
 | _,_,_,.nil,.nil=>rfl
 | _,_,_,.cons r t,.cons r' t'=>by rw[r.inj r',Vals.inj t t']
section
variable {X:Cx}{pins:List (Addr × Obj)}{σ:St}{H:Hp}{s:Shared}{a:Addr}{xs ys:List V}
theorem SqL.of {K:W.Frag} (h:H a=some (.lst xs)):SqL K H a xs:=.inl (.inl h)
theorem SqT.of {K:W.Frag} (h:H a=some (.tup xs)):SqT K H a xs:=.inl (.inl h)
theorem Inv.list (I:Inv X pins σ H s) (h:SqL X.K H a xs):∃its:List Value,Vals xs its/\PlainL s.heap a its.toArray/\xs.length<=sizeLine:=by
 rcases h with h|⟨o,its,n,hk,hc,hd,hs,hz,r⟩
 ·obtain ⟨z,its,n,r,e⟩:=h.ok I.hok
  exact ⟨its,r,⟨_,n,e,rfl,rfl,rfl⟩,z⟩
 ·refine ⟨its.toList,r,⟨o,n,I.kIn a o hk,hc,hd,by simpa using hs⟩,?_⟩
  have e:=r.length
  simp only[Array.length_toList] at e
  omega
theorem Inv.tuple (I:Inv X pins σ H s) (h:SqT X.K H a xs):∃its:List Value,Vals xs its/\IsTup s.heap a its.toArray/\xs.length<=sizeLine:=by
 rcases h with h|⟨o,its,n,hk,hc,hs,hz,r⟩
 ·obtain ⟨z,its,r,p⟩:=h.ok I.hok
  exact ⟨its,r,p,z⟩
 ·refine ⟨its.toList,r,⟨o,I.kIn a o hk,hc,n,by simpa using hs⟩,?_⟩
  have e:=r.length
  simp only[Array.length_toList] at e
  omega
theorem Inv.list_inj (I:Inv X pins σ H s) (h:SqL X.K H a xs) (h':SqL X.K H a ys):xs=ys:=by
 obtain ⟨its,r,⟨o,n,e,_,_,d⟩,_⟩:=I.list h
 obtain ⟨its',r',⟨o',n',e',_,_,d'⟩,_⟩:=I.list h'
 rw[e] at e';cases e'
 rw[d] at d'
 injection d' with d1 _
 have:its=its':=by simpa using congrArg Array.toList d1
 subst this
 exact r.inj r'
theorem Inv.tuple_inj (I:Inv X pins σ H s) (h:SqT X.K H a xs) (h':SqT X.K H a ys):xs=ys:=by
 obtain ⟨its,r,⟨o,e,_,n,d⟩,_⟩:=I.tuple h
 obtain ⟨its',r',⟨o',e',_,n',d'⟩,_⟩:=I.tuple h'
 rw[e] at e';cases e'
 rw[d] at d'
 injection d' with d1 _
 have:its=its':=by simpa using congrArg Array.toList d1
 subst this
 exact r.inj r'
end
noncomputable abbrev Cx.wish (X:Cx) (E:Value->Shared->Prop):Cx:={ X with xe:=E }
noncomputable abbrev Cx.nox (X:Cx):Cx:=X.wish fun _ _=>False
theorem Cx.Ok.wish {X:Cx} (ok:X.Ok) (E:Value->Shared->Prop):(X.wish E).Ok :=
 ⟨ok.mod,ok.kind,ok.glob,ok.blt,ok.above,ok.inj,ok.has,ok.cab,ok.hd,ok.frames,ok.stk,ok.exf,ok.bs,ok.bsz,ok.noex,ok.exfs,ok.funs,ok.frf⟩
theorem Cx.Ok.unwish {X:Cx}{E:Value->Shared->Prop} (ok:(X.wish E).Ok):X.Ok :=
 ⟨ok.mod,ok.kind,ok.glob,ok.blt,ok.above,ok.inj,ok.has,ok.cab,ok.hd,ok.frames,ok.stk,ok.exf,ok.bs,ok.bsz,ok.noex,ok.exfs,ok.funs,ok.frf⟩
section
variable {X:Cx}{pins:List (Addr × Obj)}{σ:St}{H:Hp}{s:Shared}{E:Value->Shared->Prop}
theorem Inv.wish (I:Inv X pins σ H s) (E:Value->Shared->Prop):Inv (X.wish E) pins σ H s:=⟨I.ok.wish E,I.os,I.bare,I.base,I.loc,I.cell,I.free,I.freeC,I.pin,I.hok,I.len⟩
theorem Inv.unwish (I:Inv (X.wish E) pins σ H s):Inv X pins σ H s:=⟨I.ok.unwish,I.os,I.bare,I.base,I.loc,I.cell,I.free,I.freeC,I.pin,I.hok,I.len⟩
theorem SP.unwish {D:Ends}{f:Flow}{s':Shared} (h:SP (X.wish E) pins D f s'):SP X pins D f s':=by
 cases f with
 | next=>obtain ⟨σ',H',I,q⟩:=h;exact ⟨σ',H',I.unwish,q⟩
 | brk=>obtain ⟨σ',H',I,q⟩:=h;exact ⟨σ',H',I.unwish,q⟩
 | cont=>obtain ⟨σ',H',I,q⟩:=h;exact ⟨σ',H',I.unwish,q⟩
 | ret u=>obtain ⟨v,σ',H',I,r,q⟩:=h;exact ⟨v,σ',H',I.unwish,r,q⟩
theorem PSs.nox {st:List Stmt}{t:TS} (h:PSs X.nox st t):PSs X st t:=fun pins s σ H D I hw =>
 wpAny_mono (h pins s σ H D (I.wish _) hw) (fun _ _ q=>q.unwish) fun _ _ z=>False.elim z
end
section
variable {X:Cx}{st:Stmt}{rest:List Stmt}{t u:TS}{e:Expr}{te:TE}{pos:Pos}
noncomputable def tNext:TS:=fun D σ H=>D.nx σ H
noncomputable def tSeq (t u:TS):TS:=fun D σ H=>t { D with nx:=u D } σ H
theorem pss_nil:PSs X [] tNext:=fun _ _ σ H _ I h=>wpAny_execs_nil ⟨σ,H,I,h⟩
theorem pss_cons (h1:PS X st t) (h2:PSs X rest u):PSs X (st::rest) (tSeq t u):=by
 intro pins s σ H D I h
 refine wpAny_execs_cons (thn (h1 pins s σ H { D with nx:=u D } I h) fun f s1 q=>?_)
 cases f with
 | next =>
  obtain ⟨σ',H',I',q⟩:=q
  exact h2 pins s1 σ' H' D I' q
 | ret v=>exact q
 | brk=>exact q
 | cont=>exact q
theorem pss_one (h1:PS X st t):PSs X [st] t:=by
 intro pins s σ H D I h
 refine wpAny_execs_cons (thn (h1 pins s σ H D I h) fun f s1 q=>?_)
 cases f with
 | next=>exact wpAny_execs_nil q
 | ret v=>exact q
 | brk=>exact q
 | cont=>exact q
theorem Inv.quiet {pins:List (Addr × Obj)}{σ:St}{H:Hp}{s:Shared} (I:Inv X pins σ H s):interactive X.env=false:=by simp[interactive,I.ok.kind]
noncomputable def tDrop (te:TE):TS:=fun D σ H=>te σ H fun _ H1=>D.nx σ H1
theorem ps_expr (he:PE X e te) (hs:swapsWith e none pos.line X.env=pure false:=by rfl):PS X (.Expr e pos) (tDrop te):=by
 intro pins s σ H D I h
 exact wpAny_Expr_any (thn (he pins s σ H _ I h) fun v s1 ⟨x,H1,I1,r1,q1⟩=>⟨σ,H1,I1,q1⟩) I.quiet hs
noncomputable def tRet (te:TE):TS:=fun D σ H=>te σ H D.rt
theorem ps_ret (he:PE X e te):PS X (.Return (some e) pos) (tRet te):=by
 intro pins s σ H D I h
 exact wpAny_Return_some (thn (he pins s σ H _ I h) fun v s1 ⟨x,H1,I1,r1,q1⟩=>⟨x,σ,H1,I1,r1,q1⟩)
noncomputable def tIfS (c:TT) (t u:TS):TS:=fun D σ H=>c σ H fun b H1=>if b=true then t D σ H1 else u D σ H1
theorem ps_if {c:Expr}{a b:List Stmt}{tc:TT} (hc:PT X c tc) (ha:PSs X a t) (hb:PSs X b u):PS X (.If c a b pos) (tIfS tc t u):=by
 intro pins s σ H D I h
 refine wpAny_If (thn (hc pins s σ H _ I h) fun d s1 ⟨H1,I1,q1⟩=>?_)
 cases d with
 | true=>exact ha pins s1 σ H1 D I1 q1
 | false=>exact hb pins s1 σ H1 D I1 q1
end
noncomputable abbrev TG:=V->St->Hp->(St->Hp->Prop)->Prop
noncomputable abbrev TGs:=List V->St->Hp->(St->Hp->Prop)->Prop
noncomputable def PG (X:Cx) (target:Expr) (t:TG):Prop :=
 ∀(pins:List (Addr × Obj)) (s:Shared) (σ:St) (H:Hp) (v:V) (u:Value) (Q:St->Hp->Prop),Inv X pins σ H s->RelV v u->t v σ H Q ->
  wpAny (model X.prog X.w) X.A (assign target X.env u) (fun _ s'=>∃σ' H',Inv X pins σ' H' s'/\Q σ' H') X.xe s
noncomputable def PGs (X:Cx) (ts:List Expr) (t:TGs):Prop :=
 ∀(pins:List (Addr × Obj)) (s:Shared) (σ:St) (H:Hp) (vs:List V) (us:List Value) (Q:St->Hp->Prop),Inv X pins σ H s->Vals vs us->t vs σ H Q ->
  wpAny (model X.prog X.w) X.A (assignInOrder ((assignEach ts X.env).map (·.2)) us) (fun _ s'=>∃σ' H',Inv X pins σ' H' s'/\Q σ' H') X.xe s
noncomputable abbrev TSet:=V->V->V->Hp->(Hp->Prop)->Prop
noncomputable def PSet (X:Cx) (t:TSet):Prop :=
 ∀(pins:List (Addr × Obj)) (s:Shared) (σ:St) (H:Hp) (o i v:V) (ov iv u:Value) (Q:Hp->Prop),Inv X pins σ H s->RelV o ov->RelV i iv->RelV v u->t o i v H Q ->
  wpAny (model X.prog X.w) X.A (setItem ov iv u) (fun _ s'=>∃H',Inv X pins σ H' s'/\Q H') X.xe s
noncomputable abbrev TIp:=V->V->Hp->VK->Prop
noncomputable def PIp (X:Cx) (op:Operator) (t:TIp):Prop :=
 ∀(pins:List (Addr × Obj)) (s:Shared) (σ:St) (H:Hp) (x y:V) (v u:Value) (Q:VK),Inv X pins σ H s->RelV x v->RelV y u->t x y H Q ->
  wpAny (model X.prog X.w) X.A (inplaceOp op v u) (EP X pins σ Q) X.xe s
section
variable {X:Cx}{pos:Pos}
noncomputable def gName (i:Nat):TG:=fun v σ H Q=>Q (σ.set i (some v)) H
theorem pg_name {i:Nat}{x:Str} (hN:X.N.Nodup) (hi:X.N[i]?=some x) (hx:Loc X.env.scope x) (hf:X.fn x=true ∨ X.env.scope.names.lookup x=some .local:=by first|exact .inl rfl|exact .inr rfl|assumption):PG X (.Name x pos) (gName i):=by
 intro pins s σ H v u Q I r h
 exact wpAny_assign_Name (store_ok I hN hi hx r (fun s' I'=>⟨_,H,I',h⟩) hf)
noncomputable def gNil:TGs:=fun vs σ H Q=>vs=[]/\Q σ H
noncomputable def gCons (t:TG) (u:TGs):TGs:=fun vs σ H Q=>∃v r,vs=v::r/\t v σ H fun σ' H'=>u r σ' H' Q
theorem pgs_nil:PGs X [] gNil:=by
 intro pins s σ H vs us Q I r h
 obtain ⟨e,h⟩:=h
 subst e
 cases r
 exact assignInOrder_nil ⟨σ,H,I,h⟩
theorem pgs_cons {e:Expr}{es:List Expr}{t:TG}{u:TGs} (h1:PG X e t) (h2:PGs X es u)
  (hs:(assignEach (e::es) X.env).map (·.2)=assign e X.env::(assignEach es X.env).map (·.2):=by rfl):PGs X (e::es) (gCons t u):=by
 intro pins s σ H vs us Q I r h
 obtain ⟨v,vr,e1,h⟩:=h
 subst e1
 cases r with
 | cons r rr =>
  rw[hs]
  refine assignInOrder_cons (thn (h1 pins s σ H _ _ _ I r h) fun _ s1 ⟨σ1,H1,I1,q1⟩=>?_)
  exact h2 pins s1 σ1 H1 _ _ Q I1 rr q1
noncomputable def gTup (K:W.Frag) (n:Nat) (t:TGs):TG:=fun v σ H Q=>∃a xs,v=.ref a/\SqT K H a xs/\xs.length=n/\t xs σ H Q
theorem pg_tup {es:List Expr}{k:Nat}{t:TGs}{n:Nat} (hc:X.calm=true) (h:PGs X es t)
  (hn:(assignEach es X.env).length=n:=by rfl) (hst:(assignEach es X.env).findIdx? (·.1)=none:=by rfl):PG X (.Tuple es k pos) (gTup X.K n t):=by
 intro pins s σ H v u Q I r hw
 obtain ⟨a,xs,e1,hq,hl,hw⟩:=hw
 subst e1
 cases r
 obtain ⟨its,rv,ht,hz⟩:=I.tuple hq
 refine assign_Tuple_tuple (I.ok.hd hc) ht (by simp[hn,<- hl,rv.length]) hst fun h' hx=>?_
 have I1:Inv X pins σ H { s with heap:=h' }:=I.kept (t':=s.toks) fun b o e=>hx b o (Nat.ne_of_lt (Heap.lt_size e)) e
 exact h pins _ σ H xs _ Q I1 (by simpa using rv) hw
noncomputable def gSub (to ti:TE) (t:TSet):TG:=fun v σ H Q=>to σ H fun o H1=>ti σ H1 fun i H2=>t o i v H2 fun H3=>Q σ H3
theorem pg_sub {o i:Expr}{to ti:TE}{t:TSet} (ho:PE X o to) (hi:PE X i ti) (hs:PSet X t)
  (ha:∀v,assign (.Subscript o i pos) X.env v=(do
   let ov <- holding [v] (eval o X.env)
   let iv <- holding [v,ov] (eval i X.env)
   standAt pos
   holding [v,ov,iv] (setItem ov iv v)
   release [v,ov,iv] []):=by intro _;rfl):PG X (.Subscript o i pos) (gSub to ti t):=by
 intro pins s σ H v u Q I r h
 rw[ha]
 refine wpAny_bind (wpAny_holding (thn (ho pins s σ H _ I h) fun ov s1 ⟨x,H1,I1,r1,q1⟩=>?_))
 refine wpAny_bind (wpAny_holding (thn (hi pins s1 σ H1 _ I1 q1) fun iv s2 ⟨y,H2,I2,r2,q2⟩=>?_))
 refine wpAny_bind (wpAny_standAt (wpAny_bind (wpAny_holding (thn (hs pins s2 σ H2 x y v ov iv u _ I2 r1 r2 r q2) fun _ s3 ⟨H3,I3,q3⟩=>?_))))
 exact wpAny_release ⟨σ,H3,I3,q3⟩
noncomputable def tAsg (te:TE) (g:TG):TS:=fun D σ H=>te σ H fun x H1=>g x σ H1 D.nx
theorem ps_asg {tg e:Expr}{te:TE}{g:TG} (he:PE X e te) (hg:PG X tg g) (hs:swapsWithSole [tg] e pos.line X.env=pure false:=by rfl) (hw:swappedStores [tg] e X.env=pure none:=by rfl)
  (h1:(assignEach [tg] X.env).map (·.2)=[assign tg X.env]:=by rfl):PS X (.Assign [tg] e pos) (tAsg te g):=by
 intro pins s σ H D I h
 refine wpAny_Assign_stores (thn (he pins s σ H _ I h) fun v s1 ⟨x,H1,I1,r1,q1⟩=>?_) hs hw
 rw[h1]
 exact thn (hg pins s1 σ H1 x v _ I1 r1 q1) fun _ s2 q=>q
theorem ps_set {i:Nat}{x:Str}{e:Expr}{te:TE}{pos':Pos} (hN:X.N.Nodup) (hi:X.N[i]?=some x) (hx:Loc X.env.scope x) (he:PE X e te) (hs:swapsWith e (some (.Name x pos')) pos.line X.env=pure false:=by rfl) (hf:X.fn x=true ∨ X.env.scope.names.lookup x=some .local:=by first|exact .inl rfl|exact .inr rfl|assumption):
  PS X (.Assign [.Name x pos'] e pos) (tAsg te (gName i)):=by
 intro pins s σ H D I h
 refine wpAny_Assign_Name (thn (he pins s σ H _ I h) fun v s1 ⟨y,H1,I1,r1,q1⟩=>?_) hs
 exact store_ok I1 hN hi hx r1 (fun s2 I2=>⟨_,H1,I2,q1⟩) hf
noncomputable def tPar (i j:Nat) (ta:TA):TS:=fun D σ H=>ta σ H fun vs H1=>∃v w,vs=[v,w]/\D.nx ((σ.set i (some v)).set j (some w)) H1
theorem ps_par {i j:Nat}{x y:Str}{a b:Expr}{ta:TA}{px py pt:Pos}{kt k2 pt2} (hc:X.calm=true) (hN:X.N.Nodup) (hi:X.N[i]?=some x) (hj:X.N[j]?=some y) (hij:i≠j)
  (hx:X.env.scope.names.lookup x=some .local) (hy:X.env.scope.names.lookup y=some .local) (ha:PA X [a,b] ta)
  (hw:swappedStores [.Tuple [.Name x px,.Name y py] kt pt] (.Tuple [a,b] k2 pt2) X.env=pure (some [x,y]))
  (hs:swapsWithSole [.Tuple [.Name x px,.Name y py] kt pt] (.Tuple [a,b] k2 pt2) pos.line X.env=pure false:=by rfl):
  PS X (.Assign [.Tuple [.Name x px,.Name y py] kt pt] (.Tuple [a,b] k2 pt2) pos) (tPar i j ta):=by
 intro pins s σ H D I h
 rw[exec_Assign_arm]
 refine wpAny_bind (wpAny_standAt ?_)
 rw[hs]
 refine wpAny_bind (wpAny_pure ?_)
 rw[if_neg (by decide)]
 refine wpAny_bind (Tuple_ (thn (ha _ pins s σ H _ I h) fun us s1 ⟨vs,H1,I1,r1,q1⟩=>?_))
 obtain ⟨v,w,e1,q1⟩:=q1
 subst e1
 obtain ⟨u1,u2,rfl,rv,rw'⟩:∃u1 u2,us=[u1,u2]/\RelV v u1/\RelV w u2:=by
  cases r1 with
  | cons p q =>
   cases q with
   | cons p' q' =>
    cases q'
    exact ⟨_,_,rfl,p,p'⟩
 refine wpAny_newObj_type ?_ (by show 2<=sizeLine;decide)
 have I2:Inv X pins σ H1 { s1 with heap:=s1.heap.push { cls:=.type "tuple",data:=.seq [u1,u2].toArray } }:=I1.kept (t':=s1.toks) fun b o e=>Heap.get?_push_of_some _ e
 rw[hw]
 refine wpAny_bind (wpAny_pure ?_)
 show wpAny (model X.prog X.w) X.A (do rule "assign.swapped-stores";let items <- unpackItems (.ref s1.heap.objs.size) 2 none;assignInOrder [fun v=>bindName X.env y v,fun v=>bindName X.env x v] items.reverse;pure Flow.next) _ _ _
 refine wpAny_bind (wpAny_rule (wpAny_bind (unpackItems_tuple (items:=#[u1,u2]) (I.ok.hd hc) (IsTup.new s1.heap _) fun h' hx'=>?_)))
 have I3:=I2.kept (h':=h') (t':=s1.toks) fun b o e=>hx' b o (Nat.ne_of_lt (Heap.lt_size e)) e
 show wpAny _ _ (assignInOrder [fun v=>bindName X.env y v,fun v=>bindName X.env x v] [u2,u1] >>= fun _=>pure Flow.next) _ _ _
 refine wpAny_bind (assignInOrder_cons (wpAny_bindName (store_ok I3 hN hj (.inl hy) rw' (fun s2 I4=>?_) (.inr hy))))
 refine assignInOrder_cons (wpAny_bindName (store_ok I4 hN hi (.inl hx) rv (fun s3 I5=>assignInOrder_nil (wpAny_pure ?_)) (.inr hx)))
 rw[List.set_comm _ _ (Ne.symm hij)] at I5
 exact ⟨_,H1,I5,q1⟩
noncomputable def tAug (i:Nat) (te:TE) (ti:TIp):TS:=fun D σ H=>∃x,σ[i]?=some (some x)/\te σ H fun y H1=>ti x y H1 fun z H2=>D.nx (σ.set i (some z)) H2
theorem ps_aug {i:Nat}{x:Str}{e:Expr}{te:TE}{op:Operator}{ti:TIp}{pos':Pos} (hN:X.N.Nodup) (hi:X.N[i]?=some x) (hx:Loc X.env.scope x) (he:PE X e te) (ho:PIp X op ti) (hf:X.fn x=true ∨ X.env.scope.names.lookup x=some .local:=by first|exact .inl rfl|exact .inr rfl|assumption):
  PS X (.AugAssign (.Name x pos') op e pos) (tAug i te ti):=by
 intro pins s σ H D I h
 obtain ⟨v,e1,h⟩:=h
 obtain ⟨m,hn,hl⟩:=I.loc
 have vis:Vis X.env.scope x:=by rcases hx with k|k;exact .inl k;exact .inr (.inl k)
 obtain ⟨u,r,l⟩:=hl i x v hi e1 vis
 refine wpAny_AugAssign_Name ?_
 have go:wpAny (model X.prog X.w) X.A (eval e X.env) (fun w s₂=>wpAny (model X.prog X.w) X.A (inplaceOp op u w) (fun r s₃=>wpAny (model X.prog X.w) X.A (storeName X.env x r) (fun _=>SP X pins D .next) X.xe s₃) X.xe s₂) X.xe s:=by
  refine thn (he pins s σ H _ I h) fun w s1 ⟨y,H1,I1,r1,q1⟩=>?_
  refine thn (ho pins s1 σ H1 v y u w _ I1 r r1 q1) fun z s2 ⟨zv,H2,I2,r2,q2⟩=>?_
  exact store_ok I2 hN hi hx r2 (fun s3 I3=>⟨_,H2,I3,q2⟩) hf
 rcases l with ⟨hk,hm⟩|⟨hk,c,hc,hcell⟩
 ·exact wpAny_loadName_local I.ok.kind hk hn hm go
 ·rcases hk with hk|hk
  ·exact wpAny_loadName_cell I.ok.kind hk hc hcell go
  ·rcases hx with k|k
   ·have:X.env.scope.names.lookup x=some .free:=hk
    rw[k] at this;cases this
   ·have:X.env.scope.names.lookup x=some .free:=hk
    rw[k] at this;cases this
end
section
variable {X:Cx}{pos:Pos}
noncomputable def tWhile (c:TT) (tb:TS):TS:=fun D σ H=>∃W:Nat->St->Hp->Prop,(∃m,W m σ H)/\∀m σ H,W m σ H ->
 c σ H fun b H1=>if b=true then ∃N:St->Hp->Prop,(∀σ' H',N σ' H'->∃m',m'<m/\W m' σ' H')/\tb { D with nx:=N,ct:=N,bk:=D.nx } σ H1 else D.nx σ H1
theorem ps_while {c:Expr}{body:List Stmt}{tc:TT}{tb:TS} (hp:PassesOwn (model X.prog X.w) X.A X.env X.xe) (hc:PT X c tc) (hb:PSs X body tb):PS X (.While c body [] pos) (tWhile tc tb):=by
 intro pins s σ H D I h
 obtain ⟨W,⟨m0,w0⟩,turn⟩:=h
 refine wpAny_While (codeAny_whileLoop (fun n s'=>∃σ' H',Inv X pins σ' H' s'/\W n σ' H') ?_ m0 ⟨σ,H,I,w0⟩)
 rintro n s1 ⟨σ1,H1,I1,w1⟩
 refine wpAny_passesOwn hp (thn (hc pins s1 σ1 H1 _ I1 (turn n σ1 H1 w1)) fun b s2 ⟨H2,I2,q2⟩=>?_)
 cases b with
 | true =>
  obtain ⟨N,hN,q2⟩:=q2
  rw[if_pos rfl]
  refine wpAny_passesOwn hp (thn (hb pins s2 σ1 H2 _ I2 q2) fun f s3 q3=>?_)
  cases f with
  | next =>
   obtain ⟨σ3,H3,I3,n3⟩:=q3
   obtain ⟨m',hm,w3⟩:=hN σ3 H3 n3
   exact ⟨m',hm,σ3,H3,I3,w3⟩
  | cont =>
   obtain ⟨σ3,H3,I3,n3⟩:=q3
   obtain ⟨m',hm,w3⟩:=hN σ3 H3 n3
   exact ⟨m',hm,σ3,H3,I3,w3⟩
  | brk=>exact q3
  | ret v=>exact q3
 | false =>
  rw[if_neg Bool.false_ne_true]
  exact wpAny_execs_nil ⟨σ1,H2,I2,q2⟩
end
structure It where
 go:Nat->Hp->Prop
 yld:Nat->Hp->V->Hp->Prop
 stop:Nat->Hp->Prop
noncomputable def FpOk (X:Cx) (pins:List (Addr × Obj)) (H:Hp) (b:Addr):Prop :=
 H b=none/\b≠X.env.locals/\b ∉ X.fs/\(b∈X.ex ∨ X.s₀.heap.objs.size<=b)/\(∀x c,X.env.cells.lookup x=some c->c≠b)/\∀p∈X.pn++pins,p.1≠b
theorem Inv.fpOk {X:Cx}{pins:List (Addr × Obj)}{σ:St}{H H':Hp}{s:Shared}{b:Addr} (I:Inv X pins σ H s) (hb:s.heap.objs.size<=b) (hn:H' b=none):FpOk X pins H' b:=by
 refine ⟨hn,Nat.ne_of_gt (Nat.lt_of_lt_of_le I.lt hb),I.nofs hb,.inr (Nat.le_trans I.sz hb),fun x c e z=>?_,fun p hp z=>?_⟩
 ·obtain ⟨v,q⟩:=I.cell x c e
  exact absurd (Nat.lt_of_lt_of_le q.lt (by rw[z];exact hb)) (Nat.lt_irrefl _)
 ·exact absurd (Nat.lt_of_lt_of_le (Heap.lt_size (I.pin p hp).1) (by rw[z];exact hb)) (Nat.lt_irrefl _)
structure Turn (P:Program) (w:World) (K:W.Frag) (tg:Expr) (J:It) (fp:List Addr) (it:Addr) (tn:Nat->Heap->Prop):Prop where
 mem:it∈fp
 obj:∀i h,tn i h->∀b∈fp,∃o,h.get? b=some o/\∀v,o.data≠.cell v
 keep:∀i h h',tn i h->(∀b∈fp,∀o,h.get? b=some o->h'.get? b=some o)->tn i h'
 item:∀(X:Cx),X.prog=P->X.w=w->X.K=K->X.calm=true->∀(i:Nat) (pins:List (Addr × Obj)) (s:Shared) (σ:St) (H:Hp) (E:Value->Shared->Prop),Inv X pins σ H s->(∀b∈fp,FpOk X pins H b)->tn i s.heap->J.go i H ->
  wpAny (model P w) X.A (pyNext (.ref it)) (fun r s1=>∃u,r=some u /\
   wpAny (model P w) X.A (letOwnedTupleGo tg (.ref it) u) (fun _ s2=>∃x H',Inv X pins σ H' s2/\RelV x u/\J.yld i H x H'/\tn (i+1) s2.heap/\∀b∈fp,H' b=none) E s1) E s
 done:∀(X:Cx),X.prog=P->X.w=w->X.K=K->X.calm=true->∀(i:Nat) (pins:List (Addr × Obj)) (s:Shared) (σ:St) (H:Hp) (E:Value->Shared->Prop),Inv X pins σ H s->(∀b∈fp,FpOk X pins H b)->tn i s.heap->J.stop i H ->
  wpAny (model P w) X.A (pyNext (.ref it)) (fun r s1=>r=none/\Inv X pins σ H s1) E s
 self:∀(A:Around) (i:Nat) (s:Shared) (Q:Value->Shared->Prop) (E:Value->Shared->Prop),tn i s.heap->Q (.ref it) s->wpAny (model P w) A (pyIter (.ref it)) Q E s
noncomputable abbrev TI:=St->Hp->(It->Hp->Prop)->Prop
noncomputable def PIE (X:Cx) (pins:List (Addr × Obj)) (σ:St) (tg:Expr) (R:It->Hp->Prop) (itv:Value) (s2:Shared):Prop :=
 ∃(it:Addr) (fp:List Addr) (tn:Nat->Heap->Prop) (J:It) (H':Hp),itv=.ref it/\Inv X pins σ H' s2/\Turn X.prog X.w X.K tg J fp it tn/\tn 0 s2.heap/\(∀b∈fp,FpOk X pins H' b)/\R J H'
noncomputable def PI (X:Cx) (tg iter:Expr) (wi:TI):Prop :=
 ∀(pins:List (Addr × Obj)) (s:Shared) (σ:St) (H:Hp) (R:It->Hp->Prop),Inv X pins σ H s->wi σ H R ->
  wpAny (model X.prog X.w) X.A (eval iter X.env) (fun v s1=>wpAny (model X.prog X.w) X.A (pyIter v) (PIE X pins σ tg R) X.xe s1) X.xe s
theorem go_of {M:Model}{A:Around}{E:Value->Shared->Prop}{s:Shared}{tg:Expr}{it:Addr}{u:Value}{o:Obj}{n:String}{vs:Array Value}{Q:Unit->Shared->Prop} (ho:s.heap.get? it=some o) (hc:o.cls=.type n) (hd:o.data=.fields vs)
  (hn:["enumerate","zip","dict_itemiterator","dict_reverseitemiterator","odict_iterator","itertools.zip_longest","itertools.pairwise"].contains n=false) (hQ:Q () s):wpAny M A (letOwnedTupleGo tg (.ref it) u) Q E s:=by
 unfold letOwnedTupleGo
 cases tg <;> first
  | exact wpAny_pure hQ
  | (cases u <;> first
    | exact wpAny_pure hQ
    | (refine wpAny_bind (wpAny_load ho ?_)
       rw[hc,hd]
       show wpAny M A (if (["enumerate","zip","dict_itemiterator","dict_reverseitemiterator","odict_iterator","itertools.zip_longest","itertools.pairwise"].contains n&&vs[0]? == some (rawInt _))=true then _ else _) Q E s
       rw[if_neg (by intro h;rw[hn,Bool.false_and] at h;cases h)]
       exact wpAny_pure hQ))
noncomputable def Itl (K:W.Frag) (a:Addr):It :=
 ⟨fun i H=>∃xs x,SqL K H a xs/\xs[i]?=some x,fun i H x H'=>H'=H/\∀xs,SqL K H a xs->xs[i]?=some x,fun i H=>∃xs,SqL K H a xs/\xs.length<=i⟩
noncomputable def Itt (K:W.Frag) (a:Addr):It :=
 ⟨fun i H=>∃xs x,SqT K H a xs/\xs[i]?=some x,fun i H x H'=>H'=H/\∀xs,SqT K H a xs->xs[i]?=some x,fun i H=>∃xs,SqT K H a xs/\xs.length<=i⟩
noncomputable def Itr (lo:Int) (n:Nat):It:=⟨fun i _=>i<n,fun i H x H'=>H'=H/\x=.int (lo+i),fun i _=>n<=i⟩
theorem turn_list {P:Program}{w:World}{K:W.Frag}{tg:Expr} (a it:Addr):Turn P w K tg (Itl K a) [it] it (fun i h=>h.IsListIter it a i) where
 mem:=by simp
 obj:=fun i h st b hb=>by
  have e:b=it:=by simpa using hb
  subst e
  obtain ⟨o,e,c,d⟩:=st
  exact ⟨o,e,fun v z=>by rw[d] at z;cases z⟩
 keep:=fun i h h' st k=>st.at fun o e=>k it (by simp) o e
 item:=by
  intro X hP hw hK hc i pins s σ H E I hf st hg
  subst hP hw hK
  obtain ⟨xs,x,hq,hx⟩:=hg
  obtain ⟨its,rv,p,hz⟩:=I.list hq
  obtain ⟨u,hu,ru⟩:=rv.get hx
  obtain ⟨f0,f1,f2,f3,f4,f5⟩:=hf it (by simp)
  refine wpAny_pyNext_list_item st p.isList (x:=u) (by simpa using hu) fun h' st' sb=>?_
  have I1:Inv X pins σ H { s with heap:=h' }:=I.turned (t':=s.toks) (fun b o hb e=>(sb.2 b hb).trans e) f0 f1 f3 f4 f5
  obtain ⟨o,e,c,d⟩:=id st'
  exact ⟨u,rfl,go_of (s:={ s with heap:=h' }) e c d (by decide) ⟨x,H,I1,ru,⟨rfl,fun ys hy=>by rw[I.list_inj hy hq];exact hx⟩,st',fun b hb=>(hf b hb).1⟩⟩
 done:=by
  intro X hP hw hK hc i pins s σ H E I hf st hg
  subst hP hw hK
  obtain ⟨xs,hq,hx⟩:=hg
  obtain ⟨its,rv,p,hz⟩:=I.list hq
  obtain ⟨f0,f1,f2,f3,f4,f5⟩:=hf it (by simp)
  have hl:=rv.length
  exact wpAny_pyNext_list_end (I.ok.hd hc) st p.isList (by simp;omega) fun h' eb=>⟨rfl,I.turned (t':=s.toks) (fun b o hb e=>eb b o hb e) f0 f1 f3 f4 f5⟩
 self:=fun _ _ _ _ _ st h=>wpAny_pyIter_listiter st h
theorem turn_tuple {P:Program}{w:World}{K:W.Frag}{tg:Expr} (a it:Addr):Turn P w K tg (Itt K a) [it] it (fun i h=>h.IsTupleIter it a i) where
 mem:=by simp
 obj:=fun i h st b hb=>by
  have e:b=it:=by simpa using hb
  subst e
  obtain ⟨o,e,c,d⟩:=st
  exact ⟨o,e,fun v z=>by rw[d] at z;cases z⟩
 keep:=fun i h h' st k=>st.at fun o e=>k it (by simp) o e
 item:=by
  intro X hP hw hK hc i pins s σ H E I hf st hg
  subst hP hw hK
  obtain ⟨xs,x,hq,hx⟩:=hg
  obtain ⟨its,rv,p,hz⟩:=I.tuple hq
  obtain ⟨u,hu,ru⟩:=rv.get hx
  obtain ⟨f0,f1,f2,f3,f4,f5⟩:=hf it (by simp)
  refine wpAny_pyNext_tuple_item st (show s.heap.IsTuple a its.toArray from p) (x:=u) (by simpa using hu) fun h' st' sb=>?_
  have I1:Inv X pins σ H { s with heap:=h' }:=I.turned (t':=s.toks) (fun b o hb e=>(sb.2 b hb).trans e) f0 f1 f3 f4 f5
  obtain ⟨o,e,c,d⟩:=id st'
  exact ⟨u,rfl,go_of (s:={ s with heap:=h' }) e c d (by decide) ⟨x,H,I1,ru,⟨rfl,fun ys hy=>by rw[I.tuple_inj hy hq];exact hx⟩,st',fun b hb=>(hf b hb).1⟩⟩
 done:=by
  intro X hP hw hK hc i pins s σ H E I hf st hg
  subst hP hw hK
  obtain ⟨xs,hq,hx⟩:=hg
  obtain ⟨its,rv,p,hz⟩:=I.tuple hq
  obtain ⟨f0,f1,f2,f3,f4,f5⟩:=hf it (by simp)
  have hl:=rv.length
  exact wpAny_pyNext_tuple_end (I.ok.hd hc) st (show s.heap.IsTuple a its.toArray from p) (by simp;omega) fun h' eb=>⟨rfl,I.turned (t':=s.toks) (fun b o hb e=>eb b o hb e) f0 f1 f3 f4 f5⟩
 self:=fun _ _ _ _ _ st h=>wpAny_pyIter_tupleiter st h
theorem turn_range {P:Program}{w:World}{K:W.Frag}{tg:Expr} (it:Addr) (lo:Int) (n:Nat):Turn P w K tg (Itr lo n) [it] it (fun i h=>IsRangeIter h it (lo+(i:Nat)*1) ((n:Int) - (i:Nat)) 1) where
 mem:=by simp
 obj:=fun i h st b hb=>by
  have e:b=it:=by simpa using hb
  subst e
  exact ⟨_,st,fun v z=>by
   have z':Data.fields _=Data.cell v:=z
   cases z'⟩
 keep:=fun i h h' st k=>k it (by simp) _ st
 item:=by
  intro X hP hw hK hc i pins s σ H E I hf st hg
  subst hP hw hK
  obtain ⟨f0,f1,f2,f3,f4,f5⟩:=hf it (by simp)
  have W:=Walks.range (prog:=X.prog) (w:=X.w) (I.ok.hd hc) it lo 1 n
  refine W.item i s _ _ hg st fun v h' tk hv st' kk=>?_
  obtain ⟨t,rfl⟩:=hv
  have I1:Inv X pins σ H { s with heap:=h',toks:=tk }:=I.turned (fun b o hb e=>kk b o (by simpa using hb) e) f0 f1 f3 f4 f5
  refine ⟨_,rfl,go_of (s:={ s with heap:=h',toks:=tk }) (n:="range_iterator") st' rfl rfl (by decide) ⟨.int (lo+i),H,I1,⟨t,?_⟩,⟨rfl,rfl⟩,st',fun b hb=>(hf b hb).1⟩⟩
  rw[Int.mul_one]
 done:=by
  intro X hP hw hK hc i pins s σ H E I hf st hg
  subst hP hw hK
  obtain ⟨f0,f1,f2,f3,f4,f5⟩:=hf it (by simp)
  exact wpAny_pyNext_range_end (I.ok.hd hc) st (by have:n<=i:=hg;omega) fun h' eb=>⟨rfl,I.turned (t':=s.toks) (fun b o hb e=>eb b o hb e) f0 f1 f3 f4 f5⟩
 self:=fun _ _ _ _ _ st h=>wpAny_pyIter_rangeiter st h
end L2
namespace L2
open PySem PySem.Spec PyProof.Rows
section
variable {X:Cx}{tg:Expr}
noncomputable def iList (K:W.Frag) (tl:TE):TI:=fun σ H R=>tl σ H fun x H1=>∃a,x=.ref a/\(∃xs,SqL K H1 a xs)/\R (Itl K a) H1
noncomputable def iTup (K:W.Frag) (tl:TE):TI:=fun σ H R=>tl σ H fun x H1=>∃a,x=.ref a/\(∃xs,SqT K H1 a xs)/\R (Itt K a) H1
theorem pi_list {l:Expr}{tl:TE} (hl:PE X l tl):PI X tg l (iList X.K tl):=by
 intro pins s σ H R I h
 refine thn (hl pins s σ H _ I h) fun v s1 ⟨x,H1,I1,r1,q1⟩=>?_
 obtain ⟨a,e,⟨xs,hq⟩,q⟩:=q1
 subst e
 cases r1
 obtain ⟨its,rv,p,hz⟩:=I1.list hq
 refine wpAny_pyIter_list p.isList ?_
 refine ⟨s1.heap.objs.size,[s1.heap.objs.size],_,_,H1,rfl,I1.kept (t':=s1.toks) fun b o e=>Heap.get?_push_of_some _ e,turn_list a _,⟨_,Heap.get?_push_size _ rfl,rfl,rfl⟩,fun b hb=>?_,q⟩
 have e:b=s1.heap.objs.size:=by simpa using hb
 subst e
 exact I1.fpOk (Nat.le_refl _) (I1.hok.fresh (Nat.le_refl _))
theorem pi_tup {l:Expr}{tl:TE} (hl:PE X l tl):PI X tg l (iTup X.K tl):=by
 intro pins s σ H R I h
 refine thn (hl pins s σ H _ I h) fun v s1 ⟨x,H1,I1,r1,q1⟩=>?_
 obtain ⟨a,e,⟨xs,hq⟩,q⟩:=q1
 subst e
 cases r1
 obtain ⟨its,rv,p,hz⟩:=I1.tuple hq
 refine wpAny_pyIter_tuple (show s1.heap.IsTuple a its.toArray from p) ?_
 refine ⟨s1.heap.objs.size,[s1.heap.objs.size],_,_,H1,rfl,I1.kept (t':=s1.toks) fun b o e=>Heap.get?_push_of_some _ e,turn_tuple a _,⟨_,Heap.get?_push_size _ rfl,rfl,rfl⟩,fun b hb=>?_,q⟩
 have e:b=s1.heap.objs.size:=by simpa using hb
 subst e
 exact I1.fpOk (Nat.le_refl _) (I1.hok.fresh (Nat.le_refl _))
theorem range_it {pins:List (Addr × Obj)}{σ:St}{H:Hp}{s:Shared}{R:It->Hp->Prop}{E:Value->Shared->Prop}{lo hi:Int}{t u v:Tok}{tk:Nat} (I:Inv X pins σ H s) (h1:-(2 ^ 62)<=lo) (h2:lo<2 ^ 62) (h3:-(2 ^ 62)<=hi) (h4:hi<2 ^ 62)
  (q:R (Itr lo (hi - lo).toNat) H):wpAny (model X.prog X.w) X.A (pyIter (.ref s.heap.objs.size)) (PIE X pins σ tg R) E { s with heap:=s.heap.push { cls:=.type "range",data:=.fields #[.int lo t,.int hi u,.int 1 v] },toks:=tk }:=by
 refine wpAny_pyIter_range (IsRange.new ..) (small_one h1 h2 h3 h4) ?_
 have I1:Inv X pins σ H { s with heap:=s.heap.push { cls:=.type "range",data:=.fields #[.int lo t,.int hi u,.int 1 v] },toks:=tk }:=I.kept fun b o e=>Heap.get?_push_of_some _ e
 refine ⟨(s.heap.push { cls:=.type "range",data:=.fields #[.int lo t,.int hi u,.int 1 v] }).objs.size,[(s.heap.push { cls:=.type "range",data:=.fields #[.int lo t,.int hi u,.int 1 v] }).objs.size],_,_,H,rfl,
  I1.kept (t':=tk) fun b o e=>Heap.get?_push_of_some _ e,turn_range _ lo (hi - lo).toNat,?_,fun b hb=>?_,q⟩
 ·have e1:lo+((0:Nat):Int)*1=lo:=by simp
  have e2:(((hi - lo).toNat:Nat):Int) - ((0:Nat):Int)=Builtin.Range.rangeSize lo hi 1:=by rw[rangeSize_one];split <;> omega
  show IsRangeIter _ _ (lo+((0:Nat):Int)*1) ((((hi - lo).toNat:Nat):Int) - ((0:Nat):Int)) 1
  rw[e1,e2]
  exact Heap.get?_push_size _ rfl
 ·have e:b=(s.heap.push { cls:=.type "range",data:=.fields #[.int lo t,.int hi u,.int 1 v] }).objs.size:=by simpa using hb
  subst e
  exact I1.fpOk (Nat.le_refl _) (I1.hok.fresh (Nat.le_refl _))
noncomputable def iRng1 (ta:TA):TI:=fun σ H R=>ta σ H fun vs H1=>∃j:Int,vs=[.int j]/\-(2 ^ 62)<=j/\j<2 ^ 62/\R (Itr 0 j.toNat) H1
theorem pi_range1 {a:Expr}{ta:TA}{p pos:Pos} (hg:Gl X "range") (hm:X.mg "range"=none) (ha:PA X [a] ta) (hs:starEach [a] X.env=[(false,eval a X.env)]:=by rfl):PI X tg (.Call (.Name "range" p) [a] [] pos) (iRng1 ta):=by
 intro pins s σ H R I h
 refine Call_ (ld_blt I hg hm boot_range (PyProof.Rows.callWith_type1 (thn (ha pos pins s σ H _ I h) fun us s1 ⟨vs,H1,I1,r1,q1⟩=>?_) hs rfl))
 obtain ⟨j,e,q1,q2,q⟩:=q1
 subst e
 cases r1 with
 | cons r rr =>
  cases rr
  obtain ⟨t,rfl⟩:=r
  exact call_range_1 (range_it I1 (by omega) (by omega) q1 q2 (by simpa using q))
noncomputable def tFor (wi:TI) (g:TG) (tb:TS):TS:=fun D σ H=>wi σ H fun J H1=>∃W:Nat->Nat->St->Hp->Prop,(∃m,W 0 m σ H1)/\∀i m σ H,W i m σ H ->
 (J.stop i H/\D.nx σ H) ∨ (J.go i H/\∃N:St->Hp->Prop,(∀σ' H',N σ' H'->∃m',m'<m/\W (i+1) m' σ' H')/\∀x H',J.yld i H x H'->g x σ H' fun σ2 H2=>tb { D with nx:=N,ct:=N,bk:=D.nx } σ2 H2)
noncomputable def pinsAt (fp:List Addr) (h:Heap):List (Addr × Obj):=fp.filterMap fun b=>(h.get? b).map fun o=>(b,o)
theorem mem_pinsAt {fp:List Addr}{h:Heap}{b:Addr}{o:Obj} (hb:b∈fp) (e:h.get? b=some o):(b,o)∈pinsAt fp h:=List.mem_filterMap.mpr ⟨b,hb,by rw[e];rfl⟩
theorem of_pinsAt {fp:List Addr}{h:Heap}{p:Addr × Obj} (hp:p∈pinsAt fp h):p.1∈fp/\h.get? p.1=some p.2:=by
 obtain ⟨b,hb,e⟩:=List.mem_filterMap.mp hp
 cases q:h.get? b with
 | none=>rw[q] at e;cases e
 | some o =>
  rw[q] at e
  have e':(b,o)=p:=Option.some.inj e
  subst e'
  exact ⟨hb,q⟩
theorem Inv.pinned {pins:List (Addr × Obj)}{σ:St}{H:Hp}{s:Shared}{fp:List Addr} (I:Inv X pins σ H s) (hf:∀b∈fp,FpOk X pins H b) (ho:∀b∈fp,∃o,s.heap.get? b=some o/\∀v,o.data≠.cell v):Inv X (pins++pinsAt fp s.heap) σ H s :=
 I.pins_of fun p hp=>(List.mem_append.mp hp).elim (fun z=>I.pin p (List.mem_append_right _ z)) fun z=>by
  obtain ⟨hb,e⟩:=of_pinsAt z
  obtain ⟨f0,f1,f2,_⟩:=hf p.1 hb
  obtain ⟨o,e',d⟩:=ho p.1 hb
  rw[e] at e';cases e'
  exact ⟨e,f0,f1,f2,d⟩
theorem Inv.unpinned {pins pl:List (Addr × Obj)}{σ:St}{H:Hp}{s:Shared} (I:Inv X (pins++pl) σ H s):Inv X pins σ H s:=I.pins_of fun p hp=>I.pin p (List.mem_append_right _ (List.mem_append_left _ hp))
theorem ps_for {iter:Expr}{body:List Stmt}{wi:TI}{g:TG}{tb:TS}{pos:Pos} (hp:PassesOwn (model X.prog X.w) X.A X.env X.xe) (hc:X.calm=true) (hi:PI X tg iter wi) (hg:PG X tg g) (hb:PSs X body tb)
  (hs:∀x,foldedSetIterable iter X.env x=pure x:=by intro _;rfl):PS X (.For tg iter body [] pos) (tFor wi g tb):=by
 intro pins s σ H D I h
 refine wpAny_For (thn (hi pins s σ H _ I h) fun v s1 h1=>thn h1 fun itv s2 h2=>?_) hs
 obtain ⟨it,fp,tn,J,H2,e,I2,T,st2,f2,W,⟨m0,w0⟩,turn⟩:=h2
 subst e
 have stat:∀{H':Hp},(∀b∈fp,H' b=none)->∀b∈fp,FpOk X pins H' b:=fun hn b hb=>⟨hn b hb,(f2 b hb).2⟩
 refine codeAny_forLoop_any (fun n s'=>∃i σ' H',Inv X pins σ' H' s'/\tn i s'.heap/\(∀b∈fp,H' b=none)/\W i n σ' H') ?_ m0 ⟨0,σ,H2,I2,st2,fun b hb=>(f2 b hb).1,w0⟩
 rintro n s3 ⟨i,σ3,H3,I3,st3,fr3,w3⟩
 rcases turn i n σ3 H3 w3 with ⟨stop,qn⟩|⟨go,N,hN,step⟩
 ·refine wpAny_passesOwn hp (thn (T.done X rfl rfl rfl hc i pins s3 σ3 H3 X.xe I3 (stat fr3) st3 stop) fun r s4 ⟨hr,I4⟩=>?_)
  subst hr
  exact wpAny_execs_nil ⟨σ3,H3,I4,qn⟩
 ·refine wpAny_passesOwn hp (thn (T.item X rfl rfl rfl hc i pins s3 σ3 H3 X.xe I3 (stat fr3) st3 go) fun r s4 ⟨u,hr,h4⟩=>?_)
  subst hr
  refine wpAny_passesOwn hp (thn h4 fun _ s5 ⟨x,H5,I5,r5,y5,st5,fr5⟩=>?_)
  have I5':=I5.pinned (stat fr5) (T.obj _ _ st5)
  refine wpAny_passesOwn hp (thn (hg _ s5 σ3 H5 x u _ I5' r5 (step x H5 y5)) fun _ s6 ⟨σ6,H6,I6,q6⟩=>?_)
  refine wpAny_passesOwn hp (thn (hb _ s6 σ6 H6 _ I6 q6) fun f s7 q7=>?_)
  have again:∀{σ7:St}{H7:Hp},Inv X (pins++pinsAt fp s5.heap) σ7 H7 s7->N σ7 H7->∃m,m<n/\∃i σ' H',Inv X pins σ' H' s7/\tn i s7.heap/\(∀b∈fp,H' b=none)/\W i m σ' H':=fun {σ7 H7} I7 n7=>by
   obtain ⟨m',hm,w7⟩:=hN σ7 H7 n7
   refine ⟨m',hm,i+1,σ7,H7,I7.unpinned,T.keep _ _ _ st5 fun b hb o e=>(I7.pin (b,o) (List.mem_append_right _ (List.mem_append_right _ (mem_pinsAt hb e)))).1,fun b hb=>?_,w7⟩
   obtain ⟨o,e,d⟩:=T.obj _ _ st5 b hb
   exact (I7.pin (b,o) (List.mem_append_right _ (List.mem_append_right _ (mem_pinsAt hb e)))).2.1
  cases f with
  | next=>obtain ⟨σ7,H7,I7,n7⟩:=q7;exact again I7 n7
  | cont=>obtain ⟨σ7,H7,I7,n7⟩:=q7;exact again I7 n7
  | brk=>obtain ⟨σ7,H7,I7,q7⟩:=q7;exact ⟨σ7,H7,I7.unpinned,q7⟩
  | ret v=>obtain ⟨x7,σ7,H7,I7,r7,q7⟩:=q7;exact ⟨x7,σ7,H7,I7.unpinned,r7,q7⟩
end
theorem for_list {K:W.Frag}{a:Addr}{xs:List V}{g:TG}{tb:TS}{D:Ends}{σ:St}{H:Hp} (Pv:Nat->St->Hp->Prop) (h0:Pv 0 σ H) (hl:∀i σ H,i<=xs.length->Pv i σ H->SqL K H a xs)
  (hs:∀i x σ H,xs[i]?=some x->Pv i σ H->g x σ H fun σ2 H2=>tb { D with nx:=Pv (i+1),ct:=Pv (i+1),bk:=D.nx } σ2 H2) (hd:∀σ H,Pv xs.length σ H->D.nx σ H):
  ∃W:Nat->Nat->St->Hp->Prop,(∃m,W 0 m σ H)/\∀i m σ H,W i m σ H ->
   ((Itl K a).stop i H/\D.nx σ H) ∨ ((Itl K a).go i H/\∃N:St->Hp->Prop,(∀σ' H',N σ' H'->∃m',m'<m/\W (i+1) m' σ' H')/\∀x H',(Itl K a).yld i H x H'->g x σ H' fun σ2 H2=>tb { D with nx:=N,ct:=N,bk:=D.nx } σ2 H2):=by
 refine ⟨fun i m σ H=>m=xs.length - i/\i<=xs.length/\Pv i σ H,⟨xs.length,by simp,Nat.zero_le _,h0⟩,?_⟩
 rintro i m σ H ⟨rfl,hi,p⟩
 have q:=hl i σ H hi p
 by_cases hlt:i<xs.length
 ·refine .inr ⟨⟨xs,xs[i],q,by simp[hlt]⟩,Pv (i+1),fun σ' H' p'=>⟨xs.length - (i+1),by omega,rfl,hlt,p'⟩,fun x H' y=>?_⟩
  obtain ⟨e,y⟩:=y
  subst e
  exact hs i x σ _ (y xs q) p
 ·have e:i=xs.length:=by omega
  subst e
  exact .inl ⟨⟨xs,q,Nat.le_refl _⟩,hd σ H p⟩
theorem for_tup {K:W.Frag}{a:Addr}{xs:List V}{g:TG}{tb:TS}{D:Ends}{σ:St}{H:Hp} (Pv:Nat->St->Hp->Prop) (h0:Pv 0 σ H) (hl:∀i σ H,i<=xs.length->Pv i σ H->SqT K H a xs)
  (hs:∀i x σ H,xs[i]?=some x->Pv i σ H->g x σ H fun σ2 H2=>tb { D with nx:=Pv (i+1),ct:=Pv (i+1),bk:=D.nx } σ2 H2) (hd:∀σ H,Pv xs.length σ H->D.nx σ H):
  ∃W:Nat->Nat->St->Hp->Prop,(∃m,W 0 m σ H)/\∀i m σ H,W i m σ H ->
   ((Itt K a).stop i H/\D.nx σ H) ∨ ((Itt K a).go i H/\∃N:St->Hp->Prop,(∀σ' H',N σ' H'->∃m',m'<m/\W (i+1) m' σ' H')/\∀x H',(Itt K a).yld i H x H'->g x σ H' fun σ2 H2=>tb { D with nx:=N,ct:=N,bk:=D.nx } σ2 H2):=by
 refine ⟨fun i m σ H=>m=xs.length - i/\i<=xs.length/\Pv i σ H,⟨xs.length,by simp,Nat.zero_le _,h0⟩,?_⟩
 rintro i m σ H ⟨rfl,hi,p⟩
 have q:=hl i σ H hi p
 by_cases hlt:i<xs.length
 ·refine .inr ⟨⟨xs,xs[i],q,by simp[hlt]⟩,Pv (i+1),fun σ' H' p'=>⟨xs.length - (i+1),by omega,rfl,hlt,p'⟩,fun x H' y=>?_⟩
  obtain ⟨e,y⟩:=y
  subst e
  exact hs i x σ _ (y xs q) p
 ·have e:i=xs.length:=by omega
  subst e
  exact .inl ⟨⟨xs,q,Nat.le_refl _⟩,hd σ H p⟩
theorem for_range {lo:Int}{n:Nat}{g:TG}{tb:TS}{D:Ends}{σ:St}{H:Hp} (Pv:Nat->St->Hp->Prop) (h0:Pv 0 σ H)
  (hs:∀i σ H,i<n->Pv i σ H->g (.int (lo+i)) σ H fun σ2 H2=>tb { D with nx:=Pv (i+1),ct:=Pv (i+1),bk:=D.nx } σ2 H2) (hd:∀σ H,Pv n σ H->D.nx σ H):
  ∃W:Nat->Nat->St->Hp->Prop,(∃m,W 0 m σ H)/\∀i m σ H,W i m σ H ->
   ((Itr lo n).stop i H/\D.nx σ H) ∨ ((Itr lo n).go i H/\∃N:St->Hp->Prop,(∀σ' H',N σ' H'->∃m',m'<m/\W (i+1) m' σ' H')/\∀x H',(Itr lo n).yld i H x H'->g x σ H' fun σ2 H2=>tb { D with nx:=N,ct:=N,bk:=D.nx } σ2 H2):=by
 refine ⟨fun i m σ H=>m=n - i/\i<=n/\Pv i σ H,⟨n,by simp,Nat.zero_le _,h0⟩,?_⟩
 rintro i m σ H ⟨rfl,hi,p⟩
 by_cases hlt:i<n
 ·refine .inr ⟨hlt,Pv (i+1),fun σ' H' p'=>⟨n - (i+1),by omega,rfl,hlt,p'⟩,fun x H' y=>?_⟩
  obtain ⟨e,y⟩:=y
  subst e y
  exact hs i σ _ hlt p
 ·have e:i=n:=by omega
  subst e
  exact .inl ⟨Nat.le_refl _,hd σ H p⟩
end L2
namespace L2
open PySem PySem.Spec PyProof.Rows
noncomputable abbrev R2:=V->V->Hp->VK->Prop
noncomputable def OpR (X:Cx) (f:Value->Value->Sem Value) (r:R2):Prop :=
 ∀(pins:List (Addr × Obj)) (s:Shared) (σ:St) (H:Hp) (x y:V) (v u:Value) (Q:VK),Inv X pins σ H s->RelV x v->RelV y u->r x y H Q ->
  wpAny (model X.prog X.w) X.A (f v u) (EP X pins σ Q) X.xe s
noncomputable def CallR (X:Cx) (f:Value) (r:List V->Hp->VK->Prop):Prop :=
 ∀(pins:List (Addr × Obj)) (s:Shared) (σ:St) (H:Hp) (xs:List V) (us:List Value) (Q:VK),Inv X pins σ H s->Vals xs us->r xs H Q ->
  wpAny (model X.prog X.w) X.A (call f us) (EP X pins σ Q) X.xe s
noncomputable def tOp (r:R2) (ta tb:TE):TE:=fun σ H Q=>ta σ H fun x H1=>tb σ H1 fun y H2=>r x y H2 Q
noncomputable def rI (C:Int->Int->Prop) (g:Int->Int->V):R2:=fun x y H Q=>∃i j,x=.int i/\y=.int j/\C i j/\Q (g i j) H
noncomputable def rI0 (g:Int->Int->V):R2:=fun x y H Q=>∃i j,x=.int i/\y=.int j/\Q (g i j) H
section
variable {X:Cx}{a b c:Expr}{ta tb tc:TE}{pos:Pos}
theorem binT (ha:PE X a ta) (hb:PE X b tb) {pins:List (Addr × Obj)}{s:Shared}{σ:St}{H:Hp}{R:V->V->Hp->Prop} (I:Inv X pins σ H s)
  (h:ta σ H fun x H1=>tb σ H1 fun y H2=>R x y H2) {Q:Value->Shared->Prop}{f:Value->Value->Sem Value}
  (hf:∀v u s2 x y H2,Inv X pins σ H2 s2->RelV x v->RelV y u->R x y H2->wpAny (model X.prog X.w) X.A (f v u) Q X.xe s2):
  wpAny (model X.prog X.w) X.A (eval a X.env) (fun v s₁=>wpAny (model X.prog X.w) X.A (eval b X.env) (fun u s₂=>wpAny (model X.prog X.w) X.A (f v u) Q X.xe s₂) X.xe s₁) X.xe s:=by
 refine thn (ha pins s σ H _ I h) fun v s1 ⟨x,H1,I1,r1,q1⟩=>?_
 refine thn (hb pins s1 σ H1 _ I1 q1) fun u s2 ⟨y,H2,I2,r2,q2⟩=>?_
 exact hf v u s2 x y H2 I2 r1 r2 q2
theorem pe_op {op:Operator}{r:R2} (ho:OpR X (binaryOp op) r) (ha:PE X a ta) (hb:PE X b tb):PE X (.BinOp a op b pos) (tOp r ta tb):=by
 intro pins s σ H Q I h
 exact wpAny_BinOp (binT ha hb I h fun v u s2 x y H2 I2 rx ry q=>ho pins s2 σ H2 x y v u Q I2 rx ry q)
theorem opI {f:Value->Value->Sem Value}{C:Int->Int->Prop}{g:Int->Int->Int}
  (rule:∀(i j:Int) (t u:Tok) (s:Shared) (Q:Value->Shared->Prop) (E:Value->Shared->Prop),C i j->Q (.int (g i j) s.toks) { s with toks:=s.toks+1 }->wpAny (model X.prog X.w) X.A (f (.int i t) (.int j u)) Q E s):
  OpR X f (rI C fun i j=>.int (g i j)):=by
 intro pins s σ H x y v u Q I rx ry h
 obtain ⟨i,j,rfl,rfl,hc,q⟩:=h
 obtain ⟨t,rfl⟩:=rx
 obtain ⟨t',rfl⟩:=ry
 exact rule i j t t' s _ _ hc ⟨.int (g i j),H,I.tok _,⟨_,rfl⟩,q⟩
theorem opI0 {f:Value->Value->Sem Value}{g:Int->Int->Int}
  (rule:∀(i j:Int) (t u:Tok) (s:Shared) (Q:Value->Shared->Prop) (E:Value->Shared->Prop),Q (.int (g i j) s.toks) { s with toks:=s.toks+1 }->wpAny (model X.prog X.w) X.A (f (.int i t) (.int j u)) Q E s):
  OpR X f (rI0 fun i j=>.int (g i j)):=by
 intro pins s σ H x y v u Q I rx ry h
 obtain ⟨i,j,rfl,rfl,q⟩:=h
 obtain ⟨t,rfl⟩:=rx
 obtain ⟨t',rfl⟩:=ry
 exact rule i j t t' s _ _ ⟨.int (g i j),H,I.tok _,⟨_,rfl⟩,q⟩
theorem opB0 {f:Value->Value->Sem Value}{g:Int->Int->Bool}
  (rule:∀(i j:Int) (t u:Tok) (s:Shared) (Q:Value->Shared->Prop) (E:Value->Shared->Prop),Q (.bool (g i j)) s->wpAny (model X.prog X.w) X.A (f (.int i t) (.int j u)) Q E s):
  OpR X f (rI0 fun i j=>.bl (g i j)):=by
 intro pins s σ H x y v u Q I rx ry h
 obtain ⟨i,j,rfl,rfl,q⟩:=h
 obtain ⟨t,rfl⟩:=rx
 obtain ⟨t',rfl⟩:=ry
 exact rule i j t t' s _ _ ⟨.bl (g i j),H,I,rfl,q⟩
noncomputable def CDiv (i j:Int):Prop:=0<j/\j<1073741824
noncomputable def CPow (i j:Int):Prop:=0<=j/\j<=1000000/\i.natAbs<2 ^ 64
noncomputable def CMul (i j:Int):Prop:=(-(2 ^ 64)<i/\i<2 ^ 64) ∨ (-(2 ^ 64)<j/\j<2 ^ 64)
theorem CMul.ok {i j:Int} (h:CMul i j):IntMulOk i j:=by
 rcases h with ⟨h1,h2⟩|⟨h1,h2⟩
 ·exact .of_left (intBits_le_64 h1 h2)
 ·exact .of_right (intBits_le_64 h1 h2)
theorem op_add:OpR X (binaryOp .Add) (rI0 fun i j=>.int (i+j)):=opI0 fun _ _ _ _ _ _ _ q=>add_int q
theorem op_sub:OpR X (binaryOp .Sub) (rI0 fun i j=>.int (i - j)):=opI0 fun _ _ _ _ _ _ _ q=>sub_int q
theorem op_mul:OpR X (binaryOp .Mult) (rI CMul fun i j=>.int (i*j)):=opI fun _ _ _ _ _ _ _ hc q=>mul_int q hc.ok
theorem op_fdiv:OpR X (binaryOp .FloorDiv) (rI CDiv fun i j=>.int (i / j)):=opI fun i j _ _ _ _ _ hc q=>by
 have h1:(0:Int)<j:=hc.1
 have h2:j<1073741824:=hc.2
 exact floordiv_int (by omega) (by rw[Int.fdiv_eq_ediv_of_nonneg i (by omega)];exact q) (.inl (PyProof.noPylong_small (by omega)))
theorem op_mod:OpR X (binaryOp .Mod) (rI (fun _ j=>0<j) fun i j=>.int (i % j)):=opI fun i j _ _ _ _ _ hc q=>by
 have h1:(0:Int)<j:=hc
 exact mod_int' (by omega) (by rw[Int.fmod_eq_emod_of_nonneg i (by omega)];exact q)
theorem op_pow:OpR X (binaryOp .Pow) (rI CPow fun i j=>.int (i ^ j.toNat)):=opI fun _ _ _ _ _ _ _ hc q=>pow_int_small hc.1 hc.2.1 hc.2.2 q
end
noncomputable def scal:V->V->Bool
 | .non,.non=>true | .non,.int _=>true | .int _,.non=>true | .non,.bl _=>true | .bl _,.non=>true | .non,.str _=>true | .str _,.non=>true
 | .int _,.int _=>true | .bl _,.bl _=>true | .str _,.str _=>true | .byt _,.byt _=>true
 | .int _,.str _=>true | .str _,.int _=>true | .bl _,.str _=>true | .str _,.bl _=>true
 | _,_=>false
noncomputable def rEq:R2:=fun x y H Q=>scal x y=true/\Q (.bl (decide (x=y))) H
noncomputable def rNe:R2:=fun x y H Q=>scal x y=true/\Q (.bl (!decide (x=y))) H
theorem dec_int {i j:Int}:decide (V.int i=V.int j)=(i == j):=by
 rw[Bool.eq_iff_iff]
 simp
theorem dec_bl {i j:Bool}:decide (V.bl i=V.bl j)=(i == j):=by
 rw[Bool.eq_iff_iff]
 simp
theorem dec_str {i j:Str}:decide (V.str i=V.str j)=(i == j):=by
 rw[Bool.eq_iff_iff]
 simp
theorem dec_byt {i j:Array UInt8}:decide (V.byt i=V.byt j)=(i.toList == j.toList):=by
 rw[Bool.eq_iff_iff]
 cases i
 cases j
 simp
section
variable {X:Cx}{a b c:Expr}{ta tb tc:TE}{pos:Pos}
theorem fin_bl {pins:List (Addr × Obj)}{σ:St}{H:Hp}{s:Shared}{Q:VK}{k k':Bool} (I:Inv X pins σ H s) (q:Q (.bl k) H) (e:k=k'):EP X pins σ Q (.bool k') s:=by
 subst e
 exact ⟨.bl k,H,I,rfl,q⟩
theorem op_eq:OpR X (compareOp .Eq) rEq:=by
 intro pins s σ H x y v u Q I rx ry h
 obtain ⟨hs,q⟩:=h
 cases x with
 | non =>
  cases rx
  cases y with
  | non=>cases ry;exact PySem.EqNone.eq_none_none (fin_bl I q (by simp))
  | bl j=>cases ry;exact PySem.EqNone.eq_none_bool (fin_bl I q (by simp))
  | int j=>obtain ⟨t',rfl⟩:=ry;exact PySem.EqNone.eq_none_int (fin_bl I q (by simp))
  | str j=>obtain ⟨t',rfl⟩:=ry;exact PySem.EqNone.eq_none_str (fin_bl I q (by simp))
  | _=>exact absurd (show false=true from hs) Bool.false_ne_true
 | bl i =>
  cases rx
  cases y with
  | non=>cases ry;exact PySem.EqNone.eq_bool_none (fin_bl I q (by simp))
  | bl j=>cases ry;exact eq_bool (fin_bl I q dec_bl)
  | str j=>obtain ⟨t',rfl⟩:=ry;exact PySem.EqMixed.eq_bool_str (fin_bl I q (by simp))
  | _=>exact absurd (show false=true from hs) Bool.false_ne_true
 | int i =>
  obtain ⟨t,rfl⟩:=rx
  cases y with
  | non=>cases ry;exact PySem.EqNone.eq_int_none (fin_bl I q (by simp))
  | int j=>obtain ⟨t',rfl⟩:=ry;exact eq_int (fin_bl I q dec_int)
  | str j=>obtain ⟨t',rfl⟩:=ry;exact PySem.EqMixed.eq_int_str (fin_bl I q (by simp))
  | _=>exact absurd (show false=true from hs) Bool.false_ne_true
 | str i =>
  obtain ⟨t,rfl⟩:=rx
  cases y with
  | non=>cases ry;exact PySem.EqNone.eq_str_none (fin_bl I q (by simp))
  | bl j=>cases ry;exact PySem.EqMixed.eq_str_bool (fin_bl I q (by simp))
  | int j=>obtain ⟨t',rfl⟩:=ry;exact PySem.EqMixed.eq_str_int (fin_bl I q (by simp))
  | str j=>obtain ⟨t',rfl⟩:=ry;exact eq_str (fin_bl I q dec_str)
  | _=>exact absurd (show false=true from hs) Bool.false_ne_true
 | byt i =>
  obtain ⟨t,rfl⟩:=rx
  cases y with
  | byt j=>obtain ⟨t',rfl⟩:=ry;exact W.eq_bytes (fin_bl I q dec_byt)
  | _=>exact absurd (show false=true from hs) Bool.false_ne_true
 | _=>cases y <;> exact absurd (show false=true from hs) Bool.false_ne_true
theorem op_ne:OpR X (compareOp .NotEq) rNe:=by
 intro pins s σ H x y v u Q I rx ry h
 obtain ⟨hs,q⟩:=h
 cases x with
 | non =>
  cases rx
  cases y with
  | non=>cases ry;exact PySem.EqNone.ne_none_none (fin_bl I q (by simp))
  | bl j=>cases ry;exact PySem.EqNone.ne_none_bool (fin_bl I q (by simp))
  | int j=>obtain ⟨t',rfl⟩:=ry;exact PySem.EqNone.ne_none_int (fin_bl I q (by simp))
  | str j=>obtain ⟨t',rfl⟩:=ry;exact PySem.EqNone.ne_none_str (fin_bl I q (by simp))
  | _=>exact absurd (show false=true from hs) Bool.false_ne_true
 | bl i =>
  cases rx
  cases y with
  | non=>cases ry;exact PySem.EqNone.ne_bool_none (fin_bl I q (by simp))
  | bl j=>cases ry;exact ne_bool (fin_bl I q (congrArg not dec_bl))
  | str j=>obtain ⟨t',rfl⟩:=ry;exact PySem.EqMixed.ne_bool_str (fin_bl I q (by simp))
  | _=>exact absurd (show false=true from hs) Bool.false_ne_true
 | int i =>
  obtain ⟨t,rfl⟩:=rx
  cases y with
  | non=>cases ry;exact PySem.EqNone.ne_int_none (fin_bl I q (by simp))
  | int j=>obtain ⟨t',rfl⟩:=ry;exact ne_int (fin_bl I q (congrArg not dec_int))
  | str j=>obtain ⟨t',rfl⟩:=ry;exact PySem.EqMixed.ne_int_str (fin_bl I q (by simp))
  | _=>exact absurd (show false=true from hs) Bool.false_ne_true
 | str i =>
  obtain ⟨t,rfl⟩:=rx
  cases y with
  | non=>cases ry;exact PySem.EqNone.ne_str_none (fin_bl I q (by simp))
  | bl j=>cases ry;exact PySem.EqMixed.ne_str_bool (fin_bl I q (by simp))
  | int j=>obtain ⟨t',rfl⟩:=ry;exact PySem.EqMixed.ne_str_int (fin_bl I q (by simp))
  | str j=>obtain ⟨t',rfl⟩:=ry;exact ne_str (fin_bl I q (congrArg not dec_str))
  | _=>exact absurd (show false=true from hs) Bool.false_ne_true
 | byt i =>
  obtain ⟨t,rfl⟩:=rx
  cases y with
  | byt j=>obtain ⟨t',rfl⟩:=ry;exact W.ne_bytes (fin_bl I q (congrArg not dec_byt))
  | _=>exact absurd (show false=true from hs) Bool.false_ne_true
 | _=>cases y <;> exact absurd (show false=true from hs) Bool.false_ne_true
theorem op_lt:OpR X (compareOp .Lt) (rI0 fun i j=>.bl (decide (i<j))):=opB0 fun _ _ _ _ _ _ _ q=>lt_int q
theorem op_le:OpR X (compareOp .LtE) (rI0 fun i j=>.bl (decide (i<=j))):=opB0 fun _ _ _ _ _ _ _ q=>le_int q
theorem op_gt:OpR X (compareOp .Gt) (rI0 fun i j=>.bl (decide (j<i))):=opB0 fun _ _ _ _ _ _ _ q=>gt_int q
theorem op_ge:OpR X (compareOp .GtE) (rI0 fun i j=>.bl (decide (j<=i))):=opB0 fun _ _ _ _ _ _ _ q=>ge_int q
theorem nomark (b:Expr) {op:CmpOp} (h:op≠.In:=by decide) (h2:op≠.NotIn:=by decide):behindInMarks op b=false:=by
 have e1:(op == CmpOp.In)=false:=by cases op <;> first|rfl|exact absurd rfl h
 have e2:(op == CmpOp.NotIn)=false:=by cases op <;> first|rfl|exact absurd rfl h2
 cases b <;> simp[behindInMarks,e1,e2]
theorem pe_cmpR {op:CmpOp}{r:R2} (ho:OpR X (compareOp op) r) (ha:PE X a ta) (hb:PE X b tb) (hm:behindInMarks op b=false):PE X (.Compare a [op] [b] pos) (tOp r ta tb):=by
 intro pins s σ H Q I h
 exact wpAny_Compare1 (binT ha hb I h fun v u s2 x y H2 I2 rx ry q=>ho pins s2 σ H2 x y v u Q I2 rx ry q) hm
noncomputable def tTest (t:TE):TT:=fun σ H Q=>t σ H fun x H'=>∃k,x=.bl k/\Q k H'
theorem pt_cmpR {op:CmpOp}{r:R2} (ho:OpR X (compareOp op) r) (ha:PE X a ta) (hb:PE X b tb) (hm:behindInMarks op b=false):PT X (.Compare a [op] [b] pos) (tTest (tOp r ta tb)):=by
 intro pins s σ H Q I h
 refine wpAny_isTrue_Compare1 (thn (ha pins s σ H _ I h) fun v s1 ⟨x,H1,I1,r1,q1⟩=>thn (hb pins s1 σ H1 _ I1 q1) fun u s2 ⟨y,H2,I2,r2,q2⟩ =>
  thn (ho pins s2 σ H2 x y v u _ I2 r1 r2 q2) fun c s3 ⟨z,H3,I3,r3,k,e,q3⟩=>?_) hm
 subst e
 cases r3
 exact wpAny_truthy_bool ⟨H3,I3,q3⟩
noncomputable def tChain (r r':R2) (ta tb tc:TE):TE:=fun σ H Q=>ta σ H fun x H1=>tb σ H1 fun y H2=>r x y H2 fun z H3=>∃k,z=.bl k /\
 (if k=true then tc σ H3 fun w' H4=>r' y w' H4 Q else Q (.bl false) H3)
theorem pe_chain {op op':CmpOp}{r r':R2} (ho:OpR X (compareOp op) r) (ho':OpR X (compareOp op') r') (ha:PE X a ta) (hb:PE X b tb) (hc:PE X c tc)
  (hm:lastMarks [op,op'] [b,c]=false:=by with_unfolding_all rfl):PE X (.Compare a [op,op'] [b,c] pos) (tChain r r' ta tb tc):=by
 intro pins s σ H Q I h
 refine Compare_chain (thn (ha pins s σ H _ I h) fun v s1 ⟨x,H1,I1,r1,q1⟩=>chain_link (thn (hb pins s1 σ H1 _ I1 q1) fun u s2 ⟨y,H2,I2,r2,q2⟩ =>
  thn (ho pins s2 σ H2 x y v u _ I2 r1 r2 q2) fun d s3 ⟨z,H3,I3,r3,k,e,q3⟩=>?_)) hm
 subst e
 cases r3
 refine wpAny_truthy_bool ?_
 cases k with
 | false=>exact ite_ff ⟨.bl false,H3,I3,rfl,q3⟩
 | true=>exact ite_tt (chain_last (thn (hc pins s3 σ H3 _ I3 q3) fun w' s4 ⟨z',H4,I4,r4,q4⟩=>ho' pins s4 σ H4 y z' u w' Q I4 r2 r4 q4))
theorem line63:(sizeLine:Nat)<2 ^ 63:=by rw[sizeLine_eq];decide
theorem vals1 {x:V}{us:List Value} (r:Vals [x] us):∃u,us=[u]/\RelV x u:=by
 cases r with
 | cons r1 r2=>cases r2;exact ⟨_,rfl,r1⟩
theorem vals2 {x y:V}{us:List Value} (r:Vals [x,y] us):∃u w',us=[u,w']/\RelV x u/\RelV y w':=by
 cases r with
 | cons r1 r2 =>
  cases r2 with
  | cons r3 r4=>cases r4;exact ⟨_,_,rfl,r1,r3⟩
theorem call_abs:CallR X (.builtin "abs") (fun xs H Q=>∃i,xs=[.int i]/\Q (.int (if i<0 then -i else i)) H):=by
 intro pins s σ H xs us Q I r h
 obtain ⟨i,rfl,q⟩:=h
 obtain ⟨u,rfl,t,rfl⟩:=vals1 r
 exact call_abs_int fun u tk=>⟨.int (if i<0 then -i else i),H,I.tok _,⟨_,rfl⟩,q⟩
theorem call_max2 (hc:X.calm=true):CallR X (.builtin "max") (fun xs H Q=>∃i j,xs=[.int i,.int j]/\Q (.int (if j > i then j else i)) H):=by
 intro pins s σ H xs us Q I r h
 obtain ⟨i,j,rfl,q⟩:=h
 obtain ⟨u,w',rfl,⟨t,rfl⟩,⟨t',rfl⟩⟩:=vals2 r
 refine max_two_ints (I.ok.hd hc) fun h' tk k=>⟨_,H,I.kept k,?_,q⟩
 by_cases hj:j > i
 ·rw[if_pos hj,if_pos hj];exact ⟨_,rfl⟩
 ·rw[if_neg hj,if_neg hj];exact ⟨_,rfl⟩
theorem call_min2 (hc:X.calm=true):CallR X (.builtin "min") (fun xs H Q=>∃i j,xs=[.int i,.int j]/\Q (.int (if j<i then j else i)) H):=by
 intro pins s σ H xs us Q I r h
 obtain ⟨i,j,rfl,q⟩:=h
 obtain ⟨u,w',rfl,⟨t,rfl⟩,⟨t',rfl⟩⟩:=vals2 r
 refine min_two_ints (I.ok.hd hc) fun h' tk k=>⟨_,H,I.kept k,?_,q⟩
 by_cases hj:j<i
 ·rw[if_pos hj,if_pos hj];exact ⟨_,rfl⟩
 ·rw[if_neg hj,if_neg hj];exact ⟨_,rfl⟩
theorem call_int1:CallR X (.type "int") (fun xs H Q=>(∃i,xs=[.int i]/\Q (.int i) H) ∨ ∃k,xs=[.bl k]/\Q (.int (if k then 1 else 0)) H):=by
 intro pins s σ H xs us Q I r h
 rcases h with ⟨i,rfl,q⟩|⟨k,rfl,q⟩
 ·obtain ⟨u,rfl,t,rfl⟩:=vals1 r
  exact call_int_int ⟨.int i,H,I,⟨_,rfl⟩,q⟩
 ·obtain ⟨u,rfl,r1⟩:=vals1 r
  cases r1
  exact call_int_bool ⟨.int (if k then 1 else 0),H,I.tok _,⟨_,rfl⟩,q⟩
end
end L2
namespace L2
open PySem PySem.Spec PyProof.Rows
structure ObjM (h:Heap) (x dx C:Addr) (mA:Str->Option Value):Prop where
 obj:h.get? x=some (W.instObj C dx)
 ns:h.Ns1 dx mA
 ne:dx≠x
theorem lookIn_ns {h:Heap}{dx:Addr}{mA:Str->Option Value} (n:h.Ns1 dx mA):∃od,h.get? dx=some od/\∀name,W.lookIn name od=some (mA name):=by
 obtain ⟨o,es,ep,ho,hd,hk,_,hm⟩:=n
 refine ⟨o,ho,fun name=>?_⟩
 have e:=hm name
 unfold nsFind findBy at e
 rw[<- Array.find?_toList] at e
 unfold W.lookIn
 rw[hd]
 dsimp only
 split
 ·rename_i y q
  rw[q] at e
  exact congrArg some e
 ·rename_i q
  rw[q] at e
  have a:es.toList.any (·.refKey)=false:=by
   rw[List.any_eq_false]
   intro y hy
   obtain ⟨z,t,hkey⟩:=hk y (Array.mem_toList_iff.mp hy)
   simp[DictEntry.refKey,hkey]
  have a':¬ es.toList.any (·.refKey)=true:=by rw[a];exact Bool.false_ne_true
  rw[if_neg a']
  exact congrArg some e
theorem ObjM.look {h:Heap}{x dx C:Addr}{mA:Str->Option Value} (I:ObjM h x dx C mA):∃od,W.InstAt h x (W.instObj C dx) C (some od)/\∀name,W.lookIn name od=some (mA name):=
 let ⟨od,ho,hl⟩:=lookIn_ns I.ns
 ⟨od,⟨I.obj,rfl,rfl,ho⟩,hl⟩
section
variable {prog:Program}{w:World}{A:Around}{E:Value->Shared->Prop}{s:Shared}{K:W.Frag}{x dx C f:Addr}{mA:Str->Option Value}{name:Str}{v:Value}
end
theorem RelO.some_of {v:V}{o:Option Value} (r:RelO (some v) o):∃u,o=some u/\RelV v u:=by
 cases o with
 | none=>exact (show False from r).elim
 | some u=>exact ⟨u,rfl,r⟩
section
variable {P:Program}{w:World}{H H':Hp}{h h':Heap}{a C dx:Addr}{fs fs':List (Str × V)}
theorem ins_get (hok:HOk P w H h) (e:H a=some (.ins C dx fs)):∃mA,ObjM h a dx C mA/\(∀f,RelO (fs.lookup f) (mA f))/\PySem.Within mA (fs.map (·.1))/\fs.length<=1000/\H dx=some (.own a):=by
 obtain ⟨d,z,ne,ob,mA,n,r,q⟩:=(show ObjOk P w H h a (.ins C dx fs) from hok a _ e)
 exact ⟨mA,⟨ob,n,ne⟩,r,q,z,d⟩
end
structure Cls (K:W.Frag) (C:Addr):Prop where
 pg:W.plainGet K C Str.empty=true
 hd:W.hasDictIn K C=true
 po:W.plainOver K C=true
 sa:W.findIn K (.ref C) "__setattr__"=some (some (.builtin "object.__setattr__"))
theorem Cls.get {K:W.Frag}{C:Addr} (c:Cls K C) (f:Str):W.plainGet K C f=true:=c.pg
structure Con (K:W.Frag) (C:Addr) (f:Str) (v:V) (u:Value):Prop where
 at_:W.findIn K (.ref C) f=some (some u)
 rel:RelV v u
 get:W.specialIn K u "__get__"=some none
 cp:W.copiedNames.contains f=false
structure Meth (K:W.Frag) (C:Addr) (m:Str) (f:Addr):Prop where
 at_:W.findIn K (.ref C) m=some (some (.ref f))
 fn:W.isFn K (.ref f)=true
 kp:W.keepIn K (.ref f)=true
section
variable {X:Cx}{pins:List (Addr × Obj)}{σ:St}{H:Hp}{s:Shared}{a C dx:Addr}{fs:List (Str × V)}{f:Str}{v:V}{A:Around}{E:Value->Shared->Prop}
end
section
variable {X:Cx}{o e value:Expr}{f:Str}{pos pos' tpos:Pos}{ta tv:TE}
end
section
variable {X:Cx}{pins:List (Addr × Obj)}{σ:St}{H:Hp}{s:Shared}{A:Around}{E:Value->Shared->Prop}{Q:Value->Shared->Prop}{c:Value}{b:Bool}
inductive TyOf (K:W.Frag) (H:Hp):V->Value->Prop where
 | non:TyOf K H .non (.type "NoneType")
 | bl (x:Bool):TyOf K H (.bl x) (.type "bool")
 | int (i:Int):TyOf K H (.int i) (.type "int")
 | str (x:Str):TyOf K H (.str x) (.type "str")
 | flt (x:UInt64):TyOf K H (.flt x) (.type "float")
 | lst {a:Addr}{xs:List V} (e:H a=some (.lst xs)):TyOf K H (.ref a) (.type "list")
 | frz {a:Addr}{o:Obj}{xs:List V} (e:H a=some (.frz o (.lst xs))):TyOf K H (.ref a) (.type "list")
 | tup {a:Addr}{xs:List V} (e:H a=some (.tup xs)):TyOf K H (.ref a) (.type "tuple")
 | dK {a:Addr}{kvs:List (Key × V)} (e:H a=some (.dK kvs)):TyOf K H (.ref a) (.type "dict")
 | dT {a:Addr}{kvs:List (List Key × V)} (e:H a=some (.dT kvs)):TyOf K H (.ref a) (.type "dict")
 | ins {a C dx:Addr}{fs:List (Str × V)} (e:H a=some (.ins C dx fs)) (cl:Cls K C) (ha:W.findIn K (.ref C) "__class__"=some (some (.builtin "object.__class__")))
   (hn:W.specialIn K (.builtin "object.__class__") "__get__"=some (some (.builtin "getset_descriptor.__get__"))) (htk:W.takesIn K (.builtin "object.__class__")=some true)
   (hm:W.mroIn K C (.type "object")=some true):TyOf K H (.ref a) (.ref C)
theorem isinst_ok {x:V}{u t:Value} (I:Inv X pins σ H s) (rx:RelV x u) (ty:TyOf X.K H x t) (e:W.kitOne X.K t c=some b) (h:∀tk,Q (.bool b) { s with toks:=tk }):
  wpAny (model X.prog X.w) A (call (.builtin "isinstance") [u,c]) Q E s:=by
 cases ty with
 | non=>cases (show u=Value.none from rx);exact W.kia_one W.kitx_none I.kIn True.intro e (fun z=>nomatch z) h
 | bl y=>cases (show u=Value.bool y from rx);exact W.kia_one W.kitx_bool I.kIn True.intro e (fun z=>nomatch z) h
 | int i=>obtain ⟨t,q⟩:=(show ∃t,u=Value.int i t from rx);cases q;exact W.kia_one W.kitx_int I.kIn True.intro e (fun z=>nomatch z) h
 | str y=>obtain ⟨t,q⟩:=(show ∃t,u=Value.str y t from rx);cases q;exact W.kia_one W.kitx_str I.kIn True.intro e (fun z=>nomatch z) h
 | flt y=>obtain ⟨t,q⟩:=(show ∃t,u=Value.float y t from rx);cases q;exact W.kia_one W.kitx_float I.kIn True.intro e (fun z=>nomatch z) h
 | @lst a xs ea =>
  cases (show u=Value.ref a from rx)
  obtain ⟨_,_,n,_,h1⟩:=(show ObjOk X.prog X.w H s.heap a (.lst xs) from I.hok a _ ea)
  exact W.kia_one W.kitx_list I.kIn ⟨_,h1,rfl⟩ e (fun z=>nomatch z) h
 | @frz a ob xs ea =>
  cases (show u=Value.ref a from rx)
  obtain ⟨_,_,_,n,_,h1⟩:=(show ObjOk X.prog X.w H s.heap a (.frz ob (.lst xs)) from I.hok a _ ea)
  exact W.kia_one W.kitx_list I.kIn ⟨_,h1,rfl⟩ e (fun z=>nomatch z) h
 | @tup a xs ea =>
  cases (show u=Value.ref a from rx)
  obtain ⟨_,_,_,p⟩:=(show ObjOk X.prog X.w H s.heap a (.tup xs) from I.hok a _ ea)
  obtain ⟨o,h1,h2,_⟩:=p
  exact W.kia_one W.kitx_tuple I.kIn ⟨o,h1,h2⟩ e (fun z=>nomatch z) h
 | @dK a kvs ea =>
  cases (show u=Value.ref a from rx)
  obtain ⟨_,_,vs,_,p⟩:=(show ObjOk X.prog X.w H s.heap a (.dK kvs) from I.hok a _ ea)
  obtain ⟨o,es,ep,h1,h2,_⟩:=p
  exact W.kia_one W.kitx_dict I.kIn ⟨o,h1,h2.1⟩ e (fun z=>nomatch z) h
 | @dT a kvs ea =>
  cases (show u=Value.ref a from rx)
  obtain ⟨_,_,xs,_,o,es,ep,h1,h2,_⟩:=(show ObjOk X.prog X.w H s.heap a (.dT kvs) from I.hok a _ ea)
  exact W.kia_one W.kitx_dict I.kIn ⟨o,h1,h2.1⟩ e (fun z=>nomatch z) h
 | @ins a C dx fs ea cl ha hn htk hm =>
  cases (show u=Value.ref a from rx)
  obtain ⟨mA,O,_⟩:=ins_get I.hok ea
  obtain ⟨od,J,_⟩:=O.look
  exact W.kia_one (W.kitx_own (cl.get _) cl.hd ha hn htk hm) I.kIn J e (fun z=>nomatch z) h
end
end L2
namespace L2
open PySem PySem.Spec PyProof.Rows
structure Room (k:Nat) (A:Around):Prop where
 hd:A.handled=none
 dp:A.depth+3*k+5<recursionLimit
 un:A.units+16*k+200<cLine
theorem Room.mono {j k:Nat}{A:Around} (r:Room k A) (h:j<=k):Room j A:=⟨r.hd,by have:=r.dp;omega,by have:=r.un;omega⟩
theorem Room.deeper {k:Nat}{A:Around} (r:Room (k+1) A) (env:Env):Room k (A.deeper env):=
 ⟨r.hd,by have:=r.dp;show A.depth+1+3*k+5<_;omega,by have:=r.un;show A.units+3+16*k+200<_;omega⟩
theorem Room.depth {k:Nat}{A:Around} (r:Room k A):A.depth<recursionLimit:=by have:=r.dp;omega
theorem Room.units {k:Nat}{A:Around} (r:Room k A):A.units+64<cLine:=by have:=r.un;omega
noncomputable def tNil:TA:=fun _ H Q=>Q [] H
noncomputable def tCons (ta:TE) (tr:TA):TA:=fun σ H Q=>ta σ H fun x H1=>tr σ H1 fun xs H2=>Q (x::xs) H2
section
variable {X:Cx}{e:Expr}{es:List Expr}{te:TE}{t:TA}{pos:Pos}
theorem pa_nil:PA X [] tNil:=fun _ _ _ _ H Q I h=>Calls.spliced_nil ⟨[],H,I,.nil,h⟩
theorem pa_cons (ha:PE X e te) (hr:PA X es t) (hs:starEach (e::es) X.env=(false,eval e X.env)::starEach es X.env:=by rfl):PA X (e::es) (tCons te t):=by
 intro pos pins s σ H Q I h
 rw[hs]
 show wpAny _ _ (spliced ((false,eval e X.env)::backTo pos (starEach es X.env))) _ _ s
 refine Calls.spliced_cons (thn (ha pins s σ H _ I h) fun u s1 ⟨x,H1,I1,r1,q1⟩=>?_)
 exact thn (hr pos pins s1 σ H1 _ I1 q1) fun us s2 ⟨xs,H2,I2,r2,q2⟩=>⟨x::xs,H2,I2,.cons r1 r2,q2⟩
noncomputable def tTup (t:TA):TE:=fun σ H Q=>t σ H fun xs H1=>xs.length<=sizeLine/\∀p,H1 p=none->Q (.ref p) (upd H1 p (.tup xs))
noncomputable def tLst (t:TA):TE:=fun σ H Q=>t σ H fun xs H1=>xs.length<=sizeLine/\∀p,H1 p=none->Q (.ref p) (upd H1 p (.lst xs))
theorem pe_tup {x1} (h:PA X es t):PE X (.Tuple es x1 pos) (tTup t):=by
 intro pins s σ H Q I hq
 refine wpAny_Tuple_spliced (thn (h pos pins s σ H _ I hq) fun us s1 ⟨xs,H1,I1,r,z,q⟩=>⟨by rw[<- r.length];exact z,?_⟩)
 have hf:H1 s1.heap.objs.size=none:=I1.hok.fresh (Nat.le_refl _)
 refine ⟨.ref s1.heap.objs.size,upd H1 s1.heap.objs.size (.tup xs),I1.laid (t':=s1.toks) (fun b u e=>Heap.get?_push_of_some _ e) (Nat.le_refl _) ?_,rfl,q _ hf⟩
 exact ⟨z,us,r,⟨_,Heap.get?_push_size _ rfl,rfl,_,rfl⟩⟩
theorem pe_lst (h:PA X es t):PE X (.List es pos) (tLst t):=by
 intro pins s σ H Q I hq
 refine wpAny_List_spliced (thn (h pos pins s σ H _ I hq) fun us s1 ⟨xs,H1,I1,r,z,q⟩=>⟨by rw[<- r.length];exact z,?_⟩)
 have hf:H1 s1.heap.objs.size=none:=I1.hok.fresh (Nat.le_refl _)
 refine ⟨.ref s1.heap.objs.size,upd H1 s1.heap.objs.size (.lst xs),I1.laid (t':=s1.toks) (fun b u e=>Heap.get?_push_of_some _ e) (Nat.le_refl _) ?_,rfl,q _ hf⟩
 exact ⟨z,us,0,r,Heap.get?_push_size _ rfl⟩
end
noncomputable abbrev Sp:=List V->Hp->VK->XK->Prop
noncomputable abbrev CXT:=List Env->Hp->Shared->XK->Value->Shared->Prop
structure Env0 (P:Program) (w:World) (K:W.Frag) (mg:Str->Option Value) (base:Heap) (A:Around) (outer:List Env) (s:Shared) (H:Hp):Prop where
 frames:A.frames=some outer
 mod:Mod K mg base
 bs:∀b o,base.get? b=some o->s.heap.get? b=some o/\H b=none
 bsz:base.objs.size<=s.heap.objs.size
 funs:s.heap.FunFrames base outer
 frf:∀b∈frs outer,H b=none
 hok:HOk P w H s.heap
 bare:AllBare s.gens
noncomputable def CE (outer:List Env) (P:Program) (w:World) (H:Hp) (s:Shared) (Q:VK) (u:Value) (s':Shared):Prop :=
 ∃v H',s'.os=s.os/\AllBare s'.gens/\Un (frs outer) [] H H' s.heap s'.heap/\HOk P w H' s'.heap/\RelV v u/\Q v H'
noncomputable def CR (CX:CXT) (outer:List Env) (P:Program) (w:World) (H:Hp) (s:Shared) (Q:VK) (E:XK) (r:Result) (s':Shared):Prop :=
 match r with
 | .ok (.ret u)=>CE outer P w H s Q u s'
 | .ok _=>False
 | .error e=>CX outer H s E e s'
structure FnOk (P:Program) (w:World) (K:W.Frag) (mg:Str->Option Value) (base:Heap) (CX:CXT) (k:Nat) (f:Addr) (fd:FuncData) (ps:List Str) (sp:Sp):Prop where
 len:∀vs H Q E,sp vs H Q E->vs.length=ps.length
 run:∀(A:Around) (outer:List Env) (s:Shared) (H:Hp) (args:Args) (us:List Value) (vs:List V) (Q:VK) (E:XK),Room k A->Env0 P w K mg base A outer s H->BindsTo s fd args (ps.zip us)->Vals vs us->sp vs H Q E ->
  codeAny (model P w) A (.call (.ref f) args) (CR CX outer P w H s Q E) s
theorem FnOk.mono {P:Program}{w:World}{K:W.Frag}{mg:Str->Option Value}{base:Heap}{CX:CXT}{j k:Nat}{f:Addr}{fd:FuncData}{ps:List Str}{sp:Sp} (F:FnOk P w K mg base CX j f fd ps sp) (h:j<=k):
  FnOk P w K mg base CX k f fd ps sp:=⟨F.len,fun A outer s H args us vs Q E hr=>F.run A outer s H args us vs Q E (hr.mono h)⟩
section
variable {X:Cx}{pins:List (Addr × Obj)}{σ:St}{H:Hp}{s s':Shared}
theorem Inv.env0 (I:Inv X pins σ H s):Env0 X.prog X.w X.K X.mg X.base X.A X.stack s H :=
 ⟨I.ok.frames,I.ok.mod,I.bs,Nat.le_trans I.ok.bsz I.sz,I.stack,I.stkFree,I.hok,I.bare⟩
theorem Inv.after {Q:VK}{u:Value} (I:Inv X pins σ H s) (h:CE X.stack X.prog X.w H s Q u s'):EP X pins σ Q u s':=by
 obtain ⟨v,H',os,bare,un,hok,r,q⟩:=h
 obtain ⟨hh,g,d,t,os'⟩:=s'
 obtain rfl:os'=s.os:=os
 exact ⟨v,H',I.call (h':=hh) (g':=g) (d':=d) (t':=t) (ch:=[]) un hok bare (fun b z=>absurd z (by simp)),r,q⟩
end
noncomputable def tCall (sp:Sp) (dvs:List V) (E:XK) (t:TA):TE:=fun σ H Q=>t σ H fun vs H1=>sp (vs++dvs) H1 Q E
noncomputable def Binds (K:W.Frag) (fd:FuncData) (ps:List Str) (ds:List Value):Prop :=
 ∀(s:Shared) (us:List Value),K.In s.heap->(us++ds).length=ps.length->BindsTo s fd ⟨us,[]⟩ (ps.zip (us++ds))
theorem Binds.all {K:W.Frag}{fd:FuncData}{ps:List Str} (h:∀us:List Value,us.length=ps.length->bindArgs fd ⟨us,[]⟩=pure (ps.zip us)):Binds K fd ps []:=fun s us _ hl=>by
 rw[List.append_nil] at hl ⊢
 exact .of_eq (h us hl)
noncomputable def Passes (CX:CXT) (X:Cx) (E:XK):Prop:=∀(pins:List (Addr × Obj)) (σ:St) (H:Hp) (s:Shared) (e:Value) (s':Shared),Inv X pins σ H s->CX X.stack H s E e s'->X.xe e s'
section
variable {X:Cx}{CX:CXT}{k:Nat}{f C:Addr}{fd:FuncData}{ps:List Str}{sp:Sp}{dvs:List V}{ds:List Value}{E:XK}{x m:Str}{p pos apos:Pos}{e o:Expr}{es:List Expr}{ta:TE}{t:TA}
theorem run_fn {pins:List (Addr × Obj)}{σ:St}{H:Hp}{s:Shared}{Q:VK}{us:List Value}{vs:List V} (F:FnOk X.prog X.w X.K X.mg X.base CX k f fd ps sp) (hr:Room k X.A) (hb:Binds X.K fd ps ds) (hd:Vals dvs ds) (hx:Passes CX X E)
  (I:Inv X pins σ H s) (r:Vals vs us) (h:sp (vs++dvs) H Q E):wpAny (model X.prog X.w) X.A (call (.ref f) us) (EP X pins σ Q) X.xe s:=by
 have r2:Vals (vs++dvs) (us++ds):=r.append hd
 have hl:(us++ds).length=ps.length:=by rw[<- r2.length];exact F.len _ _ _ _ h
 refine wpAny_call (codeAny_mono (F.run X.A X.stack s H ⟨us,[]⟩ (us++ds) (vs++dvs) Q E hr I.env0 (hb s us I.kIn hl) r2 h) fun r s' hq=>?_)
 cases r with
 | error e=>exact hx pins σ H s e s' I hq
 | ok fl =>
  cases fl with
  | ret u=>exact I.after hq
  | next=>exact False.elim hq
  | brk=>exact False.elim hq
  | cont=>exact False.elim hq
theorem pe_call (F:FnOk X.prog X.w X.K X.mg X.base CX k f fd ps sp) (hr:Room k X.A) (hg:Gl X x) (hm:X.mg x=some (.ref f)) (hk:W.keepIn X.K (.ref f)=true) (hb:Binds X.K fd ps ds) (hd:Vals dvs ds) (hx:Passes CX X E)
  (ha:PA X (e::es) t) (hdb:(x == ("__debug__":Str))=false:=by decide) (he:starEach (e::es) X.env=(false,eval e X.env)::starEach es X.env:=by rfl) (hpl:(backTo pos (starEach es X.env)).any (·.1)=false:=by rfl):
  PE X (.Call (.Name x p) (e::es) [] pos) (tCall sp dvs E t):=by
 intro pins s σ H Q I h
 refine wpAny_Call_Name_kw (ld_glob I hg hm ?_ hdb)
 refine W.callWith_K (h₀:=X.base) I.ok.mod.kin hk (thn (ha pos pins s σ H _ I h) fun us s1 ⟨vs,H1,I1,r,q⟩=>⟨I1.kIn,?_⟩) he hpl
 exact run_fn F hr hb hd hx I1 r q
structure Mk (K:W.Frag) (C f:Addr):Prop where
 makes:W.makesIn K C=true
 init:W.findIn K (.ref C) "__init__"=some (some (.ref f))
 fn:W.isFn K (.ref f)=true
 kp:W.keepIn K (.ref C)=true
end
section
variable {X:Cx}{CX:CXT}{k:Nat}{f C:Addr}{fd:FuncData}{ps ks:List Str}{sp:Sp}{E:XK}{x m:Str}{p pos apos kpos:Pos}{e o:Expr}{es:List Expr}{kws:List Keyword}{te ta:TE}{t tk:TA}{nm:Option Str}
structure KBinds (K:W.Frag) (fd:FuncData) (ps ks:List Str) (g:List Value->List Value->List Value) (gV:List V->List V->List V):Prop where
 to:∀(s:Shared) (us ws:List Value),K.In s.heap->(g us ws).length=ps.length->BindsTo s fd ⟨us,ks.zip ws⟩ (ps.zip (g us ws))
 rel:∀{vs:List V}{us:List Value}{zs:List V}{ws:List Value},Vals vs us->Vals zs ws->Vals (gV vs zs) (g us ws)
variable {g:List Value->List Value->List Value}{gV:List V->List V->List V}
end
structure FnScope (N P:List Str) (sc:Scope):Prop where
 kind:sc.kind=.function
 co:sc.isCoroutine=false
 gen:sc.isGenerator=false
 nd:N.Nodup
 pre:N.take P.length=P
 par:∀x∈P,sc.names.lookup x=some .local ∨ sc.names.lookup x=some .cell
 nofree:∀y∈sc.names,y.2≠.free
theorem bindL_out {kindOf:Str->Option NameKind}{x:Str}:∀{binds:List (Str × Value)}{m:Str->Option Value},(∀v,(x,v) ∉ binds)->bindL kindOf binds m x=m x
 | [],_,_=>rfl
 | (n,v)::r,m,h=>by
  unfold bindL
  rw[bindL_out fun w hw=>h w (List.mem_cons_of_mem _ hw)]
  split
  ·have:x≠n:=by rintro rfl;exact h v List.mem_cons_self
   simp[this]
  ·rfl
theorem bindC_out {kindOf:Str->Option NameKind}{x:Str}:∀{binds:List (Str × Value)}{m:Str->Option Value},(∀v,(x,v) ∉ binds)->bindC kindOf binds m x=m x
 | [],_,_=>rfl
 | (n,v)::r,m,h=>by
  unfold bindC
  rw[bindC_out fun w hw=>h w (List.mem_cons_of_mem _ hw)]
  split
  ·rfl
  ·have:x≠n:=by rintro rfl;exact h v List.mem_cons_self
   simp[this]
theorem bindL_get {kindOf:Str->Option NameKind}{x:Str}{v:Value}:∀{P:List Str}{vs:List Value}{i:Nat}{m:Str->Option Value},P.Nodup->P[i]?=some x->vs[i]?=some v->kindOf x=some .local ->
  bindL kindOf (P.zip vs) m x=some v
 | [],_,_,_,_,h,_,_=>by simp at h
 | _::_,[],_,_,_,_,h,_=>by simp at h
 | p::P,w::vs,0,m,nd,h1,h2,hk=>by
  simp at h1 h2;subst h1;subst h2
  show bindL kindOf ((p,w)::P.zip vs) m p=_
  unfold bindL
  rw[bindL_out fun v hv=>(List.nodup_cons.mp nd).1 (List.of_mem_zip hv).1,if_pos hk]
  simp
 | p::P,w::vs,i+1,m,nd,h1,h2,hk=>by
  show bindL kindOf ((p,w)::P.zip vs) m x=_
  unfold bindL
  exact bindL_get (i:=i) (List.nodup_cons.mp nd).2 (by simpa using h1) (by simpa using h2) hk
theorem bindC_get {kindOf:Str->Option NameKind}{x:Str}{v:Value}:∀{P:List Str}{vs:List Value}{i:Nat}{m:Str->Option Value},P.Nodup->P[i]?=some x->vs[i]?=some v->kindOf x≠some .local ->
  bindC kindOf (P.zip vs) m x=some v
 | [],_,_,_,_,h,_,_=>by simp at h
 | _::_,[],_,_,_,_,h,_=>by simp at h
 | p::P,w::vs,0,m,nd,h1,h2,hk=>by
  simp at h1 h2;subst h1;subst h2
  show bindC kindOf ((p,w)::P.zip vs) m p=_
  unfold bindC
  rw[bindC_out fun v hv=>(List.nodup_cons.mp nd).1 (List.of_mem_zip hv).1,if_neg hk]
  simp
 | p::P,w::vs,i+1,m,nd,h1,h2,hk=>by
  show bindC kindOf ((p,w)::P.zip vs) m x=_
  unfold bindC
  exact bindC_get (i:=i) (List.nodup_cons.mp nd).2 (by simpa using h1) (by simpa using h2) hk
noncomputable def start (N:List Str) (vs:List V):St:=vs.map some++List.replicate (N.length - vs.length) none
noncomputable def cxOf (CX:CXT) (P:Program) (w:World) (K:W.Frag) (mg:Str->Option Value) (base:Heap) (N:List Str) (qual:Str) (scope:Scope) (f:Addr) (cd:Value) (A:Around) (outer:List Env) (s:Shared) (H:Hp) (E:XK):Cx where
 prog:=P
 w:=w
 K:=K
 mg:=mg
 base:=base
 A:=A.deeper (envOfC qual scope s.heap.objs.size f cd)
 N:=N
 s₀:=s
 H₀:=H
 env:=envOfC qual scope s.heap.objs.size f cd
 outer:=outer
 stack:=envOfC qual scope s.heap.objs.size f cd::outer
 ex:=[]
 calm:=true
 fn:=fun _=>true
 pn:=[]
 xe:=fun e s'=>wpAny (model P w) (A.deeper (envOfC qual scope s.heap.objs.size f cd)) (leaving (envOfC qual scope s.heap.objs.size f cd) e) (fun _ s''=>CX outer H s E e s'') (fun e' s''=>CX outer H s E e' s'') s'
theorem cell_has {sc:Scope}{n:Nat}{x:Str} (h:sc.names.lookup x=some .cell):∃c,(cellsFrom n sc.names []).lookup x=some c:=by
 have q:=W.cellsFrom_some sc.names n [] (.inl h)
 exact Option.isSome_iff_exists.mp q
theorem inv_start {CX:CXT}{P:Program}{w:World}{K:W.Frag}{mg:Str->Option Value}{base:Heap}{N ps:List Str}{qual:Str}{scope:Scope}{f:Addr}{cd:Value}{A:Around}{outer:List Env}{s s1:Shared}{H:Hp}{E:XK}{us:List Value}{vs:List V}
  (S:FnScope N ps scope) (hd:A.handled=none) (e0:Env0 P w K mg base A outer s H) (hl:vs.length=ps.length) (r:Vals vs us)
  (x:InCallC s s.heap.objs.size (bindL (envOfC qual scope s.heap.objs.size f cd).kindOf (ps.zip us) fun _=>none) (cellsFrom (s.heap.objs.size+1) scope.names []) (bindC (envOfC qual scope s.heap.objs.size f cd).kindOf (ps.zip us) fun _=>none) s1):
  Inv (cxOf CX P w K mg base N qual scope f cd A outer s H E) [] (start N vs) H s1:=by
 have hpl:ps.length<=N.length:=by have:=congrArg List.length S.pre;rw[List.length_take] at this;omega
 obtain ⟨h1,tk,rfl,hk⟩:=x.done
 have noA:∀b:Addr,b ∉ (cxOf CX P w K mg base N qual scope f cd A outer s H E).ex:=fun b z=>absurd (show b∈([]:List Addr) from z) (by simp)
 refine ⟨⟨e0.mod,S.kind,rfl,rfl,Nat.le_refl _,fun y z c h1 h2=>?_,fun y hy=>?_,fun y c _ h=>?_,fun _=>hd,Around.frames_deeper e0.frames,.inr ⟨rfl,rfl⟩,fun b z=>absurd z (noA b),e0.bs,e0.bsz,fun b _ _=>noA b,fun b z=>absurd z (noA b),e0.funs,e0.frf⟩,
  rfl,e0.bare,Un.kept hk,⟨_,x.toInCall.ns,fun i y v h1 h2 h3=>?_⟩,fun y c h=>⟨_,x.cell y c h⟩,e0.hok.fresh (Nat.le_refl _),fun y c h=>?_,fun p hp=>absurd (show p∈([]:List (Addr × Obj)) from hp) (by simp),e0.hok.kept hk,?_⟩
 ·exact name_of_addr x.apart (PySem.mem_of_lookup h1) (PySem.mem_of_lookup h2)
 ·have hy:scope.names.lookup y=some .cell ∨ scope.names.lookup y=some .free:=hy
  rcases hy with hy|hy
  ·exact cell_has hy
  ·exact absurd rfl (S.nofree _ (PySem.mem_of_lookup hy))
 ·exact Nat.le_of_lt (x.above y c (PySem.mem_of_lookup h))
 ·have hi:i<vs.length:=by
   unfold start at h2
   by_cases hi:i<vs.length
   ·exact hi
   ·rw[List.getElem?_append_right (by simpa using hi)] at h2
    rw[List.getElem?_replicate] at h2
    split at h2 <;> cases h2
  have ha:vs[i]?=some v:=by
   unfold start at h2
   rw[List.getElem?_append_left (by simpa using hi),List.getElem?_map] at h2
   cases e:vs[i]? with
   | none=>rw[e] at h2;cases h2
   | some a=>rw[e] at h2;cases h2;rfl
  obtain ⟨u,hu,rv⟩:=r.get ha
  have hp:ps[i]?=some y:=by
   rw[<- S.pre,List.getElem?_take_of_lt (by omega)];exact h1
  have ndP:ps.Nodup:=by rw[<- S.pre];exact S.nd.sublist (List.take_sublist _ _)
  refine ⟨u,rv,?_⟩
  rcases S.par y (List.mem_of_getElem? hp) with k|k
  ·exact .inl ⟨k,bindL_get ndP hp hu k⟩
  ·obtain ⟨c,e⟩:=cell_has (n:=s.heap.objs.size+1) k
   refine .inr ⟨.inl k,c,e,?_⟩
   have q:=x.cell y c e
   rw[bindC_get ndP hp hu (by show scope.names.lookup y≠_;rw[k];decide)] at q
   exact q
 ·exact e0.hok.fresh (Nat.le_of_lt (x.above y c (PySem.mem_of_lookup h)))
 ·unfold start
  show _=N.length
  rw[List.length_append,List.length_map,List.length_replicate]
  omega
theorem fn_of {CX:CXT}{P:Program}{w:World}{K:W.Frag}{mg:Str->Option Value}{base:Heap}{k:Nat}{f:Addr}{name qual:Str}{params:Arguments}{body:List Stmt}{scope:Scope}{dV kV doc pm cdv ct oc:Value}{an od:Option Addr}
  {osl:Array (Option Value)}{N ps:List Str}{sp:Sp} (lk:K.lookup f=some ⟨oc,od,.func (W.fnOf name qual params body scope dV kV doc pm an cdv ct),osl⟩) (hcd:W.codeIn K cdv qual=true) (S:FnScope N ps scope)
  (len:∀vs H Q E,sp vs H Q E->vs.length=ps.length)
  (hbody:∀(A:Around) (outer:List Env) (s:Shared) (H:Hp) (vs:List V) (Q:VK) (E:XK),Room k (A.deeper (envOfC qual scope s.heap.objs.size f cdv))->sp vs H Q E ->
   ∃t,PSs (cxOf CX P w K mg base N qual scope f cdv A outer s H E) body t/\t { nx:=fun _ H'=>Q .non H',rt:=Q } (start N vs) H):
  FnOk P w K mg base CX (k+1) f (W.fnOf name qual params body scope dV kV doc pm an cdv ct) ps sp:=by
 refine ⟨len,fun A outer s H args us vs Q E hr e0 hb r hsp=>?_⟩
 have hl:=len _ _ _ _ hsp
 have KX:K.In s.heap:=e0.mod.kin.keeps fun b o e=>(e0.bs b o e).1
 have lim:s.heap.NoLimit:=e0.mod.nolimit.keeps fun b o e=>(e0.bs b o e).1
 have hkind:∀y∈ps.zip us,scope.names.lookup y.1=some .local ∨ (scope.names.lookup y.1=some .cell/\((cellsFrom (s.heap.objs.size+1) scope.names []).lookup y.1).isSome=true):=fun ⟨n,v⟩ hy=>by
  rcases S.par n (List.of_mem_zip hy).1 with q|q
  ·exact .inl q
  ·exact .inr ⟨q,W.cellsFrom_some _ _ _ (.inl q)⟩
 refine codeAny_call_function hr.depth (KX _ _ lk) rfl S.co S.gen rfl (W.codeRec_of KX hcd) (hb _ _ _ _ ?_)
 refine wpAny_newFunctionEnv_cells S.kind hkind fun env he s1 x=>?_
 subst he
 refine ⟨lim.keeps x.toInCall.keep,codeAny_func ?_⟩
 obtain ⟨t,ht,hq⟩:=hbody A outer s H vs Q E (hr.deeper _) hsp
 have I:Inv (cxOf CX P w K mg base N qual scope f cdv A outer s H E) [] (start N vs) H s1:=inv_start S hr.hd e0 hl r x
 refine wpAny_mono (ht [] s1 (start N vs) H _ I hq) (fun fl s' hs=>?_) fun e s' hs=>hs
 have fin:∀{σ':St}{H':Hp}{v:V}{u:Value},Inv (cxOf CX P w K mg base N qual scope f cdv A outer s H E) [] σ' H' s'->RelV v u->Q v H'->CE outer P w H s Q u s' :=
  fun {σ' H' v u} J rv q=>⟨v,H',J.os,J.bare,J.base,J.hok,rv,q⟩
 cases fl with
 | ret u =>
  obtain ⟨v,σ',H',J,rv,q⟩:=hs
  exact fin J rv q
 | next =>
  obtain ⟨σ',H',J,q⟩:=hs
  exact fin (v:=V.non) (u:=Value.none) J rfl q
 | brk =>
  obtain ⟨_,_,_,q⟩:=hs
  exact False.elim q
 | cont =>
  obtain ⟨_,_,_,q⟩:=hs
  exact False.elim q
end L2
namespace L2
open PySem PySem.Spec PyProof.Rows
section
variable {X:Cx}{x:Str}{p pos:Pos}{e:Expr}{es:List Expr}{t:TA}{id T:String}{r:List V->Hp->VK->Prop}
noncomputable def tCB (r:List V->Hp->VK->Prop) (t:TA):TE:=fun σ H Q=>t σ H fun vs H1=>r vs H1 Q
theorem pe_callB (hc:CallR X (.builtin id) r) (hg:Gl X x) (hm:X.mg x=none) (hv:bootBuiltins x=some (.builtin id)) (ha:PA X (e::es) t) (hn:x≠"__name__":=by decide) (hdb:(x == ("__debug__":Str))=false:=by decide)
  (he:starEach (e::es) X.env=(false,eval e X.env)::starEach es X.env:=by rfl) (hpl:(backTo pos (starEach es X.env)).any (·.1)=false:=by rfl):PE X (.Call (.Name x p) (e::es) [] pos) (tCB r t):=by
 intro pins s σ H Q I h
 refine wpAny_Call_Name_kw (ld_blt I hg hm hv ?_ hn hdb)
 exact PyProof.Rows.callWith_builtin1 (thn (ha pos pins s σ H _ I h) fun us s1 ⟨vs,H1,I1,r1,q1⟩=>hc pins s1 σ H1 vs us Q I1 r1 q1) he hpl
theorem pe_callTy (hc:CallR X (.type T) r) (hg:Gl X x) (hm:X.mg x=none) (hv:bootBuiltins x=some (.type T)) (ha:PA X (e::es) t) (hn:x≠"__name__":=by decide) (hdb:(x == ("__debug__":Str))=false:=by decide)
  (he:starEach (e::es) X.env=(false,eval e X.env)::starEach es X.env:=by rfl) (hpl:(backTo pos (starEach es X.env)).any (·.1)=false:=by rfl):PE X (.Call (.Name x p) (e::es) [] pos) (tCB r t):=by
 intro pins s σ H Q I h
 refine wpAny_Call_Name_kw (ld_blt I hg hm hv ?_ hn hdb)
 exact PyProof.Rows.callWith_type1 (thn (ha pos pins s σ H _ I h) fun us s1 ⟨vs,H1,I1,r1,q1⟩=>hc pins s1 σ H1 vs us Q I1 r1 q1) he hpl
end
end L2
namespace HT
open PySem PyProof.Rows
noncomputable def lexLt:List Int->List Int->Bool
 | [],[]=>false
 | [],_::_=>true
 | _::_,[]=>false
 | x::xs,y::ys=>if x=y then lexLt xs ys else decide (x<y)
theorem lexLt_cons (x y:Int) (xs ys:List Int):lexLt (x::xs) (y::ys)=if x=y then lexLt xs ys else decide (x<y):=rfl
theorem lexLt_nil_nil:lexLt [] []=false:=rfl
theorem lexLt_nil_cons (y:Int) (ys:List Int):lexLt [] (y::ys)=true:=rfl
theorem lexLt_cons_nil (x:Int) (xs:List Int):lexLt (x::xs) []=false:=rfl
theorem eqAt_int (A:Around) (s:Shared) (a:Int) (t:Tok) (c:Int) (u:Tok):∃e,SeqAt.EqAt A s (.int a t) (.int c u) e/\(e=true ↔ a=c):=
 ⟨(a == c),SeqAt.EqAt.int_int a t c u,by simp⟩
theorem rcLt_int (A:Around) (s:Shared) (a:Int) (t:Tok) (c:Int) (u:Tok) (prog:Program) (w:World) (E:Value->Shared->Prop) (Q:Value->Shared->Prop) (h:Q (.bool (decide (a<c))) s):
  wpAny (model prog w) A (richCompare .Lt (.int a t) (.int c u)) Q E s :=
 (PyProof.Rows.lt_int h:wpAny (model prog w) A (compareOp .Lt (.int a t) (.int c u)) Q E s)
section
open PySem.SeqAt
open PySem.AutoSeq1 (wpAny_loadPart')
open PySem.MeetsSeq PySem.MeetsSeq2 PySem.MeetsSeq3
theorem tuple_lt_ints (l b:Addr) (items items2:Array Value) (n n2:Nat) (dd dd2:Option Addr) (sl sl2:Array (Option Value)) (ns ms:List Int) (hi:IntsAre items.toList ns) (hj:IntsAre items2.toList ms):
  Meets (Builtin.«tuple.__lt__» ⟨[.ref l,.ref b],[]⟩)
   (fun _ R s=>s.heap.get? l=some { cls:=.type "tuple",dict:=dd,data:=.seq items n,slots:=sl }/\s.heap.get? b=some { cls:=.type "tuple",dict:=dd2,data:=.seq items2 n2,slots:=sl2 } /\
    R (.ok (.ret (.bool (lexLt ns ms)))) s):=
 .of_wp fun prog w A R s h=>by
  obtain ⟨hp,g,d,tk,os⟩:=s;obtain ⟨hl,hb,h⟩:=h
  have f2:=AutoSeq1.sub_tuple_tuple
  have z1:items.size=ns.length:=by rw[<- hi.length];simp
  have z2:items2.size=ms.length:=by rw[<- hj.length];simp
  wp_walk using wpAny_loadPart' hl,wpAny_loadPart' hb,wpAny_forIn_list _ (fun rest b s'=>b.1=none/\s'=⟨hp,g,d,tk,os⟩/\∃(vs ws:List Value) (ns' ms':List Int),rest=vs.zip ws /\
   IntsAre vs ns'/\IntsAre ws ms'/\ns'.length+items2.size=ms'.length+items.size/\R (.ok (.ret (.bool (lexLt ns' ms')))) ⟨hp,g,d,tk,os⟩) _
  case turn =>
   rintro ⟨y,x⟩ rest b s' ⟨hb',rfl,vs,ws,ns',ms',hz,hvi,hwi,hlen,hR⟩
   cases hvi with
   | nil=>rw[List.zip_nil_left] at hz;cases hz
   | cons a t hvi' =>
    cases hwi with
    | nil=>rw[List.zip_nil_right] at hz;cases hz
    | cons c u hwi' =>
     rw[List.zip_cons_cons] at hz
     injection hz with hyx hrest
     injection hyx with hy hx
     subst hy hx
     rw[lexLt_cons] at hR
     simp only[List.length_cons] at hlen
     obtain ⟨e,he,hiff⟩:=eqAt_int A.in1 ⟨hp,g,d,tk,os⟩ a t c u
     refine wpAny_bind (he prog w _ _ ?_)
     cases e with
     | true =>
      rw[if_pos (hiff.mp rfl)] at hR
      wp_walk
      exact ⟨rfl,rfl,_,_,_,_,hrest,hvi',hwi',by omega,hR⟩
     | false =>
      rw[if_neg (fun q=>absurd (hiff.mpr q) Bool.false_ne_true)] at hR
      have hri:=rcLt_int A.in1 ⟨hp,g,d,tk,os⟩ a t c u prog w
      wp_walk using hri
      exact ⟨_,rfl,by simpa using hR⟩
  case fin =>
   rintro ⟨b1,b2⟩ s' ⟨hb',rfl,vs,ws,ns',ms',hz,hvi,hwi,hlen,hR⟩
   simp only at hb'
   subst hb'
   have hv:lexLt ns' ms'=decide (items.size<items2.size):=by
    cases hvi with
    | nil =>
     cases hwi with
     | nil =>
      simp only[List.length_nil] at hlen
      rw[lexLt_nil_nil]
      exact (decide_eq_false (by omega)).symm
     | cons c u hw =>
      simp only[List.length_nil,List.length_cons] at hlen
      rw[lexLt_nil_cons]
      exact (decide_eq_true (by omega)).symm
    | cons a t hv =>
     cases hwi with
     | nil =>
      simp only[List.length_nil,List.length_cons] at hlen
      rw[lexLt_cons_nil]
      exact (decide_eq_false (by omega)).symm
     | cons c u hw =>
      rw[List.zip_cons_cons] at hz
      cases hz
   rw[hv] at hR
   wp_walk
   exact ⟨_,rfl,by simpa [Builtin.Tuple.tupleCompareSizes] using hR⟩
  case h =>
   exact ⟨rfl,rfl,items.toList,items2.toList,ns,ms,rfl,hi,hj,by omega,h⟩
end
section
variable {prog:Program}{w:World}{A:Around}{E:Value->Shared->Prop}{s:Shared}
theorem lt_tupInts {l b:Addr}{items items2:Array Value}{ns ms:List Int}{Q:Value->Shared->Prop} (hl:IsTup s.heap l items) (hb:IsTup s.heap b items2) (hi:IntsAre items.toList ns) (hj:IntsAre items2.toList ms)
  (hu:A.units<cLine) (h:Q (.bool (lexLt ns ms)) s):wpAny (model prog w) A (compareOp .Lt (.ref l) (.ref b)) Q E s:=by
 obtain ⟨⟨cls,dd,data,sl⟩,ho,hc,n,hd⟩:=id hl
 obtain ⟨⟨cls2,dd2,data2,sl2⟩,ho2,hc2,n2,hd2⟩:=id hb
 simp only at hc hd hc2 hd2
 subst hc hd hc2 hd2
 exact richCompare_meets_room (op:=.Lt) ⟨_,ho,rfl⟩ ⟨_,ho2,rfl⟩ PySem.F.slot_tuple_lt PySem.F.entry_tuple_lt (PySem.F.args_tuple_lt_2 _ _) (tuple_lt_ints l b items items2 n n2 dd dd2 sl sl2 ns ms hi hj)
  ⟨ho,ho2,show Value.bool (lexLt ns ms)≠Value.notImplemented/\Q (.bool (lexLt ns ms)) s from ⟨(fun x=>nomatch x),h⟩⟩ hu
theorem cat_tup {t b:Addr}{vs ws:List Value}{Q:Value->Shared->Prop} (ht:IsTup s.heap t vs.toArray) (hb:IsTup s.heap b ws.toArray) (hv:vs≠[])
  (h1:ws=[]->Q (.ref t) s) (h2:ws≠[]->Q (.ref s.heap.objs.size) { s with heap:=s.heap.push { cls:=.type "tuple",data:=.seq (vs++ws).toArray } })
  (hsz:vs.length+ws.length<=sizeLine):wpAny (model prog w) A (binaryOp .Add (.ref t) (.ref b)) Q E s:=by
 obtain ⟨⟨cls,dd,data,sl⟩,ho,hc,n,hd⟩:=id ht
 obtain ⟨⟨cls2,dd2,data2,sl2⟩,ho2,hc2,n2,hd2⟩:=id hb
 simp only at hc hd hc2 hd2
 subst hc hd hc2 hd2
 have e:vs.toArray++ws.toArray=(vs++ws).toArray:=by simp
 by_cases hw:ws=[]
 ·exact concat_meets ⟨_,ho,rfl⟩ ⟨_,ho2,rfl⟩ noFill_tuple_add seq_tuple_add PySem.F.slot_tuple_add PySem.F.entry_tuple_add (PySem.F.args_tuple_add_2 _ _)
   (tuple_addW1 t b vs.toArray ws.toArray n n2 dd dd2 sl sl2 (by simpa using hv) (by simp[hw])) ⟨ho,ho2,h1 hw⟩
 ·refine concat_meets ⟨_,ho,rfl⟩ ⟨_,ho2,rfl⟩ noFill_tuple_add seq_tuple_add PySem.F.slot_tuple_add PySem.F.entry_tuple_add (PySem.F.args_tuple_add_2 _ _)
   (tuple_addW2 t b vs.toArray ws.toArray n n2 dd dd2 sl sl2 (by simpa using hv) (by simpa using hw) (by rw[List.size_toArray,List.size_toArray];exact hsz)) ⟨ho,ho2,?_⟩
  rw[e]
  exact h2 hw
noncomputable def sIx (n d:Nat):Option Int->Nat
 | none=>d
 | some v=>if v<0 then (v+(n:Int)).toNat else min v.toNat n
theorem sIx_none (n d:Nat):sIx n d none=d:=rfl
theorem sIx_nat (n d k:Nat):sIx n d (some (k:Int))=min k n:=by
 show (if (k:Int)<0 then ((k:Int)+(n:Int)).toNat else min (k:Int).toNat n)=min k n
 rw[if_neg (by omega),Int.toNat_natCast]
theorem sIx_le (n d:Nat) (hd:d<=n) (o:Option Int):sIx n d o<=n:=by
 cases o with
 | none=>exact hd
 | some v =>
  show (if v<0 then (v+(n:Int)).toNat else min v.toNat n)<=n
  by_cases hv:v<0
  ·rw[if_pos hv];omega
  ·rw[if_neg hv];exact Nat.min_le_right _ _
theorem clip_eq (v:Int) (n d:Nat):(if v<0 then max (v+(n:Int)) 0 else min v (n:Int))=((sIx n d (some v):Nat):Int):=by
 show (if v<0 then max (v+(n:Int)) 0 else min v (n:Int))=(((if v<0 then (v+(n:Int)).toNat else min v.toNat n):Nat):Int)
 by_cases hv:v<0
 ·simp only[if_pos hv];omega
 ·simp only[if_neg hv];omega
theorem adjust_gen (lo hi:Option Int) (n:Nat):Builtin.Slice.sliceAdjust lo hi 1 (n:Int)=(((sIx n 0 lo:Nat):Int),((sIx n n hi:Nat):Int)):=by
 have h1:¬ ((1:Int)<0):=by omega
 unfold Builtin.Slice.sliceAdjust
 simp only[h1,if_false]
 refine Prod.ext ?_ ?_
 ·cases lo with
  | none=>rfl
  | some v=>exact clip_eq v n 0
 ·cases hi with
  | none=>rfl
  | some v=>exact clip_eq v n n
theorem places_gen (i j:Nat):Builtin.Slice.slicePlaces (i:Int) (j:Int) 1=j - i:=by
 unfold Builtin.Slice.slicePlaces
 have h1:(1:Int) > 0:=by omega
 simp only[h1,if_true,Int.ediv_one]
 split <;> omega
theorem slicePart_ {v:Value}{o:Option Int}{Q:Option Int->Shared->Prop} (p:IsPart v o) (h:Q o s):wpAny (model prog w) A (Builtin.Slice.slicePartIndex v) Q E s:=by
 cases p with
 | none=>exact slicePart_none h
 | int i t=>exact slicePart_int h
theorem sliceApplied_gen {sl:Addr}{vl vu:Value}{lo hi:Option Int}{n:Nat}{Q:Int × Int × Nat->Shared->Prop} (hs:s.heap.IsSliceOf sl vl vu .none) (pl:IsPart vl lo) (pu:IsPart vu hi)
  (h:Q (((sIx n 0 lo:Nat):Int),1,sIx n n hi - sIx n 0 lo) s):wpAny (model prog w) A (Builtin.Slice.sliceApplied (.ref sl) (pure (n:Int))) Q E s:=by
 obtain ⟨os,hos,hcs,hds⟩:=id hs
 unfold Builtin.Slice.sliceApplied Builtin.Slice.sliceFields
 refine wpAny_bind (wpAny_bind (wpAny_field hos hds (x:=vl) rfl (wpAny_bind (wpAny_field hos hds (x:=vu) rfl (wpAny_bind (wpAny_field hos hds (x:=.none) rfl (wpAny_pure ?_)))))))
 refine wpAny_bind (slicePart_none ?_)
 show wpAny _ _ (if ((1:Int) == 0)=true then _ else _) _ _ s
 rw[if_neg (by decide)]
 refine wpAny_bind (slicePart_ pl (wpAny_bind (slicePart_ pu (wpAny_bind (wpAny_pure ?_)))))
 show wpAny _ _ (match Builtin.Slice.sliceAdjust lo hi 1 (n:Int) with | (lo,hi)=>pure (lo,(1:Int),Builtin.Slice.slicePlaces lo hi 1)) _ _ s
 rw[adjust_gen lo hi n]
 show wpAny _ _ (pure (((sIx n 0 lo:Nat):Int),(1:Int),Builtin.Slice.slicePlaces ((sIx n 0 lo:Nat):Int) ((sIx n n hi:Nat):Int) 1)) _ _ s
 rw[places_gen]
 exact wpAny_pure h
theorem pick_gen (xs:Array Value) (i k:Nat):((List.range k).filterMap fun (m:Nat)=>xs[((i:Int)+(m:Int)*1).toNat]?).toArray=((xs.toList.drop i).take k).toArray:=by
 have e:(fun (m:Nat)=>xs[((i:Int)+(m:Int)*1).toNat]?)=fun m=>xs[i+m]?:=by
  funext m
  have:((i:Int)+(m:Int)*1).toNat=i+m:=by omega
  rw[this]
 rw[e]
 have:=pick_run xs i k
 rw[List.filterMap_map] at this
 have e2:((fun x=>xs[x]?) ∘ fun x=>i+x)=fun m=>xs[i+m]?:=rfl
 rw[e2] at this
 rw[this]
theorem getItem_tuple_cut {t sl:Addr}{items:Array Value}{vl vu:Value}{lo hi:Option Int}{Q:Value->Shared->Prop} (ht:IsTup s.heap t items) (hs:s.heap.IsSliceOf sl vl vu .none) (pl:IsPart vl lo) (pu:IsPart vu hi)
  (hw:¬ (sIx items.size 0 lo=0/\sIx items.size items.size hi=items.size))
  (h:Q (.ref s.heap.objs.size) { s with heap:=s.heap.push { cls:=.type "tuple",data:=.seq ((items.toList.drop (sIx items.size 0 lo)).take (sIx items.size items.size hi - sIx items.size 0 lo)).toArray } })
  (hsz:items.size<=sizeLine):wpAny (model prog w) A (getItem (.ref t) (.ref sl)) Q E s:=by
 have htake:sizeOk (.seq ((items.toList.drop (sIx items.size 0 lo)).take (sIx items.size items.size hi - sIx items.size 0 lo)).toArray):=by
  show ((items.toList.drop (sIx items.size 0 lo)).take (sIx items.size items.size hi - sIx items.size 0 lo)).toArray.size<=sizeLine
  rw[List.size_toArray,List.length_take,List.length_drop,Array.length_toList]
  omega
 have hj:sIx items.size items.size hi<=items.size:=sIx_le _ _ (Nat.le_refl _) hi
 obtain ⟨os,hos,hcs,hds⟩:=id hs
 have hTs:s.TypeIs (.ref sl) "slice":=⟨os,hos,hcs⟩
 unfold getItem
 try with_reducible refine wpAny_holding ?_
 first|refine wpAny_bind (wpAny_pure ?_)|skip
 refine wpAny_bind (wpAny_sequenceKey ht.typeIs (by decide) ?_)
 refine wpAny_bind (wpAny_callSpecial?_slot (name:=Str.ofString "__getitem__") ht.typeIs PyProof.Rows.slot_tuple_getitem
  (wpAny_call_entry PyProof.Rows.slot_tuple_getitem ht.typeIs entry_tuple_getitem ?_ (args_tuple_getitem _ _)))
 show wpAny _ _ (Builtin.Tuple.tupleItemsOf (.ref t) >>= _) _ _ s
 refine wpAny_bind (tupleItemsOf_ ht ?_)
 refine wpAny_bind (wpAny_typeOf hTs ?_)
 rw[if_pos (by decide)]
 refine wpAny_bind (sliceApplied_gen hs pl pu ?_)
 have hno:¬ ((((sIx items.size 0 lo:Nat):Int) == 0&&(1:Int) == 1&&(sIx items.size items.size hi - sIx items.size 0 lo) == items.size)=true):=by
  intro q
  rw[Bool.and_eq_true,Bool.and_eq_true] at q
  have q1:((sIx items.size 0 lo:Nat):Int)=0:=eq_of_beq q.1.1
  have q2:sIx items.size items.size hi - sIx items.size 0 lo=items.size:=eq_of_beq q.2
  exact hw ⟨by omega,by omega⟩
 show wpAny _ _ (if (((sIx items.size 0 lo:Nat):Int) == 0&&(1:Int) == 1&&(sIx items.size items.size hi - sIx items.size 0 lo) == items.size)=true then _ else _) _ _ s
 rw[if_neg hno,pick_gen]
 first
  | exact wpAny_bind (m:=Builtin.Tuple.tupleExact _) (wpAny_newObj_type (wpAny_pure ⟨_,rfl,wpAny_pure h⟩) htake)
  | exact wpAny_bind (m:=Builtin.Tuple.tupleExact _) (wpAny_newObj_type (wpAny_bind (wpAny_pure (wpAny_pure ⟨_,rfl,wpAny_pure h⟩))) htake)
  | exact wpAny_bind (wpAny_bind (m:=Builtin.Tuple.tupleExact _) (wpAny_newObj_type (wpAny_pure (wpAny_pure ⟨_,rfl,wpAny_pure h⟩)) htake))
  | exact wpAny_bind (wpAny_bind (m:=Builtin.Tuple.tupleExact _) (wpAny_newObj_type (wpAny_pure ⟨_,rfl,wpAny_pure h⟩) htake))
end
end HT
namespace L2
open PySem PySem.Spec PyProof.Rows
noncomputable abbrev TO:=St->Hp->(Option Int->Hp->Prop)->Prop
noncomputable def PO (X:Cx) (e:Option Expr) (t:TO):Prop :=
 ∀(pins:List (Addr × Obj)) (s:Shared) (σ:St) (H:Hp) (Q:Option Int->Hp->Prop),Inv X pins σ H s->t σ H Q ->
  wpAny (model X.prog X.w) X.A (evalPart e X.env) (fun u s'=>∃o H',Inv X pins σ H' s'/\IsPart u o/\Q o H') X.xe s
noncomputable def tNoPart:TO:=fun _ H Q=>Q none H
noncomputable def tPart (t:TE):TO:=fun σ H Q=>t σ H fun x H1=>∃i,x=.int i/\Q (some i) H1
theorem intsAre_of {ns:List Int}:∀{us:List Value},Vals (ns.map V.int) us->IntsAre us ns:=by
 induction ns with
 | nil=>intro us r;rw[List.map_nil] at r;cases r;exact .nil
 | cons n ns ih =>
  intro us r
  rw[List.map_cons] at r
  cases r with
  | cons r1 r2 =>
   obtain ⟨t,e⟩:=r1
   subst e
   exact .cons n t (ih r2)
section
variable {X:Cx}{e:Expr}{te:TE}{lo hi:Option Expr}{tl th:TO}{pos p2:Pos}
theorem po_none:PO X none tNoPart:=by
 intro pins s σ H Q I h
 rw[evalPart_none]
 exact wpAny_pure ⟨none,H,I,.none,h⟩
theorem po_some (h:PE X e te):PO X (some e) (tPart te):=by
 intro pins s σ H Q I hw
 rw[evalPart_some]
 refine thn (h pins s σ H _ I hw) fun u s1 ⟨x,H1,I1,r1,q1⟩=>?_
 obtain ⟨i,rfl,q⟩:=q1
 obtain ⟨t,rfl⟩:=r1
 exact ⟨some i,H1,I1,.int i t,q⟩
noncomputable def SlR (X:Cx) (r:V->Option Int->Option Int->Hp->VK->Prop):Prop :=
 ∀(pins:List (Addr × Obj)) (s:Shared) (σ:St) (H:Hp) (x:V) (v vl vu:Value) (lo hi:Option Int) (sl:Addr) (Q:VK),Inv X pins σ H s->RelV x v->s.heap.IsSliceOf sl vl vu .none->IsPart vl lo->IsPart vu hi->r x lo hi H Q ->
  ∃T id,typeLookup (.type T) "__getitem__"=pure (some (.builtin id))/\s.TypeIs v T/\wpAny (model X.prog X.w) X.A (getItem v (.ref sl)) (EP X pins σ Q) X.xe s
noncomputable def tSl (r:V->Option Int->Option Int->Hp->VK->Prop) (te:TE) (tl th:TO):TE:=fun σ H Q=>te σ H fun x H1=>tl σ H1 fun l H2=>th σ H2 fun u H3=>r x l u H3 Q
theorem pe_slice {r:V->Option Int->Option Int->Hp->VK->Prop} (hr:SlR X r) (he:PE X e te) (hl:PO X lo tl) (hu:PO X hi th):PE X (.Subscript e (.Slice lo hi none p2) pos) (tSl r te tl th):=by
 intro pins s σ H Q I h
 refine Subscript_ (thn (he pins s σ H _ I h) fun v s1 ⟨x,H1,I1,r1,q1⟩=>?_)
 refine wpAny_Slice (thn (hl pins s1 σ H1 _ I1 q1) fun vl s2 ⟨l,H2,I2,pl,q2⟩=>thn (hu pins s2 σ H2 _ I2 q2) fun vu s3 ⟨u,H3,I3,pu,q3⟩=>?_)
 rw[evalPart_none]
 refine wpAny_pure ?_
 have I4:Inv X pins σ H3 { s3 with heap:=s3.heap.push { cls:=.type "slice",data:=.fields #[vl,vu,.none] } }:=I3.kept (t':=s3.toks) fun b ob q=>Heap.get?_push_of_some _ q
 obtain ⟨T,id,hT,ht,hg⟩:=hr pins { s3 with heap:=s3.heap.push { cls:=.type "slice",data:=.fields #[vl,vu,.none] } } σ H3 x v vl vu l u s3.heap.objs.size Q I4 r1 (Heap.IsSliceOf.new ..) pl pu q3
 show wpAny (model X.prog X.w) X.A (subscriptTail e (.Slice lo hi none p2) v (.ref s3.heap.objs.size)) (EP X pins σ Q) X.xe { s3 with heap:=s3.heap.push { cls:=.type "slice",data:=.fields #[vl,vu,.none] } }
 exact tail_any (ops:=[.ref s3.heap.objs.size,v]) ht hT hg (by with_unfolding_all rfl)
noncomputable def cutV (xs:List V) (lo hi:Option Int):List V:=(xs.drop (HT.sIx xs.length 0 lo)).take (HT.sIx xs.length xs.length hi - HT.sIx xs.length 0 lo)
theorem cutV_length (xs:List V) (lo hi:Option Int):(cutV xs lo hi).length<=xs.length:=by
 unfold cutV
 rw[List.length_take,List.length_drop]
 omega
noncomputable def rSlT (K:W.Frag):V->Option Int->Option Int->Hp->VK->Prop:=fun x lo hi H Q=>∃a xs,x=.ref a/\SqT K H a xs /\
 ¬ (HT.sIx xs.length 0 lo=0/\HT.sIx xs.length xs.length hi=xs.length)/\∀p,H p=none->Q (.ref p) (upd H p (.tup (cutV xs lo hi)))
theorem sl_tup:SlR X (rSlT X.K):=by
 intro pins s σ H x v vl vu lo hi sl Q I rx hs pl pu h
 obtain ⟨a,xs,rfl,hx,hw,q⟩:=h
 cases rx
 obtain ⟨its,r,ht,hz⟩:=I.tuple hx
 have hlen:its.toArray.size=xs.length:=by rw[List.size_toArray];exact r.length.symm
 refine ⟨"tuple",_,PyProof.Rows.slot_tuple_getitem.lookup,ht.typeIs,?_⟩
 refine HT.getItem_tuple_cut ht hs pl pu (by rw[hlen];exact hw) ?_ (by rw[hlen];exact hz)
 rw[hlen]
 refine ⟨.ref s.heap.objs.size,_,I.laid (t':=s.toks) (o:=.tup (cutV xs lo hi)) (fun b ob q=>Heap.get?_push_of_some _ q) (Nat.le_refl _) ?_,rfl,q _ (I.hok.fresh (Nat.le_refl _))⟩
 exact ⟨Nat.le_trans (cutV_length xs lo hi) hz,_,(r.drop (HT.sIx xs.length 0 lo)).take (HT.sIx xs.length xs.length hi - HT.sIx xs.length 0 lo),IsTup.new _ _⟩
noncomputable def rCatT (K:W.Frag):R2:=fun x y H Q=>∃a b xs ys,x=.ref a/\y=.ref b/\SqT K H a xs/\SqT K H b ys/\xs≠[]/\xs.length+ys.length<=sizeLine /\
 (ys=[]->Q (.ref a) H)/\(ys≠[]->∀p,H p=none->Q (.ref p) (upd H p (.tup (xs++ys))))
theorem Vals.nil_iff {xs:List V}{us:List Value} (r:Vals xs us):us=[] ↔ xs=[]:=by
 cases r with
 | nil=>simp
 | cons _ _=>simp
theorem op_catT:OpR X (binaryOp .Add) (rCatT X.K):=by
 intro pins s σ H x y v u Q I rx ry h
 obtain ⟨a,b,xs,ys,rfl,rfl,ha,hb,hx,hz,q1,q2⟩:=h
 cases rx
 cases ry
 obtain ⟨its,r1,p1,_⟩:=I.tuple ha
 obtain ⟨its2,r2,p2,_⟩:=I.tuple hb
 refine HT.cat_tup p1 p2 (fun z=>hx (r1.nil_iff.mp z)) (fun z=>⟨.ref a,H,I,rfl,q1 (r2.nil_iff.mp z)⟩) (fun z=>?_) (by rw[<- r1.length,<- r2.length];exact hz)
 refine ⟨.ref s.heap.objs.size,_,I.laid (t':=s.toks) (o:=.tup (xs++ys)) (fun b ob q=>Heap.get?_push_of_some _ q) (Nat.le_refl _) ?_,rfl,q2 (fun w=>z (r2.nil_iff.mpr w)) _ (I.hok.fresh (Nat.le_refl _))⟩
 exact ⟨by rw[List.length_append];exact hz,_,r1.append r2,IsTup.new _ _⟩
end
end L2
namespace L2
open PySem PySem.Spec PyProof.Rows
noncomputable def ixN (n:Nat) (i:Int):Option Nat:=if 0<=i then (if i<n then some i.toNat else none) else if -(n:Int)<=i then some (i+n).toNat else none
noncomputable def atI {α:Type} (xs:List α) (i:Int):Option α:=(ixN xs.length i).bind fun j=>xs[j]?
theorem ixN_seq {n:Nat}{i:Int}{j:Nat} (h:ixN n i=some j):seqIndex? i n=some j/\j<n/\-(n:Int)<=i/\i<n:=by
 unfold ixN at h
 by_cases h0:0<=i
 ·rw[if_pos h0] at h
  by_cases h1:i<n
  ·rw[if_pos h1] at h
   have e:i.toNat=j:=Option.some.inj h
   exact ⟨by rw[seqIndex_of h0 h1,e],by omega,by omega,h1⟩
  ·rw[if_neg h1] at h;cases h
 ·rw[if_neg h0] at h
  by_cases h1:-(n:Int)<=i
  ·rw[if_pos h1] at h
   have e:(i+n).toNat=j:=Option.some.inj h
   exact ⟨by rw[seqIndex_neg (by omega) h1,e],by omega,h1,by omega⟩
  ·rw[if_neg h1] at h;cases h
theorem atI_get {α:Type}{xs:List α}{i:Int}{v:α} (h:atI xs i=some v):∃j,seqIndex? i xs.length=some j/\xs[j]?=some v/\j<xs.length/\-(xs.length:Int)<=i/\i<xs.length:=by
 unfold atI at h
 cases e:ixN xs.length i with
 | none=>rw[e] at h;cases h
 | some j =>
  rw[e] at h
  obtain ⟨h1,h2,h3,h4⟩:=ixN_seq e
  exact ⟨j,h1,h,h2,h3,h4⟩
theorem atI_nat {α:Type}{xs:List α}{j:Nat}{v:α} (h:xs[j]?=some v):atI xs (j:Int)=some v:=by
 have hj:j<xs.length:=(List.getElem?_eq_some_iff.mp h).1
 have e:ixN xs.length (j:Int)=some j:=by
  unfold ixN
  rw[if_pos (by omega),if_pos (by omega)];simp
 unfold atI;rw[e];exact h
noncomputable def PlainIx (b:Expr):Prop:=∀o i,subscripted b false o i=operate [o,i] (getItem o i)
noncomputable def IxR (X:Cx) (r:R2):Prop :=
 ∀(value slice:Expr) (pins:List (Addr × Obj)) (s:Shared) (σ:St) (H:Hp) (x y:V) (v u:Value) (Q:VK),Inv X pins σ H s->RelV x v->RelV y u->r x y H Q ->
  subscripted slice false v u=operate [v,u] (getItem v u)->wpAny (model X.prog X.w) X.A (subscriptTail value slice v u) (EP X pins σ Q) X.xe s
noncomputable def MtR (X:Cx) (id:String) (r:V->List V->Hp->VK->Prop):Prop :=
 ∀(pins:List (Addr × Obj)) (s:Shared) (σ:St) (H:Hp) (x:V) (xs:List V) (v:Value) (us:List Value) (Q:VK),Inv X pins σ H s->RelV x v->Vals xs us->r x xs H Q ->
  wpAny (model X.prog X.w) X.A (call (.builtin id) (v::us)) (EP X pins σ Q) X.xe s
section
variable {X:Cx}{a b:Expr}{ta tb:TE}{pos:Pos}
theorem pe_ix {r:R2} (hr:IxR X r) (ha:PE X a ta) (hb:PE X b tb) (hs:PlainIx b):PE X (.Subscript a b pos) (tOp r ta tb):=by
 intro pins s σ H Q I h
 exact Subscript_ (binT ha hb I h fun v u s2 x y H2 I2 rx ry q=>hr a b pins s2 σ H2 x y v u Q I2 rx ry q (hs _ _))
noncomputable def rIxL (K:W.Frag):R2:=fun x y H Q=>∃p xs i v,x=.ref p/\y=.int i/\SqL K H p xs/\atI xs i=some v/\Q v H
noncomputable def rIxT (K:W.Frag):R2:=fun x y H Q=>∃p xs i v,x=.ref p/\y=.int i/\SqT K H p xs/\atI xs i=some v/\Q v H
theorem ix_list:IxR X (rIxL X.K):=by
 intro value slice pins s σ H x y v u Q I rx ry h hs
 obtain ⟨p,xs,i,z,rfl,rfl,hq,he,q⟩:=h
 cases rx
 obtain ⟨t,rfl⟩:=ry
 obtain ⟨its,r,pl,hz⟩:=I.list hq
 obtain ⟨j,h1,h2,h3,h4,h5⟩:=atI_get he
 obtain ⟨w,ew,rw'⟩:=r.get h2
 have hl:=r.length
 have hn:=line63
 have fin:EP X pins σ Q w s:=⟨z,H,I,rw',q⟩
 by_cases h0:0<=i
 ·have hj:i.toNat=j:=by
   rw[seqIndex_of h0 h5] at h1
   exact Option.some.inj h1
  exact item_listR pl.isList h0 (by omega) (by rw[hj];simpa using ew) fin hs
 ·have hj:(i+(its.toArray.size:Int)).toNat=j:=by
   rw[seqIndex_neg (by omega) h4] at h1
   rw[List.size_toArray,<- hl]
   exact Option.some.inj h1
  exact subscriptTail_builtinR (x:=w) pl.isList.typeIs slot_list_getitem.lookup
   (wpAny_getItem_list_neg (Q:=fun r s'=>r=w/\EP X pins σ Q r s') pl.isList (by omega) (by rw[List.size_toArray] <;> omega) (by omega) (by rw[hj];simpa using ew) ⟨rfl,fin⟩) hs
theorem ix_tup:IxR X (rIxT X.K):=by
 intro value slice pins s σ H x y v u Q I rx ry h hs
 obtain ⟨p,xs,i,z,rfl,rfl,hq,he,q⟩:=h
 cases rx
 obtain ⟨t,rfl⟩:=ry
 obtain ⟨its,r,pl,hz⟩:=I.tuple hq
 obtain ⟨j,h1,h2,h3,h4,h5⟩:=atI_get he
 obtain ⟨w,ew,rw'⟩:=r.get h2
 have hl:=r.length
 have hn:=line63
 have fin:EP X pins σ Q w s:=⟨z,H,I,rw',q⟩
 exact subscriptTail_builtinR (x:=w) pl.typeIs slot_tuple_getitem.lookup
  (getItem_tuple (j:=j) (Q:=fun r s'=>r=w/\EP X pins σ Q r s') pl (by omega) (by omega) (by rw[List.size_toArray,<- hl];exact h1) (by simpa using ew) ⟨rfl,fin⟩) hs
theorem mapSeq_set (its:List Value) (n j:Nat) (u:Value):Obj.mapSeq (·.setIfInBounds j u) { cls:=.type "list",data:=.seq its.toArray n }={ cls:=.type "list",data:=.seq (its.set j u).toArray n }:=by
 simp[Obj.mapSeq]
theorem Inv.lst {pins:List (Addr × Obj)}{σ:St}{H:Hp}{s:Shared}{p:Addr}{xs:List V} (I:Inv X pins σ H s) (h:H p=some (.lst xs)):
  ∃(its:List Value) (n:Nat),Vals xs its/\s.heap.get? p=some { cls:=.type "list",data:=.seq its.toArray n }/\xs.length<=sizeLine:=by
 obtain ⟨z,its,n,r,e⟩:=I.hok p _ h
 exact ⟨its,n,r,e,z⟩
theorem Inv.lstUpd {pins:List (Addr × Obj)}{σ:St}{H:Hp}{s:Shared}{p:Addr}{xs ys:List V}{its its':List Value}{n n':Nat}{f:Obj->Obj} (I:Inv X pins σ H s) (h:H p=some (.lst xs))
  (ho:s.heap.get? p=some { cls:=.type "list",data:=.seq its.toArray n }) (hf:f { cls:=.type "list",data:=.seq its.toArray n }={ cls:=.type "list",data:=.seq its'.toArray n' }) (r:Vals ys its') (hz:ys.length<=sizeLine) (t:Nat):
  Inv X pins σ (upd H p (.lst ys)) { s with heap:=s.heap.update p f,toks:=t }:=by
 have e:(s.heap.update p f).get? p=some { cls:=.type "list",data:=.seq its'.toArray n' }:=by
  rw[Heap.get?_update_self f ho (by rw[hf] <;> rfl),hf]
 refine I.write (x:=p) (e:=p) (by rw[h];trivial) (.inl rfl) (fun b u hb q=>(Heap.get?_update_other _ _ (Ne.symm hb)).trans q) ⟨_,e⟩ ?_
 exact ⟨hz,its',n',r,e⟩
noncomputable def rSetL:V->V->V->Hp->(Hp->Prop)->Prop:=fun o i v H Q=>∃p xs k j,o=.ref p/\i=.int k/\H p=some (.lst xs)/\ixN xs.length k=some j/\Q (upd H p (.lst (xs.set j v)))
theorem set_list:PSet X rSetL:=by
 intro pins s σ H o i v ov iv u Q I ro ri rv h
 obtain ⟨p,xs,k,j,rfl,rfl,hp,hj,q⟩:=h
 cases ro
 obtain ⟨t,rfl⟩:=ri
 obtain ⟨its,n,r,ho,hz⟩:=I.lst hp
 obtain ⟨h1,h2,h3,h4⟩:=ixN_seq hj
 have hl:=r.length
 have hn:=line63
 have I':Inv X pins σ (upd H p (.lst (xs.set j v))) { s with heap:=s.heap.update p (Obj.mapSeq (·.setIfInBounds j u)) } :=
  I.lstUpd hp ho (mapSeq_set its n j u) (r.set rv j) (by rw[List.length_set];exact hz) s.toks
 by_cases h0:0<=k
 ·have hk:k.toNat=j:=by
   rw[seqIndex_of h0 h4] at h1
   exact Option.some.inj h1
  exact W.ki_setAt ho h0 (by omega) (by rw[List.size_toArray,<- hl];exact h4) (by rw[hk];exact ⟨_,I',q⟩)
 ·have hk:(k+(its.toArray.size:Int)).toNat=j:=by
   rw[seqIndex_neg (by omega) h3] at h1
   rw[List.size_toArray,<- hl]
   exact Option.some.inj h1
  exact W.ki_setBack ho (by omega) (by rw[List.size_toArray,<- hl];exact h3) (by omega) (by rw[hk];exact ⟨_,I',q⟩)
theorem call_len_seq:CallR X (.builtin "len") (fun xs H Q=>∃p ys,xs=[.ref p]/\(SqL X.K H p ys ∨ SqT X.K H p ys)/\Q (.int ys.length) H):=by
 intro pins s σ H xs us Q I r h
 obtain ⟨p,ys,rfl,hq,q⟩:=h
 obtain ⟨u,rfl,rx⟩:=vals1 r
 cases rx
 have hn:=line63
 rcases hq with hq|hq
 ·obtain ⟨its,r',pl,hz⟩:=I.list hq
  have hlen:=r'.length
  exact Calls.call_len_list pl.isList (by simp only[List.size_toArray] <;> omega) ⟨.int ys.length,H,I.tok _,⟨s.toks+1,by rw[List.size_toArray,hlen]⟩,q⟩
 ·obtain ⟨its,r',pl,hz⟩:=I.tuple hq
  have hlen:=r'.length
  exact len_tuple pl (by simp only[List.size_toArray] <;> omega) ⟨.int ys.length,H,I.tok _,⟨s.toks+1,by rw[List.size_toArray,hlen]⟩,q⟩
theorem call_list_of:CallR X (.type "list") (fun xs H Q=>∃p ys,xs=[.ref p]/\(SqL X.K H p ys ∨ SqT X.K H p ys)/\∀l,H l=none->Q (.ref l) (upd H l (.lst ys))):=by
 intro pins s σ H xs us Q I r h
 obtain ⟨p,ys,rfl,hq,q⟩:=h
 obtain ⟨u,rfl,rx⟩:=vals1 r
 cases rx
 have fin:∀(its:List Value),Vals ys its->ys.length<=sizeLine->∀(h':Heap) (c':Nat),(∀b o',s.heap.get? b=some o'->h'.get? b=some o') ->
   h'.get? s.heap.objs.size=some { cls:=.type "list",dict:=none,data:=.seq its.toArray c',slots:=#[] }->EP X pins σ Q (.ref s.heap.objs.size) { s with heap:=h' }:=fun its r' hz h' c' kp e =>
  ⟨.ref s.heap.objs.size,_,I.laid (t':=s.toks) kp (Nat.le_refl _) (show ObjOk X.prog X.w _ h' _ (.lst ys) from ⟨hz,its,c',r',e⟩),rfl,q _ (I.hok.fresh (Nat.le_refl _))⟩
 rcases hq with hq|hq
 ·obtain ⟨its,r',pl,hz⟩:=I.list hq
  have hlen:=r'.length
  obtain ⟨o,ho,hc,n,hd⟩:=pl.isList
  exact call_list_seq p (.inl rfl) ho hc hd (fun h' c' kp e=>fin its r' hz h' c' kp e) (by simp only[List.size_toArray] <;> omega)
 ·obtain ⟨its,r',pl,hz⟩:=I.tuple hq
  have hlen:=r'.length
  obtain ⟨o,ho,hc,n,hd⟩:=pl
  exact call_list_seq p (.inr rfl) ho hc hd (fun h' c' kp e=>fin its r' hz h' c' kp e) (by simp only[List.size_toArray] <;> omega)
theorem call_tuple_of:CallR X (.type "tuple") (fun xs H Q=>∃p ys,xs=[.ref p]/\((SqL X.K H p ys/\∀l,H l=none->Q (.ref l) (upd H l (.tup ys))) ∨ (SqT X.K H p ys/\Q (.ref p) H))):=by
 intro pins s σ H xs us Q I r h
 obtain ⟨p,ys,rfl,h⟩:=h
 obtain ⟨u,rfl,rx⟩:=vals1 r
 cases rx
 rcases h with ⟨hq,q⟩|⟨hq,q⟩
 ·obtain ⟨its,r',pl,hz⟩:=I.list hq
  have hlen:=r'.length
  refine call_tuple_list pl.isList (fun h' kp=>?_) (by simp only[List.size_toArray] <;> omega)
  have I1:Inv X pins σ H { s with heap:=h' }:=I.kept (t':=s.toks) kp
  have I2:Inv X pins σ (upd H h'.objs.size (.tup ys)) { s with heap:=h'.push { cls:=.type "tuple",data:=.seq its.toArray } } :=
   I1.laid (t':=s.toks) (fun b o e=>Heap.get?_push_of_some _ e) (Nat.le_refl _) (show ObjOk X.prog X.w _ _ _ (.tup ys) from ⟨hz,its,r',IsTup.new _ _⟩)
  exact ⟨.ref h'.objs.size,_,I2,rfl,q _ (I1.hok.fresh (Nat.le_refl _))⟩
 ·obtain ⟨its,r',pl,hz⟩:=I.tuple hq
  exact call_tuple_same pl ⟨.ref p,H,I,rfl,q⟩
variable {o e:Expr}{es:List Expr}{to:TE}{t:TA}{name:Str}{apos cpos:Pos}{T id:String}{r:V->List V->Hp->VK->Prop}
end
end L2
namespace L2
open PySem PySem.Spec PyProof.Rows
section
variable {X:Cx}{pins:List (Addr × Obj)}{σ:St}{H:Hp}{s:Shared}{l b:Addr}{xs ys zs:List V}
end
section
variable {X:Cx}
end
section
variable {prog:Program}{w:World}{A:Around}{E:Value->Shared->Prop}{s:Shared}
set_option maxRecDepth 100000 in
end
section
variable {X:Cx}
end
end L2
namespace Att
open PySem PySem.W PySem.Calls PyProof.Rows
theorem ints_of_wellAll {P:Params}{h:Heap}:∀(ns:List Int) (vs:List Value),WellAll P h vs (ns.map WData.int)->IntsAre vs ns:=by
 intro ns
 induction ns with
 | nil =>
  intro vs w
  rw[List.map_nil] at w
  cases w
  exact .nil
 | cons n ns ih =>
  intro vs w
  rw[List.map_cons] at w
  cases w with
  | cons a b =>
   cases a
   exact .cons _ _ (ih _ b)
theorem script_of {l:OpenLaw}{n:Nat} (hn:l.most=some n) {P:Params}{h:Heap}{args:List WData}{vals:List Value}
  (hpre:l.row.toRowW.claim.pre args=true) (hwl:WellAll P h vals args):
  ∃a vs ns,vals=[Value.ref a]/\args=[WData.list (ns.map WData.int)]/\h.get? a=some { cls:=.type "list",data:=.seq vs.toArray }/\IntsAre vs ns/\ns.length<=n:=by
 have hsh:WShape.hasAll [] args [.list .int]=true:=(pre_splitW hpre).1
 have hc:l.pre.holds [] { args:=args }=true:=(pre_splitW hpre).2
 obtain ⟨d,r,rfl,h1,h2⟩:=hasAllW_cons hsh
 obtain rfl:=hasAllW_nil h2
 obtain ⟨xs,rfl,h3⟩:=hasW_list h1
 obtain ⟨ns,rfl⟩:=items_int h3
 have hlen:ns.length<=n:=by
  unfold OpenLaw.pre at hc
  have h4:(WTm.not (.lt (.lit (.int (n:Int))) (.len (.arg 0)))).holds [] { args:=[.list (ns.map .int)] }=true:=by
   have h4:=(holds_andW hc).1
   rw[hn] at h4
   exact h4
  have h5:=condW_of h4 (w_not (w_lt w_lit (w_len_list (w_arg rfl))))
  rw[List.length_map] at h5
  refine Nat.le_of_not_lt fun q=>?_
  have q':(n:Int)<((ns.length:Nat):Int):=by omega
  first
   | (rw[decide_eq_true q'] at h5;exact absurd h5 (by decide))
   | (simp at h5;omega)
 cases hwl with
 | cons w1 w2 =>
  cases w2
  cases w1 with
  | list ho hall=>exact ⟨_,_,ns,rfl,rfl,ho,ints_of_wellAll ns _ hall,hlen⟩
theorem post_true (l:OpenLaw) (args:List WData):l.row.toRowW.claim.post args (.bool true) args=true :=
 postW_of (r:=l.row.toRowW) (X:=(true == true))
  (show WShape.has [] (.bool true) .bool=true by first|rfl|decide|simp[WShape.has,WShape.arms,WShape.armsAll])
  (show (WTm.eq .res (.lit (.bool true))).value [] { args:=args,res:=some (.bool true),after:=args }=some (.bool (true == true)) from w_eq_bool (w_res rfl) w_lit) rfl
theorem attach_call {l:OpenLaw}{n:Nat}{q:Program}{loose:List Str}{XP:(Str->Option Value)->Heap->Prop}{YP:World->Heap->Prop}{d:DefRec}
  (hn:l.most=some n) (hdf:d.params.defaults=[])
  (call:∀(w:World) (s₀ s₁:Shared) (mg mb:Str->Option Value) (fa:Addr) (o:Obj) (pm cd doc:Value) (a:Addr) (vs:List Value) (ns:List Int),
   Ground q loose [] XP w s₀ mg mb s₁.heap->YP w s₁.heap ->
   s₁.heap.get? fa=some o->o.data=.func (docDef d.name d.params d.body d.scope pm cd doc)->s₁.heap.CodeRec cd d.name->mg d.name=some (.ref fa) ->
   s₁.heap.get? a=some { cls:=.type "list",data:=.seq vs.toArray }->IntsAre vs ns->ns.length<=n->s₁.gens=#[] ->
   codeAny (model l.prog w) callerA (.call (.ref fa) ⟨[.ref a],[]⟩) (fun r s'=>r=.ok (.ret (.bool true))/\OldK s₁.heap s'.heap/\s'.os=s₁.os/\AllBare s'.gens) s₁):
  WalkO q loose XP YP l.row.toRowW d [] (fun f vs=>PySem.call f vs):=by
 intro w s₀ s₁ mg mb G Y fa o pm cd doc dV kV ho hd hcd hD hmg hg args vals as hpre hlay hrd hwl hlo
 obtain rfl:dV=.none:=Dflts.none hD hdf
 obtain rfl:kV=.none:=Dflts.noKw hD
 obtain ⟨a,vs,ns,rfl,rfl,hobj,hints,hlen⟩:=script_of hn hpre hwl
 refine enter_call (codeAny_mono (call w s₀ s₁ mg mb fa o pm cd doc a vs ns G Y ho (fd_plain hd) hcd hmg hobj hints hlen hg) fun r s' hq=>?_)
 obtain ⟨rfl,h2,h3,h4⟩:=hq
 exact ⟨.inl ⟨.bool true,.bool true,[],rfl,fun _=>rfl,.bool true,post_true l _,fun _=>⟨List.Pairwise.nil,fun _ hm=>(nomatch hm)⟩⟩,h2,h3,h4⟩
section
variable {prog:Program}{w:World}{A:Around}{E:Value->Shared->Prop}{s:Shared}{K:Frag}
end
end Att
namespace L2
open PySem PySem.Spec PyProof.Rows
theorem vals_ints:∀{vs:List Value}{ns:List Int},IntsAre vs ns->Vals (ns.map V.int) vs
 | _,_,.nil=>.nil
 | _,_,.cons n t h=>.cons ⟨t,rfl⟩ (vals_ints h)
noncomputable def Only (H:Hp):Prop:=∀b,H b=none ∨ ∃o xs,H b=some (.frz o (.lst xs))
theorem law_call {P:Program}{w:World}{K:W.Frag}{mg mb:Str->Option Value}{CX:CXT}{k:Nat}{fa a:Addr}{fd:FuncData}{x:Str}{sp:Sp}{s₁:Shared}{vs:List Value}{ns:List Int}
  (KX:K.In s₁.heap) (hns:s₁.heap.Ns mainGlobals mg) (hb:s₁.heap.Ns builtinsNs mb) (hbb:∀x:Str,x≠"__name__"->mb x=bootBuiltins x) (hlim:s₁.heap.NoLimit) (hg:s₁.gens=#[])
  (ha:s₁.heap.get? a=some { cls:=.type "list",data:=.seq vs.toArray }) (hi:IntsAre vs ns) (hl:ns.length<=sizeLine) (hr:Room k callerA)
  (F:∀base:Heap,K.In base->base.Ns mainGlobals mg->FnOk P w K mg base CX k fa fd [x] sp) (hbind:∀(s:Shared) (u:Value),BindsTo s fd ⟨[u],[]⟩ [(x,u)])
  (hsp:∀H:Hp,Only H->SqL K H a (ns.map V.int)->sp [.ref a] H (fun v _=>v=.bl true) fun _ _ _=>False)
  (hCX:∀H e s',CX [] H s₁ (fun _ _ _=>False) e s'->False):
  codeAny (model P w) callerA (.call (.ref fa) ⟨[.ref a],[]⟩) (fun r s'=>r=.ok (.ret (.bool true))/\OldK s₁.heap s'.heap/\s'.os=s₁.os/\AllBare s'.gens) s₁:=by
 have rv:=vals_ints hi
 have lenV:=hi.length
 have core:∀H:Hp,Only H->SqL K H a (ns.map V.int)->HOk P w H s₁.heap->(∀b,H b≠none->b=a)->(H a≠none->K.lookup a=none) ->
   codeAny (model P w) callerA (.call (.ref fa) ⟨[.ref a],[]⟩) (fun r s'=>r=.ok (.ret (.bool true))/\OldK s₁.heap s'.heap/\s'.os=s₁.os/\AllBare s'.gens) s₁:=by
  intro H hO hS hok hA hK
  have base_of:∀{b:Addr}{o:Obj},s₁.heap.get? b=some o->H b=none->(hidT s₁.heap H).get? b=some o:=fun e n=>hidT_get e n
  have noA:∀{b:Addr}{o:Obj}{es:Array DictEntry}{ep:Nat},s₁.heap.get? b=some o->o.data=.dict es ep->H b=none:=fun {b o es ep} e d=>by
   cases q:H b with
   | none=>rfl
   | some u =>
    have e':b=a:=hA b (by rw[q];simp)
    subst e'
    rw[ha] at e;cases e
    have d':Data.seq vs.toArray _=Data.dict es ep:=d
    cases d'
  have nsK:∀{b:Addr}{m:Str->Option Value},s₁.heap.Ns b m->(hidT s₁.heap H).Ns b m:=fun {b m} ⟨o,es,ep,e,d,r⟩=>⟨o,es,ep,base_of e (noA e d),d,r⟩
  have hKb:K.In (hidT s₁.heap H):=fun b o e=>base_of (KX b o e) (by
   cases q:H b with
   | none=>rfl
   | some u =>
    have e':b=a:=hA b (by rw[q];simp)
    subst e'
    rw[hK (by rw[q];simp)] at e;cases e)
  have hM:Mod K mg (hidT s₁.heap H):=⟨hKb,nsK hns,⟨mb,nsK hb,hbb⟩,let ⟨mc,h1,h2⟩:=hlim;⟨mc,nsK h1,h2⟩⟩
  have e0:Env0 P w K mg (hidT s₁.heap H) callerA [] s₁ H:=⟨rfl,hM,fun b o e=>of_hidT e,Nat.le_of_eq (hidT_size _ _),trivial,fun b hb=>absurd (show b∈([]:List Addr) from hb) (by simp),hok,.of_eq hg⟩
  refine codeAny_mono ((F _ hKb (nsK hns)).run callerA [] s₁ H ⟨[.ref a],[]⟩ [.ref a] [.ref a] _ _ hr e0 (hbind s₁ (.ref a)) (.cons rfl .nil) (hsp H hO hS)) fun r s' h=>?_
  cases r with
  | error e=>exact (hCX H e s' h).elim
  | ok fl =>
   cases fl with
   | next=>exact False.elim h
   | brk=>exact False.elim h
   | cont=>exact False.elim h
   | ret u =>
    obtain ⟨v,H',os,bare,un,hok',r',q⟩:=h
    have q':v=.bl true:=q
    subst q'
    obtain rfl:u=Value.bool true:=r'
    refine ⟨rfl,OldK.of_keep fun b o e=>?_,os,bare⟩
    cases q:H b with
    | none=>exact un.keep b o e q (by intro z;exact absurd (show b∈([]:List Addr) from z) (by simp)) (by simp)
    | some u =>
     rcases hO b with z|⟨ob,xs,z⟩
     ·rw[q] at z;cases z
     ·have z2:=un.frzs b ob _ z
      obtain ⟨e1,_⟩:=hok b _ z
      obtain ⟨e2,_⟩:=hok' b _ z2
      rw[e] at e1;cases e1
      exact e2
 cases hk:K.lookup a with
 | some o =>
  have e:=KX a o hk
  rw[ha] at e
  cases e
  refine core (fun _=>none) (fun _=>.inl rfl) (.inr ⟨_,vs.toArray,_,hk,rfl,rfl,rfl,by rw[List.size_toArray,lenV];exact hl,by simpa using rv⟩) (fun b u z=>by have z':(none:Option HO)=some u:=z;cases z') (fun b z=>absurd rfl z) fun z=>absurd rfl z
 | none =>
  refine core (fun b=>if b=a then some (.frz { cls:=.type "list",data:=.seq vs.toArray } (.lst (ns.map V.int))) else none) (fun b=>?_) (.inl (.inr ⟨{ cls:=.type "list",data:=.seq vs.toArray },if_pos rfl⟩)) (fun b u z=>?_) (fun b z=>?_) fun _=>hk
  ·by_cases hb:b=a
   ·exact .inr ⟨_,_,if_pos hb⟩
   ·exact .inl (if_neg hb)
  ·by_cases hb:b=a
   ·have z':=(if_pos hb).symm.trans z
    cases z'
    subst hb
    exact ⟨ha,by rw[List.length_map];exact hl,vs,_,rv,ha⟩
   ·have z':=(if_neg hb).symm.trans z
    cases z'
  ·by_cases hb:b=a
   ·exact hb
   ·exact absurd (if_neg hb) z
end L2
namespace L2
open PySem PySem.Spec PyProof.Rows
noncomputable abbrev KOf {K:W.Frag}{h:Heap} (_:K.In h):W.Frag:=K
theorem walk_of {l:W.OpenLaw}{n k:Nat}{q:Program}{loose:List Str}{XP:(Str->Option Value)->Heap->Prop}{YP:World->Heap->Prop}{d:DefRec}{K:Params->W.Frag}{CX:World->CXT}{sp:World->Sp}{x:Str}
  (hn:l.most=some n) (hn2:n<=sizeLine) (hdf:d.params.defaults=[]) (hr:Room k callerA)
  (hY:∀(w:World) (h:Heap),YP w h->(K w.params).In h)
  (F:∀(w:World) (mg:Str->Option Value) (fa:Addr) (h:Heap),(K w.params).In h->h.Ns mainGlobals mg->mg d.name=some (.ref fa) ->
   ∃fd:FuncData,(∀(s:Shared) (u:Value),BindsTo s fd ⟨[u],[]⟩ [(x,u)]) /\
    ∀base:Heap,(K w.params).In base->base.Ns mainGlobals mg->FnOk l.prog w (K w.params) mg base (CX w) k fa fd [x] (sp w))
  (hsp:∀(w:World) (H:Hp) (a:Addr) (ns:List Int),ns.length<=n->Only H->SqL (K w.params) H a (ns.map V.int)->sp w [.ref a] H (fun v _=>v=.bl true) fun _ _ _=>False)
  (hCX:∀(w:World) (H:Hp) (s:Shared) (e:Value) (s':Shared),CX w [] H s (fun _ _ _=>False) e s'->False):
  W.WalkO q loose XP YP l.row.toRowW d [] (fun f vs=>PySem.call f vs):=by
 refine Att.attach_call hn hdf fun w s₀ s₁ mg mb fa o pm cd doc a vs ns G Y ho hd hcd hmg hobj hints hlen hg=>?_
 have KX:=hY w _ Y
 obtain ⟨fd,hb,hF⟩:=F w mg fa _ KX G.T.g hmg
 exact law_call KX G.T.g G.T.b G.T.builtins G.T.nolimit hg hobj hints (Nat.le_trans hlen hn2) hr hF hb (fun H hO hS=>hsp w H a ns hlen hO hS) fun H e s'=>hCX w H s₁ e s'
end L2
namespace L2
open PySem PySem.Spec PyProof.Rows
noncomputable def defArgs (s:Stmt):Arguments:=match s with
 | .FunctionDef _ a _ _ _ _ _ _ _ _=>a
 | _=>{ posonlyargs:=[],args:=[],vararg:=none,kwonlyargs:=[],kw_defaults:=[],kwarg:=none,defaults:=[] }
noncomputable def defBody (s:Stmt):List Stmt:=match s with
 | .FunctionDef _ _ b _ _ _ _ _ _ _=>b
 | _=>[]
noncomputable def defScope (s:Stmt):Scope:=match s with
 | .FunctionDef _ _ _ _ _ _ sc _ _ _=>sc
 | _=>{ kind:=.function,names:=[],isGenerator:=false,isCoroutine:=false }
noncomputable abbrev CX0:CXT:=fun _ _ _ _ _ _=>False
noncomputable abbrev E0:XK:=fun _ _ _=>False
theorem pass0 {X:Cx}:Passes CX0 X E0:=fun _ _ _ _ _ _ _ h=>h.elim
structure Fun (K:W.Frag) (x qual:Str) (st:Stmt) (f:Addr) (fd:FuncData):Prop where
 ex:∃(oc:Value) (od:Option Addr) (kV doc pm:Value) (an:Option Addr) (cdv ct:Value) (osl:Array (Option Value)),
  fd=W.fnOf x qual (defArgs st) (defBody st) (defScope st) .none kV doc pm an cdv ct/\K.lookup f=some ⟨oc,od,.func fd,osl⟩/\W.codeIn K cdv qual=true
 kp:W.keepIn K (.ref f)=true
section
variable {P:Program}{w:World}{K:W.Frag}{mg:Str->Option Value}{base:Heap}
theorem Fun.ok {x qual:Str}{st:Stmt}{f:Addr}{fd:FuncData}{N ps:List Str}{k:Nat}{sp:Sp} (F:Fun K x qual st f fd) (S:FnScope N ps (defScope st)) (len:∀vs H Q E,sp vs H Q E->vs.length=ps.length)
  (hbody:∀(cdv:Value) (A:Around) (outer:List Env) (s:Shared) (H:Hp) (vs:List V) (Q:VK) (E:XK),Room k (A.deeper (envOfC qual (defScope st) s.heap.objs.size f cdv))->sp vs H Q E ->
   ∃t,PSs (cxOf CX0 P w K mg base N qual (defScope st) f cdv A outer s H E).nox (defBody st) t/\t { nx:=fun _ H'=>Q .non H',rt:=Q } (start N vs) H):FnOk P w K mg base CX0 (k+1) f fd ps sp:=by
 obtain ⟨oc,od,kV,doc,pm,an,cdv,ct,osl,rfl,lk,hcd⟩:=F.ex
 refine fn_of lk hcd S len fun A outer s H vs Q E hr hsp=>?_
 obtain ⟨t,h,q⟩:=hbody cdv A outer s H vs Q E hr hsp
 exact ⟨t,h.nox,q⟩
theorem Fun.binds {x qual:Str}{st:Stmt}{f:Addr}{fd:FuncData}{ps:List Str} (F:Fun K x qual st f fd)
  (h:∀(kV doc pm:Value) (an:Option Addr) (cdv ct:Value) (us:List Value),us.length=ps.length->bindArgs (W.fnOf x qual (defArgs st) (defBody st) (defScope st) .none kV doc pm an cdv ct) ⟨us,[]⟩=pure (ps.zip us)):Binds K fd ps []:=by
 obtain ⟨oc,od,kV,doc,pm,an,cdv,ct,osl,rfl,lk,hcd⟩:=F.ex
 exact .all (h kV doc pm an cdv ct)
theorem fun_mk {x qual:Str}{st:Stmt}{f:Addr}{oc:Value}{od an:Option Addr}{osl:Array (Option Value)}{kV doc pm cdv ct:Value} (l:K.lookup f=some ⟨oc,od,.func (W.fnOf x qual (defArgs st) (defBody st) (defScope st) .none kV doc pm an cdv ct),osl⟩)
  (c:W.codeIn K cdv qual=true) (k:W.keepIn K (.ref f)=true):Fun K x qual st f (W.fnOf x qual (defArgs st) (defBody st) (defScope st) .none kV doc pm an cdv ct):=⟨⟨oc,od,kV,doc,pm,an,cdv,ct,osl,rfl,l,c⟩,k⟩
end
theorem hu_of {A:Around}{k:Nat} (hr:Room k A):A.units+1<cLine:=Nat.lt_of_le_of_lt (Nat.add_le_add_left (by decide:1<=64) _) hr.units
theorem small1000 {n:Nat} (h:n<=1000):n<sizeLine:=Nat.lt_of_le_of_lt h (by decide)
section
variable {X:Cx}
theorem pv (i:Nat) {x:Str}{pos:Pos} (hN:X.N[i]?=some x:=by rfl) (hv:Vis X.env.scope x:=by first|exact Or.inl rfl|exact Or.inr (Or.inl rfl)|exact Or.inr (Or.inr rfl)) (hd:(x == ("__debug__":Str))=false:=by decide)
  (hcd:(x == ("__classdict__":Str))=false:=by decide):PE X (.Name x pos) (tVar i):=pe_var hN hv hd hcd
end
theorem iteF {A B:Prop} (h:B):if false=true then A else B:=by
 rw[if_neg Bool.false_ne_true]
 exact h
theorem iteT {A B:Prop} (h:A):if true=true then A else B:=by
 rw[if_pos rfl]
 exact h
theorem ite2 {c A B:Prop} [Decidable c] (h1:c->A) (h2:¬ c->B):if c then A else B:=by
 by_cases h:c
 ·rw[if_pos h]
  exact h1 h
 ·rw[if_neg h]
  exact h2 h
theorem iteNS {c A B:Prop} [Decidable c] (hc:c) (h:B):if (!decide c)=true then A else B:=by
 rw[decide_eq_true hc]
 exact iteF h
noncomputable def Same (H H':Hp):Prop:=∀b o,H b=some o->H' b=some o
theorem Same.refl (H:Hp):Same H H:=fun _ _ h=>h
theorem Same.trans {H H1 H2:Hp} (a:Same H H1) (b:Same H1 H2):Same H H2:=fun c o h=>b c o (a c o h)
theorem Same.free {H H':Hp} (e:Same H H') {l:Addr} (h:H' l=Option.none):H l=Option.none:=by
 cases q:H l with
 | none=>rfl
 | some o =>
  rw[e l o q] at h
  cases h
end L2
set_option maxHeartbeats 4000000
namespace L2
open PySem PySem.Spec PyProof.Rows
theorem cellsFrom_app:∀(names:List (Str × NameKind)) (n:Nat) (acc:List (Str × Addr)),cellsFrom n names acc=cellsFrom n names []++acc
 | [],n,acc=>rfl
 | (x,k)::r,n,acc=>by
  unfold cellsFrom
  split
  ·rw[cellsFrom_app r (n+1) ((x,n)::acc),cellsFrom_app r (n+1) [(x,n)],List.append_assoc]
   rfl
  ·exact cellsFrom_app r n acc
noncomputable def closL (env:Env):List (Str × NameKind)->List (Str × Addr)->List (Str × Addr)
 | [],acc=>acc
 | (x,k)::r,acc=>if k == .free then closL env r ((x,(env.cells.lookup x).getD 0)::acc) else closL env r acc
theorem closL_eq {env:Env} (f:Str × NameKind->List (Str × Addr)->Sem (ForInStep (List (Str × Addr))))
  (hf:∀name kind cs,f (name,kind) cs=if kind == .free then (do let a <- cellOf env name;pure (.yield ((name,a)::cs))) else pure (.yield cs)):
  ∀(names:List (Str × NameKind)) (acc:List (Str × Addr)),(∀x∈names,x.2=.free->∃c,env.cells.lookup x.1=some c)->forIn names acc f=pure (closL env names acc)
 | [],acc,_=>by rw[List.forIn_nil];rfl
 | (x,k)::r,acc,h=>by
  have ih:=fun acc=>closL_eq f hf r acc fun y hy=>h y (List.mem_cons_of_mem _ hy)
  rw[List.forIn_cons,hf]
  unfold closL
  by_cases hk:(k == NameKind.free)=true
  ·rw[if_pos hk,if_pos hk]
   obtain ⟨c,hc⟩:=h (x,k) List.mem_cons_self (beq_iff_eq.mp hk)
   have hc':env.cells.lookup x=some c:=hc
   have:cellOf env x=pure c:=by unfold cellOf;rw[hc']
   rw[this,hc']
   simp only[pure_bind,Option.getD_some]
   exact ih _
  ·rw[if_neg hk,if_neg hk]
   simp only[pure_bind]
   exact ih _
theorem closureFor_eq {scope:Scope}{env:Env} (h:∀x∈scope.names,x.2=.free->∃c,env.cells.lookup x.1=some c):closureFor scope env=pure (closL env scope.names []):=by
 simp only[closureFor]
 rw[closL_eq (env:=env) _ (fun name kind cs=>by cases hk:kind == NameKind.free <;> simp[hk]) scope.names [] h]
 rfl
theorem closL_mem {env:Env}:∀{names:List (Str × NameKind)}{acc:List (Str × Addr)}{x:Str}{c:Addr},(∀x∈names,x.2=.free->∃c,env.cells.lookup x.1=some c) ->
  (x,c)∈closL env names acc->(x,c)∈acc ∨ env.cells.lookup x=some c
 | [],acc,x,c,_,hm=>.inl hm
 | (y,k)::r,acc,x,c,h,hm=>by
  have hr:∀x∈r,x.2=.free->∃c,env.cells.lookup x.1=some c:=fun z hz=>h z (List.mem_cons_of_mem _ hz)
  unfold closL at hm
  by_cases hk:(k == NameKind.free)=true
  ·rw[if_pos hk] at hm
   obtain ⟨d,hd⟩:=h (y,k) List.mem_cons_self (beq_iff_eq.mp hk)
   have hd':env.cells.lookup y=some d:=hd
   rcases closL_mem hr hm with q|q
   ·rcases List.mem_cons.mp q with e|q
    ·cases e
     right;rw[hd'];rfl
    ·exact .inl q
   ·exact .inr q
  ·rw[if_neg hk] at hm
   exact closL_mem hr hm
theorem closL_acc {env:Env}:∀{names:List (Str × NameKind)}{acc:List (Str × Addr)}{p:Str × Addr},p∈acc->p∈closL env names acc
 | [],_,_,h=>h
 | (y,k)::r,acc,p,h=>by
  unfold closL
  split
  ·exact closL_acc (List.mem_cons_of_mem _ h)
  ·exact closL_acc h
theorem closL_has {env:Env}:∀{names:List (Str × NameKind)}{acc:List (Str × Addr)}{x:Str},(x,NameKind.free)∈names->∃c,(x,c)∈closL env names acc
 | [],_,_,h=>by cases h
 | (y,k)::r,acc,x,h=>by
  unfold closL
  rcases List.mem_cons.mp h with e|h
  ·cases e
   rw[if_pos (by rfl)]
   exact ⟨_,closL_acc List.mem_cons_self⟩
  ·split
   ·exact closL_has h
   ·exact closL_has h
theorem lookup_of_mem {α:Type}:∀{l:List (Str × α)}{x:Str}{c:α},(x,c)∈l->∃d,l.lookup x=some d
 | (k,v)::r,x,c,h=>by
  rw[List.lookup_cons]
  cases hb:x == k with
  | true=>exact ⟨v,rfl⟩
  | false =>
   rcases List.mem_cons.mp h with e|h
   ·cases e;simp at hb
   ·exact lookup_of_mem h
theorem lookup_append_some {α:Type}:∀{l l':List (Str × α)}{x:Str}{c:α},(l++l').lookup x=some c->l.lookup x=some c ∨ (l.lookup x=none/\l'.lookup x=some c)
 | [],l',x,c,h=>.inr ⟨rfl,h⟩
 | (k,v)::r,l',x,c,h=>by
  rw[List.cons_append,List.lookup_cons] at h
  rw[List.lookup_cons]
  cases hb:x == k with
  | true=>rw[hb] at h;exact .inl h
  | false=>rw[hb] at h;exact lookup_append_some h
theorem lookup_append_left {α:Type}:∀{l l':List (Str × α)}{x:Str}{c:α},l.lookup x=some c->(l++l').lookup x=some c
 | [],l',x,c,h=>by cases h
 | (k,v)::r,l',x,c,h=>by
  rw[List.cons_append,List.lookup_cons]
  rw[List.lookup_cons] at h
  cases hb:x == k with
  | true=>rw[hb] at h;exact h
  | false=>rw[hb] at h;exact lookup_append_left h
theorem lookup_append_right {α:Type}:∀{l l':List (Str × α)}{x:Str},l.lookup x=none->(l++l').lookup x=l'.lookup x
 | [],l',x,h=>rfl
 | (k,v)::r,l',x,h=>by
  rw[List.cons_append,List.lookup_cons]
  rw[List.lookup_cons] at h
  cases hb:x == k with
  | true=>rw[hb] at h;cases h
  | false=>rw[hb] at h;exact lookup_append_right h
theorem lookup_relabel {env:Env}:∀(names:List (Str × NameKind)) (x:Str),
  (names.map fun (n,k)=>if (k == NameKind.free&&env.scope.kind == .function&&env.kindOf n == some .cell) then (n,NameKind.cell) else (n,k)).lookup x
   =(names.lookup x).map fun k=>if (k == NameKind.free&&env.scope.kind == .function&&env.kindOf x == some .cell)=true then NameKind.cell else k
 | [],x=>rfl
 | (n,k)::r,x=>by
  have ih:=lookup_relabel (env:=env) r x
  rw[List.map_cons]
  cases hx:x == n with
  | true =>
   have e:x=n:=beq_iff_eq.mp hx
   subst e
   by_cases hc:(k == NameKind.free&&env.scope.kind == .function&&env.kindOf x == some .cell)=true
   ·simp only[hc,if_true,List.lookup_cons,hx,Option.map_some]
   ·simp only[hc,List.lookup_cons,hx,Option.map_some]
    simp
  | false =>
   show List.lookup x ((if (k == NameKind.free&&env.scope.kind == .function&&env.kindOf n == some .cell)=true then (n,NameKind.cell) else (n,k))::_)=_
   by_cases hc:(k == NameKind.free&&env.scope.kind == .function&&env.kindOf n == some .cell)=true
   ·rw[if_pos hc]
    simp only[List.lookup_cons,hx]
    exact ih
   ·rw[if_neg hc]
    simp only[List.lookup_cons,hx]
    exact ih
theorem cellsFrom_in:∀{names:List (Str × NameKind)}{n:Nat}{acc:List (Str × Addr)}{x:Str}{d:Addr},(x,d)∈cellsFrom n names acc->(x,d)∈acc ∨ (x,NameKind.cell)∈names
 | [],_,_,_,_,h=>.inl h
 | (y,k)::r,n,acc,x,d,h=>by
  unfold cellsFrom at h
  by_cases hk:(k == NameKind.cell)=true
  ·rw[if_pos hk] at h
   have e:k=.cell:=beq_iff_eq.mp hk
   subst e
   rcases cellsFrom_in h with q|q
   ·rcases List.mem_cons.mp q with z|z
    ·cases z;exact .inr List.mem_cons_self
    ·exact .inl z
   ·exact .inr (List.mem_cons_of_mem _ q)
  ·rw[if_neg hk] at h
   rcases cellsFrom_in h with q|q
   ·exact .inl q
   ·exact .inr (List.mem_cons_of_mem _ q)
noncomputable def okNames (scope:Scope):Bool:=scope.names.all fun x=>scope.names.lookup x.1 == some x.2
theorem okNames_get {scope:Scope} (h:okNames scope=true) {x:Str × NameKind} (hx:x∈scope.names):scope.names.lookup x.1=some x.2:=beq_iff_eq.mp (List.all_eq_true.mp h x hx)
theorem relabel_kind {scope:Scope}{env:Env}{x:Str} (h:(relabel scope env).names.lookup x=some .cell ∨ (relabel scope env).names.lookup x=some .free):
  scope.names.lookup x=some .cell ∨ scope.names.lookup x=some .free:=by
 unfold relabel at h
 rw[lookup_relabel] at h
 cases e:scope.names.lookup x with
 | none=>rw[e] at h;rcases h with h|h <;> cases h
 | some k =>
  rw[e,Option.map_some] at h
  by_cases hc:(k == NameKind.free&&env.scope.kind == .function&&env.kindOf x == some .cell)=true
  ·rw[Bool.and_eq_true,Bool.and_eq_true] at hc
   exact .inr (by rw[beq_iff_eq.mp hc.1.1])
  ·simp only[hc] at h
   simpa using h
theorem newEnv_comp {M:Model}{A:Around}{E:Value->Shared->Prop}{s:Shared}{scope:Scope}{globals:Addr}{cl:List (Str × Addr)}{qual:Str}{env:Env}{Q:Env->Shared->Prop}
  (h:Q (newEnv scope s.heap.objs.size globals (cellsFrom (s.heap.objs.size+1) scope.names []++cl) qual none .none (some env) builtinsNs)
   { s with heap:=pushCells (s.heap.push { cls:=.type "dict",data:=.dict #[] }) scope.names }):
  wpAny M A (newFunctionEnv scope globals cl [] qual none .none (some env)) Q E s:=by
 simp only[newFunctionEnv,Option.isSome_some,if_true]
 refine wpAny_bind (wpAny_alloc ?_)
 refine wpAny_bind (wpAny_layCells _ (fun name kind cells=>by cases hkc:kind == NameKind.cell <;> simp[hkc]) _ _ _ _ ?_)
 rw[show ({ s with heap:=s.heap.push { cls:=.type "dict",data:=.dict #[] } }:Shared).heap.objs.size=s.heap.objs.size+1 from Heap.size_push ..,cellsFrom_app]
 exact wpAny_bind (wpAny_pure (wpAny_pure h))
noncomputable def Cx.comp (X:Cx) (scope:Scope) (N:List Str) (s:Shared) (H:Hp) (ex:List Addr):Cx where
 prog:=X.prog
 w:=X.w
 K:=X.K
 mg:=X.mg
 base:=X.base
 A:=X.A
 N:=N
 s₀:=s
 H₀:=H
 env:=compEnvC scope (cellsFrom (s.heap.objs.size+1) scope.names []++closL X.env scope.names []) s.heap.objs.size X.env
 outer:=X.stack
 stack:=X.stack
 ex:=ex
 fn:=fun x=>scope.names.lookup x == some .cell
 calm:=X.calm
 pn:=[]
 xe:=fun _ _=>False
noncomputable def pick (ix:List (Option Nat)) (σ:St):St:=ix.map fun o=>o.bind fun i=>(σ[i]?).join
noncomputable def okIx (scope:Scope) (N:List Str):List Str->List (Option Nat)->Bool
 | [],[]=>true
 | _::N',none::ix=>okIx scope N N' ix
 | x::N',some i::ix=>N[i]? == some x&&scope.names.lookup x == some .free&&okIx scope N N' ix
 | _,_=>false
theorem okIx_len {scope:Scope}{N:List Str}:∀{N':List Str}{ix:List (Option Nat)},okIx scope N N' ix=true->ix.length=N'.length
 | [],[],_=>rfl
 | _::N',none::ix,h=>by simp[okIx_len (N':=N') (ix:=ix) h]
 | x::N',some i::ix,h=>by
  unfold okIx at h
  rw[Bool.and_eq_true] at h
  simp[okIx_len (N':=N') (ix:=ix) h.2]
 | [],_::_,h=>by simp[okIx] at h
 | _::_,[],h=>by simp[okIx] at h
theorem okIx_get {scope:Scope}{N:List Str}:∀{N':List Str}{ix:List (Option Nat)}{j i:Nat},okIx scope N N' ix=true->ix[j]?=some (some i) ->
  ∃x,N'[j]?=some x/\N[i]?=some x/\scope.names.lookup x=some .free
 | [],[],j,i,_,e=>by simp at e
 | y::N',none::ix,0,i,h,e=>by simp at e
 | y::N',none::ix,j+1,i,h,e=>by
  obtain ⟨x,h1,h2⟩:=okIx_get (N':=N') (ix:=ix) (j:=j) (i:=i) h (by simpa using e)
  exact ⟨x,by simpa using h1,h2⟩
 | y::N',some k::ix,0,i,h,e=>by
  unfold okIx at h
  rw[Bool.and_eq_true,Bool.and_eq_true] at h
  simp at e
  subst e
  exact ⟨y,rfl,beq_iff_eq.mp h.1.1,beq_iff_eq.mp h.1.2⟩
 | y::N',some k::ix,j+1,i,h,e=>by
  unfold okIx at h
  rw[Bool.and_eq_true] at h
  obtain ⟨x,h1,h2⟩:=okIx_get (N':=N') (ix:=ix) (j:=j) (i:=i) h.2 (by simpa using e)
  exact ⟨x,by simpa using h1,h2⟩
 | [],_::_,_,_,h,_=>by simp[okIx] at h
 | _::_,[],_,_,h,_=>by simp[okIx] at h
noncomputable def okFree (scope:Scope) (env:Env):Bool:=scope.names.all fun x=>!(x.2 == .free) || env.kindOf x.1 == some .cell || env.kindOf x.1 == some .free
theorem okFree_get {scope:Scope}{env:Env} (h:okFree scope env=true) {x:Str × NameKind} (hx:x∈scope.names) (hk:x.2=.free):env.kindOf x.1=some .cell ∨ env.kindOf x.1=some .free:=by
 have:=List.all_eq_true.mp h x hx
 rw[hk] at this
 simpa using this
section
variable {X:Cx}{pins:List (Addr × Obj)}{σ:St}{H:Hp}{s:Shared}{scope:Scope}{N:List Str}{ix:List (Option Nat)}{ex:List Addr}
theorem Inv.closed (I:Inv X pins σ H s) (hf:okFree scope X.env=true):∀x∈scope.names,x.2=.free->∃c,X.env.cells.lookup x.1=some c :=
 fun x hx hk=>I.ok.has x.1 (okFree_get hf hx hk)
theorem pick_get {j:Nat}{v:V} (h:(pick ix σ)[j]?=some (some v)):∃i,ix[j]?=some (some i)/\σ[i]?=some (some v):=by
 unfold pick at h
 rw[List.getElem?_map] at h
 cases e:ix[j]? with
 | none=>rw[e] at h;cases h
 | some o =>
  rw[e] at h
  cases o with
  | none=>cases h
  | some i =>
   refine ⟨i,rfl,?_⟩
   have h':(σ[i]?).join=some v:=Option.some.inj h
   cases q:σ[i]? with
   | none=>rw[q] at h';cases h'
   | some z=>rw[q] at h';exact congrArg some h'
theorem Inv.comp (I:Inv X pins σ H s) (hk:scope.kind=.function) (hnm:okNames scope=true) (hf:okFree scope X.env=true) (hx:okIx scope X.N N ix=true)
  (hex:∀b∈ex,H b=none/\b≠X.env.locals/\b ∉ X.fs/\(b∈X.ex ∨ X.s₀.heap.objs.size<=b)/\(∀x c,X.env.cells.lookup x=some c->c≠b)/\b<s.heap.objs.size):
  Inv (X.comp scope N s H ex) [] (pick ix σ) H { s with heap:=pushCells (s.heap.push { cls:=.type "dict",data:=.dict #[] }) scope.names }:=by
 have hcl:=I.closed hf
 have hkeep:∀b o,s.heap.get? b=some o->(pushCells (s.heap.push { cls:=.type "dict",data:=.dict #[] }) scope.names).get? b=some o:=fun b o e=>pushCells_keeps _ _ b o (Heap.get?_push_of_some _ e)
 have ok:=cellsFrom_ok scope.names (s.heap.push { cls:=.type "dict",data:=.dict #[] }) (s.heap.objs.size+1) [] ⟨fun _ _ hm=>(nomatch hm),List.Pairwise.nil⟩ (by rw[Heap.size_push];exact Nat.le_refl _)
 rw[Heap.size_push] at ok
 have hns:(pushCells (s.heap.push { cls:=.type "dict",data:=.dict #[] }) scope.names).Ns s.heap.objs.size (fun _=>none):=(Heap.Ns.new s.heap (.type "dict")).keeps (pushCells_keeps _ _)
 have cells:∀x c,(X.comp scope N s H ex).env.cells.lookup x=some c->(x,c)∈cellsFrom (s.heap.objs.size+1) scope.names [] ∨ X.env.cells.lookup x=some c:=fun x c e=>by
  have e':(cellsFrom (s.heap.objs.size+1) scope.names []++closL X.env scope.names []).lookup x=some c:=e
  rcases lookup_append_some e' with q|⟨_,q⟩
  ·exact .inl (mem_of_lookup q)
  ·rcases closL_mem hcl (mem_of_lookup q) with z|z
   ·cases z
   ·exact .inr z
 have old:∀x c,X.env.cells.lookup x=some c->c+1<=s.heap.objs.size:=fun x c e=>let ⟨v,q⟩:=I.cell x c e;q.lt
 have own:∀x c,(x,c)∈cellsFrom (s.heap.objs.size+1) scope.names []->s.heap.objs.size+1<=c:=fun x c e=>(ok.empty x c e).2
 refine ⟨⟨I.ok.mod,hk,I.ok.glob,I.ok.blt,Nat.le_refl _,fun x y c h1 h2=>?_,fun x h1=>?_,fun x c h1 h2=>?_,I.ok.hd,I.ok.frames,.inl rfl,fun b hb=>⟨?_,fun x c e=>?_⟩,I.bs,Nat.le_trans I.ok.bsz I.sz,fun b o e hb=>?_,fun b hb hb'=>?_,I.stack,I.stkFree⟩,
  rfl,I.bare,Un.kept hkeep,⟨_,hns,fun j x v h1 h2 h3=>?_⟩,fun x c e=>?_,I.hok.fresh (Nat.le_refl _),fun x c e=>?_,fun p hp=>absurd (show p∈([]:List (Addr × Obj)) from hp) (by simp),I.hok.kept hkeep,?_⟩
 ·rcases cells x c h1 with q1|q1 <;> rcases cells y c h2 with q2|q2
  ·exact name_of_addr ok.apart q1 q2
  ·exact absurd (Nat.le_trans (own _ _ q1) (Nat.le_trans (Nat.le_succ _) (old _ _ q2))) (Nat.not_succ_le_self _)
  ·exact absurd (Nat.le_trans (own _ _ q2) (Nat.le_trans (Nat.le_succ _) (old _ _ q1))) (Nat.not_succ_le_self _)
  ·exact I.ok.inj x y c q1 q2
 ·have h1':scope.names.lookup x=some .cell ∨ scope.names.lookup x=some .free:=relabel_kind h1
  rcases h1' with q|q
  ·obtain ⟨c,e⟩:=cell_has (n:=s.heap.objs.size+1) (sc:=scope) q
   exact ⟨c,lookup_append_left e⟩
  ·obtain ⟨c,e⟩:=closL_has (env:=X.env) (acc:=[]) (mem_of_lookup q)
   cases z:(cellsFrom (s.heap.objs.size+1) scope.names []).lookup x with
   | some d=>exact ⟨d,lookup_append_left z⟩
   | none =>
    obtain ⟨d,e'⟩:=lookup_of_mem e
    exact ⟨d,(lookup_append_right z).trans e'⟩
 ·have h1':scope.names.lookup x=some .cell:=beq_iff_eq.mp h1
  obtain ⟨d,e⟩:=cell_has (n:=s.heap.objs.size+1) (sc:=scope) h1'
  have e':(cellsFrom (s.heap.objs.size+1) scope.names []++closL X.env scope.names []).lookup x=some c:=h2
  rw[lookup_append_left e] at e'
  cases e'
  exact Nat.le_trans (Nat.le_succ _) (own _ _ (mem_of_lookup e))
 ·exact Nat.ne_of_lt (hex b hb).2.2.2.2.2
 ·rcases cells x c e with q|q
  ·exact Nat.ne_of_gt (Nat.lt_of_lt_of_le (hex b hb).2.2.2.2.2 (Nat.le_trans (Nat.le_succ _) (own _ _ q)))
  ·exact (hex b hb).2.2.2.2.1 x c q
 ·rcases (hex b hb).2.2.2.1 with z|z
  ·exact I.ok.noex b o e z
  ·exact absurd (Nat.lt_of_lt_of_le (Heap.lt_size e) (Nat.le_trans I.ok.bsz z)) (Nat.lt_irrefl _)
 ·rcases List.mem_cons.mp (I.stkSub b hb') with z|z
  ·exact (hex b hb).2.1 z
  ·exact (hex b hb).2.2.1 z
 ·obtain ⟨i,e1,e2⟩:=pick_get h2
  obtain ⟨y,f1,f2,f3⟩:=okIx_get hx e1
  have exy:x=y:=by
   have h1':N[j]?=some x:=h1
   rw[f1] at h1';exact (Option.some.inj h1').symm
  subst exy
  obtain ⟨m,hm,hl⟩:=I.loc
  have kx:=okFree_get hf (mem_of_lookup f3) rfl
  have vis:Vis X.env.scope x:=by
   rcases kx with k|k
   ·exact .inr (.inl k)
   ·exact .inr (.inr k)
  obtain ⟨u,ru,l⟩:=hl i x v f2 e2 vis
  refine ⟨u,ru,.inr ?_⟩
  have hv:(relabel scope X.env).names.lookup x=some .cell ∨ (relabel scope X.env).names.lookup x=some .free:=by
   unfold relabel
   rw[lookup_relabel,f3,Option.map_some]
   split
   ·exact .inl rfl
   ·exact .inr rfl
  refine ⟨hv,?_⟩
  rcases l with ⟨k,_⟩|⟨k,c,ec,z⟩
  ·have k':X.env.kindOf x=some .local:=k
   rcases kx with q|q <;> rw[q] at k' <;> cases k'
  ·obtain ⟨d,ed⟩:=closL_has (env:=X.env) (acc:=[]) (mem_of_lookup f3)
   have nocell:(cellsFrom (s.heap.objs.size+1) scope.names []).lookup x=none ∨ ∃d,(cellsFrom (s.heap.objs.size+1) scope.names []).lookup x=some d:=by
    cases (cellsFrom (s.heap.objs.size+1) scope.names []).lookup x with
    | none=>exact .inl rfl
    | some d=>exact .inr ⟨d,rfl⟩
   rcases nocell with q|⟨d',q⟩
   ·obtain ⟨d2,ed2⟩:=lookup_of_mem ed
    have hd2:X.env.cells.lookup x=some d2:=by
     rcases closL_mem hcl (mem_of_lookup ed2) with z|z
     ·cases z
     ·exact z
    rw[ec] at hd2
    cases hd2
    exact ⟨c,(lookup_append_right q).trans ed2,z.keeps hkeep⟩
   ·-- a name is not both free and a cell of the block
    exfalso
    rcases cellsFrom_in (mem_of_lookup q) with z|z
    ·cases z
    ·have z':=okNames_get hnm z
     rw[f3] at z'
     cases z'
 ·rcases cells x c e with q|q
  ·exact ⟨none,(ok.empty x c q).1⟩
  ·obtain ⟨v,z⟩:=I.cell x c q
   exact ⟨v,z.keeps hkeep⟩
 ·rcases cells x c e with q|q
  ·exact I.hok.fresh (Nat.le_trans (Nat.le_succ _) (own x c q))
  ·exact I.freeC x c q
 ·show (pick ix σ).length=N.length
  unfold pick
  rw[List.length_map]
  exact okIx_len hx
end
end L2
namespace L2
open PySem PySem.Spec PyProof.Rows
section
variable {prog:Program}{w:World}{A:Around}{R:Result->Shared->Prop}{s:Shared}
theorem compLoop_any {elt target iter:Expr}{ifs:List Expr}{scope:Scope}{pos:Pos}{it acc:Value}{env:Env} (I:Nat->Shared->Prop)
  (turn:∀n s,I n s->wpAny (model prog w) A (pyNext it) (fun r s₁=>match r with
   | none=>R (.ok .next) s₁
   | some v=>wpAny (model prog w) A (letOwnedTupleGo target it v) (fun _ s₁'=>wpAny (model prog w) A (assign target env v) (fun _ s₂ =>
     wpAny (model prog w) A (forIn ifs true fun c r=>if r=true then do let ok <- isTrue c env (eval c env);pure (ForInStep.yield ok) else pure (ForInStep.yield r)) (fun ok s₃ =>
      if ok=true then wpAny (model prog w) A (eval elt env) (fun x s₄ =>
       wpAny (model prog w) A (call (.builtin "list.append") [acc,x]) (fun _ s₅=>∃m,m<n/\I m s₅) (fun _ _=>False) s₄) (fun _ _=>False) s₃
      else ∃m,m<n/\I m s₃) (fun _ _=>False) s₂) (fun _ _=>False) s₁') (fun _ _=>False) s₁) (fun _ _=>False) s)
  (n:Nat) (h:I n s):
  codeAny (model prog w) A (.compLoop (.ListComp elt [⟨target,iter,ifs,0⟩] scope pos) 0 it acc env) R s:=by
 refine codeAny_loop rfl I (fun n s hI=>?_) n h
 show wpAny _ A ((compTurn (.ListComp elt [⟨target,iter,ifs,0⟩] scope pos) 0 it acc env).onRaise (fun x=>do noteFrame x env;theTreesLotGoes x)) _ _ s
 refine wpAny_noted ?_
 rw[compTurn_list]
 refine wpAny_bind (wpAny_standAt (wpAny_bind (wpAny_mono (turn n s hI) (fun r s₁ h₁=>?_) fun _ _ h'=>h'.elim)))
 cases r with
 | none=>exact wpAny_pure h₁
 | some v =>
  refine wpAny_bind (wpAny_mono h₁ (fun _ s₁' h₁'=>?_) fun _ _ h'=>h'.elim)
  refine wpAny_bind (wpAny_mono h₁' (fun _ s₂ h₂=>wpAny_bind (wpAny_mono h₂ (fun ok s₃ h₃=>?_) fun _ _ h'=>h'.elim)) fun _ _ h'=>h'.elim)
  cases ok with
  | false=>exact wpAny_pure ⟨rfl,h₃⟩
  | true =>
   exact wpAny_bind (wpAny_bind (wpAny_mono h₃ (fun x s₄ h₄=>wpAny_bind (wpAny_mono h₄ (fun _ s₅ h₅=>wpAny_pure (wpAny_pure ⟨rfl,h₅⟩)) fun _ _ h'=>h'.elim)) fun _ _ h'=>h'.elim))
end
noncomputable def Wk (σ σ2:St):Prop:=σ.length=σ2.length/\∀(i:Nat) v,σ[i]?=some (some v)->σ2[i]?=some (some v)
theorem Wk.set {σ:St}{i:Nat}{v:V} (h:σ[i]?=some none ∨ σ[i]?=none):Wk σ (σ.set i (some v)):=by
 refine ⟨by simp,fun j u e=>?_⟩
 by_cases hj:j=i
 ·subst hj
  rcases h with h|h <;> rw[h] at e <;> cases e
 ·rw[List.getElem?_set_ne (Ne.symm hj)]
  exact e
section
variable {X:Cx}{pins:List (Addr × Obj)}{σ:St}{H H':Hp}{s s':Shared}{scope:Scope}{N:List Str}{ix:List (Option Nat)}{fp:List Addr}
noncomputable abbrev accS (s:Shared):Shared:={ s with heap:=s.heap.push { cls:=.type "list",dict:=none,data:=.seq ([]:List Value).toArray } }
theorem acc_size (s:Shared):(accS s).heap.objs.size=s.heap.objs.size+1:=Heap.size_push ..
theorem Inv.comp_end {pins':List (Addr × Obj)}{σ':St}{ys:List V}{its:List Value}{n:Nat}{h':Heap} (I:Inv X pins σ H s) (J:Inv (X.comp scope N (accS s) H (s.heap.objs.size::fp)) pins' σ' H' s') (hfp:∀b∈fp,FpOk X pins H b)
  (hD:H' s.heap.objs.size=none) (hl:s'.heap.get? s.heap.objs.size=some { cls:=.type "list",data:=.seq its.toArray n }) (hv:Vals ys its) (hz:ys.length<=sizeLine)
  (hs:Heap.SameBut (accS s).heap.objs.size s'.heap h'):Inv X pins σ (upd H' s.heap.objs.size (.lst ys)) { s' with heap:=h' }:=by
 have oldC:∀b,b<s.heap.objs.size->b≠(accS s).heap.objs.size:=fun b hb=>by rw[acc_size];exact Nat.ne_of_lt (Nat.lt_succ_of_lt hb)
 have DC:s.heap.objs.size≠(accS s).heap.objs.size:=by rw[acc_size];exact Nat.ne_of_lt (Nat.lt_succ_self _)
 have pushed:∀b o,s.heap.get? b=some o->(accS s).heap.get? b=some o:=fun b o e=>Heap.get?_push_of_some _ e
 have nex:∀b o,s.heap.get? b=some o->b ∉ fp->b ∉ (X.comp scope N (accS s) H (s.heap.objs.size::fp)).ex:=fun b o e hb z=>by
  rcases List.mem_cons.mp (show b∈s.heap.objs.size::fp from z) with z|z
  ·rw[z] at e;exact absurd (Heap.lt_size e) (Nat.lt_irrefl _)
  ·exact hb z
 have U:=J.base
 have un:Un (frs X.stack) fp H (upd H' s.heap.objs.size (.lst ys)) s.heap h':=by
  refine ⟨fun b o e n hb hx=>?_,fun b o e n hb hx=>?_,fun b o e n hx=>?_,fun b o e hx=>?_,fun b xs e=>?_,fun b o u e=>?_,fun b ps e=>?_⟩
  ·exact (hs.2 b (oldC b (Heap.lt_size e))).trans (U.keep b o (pushed b o e) n hb (nex b o e hx))
  ·obtain ⟨sl,q⟩:=U.slot b o (pushed b o e) n hb (nex b o e hx)
   exact ⟨sl,(hs.2 b (oldC b (Heap.lt_size e))).trans q⟩
  ·rw[upd_ne (Nat.ne_of_lt (Heap.lt_size e))]
   exact U.free b o (pushed b o e) n (nex b o e hx)
  ·obtain ⟨o',q⟩:=U.there b o (pushed b o e) (nex b o e hx)
   exact ⟨o',(hs.2 b (oldC b (Heap.lt_size e))).trans q⟩
  ·have q:=U.tups b xs e
   rw[upd_ne (ne_of_none q hD)];exact q
  ·have q:=U.frzs b o u e
   rw[upd_ne (ne_of_none q hD)];exact q
  ·obtain ⟨m,q⟩:=U.tbls b ps e
   exact ⟨m,by rw[upd_ne (ne_of_none q hD)];exact q⟩
 have hC:H' (accS s).heap.objs.size=none:=J.free
 have hok:HOk X.prog X.w (upd H' s.heap.objs.size (.lst ys)) h':=fun b u e=>by
  by_cases hb:b=s.heap.objs.size
  ·subst hb
   rw[upd_same] at e;cases e
   exact ⟨hz,its,n,hv,(hs.2 _ DC).trans hl⟩
  ·rw[upd_ne hb] at e
   refine (J.hok b u e).stay (fun c v hc q=>(hs.2 c ?_).trans q) (fun c q=>by rw[upd_ne (ne_of_none q hD)];exact q) fun c xs q=>by rw[upd_ne (ne_of_none q hD)];exact q
   rintro rfl
   rcases hc with z|z
   ·rw[<- z,hC] at e;cases e
   ·rw[hC] at z;cases z
 exact I.call' (s':={ s' with heap:=h' }) (ch:=fp) J.os un hok J.bare fun b hb=>⟨(hfp b hb).2.2.2.1,(hfp b hb).2.1,(hfp b hb).2.2.2.2.1,(hfp b hb).2.2.2.2.2⟩
end
section
variable {X:Cx}{scope:Scope}{N:List Str}{ix:List (Option Nat)}{elt target iter:Expr}{ifs:List Expr}{pos:Pos}{wi:TI}{g:TG}{te:TE}{tc:TT}
noncomputable def PIfs (X:Cx) (ifs:List Expr) (t:TT):Prop :=
 ∀(pins:List (Addr × Obj)) (s:Shared) (σ:St) (H:Hp) (Q:Bool->Hp->Prop),Inv X pins σ H s->t σ H Q ->
  wpAny (model X.prog X.w) X.A (forIn ifs true fun c r=>if r=true then do let ok <- isTrue c X.env (eval c X.env);pure (ForInStep.yield ok) else pure (ForInStep.yield r)) (TP X pins σ Q) X.xe s
noncomputable def tTrue:TT:=fun _ H Q=>Q true H
theorem pifs_nil:PIfs X [] tTrue:=fun _ _ _ H _ I h=>wpAny_tests_nil ⟨H,I,h⟩
theorem pifs_one {c:Expr} (h:PT X c tc):PIfs X [c] tc:=fun pins s σ H Q I hq=>wpAny_tests_one (h pins s σ H Q I hq)
noncomputable def Blk (J:It) (σ0:St) (g:TG) (tc:TT) (te:TE) (H1:Hp) (F:List V->Hp->Prop):Prop:=∃W:Nat->Nat->List V->Hp->Prop,(∃m,W 0 m [] H1)/\∀i m ys H2,W i m ys H2->ys.length<=sizeLine /\
 ((J.stop i H2/\F ys H2) ∨
  (J.go i H2/\∃(Ny:V->Hp->Prop) (Nn:Hp->Prop),(∀y H,Ny y H->∃m',m'<m/\W (i+1) m' (ys++[y]) H)/\(∀H,Nn H->∃m',m'<m/\W (i+1) m' ys H) /\
    ∀x H3,J.yld i H2 x H3->g x σ0 H3 fun σ2 H4=>Wk σ0 σ2/\tc σ2 H4 fun b H5=>if b=true then te σ2 H5 Ny else Nn H5))
theorem comp_run {pins:List (Addr × Obj)}{σ:St}{H:Hp}{s:Shared}{it:Addr}{fp:List Addr}{tn:Nat->Heap->Prop}{J:It}{F:List V->Hp->Prop}{E:Value->Shared->Prop}{RR:Value->Addr->Result->Shared->Prop}
  (hc:X.calm=true) (hk:scope.kind=.function) (hnm:okNames scope=true) (hf:okFree scope X.env=true) (hx:okIx scope X.N N ix=true)
  (hg:∀s H ex,PG (X.comp scope N s H ex) target g) (ht:∀s H ex,PIfs (X.comp scope N s H ex) ifs tc) (he:PE (X.comp scope N (accS s) H (s.heap.objs.size::fp)) elt te)
  (I:Inv X pins σ H s) (T:Turn X.prog X.w X.K target J fp it tn) (st:tn 0 s.heap) (hfp:∀b∈fp,FpOk X pins H b) (B:Blk J (pick ix σ) g tc te H F)
  (fin:∀(ys:List V) (H':Hp) (s':Shared) (σ':St) (its:List Value) (n:Nat),Inv (X.comp scope N (accS s) H (s.heap.objs.size::fp)) [] σ' H' s'->H' s.heap.objs.size=none ->
   s'.heap.get? s.heap.objs.size=some { cls:=.type "list",data:=.seq its.toArray n }->Vals ys its->ys.length<=sizeLine->F ys H'->RR (.ref s.heap.objs.size) (accS s).heap.objs.size (.ok .next) s'):
  wpAny (model X.prog X.w) X.A (newList []) (fun acc s₃=>wpAny (model X.prog X.w) X.A (newFunctionEnv scope X.env.globals (closL X.env scope.names []) [] X.env.qual none .none (some X.env)) (fun cenv s₄ =>
   codeAny (model X.prog X.w) X.A (.compStart (.ListComp elt [⟨target,iter,ifs,0⟩] scope pos) 0 (.ref it) acc { cenv with scope:=relabel scope X.env }) (RR acc cenv.locals) s₄) E s₃) E s:=by
 refine wpAny_newObj_type (newEnv_comp ?_) (by show ([]:List Value).toArray.size<=sizeLine;exact Nat.zero_le _)
 obtain ⟨W,⟨m0,w0⟩,turn⟩:=B
 have I1:Inv X pins σ H (accS s):=I.kept (t':=s.toks) fun b o e=>Heap.get?_push_of_some _ e
 have fpLt:∀b∈fp,b<s.heap.objs.size:=fun b hb=>let ⟨o,e,_⟩:=T.obj 0 _ st b hb;Heap.lt_size e
 have accE:(accS s).heap.get? s.heap.objs.size=some { cls:=.type "list",dict:=none,data:=.seq ([]:List Value).toArray }:=Heap.get?_push_size _ rfl
 have fD:FpOk X pins H s.heap.objs.size:=I.fpOk (Nat.le_refl _) (I.hok.fresh (Nat.le_refl _))
 have J0:Inv (X.comp scope N (accS s) H (s.heap.objs.size::fp)) [] (pick ix σ) H _:=I1.comp (N:=N) (ix:=ix) (ex:=s.heap.objs.size::fp) hk hnm hf hx fun b hb=>by
  rcases List.mem_cons.mp hb with z|z
  ·subst z
   exact ⟨fD.1,fD.2.1,fD.2.2.1,fD.2.2.2.1,fD.2.2.2.2.1,by rw[acc_size];exact Nat.lt_succ_self _⟩
  ·obtain ⟨f0,f1,f2,f3,f4,_⟩:=hfp b z
   exact ⟨f0,f1,f2,f3,f4,by rw[acc_size];exact Nat.lt_succ_of_lt (fpLt b z)⟩
 have keep0:∀b o,(accS s).heap.get? b=some o->(pushCells ((accS s).heap.push { cls:=.type "dict",data:=.dict #[] }) scope.names).get? b=some o:=fun b o e=>pushCells_keeps _ _ b o (Heap.get?_push_of_some _ e)
 have st0:tn 0 (pushCells ((accS s).heap.push { cls:=.type "dict",data:=.dict #[] }) scope.names):=T.keep 0 _ _ st fun b hb o e=>keep0 b o (Heap.get?_push_of_some _ e)
 have exOk:∀b∈s.heap.objs.size::fp,b≠(X.comp scope N (accS s) H (s.heap.objs.size::fp)).env.locals/\b ∉ (X.comp scope N (accS s) H (s.heap.objs.size::fp)).fs /\
   ∀x c,(X.comp scope N (accS s) H (s.heap.objs.size::fp)).env.cells.lookup x=some c->c≠b:=fun b hb=>⟨(J0.ok.exf b hb).1,J0.ok.exfs b hb,(J0.ok.exf b hb).2⟩
 have stat:∀{H':Hp}{o:Obj},(∀b∈fp,H' b=none)->∀b∈fp,FpOk (X.comp scope N (accS s) H (s.heap.objs.size::fp)) [(s.heap.objs.size,o)] H' b:=fun {H' o} hn b hb=>by
  obtain ⟨e1,e2,e3⟩:=exOk b (List.mem_cons_of_mem _ hb)
  refine ⟨hn b hb,e1,e2,.inl (List.mem_cons_of_mem _ hb),e3,fun p hp=>?_⟩
  have hp':p∈[(s.heap.objs.size,o)]:=(List.mem_append.mp hp).elim (fun z=>absurd (show p∈([]:List (Addr × Obj)) from z) (by simp)) id
  rw[List.mem_singleton.mp hp']
  exact Nat.ne_of_gt (fpLt b hb)
 have loop:codeAny (model X.prog X.w) X.A (.compLoop (.ListComp elt [⟨target,iter,ifs,0⟩] scope pos) 0 (.ref it) (.ref s.heap.objs.size) (X.comp scope N (accS s) H (s.heap.objs.size::fp)).env) (RR (.ref s.heap.objs.size) (accS s).heap.objs.size)
   { accS s with heap:=pushCells ((accS s).heap.push { cls:=.type "dict",data:=.dict #[] }) scope.names }:=by
  refine compLoop_any (fun n s'=>∃i ys its k H',Inv (X.comp scope N (accS s) H (s.heap.objs.size::fp)) [] (pick ix σ) H' s'/\tn i s'.heap/\(∀b∈fp,H' b=none)/\H' s.heap.objs.size=none /\
   s'.heap.get? s.heap.objs.size=some { cls:=.type "list",data:=.seq (its:List Value).toArray k }/\Vals ys its/\W i n ys H') ?_ m0
   ⟨0,[],[],0,H,J0,st0,fun b hb=>(hfp b hb).1,fD.1,keep0 _ _ accE,.nil,w0⟩
  rintro n s3 ⟨i,ys,its,k,H3,I3,st3,fr3,d3,l3,v3,w3⟩
  obtain ⟨hz,hw⟩:=turn i n ys H3 w3
  have pinD:Inv (X.comp scope N (accS s) H (s.heap.objs.size::fp)) [(s.heap.objs.size,{ cls:=.type "list",data:=.seq its.toArray k })] (pick ix σ) H3 s3:=I3.pins_of fun p hp=>by
   rw[List.mem_singleton.mp hp]
   exact ⟨l3,d3,(exOk _ List.mem_cons_self).1,(exOk _ List.mem_cons_self).2.1,fun v z=>by cases z⟩
  rcases hw with ⟨stop,fy⟩|⟨go,Ny,Nn,hNy,hNn,step⟩
  ·refine thn (T.done (X.comp scope N (accS s) H (s.heap.objs.size::fp)) rfl rfl rfl hc i _ s3 (pick ix σ) H3 (fun _ _=>False) pinD (stat fr3) st3 stop) fun r s4 ⟨hr,I4⟩=>?_
   subst hr
   have q:=(I4.pin (s.heap.objs.size,_) (List.mem_append_right _ List.mem_cons_self)).1
   exact fin ys H3 s4 _ its k (I4.pins_of fun p hp=>by cases hp) d3 q v3 hz fy
  ·refine thn (T.item (X.comp scope N (accS s) H (s.heap.objs.size::fp)) rfl rfl rfl hc i _ s3 (pick ix σ) H3 (fun _ _=>False) pinD (stat fr3) st3 go) fun r s4 ⟨u,hr,h4⟩=>?_
   subst hr
   refine thn h4 fun _ s5 ⟨x,H5,I5,r5,y5,st5,fr5⟩=>?_
   have I5':=I5.pinned (stat fr5) (T.obj _ _ st5)
   refine thn (hg (accS s) H (s.heap.objs.size::fp) _ s5 (pick ix σ) H5 x u _ I5' r5 (step x H5 y5)) fun _ s6 ⟨σ6,H6,I6,wk6,q6⟩=>?_
   refine thn (ht (accS s) H (s.heap.objs.size::fp) _ s6 σ6 H6 _ I6 q6) fun ok s7 ⟨H7,I7,q7⟩=>?_
   cases ok with
   | false =>
    obtain ⟨m',hm,w7⟩:=hNn H7 q7
    refine ⟨m',hm,i+1,ys,its,k,H7,(I7.weak wk6.1 wk6.2).pins_of (fun p hp=>by cases hp),?_,fun b hb=>?_,?_,?_,v3,w7⟩
    ·exact T.keep _ _ _ st5 fun b hb o e=>(I7.pin (b,o) (List.mem_append_right _ (List.mem_append_right _ (mem_pinsAt hb e)))).1
    ·obtain ⟨o,e,d⟩:=T.obj _ _ st5 b hb
     exact (I7.pin (b,o) (List.mem_append_right _ (List.mem_append_right _ (mem_pinsAt hb e)))).2.1
    ·exact (I7.pin (s.heap.objs.size,_) (List.mem_append_right _ (List.mem_append_left _ List.mem_cons_self))).2.1
    ·exact (I7.pin (s.heap.objs.size,_) (List.mem_append_right _ (List.mem_append_left _ List.mem_cons_self))).1
   | true =>
    show wpAny _ _ _ _ _ _
    refine thn (he _ s7 σ6 H7 _ I7 q7) fun yv s8 ⟨y,H8,I8,r8,q8'⟩=>?_
    obtain ⟨m',hm,w8⟩:=hNy y H8 q8'
    have q8:=I8.pin (s.heap.objs.size,_) (List.mem_append_right _ (List.mem_append_left _ List.mem_cons_self))
    refine wpAny_list_append_plain (l:=s.heap.objs.size) (items:=its.toArray) ⟨k,q8.1⟩ (fun h' hl' sb=>?_) (by rw[List.size_toArray,<- v3.length];exact hz)
    obtain ⟨k',hl'⟩:=hl'
    have I9:Inv (X.comp scope N (accS s) H (s.heap.objs.size::fp)) [] (pick ix σ) H8 { s8 with heap:=h' }:=((I8.weak wk6.1 wk6.2).pins_of (pins':=[]) (fun p hp=>by cases hp)).turned (t':=s8.toks) (it:=s.heap.objs.size)
     (fun b o hb e=>(sb.2 b hb).trans e) q8.2.1 (exOk _ List.mem_cons_self).1 (.inl List.mem_cons_self) (exOk _ List.mem_cons_self).2.2 (fun p hp=>absurd (show p∈([]:List (Addr × Obj)) from hp) (by simp))
    refine ⟨m',hm,i+1,ys++[y],its++[yv],k',H8,I9,?_,fun b hb=>?_,q8.2.1,?_,v3.append (.cons r8 .nil),w8⟩
    ·refine T.keep _ _ _ st5 fun b hb o e=>(sb.2 b (Nat.ne_of_lt (fpLt b hb))).trans (I8.pin (b,o) (List.mem_append_right _ (List.mem_append_right _ (mem_pinsAt hb e)))).1
    ·obtain ⟨o,e,d⟩:=T.obj _ _ st5 b hb
     exact (I8.pin (b,o) (List.mem_append_right _ (List.mem_append_right _ (mem_pinsAt hb e)))).2.1
    ·have e:its.toArray.push yv=(its++[yv]).toArray:=by simp
     rw[<- e];exact hl'
 exact codeAny_compStart_list loop (T.self _ 0 _ _ _ st0 loop)
theorem pe_compG (hc:X.calm=true) (hi:PI X target iter wi) (hg:∀s H ex,PG (X.comp scope N s H ex) target g) (ht:∀s H ex,PIfs (X.comp scope N s H ex) ifs tc) (he:∀s H ex,PE (X.comp scope N s H ex) elt te)
  (hk:scope.kind=.function) (hnm:okNames scope=true) (hf:okFree scope X.env=true) (hx:okIx scope X.N N ix=true) (hs:∀x,foldedSetIterable iter X.env x=pure x):
  PE X (.ListComp elt [⟨target,iter,ifs,0⟩] scope pos) (fun σ H Q=>wi σ H fun J H1=>Blk J (pick ix σ) g tc te H1 fun ys H2=>∀p,H2 p=none->Q (.ref p) (upd H2 p (.lst ys))):=by
 intro pins s σ H Q I h
 rw[eval_ListComp]
 refine wpAny_comprehension_free (use:=none) rfl hs (closureFor_eq (I.closed hf)) hk (fun x hx hl=>(okNames_get hnm hx).trans (by rw[hl])) ?_
 refine thn (hi pins s σ H _ I h) fun v s1 h1=>thn h1 fun itv s2 h2=>?_
 obtain ⟨it,fp,tn,J,H2,e,I2,T,st2,f2,B⟩:=h2
 subst e
 refine comp_run (RR:=fun acc C=>compPost (model X.prog X.w) X.A X.xe none (EP X pins σ Q) acc C) hc hk hnm hf hx hg ht (he _ _ _) I2 T st2 f2 B ?_
 intro ys H' s' σ' its n J' hD hl hv hz hF
 obtain ⟨m,hm,_⟩:=J'.loc
 exact ⟨m,hm,fun h' hs'=>⟨.ref s2.heap.objs.size,_,I2.comp_end J' f2 hD hl hv hz hs',rfl,hF _ hD⟩⟩
theorem ps_setcompG {i:Nat}{y:Str}{py spos:Pos} (hc:X.calm=true) (hN:X.N.Nodup) (hn:X.N[i]?=some y) (hy:X.env.scope.names.lookup y=some .local)
  (hi:PI X target iter wi) (hg:∀s H ex,PG (X.comp scope N s H ex) target g) (ht:∀s H ex,PIfs (X.comp scope N s H ex) ifs tc) (he:∀s H ex,PE (X.comp scope N s H ex) elt te)
  (hk:scope.kind=.function) (hnm:okNames scope=true) (hf:okFree scope X.env=true) (hx:okIx scope X.N N ix=true) (hs:∀x,foldedSetIterable iter X.env x=pure x)
  (hsw:swapsWith (.ListComp elt [⟨target,iter,ifs,0⟩] scope pos) (some (.Name y py)) spos.line X.env=pure true):
  PS X (.Assign [.Name y py] (.ListComp elt [⟨target,iter,ifs,0⟩] scope pos) spos) (fun D σ H=>wi σ H fun J H1=>Blk J (pick ix σ) g tc te H1 fun ys H2=>∀p,H2 p=none->D.nx (σ.set i (some (.ref p))) (upd H2 p (.lst ys))):=by
 intro pins s σ H D I h
 rw[exec_Assign_Name_used _ _ _ _ hsw]
 refine wpAny_bind (wpAny_standAt (wpAny_bind ?_))
 show wpAny _ X.A (do let _ <- comprehension (.ListComp elt [⟨target,iter,ifs,0⟩] scope pos) scope X.env _ (newList []) false (eval iter X.env) (some (assign (.Name y py) X.env))) _ _ s
 refine wpAny_bind (thn (wpAny_comprehension_free (use:=some (assign (.Name y py) X.env)) (Q:=fun _ s'=>SP X pins D .next s') rfl hs (closureFor_eq (I.closed hf)) hk (fun x hx hl=>(okNames_get hnm hx).trans (by rw[hl])) ?_) fun _ s' hq=>wpAny_pure (wpAny_pure hq))
 refine thn (hi pins s σ H _ I h) fun v s1 h1=>thn h1 fun itv s2 h2=>?_
 obtain ⟨it,fp,tn,J,H2,e,I2,T,st2,f2,B⟩:=h2
 subst e
 refine comp_run (RR:=fun acc C=>compPost (model X.prog X.w) X.A X.xe (some (assign (.Name y py) X.env)) (fun _ s'=>SP X pins D .next s') acc C) hc hk hnm hf hx hg ht (he _ _ _) I2 T st2 f2 B ?_
 intro ys H' s' σ' its n J' hD hl hv hz hF
 obtain ⟨m,hm,_⟩:=J'.loc
 have I3:=I2.comp_end (h':=s'.heap) J' f2 hD hl hv hz (.refl ..)
 show wpAny _ X.A (assign (.Name y py) X.env (.ref s2.heap.objs.size)) _ _ _
 refine wpAny_assign_Name (store_ok2 (v:=.ref s2.heap.objs.size) I3 hN hn (.inl hy) rfl (fun s'' I4 hsb=>?_) (.inr hy))
 obtain ⟨a,sb,ha⟩:=hsb
 have hCa:(accS s2).heap.objs.size≠a:=by
  rw[acc_size]
  rcases ha with z|z
  ·rw[z];exact Nat.ne_of_gt (Nat.lt_succ_of_lt I2.lt)
  ·obtain ⟨v,q⟩:=I2.cell y a z
   exact Nat.ne_of_gt (Nat.lt_succ_of_lt q.lt)
 have hC2:(upd H' s2.heap.objs.size (.lst ys)) (accS s2).heap.objs.size=none:=by
  rw[upd_ne (by rw[acc_size];exact Nat.ne_of_gt (Nat.lt_succ_self _))]
  exact J'.free
 refine ⟨m,hm.sameBut sb hCa,fun h' hs'=>?_⟩
 refine ⟨_,_,?_,hF _ hD⟩
 obtain ⟨m2,n2,_⟩:=id I4.loc
 refine I4.turned (t':=s''.toks) (it:=(accS s2).heap.objs.size) (fun b o hb e=>(hs'.2 b hb).trans e) hC2 ?_ ?_ ?_ ?_
 ·rw[acc_size];exact Nat.ne_of_gt (Nat.lt_succ_of_lt I2.lt)
 ·rw[acc_size];exact .inr (Nat.le_trans I2.sz (Nat.le_succ _))
 ·intro x c e
  obtain ⟨v,q⟩:=I2.cell x c e
  rw[acc_size];exact Nat.ne_of_lt (Nat.lt_succ_of_lt q.lt)
 ·intro p hp
  rw[acc_size];exact Nat.ne_of_lt (Nat.lt_succ_of_lt (Heap.lt_size (I2.pin p hp).1))
end
end L2
namespace L2
open PySem PySem.Spec PyProof.Rows
section
variable {X:Cx}{pins:List (Addr × Obj)}{σ:St}{H:Hp}{s:Shared}{p:Addr}{xs:List V}
theorem seq_walk {A:Around}{E:Value->Shared->Prop}{Q:Value->Shared->Prop} (I:Inv X pins σ H s) (hh:A.handled=none) (hs:SqL X.K H p xs ∨ SqT X.K H p xs)
  (h:∀(its:List Value) (it:Addr) (fp wr:List Addr) (St:Nat->Heap->Prop) (h2:Heap),Vals xs its->Walks X.prog X.w A it fp wr its.length (fun i v=>its[i]?=some v) St->St 0 h2->(∀b∈fp,b<h2.objs.size) ->
   (∀h':Heap,(∀b o,b ∉ wr->h2.get? b=some o->h'.get? b=some o)->∀b o,s.heap.get? b=some o->h'.get? b=some o)->Q (.ref it) { s with heap:=h2 }):
  wpAny (model X.prog X.w) A (pyIter (.ref p)) Q E s:=by
 have keep:∀(o:Obj) (h':Heap),(∀b u,b ∉ [s.heap.objs.size]->(s.heap.push o).get? b=some u->h'.get? b=some u)->∀b u,s.heap.get? b=some u->h'.get? b=some u:=fun o h' hk b u e =>
  hk b u (fun hm=>by rw[List.mem_singleton.mp hm] at e;exact Nat.lt_irrefl _ (Heap.lt_size e)) (Heap.get?_push_of_some _ e)
 rcases hs with hs|hs
 ·obtain ⟨its,rv,pl,hz⟩:=I.list hs
  have hlt:p<s.heap.objs.size:=by obtain ⟨_,e,_⟩:=pl.isList;exact Heap.lt_size e
  refine wpAny_pyIter_list pl.isList ?_
  have W:=Walks.list (prog:=X.prog) (w:=X.w) (A:=A) hh s.heap.objs.size p (Nat.ne_of_lt hlt) its.toArray
  refine h its s.heap.objs.size [s.heap.objs.size,p] [s.heap.objs.size] (fun i h=>h.IsListIter s.heap.objs.size p i/\h.IsList p its.toArray) _ rv (by simpa using W) ⟨⟨_,Heap.get?_push_size _ rfl,rfl,rfl⟩,pl.isList.push _⟩ (fun b hb=>?_) (keep _)
  rw[Heap.size_push]
  rcases List.mem_cons.mp hb with rfl|hb
  ·exact Nat.lt_succ_self _
  ·rw[List.mem_singleton.mp hb];exact Nat.lt_succ_of_lt hlt
 ·obtain ⟨its,rv,pl,hz⟩:=I.tuple hs
  have pl':s.heap.IsTuple p its.toArray:=pl
  have hlt:p<s.heap.objs.size:=pl.lt
  refine wpAny_pyIter_tuple pl' ?_
  have W:=Walks.tuple (prog:=X.prog) (w:=X.w) (A:=A) hh s.heap.objs.size p (Nat.ne_of_lt hlt) its.toArray
  refine h its s.heap.objs.size [s.heap.objs.size,p] [s.heap.objs.size] (fun i h=>h.IsTupleIter s.heap.objs.size p i/\h.IsTuple p its.toArray) _ rv (by simpa using W) ⟨⟨_,Heap.get?_push_size _ rfl,rfl,rfl⟩,pl'.push _⟩ (fun b hb=>?_) (keep _)
  rw[Heap.size_push]
  rcases List.mem_cons.mp hb with rfl|hb
  ·exact Nat.lt_succ_self _
  ·rw[List.mem_singleton.mp hb];exact Nat.lt_succ_of_lt hlt
noncomputable def nth (ns:List Int) (i:Nat):Int:=(ns[i]?).getD 0
theorem preSum_nth (ns:List Int):∀k,preSum (nth ns) k=(ns.take k).sum
 | 0=>by simp[preSum]
 | k+1=>by
  rw[preSum,preSum_nth ns k,List.take_add_one,List.sum_append]
  unfold nth
  cases ns[k]? <;> simp
theorem vals_int {ns:List Int}{its:List Value} (r:Vals (ns.map V.int) its) {i:Nat}{v:Value} (e:its[i]?=some v):∃t,v=.int (nth ns i) t:=by
 have hl:=r.length
 rw[List.length_map] at hl
 have hi:i<ns.length:=by rw[hl];exact (List.getElem?_eq_some_iff.mp e).1
 obtain ⟨u,hu,ru⟩:=r.get (i:=i) (x:=.int ns[i]) (by rw[List.getElem?_map,List.getElem?_eq_getElem hi];rfl)
 rw[e] at hu;cases hu
 obtain ⟨t,rfl⟩:=ru
 exact ⟨t,by unfold nth;rw[List.getElem?_eq_getElem hi];rfl⟩
theorem call_sum_seq (hc:X.calm=true):CallR X (.builtin "sum") (fun xs H Q=>∃(p:Addr) (ns:List Int),xs=[.ref p]/\(SqL X.K H p (ns.map V.int) ∨ SqT X.K H p (ns.map V.int))/\Q (.int ns.sum) H):=by
 intro pins s σ H xs us Q I r h
 obtain ⟨p,ns,rfl,hs,q⟩:=h
 obtain ⟨u,rfl,ru⟩:=vals1 r
 cases ru
 refine call_sum_walkG (seq_walk (A:=X.A.in1) I (I.ok.hd hc) hs fun its it fp wr St h2 rv W st hfp keep=>?_)
 refine ⟨it,fp,wr,its.length,_,St,nth ns,rfl,W,st,hfp,fun i v e=>vals_int rv e,fun h' tk t' hk=>?_⟩
 have e:preSum (nth ns) its.length=ns.sum:=by
  rw[preSum_nth,<- rv.length,List.length_map,List.take_length]
 rw[e]
 exact ⟨.int ns.sum,H,I.kept (keep h' hk),⟨_,rfl⟩,q⟩
noncomputable def truV:V->Bool
 | .bl b=>b
 | .int i=>i != 0
 | .non=>false
 | _=>true
noncomputable def okTru:V->Bool
 | .bl _=>true
 | .int _=>true
 | .non=>true
 | _=>false
theorem truth_V {A:Around}{E:Value->Shared->Prop}{x:V}{v:Value}{s:Shared}{Q:Bool->Shared->Prop} (r:RelV x v) (ok:okTru x=true) (h:Q (truV x) s):wpAny (model X.prog X.w) A (truthy v) Q E s:=by
 cases x with
 | bl b=>cases r;exact wpAny_truthy_bool h
 | int i=>obtain ⟨t,rfl⟩:=r;exact PyProof.Rows.truthy_int h
 | non=>cases r;exact PyProof.Rows.truthy_none h
 | _=>exact absurd (show false=true from ok) Bool.false_ne_true
noncomputable def tnth (d:Bool) (xs:List V) (i:Nat):Bool:=((xs[i]?).map truV).getD d
theorem all_nth (xs:List V):(List.range xs.length).all (tnth true xs)=xs.all truV:=by
 rw[Bool.eq_iff_iff,List.all_eq_true,List.all_eq_true]
 constructor
 ·intro h b hb
  obtain ⟨i,hi,e⟩:=List.getElem_of_mem hb
  have:=h i (List.mem_range.mpr hi)
  unfold tnth at this
  rw[List.getElem?_eq_getElem hi,e] at this
  exact this
 ·intro h i hi
  have hi':=List.mem_range.mp hi
  unfold tnth
  rw[List.getElem?_eq_getElem hi']
  exact h _ (List.getElem_mem hi')
theorem any_nth (xs:List V):(List.range xs.length).any (tnth false xs)=xs.any truV:=by
 rw[Bool.eq_iff_iff,List.any_eq_true,List.any_eq_true]
 constructor
 ·rintro ⟨i,hi,e⟩
  have hi':=List.mem_range.mp hi
  unfold tnth at e
  rw[List.getElem?_eq_getElem hi'] at e
  exact ⟨_,List.getElem_mem hi',e⟩
 ·rintro ⟨b,hb,e⟩
  obtain ⟨i,hi,rfl⟩:=List.getElem_of_mem hb
  refine ⟨i,List.mem_range.mpr hi,?_⟩
  unfold tnth
  rw[List.getElem?_eq_getElem hi]
  exact e
theorem truthOf_nth {A:Around}{its:List Value} (d:Bool) (rv:Vals xs its) (ok:xs.all okTru=true):TruthOf X.prog X.w A (fun i v=>its[i]?=some v) (tnth d xs):=by
 intro i v s Q E e hQ
 have hi:i<xs.length:=by rw[rv.length];exact (List.getElem?_eq_some_iff.mp e).1
 obtain ⟨u,hu,ru⟩:=rv.get (i:=i) (x:=xs[i]) (by rw[List.getElem?_eq_getElem hi])
 rw[e] at hu;cases hu
 refine truth_V (X:=X) ru (List.all_eq_true.mp ok _ (List.getElem_mem hi)) ?_
 unfold tnth at hQ
 rw[List.getElem?_eq_getElem hi] at hQ
 exact hQ
theorem call_all_seq (hc:X.calm=true):CallR X (.builtin "all") (fun xs H Q=>∃(p:Addr) (ys:List V),xs=[.ref p]/\(SqL X.K H p ys ∨ SqT X.K H p ys)/\ys.all okTru=true/\Q (.bl (ys.all truV)) H):=by
 intro pins s σ H xs us Q I r h
 obtain ⟨p,ys,rfl,hs,ok,q⟩:=h
 obtain ⟨u,rfl,ru⟩:=vals1 r
 cases ru
 refine call_all_walk (seq_walk (A:=X.A.in1) I (I.ok.hd hc) hs fun its it fp wr St h2 rv W st hfp keep=>?_)
 refine ⟨it,fp,wr,its.length,_,St,tnth true ys,rfl,W,st,truthOf_nth true rv ok,fun h' tk hk=>?_⟩
 rw[<- rv.length,all_nth]
 exact ⟨.bl _,H,I.kept (keep h' hk),rfl,q⟩
theorem call_any_seq (hc:X.calm=true):CallR X (.builtin "any") (fun xs H Q=>∃(p:Addr) (ys:List V),xs=[.ref p]/\(SqL X.K H p ys ∨ SqT X.K H p ys)/\ys.all okTru=true/\Q (.bl (ys.any truV)) H):=by
 intro pins s σ H xs us Q I r h
 obtain ⟨p,ys,rfl,hs,ok,q⟩:=h
 obtain ⟨u,rfl,ru⟩:=vals1 r
 cases ru
 refine call_any_walk (seq_walk (A:=X.A.in1) I (I.ok.hd hc) hs fun its it fp wr St h2 rv W st hfp keep=>?_)
 refine ⟨it,fp,wr,its.length,_,St,tnth false ys,rfl,W,st,truthOf_nth false rv ok,fun h' tk hk=>?_⟩
 rw[<- rv.length,any_nth]
 exact ⟨.bl _,H,I.kept (keep h' hk),rfl,q⟩
theorem call_max_seq (hc:X.calm=true):CallR X (.builtin "max") (fun xs H Q=>∃(p:Addr) (ns:List Int),xs=[.ref p]/\(SqL X.K H p (ns.map V.int) ∨ SqT X.K H p (ns.map V.int))/\ns≠[]/\∀m,m∈ns->(∀n∈ns,n<=m)->Q (.int m) H):=by
 intro pins s σ H xs us Q I r h
 obtain ⟨p,ns,rfl,hs,hne,q⟩:=h
 obtain ⟨u,rfl,ru⟩:=vals1 r
 cases ru
 refine call_max_walk (seq_walk (A:=X.A.in1) I (I.ok.hd hc) hs fun its it fp wr St h2 rv W st hfp keep=>?_)
 have hl:its.length=ns.length:=by rw[<- rv.length,List.length_map]
 have hp:0<ns.length:=List.length_pos_iff.mpr hne
 refine ⟨it,fp,wr,its.length,_,St,_,rfl,W,st,hfp,by rw[hl];exact hp,CmpOf.ints_gt (nth ns) (fun i v e=>vals_int rv e),fun v h' tk e hk=>?_⟩
 obtain ⟨t,rfl⟩:=vals_int rv e
 obtain ⟨a1,a2⟩:=argBest_gt (nth ns) (its.length - 1)
 have hb:argBest (fun i j=>decide (nth ns i > nth ns j)) (its.length - 1)<ns.length:=by omega
 have e1:nth ns (argBest (fun i j=>decide (nth ns i > nth ns j)) (its.length - 1))∈ns:=by
  generalize hg:argBest (fun i j=>decide (nth ns i > nth ns j)) (its.length - 1)=k at hb
  unfold nth
  rw[List.getElem?_eq_getElem hb]
  exact List.getElem_mem hb
 refine ⟨.int _,H,I.kept (keep h' hk),⟨_,rfl⟩,q _ e1 fun n hn=>?_⟩
 obtain ⟨j,hj,rfl⟩:=List.getElem_of_mem hn
 have:=a2 j (by omega)
 have e2:nth ns j=ns[j]:=by unfold nth;rw[List.getElem?_eq_getElem hj];rfl
 rw[e2] at this
 exact this
theorem call_min_seq (hc:X.calm=true):CallR X (.builtin "min") (fun xs H Q=>∃(p:Addr) (ns:List Int),xs=[.ref p]/\(SqL X.K H p (ns.map V.int) ∨ SqT X.K H p (ns.map V.int))/\ns≠[]/\∀m,m∈ns->(∀n∈ns,m<=n)->Q (.int m) H):=by
 intro pins s σ H xs us Q I r h
 obtain ⟨p,ns,rfl,hs,hne,q⟩:=h
 obtain ⟨u,rfl,ru⟩:=vals1 r
 cases ru
 refine call_min_walk (seq_walk (A:=X.A.in1) I (I.ok.hd hc) hs fun its it fp wr St h2 rv W st hfp keep=>?_)
 have hl:its.length=ns.length:=by rw[<- rv.length,List.length_map]
 have hp:0<ns.length:=List.length_pos_iff.mpr hne
 refine ⟨it,fp,wr,its.length,_,St,_,rfl,W,st,hfp,by rw[hl];exact hp,CmpOf.ints_lt (nth ns) (fun i v e=>vals_int rv e),fun v h' tk e hk=>?_⟩
 obtain ⟨t,rfl⟩:=vals_int rv e
 obtain ⟨a1,a2⟩:=argBest_lt (nth ns) (its.length - 1)
 have hb:argBest (fun i j=>decide (nth ns i<nth ns j)) (its.length - 1)<ns.length:=by omega
 have e1:nth ns (argBest (fun i j=>decide (nth ns i<nth ns j)) (its.length - 1))∈ns:=by
  generalize hg:argBest (fun i j=>decide (nth ns i<nth ns j)) (its.length - 1)=k at hb
  unfold nth
  rw[List.getElem?_eq_getElem hb]
  exact List.getElem_mem hb
 refine ⟨.int _,H,I.kept (keep h' hk),⟨_,rfl⟩,q _ e1 fun n hn=>?_⟩
 obtain ⟨j,hj,rfl⟩:=List.getElem_of_mem hn
 have:=a2 j (by omega)
 have e2:nth ns j=ns[j]:=by unfold nth;rw[List.getElem?_eq_getElem hj];rfl
 rw[e2] at this
 exact this
end
end L2
namespace L2
open PySem PySem.Spec PyProof.Rows
section
variable {prog:Program}{w:World}{A:Around}{E:Value->Shared->Prop}{s:Shared}
theorem nextT_item {it t:Addr}{i:Nat}{its:Array Value}{x:Value}{Q:Value->Shared->Prop} (hit:s.heap.IsTupleIter it t i) (ht:s.heap.IsTuple t its) (hx:its[i]?=some x)
  (hQ:∀h',h'.IsTupleIter it t (i+1)->Heap.SameBut it s.heap h'->Q x { s with heap:=h' }):wpAny (model prog w) A (Builtin.SmallTypes.nextOf (.ref it)) Q E s:=by
 obtain ⟨o,ho,hc,hd⟩:=id hit
 obtain ⟨ol,hol,_,nl,hdl⟩:=ht
 unfold Builtin.SmallTypes.nextOf
 refine wpAny_bind (wpAny_callSpecial?_slot (name:=Str.ofString "__next__") hit.typeIs F.slot_tuple_iterator_next
  (wpAny_call_entry F.slot_tuple_iterator_next hit.typeIs F.entry_tuple_iterator_next ?_ (F.args_tuple_iterator_next_1 _)))
 show wpAny _ _ (field (.ref it) 0 >>= _) _ _ s
 refine wpAny_bind (wpAny_field ho hd (x:=.ref t) rfl ?_)
 show wpAny _ _ (if (Value.ref t == Value.none)=true then _ else _) _ _ s
 rw[if_neg (show ¬ ((Value.ref t == Value.none)=true) from Bool.false_ne_true)]
 show wpAny _ _ (field (.ref it) 1 >>= _) _ _ s
 refine wpAny_bind (wpAny_field ho hd (x:=.int i 0) rfl ?_)
 show wpAny _ _ (seqItems? (.ref t) >>= _) _ _ s
 refine wpAny_bind (wpAny_seqItems hol hdl ?_)
 simp only[Int.toNat_natCast,hx]
 refine wpAny_bind (wpAny_setField ho hd (by simp) (wpAny_pure ⟨x,rfl,wpAny_pure (hQ _ ?_ (Heap.SameBut.update ..))⟩))
 exact ⟨_,Heap.get?_update_self _ ho (Obj.isFreed_of_fields (Obj.data_mapFields hd _)),(Obj.cls_mapFields ..).trans hc,by
  rw[Obj.data_mapFields hd];simp[rawInt]⟩
end
end L2
namespace L2
open PySem PySem.Spec PyProof.Rows
section
variable {prog:Program}{w:World}{A:Around}{E:Value->Shared->Prop}{s:Shared}
theorem nextT_end {it t:Addr}{i:Nat}{its:Array Value}{Q:Value->Shared->Prop} (hh:A.handled=none) (hit:s.heap.IsTupleIter it t i) (ht:s.heap.IsTuple t its) (hx:its[i]?=none)
  (hE:∀h' e,Heap.ExtBut it s.heap h'->(∃o,h'.get? e=some o/\o.cls=.type "StopIteration")->E (.ref e) { s with heap:=h' }):wpAny (model prog w) A (Builtin.SmallTypes.nextOf (.ref it)) Q E s:=by
 obtain ⟨o,ho,hc,hd⟩:=id hit
 obtain ⟨ol,hol,_,nl,hdl⟩:=ht
 unfold Builtin.SmallTypes.nextOf
 refine wpAny_bind (wpAny_callSpecial?_slot (name:=Str.ofString "__next__") hit.typeIs F.slot_tuple_iterator_next
  (wpAny_call_entry F.slot_tuple_iterator_next hit.typeIs F.entry_tuple_iterator_next ?_ (F.args_tuple_iterator_next_1 _)))
 show wpAny _ _ (field (.ref it) 0 >>= _) _ _ s
 refine wpAny_bind (wpAny_field ho hd (x:=.ref t) rfl ?_)
 show wpAny _ _ (if (Value.ref t == Value.none)=true then _ else _) _ _ s
 rw[if_neg (show ¬ ((Value.ref t == Value.none)=true) from Bool.false_ne_true)]
 show wpAny _ _ (field (.ref it) 1 >>= _) _ _ s
 refine wpAny_bind (wpAny_field ho hd (x:=.int i 0) rfl ?_)
 show wpAny _ _ (seqItems? (.ref t) >>= _) _ _ s
 refine wpAny_bind (wpAny_seqItems hol hdl ?_)
 simp only[Int.toNat_natCast,hx]
 refine wpAny_bind (wpAny_rule (wpAny_bind (wpAny_setField ho hd (by simp) ?_)))
 show wpAny _ _ (newExc (.type "StopIteration") [] >>= _) _ _ _
 refine wpAny_bind ?_
 simp only[newExc,newTuple]
 refine wpAny_bind (wpAny_newObj_type ?_ (by size_fits))
 refine wpAny_bind (m:=firstArgMember _ _) (wpAny_of_eq (a:=Value.none) (by first|rfl | (simp only[firstArgMember];rfl)) ?_)
 refine wpAny_newObj_type ?_ (by size_fits)
 simp only[raiseNew]
 refine wpAny_bind (wpAny_handled ?_)
 first|rw[show A.in1.handled=none from hh]|rw[hh]
 exact wpAny_bind (wpAny_pure (wpAny_throw (hE _ _ (((Heap.SameBut.update ..).extBut.push _).push _) ⟨_,Heap.get?_push_size _ rfl,rfl⟩)))
structure ZipT (h:Heap) (z TI TO i1 i2 t1 t2:Addr) (k:Nat):Prop where
 zz:IsZip h z TI TO .none
 ti:IsPair h TI (.ref i1) (.ref i2)
 tO:∃a b,IsPair h TO a b
 it1:h.IsTupleIter i1 t1 k
 it2:h.IsTupleIter i2 t2 k
structure ZipD (z TI TO i1 i2 t1 t2:Addr):Prop where
 a1:TI≠z
 a2:TO≠z
 a3:i1≠z
 a4:i2≠z
 b1:TI≠TO
 b2:TI≠i1
 b3:TI≠i2
 c1:TO≠i1
 c2:TO≠i2
 d1:i1≠i2
 e1:t1≠z
 e2:t1≠TO
 e3:t1≠i1
 e4:t1≠i2
 f1:t2≠z
 f2:t2≠TO
 f3:t2≠i1
 f4:t2≠i2
theorem ne_add {n a b:Nat} (h:a≠b):n+a≠n+b:=by omega
theorem ne_lo {n a t:Nat} (h:t<n):t≠n+a:=by omega
theorem ZipD.new {n t1 t2:Nat} (h1:t1<n) (h2:t2<n):ZipD (n+4) (n+2) (n+3) n (n+1) t1 t2 where
 a1:=ne_add (by decide)
 a2:=ne_add (by decide)
 a3:=ne_add (n:=n) (a:=0) (by decide)
 a4:=ne_add (by decide)
 b1:=ne_add (by decide)
 b2:=ne_add (n:=n) (b:=0) (by decide)
 b3:=ne_add (by decide)
 c1:=ne_add (n:=n) (b:=0) (by decide)
 c2:=ne_add (by decide)
 d1:=ne_add (n:=n) (a:=0) (by decide)
 e1:=ne_lo h1
 e2:=ne_lo h1
 e3:=ne_lo (a:=0) h1
 e4:=ne_lo h1
 f1:=ne_lo h2
 f2:=ne_lo h2
 f3:=ne_lo (a:=0) h2
 f4:=ne_lo h2
theorem zipT_item {z TI TO i1 i2 t1 t2:Addr}{xs ys:Array Value}{k:Nat}{x y:Value}{Q:Option Value->Shared->Prop} (D:ZipD z TI TO i1 i2 t1 t2) (Z:ZipT s.heap z TI TO i1 i2 t1 t2 k) (hl1:s.heap.IsTuple t1 xs) (hl2:s.heap.IsTuple t2 ys)
  (hx:xs[k]?=some x) (hy:ys[k]?=some y)
  (hQ:∀h',IsZip h' z TI TO (rawInt s.heap.objs.size)->IsPair h' TO x y->h'.IsTupleIter i1 t1 (k+1)->h'.IsTupleIter i2 t2 (k+1)->IsPair h' s.heap.objs.size x y->h'.objs.size=s.heap.objs.size+1 ->
   (∀c o,c ∉ [z,TO,i1,i2]->s.heap.get? c=some o->h'.get? c=some o)->Q (some (.ref s.heap.objs.size)) { s with heap:=h' }):
  wpAny (model prog w) A (pyNext (.ref z)) Q E s:=by
 obtain ⟨hz,hTI,⟨a,b,hTO⟩,h1,h2⟩:=Z
 have hT:s.TypeIs (.ref z) "zip":=⟨_,hz,rfl⟩
 unfold pyNext
 refine wpAny_bind (wpAny_attempt (wpAny_callSpecial?_slot (name:=Str.ofString "__next__") hT F.slot_zip_next (wpAny_call_entry F.slot_zip_next hT F.entry_zip_next ?_ (F.args_zip_next_1 _))))
 show wpAny _ _ (field (.ref z) 2 >>= _) _ _ _
 refine wpAny_bind (wpAny_field hz rfl (x:=.bool false) rfl ?_)
 show wpAny _ _ (field (.ref z) 3 >>= _) _ _ _
 refine wpAny_bind (wpAny_field hz rfl (x:=.ref TI) rfl (wpAny_bind (wpAny_seqItems hTI rfl ?_)))
 show wpAny _ _ (Builtin.SmallTypes.ownedTupleIsFree (.ref z) >>= _) _ _ _
 refine wpAny_bind ?_
 unfold Builtin.SmallTypes.ownedTupleIsFree
 refine wpAny_bind (wpAny_field hz rfl (x:=.none) rfl (wpAny_pure ?_))
 simp only[if_true]
 refine wpAny_bind (wpAny_rule (wpAny_bind (wpAny_field hz rfl (x:=.ref TO) rfl (wpAny_bind (wpAny_setField_rec hz (by simp) fun g1 z1 s1=>?_)))))
 replace z1:IsZip g1 z TI TO .ellipsis:=z1
 refine wpAny_bind ?_
 simp only[List.zipIdx_cons,List.zipIdx_nil,List.forIn_cons,List.forIn_nil]
 refine wpAny_bind (wpAny_bind (wpAny_onRaise ?_))
 show wpAny _ _ (Builtin.SmallTypes.nextOf (.ref i1) >>= _) _ _ _
 refine wpAny_bind (nextT_item (h1.at fun o e=>s1.extBut _ o D.a3 e) (hl1.at fun o e=>s1.extBut _ o D.e1 e) hx fun g2 j1 s2=>wpAny_pure ?_)
 have o2:IsPair g2 TO a b:=s2.extBut _ _ D.c1 (s1.extBut _ _ D.a2 hTO)
 refine wpAny_bind (wpAny_seqItems o2 rfl (wpAny_bind (wpAny_updateSeq_pair o2 fun g3 o3 s3=>?_)))
 replace o3:IsPair g3 TO x b:=o3
 refine wpAny_bind (wpAny_letGo (wpAny_pure (wpAny_bind (wpAny_bind (wpAny_onRaise ?_)))))
 show wpAny _ _ (Builtin.SmallTypes.nextOf (.ref i2) >>= _) _ _ _
 refine wpAny_bind (nextT_item (h2.at fun o e=>s3.extBut _ o D.c2.symm (s2.extBut _ o D.d1.symm (s1.extBut _ o D.a4 e))) (hl2.at fun o e=>s3.extBut _ o D.f2 (s2.extBut _ o D.f3 (s1.extBut _ o D.f1 e))) hy fun g4 j2 s4=>wpAny_pure ?_)
 have o4:IsPair g4 TO x b:=s4.extBut _ _ D.c2 o3
 refine wpAny_bind (wpAny_seqItems o4 rfl (wpAny_bind (wpAny_updateSeq_pair o4 fun g5 o5 s5=>?_)))
 replace o5:IsPair g5 TO x y:=o5
 refine wpAny_bind (wpAny_letGo (wpAny_pure (wpAny_pure ?_)))
 refine wpAny_bind (wpAny_seqItems o5 rfl (wpAny_bind (wpAny_newTuple ?_)))
 have hsz:g5.objs.size=s.heap.objs.size:=by rw[s5.1,s4.1,s3.1,s2.1,s1.1]
 have z5:IsZip g5 z TI TO .ellipsis:=s5.extBut _ _ D.a2.symm (s4.extBut _ _ D.a4.symm (s3.extBut _ _ D.a2.symm (s2.extBut _ _ D.a3.symm z1)))
 have k5:∀c o,c ∉ [z,TO,i1,i2]->s.heap.get? c=some o->g5.get? c=some o:=fun c o hc e=>by
  simp only[List.mem_cons,List.not_mem_nil,or_false,not_or] at hc
  exact s5.extBut _ _ hc.2.1 (s4.extBut _ _ hc.2.2.2 (s3.extBut _ _ hc.2.1 (s2.extBut _ _ hc.2.2.1 (s1.extBut _ _ hc.1 e))))
 have m1:g5.IsTupleIter i1 t1 (k+1):=j1.at fun o e=>s5.extBut _ o D.c1.symm (s4.extBut _ o D.d1 (s3.extBut _ o D.c1.symm e))
 have m2:g5.IsTupleIter i2 t2 (k+1):=j2.at fun o e=>s5.extBut _ o D.c2.symm e
 show wpAny _ _ (Builtin.SmallTypes.ownedTupleHandOut (.ref z) (.ref g5.objs.size) >>= _) _ _ _
 refine wpAny_bind ?_
 unfold Builtin.SmallTypes.ownedTupleHandOut
 have z6:IsZip (g5.push { cls:=.type "tuple",data:=.seq #[x,y] }) z TI TO .ellipsis:=Heap.get?_push_of_some _ z5
 refine wpAny_bind (wpAny_setField_rec z6 (by simp) fun g7 z7 s7=>?_)
 replace z7:IsZip g7 z TI TO (rawInt g5.objs.size):=z7
 refine wpAny_setField_rec z7 (by simp) fun g8 z8 s8=>?_
 replace z8:IsZip g8 z TI TO (rawInt g5.objs.size):=z8
 have up:∀c o,c≠z->g5.get? c=some o->g8.get? c=some o:=fun c o hc e=>s8.extBut _ _ hc (s7.extBut _ _ hc (Heap.get?_push_of_some _ e))
 have new8:IsPair g8 g5.objs.size x y:=s8.extBut _ _ (Nat.ne_of_gt (Heap.lt_size z5)) (s7.extBut _ _ (Nat.ne_of_gt (Heap.lt_size z5)) (Heap.get?_push_size _ rfl))
 have size8:g8.objs.size=g5.objs.size+1:=by rw[s8.1,s7.1,Heap.size_push]
 rw[hsz] at z8 new8 size8
 refine wpAny_pure ⟨_,rfl,wpAny_pure ?_⟩
 show Q (some (.ref g5.objs.size)) _
 rw[hsz]
 exact hQ g8 z8 (up _ _ D.a2 o5) (m1.at fun o e=>up _ o D.a3 e) (m2.at fun o e=>up _ o D.a4 e) new8 size8 fun c o hc e=>up c o (fun q=>hc (by simp[q])) (k5 c o hc e)
theorem zipT_end {z TI TO i1 i2 t1 t2:Addr}{xs:Array Value}{k:Nat}{Q:Option Value->Shared->Prop} (hh:A.handled=none) (D:ZipD z TI TO i1 i2 t1 t2) (Z:ZipT s.heap z TI TO i1 i2 t1 t2 k) (hl1:s.heap.IsTuple t1 xs)
  (hx:xs[k]?=none) (hQ:∀h',(∀c o,c ∉ [z,TO,i1,i2]->s.heap.get? c=some o->h'.get? c=some o)->Q none { s with heap:=h' }):wpAny (model prog w) A (pyNext (.ref z)) Q E s:=by
 obtain ⟨hz,hTI,⟨a,b,hTO⟩,h1,h2⟩:=Z
 have hT:s.TypeIs (.ref z) "zip":=⟨_,hz,rfl⟩
 unfold pyNext
 refine wpAny_bind (wpAny_attempt (wpAny_callSpecial?_slot (name:=Str.ofString "__next__") hT F.slot_zip_next (wpAny_call_entry F.slot_zip_next hT F.entry_zip_next ?_ (F.args_zip_next_1 _))))
 show wpAny _ _ (field (.ref z) 2 >>= _) _ _ _
 refine wpAny_bind (wpAny_field hz rfl (x:=.bool false) rfl ?_)
 show wpAny _ _ (field (.ref z) 3 >>= _) _ _ _
 refine wpAny_bind (wpAny_field hz rfl (x:=.ref TI) rfl (wpAny_bind (wpAny_seqItems hTI rfl ?_)))
 show wpAny _ _ (Builtin.SmallTypes.ownedTupleIsFree (.ref z) >>= _) _ _ _
 refine wpAny_bind ?_
 unfold Builtin.SmallTypes.ownedTupleIsFree
 refine wpAny_bind (wpAny_field hz rfl (x:=.none) rfl (wpAny_pure ?_))
 simp only[if_true]
 refine wpAny_bind (wpAny_rule (wpAny_bind (wpAny_field hz rfl (x:=.ref TO) rfl (wpAny_bind (wpAny_setField_rec hz (by simp) fun g1 z1 s1=>?_)))))
 replace z1:IsZip g1 z TI TO .ellipsis:=z1
 refine wpAny_bind ?_
 simp only[List.zipIdx_cons,List.zipIdx_nil,List.forIn_cons,List.forIn_nil]
 refine wpAny_bind (wpAny_bind (wpAny_onRaise ?_))
 show wpAny _ _ (Builtin.SmallTypes.nextOf (.ref i1) >>= _) _ _ _
 refine wpAny_bind (nextT_end hh (h1.at fun o e=>s1.extBut _ o D.a3 e) (hl1.at fun o e=>s1.extBut _ o D.e1 e) hx fun g2 e s2 he=>?_)
 obtain ⟨oe,hoe,hce⟩:=he
 have z2:IsZip g2 z TI TO .ellipsis:=s2 _ _ D.a3.symm z1
 have hez:e≠z:=fun q=>by subst q;rw[z2] at hoe;cases hoe;simp at hce
 refine wpAny_setField_rec z2 (by simp) fun g3 _ s3=>?_
 refine wpAny_bind (wpAny_isInstance (T:="StopIteration") (b:=true) ⟨oe,s3.extBut _ _ hez hoe,hce⟩ isSubtype_stop (wpAny_pure (hQ g3 fun c o hc q=>?_)))
 simp only[List.mem_cons,List.not_mem_nil,or_false,not_or] at hc
 exact s3.extBut _ _ hc.1 (s2 _ _ hc.2.2.1 (s1.extBut _ _ hc.1 q))
noncomputable abbrev tit (t:Addr):Obj:={ cls:=.type "tuple_iterator",data:=.fields #[.ref t,.int 0 0] }
noncomputable abbrev tpr (a b:Value):Obj:={ cls:=.type "tuple",data:=.seq #[a,b] }
noncomputable abbrev zob (a b:Addr):Obj:={ cls:=.type "zip",data:=.fields #[.none,.bool false,.bool false,.ref a,.ref b] }
noncomputable abbrev zipHp (h:Heap) (t1 t2:Addr):Heap:=((((h.push (tit t1)).push (tit t2)).push (tpr (.ref h.objs.size) (.ref (h.objs.size+1)))).push (tpr .none .none)).push (zob (h.objs.size+2) (h.objs.size+3))
theorem zip_newT (t1 t2:Addr) (xs ys:Array Value):
  Meets (Builtin.«zip.__new__» ⟨[.type "zip",.ref t1,.ref t2],[]⟩) (fun _ R s=>s.heap.IsTuple t1 xs/\s.heap.IsTuple t2 ys/\R (.ok (.ret (.ref (s.heap.objs.size+4)))) { s with heap:=zipHp s.heap t1 t2 }):=
 .of_wp fun prog w A R s h=>by
  obtain ⟨hp,g,d,tk,os⟩:=s;obtain ⟨hl1,hl2,h⟩:=h
  have hsub:=sub_zip
  have hL1:Heap.IsTuple (Shared.heap ⟨hp,g,d,tk,os⟩) t1 xs:=hl1
  have hL2:Heap.IsTuple (Shared.heap ⟨hp.push (tit t1),g,d,tk,os⟩) t2 ys:=Heap.IsTuple.push hl2 _
  wp_walk using wpAny_pyIter_tuple hL1,wpAny_pyIter_tuple hL2
  simp only[Heap.size_push]
  exact ⟨_,rfl,h⟩
theorem call_zipT {t1 t2:Addr}{xs ys:Array Value}{Q:Value->Shared->Prop} (hl1:s.heap.IsTuple t1 xs) (hl2:s.heap.IsTuple t2 ys)
  (h:∀h',ZipT h' (s.heap.objs.size+4) (s.heap.objs.size+2) (s.heap.objs.size+3) s.heap.objs.size (s.heap.objs.size+1) t1 t2 0->(∀c o,s.heap.get? c=some o->h'.get? c=some o)->h'.objs.size=s.heap.objs.size+5 ->
   Q (.ref (s.heap.objs.size+4)) { s with heap:=h' }):wpAny (model prog w) A (call (.type "zip") [.ref t1,.ref t2]) Q E s:=by
 refine callType_new F.called_zip (by decide) (F.typeCall_zip_2 _ _) (F.newCall_zip_2 _ _) (fun obj=>F.args_object_init_3 obj _ _) F.entry_zip_new (zip_newT t1 t2 xs ys) ⟨hl1,hl2,?_⟩
 have up:∀{b:Addr}{o:Obj} (h0:Heap) (x:Obj),h0.get? b=some o->(h0.push x).get? b=some o:=fun _ _ e=>Heap.get?_push_of_some _ e
 have here:∀(h0:Heap) (x:Obj) (n:Nat),x.isFreed=false->h0.objs.size=n->(h0.push x).get? n=some x:=fun h0 x n hf e=>by subst e;exact Heap.get?_push_size _ hf
 have Z:ZipT (zipHp s.heap t1 t2) (s.heap.objs.size+4) (s.heap.objs.size+2) (s.heap.objs.size+3) s.heap.objs.size (s.heap.objs.size+1) t1 t2 0 :=
  ⟨here _ _ _ rfl (by simp only[Heap.size_push]),up _ _ (up _ _ (here _ _ _ rfl (by simp only[Heap.size_push]))),⟨_,_,up _ _ (here _ _ _ rfl (by simp only[Heap.size_push]))⟩,
   ⟨_,up _ _ (up _ _ (up _ _ (up _ _ (here _ _ _ rfl rfl)))),rfl,rfl⟩,⟨_,up _ _ (up _ _ (up _ _ (here _ _ _ rfl (by simp only[Heap.size_push])))),rfl,rfl⟩⟩
 exact ⟨⟨_,Z.zz,rfl⟩,h _ Z (fun c o e=>up _ _ (up _ _ (up _ _ (up _ _ (up _ _ e))))) (by simp only[Heap.size_push])⟩
end
section
variable {X:Cx}{pins:List (Addr × Obj)}{σ:St}{H:Hp}{s:Shared}
theorem Inv.turnedL {h':Heap}{t':Nat}{ch:List Addr} (I:Inv X pins σ H s) (k:∀b o,b ∉ ch->s.heap.get? b=some o->h'.get? b=some o) (hf:∀b∈ch,FpOk X pins H b):Inv X pins σ H { s with heap:=h',toks:=t' }:=by
 have nit:∀b u,H b=some u->b ∉ ch:=fun b u e z=>by rw[(hf b z).1] at e;cases e
 refine I.step (g':=s.gens) (d':=s.drawn) (ch:=ch) (fun b hb=>⟨(hf b hb).2.2.2.1,(hf b hb).2.1,(hf b hb).2.2.2.2.1,(hf b hb).2.2.2.2.2⟩) (fun b o _ _ hc e _=>k b o hc e) (fun b o _ _ hc e _=>⟨o.slots,k b o hc e⟩) (fun _ _ _ _ n=>n)
  (fun b o hc e=>⟨o,k b o hc e⟩) (fun _ _ e=>e) (fun _ _ _ e=>e) (fun b ps e=>⟨#[],by rw[e];simp⟩) (fun m hm=>?_) (fun b u e=>?_) I.bare
 ·obtain ⟨o,es,ep,ho,r⟩:=hm
  exact ⟨o,es,ep,k _ o (fun z=>(hf _ z).2.1 rfl) ho,r⟩
 ·refine (I.hok b u e).stay (fun c v hc q=>k c v ?_ q) (fun _ q=>q) fun _ _ q=>q
  rcases hc with z|z
  ·rw[z];exact nit b u e
  ·exact nit c _ z
noncomputable def Itz (K:W.Frag) (a b:Addr):It :=
 ⟨fun i H=>∃xs ys x y,SqT K H a xs/\SqT K H b ys/\xs[i]?=some x/\ys[i]?=some y,fun i H v H'=>∃p x y,H p=none/\v=.ref p/\H'=upd H p (.tup [x,y])/\(∀xs,SqT K H a xs->xs[i]?=some x)/\∀ys,SqT K H b ys->ys[i]?=some y,
  fun i H=>∃xs,SqT K H a xs/\xs.length<=i⟩
theorem turn_zip {P:Program}{w:World}{K:W.Frag}{es:List Expr}{kk:Nat}{pos:Pos}{a b z TI TO i1 i2:Addr} (D:ZipD z TI TO i1 i2 a b):
  Turn P w K (.Tuple es kk pos) (Itz K a b) [z,TI,TO,i1,i2] z (fun i h=>ZipT h z TI TO i1 i2 a b i) where
 mem:=by simp
 obj:=fun i h st c hc=>by
  obtain ⟨hz,hTI,⟨_,_,hTO⟩,⟨_,h1,_,d1⟩,⟨_,h2,_,d2⟩⟩:=st
  simp only[List.mem_cons,List.not_mem_nil,or_false] at hc
  rcases hc with rfl|rfl|rfl|rfl|rfl
  ·exact ⟨_,hz,fun v q=>by cases q⟩
  ·exact ⟨_,hTI,fun v q=>by cases q⟩
  ·exact ⟨_,hTO,fun v q=>by cases q⟩
  ·exact ⟨_,h1,fun v q=>by rw[d1] at q;cases q⟩
  ·exact ⟨_,h2,fun v q=>by rw[d2] at q;cases q⟩
 keep:=fun i h h' st k=>by
  obtain ⟨hz,hTI,⟨_,_,hTO⟩,h1,h2⟩:=st
  exact ⟨k _ (by simp) _ hz,k _ (by simp) _ hTI,⟨_,_,k _ (by simp) _ hTO⟩,h1.at fun o e=>k _ (by simp) o e,h2.at fun o e=>k _ (by simp) o e⟩
 item:=by
  intro X hP hw hK hc i pins s σ H E I hf st hg
  subst hP hw hK
  obtain ⟨xs,ys,x,y,ha,hb,hx,hy⟩:=hg
  obtain ⟨its,r1,p1,_⟩:=I.tuple ha
  obtain ⟨its2,r2,p2,_⟩:=I.tuple hb
  obtain ⟨u,hu,ru⟩:=r1.get hx
  obtain ⟨v,hv,rv⟩:=r2.get hy
  refine zipT_item D st (show s.heap.IsTuple a its.toArray from p1) (show s.heap.IsTuple b its2.toArray from p2) (x:=u) (y:=v) (by simpa using hu) (by simpa using hv) fun h' z1 o1 j1 j2 new sz keep=>?_
  refine ⟨_,rfl,wpAny_letOwnedTupleGo_zip (s:={ s with heap:=h' }) z1 fun h2 z2 sb=>?_⟩
  have hn:H s.heap.objs.size=none:=I.hok.fresh (Nat.le_refl _)
  have zlt:z<s.heap.objs.size:=Heap.lt_size st.zz
  have k2:∀c o,c ∉ [z,TI,TO,i1,i2]->s.heap.get? c=some o->h2.get? c=some o:=fun c o hc e=>by
   simp only[List.mem_cons,List.not_mem_nil,or_false,not_or] at hc
   exact sb.extBut _ _ hc.1 (keep c o (by simp only[List.mem_cons,List.not_mem_nil,or_false,not_or];exact ⟨hc.1,hc.2.2.1,hc.2.2.2.1,hc.2.2.2.2⟩) e)
  have e0:h2.get? s.heap.objs.size=some { cls:=.type "tuple",data:=.seq #[u,v] }:=sb.extBut _ _ (Nat.ne_of_gt zlt) new
  have pne:∀c o,s.heap.get? c=some o->c≠s.heap.objs.size:=fun c o e=>Nat.ne_of_lt (Heap.lt_size e)
  have nit:∀c u,H c=some u->c ∉ [z,TI,TO,i1,i2]:=fun c u e q=>by rw[(hf c q).1] at e;cases e
  have hok:HOk X.prog X.w (upd H s.heap.objs.size (.tup [x,y])) h2:=fun c ob e=>by
   by_cases hq:c=s.heap.objs.size
   ·subst hq
    rw[upd_same] at e;cases e
    exact ⟨by show 2<=sizeLine;decide,[u,v],.cons ru (.cons rv .nil),⟨_,e0,rfl,_,rfl⟩⟩
   ·rw[upd_ne hq] at e
    refine (I.hok c ob e).stay (fun d w' hd q=>k2 d w' ?_ q) (fun d q=>by rw[upd_ne (ne_of_none q hn)];exact q) fun d xs q=>by rw[upd_ne (ne_of_none q hn)];exact q
    rcases hd with rfl|hd
    ·exact nit d ob e
    ·exact nit d _ hd
  have I2:Inv X pins σ (upd H s.heap.objs.size (.tup [x,y])) { s with heap:=h2 }:=by
   refine I.step (g':=s.gens) (d':=s.drawn) (t':=s.toks) (ch:=[z,TI,TO,i1,i2]) (fun c hc=>⟨(hf c hc).2.2.2.1,(hf c hc).2.1,(hf c hc).2.2.2.2.1,(hf c hc).2.2.2.2.2⟩) (fun c o _ _ hc e _=>k2 c o hc e) (fun c o _ _ hc e _=>⟨o.slots,k2 c o hc e⟩)
    (fun c o _ e n=>by rw[upd_ne (pne c o e)];exact n) (fun c o hc e=>⟨o,k2 c o hc e⟩) (fun c xs e=>by rw[upd_ne (ne_of_none e hn)];exact e) (fun c o u e=>by rw[upd_ne (ne_of_none e hn)];exact e) (fun c ps e=>⟨#[],by rw[upd_ne (ne_of_none e hn),e];simp⟩) (fun m hm=>?_) hok I.bare
   obtain ⟨o,es,ep,ho,r⟩:=hm
   exact ⟨o,es,ep,k2 _ o (fun q=>(hf _ q).2.1 rfl) ho,r⟩
  refine ⟨.ref s.heap.objs.size,_,I2,rfl,⟨_,x,y,hn,rfl,rfl,fun xs' h'=>by rw[I.tuple_inj h' ha];exact hx,fun ys' h'=>by rw[I.tuple_inj h' hb];exact hy⟩,?_,fun c hc=>?_⟩
  ·exact ⟨z2,sb.extBut _ _ D.a1 (keep _ _ (by simp only[List.mem_cons,List.not_mem_nil,or_false,not_or];exact ⟨D.a1,D.b1,D.b2,D.b3⟩) st.ti),⟨_,_,sb.extBut _ _ D.a2 o1⟩,j1.at fun o e=>sb.extBut _ o D.a3 e,j2.at fun o e=>sb.extBut _ o D.a4 e⟩
  ·have hlt:c<s.heap.objs.size:=by
    obtain ⟨hz,hTI,⟨_,_,hTO⟩,⟨_,h1,_⟩,⟨_,h2,_⟩⟩:=st
    simp only[List.mem_cons,List.not_mem_nil,or_false] at hc
    rcases hc with rfl|rfl|rfl|rfl|rfl
    ·exact Heap.lt_size hz
    ·exact Heap.lt_size hTI
    ·exact Heap.lt_size hTO
    ·exact Heap.lt_size h1
    ·exact Heap.lt_size h2
   rw[upd_ne (Nat.ne_of_lt hlt)]
   exact (hf c hc).1
 done:=by
  intro X hP hw hK hc i pins s σ H E I hf st hg
  subst hP hw hK
  obtain ⟨xs,ha,hx⟩:=hg
  obtain ⟨its,r1,p1,_⟩:=I.tuple ha
  have hl:=r1.length
  refine zipT_end (I.ok.hd hc) D st (show s.heap.IsTuple a its.toArray from p1) (by simp;omega) fun h' keep=>⟨rfl,I.turnedL (t':=s.toks) (ch:=[z,TI,TO,i1,i2]) (fun c o hc e=>keep c o (fun q=>hc ?_) e) hf⟩
  simp only[List.mem_cons,List.not_mem_nil,or_false] at q ⊢
  rcases q with q|q|q|q
  ·exact .inl q
  ·exact .inr (.inr (.inl q))
  ·exact .inr (.inr (.inr (.inl q)))
  ·exact .inr (.inr (.inr (.inr q)))
 self:=fun _ _ _ _ _ st h=>wpAny_pyIter_zip st.zz h
noncomputable def iZip (K:W.Frag) (ta:TA):TI:=fun σ H R=>ta σ H fun vs H1=>∃a b xs ys,vs=[.ref a,.ref b]/\SqT K H1 a xs/\SqT K H1 b ys/\R (Itz K a b) H1
theorem pi_zip {e1 e2:Expr}{es:List Expr}{kk:Nat}{pt p pos:Pos}{ta:TA} (hg:Gl X "zip") (hm:X.mg "zip"=none) (ha:PA X [e1,e2] ta) (hs:starEach [e1,e2] X.env=[(false,eval e1 X.env),(false,eval e2 X.env)]:=by rfl) (hs2:starEach [e2] X.env=[(false,eval e2 X.env)]:=by rfl):
  PI X (.Tuple es kk pt) (.Call (.Name "zip" p) [e1,e2] [] pos) (iZip X.K ta):=by
 intro pins s σ H R I h
 refine Call_ (ld_blt I hg hm boot_zip (PyProof.Rows.callWith_type1 (thn (ha pos pins s σ H _ I h) fun us s1 ⟨vs,H1,I1,r1,q1⟩=>?_) (by rw[hs,hs2]) (by rw[hs2];rfl)))
 obtain ⟨a,b,xs,ys,rfl,hx,hy,q⟩:=q1
 cases r1 with
 | cons ra rr =>
  cases rr with
  | cons rb rr =>
   cases rr
   cases ra
   cases rb
   obtain ⟨its,r1,p1,_⟩:=I1.tuple hx
   obtain ⟨its2,r2,p2,_⟩:=I1.tuple hy
   refine call_zipT (show s1.heap.IsTuple a its.toArray from p1) (show s1.heap.IsTuple b its2.toArray from p2) fun h' Z keep sz=>?_
   refine wpAny_pyIter_zip (s:={ s1 with heap:=h' }) Z.zz ?_
   have I2:Inv X pins σ H1 { s1 with heap:=h' }:=I1.kept (t':=s1.toks) keep
   refine ⟨s1.heap.objs.size+4,[s1.heap.objs.size+4,s1.heap.objs.size+2,s1.heap.objs.size+3,s1.heap.objs.size,s1.heap.objs.size+1],_,_,H1,rfl,I2,turn_zip (ZipD.new p1.lt p2.lt),Z,fun c hc=>?_,q⟩
   have hge:s1.heap.objs.size<=c:=by
    simp only[List.mem_cons,List.not_mem_nil,or_false] at hc
    rcases hc with rfl|rfl|rfl|rfl|rfl <;> first|exact Nat.le_add_right _ _|exact Nat.le_refl _
   exact I1.fpOk hge (I1.hok.fresh hge)
end
end L2
namespace L2
open PySem PySem.Spec PyProof.Rows
mutual
noncomputable def Dt (st:Addr) (H:Hp):PyData->V->Prop
 | .none,v=>v=.non
 | .bool b,v=>v=.bl b
 | .int i,v=>v=.int i
 | .str x,v=>v=.str x
 | .tuple ds,v=>∃a xs,v=.ref a/\a≠st/\H a=some (.tup xs)/\Dts st H ds xs
 | .list ds,v=>∃a xs,v=.ref a/\a≠st/\H a=some (.lst xs)/\Dts st H ds xs
 | .dict _,v=>∃a ks,v=.ref a/\a≠st/\H a=some (.dK ks)
noncomputable def Dts (st:Addr) (H:Hp):List PyData->List V->Prop
 | [],xs=>xs=[]
 | d::ds,xs=>∃x r,xs=x::r/\Dt st H d x/\Dts st H ds r
end
noncomputable def Kp (st:Addr) (H H':Hp):Prop:=∀b o,b≠st->H b=some o->H' b=some o
theorem Kp.refl (st:Addr) (H:Hp):Kp st H H:=fun _ _ _ e=>e
theorem Kp.trans {st:Addr}{H H1 H2:Hp} (a:Kp st H H1) (b:Kp st H1 H2):Kp st H H2:=fun c o n e=>b c o n (a c o n e)
theorem Same.kp {H H':Hp} (a:Same H H') (st:Addr):Kp st H H':=fun b o _ e=>a b o e
theorem Same.new {H:Hp}{p:Addr}{o:HO} (h:H p=none):Same H (upd H p o):=fun b u q=>by rw[upd_ne (ne_of_none q h)];exact q
theorem Kp.new {st:Addr}{H:Hp}{p:Addr}{o:HO} (h:H p=none):Kp st H (upd H p o):=(Same.new h).kp st
theorem Kp.at {st:Addr}{H:Hp}{o:HO}:Kp st H (upd H st o):=fun b u n q=>by rw[upd_ne n];exact q
mutual
theorem Dt.kp {st:Addr}{H H':Hp} (k:Kp st H H'):∀{d:PyData}{v:V},Dt st H d v->Dt st H' d v
 | .none,_,h=>by unfold Dt at h ⊢;exact h
 | .bool _,_,h=>by unfold Dt at h ⊢;exact h
 | .int _,_,h=>by unfold Dt at h ⊢;exact h
 | .str _,_,h=>by unfold Dt at h ⊢;exact h
 | .tuple ds,_,h=>by
  unfold Dt at h ⊢
  obtain ⟨a,xs,e,n,q,r⟩:=h
  exact ⟨a,xs,e,n,k a _ n q,Dts.kp k r⟩
 | .list ds,_,h=>by
  unfold Dt at h ⊢
  obtain ⟨a,xs,e,n,q,r⟩:=h
  exact ⟨a,xs,e,n,k a _ n q,Dts.kp k r⟩
 | .dict kvs,_,h=>by
  unfold Dt at h ⊢
  obtain ⟨a,ks,e,n,q⟩:=h
  exact ⟨a,ks,e,n,k a _ n q⟩
theorem Dts.kp {st:Addr}{H H':Hp} (k:Kp st H H'):∀{ds:List PyData}{xs:List V},Dts st H ds xs->Dts st H' ds xs
 | [],_,h=>by unfold Dts at h ⊢;exact h
 | d::ds,_,h=>by
  unfold Dts at h ⊢
  obtain ⟨x,r,e,q1,q2⟩:=h
  exact ⟨x,r,e,Dt.kp k q1,Dts.kp k q2⟩
end
theorem Dt.int (st:Addr) (H:Hp) (i:Int):Dt st H (.int i) (.int i):=by unfold Dt;rfl
theorem Dt.tup {st:Addr}{H:Hp}{a:Addr}{xs:List V}{ds:List PyData} (n:a≠st) (h:H a=some (.tup xs)) (r:Dts st H ds xs):Dt st H (.tuple ds) (.ref a):=by unfold Dt;exact ⟨a,xs,rfl,n,h,r⟩
theorem Dts.nil (st:Addr) (H:Hp):Dts st H [] []:=by unfold Dts;rfl
theorem Dts.cons {st:Addr}{H:Hp}{d:PyData}{ds:List PyData}{x:V}{xs:List V} (h:Dt st H d x) (r:Dts st H ds xs):Dts st H (d::ds) (x::xs):=by unfold Dts;exact ⟨x,xs,rfl,h,r⟩
theorem Dts.uncons {st:Addr}{H:Hp}{d:PyData}{ds:List PyData}{xs:List V} (h:Dts st H (d::ds) xs):∃x r,xs=x::r/\Dt st H d x/\Dts st H ds r:=by unfold Dts at h;exact h
theorem Dts.len {st:Addr}{H:Hp}:∀{ds:List PyData}{xs:List V},Dts st H ds xs->ds.length=xs.length
 | [],_,h=>by unfold Dts at h;subst h;rfl
 | d::ds,_,h=>by
  obtain ⟨x,r,e,_,q⟩:=h.uncons
  subst e
  rw[List.length_cons,List.length_cons,Dts.len q]
theorem Dts.append {st:Addr}{H:Hp}:∀{ds es:List PyData}{xs ys:List V},Dts st H ds xs->Dts st H es ys->Dts st H (ds++es) (xs++ys)
 | [],_,_,_,h,q=>by unfold Dts at h;subst h;exact q
 | d::ds,_,_,_,h,q=>by
  obtain ⟨x,r,e,h1,h2⟩:=h.uncons
  subst e
  exact Dts.cons h1 (Dts.append h2 q)
theorem Dts.get {st:Addr}{H:Hp}:∀{ds:List PyData}{xs:List V}{i:Nat}{x:V},Dts st H ds xs->xs[i]?=some x->∃d,ds[i]?=some d/\Dt st H d x
 | [],_,i,x,h,e=>by unfold Dts at h;subst h;simp at e
 | d::ds,_,0,x,h,e=>by
  obtain ⟨y,r,e1,h1,h2⟩:=h.uncons
  subst e1
  simp at e;subst e
  exact ⟨d,rfl,h1⟩
 | d::ds,_,i+1,x,h,e=>by
  obtain ⟨y,r,e1,h1,h2⟩:=h.uncons
  subst e1
  obtain ⟨d',e2,h3⟩:=Dts.get (i:=i) (x:=x) h2 (by simpa using e)
  exact ⟨d',by simpa using e2,h3⟩
theorem Dts.ints (st:Addr) (H:Hp):∀ns:List Int,Dts st H (ns.map PyData.int) (ns.map V.int)
 | []=>Dts.nil st H
 | n::ns=>Dts.cons (Dt.int st H n) (Dts.ints st H ns)
theorem Dts.ints_eq {st:Addr}{H:Hp}:∀{ns:List Int}{xs:List V},Dts st H (ns.map PyData.int) xs->xs=ns.map V.int
 | [],_,h=>by unfold Dts at h;exact h
 | n::ns,_,h=>by
  rw[List.map_cons] at h
  obtain ⟨x,r,e,h1,h2⟩:=h.uncons
  unfold Dt at h1
  rw[e,h1,Dts.ints_eq h2,List.map_cons]
noncomputable abbrev DI (ns:List Int):PyData:=.tuple (ns.map .int)
theorem Dt.di {st:Addr}{H:Hp}{ns:List Int}{v:V} (h:Dt st H (DI ns) v):∃a,v=.ref a/\a≠st/\H a=some (.tup (ns.map V.int)):=by
 unfold DI Dt at h
 obtain ⟨a,xs,e,n,q,r⟩:=h
 exact ⟨a,e,n,by rw[q,r.ints_eq]⟩
theorem Dt.mkI {st:Addr}{H:Hp}{ns:List Int}{a:Addr} (n:a≠st) (h:H a=some (.tup (ns.map V.int))):Dt st H (DI ns) (.ref a):=Dt.tup n h (Dts.ints st H ns)
mutual
theorem Dt.reads {P:Program}{w:World}{st:Addr}{H:Hp}{h:Heap} (ok:HOk P w H h):∀{d:PyData}{v:V}{u:Value},d.canLay0=true->Dt st H d v->RelV v u->∃as,Reads h u d as
 | .none,_,u,_,q,r=>by unfold Dt at q;subst q;cases r;exact ⟨[],.none⟩
 | .bool b,_,u,_,q,r=>by unfold Dt at q;subst q;cases r;exact ⟨[],.bool b⟩
 | .int i,_,u,_,q,r=>by unfold Dt at q;subst q;obtain ⟨t,rfl⟩:=r;exact ⟨[],.int i t⟩
 | .str x,_,u,_,q,r=>by unfold Dt at q;subst q;obtain ⟨t,rfl⟩:=r;exact ⟨[],.str x t⟩
 | .tuple ds,_,u,cl,q,r=>by
  unfold PyData.canLay0 at cl
  unfold Dt at q
  obtain ⟨a,xs,e,n,hq,rs⟩:=q
  subst e
  cases r
  obtain ⟨_,its,rv,o,ho,hc,m,hd⟩:=ok a _ hq
  obtain ⟨as,ra⟩:=Dts.reads ok cl rs rv
  exact ⟨as,.tuple ho hc hd (by simpa using ra)⟩
 | .list ds,_,u,cl,q,r=>by
  unfold PyData.canLay0 at cl
  unfold Dt at q
  obtain ⟨a,xs,e,n,hq,rs⟩:=q
  subst e
  cases r
  obtain ⟨_,its,m,rv,ho⟩:=ok a _ hq
  obtain ⟨as,ra⟩:=Dts.reads ok cl rs rv
  exact ⟨a::as,.list ho rfl rfl (by simpa using ra)⟩
 | .dict kvs,_,u,cl,q,r=>by unfold PyData.canLay0 at cl;cases cl
theorem Dts.reads {P:Program}{w:World}{st:Addr}{H:Hp}{h:Heap} (ok:HOk P w H h):∀{ds:List PyData}{xs:List V}{us:List Value},PyData.canLayAll0 ds=true->Dts st H ds xs->Vals xs us->∃as,ReadsAll h us ds as
 | [],_,us,_,q,r=>by unfold Dts at q;subst q;cases r;exact ⟨[],.nil⟩
 | d::ds,_,us,cl,q,r=>by
  unfold PyData.canLayAll0 at cl
  rw[Bool.and_eq_true] at cl
  obtain ⟨x,rr,e,h1,h2⟩:=q.uncons
  subst e
  cases r with
  | cons r1 r2 =>
   obtain ⟨as,ra⟩:=Dt.reads ok cl.1 h1 r1
   obtain ⟨bs,rb⟩:=Dts.reads ok cl.2 h2 r2
   exact ⟨as++bs,.cons ra rb⟩
end
theorem shaped_lay {d:PyData} (h:SeqAt.shaped d=true):d.canLay0=true:=by
 unfold SeqAt.shaped at h
 rw[Bool.and_eq_true] at h
 exact h.1
section
variable {X:Cx}
noncomputable def rEqD:R2:=fun x y H Q=>∃st d e,Dt st H d x/\Dt st H e y/\SeqAt.shaped d=true/\SeqAt.shaped e=true/\Q (.bl (PyData.eqv d e)) H
noncomputable def rNeD:R2:=fun x y H Q=>∃st d e,Dt st H d x/\Dt st H e y/\SeqAt.shaped d=true/\SeqAt.shaped e=true/\Q (.bl (!PyData.eqv d e)) H
theorem op_eqD (hu:X.A.units+64<cLine):OpR X (compareOp .Eq) rEqD:=by
 intro pins s σ H x y v u Q I rx ry h
 obtain ⟨st,d,e,h1,h2,s1,s2,q⟩:=h
 obtain ⟨as,ra⟩:=h1.reads I.hok (shaped_lay s1) rx
 obtain ⟨bs,rb⟩:=h2.reads I.hok (shaped_lay s2) ry
 exact eq_dataH ra rb s1 s2 hu (fin_bl I q rfl)
theorem op_neD (hu:X.A.units+64<cLine):OpR X (compareOp .NotEq) rNeD:=by
 intro pins s σ H x y v u Q I rx ry h
 obtain ⟨st,d,e,h1,h2,s1,s2,q⟩:=h
 obtain ⟨as,ra⟩:=h1.reads I.hok (shaped_lay s1) rx
 obtain ⟨bs,rb⟩:=h2.reads I.hok (shaped_lay s2) ry
 exact ne_dataH ra rb s1 s2 hu (fin_bl I q rfl)
noncomputable def tyN:PyData->String
 | .none=>"NoneType"
 | .bool _=>"bool"
 | .int _=>"int"
 | .str _=>"str"
 | .list _=>"list"
 | .tuple _=>"tuple"
 | .dict _=>"dict"
theorem Dt.ty {K:W.Frag}{st:Addr}{H:Hp}{d:PyData}{v:V} (h:Dt st H d v):TyOf K H v (.type (tyN d)):=by
 cases d with
 | none=>unfold Dt at h;subst h;exact .non
 | bool b=>unfold Dt at h;subst h;exact .bl b
 | int i=>unfold Dt at h;subst h;exact .int i
 | str x=>unfold Dt at h;subst h;exact .str x
 | list ds=>unfold Dt at h;obtain ⟨a,xs,e,_,q,_⟩:=h;subst e;exact .lst q
 | tuple ds=>unfold Dt at h;obtain ⟨a,xs,e,_,q,_⟩:=h;subst e;exact .tup q
 | dict kvs=>unfold Dt at h;obtain ⟨a,ks,e,_,q⟩:=h;subst e;exact .dK q
noncomputable def isBoolD:PyData->Bool
 | .bool _=>true
 | _=>false
noncomputable def isIntD:PyData->Bool
 | .bool _=>true
 | .int _=>true
 | _=>false
noncomputable def isTupD:PyData->Bool
 | .tuple _=>true
 | _=>false
theorem kit_bool (K:W.Frag) (d:PyData):W.kitOne K (.type (tyN d)) (.type "bool")=some (isBoolD d):=by cases d <;> kernel_rfl
theorem kit_int (K:W.Frag) (d:PyData):W.kitOne K (.type (tyN d)) (.type "int")=some (isIntD d):=by cases d <;> kernel_rfl
theorem kit_tup (K:W.Frag) (d:PyData):W.kitOne K (.type (tyN d)) (.type "tuple")=some (isTupD d):=by cases d <;> kernel_rfl
theorem call_isi {T:String}{f:PyData->Bool} (hk:∀K d,W.kitOne K (.type (tyN d)) (.type T)=some (f d)):
  CallR X (.builtin "isinstance") (fun xs H Q=>∃x st d,xs=[x,.ty T]/\Dt st H d x/\Q (.bl (f d)) H):=by
 intro pins s σ H xs us Q I r h
 obtain ⟨x,st,d,rfl,hd,q⟩:=h
 cases r with
 | cons r1 rr =>
  cases rr with
  | cons r2 rr =>
   cases rr
   cases r2
   exact isinst_ok I r1 (hd.ty (K:=X.K)) (hk X.K d) fun tk=>⟨.bl (f d),H,I.tok tk,rfl,q⟩
theorem op_fdivB:OpR X (binaryOp .FloorDiv) (rI (fun _ j=>0<j/\j.natAbs.log2<9000) fun i j=>.int (i / j)):=opI fun i j _ _ _ _ _ hc q =>
 floordiv_int (by have:=hc.1;omega) (by rw[Int.fdiv_eq_ediv_of_nonneg i (by have:=hc.1;omega)];exact q) (.inl (PyProof.noPylong_of_log2 hc.2))
theorem op_mulB:OpR X (binaryOp .Mult) (rI (fun i j=>Builtin.Int.intBits i<=2 ^ 20/\Builtin.Int.intBits j<=2 ^ 20) fun i j=>.int (i*j)):=opI fun _ _ _ _ _ _ _ hc q=>mul_int q (.of_bits hc.1 hc.2)
noncomputable def rCatA (K:W.Frag):R2:=fun x y H Q=>∃a b xs ys,x=.ref a/\y=.ref b/\SqT K H a xs/\SqT K H b ys/\xs.length+ys.length<=sizeLine /\
 (xs=[]->Q (.ref b) H)/\(xs≠[]->ys=[]->Q (.ref a) H)/\(xs≠[]->ys≠[]->∀p,H p=none->Q (.ref p) (upd H p (.tup (xs++ys))))
theorem op_catA:OpR X (binaryOp .Add) (rCatA X.K):=by
 intro pins s σ H x y v u Q I rx ry h
 obtain ⟨a,b,xs,ys,rfl,rfl,ha,hb,hz,q0,q1,q2⟩:=h
 by_cases hx:xs=[]
 ·subst hx
  cases rx
  cases ry
  obtain ⟨its,r1,p1,_⟩:=I.tuple ha
  obtain ⟨its2,r2,p2,_⟩:=I.tuple hb
  cases r1
  obtain ⟨⟨cls,dd,data,sl⟩,ho,hc,n,hd⟩:=id p1
  obtain ⟨⟨cls2,dd2,data2,sl2⟩,ho2,hc2,n2,hd2⟩:=id p2
  simp only at hc hd hc2 hd2
  subst hc hd hc2 hd2
  exact concat_meets ⟨_,ho,rfl⟩ ⟨_,ho2,rfl⟩ noFill_tuple_add seq_tuple_add PySem.F.slot_tuple_add PySem.F.entry_tuple_add (PySem.F.args_tuple_add_2 _ _)
   (tuple_addW0 a b _ _ n n2 dd dd2 sl sl2 (by rfl)) ⟨ho,ho2,⟨.ref b,H,I,rfl,q0 rfl⟩⟩
 ·exact op_catT pins s σ H _ _ v u Q I rx ry ⟨a,b,xs,ys,rfl,rfl,ha,hb,hx,hz,q1 hx,q2 hx⟩
end
end L2
namespace L2
open PySem PySem.Spec PyProof.Rows
section
variable {prog:Program}{w:World}{A:Around}{E:Value->Shared->Prop}{s:Shared}
theorem getItem_whole {t sl:Addr}{items:Array Value}{vl vu:Value}{lo hi:Option Int}{Q:Value->Shared->Prop} (ht:IsTup s.heap t items) (hs:s.heap.IsSliceOf sl vl vu .none) (pl:IsPart vl lo) (pu:IsPart vu hi)
  (hw:HT.sIx items.size 0 lo=0/\HT.sIx items.size items.size hi=items.size) (h:Q (.ref t) s):wpAny (model prog w) A (getItem (.ref t) (.ref sl)) Q E s:=by
 obtain ⟨os,hos,hcs,hds⟩:=id hs
 have hTs:s.TypeIs (.ref sl) "slice":=⟨os,hos,hcs⟩
 unfold getItem
 try with_reducible refine wpAny_holding ?_
 first|refine wpAny_bind (wpAny_pure ?_)|skip
 refine wpAny_bind (wpAny_sequenceKey ht.typeIs (by decide) ?_)
 refine wpAny_bind (wpAny_callSpecial?_slot (name:=Str.ofString "__getitem__") ht.typeIs PyProof.Rows.slot_tuple_getitem
  (wpAny_call_entry PyProof.Rows.slot_tuple_getitem ht.typeIs entry_tuple_getitem ?_ (args_tuple_getitem _ _)))
 show wpAny _ _ (Builtin.Tuple.tupleItemsOf (.ref t) >>= _) _ _ s
 refine wpAny_bind (tupleItemsOf_ ht (wpAny_bind (wpAny_typeOf hTs ?_)))
 rw[if_pos (by decide)]
 refine wpAny_bind (HT.sliceApplied_gen hs pl pu ?_)
 show wpAny _ _ (if (((HT.sIx items.size 0 lo:Nat):Int) == 0&&(1:Int) == 1&&(HT.sIx items.size items.size hi - HT.sIx items.size 0 lo) == items.size)=true then _ else _) _ _ s
 rw[if_pos (by rw[hw.1,hw.2];simp)]
 refine wpAny_bind (m:=Builtin.Tuple.tupleIsExact (.ref t)) ?_
 unfold Builtin.Tuple.tupleIsExact
 refine wpAny_bind (wpAny_typeOf ht.typeIs (wpAny_pure ?_))
 rw[if_pos (by decide)]
 refine wpAny_bind (wpAny_rule ?_)
 first
  | exact wpAny_pure ⟨_,rfl,wpAny_pure h⟩
  | exact wpAny_bind (wpAny_pure (wpAny_pure ⟨_,rfl,wpAny_pure h⟩))
end
section
variable {X:Cx}
noncomputable def rSlA (K:W.Frag):V->Option Int->Option Int->Hp->VK->Prop:=fun x lo hi H Q=>∃a xs,x=.ref a/\SqT K H a xs /\
 ((HT.sIx xs.length 0 lo=0/\HT.sIx xs.length xs.length hi=xs.length)->Q (.ref a) H) /\
 (¬ (HT.sIx xs.length 0 lo=0/\HT.sIx xs.length xs.length hi=xs.length)->∀p,H p=none->Q (.ref p) (upd H p (.tup (cutV xs lo hi))))
theorem sl_any:SlR X (rSlA X.K):=by
 intro pins s σ H x v vl vu lo hi sl Q I rx hs pl pu h
 obtain ⟨a,xs,rfl,hx,q1,q2⟩:=h
 by_cases hw:HT.sIx xs.length 0 lo=0/\HT.sIx xs.length xs.length hi=xs.length
 ·cases rx
  obtain ⟨its,r,ht,hz⟩:=I.tuple hx
  have hlen:its.toArray.size=xs.length:=by rw[List.size_toArray];exact r.length.symm
  exact ⟨"tuple",_,PyProof.Rows.slot_tuple_getitem.lookup,ht.typeIs,getItem_whole ht hs pl pu (by rw[hlen];exact hw) ⟨.ref a,H,I,rfl,q1 hw⟩⟩
 ·exact sl_tup pins s σ H _ v vl vu lo hi sl Q I rx hs pl pu ⟨a,xs,rfl,hx,hw,q2 hw⟩
theorem noR_tuple:typeLookup (.type "tuple") (dunderR "mul")=pure (some (.builtin "tuple.__rmul__")):=by rw[typeLookup_type,builtinLookup_eq_fast];kernel_rfl
theorem noFill_tuple_mul:fillsNumberSlot (.type "tuple") "mul"=pure false :=
 PySem.fillsNumberSlot_seq (id:="tuple.__mul__") (r:=some (.builtin "tuple.__rmul__")) F.slot_tuple_mul.lookup (by decide +kernel) noR_tuple (by decide +kernel)
theorem repeat_tuple:seqRepeat? (.type "tuple")=pure (some (.builtin "tuple.__mul__")):=by
 unfold seqRepeat?
 rw[PySem.seqSlot_of (T:="tuple") (name:="__mul__") (id:="tuple.__mul__") F.slot_tuple_mul.lookup (by decide +kernel),PySem.seqSlot_of (T:="tuple") (name:="__rmul__") (id:="tuple.__rmul__") noR_tuple (by decide +kernel)]
 rfl
theorem rmul_tuple (a:Int) (t:Tok) (l:Addr) (items:Array Value) (n:Nat) (dd:Option Addr) (sl:Array (Option Value)):
  Meets (Builtin.«int.__rmul__» ⟨[.int a t,.ref l],[]⟩) (fun _ R s=>s.heap.get? l=some { cls:=.type "tuple",dict:=dd,data:=.seq items n,slots:=sl }/\R (.ok (.ret Value.notImplemented)) s):=
 .of_wp fun prog w A R s h=>by obtain ⟨hp,g,d,tk,os⟩:=s;obtain ⟨hl,h⟩:=h;wp_walk;exact ⟨_,rfl,h⟩
theorem mul_tuple1 (l:Addr) (items:Array Value) (n:Nat) (dd:Option Addr) (sl:Array (Option Value)) (t:Tok):
  Meets (Builtin.«tuple.__mul__» ⟨[.ref l,.int 1 t],[]⟩) (fun _ R s=>s.heap.get? l=some { cls:=.type "tuple",dict:=dd,data:=.seq items n,slots:=sl }/\R (.ok (.ret (.ref l))) s):=
 .of_wp fun prog w A R s h=>by
  obtain ⟨hp,g,d,tk,os⟩:=s;obtain ⟨hl,h⟩:=h
  wp_walk
  exact ⟨_,rfl,h⟩
theorem mul_tupleN (l:Addr) (v:Value) (n:Nat) (dd:Option Addr) (sl:Array (Option Value)) (k:Int) (t:Tok) (hk:k=2 ∨ k=3 ∨ k=4):
  Meets (Builtin.«tuple.__mul__» ⟨[.ref l,.int k t],[]⟩) (fun _ R s=>s.heap.get? l=some { cls:=.type "tuple",dict:=dd,data:=.seq #[v] n,slots:=sl } /\
   R (.ok (.ret (.ref s.heap.objs.size))) { s with heap:=s.heap.push { cls:=.type "tuple",data:=.seq (List.replicate k.toNat v).toArray } }):=
 .of_wp fun prog w A R s h=>by
  obtain ⟨hp,g,d,tk,os⟩:=s;obtain ⟨hl,h⟩:=h
  rcases hk with rfl|rfl|rfl
  ·wp_walk
   exact ⟨_,rfl,h⟩
  ·wp_walk
   exact ⟨_,rfl,h⟩
  ·wp_walk
   exact ⟨_,rfl,h⟩
noncomputable def rRep1 (K:W.Frag):R2:=fun x y H Q=>∃a v k,x=.ref a/\y=.int k/\SqT K H a [v]/\1<=k/\k<=4/\(k=1->Q (.ref a) H)/\(k≠1->∀p,H p=none->Q (.ref p) (upd H p (.tup (List.replicate k.toNat v))))
theorem vals_rep {v:V}{u:Value} (r:RelV v u):∀n:Nat,Vals (List.replicate n v) (List.replicate n u)
 | 0=>.nil
 | n+1=>.cons r (vals_rep r n)
theorem op_rep1:OpR X (binaryOp .Mult) (rRep1 X.K):=by
 intro pins s σ H x y w' u Q I rx ry h
 obtain ⟨a,v,k,rfl,rfl,ha,h1,h4,q1,q2⟩:=h
 cases rx
 obtain ⟨t,rfl⟩:=ry
 obtain ⟨its,r,p1,_⟩:=I.tuple ha
 cases r with
 | cons r1 rr =>
  cases rr
  obtain ⟨⟨cls,dd,data,sl⟩,ho,hc,n,hd⟩:=id p1
  simp only at hc hd
  subst hc hd
  refine wpAny_binaryOp_repeat_ref (T:="tuple") (U:="int") (by decide) ⟨_,ho,rfl⟩ (fun s'=>typeIs_int s' k t) noFill_tuple_mul F.fills_int_mul F.slot_int_rmul repeat_tuple F.slot_int_index.lookup
   (call_meets F.slot_int_rmul (typeIs_int s k t) F.entry_int_rmul (F.args_int_rmul_2 _ _) (rmul_tuple k t a _ n dd sl) ⟨ho,rfl,⟨_,ho,rfl⟩,?_⟩)
  by_cases hk:k=1
  ·subst hk
   exact call_meets F.slot_tuple_mul ⟨_,ho,rfl⟩ F.entry_tuple_mul (F.args_tuple_mul_2 _ _) (mul_tuple1 a _ n dd sl t) ⟨ho,⟨.ref a,H,I,rfl,q1 rfl⟩⟩
  ·refine call_meets F.slot_tuple_mul ⟨_,ho,rfl⟩ F.entry_tuple_mul (F.args_tuple_mul_2 _ _) (mul_tupleN a _ n dd sl k t (by omega)) ⟨ho,?_⟩
   refine ⟨.ref s.heap.objs.size,_,I.laid (t':=s.toks) (o:=.tup (List.replicate k.toNat v)) (fun b ob q=>Heap.get?_push_of_some _ q) (Nat.le_refl _) ?_,rfl,q2 hk _ (I.hok.fresh (Nat.le_refl _))⟩
   exact ⟨by rw[List.length_replicate];exact Nat.le_trans (show k.toNat<=1000 by omega) (Nat.le_of_lt (small1000 (Nat.le_refl _))),_,vals_rep r1 _,IsTup.new _ _⟩
end
end L2
namespace L2
open PySem PySem.Spec PyProof.Rows
structure Cal (P:Program) (w:World) (K:W.Frag) (mg:Str->Option Value) (base:Heap) (k:Nat) (x:Str) (ps:List Str) (sp:Sp):Prop where
 ex:∃f fd,mg x=some (.ref f)/\W.keepIn K (.ref f)=true/\Binds K fd ps []/\FnOk P w K mg base CX0 k f fd ps sp
theorem Cal.up {P:Program}{w:World}{K:W.Frag}{mg:Str->Option Value}{base:Heap}{j k:Nat}{x:Str}{ps:List Str}{sp:Sp} (C:Cal P w K mg base j x ps sp) (h:j<=k):Cal P w K mg base k x ps sp :=
 let ⟨f,fd,a,b,c,d⟩:=C.ex;⟨f,fd,a,b,c,d.mono h⟩
noncomputable def tCb (sp:Sp) (t:TA):TE:=fun σ H Q=>t σ H fun vs H1=>sp vs H1 Q E0
section
variable {X:Cx}{k:Nat}{x:Str}{ps:List Str}{sp:Sp}{p pos:Pos}{e:Expr}{es:List Expr}{t:TA}
theorem pe_cal (C:Cal X.prog X.w X.K X.mg X.base k x ps sp) (hr:Room k X.A) (hg:Gl X x) (ha:PA X (e::es) t)
  (hdb:(x == ("__debug__":Str))=false:=by decide) (he:starEach (e::es) X.env=(false,eval e X.env)::starEach es X.env:=by rfl) (hpl:(backTo pos (starEach es X.env)).any (·.1)=false:=by rfl):
  PE X (.Call (.Name x p) (e::es) [] pos) (tCb sp t):=by
 obtain ⟨f,fd,hm,hk,hb,F⟩:=C.ex
 have h:=pe_call (x:=x) (p:=p) (pos:=pos) F hr hg hm hk hb .nil pass0 ha hdb he hpl
 have e:tCall sp [] E0 t=tCb sp t:=by
  funext σ H Q
  show t σ H (fun vs H1=>sp (vs++[]) H1 Q E0)=t σ H (fun vs H1=>sp vs H1 Q E0)
  congr 1
  funext vs H1
  rw[List.append_nil]
 rw[<- e];exact h
end
section
variable {K:W.Frag}{σ0:St}{te:TE}{H:Hp}{F:List V->Hp->Prop}
theorem blk_range {lo:Int}{n:Nat} (hn:n<=sizeLine) (Pv:Nat->List V->Hp->Prop) (h0:Pv 0 [] H) (hl:∀i ys H,Pv i ys H->ys.length=i) (hσ:σ0[0]?=some none)
  (hs:∀i ys H,i<n->Pv i ys H->te (σ0.set 0 (some (.int (lo+i)))) H fun y H'=>Pv (i+1) (ys++[y]) H') (hd:∀ys H,Pv n ys H->F ys H):Blk (Itr lo n) σ0 (gName 0) tTrue te H F:=by
 refine ⟨fun i m ys H=>m=n - i/\i<=n/\Pv i ys H,⟨n,by simp,Nat.zero_le _,h0⟩,?_⟩
 rintro i m ys H2 ⟨rfl,hi,p⟩
 refine ⟨by rw[hl i ys H2 p];omega,?_⟩
 by_cases hlt:i<n
 ·refine .inr ⟨hlt,fun y H'=>Pv (i+1) (ys++[y]) H',fun _=>False,fun y H' q=>⟨n - (i+1),by omega,rfl,hlt,q⟩,fun _ q=>q.elim,fun x H3 y=>?_⟩
  obtain ⟨rfl,rfl⟩:=y
  exact ⟨Wk.set (.inl hσ),hs i ys _ hlt p⟩
 ·have e:i=n:=by omega
  subst e
  exact .inl ⟨Nat.le_refl _,hd ys H2 p⟩
theorem blk_tup {a:Addr}{xs:List V} (hn:xs.length<=sizeLine) (Pv:Nat->List V->Hp->Prop) (h0:Pv 0 [] H) (hl:∀i ys H,Pv i ys H->ys.length=i) (hq:∀i ys H,i<=xs.length->Pv i ys H->SqT K H a xs) (hσ:σ0[0]?=some none)
  (hs:∀i ys H x,xs[i]?=some x->Pv i ys H->te (σ0.set 0 (some x)) H fun y H'=>Pv (i+1) (ys++[y]) H') (hd:∀ys H,Pv xs.length ys H->F ys H):Blk (Itt K a) σ0 (gName 0) tTrue te H F:=by
 refine ⟨fun i m ys H=>m=xs.length - i/\i<=xs.length/\Pv i ys H,⟨xs.length,by simp,Nat.zero_le _,h0⟩,?_⟩
 rintro i m ys H2 ⟨rfl,hi,p⟩
 have q:=hq i ys H2 hi p
 refine ⟨by rw[hl i ys H2 p];omega,?_⟩
 by_cases hlt:i<xs.length
 ·refine .inr ⟨⟨xs,xs[i],q,by simp[hlt]⟩,fun y H'=>Pv (i+1) (ys++[y]) H',fun _=>False,fun y H' q=>⟨xs.length - (i+1),by omega,rfl,hlt,q⟩,fun _ q=>q.elim,fun x H3 y=>?_⟩
  obtain ⟨rfl,y⟩:=y
  exact ⟨Wk.set (.inl hσ),hs i ys _ x (y xs q) p⟩
 ·have e:i=xs.length:=by omega
  subst e
  exact .inl ⟨⟨xs,q,Nat.le_refl _⟩,hd ys H2 p⟩
theorem blk_zip {a b:Addr}{xs ys:List V} (hn:xs.length<=sizeLine) (hxy:xs.length=ys.length) (Pv:Nat->List V->Hp->Prop) (h0:Pv 0 [] H) (hl:∀i zs H,Pv i zs H->zs.length=i)
  (hq:∀i zs H,i<=xs.length->Pv i zs H->SqT K H a xs/\SqT K H b ys) (hσ:σ0[0]?=some none/\σ0[1]?=some none)
  (hs:∀i zs H x y p,xs[i]?=some x->ys[i]?=some y->H p=none->Pv i zs H->te ((σ0.set 0 (some x)).set 1 (some y)) (upd H p (.tup [x,y])) fun z H'=>Pv (i+1) (zs++[z]) H') (hd:∀zs H,Pv xs.length zs H->F zs H):
  Blk (Itz K a b) σ0 (gTup K 2 (gCons (gName 0) (gCons (gName 1) gNil))) tTrue te H F:=by
 refine ⟨fun i m zs H=>m=xs.length - i/\i<=xs.length/\Pv i zs H,⟨xs.length,by simp,Nat.zero_le _,h0⟩,?_⟩
 rintro i m zs H2 ⟨rfl,hi,p⟩
 obtain ⟨q1,q2⟩:=hq i zs H2 hi p
 refine ⟨by rw[hl i zs H2 p];omega,?_⟩
 by_cases hlt:i<xs.length
 ·refine .inr ⟨⟨xs,ys,xs[i],ys[i]'(by omega),q1,q2,by simp[hlt],by rw[List.getElem?_eq_getElem (by omega)]⟩,fun y H'=>Pv (i+1) (zs++[y]) H',fun _=>False,fun y H' q=>⟨xs.length - (i+1),by omega,rfl,hlt,q⟩,fun _ q=>q.elim,fun v H3 yld=>?_⟩
  obtain ⟨r,x,y,hr,rfl,rfl,hx,hy⟩:=yld
  refine ⟨r,[x,y],rfl,.of upd_same,rfl,x,[y],rfl,y,[],rfl,rfl,?_,?_⟩
  ·refine ⟨by simp,fun j u e=>?_⟩
   by_cases h1:j=1
   ·subst h1;rw[hσ.2] at e;cases e
   ·rw[List.getElem?_set_ne (Ne.symm h1)]
    by_cases h2:j=0
    ·subst h2;rw[hσ.1] at e;cases e
    ·rw[List.getElem?_set_ne (Ne.symm h2)];exact e
  ·exact hs i zs _ x y r (hx xs q1) (hy ys q2) hr p
 ·have e:i=xs.length:=by omega
  subst e
  exact .inl ⟨⟨xs,q1,Nat.le_refl _⟩,hd zs H2 p⟩
end
section
variable {X:Cx}
theorem pe_bty {x:Str}{T:String}{pos:Pos} (hg:Gl X x) (hm:X.mg x=none) (hv:bootBuiltins x=some (.type T)) (hn:x≠"__name__":=by decide) (hd:(x == ("__debug__":Str))=false:=by decide):PE X (.Name x pos) (tC (.ty T)):=pe_bltn hg hm hv (v:=.ty T) rfl hn hd
theorem pg_c {scope:Scope}{N:List Str}{s:Shared}{H:Hp}{ex:List Addr}{i:Nat}{x:Str}{pos:Pos} (hN:N.Nodup) (hi:N[i]?=some x) (hx:Loc (X.comp scope N s H ex).env.scope x)
  (hf:(X.comp scope N s H ex).fn x=true ∨ (X.comp scope N s H ex).env.scope.names.lookup x=some .local):PG (X.comp scope N s H ex) (.Name x pos) (gName i):=pg_name hN hi hx hf
end
theorem sz {n:Nat} (h:n<=1000):n<=sizeLine:=Nat.le_of_lt (small1000 h)
end L2
namespace L2
open PySem PySem.Spec PyProof.Rows
section
variable {X:Cx}{K:W.Frag}
theorem lenK (h:X.K=K):CallR X (.builtin "len") (fun xs H Q=>∃p ys,xs=[.ref p]/\(SqL K H p ys ∨ SqT K H p ys)/\Q (.int ys.length) H):=by subst h;exact call_len_seq
theorem sumK (h:X.K=K) (hc:X.calm=true):CallR X (.builtin "sum") (fun xs H Q=>∃(p:Addr) (ns:List Int),xs=[.ref p]/\(SqL K H p (ns.map V.int) ∨ SqT K H p (ns.map V.int))/\Q (.int ns.sum) H):=by subst h;exact call_sum_seq hc
theorem tupK (h:X.K=K):CallR X (.type "tuple") (fun xs H Q=>∃p ys,xs=[.ref p]/\((SqL K H p ys/\∀l,H l=none->Q (.ref l) (upd H l (.tup ys))) ∨ (SqT K H p ys/\Q (.ref p) H))):=by subst h;exact call_tuple_of
theorem ixLK (h:X.K=K):IxR X (rIxL K):=by subst h;exact ix_list
theorem pgtK (h:X.K=K) {es:List Expr}{k:Nat}{t:TGs}{n:Nat}{pos:Pos} (hc:X.calm=true) (hp:PGs X es t)
  (hn:(assignEach es X.env).length=n:=by rfl) (hst:(assignEach es X.env).findIdx? (·.1)=none:=by rfl):PG X (.Tuple es k pos) (gTup K n t):=by subst h;exact pg_tup hc hp hn hst
end
end L2
namespace L2
open PySem PySem.Spec PyProof.Rows
noncomputable def Hd (h:Heap) (a C:Addr):Option Addr->Prop
 | none=>∃oe vs,h.get? a=some oe/\oe.cls=.ref C/\oe.dict=none/\oe.data=.fields vs/\vs[1]?=some .none
 | some T=>∃oe vs oT ts,h.get? a=some oe/\oe.cls=.ref C/\oe.dict=none/\oe.data=.fields vs/\vs[1]?=some (.ref T)/\T≠a/\h.get? T=some oT/\oT.data=.fields ts/\ts[3]?=some .none
theorem dict_mapFields (f:Array Value->Array Value) (o:Obj):(Obj.mapFields f o).dict=o.dict:=by
 obtain ⟨c,d,dt,sl⟩:=o
 cases dt <;> rfl
theorem entry_x {M:Model}{A:Around}{E:Value->Shared->Prop}{s:Shared}{bs:Heap}{ev:Env}{out:List Env}{L a C:Addr}{ob:Obj}{us:Array Value}{hdv:Value}{hn:Bool}{Q:Unit->Shared->Prop}
  (fr:A.frames=some (ev::out)) (ff:s.heap.FunFrames bs (ev::out)) (fl:ev.frame=some L) (ga:s.heap.get? a=some ob) (gc:ob.cls=.ref C) (gd:ob.dict=none) (gf:ob.data=.fields us) (sz:1<us.size)
  (k:∀h' T,Hd h' a C (some T)->s.heap.objs.size<=T->(∀b o,b≠a->b ∉ frs (ev::out)->s.heap.get? b=some o->h'.get? b=some o) ->
   (∀b o,b≠a->s.heap.get? b=some o->∃sl,h'.get? b=some { o with slots:=sl })->Q () { s with heap:=h' }):
  wpAny M A (do let x <- frameOf ev;let pl <- entryPlaceOf L hn;let b <- EntryCells.newEntry hdv x .none (rawInt L) .none pl;setField (.ref a) 1 b) (fun _ s'=>wpAny M A (setFlight (.ref a) none) Q E s') E s:=by
 have na:a ∉ (ev::out).filterMap (·.frame):=fun hm=>by
  obtain ⟨_,o,ho,hnf⟩:=ff.mem hm
  rw[ga] at ho
  cases ho
  exact hnf us gf
 refine wpAny_bind (wpAny_frameOf_fun fr ff fl fun g1 hs=>?_)
 refine wpAny_bind (wpAny_entryPlaceOf fun pl hpl=>?_)
 unfold EntryCells.newEntry newFields
 refine wpAny_bind (wpAny_newObj_type ?_ (hpl.sizeOk5 _ _ _ _ _))
 have ga1:g1.get? a=some ob:=(hs.2.1 a na).trans ga
 generalize hnew:({ cls:=.type "traceback",dict:=none,data:=.fields ([hdv,.ref L,.none,rawInt L,.none]++(if pl.isEmpty then List.replicate 6 Value.none else pl)).toArray }:Obj)=ot
 have ga2:(g1.push ot).get? a=some ob:=Heap.get?_push_of_some (h:=g1) ot ga1
 have gt2:(g1.push ot).get? g1.objs.size=some ot:=Heap.get?_push_size g1 (by rw[<- hnew];rfl)
 have otd:∃ts,ot.data=.fields ts/\3<ts.size:=by
  refine ⟨_,by rw[<- hnew],?_⟩
  simp only[List.size_toArray,List.length_append,List.length_cons,List.length_nil]
  omega
 obtain ⟨ts,otd,tsz⟩:=otd
 refine wpAny_setField ga2 gf sz ?_
 have neT:g1.objs.size≠a:=Nat.ne_of_gt (Heap.lt_size ga1)
 have d3:=Obj.data_mapFields gf (·.setIfInBounds 1 (Value.ref g1.objs.size))
 have ga3:=Heap.get?_update_self (Obj.mapFields (·.setIfInBounds 1 (Value.ref g1.objs.size))) ga2 (Obj.isFreed_of_fields d3)
 have gt3:((g1.push ot).update a (Obj.mapFields (·.setIfInBounds 1 (Value.ref g1.objs.size)))).get? g1.objs.size=some ot :=
  (Heap.get?_update_other (g1.push ot) (Obj.mapFields (·.setIfInBounds 1 (Value.ref g1.objs.size))) (Ne.symm neT)).trans gt2
 unfold setFlight
 refine wpAny_bind (wpAny_field ga3 d3 (x:=.ref g1.objs.size) (by simp[sz]) ?_)
 rw[if_pos (show (Value.ref g1.objs.size != Value.none)=true from by simp)]
 refine wpAny_setField gt3 otd tsz ?_
 have kp:∀b o,b≠a->g1.get? b=some o ->
   (((g1.push ot).update a (Obj.mapFields (·.setIfInBounds 1 (Value.ref g1.objs.size)))).update g1.objs.size (Obj.mapFields (·.setIfInBounds 3 ((none:Option Addr).elim Value.none fun f=>rawInt f)))).get? b=some o:=by
  intro b o hb e
  have hbT:g1.objs.size≠b:=Nat.ne_of_gt (Heap.lt_size e)
  rw[Heap.get?_update_other _ _ hbT,Heap.get?_update_other _ _ (Ne.symm hb)]
  exact Heap.get?_push_of_some _ e
 refine k _ g1.objs.size ⟨_,_,_,_,(Heap.get?_update_other _ _ neT).trans ga3,?_,?_,d3,by simp[sz],neT,Heap.get?_update_self _ gt3 (Obj.isFreed_of_fields (Obj.data_mapFields otd _)),Obj.data_mapFields otd _,?_⟩ (by rw[hs.1];exact Nat.le_refl _) (fun b o hb hf e=>?_) (fun b o hb e=>?_)
 ·rw[Obj.cls_mapFields]
  exact gc
 ·rw[dict_mapFields]
  exact gd
 ·rw[Array.getElem?_setIfInBounds_self_of_lt tsz]
  rfl
 ·exact kp b o hb ((hs.2.1 b hf).trans e)
 ·obtain ⟨sl,e1⟩:=hs.2.2 b o e
  exact ⟨sl,kp b _ hb e1⟩
theorem note_x {M:Model}{A:Around}{E:Value->Shared->Prop}{s:Shared}{bs:Heap}{ev:Env}{out:List Env}{L a C:Addr}{hd:Option Addr}{Q:Unit->Shared->Prop}
  (fr:A.frames=some (ev::out)) (ff:s.heap.FunFrames bs (ev::out)) (fl:ev.frame=some L) (x:Hd s.heap a C hd)
  (k:∀h' T,Hd h' a C (some T)->s.heap.objs.size<=T->(∀b o,b≠a->hd≠some b->b ∉ frs (ev::out)->s.heap.get? b=some o->h'.get? b=some o) ->
   (∀b o,b≠a->hd≠some b->s.heap.get? b=some o->∃sl,h'.get? b=some { o with slots:=sl })->Q () { s with heap:=h' }):
  wpAny M A (noteFrame (.ref a) ev) (fun _ s'=>wpAny M A (setFlight (.ref a) none) Q E s') E s:=by
 unfold noteFrame
 simp only[fl]
 cases hd with
 | none =>
  obtain ⟨oe,vs,e1,e2,e3,e4,e5⟩:=x
  refine wpAny_bind (wpAny_field e1 e4 e5 ?_)
  rw[if_neg (by decide)]
  exact entry_x fr ff fl e1 e2 e3 e4 (Array.getElem?_eq_some_iff.mp e5).1 fun h' T q1 q2 q3 q4=>k h' T q1 q2 (fun b o hb _=>q3 b o hb) (fun b o hb _=>q4 b o hb)
 | some T0 =>
  obtain ⟨oe,vs,oT,ts,e1,e2,e3,e4,e5,ne,t1,t2,t3⟩:=x
  refine wpAny_bind (wpAny_field e1 e4 e5 ?_)
  rw[if_pos (show (Value.ref T0 != Value.none)=true from by simp)]
  refine wpAny_bind (wpAny_field t1 t2 t3 ?_)
  rw[if_neg (show ¬ ((Value.none == rawInt L)=true) from by simp[rawInt])]
  refine wpAny_bind (wpAny_setField t1 t2 (Array.getElem?_eq_some_iff.mp t3).1 ?_)
  have ot:∀b,b≠T0->(s.heap.update T0 (Obj.mapFields (·.setIfInBounds 3 Value.none))).get? b=s.heap.get? b:=fun b hb=>Heap.get?_update_other _ _ (Ne.symm hb)
  have nr:∀b o,s.heap.get? b=some o->(∀vs,o.data≠.fields vs)->b≠T0:=fun b o hb hnf q=>by
   rw[q,t1] at hb
   cases hb
   exact hnf ts t2
  refine entry_x fr (ff.of_keeps fun b o hb hnf=>⟨o,(ot b (nr b o hb hnf)).trans hb,rfl⟩) fl ((ot a (Ne.symm ne)).trans e1) e2 e3 e4 (Array.getElem?_eq_some_iff.mp e5).1 fun h' T q1 q2 q3 q4=>?_
  have q2':s.heap.objs.size<=T:=by
   have z:=Heap.size_after_update s.heap T0 (Obj.mapFields (·.setIfInBounds 3 Value.none))
   rw[<- z];exact q2
  exact k h' T q1 q2' (fun b o hb hx hf e=>q3 b o hb hf ((ot b fun z=>hx (by rw[z])).trans e)) (fun b o hb hx e=>q4 b o hb ((ot b fun z=>hx (by rw[z])).trans e))
theorem leave_x {M:Model}{A:Around}{E:Value->Shared->Prop}{s:Shared}{bs:Heap}{ev:Env}{out:List Env}{L a C:Addr}{hd:Option Addr}{Q:Unit->Shared->Prop}
  (fr:A.frames=some (ev::out)) (ff:s.heap.FunFrames bs (ev::out)) (fl:ev.frame=some L) (x:Hd s.heap a C hd)
  (k:∀h' T,Hd h' a C (some T)->s.heap.objs.size<=T->(∀b o,b≠a->hd≠some b->b ∉ frs (ev::out)->s.heap.get? b=some o->h'.get? b=some o) ->
   (∀b o,b≠a->hd≠some b->s.heap.get? b=some o->∃sl,h'.get? b=some { o with slots:=sl })->Q () { s with heap:=h' }):
  wpAny M A (leaving ev (.ref a)) Q E s:=by
 unfold leaving
 exact wpAny_bind (note_x fr ff fl x k)
end L2
namespace L2
open PySem PySem.Spec PyProof.Rows
theorem ObjOk.there {P:Program}{w:World}{H:Hp}{h:Heap}{a:Addr}{o:HO} (x:ObjOk P w H h a o):∃u,h.get? a=some u:=by
 cases o with
 | lst xs=>obtain ⟨_,_,_,_,e⟩:=x;exact ⟨_,e⟩
 | tup xs=>obtain ⟨_,_,_,ob,e,_⟩:=x;exact ⟨_,e⟩
 | dK kvs=>obtain ⟨_,_,_,_,ob,_,_,e,_⟩:=x;exact ⟨_,e⟩
 | dT kvs=>obtain ⟨_,_,_,_,ob,_,_,e,_⟩:=x;exact ⟨_,e⟩
 | set S n=>obtain ⟨ob,_,_,_,e,_⟩:=x;exact ⟨_,e⟩
 | ins C dx fs=>obtain ⟨_,_,_,e,_⟩:=x;exact ⟨_,e⟩
 | own y=>exact x
 | xd fs=>obtain ⟨_,⟨_,_,_,e,_⟩,_⟩:=x;exact ⟨_,e⟩
 | rng lo hi=>obtain ⟨_,_,_,e⟩:=x;exact ⟨_,e⟩
 | frz ob u=>obtain ⟨e,_⟩:=x;exact ⟨_,e⟩
 | tbl ps=>exact ⟨_,(show h.get? a=some _ from x)⟩
 | met f y=>exact ⟨_,(show h.get? a=some _ from x)⟩
 | ext φ=>obtain ⟨_,e,_⟩:=x;exact e
theorem HOk.none_of {P:Program}{w:World}{H:Hp}{h:Heap}{a:Addr} (x:HOk P w H h) (e:h.get? a=none):H a=none:=by
 cases z:H a with
 | none=>rfl
 | some u =>
  obtain ⟨o,eo⟩:=(x a u z).there
  rw[e] at eo
  cases eo
structure Fly (P:Program) (w:World) (fs:List Addr) (H:Hp) (s:Shared) (a C:Addr) (H':Hp) (s':Shared):Prop where
 os:s'.os=s.os
 bare:AllBare s'.gens
 un:Un fs [] H H' s.heap s'.heap
 hok:HOk P w H' s'.heap
 exc:∃T,Hd s'.heap a C (some T)/\s.heap.get? a=none/\s.heap.get? T=none/\H' a=none/\H' T=none
noncomputable def CX1 (P:Program) (w:World):CXT:=fun outer H s E e s'=>∃a C H',e=.ref a/\Fly P w (frs outer) H s a C H' s'/\E (.ref C) none H'
theorem un_x {fs:List Addr}{H:Hp}{h h':Heap}{a:Addr}{hd:Option Addr} (ha:H a=none) (ht:∀T,hd=some T->H T=none) (hf:∀b∈fs,H b=none)
  (k1:∀b o,b≠a->hd≠some b->b ∉ fs->h.get? b=some o->h'.get? b=some o) {P:Program}{w:World} (ok:HOk P w H h):HOk P w H h':=fun b o e=>by
 have nt:∀c u,H c=some u->c≠a/\hd≠some c/\c ∉ fs:=fun c u q=>by
  refine ⟨fun z=>?_,fun z=>?_,fun z=>?_⟩
  ·rw[z,ha] at q;cases q
  ·rw[ht c z] at q;cases q
  ·rw[hf c z] at q;cases q
 refine (ok b o e).stay (fun c u hc q=>?_) (fun _ q=>q) fun _ _ q=>q
 rcases hc with z|z
 ·subst z
  obtain ⟨n1,n2,n3⟩:=nt _ _ e
  exact k1 _ u n1 n2 n3 q
 ·obtain ⟨n1,n2,n3⟩:=nt _ _ z
  exact k1 _ u n1 n2 n3 q
theorem fly_out {X:Cx}{pins:List (Addr × Obj)}{σ:St}{H:Hp}{s:Shared}{a C:Addr}{hd:Option Addr}{M:Model}{Q:Unit->Shared->Prop}{E:Value->Shared->Prop} (I:Inv X pins σ H s) (hs:X.stack=X.env::X.outer) (hf:X.env.frame=some X.env.locals) (hex:X.ex=[])
  (x:Hd s.heap a C hd) (na:X.s₀.heap.get? a=none) (nT:∀T,hd=some T->X.s₀.heap.get? T=none) (ha:H a=none) (ht:∀T,hd=some T->H T=none)
  (q:∀s',Fly X.prog X.w X.fs X.H₀ X.s₀ a C H s'->Q () s'):wpAny M X.A (leaving X.env (.ref a)) Q E s:=by
 have fr:X.A.frames=some (X.env::X.outer):=by rw[I.ok.frames,hs]
 have ff:s.heap.FunFrames X.base (X.env::X.outer):=by rw[<- hs];exact I.stack
 have hfs:frs (X.env::X.outer)=X.env.locals::X.fs:=by
  unfold frs
  rw[List.filterMap_cons,hf]
  rfl
 refine leave_x fr ff hf x fun h' T k0 k00 k1 k2=>q _ ?_
 have exN:∀b,b ∉ X.ex:=fun b z=>by rw[hex] at z;cases z
 have neA:∀b o,X.s₀.heap.get? b=some o->b≠a/\hd≠some b/\b≠X.env.locals:=fun b o e=>by
  refine ⟨fun z=>?_,fun z=>?_,Nat.ne_of_lt (Nat.lt_of_lt_of_le (Heap.lt_size e) I.ok.above)⟩
  ·rw[z,na] at e;cases e
  ·rw[nT b z] at e;cases e
 refine ⟨I.os,I.bare,⟨fun b o e n hb _=>?_,fun b o e n hb _=>?_,fun b o e n _=>I.base.free b o e n (exN b),fun b o e _=>?_,I.base.tups,I.base.frzs,I.base.tbls⟩,un_x (fs:=frs (X.env::X.outer)) ha ht (fun b hb=>I.stkFree b (by rw[hs];exact hb)) k1 I.hok,T,k0,na,?_,ha,I.hok.fresh k00⟩
 ·obtain ⟨n1,n2,n3⟩:=neA b o e
  exact k1 b o n1 n2 (by rw[hfs];intro z;rcases List.mem_cons.mp z with z|z;exact n3 z;exact hb z) (I.base.keep b o e n hb (exN b))
 ·obtain ⟨n1,n2,n3⟩:=neA b o e
  obtain ⟨sl,e1⟩:=I.base.slot b o e n hb (exN b)
  obtain ⟨sl',e2⟩:=k2 b _ n1 n2 e1
  exact ⟨sl',e2⟩
 ·obtain ⟨n1,n2,n3⟩:=neA b o e
  obtain ⟨o',e1⟩:=I.base.there b o e (exN b)
  obtain ⟨sl',e2⟩:=k2 b _ n1 n2 e1
  exact ⟨_,e2⟩
 ·exact Heap.get?_none_of_le (Nat.le_trans I.sz k00)
theorem none_back {fs:List Addr}{H H':Hp}{h h':Heap} (u:Un fs [] H H' h h') {b:Addr} (e:h'.get? b=none):h.get? b=none:=by
 cases q:h.get? b with
 | none=>rfl
 | some o =>
  obtain ⟨o',e'⟩:=u.there b o q (by simp)
  rw[e'] at e
  cases e
section
variable {P:Program}{w:World}{K:W.Frag}{mg:Str->Option Value}{base:Heap}{N:List Str}{qual:Str}{scope:Scope}{f:Addr}{cd:Value}{A:Around}{outer:List Env}{s₀:Shared}{H₀:Hp}{E:XK}
theorem passes1:Passes (CX1 P w) (cxOf (CX1 P w) P w K mg base N qual scope f cd A outer s₀ H₀ E) E:=by
 intro pins σ H s e s' I h
 obtain ⟨a,C,H',rfl,F,hE⟩:=h
 obtain ⟨T,x,n1,n2,n3,n4⟩:=F.exc
 have I':=I.call' (ch:=[]) F.os F.un F.hok F.bare (fun b z=>absurd z (by simp))
 exact fly_out I' rfl rfl rfl x (none_back I.base n1) (fun T' z=>by cases z;exact none_back I.base n2) n3 (fun T' z=>by cases z;exact n4) fun s'' F'=>⟨a,C,H',rfl,F',hE⟩
noncomputable def vE:List Value:=[.type "ValueError",.type "Exception",.type "BaseException",.type "object"]
noncomputable def XC (K:W.Frag) (C:Addr):Prop:=W.excIn K C vE "ValueError.__new__"=true
theorem exc_obj {K:W.Frag}{h:Heap}{C:Addr} (X:K.In h) (q:XC K C):
  ∃bm N nm q bs hdct sn sub ab col dd k0 k1 k2 k3 k5 mN,h.get? C=some (excClassObj nm q C N bs bm hdct sn sub ab col dd k0 k1 k2 k3 k5 "ValueError.__new__")/\h.Ns N mN/\mN "__init__"=none/\OwnTail h vE bm:=by
 unfold XC W.excIn at q
 split at q
 case h_2=>cases q
 case h_1 dd cd sl ho =>
  split at q
  case h_2=>cases q
  case h_1 C' bm k0 k1 k2 k3 n k5 hm hs =>
   simp only[Bool.and_eq_true,beq_iff_eq,Bool.not_eq_true'] at q
   obtain ⟨⟨⟨⟨⟨z1,z2⟩,hdel⟩,ht⟩,hok⟩,hni⟩:=q
   subst z1
   subst z2
   obtain ⟨nm,bs,mro,ns,qn,hd,sn,sub,ab,col,del⟩:=cd
   dsimp only at hm hdel hok hni
   subst hm hdel
   have hsl:sl=#[k0,k1,k2,k3,some (.builtin "ValueError.__new__"),k5]:=by
    obtain ⟨l⟩:=sl
    simp only at hs
    rw[hs]
   subst hsl
   exact ⟨bm,ns,nm,qn,bs,hd,sn,sub,ab,col,dd,k0,k1,k2,k3,k5,_,X _ _ ho,.of_isNs (W.isNs_of_in X hok),W.nsMap_none_of_in X hok hni,W.tail_of_in X ht⟩
noncomputable def tRaise (C:Addr) (E:XK) (t:TA):TS:=fun _ σ H=>t σ H fun _ H1=>E (.ref C) none H1
theorem ps_raise {x:Str}{C:Addr}{e:Expr}{es:List Expr}{t:TA}{np cpos pos:Pos} (hg:Gl (cxOf (CX1 P w) P w K mg base N qual scope f cd A outer s₀ H₀ E) x) (hm:mg x=some (.ref C)) (hc:XC K C)
  (ha:PA (cxOf (CX1 P w) P w K mg base N qual scope f cd A outer s₀ H₀ E) (e::es) t) (hl:(e::es).length<=1:=by decide)
  (hdb:(x == ("__debug__":Str))=false:=by decide)
  (he:starEach (e::es) (envOfC qual scope s₀.heap.objs.size f cd)=(false,eval e (envOfC qual scope s₀.heap.objs.size f cd))::starEach es (envOfC qual scope s₀.heap.objs.size f cd):=by rfl)
  (hpl:(backTo cpos (starEach es (envOfC qual scope s₀.heap.objs.size f cd))).any (·.1)=false:=by rfl)
  (hvl:∀σ H Q,t σ H Q->t σ H fun vs H1=>vs.length<=sizeLine/\Q vs H1):
  PS (cxOf (CX1 P w) P w K mg base N qual scope f cd A outer s₀ H₀ E) (.Raise (some (.Call (.Name x np) (e::es) [] cpos)) none pos) (tRaise C E t):=by
 intro pins s σ H D I h
 obtain ⟨bm,NN,nm,q,bs,hdct,sn,sub,ab,col,dd,k0,k1,k2,k3,k5,mN,hC,hN,hni,T⟩:=exc_obj I.ok.mod.kin hc
 have FB:=PySem.F.excBase_ValueError
 refine wpAny_Raise_call_subT (C:=C) (nm:=nm) (q:=q) (N:=NN) (bs:=bs) (bm:=bm) (hdct:=hdct) (sn:=sn) (sub:=sub) (ab:=ab) (col:=col) (dd:=dd) (k0:=k0) (k1:=k1) (k2:=k2) (k3:=k3) (k5:=k5)
  FB (mN:=mN) (T.hasType FB.hasBase) (I.ok.hd rfl) ?_ hni (ld_glob I hg hm ⟨rfl,?_⟩ hdb)
 ·show (backTo cpos (starEach (e::es) (envOfC qual scope s₀.heap.objs.size f cd))).any (·.1)=false
  rw[he]
  show (false || (backTo cpos (starEach es (envOfC qual scope s₀.heap.objs.size f cd))).any (·.1))=false
  rw[hpl]
  rfl
 ·have hq:=ha cpos pins s σ H _ I (hvl _ _ _ h)
  show wpAny _ _ (evalArgs (.ref C) true (backTo cpos (starEach (e::es) (envOfC qual scope s₀.heap.objs.size f cd))) []) _ _ s
  have hq':wpAny (model P w) (A.deeper (envOfC qual scope s₀.heap.objs.size f cd)) (spliced (backTo cpos (starEach (e::es) (envOfC qual scope s₀.heap.objs.size f cd)))) _ _ s:=hq
  rw[he] at hq' ⊢
  refine Calls.evalArgs_plain (wpAny_mono hq' (fun us s2 ⟨vs,H2,I2,r,lv,hE⟩=>⟨rfl,?_,I2.bk _ _ hC,hN.keeps I2.bk,T.keeps I2.bk,fun h' a mk=>?_⟩) fun _ _ y=>y)
  ·show us.length<=sizeLine
   rw[<- r.length]
   exact lv
  ·obtain ⟨t,ea,tn,et⟩:=mk.there
   have ha:H2 a=none:=I2.hok.none_of mk.new
   have I3:Inv (cxOf (CX1 P w) P w K mg base N qual scope f cd A outer s₀ H₀ E) pins σ H2 { s2 with heap:=h' }:=I2.kept mk.keeps
   exact fly_out (hd:=none) I3 rfl rfl rfl ⟨_,_,ea,rfl,rfl,rfl,rfl⟩ (none_back I2.base mk.new) (fun T' z=>by cases z) ha (fun T' z=>by cases z) fun s'' F'=>⟨a,C,H2,rfl,F',hE⟩
end
end L2
namespace L2
open PySem PySem.Spec PyProof.Rows
noncomputable abbrev KN (o:Obj):HO:=.frz o (.ext fun _=>True)
section
variable {P:Program}{w:World}{fs:List Addr}{H H':Hp}{s s':Shared}{a C:Addr}{M:Model}{A:Around}{E:Value->Shared->Prop}{Q:Unit->Shared->Prop}
end
end L2
namespace L2
open PySem PySem.Spec PyProof.Rows
end L2
namespace L2
open PySem PySem.Spec PyProof.Rows
structure XI (K:W.Frag) (C:Addr):Prop where
 ga:W.findIn K (.ref C) "__getattribute__"=some (some (.builtin "BaseException.__getattribute__"))
 gt:W.findIn K (.ref C) "__getattr__"=some none
 sb:W.subIn K (.ref C) (.type "BaseException")=some true
 hc:(W.clsIn K C).isSome=true
 ha:W.findIn K (.ref C) "__class__"=some (some (.builtin "object.__class__"))
 hn:W.specialIn K (.builtin "object.__class__") "__get__"=some (some (.builtin "getset_descriptor.__get__"))
 tk:W.takesIn K (.builtin "object.__class__")=some true
 hm:W.mroIn K C (.type "object")=some true
end L2
namespace L2
open PySem PySem.Spec PyProof.Rows
noncomputable def Cel (cl:List (Str × Addr)) (b:Addr):Prop:=∃x,cl.lookup x=some b
open Classical in
noncomputable def offC (cl:List (Str × Addr)) (H:Hp):Hp:=fun b=>if Cel cl b then none else H b
open Classical in
noncomputable def onC (cl:List (Str × Addr)) (H H':Hp):Hp:=fun b=>if Cel cl b then H b else H' b
noncomputable def CelK (cl:List (Str × Addr)) (H:Hp):Prop:=∀x c,cl.lookup x=some c->∃oc v,H c=some (KN oc)/\oc.data=.cell v
section
variable {P:Program}{w:World}{fs:List Addr}{cl:List (Str × Addr)}{H H':Hp}{h h':Heap}
end
structure LamX (X:Cx) (T:Addr):Prop where
 code:∃c,X.env.code=.ref c/\W.CodeHd X.base c T
 blt:X.base.BuiltinsAt X.mg T
end L2
namespace L2
open PySem PySem.Spec PyProof.Rows
section
variable {P:Program}{w:World}{K:W.Frag}{mg:Str->Option Value}{base:Heap}{N:List Str}{qual:Str}{scope:Scope}{f:Addr}{cd:Value}{cl:List (Str × Addr)}{A:Around}{outer:List Env}{s₀:Shared}{H₀:Hp}{E:XK}
end
structure LamScope (cl:List (Str × Addr)) (scope:Scope):Prop where
 kind:scope.kind=.function
 co:scope.isCoroutine=false
 gen:scope.isGenerator=false
 nocell:∀x∈scope.names,x.2≠.cell
 inj:∀x y c,cl.lookup x=some c->cl.lookup y=some c->x=y
 has:∀x,scope.names.lookup x=some .free->∃c,cl.lookup x=some c
structure FrzX (X:Cx) (σ:St) (H Hf:Hp):Prop where
 out:∀b,¬ Cel X.env.cells b->Hf b=H b
 none:∀b,Cel X.env.cells b->H b=none
 cell:CelK X.env.cells Hf
 val:∀(i:Nat) (x:Str) (v:V),X.N[i]?=some x->σ[i]?=some (some v)->(X.env.kindOf x=some .cell ∨ X.env.kindOf x=some .free)->∃c oc u,X.env.cells.lookup x=some c/\Hf c=some (KN oc)/\oc.data=.cell (some u)/\RelV v u
open Classical in
noncomputable def frzAll (cl:List (Str × Addr)) (h:Heap) (H:Hp):Hp:=fun b=>if Cel cl b then (h.get? b).map (fun o=>KN o) else H b
end L2
namespace L2
open PySem PySem.Spec PyProof.Rows
noncomputable abbrev TJ:=St->Hp->(Hp->Prop)->Prop
noncomputable def PJ (X:Cx) (es:List Expr) (n:Nat) (t:TJ):Prop :=
 ∀(acc:Str),acc.length<=n->∀(pins:List (Addr × Obj)) (s:Shared) (σ:St) (H:Hp) (Q:Hp->Prop),Inv X pins σ H s->t σ H Q ->
  wpAny (model X.prog X.w) X.A (joinParts acc (evalEach es X.env)) (fun u s'=>∃z H',Inv X pins σ H' s'/\RelV (.str z) u/\Q H') X.xe s
section
variable {X:Cx}{es:List Expr}{n:Nat}{t:TJ}
theorem pj_nil (h:n<=sizeLine:=by decide):PJ X [] n (fun _ H Q=>Q H):=by
 intro acc ha pins s σ H Q I q
 exact joinParts_nil (s:=s) ⟨acc,H,I.tok _,⟨_,rfl⟩,q⟩ (Nat.le_trans ha h)
theorem pj_str {x:Str}{j:Nat}{pos:Pos} (h:PJ X es (n+x.length) t) (hz:n+x.length<=sizeLine:=by decide):PJ X (.Constant (.str x) j pos::es) n t:=by
 intro acc ha pins s σ H Q I q
 show wpAny _ _ (joinParts acc (eval (.Constant (.str x) j pos) X.env::evalEach es X.env)) _ _ _
 refine joinParts_cons (Calls.Constant_str ⟨?_,?_⟩)
 ·rw[strLen_append];omega
 ·exact h (acc++x) (by rw[strLen_append];omega) pins _ σ H Q (I.tok _) q
theorem pj_fmt {e:Expr}{te:TE}{pos:Pos} (he:PE X e te) (h:PJ X es (n+100) t) (hz:n+100<=sizeLine:=by decide):
  PJ X (.FormattedValue e (-1) none pos::es) n (fun σ H Q=>te σ H fun v H1=>∃i:Int,v=.int i/\i.natAbs.log2<1920/\(toString i:Str).length<=100/\t σ H1 Q):=by
 intro acc ha pins s σ H Q I q
 show wpAny _ _ (joinParts acc (eval (.FormattedValue e (-1) none pos) X.env::evalEach es X.env)) _ _ _
 refine joinParts_cons (FormattedValue_plain (thn (he pins s σ H _ I q) fun u s1 ⟨v,H1,I1,r,i,ev,hl,hz',q1⟩=>?_))
 subst ev
 obtain ⟨tk,rfl⟩:=r
 refine formatField_int_small hl ⟨?_,?_⟩
 ·rw[strLen_append];omega
 ·exact h _ (by rw[strLen_append];omega) pins _ σ H1 Q (I1.tok _) q1
theorem pe_fstr {v1 v2:Expr}{rest:List Expr}{pos:Pos} (h:PJ X (v1::v2::rest) 0 t):PE X (.JoinedStr (v1::v2::rest) pos) (fun σ H Q=>t σ H fun H1=>∀z,Q (.str z) H1):=by
 intro pins s σ H Q I q
 exact JoinedStr_many (thn (h Str.empty (Nat.le_refl _) pins s σ H _ I q) fun u s1 ⟨z,H1,I1,r,q1⟩=>⟨.str z,H1,I1,r,q1 z⟩)
end
theorem pass10 {P:Program}{w:World}{X:Cx}:Passes (CX1 P w) X E0:=fun _ _ _ _ _ _ _ h=>by
 obtain ⟨_,_,_,_,_,z⟩:=h
 exact z.elim
section
variable {P:Program}{w:World}{K:W.Frag}{mg:Str->Option Value}{base:Heap}
theorem Fun.okX {x qual:Str}{st:Stmt}{f:Addr}{fd:FuncData}{N ps:List Str}{k:Nat}{sp:Sp} (F:Fun K x qual st f fd) (S:FnScope N ps (defScope st)) (len:∀vs H Q E,sp vs H Q E->vs.length=ps.length)
  (hbody:∀(cdv:Value) (A:Around) (outer:List Env) (s:Shared) (H:Hp) (vs:List V) (Q:VK) (E:XK),Room k (A.deeper (envOfC qual (defScope st) s.heap.objs.size f cdv))->sp vs H Q E ->
   ∃t,PSs (cxOf (CX1 P w) P w K mg base N qual (defScope st) f cdv A outer s H E) (defBody st) t/\t { nx:=fun _ H'=>Q .non H',rt:=Q } (start N vs) H):FnOk P w K mg base (CX1 P w) (k+1) f fd ps sp:=by
 obtain ⟨oc,od,kV,doc,pm,an,cdv,ct,osl,rfl,lk,hcd⟩:=F.ex
 exact fn_of lk hcd S len fun A outer s H vs Q E hr hsp=>hbody cdv A outer s H vs Q E hr hsp
end
section
variable {P:Program}{w:World}{K:W.Frag}{mg:Str->Option Value}{base:Heap}{N:List Str}{qual:Str}{scope:Scope}{f:Addr}{cd:Value}{A:Around}{outer:List Env}{s₀:Shared}{H₀:Hp}{E:XK}
theorem ps_raise1 {x:Str}{C:Addr}{e:Expr}{te:TE}{np cpos pos:Pos} (hm:mg x=some (.ref C)) (hc:XC K C) (he:PE (cxOf (CX1 P w) P w K mg base N qual scope f cd A outer s₀ H₀ E) e te)
  (hmono:∀σ H (Q Q':VK),(∀v H1,Q v H1->Q' v H1)->te σ H Q->te σ H Q')
  (hg:Gl (cxOf (CX1 P w) P w K mg base N qual scope f cd A outer s₀ H₀ E) x:=by rfl)
  (hdb:(x == ("__debug__":Str))=false:=by decide)
  (hst:starEach [e] (envOfC qual scope s₀.heap.objs.size f cd)=(false,eval e (envOfC qual scope s₀.heap.objs.size f cd))::starEach [] (envOfC qual scope s₀.heap.objs.size f cd):=by rfl):
  PS (cxOf (CX1 P w) P w K mg base N qual scope f cd A outer s₀ H₀ E) (.Raise (some (.Call (.Name x np) [e] [] cpos)) none pos) (fun _ σ H=>te σ H fun _ H1=>E (.ref C) none H1):=by
 have h:=ps_raise (E:=E) (pos:=pos) (np:=np) (cpos:=cpos) (t:=tCons te tNil) hg hm hc (pa_cons he pa_nil (hs:=hst)) (Nat.le_refl _) hdb hst rfl (fun σ H Q q=>hmono _ _ _ _ (fun v H1 z=>⟨by show 1<=sizeLine;decide,z⟩) q)
 exact h
end
end L2
namespace L2
open PySem PySem.Spec PyProof.Rows
end L2
namespace L2
open PySem PySem.Spec PyProof.Rows
structure CalX (P:Program) (w:World) (K:W.Frag) (mg:Str->Option Value) (base:Heap) (k:Nat) (x:Str) (ps:List Str) (sp:Sp):Prop where
 ex:∃f fd,mg x=some (.ref f)/\W.keepIn K (.ref f)=true/\Binds K fd ps []/\FnOk P w K mg base (CX1 P w) k f fd ps sp
theorem CalX.up {P:Program}{w:World}{K:W.Frag}{mg:Str->Option Value}{base:Heap}{j k:Nat}{x:Str}{ps:List Str}{sp:Sp} (C:CalX P w K mg base j x ps sp) (h:j<=k):CalX P w K mg base k x ps sp :=
 let ⟨f,fd,a,b,c,d⟩:=C.ex;⟨f,fd,a,b,c,d.mono h⟩
noncomputable def tCx (sp:Sp) (E:XK) (t:TA):TE:=fun σ H Q=>t σ H fun vs H1=>sp vs H1 Q E
section
variable {X:Cx}{k:Nat}{x:Str}{ps:List Str}{sp:Sp}{p pos:Pos}{e:Expr}{es:List Expr}{t:TA}{E:XK}
theorem pe_calx (C:CalX X.prog X.w X.K X.mg X.base k x ps sp) (hr:Room k X.A) (hg:Gl X x) (hx:Passes (CX1 X.prog X.w) X E) (ha:PA X (e::es) t)
  (hdb:(x == ("__debug__":Str))=false:=by decide) (he:starEach (e::es) X.env=(false,eval e X.env)::starEach es X.env:=by rfl) (hpl:(backTo pos (starEach es X.env)).any (·.1)=false:=by rfl):
  PE X (.Call (.Name x p) (e::es) [] pos) (tCx sp E t):=by
 obtain ⟨f,fd,hm,hk,hb,F⟩:=C.ex
 have h:=pe_call (x:=x) (p:=p) (pos:=pos) F hr hg hm hk hb .nil hx ha hdb he hpl
 have e:tCall sp [] E t=tCx sp E t:=by
  funext σ H Q
  show t σ H (fun vs H1=>sp (vs++[]) H1 Q E)=t σ H (fun vs H1=>sp vs H1 Q E)
  congr 1
  funext vs H1
  rw[List.append_nil]
 rw[<- e];exact h
end
structure Errs (K:W.Frag) (mg:Str->Option Value) (c:Nat->Addr) (B:Addr):Prop where
 e0:mg "NoUrn"=some (.ref (c 0))
 e1:mg "NoRule"=some (.ref (c 1))
 e2:mg "NoKind"=some (.ref (c 2))
 e3:mg "NoBall"=some (.ref (c 3))
 e4:mg "NoDraws"=some (.ref (c 4))
 e5:mg "NoNumber"=some (.ref (c 5))
 e6:mg "NotEven"=some (.ref (c 6))
 e7:mg "NoCounts"=some (.ref (c 7))
 e8:mg "NotAlike"=some (.ref (c 8))
 e9:mg "BadNote"=some (.ref (c 9))
 eb:mg "UrnError"=some (.ref B)
 xc:∀i,i<10->XC K (c i)
 xi:∀i,i<10->XI K (c i)
 sub:∀i,i<10->W.kitCls K (.ref (c i)) (.ref B)=some true
 bb:W.subIn K (.ref B) (.type "BaseException")=some true
 one:∀i j,i<10->j<10->W.kitOne K (.ref (c i)) (.ref (c j))=some (decide (i=j))
 val:∀i,i<10->W.kitOne K (.ref (c i)) (.type "ValueError")=some true
noncomputable def Sm (i:Int):Prop:=i.natAbs.log2<1920/\(toString i:Str).length<=100
end L2
namespace L2
open PySem PySem.Spec PyProof.Rows
section
variable {X:Cx}{pins:List (Addr × Obj)}{σ:St}{H:Hp}{s:Shared}
noncomputable def rCatS:R2:=fun x y H Q=>∃(a b:Addr) (xs ys:List V),x=.ref a/\y=.ref b/\H a=some (.tup xs)/\H b=some (.tup ys)/\xs.length+ys.length<=1000/\∀p H',Same H H'->H' p=some (.tup (xs++ys))->Q (.ref p) H'
theorem catS:OpR X (binaryOp .Add) rCatS:=by
 intro pins s σ H x y v u Q I rx ry h
 obtain ⟨a,b,xs,ys,rfl,rfl,ha,hb,hz,q⟩:=h
 refine op_catA pins s σ H _ _ v u Q I rx ry ⟨a,b,xs,ys,rfl,rfl,.of ha,.of hb,Nat.le_trans hz (by decide),fun e=>?_,fun _ e=>?_,fun _ _ p hp=>?_⟩
 ·subst e
  exact q b H (Same.refl H) hb
 ·subst e
  exact q a H (Same.refl H) (by rw[List.append_nil];exact ha)
 ·exact q p _ (Same.new hp) upd_same
end
section
variable {K:W.Frag}{σ0:St}{te:TE}{H:Hp}{F:List V->Hp->Prop}
theorem blk_list {a:Addr}{xs:List V} (hn:xs.length<=sizeLine) (Pv:Nat->List V->Hp->Prop) (h0:Pv 0 [] H) (hl:∀i ys H,Pv i ys H->ys.length=i) (hq:∀i ys H,i<=xs.length->Pv i ys H->SqL K H a xs) (hσ:σ0[0]?=some none)
  (hs:∀i ys H x,xs[i]?=some x->Pv i ys H->te (σ0.set 0 (some x)) H fun y H'=>Pv (i+1) (ys++[y]) H') (hd:∀ys H,Pv xs.length ys H->F ys H):Blk (Itl K a) σ0 (gName 0) tTrue te H F:=by
 refine ⟨fun i m ys H=>m=xs.length - i/\i<=xs.length/\Pv i ys H,⟨xs.length,by simp,Nat.zero_le _,h0⟩,?_⟩
 rintro i m ys H2 ⟨rfl,hi,p⟩
 have q:=hq i ys H2 hi p
 refine ⟨by rw[hl i ys H2 p];omega,?_⟩
 by_cases hlt:i<xs.length
 ·refine .inr ⟨⟨xs,xs[i],q,by simp[hlt]⟩,fun y H'=>Pv (i+1) (ys++[y]) H',fun _=>False,fun y H' q=>⟨xs.length - (i+1),by omega,rfl,hlt,q⟩,fun _ q=>q.elim,fun x H3 y=>?_⟩
  obtain ⟨rfl,y⟩:=y
  exact ⟨Wk.set (.inl hσ),hs i ys _ x (y xs q) p⟩
 ·have e:i=xs.length:=by omega
  subst e
  exact .inl ⟨⟨xs,q,Nat.le_refl _⟩,hd ys H2 p⟩
end
end L2
namespace L2
open PySem PySem.Spec PyProof.Rows
section
variable {X:Cx}{es:List Expr}{te:TE}{t:TA}
end
end L2
namespace L2
open PySem PySem.Spec PyProof.Rows
end L2
namespace L2
open PySem PySem.Spec PyProof.Rows
structure Clo (X:Cx):Prop where
 inj:∀x y c,X.env.cells.lookup x=some c->X.env.cells.lookup y=some c->x=y
 has:∀x,(X.env.kindOf x=some .cell ∨ X.env.kindOf x=some .free)->∃c,X.env.cells.lookup x=some c
section
variable {X:Cx}{σ:L2.St}{H Hf:Hp}{scope:Scope}
end
end L2
namespace L2
open PySem PySem.Spec PyProof.Rows
section
variable {X:Cx}
end
end L2
namespace L2
open PySem PySem.Spec PyProof.Rows
section
variable {X:Cx}{scope:Scope}{N:List Str}{ix:List (Option Nat)}{elt target iter:Expr}{ifs:List Expr}{pos:Pos}{wi:TI}{g:TG}{tc:TT}
end
end L2
namespace L2
open PySem PySem.Spec PyProof.Rows
section
variable {X:Cx}
noncomputable def ipM:TIp:=fun x y H Q=>∃i j,x=.int i/\y=.int j/\(Builtin.Int.intBits i<=2 ^ 20/\Builtin.Int.intBits j<=2 ^ 20)/\Q (.int (i*j)) H
theorem ip_mul:PIp X .Mult ipM:=by
 intro pins s σ H x y v u Q I r1 r2 h
 obtain ⟨i,j,e1,e2,hb,q⟩:=h
 subst e1;subst e2
 obtain ⟨t,rfl⟩:=r1
 obtain ⟨t',rfl⟩:=r2
 exact imul_int ⟨.int _,H,I.tok _,⟨_,rfl⟩,q⟩ (.of_bits hb.1 hb.2)
end
end L2
namespace L2
open PySem PySem.Spec PyProof.Rows
end L2
namespace L2
open PySem PySem.Spec PyProof.Rows
section
variable (P:Program) (w:World)
end
section
variable {P:Program}{w:World}{H H':Hp}{h h':Heap}{a:Addr}{o:HO}
end
section
variable {P:Program}{w:World}{H:Hp}{h h':Heap}{x e:Addr}{o':HO}
end
section
variable {fs fs' ex ex':List Addr}{H H1 H2:Hp}{h h1 h2 h':Heap}{a x e:Addr}{o:HO}
end
end L2
namespace L2
open PySem PySem.Spec PyProof.Rows
section
variable {X:Cx}{pins:List (Addr × Obj)}{σ:List (Option V)}{H H':Hp}{s:Shared}{h':Heap}
end
end L2
namespace L2
open PySem PySem.Spec PyProof.Rows
section
variable {X:Cx}
variable {a b:Expr}{ta tb:TE}{pos:Pos}
variable {tA tB':TT}{rest:List Expr}
end
end L2
namespace L2
open PySem PySem.Spec PyProof.Rows
section
variable {X:Cx}{pins:List (Addr × Obj)}{σ:St}{H:Hp}{s:Shared}{a:Addr}{xs ys:List V}
end
section
variable {X:Cx}{pins:List (Addr × Obj)}{σ:St}{H:Hp}{s:Shared}{E:Value->Shared->Prop}
end
section
variable {X:Cx}{st:Stmt}{rest:List Stmt}{t u:TS}{e:Expr}{te:TE}{pos:Pos}
end
section
variable {X:Cx}{pos:Pos}
end
section
variable {X:Cx}{pos:Pos}
end
end L2
namespace L2
open PySem PySem.Spec PyProof.Rows
section
variable {X:Cx}{tg:Expr}
end
end L2
namespace L2
open PySem PySem.Spec PyProof.Rows
section
variable {X:Cx}{a b c:Expr}{ta tb tc:TE}{pos:Pos}
end
section
variable {X:Cx}{a b c:Expr}{ta tb tc:TE}{pos:Pos}
end
end L2
namespace L2
open PySem PySem.Spec PyProof.Rows
section
variable {prog:Program}{w:World}{A:Around}{E:Value->Shared->Prop}{s:Shared}{K:W.Frag}{x dx C f:Addr}{mA:Str->Option Value}{name:Str}{v:Value}
end
section
variable {P:Program}{w:World}{H H':Hp}{h h':Heap}{a C dx:Addr}{fs fs':List (Str × V)}
end
section
variable {X:Cx}{pins:List (Addr × Obj)}{σ:St}{H:Hp}{s:Shared}{a C dx:Addr}{fs:List (Str × V)}{f:Str}{v:V}{A:Around}{E:Value->Shared->Prop}
end
section
variable {X:Cx}{o e value:Expr}{f:Str}{pos pos' tpos:Pos}{ta tv:TE}
end
section
variable {X:Cx}{pins:List (Addr × Obj)}{σ:St}{H:Hp}{s:Shared}{A:Around}{E:Value->Shared->Prop}{Q:Value->Shared->Prop}{c:Value}{b:Bool}
end
end L2
namespace L2
open PySem PySem.Spec PyProof.Rows
section
variable {X:Cx}{e:Expr}{es:List Expr}{te:TE}{t:TA}{pos:Pos}
end
section
variable {X:Cx}{pins:List (Addr × Obj)}{σ:St}{H:Hp}{s s':Shared}
end
section
variable {X:Cx}{CX:CXT}{k:Nat}{f C:Addr}{fd:FuncData}{ps:List Str}{sp:Sp}{dvs:List V}{ds:List Value}{E:XK}{x m:Str}{p pos apos:Pos}{e o:Expr}{es:List Expr}{ta:TE}{t:TA}
end
section
variable {X:Cx}{CX:CXT}{k:Nat}{f C:Addr}{fd:FuncData}{ps ks:List Str}{sp:Sp}{E:XK}{x m:Str}{p pos apos kpos:Pos}{e o:Expr}{es:List Expr}{kws:List Keyword}{te ta:TE}{t tk:TA}{nm:Option Str}
variable {g:List Value->List Value->List Value}{gV:List V->List V->List V}
end
end L2
namespace L2
open PySem PySem.Spec PyProof.Rows
section
variable {X:Cx}{x:Str}{p pos:Pos}{e:Expr}{es:List Expr}{t:TA}{id T:String}{r:List V->Hp->VK->Prop}
end
end L2
namespace L2
open PySem PySem.Spec PyProof.Rows
section
variable {κ:Type} [DecidableEq κ]
noncomputable def valV (kvs:List (κ × V)) (k:κ):Option V:=(kvs.find? fun kv=>decide (kv.1=k)).map (·.2)
noncomputable def putK (kvs:List (κ × V)) (k:κ) (v:V):List (κ × V):=
 if (kvs.any fun kv=>decide (kv.1=k))=true then kvs.map (fun kv=>if kv.1=k then (kv.1,v) else kv) else kvs++[(k,v)]
theorem valV_pos {p:κ × V}{r:List (κ × V)}{k:κ} (e:p.1=k):valV (p::r) k=some p.2:=by simp[valV,List.find?_cons,e]
theorem valV_neg {p:κ × V}{r:List (κ × V)}{k:κ} (e:¬ p.1=k):valV (p::r) k=valV r k:=by simp[valV,List.find?_cons,e]
theorem valV_any (k:κ):∀kvs:List (κ × V),(kvs.any fun kv=>decide (kv.1=k))=(valV kvs k).isSome
 | []=>rfl
 | p::r=>by
  rw[List.any_cons]
  by_cases e:p.1=k
  ·simp only[valV_pos e,decide_eq_true e,Bool.true_or,Option.isSome_some]
  ·rw[valV_neg e,decide_eq_false e,Bool.false_or];exact valV_any k r
theorem length_putK (kvs:List (κ × V)) (k:κ) (v:V):(putK kvs k v).length<=kvs.length+1:=by
 unfold putK
 split
 ·rw[List.length_map];omega
 ·rw[List.length_append,List.length_cons,List.length_nil];omega
theorem RelO.isSome_eq {o:Option V}{u:Option Value} (r:RelO o u):o.isSome=u.isSome:=by
 cases o with
 | none=>cases u with
  | none=>rfl
  | some _=>exact (show False from r).elim
 | some _=>cases u with
  | none=>exact (show False from r).elim
  | some _=>rfl
theorem RelO.getD {o:Option V}{u:Option Value}{d:V}{d':Value} (r:RelO o u) (rd:RelV d d'):RelV (o.getD d) (u.getD d'):=by
 cases o with
 | none=>cases u with
  | none=>exact rd
  | some _=>exact (show False from r).elim
 | some _=>cases u with
  | none=>exact (show False from r).elim
  | some _=>exact r
theorem KV.val {kvs:List (κ × V)}{vs:List (κ × Value)} (r:KV kvs vs) (k:κ):RelO (valV kvs k) (valueAt vs k):=by
 unfold KV at r
 induction r with
 | nil=>exact True.intro
 | @cons p q ps qs h t ih =>
  obtain ⟨h1,h2⟩:=h
  by_cases e:p.1=k
  ·have e':q.1=k:=h1.symm.trans e
   have b:valueAt (q::qs) k=some q.2:=by simp[valueAt,List.find?_cons,e']
   rw[valV_pos e,b];exact h2
  ·have e':¬ q.1=k:=fun z=>e (h1.trans z)
   have b:valueAt (q::qs) k=valueAt qs k:=by simp[valueAt,List.find?_cons,e']
   rw[valV_neg e,b];exact ih
theorem KV.any {kvs:List (κ × V)}{vs:List (κ × Value)} (r:KV kvs vs) (k:κ):(kvs.any fun kv=>decide (kv.1=k))=vs.any fun kv=>decide (kv.1=k):=by
 unfold KV at r
 induction r with
 | nil=>rfl
 | cons h t ih=>rw[List.any_cons,List.any_cons,ih,h.1]
theorem KV.repl {kvs:List (κ × V)}{vs:List (κ × Value)} (r:KV kvs vs) (k:κ) {y:V}{u:Value} (ry:RelV y u):
  KV (kvs.map fun kv=>if kv.1=k then (kv.1,y) else kv) (vs.map fun kv=>if kv.1=k then (kv.1,u) else kv):=by
 unfold KV at r ⊢
 induction r with
 | nil=>exact .nil
 | @cons p q ps qs h t ih =>
  rw[List.map_cons,List.map_cons]
  refine .cons ?_ ih
  obtain ⟨h1,h2⟩:=h
  by_cases e:p.1=k
  ·rw[if_pos e,if_pos (h1.symm.trans e)];exact ⟨h1,ry⟩
  ·rw[if_neg e,if_neg (fun z=>e (h1.trans z))];exact ⟨h1,h2⟩
theorem KV.put {kvs:List (κ × V)}{vs:List (κ × Value)} (r:KV kvs vs) (k:κ) {y:V}{u:Value} (ry:RelV y u):KV (putK kvs k y) (stored vs k u):=by
 unfold putK stored
 rw[r.any k]
 by_cases e:(vs.any fun kv=>decide (kv.1=k))=true
 ·rw[if_pos e,if_pos e];exact r.repl k ry
 ·rw[if_neg e,if_neg e];exact Paired.snoc r ⟨rfl,ry⟩
theorem KV.length {kvs:List (κ × V)}{vs:List (κ × Value)} (r:KV kvs vs):kvs.length=vs.length:=Paired.length r
end
theorem kV_is {P:Program}{w:World}{k:Key}{u:Value} (r:RelV (kV k) u):(mixKind P w).is k u=true:=by
 cases k with
 | inl i=>obtain ⟨t,e⟩:=(show ∃t,u=Value.int i t from r);subst e;exact mixKind_int P w i t
 | inr x=>obtain ⟨t,e⟩:=(show ∃t,u=Value.str x t from r);subst e;exact mixKind_str P w x t
theorem items_are {P:Program}{w:World}:∀{ks:List Key}{us:List Value},Vals (ks.map kV) us->ItemsAre (mixKind P w) ks us
 | [],_,r=>by rw[List.map_nil] at r;cases r;exact .nil
 | k::ks,_,r=>by
  rw[List.map_cons] at r
  cases r with
  | cons h t=>exact .cons (kV_is h) (items_are t)
noncomputable abbrev KT (H:Hp):List (List Key × V)->List (List Key × Addr × Value)->Prop:=Paired fun p q=>p.1=q.1/\H q.2.1=some (.tup (p.1.map kV))/\RelV p.2 q.2.2
theorem KT.val {H:Hp}{kvs:List (List Key × V)}{xs:List (List Key × Addr × Value)} (r:KT H kvs xs) (k:List Key):RelO (valV kvs k) ((atKey xs k).map (·.2)):=by
 induction r with
 | nil=>exact True.intro
 | @cons p q ps qs h t ih =>
  obtain ⟨h1,_,h2⟩:=h
  by_cases e:p.1=k
  ·have e':q.1=k:=h1.symm.trans e
   have b:atKey (q::qs) k=some q.2:=by simp[atKey,List.find?_cons,e']
   rw[valV_pos e,b];exact h2
  ·have e':¬ q.1=k:=fun z=>e (h1.trans z)
   have b:atKey (q::qs) k=atKey qs k:=by simp[atKey,List.find?_cons,e']
   rw[valV_neg e,b];exact ih
theorem KT.repl {H:Hp}{kvs:List (List Key × V)}{xs:List (List Key × Addr × Value)} (r:KT H kvs xs) (k:List Key) {y:V}{u:Value} (ry:RelV y u):
  KT H (kvs.map fun kv=>if kv.1=k then (kv.1,y) else kv) (xs.map (putAt k u)):=by
 induction r with
 | nil=>exact .nil
 | @cons p q ps qs h t ih =>
  rw[List.map_cons,List.map_cons]
  refine .cons ?_ ih
  obtain ⟨h1,h2,h3⟩:=h
  unfold putAt
  by_cases e:p.1=k
  ·rw[if_pos e,if_pos (h1.symm.trans e)];exact ⟨h1,h2,ry⟩
  ·rw[if_neg e,if_neg (fun z=>e (h1.trans z))];exact ⟨h1,h2,h3⟩
theorem KT.put {H:Hp}{kvs:List (List Key × V)}{xs:List (List Key × Addr × Value)} (r:KT H kvs xs) (k:List Key) {b:Addr}{y:V}{u:Value} (hb:H b=some (.tup (k.map kV))) (ry:RelV y u):
  KT H (putK kvs k y) (storedH xs k b u):=by
 have e:(kvs.any fun kv=>decide (kv.1=k))=(atKey xs k).isSome:=by
  rw[valV_any,(r.val k).isSome_eq,Option.isSome_map]
 unfold putK storedH
 rw[e]
 by_cases q:(atKey xs k).isSome=true
 ·rw[if_pos q,if_pos q];exact r.repl k ry
 ·rw[if_neg q,if_neg q];exact Paired.snoc r ⟨rfl,hb,ry⟩
theorem KT.keeps {H H':Hp}{kvs:List (List Key × V)}{xs:List (List Key × Addr × Value)} (r:KT H kvs xs) (ht:∀b ys,H b=some (.tup ys)->H' b=some (.tup ys)):KT H' kvs xs :=
 Paired.mapP r fun _ _ z=>⟨z.1,ht _ _ z.2.1,z.2.2⟩
section
variable {P:Program}{w:World}{H:Hp}{h:Heap}{a:Addr}
theorem rd_of {u:HO} (ok:HOk P w H h) (e:Rd H a u):ObjOk P w H h a u:=e.ok ok
theorem dk_rd {kvs:List (Key × V)} (ok:HOk P w H h) (e:Rd H a (.dK kvs)):kvs.length<=sizeLine/\(a == sysModules)=false/\∃vs,KV kvs vs/\h.DictOf (mixKind P w) a vs :=
 show ObjOk P w H h a (.dK kvs) from rd_of ok e
theorem dk_of {kvs:List (Key × V)} (ok:HOk P w H h) (e:H a=some (.dK kvs)):kvs.length<=sizeLine/\(a == sysModules)=false/\∃vs,KV kvs vs/\h.DictOf (mixKind P w) a vs:=dk_rd ok (.inl e)
theorem key_of {ks:List Key} (ok:HOk P w H h) (e:H a=some (.tup (ks.map kV))):(tupleKind (mixKind P w)).is h ks a:=by
 obtain ⟨_,its,r,o,h1,h2,n,h3⟩:=(show ObjOk P w H h a (.tup (ks.map kV)) from ok a _ e)
 exact ⟨o,its.toArray,n,h1,h2,h3,by simpa using items_are r⟩
theorem dt_rd {kvs:List (List Key × V)} (ok:HOk P w H h) (e:Rd H a (.dT kvs)):kvs.length<=sizeLine/\(a == sysModules)=false /\
  ∃xs,KT H kvs xs/\h.DictOfH (tupleKind (mixKind P w)) a xs:=by
 obtain ⟨z,y,xs,r,o,es,ep,h1,h2,h3,h4,h5⟩:=(show ObjOk P w H h a (.dT kvs) from rd_of ok e)
 refine ⟨z,y,xs,r,o,es,ep,h1,h2,h3,h4,fun x hx=>?_,h5⟩
 have all:∀{l:List (List Key × V)}{m:List (List Key × Addr × Value)},KT H l m->∀x∈m,(tupleKind (mixKind P w)).is h x.1 x.2.1:=by
  intro l m q
  induction q with
  | nil=>intro x hx;exact nomatch hx
  | @cons p q ps qs hq t ih =>
   intro x hx
   rcases List.mem_cons.mp hx with e|hx
   ·subst e
    exact key_of ok (by rw[<- hq.1];exact hq.2.1)
   ·exact ih x hx
 exact all r x hx
theorem dt_of {kvs:List (List Key × V)} (ok:HOk P w H h) (e:H a=some (.dT kvs)):kvs.length<=sizeLine/\(a == sysModules)=false /\
  ∃xs,KT H kvs xs/\h.DictOfH (tupleKind (mixKind P w)) a xs:=dt_rd ok (.inl e)
end
noncomputable def DGet (H:Hp) (a:Addr) (y:V) (r:Option V):Prop :=
 (∃kvs k,Rd H a (.dK kvs)/\y=kV k/\r=valV kvs k) ∨ ∃kvs k b,Rd H a (.dT kvs)/\y=.ref b/\H b=some (.tup (k.map kV))/\r=valV kvs k
noncomputable def DPut (H:Hp) (a:Addr) (y v:V) (H':Hp):Prop :=
 (∃kvs k,H a=some (.dK kvs)/\y=kV k/\kvs.length<sizeLine/\H'=upd H a (.dK (putK kvs k v))) ∨
 ∃kvs k b,H a=some (.dT kvs)/\y=.ref b/\H b=some (.tup (k.map kV))/\kvs.length<sizeLine/\H'=upd H a (.dT (putK kvs k v))
theorem DGet.t {H:Hp}{a b:Addr}{kvs:List (List Key × V)}{k:List Key} (e:H a=some (.dT kvs)) (eb:H b=some (.tup (k.map kV))):DGet H a (.ref b) (valV kvs k):=.inr ⟨kvs,k,b,.inl e,rfl,eb,rfl⟩
theorem DPut.t {H:Hp}{a b:Addr}{kvs:List (List Key × V)}{k:List Key}{v:V} (e:H a=some (.dT kvs)) (eb:H b=some (.tup (k.map kV))) (hl:kvs.length<sizeLine):
  DPut H a (.ref b) v (upd H a (.dT (putK kvs k v))):=.inr ⟨kvs,k,b,e,rfl,eb,hl,rfl⟩
section
variable {X:Cx}{pins:List (Addr × Obj)}{σ:St}{H:Hp}{s:Shared}{a:Addr}{y v:V}{u r:Value}{o:Option V}{A:Around}{E:Value->Shared->Prop}
theorem Inv.big (I:Inv X pins σ H s):sysModules<s.heap.objs.size:=by
 have h:mainGlobals<s.heap.objs.size:=(I.mod.glob.keeps I.bk).lt
 exact Nat.lt_trans (by decide) h
theorem d_getItem {Q:Value->Shared->Prop} (hu:A.units+1<cLine) (I:Inv X pins σ H s) (g:DGet H a y (some v)) (ry:RelV y u) (h:∀w' s',Inv X pins σ H s'->RelV v w'->Q w' s'):
  wpAny (model X.prog X.w) A (getItem (.ref a) u) Q E s:=by
 rcases g with ⟨kvs,k,e,ey,l⟩|⟨kvs,k,b,e,ey,eb,l⟩
 ·subst ey
  obtain ⟨z,hd,vs,rel,dd⟩:=dk_rd I.hok e
  obtain ⟨w',hw,rw'⟩:=RelO.some_of (v:=v) (o:=valueAt vs k) (by rw[l];exact rel.val k)
  exact wpAny_getItem_of (kV_is ry) dd.mapOf hw (h w' _ (I.tok _) rw')
 ·subst ey
  cases (show u=Value.ref b from ry)
  obtain ⟨z,hd,xs,rel,dd⟩:=dt_rd I.hok e
  obtain ⟨w',hw,rw'⟩:=RelO.some_of (v:=v) (o:=(atKey xs k).map (·.2)) (by rw[l];exact rel.val k)
  obtain ⟨p,hp,hp2⟩:=Option.map_eq_some_iff.mp hw
  refine wpAny_getItem_heap (tupleKind_room_in1 hu) (key_of I.hok eb) dd hp ?_
  rw[hp2]
  exact h w' _ (I.tok _) rw'
theorem d_write {h':Heap}{t':Nat}{ob:HO} (I:Inv X pins σ H s) (mu:Mut (H a)) (hs:Heap.SameBut a s.heap h') (he:∃q,h'.get? a=some q) (new:ObjOk X.prog X.w (upd H a ob) h' a ob):
  Inv X pins σ (upd H a ob) { s with heap:=h',toks:=t' } :=
 I.write (x:=a) (e:=a) mu (.inl rfl) (fun b q hb z=>(hs.2 b hb).trans z) he new
theorem dk_new {P:Program}{w:World}{H':Hp}{h':Heap}{kvs:List (Key × V)}{vs:List (Key × Value)} (z:kvs.length<=sizeLine) (hd:(a == sysModules)=false) (rel:KV kvs vs) (dd:h'.DictOf (mixKind P w) a vs):
  ObjOk P w H' h' a (.dK kvs):=⟨z,hd,vs,rel,dd⟩
theorem d_setItem {H':Hp}{Q:Unit->Shared->Prop} (hu:A.units+1<cLine) (I:Inv X pins σ H s) (g:DPut H a y v H') (ry:RelV y u) (rv:RelV v r) (h:∀s',Inv X pins σ H' s'->Q () s'):
  wpAny (model X.prog X.w) A (setItem (.ref a) u r) Q E s:=by
 rcases g with ⟨kvs,k,e,ey,l,eH⟩|⟨kvs,k,b,e,ey,eb,l,eH⟩
 ·subst ey eH
  obtain ⟨z,hd,vs,rel,dd⟩:=dk_of I.hok e
  have hz:vs.length<=sizeLine:=by rw[<- rel.length];exact z
  have hl:(putK kvs k v).length<=sizeLine:=by have:=length_putK kvs k v;omega
  refine wpAny_setItem_pairs (hsz:=hz) (kV_is ry) dd fun h' dd' hs=>h _ ?_
  have he:∃q,h'.get? a=some q:=let ⟨q,_,_,hq,_⟩:=dd';⟨q,hq⟩
  exact d_write I (by rw[e];exact True.intro) hs he (dk_new hl hd (rel.put k rv) dd')
 ·subst ey eH
  cases (show u=Value.ref b from ry)
  obtain ⟨z,hd,xs,rel,dd⟩:=dt_of I.hok e
  have hz:xs.length<=sizeLine:=by rw[<- Paired.length rel];exact z
  have hl:(putK kvs k v).length<=sizeLine:=by have:=length_putK kvs k v;omega
  refine wpAny_setItem_heap (hsz:=hz) (tupleKind_room_in1 hu) (key_of I.hok eb) dd fun h' dd' hs=>h _ ?_
  obtain ⟨q,es,ep,hq,h2,h3,h4,_,h5⟩:=dd'
  refine d_write I (by rw[e];exact True.intro) hs ⟨q,hq⟩ ⟨hl,hd,_,(rel.put k eb rv).keeps fun c ys ec=>?_,q,es,ep,hq,h2,h3,h4,h5⟩
  rw[upd_ne (ne_of ec e (fun z=>nomatch z))]
  exact ec
end
section
variable {X:Cx}{pins:List (Addr × Obj)}{σ:St}{H:Hp}{s:Shared}{a:Addr}{kvs:List (Key × V)}{k:Key}{u:Value}{A:Around}{E:Value->Shared->Prop}
end
noncomputable def NoSl (i:Expr):Prop:=∀ov iv,subscripted i false ov iv=operate [ov,iv] (getItem ov iv)
theorem subD_of {prog:Program}{w:World}{A:Around}{E:Value->Shared->Prop}{s:Shared}{env:Env}{value slice:Expr}{pos:Pos}{T id:String}{Q:Value->Shared->Prop}
  (hl:typeLookup (.type T) "__getitem__"=pure (some (.builtin id))) (hs:NoSl slice)
  (h:wpAny (model prog w) A (eval value env) (fun o s₁=>wpAny (model prog w) A (eval slice env) (fun i s₂=>s₂.TypeIs o T/\wpAny (model prog w) A (getItem o i) Q E s₂) E s₁) E s):
  wpAny (model prog w) A (eval (.Subscript value slice pos) env) Q E s:=by
 refine Subscript_ (wpAny_mono h (fun o s₁ h₁=>wpAny_mono h₁ (fun i s₂ h₂=>?_) fun _ _ x=>x) fun _ _ x=>x)
 obtain ⟨hT,h₂⟩:=h₂
 unfold subscriptTail
 refine wpAny_bind ?_
 rw[getitemInPython_of_ne hT.not_modules]
 refine wpAny_bind (wpAny_specialOf hT hl ?_)
 have fin:wpAny (model prog w) A (subscripted slice false o i) (fun r s₃=>wpAny (model prog w) A (letTemporaryGo value o r >>= fun _=>pure r) Q E s₃) E s₂:=by
  rw[hs o i]
  exact wpAny_operating (wpAny_mono h₂ (fun r s₃ h₃=>wpAny_bind (wpAny_letTemporaryGo (wpAny_pure h₃))) fun _ _ x=>x)
 first
  | exact wpAny_pure (wpAny_bind fin)
  | exact wpAny_bind (wpAny_pure (wpAny_bind fin))
  | exact wpAny_bind fin
theorem dict_typeIs {X:Cx}{pins:List (Addr × Obj)}{σ:St}{H:Hp}{s:Shared}{a:Addr}{y:V}{o:Option V} (I:Inv X pins σ H s) (g:DGet H a y o):s.TypeIs (.ref a) "dict":=by
 rcases g with ⟨kvs,k,e,_,_⟩|⟨kvs,k,b,e,_,_,_⟩
 ·obtain ⟨_,_,vs,_,dd⟩:=dk_rd I.hok e
  exact dd.typeIs
 ·obtain ⟨_,_,xs,_,dd⟩:=dt_rd I.hok e
  exact dd.typeIs
noncomputable def tDGet (td ty:TE):TE:=fun σ H Q=>td σ H fun x H1=>ty σ H1 fun y H2=>∃a v,x=.ref a/\DGet H2 a y (some v)/\Q v H2
noncomputable def sDPut (td ty tv:TE):TS:=fun D σ H=>tv σ H fun v H1=>td σ H1 fun x H2=>ty σ H2 fun y H3=>∃a H4,x=.ref a/\DPut H3 a y v H4/\D.nx σ H4
section
variable {X:Cx}{o i e value:Expr}{pos pos' tpos:Pos}{td ty tv:TE}
theorem pe_dget (hu:X.A.units+1<cLine) (ho:PE X o td) (hi:PE X i ty) (hs:NoSl i):PE X (.Subscript o i pos) (tDGet td ty):=by
 intro pins s σ H Q I h
 refine subD_of PySem.F.slot_dict_getitem.lookup hs (thn (ho pins s σ H _ I h) fun u s1 ⟨x,H1,I1,rx,q1⟩=>thn (hi pins s1 σ H1 _ I1 q1) fun iv s2 ⟨y,H2,I2,ry,a,v,ex,g,q2⟩=>?_)
 subst ex
 obtain rfl:u=Value.ref a:=rx
 exact ⟨dict_typeIs I2 g,d_getItem hu I2 g ry fun w' s3 I3 rw'=>⟨v,H2,I3,rw',q2⟩⟩
theorem ps_dput (hu:X.A.units+1<cLine) (ho:PE X o td) (hi:PE X i ty) (hv:PE X value tv) (hs:swapsWith value (some (.Subscript o i pos')) pos.line X.env=pure false):
  PS X (.Assign [.Subscript o i pos'] value pos) (sDPut td ty tv):=by
 intro pins s σ H D I h
 refine wpAny_Assign_Subscript (thn (hv pins s σ H _ I h) fun r s1 ⟨v,H1,I1,rv,q1⟩=>thn (ho pins s1 σ H1 _ I1 q1) fun u s2 ⟨x,H2,I2,rx,q2⟩=>thn (hi pins s2 σ H2 _ I2 q2) fun iv s3 ⟨y,H3,I3,ry,a,H4,ex,g,q3⟩=>?_) hs
 subst ex
 obtain rfl:u=Value.ref a:=rx
 exact d_setItem hu I3 g ry rv fun s4 I4=>⟨σ,H4,I4,q3⟩
end
theorem dt_empty {P:Program}{w:World}{H:Hp} (h:Heap) (hb:sysModules<h.objs.size):ObjOk P w H (h.push { cls:=.type "dict",data:=.dict #[] }) h.objs.size (.dT []):=
 ⟨Nat.zero_le _,beq_eq_false_iff_ne.mpr (Ne.symm (Nat.ne_of_lt hb)),[],.nil,_,#[],0,Heap.get?_push_size _ rfl,⟨rfl,rfl,rfl⟩,rfl,rfl,List.nodup_nil⟩
noncomputable def tDNewT:TE:=fun _ H Q=>∀p,H p=none->Q (.ref p) (upd H p (.dT []))
section
variable {X:Cx}{pos:Pos}
theorem pe_dnewT:PE X (.Dict [] [] pos) tDNewT:=fun pins s σ H Q I h =>
 wpAny_Dict_empty ⟨.ref s.heap.objs.size,_,I.laid (a:=s.heap.objs.size) (o:=.dT []) (t':=s.toks) (fun _ _ q=>Heap.get?_push_of_some _ q) (Nat.le_refl _) (dt_empty s.heap I.big),rfl,h _ (I.hok.fresh (Nat.le_refl _))⟩
end
structure M1 (X:Cx) (o:Expr) (m:Str) (apos:Pos) (e:Expr) (cpos:Pos):Prop where
 base:attributeBase o m X.env (eval o X.env)=eval o X.env
 few:((backTo cpos (starEach [e] X.env)).all (fun x=>!x.1)&&(backToKw cpos (keywordEach [] X.env)).all (fun x=>x.1.isSome)
  && decide (([e]:List Expr).length+([]:List Keyword).length+(if ([]:List Keyword).isEmpty then 0 else 1)<30))=true
 line:(apos.endLine == cpos.line)=true
 trees:backTo cpos (starEach [e] X.env)=[(false,eval e X.env)]
structure M2 (X:Cx) (o:Expr) (m:Str) (apos:Pos) (e f:Expr) (cpos:Pos):Prop where
 base:attributeBase o m X.env (eval o X.env)=eval o X.env
 few:((backTo cpos (starEach [e,f] X.env)).all (fun x=>!x.1)&&(backToKw cpos (keywordEach [] X.env)).all (fun x=>x.1.isSome)
  && decide (([e,f]:List Expr).length+([]:List Keyword).length+(if ([]:List Keyword).isEmpty then 0 else 1)<30))=true
 line:(apos.endLine == cpos.line)=true
 trees:backTo cpos (starEach [e,f] X.env)=[(false,eval e X.env),(false,eval f X.env)]
noncomputable def IsD (H:Hp) (a:Addr):Prop:=(∃kvs,Rd H a (.dK kvs)) ∨ ∃kvs,Rd H a (.dT kvs)
theorem isD_at {X:Cx}{pins:List (Addr × Obj)}{σ:St}{H:Hp}{s:Shared}{a:Addr} (I:Inv X pins σ H s) (d:IsD H a):
  s.TypeIs (.ref a) "dict"/\(∀b,Value.ref a=.ref b->∃ob,s.heap.get? b=some ob/\ob.dict=none)/\(a == sysModules)=false:=by
 rcases d with ⟨kvs,e⟩|⟨kvs,e⟩
 ·obtain ⟨_,hd,vs,_,dd⟩:=dk_rd I.hok e
  refine ⟨dd.typeIs,fun b q=>?_,hd⟩
  cases q
  obtain ⟨ob,_,_,h1,h2,_⟩:=dd
  exact ⟨ob,h1,h2.2.1⟩
 ·obtain ⟨_,hd,xs,_,dd⟩:=dt_rd I.hok e
  refine ⟨dd.typeIs,fun b q=>?_,hd⟩
  cases q
  obtain ⟨ob,_,_,h1,h2,_⟩:=dd
  exact ⟨ob,h1,h2.2.1⟩
section
variable {X:Cx}{pins:List (Addr × Obj)}{σ:St}{H:Hp}{s:Shared}{a:Addr}{y d:V}{u r:Value}{o:Option V}{A:Around}{E:Value->Shared->Prop}
theorem d_get2 {Q:Value->Shared->Prop} (hu:A.units+1<cLine) (I:Inv X pins σ H s) (g:DGet H a y o) (ry:RelV y u) (rd:RelV d r) (h:∀w' s',Inv X pins σ H s'->RelV (o.getD d) w'->Q w' s'):
  wpAny (model X.prog X.w) A (call (.builtin "dict.get") [.ref a,u,r]) Q E s:=by
 rcases g with ⟨kvs,k,e,ey,l⟩|⟨kvs,k,b,e,ey,eb,l⟩
 ·subst ey
  obtain ⟨z,hd,vs,rel,dd⟩:=dk_rd I.hok e
  refine call_meetsIn PySem.F.slot_dict_get dd.typeIs PySem.F.entry_dict_get (PySem.F.args_dict_get_3 _ _ _) (meets_dict_get_default (mixKind X.prog X.w) a (kV_is ry) hd r) ⟨_,dd.mapOf,h _ _ (I.tok _) ?_⟩
  rw[l]
  exact (rel.val k).getD rd
 ·subst ey
  cases (show u=Value.ref b from ry)
  obtain ⟨z,hd,xs,rel,dd⟩:=dt_rd I.hok e
  refine call_meetsIn PySem.F.slot_dict_get dd.typeIs PySem.F.entry_dict_get (PySem.F.args_dict_get_3 _ _ _) (meetsH_dict_get_default (tupleKind (mixKind X.prog X.w)) a b hd r) ⟨tupleKind_room_in1 hu,k,xs,key_of I.hok eb,dd,h _ _ (I.tok _) ?_⟩
  rw[l]
  exact (rel.val k).getD rd
end
noncomputable def tDGet2 (td ty tx:TE):TE:=fun σ H Q=>td σ H fun x H1=>∃a,x=.ref a/\IsD H1 a/\ty σ H1 fun y H2=>tx σ H2 fun z H3=>∃o,DGet H3 a y o/\Q (o.getD z) H3
section
variable {X:Cx}{o e f:Expr}{apos cpos:Pos}{td ty tx:TE}
theorem pe_dget2 (hu:X.A.units+1<cLine) (ho:PE X o td) (he:PE X e ty) (hf:PE X f tx) (m:M2 X o "get" apos e f cpos):PE X (.Call (.Attribute o "get" apos) [e,f] [] cpos) (tDGet2 td ty tx):=by
 intro pins s σ H Q I h
 refine wpAny_Call_method m.base m.few m.line PySem.F.plainAttrs_dict PySem.F.slot_dict_get PySem.F.type_dict_get (thn (ho pins s σ H _ I h) fun u s1 ⟨x,H1,I1,rx,a,ex,d,q1⟩=>?_)
 subst ex
 obtain rfl:u=Value.ref a:=rx
 obtain ⟨t1,t2,_⟩:=isD_at I1 d
 refine ⟨t1,t2,?_⟩
 rw[m.trees]
 refine Calls.callWith_builtin rfl (Calls.evalArgs_plain (Calls.spliced_cons (thn (he pins s1 σ H1 _ I1 q1) fun iv s2 ⟨y,H2,I2,ry,q2⟩ =>
  Calls.spliced_cons (thn (hf pins s2 σ H2 _ I2 q2) fun fv s3 ⟨z,H3,I3,rz,ov,g,q3⟩=>Calls.spliced_nil ?_))))
 exact d_get2 hu I3 g ry rz fun w' s4 I4 rw'=>⟨_,H3,I4,rw',q3⟩
end
section
variable {X:Cx}{pins:List (Addr × Obj)}{σ:St}{H:Hp}{s:Shared}{a:Addr}{kvs:List (Key × V)}{A:Around}{E:Value->Shared->Prop}
end
section
variable {X:Cx}{pins:List (Addr × Obj)}{σ:St}{H:Hp}{s:Shared}{a:Addr}{y:V}{u:Value}{A:Around}{E:Value->Shared->Prop}
end
end L2
namespace Att
open PySem PySem.W PySem.Calls PyProof.Rows
section
variable {prog:Program}{w:World}{A:Around}{E:Value->Shared->Prop}{s:Shared}{K:Frag}
end
end Att
namespace L2
open PySem PySem.Spec PyProof.Rows
end L2
namespace L2
open PySem PySem.Spec PyProof.Rows
end L2
namespace L2
open PySem PySem.Spec PyProof.Rows
section
variable {P:Program}{w:World}{K:W.Frag}{mg:Str->Option Value}{base:Heap}
end
section
variable {X:Cx}
end
section
variable {κ:Type} [DecidableEq κ]
end
end L2
namespace L2
open PySem PySem.Spec PyProof.Rows
section
variable {prog:Program}{w:World}{A:Around}{E:Value->Shared->Prop}{s:Shared}
noncomputable abbrev enob (it:Addr):Obj:={ cls:=.type "enumerate",data:=.fields #[.none,.bool false,.ref it,rawInt 0,.none,.none] }
theorem enumT_new (t:Addr) (xs:Array Value):
  Meets (Builtin.«enumerate.__new__» ⟨[.type "enumerate",.ref t],[]⟩) (fun _ R s=>s.heap.IsTuple t xs/\R (.ok (.ret (.ref (s.heap.push (tit t)).objs.size))) { s with heap:=(s.heap.push (tit t)).push (enob s.heap.objs.size) }):=
 .of_wp fun prog w A R s h=>by
  obtain ⟨hp,g,d,tk,os⟩:=s;obtain ⟨hl,h⟩:=h
  have hsub:=sub_enumerate
  have hL:Heap.IsTuple (Shared.heap ⟨hp,g,d,tk,os⟩) t xs:=hl
  obtain ⟨ol,hol,_⟩:=id hl
  wp_walk using AutoSeq1.wpAny_loadPart' hol
  refine wpAny_stack_any fun st=>wpAny_pure ?_
  split
  ·rename_i c _ _ _ _ _
   cases (c == Value.type "enumerate")
   ·wp_walk using AutoSeq1.wpAny_loadPart' hol,wpAny_pyIter_tuple hL
    exact ⟨_,rfl,h⟩
   ·wp_walk using AutoSeq1.wpAny_loadPart' hol,wpAny_pyIter_tuple hL
    exact ⟨_,rfl,h⟩
  ·wp_walk using AutoSeq1.wpAny_loadPart' hol,wpAny_pyIter_tuple hL
   exact ⟨_,rfl,h⟩
structure EnT (h:Heap) (e it t:Addr) (k:Nat):Prop where
 en:∃old,IsEnum h e it k old
 it:h.IsTupleIter it t k
theorem enT_item {e it t:Addr}{i:Nat}{xs:Array Value}{x:Value}{Q:Option Value->Shared->Prop} (Z:EnT s.heap e it t i) (hl:s.heap.IsTuple t xs) (hx:xs[i]?=some x) (hne:e≠it)
  (hQ:∀h',IsEnumOut h' e it ((i:Int)+1) x s.heap.objs.size->h'.IsTupleIter it t (i+1)->h'.get? s.heap.objs.size=some { cls:=.type "tuple",data:=.seq #[.int i s.toks,x] }->h'.objs.size=s.heap.objs.size+1 ->
   (∀b o,b ∉ [e,it]->s.heap.get? b=some o->h'.get? b=some o)->Q (some (.ref s.heap.objs.size)) { s with heap:=h',toks:=s.toks+1 }):wpAny (model prog w) A (pyNext (.ref e)) Q E s:=by
 obtain ⟨⟨old,he⟩,hit⟩:=Z
 obtain ⟨hp,g,d,tk,os⟩:=s
 have hT:Shared.TypeIs ⟨hp,g,d,tk,os⟩ (.ref e) "enumerate":=⟨_,he,rfl⟩
 unfold pyNext
 refine wpAny_bind (wpAny_attempt (wpAny_callSpecial?_slot (name:=Str.ofString "__next__") hT F.slot_enumerate_next (wpAny_call_entry F.slot_enumerate_next hT F.entry_enumerate_next ?_ (F.args_enumerate_next_1 _))))
 show wpAny _ _ (field (.ref e) 2 >>= _) _ _ _
 refine wpAny_bind (wpAny_field he rfl (x:=.ref it) rfl ?_)
 refine wpAny_bind (nextT_item hit hl hx fun h1 hit1 s1=>?_)
 replace s1:Heap.SameBut it hp h1:=s1
 have he1:IsEnum h1 e it i old:=(s1.2 e hne).trans he
 show wpAny _ _ (field (.ref e) 3 >>= _) _ _ ⟨h1,g,d,tk,os⟩
 refine wpAny_bind (wpAny_field he1 rfl (x:=rawInt i) rfl ?_)
 show wpAny _ _ (field (.ref e) 4 >>= _) _ _ ⟨h1,g,d,tk,os⟩
 refine wpAny_bind (wpAny_field he1 rfl (x:=.none) rfl ?_)
 show wpAny _ _ (mkInt i >>= _) _ _ ⟨h1,g,d,tk,os⟩
 refine wpAny_bind (wpAny_mkInt ?_)
 show wpAny _ _ (setField (.ref e) 3 (rawInt ((i:Int)+1)) >>= _) _ _ ⟨h1,g,d,tk+1,os⟩
 refine wpAny_bind (wpAny_setField_rec he1 (by simp) fun h2 he2 s2=>?_)
 replace s2:Heap.SameBut e h1 h2:=s2
 replace he2:IsEnum h2 e it ((i:Int)+1) old:=he2
 show wpAny _ _ (setField (.ref e) 4 .none >>= _) _ _ ⟨h2,g,d,tk+1,os⟩
 refine wpAny_bind (wpAny_setField_rec he2 (by simp) fun h3 he3 s3=>?_)
 replace s3:Heap.SameBut e h2 h3:=s3
 replace he3:IsEnum h3 e it ((i:Int)+1) old:=he3
 show wpAny _ _ (newTuple [.int i tk,x] >>= _) _ _ ⟨h3,g,d,tk+1,os⟩
 refine wpAny_bind (wpAny_newTuple ?_)
 have he4:IsEnum (h3.push { cls:=.type "tuple",data:=.seq #[.int i tk,x] }) e it ((i:Int)+1) old:=Heap.get?_push_of_some _ he3
 generalize hh4:h3.push { cls:=.type "tuple",data:=.seq #[.int i tk,x] }=h4 at he4
 have hsz:h3.objs.size=hp.objs.size:=by rw[s3.1,s2.1,s1.1]
 have hel:e<hp.objs.size:=Heap.lt_size he
 have ht4:h4.get? hp.objs.size=some { cls:=.type "tuple",data:=.seq #[.int i tk,x] }:=by rw[<- hh4,<- hsz];exact Heap.get?_push_size _ rfl
 have hz4:h4.objs.size=hp.objs.size+1:=by rw[<- hh4,Heap.size_push,hsz]
 have hk4:∀b o,b≠e->b≠it->hp.get? b=some o->h4.get? b=some o:=fun b o hbe hbi hb=>by
  rw[<- hh4];exact Heap.get?_push_of_some _ (s3.extBut b o hbe (s2.extBut b o hbe (s1.extBut b o hbi hb)))
 have hit4:h4.IsTupleIter it t (i+1):=by
  rw[<- hh4]
  exact hit1.at fun o e'=>Heap.get?_push_of_some _ (s3.extBut _ o (Ne.symm hne) (s2.extBut _ o (Ne.symm hne) e'))
 show wpAny _ _ (Builtin.SmallTypes.ownedTupleIsFree (.ref e) >>= _) _ _ ⟨h4,g,d,tk+1,os⟩
 rw[hsz]
 clear hh4 he3 s3 he2 s2 he1 s1 hit1 hsz h3 h2 h1
 refine wpAny_bind ?_
 unfold Builtin.SmallTypes.ownedTupleIsFree
 refine wpAny_bind (wpAny_field he4 rfl (x:=.none) rfl (wpAny_pure ?_))
 simp only[if_true]
 refine wpAny_bind (wpAny_rule ?_)
 refine wpAny_bind (wpAny_field he4 rfl (x:=old) rfl ?_)
 refine wpAny_bind (wpAny_setField_rec he4 (by simp) fun h5 he5 s5=>?_)
 replace s5:Heap.SameBut e h4 h5:=s5
 replace he5:IsEnum h5 e it ((i:Int)+1) x:=he5
 show wpAny _ _ (Builtin.SmallTypes.ownedTupleHandOut (.ref e) (.ref hp.objs.size) >>= _) _ _ ⟨h5,g,d,tk+1,os⟩
 refine wpAny_bind ?_
 unfold Builtin.SmallTypes.ownedTupleHandOut
 refine wpAny_bind (wpAny_setField_rec he5 (by simp) fun h6 he6 s6=>?_)
 replace s6:Heap.SameBut e h5 h6:=s6
 replace he6:IsEnumOut h6 e it ((i:Int)+1) x hp.objs.size:=he6
 refine wpAny_setField_rec he6 (by simp) fun h7 he7 s7=>?_
 replace s7:Heap.SameBut e h6 h7:=s7
 replace he7:IsEnumOut h7 e it ((i:Int)+1) x hp.objs.size:=he7
 refine wpAny_bind (wpAny_letGo (wpAny_pure ⟨_,rfl,wpAny_pure (hQ h7 he7 ?_ ?_ ?_ ?_)⟩))
 ·exact hit4.at fun o e'=>s7.extBut _ o (Ne.symm hne) (s6.extBut _ o (Ne.symm hne) (s5.extBut _ o (Ne.symm hne) e'))
 ·exact s7.extBut _ _ (Nat.ne_of_gt hel) (s6.extBut _ _ (Nat.ne_of_gt hel) (s5.extBut _ _ (Nat.ne_of_gt hel) ht4))
 ·show h7.objs.size=hp.objs.size+1
  rw[s7.1,s6.1,s5.1,hz4]
 ·intro b o hb e'
  simp only[List.mem_cons,List.not_mem_nil,or_false,not_or] at hb
  exact s7.extBut b o hb.1 (s6.extBut b o hb.1 (s5.extBut b o hb.1 (hk4 b o hb.1 hb.2 e')))
theorem enT_end {e it t:Addr}{i:Nat}{xs:Array Value}{Q:Option Value->Shared->Prop} (hh:A.handled=none) (Z:EnT s.heap e it t i) (hl:s.heap.IsTuple t xs) (hx:xs[i]?=none)
  (hQ:∀h',Heap.ExtBut it s.heap h'->Q none { s with heap:=h' }):wpAny (model prog w) A (pyNext (.ref e)) Q E s:=by
 obtain ⟨⟨old,he⟩,hit⟩:=Z
 have hT:s.TypeIs (.ref e) "enumerate":=⟨_,he,rfl⟩
 unfold pyNext
 refine wpAny_bind (wpAny_attempt (wpAny_callSpecial?_slot (name:=Str.ofString "__next__") hT F.slot_enumerate_next (wpAny_call_entry F.slot_enumerate_next hT F.entry_enumerate_next ?_ (F.args_enumerate_next_1 _))))
 show wpAny _ _ (field (.ref e) 2 >>= _) _ _ _
 refine wpAny_bind (wpAny_field he rfl (x:=.ref it) rfl ?_)
 refine wpAny_bind (nextT_end hh hit hl hx fun h' x he' hx'=>?_)
 obtain ⟨o,ho,hc⟩:=hx'
 exact wpAny_bind (wpAny_isInstance (T:="StopIteration") (b:=true) ⟨o,ho,hc⟩ isSubtype_stop (wpAny_pure (hQ _ he')))
theorem call_enumT {t:Addr}{xs:Array Value}{Q:Value->Shared->Prop} (hl:s.heap.IsTuple t xs)
  (h:∀h',EnT h' (s.heap.objs.size+1) s.heap.objs.size t 0->(∀c o,s.heap.get? c=some o->h'.get? c=some o)->h'.objs.size=s.heap.objs.size+2->Q (.ref (s.heap.objs.size+1)) { s with heap:=h' }):
  wpAny (model prog w) A (call (.type "enumerate") [.ref t]) Q E s:=by
 refine callType_new F.called_enumerate (by decide) (F.typeCall_enumerate_1 _) (F.newCall_enumerate_1 _) (fun obj=>F.args_object_init_2 obj _) F.entry_enumerate_new (enumT_new t xs) ⟨hl,?_⟩
 simp only[Heap.size_push]
 have e1:((s.heap.push (tit t)).push (enob s.heap.objs.size)).get? (s.heap.objs.size+1)=some (enob s.heap.objs.size):=by
  have:((s.heap.push (tit t)).push (enob s.heap.objs.size)).get? (s.heap.push (tit t)).objs.size=some (enob s.heap.objs.size):=Heap.get?_push_size _ rfl
  rwa [Heap.size_push] at this
 refine ⟨⟨_,e1,rfl⟩,h _ ⟨⟨_,e1⟩,⟨_,Heap.get?_push_of_some _ (Heap.get?_push_size _ rfl),rfl,rfl⟩⟩ (fun c o e=>Heap.get?_push_of_some _ (Heap.get?_push_of_some _ e)) (by simp only[Heap.size_push])⟩
end
section
variable {X:Cx}{pins:List (Addr × Obj)}{σ:St}{H:Hp}{s:Shared}
noncomputable def Ite (K:W.Frag) (a:Addr):It :=
 ⟨fun i H=>∃xs x,SqT K H a xs/\xs[i]?=some x,fun i H v H'=>∃p x,H p=none/\v=.ref p/\H'=upd H p (.tup [.int i,x])/\∀xs,SqT K H a xs->xs[i]?=some x,fun i H=>∃xs,SqT K H a xs/\xs.length<=i⟩
theorem Inv.yieldPair {h2:Heap}{t':Nat}{fp:List Addr}{x y:V}{u v:Value} (I:Inv X pins σ H s) (hf:∀b∈fp,FpOk X pins H b) (k2:∀c o,c ∉ fp->s.heap.get? c=some o->h2.get? c=some o)
  (e0:h2.get? s.heap.objs.size=some { cls:=.type "tuple",data:=.seq #[u,v] }) (ru:RelV x u) (rv:RelV y v):Inv X pins σ (upd H s.heap.objs.size (.tup [x,y])) { s with heap:=h2,toks:=t' }:=by
 have hn:H s.heap.objs.size=none:=I.hok.fresh (Nat.le_refl _)
 have pne:∀c o,s.heap.get? c=some o->c≠s.heap.objs.size:=fun c o e=>Nat.ne_of_lt (Heap.lt_size e)
 have nit:∀c u,H c=some u->c ∉ fp:=fun c u e q=>by rw[(hf c q).1] at e;cases e
 have hok:HOk X.prog X.w (upd H s.heap.objs.size (.tup [x,y])) h2:=fun c ob e=>by
  by_cases hq:c=s.heap.objs.size
  ·subst hq
   rw[upd_same] at e;cases e
   exact ⟨by show 2<=sizeLine;decide,[u,v],.cons ru (.cons rv .nil),⟨_,e0,rfl,_,rfl⟩⟩
  ·rw[upd_ne hq] at e
   refine (I.hok c ob e).stay (fun d w' hd q=>k2 d w' ?_ q) (fun d q=>by rw[upd_ne (ne_of_none q hn)];exact q) fun d xs q=>by rw[upd_ne (ne_of_none q hn)];exact q
   rcases hd with rfl|hd
   ·exact nit d ob e
   ·exact nit d _ hd
 refine I.step (g':=s.gens) (d':=s.drawn) (t':=t') (ch:=fp) (fun c hc=>⟨(hf c hc).2.2.2.1,(hf c hc).2.1,(hf c hc).2.2.2.2.1,(hf c hc).2.2.2.2.2⟩) (fun c o _ _ hc e _=>k2 c o hc e) (fun c o _ _ hc e _=>⟨o.slots,k2 c o hc e⟩)
  (fun c o _ e n=>by rw[upd_ne (pne c o e)];exact n) (fun c o hc e=>⟨o,k2 c o hc e⟩) (fun c xs e=>by rw[upd_ne (ne_of_none e hn)];exact e) (fun c o u e=>by rw[upd_ne (ne_of_none e hn)];exact e) (fun c ps e=>⟨#[],by rw[upd_ne (ne_of_none e hn),e];simp⟩) (fun m hm=>?_) hok I.bare
 obtain ⟨o,es,ep,ho,r⟩:=hm
 exact ⟨o,es,ep,k2 _ o (fun q=>(hf _ q).2.1 rfl) ho,r⟩
theorem turn_enumT {P:Program}{w:World}{K:W.Frag}{es:List Expr}{kk:Nat}{pos:Pos}{a e it:Addr} (hne:e≠it):
  Turn P w K (.Tuple es kk pos) (Ite K a) [e,it] e (fun i h=>EnT h e it a i) where
 mem:=by simp
 obj:=fun i h st c hc=>by
  obtain ⟨⟨_,he⟩,⟨_,h1,_,d1⟩⟩:=st
  simp only[List.mem_cons,List.not_mem_nil,or_false] at hc
  rcases hc with rfl|rfl
  ·exact ⟨_,he,fun v q=>by cases q⟩
  ·exact ⟨_,h1,fun v q=>by rw[d1] at q;cases q⟩
 keep:=fun i h h' st k=>⟨let ⟨old,he⟩:=st.en;⟨old,k _ (by simp) _ he⟩,st.it.at fun o e=>k _ (by simp) o e⟩
 item:=by
  intro X hP hw hK hc i pins s σ H E I hf st hg
  subst hP hw hK
  obtain ⟨xs,x,ha,hx⟩:=hg
  obtain ⟨its,r1,p1,_⟩:=I.tuple ha
  obtain ⟨u,hu,ru⟩:=r1.get hx
  refine enT_item st (show s.heap.IsTuple a its.toArray from p1) (x:=u) (by simpa using hu) hne fun h' z1 j1 new sz keep=>?_
  refine ⟨_,rfl,wpAny_letOwnedTupleGo_enum (s:={ s with heap:=h',toks:=s.toks+1 }) z1 fun h2 z2 sb=>?_⟩
  have elt:e<s.heap.objs.size:=let ⟨_,he⟩:=st.en;Heap.lt_size he
  have ilt:it<s.heap.objs.size:=let ⟨_,h1,_⟩:=st.it;Heap.lt_size h1
  have k2:∀c o,c ∉ [e,it]->s.heap.get? c=some o->h2.get? c=some o:=fun c o hc q=>sb.extBut _ _ (fun z=>hc (by simp[z])) (keep c o hc q)
  have e0:h2.get? s.heap.objs.size=some { cls:=.type "tuple",data:=.seq #[.int i s.toks,u] }:=sb.extBut _ _ (Nat.ne_of_gt elt) new
  have hn:H s.heap.objs.size=none:=I.hok.fresh (Nat.le_refl _)
  refine ⟨.ref s.heap.objs.size,_,I.yieldPair (t':=s.toks+1) (x:=.int i) (y:=x) hf k2 e0 ⟨_,rfl⟩ ru,rfl,⟨_,x,hn,rfl,rfl,fun xs' h'=>by rw[I.tuple_inj h' ha];exact hx⟩,?_,fun c hc=>?_⟩
  ·refine ⟨⟨u,?_⟩,j1.at fun o e'=>sb.extBut _ o (Ne.symm hne) e'⟩
   have e1:((i+1:Nat):Int)=(i:Int)+1:=by omega
   rw[e1];exact z2
  ·have hlt:c<s.heap.objs.size:=by
    simp only[List.mem_cons,List.not_mem_nil,or_false] at hc
    rcases hc with rfl|rfl
    ·exact elt
    ·exact ilt
   rw[upd_ne (Nat.ne_of_lt hlt)]
   exact (hf c hc).1
 done:=by
  intro X hP hw hK hc i pins s σ H E I hf st hg
  subst hP hw hK
  obtain ⟨xs,ha,hx⟩:=hg
  obtain ⟨its,r1,p1,_⟩:=I.tuple ha
  have hl:=r1.length
  refine enT_end (I.ok.hd hc) st (show s.heap.IsTuple a its.toArray from p1) (by simp;omega) fun h' keep=>⟨rfl,I.turnedL (t':=s.toks) (ch:=[e,it]) (fun c o hc e=>keep c o (fun q=>hc (by simp[q])) e) hf⟩
 self:=fun _ _ _ _ _ st h=>let ⟨_,he⟩:=st.en;wpAny_pyIter_enum he h
theorem boot_enum:bootBuiltins "enumerate"=some (.type "enumerate"):=by decide +kernel
noncomputable def iEnum (K:W.Frag) (ta:TA):TI:=fun σ H R=>ta σ H fun vs H1=>∃a xs,vs=[.ref a]/\SqT K H1 a xs/\R (Ite K a) H1
theorem pi_enumT {e1:Expr}{es:List Expr}{kk:Nat}{pt p pos:Pos}{ta:TA} (hg:Gl X "enumerate") (hm:X.mg "enumerate"=none) (ha:PA X [e1] ta) (hs:starEach [e1] X.env=[(false,eval e1 X.env)]:=by rfl):
  PI X (.Tuple es kk pt) (.Call (.Name "enumerate" p) [e1] [] pos) (iEnum X.K ta):=by
 intro pins s σ H R I h
 refine Call_ (ld_blt I hg hm boot_enum (PyProof.Rows.callWith_type1 (thn (ha pos pins s σ H _ I h) fun us s1 ⟨vs,H1,I1,r1,q1⟩=>?_) (by rw[hs];rfl) (by rfl)))
 obtain ⟨a,xs,rfl,hx,q⟩:=q1
 cases r1 with
 | cons ra rr =>
  cases rr
  cases ra
  obtain ⟨its,r1,p1,_⟩:=I1.tuple hx
  refine call_enumT (show s1.heap.IsTuple a its.toArray from p1) fun h' Z keep sz=>?_
  obtain ⟨old,he⟩:=id Z.en
  refine wpAny_pyIter_enum (s:={ s1 with heap:=h' }) he ?_
  have I2:Inv X pins σ H1 { s1 with heap:=h' }:=I1.kept (t':=s1.toks) keep
  refine ⟨s1.heap.objs.size+1,[s1.heap.objs.size+1,s1.heap.objs.size],_,_,H1,rfl,I2,turn_enumT (by show s1.heap.objs.size+1≠s1.heap.objs.size;omega),Z,fun c hc=>?_,q⟩
  have hge:s1.heap.objs.size<=c:=by
   simp only[List.mem_cons,List.not_mem_nil,or_false] at hc
   rcases hc with rfl|rfl <;> first|exact Nat.le_add_right _ _|exact Nat.le_refl _
  exact I1.fpOk hge (I1.hok.fresh hge)
end
end L2
namespace L2
open PySem PySem.Spec PyProof.Rows
section
variable {prog:Program}{w:World}{A:Around}{E:Value->Shared->Prop}{s:Shared}
theorem itemsR_new {d:Addr}{Q:Value->Shared->Prop} (hd:(d == sysModules)=false) (hT:s.TypeIs (.ref d) "dict") (h:Q (.ref s.heap.objs.size) { s with heap:=s.heap.push { cls:=.type "dict_items",data:=.fields #[.ref d] } }):
  wpAny (model prog w) A (call (.builtin "dict.items") [.ref d]) Q E s:=by
 have g:MeetsIn prog w (Builtin.«dict.items» ⟨[.ref d],[]⟩) (fun _ R s=>s.TypeIs (.ref d) "dict"/\R (.ok (.ret (.ref s.heap.objs.size))) { s with heap:=s.heap.push { cls:=.type "dict_items",data:=.fields #[.ref d] } }):=
  .of_wp fun A R s ⟨hm,h⟩=>by
   unfold Builtin.«dict.items»
   refine wpAny_bind ?_
   unfold Builtin.Dict.noArgs
   refine wpAny_bind (wpAny_notOrdered_dict hm ?_)
   show wpAny _ _ (pure d) _ _ s
   refine wpAny_pure ?_
   show wpAny _ _ (Builtin.Dict.showsAll d >>= _) _ _ s
   unfold Builtin.Dict.showsAll
   rw[if_neg (by rw[hd];exact Bool.false_ne_true)]
   refine wpAny_bind (wpAny_pure ?_)
   exact wpAny_bind (wpAny_newObj_type (wpAny_pure ⟨_,rfl,h⟩))
 exact call_meetsIn PySem.F.slot_dict_items hT PySem.F.entry_dict_items (PySem.F.args_dict_items_1 _) g ⟨hT,h⟩
theorem itemsR_iter {v d:Addr}{od:Obj}{es:Array DictEntry}{ep:Nat}{Q:Value->Shared->Prop} (hv:s.heap.IsItemsView v d) (ho:s.heap.get? d=some od) (hdat:od.data=.dict es ep)
  (hQ:Q (.ref s.heap.objs.size) { s with heap:=s.heap.push { cls:=.type "dict_itemiterator",data:=.fields #[.none,.bool false,.ref d,.int 0 0,.int es.size 0,.int ep 0,.none,.none] } }):
  wpAny (model prog w) A (pyIter (.ref v)) Q E s:=by
 obtain ⟨ov,hov,hcv,hdv⟩:=id hv
 refine wpAny_pyIter_slot hv.typeIs F.slot_dict_items_iter (wpAny_call_entry F.slot_dict_items_iter hv.typeIs F.entry_dict_items_iter ?_ (F.args_dict_items_iter_1 _))
 unfold Builtin.«dict_items.__iter__»
 refine wpAny_bind (wpAny_pure ?_)
 refine wpAny_bind ?_
 unfold Builtin.Dict_items.dictOf
 refine wpAny_bind (wpAny_field hov hdv (x:=.ref d) rfl (wpAny_pure ?_))
 refine wpAny_bind ?_
 unfold Builtin.Dict_items.newIterator
 refine wpAny_bind (wpAny_dictEntries ho hdat ?_)
 refine wpAny_bind (wpAny_dictEpoch ho hdat ?_)
 have hown:Builtin.Dict_items.ownsTuple "dict_itemiterator"=true:=by decide
 simp only[hown,if_true]
 refine wpAny_newObj_type (wpAny_pure ⟨_,rfl,"dict_itemiterator",_,⟨_,Heap.get?_push_size _ rfl,rfl⟩,F.slot_dict_itemiterator_next.lookup,?_⟩)
  (by simp only[sizeOk,Builtin.Dict_items.ownedTupleFields,List.size_toArray,List.length_append,List.length_cons,List.length_nil,sizeLine_eq];omega)
 simpa [rawInt,Builtin.Dict_items.ownedTupleFields] using hQ
theorem itemsR_item {it d:Addr}{i ep:Nat}{od:Obj}{es:Array DictEntry}{en:DictEntry}{ok ov:Value}{Q:Option Value->Shared->Prop} (hit:IsItemIter s.heap it d i es.size ep ok ov)
  (hod:s.heap.get? d=some od) (hdd:od.data=.dict es ep) (hx:es[i]?=some en)
  (hQ:∀h',IsItemIterOut h' it d (i+1) es.size ep en.key en.val s.heap.objs.size->h'.get? s.heap.objs.size=some { cls:=.type "tuple",data:=.seq #[en.key,en.val] }->h'.objs.size=s.heap.objs.size+1 ->
   (∀b o,b≠it->s.heap.get? b=some o->h'.get? b=some o)->Q (some (.ref s.heap.objs.size)) { s with heap:=h' }):wpAny (model prog w) A (pyNext (.ref it)) Q E s:=by
 obtain ⟨hp,g,dr,tk,os⟩:=s
 have hT:Shared.TypeIs ⟨hp,g,dr,tk,os⟩ (.ref it) "dict_itemiterator":=⟨_,hit,rfl⟩
 unfold pyNext
 refine wpAny_bind (wpAny_attempt (wpAny_callSpecial?_slot (name:=Str.ofString "__next__") hT F.slot_dict_itemiterator_next
  (wpAny_call_entry F.slot_dict_itemiterator_next hT F.entry_dict_itemiterator_next ?_ (F.args_dict_itemiterator_next_1 _))))
 refine wpAny_bind (wpAny_pure ?_)
 refine wpAny_bind ?_
 refine wpAny_bind ?_
 first|refine wpAny_bind (wpAny_typeNameOfWhole_itemiter hT (wpAny_pure ?_))|refine wpAny_bind (wpAny_typeNameOf_itemiter hT (wpAny_pure ?_))
 refine wpAny_bind (wpAny_fieldsOf hit rfl ?_)
 have hown:Builtin.Dict_items.ownsTuple "dict_itemiterator"=true:=by decide
 simp only[hown,if_true]
 show wpAny _ _ (if (Value.ref d == Value.none)=true then _ else _) _ _ _
 rw[if_neg (show ¬ ((Value.ref d == Value.none)=true) from Bool.false_ne_true)]
 refine wpAny_bind (wpAny_pure ?_)
 refine wpAny_bind (wpAny_dictEntries hod hdd ?_)
 rw[if_neg (by simp)]
 refine wpAny_bind (wpAny_pure ?_)
 refine wpAny_bind (wpAny_dictEpoch hod hdd ?_)
 rw[if_neg (by simp)]
 refine wpAny_pure ?_
 obtain ⟨hlt',hen⟩:=Array.getElem?_eq_some_iff.mp hx
 simp only[show ¬ ((i:Int)<0) from by omega,if_false,Int.toNat_natCast,hx]
 refine wpAny_bind ?_
 first|refine wpAny_bind (wpAny_typeNameOfWhole_itemiter hT (wpAny_pure ?_))|refine wpAny_bind (wpAny_typeNameOf_itemiter hT (wpAny_pure ?_))
 refine wpAny_bind (wpAny_isOneOf_itemiter hT ?_)
 show wpAny _ _ (setField (.ref it) 3 (rawInt ((i:Int)+1)) >>= _) _ _ ⟨hp,g,dr,tk,os⟩
 refine wpAny_bind (wpAny_setField_rec hit (by simp) fun h1 he1 s1=>?_)
 replace s1:Heap.SameBut it hp h1:=s1
 replace he1:IsItemIter h1 it d (i+1) es.size ep ok ov:=by
  have e:((i+1:Nat):Int)=(i:Int)+1:=by omega
  unfold IsItemIter;rw[e];simpa [rawInt] using he1
 have hT1:Shared.TypeIs ⟨h1,g,dr,tk,os⟩ (.ref it) "dict_itemiterator":=⟨_,he1,rfl⟩
 refine wpAny_bind (wpAny_holding ?_)
 refine wpAny_bind (wpAny_isOneOf_itemiter hT1 ?_)
 refine wpAny_bind (wpAny_isOneOf_itemiter hT1 ?_)
 show wpAny _ _ (Builtin.Dict_items.pairFromOwner (.ref it) 6 en.key en.val) _ _ ⟨h1,g,dr,tk,os⟩
 unfold Builtin.Dict_items.pairFromOwner
 refine wpAny_bind (wpAny_newTuple ?_)
 have he2:IsItemIter (h1.push { cls:=.type "tuple",data:=.seq #[en.key,en.val] }) it d (i+1) es.size ep ok ov:=Heap.get?_push_of_some _ he1
 generalize hh2:h1.push { cls:=.type "tuple",data:=.seq #[en.key,en.val] }=h2 at he2
 have hz1:h1.objs.size=hp.objs.size:=s1.1
 have hil:it<hp.objs.size:=Heap.lt_size hit
 have ht2:h2.get? hp.objs.size=some { cls:=.type "tuple",data:=.seq #[en.key,en.val] }:=by rw[<- hh2,<- hz1];exact Heap.get?_push_size _ rfl
 have hz2:h2.objs.size=hp.objs.size+1:=by rw[<- hh2,Heap.size_push,hz1]
 have hk2:∀b o,b≠it->hp.get? b=some o->h2.get? b=some o:=fun b o hb e=>by rw[<- hh2];exact Heap.get?_push_of_some _ (s1.extBut b o hb e)
 show wpAny _ _ (Builtin.Dict_items.ownedTupleIsFree (.ref it) >>= _) _ _ ⟨h2,g,dr,tk,os⟩
 rw[hz1]
 clear hh2 he1 s1 hT1 hz1 h1
 refine wpAny_bind ?_
 unfold Builtin.Dict_items.ownedTupleIsFree
 refine wpAny_bind (wpAny_field he2 rfl (x:=.none) rfl (wpAny_pure ?_))
 simp only[if_true]
 refine wpAny_bind (wpAny_field he2 rfl (x:=ok) rfl ?_)
 refine wpAny_bind (wpAny_field he2 rfl (x:=ov) rfl ?_)
 refine wpAny_bind (wpAny_setField_rec he2 (by simp) fun h3 he3 s3=>?_)
 replace s3:Heap.SameBut it h2 h3:=s3
 replace he3:IsItemIter h3 it d (i+1) es.size ep en.key ov:=he3
 refine wpAny_bind (wpAny_setField_rec he3 (by simp) fun h4 he4 s4=>?_)
 replace s4:Heap.SameBut it h3 h4:=s4
 replace he4:IsItemIter h4 it d (i+1) es.size ep en.key en.val:=he4
 refine wpAny_bind (wpAny_setField_rec he4 (by simp) fun h5 he5 s5=>?_)
 replace s5:Heap.SameBut it h4 h5:=s5
 replace he5:IsItemIterOut h5 it d (i+1) es.size ep en.key en.val hp.objs.size:=he5
 refine wpAny_bind (wpAny_setField_rec he5 (by simp) fun h6 he6 s6=>?_)
 replace s6:Heap.SameBut it h5 h6:=s6
 replace he6:IsItemIterOut h6 it d (i+1) es.size ep en.key en.val hp.objs.size:=he6
 refine wpAny_bind (wpAny_letGo (wpAny_pure (wpAny_pure ⟨_,rfl,wpAny_pure (hQ h6 he6 ?_ ?_ ?_)⟩)))
 ·exact s6.extBut _ _ (Nat.ne_of_gt hil) (s5.extBut _ _ (Nat.ne_of_gt hil) (s4.extBut _ _ (Nat.ne_of_gt hil) (s3.extBut _ _ (Nat.ne_of_gt hil) ht2)))
 ·show h6.objs.size=hp.objs.size+1
  rw[s6.1,s5.1,s4.1,s3.1,hz2]
 ·exact fun b o hb e=>s6.extBut b o hb (s5.extBut b o hb (s4.extBut b o hb (s3.extBut b o hb (hk2 b o hb e))))
theorem itemsR_end {it d:Addr}{i ep:Nat}{od:Obj}{es:Array DictEntry}{ok ov:Value}{Q:Option Value->Shared->Prop} (hh:A.handled=none) (hit:IsItemIter s.heap it d i es.size ep ok ov)
  (hod:s.heap.get? d=some od) (hdd:od.data=.dict es ep) (hge:es.size<=i) (hQ:∀h',Heap.ExtBut it s.heap h'->Q none { s with heap:=h' }):wpAny (model prog w) A (pyNext (.ref it)) Q E s:=by
 have hT:s.TypeIs (.ref it) "dict_itemiterator":=⟨_,hit,rfl⟩
 unfold pyNext
 refine wpAny_bind (wpAny_attempt (wpAny_callSpecial?_slot (name:=Str.ofString "__next__") hT F.slot_dict_itemiterator_next
  (wpAny_call_entry F.slot_dict_itemiterator_next hT F.entry_dict_itemiterator_next ?_ (F.args_dict_itemiterator_next_1 _))))
 refine wpAny_bind (wpAny_pure ?_)
 refine wpAny_bind ?_
 refine wpAny_bind ?_
 first|refine wpAny_bind (wpAny_typeNameOfWhole_itemiter hT (wpAny_pure ?_))|refine wpAny_bind (wpAny_typeNameOf_itemiter hT (wpAny_pure ?_))
 refine wpAny_bind (wpAny_fieldsOf hit rfl ?_)
 have hown:Builtin.Dict_items.ownsTuple "dict_itemiterator"=true:=by decide
 simp only[hown,if_true]
 show wpAny _ _ (if (Value.ref d == Value.none)=true then _ else _) _ _ s
 rw[if_neg (show ¬ ((Value.ref d == Value.none)=true) from Bool.false_ne_true)]
 refine wpAny_bind (wpAny_pure ?_)
 refine wpAny_bind (wpAny_dictEntries hod hdd ?_)
 rw[if_neg (by simp)]
 refine wpAny_bind (wpAny_pure ?_)
 refine wpAny_bind (wpAny_dictEpoch hod hdd ?_)
 rw[if_neg (by simp)]
 refine wpAny_pure ?_
 simp only[show ¬ ((i:Int)<0) from by omega,if_false,Int.toNat_natCast,Array.getElem?_eq_none hge]
 refine wpAny_bind ?_
 first|refine wpAny_bind (wpAny_typeNameOfWhole_itemiter hT (wpAny_pure ?_))|refine wpAny_bind (wpAny_typeNameOf_itemiter hT (wpAny_pure ?_))
 show wpAny _ _ (setField (.ref it) 2 .none >>= _) _ _ s
 refine wpAny_bind (wpAny_setField hit rfl (by simp) ?_)
 show wpAny _ _ (newExc (.type "StopIteration") [] >>= _) _ _ _
 refine wpAny_bind ?_
 simp only[newExc,newTuple]
 refine wpAny_bind (wpAny_newObj_type ?_ (by size_fits))
 refine wpAny_bind (m:=firstArgMember _ _) (wpAny_of_eq (a:=Value.none) (by first|rfl | (simp only[firstArgMember];rfl)) ?_)
 refine wpAny_newObj_type ?_ (by size_fits)
 simp only[raiseNew]
 refine wpAny_bind (wpAny_handled ?_)
 rw[show A.in1.handled=none from hh]
 refine wpAny_bind (wpAny_pure (wpAny_throw ?_))
 refine wpAny_bind (wpAny_isInstance (T:="StopIteration") (b:=true) ⟨_,Heap.get?_push_size _ rfl,rfl⟩ isSubtype_stop ?_)
 exact wpAny_pure (hQ _ (((Heap.SameBut.update ..).extBut.push _).push _))
theorem entry_itemiter_iter:entryFor table "dict_itemiterator.__iter__"=some Builtin.«dict_keyiterator.__iter__»:=entryFor_alias (id':="dict_keyiterator.__iter__") (by kernel_rfl) rfl (by decide +kernel) (by kernel_rfl)
theorem iter_itemiter {it d:Addr}{i n ep:Nat}{ok ov:Value}{Q:Value->Shared->Prop} (h:IsItemIter s.heap it d i n ep ok ov) (q:Q (.ref it) s):wpAny (model prog w) A (pyIter (.ref it)) Q E s:=by
 have hT:s.TypeIs (.ref it) "dict_itemiterator":=⟨_,h,rfl⟩
 refine wpAny_pyIter_slot hT F.slot_dict_itemiterator_iter (wpAny_call_entry F.slot_dict_itemiterator_iter hT entry_itemiter_iter ?_ (F.args_dict_itemiterator_iter_1 _))
 exact wpAny_pure ⟨_,rfl,"dict_itemiterator",_,hT,F.slot_dict_itemiterator_next.lookup,q⟩
end
section
variable {X:Cx}{pins:List (Addr × Obj)}{σ:St}{H:Hp}{s:Shared}
noncomputable def Itd (d:Addr) (o:Obj) (kvs:List (List Key × V)):It :=
 ⟨fun i H=>H d=some (.frz o (.dT kvs))/\i<kvs.length,fun i H v H'=>∃p ka k x,H p=none/\v=.ref p/\H'=upd H p (.tup [.ref ka,x])/\kvs[i]?=some (k,x)/\H ka=some (.tup (k.map kV)),fun i H=>H d=some (.frz o (.dT kvs))/\kvs.length<=i⟩
theorem Paired.get {α β:Type}{F:α->β->Prop}:∀{l:List α}{m:List β}{i:Nat}{a:α},Paired F l m->l[i]?=some a->∃b,m[i]?=some b/\F a b
 | _::_,_::_,0,_,.cons r _,h=>by cases h;exact ⟨_,rfl,r⟩
 | _::_,_::_,i+1,_,.cons _ t,h=>by
  obtain ⟨b,e,r⟩:=Paired.get (i:=i) t (by simpa using h)
  exact ⟨b,by simpa using e,r⟩
theorem Inv.frzT {d:Addr}{o:Obj}{kvs:List (List Key × V)}{es:Array DictEntry}{ep:Nat} (I:Inv X pins σ H s) (e:H d=some (.frz o (.dT kvs))) (hd:o.data=.dict es ep):
  s.heap.get? d=some o/\es.size=kvs.length/\∀(i:Nat) (k:List Key) (x:V),kvs[i]?=some (k,x)->∃(ka:Addr) (u:Value) (en:DictEntry),es[i]?=some en/\en.key=.ref ka/\en.val=u/\H ka=some (.tup (k.map kV))/\RelV x u:=by
 obtain ⟨h1,_,_,xs,r,o',es',ep',h2,_,h3,h4,_⟩:=(show ObjOk X.prog X.w H s.heap d (.frz o (.dT kvs)) from I.hok d _ e)
 rw[h1] at h2
 cases h2
 rw[hd] at h3
 cases h3
 have hl:es.size=kvs.length:=by
  rw[<- Array.length_toList,h4,List.length_map];exact (Paired.length r).symm
 refine ⟨h1,hl,fun i k x hx=>?_⟩
 obtain ⟨q,hq,f1,f2,f3⟩:=Paired.get r hx
 refine ⟨q.2.1,q.2.2,entryOfKey (tupleKind (mixKind X.prog X.w)) q,?_,rfl,rfl,f2,f3⟩
 rw[<- Array.getElem?_toList,h4,List.getElem?_map,hq];rfl
theorem turn_items {P:Program}{w:World}{K:W.Frag}{els:List Expr}{kk:Nat}{pos:Pos}{d it:Addr}{o:Obj}{kvs:List (List Key × V)}{es:Array DictEntry}{ep:Nat} (hd:o.data=.dict es ep):
  Turn P w K (.Tuple els kk pos) (Itd d o kvs) [it] it (fun i h=>∃ok ov,IsItemIter h it d i es.size ep ok ov) where
 mem:=by simp
 obj:=fun i h st c hc=>by
  obtain ⟨ok,ov,he⟩:=st
  simp only[List.mem_cons,List.not_mem_nil,or_false] at hc
  subst hc
  exact ⟨_,he,fun v q=>by cases q⟩
 keep:=fun i h h' st k=>let ⟨ok,ov,he⟩:=st;⟨ok,ov,k _ (by simp) _ he⟩
 item:=by
  intro X hP hw hK hc i pins s σ H E I hf st hg
  subst hP hw hK
  obtain ⟨hF,hi⟩:=hg
  obtain ⟨ok,ov,he⟩:=st
  obtain ⟨h1,hsz,hget⟩:=I.frzT hF hd
  obtain ⟨⟨k,x⟩,hkx⟩:∃kx,kvs[i]?=some kx:=⟨_,List.getElem?_eq_getElem hi⟩
  obtain ⟨ka,u,en,e1,e2,e3,e4,ru⟩:=hget i k x hkx
  refine itemsR_item he h1 hd e1 fun h' z1 new sz keep=>?_
  rw[e2,e3] at z1 new
  refine ⟨_,rfl,wpAny_letOwnedTupleGo_items (s:={ s with heap:=h' }) z1 fun h2 z2 sb=>?_⟩
  have ilt:it<s.heap.objs.size:=Heap.lt_size he
  have k2:∀c o,c ∉ [it]->s.heap.get? c=some o->h2.get? c=some o:=fun c o hc q=>sb.extBut _ _ (fun z=>hc (by simp[z])) (keep c o (fun z=>hc (by simp[z])) q)
  have e0:h2.get? s.heap.objs.size=some { cls:=.type "tuple",data:=.seq #[.ref ka,u] }:=sb.extBut _ _ (Nat.ne_of_gt ilt) new
  have hn:H s.heap.objs.size=none:=I.hok.fresh (Nat.le_refl _)
  refine ⟨.ref s.heap.objs.size,_,I.yieldPair (t':=s.toks) (x:=.ref ka) (y:=x) hf k2 e0 rfl ru,rfl,⟨_,ka,k,x,hn,rfl,rfl,hkx,e4⟩,⟨_,_,z2⟩,fun c hc=>?_⟩
  have hlt:c<s.heap.objs.size:=by
   simp only[List.mem_cons,List.not_mem_nil,or_false] at hc
   subst hc;exact ilt
  rw[upd_ne (Nat.ne_of_lt hlt)]
  exact (hf c hc).1
 done:=by
  intro X hP hw hK hc i pins s σ H E I hf st hg
  subst hP hw hK
  obtain ⟨hF,hi⟩:=hg
  obtain ⟨ok,ov,he⟩:=st
  obtain ⟨h1,hsz,_⟩:=I.frzT hF hd
  exact itemsR_end (I.ok.hd hc) he h1 hd (by omega) fun h' keep=>⟨rfl,I.turnedL (t':=s.toks) (ch:=[it]) (fun c o hc e=>keep c o (fun q=>hc (by simp[q])) e) hf⟩
 self:=fun _ _ _ _ _ st h=>let ⟨_,_,he⟩:=st;iter_itemiter he h
theorem Inv.freeze {d:Addr}{kvs:List (List Key × V)} (I:Inv X pins σ H s) (e:H d=some (.dT kvs)):∃o es ep,o.data=.dict es ep/\s.heap.get? d=some o/\Inv X pins σ (upd H d (.frz o (.dT kvs))) s:=by
 have ok:=(show ObjOk X.prog X.w H s.heap d (.dT kvs) from I.hok d _ e)
 obtain ⟨_,_,_,_,o,es,ep,ho,_,hd,_⟩:=id ok
 refine ⟨o,es,ep,hd,ho,?_⟩
 have tup:∀b xs,H b=some (.tup xs)->upd H d (.frz o (.dT kvs)) b=some (.tup xs):=fun b xs q=>by
  rw[upd_ne (ne_of q e (by intro z;cases z))];exact q
 have own:∀b c,H b=some (.own c)->upd H d (.frz o (.dT kvs)) b=some (.own c):=fun b c q=>by
  rw[upd_ne (ne_of q e (by intro z;cases z))];exact q
 have:=I.step (H':=upd H d (.frz o (.dT kvs))) (h':=s.heap) (g':=s.gens) (d':=s.drawn) (t':=s.toks) (ch:=[]) (fun _ z=>nomatch z) (fun b o _ _ _ q _=>q) (fun b o _ _ _ q _=>⟨o.slots,q⟩)
  (fun b o _ _ n=>by
   by_cases hb:b=d
   ·subst hb;rw[e] at n;cases n
   ·rw[upd_ne hb];exact n) (fun b o _ q=>⟨o,q⟩) tup (fun b o u q=>by rw[upd_ne (ne_of q e (by intro z;cases z))];exact q) (fun b ps q=>⟨#[],by rw[upd_ne (ne_of q e (by intro z;cases z)),q];simp⟩) (fun m hm=>hm)
  (fun b ob q=>by
   by_cases hb:b=d
   ·subst hb
    rw[upd_same] at q;cases q
    exact ⟨ho,ok.stay (fun c v _ q=>q) (fun c q=>own c _ q) tup⟩
   ·rw[upd_ne hb] at q
    exact (I.hok b ob q).stay (fun c v _ q=>q) (fun c q=>own c _ q) tup) I.bare
 exact this
noncomputable def iItems (td:TE):TI:=fun σ H R=>td σ H fun x H1=>∃d kvs,x=.ref d/\H1 d=some (.dT kvs)/\∀o,R (Itd d o kvs) (upd H1 d (.frz o (.dT kvs)))
theorem pi_items {e:Expr}{els:List Expr}{kk:Nat}{pt apos cpos:Pos}{td:TE} (ho:PE X e td) (hbase:attributeBase e "items" X.env (eval e X.env)=eval e X.env:=by rfl) (hline:(apos.endLine == cpos.line)=true:=by rfl):
  PI X (.Tuple els kk pt) (.Call (.Attribute e "items" apos) [] [] cpos) (iItems td):=by
 intro pins s σ H R I h
 refine wpAny_Call_method0_late hbase hline (thn (ho pins s σ H _ I h) fun v s1 ⟨x,H1,I1,r1,d,kvs,ex,hd,q⟩=>?_)
 subst ex
 cases r1
 obtain ⟨o,es,ep,hdat,hob,I2⟩:=I1.freeze hd
 obtain ⟨_,hsys,_,_,o',_,_,hob',hex,_⟩:=(show ObjOk X.prog X.w H1 s1.heap d (.dT kvs) from I1.hok d _ hd)
 rw[hob] at hob'
 cases hob'
 refine ⟨"dict","dict.items",PySem.F.plainAttrs_dict,PySem.F.slot_dict_items,PySem.F.type_dict_items,⟨o,hob,hex.1⟩,fun a e=>by cases e;exact ⟨o,hob,hex.2.1⟩,Calls.callWith_builtin rfl (PySem.evalArgs_none ?_)⟩
 refine itemsR_new hsys ⟨o,hob,hex.1⟩ ?_
 refine itemsR_iter (s:={ s1 with heap:=s1.heap.push { cls:=.type "dict_items",data:=.fields #[.ref d] } }) ⟨_,Heap.get?_push_size _ rfl,rfl,rfl⟩ (Heap.get?_push_of_some _ hob) hdat ?_
 have I3:Inv X pins σ (upd H1 d (.frz o (.dT kvs))) { s1 with heap:=s1.heap.push { cls:=.type "dict_items",data:=.fields #[.ref d] } }:=I2.kept (t':=s1.toks) fun b o e=>Heap.get?_push_of_some _ e
 refine ⟨_,[_],_,_,upd H1 d (.frz o (.dT kvs)),rfl,I3.kept (t':=s1.toks) fun b o e=>Heap.get?_push_of_some _ e,turn_items hdat,⟨_,_,Heap.get?_push_size _ rfl⟩,fun b hb=>?_,q o⟩
 have e:b=(s1.heap.push { cls:=.type "dict_items",data:=.fields #[.ref d] }).objs.size:=by simpa using hb
 subst e
 exact I3.fpOk (Nat.le_refl _) (I3.hok.fresh (Nat.le_refl _))
end
end L2
namespace L2
open PySem PySem.Spec PyProof.Rows
section
variable {X:Cx}
noncomputable def tDT1 (tk tv:TE):TE:=fun σ H Q=>∀p,H p=none->tk σ (upd H p (.dT [])) fun y H1=>tv σ H1 fun x H2=>H2 p=some (.dT [])/\∃b ks,y=.ref b/\H2 b=some (.tup (ks.map kV))/\Q (.ref p) (upd H2 p (.dT [(ks,x)]))
theorem pe_dT1 {k v:Expr}{tk tv:TE}{pos:Pos} (hu:X.A.units+1<cLine) (hk:PE X k tk) (hv:PE X v tv):PE X (.Dict [some k] [v] pos) (tDT1 tk tv):=by
 intro pins s σ H Q I q
 have hn:=I.hok.fresh (Nat.le_refl s.heap.objs.size)
 have I1:=I.laid (a:=s.heap.objs.size) (o:=.dT []) (h':=s.heap.push { cls:=.type "dict",data:=.dict #[] }) (t':=s.toks) (fun _ _ q=>Heap.get?_push_of_some _ q) (Nat.le_refl _) (dt_empty s.heap I.big)
 refine wpAny_Dict_any rfl rfl (by simp) (by simp) (pairTrees_cons_walk (thn (hk pins _ σ _ _ I1 (q _ hn)) fun u s1 ⟨y,H1,I2,ry,q1⟩=>thn (hv pins s1 σ H1 _ I2 q1) fun r s2 ⟨x,H2,I3,rx,e,b,ks,ey,eb,q2⟩=>pairTrees_nil_walk ?_))
 subst ey
 cases ry
 unfold storeAll
 rw[List.forIn_cons]
 obtain ⟨z,hd,xs,rel,dd⟩:=dt_of I3.hok e
 have hz:xs.length<=sizeLine:=by rw[<- Paired.length rel];exact z
 refine wpAny_bind (wpAny_bind (wpAny_dictSet_heap (hsz:=hz) (knd:=tupleKind (mixKind X.prog X.w)) (show (tupleKind (mixKind X.prog X.w)).room X.A from Nat.lt_of_succ_lt hu) (key_of I3.hok eb) dd fun h' dd' hs=>wpAny_pure ?_))
 show wpAny _ _ (forIn [] PUnit.unit _) _ _ _
 rw[List.forIn_nil]
 refine wpAny_pure ⟨.ref s.heap.objs.size,_,?_,rfl,q2⟩
 obtain ⟨qo,es,ep,hq,h2,h3,h4,_,h5⟩:=dd'
 refine d_write I3 (by rw[e];exact True.intro) hs ⟨qo,hq⟩ ⟨by show 1<=sizeLine;decide,hd,_,(rel.put ks eb rx).keeps fun c ys ec=>?_,qo,es,ep,hq,h2,h3,h4,h5⟩
 rw[upd_ne (ne_of ec e (fun z=>nomatch z))]
 exact ec
end
section
theorem for_items {d:Addr}{o:Obj}{kvs:List (List Key × V)}{g:TG}{tb:TS}{D:Ends}{σ:St}{H:Hp} (Pv:Nat->St->Hp->Prop) (h0:Pv 0 σ H) (hl:∀i σ H,i<=kvs.length->Pv i σ H->H d=some (.frz o (.dT kvs)))
  (hs:∀i k x σ H p ka,kvs[i]?=some (k,x)->H p=none->H ka=some (.tup (k.map kV))->Pv i σ H->g (.ref p) σ (upd H p (.tup [.ref ka,x])) fun σ2 H2=>tb { D with nx:=Pv (i+1),ct:=Pv (i+1),bk:=D.nx } σ2 H2) (hd:∀σ H,Pv kvs.length σ H->D.nx σ H):
  ∃W:Nat->Nat->St->Hp->Prop,(∃m,W 0 m σ H)/\∀i m σ H,W i m σ H ->
   ((Itd d o kvs).stop i H/\D.nx σ H) ∨ ((Itd d o kvs).go i H/\∃N:St->Hp->Prop,(∀σ' H',N σ' H'->∃m',m'<m/\W (i+1) m' σ' H')/\∀x H',(Itd d o kvs).yld i H x H'->g x σ H' fun σ2 H2=>tb { D with nx:=N,ct:=N,bk:=D.nx } σ2 H2):=by
 refine ⟨fun i m σ H=>m=kvs.length - i/\i<=kvs.length/\Pv i σ H,⟨kvs.length,by simp,Nat.zero_le _,h0⟩,?_⟩
 rintro i m σ H ⟨rfl,hi,p⟩
 have q:=hl i σ H hi p
 rcases Nat.lt_or_ge i kvs.length with h|h
 ·refine .inr ⟨⟨q,h⟩,Pv (i+1),fun σ' H' p'=>⟨_,by omega,rfl,by omega,p'⟩,fun x H' y=>?_⟩
  obtain ⟨pp,ka,k,x',hp,rfl,rfl,hx,hk⟩:=y
  exact hs i k x' σ H pp ka hx hp hk p
 ·have e:i=kvs.length:=by omega
  subst e
  exact .inl ⟨⟨q,Nat.le_refl _⟩,hd σ H p⟩
theorem wk2 {σ0:St} (hσ:σ0[0]?=some none/\σ0[1]?=some none) (x y:V):Wk σ0 ((σ0.set 0 (some x)).set 1 (some y)):=by
 refine ⟨by simp,fun j u e=>?_⟩
 by_cases h1:j=1
 ·subst h1;rw[hσ.2] at e;cases e
 ·rw[List.getElem?_set_ne (Ne.symm h1)]
  by_cases h2:j=0
  ·subst h2;rw[hσ.1] at e;cases e
  ·rw[List.getElem?_set_ne (Ne.symm h2)];exact e
theorem blk_enum {K:W.Frag}{a:Addr}{xs:List V}{σ0:St}{tc:TT}{te:TE}{H:Hp}{F:List V->Hp->Prop} (hn:xs.length<=sizeLine) (Pv:Nat->List V->Hp->Prop) (h0:Pv 0 [] H) (hl:∀i ys H,Pv i ys H->ys.length<=i)
  (hq:∀i ys H,i<=xs.length->Pv i ys H->SqT K H a xs) (hσ:σ0[0]?=some none/\σ0[1]?=some none)
  (hs:∀i ys H x p,xs[i]?=some x->H p=none->Pv i ys H->tc ((σ0.set 0 (some (.int i))).set 1 (some x)) (upd H p (.tup [.int i,x])) fun b H5=>if b=true then te ((σ0.set 0 (some (.int i))).set 1 (some x)) H5 (fun z H'=>Pv (i+1) (ys++[z]) H') else Pv (i+1) ys H5)
  (hd:∀ys H,Pv xs.length ys H->F ys H):Blk (Ite K a) σ0 (gTup K 2 (gCons (gName 0) (gCons (gName 1) gNil))) tc te H F:=by
 refine ⟨fun i m ys H=>m=xs.length - i/\i<=xs.length/\Pv i ys H,⟨xs.length,by simp,Nat.zero_le _,h0⟩,?_⟩
 rintro i m ys H2 ⟨rfl,hi,p⟩
 have q:=hq i ys H2 hi p
 have hlen:=hl i ys H2 p
 refine ⟨by omega,?_⟩
 by_cases hlt:i<xs.length
 ·refine .inr ⟨⟨xs,xs[i],q,by simp[hlt]⟩,fun y H'=>Pv (i+1) (ys++[y]) H',fun H'=>Pv (i+1) ys H',fun y H' q=>⟨xs.length - (i+1),by omega,rfl,hlt,q⟩,fun H' q=>⟨xs.length - (i+1),by omega,rfl,hlt,q⟩,fun v H3 yld=>?_⟩
  obtain ⟨r,x,hr,rfl,rfl,hx⟩:=yld
  exact ⟨r,[.int i,x],rfl,.of upd_same,rfl,.int i,[x],rfl,x,[],rfl,rfl,wk2 hσ _ _,hs i ys _ x r (hx xs q) hr p⟩
 ·have e:i=xs.length:=by omega
  subst e
  exact .inl ⟨⟨xs,q,Nat.le_refl _⟩,hd ys H2 p⟩
end
end L2
namespace Mt
noncomputable def fr (q:Rat):List Int:=[q.num,(q.den:Int)]
noncomputable def cut (t b:Int):Rat:=mkRat t b.toNat
theorem cut_num {t b:Int} (hb:0<b):(cut t b).num=t / (Int.gcd t b:Int):=by
 have h:b.toNat≠0:=by omega
 unfold cut
 rw[Rat.mkRat_def,dif_neg h,Rat.num_normalize]
 have e:b.toNat=b.natAbs:=by omega
 rw[e];rfl
theorem cut_den {t b:Int} (hb:0<b):((cut t b).den:Int)=b / (Int.gcd t b:Int):=by
 have h:b.toNat≠0:=by omega
 unfold cut
 rw[Rat.mkRat_def,dif_neg h,Rat.den_normalize]
 have e:b.toNat=b.natAbs:=by omega
 rw[e,Int.natCast_ediv]
 have e2:((b.natAbs:Nat):Int)=b:=by omega
 rw[e2];rfl
theorem fr_cut {t b:Int} (hb:0<b):fr (cut t b)=[t / (Int.gcd t b:Int),b / (Int.gcd t b:Int)]:=by
 unfold fr;rw[cut_num hb,cut_den hb]
theorem cut_mul (p q:Rat):cut (p.num*q.num) ((p.den:Int)*(q.den:Int))=p*q:=by
 unfold cut
 rw[Rat.mul_def,Rat.mkRat_def]
 have e:((p.den:Int)*(q.den:Int)).toNat=p.den*q.den:=by rw[<- Int.natCast_mul];rfl
 have hp:=p.den_nz;have hq:=q.den_nz
 have h:p.den*q.den≠0:=Nat.mul_ne_zero hp hq
 rw[dif_neg (by rw[e];exact h)]
 congr 1
theorem cut_add (p q:Rat):cut (p.num*(q.den:Int)+q.num*(p.den:Int)) ((p.den:Int)*(q.den:Int))=p+q:=by
 unfold cut
 rw[Rat.add_def,Rat.mkRat_def]
 have e:((p.den:Int)*(q.den:Int)).toNat=p.den*q.den:=by rw[<- Int.natCast_mul];rfl
 have hp:=p.den_nz;have hq:=q.den_nz
 have h:p.den*q.den≠0:=Nat.mul_ne_zero hp hq
 rw[dif_neg (by rw[e];exact h)]
 congr 1
theorem cut_add_same {a b c:Int} (hc:0<c):cut a c+cut b c=cut (a+b) c:=by
 unfold cut
 have h:c.toNat≠0:=by omega
 rw[Rat.mkRat_add_mkRat _ _ h h,Rat.mkRat_eq_iff (Nat.mul_ne_zero h h) h]
 have e:((c.toNat:Nat):Int)=c:=by omega
 rw[Int.natCast_mul,e]
 grind
theorem cut_zero {c:Int} (hc:0<c):cut 0 c=0:=by
 unfold cut
 rw[Rat.mkRat_eq_zero (by omega)]
theorem cut_self {c:Int} (hc:0<c):cut c c=1:=by
 unfold cut
 have h:c.toNat≠0:=by omega
 have e:((c.toNat:Nat):Int)=c:=by omega
 have:mkRat c c.toNat=mkRat 1 1:=by
  rw[Rat.mkRat_eq_iff h (by decide),e];grind
 rw[this];rfl
theorem fr_inj {p q:Rat} (h:fr p=fr q):p=q:=by
 unfold fr at h
 simp only[List.cons.injEq,and_true] at h
 exact Rat.ext h.1 (by omega)
theorem fr_zero:fr 0=[0,1]:=rfl
structure Bd (n:Nat) (q:Rat):Prop where
 num:q.num.natAbs<=2 ^ n
 den:q.den<=2 ^ n
theorem natAbs_ediv_le (a:Int) (g:Nat):(a / (g:Int)).natAbs<=a.natAbs:=by
 rcases Nat.eq_zero_or_pos g with h|h
 ·subst h;simp
 ·have h0:(0:Int)<g:=by omega
  rcases Int.le_total 0 a with ha|ha
  ·have h1:0<=a / (g:Int):=Int.ediv_nonneg ha (by omega)
   have h2:a / (g:Int)<=a:=Int.ediv_le_self _ ha
   omega
  ·have h1:a<=a / (g:Int):=by
    rw[Int.le_ediv_iff_mul_le h0]
    have:a*(g:Int)<=a*1:=Int.mul_le_mul_of_nonpos_left ha (by omega)
    omega
   have h2:a / (g:Int)<=0:=by
    have:=Int.ediv_le_ediv h0 ha
    simpa using this
   omega
theorem Bd.cut {t b:Int}{n:Nat} (hb:0<b) (h1:t.natAbs<=2 ^ n) (h2:b.natAbs<=2 ^ n):Bd n (Mt.cut t b):=by
 refine ⟨?_,?_⟩
 ·rw[cut_num hb];exact Nat.le_trans (natAbs_ediv_le _ _) h1
 ·have:=cut_den (t:=t) hb
  have l:=natAbs_ediv_le b (Int.gcd t b)
  omega
theorem Bd.mul {n m:Nat}{p q:Rat} (a:Bd n p) (b:Bd m q):Bd (n+m) (p*q):=by
 have hp:=p.den_nz;have hq:=q.den_nz
 rw[<- cut_mul]
 refine Bd.cut ?_ ?_ ?_
 ·have:=Nat.mul_pos (Nat.pos_of_ne_zero hp) (Nat.pos_of_ne_zero hq)
  rw[<- Int.natCast_mul];omega
 ·rw[Int.natAbs_mul,Nat.pow_add];exact Nat.mul_le_mul a.num b.num
 ·rw[Int.natAbs_mul,Nat.pow_add];exact Nat.mul_le_mul a.den b.den
theorem Bd.one:Bd 0 1:=⟨by decide,by decide⟩
noncomputable def addL:List Int->List Int->List Int:=List.zipWith (·+·)
noncomputable def share (ns:List Int) (k:Nat):Rat:=cut (ns.getD k 0) ns.sum
noncomputable def fol (rs:List (List Int)):List Int->List Nat->Rat × Option (List Int)
 | ns,[]=>(1,some ns)
 | ns,k::ds=>if ns.getD k 0=0 then (0,none) else (share ns k*(fol rs (addL ns (rs.getD k [])) ds).1,(fol rs (addL ns (rs.getD k [])) ds).2)
theorem fol_nil (rs:List (List Int)) (ns:List Int):fol rs ns []=(1,some ns):=rfl
theorem fol_cons (rs:List (List Int)) (ns:List Int) (k:Nat) (ds:List Nat):
  fol rs ns (k::ds)=if ns.getD k 0=0 then (0,none) else (share ns k*(fol rs (addL ns (rs.getD k [])) ds).1,(fol rs (addL ns (rs.getD k [])) ds).2):=rfl
theorem fol_none {rs:List (List Int)}:∀{ds:List Nat}{ns:List Int},(fol rs ns ds).2=none->(fol rs ns ds).1=0
 | [],ns,h=>by cases h
 | k::ds,ns,h=>by
  rw[fol_cons] at h ⊢
  by_cases hz:ns.getD k 0=0
  ·rw[if_pos hz]
  ·rw[if_neg hz] at h ⊢
   have:=fol_none (ds:=ds) (ns:=addL ns (rs.getD k [])) h
   show share ns k*_=0
   rw[this];grind
structure Urn (n m:Nat) (ns:List Int):Prop where
 len:ns.length=n
 nn:∀x∈ns,0<=x/\x<=m
 pos:0<ns.sum
structure Row (n m:Nat) (r:List Int):Prop where
 len:r.length=n
 nn:∀x∈r,0<=x/\x<=m
structure Rul (n m:Nat) (rs:List (List Int)):Prop where
 len:rs.length=n
 row:∀r∈rs,Row n m r
theorem Rul.at {n m:Nat}{rs:List (List Int)} (h:Rul n m rs) {k:Nat} (hk:k<n):Row n m (rs.getD k []):=by
 have hk':k<rs.length:=by rw[h.len];exact hk
 have:rs.getD k []=rs[k]:=by rw[List.getD_eq_getElem?_getD,List.getElem?_eq_getElem hk'];rfl
 rw[this];exact h.row _ (List.getElem_mem hk')
theorem sum_nonneg:∀{l:List Int},(∀x∈l,0<=x)->0<=l.sum
 | [],_=>by simp
 | a::l,h=>by
  rw[List.sum_cons]
  have h1:=h a List.mem_cons_self
  have h2:=sum_nonneg fun x hx=>h x (List.mem_cons_of_mem _ hx)
  omega
theorem sum_le {m:Int}:∀{l:List Int},(∀x∈l,x<=m)->l.sum<=m*(l.length:Int)
 | [],_=>by simp
 | a::l,h=>by
  rw[List.sum_cons,List.length_cons]
  have h1:=h a List.mem_cons_self
  have h2:=sum_le fun x hx=>h x (List.mem_cons_of_mem _ hx)
  have e:m*((l.length+1:Nat):Int)=m*(l.length:Int)+m:=by rw[Int.natCast_add,Int.mul_add];simp
  omega
theorem addL_sum:∀{a b:List Int},a.length=b.length->(addL a b).sum=a.sum+b.sum
 | [],[],_=>by simp[addL]
 | x::a,y::b,h=>by
  have ih:=addL_sum (a:=a) (b:=b) (by simpa using h)
  show ((x+y)::addL a b).sum=_
  rw[List.sum_cons,List.sum_cons,List.sum_cons,ih];omega
 | [],_::_,h=>by simp at h
 | _::_,[],h=>by simp at h
theorem addL_mem:∀{a b:List Int}{x:Int},x∈addL a b->∃y∈a,∃z∈b,x=y+z
 | [],b,x,h=>by simp[addL] at h
 | _::_,[],x,h=>by simp[addL] at h
 | p::a,q::b,x,h=>by
  rcases List.mem_cons.mp (show x∈(p+q)::addL a b from h) with e|h
  ·exact ⟨p,List.mem_cons_self,q,List.mem_cons_self,e⟩
  ·obtain ⟨y,hy,z,hz,e⟩:=addL_mem h
   exact ⟨y,List.mem_cons_of_mem _ hy,z,List.mem_cons_of_mem _ hz,e⟩
theorem Urn.add {n m j:Nat}{ns r:List Int} (h:Urn n m ns) (hr:Row n j r):Urn n (m+j) (addL ns r):=by
 have hl:ns.length=r.length:=by rw[h.len,hr.len]
 refine ⟨?_,fun x hx=>?_,?_⟩
 ·unfold addL;rw[List.length_zipWith,h.len,hr.len];omega
 ·obtain ⟨y,hy,z,hz,e⟩:=addL_mem hx
  have:=h.nn y hy;have:=hr.nn z hz;omega
 ·rw[addL_sum hl]
  have:=sum_nonneg (l:=r) fun x hx=>(hr.nn x hx).1
  have:=h.pos;omega
theorem Urn.getD {n m:Nat}{ns:List Int} (h:Urn n m ns) (k:Nat):0<=ns.getD k 0/\ns.getD k 0<=m:=by
 rw[List.getD_eq_getElem?_getD]
 cases e:ns[k]? with
 | none=>simp
 | some x=>exact h.nn x (List.mem_of_getElem? e)
noncomputable def psh (ns:List Int) (i:Nat):Rat:=cut (ns.take i).sum ns.sum
theorem psh_zero {ns:List Int} (h:0<ns.sum):psh ns 0=0:=by unfold psh;simp[cut_zero h]
theorem psh_succ {ns:List Int} (h:0<ns.sum) (i:Nat):psh ns (i+1)=psh ns i+share ns i:=by
 unfold psh share
 rw[cut_add_same h]
 congr 1
 rw[List.take_add_one,List.sum_append,List.getD_eq_getElem?_getD]
 cases ns[i]? <;> simp
theorem psh_all {ns:List Int} (h:0<ns.sum):psh ns ns.length=1:=by
 unfold psh;rw[List.take_length,cut_self h]
noncomputable def sumQ:List Rat->Rat
 | []=>0
 | q::r=>q+sumQ r
theorem sumQ_append:∀a b:List Rat,sumQ (a++b)=sumQ a+sumQ b
 | [],b=>by show sumQ b=0+sumQ b;grind
 | q::a,b=>by show q+sumQ (a++b)=q+sumQ a+sumQ b;rw[sumQ_append a b];grind
end Mt
namespace Md
open PySem PySem.Spec L2 Mt
noncomputable abbrev Tab:=List (List Int × Int)
noncomputable def kI (ns:List Int):List Key:=ns.map Sum.inl
theorem kI_kV (ns:List Int):(kI ns).map kV=ns.map V.int:=by
 unfold kI;rw[List.map_map];rfl
theorem kI_inj:∀{a b:List Int},kI a=kI b->a=b
 | [],[],_=>rfl
 | [],_::_,h=>by cases h
 | _::_,[],h=>by cases h
 | x::a,y::b,h=>by
  have h':(Sum.inl x:Key)::kI a=Sum.inl y::kI b:=h
  injection h' with h1 h2
  injection h1 with h1
  rw[h1,kI_inj h2]
noncomputable def enc (D:Tab):List (List Key × V):=D.map fun p=>(kI p.1,V.int p.2)
noncomputable def addD:Tab->List Int->Int->Tab
 | [],k,x=>[(k,x)]
 | p::D,k,x=>if p.1=k then (p.1,p.2+x)::D else p::addD D k x
noncomputable def lin (D:Tab) (φ:List Int->Int):Int:=(D.map fun p=>p.2*φ p.1).sum
theorem lin_nil (φ:List Int->Int):lin [] φ=0:=rfl
theorem lin_cons (p:List Int × Int) (D:Tab) (φ:List Int->Int):lin (p::D) φ=p.2*φ p.1+lin D φ:=by unfold lin;rw[List.map_cons,List.sum_cons]
theorem lin_add (k:List Int) (x:Int) (φ:List Int->Int):∀D:Tab,lin (addD D k x) φ=lin D φ+x*φ k
 | []=>by
  show lin [(k,x)] φ=_
  rw[lin_cons,lin_nil]
  show x*φ k+0=0+x*φ k
  omega
 | p::D=>by
  unfold addD
  split
  ·rename_i e
   rw[lin_cons,lin_cons,e,Int.add_mul];omega
  ·rw[lin_cons,lin_cons,lin_add k x φ D];omega
theorem keys_add {k:List Int}{x:Int}:∀{D:Tab}{p:List Int × Int},p∈addD D k x->p.1=k ∨ ∃q∈D,q.1=p.1
 | [],p,h=>by
  unfold addD at h
  rw[List.mem_singleton.mp h];exact .inl rfl
 | q::D,p,h=>by
  unfold addD at h
  split at h
  ·rcases List.mem_cons.mp h with z|z
   ·subst z;exact .inr ⟨q,List.mem_cons_self,rfl⟩
   ·exact .inr ⟨p,List.mem_cons_of_mem _ z,rfl⟩
  ·rcases List.mem_cons.mp h with z|z
   ·subst z;exact .inr ⟨_,List.mem_cons_self,rfl⟩
   ·rcases keys_add z with y|⟨r,hr,e⟩
    ·exact .inl y
    ·exact .inr ⟨r,List.mem_cons_of_mem _ hr,e⟩
theorem len_add (k:List Int) (x:Int):∀D:Tab,(addD D k x).length<=D.length+1
 | []=>by unfold addD;simp
 | p::D=>by
  unfold addD
  split
  ·simp
  ·have:=len_add k x D
   rw[List.length_cons,List.length_cons];omega
noncomputable def ND (D:Tab):Prop:=(D.map (·.1)).Nodup
theorem nd_add {k:List Int}{x:Int}:∀{D:Tab},ND D->ND (addD D k x)
 | [],_=>by unfold addD ND;simp
 | p::D,h=>by
  unfold ND at h
  rw[List.map_cons,List.nodup_cons] at h
  unfold addD
  split
  ·unfold ND;rw[List.map_cons,List.nodup_cons];exact h
  ·rename_i e
   unfold ND;rw[List.map_cons,List.nodup_cons]
   refine ⟨fun z=>?_,nd_add h.2⟩
   obtain ⟨q,hq,eq⟩:=List.mem_map.mp z
   rcases keys_add hq with y|⟨r,hr,er⟩
   ·exact e (by rw[<- eq,y])
   ·exact h.1 (List.mem_map.mpr ⟨r,hr,by rw[er,eq]⟩)
noncomputable def dl (k:List Int):List Int->Int:=fun k'=>if k'=k then 1 else 0
noncomputable def valD (D:Tab) (k:List Int):Int:=lin D (dl k)
theorem lin_no {k:List Int}:∀{D:Tab},¬ k∈D.map (·.1)->lin D (dl k)=0
 | [],_=>rfl
 | p::D,h=>by
  rw[List.map_cons,List.mem_cons,not_or] at h
  rw[lin_cons,lin_no h.2]
  unfold dl
  rw[if_neg (Ne.symm h.1)];omega
theorem valV_enc {k:List Int}:∀{D:Tab},ND D->(valV (enc D) (kI k)).getD (.int 0)=.int (valD D k)
 | [],_=>rfl
 | p::D,h=>by
  unfold ND at h
  rw[List.map_cons,List.nodup_cons] at h
  show (valV ((kI p.1,V.int p.2)::enc D) (kI k)).getD (.int 0)=_
  unfold valD
  rw[lin_cons]
  by_cases e:p.1=k
  ·rw[valV_pos (by rw[e]),<- e,lin_no h.1]
   unfold dl
   rw[if_pos rfl]
   show V.int p.2=_
   congr 1;omega
  ·rw[valV_neg (fun z=>e (kI_inj z)),valV_enc h.2]
   unfold dl valD
   rw[if_neg e]
   congr 1
   show lin D (dl k)=_
   unfold dl;omega
theorem enc_keep {k:List Int}{v:V}:∀{D:Tab},¬ k∈D.map (·.1)->(enc D).map (fun kv=>if kv.1=kI k then (kv.1,v) else kv)=enc D
 | [],_=>rfl
 | p::D,h=>by
  rw[List.map_cons,List.mem_cons,not_or] at h
  show (if kI p.1=kI k then (kI p.1,v) else (kI p.1,V.int p.2))::(enc D).map _=(kI p.1,V.int p.2)::enc D
  rw[if_neg (fun z=>h.1 (kI_inj z).symm),enc_keep h.2]
theorem any_enc {k:List Int}:∀{D:Tab},((enc D).any fun kv=>decide (kv.1=kI k))=decide (k∈D.map (·.1))
 | []=>rfl
 | p::D=>by
  show (decide (kI p.1=kI k) || (enc D).any _)=_
  rw[any_enc]
  by_cases e:p.1=k
  ·rw[decide_eq_true (show kI p.1=kI k by rw[e]),Bool.true_or,decide_eq_true (by rw[<- e];simp)]
  ·rw[decide_eq_false (fun z=>e (kI_inj z)),Bool.false_or]
   congr 1
   simp[Ne.symm e]
theorem put_enc {k:List Int}{x:Int}:∀{D:Tab},ND D->putK (enc D) (kI k) (.int (valD D k+x))=enc (addD D k x):=by
 intro D nd
 unfold putK
 rw[any_enc]
 by_cases hk:k∈D.map (·.1)
 ·rw[decide_eq_true hk,if_pos rfl]
  induction D with
  | nil=>simp at hk
  | cons p D ih =>
   unfold ND at nd
   rw[List.map_cons,List.nodup_cons] at nd
   unfold addD
   by_cases e:p.1=k
   ·rw[if_pos e]
    show (if kI p.1=kI k then _ else _)::(enc D).map _=(kI p.1,V.int (p.2+x))::enc D
    rw[if_pos (by rw[e]),enc_keep (by rw[<- e];exact nd.1)]
    have:valD (p::D) k=p.2:=by
     unfold valD
     rw[lin_cons,lin_no (by rw[<- e];exact nd.1)]
     unfold dl;rw[if_pos e];omega
    rw[this]
   ·rw[if_neg e]
    show (if kI p.1=kI k then _ else _)::(enc D).map _=(kI p.1,V.int p.2)::enc (addD D k x)
    have:valD (p::D) k=valD D k:=by
     unfold valD
     rw[lin_cons]
     unfold dl;rw[if_neg e];omega
    rw[if_neg (fun z=>e (kI_inj z)),this]
    have hk':k∈D.map (·.1):=by
     rw[List.map_cons,List.mem_cons] at hk
     exact hk.resolve_left (Ne.symm e)
    rw[ih nd.2 hk']
 ·rw[decide_eq_false hk,if_neg (by decide)]
  have hv:valD D k=0:=lin_no hk
  rw[hv]
  have:∀(D:Tab),¬ k∈D.map (·.1)->addD D k x=D++[(k,x)]:=by
   intro D
   induction D with
   | nil=>intro _;rfl
   | cons p D ih =>
    intro h
    rw[List.map_cons,List.mem_cons,not_or] at h
    unfold addD
    rw[if_neg (Ne.symm h.1),ih h.2];rfl
  rw[this D hk]
  unfold enc
  rw[List.map_append]
  simp
noncomputable def uboL (rs:List (List Int)) (u:List Int):Nat->List Int->List (Int × List Int)
 | _,[]=>[]
 | i,b::bs=>if 0<b then (b,addL u (rs.getD i []))::uboL rs u (i+1) bs else uboL rs u (i+1) bs
noncomputable def ubo (rs:List (List Int)) (u:List Int):List (Int × List Int):=uboL rs u 0 u
noncomputable def putsD (m:Int):List (Int × List Int)->Tab->Tab
 | [],D=>D
 | b::bs,D=>putsD m bs (addD D b.2 (m*b.1))
noncomputable def nextL (rs:List (List Int)):Tab->Tab->Tab
 | [],D=>D
 | p::T,D=>nextL rs T (putsD p.2 (ubo rs p.1) D)
noncomputable def nextD (rs:List (List Int)) (T:Tab):Tab:=nextL rs T []
noncomputable def waysD (rs:List (List Int)):Nat->Tab->Tab
 | 0,D=>D
 | k+1,D=>nextD rs (waysD rs k D)
noncomputable def opT (rs:List (List Int)) (φ:List Int->Int) (u:List Int):Int:=((List.range u.length).map fun i=>u.getD i 0*φ (addL u (rs.getD i []))).sum
theorem lin_puts (m:Int) (φ:List Int->Int):∀(bs:List (Int × List Int)) (D:Tab),lin (putsD m bs D) φ=lin D φ+m*(bs.map fun b=>b.1*φ b.2).sum
 | [],D=>by unfold putsD;simp
 | b::bs,D=>by
  unfold putsD
  rw[lin_puts m φ bs,lin_add,List.map_cons,List.sum_cons,Int.mul_add,Int.mul_assoc];omega
theorem sum_range_add {f:Nat->Int}:∀(n:Nat),((List.range (n+1)).map f).sum=f 0+((List.range n).map fun i=>f (i+1)).sum:=by
 intro n
 rw[List.range_succ_eq_map,List.map_cons,List.sum_cons,List.map_map];rfl
theorem uboL_cons (rs:List (List Int)) (u:List Int) (i:Nat) (b:Int) (bs:List Int):uboL rs u i (b::bs)=if 0<b then (b,addL u (rs.getD i []))::uboL rs u (i+1) bs else uboL rs u (i+1) bs:=rfl
theorem uboL_sum (rs:List (List Int)) (φ:List Int->Int) (u:List Int):∀(bs:List Int) (i:Nat),(∀b∈bs,0<=b)->((uboL rs u i bs).map fun b=>b.1*φ b.2).sum=((List.range bs.length).map fun j=>bs.getD j 0*φ (addL u (rs.getD (i+j) []))).sum
 | [],i,_=>rfl
 | b::bs,i,h=>by
  have ih:=uboL_sum rs φ u bs (i+1) fun x hx=>h x (List.mem_cons_of_mem _ hx)
  have hb:=h b List.mem_cons_self
  have e:((List.range bs.length).map fun j=>(b::bs).getD (j+1) 0*φ (addL u (rs.getD (i+(j+1)) [])))=((List.range bs.length).map fun j=>bs.getD j 0*φ (addL u (rs.getD (i+1+j) []))):=by
   refine List.map_congr_left fun j _=>?_
   rw[show i+(j+1)=i+1+j by omega];rfl
  rw[List.length_cons,sum_range_add (f:=fun j=>(b::bs).getD j 0*φ (addL u (rs.getD (i+j) []))),e,<- ih,uboL_cons]
  split
  ·rw[List.map_cons,List.sum_cons];rfl
  ·have:b=0:=by omega
   subst this
   show _=0*_+_
   rw[Int.zero_mul,Int.zero_add]
theorem ubo_sum (rs:List (List Int)) (φ:List Int->Int) {u:List Int} (h:∀b∈u,0<=b):((ubo rs u).map fun b=>b.1*φ b.2).sum=opT rs φ u:=by
 unfold ubo opT
 rw[uboL_sum rs φ u u 0 h]
 simp
theorem lin_nextL (rs:List (List Int)) (φ:List Int->Int):∀(T D:Tab),(∀p∈T,∀b∈p.1,0<=b)->lin (nextL rs T D) φ=lin D φ+lin T (opT rs φ)
 | [],D,_=>by unfold nextL;rw[lin_nil];omega
 | p::T,D,h=>by
  unfold nextL
  rw[lin_nextL rs φ T _ fun q hq=>h q (List.mem_cons_of_mem _ hq),lin_puts,ubo_sum rs φ (h p List.mem_cons_self),lin_cons];omega
theorem lin_next {rs:List (List Int)}{φ:List Int->Int}{T:Tab} (h:∀p∈T,∀b∈p.1,0<=b):lin (nextD rs T) φ=lin T (opT rs φ):=by
 unfold nextD
 rw[lin_nextL rs φ T [] h,lin_nil];omega
noncomputable def Keys (n m:Nat) (D:Tab):Prop:=∀p∈D,p.1.length=n/\∀b∈p.1,0<=b/\b<=(m:Int)
theorem Keys.add {n m:Nat}{D:Tab}{k:List Int}{x:Int} (h:Keys n m D) (hk:k.length=n/\∀b∈k,0<=b/\b<=(m:Int)):Keys n m (addD D k x):=fun p hp=>by
 rcases keys_add hp with e|⟨q,hq,e⟩
 ·rw[e];exact hk
 ·rw[<- e];exact h q hq
theorem mem_addL {u r:List Int}{m c:Int} (h1:∀b∈u,0<=b/\b<=m) (h2:∀b∈r,0<=b/\b<=c):∀b∈addL u r,0<=b/\b<=m+c:=by
 unfold addL
 induction u generalizing r with
 | nil=>intro b hb;simp at hb
 | cons x u ih =>
  cases r with
  | nil=>intro b hb;simp at hb
  | cons y r =>
   intro b hb
   rw[List.zipWith_cons_cons,List.mem_cons] at hb
   rcases hb with e|e
   ·have a1:=h1 x List.mem_cons_self
    have a2:=h2 y List.mem_cons_self
    omega
   ·exact ih (fun b hb=>h1 b (List.mem_cons_of_mem _ hb)) (fun b hb=>h2 b (List.mem_cons_of_mem _ hb)) b e
theorem addL_row {n m:Nat}{rs:List (List Int)}{u:List Int}{i:Nat} (hR:Rul n 5 rs) (hu:u.length=n/\∀b∈u,0<=b/\b<=(m:Int)) (hi:i<n):(addL u (rs.getD i [])).length=n/\∀b∈addL u (rs.getD i []),0<=b/\b<=((m+5:Nat):Int):=by
 have hr:=hR.at hi
 refine ⟨?_,fun b hb=>?_⟩
 ·unfold addL;rw[List.length_zipWith,hu.1,hr.len];omega
 ·have:=mem_addL (c:=5) hu.2 (fun b hb=>by have:=hr.nn b hb;omega) b hb
  omega
theorem mem_uboL {rs:List (List Int)}{u:List Int}:∀{bs:List Int}{i:Nat}{b:Int × List Int},b∈uboL rs u i bs->∃j,j<bs.length/\b.1=bs.getD j 0/\b.2=addL u (rs.getD (i+j) [])
 | [],_,_,h=>by unfold uboL at h;simp at h
 | x::bs,i,b,h=>by
  unfold uboL at h
  split at h
  ·rcases List.mem_cons.mp h with e|e
   ·subst e;exact ⟨0,by simp,rfl,rfl⟩
   ·obtain ⟨j,h1,h2,h3⟩:=mem_uboL e
    exact ⟨j+1,by simp;omega,by rw[h2];rfl,by rw[h3,show i+1+j=i+(j+1) by omega]⟩
  ·obtain ⟨j,h1,h2,h3⟩:=mem_uboL h
   exact ⟨j+1,by simp;omega,by rw[h2];rfl,by rw[h3,show i+1+j=i+(j+1) by omega]⟩
theorem len_uboL {rs:List (List Int)}{u:List Int}:∀(bs:List Int) (i:Nat),(uboL rs u i bs).length<=bs.length
 | [],_=>by unfold uboL;simp
 | x::bs,i=>by
  unfold uboL
  have:=len_uboL (rs:=rs) (u:=u) bs (i+1)
  split <;> simp <;> omega
theorem mem_ubo {n m:Nat}{rs:List (List Int)}{u:List Int}{b:Int × List Int} (hR:Rul n 5 rs) (hu:u.length=n/\∀b∈u,0<=b/\b<=(m:Int)) (h:b∈ubo rs u):(0<=b.1/\b.1<=(m:Int))/\b.2.length=n/\∀x∈b.2,0<=x/\x<=((m+5:Nat):Int):=by
 obtain ⟨j,h1,h2,h3⟩:=mem_uboL h
 rw[Nat.zero_add] at h3
 have hj:j<n:=by rw[<- hu.1];exact h1
 refine ⟨?_,?_⟩
 ·rw[h2,List.getD_eq_getElem?_getD,List.getElem?_eq_getElem h1]
  exact hu.2 _ (List.getElem_mem h1)
 ·rw[h3];exact addL_row hR hu hj
theorem puts_ok {n m:Nat} (x:Int):∀(bs:List (Int × List Int)) {D:Tab},(∀b∈bs,b.2.length=n/\∀y∈b.2,0<=y/\y<=(m:Int))->Keys n m D->ND D->Keys n m (putsD x bs D)/\ND (putsD x bs D)/\(putsD x bs D).length<=D.length+bs.length
 | [],D,_,h1,h2=>⟨h1,h2,by unfold putsD;simp⟩
 | b::bs,D,h,h1,h2=>by
  unfold putsD
  obtain ⟨a1,a2,a3⟩:=puts_ok x bs (D:=addD D b.2 (x*b.1)) (fun c hc=>h c (List.mem_cons_of_mem _ hc)) (h1.add (h b List.mem_cons_self)) (nd_add h2)
  refine ⟨a1,a2,?_⟩
  have:=len_add b.2 (x*b.1) D
  rw[List.length_cons];omega
theorem nextL_ok {n m:Nat}{rs:List (List Int)} (hR:Rul n 5 rs):∀(T:Tab) {D:Tab},Keys n m T->Keys n (m+5) D->ND D->Keys n (m+5) (nextL rs T D)/\ND (nextL rs T D)/\(nextL rs T D).length<=D.length+n*T.length
 | [],D,_,h1,h2=>⟨h1,h2,by unfold nextL;simp⟩
 | p::T,D,h,h1,h2=>by
  unfold nextL
  have hp:=h p List.mem_cons_self
  obtain ⟨b1,b2,b3⟩:=puts_ok (m:=m+5) p.2 (ubo rs p.1) (fun b hb=>(mem_ubo hR hp hb).2) h1 h2
  obtain ⟨a1,a2,a3⟩:=nextL_ok hR T (fun q hq=>h q (List.mem_cons_of_mem _ hq)) b1 b2
  refine ⟨a1,a2,?_⟩
  have:=len_uboL (rs:=rs) (u:=p.1) p.1 0
  have e:(ubo rs p.1).length<=n:=by unfold ubo;rw[<- hp.1];exact this
  rw[List.length_cons,Nat.mul_add,Nat.mul_one];omega
theorem next_ok {n m:Nat}{rs:List (List Int)}{T:Tab} (hR:Rul n 5 rs) (h:Keys n m T):Keys n (m+5) (nextD rs T)/\ND (nextD rs T)/\(nextD rs T).length<=n*T.length:=by
 obtain ⟨a,b,c⟩:=nextL_ok (D:=[]) hR T h (fun p hp=>by simp at hp) (by unfold ND;simp)
 exact ⟨a,b,by rw[List.length_nil,Nat.zero_add] at c;exact c⟩
theorem ways_ok {n m:Nat}{rs:List (List Int)} (hR:Rul n 5 rs) (n4:n<=4) {D:Tab} (h:Keys n m D) (hn:ND D) (hl:D.length<=1):∀k:Nat,Keys n (m+5*k) (waysD rs k D)/\ND (waysD rs k D)/\(waysD rs k D).length<=4 ^ k
 | 0=>⟨h,hn,by show D.length<=1;exact hl⟩
 | k+1=>by
  obtain ⟨a1,a2,a3⟩:=ways_ok hR n4 h hn hl k
  obtain ⟨b1,b2,b3⟩:=next_ok hR a1
  refine ⟨?_,b2,?_⟩
  ·rw[show m+5*(k+1)=m+5*k+5 by omega];exact b1
  ·show (nextD rs (waysD rs k D)).length<=4 ^ (k+1)
   have:n*(waysD rs k D).length<=4*4 ^ k:=Nat.mul_le_mul n4 a3
   rw[Nat.pow_succ];omega
noncomputable def comb (rs:List (List Int)) (i:Nat):List Int->Nat->Int
 | [],_=>0
 | c::cs,j=>c*(rs.getD j []).getD i 0+comb rs i cs (j+1)
noncomputable def beh (u:List Int) (rs:List (List Int)) (c:List Int):List Int:=(List.range u.length).map fun i=>u.getD i 0+comb rs i c 0
noncomputable def inc (c:List Int) (i:Nat):List Int:=c.set i (c.getD i 0+1)
theorem comb_inc (rs:List (List Int)) (i:Nat):∀(c:List Int) (j k:Nat),k<c.length->comb rs i (inc c k) j=comb rs i c j+(rs.getD (j+k) []).getD i 0
 | [],_,_,h=>by simp at h
 | x::c,j,0,_=>by
  show (x+1)*_+comb rs i c (j+1)=x*_+comb rs i c (j+1)+_
  rw[Int.add_mul];simp;omega
 | x::c,j,k+1,h=>by
  have ih:=comb_inc rs i c (j+1) k (by simpa using h)
  show x*_+comb rs i (inc c k) (j+1)=x*_+comb rs i c (j+1)+_
  rw[ih,show j+1+k=j+(k+1) by omega];omega
theorem beh_inc {n:Nat}{u c:List Int}{rs:List (List Int)}{k:Nat} (hu:u.length=n) (hc:c.length=n) (hR:Rul n 5 rs) (hk:k<n):beh u rs (inc c k)=addL (beh u rs c) (rs.getD k []):=by
 have hr:=hR.at hk
 have l1:(beh u rs c).length=n:=by unfold beh;simp[hu]
 apply List.ext_getElem?
 intro i
 unfold addL
 rw[List.getElem?_zipWith]
 unfold beh
 rw[List.getElem?_map,List.getElem?_map]
 by_cases hi:i<n
 ·rw[List.getElem?_range (by omega)]
  rw[List.getElem?_eq_getElem (l:=rs.getD k []) (by rw[hr.len];exact hi)]
  simp only[Option.map_some]
  rw[comb_inc rs i c 0 k (by omega),Nat.zero_add]
  congr 1
  rw[show (rs.getD k []).getD i 0=(rs.getD k [])[i]'(by rw[hr.len];exact hi) by rw[List.getD_eq_getElem?_getD (l:=rs.getD k []),List.getElem?_eq_getElem (by rw[hr.len];exact hi)];rfl]
  omega
 ·rw[List.getElem?_eq_none (by simp;omega)]
  simp
theorem comb_zero (rs:List (List Int)) (i:Nat):∀(n j:Nat),comb rs i (List.replicate n 0) j=0
 | 0,_=>rfl
 | n+1,j=>by
  show (0:Int)*_+comb rs i (List.replicate n 0) (j+1)=0
  rw[comb_zero rs i n (j+1)];omega
theorem beh_zero (u:List Int) (rs:List (List Int)) (n:Nat):beh u rs (List.replicate n 0)=u:=by
 unfold beh
 apply List.ext_getElem?
 intro i
 rw[List.getElem?_map]
 by_cases hi:i<u.length
 ·rw[List.getElem?_range hi,Option.map_some,comb_zero,List.getD_eq_getElem?_getD,List.getElem?_eq_getElem hi];simp
 ·rw[List.getElem?_eq_none (by simp;omega),List.getElem?_eq_none (by omega)];rfl
end Md
namespace L2
open PySem PySem.Spec PyProof.Rows
section
variable {prog:Program}{w:World}{A:Around}{E:Value->Shared->Prop}{s:Shared}
structure ZipL (h:Heap) (z TI TO i1 i2 t1 t2:Addr) (k:Nat):Prop where
 zz:IsZip h z TI TO .none
 ti:IsPair h TI (.ref i1) (.ref i2)
 tO:∃a b,IsPair h TO a b
 it1:h.IsListIter i1 t1 k
 it2:h.IsTupleIter i2 t2 k
noncomputable abbrev lit (t:Addr):Obj:={ cls:=.type "list_iterator",data:=.fields #[.ref t,.int 0 0] }
end
section
variable {X:Cx}{pins:List (Addr × Obj)}{σ:St}{H:Hp}{s:Shared}
end
end L2
namespace L2
open PySem PySem.Spec PyProof.Rows
section
variable {X:Cx}{K:W.Frag}
end
section
variable {prog:Program}{w:World}{A:Around}{E:Value->Shared->Prop}{s:Shared}
end
section
variable {X:Cx}
end
end L2
namespace L2
open PySem PySem.Spec PyProof.Rows
theorem fn_of0 {CX:CXT}{P:Program}{w:World}{K:W.Frag}{mg:Str->Option Value}{base:Heap}{f:Addr}{name qual:Str}{params:Arguments}{body:List Stmt}{scope:Scope}{dV kV doc pm cdv ct oc:Value}{an od:Option Addr}
  {osl:Array (Option Value)}{N ps:List Str}{sp:Sp} (lk:K.lookup f=some ⟨oc,od,.func (W.fnOf name qual params body scope dV kV doc pm an cdv ct),osl⟩) (hcd:W.codeIn K cdv qual=true) (S:FnScope N ps scope)
  (len:∀vs H Q E,sp vs H Q E->vs.length=ps.length)
  (hbody:∀(A:Around) (outer:List Env) (s:Shared) (H:Hp) (vs:List V) (Q:VK) (E:XK),sp vs H Q E ->
   ∃t,PSs (cxOf CX P w K mg base N qual scope f cdv A outer s H E) body t/\t { nx:=fun _ H'=>Q .non H',rt:=Q } (start N vs) H):
  FnOk P w K mg base CX 0 f (W.fnOf name qual params body scope dV kV doc pm an cdv ct) ps sp:=by
 refine ⟨len,fun A outer s H args us vs Q E hr e0 hb r hsp=>?_⟩
 have hl:=len _ _ _ _ hsp
 have KX:K.In s.heap:=e0.mod.kin.keeps fun b o e=>(e0.bs b o e).1
 have lim:s.heap.NoLimit:=e0.mod.nolimit.keeps fun b o e=>(e0.bs b o e).1
 have hkind:∀y∈ps.zip us,scope.names.lookup y.1=some .local ∨ (scope.names.lookup y.1=some .cell/\((cellsFrom (s.heap.objs.size+1) scope.names []).lookup y.1).isSome=true):=fun ⟨n,v⟩ hy=>by
  rcases S.par n (List.of_mem_zip hy).1 with q|q
  ·exact .inl q
  ·exact .inr ⟨q,W.cellsFrom_some _ _ _ (.inl q)⟩
 refine codeAny_call_function hr.depth (KX _ _ lk) rfl S.co S.gen rfl (W.codeRec_of KX hcd) (hb _ _ _ _ ?_)
 refine wpAny_newFunctionEnv_cells S.kind hkind fun env he s1 x=>?_
 subst he
 refine ⟨lim.keeps x.toInCall.keep,codeAny_func ?_⟩
 obtain ⟨t,ht,hq⟩:=hbody A outer s H vs Q E hsp
 have I:Inv (cxOf CX P w K mg base N qual scope f cdv A outer s H E) [] (start N vs) H s1:=inv_start S hr.hd e0 hl r x
 refine wpAny_mono (ht [] s1 (start N vs) H _ I hq) (fun fl s' hs=>?_) fun e s' hs=>hs
 have fin:∀{σ':St}{H':Hp}{v:V}{u:Value},Inv (cxOf CX P w K mg base N qual scope f cdv A outer s H E) [] σ' H' s'->RelV v u->Q v H'->CE outer P w H s Q u s' :=
  fun {σ' H' v u} J rv q=>⟨v,H',J.os,J.bare,J.base,J.hok,rv,q⟩
 cases fl with
 | ret u =>
  obtain ⟨v,σ',H',J,rv,q⟩:=hs
  exact fin J rv q
 | next =>
  obtain ⟨σ',H',J,q⟩:=hs
  exact fin (v:=V.non) (u:=Value.none) J rfl q
 | brk =>
  obtain ⟨_,_,_,q⟩:=hs
  exact False.elim q
 | cont =>
  obtain ⟨_,_,_,q⟩:=hs
  exact False.elim q
theorem Fun.ok0 {P:Program}{w:World}{K:W.Frag}{mg:Str->Option Value}{base:Heap}{x qual:Str}{st:Stmt}{f:Addr}{fd:FuncData}{N ps:List Str}{sp:Sp} (F:Fun K x qual st f fd) (S:FnScope N ps (defScope st)) (len:∀vs H Q E,sp vs H Q E->vs.length=ps.length)
  (hbody:∀(cdv:Value) (A:Around) (outer:List Env) (s:Shared) (H:Hp) (vs:List V) (Q:VK) (E:XK),sp vs H Q E ->
   ∃t,PSs (cxOf CX0 P w K mg base N qual (defScope st) f cdv A outer s H E).nox (defBody st) t/\t { nx:=fun _ H'=>Q .non H',rt:=Q } (start N vs) H):FnOk P w K mg base CX0 0 f fd ps sp:=by
 obtain ⟨oc,od,kV,doc,pm,an,cdv,ct,osl,rfl,lk,hcd⟩:=F.ex
 refine fn_of0 lk hcd S len fun A outer s H vs Q E hsp=>?_
 obtain ⟨t,h,q⟩:=hbody cdv A outer s H vs Q E hsp
 exact ⟨t,h.nox,q⟩
section
variable {X:Cx}
end
end L2
namespace G
open PySem PySem.Spec PyProof.Rows L2 Mt
structure Errs (K:W.Frag) (mg:Str->Option Value) (c:Nat->Addr) (B:Addr):Prop where
 e0:mg "NoUrn"=some (.ref (c 0))
 e1:mg "NoRule"=some (.ref (c 1))
 e4:mg "NoDraws"=some (.ref (c 4))
 e5:mg "NoNumber"=some (.ref (c 5))
 e6:mg "NotEven"=some (.ref (c 6))
 xc:∀i,i<10->XC K (c i)
noncomputable def top (i:Nat):Stmt:=PySem.Challenge.pw_growurns_k24_whole_stands.main.body.getD i (.Pass ⟨0,0,0,0⟩)
structure Bt (mg:Str->Option Value):Prop where
 isinstance:mg "isinstance"=none
 bool:mg "bool"=none
 int:mg "int"=none
 tuple:mg "tuple"=none
 list:mg "list"=none
 all:mg "all"=none
 sum:mg "sum"=none
 len:mg "len"=none
 range:mg "range"=none
 max:mg "max"=none
 min:mg "min"=none
 abs:mg "abs"=none
 zip:mg "zip"=none
noncomputable def wholeD (lo hi:Int):PyData->Bool
 | .int i=>decide (lo<=i)&&decide (i<=hi)
 | _=>false
section
variable {P:Program}{w:World}{K:W.Frag}{mg:Str->Option Value}{base:Heap}{f:Addr}{fd:FuncData}
noncomputable def numD:PyData->Bool
 | .int _=>true
 | _=>false
noncomputable def sp_is_number:Sp:=fun vs H Q _=>∃(v:V) (st:Addr) (d:PyData),vs=[v]/\Dt st H d v/\Q (.bl (numD d)) H
noncomputable abbrev s_is_number:Stmt:=top 8
theorem sc_is_number:FnScope ["thing"] ["thing"] (defScope s_is_number):=⟨rfl,rfl,rfl,by decide +kernel,rfl,by decide +kernel,by decide +kernel⟩
theorem ok_is_number (F:Fun K "is_number" "is_number" s_is_number f fd) (B:Bt mg):FnOk P w K mg base CX0 0 f fd ["thing"] sp_is_number:=by
 refine F.ok0 sc_is_number (fun vs H Q E h=>?_) (fun cdv A outer s H vs Q E h=>?_)
 ·obtain ⟨v,st,d,rfl,_⟩:=h
  rfl
 obtain ⟨v,st,d,rfl,hd,q⟩:=h
 refine ⟨_,pss_one (ps_ret (pe_and (pe_callB (call_isi kit_int) rfl B.isinstance boot_isinstance (pa_cons (pv 0) (pa_cons (pe_bty rfl B.int boot_int) pa_nil)))
  (pe_one (pe_not (pe_callB (call_isi kit_bool) rfl B.isinstance boot_isinstance (pa_cons (pv 0) (pa_cons (pe_bty rfl B.bool boot_bool) pa_nil))))))),?_⟩
 refine ⟨_,rfl,v,st,d,rfl,hd,_,rfl,?_⟩
 cases d with
 | bool b=>exact ⟨_,rfl,v,st,_,rfl,hd,_,rfl,q⟩
 | int i=>exact ⟨_,rfl,v,st,_,rfl,hd,_,rfl,q⟩
 | none=>exact q
 | str x=>exact q
 | list ds=>exact q
 | tuple ds=>exact q
 | dict kvs=>exact q
noncomputable def sp_is_whole:Sp:=fun vs H Q _=>∃(v:V) (st:Addr) (d:PyData) (lo hi:Int),vs=[v,.int lo,.int hi]/\Dt st H d v/\Q (.bl (wholeD lo hi d)) H
noncomputable abbrev s_is_whole:Stmt:=top 9
theorem sc_is_whole:FnScope ["thing","low","high"] ["thing","low","high"] (defScope s_is_whole):=⟨rfl,rfl,rfl,by decide +kernel,rfl,by decide +kernel,by decide +kernel⟩
theorem ok_is_whole (F:Fun K "is_whole" "is_whole" s_is_whole f fd) (c1:Cal P w K mg base 0 "is_number" ["thing"] sp_is_number):FnOk P w K mg base CX0 1 f fd ["thing","low","high"] sp_is_whole:=by
 refine F.ok sc_is_whole (fun vs H Q E h=>?_) (fun cdv A outer s H vs Q E hr h=>?_)
 ·obtain ⟨v,st,d,lo,hi,rfl,_⟩:=h
  rfl
 obtain ⟨v,st,d,lo,hi,rfl,hd,q⟩:=h
 refine ⟨_,pss_one (ps_ret (pe_and (pe_cal c1 hr rfl (pa_cons (pv 0) pa_nil)) (pe_one (pe_chain op_le op_le (pv 1) (pv 0) (pv 2))))),?_⟩
 refine ⟨_,rfl,v,st,d,rfl,hd,_,rfl,?_⟩
 cases d with
 | int i =>
  refine iteT ?_
  unfold Dt at hd
  subst hd
  refine ⟨_,rfl,_,rfl,lo,i,rfl,rfl,_,rfl,?_⟩
  have q':Q (.bl (decide (lo<=i)&&decide (i<=hi))) H:=q
  by_cases h1:lo<=i
  ·rw[decide_eq_true h1,Bool.true_and] at q'
   rw[decide_eq_true h1]
   exact iteT ⟨_,rfl,i,hi,rfl,rfl,q'⟩
  ·rw[decide_eq_false h1,Bool.false_and] at q'
   rw[decide_eq_false h1]
   exact iteF q'
 | bool b=>exact q
 | none=>exact q
 | str x=>exact q
 | list ds=>exact q
 | tuple ds=>exact q
 | dict kvs=>exact q
noncomputable def wholesD (lo hi:Int):PyData->Bool
 | .tuple ds=>ds.all (wholeD lo hi)
 | _=>false
noncomputable def sp_are_wholes:Sp:=fun vs H Q _=>∃(v:V) (st:Addr) (d:PyData) (lo hi:Int),vs=[v,.int lo,.int hi]/\Dt st H d v/\(∀ds,d=.tuple ds->ds.length<=1000)/\∀H',Same H H'->Q (.bl (wholesD lo hi d)) H'
noncomputable abbrev s_are_wholes:Stmt:=top 10
theorem sc_are_wholes:FnScope ["thing","low","high"] ["thing","low","high"] (defScope s_are_wholes):=⟨rfl,rfl,rfl,by decide +kernel,rfl,by decide +kernel,by decide +kernel⟩
theorem ok_are_wholes (F:Fun K "are_wholes" "are_wholes" s_are_wholes f fd) (B:Bt mg) (c1:Cal P w K mg base 1 "is_whole" ["thing","low","high"] sp_is_whole):FnOk P w K mg base CX0 2 f fd ["thing","low","high"] sp_are_wholes:=by
 refine F.ok sc_are_wholes (fun vs H Q E h=>?_) (fun cdv A outer s H vs Q E hr h=>?_)
 ·obtain ⟨v,st,d,lo,hi,rfl,_⟩:=h
  rfl
 obtain ⟨v,st,d,lo,hi,rfl,hd,hl,q⟩:=h
 refine ⟨_,pss_one (ps_ret (pe_and (pe_callB (call_isi kit_tup) rfl B.isinstance boot_isinstance (pa_cons (pv 0) (pa_cons (pe_bty rfl B.tuple boot_tuple) pa_nil)))
  (pe_one (pe_callB (call_all_seq rfl) rfl B.all boot_all (pa_cons (pe_compG (N:=["part","low","high"]) (ix:=[none,some 1,some 2]) (ifs:=[]) (tc:=tTrue) rfl (pi_tup (pv 0))
   (fun s H ex=>pg_c (i:=0) (by decide +kernel) rfl (Or.inl rfl) (.inr rfl)) (fun s H ex=>pifs_nil) (fun s H ex=>pe_cal c1 hr rfl (pa_cons (pv 0) (pa_cons (pv 1) (pa_cons (pv 2) pa_nil)))) rfl (by decide +kernel) (by rfl) (by rfl) (fun _=>rfl)) pa_nil))))),?_⟩
 refine ⟨_,rfl,v,st,d,rfl,hd,_,rfl,?_⟩
 cases d with
 | tuple ds =>
  refine iteT ?_
  obtain ⟨a,xs,rfl,ne,ha,hds⟩:∃a xs,v=.ref a/\a≠st/\H a=some (.tup xs)/\Dts st H ds xs:=by unfold Dt at hd;exact hd
  have hlen:=hds.len
  have hl':=hl ds rfl
  refine ⟨_,rfl,a,rfl,⟨xs,.of ha⟩,blk_tup (K:=K) (a:=a) (xs:=xs) (sz (by omega)) (fun i ys H2=>Same H H2/\i<=ds.length/\ys=(ds.take i).map fun d=>V.bl (wholeD lo hi d)) ⟨Same.refl H,Nat.zero_le _,rfl⟩ (fun i ys H2 h=>?_) (fun i ys H2 _ h=>.of (h.1 _ _ ha)) rfl (fun i ys H2 x hx h=>?_) (fun ys H2 h=>?_)⟩
  ·obtain ⟨_,hi,rfl⟩:=h
   rw[List.length_map,List.length_take];omega
  ·obtain ⟨hS,hil,rfl⟩:=h
   obtain ⟨d,hd',dt⟩:=hds.get hx
   refine ⟨_,rfl,_,rfl,_,rfl,x,st,d,lo,hi,rfl,dt.kp (hS.kp st),hS,(List.getElem?_eq_some_iff.mp hd').1,?_⟩
   rw[List.take_add_one,hd',List.map_append];rfl
  ·obtain ⟨hS,hil,rfl⟩:=h
   intro p hp
   refine ⟨p,_,rfl,.inl (.of upd_same),?_,?_⟩
   ·rw[List.all_map];exact List.all_eq_true.mpr fun _ _=>rfl
   ·have e:(((ds.take xs.length).map fun d=>V.bl (wholeD lo hi d)).all truV)=wholesD lo hi (.tuple ds):=by
     rw[<- hlen,List.take_length,List.all_map];rfl
    rw[e]
    exact q _ (hS.trans (Same.new hp))
 | _=>exact q H (Same.refl H)
end
end G
namespace G
open PySem PySem.Spec PyProof.Rows L2 Mt
structure Ct (mg:Str->Option Value):Prop where
 kinds:∃t,mg "MOST_KINDS"=some (.int 4 t)
 balls:∃t,mg "MOST_BALLS"=some (.int 20 t)
 puts:∃t,mg "MOST_PUT_IN"=some (.int 5 t)
theorem _root_.L2.Dt.untup {st:Addr}{H:Hp}{ds:List PyData}{v:V} (h:Dt st H (.tuple ds) v):∃a xs,v=.ref a/\a≠st/\H a=some (.tup xs)/\Dts st H ds xs:=by unfold Dt at h;exact h
theorem _root_.L2.Dt.unint {st:Addr}{H:Hp}{i:Int}{v:V} (h:Dt st H (.int i) v):v=.int i:=by unfold Dt at h;exact h
theorem wholeD_int {lo hi:Int}{d:PyData} (h:wholeD lo hi d=true):∃i,d=.int i/\lo<=i/\i<=hi:=by
 cases d with
 | int i =>
  have h':(decide (lo<=i)&&decide (i<=hi))=true:=h
  rw[Bool.and_eq_true] at h'
  exact ⟨i,rfl,of_decide_eq_true h'.1,of_decide_eq_true h'.2⟩
 | _=>cases (show false=true from h)
theorem all_ints {lo hi:Int}:∀{ds:List PyData},ds.all (wholeD lo hi)=true->∃ns:List Int,ds=ns.map .int/\∀x∈ns,lo<=x/\x<=hi
 | [],_=>⟨[],rfl,by simp⟩
 | d::ds,h=>by
  rw[List.all_cons,Bool.and_eq_true] at h
  obtain ⟨i,e,h1,h2⟩:=wholeD_int h.1
  obtain ⟨ns,e2,h3⟩:=all_ints h.2
  subst e e2
  exact ⟨i::ns,rfl,fun x hx=>by
   rcases List.mem_cons.mp hx with z|z
   ·subst z;exact ⟨h1,h2⟩
   ·exact h3 x z⟩
theorem wholesD_ints {lo hi:Int}{d:PyData} (h:wholesD lo hi d=true):∃ns:List Int,d=DI ns/\∀x∈ns,lo<=x/\x<=hi:=by
 cases d with
 | tuple ds =>
  obtain ⟨ns,e,h2⟩:=all_ints (ds:=ds) h
  subst e
  exact ⟨ns,rfl,h2⟩
 | _=>cases (show false=true from h)
noncomputable def intD:PyData->Int
 | .int i=>i
 | _=>0
noncomputable def lenD:PyData->Nat
 | .tuple ds=>ds.length
 | _=>0
noncomputable def sumD:PyData->Int
 | .tuple ds=>(ds.map intD).sum
 | _=>0
theorem sumD_DI (ns:List Int):sumD (DI ns)=ns.sum:=by
 show ((ns.map PyData.int).map intD).sum=ns.sum
 rw[List.map_map]
 have e:(intD ∘ PyData.int)=id:=by funext i;rfl
 rw[e,List.map_id]
theorem lenD_DI (ns:List Int):lenD (DI ns)=ns.length:=by show (ns.map PyData.int).length=_;rw[List.length_map]
noncomputable def urnD (m:Int) (d:PyData):Bool:=wholesD 0 m d&&((decide ((1:Int)<=lenD d)&&decide ((lenD d:Int)<=4))&&decide ((0:Int)<sumD d))
noncomputable def ruleD (k:Int) (d:PyData):Bool:=match d with
 | .tuple ds=>decide ((ds.length:Int)=k)&&ds.all (fun r=>wholesD 0 5 r&&decide ((lenD r:Int)=k))
 | _=>false
noncomputable def short (d:PyData):Prop:=∀ds,d=.tuple ds->ds.length<=1000
section
variable {P:Program}{w:World}{K:W.Frag}{mg:Str->Option Value}{base:Heap}{f:Addr}{fd:FuncData}
noncomputable def sp_is_urn_up_to:Sp:=fun vs H Q _=>∃(v:V) (st:Addr) (d:PyData) (m:Int),vs=[v,.int m]/\Dt st H d v/\short d/\∀H',Same H H'->Q (.bl (urnD m d)) H'
noncomputable abbrev s_is_urn_up_to:Stmt:=top 22
theorem sc_is_urn_up_to:FnScope ["thing","most"] ["thing","most"] (defScope s_is_urn_up_to):=⟨rfl,rfl,rfl,by decide +kernel,rfl,by decide +kernel,by decide +kernel⟩
theorem ok_is_urn_up_to (F:Fun K "is_urn_up_to" "is_urn_up_to" s_is_urn_up_to f fd) (B:Bt mg) (C:Ct mg) (c1:Cal P w K mg base 2 "are_wholes" ["thing","low","high"] sp_are_wholes):FnOk P w K mg base CX0 3 f fd ["thing","most"] sp_is_urn_up_to:=by
 refine F.ok sc_is_urn_up_to (fun vs H Q E h=>?_) (fun cdv A outer s H vs Q E hr h=>?_)
 ·obtain ⟨v,st,d,m,rfl,_⟩:=h
  rfl
 obtain ⟨v,st,d,m,rfl,hd,hl,q⟩:=h
 obtain ⟨tk,hk⟩:=C.kinds
 refine ⟨_,pss_cons (ps_if (pt_not (pt_val (pe_cal c1 hr rfl (pa_cons (pv 0) (pa_cons pe_int (pa_cons (pv 1) pa_nil)))))) (pss_one (ps_ret pe_bl)) pss_nil)
  (pss_one (ps_ret (pe_and (pe_chain op_le op_le pe_int (pe_callB call_len_seq rfl B.len PySem.boot_len (pa_cons (pv 0) pa_nil)) (pe_glob (v:=.int 4) rfl hk ⟨tk,rfl⟩))
   (pe_one (pe_cmpR op_gt (pe_callB (call_sum_seq rfl) rfl B.sum boot_sum (pa_cons (pv 0) pa_nil)) pe_int (nomark _)))))),?_⟩
 refine ⟨_,rfl,_,rfl,v,st,d,0,m,rfl,hd,hl,fun H1 g1=>⟨_,rfl,?_⟩⟩
 have q1:=q H1 g1
 unfold urnD at q1
 cases hw:wholesD 0 m d with
 | false =>
  rw[hw,Bool.false_and] at q1
  exact iteT q1
 | true =>
  rw[hw,Bool.true_and] at q1
  refine iteF ?_
  obtain ⟨ns,e,hns⟩:=wholesD_ints hw
  subst e
  obtain ⟨a,e,ne,ha⟩:=hd.di
  subst e
  rw[lenD_DI,sumD_DI] at q1
  have ha1:=g1 _ _ ha
  refine ⟨_,rfl,a,_,rfl,.inr (.of ha1),_,_,rfl,rfl,_,rfl,?_⟩
  rw[List.length_map]
  by_cases h1:(1:Int)<=(ns.length:Int)
  ·rw[decide_eq_true h1,Bool.true_and] at q1
   rw[decide_eq_true h1]
   refine iteT ⟨_,_,rfl,rfl,_,rfl,?_⟩
   by_cases h2:(ns.length:Int)<=4
   ·rw[decide_eq_true h2,Bool.true_and] at q1
    rw[decide_eq_true h2]
    exact iteT ⟨_,rfl,a,ns,rfl,.inr (.of ha1),_,_,rfl,rfl,q1⟩
   ·rw[decide_eq_false h2,Bool.false_and] at q1
    rw[decide_eq_false h2]
    exact iteF q1
  ·rw[decide_eq_false h1,Bool.false_and,Bool.false_and] at q1
   rw[decide_eq_false h1]
   exact iteF ⟨_,rfl,iteF q1⟩
noncomputable def sp_is_urn:Sp:=fun vs H Q _=>∃(v:V) (st:Addr) (d:PyData),vs=[v]/\Dt st H d v/\short d/\∀H',Same H H'->Q (.bl (urnD 20 d)) H'
noncomputable abbrev s_is_urn:Stmt:=top 21
theorem sc_is_urn:FnScope ["thing"] ["thing"] (defScope s_is_urn):=⟨rfl,rfl,rfl,by decide +kernel,rfl,by decide +kernel,by decide +kernel⟩
theorem ok_is_urn (F:Fun K "is_urn" "is_urn" s_is_urn f fd) (C:Ct mg) (c1:Cal P w K mg base 3 "is_urn_up_to" ["thing","most"] sp_is_urn_up_to):FnOk P w K mg base CX0 4 f fd ["thing"] sp_is_urn:=by
 refine F.ok sc_is_urn (fun vs H Q E h=>?_) (fun cdv A outer s H vs Q E hr h=>?_)
 ·obtain ⟨v,st,d,rfl,_⟩:=h
  rfl
 obtain ⟨v,st,d,rfl,hd,hl,q⟩:=h
 obtain ⟨tk,hk⟩:=C.balls
 refine ⟨_,pss_one (ps_ret (pe_cal c1 hr rfl (pa_cons (pv 0) (pa_cons (pe_glob (v:=.int 20) rfl hk ⟨tk,rfl⟩) pa_nil)))),?_⟩
 exact ⟨_,rfl,v,st,d,20,rfl,hd,hl,q⟩
noncomputable def sp_need_number (c:Nat->Addr):Sp:=fun vs H Q E=>∃(v:V) (st:Addr) (d:PyData) (lo hi:Int),vs=[v,.int lo,.int hi]/\Dt st H d v/\Sm lo/\Sm hi/\(wholeD lo hi d=true->Q .non H)/\(wholeD lo hi d=false->E (.ref (c 5)) none H)
noncomputable abbrev s_need_number:Stmt:=top 11
theorem sc_need_number:FnScope ["thing","low","high"] ["thing","low","high"] (defScope s_need_number):=⟨rfl,rfl,rfl,by decide +kernel,rfl,by decide +kernel,by decide +kernel⟩
theorem ok_need_number {c:Nat->Addr}{B:Addr} (F:Fun K "need_number" "need_number" s_need_number f fd) (R:Errs K mg c B) (c1:Cal P w K mg base 1 "is_whole" ["thing","low","high"] sp_is_whole):FnOk P w K mg base (CX1 P w) 2 f fd ["thing","low","high"] (sp_need_number c):=by
 refine F.okX sc_need_number (fun vs H Q E h=>?_) (fun cdv A outer s H vs Q E hr h=>?_)
 ·obtain ⟨v,st,d,lo,hi,rfl,_⟩:=h
  rfl
 obtain ⟨v,st,d,lo,hi,rfl,hd,slo,shi,q1,q2⟩:=h
 refine ⟨_,pss_one (ps_if (pt_not (pt_val (pe_cal c1 hr rfl (pa_cons (pv 0) (pa_cons (pv 1) (pa_cons (pv 2) pa_nil)))))) (pss_one (ps_raise1 R.e5 (R.xc 5 (by decide)) (pe_fstr (pj_str (pj_fmt (pv 1) (pj_str (pj_fmt (pv 2) pj_nil))))) (fun σ H Q Q' m q=>?_))) pss_nil),?_⟩
 ·obtain ⟨v1,z1,i1,z2,z3,z4,v2,z5,i2,z6,z7,z8,z9⟩:=q
  exact ⟨v1,z1,i1,z2,z3,z4,v2,z5,i2,z6,z7,z8,fun z=>m _ _ (z9 z)⟩
 refine ⟨_,rfl,_,rfl,_,rfl,v,st,d,lo,hi,rfl,hd,_,rfl,?_⟩
 cases hw:wholeD lo hi d with
 | true=>exact iteF (q1 hw)
 | false=>exact iteT ⟨_,rfl,lo,rfl,slo.1,slo.2,_,rfl,hi,rfl,shi.1,shi.2,fun z=>q2 hw⟩
noncomputable def sp_is_rule (c:Nat->Addr):Sp:=fun vs H Q E=>∃(u v:V) (st:Addr) (dk d:PyData),vs=[u,v]/\Dt st H dk u/\(wholeD 1 4 dk=false->E (.ref (c 5)) none H) /\
 (∀k,dk=.int k->1<=k->k<=4->Dt st H d v/\short d/\(∀ds,d=.tuple ds->∀r∈ds,short r)/\∀H',Same H H'->Q (.bl (ruleD k d)) H')
noncomputable abbrev s_is_rule:Stmt:=top 23
theorem sc_is_rule:FnScope ["kinds","thing"] ["kinds","thing"] (defScope s_is_rule):=⟨rfl,rfl,rfl,by decide +kernel,rfl,by decide +kernel,by decide +kernel⟩
theorem sm1:Sm 1:=by unfold Sm;decide +kernel
theorem sm4:Sm 4:=by unfold Sm;decide +kernel
theorem ok_is_rule {c:Nat->Addr} (F:Fun K "is_rule" "is_rule" s_is_rule f fd) (B:Bt mg) (C:Ct mg) (c1:Cal P w K mg base 2 "are_wholes" ["thing","low","high"] sp_are_wholes) (c2:CalX P w K mg base 2 "need_number" ["thing","low","high"] (sp_need_number c)):FnOk P w K mg base (CX1 P w) 3 f fd ["kinds","thing"] (sp_is_rule c):=by
 refine F.okX sc_is_rule (fun vs H Q E h=>?_) (fun cdv A outer s H vs Q E hr h=>?_)
 ·obtain ⟨u,v,st,dk,d,rfl,_⟩:=h
  rfl
 obtain ⟨u,v,st,dk,d,rfl,hu,qE,qQ⟩:=h
 obtain ⟨tk,hk⟩:=C.kinds
 obtain ⟨tp,hp⟩:=C.puts
 refine ⟨_,pss_cons (ps_expr (pe_calx c2 hr rfl passes1 (pa_cons (pv 0) (pa_cons pe_int (pa_cons (pe_glob (v:=.int 4) rfl hk ⟨tk,rfl⟩) pa_nil)))))
  (PSs.nox (pss_cons (ps_if (PW.pt (pw_or (pt_not (pt_val (pe_callB (call_isi kit_tup) rfl B.isinstance boot_isinstance (pa_cons (pv 1) (pa_cons (pe_bty rfl B.tuple boot_tuple) pa_nil)))))
   (pw_or1 (pt_cmpR op_ne (pe_callB call_len_seq rfl B.len PySem.boot_len (pa_cons (pv 1) pa_nil)) (pv 0) (nomark _))))) (pss_one (ps_ret pe_bl)) pss_nil)
  (pss_one (ps_ret (pe_callB (call_all_seq rfl) rfl B.all boot_all (pa_cons (pe_compG (N:=["row","kinds"]) (ix:=[none,some 0]) (ifs:=[]) (tc:=tTrue) rfl (pi_tup (pv 1))
   (fun s H ex=>pg_c (i:=0) (by decide +kernel) rfl (Or.inl rfl) (.inr rfl)) (fun s H ex=>pifs_nil)
   (fun s H ex=>pe_and (pe_cal c1 hr rfl (pa_cons (pv 0) (pa_cons pe_int (pa_cons (pe_glob (v:=.int 5) rfl hp ⟨tp,rfl⟩) pa_nil)))) (pe_one (pe_cmpR op_eq (pe_callB (lenK (K:=K) rfl) rfl B.len PySem.boot_len (pa_cons (pv 0) pa_nil)) (pv 1) (nomark _)))) rfl (by decide +kernel) (by rfl) (by rfl) (fun _=>rfl)) pa_nil)))))),?_⟩
 refine ⟨_,rfl,u,st,dk,1,4,rfl,hu,sm1,sm4,fun hw=>?_,qE⟩
 obtain ⟨k,e,k1,k4⟩:=wholeD_int hw
 subst e
 obtain rfl:=hu.unint
 obtain ⟨hd,hl,hl2,q⟩:=qQ k rfl k1 k4
 refine ⟨_,rfl,v,st,d,rfl,hd,_,rfl,?_⟩
 cases d with
 | tuple ds =>
  obtain ⟨a,xs,e,ne,ha,hds⟩:=hd.untup
  subst e
  have hlen:=hds.len
  have hl':=hl ds rfl
  refine iteF ⟨_,rfl,a,xs,rfl,.inr (.of ha),_,rfl,rfl,_,rfl,?_⟩
  have q0:=fun H' g=>q H' g
  unfold ruleD at q0
  by_cases hk':(ds.length:Int)=k
  ·have e1:V.int (xs.length:Int)=V.int k:=by rw[<- hlen,hk']
   rw[decide_eq_true e1]
   refine iteF ?_
   have q1:∀H',Same H H'->Q (.bl (ds.all (fun r=>wholesD 0 5 r&&decide ((lenD r:Int)=k)))) H':=fun H' g=>by
    have:=q0 H' g
    simp only[decide_eq_true hk',Bool.true_and] at this
    exact this
   refine ⟨_,rfl,a,rfl,⟨xs,.of ha⟩,blk_tup (K:=K) (a:=a) (xs:=xs) (sz (by omega)) (fun i ys H2=>Same H H2/\i<=ds.length/\ys=(ds.take i).map fun r=>V.bl (wholesD 0 5 r&&decide ((lenD r:Int)=k))) ⟨Same.refl H,Nat.zero_le _,rfl⟩ (fun i ys H2 h=>?_) (fun i ys H2 _ h=>.of (h.1 _ _ ha)) rfl (fun i ys H2 x hx h=>?_) (fun ys H2 h=>?_)⟩
   ·obtain ⟨_,hil,rfl⟩:=h
    rw[List.length_map,List.length_take];omega
   ·obtain ⟨hS,hil,rfl⟩:=h
    obtain ⟨d,hd',dt⟩:=hds.get hx
    have dt2:=dt.kp (hS.kp st)
    refine ⟨_,rfl,x,st,d,0,5,rfl,dt2,hl2 ds rfl d (List.mem_of_getElem? hd'),fun H3 g3=>⟨_,rfl,?_⟩⟩
    have fin:∀b:Bool,b=(wholesD 0 5 d&&decide ((lenD d:Int)=k))->Same H H3/\i+1<=ds.length/\((ds.take i).map fun r=>V.bl (wholesD 0 5 r&&decide ((lenD r:Int)=k)))++[V.bl b]=(ds.take (i+1)).map fun r=>V.bl (wholesD 0 5 r&&decide ((lenD r:Int)=k)):=fun b e=>by
     subst e
     refine ⟨hS.trans g3,(List.getElem?_eq_some_iff.mp hd').1,?_⟩
     rw[List.take_add_one,hd',List.map_append];rfl
    cases hw:wholesD 0 5 d with
    | false=>exact iteF (fin false (by rw[hw];rfl))
    | true =>
     obtain ⟨ns,e,_⟩:=wholesD_ints hw
     subst e
     obtain ⟨b,e,_,hb⟩:=dt2.di
     subst e
     refine iteT ⟨_,rfl,b,_,rfl,.inr (.of (g3 _ _ hb)),_,rfl,rfl,?_⟩
     refine fin _ ?_
     rw[hw,Bool.true_and,lenD_DI,List.length_map]
     rw[decide_eq_decide]
     constructor
     ·intro e;injection e
     ·intro e;rw[e]
   ·obtain ⟨hS,hil,rfl⟩:=h
    intro p hp
    refine ⟨p,_,rfl,.inl (.of upd_same),?_,?_⟩
    ·rw[List.all_map];exact List.all_eq_true.mpr fun _ _=>rfl
    ·have e:(((ds.take xs.length).map fun r=>V.bl (wholesD 0 5 r&&decide ((lenD r:Int)=k))).all truV)=ds.all (fun r=>wholesD 0 5 r&&decide ((lenD r:Int)=k)):=by
      rw[<- hlen,List.take_length,List.all_map];rfl
     rw[e]
     exact q1 _ (hS.trans (Same.new hp))
  ·have e1:¬ V.int (xs.length:Int)=V.int k:=fun e=>hk' (by rw[hlen];injection e)
   rw[decide_eq_false e1]
   refine iteT ?_
   have:=q0 H (Same.refl H)
   simp only[decide_eq_false hk',Bool.false_and] at this
   exact this
 | _=>exact iteT (iteT (q H (Same.refl H)))
end
end G
namespace G
open PySem PySem.Spec PyProof.Rows L2 Mt
theorem atI_int {ns:List Int}{k:Nat} (h:k<ns.length):atI (ns.map V.int) (k:Int)=some (.int (ns.getD k 0)):=by
 refine atI_nat ?_
 rw[List.getElem?_map,List.getElem?_eq_getElem h,List.getD_eq_getElem?_getD,List.getElem?_eq_getElem h];rfl
noncomputable def StOk (x:Int) (b:Bool):Prop:=b=false->0<=x/\x<2147483647
section
variable {P:Program}{w:World}{K:W.Frag}{mg:Str->Option Value}{base:Heap}{f:Addr}{fd:FuncData}
noncomputable def sp_cell_at (K:W.Frag):Sp:=fun vs H Q _=>∃(a:Addr) (ns:List Int) (k:Nat),vs=[.ref a,.int k]/\SqL K H a (ns.map V.int)/\∀x,Q (.int x) H
noncomputable abbrev s_cell_at:Stmt:=top 48
theorem sc_cell_at:FnScope ["_law_script","_law_k"] ["_law_script","_law_k"] (defScope s_cell_at):=⟨rfl,rfl,rfl,by decide +kernel,rfl,by decide +kernel,by decide +kernel⟩
theorem ok_cell_at (F:Fun K "_law_cell_at" "_law_cell_at" s_cell_at f fd) (B:Bt mg):FnOk P w K mg base CX0 1 f fd ["_law_script","_law_k"] (sp_cell_at K):=by
 refine F.ok sc_cell_at (fun vs H Q E h=>?_) (fun cdv A outer s H vs Q E hr h=>?_)
 ·obtain ⟨a,ns,k,rfl,_⟩:=h
  rfl
 obtain ⟨a,ns,k,rfl,ha,q⟩:=h
 refine ⟨_,pss_cons (ps_if (pt_cmpR op_lt (pv 1) (pe_callB call_len_seq rfl B.len PySem.boot_len (pa_cons (pv 0) pa_nil)) (nomark _)) (pss_one (ps_ret (pe_ix ix_list (pv 0) (pv 1) (fun _ _=>rfl)))) pss_nil)
  (pss_one (ps_ret pe_int)),?_⟩
 refine ⟨_,rfl,_,rfl,a,_,rfl,.inl ha,_,_,rfl,rfl,_,rfl,?_⟩
 refine ite2 (fun c=>?_) (fun c=>q 0)
 have c':(k:Int)<(((ns.map V.int).length:Nat):Int):=of_decide_eq_true c
 rw[List.length_map] at c'
 exact ⟨_,rfl,_,rfl,a,_,_,_,rfl,rfl,ha,atI_int (by omega),q _⟩
noncomputable def sp_state (K:W.Frag):Sp:=fun vs H Q _=>∃(a:Addr) (ns:List Int) (k:Nat),vs=[.ref a,.int k]/\SqL K H a (ns.map V.int)/\∀l x b,H l=none->StOk x b->Q (.ref l) (upd H l (.lst [.int x,.bl b]))
noncomputable abbrev s_state:Stmt:=top 49
theorem sc_state:FnScope ["_law_script","_law_k","_law_cell"] ["_law_script","_law_k"] (defScope s_state):=⟨rfl,rfl,rfl,by decide +kernel,rfl,by decide +kernel,by decide +kernel⟩
theorem ok_state (F:Fun K "_law_state" "_law_state" s_state f fd) (c1:Cal P w K mg base 1 "_law_cell_at" ["_law_script","_law_k"] (sp_cell_at K)):FnOk P w K mg base CX0 2 f fd ["_law_script","_law_k"] (sp_state K):=by
 refine F.ok sc_state (fun vs H Q E h=>?_) (fun cdv A outer s H vs Q E hr h=>?_)
 ·obtain ⟨a,ns,k,rfl,_⟩:=h
  rfl
 obtain ⟨a,ns,k,rfl,ha,q⟩:=h
 refine ⟨_,pss_cons (ps_set (i:=2) sc_state.nd rfl (Or.inl rfl) (pe_cal c1 hr rfl (pa_cons (pv 0) (pa_cons (pv 1) pa_nil))))
  (pss_cons (ps_if (pt_cmpR op_ge (pv 2) (pe_op op_pow pe_int pe_int) (nomark _)) (pss_one (ps_ret (pe_lst (pa_cons (pe_op op_sub (pv 2) (pe_op op_pow pe_int pe_int)) (pa_cons pe_bl pa_nil))))) pss_nil)
  (pss_one (ps_ret (pe_lst (pa_cons (pe_op op_mod (pv 2) pe_int) (pa_cons pe_bl pa_nil)))))),?_⟩
 have hp:CPow 10 18:=⟨by decide,by decide,by decide⟩
 refine ⟨_,rfl,_,rfl,a,ns,k,rfl,ha,fun x=>?_⟩
 refine ⟨_,rfl,_,_,rfl,rfl,hp,_,_,rfl,rfl,_,rfl,?_⟩
 refine ite2 (fun c=>?_) (fun c=>?_)
 ·exact ⟨_,rfl,_,_,rfl,rfl,hp,_,_,rfl,rfl,(by show 2<=sizeLine;decide),fun l hl=>q l _ _ hl (fun z=>by cases z)⟩
 ·exact ⟨_,rfl,_,_,rfl,rfl,(by show (0:Int)<2147483647;decide),(by show 2<=sizeLine;decide),fun l hl=>q l _ _ hl (fun _=>⟨Int.emod_nonneg _ (by decide),Int.emod_lt_of_pos _ (by decide)⟩)⟩
noncomputable def sp_take:Sp:=fun vs H Q _=>∃(l:Addr) (m x:Int) (b:Bool),vs=[.ref l,.int m]/\H l=some (.lst [.int x,.bl b])/\StOk x b/\1<=m/\m<=1000 /\
 ∀(y:Nat) (x':Int),(y:Int)<m->StOk x' b->Q (.int y) (upd H l (.lst [.int x',.bl b]))
noncomputable abbrev s_take:Stmt:=top 50
theorem sc_take:FnScope ["_law_state_here","_law_many","_law_found","_law_mixed"] ["_law_state_here","_law_many"] (defScope s_take):=⟨rfl,rfl,rfl,by decide +kernel,rfl,by decide +kernel,by decide +kernel⟩
theorem ok_take (F:Fun K "_law_take" "_law_take" s_take f fd):FnOk P w K mg base CX0 1 f fd ["_law_state_here","_law_many"] sp_take:=by
 refine F.ok sc_take (fun vs H Q E h=>?_) (fun cdv A outer s H vs Q E hr h=>?_)
 ·obtain ⟨l,m,x,b,rfl,_⟩:=h
  rfl
 obtain ⟨l,m,x,b,rfl,hl,hst,m1,m2,q⟩:=h
 refine ⟨_,pss_cons (ps_if (pt_val (pe_ix ix_list (pv 0) pe_int (fun _ _=>rfl)))
   (pss_cons (ps_set (i:=2) sc_take.nd rfl (Or.inl rfl) (pe_op op_mod (pe_ix ix_list (pv 0) pe_int (fun _ _=>rfl)) (pv 1)))
   (pss_cons (ps_asg (pe_op op_fdiv (pe_ix ix_list (pv 0) pe_int (fun _ _=>rfl)) (pv 1)) (pg_sub (pv 0) pe_int set_list))
   (pss_one (ps_ret (pv 2))))) pss_nil)
  (pss_cons (ps_asg (pe_op op_mod (pe_op op_add (pe_op op_mul (pe_ix ix_list (pv 0) pe_int (fun _ _=>rfl)) pe_int) pe_int) pe_int) (pg_sub (pv 0) pe_int set_list))
  (pss_cons (ps_set (i:=3) sc_take.nd rfl (Or.inl rfl) (pe_op op_mod (pe_op op_add (pe_op op_add (pe_op op_mul (pe_ix ix_list (pv 0) pe_int (fun _ _=>rfl)) (pe_ix ix_list (pv 0) pe_int (fun _ _=>rfl))) (pe_op op_mul pe_int (pe_ix ix_list (pv 0) pe_int (fun _ _=>rfl)))) pe_int) pe_int))
  (pss_cons (ps_set (i:=3) sc_take.nd rfl (Or.inl rfl) (pe_op op_mod (pe_op op_add (pe_op op_mul (pv 3) (pv 3)) (pe_op op_mul pe_int (pv 3))) pe_int))
  (pss_one (ps_ret (pe_op op_mod (pe_op op_fdiv (pv 3) pe_int) (pv 1))))))),?_⟩
 have fin:∀(z x':Int),StOk x' b->Q (.int (z % m)) (upd H l (.lst [.int x',.bl b])):=fun z x' h=>by
  have h1:=Int.emod_nonneg z (show m≠0 by omega)
  have h2:=Int.emod_lt_of_pos z (show 0<m by omega)
  have e:z % m=(((z % m).toNat:Nat):Int):=by omega
  rw[e]
  exact q _ x' (by omega) h
 refine ⟨_,rfl,l,_,_,_,rfl,rfl,.of hl,atI_nat (j:=1) rfl,_,rfl,?_⟩
 cases b with
 | true =>
  refine iteT ⟨_,rfl,l,_,_,_,rfl,rfl,.of hl,atI_nat (j:=0) rfl,_,rfl,_,_,rfl,rfl,(by omega),?_⟩
  refine ⟨_,rfl,l,_,_,_,rfl,rfl,.of hl,atI_nat (j:=0) rfl,_,rfl,_,_,rfl,rfl,⟨by omega,by omega⟩,_,rfl,l,_,_,0,rfl,rfl,hl,rfl,?_⟩
  exact ⟨_,rfl,fin _ _ (fun z=>by cases z)⟩
 | false =>
  obtain ⟨x0,x1⟩:=hst rfl
  refine iteF ⟨_,rfl,l,_,_,_,rfl,rfl,.of hl,atI_nat (j:=0) rfl,_,_,rfl,rfl,.inl ⟨by omega,by omega⟩,_,_,rfl,rfl,_,_,rfl,rfl,(by show (0:Int)<2147483647;decide),_,rfl,l,_,_,0,rfl,rfl,hl,rfl,?_⟩
  have y0:=Int.emod_nonneg (x*48271+29) (show (2147483647:Int)≠0 by decide)
  have y1:=Int.emod_lt_of_pos (x*48271+29) (show (0:Int)<2147483647 by decide)
  show tSeq _ _ _ _ (upd H l (.lst [.int ((x*48271+29) % 2147483647),.bl false]))
  generalize (x*48271+29) % 2147483647=y at y0 y1
  have hl2:upd H l (.lst [.int y,.bl false]) l=some (.lst [.int y,.bl false]):=upd_same
  refine ⟨_,rfl,l,_,_,_,rfl,rfl,.of hl2,atI_nat (j:=0) rfl,_,rfl,l,_,_,_,rfl,rfl,.of hl2,atI_nat (j:=0) rfl,_,_,rfl,rfl,.inl ⟨by omega,by omega⟩,_,rfl,l,_,_,_,rfl,rfl,.of hl2,atI_nat (j:=0) rfl,_,_,rfl,rfl,.inr ⟨by omega,by omega⟩,_,_,rfl,rfl,_,_,rfl,rfl,_,_,rfl,rfl,(by show (0:Int)<2147483629;decide),?_⟩
  have z0:=Int.emod_nonneg (y*y+39373*y+7) (show (2147483629:Int)≠0 by decide)
  have z1:=Int.emod_lt_of_pos (y*y+39373*y+7) (show (0:Int)<2147483629 by decide)
  generalize (y*y+39373*y+7) % 2147483629=z at z0 z1
  refine ⟨_,rfl,_,rfl,_,_,rfl,rfl,.inl ⟨by omega,by omega⟩,_,rfl,_,_,rfl,rfl,.inr ⟨by omega,by omega⟩,_,_,rfl,rfl,_,_,rfl,rfl,(by show (0:Int)<2147483587;decide),?_⟩
  exact ⟨_,rfl,_,_,rfl,rfl,⟨by decide,by decide⟩,_,rfl,_,_,rfl,rfl,(by omega),fin _ _ (fun _=>⟨y0,y1⟩)⟩
end
end G
namespace G
open PySem PySem.Spec PyProof.Rows L2 Mt
structure Bt2 (mg:Str->Option Value):Prop where
 any:mg "any"=none
theorem boot_any:bootBuiltins "any"=some (.builtin "any"):=by decide +kernel
theorem any_pos:∀{ns:List Int},(∀x∈ns,0<=x)->(ns.map V.int).any truV=decide (0<ns.sum)
 | [],_=>rfl
 | a::ns,h=>by
  have h1:=h a List.mem_cons_self
  have h2:=Mt.sum_nonneg (l:=ns) fun x hx=>h x (List.mem_cons_of_mem _ hx)
  rw[List.map_cons,List.any_cons,any_pos fun x hx=>h x (List.mem_cons_of_mem _ hx),List.sum_cons]
  show ((a != 0) || _)=_
  by_cases ha:a=0
  ·subst ha
   rw[Int.zero_add];rfl
  ·rw[bne_iff_ne.mpr ha,Bool.true_or,decide_eq_true (by omega)]
section
variable {P:Program}{w:World}{K:W.Frag}{mg:Str->Option Value}{base:Heap}{f:Addr}{fd:FuncData}
end
end G
namespace G
open PySem PySem.Spec PyProof.Rows L2 Mt
theorem ixN_nat {n k:Nat} (h:k<n):ixN n (k:Int)=some k:=by
 unfold ixN
 rw[if_pos (by omega),if_pos (by omega)];simp
theorem set_pos':∀{l:List Int}{y:Nat}{v:Int},(∀x∈l,0<=x)->0<v->y<l.length->0<(l.set y v).sum
 | [],y,_,_,_,h=>by simp at h
 | a::l,0,v,h,hv,_=>by
  rw[List.set_cons_zero,List.sum_cons]
  have:=Mt.sum_nonneg (l:=l) fun x hx=>h x (List.mem_cons_of_mem _ hx)
  omega
 | a::l,y+1,v,h,hv,hy=>by
  rw[List.set_cons_succ,List.sum_cons]
  have h1:=set_pos' (l:=l) (y:=y) (fun x hx=>h x (List.mem_cons_of_mem _ hx)) hv (by simpa using hy)
  have h2:=h a List.mem_cons_self
  omega
noncomputable abbrev DR (rs:List (List Int)):PyData:=.tuple (rs.map DI)
theorem short_DI {ns:List Int} (h:ns.length<=1000):short (DI ns):=fun ds e=>by
 injection e with e
 rw[<- e,List.length_map];exact h
theorem short_DR {rs:List (List Int)} (h:rs.length<=1000):short (DR rs):=fun ds e=>by
 injection e with e
 rw[<- e,List.length_map];exact h
theorem shorts_DR {n:Nat}{rs:List (List Int)} (h:Rul n 5 rs) (hn:n<=1000):∀ds,DR rs=.tuple ds->∀r∈ds,short r:=fun ds e r hr=>by
 injection e with e
 rw[<- e] at hr
 obtain ⟨row,hrow,e2⟩:=List.mem_map.mp hr
 rw[<- e2]
 exact short_DI (by rw[(h.row row hrow).len];exact hn)
theorem dr_row {st:Addr}{H:Hp}{rs:List (List Int)}{v:V}{k:Nat} (h:Dt st H (DR rs) v) (hk:k<rs.length):
  ∃r xs b,v=.ref r/\H r=some (.tup xs)/\xs[k]?=some (.ref b)/\H b=some (.tup ((rs.getD k []).map V.int)):=by
 obtain ⟨r,xs,e,_,hr,hds⟩:=h.untup
 have hl:=hds.len
 rw[List.length_map] at hl
 have hkx:k<xs.length:=by omega
 obtain ⟨d,hd,dt⟩:=hds.get (i:=k) (x:=xs[k]) (List.getElem?_eq_getElem hkx)
 rw[List.getElem?_map,List.getElem?_eq_getElem hk] at hd
 have e2:rs.getD k []=rs[k]:=by rw[List.getD_eq_getElem?_getD,List.getElem?_eq_getElem hk];rfl
 have e3:d=DI rs[k]:=(Option.some.inj hd).symm
 subst e3
 obtain ⟨b,eb,_,hb⟩:=dt.di
 exact ⟨r,xs,b,e,hr,by rw[List.getElem?_eq_getElem hkx,eb],by rw[e2];exact hb⟩
theorem urnD_of {n:Nat}{ns:List Int} (h:Urn n 20 ns) (h1:1<=n) (h4:n<=4):urnD 20 (DI ns)=true:=by
 unfold urnD
 rw[lenD_DI,sumD_DI,h.len,decide_eq_true (show (1:Int)<=(n:Int) by omega),decide_eq_true (show (n:Int)<=4 by omega),decide_eq_true h.pos]
 have:wholesD 0 20 (DI ns)=true:=by
  show (ns.map PyData.int).all (wholeD 0 20)=true
  rw[List.all_map]
  refine List.all_eq_true.mpr fun x hx=>?_
  have:=h.nn x hx
  show (decide ((0:Int)<=x)&&decide (x<=20))=true
  rw[decide_eq_true this.1,decide_eq_true (show x<=20 by omega)];rfl
 rw[this];rfl
theorem ruleD_of {n:Nat}{rs:List (List Int)} (h:Rul n 5 rs):ruleD n (DR rs)=true:=by
 show (decide (((rs.map DI).length:Int)=n)&&(rs.map DI).all (fun r=>wholesD 0 5 r&&decide ((lenD r:Int)=n)))=true
 rw[List.length_map,h.len,decide_eq_true rfl,Bool.true_and,List.all_map]
 refine List.all_eq_true.mpr fun r hr=>?_
 have hw:=h.row r hr
 show (wholesD 0 5 (DI r)&&decide ((lenD (DI r):Int)=n))=true
 rw[lenD_DI,hw.len,decide_eq_true rfl,Bool.and_true]
 show (r.map PyData.int).all (wholeD 0 5)=true
 rw[List.all_map]
 refine List.all_eq_true.mpr fun x hx=>?_
 have:=hw.nn x hx
 show (decide ((0:Int)<=x)&&decide (x<=5))=true
 rw[decide_eq_true this.1,decide_eq_true (show x<=5 by omega)];rfl
theorem Dts_rep {st:Addr}{H:Hp}{d:PyData}{v:V} (h:Dt st H d v):∀n:Nat,Dts st H (List.replicate n d) (List.replicate n v)
 | 0=>Dts.nil st H
 | n+1=>Dts.cons h (Dts_rep h n)
section
variable {X:Cx}
noncomputable def rRepS:R2:=fun x y H Q=>∃(a:Addr) (v:V) (k:Nat),x=.ref a/\y=.int (k:Int)/\H a=some (.tup [v])/\1<=k/\k<=4/\∀p H',Same H H'->H' p=some (.tup (List.replicate k v))->Q (.ref p) H'
theorem repS:OpR X (binaryOp .Mult) rRepS:=by
 intro pins s σ H x y v u Q I rx ry h
 obtain ⟨a,v',k,rfl,rfl,ha,h1,h4,q⟩:=h
 refine op_rep1 pins s σ H _ _ v u Q I rx ry ⟨a,v',(k:Int),rfl,rfl,.of ha,by omega,by omega,fun hk=>?_,fun hk p hp=>?_⟩
 ·have hk':k=1:=by omega
  subst hk'
  exact q a H (Same.refl H) ha
 ·exact q p _ (Same.new hp) upd_same
noncomputable def rSlS:V->Option Int->Option Int->Hp->VK->Prop:=fun x lo hi H Q=>∃(a:Addr) (xs:List V),x=.ref a/\H a=some (.tup xs)/\∀p H',Same H H'->H' p=some (.tup (cutV xs lo hi))->Q (.ref p) H'
theorem slS:SlR X rSlS:=by
 intro pins s σ H x v vl vu lo hi sl Q I rx hs pl pu h
 obtain ⟨a,xs,rfl,ha,q⟩:=h
 refine sl_any pins s σ H _ v vl vu lo hi sl Q I rx hs pl pu ⟨a,xs,rfl,.of ha,fun hw=>?_,fun hw p hp=>?_⟩
 ·refine q a H (Same.refl H) ?_
  unfold cutV
  rw[hw.1,hw.2,List.drop_zero,Nat.sub_zero,List.take_length];exact ha
 ·exact q p _ (Same.new hp) upd_same
end
section
variable {P:Program}{w:World}{K:W.Frag}{mg:Str->Option Value}{base:Heap}{f:Addr}{fd:FuncData}
noncomputable def Sta (l:Addr) (b:Bool) (H H':Hp):Prop:=Kp l H H'/\∃x,H' l=some (.lst [.int x,.bl b])/\StOk x b
theorem Sta.start {l:Addr}{b:Bool}{H:Hp}{x:Int} (h:H l=some (.lst [.int x,.bl b])) (ok:StOk x b):Sta l b H H:=⟨Kp.refl l H,x,h,ok⟩
theorem Sta.same {l:Addr}{b:Bool}{H H1 H2:Hp} (s:Sta l b H H1) (g:Same H1 H2):Sta l b H H2:=by
 obtain ⟨k,x,h,ok⟩:=s
 exact ⟨k.trans (g.kp l),x,g _ _ h,ok⟩
theorem Sta.new {l:Addr}{b:Bool}{H H1:Hp}{p:Addr}{o:HO} (s:Sta l b H H1) (h:H1 p=none):Sta l b H (upd H1 p o):=s.same (Same.new h)
theorem Sta.trans {l:Addr}{b:Bool}{H H1 H2:Hp} (s:Sta l b H H1) (t:Sta l b H1 H2):Sta l b H H2:=⟨s.1.trans t.1,t.2⟩
theorem Sta.ne {l:Addr}{b:Bool}{H H1:Hp}{p:Addr} (s:Sta l b H H1) (h:H1 p=none):l≠p:=by
 obtain ⟨_,x,e,_⟩:=s
 exact ne_of_none e h
theorem Sta.go {l:Addr}{b:Bool}{H H1:Hp}{x:Int} (s:Sta l b H H1) (ok:StOk x b):Sta l b H (upd H1 l (.lst [.int x,.bl b])):=⟨s.1.trans Kp.at,x,upd_same,ok⟩
theorem Sta.neL {l:Addr}{b:Bool}{H H1:Hp}{p:Addr}{xs:List V} (s:Sta l b H H1) (h:H1 p=some (.tup xs)):p≠l:=fun e=>by
 obtain ⟨_,x,q,_⟩:=s
 rw[e,q] at h;cases h
theorem Sta.lput {l p:Addr}{b:Bool}{H H1:Hp}{o:HO} (s:Sta l b H H1) (hpl:p≠l) (hpn:H p=none):Sta l b H (upd H1 p o):=by
 obtain ⟨k,x',e,ok⟩:=s
 exact ⟨fun c o hc hco=>by rw[upd_ne (fun z=>by rw[z,hpn] at hco;cases hco)];exact k c o hc hco,x',by rw[upd_ne hpl.symm];exact e,ok⟩
noncomputable def sp_lurn:Sp:=fun vs H Q _=>∃(l:Addr) (n:Nat) (x:Int) (b:Bool),vs=[.ref l,.int n]/\H l=some (.lst [.int x,.bl b])/\StOk x b/\1<=n/\n<=4 /\
 ∀(p:Addr) (H':Hp) (ns:List Int),Sta l b H H'->H' p=some (.tup (ns.map V.int))->Mt.Urn n 20 ns->Q (.ref p) H'
noncomputable abbrev s_lurn:Stmt:=top 51
theorem sc_lurn:FnScope ["_law_state_here","_law_kinds","_law_most","_law_found"] ["_law_state_here","_law_kinds"] (defScope s_lurn):=⟨rfl,rfl,rfl,by decide +kernel,rfl,by decide +kernel,by decide +kernel⟩
theorem ok_lurn (F:Fun K "_law_urn_of" "_law_urn_of" s_lurn f fd) (B:Bt mg) (B2:Bt2 mg) (c1:Cal P w K mg base 1 "_law_take" ["_law_state_here","_law_many"] sp_take):FnOk P w K mg base CX0 2 f fd ["_law_state_here","_law_kinds"] sp_lurn:=by
 refine F.ok sc_lurn (fun vs H Q E h=>?_) (fun cdv A outer s H vs Q E hr h=>?_)
 ·obtain ⟨l,n,x,b,rfl,_⟩:=h
  rfl
 obtain ⟨l,n,x,b,rfl,hl,hst,n1,n4,q⟩:=h
 refine ⟨_,pss_cons (ps_set (i:=2) sc_lurn.nd rfl (Or.inr rfl) (pe_ix ix_list (pe_lst (pa_cons pe_int (pa_cons pe_int (pa_cons pe_int (pa_cons pe_int pa_nil))))) (pe_cal c1 hr rfl (pa_cons (pv 0) (pa_cons pe_int pa_nil))) (fun _ _=>rfl)))
  (pss_cons (ps_setcompG (N:=["_law_kind","_law_state_here","_law_most"]) (ix:=[none,some 0,some 2]) (ifs:=[]) (tc:=tTrue) (i:=3) rfl sc_lurn.nd rfl rfl (pi_range1 rfl B.range (pa_cons (pv 1) pa_nil))
   (fun s H ex=>pg_c (i:=0) (by decide +kernel) rfl (Or.inl rfl) (.inr rfl)) (fun s H ex=>pifs_nil) (fun s H ex=>pe_cal c1 hr rfl (pa_cons (pv 1) (pa_cons (pv 2) pa_nil))) rfl (by decide +kernel) (by rfl) (by rfl) (fun _=>rfl) (by rfl))
  (pss_cons (ps_if (pt_cmpR op_eq (pe_cal c1 hr rfl (pa_cons (pv 0) (pa_cons pe_int pa_nil))) pe_int (nomark _)) (pss_one (ps_asg pe_int (pg_sub (pv 3) (pe_cal c1 hr rfl (pa_cons (pv 0) (pa_cons (pv 1) pa_nil))) set_list))) pss_nil)
  (pss_cons (ps_if (pt_not (pt_val (pe_callB (call_any_seq rfl) rfl B2.any boot_any (pa_cons (pv 3) pa_nil)))) (pss_one (ps_asg (pe_op op_add pe_int (pe_cal c1 hr rfl (pa_cons (pv 0) (pa_cons pe_int pa_nil)))) (pg_sub (pv 3) (pe_cal c1 hr rfl (pa_cons (pv 0) (pa_cons (pv 1) pa_nil))) set_list))) pss_nil)
  (pss_one (ps_ret (pe_callTy call_tuple_of rfl B.tuple boot_tuple (pa_cons (pv 3) pa_nil))))))),?_⟩
 have s0:Sta l b H H:=Sta.start hl hst
 refine ⟨(by show 4<=sizeLine;decide),fun p0 hp0=>⟨_,rfl,?_⟩⟩
 have s1:Sta l b H (upd H p0 (.lst [.int 3,.int 3,.int 6,.int 21])):=s0.new hp0
 obtain ⟨_,x1,hx1,ok1⟩:=id s1
 refine ⟨l,4,x1,b,rfl,hx1,ok1,by decide,by decide,fun y x2 hy ok2=>?_⟩
 have s2:=s1.go ok2
 have k2:Kp l (upd H p0 (.lst [.int 3,.int 3,.int 6,.int 21])) (upd (upd H p0 (.lst [.int 3,.int 3,.int 6,.int 21])) l (.lst [.int x2,.bl b])):=Kp.at
 generalize upd (upd H p0 (.lst [.int 3,.int 3,.int 6,.int 21])) l (.lst [.int x2,.bl b])=H1 at s2 k2
 have hp1:H1 p0=some (.lst [.int 3,.int 3,.int 6,.int 21]):=k2 _ _ (s0.ne hp0).symm upd_same
 obtain ⟨m,hm,m1,m2⟩:∃m:Int,([.int 3,.int 3,.int 6,.int 21]:List V)[y]?=some (.int m)/\1<=m/\m<=21:=by
  have hy':y<4:=by omega
  match y,hy' with
  | 0,_=>exact ⟨3,rfl,by decide,by decide⟩
  | 1,_=>exact ⟨3,rfl,by decide,by decide⟩
  | 2,_=>exact ⟨6,rfl,by decide,by decide⟩
  | 3,_=>exact ⟨21,rfl,by decide,by decide⟩
 refine ⟨p0,_,_,_,rfl,rfl,.of hp1,atI_nat hm,?_⟩
 refine ⟨_,rfl,(n:Int),rfl,by omega,by omega,?_⟩
 refine blk_range (lo:=0) (n:=n) (sz (by omega)) (fun i ys H2=>Sta l b H H2/\∃ns:List Int,ys=ns.map V.int/\ns.length=i/\∀z∈ns,0<=z/\z<=20)
  ⟨s2,[],rfl,rfl,by simp⟩ (fun i ys H2 h=>?_) rfl (fun i ys H2 hi h=>?_) (fun ys H2 h=>?_)
 ·obtain ⟨_,ns,rfl,hn,_⟩:=h
  rw[List.length_map];exact hn
 ·obtain ⟨s3,ns,rfl,hn,hb⟩:=h
  obtain ⟨_,x3,hx3,ok3⟩:=id s3
  refine ⟨_,rfl,_,rfl,l,m,x3,b,rfl,hx3,ok3,m1,by omega,fun y x4 hy ok4=>?_⟩
  refine ⟨s3.go ok4,ns++[(y:Int)],by rw[List.map_append];rfl,by rw[List.length_append,hn];rfl,fun z hz=>?_⟩
  rcases List.mem_append.mp hz with h|h
  ·exact hb z h
  ·rw[List.mem_singleton.mp h];omega
 ·obtain ⟨s3,ns,rfl,hn,hb⟩:=h
  intro p hp
  have s4:Sta l b H (upd H2 p (.lst (ns.map V.int))):=s3.new hp
  have hpl:p≠l:=(s3.ne hp).symm
  have hpn:H p=none:=by
   cases e:H p with
   | none=>rfl
   | some o=>rw[s3.1 p o hpl e] at hp;cases hp
  have hp4:upd H2 p (.lst (ns.map V.int)) p=some (.lst (ns.map V.int)):=upd_same
  show tSeq _ _ _ _ (upd H2 p (.lst (ns.map V.int)))
  generalize upd H2 p (.lst (ns.map V.int))=H3 at s4 hp4
  obtain ⟨_,x4,hx4,ok4⟩:=id s4
  refine ⟨_,rfl,l,8,x4,b,rfl,hx4,ok4,by decide,by decide,fun y8 x8 hy8 ok8=>⟨rfl,_,rfl,?_⟩⟩
  have s8:=s4.go ok8
  have k8:Kp l H3 (upd H3 l (.lst [.int x8,.bl b])):=Kp.at
  generalize upd H3 l (.lst [.int x8,.bl b])=H8 at s8 k8
  have hp8:=k8 _ _ hpl hp4
  refine ite2 (fun _=>?_) (fun _=>?_)
  ·obtain ⟨_,x9,hx9,ok9⟩:=id s8
   refine ⟨_,rfl,_,rfl,_,rfl,l,n,x9,b,rfl,hx9,ok9,by omega,by omega,fun y9 xa hy9 oka=>?_⟩
   have s9:=s8.go oka
   have k9:Kp l H8 (upd H8 l (.lst [.int xa,.bl b])):=Kp.at
   generalize upd H8 l (.lst [.int xa,.bl b])=H9 at s9 k9
   have hp9:=k9 _ _ hpl hp8
   have hy9':y9<ns.length:=by omega
   refine ⟨p,_,_,y9,rfl,rfl,hp9,ixN_nat (by rw[List.length_map];exact hy9'),?_⟩
   have sA:=s9.lput (o:=.lst ((ns.map V.int).set y9 (.int 20))) hpl hpn
   have hpA:upd H9 p (.lst ((ns.map V.int).set y9 (.int 20))) p=some (.lst ((ns.set y9 20).map V.int)):=by rw[upd_same,List.map_set]
   have hnA:(ns.set y9 20).length=n:=by rw[List.length_set];exact hn
   have hbA:∀z∈ns.set y9 20,0<=z/\z<=20:=fun z hz=>by
    rcases List.mem_or_eq_of_mem_set hz with h|h
    ·exact hb z h
    ·rw[h];decide
   show tSeq _ _ _ _ (upd H9 p (.lst ((ns.map V.int).set y9 (.int 20))))
   generalize upd H9 p (.lst ((ns.map V.int).set y9 (.int 20)))=HA at sA hpA
   generalize ns.set y9 20=nsA at hpA hnA hbA
   refine ⟨_,rfl,p,_,rfl,.inl (.of hpA),(by rw[List.all_map];exact List.all_eq_true.mpr fun _ _=>rfl),_,rfl,?_⟩
   rw[any_pos fun x hx=>(hbA x hx).1]
   by_cases hz:0<nsA.sum
   ·rw[decide_eq_true hz]
    refine iteF ⟨_,rfl,p,_,rfl,.inl ⟨.of hpA,fun t ht=>?_⟩⟩
    exact q t _ nsA (sA.new ht) upd_same ⟨hnA,hbA,hz⟩
   ·rw[decide_eq_false hz]
    obtain ⟨_,xz,hxz,okz⟩:=id sA
    refine iteT ⟨_,rfl,l,3,xz,b,rfl,hxz,okz,by decide,by decide,fun v x5 hv ok5=>?_⟩
    have s5:=sA.go ok5
    have k5:Kp l HA (upd HA l (.lst [.int x5,.bl b])):=Kp.at
    generalize upd HA l (.lst [.int x5,.bl b])=H4 at s5 k5
    obtain ⟨_,x6,hx6,ok6⟩:=id s5
    refine ⟨_,_,rfl,rfl,_,rfl,_,rfl,_,rfl,l,n,x6,b,rfl,hx6,ok6,by omega,by omega,fun y x7 hy ok7=>?_⟩
    have s6:=s5.go ok7
    have k6:Kp l H4 (upd H4 l (.lst [.int x7,.bl b])):=Kp.at
    generalize upd H4 l (.lst [.int x7,.bl b])=H5 at s6 k6
    have hp5:H5 p=some (.lst (nsA.map V.int)):=k6 _ _ hpl (k5 _ _ hpl hpA)
    have hy':y<nsA.length:=by omega
    refine ⟨p,_,_,y,rfl,rfl,hp5,ixN_nat (by rw[List.length_map];exact hy'),?_⟩
    refine ⟨_,rfl,p,_,rfl,.inl ⟨.of upd_same,fun t ht=>?_⟩⟩
    have s7:=s6.lput (o:=.lst ((nsA.map V.int).set y (.int (1+v)))) hpl hpn
    refine q t _ (nsA.set y (1+v)) (s7.new ht) (by rw[upd_same,List.map_set]) ⟨by rw[List.length_set];exact hnA,fun z hz=>?_,set_pos' (fun z hz=>(hbA z hz).1) (by omega) hy'⟩
    rcases List.mem_or_eq_of_mem_set hz with h|h
    ·exact hbA z h
    ·rw[h];omega
  ·show tSeq _ _ _ _ H8
   refine ⟨_,rfl,p,_,rfl,.inl (.of hp8),(by rw[List.all_map];exact List.all_eq_true.mpr fun _ _=>rfl),_,rfl,?_⟩
   rw[any_pos fun x hx=>(hb x hx).1]
   by_cases hz:0<ns.sum
   ·rw[decide_eq_true hz]
    refine iteF ⟨_,rfl,p,_,rfl,.inl ⟨.of hp8,fun t ht=>?_⟩⟩
    exact q t _ ns (s8.new ht) upd_same ⟨hn,hb,hz⟩
   ·rw[decide_eq_false hz]
    obtain ⟨_,xz,hxz,okz⟩:=id s8
    refine iteT ⟨_,rfl,l,3,xz,b,rfl,hxz,okz,by decide,by decide,fun v x5 hv ok5=>?_⟩
    have s5:=s8.go ok5
    have k5:Kp l H8 (upd H8 l (.lst [.int x5,.bl b])):=Kp.at
    generalize upd H8 l (.lst [.int x5,.bl b])=H4 at s5 k5
    obtain ⟨_,x6,hx6,ok6⟩:=id s5
    refine ⟨_,_,rfl,rfl,_,rfl,_,rfl,_,rfl,l,n,x6,b,rfl,hx6,ok6,by omega,by omega,fun y x7 hy ok7=>?_⟩
    have s6:=s5.go ok7
    have k6:Kp l H4 (upd H4 l (.lst [.int x7,.bl b])):=Kp.at
    generalize upd H4 l (.lst [.int x7,.bl b])=H5 at s6 k6
    have hp5:H5 p=some (.lst (ns.map V.int)):=k6 _ _ hpl (k5 _ _ hpl hp8)
    have hy':y<ns.length:=by omega
    refine ⟨p,_,_,y,rfl,rfl,hp5,ixN_nat (by rw[List.length_map];exact hy'),?_⟩
    refine ⟨_,rfl,p,_,rfl,.inl ⟨.of upd_same,fun t ht=>?_⟩⟩
    have s7:=s6.lput (o:=.lst ((ns.map V.int).set y (.int (1+v)))) hpl hpn
    refine q t _ (ns.set y (1+v)) (s7.new ht) (by rw[upd_same,List.map_set]) ⟨by rw[List.length_set];exact hn,fun z hz=>?_,set_pos' (fun z hz=>(hb z hz).1) (by omega) hy'⟩
    rcases List.mem_or_eq_of_mem_set hz with h|h
    ·exact hb z h
    ·rw[h];omega
end
end G
namespace G
open PySem PySem.Spec PyProof.Rows L2 Mt
theorem cut_drop {xs:List V}{y:Nat} (h:y<=xs.length):cutV xs (some (y:Int)) none=xs.drop y:=by
 unfold cutV
 have e1:HT.sIx xs.length 0 (some (y:Int))=y:=by rw[HT.sIx_nat];omega
 rw[e1,HT.sIx_none]
 exact List.take_of_length_le (by rw[List.length_drop];omega)
theorem cut_take {xs:List V}{y:Nat} (h:y<=xs.length):cutV xs none (some (y:Int))=xs.take y:=by
 unfold cutV
 have e1:HT.sIx xs.length xs.length (some (y:Int))=y:=by rw[HT.sIx_nat];omega
 rw[e1,HT.sIx_none,List.drop_zero,Nat.sub_zero]
section
variable {P:Program}{w:World}{K:W.Frag}{mg:Str->Option Value}{base:Heap}{f:Addr}{fd:FuncData}
noncomputable def sp_lrule:Sp:=fun vs H Q _=>∃(l:Addr) (n:Nat) (x:Int) (b:Bool),vs=[.ref l,.int n]/\H l=some (.lst [.int x,.bl b])/\StOk x b/\1<=n/\n<=4 /\
 ∀(v:V) (H':Hp) (rs:List (List Int)),Sta l b H H'->Dt l H' (DR rs) v->Mt.Rul n 5 rs->Q v H'
noncomputable abbrev s_lrule:Stmt:=top 52
theorem sc_lrule:FnScope ["_law_state_here","_law_kinds","_law_way","_law_more_here","_law_row","_law_far"] ["_law_state_here","_law_kinds"] (defScope s_lrule):=⟨rfl,rfl,rfl,by decide +kernel,rfl,by decide +kernel,by decide +kernel⟩
theorem ok_lrule (F:Fun K "_law_rule" "_law_rule" s_lrule f fd) (B:Bt mg) (c1:Cal P w K mg base 1 "_law_take" ["_law_state_here","_law_many"] sp_take):FnOk P w K mg base CX0 2 f fd ["_law_state_here","_law_kinds"] sp_lrule:=by
 refine F.ok sc_lrule (fun vs H Q E h=>?_) (fun cdv A outer s H vs Q E hr h=>?_)
 ·obtain ⟨l,n,x,b,rfl,_⟩:=h
  rfl
 obtain ⟨l,n,x,b,rfl,hl,hst,n1,n4,q⟩:=h
 refine ⟨_,pss_cons (ps_set (i:=2) sc_lrule.nd rfl (Or.inl rfl) (pe_cal c1 hr rfl (pa_cons (pv 0) (pa_cons pe_int pa_nil))))
  (pss_cons (ps_set (i:=3) sc_lrule.nd rfl (Or.inr rfl) (pe_cal c1 hr rfl (pa_cons (pv 0) (pa_cons pe_int pa_nil))))
  (pss_cons (ps_if (pt_cmpR op_eq (pv 2) pe_int (nomark _)) (pss_one (ps_ret (pe_callTy call_tuple_of rfl B.tuple boot_tuple (pa_cons (pe_compG (N:=["_law_kind","_law_kinds","_law_more_here"]) (ix:=[none,some 1,some 3]) (ifs:=[]) (tc:=tTrue) rfl (pi_range1 rfl B.range (pa_cons (pv 1) pa_nil)) (fun s H ex=>pg_c (i:=0) (by decide +kernel) rfl (Or.inr rfl) (.inl rfl)) (fun s H ex=>pifs_nil) (fun s H ex=>(pe_callTy (tupK (K:=K) rfl) rfl B.tuple boot_tuple (pa_cons (pe_compG (N:=["_law_one","_law_more_here","_law_kind"]) (ix:=[none,some 2,some 0]) (ifs:=[]) (tc:=tTrue) rfl (pi_range1 rfl B.range (pa_cons (pv 1) pa_nil)) (fun s H ex=>pg_c (i:=0) (by decide +kernel) rfl (Or.inl rfl) (.inr rfl)) (fun s H ex=>pifs_nil) (fun s H ex=>pe_op op_mul (pv 1) (pe_callTy call_int1 rfl B.int boot_int (pa_cons (pe_cmpR op_eq (pv 0) (pv 2) (nomark _)) pa_nil))) rfl (by decide +kernel) (by rfl) (by rfl) (fun _=>rfl)) pa_nil))) rfl (by decide +kernel) (by rfl) (by rfl) (fun _=>rfl)) pa_nil)))) pss_nil)
  (pss_cons (ps_set (i:=4) sc_lrule.nd rfl (Or.inr rfl) (pe_callTy call_tuple_of rfl B.tuple boot_tuple (pa_cons (pe_compG (N:=["_law_kind","_law_state_here"]) (ix:=[none,some 0]) (ifs:=[]) (tc:=tTrue) rfl (pi_range1 rfl B.range (pa_cons (pv 1) pa_nil)) (fun s H ex=>pg_c (i:=0) (by decide +kernel) rfl (Or.inl rfl) (.inr rfl)) (fun s H ex=>pifs_nil) (fun s H ex=>pe_cal c1 hr rfl (pa_cons (pv 1) (pa_cons (pe_ix (ixLK (K:=K) rfl) (pe_lst (pa_cons pe_int (pa_cons pe_int (pa_cons pe_int pa_nil)))) (pe_cal c1 hr rfl (pa_cons (pv 1) (pa_cons pe_int pa_nil))) (fun _ _=>rfl)) pa_nil))) rfl (by decide +kernel) (by rfl) (by rfl) (fun _=>rfl)) pa_nil)))
  (pss_cons (ps_if (pt_cmpR op_eq (pv 2) pe_int (nomark _)) (pss_one (ps_ret (pe_op repS (pe_tup (pa_cons (pv 4) pa_nil)) (pv 1)))) pss_nil)
  (pss_cons (ps_if (pt_cmpR op_eq (pv 2) pe_int (nomark _)) (pss_cons (ps_setcompG (N:=["_law_kind","_law_state_here","_law_kinds"]) (ix:=[none,some 0,some 1]) (ifs:=[]) (tc:=tTrue) (i:=5) rfl sc_lrule.nd rfl rfl (pi_range1 rfl B.range (pa_cons (pv 1) pa_nil)) (fun s H ex=>pg_c (i:=0) (by decide +kernel) rfl (Or.inl rfl) (.inr rfl)) (fun s H ex=>pifs_nil) (fun s H ex=>pe_cal c1 hr rfl (pa_cons (pv 1) (pa_cons (pv 2) pa_nil))) rfl (by decide +kernel) (by rfl) (by rfl) (fun _=>rfl) (by rfl)) (pss_one (ps_ret (pe_callTy call_tuple_of rfl B.tuple boot_tuple (pa_cons (pe_compG (N:=["_law_place","_law_row"]) (ix:=[none,some 4]) (ifs:=[]) (tc:=tTrue) rfl (pi_list (pv 5)) (fun s H ex=>pg_c (i:=0) (by decide +kernel) rfl (Or.inl rfl) (.inr rfl)) (fun s H ex=>pifs_nil) (fun s H ex=>pe_op catS (pe_slice slS (pv 1) (po_some (pv 0)) po_none) (pe_slice slS (pv 1) po_none (po_some (pv 0)))) rfl (by decide +kernel) (by rfl) (by rfl) (fun _=>rfl)) pa_nil))))) pss_nil)
  (pss_cons (ps_if (pt_cmpR op_eq (pv 2) pe_int (nomark _)) (pss_one (ps_ret (pe_callTy call_tuple_of rfl B.tuple boot_tuple (pa_cons (pe_compG (N:=["_law_kind","_law_kinds","_law_more_here"]) (ix:=[none,some 1,some 3]) (ifs:=[]) (tc:=tTrue) rfl (pi_range1 rfl B.range (pa_cons (pv 1) pa_nil)) (fun s H ex=>pg_c (i:=0) (by decide +kernel) rfl (Or.inr rfl) (.inl rfl)) (fun s H ex=>pifs_nil) (fun s H ex=>(pe_callTy (tupK (K:=K) rfl) rfl B.tuple boot_tuple (pa_cons (pe_compG (N:=["_law_one","_law_kind","_law_kinds","_law_more_here"]) (ix:=[none,some 0,some 1,some 2]) (ifs:=[]) (tc:=tTrue) rfl (pi_range1 rfl B.range (pa_cons (pv 1) pa_nil)) (fun s H ex=>pg_c (i:=0) (by decide +kernel) rfl (Or.inl rfl) (.inr rfl)) (fun s H ex=>pifs_nil) (fun s H ex=>pe_op op_mul (pv 3) (pe_callTy call_int1 rfl B.int boot_int (pa_cons (pe_cmpR op_eq (pv 0) (pe_op op_mod (pe_op op_add (pv 1) pe_int) (pv 2)) (nomark _)) pa_nil))) rfl (by decide +kernel) (by rfl) (by rfl) (fun _=>rfl)) pa_nil))) rfl (by decide +kernel) (by rfl) (by rfl) (fun _=>rfl)) pa_nil)))) pss_nil)
  (pss_one (ps_ret (pe_callTy call_tuple_of rfl B.tuple boot_tuple (pa_cons (pe_compG (N:=["_law_kind","_law_kinds","_law_state_here"]) (ix:=[none,some 1,some 0]) (ifs:=[]) (tc:=tTrue) rfl (pi_range1 rfl B.range (pa_cons (pv 1) pa_nil)) (fun s H ex=>pg_c (i:=0) (by decide +kernel) rfl (Or.inl rfl) (.inr rfl)) (fun s H ex=>pifs_nil) (fun s H ex=>(pe_callTy (tupK (K:=K) rfl) rfl B.tuple boot_tuple (pa_cons (pe_compG (N:=["_law_one","_law_state_here"]) (ix:=[none,some 2]) (ifs:=[]) (tc:=tTrue) rfl (pi_range1 rfl B.range (pa_cons (pv 1) pa_nil)) (fun s H ex=>pg_c (i:=0) (by decide +kernel) rfl (Or.inl rfl) (.inr rfl)) (fun s H ex=>pifs_nil) (fun s H ex=>pe_cal c1 hr rfl (pa_cons (pv 1) (pa_cons pe_int pa_nil))) rfl (by decide +kernel) (by rfl) (by rfl) (fun _=>rfl)) pa_nil))) rfl (by decide +kernel) (by rfl) (by rfl) (fun _=>rfl)) pa_nil)))))))))),?_⟩
 have lo62:-(2 ^ 62)<=((n:Nat):Int):=by omega
 have hi62:((n:Nat):Int)<2 ^ 62:=by omega
 have s0:Sta l b H H:=Sta.start hl hst
 have fin:∀(rs:List (List Int)) (ys:List V) (H3:Hp) (p ra:Addr),Sta l b H H3->rs.length=n->(∀r∈rs,Mt.Row n 5 r)->Dts l H3 (rs.map DI) ys->H3 p=none->upd H3 p (.lst ys) ra=none->Q (.ref ra) (upd (upd H3 p (.lst ys)) ra (.tup ys)):=fun rs ys H3 p ra s3 h1 h2 h3 hp hra=>by
  have s4:Sta l b H (upd H3 p (.lst ys)):=s3.new hp
  exact q _ _ rs (s4.new hra) (Dt.tup (s4.ne hra).symm upd_same (h3.kp ((Kp.new hp).trans (Kp.new hra)))) ⟨h1,h2⟩
 refine ⟨_,rfl,l,5,x,b,rfl,hl,hst,by decide,by decide,fun wy x1 hwy ok1=>?_⟩
 have s1:=s0.go ok1
 show tSeq _ _ _ _ (upd H l (.lst [.int x1,.bl b]))
 generalize upd H l (.lst [.int x1,.bl b])=H1 at s1
 obtain ⟨_,x2,hx2,ok2⟩:=id s1
 refine ⟨_,rfl,l,6,x2,b,rfl,hx2,ok2,by decide,by decide,fun mo x3 hmo ok3=>?_⟩
 have s2:=s1.go ok3
 show tSeq _ _ _ _ (upd H1 l (.lst [.int x3,.bl b]))
 generalize upd H1 l (.lst [.int x3,.bl b])=H2 at s2
 refine ⟨_,rfl,rfl,_,rfl,ite2 (fun _=>?_) (fun _=>?_)⟩
 ·refine ⟨_,rfl,(n:Int),rfl,lo62,hi62,?_⟩
  refine blk_range (lo:=0) (n:=n) (sz (by omega)) (fun i ys H3=>Sta l b H H3/\∃rs:List (List Int),rs.length=i/\(∀r∈rs,Mt.Row n 5 r)/\Dts l H3 (rs.map DI) ys)
   ⟨s2,[],rfl,by simp,Dts.nil _ _⟩ (fun i ys H3 h=>?_) rfl (fun i ys H3 hi h=>?_) (fun ys H3 h=>?_)
  ·obtain ⟨_,rs,hr1,_,hd⟩:=h
   rw[<- hd.len,List.length_map];exact hr1
  ·obtain ⟨s3,rs,hr1,hr2,hd⟩:=h
   refine ⟨_,rfl,(n:Int),rfl,lo62,hi62,?_⟩
   refine blk_range (lo:=0) (n:=n) (sz (by omega)) (fun j zs H4=>Sta l b H H4/\Kp l H3 H4/\∃r:List Int,zs=r.map V.int/\r.length=j/\∀z∈r,0<=z/\z<=5)
    ⟨s3,Kp.refl _ _,[],rfl,rfl,by simp⟩ (fun j zs H4 h=>?_) rfl (fun j zs H4 hj h=>?_) (fun zs H4 h=>?_)
   ·obtain ⟨_,_,r,rfl,hr,_⟩:=h
    rw[List.length_map];exact hr
   ·obtain ⟨s4,k4,r,rfl,hr,hz⟩:=h
    refine ⟨_,rfl,_,rfl,_,rfl,rfl,.inr ⟨_,rfl,_,_,rfl,rfl,.inl ⟨by omega,by omega⟩,?_⟩⟩
    refine ⟨s4,k4,r++[_],by rw[List.map_append];rfl,by rw[List.length_append,hr];rfl,fun z hz'=>?_⟩
    rcases List.mem_append.mp hz' with h|h
    ·exact hz z h
    ·rw[List.mem_singleton.mp h]
     split <;> omega
   ·obtain ⟨s4,k4,r,rfl,hr,hz⟩:=h
    intro p hp
    have s5:Sta l b H (upd H4 p (.lst (r.map V.int))):=s4.new hp
    refine ⟨p,_,rfl,.inl ⟨.of upd_same,fun t ht=>?_⟩⟩
    have kk:Kp l H3 (upd (upd H4 p (.lst (r.map V.int))) t (.tup (r.map V.int))):=(k4.trans (Kp.new hp)).trans (Kp.new ht)
    refine ⟨s5.new ht,rs++[r],by rw[List.length_append,hr1];rfl,fun r' hr'=>?_,?_⟩
    ·rcases List.mem_append.mp hr' with h|h
     ·exact hr2 r' h
     ·rw[List.mem_singleton.mp h];exact ⟨hr,hz⟩
    ·rw[List.map_append]
     exact (hd.kp kk).append (Dts.cons (Dt.mkI (s5.ne ht).symm upd_same) (Dts.nil _ _))
  ·obtain ⟨s3,rs,hr1,hr2,hd⟩:=h
   exact fun p hp=>⟨p,_,rfl,.inl ⟨.of upd_same,fun ra hra=>fin rs ys H3 p ra s3 hr1 hr2 hd hp hra⟩⟩
 refine ⟨_,rfl,(n:Int),rfl,lo62,hi62,?_⟩
 refine blk_range (lo:=0) (n:=n) (sz (by omega)) (fun i ys H3=>Sta l b H H3/\∃ns:List Int,ys=ns.map V.int/\ns.length=i/\∀z∈ns,0<=z/\z<=5)
  ⟨s2,[],rfl,rfl,by simp⟩ (fun i ys H3 h=>?_) rfl (fun i ys H3 hi h=>?_) (fun ys H3 h=>?_)
 ·obtain ⟨_,ns,rfl,hn,_⟩:=h
  rw[List.length_map];exact hn
 ·obtain ⟨s3,ns,rfl,hn,hb⟩:=h
  refine ⟨_,rfl,(by show 3<=sizeLine;decide),fun p5 hp5=>?_⟩
  have s5:Sta l b H (upd H3 p5 (.lst [.int 2,.int 3,.int 6])):=s3.new hp5
  have np5:p5≠l:=(s3.ne hp5).symm
  obtain ⟨_,x5,hx5,ok5⟩:=id s5
  refine ⟨_,rfl,l,3,x5,b,rfl,hx5,ok5,by decide,by decide,fun y x6 hy ok6=>?_⟩
  have s6:=s5.go ok6
  have k6:Kp l (upd H3 p5 (.lst [.int 2,.int 3,.int 6])) (upd (upd H3 p5 (.lst [.int 2,.int 3,.int 6])) l (.lst [.int x6,.bl b])):=Kp.at
  have hp6:=k6 _ _ np5 upd_same
  obtain ⟨m,hm,m1,m2⟩:∃m:Int,([.int 2,.int 3,.int 6]:List V)[y]?=some (.int m)/\1<=m/\m<=6:=by
   have hy':y<3:=by omega
   match y,hy' with
   | 0,_=>exact ⟨2,rfl,by decide,by decide⟩
   | 1,_=>exact ⟨3,rfl,by decide,by decide⟩
   | 2,_=>exact ⟨6,rfl,by decide,by decide⟩
  obtain ⟨_,x7,hx7,ok7⟩:=id s6
  refine ⟨p5,_,_,_,rfl,rfl,.of hp6,atI_nat hm,l,m,x7,b,rfl,hx7,ok7,m1,by omega,fun y2 x8 hy2 ok8=>?_⟩
  refine ⟨s6.go ok8,ns++[(y2:Int)],by rw[List.map_append];rfl,by rw[List.length_append,hn];rfl,fun z hz=>?_⟩
  rcases List.mem_append.mp hz with h|h
  ·exact hb z h
  ·rw[List.mem_singleton.mp h];omega
 obtain ⟨s3,ns,rfl,hn,hb⟩:=h
 intro p3 hp3
 refine ⟨p3,_,rfl,.inl ⟨.of upd_same,fun rw hrw=>?_⟩⟩
 have s4:Sta l b H (upd H3 p3 (.lst (ns.map V.int))):=s3.new hp3
 have s5:=s4.new (o:=.tup (ns.map V.int)) hrw
 have hr5:upd (upd H3 p3 (.lst (ns.map V.int))) rw (.tup (ns.map V.int)) rw=some (.tup (ns.map V.int)):=upd_same
 show tSeq _ _ _ _ (upd (upd H3 p3 (.lst (ns.map V.int))) rw (.tup (ns.map V.int)))
 generalize upd (upd H3 p3 (.lst (ns.map V.int))) rw (.tup (ns.map V.int))=H5 at s5 hr5
 have nrw:rw≠l:=s5.neL hr5
 have hrow:Mt.Row n 5 ns:=⟨hn,hb⟩
 refine ⟨_,rfl,rfl,_,rfl,ite2 (fun _=>?_) (fun _=>?_)⟩
 ·refine ⟨_,rfl,(by show 1<=sizeLine;decide),fun pa hpa=>⟨_,rfl,pa,.ref rw,n,rfl,rfl,upd_same,n1,n4,fun pb Hb gb hpb=>?_⟩⟩
  have g:=(Same.new (o:=.tup [.ref rw]) hpa).trans gb
  have s6:=s5.same g
  refine q _ _ (List.replicate n ns) s6 (Dt.tup (s6.neL hpb) hpb ?_) ⟨List.length_replicate,fun r hr=>by rw[List.eq_of_mem_replicate hr];exact hrow⟩
  rw[List.map_replicate]
  exact Dts_rep (Dt.mkI nrw (g _ _ hr5)) n
 refine ⟨_,rfl,rfl,_,rfl,ite2 (fun _=>?_) (fun _=>?_)⟩
 ·refine ⟨_,rfl,(n:Int),rfl,lo62,hi62,?_⟩
  refine blk_range (lo:=0) (n:=n) (sz (by omega)) (fun i ys H6=>Sta l b H H6/\Kp l H5 H6/\∃ks:List Nat,ys=ks.map (fun (k:Nat)=>V.int k)/\ks.length=i/\∀z∈ks,z<n)
   ⟨s5,Kp.refl _ _,[],rfl,rfl,by simp⟩ (fun i ys H6 h=>?_) rfl (fun i ys H6 hi h=>?_) (fun ys H6 h=>?_)
  ·obtain ⟨_,_,ks,rfl,hk,_⟩:=h
   rw[List.length_map];exact hk
  ·obtain ⟨s6,k6,ks,rfl,hk,hlt⟩:=h
   obtain ⟨_,x6,hx6,ok6⟩:=id s6
   refine ⟨_,rfl,_,rfl,l,n,x6,b,rfl,hx6,ok6,by omega,by omega,fun y x7 hy ok7=>?_⟩
   refine ⟨s6.go ok7,k6.trans Kp.at,ks++[y],by rw[List.map_append];rfl,by rw[List.length_append,hk];rfl,fun z hz=>?_⟩
   rcases List.mem_append.mp hz with h|h
   ·exact hlt z h
   ·rw[List.mem_singleton.mp h];omega
  obtain ⟨s6,k6,ks,rfl,hk,hlt⟩:=h
  intro pf hpf
  have s7:=s6.new (o:=.lst (ks.map (fun (k:Nat)=>V.int k))) hpf
  have npf:pf≠l:=(s6.ne hpf).symm
  have hf7:upd H6 pf (.lst (ks.map (fun (k:Nat)=>V.int k))) pf=some (.lst (ks.map (fun (k:Nat)=>V.int k))):=upd_same
  have hr7:upd H6 pf (.lst (ks.map (fun (k:Nat)=>V.int k))) rw=some (.tup (ns.map V.int)):=Same.new hpf _ _ (k6 _ _ nrw hr5)
  generalize upd H6 pf (.lst (ks.map (fun (k:Nat)=>V.int k)))=H7 at s7 hf7 hr7
  refine ⟨_,rfl,pf,rfl,⟨_,.of hf7⟩,blk_list (K:=K) (a:=pf) (xs:=ks.map (fun (k:Nat)=>V.int k)) (by rw[List.length_map,hk];exact sz (by omega)) (fun i ys H8=>Same H7 H8/\i<=n/\∃rs:List (List Int),rs.length=i/\(∀r∈rs,Mt.Row n 5 r)/\Dts l H8 (rs.map DI) ys)
   ⟨Same.refl _,Nat.zero_le _,[],rfl,by simp,Dts.nil _ _⟩ (fun i ys H8 h=>?_) (fun i ys H8 _ h=>.of (h.1 _ _ hf7)) rfl (fun i ys H8 v hv h=>?_) (fun ys H8 h=>?_)⟩
  ·obtain ⟨_,_,rs,hr1,_,hd⟩:=h
   rw[<- hd.len,List.length_map];exact hr1
  ·obtain ⟨g8,hin,rs,hr1,hr2,hd⟩:=h
   rw[List.getElem?_map] at hv
   obtain ⟨k,hk',ev⟩:=Option.map_eq_some_iff.mp hv
   subst ev
   have hik:=(List.getElem?_eq_some_iff.mp hk').1
   have hkn:=hlt k (List.mem_of_getElem? hk')
   have hr8:=g8 _ _ hr7
   have hkl:k<=(ns.map V.int).length:=by rw[List.length_map];omega
   have ea:cutV (ns.map V.int) (some (k:Int)) none=(ns.drop k).map V.int:=by rw[cut_drop hkl,List.map_drop]
   have eb:cutV (ns.map V.int) none (some (k:Int))=(ns.take k).map V.int:=by rw[cut_take hkl,List.map_take]
   refine ⟨_,rfl,_,rfl,_,rfl,rw,_,rfl,hr8,fun p1 H9 g9 hp1=>⟨_,rfl,_,rfl,_,rfl,rw,_,rfl,g9 _ _ hr8,fun p2 HA gA hp2=>?_⟩⟩
   rw[ea] at hp1
   rw[eb] at hp2
   refine ⟨p1,p2,_,_,rfl,rfl,gA _ _ hp1,hp2,(by rw[List.length_map,List.length_map,List.length_drop,List.length_take];omega),fun p HB gB hpB=>?_⟩
   have gAll:=(g9.trans gA).trans gB
   have gTot:=g8.trans gAll
   have sB:=s7.same gTot
   refine ⟨gTot,by omega,rs++[ns.drop k++ns.take k],by rw[List.length_append,hr1];rfl,fun r' hr'=>?_,?_⟩
   ·rcases List.mem_append.mp hr' with h|h
    ·exact hr2 r' h
    ·rw[List.mem_singleton.mp h]
     refine ⟨by rw[List.length_append,List.length_drop,List.length_take];omega,fun z hz=>?_⟩
     have hz':z∈ns:=by
      rcases List.mem_append.mp hz with h|h
      ·exact List.mem_of_mem_drop h
      ·exact List.mem_of_mem_take h
     exact hb z hz'
   ·rw[List.map_append]
    exact (hd.kp (gAll.kp l)).append (Dts.cons (Dt.mkI (sB.neL hpB) (by rw[hpB,List.map_append])) (Dts.nil _ _))
  ·obtain ⟨g8,_,rs,hr1,hr2,hd⟩:=h
   rw[List.length_map,hk] at hr1
   exact fun p hp=>⟨p,_,rfl,.inl ⟨.of upd_same,fun ra hra=>fin rs ys H8 p ra (s7.same g8) hr1 hr2 hd hp hra⟩⟩
 refine ⟨_,rfl,rfl,_,rfl,ite2 (fun _=>?_) (fun _=>?_)⟩
 ·refine ⟨_,rfl,(n:Int),rfl,lo62,hi62,?_⟩
  refine blk_range (lo:=0) (n:=n) (sz (by omega)) (fun i ys H3=>Sta l b H H3/\∃rs:List (List Int),rs.length=i/\(∀r∈rs,Mt.Row n 5 r)/\Dts l H3 (rs.map DI) ys)
   ⟨s5,[],rfl,by simp,Dts.nil _ _⟩ (fun i ys H3 h=>?_) rfl (fun i ys H3 hi h=>?_) (fun ys H3 h=>?_)
  ·obtain ⟨_,rs,hr1,_,hd⟩:=h
   rw[<- hd.len,List.length_map];exact hr1
  ·obtain ⟨s3,rs,hr1,hr2,hd⟩:=h
   refine ⟨_,rfl,(n:Int),rfl,lo62,hi62,?_⟩
   refine blk_range (lo:=0) (n:=n) (sz (by omega)) (fun j zs H4=>Sta l b H H4/\Kp l H3 H4/\∃r:List Int,zs=r.map V.int/\r.length=j/\∀z∈r,0<=z/\z<=5)
    ⟨s3,Kp.refl _ _,[],rfl,rfl,by simp⟩ (fun j zs H4 h=>?_) rfl (fun j zs H4 hj h=>?_) (fun zs H4 h=>?_)
   ·obtain ⟨_,_,r,rfl,hr,_⟩:=h
    rw[List.length_map];exact hr
   ·obtain ⟨s4,k4,r,rfl,hr,hz⟩:=h
    refine ⟨_,rfl,_,rfl,_,rfl,_,_,rfl,rfl,_,rfl,_,_,rfl,rfl,(by omega),rfl,.inr ⟨_,rfl,_,_,rfl,rfl,.inl ⟨by omega,by omega⟩,?_⟩⟩
    refine ⟨s4,k4,r++[_],by rw[List.map_append];rfl,by rw[List.length_append,hr];rfl,fun z hz'=>?_⟩
    rcases List.mem_append.mp hz' with h|h
    ·exact hz z h
    ·rw[List.mem_singleton.mp h]
     split <;> omega
   ·obtain ⟨s4,k4,r,rfl,hr,hz⟩:=h
    intro p hp
    have s5:Sta l b H (upd H4 p (.lst (r.map V.int))):=s4.new hp
    refine ⟨p,_,rfl,.inl ⟨.of upd_same,fun t ht=>?_⟩⟩
    have kk:Kp l H3 (upd (upd H4 p (.lst (r.map V.int))) t (.tup (r.map V.int))):=(k4.trans (Kp.new hp)).trans (Kp.new ht)
    refine ⟨s5.new ht,rs++[r],by rw[List.length_append,hr1];rfl,fun r' hr'=>?_,?_⟩
    ·rcases List.mem_append.mp hr' with h|h
     ·exact hr2 r' h
     ·rw[List.mem_singleton.mp h];exact ⟨hr,hz⟩
    ·rw[List.map_append]
     exact (hd.kp kk).append (Dts.cons (Dt.mkI (s5.ne ht).symm upd_same) (Dts.nil _ _))
  ·obtain ⟨s3,rs,hr1,hr2,hd⟩:=h
   exact fun p hp=>⟨p,_,rfl,.inl ⟨.of upd_same,fun ra hra=>fin rs ys H3 p ra s3 hr1 hr2 hd hp hra⟩⟩
 refine ⟨_,rfl,(n:Int),rfl,lo62,hi62,?_⟩
 refine blk_range (lo:=0) (n:=n) (sz (by omega)) (fun i ys H3=>Sta l b H H3/\∃rs:List (List Int),rs.length=i/\(∀r∈rs,Mt.Row n 5 r)/\Dts l H3 (rs.map DI) ys)
  ⟨s5,[],rfl,by simp,Dts.nil _ _⟩ (fun i ys H3 h=>?_) rfl (fun i ys H3 hi h=>?_) (fun ys H3 h=>?_)
 ·obtain ⟨_,rs,hr1,_,hd⟩:=h
  rw[<- hd.len,List.length_map];exact hr1
 ·obtain ⟨s3,rs,hr1,hr2,hd⟩:=h
  refine ⟨_,rfl,(n:Int),rfl,lo62,hi62,?_⟩
  refine blk_range (lo:=0) (n:=n) (sz (by omega)) (fun j zs H4=>Sta l b H H4/\Kp l H3 H4/\∃r:List Int,zs=r.map V.int/\r.length=j/\∀z∈r,0<=z/\z<=5)
   ⟨s3,Kp.refl _ _,[],rfl,rfl,by simp⟩ (fun j zs H4 h=>?_) rfl (fun j zs H4 hj h=>?_) (fun zs H4 h=>?_)
  ·obtain ⟨_,_,r,rfl,hr,_⟩:=h
   rw[List.length_map];exact hr
  ·obtain ⟨s4,k4,r,rfl,hr,hz⟩:=h
   obtain ⟨_,x5,hx5,ok5⟩:=id s4
   refine ⟨_,rfl,l,6,x5,b,rfl,hx5,ok5,by decide,by decide,fun y x6 hy ok6=>?_⟩
   refine ⟨s4.go ok6,k4.trans Kp.at,r++[(y:Int)],by rw[List.map_append];rfl,by rw[List.length_append,hr];rfl,fun z hz'=>?_⟩
   rcases List.mem_append.mp hz' with h|h
   ·exact hz z h
   ·rw[List.mem_singleton.mp h];omega
  ·obtain ⟨s4,k4,r,rfl,hr,hz⟩:=h
   intro p hp
   have s5:Sta l b H (upd H4 p (.lst (r.map V.int))):=s4.new hp
   refine ⟨p,_,rfl,.inl ⟨.of upd_same,fun t ht=>?_⟩⟩
   have kk:Kp l H3 (upd (upd H4 p (.lst (r.map V.int))) t (.tup (r.map V.int))):=(k4.trans (Kp.new hp)).trans (Kp.new ht)
   refine ⟨s5.new ht,rs++[r],by rw[List.length_append,hr1];rfl,fun r' hr'=>?_,?_⟩
   ·rcases List.mem_append.mp hr' with h|h
    ·exact hr2 r' h
    ·rw[List.mem_singleton.mp h];exact ⟨hr,hz⟩
   ·rw[List.map_append]
    exact (hd.kp kk).append (Dts.cons (Dt.mkI (s5.ne ht).symm upd_same) (Dts.nil _ _))
 ·obtain ⟨s3,rs,hr1,hr2,hd⟩:=h
  exact fun p hp=>⟨p,_,rfl,.inl ⟨.of upd_same,fun ra hra=>fin rs ys H3 p ra s3 hr1 hr2 hd hp hra⟩⟩
end
end G
namespace G
open PySem PySem.Spec PyProof.Rows L2 Mt
noncomputable def ok2 (d:PyData):Prop:=short d/\∀ds,d=.tuple ds->∀r∈ds,short r
section
variable {Pr:Hp->V->Prop}{m m1 m2:Nat}{ta tb te:TE}{σ:L2.St}{H:Hp}
end
end G
namespace L2
open PySem PySem.Spec PyProof.Rows
theorem eqvI2:∀a b:List Int,PyData.eqvAll (a.map PyData.int) (b.map PyData.int)=decide (a=b)
 | [],[]=>by unfold PyData.eqvAll;rfl
 | [],y::b=>by
  show PyData.eqvAll [] (.int y::b.map PyData.int)=_
  unfold PyData.eqvAll;rfl
 | x::a,[]=>by
  show PyData.eqvAll (.int x::a.map PyData.int) []=_
  unfold PyData.eqvAll;rfl
 | x::a,y::b=>by
  show PyData.eqvAll (.int x::a.map PyData.int) (.int y::b.map PyData.int)=_
  unfold PyData.eqvAll
  rw[eqvI2 a b]
  unfold PyData.eqv
  by_cases h:x=y
  ·subst h;simp
  ·simp[h]
end L2
namespace L2
open PySem PySem.Spec PyProof.Rows
open PySem.W (KasT)
section
variable {n:Nat} (hn:0<n)
include hn
end
end L2
namespace L2
open PySem PySem.Spec PyProof.Rows
section
variable {prog:Program}{w:World}{A:Around}{E:Value->Shared->Prop}{s:Shared}
noncomputable def ItO (h:Heap) (it d:Addr) (i n ep:Nat) (a:Addr):Prop:=∃(f:Bool) (ok ov:Value),W.KdxIt h it d i n ep ok ov a f
theorem items_next2 {it d a:Addr}{oa od:Obj}{i ep:Nat}{es:Array DictEntry}{en:DictEntry}{Q:Option Value->Shared->Prop} (hit:ItO s.heap it d i es.size ep a) (ha:s.heap.get? a=some oa) (hai:a≠it)
  (hod:s.heap.get? d=some od) (hdd:od.data=.dict es ep) (hx:es[i]?=some en)
  (hQ:∀h',ItO h' it d (i+1) es.size ep a->h'.get? s.heap.objs.size=some { cls:=.type "tuple",data:=.seq #[en.key,en.val] }->h'.objs.size=s.heap.objs.size+1 ->
   (∀b o,b≠it->s.heap.get? b=some o->h'.get? b=some o)->Q (some (.ref s.heap.objs.size)) { s with heap:=h' }):wpAny (model prog w) A (pyNext (.ref it)) Q E s:=by
 obtain ⟨hp,g,dr,tk,os⟩:=s
 obtain ⟨f,ok,ov,hit⟩:=hit
 have tI:Shared.TypeIs ⟨hp,g,dr,tk,os⟩ (.ref it) "dict_itemiterator":=⟨_,hit,rfl⟩
 unfold pyNext
 refine wpAny_bind (wpAny_attempt (wpAny_callSpecial?_slot (name:=Str.ofString "__next__") tI F.slot_dict_itemiterator_next (wpAny_call_entry F.slot_dict_itemiterator_next tI F.entry_dict_itemiterator_next ?_ (F.args_dict_itemiterator_next_1 _))))
 refine wpAny_bind (wpAny_pure (wpAny_bind (wpAny_bind ?_)))
 first|refine wpAny_bind (wpAny_typeNameOfWhole_itemiter tI (wpAny_pure (wpAny_bind (wpAny_fieldsOf hit rfl ?_))))|refine wpAny_bind (wpAny_typeNameOf_itemiter tI (wpAny_pure (wpAny_bind (wpAny_fieldsOf hit rfl ?_))))
 have own:Builtin.Dict_items.ownsTuple "dict_itemiterator"=true:=by decide
 simp only[own,if_true]
 show wpAny _ _ (if (Value.ref d == Value.none)=true then _ else _) _ _ _
 rw[if_neg (show ¬ ((Value.ref d == Value.none)=true) from Bool.false_ne_true)]
 refine wpAny_bind (wpAny_pure (wpAny_bind (wpAny_dictEntries hod hdd ?_)))
 rw[if_neg (by simp)]
 refine wpAny_bind (wpAny_pure (wpAny_bind (wpAny_dictEpoch hod hdd ?_)))
 rw[if_neg (by simp)]
 refine wpAny_pure ?_
 simp only[show ¬ ((i:Int)<0) from by omega,if_false,Int.toNat_natCast,hx]
 refine wpAny_bind ?_
 first|refine wpAny_bind (wpAny_typeNameOfWhole_itemiter tI (wpAny_pure (wpAny_bind (wpAny_isOneOf_itemiter tI ?_))))|refine wpAny_bind (wpAny_typeNameOf_itemiter tI (wpAny_pure (wpAny_bind (wpAny_isOneOf_itemiter tI ?_))))
 show wpAny _ _ (setField (.ref it) 3 (rawInt ((i:Int)+1)) >>= _) _ _ ⟨hp,g,dr,tk,os⟩
 refine wpAny_bind (wpAny_setField_rec hit (by simp) fun h1 he1 b1=>?_)
 replace b1:Heap.SameBut it hp h1:=b1
 replace he1:W.KdxIt h1 it d (i+1) es.size ep ok ov a f:=by
  have e:((i+1:Nat):Int)=(i:Int)+1:=by omega
  unfold W.KdxIt;rw[e];simpa [rawInt] using he1
 have tI1:Shared.TypeIs ⟨h1,g,dr,tk,os⟩ (.ref it) "dict_itemiterator":=⟨_,he1,rfl⟩
 refine wpAny_bind (wpAny_holding (wpAny_bind (wpAny_isOneOf_itemiter tI1 (wpAny_bind (wpAny_isOneOf_itemiter tI1 ?_)))))
 show wpAny _ _ (Builtin.Dict_items.pairFromOwner (.ref it) 6 en.key en.val) _ _ ⟨h1,g,dr,tk,os⟩
 unfold Builtin.Dict_items.pairFromOwner
 refine wpAny_bind (wpAny_newTuple ?_)
 have z1:h1.objs.size=hp.objs.size:=b1.1
 have hil:it<hp.objs.size:=Heap.lt_size hit
 obtain ⟨h2,eh2⟩:∃h2,h2=h1.push { cls:=.type "tuple",data:=.seq #[en.key,en.val] }:=⟨_,rfl⟩
 have he2:W.KdxIt h2 it d (i+1) es.size ep ok ov a f:=by rw[eh2];exact Heap.get?_push_of_some _ he1
 have t2:h2.get? hp.objs.size=some { cls:=.type "tuple",data:=.seq #[en.key,en.val] }:=by rw[eh2,<- z1];exact Heap.get?_push_size _ rfl
 have z2:h2.objs.size=hp.objs.size+1:=by rw[eh2,Heap.size_push,z1]
 have k2:∀b o,b≠it->hp.get? b=some o->h2.get? b=some o:=fun b o hb e=>by rw[eh2];exact Heap.get?_push_of_some _ (b1.extBut b o hb e)
 show wpAny _ _ (Builtin.Dict_items.ownedTupleIsFree (.ref it) >>= _) _ _ ⟨h1.push { cls:=.type "tuple",data:=.seq #[en.key,en.val] },g,dr,tk,os⟩
 rw[z1,<- eh2]
 have a2:h2.get? a=some oa:=k2 a oa hai ha
 refine wpAny_bind ?_
 unfold Builtin.Dict_items.ownedTupleIsFree
 refine wpAny_bind (wpAny_field he2 rfl (x:=rawInt a) rfl ?_)
 show wpAny _ _ (loadIfAlive ((a:Int).toNat) >>= _) _ _ _
 rw[Int.toNat_natCast]
 refine wpAny_bind (W.kdx_alive a2 ?_)
 simp only[Option.isNone_some,Bool.false_eq_true,if_false]
 refine wpAny_bind (wpAny_field he2 rfl (x:=.bool f) rfl ?_)
 have fin:∀h3:Heap,W.KdxIt h3 it d (i+1) es.size ep ok ov a true->Heap.SameBut it h2 h3->Q (some (.ref hp.objs.size)) ⟨h3,g,dr,tk,os⟩:=fun h3 he3 b3 =>
  hQ h3 ⟨true,ok,ov,he3⟩ (b3.extBut _ _ (Nat.ne_of_gt hil) t2) (by show h3.objs.size=hp.objs.size+1;rw[b3.1,z2]) fun b o hb e=>b3.extBut b o hb (k2 b o hb e)
 cases f with
 | true =>
  rw[if_neg (show ¬ ((Value.bool true != Value.bool true)=true) from Bool.false_ne_true)]
  refine wpAny_pure ?_
  simp only[Bool.false_eq_true,if_false]
  exact wpAny_pure (wpAny_pure ⟨_,rfl,wpAny_pure (fin h2 he2 (Heap.SameBut.refl _ _))⟩)
 | false =>
  rw[if_pos (show (Value.bool false != Value.bool true)=true from rfl)]
  refine wpAny_bind (wpAny_setField_rec he2 (by simp) fun h3 he3 b3=>?_)
  refine wpAny_pure ?_
  simp only[Bool.false_eq_true,if_false]
  exact wpAny_pure (wpAny_pure ⟨_,rfl,wpAny_pure (fin h3 he3 b3)⟩)
theorem items_end2 {it d a:Addr}{i ep:Nat}{od:Obj}{es:Array DictEntry}{Q:Option Value->Shared->Prop} (hh:A.handled=none) (hit:ItO s.heap it d i es.size ep a)
  (hod:s.heap.get? d=some od) (hdd:od.data=.dict es ep) (hge:es.size<=i) (hQ:∀h',Heap.ExtBut it s.heap h'->Q none { s with heap:=h' }):wpAny (model prog w) A (pyNext (.ref it)) Q E s:=by
 obtain ⟨f,ok,ov,hit⟩:=hit
 have tI:s.TypeIs (.ref it) "dict_itemiterator":=⟨_,hit,rfl⟩
 unfold pyNext
 refine wpAny_bind (wpAny_attempt (wpAny_callSpecial?_slot (name:=Str.ofString "__next__") tI F.slot_dict_itemiterator_next (wpAny_call_entry F.slot_dict_itemiterator_next tI F.entry_dict_itemiterator_next ?_ (F.args_dict_itemiterator_next_1 _))))
 refine wpAny_bind (wpAny_pure (wpAny_bind (wpAny_bind ?_)))
 first|refine wpAny_bind (wpAny_typeNameOfWhole_itemiter tI (wpAny_pure (wpAny_bind (wpAny_fieldsOf hit rfl ?_))))|refine wpAny_bind (wpAny_typeNameOf_itemiter tI (wpAny_pure (wpAny_bind (wpAny_fieldsOf hit rfl ?_))))
 have own:Builtin.Dict_items.ownsTuple "dict_itemiterator"=true:=by decide
 simp only[own,if_true]
 show wpAny _ _ (if (Value.ref d == Value.none)=true then _ else _) _ _ s
 rw[if_neg (show ¬ ((Value.ref d == Value.none)=true) from Bool.false_ne_true)]
 refine wpAny_bind (wpAny_pure (wpAny_bind (wpAny_dictEntries hod hdd ?_)))
 rw[if_neg (by simp)]
 refine wpAny_bind (wpAny_pure (wpAny_bind (wpAny_dictEpoch hod hdd ?_)))
 rw[if_neg (by simp)]
 refine wpAny_pure ?_
 simp only[show ¬ ((i:Int)<0) from by omega,if_false,Int.toNat_natCast,Array.getElem?_eq_none hge]
 refine wpAny_bind ?_
 first|refine wpAny_bind (wpAny_typeNameOfWhole_itemiter tI (wpAny_pure ?_))|refine wpAny_bind (wpAny_typeNameOf_itemiter tI (wpAny_pure ?_))
 show wpAny _ _ (setField (.ref it) 2 .none >>= _) _ _ s
 refine wpAny_bind (wpAny_setField hit rfl (by simp) ?_)
 show wpAny _ _ (newExc (.type "StopIteration") [] >>= _) _ _ _
 refine wpAny_bind ?_
 simp only[newExc,newTuple]
 refine wpAny_bind (wpAny_newObj_type ?_ (by size_fits))
 refine wpAny_bind (m:=firstArgMember _ _) (wpAny_of_eq (a:=Value.none) (by first|rfl | (simp only[firstArgMember];rfl)) ?_)
 refine wpAny_newObj_type ?_ (by size_fits)
 simp only[raiseNew]
 refine wpAny_bind (wpAny_handled ?_)
 rw[show A.in1.handled=none from hh]
 refine wpAny_bind (wpAny_pure (wpAny_throw ?_))
 refine wpAny_bind (wpAny_isInstance (T:="StopIteration") (b:=true) ⟨_,Heap.get?_push_size _ rfl,rfl⟩ isSubtype_stop ?_)
 exact wpAny_pure (hQ _ (((Heap.SameBut.update ..).extBut.push _).push _))
noncomputable def ItS (h:Heap) (it d S:Addr) (i n ep:Nat):Prop:=(i=0/\∃ok ov,IsItemIter h it d 0 n ep ok ov) ∨ ∃a oa,ItO h it d i n ep a/\h.get? a=some oa/\a≠it/\a≠S
theorem ItS.keep {h h':Heap}{it d S:Addr}{i n ep:Nat} (x:ItS h it d S i n ep) (k:∀b o,b≠S->h.get? b=some o->h'.get? b=some o) (hI:it≠S):ItS h' it d S i n ep:=by
 rcases x with ⟨e,ok,ov,q⟩|⟨a,oa,⟨f,ok,ov,q⟩,h1,h2,h3⟩
 ·exact .inl ⟨e,ok,ov,k _ _ hI q⟩
 ·exact .inr ⟨a,oa,⟨f,ok,ov,k _ _ hI q⟩,k _ _ h3 h1,h2,h3⟩
noncomputable def Prs (h:Heap) (es:Array DictEntry) (as:List Addr):Prop:=∀(j:Nat) (a:Addr),as[j]?=some a->∃en,es[j]?=some en/\h.get? a=some { cls:=.type "tuple",data:=.seq #[en.key,en.val] }
theorem items_loop {R:Result->Shared->Prop}{S I d:Addr}{od:Obj}{es:Array DictEntry}{ep:Nat} (hh:A.handled=none) (hSI:S≠I) (hSd:d≠S) (hId:d≠I) (hdd:od.data=.dict es ep) (hn:es.size<=sizeLine) (res:Value) (h0:Heap)
  (hR:∀h' tk acc c as,(∀b o,b≠S->b≠I->h0.get? b=some o->h'.get? b=some o)->h'.get? S=some { cls:=.type "list",dict:=none,data:=.seq acc c,slots:=#[] }->as.length=es.size->as.Nodup->(∀a∈as,h0.objs.size<=a)->Prs h' es as->acc.toList=as.map Value.ref->R (.ok (.ret res)) { s with heap:=h',toks:=tk }):
  ∀(k i:Nat) (h:Heap) (tk:Nat) (acc:Array Value) (c:Nat) (as:List Addr),es.size - i=k->i<=es.size->S<h.objs.size->h0.objs.size<=h.objs.size->ItS h I d S i es.size ep->h.get? d=some od->h.get? S=some { cls:=.type "list",dict:=none,data:=.seq acc c,slots:=#[] } ->
  as.length=i->as.Nodup->(∀a∈as,h0.objs.size<=a/\a≠S/\a≠I)->Prs h es as->acc.toList=as.map Value.ref->(∀b o,b≠S->b≠I->h0.get? b=some o->h.get? b=some o) ->
  codeAny (model prog w) A (.builtin "list.extend.loop" ⟨[.ref S,.ref I,res],[]⟩) R { s with heap:=h,toks:=tk }:=by
 intro k
 induction k with
 | zero =>
  intro i h tk acc c as hk hi hS hz st hd hSo hl hnd hab hp hac kp
  have e:i=es.size:=by omega
  subst e
  refine codeAny_builtin F.entry_extend_loop ?_
  rw[Around.under_plainId F.plain_extend_loop _]
  show wpAny _ A.in1 (pyNext (.ref I) >>= _) _ _ _
  have fin:∀h',Heap.ExtBut I h h'->R (.ok (.ret res)) { s with heap:=h',toks:=tk }:=fun h' x=>by
   refine hR h' tk acc c as (fun b o h1 h2 q=>x b o h2 (kp b o h1 h2 q)) (x _ _ hSI hSo) hl hnd (fun a ha=>(hab a ha).1) (fun j a ha=>?_) hac
   obtain ⟨en,e1,e2⟩:=hp j a ha
   exact ⟨en,e1,x _ _ (hab a (List.mem_of_getElem? ha)).2.2 e2⟩
  rcases st with ⟨e,ok,ov,q⟩|⟨a,oa,q,_,_,_⟩
  ·exact wpAny_bind (itemsR_end (s:={ s with heap:=h,toks:=tk }) (A:=A.in1) hh q hd hdd (Nat.le_of_eq e) fun h' x=>wpAny_pure (fin h' x))
  ·exact wpAny_bind (items_end2 (s:={ s with heap:=h,toks:=tk }) (A:=A.in1) hh q hd hdd (Nat.le_refl _) fun h' x=>wpAny_pure (fin h' x))
 | succ k ih =>
  intro i h tk acc c as hk hi hS hz st hd hSo hl hnd hab hp hac kp
  have hlt:i<es.size:=by omega
  have hx:es[i]?=some es[i]:=Array.getElem?_eq_getElem hlt
  refine codeAny_builtin F.entry_extend_loop ?_
  rw[Around.under_plainId F.plain_extend_loop _]
  show wpAny _ A.in1 (pyNext (.ref I) >>= _) _ _ _
  have iI:I<h.objs.size:=by
   rcases st with ⟨_,_,_,q⟩|⟨_,_,⟨_,_,_,q⟩,_⟩
   ·exact Heap.lt_size q
   ·exact Heap.lt_size q
  have go:∀h' h'':Heap,ItS h' I d S (i+1) es.size ep->h'.get? h.objs.size=some { cls:=.type "tuple",data:=.seq #[es[i].key,es[i].val] }->h'.objs.size=h.objs.size+1->(∀b o,b≠I->h.get? b=some o->h'.get? b=some o) ->
    (∀b o,b≠S->h'.get? b=some o->h''.get? b=some o)->h''.objs.size=h'.objs.size->(∃c',h''.get? S=some { cls:=.type "list",dict:=none,data:=.seq (acc.push (.ref h.objs.size)) c',slots:=#[] }) ->
    codeAny (model prog w) A (.builtin "list.extend.loop" ⟨[.ref S,.ref I,res],[]⟩) R { s with heap:=h'',toks:=tk }:=fun h' h'' st' nw zz x y zy ⟨c',hS'⟩=>by
   have nS:h.objs.size≠S:=Nat.ne_of_gt hS
   have nI:h.objs.size≠I:=Nat.ne_of_gt iI
   refine ih (i+1) h'' tk (acc.push (.ref h.objs.size)) c' (as++[h.objs.size]) (by omega) hlt (by rw[zy,zz];exact Nat.lt_succ_of_lt hS) (by rw[zy,zz];exact Nat.le_succ_of_le hz) (st'.keep y hSI.symm) (y _ _ hSd (x _ _ hId hd)) hS' (by rw[List.length_append,hl];rfl) ?_ (fun a ha=>?_) (fun j a ha=>?_) ?_ (fun b o h1 h2 q=>y _ _ h1 (x _ _ h2 (kp b o h1 h2 q)))
   ·rw[List.nodup_append]
    refine ⟨hnd,by simp,fun a ha b hb=>?_⟩
    rw[List.mem_singleton.mp hb]
    obtain ⟨j,hj⟩:=List.mem_iff_getElem?.mp ha
    obtain ⟨en,_,e2⟩:=hp j a hj
    exact Nat.ne_of_lt (Heap.lt_size e2)
   ·rcases List.mem_append.mp ha with q|q
    ·exact hab a q
    ·rw[List.mem_singleton.mp q];exact ⟨hz,nS,nI⟩
   ·rw[List.getElem?_append] at ha
    split at ha
    ·obtain ⟨en,e1,e2⟩:=hp j a ha
     have hm:=hab a (List.mem_of_getElem? ha)
     exact ⟨en,e1,y _ _ hm.2.1 (x _ _ hm.2.2 e2)⟩
    ·rename_i hj
     have hj0:j - as.length=0:=by
      cases hjj:j - as.length with
      | zero=>rfl
      | succ m=>rw[hjj] at ha;cases ha
     rw[hj0] at ha
     cases ha
     have ej:j=i:=by omega
     subst ej
     exact ⟨es[j],hx,y _ _ nS nw⟩
   ·rw[Array.toList_push,hac,List.map_append];rfl
  have step:∀h':Heap,ItS h' I d S (i+1) es.size ep->h'.get? h.objs.size=some { cls:=.type "tuple",data:=.seq #[es[i].key,es[i].val] }->h'.objs.size=h.objs.size+1->(∀b o,b≠I->h.get? b=some o->h'.get? b=some o) ->
    wpAny (model prog w) A.in1 (updateSeq S (·.push (.ref h.objs.size))) (fun _ s'=>codeAny (model prog w) A (.builtin "list.extend.loop" ⟨[.ref S,.ref I,res],[]⟩) R s') (fun e s'=>R (.error e) s') { s with heap:=h',toks:=tk }:=fun h' st' nw zz x=>by
   have hS':=x _ _ hSI hSo
   have hal:acc.size=i:=by rw[<- Array.length_toList,hac,List.length_map,hl]
   refine wpAny_updateSeq hS' rfl (go h' _ st' nw zz x (fun b o hb q=>(Heap.get?_update_other _ _ (Ne.symm hb)).trans q) (Heap.size_update ..) ⟨_,Heap.get?_update_self _ hS' rfl⟩) (by rw[hal];omega) (by show (acc.push _).size<=sizeLine+1;rw[Array.size_push,hal];omega)
  rcases st with ⟨e,ok,ov,q⟩|⟨a,oa,q,ha,hai,haS⟩
  ·subst e
   refine wpAny_bind (itemsR_item (s:={ s with heap:=h,toks:=tk }) (A:=A.in1) q hd hdd hx fun h' z1 nw zz x=>?_)
   show wpAny _ A.in1 (updateSeq S (·.push (.ref h.objs.size)) >>= _) _ _ _
   exact wpAny_bind (wpAny_mono (step h' (.inr ⟨h.objs.size,_,⟨false,_,_,z1⟩,nw,Nat.ne_of_gt iI,Nat.ne_of_gt hS⟩) nw zz x) (fun _ s' r=>wpAny_pure ⟨plainId_quiet F.plain_extend_loop _,r⟩) fun _ _ r=>r)
  ·refine wpAny_bind (items_next2 (s:={ s with heap:=h,toks:=tk }) (A:=A.in1) q ha hai hd hdd hx fun h' z1 nw zz x=>?_)
   show wpAny _ A.in1 (updateSeq S (·.push (.ref h.objs.size)) >>= _) _ _ _
   exact wpAny_bind (wpAny_mono (step h' (.inr ⟨a,oa,z1,x _ _ hai ha,hai,haS⟩) nw zz x) (fun _ s' r=>wpAny_pure ⟨plainId_quiet F.plain_extend_loop _,r⟩) fun _ _ r=>r)
end
end L2
namespace L2
open PySem PySem.Spec PyProof.Rows
section
variable {prog:Program}{w:World}{A:Around}{E:Value->Shared->Prop}{s:Shared}{v d:Addr}{od:Obj}{es:Array DictEntry}{ep:Nat}
theorem items_extend {R:Result->Shared->Prop} (hh:A.handled=none) (hv:s.heap.IsItemsView v d) (hod:s.heap.get? d=some od) (hdd:od.data=.dict es ep) (hn:es.size<=sizeLine) {S:Addr} (hSv:S≠v) (hSd:d≠S) (res:Value) (hS:s.heap.get? S=some { cls:=.type "list",data:=.seq #[] 0 })
  (hR:∀h' tk acc c as,(∀b o,b≠S->s.heap.get? b=some o->h'.get? b=some o)->h'.get? S=some { cls:=.type "list",dict:=none,data:=.seq acc c,slots:=#[] }->as.length=es.size->as.Nodup->(∀a∈as,s.heap.objs.size<=a)->Prs h' es as->acc.toList=as.map Value.ref->R (.ok (.ret res)) { s with heap:=h',toks:=tk }):
  wpAny (model prog w) A.in1 (Builtin.List.listExtendWith (.ref S) (.ref v) res) (fun fin s'=>match fin with | .done f=>R (.ok f) s' | .again c'=>c'.quiet=true/\codeAny (model prog w) A c' R s') (fun e s'=>R (.error e) s') s:=by
 have lS:S<s.heap.objs.size:=Heap.lt_size hS
 have ld:d<s.heap.objs.size:=Heap.lt_size hod
 have run:∀(h:Heap) (c1 tk:Nat),(∀b o,b≠S->(s.heap.push { cls:=.type "dict_itemiterator",data:=.fields #[.none,.bool false,.ref d,.int 0 0,.int es.size 0,.int ep 0,.none,.none] }).get? b=some o->h.get? b=some o)->s.heap.objs.size<=h.objs.size ->
   h.get? S=some { cls:=.type "list",data:=.seq #[] c1 }->codeAny (model prog w) A (.builtin "list.extend.loop" ⟨[.ref S,.ref s.heap.objs.size,res],[]⟩) R { s with heap:=h,toks:=tk }:=by
  intro h c1 tk hk hz hS1
  have hI:=hk s.heap.objs.size _ (Nat.ne_of_gt lS) (Heap.get?_push_size _ rfl)
  exact items_loop (s:=s) hh (Nat.ne_of_lt lS) hSd (Nat.ne_of_lt ld) hdd hn res s.heap (fun h' tk' acc c as k1 k2 k3 k4 k5 k6 k7=>hR h' tk' acc c as (fun b o hb e=>k1 b o hb (Nat.ne_of_lt (Heap.lt_size e)) e) k2 k3 k4 k5 k6 k7)
   es.size 0 h tk #[] c1 [] (Nat.sub_zero _) (Nat.zero_le _) (Heap.lt_size hS1) hz (.inl ⟨rfl,.none,.none,hI⟩) (hk d _ hSd (Heap.get?_push_of_some _ hod)) hS1 rfl List.nodup_nil (fun _ ha=>nomatch ha) (fun j a hj=>by simp at hj) rfl (fun b o hb _ e=>hk b o hb (Heap.get?_push_of_some _ e))
 unfold Builtin.List.listExtendWith
 refine wpAny_bind (wpAny_typeOf (T:="dict_items") hv.typeIs ?_)
 have c1:Builtin.List.listSameRef (.ref S) (.ref v)=false:=by simp[Builtin.List.listSameRef,hSv]
 have c2:(Value.type "dict_items" == Value.type "list")=false:=by decide
 have c3:(Value.type "dict_items" == Value.type "tuple")=false:=by decide
 simp only[c1,c2,c3,Bool.or_false,Bool.false_eq_true,if_false]
 refine wpAny_bind (itemsR_iter hv hod hdd ?_)
 have hS1:=Heap.get?_push_of_some { cls:=.type "dict_itemiterator",data:=.fields #[.none,.bool false,.ref d,.int 0 0,.int es.size 0,.int ep 0,.none,.none] } hS
 refine wpAny_bind (wpAny_holding (W.kdx_hint (let ⟨o,ho,hc,_⟩:=hv;⟨o,Heap.get?_push_of_some _ ho,hc⟩) ?_))
 refine wpAny_ite_split (fun _=>?_) (fun _=>wpAny_pure ⟨plainId_quiet F.plain_extend_loop _,run _ 0 _ (fun b o _ e=>e) (by show s.heap.objs.size<=(s.heap.push _).objs.size;rw[Heap.size_push];exact Nat.le_succ _) hS1⟩)
 refine wpAny_bind (wpAny_rule (wpAny_bind ?_))
 show wpAny _ _ (updateSeq S (·.push .none) >>= fun _=>updateSeq S (·.pop)) _ _ _
 refine wpAny_bind (wpAny_updateSeq hS1 rfl ?_)
 have hS2:=Heap.get?_update_self (Obj.mapSeq (·.push Value.none)) hS1 rfl
 refine wpAny_updateSeq (hz:=by seq_fits) hS2 rfl ?_
 have hS3:=Heap.get?_update_self (Obj.mapSeq (·.pop)) hS2 rfl
 refine wpAny_pure ⟨plainId_quiet F.plain_extend_loop _,run _ _ _ (fun b o hb e=>(Heap.get?_update_other _ _ (Ne.symm hb)).trans ((Heap.get?_update_other _ _ (Ne.symm hb)).trans e)) ?_ hS3⟩
 show s.heap.objs.size<=(((s.heap.push _).update S _).update S _).objs.size
 rw[Heap.size_update,Heap.size_update,Heap.size_push];exact Nat.le_succ _
theorem items_collect {Q:List Value->Shared->Prop} (hh:A.handled=none) (hv:s.heap.IsItemsView v d) (hod:s.heap.get? d=some od) (hdd:od.data=.dict es ep) (hn:es.size<=sizeLine)
  (h:∀(h':Heap) (tk:Nat) (as:List Addr),s.heap.objs.size<h'.objs.size->(∀b o,s.heap.get? b=some o->h'.get? b=some o)->as.length=es.size->as.Nodup->(∀a∈as,s.heap.objs.size<=a)->Prs h' es as->Q (as.map Value.ref) { s with heap:=h',toks:=tk }):
  wpAny (model prog w) A (collect (.ref v)) Q E s:=by
 have lv:v<s.heap.objs.size:=let ⟨_,ho,_⟩:=hv;Heap.lt_size ho
 have ld:d<s.heap.objs.size:=Heap.lt_size hod
 unfold collect
 refine wpAny_bind (wpAny_runValue (codeAny_builtin F.entry_proto_collect ?_))
 rw[Around.under_plainId F.plain_proto_collect _]
 show wpAny _ A.in1 (newList [] >>= fun l=>again (.builtin "list.__iadd__" ⟨[l,.ref v],[]⟩)) _ _ s
 refine wpAny_bind (wpAny_newObj_type (wpAny_pure ⟨plainId_quiet F.plain_list_iadd _,codeAny_builtin F.entry_list_iadd ?_⟩))
 rw[Around.under_plainId F.plain_list_iadd _]
 have hS1:(s.heap.push { cls:=.type "list",data:=.seq ([]:List Value).toArray }).get? s.heap.objs.size=some { cls:=.type "list",data:=.seq #[] }:=Heap.get?_push_size _ rfl
 have hz1:(s.heap.push { cls:=.type "list",data:=.seq ([]:List Value).toArray }).objs.size=s.heap.objs.size+1:=Heap.size_push ..
 show wpAny _ A.in1 (Builtin.List.listExtendWith (.ref s.heap.objs.size) (.ref v) (.ref s.heap.objs.size)) _ _ _
 have key:=items_extend (prog:=prog) (w:=w) (A:=A) (s:={ s with heap:=s.heap.push { cls:=.type "list",data:=.seq ([]:List Value).toArray } }) (es:=es) (ep:=ep)
  (R:=fun (q:Result) (s':Shared)=>∃(h':Heap) (tk:Nat) (acc':Array Value) (c':Nat) (as:List Addr),q=.ok (.ret (.ref s.heap.objs.size))/\s'={ s with heap:=h',toks:=tk } /\
   (∀b o,s.heap.get? b=some o->h'.get? b=some o)/\h'.get? s.heap.objs.size=some { cls:=.type "list",dict:=none,data:=.seq acc' c',slots:=#[] }/\as.length=es.size/\as.Nodup/\(∀a∈as,s.heap.objs.size<=a)/\Prs h' es as/\acc'.toList=as.map Value.ref)
  hh (let ⟨o,ho,x⟩:=hv;⟨o,Heap.get?_push_of_some _ ho,x⟩) (Heap.get?_push_of_some _ hod) hdd hn (Nat.ne_of_gt lv) (Nat.ne_of_lt ld) (.ref s.heap.objs.size) hS1
  (fun h' tk acc' c' as hk hS' hl hnd hab hG hacc=>⟨h',tk,acc',c',as,rfl,rfl,fun b o e=>hk b o (Nat.ne_of_lt (Heap.lt_size e)) (Heap.get?_push_of_some _ e),hS',hl,hnd,(fun a ha=>Nat.le_trans (by rw[hz1];exact Nat.le_succ _) (hab a ha)),hG,hacc⟩)
 have out:∀(h':Heap) (tk:Nat) (acc':Array Value) (c':Nat) (as:List Addr),(∀b o,s.heap.get? b=some o->h'.get? b=some o)->h'.get? s.heap.objs.size=some { cls:=.type "list",dict:=none,data:=.seq acc' c',slots:=#[] }->as.length=es.size->as.Nodup->(∀a∈as,s.heap.objs.size<=a)->Prs h' es as->acc'.toList=as.map Value.ref ->
   wpAny (model prog w) A (do
    let o <- load s.heap.objs.size
    match o.data with
    | .seq xs _=>pure xs.toList
    | _=>unsupported "internal:collect") Q E { s with heap:=h',toks:=tk }:=fun h' tk acc' c' as k1 k2 k3 k4 k5 k6 k7=>by
  refine wpAny_bind (wpAny_load k2 (wpAny_pure ?_))
  show Q acc'.toList _
  rw[k7]
  exact h h' tk as (Heap.lt_size k2) k1 k3 k4 k5 k6
 refine wpAny_mono key (fun fin s' x=>?_) fun e s' x=>?_
 ·cases fin with
  | done f =>
   obtain ⟨h',tk,acc',c',as,e,rfl,k1,k2,k3,k4,k5,k6,k7⟩:=x
   cases e
   exact out h' tk acc' c' as k1 k2 k3 k4 k5 k6 k7
  | again c1 =>
   refine ⟨x.1,codeAny_mono x.2 fun q s2 y=>?_⟩
   obtain ⟨h',tk,acc',c',as,rfl,rfl,k1,k2,k3,k4,k5,k6,k7⟩:=y
   exact out h' tk acc' c' as k1 k2 k3 k4 k5 k6 k7
 ·obtain ⟨_,_,_,_,_,e',_⟩:=x
  cases e'
end
section
variable {prog:Program}{w:World}{A:Around}{E:Value->Shared->Prop}{s:Shared}
noncomputable def IntT (h:Heap) (v:Value):Prop:=∃(a:Addr) (us:List Value) (ns:List Int),v=.ref a/\IsTup h a us.toArray/\IntsAre us ns
end
end L2
namespace L2
open PySem PySem.Spec PyProof.Rows
section
variable {prog:Program}{w:World}{A:Around}{E:Value->Shared->Prop}{s:Shared}
end
end L2
namespace L2
open PySem PySem.Spec PyProof.Rows
theorem perm_map_inv {α β:Type}{f:α->β}:∀{l:List β}{m:List α},l.Perm (m.map f)->∃m':List α,m'.Perm m/\l=m'.map f
 | [],m,h=>by
  have e:m.map f=[]:=h.nil_eq.symm
  rw[List.map_eq_nil_iff] at e
  exact ⟨[],by rw[e],rfl⟩
 | b::l,m,h=>by
  have hb:b∈m.map f:=h.mem_iff.mp List.mem_cons_self
  obtain ⟨x,hx,e⟩:=List.mem_map.mp hb
  obtain ⟨p,q,em⟩:=List.append_of_mem hx
  subst em e
  have h2:(f x::l).Perm (f x::(p++q).map f):=h.trans (by
   rw[List.map_append,List.map_cons,List.map_append]
   exact List.perm_middle)
  obtain ⟨m',h3,e3⟩:=perm_map_inv (m:=p++q) h2.cons_inv
  exact ⟨x::m',(h3.cons x).trans List.perm_middle.symm,by rw[e3];rfl⟩
noncomputable def PrL (H:Hp):List (List Key × V)->List V->Prop
 | [],[]=>True
 | (k,x)::kvs,y::ys=>(∃p ka,y=.ref p/\H p=some (.tup [.ref ka,x])/\H ka=some (.tup (k.map kV)))/\PrL H kvs ys
 | _,_=>False
theorem PrL.same {H H':Hp} (g:Same H H'):∀{kvs:List (List Key × V)}{ys:List V},PrL H kvs ys->PrL H' kvs ys
 | [],[],_=>trivial
 | (k,x)::kvs,y::ys,h=>⟨let ⟨p,ka,e,a,b⟩:=h.1;⟨p,ka,e,g _ _ a,g _ _ b⟩,PrL.same g h.2⟩
 | [],_::_,h=>h.elim
 | _::_,[],h=>h.elim
theorem PrL.len {H:Hp}:∀{kvs:List (List Key × V)}{ys:List V},PrL H kvs ys->kvs.length=ys.length
 | [],[],_=>rfl
 | (k,x)::kvs,y::ys,h=>by rw[List.length_cons,List.length_cons,PrL.len h.2]
 | [],_::_,h=>h.elim
 | _::_,[],h=>h.elim
theorem PrL.get {H:Hp}:∀{kvs:List (List Key × V)}{ys:List V}{i:Nat}{y:V},PrL H kvs ys->ys[i]?=some y->∃k x p ka,kvs[i]?=some (k,x)/\y=.ref p/\H p=some (.tup [.ref ka,x])/\H ka=some (.tup (k.map kV))
 | (k,x)::kvs,y::ys,0,z,h,e=>by
  obtain ⟨p,ka,e1,a,b⟩:=h.1
  cases e
  exact ⟨k,x,p,ka,rfl,e1,a,b⟩
 | (k,x)::kvs,y::ys,i+1,z,h,e=>PrL.get (i:=i) h.2 e
 | [],[],i,z,h,e=>by simp at e
 | [],_::_,i,z,h,e=>h.elim
 | _::_,[],i,z,h,e=>h.elim
theorem PrL.mk {H:Hp}:∀{L:List (Addr × (List Key × V))},(∀t∈L,∃ka,H t.1=some (.tup [.ref ka,t.2.2])/\H ka=some (.tup (t.2.1.map kV)))->PrL H (L.map (·.2)) (L.map fun t=>V.ref t.1)
 | [],_=>trivial
 | (a,(k,x))::L,h=>⟨let ⟨ka,e1,e2⟩:=h _ List.mem_cons_self;⟨a,ka,rfl,e1,e2⟩,PrL.mk fun t ht=>h t (List.mem_cons_of_mem _ ht)⟩
noncomputable def ViewO (v d:Addr):HO:=.ext fun h=>h.get? v=some { cls:=.type "dict_items",data:=.fields #[.ref d] }
section
variable {X:Cx}{pins:List (Addr × Obj)}{σ:St}{H:Hp}{s:Shared}
theorem Inv.lays {N:Hp}{h':Heap}{t':Nat} (I:Inv X pins σ H s) (k:∀b u,s.heap.get? b=some u->h'.get? b=some u)
  (ok:∀b o,s.heap.objs.size<=b->N b=some o->ObjOk X.prog X.w (fun b=>if b<s.heap.objs.size then H b else N b) h' b o):
  Inv X pins σ (fun b=>if b<s.heap.objs.size then H b else N b) { s with heap:=h',toks:=t' }:=by
 have lo:∀b o,H b=some o->(fun b=>if b<s.heap.objs.size then H b else N b) b=some o:=fun b o e=>by
  show (if b<s.heap.objs.size then H b else N b)=some o
  rw[if_pos (I.hok.lt e)];exact e
 refine I.un ⟨fun b o q _ _ _=>k b o q,fun b o q _ _ _=>⟨o.slots,k b o q⟩,fun b o q n _=>?_,fun b o q _=>⟨o,k b o q⟩,fun b xs q=>lo b _ q,fun b o u q=>lo b _ q,fun b ps q=>⟨#[],(lo b _ q).trans (by simp)⟩⟩ fun b o e=>?_
 ·show (if b<s.heap.objs.size then H b else N b)=none
  rw[if_pos (Heap.lt_size q)];exact n
 ·by_cases hb:b<s.heap.objs.size
  ·have e':H b=some o:=by
    have:(if b<s.heap.objs.size then H b else N b)=some o:=e
    rwa [if_pos hb] at this
   exact (I.hok b o e').stay (fun c v _ q=>k c v q) (fun c q=>lo c _ q) fun c xs q=>lo c _ q
  ·have e':N b=some o:=by
    have:(if b<s.heap.objs.size then H b else N b)=some o:=e
    rwa [if_neg hb] at this
   exact ok b o (Nat.le_of_not_lt hb) e'
noncomputable def tItems (td:TE):TE:=fun σ H Q=>td σ H fun x H1=>∃d kvs,x=.ref d/\H1 d=some (.dT kvs)/\∀v,H1 v=none->Q (.ref v) (upd H1 v (ViewO v d))
theorem pe_items {e:Expr}{apos cpos:Pos}{td:TE} (ho:PE X e td) (hbase:attributeBase e "items" X.env (eval e X.env)=eval e X.env:=by rfl) (hline:(apos.endLine == cpos.line)=true:=by rfl):
  PE X (.Call (.Attribute e "items" apos) [] [] cpos) (tItems td):=by
 intro pins s σ H Q I h
 refine wpAny_Call_method0_late hbase hline (thn (ho pins s σ H _ I h) fun v s1 ⟨x,H1,I1,r1,d,kvs,ex,hd,q⟩=>?_)
 subst ex
 cases r1
 obtain ⟨_,hsys,_,_,o,_,_,hob,hex,_⟩:=(show ObjOk X.prog X.w H1 s1.heap d (.dT kvs) from I1.hok d _ hd)
 refine ⟨"dict","dict.items",PySem.F.plainAttrs_dict,PySem.F.slot_dict_items,PySem.F.type_dict_items,⟨o,hob,hex.1⟩,fun a e=>by cases e;exact ⟨o,hob,hex.2.1⟩,Calls.callWith_builtin rfl (PySem.evalArgs_none ?_)⟩
 refine itemsR_new hsys ⟨o,hob,hex.1⟩ ?_
 have hf:H1 s1.heap.objs.size=none:=I1.hok.fresh (Nat.le_refl _)
 refine ⟨.ref s1.heap.objs.size,_,I1.laid (t':=s1.toks) (o:=ViewO s1.heap.objs.size d) (fun b o e=>Heap.get?_push_of_some _ e) (Nat.le_refl _) ?_,rfl,q _ hf⟩
 exact ⟨Heap.get?_push_size _ rfl,⟨_,Heap.get?_push_size _ rfl⟩,fun h1 h2 a b=>b _ a⟩
theorem lookup_zip {β:Type}:∀{as:List Addr}{bs:List β}{j:Nat}{a:Addr}{b:β},as.Nodup->as[j]?=some a->bs[j]?=some b->(as.zip bs).lookup a=some b
 | [],_,j,a,b,_,h,_=>by simp at h
 | x::as,[],j,a,b,_,_,h=>by simp at h
 | x::as,y::bs,0,a,b,_,h1,h2=>by
  simp at h1 h2
  subst h1 h2
  rw[List.zip_cons_cons,List.lookup_cons];simp
 | x::as,y::bs,j+1,a,b,hn,h1,h2=>by
  rw[List.nodup_cons] at hn
  have ha:a∈as:=List.mem_of_getElem? (show as[j]?=some a by simpa using h1)
  have ne:a≠x:=fun e=>hn.1 (e ▸ ha)
  rw[List.zip_cons_cons,List.lookup_cons,show (a == x)=false from beq_eq_false_iff_ne.mpr ne]
  exact lookup_zip hn.2 (by simpa using h1) (by simpa using h2)
theorem lookup_mem {β:Type}:∀{as:List Addr}{bs:List β}{a:Addr}{b:β},(as.zip bs).lookup a=some b->∃j:Nat,as[j]?=some a/\bs[j]?=some b
 | [],_,a,b,h=>by simp at h
 | x::as,[],a,b,h=>by simp at h
 | x::as,y::bs,a,b,h=>by
  rw[List.zip_cons_cons,List.lookup_cons] at h
  by_cases e:a=x
  ·subst e
   simp at h
   exact ⟨0,rfl,by rw[h];rfl⟩
  ·rw[show (a == x)=false from beq_eq_false_iff_ne.mpr e] at h
   obtain ⟨j,h1,h2⟩:=lookup_mem h
   exact ⟨j+1,by simpa using h1,by simpa using h2⟩
theorem kV_ints (ns:List Int):(ns.map (Sum.inl:Int->Key)).map kV=ns.map V.int:=by rw[List.map_map];rfl
theorem intT_of {P:Program}{w:World}{h:Heap}{q:Addr}{ms:List Int} (ok:HOk P w H h) (e:H q=some (.tup (ms.map V.int))):IntT h (.ref q):=by
 obtain ⟨_,its,r,t⟩:=(show ObjOk P w H h q (.tup (ms.map V.int)) from ok q _ e)
 exact ⟨q,its,ms,rfl,t,intsAre_of r⟩
theorem IntT.keep {h h':Heap}{v:Value} (x:IntT h v) (k:∀a o,v=.ref a->h.get? a=some o->h'.get? a=some o):IntT h' v:=by
 obtain ⟨a,us,ns,e,⟨o,ho,r⟩,i⟩:=x
 exact ⟨a,us,ns,e,⟨o,k a o e ho,r⟩,i⟩
theorem katTups_of {h:Heap}:∀{as:List Addr}{fs:List Value},(∀(j:Nat) (a:Addr),as[j]?=some a->∃f q,fs[j]?=some f/\h.get? a=some { cls:=.type "tuple",data:=.seq #[f,q] })->as.length=fs.length->W.KatTups h (as.map Value.ref) fs
 | [],[],_,_=>W.KatTups.nil
 | a::as,f::fs,hh,hl=>by
  obtain ⟨f',q,e1,e2⟩:=hh 0 a rfl
  cases e1
  exact W.KatTups.cons e2 rfl rfl rfl (katTups_of (fun j b hb=>by
   obtain ⟨f,q,e1,e2⟩:=hh (j+1) b (by simpa using hb)
   exact ⟨f,q,by simpa using e1,e2⟩) (by simpa using hl))
 | [],_::_,_,hl=>by simp at hl
 | _::_,[],_,hl=>by simp at hl
end
end L2
namespace L2
open PySem PySem.Spec PyProof.Rows
section
variable {K:W.Frag}{σ0:St}{te:TE}{H:Hp}{F:List V->Hp->Prop}
theorem blk_list2 {a:Addr}{xs:List V} (hn:xs.length<=sizeLine) (Pv:Nat->List V->Hp->Prop) (h0:Pv 0 [] H) (hl:∀i ys H,Pv i ys H->ys.length=i) (hq:∀i ys H,i<=xs.length->Pv i ys H->SqL K H a xs) (hσ:σ0[0]?=some none/\σ0[1]?=some none)
  (hs:∀i ys H x,xs[i]?=some x->Pv i ys H->∃r y z,x=.ref r/\SqT K H r [y,z]/\te ((σ0.set 0 (some y)).set 1 (some z)) H fun u H'=>Pv (i+1) (ys++[u]) H') (hd:∀ys H,Pv xs.length ys H->F ys H):
  Blk (Itl K a) σ0 (gTup K 2 (gCons (gName 0) (gCons (gName 1) gNil))) tTrue te H F:=by
 refine ⟨fun i m ys H=>m=xs.length - i/\i<=xs.length/\Pv i ys H,⟨xs.length,by simp,Nat.zero_le _,h0⟩,?_⟩
 rintro i m ys H2 ⟨rfl,hi,p⟩
 have q:=hq i ys H2 hi p
 refine ⟨by rw[hl i ys H2 p];omega,?_⟩
 by_cases hlt:i<xs.length
 ·refine .inr ⟨⟨xs,xs[i],q,by simp[hlt]⟩,fun y H'=>Pv (i+1) (ys++[y]) H',fun _=>False,fun y H' q=>⟨xs.length - (i+1),by omega,rfl,hlt,q⟩,fun _ q=>q.elim,fun x H3 y=>?_⟩
  obtain ⟨rfl,y⟩:=y
  obtain ⟨r,y1,z1,rfl,hr,ht⟩:=hs i ys _ x (y xs q) p
  exact ⟨r,[y1,z1],rfl,hr,rfl,y1,[z1],rfl,z1,[],rfl,rfl,wk2 hσ _ _,ht⟩
 ·have e:i=xs.length:=by omega
  subst e
  exact .inl ⟨⟨xs,q,Nat.le_refl _⟩,hd ys H2 p⟩
end
theorem canLayI':∀ns:List Int,PyData.canLayAll0 (ns.map PyData.int)=true
 | []=>rfl
 | n::ns=>by
  show PyData.canLayAll0 (.int n::ns.map PyData.int)=true
  unfold PyData.canLayAll0
  rw[canLayI' ns]
  first|rfl|simp[PyData.canLay0]
theorem depthI':∀ns:List Int,PyData.depthAll (ns.map PyData.int)<=1
 | []=>by first|decide|simp[PyData.depthAll]
 | n::ns=>by
  have:=depthI' ns
  show PyData.depthAll (.int n::ns.map PyData.int)<=1
  unfold PyData.depthAll
  have h:PyData.depth (.int n)<=1:=by first|decide|simp[PyData.depth]
  omega
theorem layI (ns:List Int):PyData.canLay0 (DI ns)=true/\PyData.depth (DI ns)<=2:=by
 refine ⟨?_,?_⟩
 ·show PyData.canLay0 (.tuple (ns.map PyData.int))=true
  unfold PyData.canLay0
  exact canLayI' ns
 ·have:=depthI' ns
  show PyData.depth (.tuple (ns.map PyData.int))<=2
  unfold PyData.depth
  omega
theorem shapedI' (ns:List Int):SeqAt.shaped (DI ns)=true:=by
 unfold SeqAt.shaped
 rw[Bool.and_eq_true]
 exact ⟨(layI ns).1,decide_eq_true (by have:=(layI ns).2;omega)⟩
theorem eqvI (a b:List Int):PyData.eqv (DI a) (DI b)=decide (a=b):=by unfold DI PyData.eqv;exact eqvI2 a b
theorem eqD_dec {H:Hp}{x y:V}{a b:List Int}{l:Addr}{Q:VK} (hx:Dt l H (DI a) x) (hy:Dt l H (DI b) y) (q:Q (.bl (decide (a=b))) H):rEqD x y H Q:=by
 refine ⟨l,DI a,DI b,hx,hy,shapedI' a,shapedI' b,?_⟩
 rw[eqvI];exact q
theorem neD_dec {H:Hp}{x y:V}{a b:List Int}{l:Addr}{Q:VK} (hx:Dt l H (DI a) x) (hy:Dt l H (DI b) y) (q:Q (.bl (!decide (a=b))) H):rNeD x y H Q:=by
 refine ⟨l,DI a,DI b,hx,hy,shapedI' a,shapedI' b,?_⟩
 rw[eqvI];exact q
end L2
namespace Mq
open PySem PySem.Spec L2 Mt Md
noncomputable abbrev TabQ:=List (List Int × Rat)
noncomputable def addQ:TabQ->List Int->Rat->TabQ
 | [],k,x=>[(k,x)]
 | p::D,k,x=>if p.1=k then (p.1,p.2+x)::D else p::addQ D k x
noncomputable def valQ:TabQ->List Int->Rat
 | [],_=>0
 | p::D,k=>if p.1=k then p.2 else valQ D k
noncomputable def linQ:TabQ->(List Int->Rat)->Rat
 | [],_=>0
 | p::D,φ=>p.2*φ p.1+linQ D φ
theorem linQ_cons (p:List Int × Rat) (D:TabQ) (φ:List Int->Rat):linQ (p::D) φ=p.2*φ p.1+linQ D φ:=rfl
theorem linQ_add (k:List Int) (x:Rat) (φ:List Int->Rat):∀D:TabQ,linQ (addQ D k x) φ=linQ D φ+x*φ k
 | []=>by show x*φ k+0=0+x*φ k;grind
 | p::D=>by
  unfold addQ
  split
  ·rename_i e
   rw[linQ_cons,linQ_cons]
   show (p.2+x)*φ p.1+_=_
   rw[e];grind
  ·rw[linQ_cons,linQ_cons,linQ_add k x φ D];grind
theorem linQ_perm {φ:List Int->Rat}{T T':TabQ} (h:T.Perm T'):linQ T φ=linQ T' φ:=by
 induction h with
 | nil=>rfl
 | cons p _ ih=>rw[linQ_cons,linQ_cons,ih]
 | swap p q l=>rw[linQ_cons,linQ_cons,linQ_cons,linQ_cons];grind
 | trans _ _ h1 h2=>rw[h1,h2]
theorem linQ_sum (φ:List Int->Rat):∀T:TabQ,linQ T φ=sumQ (T.map fun p=>φ p.1*p.2)
 | []=>rfl
 | p::T=>by rw[linQ_cons,linQ_sum φ T,List.map_cons];show _=φ p.1*p.2+_;grind
theorem keys_addQ {k:List Int}{x:Rat}:∀{D:TabQ}{p:List Int × Rat},p∈addQ D k x->p.1=k ∨ ∃q∈D,q.1=p.1
 | [],p,h=>by
  unfold addQ at h
  rw[List.mem_singleton.mp h];exact .inl rfl
 | q::D,p,h=>by
  unfold addQ at h
  split at h
  ·rcases List.mem_cons.mp h with z|z
   ·subst z;exact .inr ⟨q,List.mem_cons_self,rfl⟩
   ·exact .inr ⟨p,List.mem_cons_of_mem _ z,rfl⟩
  ·rcases List.mem_cons.mp h with z|z
   ·subst z;exact .inr ⟨_,List.mem_cons_self,rfl⟩
   ·rcases keys_addQ z with y|⟨r,hr,e⟩
    ·exact .inl y
    ·exact .inr ⟨r,List.mem_cons_of_mem _ hr,e⟩
theorem len_addQ (k:List Int) (x:Rat):∀D:TabQ,(addQ D k x).length<=D.length+1
 | []=>by unfold addQ;simp
 | p::D=>by
  unfold addQ
  split
  ·simp
  ·have:=len_addQ k x D
   rw[List.length_cons,List.length_cons];omega
noncomputable def NDq (D:TabQ):Prop:=(D.map (·.1)).Nodup
theorem nd_addQ {k:List Int}{x:Rat}:∀{D:TabQ},NDq D->NDq (addQ D k x)
 | [],_=>by unfold addQ NDq;simp
 | p::D,h=>by
  unfold NDq at h
  rw[List.map_cons,List.nodup_cons] at h
  unfold addQ
  split
  ·unfold NDq;rw[List.map_cons,List.nodup_cons];exact h
  ·rename_i e
   unfold NDq;rw[List.map_cons,List.nodup_cons]
   refine ⟨fun z=>?_,nd_addQ h.2⟩
   obtain ⟨q,hq,eq⟩:=List.mem_map.mp z
   rcases keys_addQ hq with y|⟨r,hr,er⟩
   ·exact e (by rw[<- eq,y])
   ·exact h.1 (List.mem_map.mpr ⟨r,hr,by rw[er,eq]⟩)
noncomputable def FrAt (H:Hp) (x:Rat) (v:V):Prop:=∃q,v=.ref q/\H q=some (.tup ((fr x).map V.int))
theorem FrAt.same {H H':Hp}{x:Rat}{v:V} (h:∀a xs,H a=some (.tup xs)->H' a=some (.tup xs)):FrAt H x v->FrAt H' x v:=fun ⟨q,e,a⟩=>⟨q,e,h _ _ a⟩
noncomputable def QE (H:Hp):TabQ->List (List Key × V)->Prop
 | [],[]=>True
 | p::T,kv::kvs=>kv.1=kI p.1/\FrAt H p.2 kv.2/\QE H T kvs
 | _,_=>False
theorem QE.mono {H H':Hp} (h:∀a xs,H a=some (.tup xs)->H' a=some (.tup xs)):∀{T:TabQ}{kvs:List (List Key × V)},QE H T kvs->QE H' T kvs
 | [],[],_=>trivial
 | _::_,_::_,⟨a,b,c⟩=>⟨a,b.same h,QE.mono h c⟩
 | [],_::_,h'=>h'.elim
 | _::_,[],h'=>h'.elim
theorem QE.len {H:Hp}:∀{T:TabQ}{kvs:List (List Key × V)},QE H T kvs->kvs.length=T.length
 | [],[],_=>rfl
 | _::_,_::_,⟨_,_,c⟩=>by rw[List.length_cons,List.length_cons,QE.len c]
 | [],_::_,h'=>h'.elim
 | _::_,[],h'=>h'.elim
theorem QE.get {H:Hp}:∀{T:TabQ}{kvs:List (List Key × V)}{i:Nat}{k:List Key}{x:V},QE H T kvs->kvs[i]?=some (k,x)->∃p,T[i]?=some p/\k=kI p.1/\FrAt H p.2 x
 | p::_,_::_,0,_,_,⟨a,b,_⟩,h=>by cases h;exact ⟨p,rfl,a,b⟩
 | _::_,_::_,i+1,_,_,⟨_,_,c⟩,h=>QE.get (i:=i) c (by simpa using h)
 | [],[],_,_,_,_,h=>by simp at h
 | [],_::_,_,_,_,h',_=>h'.elim
 | _::_,[],_,_,_,h',_=>h'.elim
theorem QE.val {H:Hp}{k:List Int}{z:V} (hz:FrAt H 0 z):∀{T:TabQ}{kvs:List (List Key × V)},QE H T kvs->FrAt H (valQ T k) ((valV kvs (kI k)).getD z)
 | [],[],_=>hz
 | p::T,kv::kvs,⟨a,b,c⟩=>by
  obtain ⟨kk,x⟩:=kv
  have a:kk=kI p.1:=a
  subst a
  unfold valQ
  by_cases e:p.1=k
  ·rw[if_pos e,valV_pos (by rw[e])];exact b
  ·rw[if_neg e,valV_neg (fun z=>e (kI_inj z))];exact QE.val hz c
 | [],_::_,h'=>h'.elim
 | _::_,[],h'=>h'.elim
theorem QE.any {H:Hp}{k:List Int}:∀{T:TabQ}{kvs:List (List Key × V)},QE H T kvs->(kvs.any fun kv=>decide (kv.1=kI k))=decide (k∈T.map (·.1))
 | [],[],_=>rfl
 | p::T,kv::kvs,⟨a,_,c⟩=>by
  obtain ⟨kk,x⟩:=kv
  have a:kk=kI p.1:=a
  subst a
  show (decide (kI p.1=kI k) || kvs.any _)=_
  rw[QE.any c]
  by_cases e:p.1=k
  ·rw[decide_eq_true (show kI p.1=kI k by rw[e]),Bool.true_or,decide_eq_true (by rw[<- e];simp)]
  ·rw[decide_eq_false (fun z=>e (kI_inj z)),Bool.false_or]
   congr 1
   simp[Ne.symm e]
 | [],_::_,h'=>h'.elim
 | _::_,[],h'=>h'.elim
theorem QE.keep {H:Hp}{k:List Int}{v:V}:∀{T:TabQ}{kvs:List (List Key × V)},QE H T kvs->¬ k∈T.map (·.1)->kvs.map (fun kv=>if kv.1=kI k then (kv.1,v) else kv)=kvs
 | [],[],_,_=>rfl
 | p::T,kv::kvs,⟨a,_,c⟩,h=>by
  obtain ⟨kk,x⟩:=kv
  have a:kk=kI p.1:=a
  subst a
  rw[List.map_cons,List.mem_cons,not_or] at h
  show (if kI p.1=kI k then (kI p.1,v) else (kI p.1,x))::kvs.map _=(kI p.1,x)::kvs
  rw[if_neg (fun z=>h.1 (kI_inj z).symm),QE.keep c h.2]
 | [],_::_,h',_=>h'.elim
 | _::_,[],h',_=>h'.elim
theorem QE.snoc {H:Hp}{k:List Int}{x:Rat}{v:V} (hv:FrAt H x v):∀{T:TabQ}{kvs:List (List Key × V)},QE H T kvs->QE H (T++[(k,x)]) (kvs++[(kI k,v)])
 | [],[],_=>⟨rfl,hv,trivial⟩
 | p::T,kv::kvs,⟨a,b,c⟩=>⟨a,b,QE.snoc hv c⟩
 | [],_::_,h'=>h'.elim
 | _::_,[],h'=>h'.elim
theorem addQ_no {k:List Int}{x:Rat}:∀(D:TabQ),¬ k∈D.map (·.1)->addQ D k x=D++[(k,x)]
 | [],_=>rfl
 | p::D,h=>by
  rw[List.map_cons,List.mem_cons,not_or] at h
  unfold addQ
  rw[if_neg (Ne.symm h.1),addQ_no D h.2];rfl
theorem valQ_no {k:List Int}:∀(D:TabQ),¬ k∈D.map (·.1)->valQ D k=0
 | [],_=>rfl
 | p::D,h=>by
  rw[List.map_cons,List.mem_cons,not_or] at h
  unfold valQ
  rw[if_neg (Ne.symm h.1),valQ_no D h.2]
theorem QE.put {H:Hp}{k:List Int}{x:Rat}{v:V}:∀{T:TabQ}{kvs:List (List Key × V)},QE H T kvs->NDq T->FrAt H (valQ T k+x) v->QE H (addQ T k x) (putK kvs (kI k) v):=by
 intro T kvs q nd hv
 unfold putK
 rw[q.any]
 by_cases hk:k∈T.map (·.1)
 ·rw[decide_eq_true hk,if_pos rfl]
  induction T generalizing kvs with
  | nil=>simp at hk
  | cons p T ih =>
   cases kvs with
   | nil=>exact q.elim
   | cons kv kvs =>
    obtain ⟨a,b,c⟩:=q
    obtain ⟨kk,y⟩:=kv
    have a:kk=kI p.1:=a
    subst a
    unfold NDq at nd
    rw[List.map_cons,List.nodup_cons] at nd
    unfold addQ
    by_cases e:p.1=k
    ·rw[if_pos e]
     show QE H _ ((if kI p.1=kI k then _ else _)::kvs.map _)
     rw[if_pos (by rw[e]),c.keep (by rw[<- e];exact nd.1)]
     unfold valQ at hv
     rw[if_pos e] at hv
     exact ⟨rfl,hv,c⟩
    ·rw[if_neg e]
     show QE H _ ((if kI p.1=kI k then _ else _)::kvs.map _)
     rw[if_neg (fun z=>e (kI_inj z))]
     unfold valQ at hv
     rw[if_neg e] at hv
     have hk':k∈T.map (·.1):=by
      rw[List.map_cons,List.mem_cons] at hk
      exact hk.resolve_left (Ne.symm e)
     exact ⟨rfl,b,ih c nd.2 hv hk'⟩
 ·rw[decide_eq_false hk,if_neg (by decide),addQ_no T hk]
  rw[valQ_no T hk] at hv
  refine QE.snoc ?_ q
  rw[show (0:Rat)+x=x by grind] at hv
  exact hv
theorem QE.keys {H:Hp}:∀{T:TabQ}{kvs:List (List Key × V)},QE H T kvs->∀kx∈kvs,(∃ns:List Int,kx.1=ns.map Sum.inl)/\∃(q:Addr) (ms:List Int),kx.2=.ref q/\H q=some (.tup (ms.map V.int))
 | [],[],_,kx,h=>by simp at h
 | p::T,kv::kvs,⟨a,⟨q,e,hq⟩,c⟩,kx,h=>by
  rcases List.mem_cons.mp h with z|z
  ·subst z;exact ⟨⟨p.1,a⟩,q,_,e,hq⟩
  ·exact QE.keys c kx z
 | [],_::_,h',_,_=>h'.elim
 | _::_,[],h',_,_=>h'.elim
theorem QE.perm {H:Hp}:∀{T:TabQ}{kvs kvs':List (List Key × V)},QE H T kvs->kvs'.Perm kvs->∃T':TabQ,T'.Perm T/\QE H T' kvs':=by
 intro T kvs kvs' q h0
 have h:=h0.symm
 clear h0
 induction h generalizing T with
 | nil=>exact ⟨T,.refl _,q⟩
 | cons kv _ ih =>
  cases T with
  | nil=>exact q.elim
  | cons p T =>
   obtain ⟨a,b,c⟩:=q
   obtain ⟨T',h1,h2⟩:=ih c
   exact ⟨p::T',h1.cons p,a,b,h2⟩
 | swap x y l =>
  cases T with
  | nil=>exact q.elim
  | cons p T =>
   cases T with
   | nil=>exact q.2.2.elim
   | cons p' T =>
    obtain ⟨a,b,a',b',c⟩:=q
    exact ⟨p'::p::T,List.Perm.swap _ _ _,a',b',a,b,c⟩
 | trans _ _ h1 h2 =>
  obtain ⟨T1,e1,q1⟩:=h1 q
  obtain ⟨T2,e2,q2⟩:=h2 q1
  exact ⟨T2,e2.trans e1,q2⟩
noncomputable def putsQ (x:Rat) (s:Int):List (Int × List Int)->TabQ->TabQ
 | [],D=>D
 | b::bs,D=>putsQ x s bs (addQ D b.2 (x*cut b.1 s))
noncomputable def nextLQ (rs:List (List Int)):TabQ->TabQ->TabQ
 | [],D=>D
 | p::T,D=>nextLQ rs T (putsQ p.2 p.1.sum (ubo rs p.1) D)
noncomputable def nextQ (rs:List (List Int)) (T:TabQ):TabQ:=nextLQ rs T []
noncomputable def chQ (rs:List (List Int)):Nat->TabQ->TabQ
 | 0,D=>D
 | k+1,D=>nextQ rs (chQ rs k D)
noncomputable def opQ (rs:List (List Int)) (φ:List Int->Rat) (u:List Int):Rat:=sumQ ((List.range u.length).map fun i=>share u i*φ (addL u (rs.getD i [])))
theorem putsQ_snoc (x:Rat) (s:Int) (b:Int × List Int):∀(bs:List (Int × List Int)) (D:TabQ),putsQ x s (bs++[b]) D=addQ (putsQ x s bs D) b.2 (x*cut b.1 s)
 | [],D=>rfl
 | c::bs,D=>by
  show putsQ x s (bs++[b]) (addQ D c.2 (x*cut c.1 s))=_
  rw[putsQ_snoc x s b bs];rfl
theorem nextLQ_snoc (rs:List (List Int)) (p:List Int × Rat):∀(T D:TabQ),nextLQ rs (T++[p]) D=putsQ p.2 p.1.sum (ubo rs p.1) (nextLQ rs T D)
 | [],D=>rfl
 | c::T,D=>by
  show nextLQ rs (T++[p]) (putsQ c.2 c.1.sum (ubo rs c.1) D)=_
  rw[nextLQ_snoc rs p T];rfl
theorem linQ_puts (x:Rat) (s:Int) (φ:List Int->Rat):∀(bs:List (Int × List Int)) (D:TabQ),linQ (putsQ x s bs D) φ=linQ D φ+x*sumQ (bs.map fun b=>cut b.1 s*φ b.2)
 | [],D=>by show _=_+x*0;unfold putsQ;grind
 | b::bs,D=>by
  unfold putsQ
  rw[linQ_puts x s φ bs,linQ_add,List.map_cons]
  show _=_+x*(cut b.1 s*φ b.2+sumQ _)
  grind
theorem sumQ_range_add {f:Nat->Rat} (n:Nat):sumQ ((List.range (n+1)).map f)=f 0+sumQ ((List.range n).map fun i=>f (i+1)):=by
 rw[List.range_succ_eq_map,List.map_cons,List.map_map];rfl
theorem uboL_sumQ (rs:List (List Int)) (φ:List Int->Rat) (u:List Int) {s:Int} (hs:0<s):∀(bs:List Int) (i:Nat),(∀b∈bs,0<=b)->sumQ ((uboL rs u i bs).map fun b=>cut b.1 s*φ b.2)=sumQ ((List.range bs.length).map fun j=>cut (bs.getD j 0) s*φ (addL u (rs.getD (i+j) [])))
 | [],i,_=>rfl
 | b::bs,i,h=>by
  have ih:=uboL_sumQ rs φ u hs bs (i+1) fun x hx=>h x (List.mem_cons_of_mem _ hx)
  have hb:=h b List.mem_cons_self
  have e:((List.range bs.length).map fun j=>cut ((b::bs).getD (j+1) 0) s*φ (addL u (rs.getD (i+(j+1)) [])))=((List.range bs.length).map fun j=>cut (bs.getD j 0) s*φ (addL u (rs.getD (i+1+j) []))):=by
   refine List.map_congr_left fun j _=>?_
   rw[show i+(j+1)=i+1+j by omega];rfl
  rw[List.length_cons,sumQ_range_add (f:=fun j=>cut ((b::bs).getD j 0) s*φ (addL u (rs.getD (i+j) []))),e,<- ih,uboL_cons]
  split
  ·rfl
  ·have:b=0:=by omega
   subst this
   show _=cut 0 s*_+_
   rw[cut_zero hs];grind
theorem ubo_sumQ (rs:List (List Int)) (φ:List Int->Rat) {u:List Int} (h:∀b∈u,0<=b) (hs:0<u.sum):sumQ ((ubo rs u).map fun b=>cut b.1 u.sum*φ b.2)=opQ rs φ u:=by
 unfold ubo opQ share
 rw[uboL_sumQ rs φ u hs u 0 h]
 simp
theorem linQ_nextL (rs:List (List Int)) (φ:List Int->Rat):∀(T D:TabQ),(∀p∈T,(∀b∈p.1,0<=b)/\0<p.1.sum)->linQ (nextLQ rs T D) φ=linQ D φ+linQ T (opQ rs φ)
 | [],D,_=>by unfold nextLQ;show _=_+0;grind
 | p::T,D,h=>by
  have hp:=h p List.mem_cons_self
  unfold nextLQ
  rw[linQ_nextL rs φ T _ fun q hq=>h q (List.mem_cons_of_mem _ hq),linQ_puts,ubo_sumQ rs φ hp.1 hp.2,linQ_cons];grind
theorem linQ_next {rs:List (List Int)}{φ:List Int->Rat}{T:TabQ} (h:∀p∈T,(∀b∈p.1,0<=b)/\0<p.1.sum):linQ (nextQ rs T) φ=linQ T (opQ rs φ):=by
 unfold nextQ
 rw[linQ_nextL rs φ T [] h]
 show 0+_=_;grind
structure Vq (N B:Nat) (x:Rat):Prop where
 nn:0<=x
 le:x<=(B:Rat)
 dv:∃z:Int,x*(N:Rat)=(z:Rat)
theorem Vq.mono {N B C:Nat}{x:Rat} (h:Vq N B x) (l:B<=C):Vq N C x:=⟨h.nn,by
 have:((B:Nat):Rat)<=((C:Nat):Rat):=by exact_mod_cast l
 have:=h.le
 grind,h.dv⟩
theorem Vq.zero (N B:Nat):Vq N B 0:=⟨by grind,by exact_mod_cast Nat.zero_le B,0,by grind⟩
theorem Vq.add {N B C:Nat}{x y:Rat} (h:Vq N B x) (k:Vq N C y):Vq N (B+C) (x+y):=by
 obtain ⟨z,hz⟩:=h.dv
 obtain ⟨t,ht⟩:=k.dv
 have h1:=h.nn;have h2:=h.le;have k1:=k.nn;have k2:=k.le
 refine ⟨by grind,?_,z+t,?_⟩
 ·have:((B+C:Nat):Rat)=(B:Rat)+(C:Rat):=by push_cast;rfl
  grind
 ·have:((z+t:Int):Rat)=(z:Rat)+(t:Rat):=by push_cast;rfl
  grind
theorem Vq.mul {N M B C:Nat}{x y:Rat} (h:Vq N B x) (k:Vq M C y):Vq (N*M) (B*C) (x*y):=by
 obtain ⟨z,hz⟩:=h.dv
 obtain ⟨t,ht⟩:=k.dv
 have h1:=h.nn;have h2:=h.le;have k1:=k.nn;have k2:=k.le
 have hB:(0:Rat)<=(B:Rat):=by grind
 refine ⟨Rat.mul_nonneg h1 k1,?_,z*t,?_⟩
 ·have e:((B*C:Nat):Rat)=(B:Rat)*(C:Rat):=by push_cast;rfl
  rw[e]
  have a1:=Rat.mul_le_mul_of_nonneg_right h2 k1
  have a2:=Rat.mul_le_mul_of_nonneg_left k2 hB
  grind
 ·have e1:((N*M:Nat):Rat)=(N:Rat)*(M:Rat):=by push_cast;rfl
  have e2:((z*t:Int):Rat)=(z:Rat)*(t:Rat):=by push_cast;rfl
  rw[e1,e2,<- hz,<- ht];grind
theorem Vq.one (N:Nat):Vq N 1 1:=⟨by grind,by grind,N,by
 have:((N:Int):Rat)=(N:Rat):=by norm_cast
 grind⟩
end Mq
namespace Mq
open PySem PySem.Spec L2 Mt Md
noncomputable def LL:Nat:=(List.range 200).foldl (fun a i=>Nat.lcm a (i+1)) 1
theorem LL_dvd {s:Nat} (h0:0<s) (h:s<=200):∃q,LL=s*q:=by
 have h1:(List.range 201).all (fun s=>s == 0 || LL % s == 0)=true:=by decide +kernel
 have h2:=List.all_eq_true.mp h1 s (List.mem_range.mpr (by omega))
 have h3:LL % s=0:=by
  have:(s == 0)=false:=by simp;omega
  rw[this,Bool.false_or] at h2
  exact beq_iff_eq.mp h2
 exact ⟨LL / s,(Nat.mul_div_cancel' (Nat.dvd_of_mod_eq_zero h3)).symm⟩
theorem LL_le:LL<=2 ^ 300:=by decide +kernel
theorem LL_pos:0<LL:=by decide +kernel
theorem cut_self_mul {t s:Int} (hs:0<s):cut t s*(s:Rat)=(t:Rat):=by
 unfold cut
 have e:(((s.toNat:Nat):Int):Rat)=(s:Rat):=by congr 1;omega
 rw[Rat.mkRat_eq_div,<- e]
 have h:((s.toNat:Nat):Rat)≠0:=by
  intro z
  have:s.toNat=0:=by exact_mod_cast z
  omega
 have e2:(((s.toNat:Nat):Int):Rat)=((s.toNat:Nat):Rat):=by norm_cast
 rw[e2]
 exact Rat.div_mul_cancel h
theorem rat_le_of {x y:Rat}{s:Rat} (hs:0<s) (h:x*s<=y*s):x<=y:=Rat.le_of_mul_le_mul_right h hs
theorem rat_eq_of {x y:Rat}{s:Rat} (hs:0<s) (h:x*s=y*s):x=y:=by
 have h1:=rat_le_of hs (show x*s<=y*s by grind)
 have h2:=rat_le_of hs (show y*s<=x*s by grind)
 grind
theorem cast_pos {s:Int} (hs:0<s):(0:Rat)<(s:Rat):=by exact_mod_cast hs
theorem cut_vq {t s:Int} (h0:0<=t) (h1:t<=s) (hs:0<s) (h2:s<=200):Vq LL 1 (cut t s):=by
 have hm:=cut_self_mul (t:=t) hs
 have hp:=cast_pos hs
 obtain ⟨q,hq⟩:=LL_dvd (s:=s.toNat) (by omega) (by omega)
 refine ⟨rat_le_of hp ?_,rat_le_of hp ?_,t*q,?_⟩
 ·rw[hm]
  have:(0:Rat)<=(t:Rat):=by exact_mod_cast h0
  grind
 ·rw[hm]
  have:(t:Rat)<=(s:Rat):=by exact_mod_cast h1
  have e:((1:Nat):Rat)=1:=rfl
  rw[e];grind
 ·rw[hq]
  have e1:((s.toNat*q:Nat):Rat)=((s.toNat:Nat):Rat)*(q:Rat):=by push_cast;rfl
  have e2:((s.toNat:Nat):Rat)=(s:Rat):=by
   have:(((s.toNat:Nat):Int):Rat)=(s:Rat):=by congr 1;omega
   rw[<- this];norm_cast
  have e3:((t*(q:Int):Int):Rat)=(t:Rat)*(q:Rat):=by push_cast;rfl
  rw[e1,e2,e3,<- hm];grind
theorem Vq.bd {N B n:Nat}{x:Rat} (h:Vq N B x) (h0:0<N) (h1:N*B<=2 ^ n) (h2:N<=2 ^ n):Bd n x:=by
 obtain ⟨z,hz⟩:=h.dv
 have hp:(0:Int)<(N:Int):=by omega
 have hm:=cut_self_mul (t:=z) hp
 have e:(((N:Nat):Int):Rat)=(N:Rat):=by norm_cast
 rw[e] at hm
 have hq:(0:Rat)<(N:Rat):=by rw[<- e];exact cast_pos hp
 have ex:x=cut z N:=rat_eq_of hq (by rw[hz,hm])
 have l0:(0:Rat)<=(z:Rat):=by rw[<- hz];exact Rat.mul_nonneg h.nn (by grind)
 have l1:(z:Rat)<=((B*N:Nat):Rat):=by
  have e2:((B*N:Nat):Rat)=(B:Rat)*(N:Rat):=by push_cast;rfl
  rw[<- hz,e2]
  exact Rat.mul_le_mul_of_nonneg_right h.le (by grind)
 have m0:0<=z:=by exact_mod_cast l0
 have m1:z<=((B*N:Nat):Int):=by exact_mod_cast l1
 rw[ex]
 rw[Nat.mul_comm] at h1
 exact Bd.cut hp (by omega) (by omega)
theorem le_sum:∀{l:List Int},(∀x∈l,0<=x)->∀x∈l,x<=l.sum
 | [],_,x,h=>by simp at h
 | a::l,h,x,hx=>by
  have h1:=h a List.mem_cons_self
  have h2:=sum_nonneg fun y hy=>h y (List.mem_cons_of_mem _ hy)
  rw[List.sum_cons]
  rcases List.mem_cons.mp hx with e|e
  ·omega
  ·have:=le_sum (fun y hy=>h y (List.mem_cons_of_mem _ hy)) x e
   omega
theorem getD_le_sum {n m:Nat}{u:List Int} (h:Urn n m u) (k:Nat):u.getD k 0<=u.sum:=by
 rw[List.getD_eq_getElem?_getD]
 cases e:u[k]? with
 | none=>have:=h.pos;show (0:Int)<=_;omega
 | some x=>exact le_sum (fun x hx=>(h.nn x hx).1) x (List.mem_of_getElem? e)
theorem sum_200 {n m:Nat}{u:List Int} (h:Urn n m u) (n4:n<=4) (hm:m<=50):u.sum<=200:=by
 have:=Mt.sum_le (m:=50) (l:=u) fun x hx=>by have:=(h.nn x hx).2;omega
 rw[h.len] at this
 omega
noncomputable def AllQ (N B:Nat) (D:TabQ):Prop:=∀p∈D,Vq N B p.2
theorem AllQ.add {N B C:Nat}{k:List Int}{x:Rat} (hx:Vq N C x):∀{D:TabQ},AllQ N B D->AllQ N (B+C) (addQ D k x)
 | [],_=>fun p hp=>by
  unfold addQ at hp
  rw[List.mem_singleton.mp hp]
  exact hx.mono (by omega)
 | q::D,h=>fun p hp=>by
  unfold addQ at hp
  split at hp
  ·rcases List.mem_cons.mp hp with z|z
   ·rw[z];exact (h q List.mem_cons_self).add hx
   ·exact (h p (List.mem_cons_of_mem _ z)).mono (by omega)
  ·rcases List.mem_cons.mp hp with z|z
   ·rw[z];exact (h q List.mem_cons_self).mono (by omega)
   ·exact AllQ.add hx (fun r hr=>h r (List.mem_cons_of_mem _ hr)) p z
theorem AllQ.val {N B:Nat}{k:List Int}:∀{D:TabQ},AllQ N B D->Vq N B (valQ D k)
 | [],_=>Vq.zero N B
 | q::D,h=>by
  unfold valQ
  split
  ·exact h q List.mem_cons_self
  ·exact AllQ.val fun r hr=>h r (List.mem_cons_of_mem _ hr)
theorem AllQ.mono {N B C:Nat}{D:TabQ} (h:AllQ N B D) (l:B<=C):AllQ N C D:=fun p hp=>(h p hp).mono l
noncomputable def KeysQ (n m:Nat) (D:TabQ):Prop:=∀p∈D,Urn n m p.1
theorem KeysQ.add {n m:Nat}{D:TabQ}{k:List Int}{x:Rat} (h:KeysQ n m D) (hk:Urn n m k):KeysQ n m (addQ D k x):=fun p hp=>by
 rcases keys_addQ hp with e|⟨q,hq,e⟩
 ·rw[e];exact hk
 ·rw[<- e];exact h q hq
theorem mem_uboL_pos {rs:List (List Int)}{u:List Int}:∀{bs:List Int}{i:Nat}{b:Int × List Int},b∈uboL rs u i bs->0<b.1
 | [],_,_,h=>by unfold uboL at h;simp at h
 | x::bs,i,b,h=>by
  unfold uboL at h
  split at h
  ·rcases List.mem_cons.mp h with e|e
   ·subst e;assumption
   ·exact mem_uboL_pos e
  ·exact mem_uboL_pos h
theorem mem_uboU {n m:Nat}{rs:List (List Int)}{u:List Int}{b:Int × List Int} (hR:Rul n 5 rs) (hu:Urn n m u) (h:b∈ubo rs u):(0<b.1/\b.1<=u.sum)/\Urn n (m+5) b.2:=by
 have hp:=mem_uboL_pos h
 obtain ⟨j,h1,h2,h3⟩:=mem_uboL h
 rw[Nat.zero_add] at h3
 have hj:j<n:=by rw[<- hu.len];exact h1
 refine ⟨⟨hp,?_⟩,?_⟩
 ·rw[h2];exact getD_le_sum hu j
 ·rw[h3];exact hu.add (hR.at hj)
theorem puts_okQ {n m N E:Nat}{x:Rat}{s:Int} (hx:Vq N E x) (hs:0<s) (hs2:s<=200):∀(bs:List (Int × List Int)) {D:TabQ}{B:Nat},(∀b∈bs,(0<b.1/\b.1<=s)/\Urn n m b.2)->KeysQ n m D->NDq D->AllQ (N*LL) B D ->
  KeysQ n m (putsQ x s bs D)/\NDq (putsQ x s bs D)/\AllQ (N*LL) (B+E*bs.length) (putsQ x s bs D)/\(putsQ x s bs D).length<=D.length+bs.length
 | [],D,B,_,h1,h2,h3=>⟨h1,h2,h3,by unfold putsQ;simp⟩
 | b::bs,D,B,h,h1,h2,h3=>by
  unfold putsQ
  have hb:=h b List.mem_cons_self
  have hv:Vq (N*LL) E (x*cut b.1 s):=(hx.mul (cut_vq (by omega) hb.1.2 hs hs2)).mono (by omega)
  obtain ⟨a1,a2,a3,a4⟩:=puts_okQ hx hs hs2 bs (D:=addQ D b.2 (x*cut b.1 s)) (fun c hc=>h c (List.mem_cons_of_mem _ hc)) (h1.add hb.2) (nd_addQ h2) (h3.add hv)
  refine ⟨a1,a2,a3.mono ?_,?_⟩
  ·rw[List.length_cons,Nat.mul_add];omega
  ·have:=len_addQ b.2 (x*cut b.1 s) D
   rw[List.length_cons];omega
theorem len_ubo {n m:Nat}{rs:List (List Int)}{u:List Int} (hu:Urn n m u):(ubo rs u).length<=n:=by
 have:=len_uboL (rs:=rs) (u:=u) u 0
 unfold ubo;rw[<- hu.len];exact this
theorem nextL_okQ {n m N E:Nat}{rs:List (List Int)} (hR:Rul n 5 rs) (n4:n<=4) (hm:m<=50):∀(T:TabQ) {D:TabQ}{B:Nat},KeysQ n m T->AllQ N E T->KeysQ n (m+5) D->NDq D->AllQ (N*LL) B D ->
  KeysQ n (m+5) (nextLQ rs T D)/\NDq (nextLQ rs T D)/\AllQ (N*LL) (B+E*(4*T.length)) (nextLQ rs T D)/\(nextLQ rs T D).length<=D.length+n*T.length
 | [],D,B,_,_,h1,h2,h3=>⟨h1,h2,h3,by unfold nextLQ;simp⟩
 | p::T,D,B,h,hE,h1,h2,h3=>by
  unfold nextLQ
  have hp:=h p List.mem_cons_self
  obtain ⟨b1,b2,b3,b4⟩:=puts_okQ (m:=m+5) (hE p List.mem_cons_self) hp.pos (sum_200 hp n4 hm) (ubo rs p.1) (fun b hb=>mem_uboU hR hp hb) h1 h2 h3
  obtain ⟨a1,a2,a3,a4⟩:=nextL_okQ hR n4 hm T (fun q hq=>h q (List.mem_cons_of_mem _ hq)) (fun q hq=>hE q (List.mem_cons_of_mem _ hq)) b1 b2 b3
  have e:=len_ubo (rs:=rs) hp
  refine ⟨a1,a2,a3.mono ?_,?_⟩
  ·have:E*(ubo rs p.1).length<=E*4:=Nat.mul_le_mul_left _ (by omega)
   rw[List.length_cons,Nat.mul_add 4,Nat.mul_add E];omega
  ·rw[List.length_cons,Nat.mul_add,Nat.mul_one];omega
theorem next_okQ {n m N E:Nat}{rs:List (List Int)}{T:TabQ} (hR:Rul n 5 rs) (n4:n<=4) (hm:m<=50) (h:KeysQ n m T) (hE:AllQ N E T):KeysQ n (m+5) (nextQ rs T)/\NDq (nextQ rs T)/\AllQ (N*LL) (E*(4*T.length)) (nextQ rs T)/\(nextQ rs T).length<=n*T.length:=by
 obtain ⟨a,b,c,d⟩:=nextL_okQ (D:=[]) (B:=0) hR n4 hm T h hE (fun p hp=>by simp at hp) (by unfold NDq;simp) (fun p hp=>by simp at hp)
 exact ⟨a,b,by rw[Nat.zero_add] at c;exact c,by rw[List.length_nil,Nat.zero_add] at d;exact d⟩
theorem ch_ok {n:Nat}{rs:List (List Int)}{u:List Int} (hR:Rul n 5 rs) (n4:n<=4) (hu:Urn n 20 u):∀k:Nat,k<=6->KeysQ n (20+5*k) (chQ rs k [(u,1)])/\NDq (chQ rs k [(u,1)])/\AllQ (LL ^ k) (4 ^ (k*k)) (chQ rs k [(u,1)])/\(chQ rs k [(u,1)]).length<=4 ^ k
 | 0,_=>⟨fun p hp=>by rw[List.mem_singleton.mp hp];exact hu,by unfold chQ NDq;simp,fun p hp=>by rw[List.mem_singleton.mp hp];exact Vq.one _,by show 1<=1;omega⟩
 | k+1,hk=>by
  obtain ⟨a1,a2,a3,a4⟩:=ch_ok hR n4 hu k (by omega)
  obtain ⟨b1,b2,b3,b4⟩:=next_okQ hR n4 (by omega) a1 a3
  refine ⟨?_,b2,?_,?_⟩
  ·rw[show 20+5*(k+1)=20+5*k+5 by omega];exact b1
  ·rw[Nat.pow_succ LL]
   refine b3.mono ?_
   have h1:4*(chQ rs k [(u,1)]).length<=4 ^ (k+1):=by rw[Nat.pow_succ];omega
   refine Nat.le_trans (Nat.mul_le_mul_left _ h1) ?_
   rw[<- Nat.pow_add]
   refine Nat.pow_le_pow_right (by decide) ?_
   have:(k+1)*(k+1)=k*k+k+k+1:=by rw[Nat.add_mul,Nat.mul_add];omega
   omega
  ·show (nextQ rs _).length<=4 ^ (k+1)
   have:n*(chQ rs k [(u,1)]).length<=4*4 ^ k:=Nat.mul_le_mul n4 a4
   rw[Nat.pow_succ];omega
theorem LL_pow (k:Nat):LL ^ k<=2 ^ (300*k):=by
 rw[Nat.pow_mul];exact Nat.pow_le_pow_left LL_le k
theorem LLp_pos (k:Nat):0<LL ^ k:=Nat.pow_pos LL_pos
theorem sumQ_vq {N B:Nat}:∀{xs:List Rat},(∀x∈xs,Vq N B x)->Vq N (B*xs.length) (sumQ xs)
 | [],_=>Vq.zero N _
 | x::xs,h=>by
  have h1:=sumQ_vq fun y hy=>h y (List.mem_cons_of_mem _ hy)
  have h2:=(h x List.mem_cons_self).add h1
  exact h2.mono (by rw[List.length_cons,Nat.mul_add];omega)
theorem sumQ_snoc (xs:List Rat) (x:Rat):sumQ (xs++[x])=sumQ xs+x:=by
 rw[sumQ_append];show _+(x+0)=_;grind
end Mq
namespace G
open PySem PySem.Spec PyProof.Rows L2 Mt Md Mq
structure Ct2 (mg:Str->Option Value):Prop where
 stand:∃t,mg "MOST_STAND_DRAWS"=some (.int 6 t)
structure Bt3 (mg:Str->Option Value):Prop where
 enumerate:mg "enumerate"=none
 sorted:mg "sorted"=none
theorem sm_k {k:Int} (h1:1<=k) (h4:k<=4):Sm k:=by
 have h:k=1 ∨ k=2 ∨ k=3 ∨ k=4:=by omega
 rcases h with rfl|rfl|rfl|rfl <;> (unfold Sm;decide +kernel)
theorem urnD_true {m:Int}{d:PyData} (h:urnD m d=true):∃ns:List Int,d=DI ns/\1<=ns.length/\ns.length<=4/\(∀x∈ns,0<=x/\x<=m)/\0<ns.sum:=by
 unfold urnD at h
 rw[Bool.and_eq_true,Bool.and_eq_true,Bool.and_eq_true] at h
 obtain ⟨hw,⟨h1,h4⟩,hs⟩:=h
 obtain ⟨ns,e,hn⟩:=wholesD_ints hw
 subst e
 rw[lenD_DI] at h1 h4
 rw[sumD_DI] at hs
 have h1':=of_decide_eq_true h1
 have h4':=of_decide_eq_true h4
 exact ⟨ns,rfl,by omega,by omega,hn,of_decide_eq_true hs⟩
theorem bits_of {i:Int}{n:Nat} (h:i.natAbs<=2 ^ n) (hn:n<=100000):Builtin.Int.intBits i<=2 ^ 20:=by
 unfold Builtin.Int.intBits
 split
 ·exact Nat.zero_le _
 ·rename_i hz
  have hz':i.natAbs≠0:=fun e=>hz (by rw[beq_iff_eq];omega)
  have h2:i.natAbs.log2<n+1:=(Nat.log2_lt hz').mpr (Nat.lt_of_le_of_lt h (Nat.pow_lt_pow_right (by decide) (by omega)))
  omega
theorem log_of {i:Int}{n:Nat} (h0:0<i) (h:i.natAbs<=2 ^ n) (hn:n<8999):i.natAbs.log2<9000:=by
 rw[Nat.log2_lt (by omega)]
 exact Nat.lt_of_le_of_lt h (Nat.pow_lt_pow_right (by decide) (by omega))
theorem gcd_step {x y:Int} (hx:0<=x) (hy:0<y):Int.gcd y (x % y)=Int.gcd x y:=by
 have h1:(x % y).natAbs=x.natAbs % y.natAbs:=by
  rw[Int.natAbs_emod_of_nonneg hx]
 unfold Int.gcd
 rw[h1,Nat.gcd_comm x.natAbs,Nat.gcd_rec y.natAbs x.natAbs,Nat.gcd_comm]
theorem cut_nn {t b:Int} (ht:0<=t) (hb:0<b):0<=(cut t b).num:=by
 rw[cut_num hb];exact Int.ediv_nonneg ht (by omega)
theorem share_nn {n m:Nat}{ns:List Int} (h:Urn n m ns) (k:Nat):0<=Mt.share ns k:=Rat.num_nonneg.mp (cut_nn (h.getD k).1 h.pos)
theorem Urn.sum_le {n m:Nat}{ns:List Int} (h:Mt.Urn n m ns) (hn:n<=4):ns.sum<=(m:Int)*4:=by
 have:=Mt.sum_le (m:=(m:Int)) (l:=ns) fun x hx=>(h.nn x hx).2
 rw[h.len] at this
 refine Int.le_trans this (Int.mul_le_mul_of_nonneg_left (by omega) (by omega))
theorem share_bd {n m:Nat}{ns:List Int} (h:Mt.Urn n m ns) (hn:n<=4) (hm:m<=1000) (k:Nat):Bd 12 (Mt.share ns k):=by
 have h1:=h.getD k
 have h2:=Urn.sum_le h hn
 have h3:=h.pos
 refine Bd.cut h.pos ?_ ?_
 ·show _<=4096;omega
 ·show _<=4096;omega
theorem ruleD_true {k:Int}{d:PyData} (h:ruleD k d=true):∃(rs:List (List Int)) (n:Nat),d=DR rs/\k=n/\Mt.Rul n 5 rs:=by
 cases d with
 | tuple ds =>
  have h':(decide ((ds.length:Int)=k)&&ds.all (fun r=>wholesD 0 5 r&&decide ((lenD r:Int)=k)))=true:=h
  rw[Bool.and_eq_true] at h'
  obtain ⟨h1,h2⟩:=h'
  have h1':=of_decide_eq_true h1
  have:∀(es:List PyData),es.all (fun r=>wholesD 0 5 r&&decide ((lenD r:Int)=k))=true->∃rs:List (List Int),es=rs.map DI/\∀r∈rs,(r.length:Int)=k/\∀x∈r,0<=x/\x<=5:=by
   intro es
   induction es with
   | nil=>exact fun _=>⟨[],rfl,by simp⟩
   | cons e es ih =>
    intro ha
    rw[List.all_cons,Bool.and_eq_true,Bool.and_eq_true] at ha
    obtain ⟨⟨hw,hl⟩,hr⟩:=ha
    obtain ⟨rs,e1,e2⟩:=ih hr
    obtain ⟨ns,e3,hn⟩:=wholesD_ints hw
    subst e3
    rw[lenD_DI] at hl
    refine ⟨ns::rs,by rw[e1];rfl,fun r hr'=>?_⟩
    rcases List.mem_cons.mp hr' with z|z
    ·subst z;exact ⟨of_decide_eq_true hl,hn⟩
    ·exact e2 r z
  obtain ⟨rs,e1,e2⟩:=this ds h2
  refine ⟨rs,ds.length,by rw[e1],h1'.symm,⟨by rw[e1,List.length_map],fun r hr=>⟨?_,fun x hx=>?_⟩⟩⟩
  ·have:=(e2 r hr).1;omega
  ·have:=(e2 r hr).2 x hx;omega
 | _=>cases (show false=true from h)
theorem sm_6:Sm 6:=by unfold Sm;decide +kernel
theorem map_inj' {α β:Type}{f:α->β} (hf:∀a b,f a=f b->a=b):∀(l m:List α),l.map f=m.map f->l=m
 | [],[],_=>rfl
 | [],b::m,h=>by cases h
 | a::l,[],h=>by cases h
 | a::l,b::m,h=>by
  rw[List.map_cons,List.map_cons] at h
  injection h with h1 h2
  rw[hf a b h1,map_inj' hf l m h2]
theorem DR_inj {rs rs':List (List Int)} (h:DR rs=DR rs'):rs=rs':=by
 injection h with h
 refine map_inj' (fun a b e=>?_) _ _ h
 injection e with e
 exact map_inj' (fun x y z=>by injection z) _ _ e
mutual
theorem Dt_toD {l T:Addr}{H:Hp}{ps:List (List Key × V)} (hT:H T=some (.dT ps)):∀{d:PyData}{v:V},Dt l H d v->Dt T H d v
 | .none,_,h=>by unfold Dt at h ⊢;exact h
 | .bool _,_,h=>by unfold Dt at h ⊢;exact h
 | .int _,_,h=>by unfold Dt at h ⊢;exact h
 | .str _,_,h=>by unfold Dt at h ⊢;exact h
 | .tuple ds,_,h=>by
  unfold Dt at h ⊢
  obtain ⟨a,xs,e,n,q,r⟩:=h
  exact ⟨a,xs,e,(fun z=>by rw[z,hT] at q;cases q),q,Dts_toD hT r⟩
 | .list ds,_,h=>by
  unfold Dt at h ⊢
  obtain ⟨a,xs,e,n,q,r⟩:=h
  exact ⟨a,xs,e,(fun z=>by rw[z,hT] at q;cases q),q,Dts_toD hT r⟩
 | .dict kvs,_,h=>by
  unfold Dt at h ⊢
  obtain ⟨z,a,e,n,q⟩:=h
  exact ⟨z,a,e,(fun z=>by rw[z,hT] at q;cases q),q⟩
theorem Dts_toD {l T:Addr}{H:Hp}{ps:List (List Key × V)} (hT:H T=some (.dT ps)):∀{ds:List PyData}{xs:List V},Dts l H ds xs->Dts T H ds xs
 | [],_,h=>by unfold Dts at h ⊢;exact h
 | d::ds,_,h=>by
  unfold Dts at h ⊢
  obtain ⟨x,r,e,q1,q2⟩:=h
  exact ⟨x,r,e,Dt_toD hT q1,Dts_toD hT q2⟩
end
noncomputable def PrsAt (H:Hp):List (Int × List Int)->List V->Prop
 | [],ts=>ts=[]
 | b::bs,ts=>∃q w r,ts=.ref q::r/\H q=some (.tup [.int b.1,.ref w])/\H w=some (.tup (b.2.map V.int))/\PrsAt H bs r
theorem PrsAt.mono {H H':Hp} (h:∀a xs,H a=some (.tup xs)->H' a=some (.tup xs)):∀{bs:List (Int × List Int)}{ts:List V},PrsAt H bs ts->PrsAt H' bs ts
 | [],_,p=>p
 | _::_,_,⟨q,w,r,e,h1,h2,h3⟩=>⟨q,w,r,e,h _ _ h1,h _ _ h2,PrsAt.mono h h3⟩
theorem PrsAt.snoc {H:Hp}{b:Int × List Int}{q w:Addr} (h1:H q=some (.tup [.int b.1,.ref w])) (h2:H w=some (.tup (b.2.map V.int))):∀{bs:List (Int × List Int)}{ts:List V},PrsAt H bs ts->PrsAt H (bs++[b]) (ts++[.ref q])
 | [],_,p=>by
  rw[show _=[] from p]
  exact ⟨q,w,[],rfl,h1,h2,rfl⟩
 | _::_,_,⟨q',w',r,e,a1,a2,a3⟩=>⟨q',w',r++[.ref q],by rw[e];rfl,a1,a2,PrsAt.snoc h1 h2 a3⟩
theorem PrsAt.len {H:Hp}:∀{bs:List (Int × List Int)}{ts:List V},PrsAt H bs ts->ts.length=bs.length
 | [],_,p=>by rw[show _=[] from p];rfl
 | _::_,_,⟨q,w,r,e,_,_,h3⟩=>by rw[e,List.length_cons,List.length_cons,PrsAt.len h3]
theorem PrsAt.get {H:Hp}:∀{bs:List (Int × List Int)}{ts:List V}{i:Nat}{t:V},PrsAt H bs ts->ts[i]?=some t->∃b q w,bs[i]?=some b/\t=.ref q/\H q=some (.tup [.int b.1,.ref w])/\H w=some (.tup (b.2.map V.int))
 | [],_,_,_,p,h=>by rw[show _=[] from p] at h;simp at h
 | b::_,_,0,_,⟨q,w,r,e,h1,h2,_⟩,h=>by
  rw[e] at h;cases h
  exact ⟨b,q,w,rfl,rfl,h1,h2⟩
 | _::_,_,i+1,_,⟨q,w,r,e,_,_,h3⟩,h=>by
  rw[e] at h
  obtain ⟨b,q',w',e1,e2,e3,e4⟩:=PrsAt.get (i:=i) h3 (by simpa using h)
  exact ⟨b,q',w',by simpa using e1,e2,e3,e4⟩
theorem uboL_snoc (rs:List (List Int)) (u:List Int) (b:Int):∀(bs:List Int) (i:Nat),uboL rs u i (bs++[b])=uboL rs u i bs++(if 0<b then [(b,addL u (rs.getD (i+bs.length) []))] else [])
 | [],i=>by
  show uboL rs u i [b]=[]++_
  rw[uboL_cons]
  split <;> rfl
 | x::bs,i=>by
  show uboL rs u i (x::(bs++[b]))=_
  rw[uboL_cons,uboL_cons,uboL_snoc rs u b bs (i+1),List.length_cons,show i+1+bs.length=i+(bs.length+1) by omega]
  by_cases h:0<x
  ·rw[if_pos h,if_pos h];rfl
  ·rw[if_neg h,if_neg h]
theorem sm_0:Sm 0:=by unfold Sm;decide +kernel
theorem small_tab {n:Nat} (h:n<=10000):n<sizeLine:=by rw[sizeLine_eq];omega
section
variable {P:Program}{w:World}{K:W.Frag}{mg:Str->Option Value}{base:Heap}{f:Addr}{fd:FuncData}{ec:Nat->Addr}{Bs:Addr}
noncomputable def sp_need_urn (ec:Nat->Addr):Sp:=fun vs H Q E=>∃(v:V) (st:Addr) (d:PyData),vs=[v]/\Dt st H d v/\short d/\(urnD 20 d=true->∀H',Same H H'->Q .non H')/\(urnD 20 d=false->∀H',Same H H'->E (.ref (ec 0)) none H')
noncomputable abbrev s_need_urn:Stmt:=top 24
theorem sc_need_urn:FnScope ["thing"] ["thing"] (defScope s_need_urn):=⟨rfl,rfl,rfl,by decide +kernel,rfl,by decide +kernel,by decide +kernel⟩
theorem ok_need_urn (F:Fun K "need_urn" "need_urn" s_need_urn f fd) (R:Errs K mg ec Bs) (c1:Cal P w K mg base 4 "is_urn" ["thing"] sp_is_urn):FnOk P w K mg base (CX1 P w) 5 f fd ["thing"] (sp_need_urn ec):=by
 refine F.okX sc_need_urn (fun vs H Q E h=>?_) (fun cdv A outer s H vs Q E hr h=>?_)
 ·obtain ⟨v,st,d,rfl,_⟩:=h
  rfl
 obtain ⟨v,st,d,rfl,hd,hs,q1,q2⟩:=h
 refine ⟨_,pss_one (ps_if (pt_not (pt_val (pe_cal c1 hr rfl (pa_cons (pv 0) pa_nil)))) (pss_one (ps_raise1 R.e0 (R.xc 0 (by decide)) pe_str (fun σ H Q Q' m q=>m _ _ q))) pss_nil),?_⟩
 refine ⟨_,rfl,v,st,d,rfl,hd,hs,fun H1 g1=>⟨_,rfl,?_⟩⟩
 cases hw:urnD 20 d with
 | true=>exact iteF (q1 hw H1 g1)
 | false=>exact iteT (q2 hw H1 g1)
noncomputable def sp_need_rule (ec:Nat->Addr):Sp:=fun vs H Q E=>∃(v:V) (st:Addr) (d:PyData) (k:Int),vs=[.int k,v]/\1<=k/\k<=4/\Dt st H d v/\ok2 d/\(ruleD k d=true->∀H',Same H H'->Q .non H')/\(ruleD k d=false->∀H',Same H H'->E (.ref (ec 1)) none H')
noncomputable abbrev s_need_rule:Stmt:=top 25
theorem sc_need_rule:FnScope ["kinds","thing"] ["kinds","thing"] (defScope s_need_rule):=⟨rfl,rfl,rfl,by decide +kernel,rfl,by decide +kernel,by decide +kernel⟩
theorem ok_need_rule (F:Fun K "need_rule" "need_rule" s_need_rule f fd) (R:Errs K mg ec Bs) (c1:CalX P w K mg base 3 "is_rule" ["kinds","thing"] (sp_is_rule ec)):FnOk P w K mg base (CX1 P w) 4 f fd ["kinds","thing"] (sp_need_rule ec):=by
 refine F.okX sc_need_rule (fun vs H Q E h=>?_) (fun cdv A outer s H vs Q E hr h=>?_)
 ·obtain ⟨v,st,d,k,rfl,_⟩:=h
  rfl
 obtain ⟨v,st,d,k,rfl,k1,k4,hd,ok,q1,q2⟩:=h
 refine ⟨_,pss_one (ps_if (pt_not (pt_val (pe_calx c1 hr rfl passes1 (pa_cons (pv 0) (pa_cons (pv 1) pa_nil))))) (pss_one (ps_raise1 R.e1 (R.xc 1 (by decide)) (pe_fstr (pj_str (pj_fmt (pv 0) (pj_str pj_nil)))) (fun σ H Q Q' m q=>?_))) pss_nil),?_⟩
 ·obtain ⟨v1,z1,i1,z2,z3,z4,z5⟩:=q
  exact ⟨v1,z1,i1,z2,z3,z4,fun z=>m _ _ (z5 z)⟩
 refine ⟨_,rfl,_,rfl,.int k,v,st,.int k,d,rfl,Dt.int _ _ _,(fun hw=>?_),fun k' e _ _=>?_⟩
 ·have hw':(decide ((1:Int)<=k)&&decide (k<=4))=false:=hw
  rw[decide_eq_true k1,decide_eq_true k4] at hw'
  cases hw'
 cases e
 refine ⟨hd,ok.1,ok.2,fun H1 g1=>⟨_,rfl,?_⟩⟩
 cases hw:ruleD k d with
 | true=>exact iteF (q1 hw H1 g1)
 | false=>exact iteT ⟨_,rfl,k,rfl,(sm_k k1 k4).1,(sm_k k1 k4).2,fun z=>q2 hw H1 g1⟩
noncomputable def sp_nur (ec:Nat->Addr):Sp:=fun vs H Q E=>∃(u v:V) (st:Addr) (d e:PyData),vs=[u,v]/\Dt st H d u/\short d/\Dt st H e v/\ok2 e/\(urnD 20 d=false->∀H',Same H H'->E (.ref (ec 0)) none H') /\
 (urnD 20 d=true->ruleD (lenD d) e=false->∀H',Same H H'->E (.ref (ec 1)) none H')/\(urnD 20 d=true->ruleD (lenD d) e=true->∀H',Same H H'->Q .non H')
noncomputable abbrev s_nur:Stmt:=top 26
theorem sc_nur:FnScope ["urn","rule"] ["urn","rule"] (defScope s_nur):=⟨rfl,rfl,rfl,by decide +kernel,rfl,by decide +kernel,by decide +kernel⟩
theorem ok_nur (F:Fun K "need_urn_and_rule" "need_urn_and_rule" s_nur f fd) (B:Bt mg) (c1:CalX P w K mg base 5 "need_urn" ["thing"] (sp_need_urn ec)) (c2:CalX P w K mg base 4 "need_rule" ["kinds","thing"] (sp_need_rule ec)):FnOk P w K mg base (CX1 P w) 6 f fd ["urn","rule"] (sp_nur ec):=by
 refine F.okX sc_nur (fun vs H Q E h=>?_) (fun cdv A outer s H vs Q E hr h=>?_)
 ·obtain ⟨u,v,st,d,e,rfl,_⟩:=h
  rfl
 obtain ⟨u,v,st,d,e,rfl,hu,hus,hv,hvo,q0,q1,q2⟩:=h
 refine ⟨_,pss_cons (ps_expr (pe_calx c1 hr rfl passes1 (pa_cons (pv 0) pa_nil))) (pss_one (ps_expr (pe_calx (c2.up (by decide)) hr rfl passes1 (pa_cons (pe_callB call_len_seq rfl B.len PySem.boot_len (pa_cons (pv 0) pa_nil)) (pa_cons (pv 1) pa_nil))))),?_⟩
 refine ⟨_,rfl,u,st,d,rfl,hu,hus,fun hw H1 g1=>?_,q0⟩
 obtain ⟨ns,e1,l1,l4,_⟩:=urnD_true hw
 subst e1
 obtain ⟨a,e2,_,ha⟩:=hu.di
 subst e2
 have q1':=q1 hw
 have q2':=q2 hw
 rw[lenD_DI] at q1' q2'
 refine ⟨_,rfl,a,_,rfl,.inr (.of (g1 _ _ ha)),_,rfl,v,st,e,(ns.length:Int),?_,by omega,by omega,hv.kp (g1.kp st),hvo,fun hr2 H2 g2=>q2' hr2 H2 (g1.trans g2),fun hr2 H2 g2=>q1' hr2 H2 (g1.trans g2)⟩
 rw[List.length_map]
noncomputable def sp_gd:Sp:=fun vs H Q _=>∃x y:Int,vs=[.int x,.int y]/\0<=x/\0<=y/\Q (.int (Int.gcd x y:Nat)) H
noncomputable abbrev s_gd:Stmt:=top 12
theorem sc_gd:FnScope ["one","other"] ["one","other"] (defScope s_gd):=⟨rfl,rfl,rfl,by decide +kernel,rfl,by decide +kernel,by decide +kernel⟩
theorem ok_gd (F:Fun K "greatest_divisor" "greatest_divisor" s_gd f fd) (B:Bt mg):FnOk P w K mg base CX0 1 f fd ["one","other"] sp_gd:=by
 refine F.ok sc_gd (fun vs H Q E h=>?_) (fun cdv A outer s H vs Q E hr h=>?_)
 ·obtain ⟨x,y,rfl,_⟩:=h
  rfl
 obtain ⟨x,y,rfl,hx,hy,q⟩:=h
 refine ⟨_,pss_cons (ps_while PassesOwn.never (pt_cmpR op_ne (pv 1) pe_int (nomark _)) (pss_one (ps_par (i:=0) (j:=1) rfl sc_gd.nd rfl rfl (by decide) rfl rfl (pa_cons (pv 1) (pa_cons (pe_op op_mod (pv 0) (pv 1)) pa_nil)) rfl)))
  (pss_one (ps_ret (pe_callB call_abs rfl B.abs boot_abs (pa_cons (pv 0) pa_nil)))),?_⟩
 refine ⟨fun m σ H2=>H2=H/\∃x' y':Int,0<=x'/\0<=y'/\σ=[some (.int x'),some (.int y')]/\m=y'.toNat/\Int.gcd x' y'=Int.gcd x y,⟨_,rfl,x,y,hx,hy,rfl,rfl,rfl⟩,?_⟩
 rintro m σ H2 ⟨rfl,x',y',h1,h2,rfl,rfl,e⟩
 refine ⟨_,rfl,rfl,_,rfl,?_⟩
 by_cases hz:y'=0
 ·subst hz
  rw[decide_eq_true rfl]
  refine iteF ⟨_,rfl,x',rfl,?_⟩
  have e2:(if x'<0 then -x' else x')=((Int.gcd x y:Nat):Int):=by
   rw[<- e,Int.gcd_zero_right]
   split <;> omega
  rw[e2];exact q
 ·rw[decide_eq_false (show ¬ V.int y'=V.int 0 from fun z=>hz (by injection z))]
  refine iteT ⟨fun σ' H'=>H'=H2/\∃a b:Int,0<=a/\0<=b/\σ'=[some (.int a),some (.int b)]/\b.toNat<y'.toNat/\Int.gcd a b=Int.gcd x y,?_,?_⟩
  ·rintro σ' H' ⟨rfl,a,b,ha,hb,rfl,hlt,e2⟩
   exact ⟨_,hlt,rfl,a,b,ha,hb,rfl,rfl,e2⟩
  ·have hm:=Int.emod_nonneg x' (show y'≠0 from hz)
   have hm2:=Int.emod_lt_of_pos x' (show 0<y' by omega)
   refine ⟨_,rfl,_,rfl,_,rfl,_,_,rfl,rfl,(by omega),_,_,rfl,?_⟩
   exact ⟨rfl,y',x' % y',h2,hm,rfl,by omega,by rw[gcd_step h1 (by omega)];exact e⟩
noncomputable def sp_fraction:Sp:=fun vs H Q _=>∃t b:Int,vs=[.int t,.int b]/\0<=t/\0<b/\b.natAbs.log2<9000/\∀p H',Same H H'->H' p=some (.tup ((fr (cut t b)).map V.int))->Q (.ref p) H'
noncomputable abbrev s_fraction:Stmt:=top 13
theorem sc_fraction:FnScope ["top","bottom","divisor"] ["top","bottom"] (defScope s_fraction):=⟨rfl,rfl,rfl,by decide +kernel,rfl,by decide +kernel,by decide +kernel⟩
theorem gcd_log {t b:Int} (hb:0<b) (h:b.natAbs.log2<9000):0<((Int.gcd t b:Nat):Int)/\((Int.gcd t b:Nat):Int).natAbs.log2<9000:=by
 have h0:0<Int.gcd t b:=Int.gcd_pos_of_ne_zero_right _ (by omega)
 refine ⟨by omega,?_⟩
 rw[Int.natAbs_natCast]
 have l:Int.gcd t b<=b.natAbs:=Nat.le_of_dvd (by omega) (Nat.gcd_dvd_right _ _)
 rw[Nat.log2_lt (by omega)] at h ⊢
 omega
theorem ok_fraction (F:Fun K "fraction" "fraction" s_fraction f fd) (c1:Cal P w K mg base 1 "greatest_divisor" ["one","other"] sp_gd):FnOk P w K mg base CX0 2 f fd ["top","bottom"] sp_fraction:=by
 refine F.ok sc_fraction (fun vs H Q E h=>?_) (fun cdv A outer s H vs Q E hr h=>?_)
 ·obtain ⟨x,y,rfl,_⟩:=h
  rfl
 obtain ⟨t,b,rfl,ht,hb,hlog,q⟩:=h
 refine ⟨_,pss_cons (ps_set (i:=2) sc_fraction.nd rfl (Or.inl rfl) (pe_cal c1 hr rfl (pa_cons (pv 0) (pa_cons (pv 1) pa_nil))))
  (pss_one (ps_ret (pe_tup (pa_cons (pe_op op_fdivB (pv 0) (pv 2)) (pa_cons (pe_op op_fdivB (pv 1) (pv 2)) pa_nil))))),?_⟩
 have g:=gcd_log (t:=t) hb hlog
 refine ⟨_,rfl,_,rfl,t,b,rfl,ht,by omega,?_⟩
 refine ⟨_,rfl,_,rfl,_,_,rfl,rfl,g,_,rfl,_,rfl,_,_,rfl,rfl,g,(by show 2<=sizeLine;decide),fun p hp=>?_⟩
 refine q p _ (Same.new hp) ?_
 rw[upd_same,fr_cut hb];rfl
noncomputable def sp_times:Sp:=fun vs H Q _=>∃(p q:Addr) (x y:Rat) (n m:Nat),vs=[.ref p,.ref q]/\H p=some (.tup ((fr x).map V.int))/\H q=some (.tup ((fr y).map V.int))/\0<=x.num/\0<=y.num/\Bd n x/\Bd m y/\n+m<=8000 /\
 ∀r H',Same H H'->H' r=some (.tup ((fr (x*y)).map V.int))->Q (.ref r) H'
noncomputable abbrev s_times:Stmt:=top 15
theorem sc_times:FnScope ["one","other"] ["one","other"] (defScope s_times):=⟨rfl,rfl,rfl,by decide +kernel,rfl,by decide +kernel,by decide +kernel⟩
theorem ok_times (F:Fun K "times" "times" s_times f fd) (c1:Cal P w K mg base 2 "fraction" ["top","bottom"] sp_fraction):FnOk P w K mg base CX0 3 f fd ["one","other"] sp_times:=by
 refine F.ok sc_times (fun vs H Q E h=>?_) (fun cdv A outer s H vs Q E hr h=>?_)
 ·obtain ⟨p,q,x,y,n,m,rfl,_⟩:=h
  rfl
 obtain ⟨p,q,x,y,n,m,rfl,hp,hq,x0,y0,bx,by',hnm,k⟩:=h
 refine ⟨_,pss_one (ps_ret (pe_cal c1 hr rfl (pa_cons (pe_op op_mulB (pe_ix ix_tup (pv 0) pe_int (fun _ _=>rfl)) (pe_ix ix_tup (pv 1) pe_int (fun _ _=>rfl))) (pa_cons (pe_op op_mulB (pe_ix ix_tup (pv 0) pe_int (fun _ _=>rfl)) (pe_ix ix_tup (pv 1) pe_int (fun _ _=>rfl))) pa_nil)))),?_⟩
 have hp':H p=some (.tup [.int x.num,.int x.den]):=hp
 have hq':H q=some (.tup [.int y.num,.int y.den]):=hq
 have b1:Builtin.Int.intBits x.num<=2 ^ 20:=bits_of bx.num (by omega)
 have b2:Builtin.Int.intBits y.num<=2 ^ 20:=bits_of by'.num (by omega)
 have b3:Builtin.Int.intBits (x.den:Int)<=2 ^ 20:=bits_of (by rw[Int.natAbs_natCast];exact bx.den) (by omega)
 have b4:Builtin.Int.intBits (y.den:Int)<=2 ^ 20:=bits_of (by rw[Int.natAbs_natCast];exact by'.den) (by omega)
 refine ⟨_,rfl,p,_,_,_,rfl,rfl,.of hp',atI_nat (j:=0) rfl,_,rfl,q,_,_,_,rfl,rfl,.of hq',atI_nat (j:=0) rfl,_,_,rfl,rfl,⟨b1,b2⟩,
  _,rfl,p,_,_,_,rfl,rfl,.of hp',atI_nat (j:=1) rfl,_,rfl,q,_,_,_,rfl,rfl,.of hq',atI_nat (j:=1) rfl,_,_,rfl,rfl,⟨b3,b4⟩,_,_,rfl,Int.mul_nonneg x0 y0,?_,?_,?_⟩
 ·have h1:=x.den_nz;have h2:=y.den_nz
  have:=Nat.mul_pos (Nat.pos_of_ne_zero h1) (Nat.pos_of_ne_zero h2)
  rw[<- Int.natCast_mul];omega
 ·rw[Nat.log2_lt (by have h1:=x.den_nz;have h2:=y.den_nz;rw[Int.natAbs_mul];exact Nat.mul_ne_zero (by omega) (by omega)),Int.natAbs_mul]
  refine Nat.lt_of_le_of_lt (Nat.mul_le_mul bx.den by'.den) ?_
  rw[<- Nat.pow_add]
  exact Nat.pow_lt_pow_right (by decide) (by omega)
 ·rw[cut_mul];exact k
noncomputable def sp_plus:Sp:=fun vs H Q _=>∃(p q:Addr) (x y:Rat) (n m:Nat),vs=[.ref p,.ref q]/\H p=some (.tup ((fr x).map V.int))/\H q=some (.tup ((fr y).map V.int))/\0<=x.num/\0<=y.num/\Bd n x/\Bd m y/\n+m<=8000 /\
 ∀r H',Same H H'->H' r=some (.tup ((fr (x+y)).map V.int))->Q (.ref r) H'
noncomputable abbrev s_plus:Stmt:=top 14
theorem sc_plus:FnScope ["one","other"] ["one","other"] (defScope s_plus):=⟨rfl,rfl,rfl,by decide +kernel,rfl,by decide +kernel,by decide +kernel⟩
theorem ok_plus (F:Fun K "plus" "plus" s_plus f fd) (c1:Cal P w K mg base 2 "fraction" ["top","bottom"] sp_fraction):FnOk P w K mg base CX0 3 f fd ["one","other"] sp_plus:=by
 refine F.ok sc_plus (fun vs H Q E h=>?_) (fun cdv A outer s H vs Q E hr h=>?_)
 ·obtain ⟨p,q,x,y,n,m,rfl,_⟩:=h
  rfl
 obtain ⟨p,q,x,y,n,m,rfl,hp,hq,x0,y0,bx,by',hnm,k⟩:=h
 refine ⟨_,pss_one (ps_ret (pe_cal c1 hr rfl (pa_cons (pe_op op_add (pe_op op_mulB (pe_ix ix_tup (pv 0) pe_int (fun _ _=>rfl)) (pe_ix ix_tup (pv 1) pe_int (fun _ _=>rfl))) (pe_op op_mulB (pe_ix ix_tup (pv 1) pe_int (fun _ _=>rfl)) (pe_ix ix_tup (pv 0) pe_int (fun _ _=>rfl)))) (pa_cons (pe_op op_mulB (pe_ix ix_tup (pv 0) pe_int (fun _ _=>rfl)) (pe_ix ix_tup (pv 1) pe_int (fun _ _=>rfl))) pa_nil)))),?_⟩
 have hp':H p=some (.tup [.int x.num,.int x.den]):=hp
 have hq':H q=some (.tup [.int y.num,.int y.den]):=hq
 have b1:Builtin.Int.intBits x.num<=2 ^ 20:=bits_of bx.num (by omega)
 have b2:Builtin.Int.intBits y.num<=2 ^ 20:=bits_of by'.num (by omega)
 have b3:Builtin.Int.intBits (x.den:Int)<=2 ^ 20:=bits_of (by rw[Int.natAbs_natCast];exact bx.den) (by omega)
 have b4:Builtin.Int.intBits (y.den:Int)<=2 ^ 20:=bits_of (by rw[Int.natAbs_natCast];exact by'.den) (by omega)
 refine ⟨_,rfl,p,_,_,_,rfl,rfl,.of hp',atI_nat (j:=0) rfl,_,rfl,q,_,_,_,rfl,rfl,.of hq',atI_nat (j:=1) rfl,_,_,rfl,rfl,⟨b1,b4⟩,
  _,rfl,q,_,_,_,rfl,rfl,.of hq',atI_nat (j:=0) rfl,_,rfl,p,_,_,_,rfl,rfl,.of hp',atI_nat (j:=1) rfl,_,_,rfl,rfl,⟨b2,b3⟩,_,_,rfl,rfl,
  _,rfl,p,_,_,_,rfl,rfl,.of hp',atI_nat (j:=1) rfl,_,rfl,q,_,_,_,rfl,rfl,.of hq',atI_nat (j:=1) rfl,_,_,rfl,rfl,⟨b3,b4⟩,_,_,rfl,?_,?_,?_,?_⟩
 ·exact Int.add_nonneg (Int.mul_nonneg x0 (by omega)) (Int.mul_nonneg y0 (by omega))
 ·have h1:=x.den_nz;have h2:=y.den_nz
  have:=Nat.mul_pos (Nat.pos_of_ne_zero h1) (Nat.pos_of_ne_zero h2)
  rw[<- Int.natCast_mul];omega
 ·rw[Nat.log2_lt (by have h1:=x.den_nz;have h2:=y.den_nz;rw[Int.natAbs_mul];exact Nat.mul_ne_zero (by omega) (by omega)),Int.natAbs_mul]
  refine Nat.lt_of_le_of_lt (Nat.mul_le_mul bx.den by'.den) ?_
  rw[<- Nat.pow_add]
  exact Nat.pow_lt_pow_right (by decide) (by omega)
 ·rw[cut_add];exact k
noncomputable def sp_share:Sp:=fun vs H Q _=>∃(a:Addr) (n m:Nat) (ns:List Int) (k:Nat),vs=[.ref a,.int k]/\H a=some (.tup (ns.map V.int))/\Mt.Urn n m ns/\n<=4/\m<=1000/\k<n/\∀p H',Same H H'->H' p=some (.tup ((fr (Mt.share ns k)).map V.int))->Q (.ref p) H'
noncomputable abbrev s_share:Stmt:=top 28
theorem sc_share:FnScope ["urn","kind"] ["urn","kind"] (defScope s_share):=⟨rfl,rfl,rfl,by decide +kernel,rfl,by decide +kernel,by decide +kernel⟩
theorem ok_share (F:Fun K "share" "share" s_share f fd) (B:Bt mg) (c1:Cal P w K mg base 2 "fraction" ["top","bottom"] sp_fraction):FnOk P w K mg base CX0 3 f fd ["urn","kind"] sp_share:=by
 refine F.ok sc_share (fun vs H Q E h=>?_) (fun cdv A outer s H vs Q E hr h=>?_)
 ·obtain ⟨a,n,m,ns,k,rfl,_⟩:=h
  rfl
 obtain ⟨a,n,m,ns,k,rfl,ha,hu,h4,hm,hk,q⟩:=h
 refine ⟨_,pss_one (ps_ret (pe_cal c1 hr rfl (pa_cons (pe_ix ix_tup (pv 0) (pv 1) (fun _ _=>rfl)) (pa_cons (pe_callB (call_sum_seq rfl) rfl B.sum boot_sum (pa_cons (pv 0) pa_nil)) pa_nil)))),?_⟩
 have h2:=Urn.sum_le hu h4
 have h3:=hu.pos
 refine ⟨_,rfl,_,rfl,a,_,_,_,rfl,rfl,.of ha,atI_int (by rw[hu.len];exact hk),_,rfl,a,ns,rfl,.inr (.of ha),_,_,rfl,(hu.getD k).1,h3,log_of (n:=12) h3 (by show _<=4096;omega) (by omega),q⟩
noncomputable def sp_put_in:Sp:=fun vs H Q _=>∃(a st:Addr) (v:V) (n j:Nat) (ns:List Int) (rs:List (List Int)) (k:Nat),vs=[.ref a,v,.int k]/\H a=some (.tup (ns.map V.int))/\ns.length=n/\Dt st H (DR rs) v/\Mt.Rul n j rs/\n<=4/\k<n /\
 ∀p H',Same H H'->H' p=some (.tup ((addL ns (rs.getD k [])).map V.int))->Q (.ref p) H'
noncomputable abbrev s_put_in:Stmt:=top 29
theorem sc_put_in:FnScope ["urn","rule","kind"] ["urn","rule","kind"] (defScope s_put_in):=⟨rfl,rfl,rfl,by decide +kernel,rfl,by decide +kernel,by decide +kernel⟩
theorem ok_put_in (F:Fun K "put_in" "put_in" s_put_in f fd) (B:Bt mg):FnOk P w K mg base CX0 1 f fd ["urn","rule","kind"] sp_put_in:=by
 refine F.ok sc_put_in (fun vs H Q E h=>?_) (fun cdv A outer s H vs Q E hr h=>?_)
 ·obtain ⟨a,st,v,n,j,ns,rs,k,rfl,_⟩:=h
  rfl
 obtain ⟨a,st,v,n,j,ns,rs,k,rfl,ha,hn,hd,hru,h4,hk,q⟩:=h
 refine ⟨_,pss_one (ps_ret (pe_callTy call_tuple_of rfl B.tuple boot_tuple (pa_cons (pe_compG (N:=["balls","more"]) (ix:=[none,none]) (ifs:=[]) (tc:=tTrue) rfl
   (pi_zip rfl B.zip (pa_cons (pv 0) (pa_cons (pe_ix ix_tup (pv 1) (pv 2) (fun _ _=>rfl)) pa_nil)))
   (fun s H ex=>pgtK (K:=K) (n:=2) rfl rfl (pgs_cons (pg_c (i:=0) (by decide +kernel) rfl (Or.inl rfl) (.inr rfl)) (pgs_cons (pg_c (i:=1) (by decide +kernel) rfl (Or.inl rfl) (.inr rfl)) pgs_nil))) (fun s H ex=>pifs_nil)
   (fun s H ex=>pe_op op_add (pv 0) (pv 1)) rfl (by decide +kernel) (by rfl) (by rfl) (fun _=>rfl)) pa_nil))),?_⟩
 obtain ⟨r,xs,b,e,hr2,hx,hb⟩:=dr_row hd (by rw[hru.len];exact hk)
 subst e
 have hrow:=hru.at hk
 generalize hrw:rs.getD k []=row at *
 refine ⟨_,rfl,_,rfl,_,rfl,r,_,_,_,rfl,rfl,.of hr2,atI_nat hx,a,b,_,_,rfl,.of ha,.of hb,?_⟩
 have l1:ns.length=row.length:=by rw[hn,hrow.len]
 refine blk_zip (K:=K) (a:=a) (b:=b) (xs:=ns.map V.int) (ys:=row.map V.int) (sz (by rw[List.length_map];omega)) (by rw[List.length_map,List.length_map];exact l1)
  (fun i zs H2=>Same H H2/\i<=n/\zs=((addL ns row).take i).map V.int) ⟨Same.refl H,Nat.zero_le _,rfl⟩ (fun i zs H2 h=>?_) (fun i zs H2 _ h=>⟨.of (h.1 _ _ ha),.of (h.1 _ _ hb)⟩) ⟨rfl,rfl⟩ (fun i zs H2 x y p hx hy hp h=>?_) (fun zs H2 h=>?_)
 ·obtain ⟨_,hil,rfl⟩:=h
  have:(addL ns row).length=n:=by unfold addL;rw[List.length_zipWith,<- l1,hn];omega
  rw[List.length_map,List.length_take,this];omega
 ·obtain ⟨hS,hil,rfl⟩:=h
  have hi:i<ns.length:=by have:=(List.getElem?_eq_some_iff.mp hx).1;rwa [List.length_map] at this
  have hi2:i<row.length:=by omega
  rw[List.getElem?_map,List.getElem?_eq_getElem hi] at hx
  rw[List.getElem?_map,List.getElem?_eq_getElem hi2] at hy
  cases hx
  cases hy
  refine ⟨_,rfl,_,rfl,_,_,rfl,rfl,hS.trans (Same.new hp),by omega,?_⟩
  have e:(addL ns row)[i]?=some (ns[i]+row[i]):=by
   unfold addL;rw[List.getElem?_zipWith,List.getElem?_eq_getElem hi,List.getElem?_eq_getElem hi2]
  rw[List.take_add_one,e,List.map_append];rfl
 ·obtain ⟨hS,hil,rfl⟩:=h
  intro p hp
  refine ⟨p,_,rfl,.inl ⟨.of upd_same,fun l hl=>?_⟩⟩
  refine q l _ ((hS.trans (Same.new hp)).trans (Same.new hl)) ?_
  rw[upd_same,List.length_map]
  have:(addL ns row).length=ns.length:=by unfold addL;rw[List.length_zipWith,<- l1];omega
  rw[<- this,List.take_length]
noncomputable def sp_own_urn:Sp:=fun vs H Q _=>∃(a:Addr) (xs:List V),vs=[.ref a]/\H a=some (.tup xs)/\∀p H',Same H H'->H' p=some (.tup xs)->Q (.ref p) H'
noncomputable abbrev s_own_urn:Stmt:=top 30
theorem sc_own_urn:FnScope ["urn"] ["urn"] (defScope s_own_urn):=⟨rfl,rfl,rfl,by decide +kernel,rfl,by decide +kernel,by decide +kernel⟩
theorem ok_own_urn (F:Fun K "own_urn" "own_urn" s_own_urn f fd) (B:Bt mg):FnOk P w K mg base CX0 1 f fd ["urn"] sp_own_urn:=by
 refine F.ok sc_own_urn (fun vs H Q E h=>?_) (fun cdv A outer s H vs Q E hr h=>?_)
 ·obtain ⟨a,xs,rfl,_⟩:=h
  rfl
 obtain ⟨a,xs,rfl,ha,q⟩:=h
 refine ⟨_,pss_one (ps_ret (pe_callTy call_tuple_of rfl B.tuple boot_tuple (pa_cons (pe_callTy call_list_of rfl B.list boot_list (pa_cons (pv 0) pa_nil)) pa_nil))),?_⟩
 refine ⟨_,rfl,a,_,rfl,.inr (.of ha),fun l hl=>⟨l,_,rfl,.inl ⟨.of upd_same,fun p hp=>?_⟩⟩⟩
 exact q p _ ((Same.new hl).trans (Same.new hp)) upd_same
noncomputable def sp_ubo:Sp:=fun vs H Q _=>∃(a st:Addr) (v:V) (n:Nat) (ns:List Int) (rs:List (List Int)),vs=[.ref a,v]/\H a=some (.tup (ns.map V.int))/\ns.length=n/\Dt st H (DR rs) v/\Mt.Rul n 5 rs/\n<=4 /\
 ∀p H' ts,Same H H'->H' p=some (.lst ts)->PrsAt H' (ubo rs ns) ts->Q (.ref p) H'
noncomputable abbrev s_ubo:Stmt:=top 38
theorem sc_ubo:FnScope ["urn","rule"] ["urn","rule"] (defScope s_ubo):=⟨rfl,rfl,rfl,by decide +kernel,rfl,by decide +kernel,by decide +kernel⟩
theorem ok_ubo (F:Fun K "urns_behind_one" "urns_behind_one" s_ubo f fd) (B3:Bt3 mg) (c1:Cal P w K mg base 1 "put_in" ["urn","rule","kind"] sp_put_in):FnOk P w K mg base CX0 2 f fd ["urn","rule"] sp_ubo:=by
 refine F.ok sc_ubo (fun vs H Q E h=>?_) (fun cdv A outer s H vs Q E hr h=>?_)
 ·obtain ⟨a,st,v,n,ns,rs,rfl,_⟩:=h
  rfl
 obtain ⟨a,st,v,n,ns,rs,rfl,ha,hn,hv,hR,n4,q⟩:=h
 refine ⟨_,pss_one (ps_ret (pe_compG (N:=["kind","balls","urn","rule"]) (ix:=[none,none,some 0,some 1]) rfl
   (pi_enumT rfl B3.enumerate (pa_cons (pv 0) pa_nil))
   (fun s H ex=>pgtK (K:=K) (n:=2) rfl rfl (pgs_cons (pg_c (i:=0) (by decide +kernel) rfl (Or.inl rfl) (.inr rfl)) (pgs_cons (pg_c (i:=1) (by decide +kernel) rfl (Or.inl rfl) (.inr rfl)) pgs_nil)))
   (fun s H ex=>pifs_one (pt_cmpR op_gt (pv 1) pe_int (nomark _)))
   (fun s H ex=>pe_tup (pa_cons (pv 1) (pa_cons (pe_cal c1 hr rfl (pa_cons (pv 2) (pa_cons (pv 3) (pa_cons (pv 0) pa_nil)))) pa_nil))) rfl (by decide +kernel) (by rfl) (by rfl) (fun _=>rfl))),?_⟩
 refine ⟨_,rfl,a,_,rfl,.of ha,?_⟩
 refine blk_enum (K:=K) (a:=a) (xs:=ns.map V.int) (sz (by rw[List.length_map];omega)) (fun i ys H2=>Same H H2/\i<=n/\PrsAt H2 (uboL rs ns 0 (ns.take i)) ys) ⟨Same.refl H,Nat.zero_le _,rfl⟩ (fun i ys H2 h=>?_) (fun i ys H2 _ h=>.of (h.1 _ _ ha)) ⟨rfl,rfl⟩ (fun i ys H2 x p hx hp h=>?_) (fun ys H2 h=>?_)
 ·obtain ⟨_,_,h2⟩:=h
  rw[h2.len]
  have:=len_uboL (rs:=rs) (u:=ns) (ns.take i) 0
  rw[List.length_take] at this
  omega
 ·obtain ⟨g2,hi,h2⟩:=h
  rw[List.getElem?_map] at hx
  obtain ⟨b,hb,eb⟩:=Option.map_eq_some_iff.mp hx
  subst eb
  have hil:=(List.getElem?_eq_some_iff.mp hb).1
  have g3:=g2.trans (Same.new hp (o:=.tup [.int i,.int b]))
  have h3:=h2.mono (fun a xs e=>Same.new (o:=.tup [.int i,.int b]) hp _ _ e)
  generalize upd H2 p (.tup [.int i,.int b])=H3 at g3 h3
  have et:uboL rs ns 0 (ns.take (i+1))=uboL rs ns 0 (ns.take i)++(if 0<b then [(b,addL ns (rs.getD i []))] else []):=by
   rw[List.take_add_one,hb]
   show uboL rs ns 0 (ns.take i++[b])=_
   rw[uboL_snoc,List.length_take,Nat.zero_add,Nat.min_eq_left (by omega)]
  refine ⟨_,rfl,_,_,rfl,rfl,_,rfl,?_⟩
  by_cases hb0:0<b
  ·rw[if_pos hb0] at et
   rw[decide_eq_true (show b > 0 from hb0),if_pos rfl]
   refine ⟨_,rfl,_,rfl,_,rfl,_,rfl,a,st,v,n,5,ns,rs,i,rfl,g3 _ _ ha,hn,hv.kp (g3.kp st),hR,n4,by omega,fun w H4 g4 hw=>⟨(by show 2<=sizeLine;decide),fun q' hq'=>⟨(g3.trans g4).trans (Same.new hq'),by omega,?_⟩⟩⟩
   rw[et]
   refine PrsAt.snoc (b:=(b,addL ns (rs.getD i []))) (w:=w) upd_same ?_ (h3.mono fun a xs e=>(g4.trans (Same.new hq')) _ _ e)
   exact Same.new hq' _ _ hw
  ·rw[if_neg hb0,List.append_nil] at et
   rw[decide_eq_false (show ¬ b > 0 from hb0),if_neg Bool.false_ne_true]
   exact ⟨g3,by omega,by rw[et];exact h3⟩
 ·obtain ⟨g2,_,h2⟩:=h
  intro p hp
  rw[List.length_map,List.take_length] at h2
  exact q p _ ys (g2.trans (Same.new hp)) upd_same (h2.mono fun a xs e=>Same.new hp _ _ e)
end
end G
namespace G
open PySem PySem.Spec PyProof.Rows L2 Mt Md Mq
noncomputable def BQ (H:Hp):TabQ->List V->Prop
 | [],[]=>True
 | p::T,y::ys=>(∃r ka q,y=.ref r/\H r=some (.tup [.ref ka,.ref q])/\H ka=some (.tup (p.1.map V.int))/\H q=some (.tup ((fr p.2).map V.int)))/\BQ H T ys
 | _,_=>False
theorem BQ.same {H H':Hp} (g:Same H H'):∀{T:TabQ}{ys:List V},BQ H T ys->BQ H' T ys
 | [],[],_=>trivial
 | _::_,_::_,h=>⟨let ⟨r,ka,q,e,a,b,c⟩:=h.1;⟨r,ka,q,e,g _ _ a,g _ _ b,g _ _ c⟩,BQ.same g h.2⟩
 | [],_::_,h=>h.elim
 | _::_,[],h=>h.elim
theorem BQ.len {H:Hp}:∀{T:TabQ}{ys:List V},BQ H T ys->ys.length=T.length
 | [],[],_=>rfl
 | _::_,_::_,h=>by rw[List.length_cons,List.length_cons,BQ.len h.2]
 | [],_::_,h=>h.elim
 | _::_,[],h=>h.elim
theorem BQ.get {H:Hp}:∀{T:TabQ}{ys:List V}{i:Nat}{y:V},BQ H T ys->ys[i]?=some y->∃p r ka q,T[i]?=some p/\y=.ref r/\H r=some (.tup [.ref ka,.ref q])/\H ka=some (.tup (p.1.map V.int))/\H q=some (.tup ((fr p.2).map V.int))
 | p::_,_::_,0,_,h,e=>by
  obtain ⟨r,ka,q,e1,a,b,c⟩:=h.1
  cases e
  exact ⟨p,r,ka,q,rfl,e1,a,b,c⟩
 | _::_,_::_,i+1,_,h,e=>BQ.get (i:=i) h.2 (by simpa using e)
 | [],[],_,_,_,e=>by simp at e
 | [],_::_,_,_,h,_=>h.elim
 | _::_,[],_,_,h,_=>h.elim
theorem BQ.of {H:Hp}:∀{T:TabQ}{kvs:List (List Key × V)}{ys:List V},QE H T kvs->PrL H kvs ys->BQ H T ys
 | [],[],[],_,_=>trivial
 | p::T,kv::kvs,y::ys,⟨a,⟨q,e,hq⟩,c⟩,h=>by
  obtain ⟨k,x⟩:=kv
  obtain ⟨r,ka,e1,h1,h2⟩:=h.1
  have a:k=kI p.1:=a
  have e:x=.ref q:=e
  subst a e
  rw[kI_kV] at h2
  exact ⟨⟨r,ka,q,e1,h1,h2,hq⟩,BQ.of c h.2⟩
 | [],[],_::_,_,h=>h.elim
 | [],_::_,_,h,_=>h.elim
 | _::_,[],_,h,_=>h.elim
 | _::_,_::_,[],_,h=>h.elim
theorem kp_tup {l:Addr}{H H':Hp}{o:HO} (hl:H l=some o) (ho:∀xs,o≠.tup xs) (k:Kp l H H'):∀a xs,H a=some (.tup xs)->H' a=some (.tup xs):=fun a xs e=>k a _ (fun z=>by rw[z,hl] at e;injection e with e;exact ho _ e) e
section
variable {P:Program}{w:World}{K:W.Frag}{mg:Str->Option Value}{base:Heap}{f:Addr}{fd:FuncData}{ec:Nat->Addr}{Bs:Addr}
noncomputable def sp_nextc:Sp:=fun vs H Q _=>∃(d st:Addr) (v:V) (n m N E:Nat) (T:TabQ) (kvs:List (List Key × V)) (rs:List (List Int)),vs=[.ref d,v]/\H d=some (.dT kvs)/\QE H T kvs/\KeysQ n m T/\m<=50/\T.length<=1024/\AllQ N E T/\0<N/\N<=2 ^ 1600/\E<=2 ^ 60/\Dt st H (DR rs) v/\Mt.Rul n 5 rs/\n<=4 /\
 ∀p kvs' H',Kp d H H'->H p=none->H' p=some (.dT kvs')->QE H' (nextQ rs T) kvs'->Q (.ref p) H'
noncomputable abbrev s_nextc:Stmt:=top 39
theorem sc_nextc:FnScope ["chances","rule","later","urn","so_far","balls","behind","part"] ["chances","rule"] (defScope s_nextc):=⟨rfl,rfl,rfl,by decide +kernel,rfl,by decide +kernel,by decide +kernel⟩
theorem ok_nextc (F:Fun K "next_chances" "next_chances" s_nextc f fd) (B:Bt mg) (c1:Cal P w K mg base 2 "urns_behind_one" ["urn","rule"] sp_ubo) (c2:Cal P w K mg base 3 "times" ["one","other"] sp_times) (c3:Cal P w K mg base 2 "fraction" ["top","bottom"] sp_fraction) (c4:Cal P w K mg base 3 "plus" ["one","other"] sp_plus):FnOk P w K mg base CX0 4 f fd ["chances","rule"] sp_nextc:=by
 refine F.ok sc_nextc (fun vs H Q E h=>?_) (fun cdv A outer s H vs Q E hr h=>?_)
 ·obtain ⟨d,st,v,n,m,N,E,T,kvs,rs,rfl,_⟩:=h
  rfl
 obtain ⟨d,st,v,n,m,N,En,T,kvs,rs,rfl,hd,hQ,hK,hm,hT,hE,hN0,hN,hEn,hv,hR,n4,q⟩:=h
 refine ⟨_,pss_cons (ps_set (i:=2) sc_nextc.nd rfl (Or.inl rfl) pe_dnewT)
  (pss_cons (ps_for PassesOwn.never rfl (pi_items (pv 0)) (pg_tup rfl (pgs_cons (pg_name (i:=3) sc_nextc.nd rfl (Or.inl rfl)) (pgs_cons (pg_name (i:=4) sc_nextc.nd rfl (Or.inl rfl)) pgs_nil)))
   (pss_one (ps_for PassesOwn.never rfl (pi_list (pe_cal (c1.up (by decide)) hr rfl (pa_cons (pv 3) (pa_cons (pv 1) pa_nil)))) (pg_tup rfl (pgs_cons (pg_name (i:=5) sc_nextc.nd rfl (Or.inl rfl)) (pgs_cons (pg_name (i:=6) sc_nextc.nd rfl (Or.inl rfl)) pgs_nil)))
    (pss_cons (ps_set (i:=7) sc_nextc.nd rfl (Or.inl rfl) (pe_cal c2 hr rfl (pa_cons (pv 4) (pa_cons (pe_cal (c3.up (by decide)) hr rfl (pa_cons (pv 5) (pa_cons (pe_callB (call_sum_seq rfl) rfl B.sum boot_sum (pa_cons (pv 3) pa_nil)) pa_nil))) pa_nil))))
    (pss_one (ps_dput (hu_of hr) (pv 2) (pv 6) (pe_cal c4 hr rfl (pa_cons (pe_dget2 (hu_of hr) (pv 2) (pv 6) (pe_tup (pa_cons pe_int (pa_cons pe_int pa_nil))) ⟨rfl,rfl,rfl,rfl⟩) (pa_cons (pv 7) pa_nil))) rfl))))))
  (pss_one (ps_ret (pv 2)))),?_⟩
 have hv0:=Dt_toD hd hv
 have hpos:∀p∈T,(∀b∈p.1,0<=b)/\0<p.1.sum:=fun p hp=>⟨fun b hb=>((hK p hp).nn b hb).1,(hK p hp).pos⟩
 intro lt hlt
 have nlt:d≠lt:=ne_of_none hd hlt
 have nfz:∀(o:Obj) (ps:List (List Key × V)) xs,HO.frz o (.dT ps)≠.tup xs:=fun _ _ _ z=>by cases z
 have ndt:∀(ps:List (List Key × V)) xs,HO.dT ps≠.tup xs:=fun _ _ z=>by cases z
 refine ⟨_,rfl,d,kvs,rfl,(by rw[upd_ne nlt];exact hd),fun o=>?_⟩
 have k0:Kp d H (upd (upd H lt (.dT [])) d (.frz o (.dT kvs))):=fun b u nb e=>by rw[upd_ne nb,upd_ne (ne_of_none e hlt)];exact e
 refine for_items (o:=o) (fun i σ H2=>Kp d H H2/\H2 d=some (.frz o (.dT kvs))/\(∃ks,H2 lt=some (.dT ks)/\QE H2 (nextLQ rs (T.take i) []) ks)/\i<=T.length/\∃o3 o4 o5 o6 o7,σ=[some (.ref d),some v,some (.ref lt),o3,o4,o5,o6,o7])
  ⟨k0,upd_same,⟨[],by rw[upd_ne nlt.symm,upd_same],trivial⟩,Nat.zero_le _,none,none,none,none,none,rfl⟩ (fun i σ H2 _ h=>h.2.1) (fun i k x σ H2 p ka hx hp hka h=>?_) (fun σ H2 h=>?_)
 ·obtain ⟨k2,hd2,⟨ks2,hl2,hq2⟩,hi,o3,o4,o5,o6,o7,rfl⟩:=h
  obtain ⟨um,hum,ek,xq,ex,hxq⟩:=hQ.get hx
  subst ek ex
  obtain ⟨u,mm⟩:=um
  simp only at hka hxq
  have hil:=(List.getElem?_eq_some_iff.mp hum).1
  have hku:Mt.Urn n m u:=hK (u,mm) (List.mem_of_getElem? hum)
  have hmm:Vq N En mm:=hE (u,mm) (List.mem_of_getElem? hum)
  rw[kI_kV] at hka
  refine ⟨p,_,rfl,.of upd_same,rfl,_,_,rfl,_,_,rfl,rfl,?_⟩
  have g3:Same H2 (upd H2 p (.tup [.ref ka,.ref xq])):=Same.new hp
  show tFor _ _ _ _ _ (upd H2 p (.tup [.ref ka,.ref xq]))
  generalize upd H2 p (.tup [.ref ka,.ref xq])=H3 at g3
  have k3:Kp d H H3:=k2.trans (g3.kp d)
  refine ⟨_,rfl,_,rfl,ka,d,v,n,u,rs,rfl,g3 _ _ hka,hku.len,hv0.kp k3,hR,n4,fun pl H4 ts g4 hpl hts=>⟨pl,rfl,⟨_,.of hpl⟩,?_⟩⟩
  have k4:Kp d H H4:=k3.trans (g4.kp d)
  have hl4:=g4 _ _ (g3 _ _ hl2)
  have hd4:=g4 _ _ (g3 _ _ hd2)
  have hq4:QE H4 (nextLQ rs (T.take i) []) ks2:=hq2.mono fun a xs e=>g4 _ _ (g3 _ _ e)
  have hx4:H4 xq=some (.tup ((fr mm).map V.int)):=kp_tup hd (ndt _) k4 _ _ hxq
  have hka4:H4 ka=some (.tup (u.map V.int)):=g4 _ _ (g3 _ _ hka)
  obtain ⟨kk1,kk2,kk3,kk4⟩:=nextL_okQ (D:=[]) (B:=0) hR n4 hm (T.take i) (fun q hq=>hK q (List.mem_of_mem_take hq)) (fun q hq=>hE q (List.mem_of_mem_take hq)) (fun p hp=>by simp at hp) (by unfold NDq;simp) (fun p hp=>by simp at hp)
  have hti:(T.take i).length<=1024:=by rw[List.length_take];omega
  have hle:(nextLQ rs (T.take i) []).length<=4*1024:=Nat.le_trans kk4 (by rw[List.length_nil,Nat.zero_add];exact Nat.mul_le_mul n4 hti)
  have hbs:(ubo rs u).length<=4:=Nat.le_trans (len_ubo hku) n4
  have hs0:=hku.pos
  have hs1:=sum_200 hku n4 hm
  refine for_list (K:=K) (a:=pl) (xs:=ts) (fun j σ H5=>Kp lt H4 H5/\(∃ks,H5 lt=some (.dT ks)/\QE H5 (putsQ mm u.sum ((ubo rs u).take j) (nextLQ rs (T.take i) [])) ks)/\j<=ts.length/\∃o5 o6 o7,σ=[some (.ref d),some v,some (.ref lt),some (.ref ka),some (.ref xq),o5,o6,o7])
   ⟨Kp.refl _ _,⟨ks2,hl4,hq4⟩,Nat.zero_le _,o5,o6,o7,rfl⟩ (fun j σ H5 _ h=>.of (h.1 _ _ (ne_of hpl hl4 (by intro z;cases z)) hpl)) (fun j t σ H5 ht h=>?_) (fun σ H5 h=>?_)
  ·obtain ⟨k5,⟨ks5,hl5,hq5⟩,hj,o5,o6,o7,rfl⟩:=h
   obtain ⟨b,q',w',hb,rfl,hq',hw'⟩:=hts.get ht
   have hjl:=(List.getElem?_eq_some_iff.mp ht).1
   have t45:=kp_tup hl4 (ndt _) k5
   have hp5:=t45 _ _ hq'
   have hw5:=t45 _ _ hw'
   have hx5:=t45 _ _ hx4
   have hka5:=t45 _ _ hka4
   obtain ⟨bb,bu⟩:=mem_uboU hR hku (List.mem_of_getElem? hb)
   obtain ⟨pp1,pp2,pp3,pp4⟩:=puts_okQ (m:=m+5) hmm hs0 hs1 ((ubo rs u).take j) (fun c hc=>mem_uboU hR hku (List.mem_of_mem_take hc)) kk1 kk2 kk3
   have hjt:((ubo rs u).take j).length<=4:=by rw[List.length_take];omega
   have hlen:(putsQ mm u.sum ((ubo rs u).take j) (nextLQ rs (T.take i) [])).length<=10000:=by omega
   have cv:Vq LL 1 (cut b.1 u.sum):=cut_vq (by omega) bb.2 hs0 hs1
   have cb:Bd 12 (cut b.1 u.sum):=Bd.cut hs0 (by show _<=4096;omega) (by show _<=4096;omega)
   have pv':Vq (N*LL) En (mm*cut b.1 u.sum):=(hmm.mul cv).mono (by omega)
   have hNL:N*LL<=2 ^ 1900:=by
    have:(2:Nat) ^ 1900=2 ^ 1600*2 ^ 300:=by rw[<- Nat.pow_add]
    rw[this];exact Nat.mul_le_mul hN LL_le
   have hNL0:0<N*LL:=Nat.mul_pos hN0 LL_pos
   have big:∀X:Nat,X<=2 ^ 60*2 ^ 13->N*LL*X<=2 ^ 1973:=fun X hX=>by
    have:(2:Nat) ^ 1973=2 ^ 1900*(2 ^ 60*2 ^ 13):=by rw[<- Nat.pow_add,<- Nat.pow_add]
    rw[this];exact Nat.mul_le_mul hNL hX
   have hNL2:N*LL<=2 ^ 1973:=Nat.le_trans hNL (Nat.pow_le_pow_right (by decide) (by decide))
   have d1:Bd 1660 mm:=hmm.bd hN0 (by
    have:(2:Nat) ^ 1660=2 ^ 1600*2 ^ 60:=by rw[<- Nat.pow_add]
    rw[this];exact Nat.mul_le_mul hN hEn) (Nat.le_trans hN (Nat.pow_le_pow_right (by decide) (by decide)))
   have d2:Bd 1973 (mm*cut b.1 u.sum):=pv'.bd hNL0 (big _ (Nat.le_trans hEn (Nat.le_mul_of_pos_right _ (by decide)))) hNL2
   have vv:=pp3.val (k:=b.2)
   have d3:Bd 1973 (valQ (putsQ mm u.sum ((ubo rs u).take j) (nextLQ rs (T.take i) [])) b.2):=vv.bd hNL0 (big _ (by
    have e1:0+En*(4*(T.take i).length)+En*((ubo rs u).take j).length<=En*(2 ^ 13):=by
     rw[Nat.zero_add,<- Nat.mul_add];exact Nat.mul_le_mul_left _ (by omega)
    exact Nat.le_trans e1 (Nat.mul_le_mul_right _ hEn))) hNL2
   refine ⟨q',_,rfl,.of hp5,rfl,_,_,rfl,_,_,rfl,rfl,?_⟩
   have hw5':H5 w'=some (.tup ((kI b.2).map kV)):=by rw[kI_kV];exact hw5
   refine ⟨_,rfl,_,rfl,_,rfl,ka,u,rfl,.inr (.of hka5),b.1,u.sum,rfl,by omega,hs0,log_of (n:=12) hs0 (by show _<=4096;omega) (by decide),fun p6 H6 g6 hp6=>?_⟩
   refine ⟨xq,p6,mm,cut b.1 u.sum,1660,12,rfl,g6 _ _ hx5,hp6,Rat.num_nonneg.mpr hmm.nn,Rat.num_nonneg.mpr cv.nn,d1,cb,by decide,fun p7 H7 g7 hp7=>?_⟩
   have g57:=g6.trans g7
   have hl7:=g57 _ _ hl5
   have hw7:=g57 _ _ hw5'
   refine ⟨_,rfl,lt,rfl,.inr ⟨_,.inl hl7⟩,_,rfl,(by show 2<=sizeLine;decide),fun p8 hp8=>?_⟩
   have g8:Same H7 (upd H7 p8 (.tup [.int 0,.int 1])):=Same.new hp8
   have hz8:FrAt (upd H7 p8 (.tup [.int 0,.int 1])) 0 (.ref p8):=⟨p8,rfl,upd_same⟩
   try dsimp -proj only
   generalize upd H7 p8 (.tup [.int 0,.int 1])=H8 at g8 hz8
   have hl8:=g8 _ _ hl7
   have hw8:=g8 _ _ hw7
   have hq8:QE H8 (putsQ mm u.sum ((ubo rs u).take j) (nextLQ rs (T.take i) [])) ks5:=hq5.mono fun a xs e=>g8 _ _ (g57 _ _ e)
   obtain ⟨r8,er8,hr8⟩:=hq8.val (k:=b.2) hz8
   refine ⟨_,DGet.t hl8 hw8,?_⟩
   rw[er8]
   refine ⟨_,rfl,r8,p7,_,mm*cut b.1 u.sum,1973,1973,rfl,hr8,g8 _ _ hp7,Rat.num_nonneg.mpr vv.nn,Rat.num_nonneg.mpr pv'.nn,d3,d2,by decide,fun p9 H9 g9 hp9=>?_⟩
   have g59:Same H5 H9:=g57.trans (g8.trans g9)
   have hl9:=g9 _ _ hl8
   have hw9:=g9 _ _ hw8
   have hq9:QE H9 (putsQ mm u.sum ((ubo rs u).take j) (nextLQ rs (T.take i) [])) ks5:=hq8.mono fun a xs e=>g9 _ _ e
   refine ⟨_,rfl,_,rfl,lt,_,rfl,DPut.t hl9 hw9 (by rw[hq9.len];exact small_tab hlen),?_⟩
   have hq10:=hq9.put (k:=b.2) (x:=mm*cut b.1 u.sum) (v:=.ref p9) pp2 ⟨p9,rfl,hp9⟩
   have k10:Kp lt H4 (upd H9 lt (.dT (putK ks5 (kI b.2) (.ref p9)))):=(k5.trans (g59.kp lt)).trans Kp.at
   refine ⟨k10,⟨_,upd_same,?_⟩,hjl,_,_,_,rfl⟩
   rw[List.take_add_one,hb]
   show QE _ (putsQ mm u.sum ((ubo rs u).take j++[b]) _) _
   rw[putsQ_snoc]
   exact hq10.mono (kp_tup hl9 (ndt _) Kp.at)
  ·obtain ⟨k5,⟨ks5,hl5,hq5⟩,_,o5,o6,o7,rfl⟩:=h
   have hlt2:H lt=none:=hlt
   refine ⟨fun c o nc e=>k5 _ _ (ne_of_none e hlt2) (k4 _ _ nc e),k5 _ _ nlt hd4,⟨ks5,hl5,?_⟩,hil,_,_,_,_,_,rfl⟩
   rw[List.take_add_one,hum]
   show QE H5 (nextLQ rs (T.take i++[(u,mm)]) []) ks5
   rw[nextLQ_snoc]
   rw[hts.len,List.take_length] at hq5
   exact hq5
 ·obtain ⟨k2,hd2,⟨ks2,hl2,hq2⟩,_,o3,o4,o5,o6,o7,rfl⟩:=h
  rw[hQ.len,List.take_length] at hq2
  exact ⟨_,rfl,q lt ks2 H2 k2 hlt hl2 hq2⟩
end
end G
set_option maxHeartbeats 1000000
namespace So
open PySem PyProof.Rows
noncomputable def gallop':Bool->Keyed->Array Keyed->Nat->Nat->Nat->StateT SortSt Sem (Option Nat):=sortPriv% PySem.Builtin.gallop
section
variable {prog:Program}{w:World}{A:Around}{E:Value->Shared->Prop}{s:Shared}{rk:Keyed->Int}{M:Keyed->Prop}{κ:SortKind}
noncomputable def Ask (prog:Program) (w:World) (A:Around) (s:Shared) (rk:Keyed->Int) (M:Keyed->Prop) (κ:SortKind):Prop:=∀x y:Keyed,M x->M y->∀Q:Bool->Shared->Prop,Q (decide (rk x<rk y)) s->wpAny (model prog w) A (keyLt' κ x.1 y.1) Q (fun _ _=>False) s
theorem wpS_lt {x y:Keyed}{st:SortSt}{Q:Option Bool->SortSt->Prop} (hA:Ask prog w A s rk M κ) (hk:kindOf st=κ) (hx:M x) (hy:M y) (h:Q (some (decide (rk x<rk y))) st):wpS (model prog w) A E s (lt' x y) Q st:=by
 rw[lt'_eq]
 refine wpS_bind (wpS_get ?_)
 rw[hk]
 refine wpS_bind (wpS_lift (wpAny_attempt (wpAny_mono (hA x y hx hy (fun b s'=>s'=s/\b=decide (rk x<rk y)) ⟨rfl,rfl⟩) (fun b s' hb=>⟨hb.1,?_⟩) fun _ _ z=>z.elim)))
 obtain ⟨_,rfl⟩:=hb
 exact wpS_pure h
theorem wpS_elem {arr:Array Keyed}{i:Nat}{x:Keyed}{st:SortSt}{Q:Keyed->SortSt->Prop} (h:arr[i]?=some x) (q:Q x st):wpS (model prog w) A E s (elem' arr i) Q st:=by
 rw[elem'_eq,h]
 exact wpS_pure q
noncomputable def bq (rk:Keyed->Int) (left:Bool) (key x:Keyed):Bool:=if left=true then decide (rk x<rk key) else !decide (rk key<rk x)
theorem bey_at {left:Bool}{key x:Keyed}{arr:Array Keyed}{i:Nat}{st:SortSt}{Q:Option Bool->SortSt->Prop} (hA:Ask prog w A s rk M κ) (hk:kindOf st=κ) (hx:arr[i]?=some x) (mx:M x) (mk:M key) (h:Q (some (bq rk left key x)) st):
  wpS (model prog w) A E s (do let x <- elem' arr i;if left=true then lt' x key else do let r <- lt' key x;pure (Option.map (fun x=>!x) r)) Q st:=by
 refine wpS_bind (wpS_elem hx ?_)
 unfold bq at h
 cases left with
 | true =>
  rw[if_pos rfl] at h ⊢
  exact wpS_lt hA hk mx mk h
 | false =>
  rw[if_neg (by decide)] at h ⊢
  exact wpS_bind (wpS_lt hA hk mk mx (wpS_pure h))
theorem bin_loop {n lo hi:Nat}{st:SortSt}{f:Nat->Option (Option Nat) × Nat × Nat->StateT SortSt Sem (ForInStep (Option (Option Nat) × Nat × Nat))}{P:Nat->Bool}{Q:Option (Option Nat) × Nat × Nat->SortSt->Prop}
  (hstep:∀(x lo hi:Nat) (R:ForInStep (Option (Option Nat) × Nat × Nat)->SortSt->Prop),hi<=n->(lo ≥ hi->R (.done (none,lo,hi)) st)->(lo<hi->P (lo+(hi - lo) / 2)=true->R (.yield (none,lo+(hi - lo) / 2+1,hi)) st)->(lo<hi->P (lo+(hi - lo) / 2)=false->R (.yield (none,lo,lo+(hi - lo) / 2)) st)->wpS (model prog w) A E s (f x (none,lo,hi)) R st)
  (hP:∀i j,i<=j->j<n->P j=true->P i=true) (h1:lo<=hi) (h2:hi<=n) (h3:∀i,i<lo->P i=true) (h4:∀i,hi<=i->i<n->P i=false)
  (h:∀k,k<=n->(∀i,i<k->P i=true)->(∀i,k<=i->i<n->P i=false)->Q (none,k,k) st):
  wpS (model prog w) A E s (forIn [0:n] (none,lo,hi) f) Q st:=by
 refine wpS_forRange (I:=fun x c st'=>st'=st/\∃lo hi,c=(none,lo,hi)/\lo<=hi/\hi<=n/\hi - lo<=n - x/\(∀i,i<lo->P i=true)/\(∀i,hi<=i->i<n->P i=false)) ?_ ?_ ⟨rfl,lo,hi,rfl,h1,h2,by omega,h3,h4⟩
 ·rintro x c st' _ hx ⟨rfl,lo,hi,rfl,a1,a2,a3,a4,a5⟩
  refine hstep x lo hi _ a2 (fun hge=>?_) (fun hlt hp=>?_) (fun hlt hp=>?_)
  ·have e:lo=hi:=by omega
   subst e
   exact h lo a2 a4 a5
  ·refine ⟨rfl,_,_,rfl,by omega,a2,by omega,fun i hi'=>?_,a5⟩
   exact hP i _ (by omega) (by omega) hp
  ·refine ⟨rfl,_,_,rfl,by omega,by omega,by omega,a4,fun i hi' hin=>?_⟩
   cases hpi:P i with
   | false=>rfl
   | true=>rw[hP _ i hi' hin hpi] at hp;cases hp
 ·rintro c st' ⟨rfl,lo,hi,rfl,a1,a2,a3,a4,a5⟩
  have e:lo=hi:=by omega
  subst e
  exact h lo a2 a4 a5
theorem gallop_ok {left:Bool}{key:Keyed}{arr:Array Keyed}{b n hint:Nat}{st:SortSt}{Q:Option Nat->SortSt->Prop}{xs:Nat->Keyed} (hA:Ask prog w A s rk M κ) (hk:kindOf st=κ) (mk:M key) (hh:hint<n) (hx:∀i,i<n->arr[b+i]?=some (xs i)/\M (xs i))
  (hP:∀i j,i<=j->j<n->bq rk left key (xs j)=true->bq rk left key (xs i)=true)
  (h:∀k,k<=n->(∀i,i<k->bq rk left key (xs i)=true)->(∀i,k<=i->i<n->bq rk left key (xs i)=false)->Q (some k) st):wpS (model prog w) A E s (gallop' left key arr b n hint) Q st:=by
 have step:∀(i:Nat) (Q':Option Bool->SortSt->Prop),i<n->Q' (some (bq rk left key (xs i))) st->wpS (model prog w) A E s (do let x <- elem' arr (b+i);if left=true then lt' x key else do let r <- lt' key x;pure (Option.map (fun x=>!x) r)) Q' st:=fun i Q' hi q=>bey_at hA hk (hx i hi).1 (hx i hi).2 mk q
 refine wpS_bind (step hint _ hh ?_)
 have BS:∀(x lo hi:Nat) (R:ForInStep (Option (Option Nat) × Nat × Nat)->SortSt->Prop),hi<=n->(lo ≥ hi->R (.done (none,lo,hi)) st)->(lo<hi->bq rk left key (xs (lo+(hi - lo) / 2))=true->R (.yield (none,lo+(hi - lo) / 2+1,hi)) st)->(lo<hi->bq rk left key (xs (lo+(hi - lo) / 2))=false->R (.yield (none,lo,lo+(hi - lo) / 2)) st) ->
   wpS (model prog w) A E s (if lo ≥ hi then pure (ForInStep.done (none,lo,hi)) else do
    let r <- (do let x <- elem' arr (b+(lo+(hi - lo) / 2));if left=true then lt' x key else do let r <- lt' key x;pure (Option.map (fun x=>!x) r))
    match r with
    | some more=>if more=true then pure (ForInStep.yield (none,lo+(hi - lo) / 2+1,hi)) else pure (ForInStep.yield (none,lo,lo+(hi - lo) / 2))
    | x=>pure (ForInStep.done (some none,lo,hi))) R st:=fun x lo hi R hn r1 r2 r3=>by
  by_cases hge:lo ≥ hi
  ·rw[if_pos hge];exact wpS_pure (r1 hge)
  ·rw[if_neg hge]
   refine wpS_bind (step _ _ (by omega) ?_)
   cases hb:bq rk left key (xs (lo+(hi - lo) / 2)) with
   | true=>exact wpS_pure (r2 (by omega) hb)
   | false=>exact wpS_pure (r3 (by omega) hb)
 cases hr:bq rk left key (xs hint) with
 | true =>
  dsimp only
  rw[if_pos rfl]
  refine wpS_bind (wpS_mono (wpS_forRange (I:=fun x c st'=>st'=st/\∃la of,c=(none,la,of)/\la<of/\x<of/\hint+la<n/\bq rk left key (xs (hint+la))=true) (Q:=fun c st'=>st'=st/\∃la of,c=(none,la,of)/\la<of/\hint+la<n/\bq rk left key (xs (hint+la))=true/\(of ≥ n - hint ∨ (hint+of<n/\bq rk left key (xs (hint+of))=false))) ?_ ?_ ⟨rfl,0,1,rfl,by decide,by decide,by simpa using hh,hr⟩) ?_)
  ·rintro x c st' _ hxn ⟨rfl,la,of,rfl,a1,a2,a3,a4⟩
   dsimp only
   by_cases hge:of ≥ n - hint
   ·rw[if_pos hge];exact wpS_pure ⟨rfl,la,of,rfl,a1,a3,a4,.inl hge⟩
   ·rw[if_neg hge]
    refine wpS_bind (step _ _ (by omega) ?_)
    cases hb:bq rk left key (xs (hint+of)) with
    | true =>
     dsimp only
     rw[if_neg (by decide)]
     exact wpS_pure ⟨rfl,of,2*of+1,rfl,by omega,by omega,by omega,hb⟩
    | false =>
     dsimp only
     rw[if_pos (by decide)]
     exact wpS_pure ⟨rfl,la,of,rfl,a1,a3,a4,.inr ⟨by omega,hb⟩⟩
  ·rintro c st' ⟨rfl,la,of,rfl,a1,a2,a3,a4⟩
   exact ⟨rfl,la,of,rfl,a1,a3,a4,.inl (by omega)⟩
  ·rintro c st' ⟨rfl,la,of,rfl,a1,a3,a4,a5⟩
   dsimp only
   refine wpS_bind (bin_loop (P:=fun i=>bq rk left key (xs i)) (fun x lo hi R a b c d=>BS x lo hi R a b c d) hP ?_ ?_ (fun i hi=>?_) (fun i hi hin=>?_) fun k k1 k2 k3=>wpS_pure (h k k1 k2 k3))
   ·rcases a5 with z|z <;> omega
   ·omega
   ·exact hP i _ (by omega) a3 a4
   ·rcases a5 with z|⟨z1,z2⟩
    ·omega
    ·cases hb:bq rk left key (xs i) with
     | false=>rfl
     | true=>rw[hP _ i (by omega) hin hb] at z2;cases z2
 | false =>
  dsimp only
  rw[if_neg (by decide)]
  refine wpS_bind (wpS_mono (wpS_forRange (I:=fun x c st'=>st'=st/\∃la of,c=(none,la,of)/\la<of/\x<of/\la<=hint/\bq rk left key (xs (hint - la))=false) (Q:=fun c st'=>st'=st/\∃la of,c=(none,la,of)/\la<of/\la<=hint/\bq rk left key (xs (hint - la))=false/\(of ≥ hint+1 ∨ (of<=hint/\bq rk left key (xs (hint - of))=true))) ?_ ?_ ⟨rfl,0,1,rfl,by decide,by decide,by omega,hr⟩) ?_)
  ·rintro x c st' _ hxn ⟨rfl,la,of,rfl,a1,a2,a3,a4⟩
   dsimp only
   by_cases hge:of ≥ hint+1
   ·rw[if_pos hge];exact wpS_pure ⟨rfl,la,of,rfl,a1,a3,a4,.inl hge⟩
   ·rw[if_neg hge]
    refine wpS_bind (step _ _ (by omega) ?_)
    cases hb:bq rk left key (xs (hint - of)) with
    | true =>
     dsimp only
     rw[if_pos rfl]
     exact wpS_pure ⟨rfl,la,of,rfl,a1,a3,a4,.inr ⟨by omega,hb⟩⟩
    | false =>
     dsimp only
     rw[if_neg (by decide)]
     exact wpS_pure ⟨rfl,of,2*of+1,rfl,by omega,by omega,by omega,hb⟩
  ·rintro c st' ⟨rfl,la,of,rfl,a1,a2,a3,a4⟩
   exact ⟨rfl,la,of,rfl,a1,a3,a4,.inl (by omega)⟩
  ·rintro c st' ⟨rfl,la,of,rfl,a1,a3,a4,a5⟩
   dsimp only
   refine wpS_bind (bin_loop (P:=fun i=>bq rk left key (xs i)) (fun x lo hi R a b c d=>BS x lo hi R a b c d) hP ?_ ?_ (fun i hi=>?_) (fun i hi hin=>?_) fun k k1 k2 k3=>wpS_pure (h k k1 k2 k3))
   ·rcases a5 with z|z <;> omega
   ·omega
   ·rcases a5 with z|⟨z1,z2⟩
    ·omega
    ·exact hP i _ (by omega) (by omega) z2
   ·cases hb:bq rk left key (xs i) with
    | false=>rfl
    | true=>rw[hP _ i (by omega) hin hb] at a4;cases a4
end
end So
namespace So
open PySem PyProof.Rows
noncomputable def mergeLo':Array Keyed->Array Keyed->StateT SortSt Sem (Array Keyed):=sortPriv% PySem.Builtin.mergeLo
noncomputable def mergeHi':Array Keyed->Array Keyed->StateT SortSt Sem (Array Keyed):=sortPriv% PySem.Builtin.mergeHi
noncomputable def Up (rk:Keyed->Int) (l:List Keyed):Prop:=l.Pairwise fun x y=>rk x<=rk y
theorem Up.le {rk:Keyed->Int}{l:List Keyed} (h:Up rk l) {i j:Nat}{x y:Keyed} (hx:l[i]?=some x) (hy:l[j]?=some y) (hij:i<=j):rk x<=rk y:=by
 rcases Nat.lt_or_eq_of_le hij with z|z
 ·have h1:=(List.getElem?_eq_some_iff.mp hx)
  have h2:=(List.getElem?_eq_some_iff.mp hy)
  have:=List.pairwise_iff_getElem.mp h i j h1.1 h2.1 z
  rw[h1.2,h2.2] at this
  exact this
 ·subst z
  rw[hx] at hy
  cases hy
  exact Int.le_refl _
theorem Up.app {rk:Keyed->Int}{l m:List Keyed} (h:Up rk l) (k:Up rk m) (c:∀x∈l,∀y∈m,rk x<=rk y):Up rk (l++m):=List.pairwise_append.mpr ⟨h,k,c⟩
theorem Up.drop {rk:Keyed->Int}{l:List Keyed} (h:Up rk l) (i:Nat):Up rk (l.drop i):=List.Pairwise.sublist (List.drop_sublist i l) h
theorem Up.take {rk:Keyed->Int}{l:List Keyed} (h:Up rk l) (i:Nat):Up rk (l.take i):=List.Pairwise.sublist (List.take_sublist i l) h
structure Mg (rk:Keyed->Int) (la lb O:List Keyed) (ia ib:Nat):Prop where
 perm:O.Perm (la.take ia++lb.take ib)
 up:Up rk O
 low:∀x∈O,∀y∈la.drop ia++lb.drop ib,rk x<=rk y
theorem Mg.blkA {rk:Keyed->Int}{la lb O:List Keyed}{ia ib:Nat} (h:Mg rk la lb O ia ib) (ua:Up rk la) (k:Nat) (c:∀x∈(la.drop ia).take k,∀y∈lb.drop ib,rk x<=rk y):Mg rk la lb (O++(la.drop ia).take k) (ia+k) ib:=by
 refine ⟨?_,h.up.app ((ua.drop ia).take k) fun x hx y hy=>h.low x hx y (List.mem_append_left _ (List.mem_of_mem_take hy)),fun x hx y hy=>?_⟩
 ·have e:la.take (ia+k)=la.take ia++(la.drop ia).take k:=List.take_add
  rw[e]
  refine (h.perm.append_right _).trans ?_
  rw[List.append_assoc,List.append_assoc]
  exact (List.perm_append_comm).append_left _
 ·have hd:la.drop (ia+k)=(la.drop ia).drop k:=by rw[List.drop_drop]
  rw[hd] at hy
  rcases List.mem_append.mp hx with hx|hx
  ·rcases List.mem_append.mp hy with hy|hy
   ·exact h.low x hx y (List.mem_append_left _ (List.mem_of_mem_drop hy))
   ·exact h.low x hx y (List.mem_append_right _ hy)
  ·rcases List.mem_append.mp hy with hy|hy
   ·have:=ua.drop ia
    rw[<- List.take_append_drop k (la.drop ia)] at this
    exact (List.pairwise_append.mp this).2.2 x hx y hy
   ·exact c x hx y hy
theorem Mg.swap {rk:Keyed->Int}{la lb O:List Keyed}{ia ib:Nat} (h:Mg rk la lb O ia ib):Mg rk lb la O ib ia :=
 ⟨h.perm.trans List.perm_append_comm,h.up,fun x hx y hy=>h.low x hx y (by rcases List.mem_append.mp hy with z|z <;> simp[z])⟩
theorem Mg.blkB {rk:Keyed->Int}{la lb O:List Keyed}{ia ib:Nat} (h:Mg rk la lb O ia ib) (ub:Up rk lb) (k:Nat) (c:∀y∈(lb.drop ib).take k,∀x∈la.drop ia,rk y<=rk x):Mg rk la lb (O++(lb.drop ib).take k) ia (ib+k):=
 (h.swap.blkA ub k c).swap
theorem Mg.fin {rk:Keyed->Int}{la lb O:List Keyed}{ia ib:Nat} (h:Mg rk la lb O ia ib) (ua:Up rk la) (ub:Up rk lb) (c:∀x∈la.drop ia,∀y∈lb.drop ib,rk x<=rk y):(O++la.drop ia++lb.drop ib).Perm (la++lb)/\Up rk (O++la.drop ia++lb.drop ib):=by
 have h1:=h.blkA ua (la.drop ia).length (fun x hx=>c x (List.mem_of_mem_take hx))
 rw[List.take_length] at h1
 have h2:=h1.blkB ub (lb.drop ib).length (fun y hy x hx=>by
  rw[List.drop_eq_nil_of_le (by rw[List.length_drop];omega)] at hx
  cases hx)
 rw[List.take_length] at h2
 refine ⟨h2.perm.trans ?_,h2.up⟩
 rw[List.take_of_length_le (by rw[List.length_drop];omega),List.take_of_length_le (by rw[List.length_drop];omega)]
theorem Mg.fin' {rk:Keyed->Int}{la lb O:List Keyed}{ia ib:Nat} (h:Mg rk la lb O ia ib) (ua:Up rk la) (ub:Up rk lb) (c:∀y∈lb.drop ib,∀x∈la.drop ia,rk y<=rk x):(O++lb.drop ib++la.drop ia).Perm (la++lb)/\Up rk (O++lb.drop ib++la.drop ia):=by
 obtain ⟨p,u⟩:=h.swap.fin ub ua c
 exact ⟨p.trans List.perm_append_comm,u⟩
end So
set_option maxHeartbeats 4000000
namespace So
open PySem PyProof.Rows
noncomputable def Gl (st st':SortSt):Prop:=kindOf st'=kindOf st/\arrOf st'=arrOf st/\pendingOf st'=pendingOf st/\failedOf st'=failedOf st
theorem Gl.refl (st:SortSt):Gl st st:=⟨rfl,rfl,rfl,rfl⟩
noncomputable def Fn (rk:Keyed->Int) (a b r:Array Keyed):Prop:=r.toList.Perm (a.toList++b.toList)/\Up rk r.toList
noncomputable abbrev MgA (rk:Keyed->Int) (a b out:Array Keyed) (ia ib:Nat):Prop:=Mg rk a.toList b.toList out.toList ia ib
section
variable {rk:Keyed->Int}{a b out:Array Keyed}{ia ib:Nat}
theorem ext_list (a:Array Keyed) (i j:Nat):(a.extract i j).toList=(a.toList.drop i).take (j - i):=by simp[Array.toList_extract,List.extract]
theorem get_list {i:Nat}{x:Keyed} (h:a[i]?=some x):a.toList[i]?=some x:=by simpa using h
theorem one_of {i:Nat}{x:Keyed} (h:a[i]?=some x):(a.toList.drop i).take 1=[x]:=by
 have h1:=List.getElem?_eq_some_iff.mp (get_list h)
 rw[List.drop_eq_getElem_cons h1.1,h1.2];rfl
theorem MgA.pushA (h:MgA rk a b out ia ib) (ua:Up rk a.toList) {x:Keyed} (hx:a[ia]?=some x) (c:∀y∈b.toList.drop ib,rk x<=rk y):MgA rk a b (out.push x) (ia+1) ib:=by
 have:=Mg.blkA h ua 1 (fun z hz y hy=>by rw[one_of hx] at hz;rw[List.mem_singleton.mp hz];exact c y hy)
 rw[one_of hx] at this
 show Mg rk _ _ (out.push x).toList _ _
 rw[Array.toList_push];exact this
theorem MgA.pushB (h:MgA rk a b out ia ib) (ub:Up rk b.toList) {x:Keyed} (hx:b[ib]?=some x) (c:∀y∈a.toList.drop ia,rk x<=rk y):MgA rk a b (out.push x) ia (ib+1):=by
 have:=Mg.blkB h ub 1 (fun z hz y hy=>by rw[one_of hx] at hz;rw[List.mem_singleton.mp hz];exact c y hy)
 rw[one_of hx] at this
 show Mg rk _ _ (out.push x).toList _ _
 rw[Array.toList_push];exact this
theorem MgA.extA (h:MgA rk a b out ia ib) (ua:Up rk a.toList) (k:Nat) (c:∀x∈(a.toList.drop ia).take k,∀y∈b.toList.drop ib,rk x<=rk y):MgA rk a b (out++a.extract ia (ia+k)) (ia+k) ib:=by
 show Mg rk _ _ (out++a.extract ia (ia+k)).toList _ _
 rw[Array.toList_append,ext_list,show ia+k - ia=k by omega]
 exact Mg.blkA h ua k c
theorem MgA.extB (h:MgA rk a b out ia ib) (ub:Up rk b.toList) (k:Nat) (c:∀x∈(b.toList.drop ib).take k,∀y∈a.toList.drop ia,rk x<=rk y):MgA rk a b (out++b.extract ib (ib+k)) ia (ib+k):=by
 show Mg rk _ _ (out++b.extract ib (ib+k)).toList _ _
 rw[Array.toList_append,ext_list,show ib+k - ib=k by omega]
 exact Mg.blkB h ub k c
theorem ext_all (a:Array Keyed) (i:Nat):(a.extract i).toList=a.toList.drop i:=by
 rw[ext_list,List.take_of_length_le (by rw[List.length_drop,Array.length_toList];omega)]
theorem MgA.done (h:MgA rk a b out ia ib) (ua:Up rk a.toList) (ub:Up rk b.toList) (c:∀x∈a.toList.drop ia,∀y∈b.toList.drop ib,rk x<=rk y):Fn rk a b (out++a.extract ia++b.extract ib):=by
 unfold Fn
 rw[Array.toList_append,Array.toList_append,ext_all,ext_all]
 exact Mg.fin h ua ub c
theorem MgA.last (h:MgA rk a b out ia ib) (ua:Up rk a.toList) (ub:Up rk b.toList) (c:∀y∈b.toList.drop ib,∀x∈a.toList.drop ia,rk y<=rk x):Fn rk a b (out++b.extract ib++a.extract ia):=by
 unfold Fn
 rw[Array.toList_append,Array.toList_append,ext_all,ext_all]
 exact Mg.fin' h ua ub c
theorem nil_end {n:Nat} (h:a.size<=n) {P:Keyed->Prop}:∀x∈a.toList.drop n,P x:=fun x hx=>by
 rw[List.drop_eq_nil_of_le (by rw[Array.length_toList];exact h)] at hx
 cases hx
theorem ge_head {u:Up rk a.toList}{i:Nat}{x:Keyed} (hx:a[i]?=some x):∀y∈a.toList.drop i,rk x<=rk y:=fun y hy=>by
 obtain ⟨j,hj⟩:=List.mem_iff_getElem?.mp hy
 rw[List.getElem?_drop] at hj
 exact u.le (get_list hx) hj (by omega)
theorem one_left {i:Nat}{x:Keyed} (hi:i+1=a.size) (hx:a[i]?=some x):∀y∈a.toList.drop i,y=x:=fun y hy=>by
 obtain ⟨j,hj⟩:=List.mem_iff_getElem?.mp hy
 rw[List.getElem?_drop] at hj
 have h1:=(List.getElem?_eq_some_iff.mp hj).1
 rw[Array.length_toList] at h1
 have e:i+j=i:=by omega
 rw[e,get_list hx] at hj
 cases hj
 rfl
theorem get_of {i:Nat} (h:i<a.size):∃x,a[i]?=some x/\x∈a.toList:=⟨a[i],Array.getElem?_eq_getElem h,Array.getElem_mem_toList h⟩
theorem take_mem {i k:Nat}{x:Keyed} (h:x∈(a.toList.drop i).take k):∃j,j<k/\a[i+j]?=some x:=by
 obtain ⟨j,hj⟩:=List.mem_iff_getElem?.mp h
 rw[List.getElem?_take] at hj
 split at hj
 ·rename_i hjk
  rw[List.getElem?_drop] at hj
  exact ⟨j,hjk,by simpa using hj⟩
 ·cases hj
end
section
variable {prog:Program}{w:World}{A:Around}{E:Value->Shared->Prop}{s:Shared}{rk:Keyed->Int}{M:Keyed->Prop}{κ:SortKind}
theorem gal {left:Bool}{key:Keyed}{a:Array Keyed}{i:Nat}{st:SortSt}{Q:Option Nat->SortSt->Prop} (hA:Ask prog w A s rk M κ) (hk:kindOf st=κ) (mk:M key) (ma:∀x∈a.toList,M x) (u:Up rk a.toList) (hi:i<a.size)
  (h:∀k,i+k<=a.size->(∀x∈(a.toList.drop i).take k,bq rk left key x=true)->(∀x,a[i+k]?=some x->bq rk left key x=false)->Q (some k) st):wpS (model prog w) A E s (gallop' left key a i (a.size - i) 0) Q st:=by
 have hg:∀j,j<a.size - i->a[i+j]?=some (a.getD (i+j) key):=fun j hj=>by
  rw[Array.getElem?_eq_getElem (by omega)]
  simp[Array.getD,show i+j<a.size by omega]
 refine gallop_ok (xs:=fun j=>a.getD (i+j) key) hA hk mk (by omega) (fun j hj=>⟨hg j hj,?_⟩) (fun j1 j2 h12 h2 hb=>?_) (fun k h1 h2 h3=>h k (by omega) (fun x hx=>?_) (fun x hx=>?_))
 ·have:=hg j hj
  exact ma _ (List.mem_of_getElem? (get_list this))
 ·have hle:=u.le (get_list (hg j1 (by omega))) (get_list (hg j2 h2)) (by omega)
  unfold bq at hb ⊢
  cases left with
  | true =>
   rw[if_pos rfl] at hb ⊢
   have:=of_decide_eq_true hb
   exact decide_eq_true (by omega)
  | false =>
   rw[if_neg (by decide)] at hb ⊢
   rw[Bool.not_eq_true',decide_eq_false_iff_not] at hb ⊢
   omega
 ·obtain ⟨j,hj,hx'⟩:=take_mem hx
  have:=h2 j hj
  have e:=hg j (by omega)
  rw[hx'] at e
  injection e with e
  show bq rk left key x=true
  rw[e];exact this
 ·have hlt:=(Array.getElem?_eq_some_iff.mp hx).1
  have:=h3 k (Nat.le_refl _) (by omega)
  have e:=hg k (by omega)
  rw[hx] at e
  injection e with e
  show bq rk left key x=false
  rw[e];exact this
end
end So
namespace So
open PySem PyProof.Rows
section
variable {prog:Program}{w:World}{A:Around}{E:Value->Shared->Prop}{s:Shared}{rk:Keyed->Int}{M:Keyed->Prop}{κ:SortKind}
theorem mergeLo_ok {a b:Array Keyed}{st:SortSt}{Q:Array Keyed->SortSt->Prop} (hA:Ask prog w A s rk M κ) (hk:kindOf st=κ) (ma:∀x∈a.toList,M x) (mb:∀x∈b.toList,M x) (ua:Up rk a.toList) (ub:Up rk b.toList) (sa:0<a.size) (sb:0<b.size)
  (h0:∀x y,a[0]?=some x->b[0]?=some y->rk y<=rk x) (hl:∀x,a[a.size - 1]?=some x->∀y∈b.toList,rk y<=rk x)
  (h:∀r st',Fn rk a b r->Gl st st'->Q r st'):wpS (model prog w) A E s (mergeLo' a b) Q st:=by
 obtain ⟨b0,hb0,_⟩:=get_of (a:=b) sb
 obtain ⟨a0,ha0,_⟩:=get_of (a:=a) sa
 obtain ⟨al,hal,_⟩:=get_of (a:=a) (i:=a.size - 1) (by omega)
 have hlast:=hl al hal
 have LAST:∀{out:Array Keyed}{ia ib:Nat},MgA rk a b out ia ib->ia+1=a.size->Fn rk a b (out++b.extract ib++a.extract ia):=fun {out ia ib} hm e=>by
  refine hm.last ua ub fun y hy x hx=>?_
  have:a[ia]?=some al:=by rw[<- hal];congr 1;omega
  rw[one_left e this x hx]
  exact hlast y (List.mem_of_mem_drop hy)
 have ENDB:∀{out:Array Keyed}{ia ib:Nat},MgA rk a b out ia ib->ib=b.size->Fn rk a b (out++a.extract ia++b.extract ib):=fun {out ia ib} hm e=>hm.done ua ub fun x _=>nil_end (by omega)
 have ENDA:∀{out:Array Keyed}{ia ib:Nat},MgA rk a b out ia ib->ia=a.size->Fn rk a b (out++a.extract ia++b.extract ib):=fun {out ia ib} hm e=>hm.done ua ub (nil_end (by omega))
 refine wpS_bind (wpS_lift (wpAny_rule ⟨rfl,?_⟩))
 refine wpS_bind (wpS_elem hb0 ?_)
 have m0:MgA rk a b #[b0] 0 1:=by
  have z:MgA rk a b #[] 0 0:=⟨by simp,List.Pairwise.nil,fun x hx=>by simp at hx⟩
  exact z.pushB ub hb0 fun y hy=>Int.le_trans (h0 a0 b0 ha0 hb0) (ge_head (u:=ua) ha0 y hy)
 dsimp only
 by_cases e1:(1 == b.size)=true
 ·rw[if_pos e1]
  exact wpS_pure (h _ _ (ENDB m0 (by simpa using e1)) (Gl.refl st))
 rw[if_neg e1]
 by_cases e2:(0+1 == a.size)=true
 ·rw[if_pos e2]
  exact wpS_pure (h _ _ (LAST m0 (by simpa using e2)) (Gl.refl st))
 rw[if_neg e2]
 have sb2:1<b.size:=by
  have:1≠b.size:=by simpa using e1
  omega
 have sa2:0+1<a.size:=by
  have:0+1≠a.size:=by simpa using e2
  omega
 refine wpS_bind (wpS_get ?_)
 refine wpS_bind (wpS_mono (wpS_forRange (I:=fun x c st'=>Gl st st'/\∃out ia ib mg,c=(none,out,ia,ib,mg)/\MgA rk a b out ia ib/\ia+1<a.size/\ib<b.size/\1+x<=ia+ib)
  (Q:=fun c st'=>Gl st st'/\∃r,c.1=some r/\Fn rk a b r) ?_ ?_ ⟨Gl.refl st,_,_,_,_,rfl,m0,sa2,sb2,by omega⟩) ?_)
 rotate_left
 ·rintro c st' ⟨_,out,ia,ib,mg,rfl,_,z1,z2,z3⟩
  omega
 ·rintro ⟨c1,c2⟩ st' ⟨gl,r,hr,hf⟩
  dsimp only at hr
  subst hr
  exact wpS_pure (h r st' hf gl)
 rintro x c st1 _ hx ⟨gl,out,ia,ib,mg,rfl,hm,za,zb,zp⟩
 have hk1:kindOf st1=κ:=gl.1.trans hk
 dsimp only
 refine wpS_bind (wpS_mono (wpS_forRange (I:=fun y c st'=>st'=st1/\∃out ia ib ac bc,c=(none,out,ia,ib,ac,bc)/\MgA rk a b out ia ib/\ia+1<a.size/\ib<b.size/\1+x+y<=ia+ib)
  (Q:=fun c st'=>st'=st1/\((∃r,c.1=some r/\Fn rk a b r) ∨ ∃out ia ib ac bc,c=(none,out,ia,ib,ac,bc)/\MgA rk a b out ia ib/\ia+1<a.size/\ib<b.size/\1+x+1<=ia+ib)) ?_ ?_ ⟨rfl,out,ia,ib,0,0,rfl,hm,za,zb,by omega⟩) ?_)
 ·rintro y c st' _ hy ⟨rfl,out,ia,ib,ac,bc,rfl,hm,za,zb,zp⟩
  obtain ⟨bx,hbx,mbx⟩:=get_of (a:=b) zb
  obtain ⟨ax,hax,max⟩:=get_of (a:=a) (i:=ia) (by omega)
  dsimp only
  refine wpS_bind (wpS_elem hbx (wpS_bind (wpS_elem hax (wpS_bind (wpS_lt hA hk1 (mb bx mbx) (ma ax max) ?_)))))
  by_cases hlt:rk bx<rk ax
  ·rw[decide_eq_true hlt]
   dsimp only
   rw[if_pos rfl]
   refine wpS_bind (wpS_elem hbx ?_)
   have hm':=hm.pushB ub hbx fun y hy=>Int.le_trans (Int.le_of_lt hlt) (ge_head (u:=ua) hax y hy)
   by_cases e3:(ib+1 == b.size)=true
   ·rw[if_pos e3]
    exact wpS_pure ⟨rfl,.inl ⟨_,rfl,ENDB hm' (by simpa using e3)⟩⟩
   rw[if_neg e3]
   have e3':ib+1≠b.size:=by simpa using e3
   split
   ·exact wpS_pure ⟨rfl,.inr ⟨_,_,_,_,_,rfl,hm',za,by omega,by omega⟩⟩
   ·exact wpS_pure ⟨rfl,_,_,_,_,_,rfl,hm',za,by omega,by omega⟩
  ·rw[decide_eq_false hlt]
   dsimp only
   rw[if_neg (by decide)]
   refine wpS_bind (wpS_elem hax ?_)
   have hm':=hm.pushA ua hax fun y hy=>Int.le_trans (Int.not_lt.mp hlt) (ge_head (u:=ub) hbx y hy)
   by_cases e3:(ia+1+1 == a.size)=true
   ·rw[if_pos e3]
    exact wpS_pure ⟨rfl,.inl ⟨_,rfl,LAST hm' (by simpa using e3)⟩⟩
   rw[if_neg e3]
   have e3':ia+1+1≠a.size:=by simpa using e3
   split
   ·exact wpS_pure ⟨rfl,.inr ⟨_,_,_,_,_,rfl,hm',by omega,zb,by omega⟩⟩
   ·exact wpS_pure ⟨rfl,_,_,_,_,_,rfl,hm',by omega,zb,by omega⟩
 ·rintro c st' ⟨rfl,out,ia,ib,ac,bc,rfl,hm,z1,z2,z3⟩
  omega
 rintro ⟨c1,c2⟩ st' ⟨rfl,(⟨r,hr,hf⟩|⟨out,ia,ib,ac,bc,e,hm,za,zb,zp⟩)⟩
 ·dsimp only at hr
  subst hr
  exact wpS_pure ⟨gl,r,rfl,hf⟩
 cases e
 dsimp only
 refine wpS_bind (wpS_lift (wpAny_rule ⟨rfl,?_⟩))
 refine wpS_bind (wpS_mono (wpS_forRange (I:=fun y c st'=>Gl st st'/\∃out ia ib mg ac bc,c=(none,out,ia,ib,mg,ac,bc)/\MgA rk a b out ia ib/\ia+1<a.size/\ib<b.size/\1+x+1+y<=ia+ib)
  (Q:=fun c st'=>Gl st st'/\((∃r,c.1=some r/\Fn rk a b r) ∨ ∃out ia ib mg ac bc,c=(none,out,ia,ib,mg,ac,bc)/\MgA rk a b out ia ib/\ia+1<a.size/\ib<b.size/\1+x+1<=ia+ib)) ?_ ?_ ⟨gl,out,ia,ib,_,ac,bc,rfl,hm,za,zb,by omega⟩) ?_)
 ·rintro y c st2 _ hy ⟨gl2,out,ia,ib,mg,ac,bc,rfl,hm,za,zb,zp⟩
  obtain ⟨bx,hbx,mbx⟩:=get_of (a:=b) zb
  dsimp only
  by_cases hmg:mg > 1
  ·rw[if_pos hmg]
   refine wpS_bind (wpS_modify ?_)
   refine wpS_bind (wpS_elem hbx ?_)
   refine wpS_bind (gal hA (gl2.1.trans hk) (mb bx mbx) ma ua (by omega) fun k hk1' hk2 hk3=>?_)
   dsimp only
   have hbk:∀x∈(a.toList.drop ia).take k,rk x<=rk bx:=fun x hx=>by
    have:=hk2 x hx
    unfold bq at this
    rw[if_neg (by decide),Bool.not_eq_true',decide_eq_false_iff_not] at this
    omega
   have hm1:=hm.extA ua k fun x hx y hy=>Int.le_trans (hbk x hx) (ge_head (u:=ub) hbx y hy)
   by_cases hk0:k > 0
   ·rw[if_pos hk0]
    by_cases e4:(ia+k+1 == a.size)=true
    ·rw[if_pos e4]
     exact wpS_pure ⟨(show Gl st _ from ⟨gl2.1,gl2.2.1,gl2.2.2.1,gl2.2.2.2⟩),.inl ⟨_,rfl,LAST hm1 (by simpa using e4)⟩⟩
    rw[if_neg e4]
    by_cases e5:(ia+k == a.size)=true
    ·rw[if_pos e5]
     exact wpS_pure ⟨(show Gl st _ from ⟨gl2.1,gl2.2.1,gl2.2.2.1,gl2.2.2.2⟩),.inl ⟨_,rfl,ENDA hm1 (by simpa using e5)⟩⟩
    rw[if_neg e5]
    have e4':ia+k+1≠a.size:=by simpa using e4
    have e5':ia+k≠a.size:=by simpa using e5
    obtain ⟨ax,hax,max⟩:=get_of (a:=a) (i:=ia+k) (by omega)
    have hba:rk bx<rk ax:=by
     have:=hk3 ax (by simpa using hax)
     unfold bq at this
     rw[if_neg (by decide),Bool.not_eq_false',decide_eq_true_iff] at this
     exact this
    refine wpS_bind (wpS_elem hbx ?_)
    have hm2:=(hm1).pushB ub hbx fun y hy=>Int.le_trans (Int.le_of_lt hba) (ge_head (u:=ua) hax y hy)
    by_cases e6:(ib+1 == b.size)=true
    ·rw[if_pos e6]
     exact wpS_pure ⟨(show Gl st _ from ⟨gl2.1,gl2.2.1,gl2.2.2.1,gl2.2.2.2⟩),.inl ⟨_,rfl,ENDB hm2 (by simpa using e6)⟩⟩
    rw[if_neg e6]
    have e6':ib+1≠b.size:=by simpa using e6
    refine wpS_bind (wpS_elem hax ?_)
    refine wpS_bind (gal hA (gl2.1.trans hk) (ma ax max) mb ub (i:=ib+1) (by omega) fun j hj1 hj2 hj3=>?_)
    dsimp only
    have hbj:∀z∈(b.toList.drop (ib+1)).take j,rk z<=rk ax:=fun z hz=>by
     have:=hj2 z hz
     unfold bq at this
     rw[if_pos rfl,decide_eq_true_iff] at this
     omega
    have hm3:=hm2.extB ub j fun z hz y hy=>Int.le_trans (hbj z hz) (ge_head (u:=ua) hax y hy)
    by_cases hj0:j > 0
    ·rw[if_pos hj0]
     by_cases e7:(ib+1+j == b.size)=true
     ·rw[if_pos e7]
      exact wpS_pure ⟨(show Gl st _ from ⟨gl2.1,gl2.2.1,gl2.2.2.1,gl2.2.2.2⟩),.inl ⟨_,rfl,ENDB hm3 (by simpa using e7)⟩⟩
     rw[if_neg e7]
     have e7':ib+1+j≠b.size:=by simpa using e7
     refine wpS_bind (wpS_elem hax ?_)
     obtain ⟨bz,hbz,_⟩:=get_of (a:=b) (i:=ib+1+j) (by omega)
     have hle:rk ax<=rk bz:=by
      have:=hj3 bz (by simpa using hbz)
      unfold bq at this
      rw[if_pos rfl,decide_eq_false_iff_not] at this
      omega
     have hm4:=(hm3).pushA ua hax fun y hy=>Int.le_trans hle (ge_head (u:=ub) hbz y hy)
     by_cases e8:(ia+k+1+1 == a.size)=true
     ·rw[if_pos e8]
      exact wpS_pure ⟨(show Gl st _ from ⟨gl2.1,gl2.2.1,gl2.2.2.1,gl2.2.2.2⟩),.inl ⟨_,rfl,LAST hm4 (by simpa using e8)⟩⟩
     rw[if_neg e8]
     have e8':ia+k+1+1≠a.size:=by simpa using e8
     split
     ·exact wpS_pure ⟨(show Gl st _ from ⟨gl2.1,gl2.2.1,gl2.2.2.1,gl2.2.2.2⟩),.inr ⟨_,_,_,_,_,_,rfl,hm4,by omega,by omega,by omega⟩⟩
     ·exact wpS_pure ⟨(show Gl st _ from ⟨gl2.1,gl2.2.1,gl2.2.2.1,gl2.2.2.2⟩),_,_,_,_,_,_,rfl,hm4,by omega,by omega,by omega⟩
    ·rw[if_neg hj0]
     have j0:j=0:=by omega
     subst j0
     refine wpS_bind (wpS_elem hax ?_)
     obtain ⟨bz,hbz,_⟩:=get_of (a:=b) (i:=ib+1) (by omega)
     have hle:rk ax<=rk bz:=by
      have:=hj3 bz (by simpa using hbz)
      unfold bq at this
      rw[if_pos rfl,decide_eq_false_iff_not] at this
      omega
     have hm4:=(hm2).pushA ua hax fun y hy=>Int.le_trans hle (ge_head (u:=ub) hbz y hy)
     by_cases e8:(ia+k+1+1 == a.size)=true
     ·rw[if_pos e8]
      exact wpS_pure ⟨(show Gl st _ from ⟨gl2.1,gl2.2.1,gl2.2.2.1,gl2.2.2.2⟩),.inl ⟨_,rfl,LAST hm4 (by simpa using e8)⟩⟩
     rw[if_neg e8]
     have e8':ia+k+1+1≠a.size:=by simpa using e8
     split
     ·exact wpS_pure ⟨(show Gl st _ from ⟨gl2.1,gl2.2.1,gl2.2.2.1,gl2.2.2.2⟩),.inr ⟨_,_,_,_,_,_,rfl,hm4,by omega,by omega,by omega⟩⟩
     ·exact wpS_pure ⟨(show Gl st _ from ⟨gl2.1,gl2.2.1,gl2.2.2.1,gl2.2.2.2⟩),_,_,_,_,_,_,rfl,hm4,by omega,by omega,by omega⟩
   ·rw[if_neg hk0]
    have k0:k=0:=by omega
    subst k0
    obtain ⟨ax,hax,max⟩:=get_of (a:=a) (i:=ia) (by omega)
    have hba:rk bx<rk ax:=by
     have:=hk3 ax (by simpa using hax)
     unfold bq at this
     rw[if_neg (by decide),Bool.not_eq_false',decide_eq_true_iff] at this
     exact this
    refine wpS_bind (wpS_elem hbx ?_)
    have hm2:=(hm).pushB ub hbx fun y hy=>Int.le_trans (Int.le_of_lt hba) (ge_head (u:=ua) hax y hy)
    by_cases e6:(ib+1 == b.size)=true
    ·rw[if_pos e6]
     exact wpS_pure ⟨(show Gl st _ from ⟨gl2.1,gl2.2.1,gl2.2.2.1,gl2.2.2.2⟩),.inl ⟨_,rfl,ENDB hm2 (by simpa using e6)⟩⟩
    rw[if_neg e6]
    have e6':ib+1≠b.size:=by simpa using e6
    refine wpS_bind (wpS_elem hax ?_)
    refine wpS_bind (gal hA (gl2.1.trans hk) (ma ax max) mb ub (i:=ib+1) (by omega) fun j hj1 hj2 hj3=>?_)
    dsimp only
    have hbj:∀z∈(b.toList.drop (ib+1)).take j,rk z<=rk ax:=fun z hz=>by
     have:=hj2 z hz
     unfold bq at this
     rw[if_pos rfl,decide_eq_true_iff] at this
     omega
    have hm3:=hm2.extB ub j fun z hz y hy=>Int.le_trans (hbj z hz) (ge_head (u:=ua) hax y hy)
    by_cases hj0:j > 0
    ·rw[if_pos hj0]
     by_cases e7:(ib+1+j == b.size)=true
     ·rw[if_pos e7]
      exact wpS_pure ⟨(show Gl st _ from ⟨gl2.1,gl2.2.1,gl2.2.2.1,gl2.2.2.2⟩),.inl ⟨_,rfl,ENDB hm3 (by simpa using e7)⟩⟩
     rw[if_neg e7]
     have e7':ib+1+j≠b.size:=by simpa using e7
     refine wpS_bind (wpS_elem hax ?_)
     obtain ⟨bz,hbz,_⟩:=get_of (a:=b) (i:=ib+1+j) (by omega)
     have hle:rk ax<=rk bz:=by
      have:=hj3 bz (by simpa using hbz)
      unfold bq at this
      rw[if_pos rfl,decide_eq_false_iff_not] at this
      omega
     have hm4:=(hm3).pushA ua hax fun y hy=>Int.le_trans hle (ge_head (u:=ub) hbz y hy)
     by_cases e8:(ia+1+1 == a.size)=true
     ·rw[if_pos e8]
      exact wpS_pure ⟨(show Gl st _ from ⟨gl2.1,gl2.2.1,gl2.2.2.1,gl2.2.2.2⟩),.inl ⟨_,rfl,LAST hm4 (by simpa using e8)⟩⟩
     rw[if_neg e8]
     have e8':ia+1+1≠a.size:=by simpa using e8
     split
     ·exact wpS_pure ⟨(show Gl st _ from ⟨gl2.1,gl2.2.1,gl2.2.2.1,gl2.2.2.2⟩),.inr ⟨_,_,_,_,_,_,rfl,hm4,by omega,by omega,by omega⟩⟩
     ·exact wpS_pure ⟨(show Gl st _ from ⟨gl2.1,gl2.2.1,gl2.2.2.1,gl2.2.2.2⟩),_,_,_,_,_,_,rfl,hm4,by omega,by omega,by omega⟩
    ·rw[if_neg hj0]
     have j0:j=0:=by omega
     subst j0
     refine wpS_bind (wpS_elem hax ?_)
     obtain ⟨bz,hbz,_⟩:=get_of (a:=b) (i:=ib+1) (by omega)
     have hle:rk ax<=rk bz:=by
      have:=hj3 bz (by simpa using hbz)
      unfold bq at this
      rw[if_pos rfl,decide_eq_false_iff_not] at this
      omega
     have hm4:=(hm2).pushA ua hax fun y hy=>Int.le_trans hle (ge_head (u:=ub) hbz y hy)
     by_cases e8:(ia+1+1 == a.size)=true
     ·rw[if_pos e8]
      exact wpS_pure ⟨(show Gl st _ from ⟨gl2.1,gl2.2.1,gl2.2.2.1,gl2.2.2.2⟩),.inl ⟨_,rfl,LAST hm4 (by simpa using e8)⟩⟩
     rw[if_neg e8]
     have e8':ia+1+1≠a.size:=by simpa using e8
     split
     ·exact wpS_pure ⟨(show Gl st _ from ⟨gl2.1,gl2.2.1,gl2.2.2.1,gl2.2.2.2⟩),.inr ⟨_,_,_,_,_,_,rfl,hm4,by omega,by omega,by omega⟩⟩
     ·exact wpS_pure ⟨(show Gl st _ from ⟨gl2.1,gl2.2.1,gl2.2.2.1,gl2.2.2.2⟩),_,_,_,_,_,_,rfl,hm4,by omega,by omega,by omega⟩
  ·rw[if_neg hmg]
   refine wpS_bind (wpS_modify ?_)
   refine wpS_bind (wpS_elem hbx ?_)
   refine wpS_bind (gal hA (gl2.1.trans hk) (mb bx mbx) ma ua (by omega) fun k hk1' hk2 hk3=>?_)
   dsimp only
   have hbk:∀x∈(a.toList.drop ia).take k,rk x<=rk bx:=fun x hx=>by
    have:=hk2 x hx
    unfold bq at this
    rw[if_neg (by decide),Bool.not_eq_true',decide_eq_false_iff_not] at this
    omega
   have hm1:=hm.extA ua k fun x hx y hy=>Int.le_trans (hbk x hx) (ge_head (u:=ub) hbx y hy)
   by_cases hk0:k > 0
   ·rw[if_pos hk0]
    by_cases e4:(ia+k+1 == a.size)=true
    ·rw[if_pos e4]
     exact wpS_pure ⟨(show Gl st _ from ⟨gl2.1,gl2.2.1,gl2.2.2.1,gl2.2.2.2⟩),.inl ⟨_,rfl,LAST hm1 (by simpa using e4)⟩⟩
    rw[if_neg e4]
    by_cases e5:(ia+k == a.size)=true
    ·rw[if_pos e5]
     exact wpS_pure ⟨(show Gl st _ from ⟨gl2.1,gl2.2.1,gl2.2.2.1,gl2.2.2.2⟩),.inl ⟨_,rfl,ENDA hm1 (by simpa using e5)⟩⟩
    rw[if_neg e5]
    have e4':ia+k+1≠a.size:=by simpa using e4
    have e5':ia+k≠a.size:=by simpa using e5
    obtain ⟨ax,hax,max⟩:=get_of (a:=a) (i:=ia+k) (by omega)
    have hba:rk bx<rk ax:=by
     have:=hk3 ax (by simpa using hax)
     unfold bq at this
     rw[if_neg (by decide),Bool.not_eq_false',decide_eq_true_iff] at this
     exact this
    refine wpS_bind (wpS_elem hbx ?_)
    have hm2:=(hm1).pushB ub hbx fun y hy=>Int.le_trans (Int.le_of_lt hba) (ge_head (u:=ua) hax y hy)
    by_cases e6:(ib+1 == b.size)=true
    ·rw[if_pos e6]
     exact wpS_pure ⟨(show Gl st _ from ⟨gl2.1,gl2.2.1,gl2.2.2.1,gl2.2.2.2⟩),.inl ⟨_,rfl,ENDB hm2 (by simpa using e6)⟩⟩
    rw[if_neg e6]
    have e6':ib+1≠b.size:=by simpa using e6
    refine wpS_bind (wpS_elem hax ?_)
    refine wpS_bind (gal hA (gl2.1.trans hk) (ma ax max) mb ub (i:=ib+1) (by omega) fun j hj1 hj2 hj3=>?_)
    dsimp only
    have hbj:∀z∈(b.toList.drop (ib+1)).take j,rk z<=rk ax:=fun z hz=>by
     have:=hj2 z hz
     unfold bq at this
     rw[if_pos rfl,decide_eq_true_iff] at this
     omega
    have hm3:=hm2.extB ub j fun z hz y hy=>Int.le_trans (hbj z hz) (ge_head (u:=ua) hax y hy)
    by_cases hj0:j > 0
    ·rw[if_pos hj0]
     by_cases e7:(ib+1+j == b.size)=true
     ·rw[if_pos e7]
      exact wpS_pure ⟨(show Gl st _ from ⟨gl2.1,gl2.2.1,gl2.2.2.1,gl2.2.2.2⟩),.inl ⟨_,rfl,ENDB hm3 (by simpa using e7)⟩⟩
     rw[if_neg e7]
     have e7':ib+1+j≠b.size:=by simpa using e7
     refine wpS_bind (wpS_elem hax ?_)
     obtain ⟨bz,hbz,_⟩:=get_of (a:=b) (i:=ib+1+j) (by omega)
     have hle:rk ax<=rk bz:=by
      have:=hj3 bz (by simpa using hbz)
      unfold bq at this
      rw[if_pos rfl,decide_eq_false_iff_not] at this
      omega
     have hm4:=(hm3).pushA ua hax fun y hy=>Int.le_trans hle (ge_head (u:=ub) hbz y hy)
     by_cases e8:(ia+k+1+1 == a.size)=true
     ·rw[if_pos e8]
      exact wpS_pure ⟨(show Gl st _ from ⟨gl2.1,gl2.2.1,gl2.2.2.1,gl2.2.2.2⟩),.inl ⟨_,rfl,LAST hm4 (by simpa using e8)⟩⟩
     rw[if_neg e8]
     have e8':ia+k+1+1≠a.size:=by simpa using e8
     split
     ·exact wpS_pure ⟨(show Gl st _ from ⟨gl2.1,gl2.2.1,gl2.2.2.1,gl2.2.2.2⟩),.inr ⟨_,_,_,_,_,_,rfl,hm4,by omega,by omega,by omega⟩⟩
     ·exact wpS_pure ⟨(show Gl st _ from ⟨gl2.1,gl2.2.1,gl2.2.2.1,gl2.2.2.2⟩),_,_,_,_,_,_,rfl,hm4,by omega,by omega,by omega⟩
    ·rw[if_neg hj0]
     have j0:j=0:=by omega
     subst j0
     refine wpS_bind (wpS_elem hax ?_)
     obtain ⟨bz,hbz,_⟩:=get_of (a:=b) (i:=ib+1) (by omega)
     have hle:rk ax<=rk bz:=by
      have:=hj3 bz (by simpa using hbz)
      unfold bq at this
      rw[if_pos rfl,decide_eq_false_iff_not] at this
      omega
     have hm4:=(hm2).pushA ua hax fun y hy=>Int.le_trans hle (ge_head (u:=ub) hbz y hy)
     by_cases e8:(ia+k+1+1 == a.size)=true
     ·rw[if_pos e8]
      exact wpS_pure ⟨(show Gl st _ from ⟨gl2.1,gl2.2.1,gl2.2.2.1,gl2.2.2.2⟩),.inl ⟨_,rfl,LAST hm4 (by simpa using e8)⟩⟩
     rw[if_neg e8]
     have e8':ia+k+1+1≠a.size:=by simpa using e8
     split
     ·exact wpS_pure ⟨(show Gl st _ from ⟨gl2.1,gl2.2.1,gl2.2.2.1,gl2.2.2.2⟩),.inr ⟨_,_,_,_,_,_,rfl,hm4,by omega,by omega,by omega⟩⟩
     ·exact wpS_pure ⟨(show Gl st _ from ⟨gl2.1,gl2.2.1,gl2.2.2.1,gl2.2.2.2⟩),_,_,_,_,_,_,rfl,hm4,by omega,by omega,by omega⟩
   ·rw[if_neg hk0]
    have k0:k=0:=by omega
    subst k0
    obtain ⟨ax,hax,max⟩:=get_of (a:=a) (i:=ia) (by omega)
    have hba:rk bx<rk ax:=by
     have:=hk3 ax (by simpa using hax)
     unfold bq at this
     rw[if_neg (by decide),Bool.not_eq_false',decide_eq_true_iff] at this
     exact this
    refine wpS_bind (wpS_elem hbx ?_)
    have hm2:=(hm).pushB ub hbx fun y hy=>Int.le_trans (Int.le_of_lt hba) (ge_head (u:=ua) hax y hy)
    by_cases e6:(ib+1 == b.size)=true
    ·rw[if_pos e6]
     exact wpS_pure ⟨(show Gl st _ from ⟨gl2.1,gl2.2.1,gl2.2.2.1,gl2.2.2.2⟩),.inl ⟨_,rfl,ENDB hm2 (by simpa using e6)⟩⟩
    rw[if_neg e6]
    have e6':ib+1≠b.size:=by simpa using e6
    refine wpS_bind (wpS_elem hax ?_)
    refine wpS_bind (gal hA (gl2.1.trans hk) (ma ax max) mb ub (i:=ib+1) (by omega) fun j hj1 hj2 hj3=>?_)
    dsimp only
    have hbj:∀z∈(b.toList.drop (ib+1)).take j,rk z<=rk ax:=fun z hz=>by
     have:=hj2 z hz
     unfold bq at this
     rw[if_pos rfl,decide_eq_true_iff] at this
     omega
    have hm3:=hm2.extB ub j fun z hz y hy=>Int.le_trans (hbj z hz) (ge_head (u:=ua) hax y hy)
    by_cases hj0:j > 0
    ·rw[if_pos hj0]
     by_cases e7:(ib+1+j == b.size)=true
     ·rw[if_pos e7]
      exact wpS_pure ⟨(show Gl st _ from ⟨gl2.1,gl2.2.1,gl2.2.2.1,gl2.2.2.2⟩),.inl ⟨_,rfl,ENDB hm3 (by simpa using e7)⟩⟩
     rw[if_neg e7]
     have e7':ib+1+j≠b.size:=by simpa using e7
     refine wpS_bind (wpS_elem hax ?_)
     obtain ⟨bz,hbz,_⟩:=get_of (a:=b) (i:=ib+1+j) (by omega)
     have hle:rk ax<=rk bz:=by
      have:=hj3 bz (by simpa using hbz)
      unfold bq at this
      rw[if_pos rfl,decide_eq_false_iff_not] at this
      omega
     have hm4:=(hm3).pushA ua hax fun y hy=>Int.le_trans hle (ge_head (u:=ub) hbz y hy)
     by_cases e8:(ia+1+1 == a.size)=true
     ·rw[if_pos e8]
      exact wpS_pure ⟨(show Gl st _ from ⟨gl2.1,gl2.2.1,gl2.2.2.1,gl2.2.2.2⟩),.inl ⟨_,rfl,LAST hm4 (by simpa using e8)⟩⟩
     rw[if_neg e8]
     have e8':ia+1+1≠a.size:=by simpa using e8
     split
     ·exact wpS_pure ⟨(show Gl st _ from ⟨gl2.1,gl2.2.1,gl2.2.2.1,gl2.2.2.2⟩),.inr ⟨_,_,_,_,_,_,rfl,hm4,by omega,by omega,by omega⟩⟩
     ·exact wpS_pure ⟨(show Gl st _ from ⟨gl2.1,gl2.2.1,gl2.2.2.1,gl2.2.2.2⟩),_,_,_,_,_,_,rfl,hm4,by omega,by omega,by omega⟩
    ·rw[if_neg hj0]
     have j0:j=0:=by omega
     subst j0
     refine wpS_bind (wpS_elem hax ?_)
     obtain ⟨bz,hbz,_⟩:=get_of (a:=b) (i:=ib+1) (by omega)
     have hle:rk ax<=rk bz:=by
      have:=hj3 bz (by simpa using hbz)
      unfold bq at this
      rw[if_pos rfl,decide_eq_false_iff_not] at this
      omega
     have hm4:=(hm2).pushA ua hax fun y hy=>Int.le_trans hle (ge_head (u:=ub) hbz y hy)
     by_cases e8:(ia+1+1 == a.size)=true
     ·rw[if_pos e8]
      exact wpS_pure ⟨(show Gl st _ from ⟨gl2.1,gl2.2.1,gl2.2.2.1,gl2.2.2.2⟩),.inl ⟨_,rfl,LAST hm4 (by simpa using e8)⟩⟩
     rw[if_neg e8]
     have e8':ia+1+1≠a.size:=by simpa using e8
     split
     ·exact wpS_pure ⟨(show Gl st _ from ⟨gl2.1,gl2.2.1,gl2.2.2.1,gl2.2.2.2⟩),.inr ⟨_,_,_,_,_,_,rfl,hm4,by omega,by omega,by omega⟩⟩
     ·exact wpS_pure ⟨(show Gl st _ from ⟨gl2.1,gl2.2.1,gl2.2.2.1,gl2.2.2.2⟩),_,_,_,_,_,_,rfl,hm4,by omega,by omega,by omega⟩
 ·rintro c st' ⟨_,out,ia,ib,mg,ac,bc,rfl,hm,z1,z2,z3⟩
  omega
 ·rintro ⟨c1,c2⟩ st2 ⟨gl2,(⟨r,hr,hf⟩|⟨out,ia,ib,mg,ac,bc,e,hm,za,zb,zp⟩)⟩
  ·dsimp only at hr
   subst hr
   exact wpS_pure ⟨gl2,r,rfl,hf⟩
  ·cases e
   dsimp only
   refine wpS_bind (wpS_modify ?_)
   exact wpS_pure ⟨⟨gl2.1,gl2.2.1,gl2.2.2.1,gl2.2.2.2⟩,_,_,_,_,rfl,hm,za,zb,by omega⟩
end
end So
namespace So
open PySem PyProof.Rows
structure Mh (rk:Keyed->Int) (la lb O:List Keyed) (na nb:Nat):Prop where
 perm:O.Perm (la.drop na++lb.drop nb)
 up:Up rk O
 hi:∀x∈la.take na++lb.take nb,∀y∈O,rk x<=rk y
theorem Mh.swap {rk:Keyed->Int}{la lb O:List Keyed}{na nb:Nat} (h:Mh rk la lb O na nb):Mh rk lb la O nb na :=
 ⟨h.perm.trans List.perm_append_comm,h.up,fun x hx y hy=>h.hi x (by rcases List.mem_append.mp hx with z|z <;> simp[z]) y hy⟩
theorem Mh.blkA {rk:Keyed->Int}{la lb O:List Keyed}{na nb:Nat} (h:Mh rk la lb O na nb) (ua:Up rk la) (k:Nat) (hk:k<=na) (c:∀x∈(la.take na).drop k,∀y∈lb.take nb,rk y<=rk x):Mh rk la lb ((la.take na).drop k++O) k nb:=by
 have ht:la.take k=(la.take na).take k:=by rw[List.take_take,Nat.min_eq_left hk]
 refine ⟨?_,((ua.take na).drop k).app h.up fun x hx y hy=>h.hi x (List.mem_append_left _ (List.mem_of_mem_drop hx)) y hy,fun x hx y hy=>?_⟩
 ·have e:la.drop k=(la.take na).drop k++la.drop na:=by
   have h1:la=la.take na++la.drop na:=(List.take_append_drop na la).symm
   by_cases hn:na<=la.length
   ·conv=>lhs;rw[h1]
    rw[List.drop_append_of_le_length (by rw[List.length_take];omega)]
   ·rw[List.take_of_length_le (by omega),List.drop_eq_nil_of_le (show la.length<=na by omega),List.append_nil]
  rw[e,List.append_assoc]
  exact h.perm.append_left _
 ·rcases List.mem_append.mp hy with hy|hy
  ·rcases List.mem_append.mp hx with hx|hx
   ·rw[ht] at hx
    have:=ua.take na
    rw[<- List.take_append_drop k (la.take na)] at this
    exact (List.pairwise_append.mp this).2.2 x hx y hy
   ·exact c y hy x hx
  ·rcases List.mem_append.mp hx with hx|hx
   ·rw[ht] at hx
    exact h.hi x (List.mem_append_left _ (List.mem_of_mem_take hx)) y hy
   ·exact h.hi x (List.mem_append_right _ hx) y hy
theorem Mh.blkB {rk:Keyed->Int}{la lb O:List Keyed}{na nb:Nat} (h:Mh rk la lb O na nb) (ub:Up rk lb) (k:Nat) (hk:k<=nb) (c:∀y∈(lb.take nb).drop k,∀x∈la.take na,rk x<=rk y):Mh rk la lb ((lb.take nb).drop k++O) na k :=
 (h.swap.blkA ub k hk c).swap
theorem Mh.fin {rk:Keyed->Int}{la lb O:List Keyed}{na nb:Nat} (h:Mh rk la lb O na nb) (ua:Up rk la) (ub:Up rk lb) (c:∀x∈la.take na,∀y∈lb.take nb,rk x<=rk y):(la.take na++lb.take nb++O).Perm (la++lb)/\Up rk (la.take na++lb.take nb++O):=by
 have h1:=h.blkB ub 0 (Nat.zero_le _) (fun y hy x hx=>c x hx y (by simpa using hy))
 rw[List.drop_zero] at h1
 have h2:=h1.blkA ua 0 (Nat.zero_le _) (fun x _ y hy=>by simp at hy)
 rw[List.drop_zero,<- List.append_assoc] at h2
 exact ⟨h2.perm,h2.up⟩
theorem Mh.fin' {rk:Keyed->Int}{la lb O:List Keyed}{na nb:Nat} (h:Mh rk la lb O na nb) (ua:Up rk la) (ub:Up rk lb) (c:∀y∈lb.take nb,∀x∈la.take na,rk y<=rk x):(lb.take nb++la.take na++O).Perm (la++lb)/\Up rk (lb.take nb++la.take na++O):=by
 obtain ⟨p,u⟩:=h.swap.fin ub ua c
 exact ⟨p.trans List.perm_append_comm,u⟩
noncomputable abbrev MhA (rk:Keyed->Int) (a b out:Array Keyed) (na nb:Nat):Prop:=Mh rk a.toList b.toList out.toList.reverse na nb
section
variable {rk:Keyed->Int}{a b out:Array Keyed}{na nb:Nat}
theorem top_of {i n:Nat}{x:Keyed} (hn:n=i+1) (h:a[i]?=some x):(a.toList.take n).drop i=[x]:=by
 subst hn
 have h1:=List.getElem?_eq_some_iff.mp (get_list h)
 have hl:=h1.1
 rw[List.take_add_one,List.getElem?_eq_getElem h1.1,h1.2,List.drop_append_of_le_length (by rw[List.length_take];omega),List.drop_eq_nil_of_le (by rw[List.length_take];omega)]
 rfl
theorem MhA.pushA (h:MhA rk a b out na nb) (ua:Up rk a.toList) {i:Nat} (hi:na=i+1) {x:Keyed} (hx:a[i]?=some x) (c:∀y∈b.toList.take nb,rk y<=rk x):MhA rk a b (out.push x) i nb:=by
 have:=Mh.blkA h ua i (by omega) (fun z hz y hy=>by rw[top_of hi hx] at hz;rw[List.mem_singleton.mp hz];exact c y hy)
 rw[top_of hi hx] at this
 show Mh rk _ _ (out.push x).toList.reverse _ _
 rw[Array.toList_push,List.reverse_append];exact this
theorem MhA.pushB (h:MhA rk a b out na nb) (ub:Up rk b.toList) {i:Nat} (hi:nb=i+1) {x:Keyed} (hx:b[i]?=some x) (c:∀y∈a.toList.take na,rk y<=rk x):MhA rk a b (out.push x) na i:=by
 have:=Mh.blkB h ub i (by omega) (fun z hz y hy=>by rw[top_of hi hx] at hz;rw[List.mem_singleton.mp hz];exact c y hy)
 rw[top_of hi hx] at this
 show Mh rk _ _ (out.push x).toList.reverse _ _
 rw[Array.toList_push,List.reverse_append];exact this
theorem ext_mid (a:Array Keyed) (k n:Nat):(a.extract k n).toList=(a.toList.take n).drop k:=by
 rw[ext_list,List.drop_take]
theorem MhA.extA (h:MhA rk a b out na nb) (ua:Up rk a.toList) (k:Nat) (hk:k<=na) (c:∀x∈(a.toList.take na).drop k,∀y∈b.toList.take nb,rk y<=rk x):MhA rk a b (out++(a.extract k na).reverse) k nb:=by
 show Mh rk _ _ (out++(a.extract k na).reverse).toList.reverse _ _
 rw[Array.toList_append,Array.toList_reverse,List.reverse_append,List.reverse_reverse,ext_mid]
 exact Mh.blkA h ua k hk c
theorem MhA.extB (h:MhA rk a b out na nb) (ub:Up rk b.toList) (k:Nat) (hk:k<=nb) (c:∀x∈(b.toList.take nb).drop k,∀y∈a.toList.take na,rk y<=rk x):MhA rk a b (out++(b.extract k nb).reverse) na k:=by
 show Mh rk _ _ (out++(b.extract k nb).reverse).toList.reverse _ _
 rw[Array.toList_append,Array.toList_reverse,List.reverse_append,List.reverse_reverse,ext_mid]
 exact Mh.blkB h ub k hk c
theorem ext_top (a:Array Keyed) (n:Nat):(a.extract 0 n).toList=a.toList.take n:=by rw[ext_mid,List.drop_zero]
theorem MhA.done (h:MhA rk a b out na nb) (ua:Up rk a.toList) (ub:Up rk b.toList) (c:∀x∈a.toList.take na,∀y∈b.toList.take nb,rk x<=rk y):Fn rk a b (a.extract 0 na++b.extract 0 nb++out.reverse):=by
 unfold Fn
 rw[Array.toList_append,Array.toList_append,ext_top,ext_top,Array.toList_reverse]
 exact Mh.fin h ua ub c
theorem MhA.first (h:MhA rk a b out na nb) (ua:Up rk a.toList) (ub:Up rk b.toList) (c:∀y∈b.toList.take nb,∀x∈a.toList.take na,rk y<=rk x):Fn rk a b (b.extract 0 nb++a.extract 0 na++out.reverse):=by
 unfold Fn
 rw[Array.toList_append,Array.toList_append,ext_top,ext_top,Array.toList_reverse]
 exact Mh.fin' h ua ub c
theorem le_top {u:Up rk a.toList}{i n:Nat}{x:Keyed} (hn:n<=i+1) (hx:a[i]?=some x):∀y∈a.toList.take n,rk y<=rk x:=fun y hy=>by
 obtain ⟨j,hj⟩:=List.mem_iff_getElem?.mp hy
 rw[List.getElem?_take] at hj
 split at hj
 ·exact u.le hj (get_list hx) (by omega)
 ·cases hj
theorem one_first {x:Keyed}{n:Nat} (hn:n=1) (hx:a[0]?=some x):∀y∈a.toList.take n,y=x:=fun y hy=>by
 subst hn
 obtain ⟨j,hj⟩:=List.mem_iff_getElem?.mp hy
 rw[List.getElem?_take] at hj
 split at hj
 ·have:j=0:=by omega
  subst this
  rw[get_list hx] at hj
  cases hj
  rfl
 ·cases hj
end
section
variable {prog:Program}{w:World}{A:Around}{E:Value->Shared->Prop}{s:Shared}{rk:Keyed->Int}{M:Keyed->Prop}{κ:SortKind}
theorem galH {left:Bool}{key:Keyed}{a:Array Keyed}{n:Nat}{st:SortSt}{Q:Option Nat->SortSt->Prop} (hA:Ask prog w A s rk M κ) (hk:kindOf st=κ) (mk:M key) (ma:∀x∈a.toList,M x) (u:Up rk a.toList) (hn:0<n) (hs:n<=a.size)
  (h:∀k,k<=n->(∀x∈a.toList.take k,bq rk left key x=true)->(∀x∈(a.toList.take n).drop k,bq rk left key x=false)->Q (some k) st):wpS (model prog w) A E s (gallop' left key a 0 n (n - 1)) Q st:=by
 have hg:∀j,j<n->a[0+j]?=some (a.getD j key):=fun j hj=>by
  rw[Nat.zero_add,Array.getElem?_eq_getElem (by omega)]
  simp[Array.getD,show j<a.size by omega]
 have hg':∀j,j<n->a[j]?=some (a.getD j key):=fun j hj=>by have:=hg j hj;rw[Nat.zero_add] at this;exact this
 refine gallop_ok (xs:=fun j=>a.getD j key) hA hk mk (by omega) (fun j hj=>⟨hg j hj,?_⟩) (fun j1 j2 h12 h2 hb=>?_) (fun k h1 h2 h3=>h k (by omega) (fun x hx=>?_) (fun x hx=>?_))
 ·exact ma _ (List.mem_of_getElem? (get_list (hg' j hj)))
 ·have hle:=u.le (get_list (hg' j1 (by omega))) (get_list (hg' j2 h2)) (by omega)
  unfold bq at hb ⊢
  cases left with
  | true =>
   rw[if_pos rfl] at hb ⊢
   have:=of_decide_eq_true hb
   exact decide_eq_true (by omega)
  | false =>
   rw[if_neg (by decide)] at hb ⊢
   rw[Bool.not_eq_true',decide_eq_false_iff_not] at hb ⊢
   omega
 ·obtain ⟨j,hj,hx'⟩:=take_mem (i:=0) (by simpa using hx)
  have:=h2 j hj
  have e:=hg j (by omega)
  rw[hx'] at e
  injection e with e
  show bq rk left key x=true
  rw[e];exact this
 ·obtain ⟨j,hj⟩:=List.mem_iff_getElem?.mp hx
  rw[List.getElem?_drop,List.getElem?_take] at hj
  split at hj
  ·rename_i hlt
   have:=h3 (k+j) (by omega) hlt
   have e:=get_list (hg' (k+j) hlt)
   rw[hj] at e
   injection e with e
   show bq rk left key x=false
   rw[e];exact this
  ·cases hj
end
end So
namespace So
open PySem PyProof.Rows
section
variable {prog:Program}{w:World}{A:Around}{E:Value->Shared->Prop}{s:Shared}{rk:Keyed->Int}{M:Keyed->Prop}{κ:SortKind}
theorem mergeHi_ok {a b:Array Keyed}{st:SortSt}{Q:Array Keyed->SortSt->Prop} (hA:Ask prog w A s rk M κ) (hk:kindOf st=κ) (ma:∀x∈a.toList,M x) (mb:∀x∈b.toList,M x) (ua:Up rk a.toList) (ub:Up rk b.toList) (sa:0<a.size) (sb:0<b.size)
  (h0:∀x y,a[0]?=some x->b[0]?=some y->rk y<=rk x) (hl:∀x,a[a.size - 1]?=some x->∀y∈b.toList,rk y<=rk x)
  (h:∀r st',Fn rk a b r->Gl st st'->Q r st'):wpS (model prog w) A E s (mergeHi' a b) Q st:=by
 obtain ⟨b0,hb0,_⟩:=get_of (a:=b) sb
 obtain ⟨a0,ha0,_⟩:=get_of (a:=a) sa
 obtain ⟨al,hal,_⟩:=get_of (a:=a) (i:=a.size - 1) (by omega)
 have hlast:=hl al hal
 have hfirst:∀x∈a.toList,rk b0<=rk x:=fun x hx=>Int.le_trans (h0 a0 b0 ha0 hb0) (ge_head (u:=ua) ha0 x (by simpa using hx))
 have FIRST:∀{out:Array Keyed}{na nb:Nat},MhA rk a b out na nb->nb=1->Fn rk a b (b.extract 0 nb++a.extract 0 na++out.reverse):=fun {out na nb} hm e=>by
  refine hm.first ua ub fun y hy x hx=>?_
  rw[one_first e hb0 y hy]
  exact hfirst x (List.mem_of_mem_take hx)
 have ENDA:∀{out:Array Keyed}{na nb:Nat},MhA rk a b out na nb->na=0->Fn rk a b (a.extract 0 na++b.extract 0 nb++out.reverse):=fun {out na nb} hm e=>hm.done ua ub fun x hx=>by
  rw[e] at hx;simp at hx
 have ENDB:∀{out:Array Keyed}{na nb:Nat},MhA rk a b out na nb->nb=0->Fn rk a b (a.extract 0 na++b.extract 0 nb++out.reverse):=fun {out na nb} hm e=>hm.done ua ub fun x _ y hy=>by
  rw[e] at hy;simp at hy
 refine wpS_bind (wpS_lift (wpAny_rule ⟨rfl,?_⟩))
 refine wpS_bind (wpS_elem hal ?_)
 have m0:MhA rk a b #[al] (a.size - 1) b.size:=by
  have z:MhA rk a b #[] a.size b.size:=⟨by
   show ([]:List Keyed).Perm _
   rw[List.drop_eq_nil_of_le (by simp),List.drop_eq_nil_of_le (by simp)]
   exact List.Perm.refl _,List.Pairwise.nil,fun x _ y hy=>by simp at hy⟩
  exact z.pushA ua (by omega) hal fun y hy=>hlast y (List.mem_of_mem_take hy)
 dsimp only
 by_cases e1:(a.size - 1 == 0)=true
 ·rw[if_pos e1]
  exact wpS_pure (h _ _ (ENDA m0 (by simpa using e1)) (Gl.refl st))
 rw[if_neg e1]
 by_cases e2:(b.size == 1)=true
 ·rw[if_pos e2]
  exact wpS_pure (h _ _ (FIRST m0 (by simpa using e2)) (Gl.refl st))
 rw[if_neg e2]
 have sa2:0<a.size - 1:=by
  have:¬ a.size - 1=0:=by simpa using e1
  omega
 have sb2:1<b.size:=by
  have:¬ b.size=1:=by simpa using e2
  omega
 refine wpS_bind (wpS_get ?_)
 refine wpS_bind (wpS_mono (wpS_forRange (I:=fun x c st'=>Gl st st'/\∃na nb out mg,c=(none,na,nb,out,mg)/\MhA rk a b out na nb/\0<na/\1<nb/\na<=a.size/\nb<=b.size/\na+nb+1+x<=a.size+b.size)
  (Q:=fun c st'=>Gl st st'/\∃r,c.1=some r/\Fn rk a b r) ?_ ?_ ⟨Gl.refl st,_,_,_,_,rfl,m0,sa2,sb2,by omega,by omega,by omega⟩) ?_)
 rotate_left
 ·rintro c st' ⟨_,na,nb,out,mg,rfl,_,z1,z2,z4,z5,z3⟩
  omega
 ·rintro ⟨c1,c2⟩ st' ⟨gl,r,hr,hf⟩
  dsimp only at hr
  subst hr
  exact wpS_pure (h r st' hf gl)
 rintro x c st1 _ hx ⟨gl,na,nb,out,mg,rfl,hm,za,zb,zas,zbs,zp⟩
 have hk1:kindOf st1=κ:=gl.1.trans hk
 dsimp only
 refine wpS_bind (wpS_mono (wpS_forRange (I:=fun y c st'=>st'=st1/\∃na nb out ac bc,c=(none,na,nb,out,ac,bc)/\MhA rk a b out na nb/\0<na/\1<nb/\na<=a.size/\nb<=b.size/\na+nb+1+x+y<=a.size+b.size)
  (Q:=fun c st'=>st'=st1/\((∃r,c.1=some r/\Fn rk a b r) ∨ ∃na nb out ac bc,c=(none,na,nb,out,ac,bc)/\MhA rk a b out na nb/\0<na/\1<nb/\na<=a.size/\nb<=b.size/\na+nb+1+x+1<=a.size+b.size)) ?_ ?_ ⟨rfl,na,nb,out,0,0,rfl,hm,za,zb,zas,zbs,by omega⟩) ?_)
 ·rintro y c st' _ hy ⟨rfl,na,nb,out,ac,bc,rfl,hm,za,zb,zas,zbs,zp⟩
  obtain ⟨bx,hbx,mbx⟩:=get_of (a:=b) (i:=nb - 1) (by omega)
  obtain ⟨ax,hax,max⟩:=get_of (a:=a) (i:=na - 1) (by omega)
  dsimp only
  refine wpS_bind (wpS_elem hbx (wpS_bind (wpS_elem hax (wpS_bind (wpS_lt hA hk1 (mb bx mbx) (ma ax max) ?_)))))
  by_cases hlt:rk bx<rk ax
  ·rw[decide_eq_true hlt]
   dsimp only
   rw[if_pos rfl]
   refine wpS_bind (wpS_elem hax ?_)
   have hm':=hm.pushA ua (i:=na - 1) (by omega) hax fun y hy=>Int.le_trans (le_top (u:=ub) (n:=nb) (by omega) hbx y hy) (Int.le_of_lt hlt)
   by_cases e3:(na - 1 == 0)=true
   ·rw[if_pos e3]
    exact wpS_pure ⟨rfl,.inl ⟨_,rfl,ENDA hm' (by simpa using e3)⟩⟩
   rw[if_neg e3]
   have e3':na - 1≠0:=by simpa using e3
   split
   ·exact wpS_pure ⟨rfl,.inr ⟨_,_,_,_,_,rfl,hm',by omega,zb,by omega,zbs,by omega⟩⟩
   ·exact wpS_pure ⟨rfl,_,_,_,_,_,rfl,hm',by omega,zb,by omega,zbs,by omega⟩
  ·rw[decide_eq_false hlt]
   dsimp only
   rw[if_neg (by decide)]
   refine wpS_bind (wpS_elem hbx ?_)
   have hm':=hm.pushB ub (i:=nb - 1) (by omega) hbx fun y hy=>Int.le_trans (le_top (u:=ua) (n:=na) (by omega) hax y hy) (Int.not_lt.mp hlt)
   by_cases e3:(nb - 1 == 1)=true
   ·rw[if_pos e3]
    exact wpS_pure ⟨rfl,.inl ⟨_,rfl,FIRST hm' (by simpa using e3)⟩⟩
   rw[if_neg e3]
   have e3':nb - 1≠1:=by simpa using e3
   split
   ·exact wpS_pure ⟨rfl,.inr ⟨_,_,_,_,_,rfl,hm',za,by omega,zas,by omega,by omega⟩⟩
   ·exact wpS_pure ⟨rfl,_,_,_,_,_,rfl,hm',za,by omega,zas,by omega,by omega⟩
 ·rintro c st' ⟨rfl,na,nb,out,ac,bc,rfl,hm,z1,z2,z4,z5,z3⟩
  omega
 rintro ⟨c1,c2⟩ st' ⟨rfl,(⟨r,hr,hf⟩|⟨na,nb,out,ac,bc,e,hm,za,zb,zas,zbs,zp⟩)⟩
 ·dsimp only at hr
  subst hr
  exact wpS_pure ⟨gl,r,rfl,hf⟩
 cases e
 dsimp only
 refine wpS_bind (wpS_lift (wpAny_rule ⟨rfl,?_⟩))
 refine wpS_bind (wpS_mono (wpS_forRange (I:=fun y c st'=>Gl st st'/\∃na nb out mg ac bc,c=(none,na,nb,out,mg,ac,bc)/\MhA rk a b out na nb/\0<na/\1<nb/\(na<=a.size/\nb<=b.size)/\na+nb+1+x+1+y<=a.size+b.size)
  (Q:=fun c st'=>Gl st st'/\((∃r,c.1=some r/\Fn rk a b r) ∨ ∃na nb out mg ac bc,c=(none,na,nb,out,mg,ac,bc)/\MhA rk a b out na nb/\0<na/\1<nb/\(na<=a.size/\nb<=b.size)/\na+nb+1+x+1<=a.size+b.size)) ?_ ?_ ⟨gl,na,nb,out,_,ac,bc,rfl,hm,za,zb,⟨zas,zbs⟩,by omega⟩) ?_)
 ·rintro y c st2 _ hy ⟨gl2,na,nb,out,mg,ac,bc,rfl,hm,za,zb,⟨zas,zbs⟩,zp⟩
  obtain ⟨bx,hbx,mbx⟩:=get_of (a:=b) (i:=nb - 1) (by omega)
  dsimp only
  by_cases hmg:mg > 1
  ·rw[if_pos hmg]
   refine wpS_bind (wpS_modify ?_)
   refine wpS_bind (wpS_elem hbx ?_)
   refine wpS_bind (galH hA (gl2.1.trans hk) (mb bx mbx) ma ua (n:=na) (by omega) (by omega) fun k hk1' hk2 hk3=>?_)
   dsimp only
   have hca:∀y∈a.toList.take k,rk y<=rk bx:=fun y hy=>by
    have:=hk2 y hy
    unfold bq at this
    rw[if_neg (by decide),Bool.not_eq_true',decide_eq_false_iff_not] at this
    omega
   have hm1:=hm.extA ua k hk1' fun z hz y hy=>by
    have:=hk3 z hz
    unfold bq at this
    rw[if_neg (by decide),Bool.not_eq_false',decide_eq_true_iff] at this
    have:=le_top (u:=ub) (n:=nb) (by omega) hbx y hy
    omega
   by_cases hk0:na - k > 0
   ·rw[if_pos hk0]
    by_cases e5:(k == 0)=true
    ·rw[if_pos e5]
     exact wpS_pure ⟨(show Gl st _ from ⟨gl2.1,gl2.2.1,gl2.2.2.1,gl2.2.2.2⟩),.inl ⟨_,rfl,ENDA hm1 (by simpa using e5)⟩⟩
    rw[if_neg e5]
    have e5':k≠0:=by simpa using e5
    obtain ⟨ax,hax,max⟩:=get_of (a:=a) (i:=k - 1) (by omega)
    refine wpS_bind (wpS_elem hbx ?_)
    have hm2:=(hm1).pushB ub (i:=nb - 1) (by omega) hbx hca
    by_cases e6:(nb - 1 == 1)=true
    ·rw[if_pos e6]
     exact wpS_pure ⟨(show Gl st _ from ⟨gl2.1,gl2.2.1,gl2.2.2.1,gl2.2.2.2⟩),.inl ⟨_,rfl,FIRST hm2 (by simpa using e6)⟩⟩
    rw[if_neg e6]
    have e6':nb - 1≠1:=by simpa using e6
    refine wpS_bind (wpS_elem hax ?_)
    refine wpS_bind (galH hA (gl2.1.trans hk) (ma ax max) mb ub (n:=nb - 1) (by omega) (by omega) fun j hj1 hj2 hj3=>?_)
    dsimp only
    have hcb:∀y∈b.toList.take j,rk y<=rk ax:=fun y hy=>by
     have:=hj2 y hy
     unfold bq at this
     rw[if_pos rfl,decide_eq_true_iff] at this
     omega
    have hm3:=hm2.extB ub j hj1 fun z hz y hy=>by
     have:=hj3 z hz
     unfold bq at this
     rw[if_pos rfl,decide_eq_false_iff_not] at this
     have:=le_top (u:=ua) (n:=k) (by omega) hax y hy
     omega
    by_cases hj0:nb - 1 - j > 0
    ·rw[if_pos hj0]
     by_cases e7:(j == 1)=true
     ·rw[if_pos e7]
      exact wpS_pure ⟨(show Gl st _ from ⟨gl2.1,gl2.2.1,gl2.2.2.1,gl2.2.2.2⟩),.inl ⟨_,rfl,FIRST hm3 (by simpa using e7)⟩⟩
     rw[if_neg e7]
     by_cases e9:(j == 0)=true
     ·rw[if_pos e9]
      exact wpS_pure ⟨(show Gl st _ from ⟨gl2.1,gl2.2.1,gl2.2.2.1,gl2.2.2.2⟩),.inl ⟨_,rfl,ENDB hm3 (by simpa using e9)⟩⟩
     rw[if_neg e9]
     have e7':j≠1:=by simpa using e7
     have e9':j≠0:=by simpa using e9
     refine wpS_bind (wpS_elem hax ?_)
     have hm4:=(hm3).pushA ua (i:=k - 1) (by omega) hax hcb
     by_cases e8:(k - 1 == 0)=true
     ·rw[if_pos e8]
      exact wpS_pure ⟨(show Gl st _ from ⟨gl2.1,gl2.2.1,gl2.2.2.1,gl2.2.2.2⟩),.inl ⟨_,rfl,ENDA hm4 (by simpa using e8)⟩⟩
     rw[if_neg e8]
     have e8':k - 1≠0:=by simpa using e8
     split
     ·exact wpS_pure ⟨(show Gl st _ from ⟨gl2.1,gl2.2.1,gl2.2.2.1,gl2.2.2.2⟩),.inr ⟨_,_,_,_,_,_,rfl,hm4,by omega,by omega,⟨by omega,by omega⟩,by omega⟩⟩
     ·exact wpS_pure ⟨(show Gl st _ from ⟨gl2.1,gl2.2.1,gl2.2.2.1,gl2.2.2.2⟩),_,_,_,_,_,_,rfl,hm4,by omega,by omega,⟨by omega,by omega⟩,by omega⟩
    ·rw[if_neg hj0]
     have j0:j=nb - 1:=by omega
     subst j0
     refine wpS_bind (wpS_elem hax ?_)
     have hm4:=(hm2).pushA ua (i:=k - 1) (by omega) hax hcb
     by_cases e8:(k - 1 == 0)=true
     ·rw[if_pos e8]
      exact wpS_pure ⟨(show Gl st _ from ⟨gl2.1,gl2.2.1,gl2.2.2.1,gl2.2.2.2⟩),.inl ⟨_,rfl,ENDA hm4 (by simpa using e8)⟩⟩
     rw[if_neg e8]
     have e8':k - 1≠0:=by simpa using e8
     split
     ·exact wpS_pure ⟨(show Gl st _ from ⟨gl2.1,gl2.2.1,gl2.2.2.1,gl2.2.2.2⟩),.inr ⟨_,_,_,_,_,_,rfl,hm4,by omega,by omega,⟨by omega,by omega⟩,by omega⟩⟩
     ·exact wpS_pure ⟨(show Gl st _ from ⟨gl2.1,gl2.2.1,gl2.2.2.1,gl2.2.2.2⟩),_,_,_,_,_,_,rfl,hm4,by omega,by omega,⟨by omega,by omega⟩,by omega⟩
   ·rw[if_neg hk0]
    have k0:k=na:=by omega
    subst k0
    obtain ⟨ax,hax,max⟩:=get_of (a:=a) (i:=k - 1) (by omega)
    refine wpS_bind (wpS_elem hbx ?_)
    have hm2:=(hm).pushB ub (i:=nb - 1) (by omega) hbx hca
    by_cases e6:(nb - 1 == 1)=true
    ·rw[if_pos e6]
     exact wpS_pure ⟨(show Gl st _ from ⟨gl2.1,gl2.2.1,gl2.2.2.1,gl2.2.2.2⟩),.inl ⟨_,rfl,FIRST hm2 (by simpa using e6)⟩⟩
    rw[if_neg e6]
    have e6':nb - 1≠1:=by simpa using e6
    refine wpS_bind (wpS_elem hax ?_)
    refine wpS_bind (galH hA (gl2.1.trans hk) (ma ax max) mb ub (n:=nb - 1) (by omega) (by omega) fun j hj1 hj2 hj3=>?_)
    dsimp only
    have hcb:∀y∈b.toList.take j,rk y<=rk ax:=fun y hy=>by
     have:=hj2 y hy
     unfold bq at this
     rw[if_pos rfl,decide_eq_true_iff] at this
     omega
    have hm3:=hm2.extB ub j hj1 fun z hz y hy=>by
     have:=hj3 z hz
     unfold bq at this
     rw[if_pos rfl,decide_eq_false_iff_not] at this
     have:=le_top (u:=ua) (n:=k) (by omega) hax y hy
     omega
    by_cases hj0:nb - 1 - j > 0
    ·rw[if_pos hj0]
     by_cases e7:(j == 1)=true
     ·rw[if_pos e7]
      exact wpS_pure ⟨(show Gl st _ from ⟨gl2.1,gl2.2.1,gl2.2.2.1,gl2.2.2.2⟩),.inl ⟨_,rfl,FIRST hm3 (by simpa using e7)⟩⟩
     rw[if_neg e7]
     by_cases e9:(j == 0)=true
     ·rw[if_pos e9]
      exact wpS_pure ⟨(show Gl st _ from ⟨gl2.1,gl2.2.1,gl2.2.2.1,gl2.2.2.2⟩),.inl ⟨_,rfl,ENDB hm3 (by simpa using e9)⟩⟩
     rw[if_neg e9]
     have e7':j≠1:=by simpa using e7
     have e9':j≠0:=by simpa using e9
     refine wpS_bind (wpS_elem hax ?_)
     have hm4:=(hm3).pushA ua (i:=k - 1) (by omega) hax hcb
     by_cases e8:(k - 1 == 0)=true
     ·rw[if_pos e8]
      exact wpS_pure ⟨(show Gl st _ from ⟨gl2.1,gl2.2.1,gl2.2.2.1,gl2.2.2.2⟩),.inl ⟨_,rfl,ENDA hm4 (by simpa using e8)⟩⟩
     rw[if_neg e8]
     have e8':k - 1≠0:=by simpa using e8
     split
     ·exact wpS_pure ⟨(show Gl st _ from ⟨gl2.1,gl2.2.1,gl2.2.2.1,gl2.2.2.2⟩),.inr ⟨_,_,_,_,_,_,rfl,hm4,by omega,by omega,⟨by omega,by omega⟩,by omega⟩⟩
     ·exact wpS_pure ⟨(show Gl st _ from ⟨gl2.1,gl2.2.1,gl2.2.2.1,gl2.2.2.2⟩),_,_,_,_,_,_,rfl,hm4,by omega,by omega,⟨by omega,by omega⟩,by omega⟩
    ·rw[if_neg hj0]
     have j0:j=nb - 1:=by omega
     subst j0
     refine wpS_bind (wpS_elem hax ?_)
     have hm4:=(hm2).pushA ua (i:=k - 1) (by omega) hax hcb
     by_cases e8:(k - 1 == 0)=true
     ·rw[if_pos e8]
      exact wpS_pure ⟨(show Gl st _ from ⟨gl2.1,gl2.2.1,gl2.2.2.1,gl2.2.2.2⟩),.inl ⟨_,rfl,ENDA hm4 (by simpa using e8)⟩⟩
     rw[if_neg e8]
     have e8':k - 1≠0:=by simpa using e8
     split
     ·exact wpS_pure ⟨(show Gl st _ from ⟨gl2.1,gl2.2.1,gl2.2.2.1,gl2.2.2.2⟩),.inr ⟨_,_,_,_,_,_,rfl,hm4,by omega,by omega,⟨by omega,by omega⟩,by omega⟩⟩
     ·exact wpS_pure ⟨(show Gl st _ from ⟨gl2.1,gl2.2.1,gl2.2.2.1,gl2.2.2.2⟩),_,_,_,_,_,_,rfl,hm4,by omega,by omega,⟨by omega,by omega⟩,by omega⟩
  ·rw[if_neg hmg]
   refine wpS_bind (wpS_modify ?_)
   refine wpS_bind (wpS_elem hbx ?_)
   refine wpS_bind (galH hA (gl2.1.trans hk) (mb bx mbx) ma ua (n:=na) (by omega) (by omega) fun k hk1' hk2 hk3=>?_)
   dsimp only
   have hca:∀y∈a.toList.take k,rk y<=rk bx:=fun y hy=>by
    have:=hk2 y hy
    unfold bq at this
    rw[if_neg (by decide),Bool.not_eq_true',decide_eq_false_iff_not] at this
    omega
   have hm1:=hm.extA ua k hk1' fun z hz y hy=>by
    have:=hk3 z hz
    unfold bq at this
    rw[if_neg (by decide),Bool.not_eq_false',decide_eq_true_iff] at this
    have:=le_top (u:=ub) (n:=nb) (by omega) hbx y hy
    omega
   by_cases hk0:na - k > 0
   ·rw[if_pos hk0]
    by_cases e5:(k == 0)=true
    ·rw[if_pos e5]
     exact wpS_pure ⟨(show Gl st _ from ⟨gl2.1,gl2.2.1,gl2.2.2.1,gl2.2.2.2⟩),.inl ⟨_,rfl,ENDA hm1 (by simpa using e5)⟩⟩
    rw[if_neg e5]
    have e5':k≠0:=by simpa using e5
    obtain ⟨ax,hax,max⟩:=get_of (a:=a) (i:=k - 1) (by omega)
    refine wpS_bind (wpS_elem hbx ?_)
    have hm2:=(hm1).pushB ub (i:=nb - 1) (by omega) hbx hca
    by_cases e6:(nb - 1 == 1)=true
    ·rw[if_pos e6]
     exact wpS_pure ⟨(show Gl st _ from ⟨gl2.1,gl2.2.1,gl2.2.2.1,gl2.2.2.2⟩),.inl ⟨_,rfl,FIRST hm2 (by simpa using e6)⟩⟩
    rw[if_neg e6]
    have e6':nb - 1≠1:=by simpa using e6
    refine wpS_bind (wpS_elem hax ?_)
    refine wpS_bind (galH hA (gl2.1.trans hk) (ma ax max) mb ub (n:=nb - 1) (by omega) (by omega) fun j hj1 hj2 hj3=>?_)
    dsimp only
    have hcb:∀y∈b.toList.take j,rk y<=rk ax:=fun y hy=>by
     have:=hj2 y hy
     unfold bq at this
     rw[if_pos rfl,decide_eq_true_iff] at this
     omega
    have hm3:=hm2.extB ub j hj1 fun z hz y hy=>by
     have:=hj3 z hz
     unfold bq at this
     rw[if_pos rfl,decide_eq_false_iff_not] at this
     have:=le_top (u:=ua) (n:=k) (by omega) hax y hy
     omega
    by_cases hj0:nb - 1 - j > 0
    ·rw[if_pos hj0]
     by_cases e7:(j == 1)=true
     ·rw[if_pos e7]
      exact wpS_pure ⟨(show Gl st _ from ⟨gl2.1,gl2.2.1,gl2.2.2.1,gl2.2.2.2⟩),.inl ⟨_,rfl,FIRST hm3 (by simpa using e7)⟩⟩
     rw[if_neg e7]
     by_cases e9:(j == 0)=true
     ·rw[if_pos e9]
      exact wpS_pure ⟨(show Gl st _ from ⟨gl2.1,gl2.2.1,gl2.2.2.1,gl2.2.2.2⟩),.inl ⟨_,rfl,ENDB hm3 (by simpa using e9)⟩⟩
     rw[if_neg e9]
     have e7':j≠1:=by simpa using e7
     have e9':j≠0:=by simpa using e9
     refine wpS_bind (wpS_elem hax ?_)
     have hm4:=(hm3).pushA ua (i:=k - 1) (by omega) hax hcb
     by_cases e8:(k - 1 == 0)=true
     ·rw[if_pos e8]
      exact wpS_pure ⟨(show Gl st _ from ⟨gl2.1,gl2.2.1,gl2.2.2.1,gl2.2.2.2⟩),.inl ⟨_,rfl,ENDA hm4 (by simpa using e8)⟩⟩
     rw[if_neg e8]
     have e8':k - 1≠0:=by simpa using e8
     split
     ·exact wpS_pure ⟨(show Gl st _ from ⟨gl2.1,gl2.2.1,gl2.2.2.1,gl2.2.2.2⟩),.inr ⟨_,_,_,_,_,_,rfl,hm4,by omega,by omega,⟨by omega,by omega⟩,by omega⟩⟩
     ·exact wpS_pure ⟨(show Gl st _ from ⟨gl2.1,gl2.2.1,gl2.2.2.1,gl2.2.2.2⟩),_,_,_,_,_,_,rfl,hm4,by omega,by omega,⟨by omega,by omega⟩,by omega⟩
    ·rw[if_neg hj0]
     have j0:j=nb - 1:=by omega
     subst j0
     refine wpS_bind (wpS_elem hax ?_)
     have hm4:=(hm2).pushA ua (i:=k - 1) (by omega) hax hcb
     by_cases e8:(k - 1 == 0)=true
     ·rw[if_pos e8]
      exact wpS_pure ⟨(show Gl st _ from ⟨gl2.1,gl2.2.1,gl2.2.2.1,gl2.2.2.2⟩),.inl ⟨_,rfl,ENDA hm4 (by simpa using e8)⟩⟩
     rw[if_neg e8]
     have e8':k - 1≠0:=by simpa using e8
     split
     ·exact wpS_pure ⟨(show Gl st _ from ⟨gl2.1,gl2.2.1,gl2.2.2.1,gl2.2.2.2⟩),.inr ⟨_,_,_,_,_,_,rfl,hm4,by omega,by omega,⟨by omega,by omega⟩,by omega⟩⟩
     ·exact wpS_pure ⟨(show Gl st _ from ⟨gl2.1,gl2.2.1,gl2.2.2.1,gl2.2.2.2⟩),_,_,_,_,_,_,rfl,hm4,by omega,by omega,⟨by omega,by omega⟩,by omega⟩
   ·rw[if_neg hk0]
    have k0:k=na:=by omega
    subst k0
    obtain ⟨ax,hax,max⟩:=get_of (a:=a) (i:=k - 1) (by omega)
    refine wpS_bind (wpS_elem hbx ?_)
    have hm2:=(hm).pushB ub (i:=nb - 1) (by omega) hbx hca
    by_cases e6:(nb - 1 == 1)=true
    ·rw[if_pos e6]
     exact wpS_pure ⟨(show Gl st _ from ⟨gl2.1,gl2.2.1,gl2.2.2.1,gl2.2.2.2⟩),.inl ⟨_,rfl,FIRST hm2 (by simpa using e6)⟩⟩
    rw[if_neg e6]
    have e6':nb - 1≠1:=by simpa using e6
    refine wpS_bind (wpS_elem hax ?_)
    refine wpS_bind (galH hA (gl2.1.trans hk) (ma ax max) mb ub (n:=nb - 1) (by omega) (by omega) fun j hj1 hj2 hj3=>?_)
    dsimp only
    have hcb:∀y∈b.toList.take j,rk y<=rk ax:=fun y hy=>by
     have:=hj2 y hy
     unfold bq at this
     rw[if_pos rfl,decide_eq_true_iff] at this
     omega
    have hm3:=hm2.extB ub j hj1 fun z hz y hy=>by
     have:=hj3 z hz
     unfold bq at this
     rw[if_pos rfl,decide_eq_false_iff_not] at this
     have:=le_top (u:=ua) (n:=k) (by omega) hax y hy
     omega
    by_cases hj0:nb - 1 - j > 0
    ·rw[if_pos hj0]
     by_cases e7:(j == 1)=true
     ·rw[if_pos e7]
      exact wpS_pure ⟨(show Gl st _ from ⟨gl2.1,gl2.2.1,gl2.2.2.1,gl2.2.2.2⟩),.inl ⟨_,rfl,FIRST hm3 (by simpa using e7)⟩⟩
     rw[if_neg e7]
     by_cases e9:(j == 0)=true
     ·rw[if_pos e9]
      exact wpS_pure ⟨(show Gl st _ from ⟨gl2.1,gl2.2.1,gl2.2.2.1,gl2.2.2.2⟩),.inl ⟨_,rfl,ENDB hm3 (by simpa using e9)⟩⟩
     rw[if_neg e9]
     have e7':j≠1:=by simpa using e7
     have e9':j≠0:=by simpa using e9
     refine wpS_bind (wpS_elem hax ?_)
     have hm4:=(hm3).pushA ua (i:=k - 1) (by omega) hax hcb
     by_cases e8:(k - 1 == 0)=true
     ·rw[if_pos e8]
      exact wpS_pure ⟨(show Gl st _ from ⟨gl2.1,gl2.2.1,gl2.2.2.1,gl2.2.2.2⟩),.inl ⟨_,rfl,ENDA hm4 (by simpa using e8)⟩⟩
     rw[if_neg e8]
     have e8':k - 1≠0:=by simpa using e8
     split
     ·exact wpS_pure ⟨(show Gl st _ from ⟨gl2.1,gl2.2.1,gl2.2.2.1,gl2.2.2.2⟩),.inr ⟨_,_,_,_,_,_,rfl,hm4,by omega,by omega,⟨by omega,by omega⟩,by omega⟩⟩
     ·exact wpS_pure ⟨(show Gl st _ from ⟨gl2.1,gl2.2.1,gl2.2.2.1,gl2.2.2.2⟩),_,_,_,_,_,_,rfl,hm4,by omega,by omega,⟨by omega,by omega⟩,by omega⟩
    ·rw[if_neg hj0]
     have j0:j=nb - 1:=by omega
     subst j0
     refine wpS_bind (wpS_elem hax ?_)
     have hm4:=(hm2).pushA ua (i:=k - 1) (by omega) hax hcb
     by_cases e8:(k - 1 == 0)=true
     ·rw[if_pos e8]
      exact wpS_pure ⟨(show Gl st _ from ⟨gl2.1,gl2.2.1,gl2.2.2.1,gl2.2.2.2⟩),.inl ⟨_,rfl,ENDA hm4 (by simpa using e8)⟩⟩
     rw[if_neg e8]
     have e8':k - 1≠0:=by simpa using e8
     split
     ·exact wpS_pure ⟨(show Gl st _ from ⟨gl2.1,gl2.2.1,gl2.2.2.1,gl2.2.2.2⟩),.inr ⟨_,_,_,_,_,_,rfl,hm4,by omega,by omega,⟨by omega,by omega⟩,by omega⟩⟩
     ·exact wpS_pure ⟨(show Gl st _ from ⟨gl2.1,gl2.2.1,gl2.2.2.1,gl2.2.2.2⟩),_,_,_,_,_,_,rfl,hm4,by omega,by omega,⟨by omega,by omega⟩,by omega⟩
 ·rintro c st' ⟨_,na,nb,out,mg,ac,bc,rfl,hm,z1,z2,z4,z3⟩
  omega
 ·rintro ⟨c1,c2⟩ st2 ⟨gl2,(⟨r,hr,hf⟩|⟨na,nb,out,mg,ac,bc,e,hm,za,zb,⟨zas,zbs⟩,zp⟩)⟩
  ·dsimp only at hr
   subst hr
   exact wpS_pure ⟨gl2,r,rfl,hf⟩
  ·cases e
   dsimp only
   refine wpS_bind (wpS_modify ?_)
   exact wpS_pure ⟨⟨gl2.1,gl2.2.1,gl2.2.2.1,gl2.2.2.2⟩,_,_,_,_,rfl,hm,za,zb,zas,zbs,by omega⟩
end
end So
namespace So
open PySem PyProof.Rows
theorem wback:∀(ms:List Keyed) (arr:Array Keyed) (sa k:Nat),sa+k+ms.length<=arr.size ->
  ((ms.zipIdx k).foldl (fun a (p:Keyed × Nat)=>a.setIfInBounds (sa+p.2) p.1) arr).toList=arr.toList.take (sa+k)++ms++arr.toList.drop (sa+k+ms.length)
 | [],arr,sa,k,_=>by simp
 | m::ms,arr,sa,k,h=>by
  rw[List.zipIdx_cons,List.foldl_cons]
  rw[List.length_cons] at h
  have ih:=wback ms (arr.setIfInBounds (sa+k) m) sa (k+1) (by rw[Array.size_setIfInBounds];omega)
  rw[ih,Array.toList_setIfInBounds]
  have hl:sa+k<arr.toList.length:=by rw[Array.length_toList];omega
  rw[List.length_cons,show sa+(k+1)=sa+k+1 by omega]
  generalize sa+k=p at hl
  generalize arr.toList=L at hl
  have e:L.set p m=(L.take p++[m])++L.drop (p+1):=by
   rw[List.set_eq_take_append_cons_drop,if_pos hl];simp
  have ln:(L.take p++[m]).length=p+1:=by rw[List.length_append,List.length_take];simp;omega
  rw[e,List.take_left' ln,List.drop_append,List.drop_eq_nil_of_le (by omega),List.nil_append,ln,show p+1+ms.length - (p+1)=ms.length by omega,List.drop_drop,List.append_assoc (L.take p),show p+1+ms.length=p+(ms.length+1) by omega]
  simp
section
variable {prog:Program}{w:World}{A:Around}{E:Value->Shared->Prop}{s:Shared}{rk:Keyed->Int}{M:Keyed->Prop}{κ:SortKind}
theorem wpS_set {σ:Type}{st st2:σ}{MM:Model}{Q:PUnit->σ->Prop} (h:Q ⟨⟩ st2):wpS MM A E s (set st2:StateT σ Sem PUnit) Q st:=by
 unfold wpS
 exact wpAny_pure ⟨rfl,h⟩
theorem galS {left:Bool}{key:Keyed}{a:Array Keyed}{b n hint:Nat}{st:SortSt}{Q:Option Nat->SortSt->Prop} (hA:Ask prog w A s rk M κ) (hk:kindOf st=κ) (mk:M key) (ma:∀x∈a.toList,M x) (u:Up rk ((a.toList.drop b).take n)) (hh:hint<n) (hs:b+n<=a.size)
  (h:∀k,k<=n->(∀x∈(a.toList.drop b).take k,bq rk left key x=true)->(∀x∈((a.toList.drop b).take n).drop k,bq rk left key x=false)->Q (some k) st):wpS (model prog w) A E s (gallop' left key a b n hint) Q st:=by
 have hg:∀j,j<n->a[b+j]?=some (a.getD (b+j) key):=fun j hj=>by
  rw[Array.getElem?_eq_getElem (by omega)]
  simp[Array.getD,show b+j<a.size by omega]
 have hL:∀j,j<n->((a.toList.drop b).take n)[j]?=some (a.getD (b+j) key):=fun j hj=>by
  rw[List.getElem?_take,if_pos hj,List.getElem?_drop]
  exact get_list (hg j hj)
 refine gallop_ok (xs:=fun j=>a.getD (b+j) key) hA hk mk hh (fun j hj=>⟨hg j hj,?_⟩) (fun j1 j2 h12 h2 hb=>?_) (fun k h1 h2 h3=>h k (by omega) (fun x hx=>?_) (fun x hx=>?_))
 ·exact ma _ (List.mem_of_getElem? (get_list (hg j hj)))
 ·have hle:=u.le (hL j1 (by omega)) (hL j2 h2) (by omega)
  unfold bq at hb ⊢
  cases left with
  | true =>
   rw[if_pos rfl] at hb ⊢
   have:=of_decide_eq_true hb
   exact decide_eq_true (by omega)
  | false =>
   rw[if_neg (by decide)] at hb ⊢
   rw[Bool.not_eq_true',decide_eq_false_iff_not] at hb ⊢
   omega
 ·obtain ⟨j,hj,hx'⟩:=take_mem hx
  have:=h2 j hj
  have e:=hg j (by omega)
  rw[hx'] at e
  injection e with e
  show bq rk left key x=true
  rw[e];exact this
 ·obtain ⟨j,hj⟩:=List.mem_iff_getElem?.mp hx
  rw[List.getElem?_drop] at hj
  have hlt:k+j<n:=by
   have:=(List.getElem?_eq_some_iff.mp hj).1
   rw[List.length_take] at this
   omega
  have:=h3 (k+j) (by omega) hlt
  rw[hL (k+j) hlt] at hj
  injection hj with hj
  show bq rk left key x=false
  rw[<- hj];exact this
theorem mergeAt_ok {arr:Array Keyed}{n1 n2 p1 p2 mg:Nat}{Q:Bool->SortSt->Prop} (hA:Ask prog w A s rk M κ) (m:∀x∈arr.toList,M x) (h1:0<n1) (h2:0<n2) (hN:n1+n2=arr.size) (u1:Up rk (arr.toList.take n1)) (u2:Up rk (arr.toList.drop n1))
  (h:∀(arr':Array Keyed) (mg':Nat),arr'.toList.Perm arr.toList->Up rk arr'.toList->Q true (SortSt.mk' κ arr' #[(0,n1+n2,p1)] mg' none)):wpS (model prog w) A E s (mergeAt' 0) Q (SortSt.mk' κ arr #[(0,n1,p1),(n1,n2,p2)] mg none):=by
 have hlen:arr.toList.length=n1+n2:=by rw[Array.length_toList];omega
 obtain ⟨b0,hb0,mb0⟩:=get_of (a:=arr) (i:=n1) (by omega)
 obtain ⟨al,hal,mal⟩:=get_of (a:=arr) (i:=n1 - 1) (by omega)
 refine wpS_bind (wpS_get ?_)
 refine wpS_bind (wpS_set ?_)
 have hpend:(((#[(0,n1,p1),(n1,n2,p2)]:Array (Nat × Nat × Nat)).setIfInBounds 0 (0,n1+n2,p1)).eraseIdxIfInBounds (0+1))=#[(0,n1+n2,p1)]:=by first|rfl|simp[Array.eraseIdxIfInBounds]
 dsimp only
 rw[hpend]
 refine wpS_bind (wpS_elem hb0 ?_)
 have u1':Up rk ((arr.toList.drop 0).take n1):=by rw[List.drop_zero];exact u1
 refine wpS_bind (galS (b:=0) (n:=n1) (hint:=0) hA rfl (m b0 mb0) m u1' h1 (by omega) fun k hk hk2 hk3=>?_)
 rw[List.drop_zero] at hk2 hk3
 have low:∀x∈arr.toList.take k,rk x<=rk b0:=fun x hx=>by
  have:=hk2 x hx
  unfold bq at this
  rw[if_neg (by decide),Bool.not_eq_true',decide_eq_false_iff_not] at this
  omega
 have upr:∀x∈(arr.toList.take n1).drop k,rk b0<rk x:=fun x hx=>by
  have:=hk3 x hx
  unfold bq at this
  rw[if_neg (by decide),Bool.not_eq_false',decide_eq_true_iff] at this
  exact this
 have ball:∀y∈arr.toList.drop n1,rk b0<=rk y:=fun y hy=>by
  obtain ⟨j,hj⟩:=List.mem_iff_getElem?.mp hy
  exact u2.le (i:=0) (by rw[List.getElem?_drop];exact get_list hb0) hj (Nat.zero_le _)
 have aall:∀x∈arr.toList.take n1,rk x<=rk al:=fun x hx=>by
  obtain ⟨j,hj⟩:=List.mem_iff_getElem?.mp hx
  have hjl:=(List.getElem?_eq_some_iff.mp hj).1
  rw[List.length_take] at hjl
  exact u1.le hj (j:=n1 - 1) (by rw[List.getElem?_take,if_pos (by omega)];exact get_list hal) (by omega)
 have whole:∀c:(∀x∈arr.toList.take n1,∀y∈arr.toList.drop n1,rk x<=rk y),Up rk arr.toList:=fun c=>by
  have:=u1.app u2 c
  rw[List.take_append_drop] at this
  exact this
 simp only[Nat.zero_add]
 by_cases e1:(n1 - k == 0)=true
 ·rw[if_pos e1]
  have e1':n1 - k=0:=by simpa using e1
  have ek:k=n1:=by omega
  refine wpS_pure (h arr mg (List.Perm.refl _) (whole fun x hx y hy=>?_))
  rw[ek] at low
  exact Int.le_trans (low x hx) (ball y hy)
 rw[if_neg e1]
 have e1':n1 - k≠0:=by simpa using e1
 refine wpS_bind (wpS_elem (x:=al) (by rw[<- hal];congr 1;omega) ?_)
 have u2':Up rk ((arr.toList.drop n1).take n2):=u2.take n2
 refine wpS_bind (galS (b:=n1) (n:=n2) (hint:=n2 - 1) hA rfl (m al mal) m u2' (by omega) (by omega) fun j hj hj2 hj3=>?_)
 have blow:∀y∈(arr.toList.drop n1).take j,rk y<rk al:=fun y hy=>by
  have:=hj2 y hy
  unfold bq at this
  rw[if_pos rfl,decide_eq_true_iff] at this
  exact this
 have bhi:∀y∈(arr.toList.drop n1).drop j,rk al<=rk y:=fun y hy=>by
  have:=hj3 y (by rw[List.take_of_length_le (by rw[List.length_drop];omega)];exact hy)
  unfold bq at this
  rw[if_pos rfl,decide_eq_false_iff_not] at this
  omega
 dsimp only
 by_cases e2:(j == 0)=true
 ·rw[if_pos e2]
  have e2':j=0:=by simpa using e2
  refine wpS_pure (h arr mg (List.Perm.refl _) (whole fun x hx y hy=>?_))
  rw[e2',List.drop_zero] at bhi
  exact Int.le_trans (aall x hx) (bhi y hy)
 rw[if_neg e2]
 have e2':j≠0:=by simpa using e2
 have eX:(arr.extract k n1).toList=(arr.toList.take n1).drop k:=ext_mid _ _ _
 have eY:(arr.extract n1 (n1+j)).toList=(arr.toList.drop n1).take j:=by rw[ext_list,show n1+j - n1=j by omega]
 have sX:(arr.extract k n1).size=n1 - k:=by rw[Array.size_extract];omega
 have sY:(arr.extract n1 (n1+j)).size=j:=by rw[Array.size_extract];omega
 have FIN:∀(r:Array Keyed) (st':SortSt),Fn rk (arr.extract k n1) (arr.extract n1 (n1+j)) r->Gl (SortSt.mk' κ arr #[(0,n1+n2,p1)] mg none) st'->∃(arr':Array Keyed),(List.foldl (fun a (x:Keyed × Nat)=>a.setIfInBounds (k+x.2) x.1) (arrOf st') r.toList.zipIdx)=arr'/\arr'.toList.Perm arr.toList/\Up rk arr'.toList:=fun r st' hf gl=>by
  obtain ⟨hp,hu⟩:=hf
  rw[eX,eY] at hp
  have hrl:r.toList.length=n1 - k+j:=by rw[hp.length_eq,List.length_append,List.length_drop,List.length_take,List.length_take,List.length_drop];omega
  have hw:=wback r.toList (arrOf st') k 0 (by rw[gl.2.1];show k+0+r.toList.length<=arr.size;omega)
  have ea:(arrOf st').toList=arr.toList:=by rw[gl.2.1]
  rw[ea,hrl,Nat.add_zero,show k+(n1 - k+j)=n1+j by omega] at hw
  refine ⟨_,rfl,?_⟩
  have hw':(List.foldl (fun a (x:Keyed × Nat)=>a.setIfInBounds (k+x.2) x.1) (arrOf st') r.toList.zipIdx).toList=arr.toList.take k++r.toList++arr.toList.drop (n1+j):=by
   rw[<- hw]
  rw[hw']
  have eL:arr.toList=arr.toList.take k++((arr.toList.take n1).drop k++(arr.toList.drop n1).take j)++arr.toList.drop (n1+j):=by
   have q1:arr.toList.take n1=arr.toList.take k++(arr.toList.take n1).drop k:=by
    have:=(List.take_append_drop k (arr.toList.take n1)).symm
    rw[List.take_take,Nat.min_eq_left hk] at this
    exact this
   have q2:arr.toList.drop n1=(arr.toList.drop n1).take j++arr.toList.drop (n1+j):=by
    have:=(List.take_append_drop j (arr.toList.drop n1)).symm
    rw[List.drop_drop] at this
    exact this
   conv=>lhs;rw[<- List.take_append_drop n1 arr.toList,q1,q2]
   simp only[List.append_assoc]
  constructor
  ·conv=>rhs;rw[eL]
   exact ((hp.append_left _).append_right _)
  ·have memr:∀x∈r.toList,x∈(arr.toList.take n1).drop k ∨ x∈(arr.toList.drop n1).take j:=fun x hx=>List.mem_append.mp (hp.mem_iff.mp hx)
   have hd:arr.toList.drop (n1+j)=(arr.toList.drop n1).drop j:=by rw[List.drop_drop]
   have tk:Up rk (arr.toList.take k):=by
    have:=u1.take k
    rw[List.take_take,Nat.min_eq_left hk] at this
    exact this
   refine Up.app (Up.app tk hu fun x hx y hy=>?_) (by rw[hd];exact u2.drop j) fun x hx y hy=>?_
   ·rcases memr y hy with z|z
    ·exact Int.le_trans (low x hx) (Int.le_of_lt (upr y z))
    ·exact Int.le_trans (low x hx) (ball y (List.mem_of_mem_take z))
   ·rw[hd] at hy
    rcases List.mem_append.mp hx with z|z
    ·exact Int.le_trans (low x z) (ball y (List.mem_of_mem_drop hy))
    ·rcases memr x z with z|z
     ·exact Int.le_trans (aall x (List.mem_of_mem_drop z)) (bhi y hy)
     ·exact Int.le_trans (Int.le_of_lt (blow x z)) (bhi y hy)
 have mX:∀x∈(arr.extract k n1).toList,M x:=fun x hx=>by rw[eX] at hx;exact m x (List.mem_of_mem_take (List.mem_of_mem_drop hx))
 have mY:∀x∈(arr.extract n1 (n1+j)).toList,M x:=fun x hx=>by rw[eY] at hx;exact m x (List.mem_of_mem_drop (List.mem_of_mem_take hx))
 have uX:Up rk (arr.extract k n1).toList:=by rw[eX];exact u1.drop k
 have uY:Up rk (arr.extract n1 (n1+j)).toList:=by rw[eY];exact u2.take j
 have h0:∀x y,(arr.extract k n1)[0]?=some x->(arr.extract n1 (n1+j))[0]?=some y->rk y<=rk x:=fun x y hx hy=>by
  have hx':x∈(arr.extract k n1).toList:=List.mem_of_getElem? (get_list hx)
  rw[eX] at hx'
  have hy':=get_list hy
  rw[eY,List.getElem?_take,if_pos (by omega),List.getElem?_drop] at hy'
  have:=get_list hb0
  rw[show n1+0=n1 by omega,this] at hy'
  injection hy' with hy'
  rw[<- hy']
  exact Int.le_of_lt (upr x hx')
 have hl:∀x,(arr.extract k n1)[(arr.extract k n1).size - 1]?=some x->∀y∈(arr.extract n1 (n1+j)).toList,rk y<=rk x:=fun x hx y hy=>by
  rw[eY] at hy
  have hx':=get_list hx
  rw[eX,List.getElem?_drop,sX,List.getElem?_take,if_pos (by omega),show k+(n1 - k - 1)=n1 - 1 by omega,get_list hal] at hx'
  injection hx' with hx'
  rw[<- hx']
  exact Int.le_of_lt (blow y hy)
 have JP:∀(r:Array Keyed) (st':SortSt),Fn rk (arr.extract k n1) (arr.extract n1 (n1+j)) r->Gl (SortSt.mk' κ arr #[(0,n1+n2,p1)] mg none) st'->Q true (SortSt.mk' (kindOf st') (List.foldl (fun a (x:Keyed × Nat)=>a.setIfInBounds (k+x.2) x.1) (arrOf st') r.toList.zipIdx) (pendingOf st') (gallopOf st') (failedOf st')):=fun r st' hf gl=>by
  obtain ⟨arr',e,hp,hu⟩:=FIN r st' hf gl
  rw[e,gl.1,gl.2.2.1,gl.2.2.2]
  exact h arr' _ hp hu
 have JF:∀(st':SortSt),Gl (SortSt.mk' κ arr #[(0,n1+n2,p1)] mg none) st'->(failedOf st').isNone=true:=fun st' gl=>by rw[gl.2.2.2];rfl
 split
 ·refine wpS_bind (mergeLo_ok hA rfl mX mY uX uY (by rw[sX];omega) (by rw[sY];omega) h0 hl fun r st' hf gl=>?_)
  refine wpS_bind (wpS_modify (wpS_bind (wpS_get (wpS_pure ?_))))
  have:=JP r st' hf gl
  rw[<- JF st' gl] at this
  exact this
 ·refine wpS_bind (mergeHi_ok hA rfl mX mY uX uY (by rw[sX];omega) (by rw[sY];omega) h0 hl fun r st' hf gl=>?_)
  refine wpS_bind (wpS_modify (wpS_bind (wpS_get (wpS_pure ?_))))
  have:=JP r st' hf gl
  rw[<- JF st' gl] at this
  exact this
end
end So
namespace So
open PySem PyProof.Rows
noncomputable def Kv (rk:Keyed->Int) (arr:Array Keyed) (i:Nat):Int:=rk ((arr[i]?).getD (Value.none,Value.none))
theorem Kv.congr {rk:Keyed->Int}{a b:Array Keyed}{i j:Nat} (h:a[i]?=b[j]?):Kv rk a i=Kv rk b j:=by unfold Kv;rw[h]
noncomputable def Srt (rk:Keyed->Int) (arr:Array Keyed) (lo n:Nat):Prop:=∀i j,lo<=i->i<=j->j<lo+n->Kv rk arr i<=Kv rk arr j
noncomputable def Dcr (rk:Keyed->Int) (arr:Array Keyed) (lo n:Nat):Prop:=∀i j,lo<=i->i<=j->j<lo+n->Kv rk arr j<=Kv rk arr i
structure Kpt (lo:Nat) (a b:Array Keyed):Prop where
 perm:b.toList.Perm a.toList
 low:∀i,i<lo->b[i]?=a[i]?
theorem Kpt.refl (lo:Nat) (a:Array Keyed):Kpt lo a a:=⟨List.Perm.refl _,fun _ _=>rfl⟩
theorem Kpt.trans {lo:Nat}{a b c:Array Keyed} (h:Kpt lo a b) (k:Kpt lo b c):Kpt lo a c:=⟨k.perm.trans h.perm,fun i hi=>(k.low i hi).trans (h.low i hi)⟩
theorem Kpt.size {lo:Nat}{a b:Array Keyed} (h:Kpt lo a b):b.size=a.size:=by have:=h.perm.length_eq;simpa using this
theorem Kpt.mirror {lo i j:Nat}{a:Array Keyed} (hi:lo<=i) (hj:j<=a.size):Kpt lo a (mirror a i j ((j - i) / 2)):=
 ⟨Array.perm_iff_toList_perm.mp (mirror_perm a i j _),fun k hk=>by rw[getElem?_mirror_all hj,if_neg (by omega)]⟩
theorem Kv.mirror {rk:Keyed->Int}{a:Array Keyed}{i j:Nat} (hj:j<=a.size) (k:Nat):Kv rk (mirror a i j ((j - i) / 2)) k=if i<=k/\k<j then Kv rk a (i+j - 1 - k) else Kv rk a k:=by
 have e:=getElem?_mirror_all (i:=i) hj k
 by_cases h1:i<=k/\k<j
 ·rw[if_pos h1] at e ⊢;exact Kv.congr e
 ·rw[if_neg h1] at e ⊢;exact Kv.congr e
theorem mirror_eq {rk:Keyed->Int}{a:Array Keyed}{i j:Nat} (hj:j<=a.size) (heq:∀k,i<=k->k<j->Kv rk a k=Kv rk a (j - 1)) (k:Nat):Kv rk (mirror a i j ((j - i) / 2)) k=Kv rk a k:=by
 rw[Kv.mirror hj]
 split
 ·rw[heq _ (by omega) (by omega),heq k (by omega) (by omega)]
 ·rfl
theorem Dcr.more' {rk:Keyed->Int}{a:Array Keyed}{lo x:Nat} (h:Dcr rk a lo x) (hlt:Kv rk a (lo+x)<=Kv rk a (lo+x - 1)):Dcr rk a lo (x+1):=fun i j hi hij hj=>by
 by_cases hjx:j<lo+x
 ·exact h i j hi hij hjx
 ·have:j=lo+x:=by omega
  subst this
  by_cases hix:i=lo+x
  ·subst hix;exact Int.le_refl _
  ·exact Int.le_trans hlt (h i (lo+x - 1) hi (by omega) (by omega))
theorem Dcr.more {rk:Keyed->Int}{a:Array Keyed}{lo x:Nat} (h:Dcr rk a lo x) (hlt:Kv rk a (lo+x)<Kv rk a (lo+x - 1)):Dcr rk a lo (x+1):=h.more' (Int.le_of_lt hlt)
section
variable {prog:Program}{w:World}{A:Around}{E:Value->Shared->Prop}{s:Shared}{rk:Keyed->Int}{M:Keyed->Prop}{κ:SortKind}{pd:Array (Nat × Nat × Nat)}{mg:Nat}
theorem ltAt_ok {arr:Array Keyed}{i j:Nat}{Q:Option Bool->SortSt->Prop} (hA:Ask prog w A s rk M κ) (m:∀x∈arr.toList,M x) (hi:i<arr.size) (hj:j<arr.size) (h:Q (some (decide (Kv rk arr i<Kv rk arr j))) (SortSt.mk' κ arr pd mg none)):wpS (model prog w) A E s (ltAt' i j) Q (SortSt.mk' κ arr pd mg none):=by
 obtain ⟨x,hx,mx⟩:=get_of (a:=arr) hi
 obtain ⟨y,hy,my⟩:=get_of (a:=arr) hj
 have e1:Kv rk arr i=rk x:=by unfold Kv;rw[hx];rfl
 have e2:Kv rk arr j=rk y:=by unfold Kv;rw[hy];rfl
 rw[e1,e2] at h
 rw[ltAt'_eq]
 refine wpS_bind (wpS_get ?_)
 exact wpS_bind (wpS_elem hx (wpS_bind (wpS_elem hy (wpS_lt hA rfl (m x mx) (m y my) h))))
theorem asc_loop {arr:Array Keyed}{st:SortSt}{lo a nrem:Nat}{f:Nat->Option (Option Nat) × Nat->StateT SortSt Sem (ForInStep (Option (Option Nat) × Nat))}{Q:Option (Option Nat) × Nat->SortSt->Prop}
  (hstep:∀(x n:Nat) (R:ForInStep (Option (Option Nat) × Nat)->SortSt->Prop),1<=n->n<nrem->(Kv rk arr (lo+n)<Kv rk arr (lo+n - 1)->R (.done (none,n)) st)->(¬ Kv rk arr (lo+n)<Kv rk arr (lo+n - 1)->R (.yield (none,n+1)) st)->wpS (model prog w) A E s (f x (none,n)) R st)
  (ha:1<=a) (han:a<=nrem) (hs:Srt rk arr lo a) (h:∀n,a<=n->n<=nrem->Srt rk arr lo n->(n=nrem ∨ Kv rk arr (lo+n)<Kv rk arr (lo+n - 1))->Q (none,n) st):wpS (model prog w) A E s (forIn [a:nrem] (none,a) f) Q st:=by
 refine wpS_forRange (I:=fun x c st'=>st'=st/\c=(none,x)/\Srt rk arr lo x) ?_ ?_ ⟨rfl,rfl,hs⟩
 ·rintro x c st' hax hxn ⟨rfl,rfl,hs'⟩
  refine hstep x x _ (by omega) hxn (fun hlt=>h x hax (by omega) hs' (.inr hlt)) (fun hlt=>⟨rfl,rfl,fun i j hi hij hj=>?_⟩)
  by_cases hjx:j<lo+x
  ·exact hs' i j hi hij hjx
  ·have hj':j=lo+x:=by omega
   subst hj'
   by_cases hi':i=lo+x
   ·subst hi';exact Int.le_refl _
   ·exact Int.le_trans (hs' i (lo+x - 1) hi (by omega) (by omega)) (Int.not_lt.mp hlt)
 ·rintro c st' ⟨rfl,rfl,hs'⟩
  rw[show max a nrem=nrem by omega] at hs' ⊢
  exact h nrem han (Nat.le_refl _) hs' (.inl rfl)
theorem countRun_ok {arr:Array Keyed}{lo nrem:Nat}{Q:Option Nat->SortSt->Prop} (hA:Ask prog w A s rk M κ) (m:∀x∈arr.toList,M x) (h1:1<=nrem) (hN:lo+nrem<=arr.size)
  (h:∀(arr':Array Keyed) (n:Nat),1<=n->n<=nrem->Kpt lo arr arr'->Srt rk arr' lo n->Q (some n) (SortSt.mk' κ arr' pd mg none)):wpS (model prog w) A E s (countRun' lo nrem) Q (SortSt.mk' κ arr pd mg none):=by
 have one:Srt rk arr lo 1:=fun i j hi hij hj=>by
  have:i=j:=by omega
  subst this;exact Int.le_refl _
 refine wpS_bind (asc_loop (arr:=arr) (lo:=lo) ?_ (Nat.le_refl 1) h1 one fun n hn1 hn2 hs hend=>?_)
 ·intro x n R hn hnn r1 r2
  dsimp only
  refine wpS_bind (ltAt_ok hA m (by omega) (by omega) ?_)
  by_cases hlt:Kv rk arr (lo+n)<Kv rk arr (lo+n - 1)
  ·rw[decide_eq_true hlt];exact wpS_pure (r1 hlt)
  ·rw[decide_eq_false hlt];exact wpS_pure (r2 hlt)
 dsimp only
 by_cases e1:(n == nrem)=true
 ·rw[if_pos e1]
  exact wpS_pure (h arr n hn1 hn2 (Kpt.refl lo arr) hs)
 rw[if_neg e1]
 have e1':n≠nrem:=by simpa using e1
 have hlt:=hend.resolve_left e1'
 by_cases hn:n > 1
 ·rw[if_pos hn]
  refine wpS_bind (ltAt_ok hA m (by omega) (by omega) ?_)
  by_cases hrose:Kv rk arr lo<Kv rk arr (lo+n - 1)
  ·rw[decide_eq_true hrose]
   exact wpS_pure (h arr n hn1 hn2 (Kpt.refl lo arr) hs)
  rw[decide_eq_false hrose]
  dsimp only
  rw[if_neg (by decide)]
  refine wpS_bind (wpS_modify ?_)
  have alleq:∀k,lo<=k->k<lo+n->Kv rk arr k=Kv rk arr (lo+n - 1):=fun k hk1 hk2=>by
   have a1:=hs lo k (Nat.le_refl _) hk1 hk2
   have a2:=hs k (lo+n - 1) hk1 (by omega) (by omega)
   omega
  have eqv:=mirror_eq (rk:=rk) (a:=arr) (i:=lo) (j:=lo+n) (by omega) alleq
  have k1:Kpt lo arr (mirror arr lo (lo+n) ((lo+n - lo) / 2)):=Kpt.mirror (Nat.le_refl _) (by omega)
  have d1:Dcr rk (mirror arr lo (lo+n) ((lo+n - lo) / 2)) lo (n+1):=by
   refine Dcr.more (fun i j hi hij hj=>?_) (by rw[eqv,eqv];exact hlt)
   rw[eqv,eqv,alleq i hi (by omega),alleq j (by omega) (by omega)]
   exact Int.le_refl _
  show wpS _ _ _ _ _ _ (SortSt.mk' κ (mirror arr lo (lo+n) ((lo+n - lo) / 2)) pd mg none)
  generalize mirror arr lo (lo+n) ((lo+n - lo) / 2)=arr1 at k1 d1
  refine wpS_bind (wpS_lift (wpAny_rule ⟨rfl,?_⟩))
  refine wpS_bind (wpS_mono (wpS_forRange (I:=fun x c st'=>∃arr2 neq,c=(none,x,neq)/\st'=SortSt.mk' κ arr2 pd mg none/\Kpt lo arr arr2/\Dcr rk arr2 lo x/\neq+1<=x/\(∀i,lo+x - (neq+1)<=i->i<lo+x->Kv rk arr2 i=Kv rk arr2 (lo+x - 1)))
   (Q:=fun c st'=>∃arr2 n2 neq,c=(none,n2,neq)/\st'=SortSt.mk' κ arr2 pd mg none/\Kpt lo arr arr2/\Dcr rk arr2 lo n2/\neq+1<=n2/\(∀i,lo+n2 - (neq+1)<=i->i<lo+n2->Kv rk arr2 i=Kv rk arr2 (lo+n2 - 1))/\n+1<=n2/\n2<=nrem) ?_ ?_ ⟨_,0,rfl,rfl,k1,d1,by omega,fun i hi hi2=>by congr 1;omega⟩) ?_)
  ·rintro x c st' hnx hx ⟨arr2,neq,rfl,rfl,k2,d2,q1,q2⟩
   have m2:∀x∈arr2.toList,M x:=fun x hx=>m x (k2.perm.mem_iff.mp hx)
   have z2:=k2.size
   dsimp only
   refine wpS_bind (ltAt_ok hA m2 (by omega) (by omega) ?_)
   by_cases hlt:Kv rk arr2 (lo+x)<Kv rk arr2 (lo+x - 1)
   ·rw[decide_eq_true hlt]
    dsimp only
    rw[if_pos rfl]
    by_cases hq:neq > 0
    ·rw[if_pos hq]
     refine wpS_bind (wpS_modify (wpS_pure ⟨_,0,rfl,rfl,k2.trans (Kpt.mirror (by omega) (by omega)),?_,by omega,fun i hi hi2=>by congr 1;omega⟩))
     have eqv:=mirror_eq (rk:=rk) (a:=arr2) (i:=lo+x - (neq+1)) (j:=lo+x) (by omega) q2
     intro i j hi hij hj
     show Kv rk (mirror arr2 _ _ _) j<=Kv rk (mirror arr2 _ _ _) i
     rw[eqv,eqv]
     exact d2.more hlt i j hi hij (by omega)
    ·rw[if_neg hq]
     exact wpS_pure ⟨arr2,0,rfl,rfl,k2,fun i j hi hij hj=>d2.more hlt i j hi hij (by omega),by omega,fun i hi hi2=>by congr 1;omega⟩
   ·rw[decide_eq_false hlt]
    dsimp only
    rw[if_neg (by decide)]
    refine wpS_bind (ltAt_ok hA m2 (by omega) (by omega) ?_)
    by_cases hgt:Kv rk arr2 (lo+x - 1)<Kv rk arr2 (lo+x)
    ·rw[decide_eq_true hgt]
     dsimp only
     rw[if_pos rfl]
     exact wpS_pure ⟨arr2,x,neq,rfl,rfl,k2,d2,q1,q2,hnx,by omega⟩
    ·rw[decide_eq_false hgt]
     dsimp only
     rw[if_neg (by decide)]
     have heq:Kv rk arr2 (lo+x)=Kv rk arr2 (lo+x - 1):=by omega
     refine wpS_pure ⟨arr2,neq+1,rfl,rfl,k2,fun i j hi hij hj=>?_,by omega,fun i hi hi2=>?_⟩
     ·exact d2.more' (by omega) i j hi hij (by omega)
     ·rw[show lo+(x+1) - 1=lo+x by omega,heq]
      by_cases hix:i=lo+x
      ·rw[hix,heq]
      ·exact q2 i (by omega) (by omega)
  ·rintro c st' ⟨arr2,neq,rfl,rfl,k2,d2,q1,q2⟩
   rw[show max (n+1) nrem=nrem by omega] at d2 q1 q2 ⊢
   exact ⟨arr2,nrem,neq,rfl,rfl,k2,d2,q1,q2,by omega,Nat.le_refl _⟩
  ·rintro c st' ⟨arr2,n2,neq,rfl,rfl,k2,d2,q1,q2,hn2a,hn2b⟩
   have z2:=k2.size
   dsimp only
   by_cases hq:neq > 0
   ·rw[if_pos hq]
    refine wpS_bind (wpS_modify ?_)
    have eqv:=mirror_eq (rk:=rk) (a:=arr2) (i:=lo+n2 - (neq+1)) (j:=lo+n2) (by omega) q2
    have k4:Kpt lo arr (mirror arr2 (lo+n2 - (neq+1)) (lo+n2) ((lo+n2 - (lo+n2 - (neq+1))) / 2)):=k2.trans (Kpt.mirror (by omega) (by omega))
    have d4:Dcr rk (mirror arr2 (lo+n2 - (neq+1)) (lo+n2) ((lo+n2 - (lo+n2 - (neq+1))) / 2)) lo n2:=fun i j hi hij hj=>by rw[eqv,eqv];exact d2 i j hi hij hj
    show wpS _ _ _ _ _ _ (SortSt.mk' κ (mirror arr2 (lo+n2 - (neq+1)) (lo+n2) ((lo+n2 - (lo+n2 - (neq+1))) / 2)) pd mg none)
    generalize mirror arr2 (lo+n2 - (neq+1)) (lo+n2) ((lo+n2 - (lo+n2 - (neq+1))) / 2)=arr4 at k4 d4
    refine wpS_bind (wpS_modify ?_)
    have k5:Kpt lo arr (mirror arr4 lo (lo+n2) ((lo+n2 - lo) / 2)):=k4.trans (Kpt.mirror (Nat.le_refl _) (by rw[k4.size];omega))
    have s5:Srt rk (mirror arr4 lo (lo+n2) ((lo+n2 - lo) / 2)) lo n2:=fun i j hi hij hj=>by
     rw[Kv.mirror (by rw[k4.size];omega),Kv.mirror (by rw[k4.size];omega),if_pos (by omega),if_pos (by omega)]
     exact d4 _ _ (by omega) (by omega) (by omega)
    have m5:∀x∈(mirror arr4 lo (lo+n2) ((lo+n2 - lo) / 2)).toList,M x:=fun x hx=>m x (k5.perm.mem_iff.mp hx)
    have z5:=k5.size
    show wpS _ _ _ _ _ _ (SortSt.mk' κ (mirror arr4 lo (lo+n2) ((lo+n2 - lo) / 2)) pd mg none)
    generalize mirror arr4 lo (lo+n2) ((lo+n2 - lo) / 2)=arr5 at k5 s5 m5 z5
    refine wpS_bind (asc_loop (arr:=arr5) (lo:=lo) ?_ (by omega) (by omega) s5 fun n3 hn31 hn32 hs3 _=>wpS_pure (h arr5 n3 (by omega) hn32 k5 hs3))
    intro x n R hn hnn r1 r2
    dsimp only
    refine wpS_bind (ltAt_ok hA m5 (by omega) (by omega) ?_)
    by_cases hlt:Kv rk arr5 (lo+n)<Kv rk arr5 (lo+n - 1)
    ·rw[decide_eq_true hlt];exact wpS_pure (r1 hlt)
    ·rw[decide_eq_false hlt];exact wpS_pure (r2 hlt)
   ·rw[if_neg hq]
    have k4:=k2
    have d4:=d2
    generalize arr2=arr4 at k4 d4
    refine wpS_bind (wpS_modify ?_)
    have k5:Kpt lo arr (mirror arr4 lo (lo+n2) ((lo+n2 - lo) / 2)):=k4.trans (Kpt.mirror (Nat.le_refl _) (by rw[k4.size];omega))
    have s5:Srt rk (mirror arr4 lo (lo+n2) ((lo+n2 - lo) / 2)) lo n2:=fun i j hi hij hj=>by
     rw[Kv.mirror (by rw[k4.size];omega),Kv.mirror (by rw[k4.size];omega),if_pos (by omega),if_pos (by omega)]
     exact d4 _ _ (by omega) (by omega) (by omega)
    have m5:∀x∈(mirror arr4 lo (lo+n2) ((lo+n2 - lo) / 2)).toList,M x:=fun x hx=>m x (k5.perm.mem_iff.mp hx)
    have z5:=k5.size
    show wpS _ _ _ _ _ _ (SortSt.mk' κ (mirror arr4 lo (lo+n2) ((lo+n2 - lo) / 2)) pd mg none)
    generalize mirror arr4 lo (lo+n2) ((lo+n2 - lo) / 2)=arr5 at k5 s5 m5 z5
    refine wpS_bind (asc_loop (arr:=arr5) (lo:=lo) ?_ (by omega) (by omega) s5 fun n3 hn31 hn32 hs3 _=>wpS_pure (h arr5 n3 (by omega) hn32 k5 hs3))
    intro x n R hn hnn r1 r2
    dsimp only
    refine wpS_bind (ltAt_ok hA m5 (by omega) (by omega) ?_)
    by_cases hlt:Kv rk arr5 (lo+n)<Kv rk arr5 (lo+n - 1)
    ·rw[decide_eq_true hlt];exact wpS_pure (r1 hlt)
    ·rw[decide_eq_false hlt];exact wpS_pure (r2 hlt)
 rw[if_neg hn]
 have k1:Kpt lo arr arr:=Kpt.refl lo arr
 have en:n=1:=by omega
 have d1:Dcr rk arr lo (n+1):=by
  refine Dcr.more (fun i j hi hij hj=>?_) hlt
  have:i=j:=by omega
  subst this;exact Int.le_refl _
 refine wpS_bind (wpS_lift (wpAny_rule ⟨rfl,?_⟩))
 refine wpS_bind (wpS_mono (wpS_forRange (I:=fun x c st'=>∃arr2 neq,c=(none,x,neq)/\st'=SortSt.mk' κ arr2 pd mg none/\Kpt lo arr arr2/\Dcr rk arr2 lo x/\neq+1<=x/\(∀i,lo+x - (neq+1)<=i->i<lo+x->Kv rk arr2 i=Kv rk arr2 (lo+x - 1)))
  (Q:=fun c st'=>∃arr2 n2 neq,c=(none,n2,neq)/\st'=SortSt.mk' κ arr2 pd mg none/\Kpt lo arr arr2/\Dcr rk arr2 lo n2/\neq+1<=n2/\(∀i,lo+n2 - (neq+1)<=i->i<lo+n2->Kv rk arr2 i=Kv rk arr2 (lo+n2 - 1))/\n+1<=n2/\n2<=nrem) ?_ ?_ ⟨_,0,rfl,rfl,k1,d1,by omega,fun i hi hi2=>by congr 1;omega⟩) ?_)
 ·rintro x c st' hnx hx ⟨arr2,neq,rfl,rfl,k2,d2,q1,q2⟩
  have m2:∀x∈arr2.toList,M x:=fun x hx=>m x (k2.perm.mem_iff.mp hx)
  have z2:=k2.size
  dsimp only
  refine wpS_bind (ltAt_ok hA m2 (by omega) (by omega) ?_)
  by_cases hlt:Kv rk arr2 (lo+x)<Kv rk arr2 (lo+x - 1)
  ·rw[decide_eq_true hlt]
   dsimp only
   rw[if_pos rfl]
   by_cases hq:neq > 0
   ·rw[if_pos hq]
    refine wpS_bind (wpS_modify (wpS_pure ⟨_,0,rfl,rfl,k2.trans (Kpt.mirror (by omega) (by omega)),?_,by omega,fun i hi hi2=>by congr 1;omega⟩))
    have eqv:=mirror_eq (rk:=rk) (a:=arr2) (i:=lo+x - (neq+1)) (j:=lo+x) (by omega) q2
    intro i j hi hij hj
    show Kv rk (mirror arr2 _ _ _) j<=Kv rk (mirror arr2 _ _ _) i
    rw[eqv,eqv]
    exact d2.more hlt i j hi hij (by omega)
   ·rw[if_neg hq]
    exact wpS_pure ⟨arr2,0,rfl,rfl,k2,fun i j hi hij hj=>d2.more hlt i j hi hij (by omega),by omega,fun i hi hi2=>by congr 1;omega⟩
  ·rw[decide_eq_false hlt]
   dsimp only
   rw[if_neg (by decide)]
   refine wpS_bind (ltAt_ok hA m2 (by omega) (by omega) ?_)
   by_cases hgt:Kv rk arr2 (lo+x - 1)<Kv rk arr2 (lo+x)
   ·rw[decide_eq_true hgt]
    dsimp only
    rw[if_pos rfl]
    exact wpS_pure ⟨arr2,x,neq,rfl,rfl,k2,d2,q1,q2,hnx,by omega⟩
   ·rw[decide_eq_false hgt]
    dsimp only
    rw[if_neg (by decide)]
    have heq:Kv rk arr2 (lo+x)=Kv rk arr2 (lo+x - 1):=by omega
    refine wpS_pure ⟨arr2,neq+1,rfl,rfl,k2,fun i j hi hij hj=>?_,by omega,fun i hi hi2=>?_⟩
    ·exact d2.more' (by omega) i j hi hij (by omega)
    ·rw[show lo+(x+1) - 1=lo+x by omega,heq]
     by_cases hix:i=lo+x
     ·rw[hix,heq]
     ·exact q2 i (by omega) (by omega)
 ·rintro c st' ⟨arr2,neq,rfl,rfl,k2,d2,q1,q2⟩
  rw[show max (n+1) nrem=nrem by omega] at d2 q1 q2 ⊢
  exact ⟨arr2,nrem,neq,rfl,rfl,k2,d2,q1,q2,by omega,Nat.le_refl _⟩
 ·rintro c st' ⟨arr2,n2,neq,rfl,rfl,k2,d2,q1,q2,hn2a,hn2b⟩
  have z2:=k2.size
  dsimp only
  by_cases hq:neq > 0
  ·rw[if_pos hq]
   refine wpS_bind (wpS_modify ?_)
   have eqv:=mirror_eq (rk:=rk) (a:=arr2) (i:=lo+n2 - (neq+1)) (j:=lo+n2) (by omega) q2
   have k4:Kpt lo arr (mirror arr2 (lo+n2 - (neq+1)) (lo+n2) ((lo+n2 - (lo+n2 - (neq+1))) / 2)):=k2.trans (Kpt.mirror (by omega) (by omega))
   have d4:Dcr rk (mirror arr2 (lo+n2 - (neq+1)) (lo+n2) ((lo+n2 - (lo+n2 - (neq+1))) / 2)) lo n2:=fun i j hi hij hj=>by rw[eqv,eqv];exact d2 i j hi hij hj
   show wpS _ _ _ _ _ _ (SortSt.mk' κ (mirror arr2 (lo+n2 - (neq+1)) (lo+n2) ((lo+n2 - (lo+n2 - (neq+1))) / 2)) pd mg none)
   generalize mirror arr2 (lo+n2 - (neq+1)) (lo+n2) ((lo+n2 - (lo+n2 - (neq+1))) / 2)=arr4 at k4 d4
   refine wpS_bind (wpS_modify ?_)
   have k5:Kpt lo arr (mirror arr4 lo (lo+n2) ((lo+n2 - lo) / 2)):=k4.trans (Kpt.mirror (Nat.le_refl _) (by rw[k4.size];omega))
   have s5:Srt rk (mirror arr4 lo (lo+n2) ((lo+n2 - lo) / 2)) lo n2:=fun i j hi hij hj=>by
    rw[Kv.mirror (by rw[k4.size];omega),Kv.mirror (by rw[k4.size];omega),if_pos (by omega),if_pos (by omega)]
    exact d4 _ _ (by omega) (by omega) (by omega)
   have m5:∀x∈(mirror arr4 lo (lo+n2) ((lo+n2 - lo) / 2)).toList,M x:=fun x hx=>m x (k5.perm.mem_iff.mp hx)
   have z5:=k5.size
   show wpS _ _ _ _ _ _ (SortSt.mk' κ (mirror arr4 lo (lo+n2) ((lo+n2 - lo) / 2)) pd mg none)
   generalize mirror arr4 lo (lo+n2) ((lo+n2 - lo) / 2)=arr5 at k5 s5 m5 z5
   refine wpS_bind (asc_loop (arr:=arr5) (lo:=lo) ?_ (by omega) (by omega) s5 fun n3 hn31 hn32 hs3 _=>wpS_pure (h arr5 n3 (by omega) hn32 k5 hs3))
   intro x n R hn hnn r1 r2
   dsimp only
   refine wpS_bind (ltAt_ok hA m5 (by omega) (by omega) ?_)
   by_cases hlt:Kv rk arr5 (lo+n)<Kv rk arr5 (lo+n - 1)
   ·rw[decide_eq_true hlt];exact wpS_pure (r1 hlt)
   ·rw[decide_eq_false hlt];exact wpS_pure (r2 hlt)
  ·rw[if_neg hq]
   have k4:=k2
   have d4:=d2
   generalize arr2=arr4 at k4 d4
   refine wpS_bind (wpS_modify ?_)
   have k5:Kpt lo arr (mirror arr4 lo (lo+n2) ((lo+n2 - lo) / 2)):=k4.trans (Kpt.mirror (Nat.le_refl _) (by rw[k4.size];omega))
   have s5:Srt rk (mirror arr4 lo (lo+n2) ((lo+n2 - lo) / 2)) lo n2:=fun i j hi hij hj=>by
    rw[Kv.mirror (by rw[k4.size];omega),Kv.mirror (by rw[k4.size];omega),if_pos (by omega),if_pos (by omega)]
    exact d4 _ _ (by omega) (by omega) (by omega)
   have m5:∀x∈(mirror arr4 lo (lo+n2) ((lo+n2 - lo) / 2)).toList,M x:=fun x hx=>m x (k5.perm.mem_iff.mp hx)
   have z5:=k5.size
   show wpS _ _ _ _ _ _ (SortSt.mk' κ (mirror arr4 lo (lo+n2) ((lo+n2 - lo) / 2)) pd mg none)
   generalize mirror arr4 lo (lo+n2) ((lo+n2 - lo) / 2)=arr5 at k5 s5 m5 z5
   refine wpS_bind (asc_loop (arr:=arr5) (lo:=lo) ?_ (by omega) (by omega) s5 fun n3 hn31 hn32 hs3 _=>wpS_pure (h arr5 n3 (by omega) hn32 k5 hs3))
   intro x n R hn hnn r1 r2
   dsimp only
   refine wpS_bind (ltAt_ok hA m5 (by omega) (by omega) ?_)
   by_cases hlt:Kv rk arr5 (lo+n)<Kv rk arr5 (lo+n - 1)
   ·rw[decide_eq_true hlt];exact wpS_pure (r1 hlt)
   ·rw[decide_eq_false hlt];exact wpS_pure (r2 hlt)
end
end So
namespace So
open PySem PyProof.Rows
theorem Kpt.bubble {lo src d:Nat}{a:Array Keyed} (hs:src<a.size) (hd:lo+d<=src):Kpt lo a (bubble a src d):=
 ⟨Array.perm_iff_toList_perm.mp (bubble_perm a src d),fun k hk=>by rw[getElem?_bubble hs d (by omega),if_neg (by omega),if_neg (by omega)]⟩
theorem Kv.bubble {rk:Keyed->Int}{a:Array Keyed}{src d:Nat} (hs:src<a.size) (hd:d<=src) (k:Nat):Kv rk (bubble a src d) k=if k=src - d then Kv rk a src else if src - d<k/\k<=src then Kv rk a (k - 1) else Kv rk a k:=by
 have e:=getElem?_bubble hs d hd k
 by_cases h1:k=src - d
 ·rw[if_pos h1] at e ⊢;exact Kv.congr e
 ·rw[if_neg h1] at e ⊢
  by_cases h2:src - d<k/\k<=src
  ·rw[if_pos h2] at e ⊢;exact Kv.congr e
  ·rw[if_neg h2] at e ⊢;exact Kv.congr e
section
variable {prog:Program}{w:World}{A:Around}{E:Value->Shared->Prop}{s:Shared}{rk:Keyed->Int}{M:Keyed->Prop}{κ:SortKind}{pd:Array (Nat × Nat × Nat)}{mg:Nat}
theorem binarySort_ok {arr:Array Keyed}{lo n ok:Nat}{Q:Bool->SortSt->Prop} (hA:Ask prog w A s rk M κ) (m:∀x∈arr.toList,M x) (h1:1<=ok) (h2:ok<=n) (hN:lo+n<=arr.size) (hs:Srt rk arr lo ok)
  (h:∀(arr':Array Keyed),Kpt lo arr arr'->Srt rk arr' lo n->Q true (SortSt.mk' κ arr' pd mg none)):wpS (model prog w) A E s (binarySort' lo n ok) Q (SortSt.mk' κ arr pd mg none):=by
 refine wpS_bind (wpS_mono (wpS_forRange (I:=fun k c st'=>c=(none,())/\∃arr2,st'=SortSt.mk' κ arr2 pd mg none/\Kpt lo arr arr2/\Srt rk arr2 lo k) (Q:=fun c st'=>c=(none,())/\∃arr2,st'=SortSt.mk' κ arr2 pd mg none/\Kpt lo arr arr2/\Srt rk arr2 lo n) ?_ ?_ ⟨rfl,arr,rfl,Kpt.refl lo arr,by rw[Nat.max_eq_left h1];exact hs⟩) ?_)
 ·rintro k c st' hk1 hk2 ⟨rfl,arr2,rfl,k2,s2⟩
  have z2:=k2.size
  have m2:∀x∈arr2.toList,M x:=fun x hx=>m x (k2.perm.mem_iff.mp hx)
  rw[Nat.max_eq_left h1] at hk1
  dsimp only
  refine wpS_bind (wpS_mono (wpS_forRange (I:=fun x c st'=>st'=SortSt.mk' κ arr2 pd mg none/\∃l r,c=(none,l,r)/\l<=r/\r<=k/\r - l<=k - x/\(∀i,i<l->Kv rk arr2 (lo+i)<=Kv rk arr2 (lo+k))/\(∀i,r<=i->i<k->Kv rk arr2 (lo+k)<=Kv rk arr2 (lo+i)))
   (Q:=fun c st'=>st'=SortSt.mk' κ arr2 pd mg none/\∃l,c=(none,l,l)/\l<=k/\(∀i,i<l->Kv rk arr2 (lo+i)<=Kv rk arr2 (lo+k))/\(∀i,l<=i->i<k->Kv rk arr2 (lo+k)<=Kv rk arr2 (lo+i))) ?_ ?_ ⟨rfl,0,k,rfl,Nat.zero_le _,Nat.le_refl _,by omega,fun i hi=>by omega,fun i hi hi2=>by omega⟩) ?_)
  ·rintro x c st' _ hx ⟨rfl,l,r,rfl,a1,a2,a3,a4,a5⟩
   dsimp only
   by_cases hge:l ≥ r
   ·rw[if_pos hge]
    have e:l=r:=by omega
    subst e
    exact wpS_pure ⟨rfl,l,rfl,a2,a4,a5⟩
   rw[if_neg hge]
   refine wpS_bind (ltAt_ok hA m2 (by omega) (by omega) ?_)
   by_cases hlt:Kv rk arr2 (lo+k)<Kv rk arr2 (lo+(l+r) / 2)
   ·rw[decide_eq_true hlt]
    refine wpS_pure ⟨rfl,l,(l+r) / 2,rfl,by omega,by omega,by omega,a4,fun i hi hi2=>?_⟩
    exact Int.le_trans (Int.le_of_lt hlt) (s2 _ _ (by omega) (by omega) (by omega))
   ·rw[decide_eq_false hlt]
    refine wpS_pure ⟨rfl,(l+r) / 2+1,r,rfl,by omega,a2,by omega,fun i hi=>?_,a5⟩
    exact Int.le_trans (s2 _ (lo+(l+r) / 2) (by omega) (by omega) (by omega)) (Int.not_lt.mp hlt)
  ·rintro c st' ⟨rfl,l,r,rfl,a1,a2,a3,a4,a5⟩
   have e:l=r:=by omega
   subst e
   exact ⟨rfl,l,rfl,a2,a4,a5⟩
  ·rintro c st' ⟨rfl,l,rfl,a2,a4,a5⟩
   dsimp only
   refine wpS_bind (wpS_modify (wpS_pure ⟨rfl,_,rfl,k2.trans (Kpt.bubble (src:=lo+k) (d:=lo+k - (lo+l)) (by omega) (by omega)),?_⟩))
   intro i j hi hij hj
   show Kv rk (bubble arr2 (lo+k) (lo+k - (lo+l))) i<=Kv rk (bubble arr2 (lo+k) (lo+k - (lo+l))) j
   rw[Kv.bubble (by omega) (by omega),Kv.bubble (by omega) (by omega),show lo+k - (lo+k - (lo+l))=lo+l by omega]
   by_cases c1:i=lo+l
   ·rw[if_pos c1]
    by_cases c2:j=lo+l
    ·rw[if_pos c2];exact Int.le_refl _
    ·rw[if_neg c2,if_pos (by omega)]
     have:=a5 (j - 1 - lo) (by omega) (by omega)
     rw[show lo+(j - 1 - lo)=j - 1 by omega] at this
     exact this
   ·rw[if_neg c1]
    by_cases c3:lo+l<i/\i<=lo+k
    ·rw[if_pos c3,if_neg (by omega),if_pos (by omega)]
     exact s2 _ _ (by omega) (by omega) (by omega)
    ·rw[if_neg c3]
     by_cases c2:j=lo+l
     ·rw[if_pos c2]
      have:=a4 (i - lo) (by omega)
      rw[show lo+(i - lo)=i by omega] at this
      exact this
     ·rw[if_neg c2]
      by_cases c4:lo+l<j/\j<=lo+k
      ·rw[if_pos c4]
       exact s2 _ _ hi (by omega) (by omega)
      ·rw[if_neg c4]
       exact s2 _ _ hi hij (by omega)
 ·rintro c st' ⟨rfl,arr2,rfl,k2,s2⟩
  rw[show max (max ok 1) n=n by omega] at s2
  exact ⟨rfl,arr2,rfl,k2,s2⟩
 ·rintro c st' ⟨rfl,arr2,rfl,k2,s2⟩
  exact wpS_pure (h arr2 k2 s2)
end
end So
namespace So
open PySem PyProof.Rows
theorem minrun_two {N:Nat} (h1:64<=N) (h2:N<128):minRun' N N 0=N / 2+N % 2:=by
 obtain ⟨f,hf⟩:∃f,N=f+2:=⟨N - 2,by omega⟩
 have:minRun' (f+2) N 0=N / 2+N % 2:=by
  rw[minRun'_succ,if_neg (by omega),minRun'_succ,if_pos (by omega)]
  omega
 rw[<- hf] at this
 exact this
theorem srt_up {rk:Keyed->Int}{arr:Array Keyed}{lo n:Nat} (h:Srt rk arr lo n) (hN:lo+n<=arr.size):Up rk ((arr.toList.drop lo).take n):=by
 refine List.pairwise_iff_getElem.mpr fun i j hi hj hij=>?_
 have hj':j<n:=by rw[List.length_take] at hj;omega
 have e:∀k (hk:k<((arr.toList.drop lo).take n).length),rk (((arr.toList.drop lo).take n)[k])=Kv rk arr (lo+k):=fun k hk=>by
  have hk':k<n:=by rw[List.length_take] at hk;omega
  have e1:((arr.toList.drop lo).take n)[k]?=arr[lo+k]?:=by rw[List.getElem?_take,if_pos hk',List.getElem?_drop];simp
  unfold Kv
  rw[<- e1,List.getElem?_eq_getElem hk];rfl
 rw[e i hi,e j hj]
 exact h _ _ (by omega) (by omega) (by omega)
theorem Srt.low {rk:Keyed->Int}{a b:Array Keyed}{lo n:Nat} (h:Srt rk a 0 n) (k:Kpt lo a b) (hn:n<=lo):Srt rk b 0 n:=fun i j hi hij hj=>by
 rw[Kv.congr (k.low i (by omega)),Kv.congr (k.low j (by omega))]
 exact h i j hi hij hj
theorem Kpt.weak {lo:Nat}{a b:Array Keyed} (h:Kpt lo a b):Kpt 0 a b:=⟨h.perm,fun i hi=>absurd hi (Nat.not_lt_zero i)⟩
section
variable {prog:Program}{w:World}{A:Around}{E:Value->Shared->Prop}{s:Shared}{rk:Keyed->Int}{M:Keyed->Prop}{κ:SortKind}
theorem sortRuns_ok {arr:Array Keyed}{Q:Unit->SortSt->Prop} (hA:Ask prog w A s rk M κ) (m:∀x∈arr.toList,M x) (h64:64<=arr.size) (h128:arr.size<128)
  (h:∀st',(arrOf st').toList.Perm arr.toList->failedOf st'=none->Up rk (arrOf st').toList->Q () st'):wpS (model prog w) A E s sortRuns' Q (SortSt.mk' κ arr #[] 7 none):=by
 rw[sortRuns'_eq]
 refine wpS_bind (wpS_get ?_)
 dsimp only
 have hmr:=minrun_two h64 h128
 obtain ⟨N,eN⟩:∃N,N=arr.size:=⟨_,rfl⟩
 obtain ⟨mr,emr⟩:∃mr,mr=N / 2+N % 2:=⟨_,rfl⟩
 rw[<- eN] at hmr h64 h128
 rw[<- emr] at hmr
 simp only[<- eN,hmr]
 refine wpS_bind (wpS_mono (wpS_forRange
  (I:=fun x c st'=>(x=0/\c=(none,0)/\st'=SortSt.mk' κ arr #[] 7 none) ∨ (1<=x/\∃n arr2,c=(none,n)/\st'=SortSt.mk' κ arr2 #[(0,n,0)] 7 none/\mr<=n/\n<=N/\Kpt 0 arr arr2/\Srt rk arr2 0 n/\(n=N ∨ x=1)) ∨ (2<=x/\∃n pw arr2,c=(none,N)/\st'=SortSt.mk' κ arr2 #[(0,n,pw),(n,N - n,0)] 7 none/\mr<=n/\n<N/\Kpt 0 arr arr2/\Srt rk arr2 0 n/\Srt rk arr2 n (N - n)))
  (Q:=fun c st'=>c.1=none/\((∃arr2,st'=SortSt.mk' κ arr2 #[(0,N,0)] 7 none/\Kpt 0 arr arr2/\Srt rk arr2 0 N) ∨ (∃n pw arr2,st'=SortSt.mk' κ arr2 #[(0,n,pw),(n,N - n,0)] 7 none/\mr<=n/\n<N/\Kpt 0 arr arr2/\Srt rk arr2 0 n/\Srt rk arr2 n (N - n)))) ?_ ?_ (.inl ⟨rfl,rfl,rfl⟩)) ?_)
 ·rintro x c st' _ hx (⟨rfl,rfl,rfl⟩|⟨hx1,n,arr2,rfl,rfl,hn1,hn2,k2,s2,hnx⟩|⟨hx2,n,pw,arr2,rfl,rfl,hn1,hn2,k2,s2,s3⟩)
  ·dsimp only
   rw[if_neg (by omega)]
   simp only[Nat.sub_zero,Nat.zero_add]
   refine wpS_bind (countRun_ok hA m (by omega) (by omega) fun arr2 n hn1 hn2 k2 s2=>?_)
   have m2:∀x∈arr2.toList,M x:=fun x hx=>m x (k2.perm.mem_iff.mp hx)
   have z2:=k2.size
   dsimp only
   by_cases hlt:n<mr
   ·rw[if_pos hlt]
    refine wpS_bind (wpS_lift (wpAny_rule ⟨rfl,?_⟩))
    refine wpS_bind (binarySort_ok hA m2 hn1 (by omega) (by omega) s2 fun arr3 k3 s3=>?_)
    simp only[Bool.not_true,Bool.false_eq_true,if_false]
    refine wpS_bind (wpS_get ?_)
    have hb:(pendingOf (SortSt.mk' κ arr3 #[] 7 none)).back?=none:=rfl
    rw[hb]
    dsimp only
    exact wpS_bind (wpS_modify (wpS_pure (.inr (.inl ⟨by omega,min N mr,arr3,rfl,rfl,by omega,by omega,k2.trans k3,s3,.inr (by first|rfl|trivial)⟩))))
   ·rw[if_neg hlt]
    refine wpS_bind (wpS_get ?_)
    have hb:(pendingOf (SortSt.mk' κ arr2 #[] 7 none)).back?=none:=rfl
    rw[hb]
    dsimp only
    exact wpS_bind (wpS_modify (wpS_pure (.inr (.inl ⟨by omega,n,arr2,rfl,rfl,by omega,hn2,k2,s2,.inr (by first|rfl|trivial)⟩))))
  ·dsimp only
   by_cases hnN:n ≥ N
   ·rw[if_pos hnN]
    have e:n=N:=by omega
    subst e
    exact wpS_pure ⟨rfl,.inl ⟨arr2,rfl,k2,s2⟩⟩
   rw[if_neg hnN]
   have m2:∀x∈arr2.toList,M x:=fun x hx=>m x (k2.perm.mem_iff.mp hx)
   have z2:=k2.size
   refine wpS_bind (countRun_ok hA m2 (by omega) (by omega) fun arr3 n3 hn31 hn32 k3 s3=>?_)
   have m3:∀x∈arr3.toList,M x:=fun x hx=>m2 x (k3.perm.mem_iff.mp hx)
   have z3:=k3.size
   dsimp only
   by_cases hlt:n3<mr
   ·rw[if_pos hlt]
    refine wpS_bind (wpS_lift (wpAny_rule ⟨rfl,?_⟩))
    simp only[show min (N - n) mr=N - n by omega]
    refine wpS_bind (binarySort_ok hA m3 hn31 (by omega) (by omega) s3 fun arr4 k4 s4=>?_)
    simp only[Bool.not_true,Bool.false_eq_true,if_false]
    refine wpS_bind (wpS_get ?_)
    have hb:(pendingOf (SortSt.mk' κ arr4 #[(0,n,0)] 7 none)).back?=some (0,n,0):=rfl
    rw[hb]
    dsimp only
    refine wpS_bind (wpS_mono (wpS_forRange (I:=fun _ c st'=>c=(none,())/\st'=SortSt.mk' κ arr4 #[(0,n,0)] 7 none) (Q:=fun c st'=>c=(none,())/\st'=SortSt.mk' κ arr4 #[(0,n,0)] 7 none) ?_ (fun _ _ z=>z) ⟨rfl,rfl⟩) ?_)
    ·rintro y c st' _ _ ⟨rfl,rfl⟩
     refine wpS_bind (wpS_get ?_)
     have hp1:¬ (pendingOf (SortSt.mk' κ arr4 #[(0,n,0)] 7 none)).size > 1:=by show ¬ (1:Nat) > 1;decide
     rw[if_neg hp1]
     exact wpS_pure ⟨rfl,rfl⟩
    ·rintro c st' ⟨rfl,rfl⟩
     dsimp only
     refine wpS_bind (wpS_modify (wpS_bind (wpS_modify (wpS_pure (.inr (.inr ⟨by omega,n,power' N (2*0+n) (2*0+n+n+(N - n)) N,arr4,?_,?_,hn1,by omega,k2.trans (Kpt.weak (k3.trans k4)),(s2.low k3 (Nat.le_refl _)).low k4 (Nat.le_refl _),s4⟩))))))
     ·first|rfl | (congr 1;omega)
     ·first|rfl | (congr 1;try simp;try omega)
   ·rw[if_neg hlt]
    have e3:n3=N - n:=by omega
    subst e3
    refine wpS_bind (wpS_get ?_)
    have hb:(pendingOf (SortSt.mk' κ arr3 #[(0,n,0)] 7 none)).back?=some (0,n,0):=rfl
    rw[hb]
    dsimp only
    refine wpS_bind (wpS_mono (wpS_forRange (I:=fun _ c st'=>c=(none,())/\st'=SortSt.mk' κ arr3 #[(0,n,0)] 7 none) (Q:=fun c st'=>c=(none,())/\st'=SortSt.mk' κ arr3 #[(0,n,0)] 7 none) ?_ (fun _ _ z=>z) ⟨rfl,rfl⟩) ?_)
    ·rintro y c st' _ _ ⟨rfl,rfl⟩
     refine wpS_bind (wpS_get ?_)
     have hp1:¬ (pendingOf (SortSt.mk' κ arr3 #[(0,n,0)] 7 none)).size > 1:=by show ¬ (1:Nat) > 1;decide
     rw[if_neg hp1]
     exact wpS_pure ⟨rfl,rfl⟩
    ·rintro c st' ⟨rfl,rfl⟩
     dsimp only
     refine wpS_bind (wpS_modify (wpS_bind (wpS_modify (wpS_pure (.inr (.inr ⟨by omega,n,power' N (2*0+n) (2*0+n+n+(N - n)) N,arr3,?_,?_,hn1,by omega,k2.trans (Kpt.weak k3),s2.low k3 (Nat.le_refl _),s3⟩))))))
     ·first|rfl | (congr 1;omega)
     ·first|rfl | (congr 1;try simp;try omega)
  ·dsimp only
   rw[if_pos (Nat.le_refl _)]
   exact wpS_pure ⟨rfl,.inr ⟨n,pw,arr2,rfl,hn1,hn2,k2,s2,s3⟩⟩
 ·rintro c st' (⟨hx,rfl,rfl⟩|⟨hx1,n,arr2,rfl,rfl,hn1,hn2,k2,s2,hnx⟩|⟨hx2,n,pw,arr2,rfl,rfl,hn1,hn2,k2,s2,s3⟩)
  ·omega
  ·have e:n=N:=by omega
   subst e
   exact ⟨rfl,.inl ⟨arr2,rfl,k2,s2⟩⟩
  ·exact ⟨rfl,.inr ⟨n,pw,arr2,rfl,hn1,hn2,k2,s2,s3⟩⟩
 ·rintro ⟨c1,c2⟩ st' ⟨hc,hst⟩
  dsimp only at hc
  subst hc
  dsimp only
  refine wpS_bind (wpS_mono (wpS_forRange (I:=fun x c st'=>c=(none,())/\((∃arr2 mg,st'=SortSt.mk' κ arr2 #[(0,N,(pendingOf st').back?.elim 0 (·.2.2))] mg none/\arr2.toList.Perm arr.toList/\Up rk arr2.toList) ∨ (x=0/\∃n pw arr2,st'=SortSt.mk' κ arr2 #[(0,n,pw),(n,N - n,0)] 7 none/\mr<=n/\n<N/\Kpt 0 arr arr2/\Srt rk arr2 0 n/\Srt rk arr2 n (N - n))))
   (Q:=fun c st'=>c=(none,())/\failedOf st'=none/\(arrOf st').toList.Perm arr.toList/\Up rk (arrOf st').toList) ?_ ?_ ?_) ?_)
  ·rintro x c st2 _ hx ⟨rfl,(⟨arr2,mg,e,hp,hu⟩|⟨rfl,n,pw,arr2,rfl,hn1,hn2,k2,s2,s3⟩)⟩
   ·generalize (pendingOf st2).back?.elim 0 (·.2.2)=pw at e
    subst e
    refine wpS_bind (wpS_get ?_)
    rw[if_pos (by show (1:Nat)<=1;exact Nat.le_refl 1)]
    exact wpS_pure ⟨rfl,rfl,hp,hu⟩
   ·have m2:∀x∈arr2.toList,M x:=fun x hx=>m x (k2.perm.mem_iff.mp hx)
    have z2:=k2.size
    refine wpS_bind (wpS_get ?_)
    rw[if_neg (by show ¬ (2:Nat)<=1;decide)]
    have u1:Up rk (arr2.toList.take n):=by have:=srt_up s2 (by omega);rw[List.drop_zero] at this;exact this
    have u2:Up rk (arr2.toList.drop n):=by
     have:=srt_up s3 (by omega)
     rw[List.take_of_length_le (by rw[List.length_drop,Array.length_toList];omega)] at this
     exact this
    refine wpS_bind (mergeAt_ok hA m2 (by omega) (by omega) (by omega) u1 u2 fun arr' mg' hp hu=>?_)
    simp only[Bool.not_true,Bool.false_eq_true,if_false]
    refine wpS_pure ⟨rfl,.inl ⟨arr',mg',?_,hp.trans k2.perm,hu⟩⟩
    rw[show n+(N - n)=N by omega]
    rfl
  ·rintro c st2 ⟨rfl,(⟨arr2,mg,e,hp,hu⟩|⟨hx,_⟩)⟩
   ·generalize (pendingOf st2).back?.elim 0 (·.2.2)=pw at e
    subst e
    exact ⟨rfl,rfl,hp,hu⟩
   ·omega
  ·refine ⟨rfl,?_⟩
   rcases hst with ⟨arr2,rfl,k2,s2⟩|⟨n,pw,arr2,rfl,r⟩
   ·refine .inl ⟨arr2,7,rfl,k2.perm,?_⟩
    have z2:=k2.size
    have:=srt_up s2 (by omega)
    rw[List.drop_zero,List.take_of_length_le (by rw[Array.length_toList];omega)] at this
    exact this
   ·exact .inr ⟨rfl,n,pw,arr2,rfl,r⟩
  ·rintro c st2 ⟨rfl,hf,hp,hu⟩
   exact wpS_pure (h st2 hp hf hu)
end
end So
namespace So
open PySem PyProof.Rows PySem.Spec L2
section
variable {prog:Program}{w:World}{A:Around}{E:Value->Shared->Prop}{s:Shared}{rk:Keyed->Int}{M:Keyed->Prop}{κ:SortKind}
theorem sortRuns_small {arr:Array Keyed}{Q:Unit->SortSt->Prop} (hA:Ask prog w A s rk M κ) (m:∀x∈arr.toList,M x) (h2:2<=arr.size) (h64:arr.size<64)
  (h:∀st',(arrOf st').toList.Perm arr.toList->failedOf st'=none->Up rk (arrOf st').toList->Q () st'):wpS (model prog w) A E s sortRuns' Q (SortSt.mk' κ arr #[] 7 none):=by
 rw[sortRuns'_eq]
 refine wpS_bind (wpS_get ?_)
 dsimp only
 obtain ⟨N,eN⟩:∃N,N=arr.size:=⟨_,rfl⟩
 have hmr:minRun' N N 0=N:=by
  obtain ⟨f,hf⟩:∃f,N=f+1:=⟨N - 1,by omega⟩
  have:minRun' (f+1) N 0=N:=by rw[minRun'_succ,if_pos (by omega)];rfl
  rw[<- hf] at this
  exact this
 simp only[<- eN,hmr]
 refine wpS_bind (wpS_mono (wpS_forRange
  (I:=fun x c st'=>(x=0/\c=(none,0)/\st'=SortSt.mk' κ arr #[] 7 none) ∨ (1<=x/\∃arr2,c=(none,N)/\st'=SortSt.mk' κ arr2 #[(0,N,0)] 7 none/\Kpt 0 arr arr2/\Srt rk arr2 0 N))
  (Q:=fun c st'=>c.1=none/\∃arr2,st'=SortSt.mk' κ arr2 #[(0,N,0)] 7 none/\Kpt 0 arr arr2/\Srt rk arr2 0 N) ?_ ?_ (.inl ⟨rfl,rfl,rfl⟩)) ?_)
 ·rintro x c st' _ hx (⟨rfl,rfl,rfl⟩|⟨hx1,arr2,rfl,rfl,k2,s2⟩)
  ·dsimp only
   rw[if_neg (by omega)]
   simp only[Nat.sub_zero,Nat.zero_add,Nat.min_self]
   refine wpS_bind (countRun_ok hA m (by omega) (by omega) fun arr2 n hn1 hn2 k2 s2=>?_)
   have m2:∀x∈arr2.toList,M x:=fun x hx=>m x (k2.perm.mem_iff.mp hx)
   have z2:=k2.size
   dsimp only
   by_cases hlt:n<N
   ·rw[if_pos hlt]
    refine wpS_bind (wpS_lift (wpAny_rule ⟨rfl,?_⟩))
    refine wpS_bind (binarySort_ok hA m2 hn1 (by omega) (by omega) s2 fun arr3 k3 s3=>?_)
    simp only[Bool.not_true,Bool.false_eq_true,if_false]
    refine wpS_bind (wpS_get ?_)
    have hb:(pendingOf (SortSt.mk' κ arr3 #[] 7 none)).back?=none:=rfl
    rw[hb]
    dsimp only
    exact wpS_bind (wpS_modify (wpS_pure (.inr ⟨by omega,arr3,rfl,rfl,k2.trans k3,s3⟩)))
   ·rw[if_neg hlt]
    have e:n=N:=by omega
    subst e
    refine wpS_bind (wpS_get ?_)
    have hb:(pendingOf (SortSt.mk' κ arr2 #[] 7 none)).back?=none:=rfl
    rw[hb]
    dsimp only
    exact wpS_bind (wpS_modify (wpS_pure (.inr ⟨by omega,arr2,rfl,rfl,k2,s2⟩)))
  ·dsimp only
   rw[if_pos (Nat.le_refl _)]
   exact wpS_pure ⟨rfl,arr2,rfl,k2,s2⟩
 ·rintro c st' (⟨hx,rfl,rfl⟩|⟨hx1,arr2,rfl,rfl,k2,s2⟩)
  ·omega
  ·exact ⟨rfl,arr2,rfl,k2,s2⟩
 ·rintro ⟨c1,c2⟩ st' ⟨hc,arr2,rfl,k2,s2⟩
  dsimp only at hc
  subst hc
  dsimp only
  refine wpS_bind (wpS_mono (wpS_forRange (I:=fun _ c st'=>c=(none,())/\st'=SortSt.mk' κ arr2 #[(0,N,0)] 7 none) (Q:=fun c st'=>c=(none,())/\st'=SortSt.mk' κ arr2 #[(0,N,0)] 7 none) ?_ (fun _ _ z=>z) ⟨rfl,rfl⟩) ?_)
  ·rintro x c st' _ _ ⟨rfl,rfl⟩
   refine wpS_bind (wpS_get ?_)
   rw[if_pos (by show (1:Nat)<=1;exact Nat.le_refl 1)]
   exact wpS_pure ⟨rfl,rfl⟩
  ·rintro c st' ⟨rfl,rfl⟩
   have z2:=k2.size
   refine wpS_pure (h _ k2.perm rfl ?_)
   have:=srt_up s2 (by omega)
   rw[List.drop_zero,List.take_of_length_le (by rw[Array.length_toList];omega)] at this
   exact this
theorem sortRuns_all {arr:Array Keyed}{Q:Unit->SortSt->Prop} (hA:Ask prog w A s rk M κ) (m:∀x∈arr.toList,M x) (h2:2<=arr.size) (h128:arr.size<128)
  (h:∀st',(arrOf st').toList.Perm arr.toList->failedOf st'=none->Up rk (arrOf st').toList->Q () st'):wpS (model prog w) A E s sortRuns' Q (SortSt.mk' κ arr #[] 7 none):=by
 by_cases h64:arr.size<64
 ·exact sortRuns_small hA m h2 h64 h
 ·exact sortRuns_ok hA m (by omega) h128 h
theorem sort_rawR {rv:Value->Int}{B:Addr}{vs:List Value}{c:Nat}{P:PySem.Fin->Shared->Prop} (hB:s.heap.get? B=some (seqObj "list" vs.toArray c)) (h128:vs.length<128)
  (hk:2<=vs.length->∀h1,(∀b o,b≠B->s.heap.get? b=some o->h1.get? b=some o) ->
   wpAny (model prog w) A (keyKind' vs.toArray) (fun κ s'=>s'={ s with heap:=h1 }/\Ask prog w A { s with heap:=h1 } (fun x=>rv x.1) (fun x=>x.1∈vs) κ) (fun _ _=>False) { s with heap:=h1 })
  (hP:∀h' vs' c',vs'.Perm vs->vs'.Pairwise (fun x y=>rv x<=rv y)->(∀b o,b≠B->s.heap.get? b=some o->h'.get? b=some o)->h'.get? B=some (seqObj "list" (List.toArray vs') c')->P (.done (.ret .none)) { s with heap:=h' }):wpAny (model prog w) A (Builtin.«list.sort» ⟨[.ref B],[]⟩) P E s:=by
 obtain ⟨e1,hB1⟩:∃e1,(s.heap.update B (Obj.mapSeq fun _=>(#[]:Array Value))).get? B=some (seqObj "list" #[] e1):=⟨_,get?_update_seq hB fun _=>#[]⟩
 have b1:=Heap.SameBut.update s.heap B (Obj.mapSeq fun _=>(#[]:Array Value))
 obtain ⟨h3,eh3⟩:∃h3,h3=((s.heap.update B (Obj.mapSeq fun _=>(#[]:Array Value))).push (seqObj "tuple" vs.toArray 0)).push (seqObj "list" #[] 0):=⟨_,rfl⟩
 have hB3:h3.get? B=some (seqObj "list" #[] e1):=by rw[eh3];exact Heap.get?_push_of_some _ (Heap.get?_push_of_some _ hB1)
 have k3:∀b o,b≠B->s.heap.get? b=some o->h3.get? b=some o:=fun b o hb q=>by rw[eh3];exact Heap.get?_push_of_some _ (Heap.get?_push_of_some _ (b1.extBut b o hb q))
 rw[list_sort_plain]
 refine wpAny_bind (listItems_at hB rfl (wpAny_bind (listUpdate_at hB rfl ?_ (by rw[List.size_toArray,sizeLine_eq];omega) (Nat.zero_le _))))
 refine wpAny_bind (seqEpoch_at hB1 rfl (wpAny_bind (wpAny_newTuple ?_ (by show vs.length<=_;rw[sizeLine_eq];omega))))
 refine wpAny_bind (wpAny_newList (wpAny_holding ?_) (Nat.zero_le _))
 show wpAny (model prog w) A _ P E { s with heap:=((s.heap.update B (Obj.mapSeq fun _=>(#[]:Array Value))).push (seqObj "tuple" vs.toArray 0)).push (seqObj "list" #[] 0) }
 rw[<- eh3]
 dsimp only
 have fin:∀(st:SortSt) (out:List Value),(arrOf st).map (·.2)=List.toArray out->out.length=vs.length->failedOf st=none->out.Perm vs->out.Pairwise (fun x y=>rv x<=rv y) ->
   wpAny (model prog w) A (do
    let sorted:=(arrOf st).map (·.2)
    let touched:=(<- seqEpoch B) != e1
    Builtin.List.listUpdate (.ref B) fun _=>sorted
    if let some e:=failedOf st then rule "list.sort.comparison-raised";throw e
    if touched then rule "list.sort.modified";raiseError "ValueError" "list modified during sort"
    ret .none) P E { s with heap:=h3 }:=fun st out ho hl hf hp hu=>by
  rw[ho]
  have sz:(List.toArray out).size<=sizeLine:=by rw[List.size_toArray,hl,sizeLine_eq];omega
  obtain ⟨c2,hc2⟩:∃c2,(h3.update B (Obj.mapSeq fun _=>List.toArray out)).get? B=some (seqObj "list" (List.toArray out) c2):=⟨_,get?_update_seq hB3 fun _=>List.toArray out⟩
  refine wpAny_bind (seqEpoch_at hB3 rfl (wpAny_bind (listUpdate_at hB3 rfl ?_ (Nat.zero_le _) (Nat.le_trans sz (Nat.le_succ _)))))
  rw[hf]
  simp only[bne_self_eq_false,Bool.false_eq_true,if_false]
  exact wpAny_pure (hP _ out c2 hp hu (fun b o hb q=>(Heap.SameBut.update h3 B _).extBut b o hb (k3 b o hb q)) hc2)
 by_cases h2:2<=vs.length
 ·have hn2:¬ vs.toArray.size<2:=by rw[List.size_toArray];omega
  rw[if_neg hn2,if_neg hn2]
  refine wpAny_bind (wpAny_mono (hk h2 h3 k3) (fun κ s0 hh=>?_) fun _ _ x=>x.elim)
  obtain ⟨rfl,ask⟩:=hh
  have ez:(vs.toArray.zip vs.toArray).toList=vs.map fun v=>(v,v):=by
   rw[Array.toList_zip]
   show vs.zip vs=_
   clear hk hP hB h128 h2 hn2 ask fin hB1 b1 eh3 hB3 k3
   induction vs with
   | nil=>rfl
   | cons v vs ih=>rw[List.zip_cons_cons,ih];rfl
  refine wpAny_bind (wpAny_mono (sortRuns_all (rk:=fun x=>rv x.1) (M:=fun x=>x.1∈vs) (s:={ s with heap:=h3 }) (Q:=fun _ st'=>(arrOf st').toList.Perm (vs.map fun v=>(v,v))/\failedOf st'=none/\Up (fun x=>rv x.1) (arrOf st').toList) ask (fun x hx=>?_) ?_ ?_ (fun st' a1 a2 a3=>⟨by rw[ez] at a1;exact a1,a2,a3⟩)) ?_ fun _ _ e=>e)
  ·rw[ez] at hx
   obtain ⟨v,hv,rfl⟩:=List.mem_map.mp hx
   exact hv
  ·have:=congrArg List.length ez
   simp at this ⊢
   omega
  ·have:=congrArg List.length ez
   simp at this ⊢
   omega
  rintro ⟨⟨⟩,st'⟩ s' ⟨rfl,hp,hf,hu⟩
  dsimp only at hp hf hu ⊢
  have twin:∀x∈(arrOf st').toList,x.1=x.2:=fun x hx=>by
   obtain ⟨v,_,rfl⟩:=List.mem_map.mp (hp.mem_iff.mp hx)
   rfl
  have hp2:((arrOf st').toList.map (·.2)).Perm vs:=by
   have:=hp.map (·.2)
   rw[List.map_map] at this
   have e:vs.map ((fun x:Keyed=>x.2) ∘ fun v=>(v,v))=vs:=by
    have:((fun x:Keyed=>x.2) ∘ fun v=>(v,v))=id:=rfl
    rw[this,List.map_id]
   rw[e] at this
   exact this
  refine fin st' ((arrOf st').toList.map (·.2)) ?_ hp2.length_eq hf hp2 ?_
  ·apply Array.toList_inj.mp
   simp
  ·rw[List.pairwise_map]
   refine List.Pairwise.imp_of_mem ?_ hu
   intro x y hx hy hxy
   rw[<- twin x hx,<- twin y hy]
   exact hxy
 ·have hn2:vs.toArray.size<2:=by rw[List.size_toArray];omega
  rw[if_pos hn2,if_pos hn2]
  refine wpAny_bind (wpAny_pure (wpAny_bind ?_))
  rw[StateT.run_pure]
  refine wpAny_pure ?_
  refine fin _ vs (by
   show ((vs.toArray.zip vs.toArray).map (·.2))=vs.toArray
   apply Array.toList_inj.mp
   simp[List.map_snd_zip]) rfl rfl (List.Perm.refl _) ?_
  match vs,h2 with
  | [],_=>exact List.Pairwise.nil
  | [v],_=>exact List.pairwise_singleton _ _
  | a::b::l,h2=>exact absurd (by simp:2<=(a::b::l).length) h2
end
end So
namespace L2
open PySem PySem.Spec PyProof.Rows HT
theorem lex_irr:∀a:List Int,lexLt a a=false
 | []=>rfl
 | x::a=>by rw[lexLt_cons,if_pos rfl];exact lex_irr a
theorem lex_tri:∀{a b:List Int},lexLt a b=false->lexLt b a=false->a=b
 | [],[],_,_=>rfl
 | [],_::_,h,_=>by rw[lexLt_nil_cons] at h;cases h
 | _::_,[],_,h=>by rw[lexLt_nil_cons] at h;cases h
 | x::a,y::b,h,k=>by
  rw[lexLt_cons] at h k
  by_cases e:x=y
  ·rw[if_pos e] at h
   rw[if_pos e.symm] at k
   rw[e,lex_tri h k]
  ·rw[if_neg e,decide_eq_false_iff_not] at h
   rw[if_neg fun z=>e z.symm,decide_eq_false_iff_not] at k
   omega
theorem lex_trans:∀{a b c:List Int},lexLt a b=true->lexLt b c=true->lexLt a c=true
 | [],[],[],h,_=>by cases h
 | [],_::_,[],_,k=>by rw[lexLt_cons_nil] at k;cases k
 | [],_,_::_,_,_=>rfl
 | x::a,[],_,h,_=>by rw[lexLt_cons_nil] at h;cases h
 | x::a,y::b,[],_,k=>by rw[lexLt_cons_nil] at k;cases k
 | x::a,y::b,z::c,h,k=>by
  rw[lexLt_cons] at h k ⊢
  by_cases e1:x=y
  ·rw[if_pos e1] at h
   by_cases e2:y=z
   ·rw[if_pos e2] at k
    rw[if_pos (e1.trans e2)]
    exact lex_trans h k
   ·rw[if_neg e2,decide_eq_true_iff] at k
    rw[if_neg (by omega),decide_eq_true_iff];omega
  ·rw[if_neg e1,decide_eq_true_iff] at h
   by_cases e2:y=z
   ·rw[if_neg (by omega),decide_eq_true_iff];omega
   ·rw[if_neg e2,decide_eq_true_iff] at k
    rw[if_neg (by omega),decide_eq_true_iff];omega
noncomputable def rankL (ks:List (List Int)) (k:List Int):Nat:=ks.countP fun z=>lexLt z k
theorem rank_lt {ks:List (List Int)}{a b:List Int} (ha:a∈ks) (h:lexLt a b=true):rankL ks a<rankL ks b:=by
 unfold rankL
 have mono:∀l:List (List Int),l.countP (fun z=>lexLt z a)<=l.countP (fun z=>lexLt z b):=fun l=>List.countP_mono_left fun z _ hz=>lex_trans hz h
 induction ks with
 | nil=>cases ha
 | cons z ks ih =>
  rw[List.countP_cons,List.countP_cons]
  rcases List.mem_cons.mp ha with e|e
  ·subst e
   rw[if_neg (by rw[lex_irr];decide),if_pos h]
   have:=mono ks
   omega
  ·have:=ih e
   by_cases hz:lexLt z a=true
   ·rw[if_pos hz,if_pos (lex_trans hz h)];omega
   ·rw[if_neg hz]
    split <;> omega
theorem rank_iff {ks:List (List Int)}{a b:List Int} (ha:a∈ks) (hb:b∈ks):decide ((rankL ks a:Int)<(rankL ks b:Int))=lexLt a b:=by
 cases h:lexLt a b with
 | true=>exact decide_eq_true (by have:=rank_lt ha h;omega)
 | false =>
  refine decide_eq_false fun z=>?_
  cases h2:lexLt b a with
  | true=>have:=rank_lt hb h2;omega
  | false=>rw[lex_tri h h2] at z;omega
section
variable {prog:Program}{w:World}{A:Around}{E:Value->Shared->Prop}{s:Shared}
noncomputable def IntsAt (h:Heap) (v:Value) (ns:List Int):Prop:=∃(a:Addr) (us:List Value),v=.ref a/\IsTup h a us.toArray/\IntsAre us ns
theorem ints_at:∀{us:List Value}{ns:List Int}{j:Nat}{v:Value},IntsAre us ns->us[j]?=some v->∃t,v=Value.int (ns.getD j 0) t
 | _,_,0,v,.cons _ _ _,e=>by cases e;exact ⟨_,rfl⟩
 | _,_,j+1,v,.cons _ _ t,e=>by
  obtain ⟨t',h⟩:=ints_at (j:=j) t (by simpa using e)
  exact ⟨t',by rw[h];rfl⟩
theorem ints_ln:∀{us:List Value}{ns:List Int},IntsAre us ns->us.length=ns.length
 | _,_,.nil=>rfl
 | _,_,.cons _ _ t=>by rw[List.length_cons,List.length_cons,ints_ln t]
theorem ints_fn:∀{us:List Value}{ns ms:List Int},IntsAre us ns->IntsAre us ms->ns=ms
 | _,_,_,.nil,.nil=>rfl
 | _,_,_,.cons _ _ t,.cons _ _ u=>by rw[ints_fn t u]
theorem IntsAt.eq {p q:Value}{ns ms:List Int} (h1:IntsAt s.heap p ns) (h2:IntsAt s.heap q ms) (hu:A.units<cLine) (hne:ns≠ms):SeqAt.EqAt A s p q false:=by
 obtain ⟨a,us,rfl,⟨oa,ha,hca,na,hda⟩,i1⟩:=h1
 obtain ⟨b,vs,rfl,⟨ob,hb,hcb,nb,hdb⟩,i2⟩:=h2
 have l1:=ints_ln i1
 have l2:=ints_ln i2
 by_cases hab:a=b
 ·subst hab
  rw[ha] at hb
  cases hb
  rw[hda] at hdb
  injection hdb with e1 _
  have e2:us=vs:=by simpa using e1
  subst e2
  exact absurd (ints_fn i1 i2) hne
 ·have:=SeqAt.EqAt.of_refs hab (SeqAt.RcAt.tuples (A:=A) (e:=fun j=>decide (ns.getD j 0=ms.getD j 0)) ⟨oa,ha,hca,na,hda⟩ ⟨ob,hb,hcb,nb,hdb⟩ hu fun j h1 h2=>by
   have h1':j<us.length:=by simpa using h1
   have h2':j<vs.length:=by simpa using h2
   obtain ⟨t,ex⟩:=ints_at i1 (List.getElem?_eq_getElem h1')
   obtain ⟨u,ey⟩:=ints_at i2 (List.getElem?_eq_getElem h2')
   have e1:us.toArray[j]=.int (ns.getD j 0) t:=by rw[List.getElem_toArray];exact ex
   have e2:vs.toArray[j]=.int (ms.getD j 0) u:=by rw[List.getElem_toArray];exact ey
   rw[e1,e2]
   have e3:decide (ns.getD j 0=ms.getD j 0)=(ns.getD j 0 == ms.getD j 0):=by rw[Bool.eq_iff_iff];simp
   rw[e3]
   exact SeqAt.EqAt.int_int _ t _ u)
  have e:((List.range (min us.toArray.size vs.toArray.size)).all (fun j=>decide (ns.getD j 0=ms.getD j 0))&&us.toArray.size == vs.toArray.size)=false:=by
   rw[Bool.eq_false_iff]
   intro z
   rw[Bool.and_eq_true,List.all_eq_true,beq_iff_eq,List.size_toArray,List.size_toArray] at z
   refine hne (List.ext_getElem (by omega) fun i h1 h2=>?_)
   have:=of_decide_eq_true (z.1 i (List.mem_range.mpr (by omega)))
   rw[List.getD_eq_getElem?_getD,List.getD_eq_getElem?_getD,List.getElem?_eq_getElem h1,List.getElem?_eq_getElem h2] at this
   exact this
  rw[e] at this
  exact this
theorem IntsAt.lt {p q:Value}{ns ms:List Int} (h1:IntsAt s.heap p ns) (h2:IntsAt s.heap q ms) (hu:A.units<cLine) {Q:Value->Shared->Prop} (hq:Q (.bool (lexLt ns ms)) s):wpAny (model prog w) A (compareOp .Lt p q) Q E s:=by
 obtain ⟨a,us,rfl,ta,i1⟩:=h1
 obtain ⟨b,vs,rfl,tb,i2⟩:=h2
 exact HT.lt_tupInts ta tb i1 i2 hu hq
theorem pair_ltE {x y:Addr}{p1 p2 q1 q2:Value}{n k:Nat}{ox oy:Obj}{ns ms:List Int}{Q:Bool->Shared->Prop} (hx:s.heap.get? x=some ox) (dx:ox.data=.seq #[p1,q1] n) (hy:s.heap.get? y=some oy) (dy:oy.data=.seq #[p2,q2] k)
  (h1:IntsAt s.heap p1 ns) (h2:IntsAt s.heap p2 ms) (hsame:ns=ms->p1=p2/\q1=q2) (hu:A.units<cLine) (hq:Q (lexLt ns ms) s):wpAny (model prog w) A (keyLt' (tuples' false) (.ref x) (.ref y)) Q E s:=by
 refine W.kat_lt hx dx hy dy ?_
 by_cases hne:ns=ms
 ·obtain ⟨rfl,rfl⟩:=hsame hne
  rw[hne,lex_irr] at hq
  refine W.kat_cons (SeqAt.EqAt.same p1 prog w _ _ (W.kat_yes (W.kat_cons (SeqAt.EqAt.same q1 prog w _ _ (W.kat_yes (W.kat_nil ?_))))))
  exact hq
 ·refine W.kat_cons (IntsAt.eq (A:=A) h1 h2 hu hne prog w _ _ (W.kat_no ?_))
  rw[Bool.false_and]
  exact W.kat_one p1 p2 (IntsAt.lt h1 h2 hu hq)
end
end L2
namespace L2
open PySem PySem.Spec PyProof.Rows HT
noncomputable def kz (k:List Key):List Int:=k.map fun z=>match z with | .inl i=>i | .inr _=>0
theorem kz_ints (ns:List Int):kz (ns.map Sum.inl)=ns:=by
 unfold kz
 rw[List.map_map]
 exact List.map_id _
noncomputable def rvO (as:List Addr) (kvs:List (List Key × V)) (ks:List (List Int)):Value->Int
 | .ref a=>((as.zip kvs).lookup a).elim 0 fun t=>(rankL ks (kz t.1):Int)
 | _=>0
section
variable {X:Cx}{H:Hp}
theorem intsAt_of {P:Program}{w:World}{h:Heap}{q:Addr}{ms:List Int} (ok:HOk P w H h) (e:H q=some (.tup (ms.map V.int))):IntsAt h (.ref q) ms:=by
 obtain ⟨_,its,r,t⟩:=(show ObjOk P w H h q (.tup (ms.map V.int)) from ok q _ e)
 exact ⟨q,its,rfl,t,intsAre_of r⟩
theorem IntsAt.keep {h h':Heap}{v:Value}{ns:List Int} (x:IntsAt h v ns) (k:∀a o,v=.ref a->h.get? a=some o->h'.get? a=some o):IntsAt h' v ns:=by
 obtain ⟨a,us,e,⟨o,ho,r⟩,i⟩:=x
 exact ⟨a,us,e,⟨o,k a o e ho,r⟩,i⟩
noncomputable def rSortR:List V->Hp->VK->Prop:=fun xs H Q=>∃v d kvs,xs=[.ref v]/\H v=some (ViewO v d)/\H d=some (.dT kvs)/\kvs.length<128 /\
 (∀kx∈kvs,(∃ns:List Int,kx.1=ns.map Sum.inl)/\∃(q:Addr) (ms:List Int),kx.2=.ref q/\H q=some (.tup (ms.map V.int)))/\(kvs.map fun t=>kz t.1).Nodup /\
 ∀(D:Addr) (ys:List V) (kvs':List (List Key × V)) (H':Hp),kvs'.Perm kvs->(kvs'.map fun t=>kz t.1).Pairwise (fun a b=>HT.lexLt b a=false)->Same H H'->H' D=some (.lst ys)->PrL H' kvs' ys->Q (.ref D) H'
theorem call_sortR (hc:X.calm=true) (hu:X.A.units+64<cLine):CallR X (.builtin "sorted") rSortR:=by
 intro pins s σ H xs us Q I rr h
 obtain ⟨v,d,kvs,rfl,hv,hd,h64,hkx,hndk,q⟩:=h
 cases rr with
 | cons r1 rr =>
  cases rr
  cases r1
  have hh:X.A.handled=none:=I.ok.hd hc
  obtain ⟨hvw,_,_⟩:=(show ObjOk X.prog X.w H s.heap v (ViewO v d) from I.hok v _ hv)
  obtain ⟨_,_,xs,rel,o,es,ep,ho,hex,hdd,hes,_⟩:=(show ObjOk X.prog X.w H s.heap d (.dT kvs) from I.hok d _ hd)
  have hsz:es.size=kvs.length:=by rw[<- Array.length_toList,hes,List.length_map];exact (Paired.length rel).symm
  have hent:∀(j:Nat) (k:List Key) (x:V),kvs[j]?=some (k,x)->∃(ka:Addr) (en:DictEntry),es[j]?=some en/\en.key=.ref ka/\H ka=some (.tup (k.map kV))/\RelV x en.val:=fun j k x hj=>by
   obtain ⟨qq,hq,f1,f2,f3⟩:=Paired.get rel hj
   refine ⟨qq.2.1,entryOfKey (tupleKind (mixKind X.prog X.w)) qq,?_,rfl,f2,f3⟩
   rw[<- Array.getElem?_toList,hes,List.getElem?_map,hq];rfl
  have sl:sizeLine=sizeLine:=rfl
  refine Calls.call_function_entry kind_sorted plain_sorted entry_sorted (args_sorted1 _) ?_
  unfold Builtin.«sorted»
  refine wpAny_bind (m:=checkCount "sorted" 1 1 _) (wpAny_pure ?_)
  refine wpAny_bind (items_collect (A:=X.A.in1) hh ⟨_,hvw,rfl,rfl⟩ ho hdd (by rw[hsz,sizeLine_eq];omega) fun h' tk as hzz k1 hl hnd hab hG=>?_)
  have hl':as.length=kvs.length:=by rw[hl,hsz]
  refine wpAny_bind (wpAny_newList ?_ (by rw[List.length_map,hl',sizeLine_eq];omega))
  have hB:(h'.push (seqObj "list" (as.map Value.ref).toArray 0)).get? h'.objs.size=some (seqObj "list" (as.map Value.ref).toArray 0):=Heap.get?_push_size _ rfl
  have k2:∀b o,s.heap.get? b=some o->(h'.push (seqObj "list" (as.map Value.ref).toArray 0)).get? b=some o:=fun b o e=>Heap.get?_push_of_some _ (k1 b o e)
  have alt:∀a∈as,a<h'.objs.size:=fun a ha=>by
   obtain ⟨j,hj⟩:=List.mem_iff_getElem?.mp ha
   obtain ⟨en,_,e2⟩:=hG j a hj
   exact Heap.lt_size e2
  show wpAny _ _ _ _ _ { s with heap:=h'.push (seqObj "list" (as.map Value.ref).toArray 0),toks:=tk }
  have nB:∀b,b<h'.objs.size->b≠h'.objs.size:=fun b hb=>Nat.ne_of_lt hb
  refine wpAny_bind (wpAny_holding (wpAny_call_entry slot_list_sort ⟨_,hB,rfl⟩ entry_list_sort ?body (args_list_sort _)))
  have ent:∀(j:Nat) (a:Addr),as[j]?=some a->∃(en:DictEntry) (k:List Key) (x:V) (ka:Addr),es[j]?=some en/\kvs[j]?=some (k,x)/\h'.get? a=some { cls:=.type "tuple",data:=.seq #[en.key,en.val] }/\en.key=.ref ka/\H ka=some (.tup (k.map kV))/\RelV x en.val/\IntsAt s.heap en.key (kz k)/\IntT s.heap en.val:=fun j a ha=>by
   obtain ⟨en,e1,e2⟩:=hG j a ha
   have hj:j<kvs.length:=by rw[<- hl'];exact (List.getElem?_eq_some_iff.mp ha).1
   obtain ⟨ka,en',e3,e4,e5,e6⟩:=hent j (kvs[j]).1 (kvs[j]).2 (List.getElem?_eq_getElem hj)
   rw[e1] at e3
   cases e3
   obtain ⟨⟨ns,en1⟩,qa,ms,en2,hq⟩:=hkx kvs[j] (List.getElem_mem hj)
   refine ⟨en,_,_,ka,e1,List.getElem?_eq_getElem hj,e2,e4,e5,e6,?_,?_⟩
   ·rw[e4]
    rw[en1,kV_ints] at e5
    have en1':(kvs.get ⟨j,hj⟩).1=ns.map Sum.inl:=en1
    show IntsAt _ _ (kz (kvs.get ⟨j,hj⟩).1)
    rw[en1',kz_ints]
    exact intsAt_of I.hok e5
   ·rw[en2] at e6
    rw[show en.val=.ref qa from e6]
    exact intT_of I.hok hq
  have lt1:∀b o,s.heap.get? b=some o->b≠h'.objs.size:=fun b o e=>Nat.ne_of_lt (Nat.lt_trans (Heap.lt_size e) hzz)
  obtain ⟨ks,eks⟩:∃ks:List (List Int),ks=kvs.map fun t=>kz t.1:=⟨_,rfl⟩
  have rvE:∀(j:Nat) (a:Addr) (k:List Key) (x:V),as[j]?=some a->kvs[j]?=some (k,x)->rvO as kvs ks (.ref a)=(rankL ks (kz k):Int):=fun j a k x h1 h2=>by
   show ((as.zip kvs).lookup a).elim 0 (fun t=>(rankL ks (kz t.1):Int))=_
   rw[lookup_zip hnd h1 h2];rfl
  have ksM:∀(j:Nat) (k:List Key) (x:V),kvs[j]?=some (k,x)->kz k∈ks:=fun j k x h1=>by
   rw[eks]
   exact List.mem_map.mpr ⟨(k,x),List.mem_of_getElem? h1,rfl⟩
  refine So.sort_rawR (rv:=rvO as kvs ks) (s:={ s with heap:=h'.push (seqObj "list" (as.map Value.ref).toArray 0),toks:=tk }) (vs:=as.map Value.ref) hB (by rw[List.length_map,hl'];exact h64) (fun h2 h1 kp=>?_) (fun h5 vs' c' hp hup kp hB5=>?_)
  ·have k4:∀b o,s.heap.get? b=some o->h1.get? b=some o:=fun b o e=>kp b o (lt1 b o e) (k2 b o e)
   have ent1:∀(j:Nat) (a:Addr),as[j]?=some a->∃(en:DictEntry) (k:List Key) (x:V),es[j]?=some en/\kvs[j]?=some (k,x)/\h1.get? a=some { cls:=.type "tuple",data:=.seq #[en.key,en.val] }/\IntsAt h1 en.key (kz k)/\IntT h1 en.val:=fun j a ha=>by
    obtain ⟨en,k,x,ka,e1,e1',e2,_,_,_,t1,t2⟩:=ent j a ha
    exact ⟨en,k,x,e1,e1',kp _ _ (nB a (alt a (List.mem_of_getElem? ha))) (Heap.get?_push_of_some _ e2),t1.keep fun b o _ q=>k4 b o q,t2.keep fun b o _ q=>k4 b o q⟩
   have hlen:as.length=(es.toList.map DictEntry.key).length:=by rw[hl,List.length_map,Array.length_toList]
   rw[List.length_map] at h2
   refine W.kat_kind (T:=.type "tuple") (katTups_of (fs:=es.toList.map DictEntry.key) (fun j a ha=>?_) hlen) (by rw[<- hlen];omega) (fun f hf=>?_) (by decide) ⟨rfl,fun x y hx hy Q hQ=>?_⟩
   ·obtain ⟨en,k,x,e1,_,e2,_,_⟩:=ent1 j a ha
    exact ⟨en.key,en.val,by rw[List.getElem?_map,Array.getElem?_toList,e1];rfl,e2⟩
   ·obtain ⟨j,hj⟩:=List.mem_iff_getElem?.mp hf
    rw[List.getElem?_map,Array.getElem?_toList] at hj
    obtain ⟨en,e1,e2⟩:=Option.map_eq_some_iff.mp hj
    have hjl:j<as.length:=by rw[hl];exact (Array.getElem?_eq_some_iff.mp e1).1
    obtain ⟨en',k',x',e3,_,_,t1,_⟩:=ent1 j as[j] (List.getElem?_eq_getElem hjl)
    rw[e1] at e3
    cases e3
    rw[<- e2]
    obtain ⟨b,us,eb,⟨ob,hob,hcb,_⟩,_⟩:=t1
    rw[eb]
    exact W.kitAt_ty _ _ ⟨ob,hob,hcb⟩
   ·obtain ⟨x1,x2⟩:=x
    obtain ⟨y1,y2⟩:=y
    dsimp only at hx hy hQ ⊢
    obtain ⟨ax,hax,rfl⟩:=List.mem_map.mp hx
    obtain ⟨ay,hay,rfl⟩:=List.mem_map.mp hy
    obtain ⟨i,hi⟩:=List.mem_iff_getElem?.mp hax
    obtain ⟨j,hj⟩:=List.mem_iff_getElem?.mp hay
    obtain ⟨en1,k1',z1,f1,g1,e2,t1,t2⟩:=ent1 i ax hi
    obtain ⟨en2,k2',z2,f2,g2,e3,t3,t4⟩:=ent1 j ay hj
    have eR:decide (rvO as kvs ks (.ref ax)<rvO as kvs ks (.ref ay))=HT.lexLt (kz k1') (kz k2'):=by
     rw[<- rank_iff (ksM i k1' z1 g1) (ksM j k2' z2 g2)]
     simp only[rvE i ax k1' z1 hi g1,rvE j ay k2' z2 hj g2]
    replace hQ:Q (decide (rvO as kvs ks (.ref ax)<rvO as kvs ks (.ref ay))) _:=hQ
    rw[eR] at hQ
    refine pair_ltE e2 rfl e3 rfl t1 t3 (fun e=>?_) (by show X.A.units+1+1<cLine;omega) hQ
    have hij:i=j:=by
     have hi':=(List.getElem?_eq_some_iff.mp g1).1
     have hj':=(List.getElem?_eq_some_iff.mp g2).1
     refine (List.getElem_inj (h₀:=by rw[List.length_map];exact hi') (h₁:=by rw[List.length_map];exact hj') hndk).mp ?_
     rw[List.getElem_map,List.getElem_map]
     have q1:=(List.getElem?_eq_some_iff.mp g1).2
     have q2:=(List.getElem?_eq_some_iff.mp g2).2
     rw[q1,q2]
     exact e
    subst hij
    rw[f1] at f2
    cases f2
    exact ⟨rfl,rfl⟩
  ·refine ⟨_,rfl,wpAny_pure ⟨_,rfl,?_⟩⟩
   have eL:as.map Value.ref=(as.zip kvs).map fun t=>Value.ref t.1:=by
    have:(as.zip kvs).map (fun t=>Value.ref t.1)=((as.zip kvs).map Prod.fst).map Value.ref:=by rw[List.map_map];rfl
    rw[this,List.map_fst_zip (by omega)]
   rw[eL] at hp
   obtain ⟨L',hL,eL'⟩:=perm_map_inv hp
   have k5:∀b o,s.heap.get? b=some o->h5.get? b=some o:=fun b o e=>kp b o (lt1 b o e) (k2 b o e)
   have mem:∀t∈L',∃j:Nat,as[j]?=some t.1/\kvs[j]?=some t.2:=fun t ht=>by
    have h1:=hL.mem_iff.mp ht
    obtain ⟨j,hj⟩:=List.mem_iff_getElem?.mp h1
    rw[List.getElem?_zip_eq_some] at hj
    exact ⟨j,hj.1,hj.2⟩
   obtain ⟨objs,eo⟩:∃objs:List HO,objs=(es.toList.zip kvs).map fun t=>HO.tup [.ref (match t.1.key with | .ref a=>a|_=>0),t.2.2]:=⟨_,rfl⟩
   have oget:∀(j:Nat) (en:DictEntry) (k:List Key) (x:V) (ka:Addr),es[j]?=some en->kvs[j]?=some (k,x)->en.key=.ref ka->objs[j]?=some (.tup [.ref ka,x]):=fun j en k x ka h1 h2 h3=>by
    have hz:(es.toList.zip kvs)[j]?=some (en,(k,x)):=List.getElem?_zip_eq_some.mpr ⟨by rw[Array.getElem?_toList];exact h1,h2⟩
    rw[eo,List.getElem?_map,hz]
    show some (HO.tup [.ref (match en.key with | .ref a=>a|_=>0),x])=_
    rw[h3]
   have J:=I.lays (N:=fun b=>if b=h'.objs.size then some (.lst (L'.map fun t=>V.ref t.1)) else (as.zip objs).lookup b) (h':=h5) (t':=tk) k5 (fun b o hb e=>?_)
   ·refine ⟨.ref h'.objs.size,_,J,rfl,q _ _ _ _ ?_ ?_ (fun b o e=>?_) ?_ (PrL.mk (L:=L') fun t ht=>?_)⟩
    ·have:=hL.map Prod.snd
     rw[List.map_snd_zip (by omega)] at this
     exact this
    ·rw[List.map_map,List.pairwise_map]
     rw[eL',List.pairwise_map] at hup
     refine List.Pairwise.imp_of_mem ?_ hup
     intro t u ht hu' hle
     obtain ⟨i,hi1,hi2⟩:=mem t ht
     obtain ⟨j,hj1,hj2⟩:=mem u hu'
     rw[rvE i t.1 t.2.1 t.2.2 hi1 hi2,rvE j u.1 u.2.1 u.2.2 hj1 hj2] at hle
     have:=rank_iff (ksM j u.2.1 u.2.2 hj2) (ksM i t.2.1 t.2.2 hi2)
     rw[decide_eq_false (by omega)] at this
     exact this.symm
    ·show (if b<s.heap.objs.size then H b else _)=some o
     rw[if_pos (I.hok.lt e)];exact e
    ·show (if h'.objs.size<s.heap.objs.size then H h'.objs.size else (if h'.objs.size=h'.objs.size then _ else _))=_
     rw[if_neg (Nat.not_lt_of_le (Nat.le_of_lt hzz)),if_pos rfl]
    ·obtain ⟨j,h1,h2⟩:=mem t ht
     obtain ⟨en,k,x,ka,e1,e2,_,e4,e5,_⟩:=ent j t.1 h1
     rw[h2] at e2
     have ht2:t.2=(k,x):=Option.some.inj e2
     have hm:=List.mem_of_getElem? h1
     refine ⟨ka,?_,?_⟩
     ·show (if t.1<s.heap.objs.size then H t.1 else (if t.1=h'.objs.size then _ else (as.zip objs).lookup t.1))=_
      rw[if_neg (Nat.not_lt_of_le (hab _ hm)),if_neg (nB _ (alt _ hm)),ht2]
      exact lookup_zip hnd h1 (oget j en k x ka e1 (by rw[h2,ht2]) e4)
     ·show (if ka<s.heap.objs.size then H ka else _)=_
      rw[if_pos (I.hok.lt e5),ht2];exact e5
   ·by_cases hbB:b=h'.objs.size
    ·rw[if_pos hbB] at e
     cases e
     have hv':∀L:List (Addr × (List Key × V)),Vals (L.map fun t=>V.ref t.1) (L.map fun t=>Value.ref t.1):=fun L=>by
      induction L with
      | nil=>exact .nil
      | cons t L ih=>exact .cons rfl ih
     refine ⟨?_,L'.map (fun t=>Value.ref t.1),c',hv' L',?_⟩
     ·rw[List.length_map,hL.length_eq,List.length_zip,sizeLine_eq];omega
     ·rw[hbB,hB5,eL']
    ·rw[if_neg hbB] at e
     obtain ⟨j,h1,h2⟩:=lookup_mem e
     obtain ⟨en,k,x,ka,e1,e2,e3,e4,e5,e6,_⟩:=ent j b h1
     rw[oget j en k x ka e1 e2 e4] at h2
     cases h2
     refine ⟨by show 2<=sizeLine;decide,[en.key,en.val],.cons ?_ (.cons e6 .nil),⟨_,kp _ _ hbB (Heap.get?_push_of_some _ e3),rfl,_,rfl⟩⟩
     exact e4
end
end L2
namespace L2
open PySem PySem.Spec PyProof.Rows HT
section
variable {X:Cx}{H:Hp}
theorem refs_vals:∀{as:List Addr}{its:List Value},Vals (as.map V.ref) its->its=as.map Value.ref
 | [],its,r=>by cases r;rfl
 | a::as,its,r=>by
  cases r with
  | cons r1 rr =>
   cases r1
   rw[refs_vals rr];rfl
theorem prl_refs {H:Hp}:∀{kvs:List (List Key × V)}{ys:List V},PrL H kvs ys->∃as:List Addr,ys=as.map V.ref
 | [],[],_=>⟨[],rfl⟩
 | (k,x)::kvs,y::ys,h=>by
  obtain ⟨p,ka,e,_⟩:=h.1
  obtain ⟨as,e2⟩:=prl_refs h.2
  exact ⟨p::as,by rw[e,e2];rfl⟩
 | [],_::_,h=>h.elim
 | _::_,[],h=>h.elim
noncomputable def firstV (h:Heap) (a:Addr):Value:=match h.get? a with
 | some o=>(match o.data with | .seq xs _=>xs.getD 0 .none|_=>.none)
 | none=>.none
theorem firstV_eq {h:Heap}{a:Addr}{o:Obj}{f g:Value}{n:Nat} (e:h.get? a=some o) (d:o.data=.seq #[f,g] n):firstV h a=f:=by
 unfold firstV
 rw[e]
 dsimp only
 rw[d];rfl
theorem katTupsF {h:Heap}:∀{as:List Addr},(∀(j:Nat) (a:Addr),as[j]?=some a->∃(o:Obj) (f g:Value) (n:Nat),h.get? a=some o/\o.cls=.type "tuple"/\o.data=.seq #[f,g] n)->W.KatTups h (as.map Value.ref) (as.map (firstV h))
 | [],_=>W.KatTups.nil
 | a::as,hh=>by
  obtain ⟨o,f,g,n,e1,e2,e3⟩:=hh 0 a rfl
  exact W.KatTups.cons e1 e2 e3 (by rw[firstV_eq e1 e3];rfl) (katTupsF fun j b hb=>hh (j+1) b (by simpa using hb))
noncomputable def rSortP (K:W.Frag):List V->Hp->VK->Prop:=fun xs H Q=>∃(p:Addr) (ys:List V) (kvs:List (List Key × V)),xs=[.ref p]/\SqL K H p ys/\PrL H kvs ys/\kvs.length<128 /\
 (∀kx∈kvs,∃ns:List Int,kx.1=ns.map Sum.inl)/\(kvs.map fun t=>kz t.1).Nodup /\
 ∀(D:Addr) (ys':List V) (kvs':List (List Key × V)) (H':Hp),kvs'.Perm kvs->(kvs'.map fun t=>kz t.1).Pairwise (fun a b=>HT.lexLt b a=false)->Same H H'->H' D=some (.lst ys')->PrL H' kvs' ys'->Q (.ref D) H'
theorem call_sortP (hu:X.A.units+64<cLine):CallR X (.builtin "sorted") (rSortP X.K):=by
 intro pins s σ H xs us Q I rr h
 obtain ⟨p,ys,kvs,rfl,hp,hPr,h128,hkx,hndk,q⟩:=h
 cases rr with
 | cons r1 rr =>
  cases rr
  cases r1
  obtain ⟨as,rfl⟩:=prl_refs hPr
  obtain ⟨its,rv',hl,hz⟩:=I.list hp
  have eits:=refs_vals rv'
  subst eits
  have hl':as.length=kvs.length:=by have:=hPr.len;rw[List.length_map] at this;exact this.symm
  have ent:∀(j:Nat) (a:Addr),as[j]?=some a->∃(k:List Key) (x:V) (ka:Addr),kvs[j]?=some (k,x)/\H a=some (.tup [.ref ka,x])/\H ka=some (.tup ((kz k).map V.int))/\H ka=some (.tup (k.map kV)):=fun j a ha=>by
   obtain ⟨k,x,p',ka,e1,e2,e3,e4⟩:=hPr.get (i:=j) (y:=.ref a) (by rw[List.getElem?_map,ha];rfl)
   cases e2
   obtain ⟨ns,en⟩:=hkx (k,x) (List.mem_of_getElem? e1)
   have en':k=ns.map Sum.inl:=en
   refine ⟨k,x,ka,e1,e3,?_,e4⟩
   rw[en',kz_ints]
   rw[en',kV_ints] at e4
   exact e4
  have hnd:as.Nodup:=by
   refine List.pairwise_iff_getElem.mpr fun i j hi hj hij he=>?_
   obtain ⟨a,ha⟩:∃a,as[j]?=some a:=⟨as[j],List.getElem?_eq_getElem hj⟩
   obtain ⟨k1,x1,ka1,e1,e2,e3,_⟩:=ent i a (by rw[<- ha,List.getElem?_eq_getElem hi,List.getElem?_eq_getElem hj,he])
   obtain ⟨k2,x2,ka2,f1,f2,f3,_⟩:=ent j a ha
   rw[e2] at f2
   cases f2
   rw[e3] at f3
   injection f3 with f3
   injection f3 with f3
   have ek:kz k1=kz k2:=(List.map_inj_right fun x y e=>by injection e).mp f3
   have hi':=(List.getElem?_eq_some_iff.mp e1).1
   have hj':=(List.getElem?_eq_some_iff.mp f1).1
   have:i=j:=by
    refine (List.getElem_inj (h₀:=by rw[List.length_map];exact hi') (h₁:=by rw[List.length_map];exact hj') hndk).mp ?_
    rw[List.getElem_map,List.getElem_map,(List.getElem?_eq_some_iff.mp e1).2,(List.getElem?_eq_some_iff.mp f1).2]
    exact ek
   omega
  refine Calls.call_function_entry kind_sorted plain_sorted entry_sorted (args_sorted1 _) ?_
  unfold Builtin.«sorted»
  refine wpAny_bind (m:=checkCount "sorted" 1 1 _) (wpAny_pure ?_)
  refine wpAny_bind (collect_list hl.isList ?_ (by rw[List.length_map,sizeLine_eq];omega))
  refine wpAny_bind (wpAny_newList ?_ (by rw[List.length_map,sizeLine_eq];omega))
  obtain ⟨h',eh'⟩:∃h',h'=(s.heap.push (seqObj "list" #[] 0)).update s.heap.objs.size (Obj.mapSeq (·++(as.map Value.ref).toArray)):=⟨_,rfl⟩
  rw[<- eh']
  have hsz:h'.objs.size=s.heap.objs.size+1:=by rw[eh',Heap.size_update,size_push']
  have k1:∀b o,s.heap.get? b=some o->h'.get? b=some o:=fun b o q=>by
   have hlt:b<s.heap.objs.size:=Heap.lt_size q
   rw[eh',Heap.get?_update_ne _ _ _ _ (Nat.ne_of_lt hlt),Heap.get?_push_ne _ _ _ (Nat.ne_of_lt hlt)]
   exact q
  have hB:(h'.push (seqObj "list" (as.map Value.ref).toArray 0)).get? h'.objs.size=some (seqObj "list" (as.map Value.ref).toArray 0):=Heap.get?_push_size _ rfl
  have k2:∀b o,s.heap.get? b=some o->(h'.push (seqObj "list" (as.map Value.ref).toArray 0)).get? b=some o:=fun b o e=>Heap.get?_push_of_some _ (k1 b o e)
  have lt1:∀b o,s.heap.get? b=some o->b≠h'.objs.size:=fun b o e=>by
   have:=Heap.lt_size e
   rw[hsz]
   exact Nat.ne_of_lt (Nat.lt_succ_of_lt this)
  show wpAny _ _ _ _ _ { s with heap:=h'.push (seqObj "list" (as.map Value.ref).toArray 0) }
  refine wpAny_bind (wpAny_holding (wpAny_call_entry slot_list_sort ⟨_,hB,rfl⟩ entry_list_sort ?body (args_list_sort _)))
  obtain ⟨ks,eks⟩:∃ks:List (List Int),ks=kvs.map fun t=>kz t.1:=⟨_,rfl⟩
  have rvE:∀(j:Nat) (a:Addr) (k:List Key) (x:V),as[j]?=some a->kvs[j]?=some (k,x)->rvO as kvs ks (.ref a)=(rankL ks (kz k):Int):=fun j a k x h1 h2=>by
   show ((as.zip kvs).lookup a).elim 0 (fun t=>(rankL ks (kz t.1):Int))=_
   rw[lookup_zip hnd h1 h2];rfl
  have ksM:∀(j:Nat) (k:List Key) (x:V),kvs[j]?=some (k,x)->kz k∈ks:=fun j k x h1=>by
   rw[eks]
   exact List.mem_map.mpr ⟨(k,x),List.mem_of_getElem? h1,rfl⟩
  have obj:∀(j:Nat) (a:Addr),as[j]?=some a->∃(k:List Key) (x:V) (f g:Value) (o:Obj) (n:Nat),kvs[j]?=some (k,x)/\s.heap.get? a=some o/\o.cls=.type "tuple"/\o.data=.seq #[f,g] n/\IntsAt s.heap f (kz k):=fun j a ha=>by
   obtain ⟨k,x,ka,e1,e2,e3,_⟩:=ent j a ha
   obtain ⟨_,vs2,r2,o,ho,hc,n,hd⟩:=(show ObjOk X.prog X.w H s.heap a (.tup [.ref ka,x]) from I.hok a _ e2)
   cases r2 with
   | cons r21 r22 =>
    cases r22 with
    | cons r23 r24 =>
     cases r24
     cases r21
     exact ⟨k,x,_,_,o,n,e1,ho,hc,hd,intsAt_of I.hok e3⟩
  refine So.sort_rawR (rv:=rvO as kvs ks) (s:={ s with heap:=h'.push (seqObj "list" (as.map Value.ref).toArray 0) }) (vs:=as.map Value.ref) hB (by rw[List.length_map,hl'];exact h128) (fun h2 h1 kp=>?_) (fun h5 vs' c' hpm hup kp hB5=>?_)
  ·have k4:∀b o,s.heap.get? b=some o->h1.get? b=some o:=fun b o e=>kp b o (lt1 b o e) (k2 b o e)
   have obj1:∀(j:Nat) (a:Addr),as[j]?=some a->∃(k:List Key) (x:V) (f g:Value) (o:Obj) (n:Nat),kvs[j]?=some (k,x)/\s.heap.get? a=some o/\h1.get? a=some o/\o.cls=.type "tuple"/\o.data=.seq #[f,g] n/\IntsAt h1 f (kz k):=fun j a ha=>by
    obtain ⟨k,x,f,g,o,n,e1,e2,e3,e4,e5⟩:=obj j a ha
    exact ⟨k,x,f,g,o,n,e1,e2,k4 _ _ e2,e3,e4,e5.keep fun b o _ q=>k4 b o q⟩
   rw[List.length_map] at h2
   refine W.kat_kind (T:=.type "tuple") (katTupsF (as:=as) fun j a ha=>?_) (by rw[List.length_map];omega) (fun f hf=>?_) (by decide) ⟨rfl,fun x y hx hy Q hQ=>?_⟩
   ·obtain ⟨k,x,f,g,o,n,_,_,e2,e3,e4,_⟩:=obj1 j a ha
    exact ⟨o,f,g,n,e2,e3,e4⟩
   ·obtain ⟨a,ha,rfl⟩:=List.mem_map.mp hf
    obtain ⟨j,hj⟩:=List.mem_iff_getElem?.mp ha
    obtain ⟨k,x,f,g,o,n,_,_,e2,e3,e4,t1⟩:=obj1 j a hj
    rw[firstV_eq e2 e4]
    obtain ⟨b,us,eb,⟨ob,hob,hcb,_⟩,_⟩:=t1
    rw[eb]
    exact W.kitAt_ty _ _ ⟨ob,hob,hcb⟩
   ·obtain ⟨x1,x2⟩:=x
    obtain ⟨y1,y2⟩:=y
    dsimp only at hx hy hQ ⊢
    obtain ⟨ax,hax,rfl⟩:=List.mem_map.mp hx
    obtain ⟨ay,hay,rfl⟩:=List.mem_map.mp hy
    obtain ⟨i,hi⟩:=List.mem_iff_getElem?.mp hax
    obtain ⟨j,hj⟩:=List.mem_iff_getElem?.mp hay
    obtain ⟨k1',z1,f1,g1,o1,n1,g1',g1'',e2,_,e2d,t1⟩:=obj1 i ax hi
    obtain ⟨k2',z2,f2,g2,o2,n2,g2',g2'',e3,_,e3d,t3⟩:=obj1 j ay hj
    have eR:decide (rvO as kvs ks (.ref ax)<rvO as kvs ks (.ref ay))=HT.lexLt (kz k1') (kz k2'):=by
     rw[<- rank_iff (ksM i k1' z1 g1') (ksM j k2' z2 g2')]
     simp only[rvE i ax k1' z1 hi g1',rvE j ay k2' z2 hj g2']
    replace hQ:Q (decide (rvO as kvs ks (.ref ax)<rvO as kvs ks (.ref ay))) _:=hQ
    rw[eR] at hQ
    refine pair_ltE e2 e2d e3 e3d t1 t3 (fun e=>?_) (by show X.A.units+1+1<cLine;omega) hQ
    have hij:i=j:=by
     have hi':=(List.getElem?_eq_some_iff.mp g1').1
     have hj':=(List.getElem?_eq_some_iff.mp g2').1
     refine (List.getElem_inj (h₀:=by rw[List.length_map];exact hi') (h₁:=by rw[List.length_map];exact hj') hndk).mp ?_
     rw[List.getElem_map,List.getElem_map]
     rw[(List.getElem?_eq_some_iff.mp g1').2,(List.getElem?_eq_some_iff.mp g2').2]
     exact e
    subst hij
    rw[hi] at hj
    cases hj
    rw[e2] at e3
    cases e3
    rw[e2d] at e3d
    injection e3d with q1 _
    have q2:[f1,g1]=[f2,g2]:=by simpa using q1
    injection q2 with q3 q4
    injection q4 with q5 _
    exact ⟨q3,q5⟩
  ·refine ⟨_,rfl,wpAny_pure ⟨_,rfl,?_⟩⟩
   have eL:as.map Value.ref=(as.zip kvs).map fun t=>Value.ref t.1:=by
    have:(as.zip kvs).map (fun t=>Value.ref t.1)=((as.zip kvs).map Prod.fst).map Value.ref:=by rw[List.map_map];rfl
    rw[this,List.map_fst_zip (by omega)]
   rw[eL] at hpm
   obtain ⟨L',hL,eL'⟩:=perm_map_inv hpm
   have k5:∀b o,s.heap.get? b=some o->h5.get? b=some o:=fun b o e=>kp b o (lt1 b o e) (k2 b o e)
   have mem:∀t∈L',∃j:Nat,as[j]?=some t.1/\kvs[j]?=some t.2:=fun t ht=>by
    have h1:=hL.mem_iff.mp ht
    obtain ⟨j,hj⟩:=List.mem_iff_getElem?.mp h1
    rw[List.getElem?_zip_eq_some] at hj
    exact ⟨j,hj.1,hj.2⟩
   have J:=I.lays (N:=fun b=>if b=h'.objs.size then some (.lst (L'.map fun t=>V.ref t.1)) else none) (h':=h5) (t':=s.toks) k5 (fun b o hb e=>?_)
   ·refine ⟨.ref h'.objs.size,_,J,rfl,q _ _ _ _ ?_ ?_ (fun b o e=>?_) ?_ (PrL.mk (L:=L') fun t ht=>?_)⟩
    ·have:=hL.map Prod.snd
     rw[List.map_snd_zip (by omega)] at this
     exact this
    ·rw[List.map_map,List.pairwise_map]
     rw[eL',List.pairwise_map] at hup
     refine List.Pairwise.imp_of_mem ?_ hup
     intro t u ht hu' hle
     obtain ⟨i,hi1,hi2⟩:=mem t ht
     obtain ⟨j,hj1,hj2⟩:=mem u hu'
     rw[rvE i t.1 t.2.1 t.2.2 hi1 hi2,rvE j u.1 u.2.1 u.2.2 hj1 hj2] at hle
     have:=rank_iff (ksM j u.2.1 u.2.2 hj2) (ksM i t.2.1 t.2.2 hi2)
     rw[decide_eq_false (by omega)] at this
     exact this.symm
    ·show (if b<s.heap.objs.size then H b else _)=some o
     rw[if_pos (I.hok.lt e)];exact e
    ·show (if h'.objs.size<s.heap.objs.size then H h'.objs.size else (if h'.objs.size=h'.objs.size then _ else _))=_
     rw[if_neg (by rw[hsz];exact Nat.not_lt_of_le (Nat.le_succ _)),if_pos rfl]
    ·obtain ⟨j,h1,h2⟩:=mem t ht
     obtain ⟨k,x,ka,e1,e2,e3,e4⟩:=ent j t.1 h1
     rw[h2] at e1
     have ht2:t.2=(k,x):=Option.some.inj e1
     refine ⟨ka,?_,?_⟩
     ·show (if t.1<s.heap.objs.size then H t.1 else _)=_
      rw[if_pos (I.hok.lt e2),ht2];exact e2
     ·show (if ka<s.heap.objs.size then H ka else _)=_
      rw[if_pos (I.hok.lt e4),ht2];exact e4
   ·by_cases hbB:b=h'.objs.size
    ·rw[if_pos hbB] at e
     cases e
     have hv':∀L:List (Addr × (List Key × V)),Vals (L.map fun t=>V.ref t.1) (L.map fun t=>Value.ref t.1):=fun L=>by
      induction L with
      | nil=>exact .nil
      | cons t L ih=>exact .cons rfl ih
     refine ⟨?_,L'.map (fun t=>Value.ref t.1),c',hv' L',?_⟩
     ·rw[List.length_map,hL.length_eq,List.length_zip,sizeLine_eq];omega
     ·rw[hbB,hB5,eL']
    ·rw[if_neg hbB] at e
     cases e
end
end L2
namespace G
open PySem PySem.Spec PyProof.Rows L2 Mt Md Mq
theorem boot_sorted:bootBuiltins "sorted"=some (Value.builtin "sorted"):=by decide +kernel
structure AskS (st:Addr) (H:Hp) (n:Nat) (ns:List Int) (rs:List (List Int)) (k:Nat) (a:Addr) (v:V):Prop where
 u:Dt st H (DI ns) (.ref a)
 uu:Mt.Urn n 20 ns
 r:Dt st H (DR rs) v
 ru:Mt.Rul n 5 rs
 n1:1<=n
 n4:n<=4
 k6:k<=6
 l64:(chQ rs k [(ns,1)]).length<128
theorem qe_kz {H:Hp}:∀{T:TabQ}{kvs:List (List Key × V)},QE H T kvs->(kvs.map fun t=>kz t.1)=T.map (·.1)
 | [],[],_=>rfl
 | p::T,kv::kvs,h=>by
  obtain ⟨kk,x⟩:=kv
  have a:kk=Md.kI p.1:=h.1
  rw[List.map_cons,List.map_cons,qe_kz h.2.2]
  congr 1
  show kz kk=p.1
  rw[a]
  exact kz_ints p.1
 | [],_::_,h=>h.elim
 | _::_,[],h=>h.elim
section
variable {P:Program}{w:World}{K:W.Frag}{mg:Str->Option Value}{base:Heap}{f:Addr}{fd:FuncData}{ec:Nat->Addr}{Bs:Addr}
noncomputable def sp_stV:Sp:=fun vs H Q _=>∃(st a:Addr) (v:V) (n k:Nat) (ns:List Int) (rs:List (List Int)),vs=[.ref a,v,.int k]/\AskS st H n ns rs k a v /\
 ∀D ys T' H',Same H H'->T'.Perm (chQ rs k [(ns,1)])->(T'.map (·.1)).Pairwise (fun a b=>HT.lexLt b a=false)->H' D=some (.lst ys)->BQ H' T' ys->Q (.ref D) H'
noncomputable def sp_st (ec:Nat->Addr):Sp:=fun vs H Q E=>False ∨ sp_stV vs H Q E
noncomputable abbrev s_st:Stmt:=top 40
theorem sc_st:FnScope ["urn","rule","draws","chances","turn"] ["urn","rule","draws"] (defScope s_st):=⟨rfl,rfl,rfl,by decide +kernel,rfl,by decide +kernel,by decide +kernel⟩
theorem ok_st (F:Fun K "stands" "stands" s_st f fd) (B:Bt mg) (B3:Bt3 mg) (C2:Ct2 mg) (c1:CalX P w K mg base 6 "need_urn_and_rule" ["urn","rule"] (sp_nur ec)) (c2:CalX P w K mg base 2 "need_number" ["thing","low","high"] (sp_need_number ec)) (c3:Cal P w K mg base 1 "own_urn" ["urn"] sp_own_urn) (c4:Cal P w K mg base 4 "next_chances" ["chances","rule"] sp_nextc):FnOk P w K mg base (CX1 P w) 7 f fd ["urn","rule","draws"] (sp_st ec):=by
 refine F.okX sc_st (fun vs H Q E h=>?_) (fun cdv A outer s H vs Q E hr h=>?_)
 ·rcases h with h|⟨st,a,v,n,k,ns,rs,rfl,_⟩
  ·exact h.elim
  ·rfl
 obtain ⟨tw,hW⟩:=C2.stand
 refine ⟨_,pss_cons (ps_expr (pe_calx c1 hr rfl passes1 (pa_cons (pv 0) (pa_cons (pv 1) pa_nil)))) (pss_cons (ps_expr (pe_calx (c2.up (by decide)) hr rfl passes1 (pa_cons (pv 2) (pa_cons pe_int (pa_cons (pe_glob (v:=.int 6) rfl hW ⟨tw,rfl⟩) pa_nil)))))
  (PSs.nox (pss_cons (ps_set (i:=3) sc_st.nd rfl (Or.inl rfl) (pe_dT1 (hu_of hr) (pe_cal (c3.up (by decide)) hr rfl (pa_cons (pv 0) pa_nil)) (pe_tup (pa_cons pe_int (pa_cons pe_int pa_nil)))))
  (pss_cons (ps_for PassesOwn.never rfl (pi_range1 rfl B.range (pa_cons (pv 2) pa_nil)) (pg_name (i:=4) sc_st.nd rfl (Or.inl rfl))
   (pss_one (ps_set (i:=3) sc_st.nd rfl (Or.inl rfl) (pe_cal (c4.up (by decide)) hr rfl (pa_cons (pv 3) (pa_cons (pv 1) pa_nil))))))
  (pss_one (ps_ret (pe_callB (call_sortR rfl hr.units) rfl B3.sorted boot_sorted (pa_cons (pe_items (pv 3)) pa_nil)))))))),?_⟩
 rcases h with h|⟨st,a,v,n,k,ns,rs,rfl,hA,q⟩
 ·exact h.elim
 ·have hU:=hA.uu
  have hR:=hA.ru
  have n1:=hA.n1
  have n4:=hA.n4
  have k6:=hA.k6
  obtain ⟨a',e,_,ha⟩:=hA.u.di
  cases e
  have uok:=urnD_of hU n1 n4
  have rok:ruleD (lenD (DI ns):Int) (DR rs)=true:=by rw[lenD_DI,hU.len];exact ruleD_of hR
  have hlen:=hR.len
  refine ⟨_,rfl,_,rfl,_,_,st,DI ns,DR rs,rfl,hA.u,short_DI (by rw[hU.len];omega),hA.r,⟨short_DR (by omega),shorts_DR hR (by omega)⟩,(fun z=>by rw[uok] at z;cases z),(fun _ z=>by rw[rok] at z;cases z),fun _ _ H1 g1=>?_⟩
  have hwk:wholeD 0 6 (.int (k:Int))=true:=by
   show (decide ((0:Int)<=(k:Int))&&decide ((k:Int)<=6))=true
   rw[decide_eq_true (by omega),decide_eq_true (by omega)];rfl
  refine ⟨_,rfl,_,st,.int k,0,6,rfl,Dt.int _ _ _,sm_0,sm_6,(fun _=>?_),(fun z=>by rw[hwk] at z;cases z)⟩
  intro p hp
  have g2:Same H1 (upd H1 p (.dT [])):=Same.new hp
  have hp2:upd H1 p (.dT []) p=some (.dT []):=upd_same
  have hHp:H p=none:=g1.free hp
  generalize upd H1 p (.dT [])=H2 at g2 hp2
  refine ⟨_,rfl,a,_,rfl,g2 _ _ (g1 _ _ ha),fun b H3 g3 hb=>⟨(by show 2<=sizeLine;decide),fun c hc=>?_⟩⟩
  have g4:Same H3 (upd H3 c (.tup [.int 1,.int 1])):=Same.new hc
  have hc4:upd H3 c (.tup [.int 1,.int 1]) c=some (.tup [.int 1,.int 1]):=upd_same
  try dsimp -proj only
  generalize upd H3 c (.tup [.int 1,.int 1])=H4 at g4 hc4
  have hp4:=g4 _ _ (g3 _ _ hp2)
  have hb4:=g4 _ _ hb
  have gg:Same H H4:=((g1.trans g2).trans g3).trans g4
  refine ⟨hp4,b,kI ns,rfl,by rw[kI_kV];exact hb4,?_⟩
  have ndt:∀(ps:List (List Key × V)) xs,HO.dT ps≠.tup xs:=fun _ _ z=>by cases z
  have wo:=fun j hj=>ch_ok hR n4 hU j hj
  refine ⟨_,rfl,(k:Int),rfl,by omega,by omega,?_⟩
  refine for_range (lo:=0) (n:=k) (fun j σ H3=>Same H H3/\j<=k/\∃p kvs o5,H p=none/\H3 p=some (.dT kvs)/\QE H3 (chQ rs j [(ns,1)]) kvs/\σ=[some (.ref a),some v,some (.int k),some (.ref p),o5])
   ⟨fun c o e=>by rw[upd_ne (ne_of_none e hHp)];exact gg _ _ e,Nat.zero_le _,p,_,none,hHp,upd_same,⟨rfl,⟨c,rfl,kp_tup hp4 (ndt _) Kp.at _ _ hc4⟩,trivial⟩,rfl⟩ (fun j σ H3 hj h=>?_) (fun σ H3 h=>?_)
  ·obtain ⟨g3,hjk,p,kvs,o5,hpn,hp3,hq3,rfl⟩:=h
   obtain ⟨w1,w2,w3,w4⟩:=wo j (by omega)
   have hl:(chQ rs j [(ns,1)]).length<=1024:=Nat.le_trans w4 (Nat.pow_le_pow_right (n:=4) (by decide) (show j<=5 by omega))
   have hj5:j<=5:=by omega
   have e1:LL ^ j<=2 ^ 1600:=Nat.le_trans (LL_pow j) (Nat.pow_le_pow_right (by decide) (by omega))
   have e2:4 ^ (j*j)<=2 ^ 60:=by
    have:j*j<=5*5:=Nat.mul_le_mul hj5 hj5
    exact Nat.le_trans (Nat.pow_le_pow_right (by decide) this) (by decide)
   refine ⟨_,rfl,_,rfl,p,st,v,n,20+5*j,LL ^ j,4 ^ (j*j),_,kvs,rs,rfl,hp3,hq3,w1,by omega,hl,w3,LLp_pos j,e1,e2,hA.r.kp (g3.kp st),hR,n4,fun p' kvs' H4 k4 hp' h4 hq4=>?_⟩
   have g4:Same H H4:=fun c o e=>k4 _ _ (ne_of_none e hpn) (g3 _ _ e)
   exact ⟨g4,by omega,p',kvs',_,g3.free hp',h4,hq4,rfl⟩
  ·obtain ⟨g3,_,p,kvs,o5,hpn,hp3,hq3,rfl⟩:=h
   refine ⟨_,rfl,p,kvs,rfl,hp3,fun z hz=>?_⟩
   have g4:Same H3 (upd H3 z (ViewO z p)):=Same.new hz
   have hz4:upd H3 z (ViewO z p) z=some (ViewO z p):=upd_same
   generalize upd H3 z (ViewO z p)=H4 at g4 hz4
   have hq4:QE H4 (chQ rs k [(ns,1)]) kvs:=hq3.mono fun a xs e=>g4 _ _ e
   refine ⟨z,p,kvs,rfl,hz4,g4 _ _ hp3,by rw[hq4.len];exact hA.l64,hq4.keys,(by rw[qe_kz hq4];exact (wo k k6).2.1),fun D ys kvs' H5 hperm hsrt g5 hD hPr=>?_⟩
   obtain ⟨T',hT',hq5⟩:=hq4.perm hperm
   have hq6:QE H5 T' kvs':=hq5.mono fun a xs e=>g5 _ _ e
   rw[qe_kz hq6] at hsrt
   exact q D ys T' H5 (g3.trans (g4.trans g5)) hT' hsrt hD (BQ.of hq6 hPr)
end
end G
namespace G
open PySem PySem.Spec PyProof.Rows L2 Mt
structure CtD (mg:Str->Option Value):Prop where
 draws:∃t,mg "MOST_DRAWS"=some (.int 20 t)
noncomputable def drawsD (n:Nat) (d:PyData):Bool:=wholesD 0 ((n:Int) - 1) d&&decide (lenD d<=20)
noncomputable def kI (ks:List Nat):List Int:=ks.map fun (k:Nat)=>(k:Int)
theorem kI_len (ks:List Nat):(kI ks).length=ks.length:=by unfold kI;rw[List.length_map]
theorem drawsD_of {n:Nat}{ks:List Nat} (hl:ks.length<=20) (hk:∀k∈ks,k<n):drawsD n (DI (kI ks))=true:=by
 unfold drawsD
 rw[lenD_DI,kI_len,decide_eq_true hl,Bool.and_true]
 show ((kI ks).map PyData.int).all (wholeD 0 ((n:Int) - 1))=true
 rw[List.all_map]
 refine List.all_eq_true.mpr fun x hx=>?_
 obtain ⟨k,hk1,e⟩:=List.mem_map.mp hx
 have:=hk k hk1
 show (decide ((0:Int)<=x)&&decide (x<=(n:Int) - 1))=true
 rw[decide_eq_true (show (0:Int)<=x by omega),decide_eq_true (show x<=(n:Int) - 1 by omega)];rfl
section
variable {P:Program}{w:World}{K:W.Frag}{mg:Str->Option Value}{base:Heap}{f:Addr}{fd:FuncData}{ec:Nat->Addr}{Bs:Addr}
noncomputable def sp_need_draws (ec:Nat->Addr):Sp:=fun vs H Q E=>∃(a st:Addr) (xs:List V) (v:V) (d:PyData),vs=[.ref a,v]/\H a=some (.tup xs)/\Dt st H d v/\short d/\(drawsD xs.length d=true->∀H',Same H H'->Q .non H')/\(drawsD xs.length d=false->∀H',Same H H'->E (.ref (ec 4)) none H')
noncomputable abbrev s_need_draws:Stmt:=top 27
theorem sc_need_draws:FnScope ["urn","thing"] ["urn","thing"] (defScope s_need_draws):=⟨rfl,rfl,rfl,by decide +kernel,rfl,by decide +kernel,by decide +kernel⟩
theorem ok_need_draws (F:Fun K "need_draws" "need_draws" s_need_draws f fd) (B:Bt mg) (C:CtD mg) (R:Errs K mg ec Bs) (c1:Cal P w K mg base 2 "are_wholes" ["thing","low","high"] sp_are_wholes):FnOk P w K mg base (CX1 P w) 3 f fd ["urn","thing"] (sp_need_draws ec):=by
 refine F.okX sc_need_draws (fun vs H Q E h=>?_) (fun cdv A outer s H vs Q E hr h=>?_)
 ·obtain ⟨a,st,xs,v,d,rfl,_⟩:=h
  rfl
 obtain ⟨a,st,xs,v,d,rfl,ha,hd,hs,q1,q2⟩:=h
 obtain ⟨td,hD⟩:=C.draws
 refine ⟨_,pss_one (ps_if (PW.pt (pw_or (pt_not (pt_val (pe_cal c1 hr rfl (pa_cons (pv 1) (pa_cons pe_int (pa_cons (pe_op op_sub (pe_callB call_len_seq rfl B.len PySem.boot_len (pa_cons (pv 0) pa_nil)) pe_int) pa_nil))))))
  (pw_or1 (pt_cmpR op_gt (pe_callB call_len_seq rfl B.len PySem.boot_len (pa_cons (pv 1) pa_nil)) (pe_glob (v:=.int 20) rfl hD ⟨td,rfl⟩) (nomark _))))) (pss_one (ps_raise1 R.e4 (R.xc 4 (by decide)) pe_str (fun σ H Q Q' m q=>m _ _ q))) pss_nil),?_⟩
 refine ⟨_,rfl,_,rfl,a,_,rfl,.inr (.of ha),_,_,rfl,rfl,_,st,d,0,_,rfl,hd,hs,fun H1 g1=>⟨_,rfl,?_⟩⟩
 unfold drawsD at q1 q2
 cases hw:wholesD 0 ((xs.length:Int) - 1) d with
 | false =>
  rw[hw,Bool.false_and] at q2
  exact iteT (iteT (q2 rfl H1 g1))
 | true =>
  rw[hw,Bool.true_and] at q1 q2
  obtain ⟨ns,e,_⟩:=wholesD_ints hw
  subst e
  obtain ⟨b,e,_,hb⟩:=hd.di
  subst e
  rw[lenD_DI] at q1 q2
  refine iteF ⟨_,rfl,b,_,rfl,.inr (.of (g1 _ _ hb)),_,_,rfl,rfl,_,rfl,?_⟩
  rw[List.length_map]
  by_cases hl:ns.length<=20
  ·rw[decide_eq_false (show ¬ (20:Int)<(ns.length:Int) by omega)]
   exact iteF (q1 (decide_eq_true hl) H1 g1)
  ·rw[decide_eq_true (show (20:Int)<(ns.length:Int) by omega)]
   exact iteT (q2 (decide_eq_false hl) H1 g1)
end
end G
namespace G
open PySem PySem.Spec PyProof.Rows L2 Mt
noncomputable def UrnV (H:Hp):Option (List Int)->V->Prop
 | none,u=>u=.non
 | some ms,u=>∃b,u=.ref b/\H b=some (.tup (ms.map V.int))
theorem UrnV.same {H H':Hp} (g:Same H H'):∀{o:Option (List Int)}{u:V},UrnV H o u->UrnV H' o u
 | none,_,h=>h
 | some _,_,⟨b,e,h⟩=>⟨b,e,g _ _ h⟩
structure Ask (st:Addr) (H:Hp) (n:Nat) (ns:List Int) (rs:List (List Int)) (ks:List Nat) (a:Addr) (v:V) (d:Addr):Prop where
 u:Dt st H (DI ns) (.ref a)
 uu:Mt.Urn n 20 ns
 r:Dt st H (DR rs) v
 ru:Mt.Rul n 5 rs
 d:Dt st H (DI (kI ks)) (.ref d)
 n1:1<=n
 n4:n<=4
 len:ks.length<=20
 lt:∀k∈ks,k<n
section
variable {P:Program}{w:World}{K:W.Frag}{mg:Str->Option Value}{base:Heap}{f:Addr}{fd:FuncData}{ec:Nat->Addr}{Bs:Addr}
noncomputable def sp_followV:Sp:=fun vs H Q _=>∃(st a d:Addr) (v:V) (n:Nat) (ns:List Int) (rs:List (List Int)) (ks:List Nat),vs=[.ref a,v,.ref d]/\Ask st H n ns rs ks a v d /\
 ∀p q u H',Same H H'->H' p=some (.tup [.ref q,u])->H' q=some (.tup ((fr (fol rs ns ks).1).map V.int))->UrnV H' (fol rs ns ks).2 u->Q (.ref p) H'
noncomputable def sp_follow (ec:Nat->Addr):Sp:=fun vs H Q E=>False ∨ sp_followV vs H Q E
noncomputable abbrev s_follow:Stmt:=top 31
theorem sc_follow:FnScope ["urn","rule","draws","so_far","now","kind"] ["urn","rule","draws"] (defScope s_follow):=⟨rfl,rfl,rfl,by decide +kernel,rfl,by decide +kernel,by decide +kernel⟩
theorem ok_follow (F:Fun K "follow" "follow" s_follow f fd) (B:Bt mg) (c1:CalX P w K mg base 6 "need_urn_and_rule" ["urn","rule"] (sp_nur ec)) (c2:CalX P w K mg base 3 "need_draws" ["urn","thing"] (sp_need_draws ec))
  (c3:Cal P w K mg base 1 "own_urn" ["urn"] sp_own_urn) (c4:Cal P w K mg base 3 "times" ["one","other"] sp_times) (c5:Cal P w K mg base 3 "share" ["urn","kind"] sp_share) (c6:Cal P w K mg base 1 "put_in" ["urn","rule","kind"] sp_put_in):FnOk P w K mg base (CX1 P w) 7 f fd ["urn","rule","draws"] (sp_follow ec):=by
 refine F.okX sc_follow (fun vs H Q E h=>?_) (fun cdv A outer s H vs Q E hr h=>?_)
 ·rcases h with h|⟨st,a,d,v,n,ns,rs,ks,rfl,_⟩
  ·exact h.elim
  ·rfl
 refine ⟨_,pss_cons (ps_expr (pe_calx c1 hr rfl passes1 (pa_cons (pv 0) (pa_cons (pv 1) pa_nil)))) (pss_cons (ps_expr (pe_calx (c2.up (by decide)) hr rfl passes1 (pa_cons (pv 0) (pa_cons (pv 2) pa_nil))))
  (PSs.nox (pss_cons (ps_set (i:=3) sc_follow.nd rfl (Or.inl rfl) (pe_tup (pa_cons pe_int (pa_cons pe_int pa_nil))))
  (pss_cons (ps_set (i:=4) sc_follow.nd rfl (Or.inl rfl) (pe_cal (c3.up (by decide)) hr rfl (pa_cons (pv 0) pa_nil)))
  (pss_cons (ps_for PassesOwn.never rfl (pi_tup (pv 2)) (pg_name (i:=5) sc_follow.nd rfl (Or.inl rfl))
   (pss_cons (ps_if (pt_cmpR op_eq (pe_ix ix_tup (pv 4) (pv 5) (fun _ _=>rfl)) pe_int (nomark _)) (pss_one (ps_ret (pe_tup (pa_cons (pe_tup (pa_cons pe_int (pa_cons pe_int pa_nil))) (pa_cons pe_non pa_nil))))) pss_nil)
   (pss_cons (ps_set (i:=3) sc_follow.nd rfl (Or.inl rfl) (pe_cal (c4.up (by decide)) hr rfl (pa_cons (pv 3) (pa_cons (pe_cal (c5.up (by decide)) hr rfl (pa_cons (pv 4) (pa_cons (pv 5) pa_nil))) pa_nil))))
   (pss_one (ps_set (i:=4) sc_follow.nd rfl (Or.inl rfl) (pe_cal (c6.up (by decide)) hr rfl (pa_cons (pv 4) (pa_cons (pv 1) (pa_cons (pv 5) pa_nil)))))))))
  (pss_one (ps_ret (pe_tup (pa_cons (pv 3) (pa_cons (pv 4) pa_nil)))))))))),?_⟩
 rcases h with h|⟨st,a,d,v,n,ns,rs,ks,rfl,hA,q⟩
 ·exact h.elim
 obtain ⟨a',e,_,ha⟩:=hA.u.di
 cases e
 obtain ⟨d',e,_,hd⟩:=hA.d.di
 cases e
 have lk:(kI ks).length=ks.length:=by unfold kI;rw[List.length_map]
 have hn4:=hA.n4
 have uok:=urnD_of hA.uu hA.n1 hA.n4
 have rok:ruleD (lenD (DI ns):Int) (DR rs)=true:=by rw[lenD_DI,hA.uu.len];exact ruleD_of hA.ru
 refine ⟨_,rfl,_,rfl,_,_,st,DI ns,DR rs,rfl,hA.u,short_DI (by rw[hA.uu.len];omega),hA.r,⟨short_DR (by rw[hA.ru.len];omega),shorts_DR hA.ru (by omega)⟩,(fun z=>by rw[uok] at z;cases z),(fun _ z=>by rw[rok] at z;cases z),fun _ _ H1 g1=>?_⟩
 have dok:drawsD (ns.map V.int).length (DI (kI ks))=true:=drawsD_of hA.len (by rw[List.length_map,hA.uu.len];exact hA.lt)
 refine ⟨_,rfl,_,rfl,a,st,_,_,DI (kI ks),rfl,g1 _ _ ha,hA.d.kp (g1.kp st),short_DI (by rw[kI_len];have:=hA.len;omega),(fun _ H2 g2=>?_),(fun z=>by rw[dok] at z;cases z)⟩
 refine ⟨(by show 2<=sizeLine;decide),fun c hc=>?_⟩
 have s2:Same H (upd H2 c (.tup [.int 1,.int 1])):=(g1.trans g2).trans (Same.new hc)
 refine ⟨_,rfl,a,_,rfl,s2 _ _ ha,fun b H3 g3 hb=>?_⟩
 have s3:Same H H3:=s2.trans g3
 refine ⟨_,rfl,d,rfl,⟨_,.of (s3 _ _ hd)⟩,?_⟩
 refine for_tup (K:=K) (a:=d) (xs:=(kI ks).map V.int) (fun i σ H4=>Same H H4/\∃c b o x ms,σ=[some (.ref a),some v,some (.ref d),some (.ref c),some (.ref b),o]/\H4 c=some (.tup ((fr x).map V.int))/\H4 b=some (.tup (ms.map V.int)) /\
  Mt.Urn n (20+5*i) ms/\Bd (12*i) x/\0<=x/\x*(fol rs ms (ks.drop i)).1=(fol rs ns ks).1/\(fol rs ms (ks.drop i)).2=(fol rs ns ks).2)
  ⟨s3,c,b,none,1,ns,rfl,g3 _ _ upd_same,hb,hA.uu,Bd.one,(by decide),(by rw[List.drop_zero];grind),(by rw[List.drop_zero])⟩ (fun i σ H4 _ h=>.of (h.1 _ _ hd)) (fun i x σ H4 hx h=>?_) (fun σ H4 h=>?_)
 ·obtain ⟨s4,c,b,o,x',ms,rfl,hc4,hb4,hu4,hB,hx0,e1,e2⟩:=h
  have hi:i<ks.length:=by have:=(List.getElem?_eq_some_iff.mp hx).1;rwa [List.length_map,lk] at this
  have ex:x=.int ((ks[i]:Nat):Int):=by
   unfold kI at hx
   rw[List.getElem?_map,List.getElem?_map,List.getElem?_eq_getElem hi] at hx
   exact (Option.some.inj hx).symm
  subst ex
  have hk:=hA.lt ks[i] (List.getElem_mem hi)
  have hlen:=hA.len
  rw[List.drop_eq_getElem_cons hi] at e1 e2
  generalize ks[i]=k at *
  have hkm:k<ms.length:=by rw[hu4.len];exact hk
  refine ⟨_,rfl,_,rfl,b,_,_,_,rfl,rfl,.of hb4,atI_int hkm,rfl,_,rfl,?_⟩
  by_cases hz:ms.getD k 0=0
  ·rw[hz,decide_eq_true rfl]
   refine iteT ⟨(by show 2<=sizeLine;decide),fun p1 hp1=>⟨(by show 2<=sizeLine;decide),fun p2 hp2=>?_⟩⟩
   rw[fol_cons,if_pos hz] at e1 e2
   have e1':(fol rs ns ks).1=0:=by rw[<- e1];grind
   have e2':(fol rs ns ks).2=none:=by rw[<- e2]
   have hpp:p1≠p2:=fun e=>by rw[<- e,upd_same] at hp2;cases hp2
   refine q p2 p1 .non _ ((s4.trans (Same.new hp1)).trans (Same.new hp2)) upd_same ?_ ?_
   ·rw[upd_ne hpp,upd_same,e1'];rfl
   ·rw[e2'];exact rfl
  ·rw[decide_eq_false (show ¬ V.int (ms.getD k 0)=V.int 0 from fun z=>hz (by injection z))]
   refine iteF ?_
   rw[fol_cons,if_neg hz] at e1 e2
   refine ⟨_,rfl,_,rfl,_,rfl,b,n,_,ms,k,rfl,hb4,hu4,hn4,(by omega),hk,fun p5 H5 g5 h5=>?_⟩
   refine ⟨c,p5,x',Mt.share ms k,12*i,12,rfl,g5 _ _ hc4,h5,Rat.num_nonneg.mpr hx0,Rat.num_nonneg.mpr (share_nn hu4 k),hB,share_bd hu4 hn4 (by omega) k,(by omega),fun p6 H6 g6 h6=>?_⟩
   have s6:Same H H6:=s4.trans (g5.trans g6)
   have g46:Same H4 H6:=g5.trans g6
   refine ⟨_,rfl,_,rfl,_,rfl,b,st,v,n,5,ms,rs,k,rfl,g46 _ _ hb4,hu4.len,hA.r.kp (s6.kp st),hA.ru,hn4,hk,fun p7 H7 g7 h7=>?_⟩
   refine ⟨s6.trans g7,p6,p7,_,x'*Mt.share ms k,_,rfl,g7 _ _ h6,h7,?_,?_,Rat.mul_nonneg hx0 (share_nn hu4 k),?_,e2⟩
   ·have:=hu4.add (hA.ru.at hk)
    rw[show 20+5*(i+1)=20+5*i+5 by omega];exact this
   ·rw[show 12*(i+1)=12*i+12 by omega];exact hB.mul (share_bd hu4 hn4 (by omega) k)
   ·rw[<- e1];grind
 ·obtain ⟨s4,c,b,o,x',ms,rfl,hc4,hb4,hu4,hB,hx0,e1,e2⟩:=h
  rw[List.length_map,lk,List.drop_length,fol_nil] at e1 e2
  refine ⟨_,rfl,_,rfl,(by show 2<=sizeLine;decide),fun p hp=>?_⟩
  have g:=Same.new (o:=.tup [.ref c,.ref b]) hp
  refine q p c (.ref b) _ (s4.trans g) upd_same ?_ ?_
  ·rw[g _ _ hc4,<- e1];congr 4;grind
  ·rw[<- e2];exact ⟨b,rfl,g _ _ hb4⟩
noncomputable def sp_chance_ofV:Sp:=fun vs H Q _=>∃(st a d:Addr) (v:V) (n:Nat) (ns:List Int) (rs:List (List Int)) (ks:List Nat),vs=[.ref a,v,.ref d]/\Ask st H n ns rs ks a v d /\
 ∀q H',Same H H'->H' q=some (.tup ((fr (fol rs ns ks).1).map V.int))->Q (.ref q) H'
noncomputable def sp_chance_of (ec:Nat->Addr):Sp:=fun vs H Q E=>False ∨ sp_chance_ofV vs H Q E
noncomputable abbrev s_chance_of:Stmt:=top 32
theorem sc_chance_of:FnScope ["urn","rule","draws"] ["urn","rule","draws"] (defScope s_chance_of):=⟨rfl,rfl,rfl,by decide +kernel,rfl,by decide +kernel,by decide +kernel⟩
theorem ok_chance_of (F:Fun K "chance_of" "chance_of" s_chance_of f fd) (c1:CalX P w K mg base 7 "follow" ["urn","rule","draws"] (sp_follow ec)):FnOk P w K mg base (CX1 P w) 8 f fd ["urn","rule","draws"] (sp_chance_of ec):=by
 refine F.okX sc_chance_of (fun vs H Q E h=>?_) (fun cdv A outer s H vs Q E hr h=>?_)
 ·rcases h with h|⟨st,a,d,v,n,ns,rs,ks,rfl,_⟩
  ·exact h.elim
  ·rfl
 refine ⟨_,pss_one (ps_ret (pe_ix ix_tup (pe_calx c1 hr rfl passes1 (pa_cons (pv 0) (pa_cons (pv 1) (pa_cons (pv 2) pa_nil)))) pe_int (fun _ _=>rfl))),?_⟩
 rcases h with h|⟨st,a,d,v,n,ns,rs,ks,rfl,hA,q⟩
 ·exact h.elim
 refine ⟨_,rfl,_,rfl,_,rfl,.inr ⟨st,a,d,v,n,ns,rs,ks,rfl,hA,fun p c u H1 g1 hp hc hu=>?_⟩⟩
 exact ⟨p,_,_,_,rfl,rfl,.of hp,atI_nat (j:=0) rfl,q c H1 g1 hc⟩
noncomputable def sp_urn_behindV:Sp:=fun vs H Q _=>∃(st a d:Addr) (v:V) (n:Nat) (ns:List Int) (rs:List (List Int)) (ks:List Nat),vs=[.ref a,v,.ref d]/\Ask st H n ns rs ks a v d /\
 ∀u H',Same H H'->UrnV H' (fol rs ns ks).2 u->Q u H'
noncomputable def sp_urn_behind (ec:Nat->Addr):Sp:=fun vs H Q E=>False ∨ sp_urn_behindV vs H Q E
noncomputable abbrev s_urn_behind:Stmt:=top 33
theorem sc_urn_behind:FnScope ["urn","rule","draws"] ["urn","rule","draws"] (defScope s_urn_behind):=⟨rfl,rfl,rfl,by decide +kernel,rfl,by decide +kernel,by decide +kernel⟩
theorem ok_urn_behind (F:Fun K "urn_behind" "urn_behind" s_urn_behind f fd) (c1:CalX P w K mg base 7 "follow" ["urn","rule","draws"] (sp_follow ec)):FnOk P w K mg base (CX1 P w) 8 f fd ["urn","rule","draws"] (sp_urn_behind ec):=by
 refine F.okX sc_urn_behind (fun vs H Q E h=>?_) (fun cdv A outer s H vs Q E hr h=>?_)
 ·rcases h with h|⟨st,a,d,v,n,ns,rs,ks,rfl,_⟩
  ·exact h.elim
  ·rfl
 refine ⟨_,pss_one (ps_ret (pe_ix ix_tup (pe_calx c1 hr rfl passes1 (pa_cons (pv 0) (pa_cons (pv 1) (pa_cons (pv 2) pa_nil)))) pe_int (fun _ _=>rfl))),?_⟩
 rcases h with h|⟨st,a,d,v,n,ns,rs,ks,rfl,hA,q⟩
 ·exact h.elim
 refine ⟨_,rfl,_,rfl,_,rfl,.inr ⟨st,a,d,v,n,ns,rs,ks,rfl,hA,fun p c u H1 g1 hp hc hu=>?_⟩⟩
 exact ⟨p,_,_,_,rfl,rfl,.of hp,atI_nat (j:=1) rfl,q u H1 g1 hu⟩
end
end G
namespace G
open PySem PySem.Spec PyProof.Rows L2 Mt
theorem sm_40:Sm 40:=by unfold Sm;decide +kernel
noncomputable def sums (rs:List (List Int)):List Int:=rs.map List.sum
noncomputable def grow (rs:List (List Int)):Option Int:=if (sums rs).all (fun s=>s == (sums rs).headD 0)=true then some ((sums rs).headD 0) else none
noncomputable def gV:Option Int->V
 | none=>.non
 | some g=>.int g
theorem grow_min {rs:List (List Int)}{m M:Int} (hne:sums rs≠[]) (hm:m∈sums rs) (hM:M∈sums rs) (h1:∀n∈sums rs,m<=n) (h2:∀n∈sums rs,n<=M):(m=M->grow rs=some ((sums rs).headD 0))/\(m≠M->grow rs=none):=by
 have hd:(sums rs).headD 0∈sums rs:=by
  cases h:sums rs with
  | nil=>exact absurd h hne
  | cons a l=>exact List.mem_cons_self
 constructor
 ·intro e
  unfold grow
  rw[if_pos]
  refine List.all_eq_true.mpr fun s hs=>?_
  have a1:=h1 s hs
  have a2:=h2 s hs
  have b1:=h1 _ hd
  have b2:=h2 _ hd
  exact beq_iff_eq.mpr (by omega)
 ·intro e
  unfold grow
  rw[if_neg]
  intro z
  have a1:=beq_iff_eq.mp (List.all_eq_true.mp z m hm)
  have a2:=beq_iff_eq.mp (List.all_eq_true.mp z M hM)
  omega
theorem sum_row {n:Nat}:∀{r:List Int},Mt.Row n 5 r->0<=r.sum/\r.sum<=5*(n:Int):=by
 intro r h
 have:∀(l:List Int),(∀x∈l,0<=x/\x<=((5:Nat):Int))->0<=l.sum/\l.sum<=5*(l.length:Int):=by
  intro l
  induction l with
  | nil=>intro _;decide
  | cons a l ih =>
   intro h
   have h1:=h a List.mem_cons_self
   have h2:=ih fun x hx=>h x (List.mem_cons_of_mem _ hx)
   rw[List.sum_cons,List.length_cons]
   omega
 have z:=this r h.nn
 rw[h.len] at z
 exact z
theorem grow_le {n:Nat}{rs:List (List Int)}{g:Int} (h:Mt.Rul n 5 rs) (h1:1<=n) (e:grow rs=some g):0<=g/\g<=5*(n:Int):=by
 unfold grow at e
 split at e
 ·cases e
  cases hr:rs with
  | nil=>rw[hr] at h;have:=h.len;simp at this;omega
  | cons a l=>exact sum_row (h.row a (by rw[hr];exact List.mem_cons_self))
 ·cases e
noncomputable def waysN (s g:Int):Nat->Int
 | 0=>1
 | k+1=>waysN s g k*(s+(k:Int)*g)
theorem waysN_bd {s g:Int} (s0:0<=s) (s1:s<=80) (g0:0<=g) (g1:g<=20):∀k:Nat,k<=40->0<=waysN s g k/\waysN s g k<=1024 ^ k
 | 0,_=>⟨by show (0:Int)<=1;decide,by show (1:Int)<=1024 ^ 0;decide⟩
 | k+1,h=>by
  obtain ⟨i1,i2⟩:=waysN_bd s0 s1 g0 g1 k (by omega)
  have hk:(k:Int)*g<=40*20:=Int.mul_le_mul (by omega) g1 g0 (by decide)
  have hk0:0<=(k:Int)*g:=Int.mul_nonneg (by omega) g0
  have ht0:0<=s+(k:Int)*g:=by omega
  have ht1:s+(k:Int)*g<=1024:=by omega
  refine ⟨Int.mul_nonneg i1 ht0,?_⟩
  show waysN s g k*(s+(k:Int)*g)<=1024 ^ (k+1)
  rw[Int.pow_succ]
  exact Int.mul_le_mul i2 ht1 ht0 (Int.pow_nonneg (by decide))
theorem bits_ways {i:Int}{k:Nat} (h0:0<=i) (h:i<=1024 ^ k) (hk:k<=40):Builtin.Int.intBits i<=2 ^ 20:=by
 refine bits_of (n:=10*k) ?_ (by omega)
 have e:((2 ^ (10*k):Nat):Int)=1024 ^ k:=by
  rw[Nat.pow_mul];simp
 have:((i.natAbs:Nat):Int)<=((2 ^ (10*k):Nat):Int):=by rw[e];omega
 exact Int.ofNat_le.mp this
structure CtW (mg:Str->Option Value):Prop where
 ways:∃t,mg "MOST_WAYS_DRAWS"=some (.int 40 t)
section
variable {P:Program}{w:World}{K:W.Frag}{mg:Str->Option Value}{base:Heap}{f:Addr}{fd:FuncData}{ec:Nat->Addr}{Bs:Addr}
noncomputable def sp_growth_of:Sp:=fun vs H Q _=>∃(v:V) (st:Addr) (rs:List (List Int)),vs=[v]/\Dt st H (DR rs) v/\1<=rs.length/\rs.length<=1000/\∀H',Same H H'->Q (gV (grow rs)) H'
noncomputable abbrev s_growth_of:Stmt:=top 41
theorem sc_growth_of:FnScope ["rule","sums"] ["rule"] (defScope s_growth_of):=⟨rfl,rfl,rfl,by decide +kernel,rfl,by decide +kernel,by decide +kernel⟩
theorem ok_growth_of (F:Fun K "growth_of" "growth_of" s_growth_of f fd) (B:Bt mg):FnOk P w K mg base CX0 1 f fd ["rule"] sp_growth_of:=by
 refine F.ok sc_growth_of (fun vs H Q E h=>?_) (fun cdv A outer s H vs Q E hr h=>?_)
 ·obtain ⟨v,st,rs,rfl,_⟩:=h
  rfl
 obtain ⟨v,st,rs,rfl,hd,h1,h1000,q⟩:=h
 refine ⟨_,pss_cons (ps_setcompG (N:=["row"]) (ix:=[none]) (ifs:=[]) (tc:=tTrue) (i:=1) rfl sc_growth_of.nd rfl rfl (pi_tup (pv 0)) (fun s H ex=>pg_c (i:=0) (by decide +kernel) rfl (Or.inl rfl) (.inr rfl)) (fun s H ex=>pifs_nil)
   (fun s H ex=>pe_callB (sumK (K:=K) rfl rfl) rfl B.sum boot_sum (pa_cons (pv 0) pa_nil)) rfl (by decide +kernel) (by rfl) (by rfl) (fun _=>rfl) (by rfl))
  (pss_one (ps_ret (pe_ifExp (pt_cmpR op_eq (pe_callB (call_min_seq rfl) rfl B.min boot_min (pa_cons (pv 1) pa_nil)) (pe_callB (call_max_seq rfl) rfl B.max boot_max (pa_cons (pv 1) pa_nil)) (nomark _)) (pe_ix ix_list (pv 1) pe_int (fun _ _=>rfl)) pe_non))),?_⟩
 obtain ⟨r,xs,e,_,hr2,hds⟩:=hd.untup
 subst e
 have hl:=hds.len
 rw[List.length_map] at hl
 refine ⟨_,rfl,r,rfl,⟨xs,.of hr2⟩,blk_tup (K:=K) (a:=r) (xs:=xs) (sz (by omega)) (fun i ys H2=>Same H H2/\i<=rs.length/\ys=((sums rs).take i).map V.int) ⟨Same.refl H,Nat.zero_le _,rfl⟩ (fun i ys H2 h=>?_) (fun i ys H2 _ h=>.of (h.1 _ _ hr2)) rfl (fun i ys H2 x hx h=>?_) (fun ys H2 h=>?_)⟩
 ·obtain ⟨_,hi,rfl⟩:=h
  rw[List.length_map,List.length_take];unfold sums;rw[List.length_map];omega
 ·obtain ⟨g2,hi,rfl⟩:=h
  obtain ⟨d,hd',dt⟩:=hds.get hx
  rw[List.getElem?_map] at hd'
  obtain ⟨row,hrow,ed⟩:=Option.map_eq_some_iff.mp hd'
  subst ed
  obtain ⟨b,eb,_,hb⟩:=dt.di
  subst eb
  refine ⟨_,rfl,b,row,rfl,.inr (.of (g2 _ _ hb)),g2,(List.getElem?_eq_some_iff.mp hrow).1,?_⟩
  have e2:(sums rs)[i]?=some row.sum:=by unfold sums;rw[List.getElem?_map,hrow];rfl
  rw[List.take_add_one,e2,List.map_append];rfl
 ·obtain ⟨g2,_,rfl⟩:=h
  intro p hp
  have e3:(sums rs).take xs.length=sums rs:=by rw[<- hl];exact List.take_of_length_le (by unfold sums;rw[List.length_map];exact Nat.le_refl _)
  rw[e3]
  have hne:sums rs≠[]:=fun z=>by
   have:(sums rs).length=rs.length:=by unfold sums;rw[List.length_map]
   rw[z] at this;simp at this;omega
  have gg:Same H (upd H2 p (.lst ((sums rs).map V.int))):=g2.trans (Same.new hp)
  have hp2:upd H2 p (.lst ((sums rs).map V.int)) p=some (.lst ((sums rs).map V.int)):=upd_same
  refine ⟨_,rfl,p,sums rs,rfl,.inl (.of hp2),hne,fun m hm hle=>⟨_,rfl,p,sums rs,rfl,.inl (.of hp2),hne,fun M hM hge=>⟨rfl,_,rfl,?_⟩⟩⟩
  obtain ⟨a1,a2⟩:=grow_min hne hm hM hle hge
  by_cases hmM:m=M
  ·subst hmM
   rw[decide_eq_true rfl]
   have:=q _ gg
   rw[a1 rfl] at this
   refine iteT ⟨_,rfl,p,_,_,_,rfl,rfl,.of hp2,atI_nat (j:=0) ?_,this⟩
   cases hs:sums rs with
   | nil=>exact absurd hs hne
   | cons a l=>rfl
  ·rw[decide_eq_false (show ¬ V.int m=V.int M from fun z=>hmM (by injection z))]
   have:=q _ gg
   rw[a2 hmM] at this
   exact iteF this
noncomputable def sp_growthV:Sp:=fun vs H Q _=>∃(st:Addr) (v:V) (n:Nat) (rs:List (List Int)),vs=[.int n,v]/\Dt st H (DR rs) v/\Mt.Rul n 5 rs/\1<=n/\n<=4/\∀H',Same H H'->Q (gV (grow rs)) H'
noncomputable abbrev s_growth:Stmt:=top 42
theorem sc_growth:FnScope ["kinds","rule"] ["kinds","rule"] (defScope s_growth):=⟨rfl,rfl,rfl,by decide +kernel,rfl,by decide +kernel,by decide +kernel⟩
theorem ok_growth (F:Fun K "growth" "growth" s_growth f fd) (c1:CalX P w K mg base 4 "need_rule" ["kinds","thing"] (sp_need_rule ec)) (c2:Cal P w K mg base 1 "growth_of" ["rule"] sp_growth_of):FnOk P w K mg base (CX1 P w) 5 f fd ["kinds","rule"] sp_growthV:=by
 refine F.okX sc_growth (fun vs H Q E h=>?_) (fun cdv A outer s H vs Q E hr h=>?_)
 ·obtain ⟨st,v,n,rs,rfl,_⟩:=h
  rfl
 obtain ⟨st,v,n,rs,rfl,hd,hR,n1,n4,q⟩:=h
 refine ⟨_,pss_cons (ps_expr (pe_calx c1 hr rfl passes1 (pa_cons (pv 0) (pa_cons (pv 1) pa_nil)))) (pss_one (ps_ret (pe_cal (c2.up (by decide)) hr rfl (pa_cons (pv 1) pa_nil)))),?_⟩
 have hlen:=hR.len
 have rok:=ruleD_of hR
 refine ⟨_,rfl,_,rfl,v,st,DR rs,n,rfl,by omega,by omega,hd,⟨short_DR (by omega),shorts_DR hR (by omega)⟩,fun _ H1 g1=>?_,fun z=>by rw[rok] at z;cases z⟩
 exact ⟨_,rfl,v,st,rs,rfl,hd.kp (g1.kp st),by omega,by omega,fun H2 g2=>q H2 (g1.trans g2)⟩
noncomputable def sp_need_even (ec:Nat->Addr):Sp:=fun vs H Q E=>∃(u v:V) (st:Addr) (d e:PyData),vs=[u,v]/\Dt st H d u/\short d/\Dt st H e v/\ok2 e/\(urnD 20 d=false->∀H',Same H H'->E (.ref (ec 0)) none H') /\
 (urnD 20 d=true->ruleD (lenD d) e=false->∀H',Same H H'->E (.ref (ec 1)) none H')/\(urnD 20 d=true->ruleD (lenD d) e=true->∀rs,e=DR rs->(grow rs=none->∀H',Same H H'->E (.ref (ec 6)) none H')/\(grow rs≠none->∀H',Same H H'->Q .non H'))
noncomputable abbrev s_need_even:Stmt:=top 43
theorem sc_need_even:FnScope ["urn","rule"] ["urn","rule"] (defScope s_need_even):=⟨rfl,rfl,rfl,by decide +kernel,rfl,by decide +kernel,by decide +kernel⟩
theorem ok_need_even (F:Fun K "need_even" "need_even" s_need_even f fd) (R:Errs K mg ec Bs) (c1:CalX P w K mg base 6 "need_urn_and_rule" ["urn","rule"] (sp_nur ec)) (c2:Cal P w K mg base 1 "growth_of" ["rule"] sp_growth_of):FnOk P w K mg base (CX1 P w) 7 f fd ["urn","rule"] (sp_need_even ec):=by
 refine F.okX sc_need_even (fun vs H Q E h=>?_) (fun cdv A outer s H vs Q E hr h=>?_)
 ·obtain ⟨u,v,st,d,e,rfl,_⟩:=h
  rfl
 obtain ⟨u,v,st,d,e,rfl,hu,hus,hv,hvo,q0,q1,q2⟩:=h
 refine ⟨_,pss_cons (ps_expr (pe_calx c1 hr rfl passes1 (pa_cons (pv 0) (pa_cons (pv 1) pa_nil)))) (pss_one (ps_if (pt_cmp (pc_isN (pe_cal (c2.up (by decide)) hr rfl (pa_cons (pv 1) pa_nil)))) (pss_one (ps_raise1 R.e6 (R.xc 6 (by decide)) pe_str (fun σ H Q Q' m q=>m _ _ q))) pss_nil)),?_⟩
 refine ⟨_,rfl,_,rfl,u,v,st,d,e,rfl,hu,hus,hv,hvo,q0,q1,fun hw hw2 H1 g1=>?_⟩
 obtain ⟨rs,n,e1,e2,hR⟩:=ruleD_true hw2
 subst e1
 obtain ⟨ns,e3,l1,l4,_⟩:=urnD_true hw
 subst e3
 rw[lenD_DI] at e2
 have hlen:=hR.len
 obtain ⟨qa,qb⟩:=q2 hw hw2 rs rfl
 refine ⟨_,rfl,v,st,rs,rfl,hv.kp (g1.kp st),by omega,by omega,fun H2 g2=>?_⟩
 cases hg:grow rs with
 | none=>exact ⟨_,rfl,iteT (qa hg H2 (g1.trans g2))⟩
 | some g=>exact ⟨_,rfl,iteF (qb (by rw[hg];exact fun z=>by cases z) H2 (g1.trans g2))⟩
noncomputable def sp_waysV:Sp:=fun vs H Q _=>∃(st a:Addr) (v:V) (n k:Nat) (ns:List Int) (rs:List (List Int)) (g:Int),vs=[.ref a,v,.int k]/\Dt st H (DI ns) (.ref a)/\Mt.Urn n 20 ns/\Dt st H (DR rs) v/\Mt.Rul n 5 rs/\1<=n/\n<=4/\grow rs=some g/\k<=40/\∀H',Same H H'->Q (.int (waysN ns.sum g k)) H'
noncomputable def sp_ways (ec:Nat->Addr):Sp:=fun vs H Q E=>False ∨ sp_waysV vs H Q E
noncomputable abbrev s_ways:Stmt:=top 44
theorem sc_ways:FnScope ["urn","rule","draws","more","many","turn"] ["urn","rule","draws"] (defScope s_ways):=⟨rfl,rfl,rfl,by decide +kernel,rfl,by decide +kernel,by decide +kernel⟩
theorem ok_ways (F:Fun K "ways" "ways" s_ways f fd) (B:Bt mg) (C2:CtW mg) (c1:CalX P w K mg base 7 "need_even" ["urn","rule"] (sp_need_even ec)) (c2:CalX P w K mg base 2 "need_number" ["thing","low","high"] (sp_need_number ec)) (c3:Cal P w K mg base 1 "growth_of" ["rule"] sp_growth_of):FnOk P w K mg base (CX1 P w) 8 f fd ["urn","rule","draws"] (sp_ways ec):=by
 refine F.okX sc_ways (fun vs H Q E h=>?_) (fun cdv A outer s H vs Q E hr h=>?_)
 ·rcases h with h|⟨st,a,v,n,k,ns,rs,g,rfl,_⟩
  ·exact h.elim
  ·rfl
 obtain ⟨tw,hW⟩:=C2.ways
 refine ⟨_,pss_cons (ps_expr (pe_calx c1 hr rfl passes1 (pa_cons (pv 0) (pa_cons (pv 1) pa_nil)))) (pss_cons (ps_expr (pe_calx (c2.up (by decide)) hr rfl passes1 (pa_cons (pv 2) (pa_cons pe_int (pa_cons (pe_glob (v:=.int 40) rfl hW ⟨tw,rfl⟩) pa_nil)))))
  (PSs.nox (pss_cons (ps_set (i:=3) sc_ways.nd rfl (Or.inl rfl) (pe_cal (c3.up (by decide)) hr rfl (pa_cons (pv 1) pa_nil)))
  (pss_cons (ps_set (i:=4) sc_ways.nd rfl (Or.inl rfl) pe_int)
  (pss_cons (ps_for PassesOwn.never rfl (pi_range1 rfl B.range (pa_cons (pv 2) pa_nil)) (pg_name (i:=5) sc_ways.nd rfl (Or.inl rfl))
   (pss_one (ps_aug (i:=4) sc_ways.nd rfl (Or.inl rfl) (pe_op op_add (pe_callB (call_sum_seq rfl) rfl B.sum boot_sum (pa_cons (pv 0) pa_nil)) (pe_op op_mul (pv 5) (pv 3))) ip_mul)))
  (pss_one (ps_ret (pv 4)))))))),?_⟩
 rcases h with h|⟨st,a,v,n,k,ns,rs,g,rfl,hu,hU,hv,hR,n1,n4,hg,hk,q⟩
 ·exact h.elim
 ·obtain ⟨a',e,_,ha⟩:=hu.di
  cases e
  have uok:=urnD_of hU n1 n4
  have rok:ruleD (lenD (DI ns):Int) (DR rs)=true:=by rw[lenD_DI,hU.len];exact ruleD_of hR
  have hlen:=hR.len
  obtain ⟨g0,g1'⟩:=grow_le hR n1 hg
  have hs0:=hU.pos
  have hs1:ns.sum<=80:=by
   have:∀(l:List Int),(∀x∈l,0<=x/\x<=((20:Nat):Int))->l.sum<=20*(l.length:Int):=by
    intro l
    induction l with
    | nil=>intro _;decide
    | cons a l ih =>
     intro h
     have h1:=h a List.mem_cons_self
     have h2:=ih fun x hx=>h x (List.mem_cons_of_mem _ hx)
     rw[List.sum_cons,List.length_cons]
     omega
   have z:=this ns hU.nn
   rw[hU.len] at z
   omega
  refine ⟨_,rfl,_,rfl,_,_,st,DI ns,DR rs,rfl,hu,short_DI (by rw[hU.len];omega),hv,⟨short_DR (by omega),shorts_DR hR (by omega)⟩,(fun z=>by rw[uok] at z;cases z),(fun _ z=>by rw[rok] at z;cases z),fun _ _ rs' ers=>⟨fun hn=>?_,fun _ H1 g1=>?_⟩⟩
  ·rw[<- DR_inj ers,hg] at hn;cases hn
  have hwk:wholeD 0 40 (.int (k:Int))=true:=by
   show (decide ((0:Int)<=(k:Int))&&decide ((k:Int)<=40))=true
   rw[decide_eq_true (by omega),decide_eq_true (by omega)];rfl
  refine ⟨_,rfl,_,st,.int k,0,40,rfl,Dt.int _ _ _,sm_0,sm_40,(fun _=>?_),(fun z=>by rw[hwk] at z;cases z)⟩
  refine ⟨_,rfl,v,st,rs,rfl,hv.kp (g1.kp st),by omega,by omega,fun H2 g2=>?_⟩
  rw[hg]
  have gg:=g1.trans g2
  refine ⟨_,rfl,(k:Int),rfl,by omega,by omega,?_⟩
  refine for_range (lo:=0) (n:=k) (fun i σ H3=>Same H H3/\i<=k/\∃o5,σ=[some (.ref a),some v,some (.int k),some (.int g),some (.int (waysN ns.sum g i)),o5]) ⟨gg,Nat.zero_le _,none,rfl⟩ (fun i σ H3 hi h=>?_) (fun σ H3 h=>?_)
  ·obtain ⟨g3,hik,o5,rfl⟩:=h
   have e0:(0:Int)+(i:Int)=(i:Int):=by omega
   rw[e0]
   obtain ⟨w0,w1⟩:=waysN_bd (s:=ns.sum) (g:=g) (by omega) hs1 g0 (by omega) i (by omega)
   have hk0:0<=(i:Int)*g:=Int.mul_nonneg (by omega) g0
   have hk1:(i:Int)*g<=40*20:=Int.mul_le_mul (by omega) (by omega) g0 (by decide)
   refine ⟨_,rfl,_,rfl,a,ns,rfl,.inr (.of (g3 _ _ ha)),_,rfl,_,rfl,_,_,rfl,rfl,.inl ⟨by omega,by omega⟩,_,_,rfl,rfl,_,_,rfl,rfl,⟨bits_ways w0 w1 (by omega),bits_of (n:=10) (by omega) (by decide)⟩,g3,by omega,_,rfl⟩
  ·obtain ⟨g3,_,o5,rfl⟩:=h
   exact ⟨_,rfl,q H3 g3⟩
end
end G
namespace G
open PySem PySem.Spec PyProof.Rows L2 Mt Md
theorem putsD_snoc (m:Int) (b:Int × List Int):∀(bs:List (Int × List Int)) (D:Tab),putsD m (bs++[b]) D=addD (putsD m bs D) b.2 (m*b.1)
 | [],D=>rfl
 | c::bs,D=>by
  show putsD m (bs++[b]) (addD D c.2 (m*c.1))=_
  rw[putsD_snoc m b bs];rfl
theorem nextL_snoc (rs:List (List Int)) (p:List Int × Int):∀(T D:Tab),nextL rs (T++[p]) D=putsD p.2 (ubo rs p.1) (nextL rs T D)
 | [],D=>rfl
 | c::T,D=>by
  show nextL rs (T++[p]) (putsD c.2 (ubo rs c.1) D)=_
  rw[nextL_snoc rs p T];rfl
theorem enc_get {D:Tab}{i:Nat}{k:List Key}{x:V} (h:(enc D)[i]?=some (k,x)):∃p,D[i]?=some p/\k=Md.kI p.1/\x=.int p.2:=by
 unfold enc at h
 rw[List.getElem?_map] at h
 obtain ⟨p,hp,e⟩:=Option.map_eq_some_iff.mp h
 injection e with e1 e2
 exact ⟨p,hp,e1.symm,e2.symm⟩
theorem enc_len (D:Tab):(enc D).length=D.length:=by unfold enc;rw[List.length_map]
section
variable {P:Program}{w:World}{K:W.Frag}{mg:Str->Option Value}{base:Heap}{f:Addr}{fd:FuncData}{ec:Nat->Addr}{Bs:Addr}
noncomputable def sp_nextw:Sp:=fun vs H Q _=>∃(d st:Addr) (v:V) (n m:Nat) (T:Tab) (rs:List (List Int)),vs=[.ref d,v]/\H d=some (.dT (enc T))/\Keys n m T/\m<=100/\T.length<=1024/\Dt st H (DR rs) v/\Mt.Rul n 5 rs/\n<=4 /\
 ∀p H',Kp d H H'->H p=none->H' p=some (.dT (enc (nextD rs T)))->Q (.ref p) H'
noncomputable abbrev s_nextw:Stmt:=top 45
theorem sc_nextw:FnScope ["ways_by_urn","rule","later","urn","many","balls","behind"] ["ways_by_urn","rule"] (defScope s_nextw):=⟨rfl,rfl,rfl,by decide +kernel,rfl,by decide +kernel,by decide +kernel⟩
theorem ok_nextw (F:Fun K "next_ways" "next_ways" s_nextw f fd) (c1:Cal P w K mg base 2 "urns_behind_one" ["urn","rule"] sp_ubo):FnOk P w K mg base CX0 3 f fd ["ways_by_urn","rule"] sp_nextw:=by
 refine F.ok sc_nextw (fun vs H Q E h=>?_) (fun cdv A outer s H vs Q E hr h=>?_)
 ·obtain ⟨d,st,v,n,m,T,rs,rfl,_⟩:=h
  rfl
 obtain ⟨d,st,v,n,m,T,rs,rfl,hd,hK,hm,hT,hv,hR,n4,q⟩:=h
 refine ⟨_,pss_cons (ps_set (i:=2) sc_nextw.nd rfl (Or.inl rfl) pe_dnewT)
  (pss_cons (ps_for PassesOwn.never rfl (pi_items (pv 0)) (pg_tup rfl (pgs_cons (pg_name (i:=3) sc_nextw.nd rfl (Or.inl rfl)) (pgs_cons (pg_name (i:=4) sc_nextw.nd rfl (Or.inl rfl)) pgs_nil)))
   (pss_one (ps_for PassesOwn.never rfl (pi_list (pe_cal c1 hr rfl (pa_cons (pv 3) (pa_cons (pv 1) pa_nil)))) (pg_tup rfl (pgs_cons (pg_name (i:=5) sc_nextw.nd rfl (Or.inl rfl)) (pgs_cons (pg_name (i:=6) sc_nextw.nd rfl (Or.inl rfl)) pgs_nil)))
    (pss_one (ps_dput (hu_of hr) (pv 2) (pv 6) (pe_op op_add (pe_dget2 (hu_of hr) (pv 2) (pv 6) pe_int ⟨rfl,rfl,rfl,rfl⟩) (pe_op op_mul (pv 4) (pv 5))) rfl)))))
  (pss_one (ps_ret (pv 2)))),?_⟩
 have hv0:=Dt_toD hd hv
 intro lt hlt
 have nlt:d≠lt:=ne_of_none hd hlt
 refine ⟨_,rfl,d,enc T,rfl,(by rw[upd_ne nlt];exact hd),fun o=>?_⟩
 have k0:Kp d H (upd (upd H lt (.dT [])) d (.frz o (.dT (enc T)))):=fun b u nb e=>by rw[upd_ne nb,upd_ne (ne_of_none e hlt)];exact e
 refine for_items (o:=o) (fun i σ H2=>Kp d H H2/\H2 d=some (.frz o (.dT (enc T)))/\H2 lt=some (.dT (enc (nextL rs (T.take i) [])))/\i<=T.length/\∃o3 o4 o5 o6,σ=[some (.ref d),some v,some (.ref lt),o3,o4,o5,o6])
  ⟨k0,upd_same,by rw[upd_ne nlt.symm,upd_same];rfl,Nat.zero_le _,none,none,none,none,rfl⟩ (fun i σ H2 _ h=>h.2.1) (fun i k x σ H2 p ka hx hp hka h=>?_) (fun σ H2 h=>?_)
 ·obtain ⟨k2,hd2,hl2,hi,o3,o4,o5,o6,rfl⟩:=h
  obtain ⟨um,hum,ek,ex⟩:=enc_get hx
  subst ek ex
  obtain ⟨u,mm⟩:=um
  simp only at hka
  have hil:=(List.getElem?_eq_some_iff.mp hum).1
  have hku:u.length=n/\∀b∈u,0<=b/\b<=(m:Int):=hK (u,mm) (List.mem_of_getElem? hum)
  rw[kI_kV] at hka
  refine ⟨p,_,rfl,.of upd_same,rfl,_,_,rfl,_,_,rfl,rfl,?_⟩
  have g3:Same H2 (upd H2 p (.tup [.ref ka,.int mm])):=Same.new hp
  show tFor _ _ _ _ _ (upd H2 p (.tup [.ref ka,.int mm]))
  generalize upd H2 p (.tup [.ref ka,.int mm])=H3 at g3
  have k3:Kp d H H3:=k2.trans (g3.kp d)
  refine ⟨_,rfl,_,rfl,ka,d,v,n,u,rs,rfl,g3 _ _ hka,hku.1,hv0.kp k3,hR,n4,fun pl H4 ts g4 hpl hts=>⟨pl,rfl,⟨_,.of hpl⟩,?_⟩⟩
  have k4:Kp d H H4:=k3.trans (g4.kp d)
  have hl4:=g4 _ _ (g3 _ _ hl2)
  have hd4:=g4 _ _ (g3 _ _ hd2)
  have hKn:∀j,Keys n (m+5) (nextL rs (T.take j) [])/\ND (nextL rs (T.take j) [])/\(nextL rs (T.take j) []).length<=n*(T.take j).length:=fun j=>by
   have:=nextL_ok (D:=[]) hR (T.take j) (fun q hq=>hK q (List.mem_of_mem_take hq)) (fun p hp=>by simp at hp) (by unfold ND;simp)
   rw[List.length_nil,Nat.zero_add] at this
   exact this
  obtain ⟨kk1,kk2,kk3⟩:=hKn i
  have hle:(nextL rs (T.take i) []).length<=4*1024:=Nat.le_trans kk3 (Nat.mul_le_mul n4 (Nat.le_trans (by rw[List.length_take];omega) hT))
  have hbs:(ubo rs u).length<=4:=by
   have:=len_uboL (rs:=rs) (u:=u) u 0
   unfold ubo;omega
  refine for_list (K:=K) (a:=pl) (xs:=ts) (fun j σ H5=>Kp lt H4 H5/\H5 lt=some (.dT (enc (putsD mm ((ubo rs u).take j) (nextL rs (T.take i) []))))/\j<=ts.length/\∃o5 o6,σ=[some (.ref d),some v,some (.ref lt),some (.ref ka),some (.int mm),o5,o6])
   ⟨Kp.refl _ _,hl4,Nat.zero_le _,o5,o6,rfl⟩ (fun j σ H5 _ h=>.of (h.1 _ _ (ne_of hpl hl4 (by intro z;cases z)) hpl)) (fun j t σ H5 ht h=>?_) (fun σ H5 h=>?_)
  ·obtain ⟨k5,hl5,hj,o5,o6,rfl⟩:=h
   obtain ⟨b,q',w',hb,rfl,hq',hw'⟩:=hts.get ht
   have hjl:=(List.getElem?_eq_some_iff.mp ht).1
   have hq5:=k5 _ _ (ne_of hq' hl4 (by intro z;cases z)) hq'
   have hw5:=k5 _ _ (ne_of hw' hl4 (by intro z;cases z)) hw'
   obtain ⟨bb,_⟩:=mem_ubo hR hku (List.mem_of_getElem? hb)
   obtain ⟨pp1,pp2,pp3⟩:=puts_ok (m:=m+5) mm ((ubo rs u).take j) (fun c hc=>(mem_ubo hR hku (List.mem_of_mem_take hc)).2) kk1 kk2
   have hlen:(putsD mm ((ubo rs u).take j) (nextL rs (T.take i) [])).length<=10000:=by
    have:((ubo rs u).take j).length<=4:=by rw[List.length_take];omega
    omega
   refine ⟨q',_,rfl,.of hq5,rfl,_,_,rfl,_,_,rfl,rfl,?_⟩
   have hw5':H5 w'=some (.tup ((Md.kI b.2).map kV)):=by rw[kI_kV];exact hw5
   refine ⟨_,rfl,lt,rfl,.inr ⟨_,.inl hl5⟩,_,rfl,_,DGet.t hl5 hw5',?_⟩
   rw[valV_enc pp2]
   refine ⟨_,rfl,_,rfl,_,_,rfl,rfl,.inr ⟨by omega,by omega⟩,_,_,rfl,rfl,_,rfl,_,rfl,lt,_,rfl,DPut.t hl5 hw5' (by rw[enc_len];exact small_tab hlen),?_⟩
   rw[put_enc pp2]
   refine ⟨k5.trans Kp.at,?_,hjl,_,_,rfl⟩
   rw[upd_same,List.take_add_one,hb]
   show _=some (HO.dT (enc (putsD mm ((ubo rs u).take j++[b]) _)))
   rw[putsD_snoc]
  ·obtain ⟨k5,hl5,_,o5,o6,rfl⟩:=h
   have hlt2:H lt=none:=hlt
   refine ⟨fun c o nc e=>k5 _ _ (ne_of_none e hlt2) (k4 _ _ nc e),k5 _ _ nlt hd4,?_,hil,_,_,_,_,rfl⟩
   rw[hl5,List.take_add_one,hum]
   show _=some (HO.dT (enc (nextL rs (T.take i++[(u,mm)]) [])))
   rw[nextL_snoc,hts.len,List.take_length]
 ·obtain ⟨k2,hd2,hl2,_,o3,o4,o5,o6,rfl⟩:=h
  rw[enc_len,List.take_length] at hl2
  exact ⟨_,rfl,q lt H2 k2 hlt hl2⟩
end
end G
namespace G
open PySem PySem.Spec PyProof.Rows L2 Mt Md
structure CtB (mg:Str->Option Value):Prop where
 behind:∃t,mg "MOST_BALLS_BEHIND"=some (.int 60 t)
section
variable {P:Program}{w:World}{K:W.Frag}{mg:Str->Option Value}{base:Heap}{f:Addr}{fd:FuncData}{ec:Nat->Addr}{Bs:Addr}
noncomputable def sp_wtV:Sp:=fun vs H Q _=>∃(st a b:Addr) (v:V) (n k:Nat) (ns os:List Int) (rs:List (List Int)) (g:Int),vs=[.ref a,v,.int k,.ref b]/\Dt st H (DI ns) (.ref a)/\Mt.Urn n 20 ns/\Dt st H (DR rs) v/\Mt.Rul n 5 rs/\1<=n/\n<=4/\grow rs=some g/\k<=6/\Dt st H (DI os) (.ref b)/\os.length=n/\urnD 60 (DI os)=true /\
 ∀H',Same H H'->Q (.int (valD (waysD rs k [(ns,1)]) os)) H'
noncomputable def sp_wt (ec:Nat->Addr):Sp:=fun vs H Q E=>False ∨ sp_wtV vs H Q E
noncomputable abbrev s_wt:Stmt:=top 46
theorem sc_wt:FnScope ["urn","rule","draws","other","ways_by_urn","turn"] ["urn","rule","draws","other"] (defScope s_wt):=⟨rfl,rfl,rfl,by decide +kernel,rfl,by decide +kernel,by decide +kernel⟩
theorem ok_wt (F:Fun K "ways_to" "ways_to" s_wt f fd) (B:Bt mg) (C2:Ct2 mg) (C3:CtB mg) (R:Errs K mg ec Bs) (c1:CalX P w K mg base 7 "need_even" ["urn","rule"] (sp_need_even ec)) (c2:CalX P w K mg base 2 "need_number" ["thing","low","high"] (sp_need_number ec)) (c3:Cal P w K mg base 3 "is_urn_up_to" ["thing","most"] sp_is_urn_up_to) (c4:Cal P w K mg base 3 "next_ways" ["ways_by_urn","rule"] sp_nextw):FnOk P w K mg base (CX1 P w) 8 f fd ["urn","rule","draws","other"] (sp_wt ec):=by
 refine F.okX sc_wt (fun vs H Q E h=>?_) (fun cdv A outer s H vs Q E hr h=>?_)
 ·rcases h with h|⟨st,a,b,v,n,k,ns,os,rs,g,rfl,_⟩
  ·exact h.elim
  ·rfl
 obtain ⟨tw,hW⟩:=C2.stand
 obtain ⟨tb,hB⟩:=C3.behind
 refine ⟨_,pss_cons (ps_expr (pe_calx c1 hr rfl passes1 (pa_cons (pv 0) (pa_cons (pv 1) pa_nil)))) (pss_cons (ps_expr (pe_calx (c2.up (by decide)) hr rfl passes1 (pa_cons (pv 2) (pa_cons pe_int (pa_cons (pe_glob (v:=.int 6) rfl hW ⟨tw,rfl⟩) pa_nil)))))
  (pss_cons (ps_if (PW.pt (pw_or (pt_not (pt_val (pe_cal (c3.up (by decide)) hr rfl (pa_cons (pv 3) (pa_cons (pe_glob (v:=.int 60) rfl hB ⟨tb,rfl⟩) pa_nil))))) (pw_or1 (pt_cmpR op_ne (pe_callB call_len_seq rfl B.len PySem.boot_len (pa_cons (pv 3) pa_nil)) (pe_callB call_len_seq rfl B.len PySem.boot_len (pa_cons (pv 0) pa_nil)) (nomark _))))) (pss_one (ps_raise1 R.e0 (R.xc 0 (by decide)) pe_str (fun σ H Q Q' m q=>m _ _ q))) pss_nil)
  (PSs.nox (pss_cons (ps_set (i:=4) sc_wt.nd rfl (Or.inl rfl) (pe_dT1 (hu_of hr) (pv 0) pe_int))
  (pss_cons (ps_for PassesOwn.never rfl (pi_range1 rfl B.range (pa_cons (pv 2) pa_nil)) (pg_name (i:=5) sc_wt.nd rfl (Or.inl rfl))
   (pss_one (ps_set (i:=4) sc_wt.nd rfl (Or.inl rfl) (pe_cal (c4.up (by decide)) hr rfl (pa_cons (pv 4) (pa_cons (pv 1) pa_nil))))))
  (pss_one (ps_ret (pe_dget2 (hu_of hr) (pv 4) (pv 3) pe_int ⟨rfl,rfl,rfl,rfl⟩)))))))),?_⟩
 rcases h with h|⟨st,a,b,v,n,k,ns,os,rs,g,rfl,hu,hU,hv,hR,n1,n4,hg,hk,hb,hol,hou,q⟩
 ·exact h.elim
 ·obtain ⟨a',e,_,ha⟩:=hu.di
  cases e
  obtain ⟨b',e,_,hb1⟩:=hb.di
  cases e
  have uok:=urnD_of hU n1 n4
  have rok:ruleD (lenD (DI ns):Int) (DR rs)=true:=by rw[lenD_DI,hU.len];exact ruleD_of hR
  have hlen:=hR.len
  refine ⟨_,rfl,_,rfl,_,_,st,DI ns,DR rs,rfl,hu,short_DI (by rw[hU.len];omega),hv,⟨short_DR (by omega),shorts_DR hR (by omega)⟩,(fun z=>by rw[uok] at z;cases z),(fun _ z=>by rw[rok] at z;cases z),fun _ _ rs' ers=>⟨fun hn=>?_,fun _ H1 g1=>?_⟩⟩
  ·rw[<- DR_inj ers,hg] at hn;cases hn
  have hwk:wholeD 0 6 (.int (k:Int))=true:=by
   show (decide ((0:Int)<=(k:Int))&&decide ((k:Int)<=6))=true
   rw[decide_eq_true (by omega),decide_eq_true (by omega)];rfl
  refine ⟨_,rfl,_,st,.int k,0,6,rfl,Dt.int _ _ _,sm_0,sm_6,(fun _=>?_),(fun z=>by rw[hwk] at z;cases z)⟩
  refine ⟨_,rfl,.ref b,st,DI os,60,rfl,hb.kp (g1.kp st),short_DI (by omega),fun H2 g2=>⟨_,rfl,?_⟩⟩
  have gg:=g1.trans g2
  rw[hou]
  refine iteF ⟨_,rfl,b,_,rfl,.inr (.of (gg _ _ hb1)),_,rfl,a,_,rfl,.inr (.of (gg _ _ ha)),rfl,_,rfl,?_⟩
  rw[List.length_map,List.length_map,hol,hU.len]
  refine iteNS rfl ?_
  intro p hp
  have g3:Same H (upd H2 p (.dT [])):=gg.trans (Same.new hp)
  have nap:a≠p:=ne_of_none (gg _ _ ha) hp
  refine ⟨_,rfl,upd_same,a,Md.kI ns,rfl,by rw[kI_kV,upd_ne nap];exact gg _ _ ha,?_⟩
  have hHp:H p=none:=gg.free hp
  have hK:Keys n 20 [(ns,(1:Int))]:=fun q hq=>by
   rw[List.mem_singleton.mp hq]
   exact ⟨hU.len,fun z hz=>by have:=hU.nn z hz;omega⟩
  have wo:=fun j=>ways_ok hR n4 hK (by unfold ND;simp) (by simp) j
  refine ⟨_,rfl,(k:Int),rfl,by omega,by omega,?_⟩
  refine for_range (lo:=0) (n:=k) (fun j σ H3=>Same H H3/\j<=k/\∃p o5,H p=none/\H3 p=some (.dT (enc (waysD rs j [(ns,1)])))/\σ=[some (.ref a),some v,some (.int k),some (.ref b),some (.ref p),o5])
   ⟨fun c o e=>by rw[upd_ne (ne_of_none e hHp),upd_ne (ne_of_none e hHp)];exact gg _ _ e,Nat.zero_le _,p,none,hHp,upd_same,rfl⟩ (fun j σ H3 hj h=>?_) (fun σ H3 h=>?_)
  ·obtain ⟨g3,hjk,p,o5,hpn,hp3,rfl⟩:=h
   obtain ⟨w1,w2,w3⟩:=wo j
   have hl:(waysD rs j [(ns,1)]).length<=1024:=Nat.le_trans w3 (Nat.pow_le_pow_right (n:=4) (by decide) (show j<=5 by omega))
   refine ⟨_,rfl,_,rfl,p,st,v,n,20+5*j,_,rs,rfl,hp3,w1,by omega,hl,hv.kp (g3.kp st),hR,n4,fun p' H4 k4 hp' h4=>?_⟩
   have g4:Same H H4:=fun c o e=>k4 _ _ (ne_of_none e hpn) (g3 _ _ e)
   exact ⟨g4,by omega,p',_,g3.free hp',h4,rfl⟩
  ·obtain ⟨g3,_,p,o5,hpn,hp3,rfl⟩:=h
   obtain ⟨w1,w2,w3⟩:=wo k
   refine ⟨_,rfl,p,rfl,.inr ⟨_,.inl hp3⟩,_,rfl,_,DGet.t (b:=b) (k:=Md.kI os) hp3 (by rw[kI_kV];exact g3 _ _ hb1),?_⟩
   rw[valV_enc w2]
   exact q H3 g3
end
end G
namespace Mq
open PySem PySem.Spec L2 Mt Md
theorem linQ_append (φ:List Int->Rat):∀A B:TabQ,linQ (A++B) φ=linQ A φ+linQ B φ
 | [],B=>by show linQ B φ=0+_;grind
 | p::A,B=>by
  show linQ (p::(A++B)) φ=_
  rw[linQ_cons,linQ_cons,linQ_append φ A B];grind
theorem KeysQ.pos {n m:Nat}{T:TabQ} (h:KeysQ n m T):∀p∈T,(∀b∈p.1,0<=b)/\0<p.1.sum:=fun p hp=>⟨fun b hb=>((h p hp).nn b hb).1,(h p hp).pos⟩
noncomputable def dd {α:Type} [DecidableEq α]:List α->List α
 | []=>[]
 | a::l=>if a∈dd l then dd l else a::dd l
theorem mem_dd {α:Type} [DecidableEq α] {x:α}:∀{l:List α},x∈l->x∈dd l
 | a::l,h=>by
  unfold dd
  rcases List.mem_cons.mp h with e|e
  ·subst e
   split
   ·assumption
   ·exact List.mem_cons_self
  ·have:=mem_dd e
   split
   ·exact this
   ·exact List.mem_cons_of_mem _ this
theorem dd_sub {α:Type} [DecidableEq α] {x:α}:∀{l:List α},x∈dd l->x∈l
 | [],h=>h
 | a::l,h=>by
  unfold dd at h
  split at h
  ·exact List.mem_cons_of_mem _ (dd_sub h)
  ·rcases List.mem_cons.mp h with e|e
   ·subst e;exact List.mem_cons_self
   ·exact List.mem_cons_of_mem _ (dd_sub e)
theorem nd_len {α:Type} [DecidableEq α]:∀{l m:List α},l.Nodup->(∀a∈l,a∈m)->l.length<=m.length
 | [],m,_,_=>Nat.zero_le _
 | a::l,m,hn,h=>by
  rw[List.nodup_cons] at hn
  have ha:=h a List.mem_cons_self
  have ih:=nd_len (l:=l) (m:=m.erase a) hn.2 fun b hb=>by
   have:b≠a:=fun e=>hn.1 (e ▸ hb)
   exact (List.mem_erase_of_ne this).mpr (h b (List.mem_cons_of_mem _ hb))
  have:=List.length_erase_of_mem ha
  have hp:0<m.length:=List.length_pos_of_mem ha
  rw[List.length_cons];omega
noncomputable def cntL (n:Nat):Nat->List (List Int)
 | 0=>[List.replicate n 0]
 | k+1=>dd ((cntL n k).flatMap fun c=>(List.range n).map fun i=>inc c i)
theorem cntL_len {n:Nat}:∀{k:Nat}{c:List Int},c∈cntL n k->c.length=n
 | 0,c,h=>by rw[List.mem_singleton.mp h];simp
 | k+1,c,h=>by
  obtain ⟨c0,h0,h1⟩:=List.mem_flatMap.mp (dd_sub (show c∈dd _ from h))
  obtain ⟨i,_,e⟩:=List.mem_map.mp h1
  rw[<- e];unfold inc;rw[List.length_set];exact cntL_len h0
theorem putsQ_keys {x:Rat}{s:Int}:∀{bs:List (Int × List Int)}{D:TabQ}{p:List Int × Rat},p∈putsQ x s bs D->(∃b∈bs,p.1=b.2) ∨ ∃q∈D,q.1=p.1
 | [],D,p,h=>.inr ⟨p,h,rfl⟩
 | b::bs,D,p,h=>by
  unfold putsQ at h
  rcases putsQ_keys h with ⟨c,hc,e⟩|⟨q,hq,e⟩
  ·exact .inl ⟨c,List.mem_cons_of_mem _ hc,e⟩
  ·rcases keys_addQ hq with e2|⟨r,hr,e2⟩
   ·exact .inl ⟨b,List.mem_cons_self,by rw[<- e,e2]⟩
   ·exact .inr ⟨r,hr,by rw[e2,e]⟩
theorem nextLQ_keys {rs:List (List Int)}:∀{T D:TabQ}{p:List Int × Rat},p∈nextLQ rs T D->(∃q∈T,∃b∈ubo rs q.1,p.1=b.2) ∨ ∃q∈D,q.1=p.1
 | [],D,p,h=>.inr ⟨p,h,rfl⟩
 | t::T,D,p,h=>by
  unfold nextLQ at h
  rcases nextLQ_keys h with ⟨q,hq,b,hb,e⟩|⟨q,hq,e⟩
  ·exact .inl ⟨q,List.mem_cons_of_mem _ hq,b,hb,e⟩
  ·rcases putsQ_keys hq with ⟨b,hb,e2⟩|⟨r,hr,e2⟩
   ·exact .inl ⟨t,List.mem_cons_self,b,hb,by rw[<- e,e2]⟩
   ·exact .inr ⟨r,hr,by rw[e2,e]⟩
theorem ch_keys {n:Nat}{rs:List (List Int)}{u:List Int} (hR:Rul n 5 rs) (hu:u.length=n):∀{k:Nat}{p:List Int × Rat},p∈chQ rs k [(u,1)]->∃c∈cntL n k,p.1=beh u rs c
 | 0,p,h=>by
  rw[List.mem_singleton.mp h]
  exact ⟨_,List.mem_singleton.mpr rfl,(beh_zero u rs n).symm⟩
 | k+1,p,h=>by
  rcases nextLQ_keys (show p∈nextLQ rs (chQ rs k [(u,1)]) [] from h) with ⟨q,hq,b,hb,e⟩|⟨q,hq,_⟩
  ·obtain ⟨c,hc,e2⟩:=ch_keys hR hu hq
   obtain ⟨j,h1,_,h3⟩:=mem_uboL hb
   rw[Nat.zero_add] at h3
   have hj:j<n:=by
    rw[e2] at h1
    unfold beh at h1
    rw[List.length_map,List.length_range,hu] at h1
    exact h1
   refine ⟨inc c j,mem_dd (List.mem_flatMap.mpr ⟨c,hc,List.mem_map.mpr ⟨j,List.mem_range.mpr hj,rfl⟩⟩),?_⟩
   rw[beh_inc hu (cntL_len hc) hR hj,e,h3,e2]
  ·simp at hq
end Mq
namespace Mq
open PySem PySem.Spec L2 Mt Md
theorem linQ_congr {φ ψ:List Int->Rat}:∀{T:TabQ},(∀p∈T,φ p.1=ψ p.1)->linQ T φ=linQ T ψ
 | [],_=>rfl
 | p::T,h=>by rw[linQ_cons,linQ_cons,h p List.mem_cons_self,linQ_congr fun q hq=>h q (List.mem_cons_of_mem _ hq)]
theorem share_sum {u:List Int} (h:0<u.sum):∀i:Nat,sumQ ((List.range i).map fun k=>share u k*1)=psh u i
 | 0=>by rw[psh_zero h];rfl
 | i+1=>by
  rw[List.range_succ,List.map_append,sumQ_append,share_sum h i,psh_succ h]
  show _+(share u i*1+0)=_
  grind
theorem opQ_one {rs:List (List Int)}{u:List Int} (h:0<u.sum):opQ rs (fun _=>1) u=1:=by
 unfold opQ
 rw[share_sum h,psh_all h]
theorem ch_one {n:Nat}{rs:List (List Int)}{u:List Int} (hR:Rul n 5 rs) (n4:n<=4) (hu:Urn n 20 u):∀k:Nat,k<=6->linQ (chQ rs k [(u,1)]) (fun _=>1)=1
 | 0,_=>by show (1:Rat)*1+0=1;grind
 | k+1,hk=>by
  have hK:=(ch_ok hR n4 hu k (by omega)).1
  show linQ (nextQ rs _) _=1
  rw[linQ_next hK.pos,linQ_congr (ψ:=fun _=>1) fun p hp=>opQ_one (hK p hp).pos]
  exact ch_one hR n4 hu k (by omega)
theorem cut_top_nn {t s:Int} (hs:0<s) (h:0<=cut t s):0<=t:=by
 have e:=cut_self_mul (t:=t) hs
 have h1:=Rat.mul_nonneg h (show (0:Rat)<=(s:Rat) by have:=cast_pos hs;grind)
 rw[e] at h1
 exact_mod_cast h1
end Mq
namespace Mq
open PySem PySem.Spec L2 Mt Md
theorem ch_sum {n:Nat}{rs:List (List Int)}{u:List Int}{g:Int} (hR:Rul n 5 rs) (hu:Urn n 20 u) (hg:∀r∈rs,r.sum=g):∀{k:Nat}{p:List Int × Rat},k<=6->n<=4->p∈chQ rs k [(u,1)]->p.1.sum=u.sum+g*(k:Int)
 | 0,p,_,_,h=>by rw[List.mem_singleton.mp h];simp
 | k+1,p,hk,n4,h=>by
  rcases nextLQ_keys (show p∈nextLQ rs (chQ rs k [(u,1)]) [] from h) with ⟨q,hq,b,hb,e⟩|⟨q,hq,_⟩
  ·have ih:=ch_sum hR hu hg (by omega) n4 hq
   have hqu:=(ch_ok hR n4 hu k (by omega)).1 q hq
   obtain ⟨j,h1,_,h3⟩:=mem_uboL hb
   rw[Nat.zero_add] at h3
   have hj:j<n:=by rw[<- hqu.len];exact h1
   have hr:=hR.at hj
   have hm:rs.getD j []∈rs:=by
    have hj':j<rs.length:=by rw[hR.len];exact hj
    rw[List.getD_eq_getElem?_getD,List.getElem?_eq_getElem hj'];exact List.getElem_mem hj'
   rw[e,h3,addL_sum (by rw[hqu.len,hr.len]),ih,hg _ hm]
   have:((k+1:Nat):Int)=(k:Int)+1:=by omega
   rw[this,Int.mul_add];omega
  ·simp at hq
end Mq
namespace Mq
open PySem PySem.Spec L2 Mt Md
theorem sumQ_mul (c:Rat):∀l:List Rat,sumQ l*c=sumQ (l.map fun x=>x*c)
 | []=>by show (0:Rat)*c=0;grind
 | x::l=>by
  show (x+sumQ l)*c=x*c+sumQ (l.map fun x=>x*c)
  rw[<- sumQ_mul c l];grind
end Mq
namespace Mq
open PySem PySem.Spec L2 Mt Md
theorem cnt_84 {n k:Nat} (h1:1<=n) (h4:n<=4) (hk:k<=6):(cntL n k).length<128:=by
 have key:∀n∈[1,2,3,4],∀k∈[0,1,2,3,4,5,6],(cntL n k).length<128:=by decide +kernel
 refine key n ?_ k ?_
 ·have:n=1 ∨ n=2 ∨ n=3 ∨ n=4:=by omega
  simp;omega
 ·simp;omega
theorem ch_len128 {n k:Nat}{rs:List (List Int)}{u:List Int} (hR:Rul n 5 rs) (n1:1<=n) (n4:n<=4) (hu:Urn n 20 u) (hk:k<=6):(chQ rs k [(u,1)]).length<128:=by
 have h2:=(ch_ok hR n4 hu k hk).2.1
 unfold NDq at h2
 have:=nd_len (m:=(cntL n k).map (beh u rs)) h2 fun a ha=>by
  obtain ⟨p,hp,e⟩:=List.mem_map.mp ha
  obtain ⟨c,hc,e2⟩:=ch_keys hR hu.len hp
  exact List.mem_map.mpr ⟨c,hc,by rw[<- e,e2]⟩
 rw[List.length_map,List.length_map] at this
 have:=cnt_84 n1 n4 hk
 omega
noncomputable def OrdQ (T:TabQ):Prop:=(T.map (·.1)).Pairwise (fun a b=>HT.lexLt b a=false)
theorem ord_unique:∀{T U:TabQ},OrdQ T->OrdQ U->NDq T->T.Perm U->T=U
 | [],U,_,_,_,h=>by rw[h.nil_eq]
 | p::T,[],_,_,_,h=>by have:=h.length_eq;simp at this
 | p::T,q::U,hT,hU,hn,h=>by
  have hT':=List.pairwise_cons.mp (show (p.1::T.map (·.1)).Pairwise _ from hT)
  have hU':=List.pairwise_cons.mp (show (q.1::U.map (·.1)).Pairwise _ from hU)
  have hn':p.1 ∉ T.map (·.1)/\NDq T:=by unfold NDq at hn ⊢;rw[List.map_cons,List.nodup_cons] at hn;exact hn
  have e:p=q:=by
   have hp:p∈q::U:=h.mem_iff.mp List.mem_cons_self
   have hq:q∈p::T:=h.mem_iff.mpr List.mem_cons_self
   rcases List.mem_cons.mp hp with z|z
   ·exact z
   ·rcases List.mem_cons.mp hq with y|y
    ·exact y.symm
    ·have a1:=hU'.1 p.1 (List.mem_map.mpr ⟨p,z,rfl⟩)
     have a2:=hT'.1 q.1 (List.mem_map.mpr ⟨q,y,rfl⟩)
     have:=lex_tri a1 a2
     exact absurd (List.mem_map.mpr ⟨q,y,this.symm⟩) hn'.1
  subst e
  rw[ord_unique hT'.2 hU'.2 hn'.2 h.cons_inv]
theorem mem_val:∀{T:TabQ}{p:List Int × Rat},NDq T->(p∈T ↔ p.1∈T.map (·.1)/\valQ T p.1=p.2)
 | [],p,_=>by simp
 | q::T,p,h=>by
  have h1:q.1 ∉ T.map (·.1)/\NDq T:=by unfold NDq at h ⊢;rw[List.map_cons,List.nodup_cons] at h;exact h
  rw[List.mem_cons,List.map_cons,List.mem_cons]
  show _ ↔ _/\(if q.1=p.1 then q.2 else valQ T p.1)=p.2
  by_cases e:q.1=p.1
  ·rw[if_pos e]
   constructor
   ·rintro (z|z)
    ·subst z;exact ⟨.inl rfl,rfl⟩
    ·exact absurd (List.mem_map.mpr ⟨p,z,e.symm⟩) h1.1
   ·rintro ⟨_,z⟩
    exact .inl (Prod.ext e.symm z.symm)
  ·rw[if_neg e]
   constructor
   ·rintro (z|z)
    ·exact absurd (by rw[z]) e
    ·have:=(mem_val h1.2).mp z
     exact ⟨.inr this.1,this.2⟩
   ·rintro ⟨z|z,y⟩
    ·exact absurd z.symm e
    ·exact .inr ((mem_val h1.2).mpr ⟨z,y⟩)
theorem nd_tab:∀{T:TabQ},NDq T->T.Nodup
 | [],_=>List.nodup_nil
 | q::T,h=>by
  have h1:q.1 ∉ T.map (·.1)/\NDq T:=by unfold NDq at h ⊢;rw[List.map_cons,List.nodup_cons] at h;exact h
  exact List.nodup_cons.mpr ⟨fun z=>h1.1 (List.mem_map.mpr ⟨q,z,rfl⟩),nd_tab h1.2⟩
theorem nodup_perm {α:Type} [DecidableEq α]:∀{l m:List α},l.Nodup->m.Nodup->(∀x,x∈l ↔ x∈m)->l.Perm m
 | [],m,_,_,h=>by
  cases m with
  | nil=>exact List.Perm.refl _
  | cons a m=>exact absurd ((h a).mpr List.mem_cons_self) (by simp)
 | a::l,m,hl,hm,h=>by
  have ha:a∈m:=(h a).mp List.mem_cons_self
  have hl':=List.nodup_cons.mp hl
  have ih:=nodup_perm (l:=l) (m:=m.erase a) hl'.2 (hm.erase a) fun x=>by
   rw[List.Nodup.mem_erase_iff hm]
   constructor
   ·intro hx
    exact ⟨fun z=>hl'.1 (by rw[<- z];exact hx),(h x).mp (List.mem_cons_of_mem _ hx)⟩
   ·rintro ⟨h1,h2⟩
    rcases List.mem_cons.mp ((h x).mpr h2) with z|z
    ·exact absurd z h1
    ·exact z
  exact (ih.cons a).trans (List.perm_cons_erase ha).symm
theorem perm_of_val {T U:TabQ} (hT:NDq T) (hU:NDq U) (hk:∀k,k∈T.map (·.1) ↔ k∈U.map (·.1)) (hv:∀k,valQ T k=valQ U k):T.Perm U :=
 nodup_perm (nd_tab hT) (nd_tab hU) fun p=>by rw[mem_val hT,mem_val hU,hk,hv]
end Mq
namespace G
open PySem PySem.Spec PyProof.Rows L2 Mt Md Mq
section
variable {P:Program}{w:World}{K:W.Frag}{mg:Str->Option Value}{base:Heap}{f:Addr}{fd:FuncData}{ec:Nat->Addr}{Bs:Addr}
noncomputable def sp_cut:Sp:=fun vs H Q _=>∃t b:Int,vs=[.int t,.int b]/\0<=t/\0<b/\b.natAbs.log2<9000/\∀p H',Same H H'->H' p=some (.tup ((fr (cut t b)).map V.int))->Q (.ref p) H'
noncomputable abbrev s_cut:Stmt:=top 53
theorem sc_cut:FnScope ["_law_top","_law_bottom","_law_one","_law_other"] ["_law_top","_law_bottom"] (defScope s_cut):=⟨rfl,rfl,rfl,by decide +kernel,rfl,by decide +kernel,by decide +kernel⟩
theorem ok_cut (F:Fun K "_law_fraction" "_law_fraction" s_cut f fd) (B:Bt mg):FnOk P w K mg base CX0 1 f fd ["_law_top","_law_bottom"] sp_cut:=by
 refine F.ok sc_cut (fun vs H Q E h=>?_) (fun cdv A outer s H vs Q E hr h=>?_)
 ·obtain ⟨x,y,rfl,_⟩:=h
  rfl
 obtain ⟨t,b,rfl,ht,hb,hlog,q⟩:=h
 refine ⟨_,pss_cons (ps_par (i:=2) (j:=3) rfl sc_cut.nd rfl rfl (by decide) rfl rfl (pa_cons (pv 1) (pa_cons (pe_callB call_abs rfl B.abs boot_abs (pa_cons (pv 0) pa_nil)) pa_nil)) rfl)
  (pss_cons (ps_while PassesOwn.never (pt_cmpR op_gt (pv 3) pe_int (nomark _)) (pss_one (ps_par (i:=2) (j:=3) rfl sc_cut.nd rfl rfl (by decide) rfl rfl (pa_cons (pv 3) (pa_cons (pe_op op_mod (pv 2) (pv 3)) pa_nil)) rfl)))
  (pss_one (ps_ret (pe_tup (pa_cons (pe_op op_fdivB (pv 0) (pv 2)) (pa_cons (pe_op op_fdivB (pv 1) (pv 2)) pa_nil)))))),?_⟩
 have g:=gcd_log (t:=t) hb hlog
 refine ⟨_,rfl,_,rfl,t,rfl,_,_,rfl,?_⟩
 rw[if_neg (show ¬ t<0 by omega)]
 refine ⟨fun m σ H2=>H2=H/\∃x' y':Int,0<=x'/\0<=y'/\σ=[some (.int t),some (.int b),some (.int x'),some (.int y')]/\m=y'.toNat/\Int.gcd x' y'=Int.gcd t b,⟨_,rfl,b,t,by omega,ht,rfl,rfl,Int.gcd_comm b t⟩,?_⟩
 rintro m σ H2 ⟨rfl,x',y',h1,h2,rfl,rfl,e⟩
 refine ⟨_,rfl,_,_,rfl,rfl,_,rfl,?_⟩
 by_cases hz:0<y'
 ·rw[decide_eq_true hz]
  refine iteT ⟨fun σ' H'=>H'=H2/\∃a c:Int,0<=a/\0<=c/\σ'=[some (.int t),some (.int b),some (.int a),some (.int c)]/\c.toNat<y'.toNat/\Int.gcd a c=Int.gcd t b,?_,?_⟩
  ·rintro σ' H' ⟨rfl,a,c,ha,hc,rfl,hlt,e2⟩
   exact ⟨_,hlt,rfl,a,c,ha,hc,rfl,rfl,e2⟩
  ·have hm:=Int.emod_nonneg x' (show y'≠0 by omega)
   have hm2:=Int.emod_lt_of_pos x' hz
   refine ⟨_,rfl,_,rfl,_,rfl,_,_,rfl,rfl,hz,_,_,rfl,?_⟩
   exact ⟨rfl,y',x' % y',h2,hm,rfl,by omega,by rw[gcd_step h1 hz];exact e⟩
 ·rw[decide_eq_false hz]
  have hy:y'=0:=by omega
  subst hy
  have e2:x'=((Int.gcd t b:Nat):Int):=by rw[<- e,Int.gcd_zero_right];omega
  subst e2
  refine iteF ⟨_,rfl,_,rfl,_,_,rfl,rfl,g,_,rfl,_,rfl,_,_,rfl,rfl,g,(by show 2<=sizeLine;decide),fun p hp=>?_⟩
  refine q p _ (Same.new hp) ?_
  rw[upd_same,fr_cut hb];rfl
noncomputable abbrev s_by:Stmt:=top 55
theorem sc_by:FnScope ["_law_one","_law_other"] ["_law_one","_law_other"] (defScope s_by):=⟨rfl,rfl,rfl,by decide +kernel,rfl,by decide +kernel,by decide +kernel⟩
theorem ok_by (F:Fun K "_law_by" "_law_by" s_by f fd) (c1:Cal P w K mg base 1 "_law_fraction" ["_law_top","_law_bottom"] sp_cut):FnOk P w K mg base CX0 2 f fd ["_law_one","_law_other"] sp_times:=by
 refine F.ok sc_by (fun vs H Q E h=>?_) (fun cdv A outer s H vs Q E hr h=>?_)
 ·obtain ⟨p,q,x,y,n,m,rfl,_⟩:=h
  rfl
 obtain ⟨p,q,x,y,n,m,rfl,hp,hq,x0,y0,bx,by',hnm,k⟩:=h
 refine ⟨_,pss_one (ps_ret (pe_cal c1 hr rfl (pa_cons (pe_op op_mulB (pe_ix ix_tup (pv 0) pe_int (fun _ _=>rfl)) (pe_ix ix_tup (pv 1) pe_int (fun _ _=>rfl))) (pa_cons (pe_op op_mulB (pe_ix ix_tup (pv 0) pe_int (fun _ _=>rfl)) (pe_ix ix_tup (pv 1) pe_int (fun _ _=>rfl))) pa_nil)))),?_⟩
 have hp':H p=some (.tup [.int x.num,.int x.den]):=hp
 have hq':H q=some (.tup [.int y.num,.int y.den]):=hq
 have b1:Builtin.Int.intBits x.num<=2 ^ 20:=bits_of bx.num (by omega)
 have b2:Builtin.Int.intBits y.num<=2 ^ 20:=bits_of by'.num (by omega)
 have b3:Builtin.Int.intBits (x.den:Int)<=2 ^ 20:=bits_of (by rw[Int.natAbs_natCast];exact bx.den) (by omega)
 have b4:Builtin.Int.intBits (y.den:Int)<=2 ^ 20:=bits_of (by rw[Int.natAbs_natCast];exact by'.den) (by omega)
 refine ⟨_,rfl,p,_,_,_,rfl,rfl,.of hp',atI_nat (j:=0) rfl,_,rfl,q,_,_,_,rfl,rfl,.of hq',atI_nat (j:=0) rfl,_,_,rfl,rfl,⟨b1,b2⟩,
  _,rfl,p,_,_,_,rfl,rfl,.of hp',atI_nat (j:=1) rfl,_,rfl,q,_,_,_,rfl,rfl,.of hq',atI_nat (j:=1) rfl,_,_,rfl,rfl,⟨b3,b4⟩,_,_,rfl,?_,?_,?_,?_⟩
 ·exact Int.mul_nonneg x0 y0
 ·have h1:=x.den_nz;have h2:=y.den_nz
  have:=Nat.mul_pos (Nat.pos_of_ne_zero h1) (Nat.pos_of_ne_zero h2)
  rw[<- Int.natCast_mul];omega
 ·rw[Nat.log2_lt (by have h1:=x.den_nz;have h2:=y.den_nz;rw[Int.natAbs_mul];exact Nat.mul_ne_zero (by omega) (by omega)),Int.natAbs_mul]
  refine Nat.lt_of_le_of_lt (Nat.mul_le_mul bx.den by'.den) ?_
  rw[<- Nat.pow_add]
  exact Nat.pow_lt_pow_right (by decide) (by omega)
 ·rw[cut_mul];exact k
noncomputable abbrev s_lplus:Stmt:=top 54
theorem sc_lplus:FnScope ["_law_one","_law_other"] ["_law_one","_law_other"] (defScope s_lplus):=⟨rfl,rfl,rfl,by decide +kernel,rfl,by decide +kernel,by decide +kernel⟩
theorem ok_lplus (F:Fun K "_law_plus" "_law_plus" s_lplus f fd) (c1:Cal P w K mg base 1 "_law_fraction" ["_law_top","_law_bottom"] sp_cut):FnOk P w K mg base CX0 2 f fd ["_law_one","_law_other"] sp_plus:=by
 refine F.ok sc_lplus (fun vs H Q E h=>?_) (fun cdv A outer s H vs Q E hr h=>?_)
 ·obtain ⟨p,q,x,y,n,m,rfl,_⟩:=h
  rfl
 obtain ⟨p,q,x,y,n,m,rfl,hp,hq,x0,y0,bx,by',hnm,k⟩:=h
 refine ⟨_,pss_one (ps_ret (pe_cal c1 hr rfl (pa_cons (pe_op op_add (pe_op op_mulB (pe_ix ix_tup (pv 0) pe_int (fun _ _=>rfl)) (pe_ix ix_tup (pv 1) pe_int (fun _ _=>rfl))) (pe_op op_mulB (pe_ix ix_tup (pv 1) pe_int (fun _ _=>rfl)) (pe_ix ix_tup (pv 0) pe_int (fun _ _=>rfl)))) (pa_cons (pe_op op_mulB (pe_ix ix_tup (pv 0) pe_int (fun _ _=>rfl)) (pe_ix ix_tup (pv 1) pe_int (fun _ _=>rfl))) pa_nil)))),?_⟩
 have hp':H p=some (.tup [.int x.num,.int x.den]):=hp
 have hq':H q=some (.tup [.int y.num,.int y.den]):=hq
 have b1:Builtin.Int.intBits x.num<=2 ^ 20:=bits_of bx.num (by omega)
 have b2:Builtin.Int.intBits y.num<=2 ^ 20:=bits_of by'.num (by omega)
 have b3:Builtin.Int.intBits (x.den:Int)<=2 ^ 20:=bits_of (by rw[Int.natAbs_natCast];exact bx.den) (by omega)
 have b4:Builtin.Int.intBits (y.den:Int)<=2 ^ 20:=bits_of (by rw[Int.natAbs_natCast];exact by'.den) (by omega)
 refine ⟨_,rfl,p,_,_,_,rfl,rfl,.of hp',atI_nat (j:=0) rfl,_,rfl,q,_,_,_,rfl,rfl,.of hq',atI_nat (j:=1) rfl,_,_,rfl,rfl,⟨b1,b4⟩,
  _,rfl,q,_,_,_,rfl,rfl,.of hq',atI_nat (j:=0) rfl,_,rfl,p,_,_,_,rfl,rfl,.of hp',atI_nat (j:=1) rfl,_,_,rfl,rfl,⟨b2,b3⟩,_,_,rfl,rfl,
  _,rfl,p,_,_,_,rfl,rfl,.of hp',atI_nat (j:=1) rfl,_,rfl,q,_,_,_,rfl,rfl,.of hq',atI_nat (j:=1) rfl,_,_,rfl,rfl,⟨b3,b4⟩,_,_,rfl,?_,?_,?_,?_⟩
 ·exact Int.add_nonneg (Int.mul_nonneg x0 (by omega)) (Int.mul_nonneg y0 (by omega))
 ·have h1:=x.den_nz;have h2:=y.den_nz
  have:=Nat.mul_pos (Nat.pos_of_ne_zero h1) (Nat.pos_of_ne_zero h2)
  rw[<- Int.natCast_mul];omega
 ·rw[Nat.log2_lt (by have h1:=x.den_nz;have h2:=y.den_nz;rw[Int.natAbs_mul];exact Nat.mul_ne_zero (by omega) (by omega)),Int.natAbs_mul]
  refine Nat.lt_of_le_of_lt (Nat.mul_le_mul bx.den by'.den) ?_
  rw[<- Nat.pow_add]
  exact Nat.pow_lt_pow_right (by decide) (by omega)
 ·rw[cut_add];exact k
end
end G
set_option maxHeartbeats 1000000
namespace Mq
open PySem PySem.Spec L2 Mt Md
structure Cn (u:List Int) (rs:List (List Int)) (n k:Nat) (c:List Int):Prop where
 len:c.length=n
 nn:∀x∈c,0<=x/\x<=(k:Int)
 urn:Urn n (20+5*k) (beh u rs c)
noncomputable def cntD (n:Nat) (ds:List Nat):List Int:=(List.range n).map fun j=>((ds.count j:Nat):Int)
structure DrOk (u:List Int) (rs:List (List Int)) (n k:Nat) (e:List Nat × List Int × Rat):Prop where
 len:e.1.length=k
 lt:∀j∈e.1,j<n
 urn:e.2.1=beh u rs (cntD n e.1)
 ok:Urn n (20+5*k) e.2.1
 vq:Vq (LL ^ k) 1 e.2.2
end Mq
namespace Mq
open PySem PySem.Spec L2 Mt Md
end Mq
namespace Mt
noncomputable def rp (s g:Int):Nat->Int
 | 0=>1
 | n+1=>rp s g n*(s+(n:Int)*g)
noncomputable abbrev fct (n:Nat):Int:=rp 1 1 n
noncomputable def tot:List Nat->Nat
 | []=>0
 | c::cs=>c+tot cs
noncomputable def ords (a:Int):List Nat->Int
 | []=>a
 | c::cs=>ords (a / fct c) cs
noncomputable def ordN (cs:List Nat):Int:=ords (fct (tot cs)) cs
noncomputable def rps (g:Int):List Int->List Nat->Int
 | b::bs,c::cs=>rp b g c*rps g bs cs
 | _,_=>1
noncomputable def cch (ns:List Int) (g:Int) (cs:List Nat):Rat:=cut (ordN cs*rps g ns cs) (rp ns.sum g (tot cs))
end Mt
namespace Mt
noncomputable def bnow (g:Int) (ns:List Int) (cs:List Nat):List Int:=List.zipWith (fun b (c:Nat)=>b+g*(c:Int)) ns cs
end Mt
namespace Mq
open PySem PySem.Spec L2 Mt Md
noncomputable def decN (c:List Nat) (j:Nat):List Nat:=c.set j (c.getD j 0 - 1)
noncomputable def parts (ns:List Int) (g:Int) (c:List Nat) (j:Nat):Rat:=if 0<c.getD j 0 then cch ns g (decN c j)*share (bnow g ns (decN c j)) j else 0
end Mq
namespace Mq
open PySem PySem.Spec L2 Mt Md
theorem key_add {D:TabQ}{k x:List Int}{r:Rat} (h:x=k ∨ x∈D.map (·.1)):x∈(addQ D k r).map (·.1):=by
 induction D with
 | nil =>
  rcases h with h|h
  ·rw[h];exact List.mem_singleton.mpr rfl
  ·cases h
 | cons p D ih =>
  unfold addQ
  split
  ·rename_i e
   rcases h with h|h
   ·rw[h]
    exact List.mem_cons.mpr (.inl (by first|rfl|exact e.symm|exact e))
   ·rcases List.mem_cons.mp h with h|h
    ·exact List.mem_cons.mpr (.inl (by first|exact h | (rw[h];exact e) | (rw[h,e])))
    ·exact List.mem_cons.mpr (.inr h)
  ·rcases h with h|h
   ·exact List.mem_cons.mpr (.inr (ih (.inl h)))
   ·rcases List.mem_cons.mp h with h|h
    ·exact List.mem_cons.mpr (.inl h)
    ·exact List.mem_cons.mpr (.inr (ih (.inr h)))
theorem key_puts {x:List Int}{r:Rat}{s:Int}:∀{bs:List (Int × List Int)}{D:TabQ},((∃b∈bs,b.2=x) ∨ x∈D.map (·.1))->x∈(putsQ r s bs D).map (·.1)
 | [],D,h=>by
  rcases h with ⟨b,hb,_⟩|h
  ·cases hb
  ·exact h
 | b::bs,D,h=>by
  unfold putsQ
  refine key_puts (bs:=bs) ?_
  rcases h with ⟨c,hc,e⟩|h
  ·rcases List.mem_cons.mp hc with z|z
   ·exact .inr (key_add (.inl (by rw[<- e,z])))
   ·exact .inl ⟨c,z,e⟩
  ·exact .inr (key_add (.inr h))
theorem val_lin {x:List Int}:∀{T:TabQ},NDq T->linQ T (fun k=>if k=x then (1:Rat) else 0)=valQ T x
 | [],_=>rfl
 | p::T,h=>by
  have h1:p.1 ∉ T.map (·.1)/\NDq T:=by unfold NDq at h ⊢;rw[List.map_cons,List.nodup_cons] at h;exact h
  rw[linQ_cons,val_lin h1.2]
  show p.2*(if p.1=x then (1:Rat) else 0)+valQ T x=if p.1=x then p.2 else valQ T x
  by_cases e:p.1=x
  ·have hz:valQ T x=0:=valQ_no T (by rw[<- e];exact h1.1)
   rw[if_pos e,if_pos e,hz];grind
  ·rw[if_neg e,if_neg e];grind
end Mq
set_option maxHeartbeats 4000000
namespace Mq
open PySem PySem.Spec PyProof.Rows L2 Mt Md
structure Mor (n m N B L:Nat) (D:TabQ) (S:(List Int->Rat)->Rat) (ks:List Int->Prop):Prop where
 keys:KeysQ n m D
 nd:NDq D
 all:AllQ N B D
 len:D.length<=L
 lin:∀φ,linQ D φ=S φ
 mem:∀k,k∈D.map (·.1) ↔ ks k
theorem Mor.nil (n m N:Nat):Mor n m N 0 0 [] (fun _=>0) (fun _=>False):=
 ⟨fun p hp=>by simp at hp,by unfold NDq;simp,fun p hp=>by simp at hp,Nat.le_refl _,fun _=>rfl,fun k=>by simp⟩
theorem Mor.add {n m N B L C:Nat}{D:TabQ}{S:(List Int->Rat)->Rat}{ks:List Int->Prop}{k:List Int}{x:Rat} (h:Mor n m N B L D S ks) (hk:Urn n m k) (hx:Vq N C x):
  Mor n m N (B+C) (L+1) (addQ D k x) (fun φ=>S φ+x*φ k) (fun z=>z=k ∨ ks z) where
 keys:=h.keys.add hk
 nd:=nd_addQ h.nd
 all:=AllQ.add hx h.all
 len:=Nat.le_trans (len_addQ k x D) (Nat.succ_le_succ h.len)
 lin:=fun φ=>by rw[linQ_add,h.lin]
 mem:=fun z=>by
  constructor
  ·intro hz
   obtain ⟨p,hp,rfl⟩:=List.mem_map.mp hz
   rcases keys_addQ hp with e|⟨q,hq,e⟩
   ·exact .inl e
   ·exact .inr ((h.mem _).mp (List.mem_map.mpr ⟨q,hq,e⟩))
  ·rintro (e|e)
   ·exact key_add (.inl e)
   ·exact key_add (.inr ((h.mem _).mpr e))
theorem Mor.eqS {n m N B L:Nat}{D:TabQ}{S S':(List Int->Rat)->Rat}{ks ks':List Int->Prop} (h:Mor n m N B L D S ks) (e1:∀φ,S φ=S' φ) (e2:∀k,ks k ↔ ks' k):Mor n m N B L D S' ks' :=
 ⟨h.keys,h.nd,h.all,h.len,fun φ=>(h.lin φ).trans (e1 φ),fun k=>(h.mem k).trans (e2 k)⟩
theorem Mor.mono {n m N B B' L L':Nat}{D:TabQ}{S:(List Int->Rat)->Rat}{ks:List Int->Prop} (h:Mor n m N B L D S ks) (hB:B<=B') (hL:L<=L'):Mor n m N B' L' D S ks :=
 ⟨h.keys,h.nd,h.all.mono hB,Nat.le_trans h.len hL,h.lin,h.mem⟩
theorem key_nextL {rs:List (List Int)}{k:List Int}:∀{T D:TabQ},((∃p∈T,∃b∈ubo rs p.1,b.2=k) ∨ k∈D.map (·.1))->k∈(nextLQ rs T D).map (·.1)
 | [],D,h=>by
  rcases h with ⟨p,hp,_⟩|h
  ·simp at hp
  ·exact h
 | q::T,D,h=>by
  show k∈(nextLQ rs T (putsQ q.2 q.1.sum (ubo rs q.1) D)).map (·.1)
  refine key_nextL ?_
  rcases h with ⟨p,hp,b,hb,e⟩|h
  ·rcases List.mem_cons.mp hp with rfl|hp
   ·exact .inr (key_puts (.inl ⟨b,hb,e⟩))
   ·exact .inl ⟨p,hp,b,hb,e⟩
  ·exact .inr (key_puts (.inr h))
theorem mem_next {rs:List (List Int)}{k:List Int}{T:TabQ}:k∈(nextQ rs T).map (·.1) ↔ ∃p∈T,∃b∈ubo rs p.1,b.2=k:=by
 constructor
 ·intro h
  obtain ⟨q,hq,rfl⟩:=List.mem_map.mp h
  rcases nextLQ_keys hq with ⟨p,hp,b,hb,e⟩|⟨z,hz,_⟩
  ·exact ⟨p,hp,b,hb,e.symm⟩
  ·simp at hz
 ·intro h
  exact key_nextL (.inl h)
theorem mem_one {rs:List (List Int)}{u k:List Int}:k∈(chQ rs 1 [(u,1)]).map (·.1) ↔ ∃b∈ubo rs u,b.2=k:=by
 show k∈(nextQ rs [(u,1)]).map (·.1) ↔ _
 rw[mem_next]
 constructor
 ·rintro ⟨p,hp,h⟩
  rw[List.mem_singleton.mp hp] at h
  exact h
 ·intro h
  exact ⟨_,List.mem_singleton.mpr rfl,h⟩
theorem lin_one {n m:Nat}{rs:List (List Int)}{u:List Int} (hu:Urn n m u) (φ:List Int->Rat):linQ (chQ rs 1 [(u,1)]) φ=opQ rs φ u:=by
 show linQ (nextQ rs [(u,1)]) φ=_
 rw[linQ_next (fun p hp=>by rw[List.mem_singleton.mp hp];exact ⟨fun b hb=>(hu.nn b hb).1,hu.pos⟩),linQ_cons]
 show 1*_+(0:Rat)=_
 grind
theorem more_perm {n N B L m m':Nat}{rs:List (List Int)}{T T0 D:TabQ} (h:Mor n m N B L D (fun φ=>linQ T (opQ rs φ)) (fun k=>∃p∈T,k∈(chQ rs 1 [(p.1,1)]).map (·.1))) (hT:T.Perm T0) (hK:KeysQ n m' T0) (hnd:NDq (nextQ rs T0)):D.Perm (nextQ rs T0):=by
 refine perm_of_val h.nd hnd (fun k=>?_) (fun k=>?_)
 ·rw[h.mem,mem_next]
  constructor
  ·rintro ⟨p,hp,hk⟩
   exact ⟨p,hT.mem_iff.mp hp,mem_one.mp hk⟩
  ·rintro ⟨p,hp,hk⟩
   exact ⟨p,hT.mem_iff.mpr hp,mem_one.mpr hk⟩
 ·rw[<- val_lin h.nd,<- val_lin hnd,h.lin,linQ_next hK.pos,linQ_perm hT]
end Mq
namespace L2
open PySem PySem.Spec PyProof.Rows
section
variable {K:W.Frag}{σ0:St}{te:TE}{H:Hp}{F:List V->Hp->Prop}
end
end L2
namespace L2
open PySem PySem.Spec PyProof.Rows
section
variable {prog:Program}{w:World}{A:Around}{E:Value->Shared->Prop}{s:Shared}
structure ZipTL (h:Heap) (z TI TO i1 i2 t1 t2:Addr) (k:Nat):Prop where
 zz:IsZip h z TI TO .none
 ti:IsPair h TI (.ref i1) (.ref i2)
 tO:∃a b,IsPair h TO a b
 it1:h.IsTupleIter i1 t1 k
 it2:h.IsListIter i2 t2 k
end
section
variable {X:Cx}{pins:List (Addr × Obj)}{σ:St}{H:Hp}{s:Shared}
end
section
variable {X:Cx}{K:W.Frag}
end
section
variable {X:Cx}{K:W.Frag}
end
section
variable {prog:Program}{w:World}{A:Around}{E:Value->Shared->Prop}{s:Shared}
structure ZipLM (h:Heap) (z TI TO i1 i2 t1 t2:Addr) (k:Nat):Prop where
 zz:IsZip h z TI TO .none
 ti:IsPair h TI (.ref i1) (.ref i2)
 tO:∃a b,IsPair h TO a b
 it1:h.IsListIter i1 t1 k
 it2:h.IsListIter i2 t2 k
end
section
variable {X:Cx}{pins:List (Addr × Obj)}{σ:St}{H:Hp}{s:Shared}
end
section
variable {X:Cx}{K:W.Frag}
end
end L2
namespace L2
open PySem PySem.Spec PyProof.Rows
section
variable {prog:Program}{w:World}{A:Around}{E:Value->Shared->Prop}{s:Shared}
end
section
variable {X:Cx}{pins:List (Addr × Obj)}{σ:St}{H:Hp}{s:Shared}
end
end L2
namespace L2
open PySem PySem.Spec PyProof.Rows
section
variable {prog:Program}{w:World}{A:Around}{E:Value->Shared->Prop}{s:Shared}
theorem keysR_iter {d:Addr}{od:Obj}{es:Array DictEntry}{ep:Nat}{Q:Value->Shared->Prop} (hd:(d == sysModules)=false) (hT:s.TypeIs (.ref d) "dict") (at_d:s.heap.get? d=some od) (dat:od.data=.dict es ep)
  (q:Q (.ref s.heap.objs.size) { s with heap:=s.heap.push { cls:=.type "dict_keyiterator",data:=.fields #[.ref d,.int 0 0,.int es.size 0,.int ep 0] } }):
  wpAny (model prog w) A (pyIter (.ref d)) Q E s:=by
 refine wpAny_pyIter_slot hT F.slot_dict_iter (wpAny_call_entry F.slot_dict_iter hT F.entry_dict_iter ?_ (F.args_dict_iter_1 _))
 unfold Builtin.«dict.__iter__»
 refine wpAny_bind ?_
 unfold Builtin.Dict.dictSlotNone
 refine wpAny_bind (wpAny_notOrdered_dict hT ?_)
 show wpAny _ _ (pure (Value.ref d)) _ _ s
 refine wpAny_pure ?_
 show wpAny _ _ (Builtin.Dict.showsAll d >>= _) _ _ s
 unfold Builtin.Dict.showsAll
 rw[if_neg (by rw[hd];exact Bool.false_ne_true)]
 refine wpAny_bind (wpAny_pure ?_)
 refine wpAny_bind (wpAny_dictEntries at_d dat (wpAny_bind (wpAny_dictEpoch at_d dat ?_)))
 refine wpAny_bind ?_
 unfold newFields
 refine wpAny_newObj_type (wpAny_pure ⟨_,rfl,"dict_keyiterator",_,⟨_,Heap.get?_push_size _ rfl,rfl⟩,F.slot_dict_keyiterator_next.lookup,?_⟩)
 simpa [rawInt] using q
theorem keysR_item {it d:Addr}{i ep:Nat}{od:Obj}{es:Array DictEntry}{en:DictEntry}{Q:Option Value->Shared->Prop} (on:s.heap.IsKeyIter it d i es.size ep)
  (at_d:s.heap.get? d=some od) (dat:od.data=.dict es ep) (hx:es[i]?=some en)
  (q:∀h',h'.IsKeyIter it d (i+1) es.size ep->Heap.SameBut it s.heap h'->Q (some en.key) { s with heap:=h' }):wpAny (model prog w) A (pyNext (.ref it)) Q E s:=by
 obtain ⟨ob,at_i,cls_i,flds⟩:=id on
 unfold pyNext
 refine wpAny_bind (wpAny_attempt (wpAny_callSpecial?_slot (name:=Str.ofString "__next__") on.typeIs F.slot_dict_keyiterator_next (wpAny_call_entry F.slot_dict_keyiterator_next on.typeIs F.entry_dict_keyiterator_next ?_ (F.args_dict_keyiterator_next_1 _))))
 refine wpAny_bind (wpAny_pure (wpAny_bind (wpAny_bind ?_)))
 first|refine wpAny_bind (wpAny_typeNameOfWhole_keyiter on.typeIs (wpAny_pure ?_))|refine wpAny_bind (wpAny_typeNameOf_keyiter on.typeIs (wpAny_pure ?_))
 refine wpAny_bind (wpAny_fieldsOf at_i flds ?_)
 have own:Builtin.Dict_items.ownsTuple "dict_keyiterator"=false:=by decide
 simp only[own,Bool.false_eq_true,if_false]
 show wpAny _ _ (if (Value.ref d == Value.none)=true then _ else _) _ _ s
 rw[if_neg (show ¬ ((Value.ref d == Value.none)=true) from Bool.false_ne_true)]
 refine wpAny_bind (wpAny_pure (wpAny_bind (wpAny_dictEntries at_d dat ?_)))
 rw[if_neg (by simp)]
 refine wpAny_bind (wpAny_pure (wpAny_bind (wpAny_dictEpoch at_d dat ?_)))
 rw[if_neg (by simp)]
 refine wpAny_pure ?_
 have lt:i<es.size:=(Array.getElem?_eq_some_iff.mp hx).1
 have ev:es[i]=en:=by rw[Array.getElem?_eq_getElem lt] at hx;exact Option.some.inj hx
 simp only[show ¬ ((i:Int)<0) from by omega,if_false,Int.toNat_natCast,Array.getElem?_eq_getElem lt]
 refine wpAny_bind ?_
 first|refine wpAny_bind (wpAny_typeNameOfWhole_keyiter on.typeIs (wpAny_pure ?_))|refine wpAny_bind (wpAny_typeNameOf_keyiter on.typeIs (wpAny_pure ?_))
 refine wpAny_bind (wpAny_isOneOf_keyiter on.typeIs ?_)
 show wpAny _ _ (setField (.ref it) 1 (rawInt ((i:Int)+1)) >>= _) _ _ s
 refine wpAny_bind (wpAny_setField at_i flds (by simp) ?_)
 have on':(s.heap.update it (Obj.mapFields (·.setIfInBounds 1 (rawInt ((i:Int)+1))))).IsKeyIter it d (i+1) es.size ep :=
  ⟨_,Heap.get?_update_self _ at_i (Obj.isFreed_of_fields (Obj.data_mapFields flds _)),(Obj.cls_mapFields ..).trans cls_i,by rw[Obj.data_mapFields flds];simp[rawInt]⟩
 have ty':Shared.TypeIs { s with heap:=s.heap.update it (Obj.mapFields (·.setIfInBounds 1 (rawInt ((i:Int)+1)))) } (.ref it) "dict_keyiterator":=on'.typeIs (s:={ s with heap:=s.heap.update it (Obj.mapFields (·.setIfInBounds 1 (rawInt ((i:Int)+1)))) })
 refine wpAny_bind (wpAny_holding (wpAny_bind (wpAny_isOneOf_keyiter ty' ?_)))
 show wpAny _ _ (pure es[i].key) _ _ _
 rw[ev]
 exact wpAny_pure (wpAny_pure ⟨_,rfl,wpAny_pure (q _ on' (Heap.SameBut.update ..))⟩)
theorem keysR_end {it d:Addr}{i ep:Nat}{od:Obj}{es:Array DictEntry}{Q:Option Value->Shared->Prop} (hh:A.handled=none) (on:s.heap.IsKeyIter it d i es.size ep)
  (at_d:s.heap.get? d=some od) (dat:od.data=.dict es ep) (hge:es.size<=i) (q:∀h',Heap.ExtBut it s.heap h'->Q none { s with heap:=h' }):wpAny (model prog w) A (pyNext (.ref it)) Q E s:=by
 obtain ⟨ob,at_i,cls_i,flds⟩:=id on
 unfold pyNext
 refine wpAny_bind (wpAny_attempt (wpAny_callSpecial?_slot (name:=Str.ofString "__next__") on.typeIs F.slot_dict_keyiterator_next (wpAny_call_entry F.slot_dict_keyiterator_next on.typeIs F.entry_dict_keyiterator_next ?_ (F.args_dict_keyiterator_next_1 _))))
 refine wpAny_bind (wpAny_pure (wpAny_bind (wpAny_bind ?_)))
 first|refine wpAny_bind (wpAny_typeNameOfWhole_keyiter on.typeIs (wpAny_pure ?_))|refine wpAny_bind (wpAny_typeNameOf_keyiter on.typeIs (wpAny_pure ?_))
 refine wpAny_bind (wpAny_fieldsOf at_i flds ?_)
 have own:Builtin.Dict_items.ownsTuple "dict_keyiterator"=false:=by decide
 simp only[own,Bool.false_eq_true,if_false]
 show wpAny _ _ (if (Value.ref d == Value.none)=true then _ else _) _ _ s
 rw[if_neg (show ¬ ((Value.ref d == Value.none)=true) from Bool.false_ne_true)]
 refine wpAny_bind (wpAny_pure (wpAny_bind (wpAny_dictEntries at_d dat ?_)))
 rw[if_neg (by simp)]
 refine wpAny_bind (wpAny_pure (wpAny_bind (wpAny_dictEpoch at_d dat ?_)))
 rw[if_neg (by simp)]
 refine wpAny_pure ?_
 simp only[show ¬ ((i:Int)<0) from by omega,if_false,Int.toNat_natCast,Array.getElem?_eq_none hge]
 refine wpAny_bind ?_
 first|refine wpAny_bind (wpAny_typeNameOfWhole_keyiter on.typeIs (wpAny_pure ?_))|refine wpAny_bind (wpAny_typeNameOf_keyiter on.typeIs (wpAny_pure ?_))
 show wpAny _ _ (setField (.ref it) 0 .none >>= _) _ _ s
 refine wpAny_bind (wpAny_setField at_i flds (by simp) ?_)
 show wpAny _ _ (newExc (.type "StopIteration") [] >>= _) _ _ _
 refine wpAny_bind ?_
 simp only[newExc,newTuple]
 refine wpAny_bind (wpAny_newObj_type ?_ (by size_fits))
 refine wpAny_bind (m:=firstArgMember _ _) (wpAny_of_eq (a:=Value.none) (by first|rfl | (simp only[firstArgMember];rfl)) ?_)
 refine wpAny_newObj_type ?_ (by size_fits)
 simp only[raiseNew]
 refine wpAny_bind (wpAny_handled ?_)
 rw[show A.in1.handled=none from hh]
 refine wpAny_bind (wpAny_pure (wpAny_throw ?_))
 refine wpAny_bind (wpAny_isInstance (T:="StopIteration") (b:=true) ⟨_,Heap.get?_push_size _ rfl,rfl⟩ isSubtype_stop ?_)
 exact wpAny_pure (q _ (((Heap.SameBut.update ..).extBut.push _).push _))
end
section
variable {X:Cx}{pins:List (Addr × Obj)}{σ:St}{H:Hp}{s:Shared}
noncomputable def Itk (d:Addr) (o:Obj) (kvs:List (List Key × V)):It :=
 ⟨fun i H=>H d=some (.frz o (.dT kvs))/\i<kvs.length,fun i H v H'=>∃ka k x,v=.ref ka/\H'=H/\kvs[i]?=some (k,x)/\H ka=some (.tup (k.map kV)),fun i H=>H d=some (.frz o (.dT kvs))/\kvs.length<=i⟩
theorem turn_keys {P:Program}{w:World}{K:W.Frag}{tg:Expr}{d it:Addr}{o:Obj}{kvs:List (List Key × V)}{es:Array DictEntry}{ep:Nat} (hd:o.data=.dict es ep):
  Turn P w K tg (Itk d o kvs) [it] it (fun i h=>h.IsKeyIter it d i es.size ep) where
 mem:=by simp
 obj:=fun i h st c hc=>by
  obtain ⟨ob,e,_,dd⟩:=st
  simp only[List.mem_cons,List.not_mem_nil,or_false] at hc
  subst hc
  exact ⟨_,e,fun v q=>by rw[dd] at q;cases q⟩
 keep:=fun i h h' st k=>st.at fun o e=>k it (by simp) o e
 item:=by
  intro X hP hw hK hc i pins s σ H E I hf st hg
  subst hP hw hK
  obtain ⟨hF,hi⟩:=hg
  obtain ⟨h1,hsz,hget⟩:=I.frzT hF hd
  obtain ⟨⟨k,x⟩,hkx⟩:∃kx,kvs[i]?=some kx:=⟨_,List.getElem?_eq_getElem hi⟩
  obtain ⟨ka,u,en,e1,e2,e3,e4,ru⟩:=hget i k x hkx
  obtain ⟨f0,f1,f2,f3,f4,f5⟩:=hf it (by simp)
  refine keysR_item st h1 hd e1 fun h' st' sb=>?_
  rw[e2]
  have I1:Inv X pins σ H { s with heap:=h' }:=I.turned (t':=s.toks) (fun b o hb e=>(sb.2 b hb).trans e) f0 f1 f3 f4 f5
  obtain ⟨ob,e,c,dd⟩:=id st'
  exact ⟨_,rfl,go_of (s:={ s with heap:=h' }) e c dd (by decide) ⟨.ref ka,H,I1,rfl,⟨ka,k,x,rfl,rfl,hkx,e4⟩,st',fun b hb=>(hf b hb).1⟩⟩
 done:=by
  intro X hP hw hK hc i pins s σ H E I hf st hg
  subst hP hw hK
  obtain ⟨hF,hi⟩:=hg
  obtain ⟨h1,hsz,_⟩:=I.frzT hF hd
  exact keysR_end (I.ok.hd hc) st h1 hd (by omega) fun h' keep=>⟨rfl,I.turnedL (t':=s.toks) (ch:=[it]) (fun c o hc e=>keep c o (fun q=>hc (by simp[q])) e) hf⟩
 self:=fun _ _ _ _ _ st h=>wpAny_pyIter_keyiter st h
noncomputable def iKeys (td:TE):TI:=fun σ H R=>td σ H fun x H1=>∃d kvs,x=.ref d/\H1 d=some (.dT kvs)/\∀o,R (Itk d o kvs) (upd H1 d (.frz o (.dT kvs)))
theorem pi_keys {e tg:Expr}{td:TE} (ho:PE X e td):PI X tg e (iKeys td):=by
 intro pins s σ H R I h
 refine thn (ho pins s σ H _ I h) fun v s1 ⟨x,H1,I1,r1,d,kvs,ex,hd,q⟩=>?_
 subst ex
 cases r1
 obtain ⟨o,es,ep,hdat,hob,I2⟩:=I1.freeze hd
 obtain ⟨_,hsys,_,_,o',_,_,hob',hex,_⟩:=(show ObjOk X.prog X.w H1 s1.heap d (.dT kvs) from I1.hok d _ hd)
 rw[hob] at hob'
 cases hob'
 refine keysR_iter hsys ⟨o,hob,hex.1⟩ hob hdat ?_
 refine ⟨_,[_],_,_,upd H1 d (.frz o (.dT kvs)),rfl,I2.kept (t':=s1.toks) fun b o e=>Heap.get?_push_of_some _ e,turn_keys hdat,⟨_,Heap.get?_push_size _ rfl,rfl,rfl⟩,fun b hb=>?_,q o⟩
 have e:b=s1.heap.objs.size:=by simpa using hb
 subst e
 exact I2.fpOk (Nat.le_refl _) (I2.hok.fresh (Nat.le_refl _))
end
theorem blk_keys {K:W.Frag}{d:Addr}{o:Obj}{kvs:List (List Key × V)}{σ0:St}{tc:TT}{te:TE}{H:Hp}{F:List V->Hp->Prop} (hn:kvs.length<=sizeLine) (Pv:Nat->List V->Hp->Prop) (h0:Pv 0 [] H) (hl:∀i ys H,Pv i ys H->ys.length<=i)
  (hq:∀i ys H,i<=kvs.length->Pv i ys H->H d=some (.frz o (.dT kvs))) (hσ:σ0[0]?=some none)
  (hs:∀i ys H k x ka,kvs[i]?=some (k,x)->H ka=some (.tup (k.map kV))->Pv i ys H->tc (σ0.set 0 (some (.ref ka))) H fun b H5=>if b=true then te (σ0.set 0 (some (.ref ka))) H5 (fun z H'=>Pv (i+1) (ys++[z]) H') else Pv (i+1) ys H5)
  (hd:∀ys H,Pv kvs.length ys H->F ys H):Blk (Itk d o kvs) σ0 (gName 0) tc te H F:=by
 refine ⟨fun i m ys H=>m=kvs.length - i/\i<=kvs.length/\Pv i ys H,⟨kvs.length,by simp,Nat.zero_le _,h0⟩,?_⟩
 rintro i m ys H2 ⟨rfl,hi,p⟩
 have q:=hq i ys H2 hi p
 have hlen:=hl i ys H2 p
 refine ⟨by omega,?_⟩
 by_cases hlt:i<kvs.length
 ·refine .inr ⟨⟨q,hlt⟩,fun y H'=>Pv (i+1) (ys++[y]) H',fun H'=>Pv (i+1) ys H',fun y H' q=>⟨kvs.length - (i+1),by omega,rfl,hlt,q⟩,fun H' q=>⟨kvs.length - (i+1),by omega,rfl,hlt,q⟩,fun v H3 yld=>?_⟩
  obtain ⟨ka,k,x,rfl,rfl,hx,hk⟩:=yld
  exact ⟨Wk.set (.inl hσ),hs i ys _ k x ka hx hk p⟩
 ·have e:i=kvs.length:=by omega
  subst e
  exact .inl ⟨⟨q,Nat.le_refl _⟩,hd ys H2 p⟩
section
variable {X:Cx}
noncomputable def rNotInT (K:W.Frag):R2:=fun x y H Q=>∃(a p:Addr) (u:List Int) (as:List Addr),x=.ref a/\y=.ref p/\H a=some (.tup (u.map V.int))/\SqL K H p (as.map V.ref)/\(∀q∈as,∃ns:List Int,H q=some (.tup (ns.map V.int))) /\
 ∀b:Bool,(b=true ↔ ∃q∈as,H q=some (.tup (u.map V.int)))->Q (.bl (!b)) H
open Classical in
theorem op_notInT (hu:X.A.units+64<cLine):OpR X (compareOp .NotIn) (rNotInT X.K):=by
 intro pins s σ H x y v w Q I rx ry h
 obtain ⟨a,p,u,as,rfl,rfl,ha,hq,hn,q⟩:=h
 cases rx
 cases ry
 obtain ⟨its,r,pl,hz⟩:=I.list hq
 have eits:=refs_vals r
 subst eits
 refine SeqAt.notIn_listAt (fun w=>match w with | .ref q=>decide (H q=some (.tup (u.map V.int)))|_=>false) pl.isList (fun w hw=>?_) ⟨.bl _,H,I,rfl,q _ ?_⟩
 ·obtain ⟨b,hb,rfl⟩:=List.mem_map.mp (by simpa using hw)
  obtain ⟨ns,hns⟩:=hn b hb
  have d1:Dt (a+b+1) H (DI ns) (.ref b):=Dt.mkI (Nat.ne_of_lt (Nat.lt_succ_of_le (Nat.le_add_left b a))) hns
  have d2:Dt (a+b+1) H (DI u) (.ref a):=Dt.mkI (Nat.ne_of_lt (Nat.lt_succ_of_le (Nat.le_add_right a b))) ha
  obtain ⟨xs,ra⟩:=d1.reads I.hok ((layI ns).1) (v:=.ref b) rfl
  obtain ⟨zs,rb⟩:=d2.reads I.hok ((layI u).1) (v:=.ref a) rfl
  have:=SeqAt.eqAt_reads (DI ns) (DI u) X.A.in1 s (.ref b) (.ref a) xs zs ra rb ((layI ns).1) ((layI u).1) (by
   have:=(layI ns).2
   show X.A.units+1+_<_
   omega)
  rw[eqvI] at this
  have e:decide (ns=u)=decide (H b=some (.tup (u.map V.int))):=by
   rw[hns]
   by_cases z:ns=u
   ·subst z;simp
   ·have:¬ (some (HO.tup (ns.map V.int))=some (HO.tup (u.map V.int))):=fun e=>z (by
     injection e with e;injection e with e
     exact (List.map_inj_right fun x y e=>by injection e).mp e)
    simp[z,this]
  rw[e] at this
  exact this
 ·simp only[List.any_toArray,List.any_map,List.any_eq_true,Function.comp,decide_eq_true_eq]
end
end L2
namespace G
open PySem PySem.Spec PyProof.Rows L2 Mt Md Mq
theorem len512 {E i:Nat} (hE:E<=2 ^ 52) (hi:i<=512):E*i<=2 ^ 61:=by
 have:(2:Nat) ^ 61=2 ^ 52*512:=by decide
 rw[this];exact Nat.mul_le_mul hE hi
theorem four_le {k:Nat} (hk:k<=5):4 ^ (k*k)*4<=2 ^ 52:=by
 have h:4 ^ (k*k)<=4 ^ 25:=Nat.pow_le_pow_right (by decide) (by
  have:=Nat.mul_le_mul hk hk;omega)
 have e:(2:Nat) ^ 52=4 ^ 25*4:=by decide
 rw[e];exact Nat.mul_le_mul_right _ h
theorem bq_prl {H:Hp}:∀{kvs:List (List Key × V)}{ys:List V},(∀(i:Nat) (y:V),ys[i]?=some y->∃k x r ka,kvs[i]?=some (k,x)/\y=.ref r/\H r=some (.tup [.ref ka,x])/\H ka=some (.tup (k.map kV)))->ys.length=kvs.length->PrL H kvs ys
 | [],[],_,_=>trivial
 | (k,x)::kvs,y::ys,h,e=>by
  obtain ⟨k',x',r,ka,e1,e2,e3,e4⟩:=h 0 y rfl
  cases e1
  exact ⟨⟨r,ka,e2,e3,e4⟩,bq_prl (fun i y hy=>h (i+1) y (by simpa using hy)) (by simpa using e)⟩
 | [],_::_,_,e=>by simp at e
 | _::_,[],_,e=>by simp at e
theorem valV_get {k:List Key}{x:V}:∀{kvs:List (List Key × V)}{i:Nat},(kvs.map (·.1)).Nodup->kvs[i]?=some (k,x)->valV kvs k=some x
 | [],i,_,h=>by simp at h
 | p::kvs,0,_,h=>by
  cases h
  exact valV_pos rfl
 | p::kvs,i+1,hn,h=>by
  rw[List.map_cons,List.nodup_cons] at hn
  have h':kvs[i]?=some (k,x):=by simpa using h
  rw[valV_neg fun e=>hn.1 (List.mem_map.mpr ⟨_,List.mem_of_getElem? h',e.symm⟩)]
  exact valV_get hn.2 h'
section
variable {P:Program}{w:World}{K:W.Frag}{mg:Str->Option Value}{base:Heap}{f:Addr}{fd:FuncData}{ec:Nat->Addr}{Bs:Addr}
noncomputable def sp_more:Sp:=fun vs H Q _=>∃(a st:Addr) (v:V) (n k:Nat) (ns:List Int) (rs:List (List Int)) (T:TabQ) (ys:List V),vs=[.ref a,v]/\H a=some (.lst ys)/\BQ H T ys/\T.Perm (chQ rs k [(ns,1)])/\Dt st H (DR rs) v/\Mt.Rul n 5 rs/\1<=n/\n<=4/\Mt.Urn n 20 ns/\k<=5/\(∀p∈T,Mt.Urn n 20 p.1) /\
 ∀D ys' T' H',Same H H'->T'.Perm (chQ rs (k+1) [(ns,1)])->OrdQ T'->H' D=some (.lst ys')->BQ H' T' ys'->Q (.ref D) H'
noncomputable abbrev s_more:Stmt:=top 56
theorem sc_more:FnScope ["_law_some","_law_rule_here","_law_found","_law_one","_law_odds","_law_there","_law_part"] ["_law_some","_law_rule_here"] (defScope s_more):=⟨rfl,rfl,rfl,by decide +kernel,rfl,by decide +kernel,by decide +kernel⟩
theorem ok_more (F:Fun K "_law_more" "_law_more" s_more f fd) (B3:Bt3 mg) (c1:CalX P w K mg base 7 "stands" ["urn","rule","draws"] (sp_st ec)) (c2:Cal P w K mg base 7 "_law_plus" ["_law_one","_law_other"] sp_plus) (c3:Cal P w K mg base 7 "_law_by" ["_law_one","_law_other"] sp_times):FnOk P w K mg base CX0 8 f fd ["_law_some","_law_rule_here"] sp_more:=by
 refine F.ok sc_more (fun vs H Q E h=>?_) (fun cdv A outer s H vs Q E hr h=>?_)
 ·obtain ⟨a,st,v,n,k,ns,rs,T,ys,rfl,_⟩:=h
  rfl
 obtain ⟨a,st,v,n,k,ns,rs,T,ys,rfl,ha,hB,hTp,hv,hR,n1,n4,hU,k5,hT20,q⟩:=h
 refine ⟨_,(@pss_cons _ _ _ _ _ (@ps_set _ _ 2 _ _ _ _ sc_more.nd rfl (Or.inr rfl) pe_dnewT (by rfl) (by first|exact .inl rfl|exact .inr rfl))
  (@pss_cons _ _ _ _ _ (ps_for PassesOwn.never rfl (pi_list (pv 0)) (pg_tup rfl (pgs_cons (pg_name (i:=3) sc_more.nd rfl (Or.inl rfl)) (pgs_cons (pg_name (i:=4) sc_more.nd rfl (Or.inl rfl)) pgs_nil)))
  (@pss_one _ _ _ (ps_for PassesOwn.never rfl (pi_list (pe_calx c1 hr rfl pass10 (@pa_cons _ _ _ _ _ (pv 3) (@pa_cons _ _ _ _ _ (pv 1) (@pa_cons _ _ _ _ _ pe_int pa_nil (by rfl)) (by rfl)) (by rfl)))) (pg_tup rfl (pgs_cons (pg_name (i:=5) sc_more.nd rfl (Or.inl rfl)) (pgs_cons (pg_name (i:=6) sc_more.nd rfl (Or.inl rfl)) pgs_nil)))
  (@pss_one _ _ _ (ps_dput (hu_of hr) (pv 2) (pv 5) (pe_cal c2 hr rfl (@pa_cons _ _ _ _ _ (pe_dget2 (hu_of hr) (pv 2) (pv 5) (@pe_tup _ _ _ _ _ (@pa_cons _ _ _ _ _ pe_int (@pa_cons _ _ _ _ _ pe_int pa_nil (by rfl)) (by rfl))) ⟨rfl,rfl,rfl,rfl⟩) (@pa_cons _ _ _ _ _ (pe_cal c3 hr rfl (@pa_cons _ _ _ _ _ (pv 4) (@pa_cons _ _ _ _ _ (pv 6) pa_nil (by rfl)) (by rfl))) pa_nil (by rfl)) (by rfl))) rfl)))))
  (@pss_one _ _ _ (ps_ret (pe_callB (call_sortP hr.units) rfl B3.sorted boot_sorted (@pa_cons _ _ _ _ _ (pe_compG (N:=["_law_one","_law_found"]) (ix:=[none,some 2]) (ifs:=[]) (tc:=tTrue) rfl (pi_keys (pv 2))
   (fun s H ex=>pg_c (i:=0) (by decide +kernel) rfl (Or.inl rfl) (.inr rfl)) (fun s H ex=>pifs_nil) (fun s H ex=>(@pe_tup _ _ _ _ _ (@pa_cons _ _ _ _ _ (pv 0) (@pa_cons _ _ _ _ _ (pe_dget (hu_of hr) (pv 1) (pv 0) (fun _ _=>rfl)) pa_nil (by rfl)) (by rfl)))) rfl (by decide +kernel) (by rfl) (by rfl) (fun _=>rfl)) pa_nil (by rfl))))))),?_⟩
 intro lt hlt
 have g0:Same H (upd H lt (.dT [])):=Same.new hlt
 have hlt0:upd H lt (.dT []) lt=some (.dT []):=upd_same
 have hv0:Dt lt (upd H lt (.dT [])) (DR rs) v:=Dt_toD hlt0 (hv.kp (g0.kp st))
 try dsimp -proj only
 generalize upd H lt (.dT [])=H0 at g0 hlt0 hv0
 have ha0:=g0 _ _ ha
 have hB0:=hB.same g0
 have ndt:∀(ps:List (List Key × V)) xs,HO.dT ps≠.tup xs:=fun _ _ z=>by cases z
 have nlst:a≠lt:=ne_of_none ha hlt
 obtain ⟨kk1,kk2,kk3,kk4⟩:=ch_ok hR n4 hU k (by omega)
 have hTl:T.length<128:=by rw[hTp.length_eq];exact ch_len128 hR n1 n4 hU (by omega)
 have hTv:AllQ (LL ^ k) (4 ^ (k*k)) T:=fun p hp=>kk3 p (hTp.mem_iff.mp hp)
 generalize hE:4 ^ (k*k)*4=En
 generalize hN:LL ^ k*LL=N
 have hEn:En<=2 ^ 52:=by rw[<- hE];exact four_le k5
 have hN0:0<N:=by rw[<- hN];exact Nat.mul_pos (LLp_pos k) LL_pos
 have hN1:N<=2 ^ 1800:=by
  rw[<- hN]
  have e:(2:Nat) ^ 1800=2 ^ 1500*2 ^ 300:=by rw[<- Nat.pow_add]
  rw[e]
  exact Nat.mul_le_mul (Nat.le_trans (LL_pow k) (Nat.pow_le_pow_right (by decide) (by omega))) LL_le
 have big:∀X:Nat,X<=2 ^ 61->N*X<=2 ^ 1861:=fun X hX=>by
  have e:(2:Nat) ^ 1861=2 ^ 1800*2 ^ 61:=by rw[<- Nat.pow_add]
  rw[e];exact Nat.mul_le_mul hN1 hX
 have hN2:N<=2 ^ 1861:=Nat.le_trans hN1 (Nat.pow_le_pow_right (by decide) (by decide))
 refine ⟨_,rfl,a,rfl,⟨_,.of ha0⟩,?_⟩
 refine for_list (K:=K) (a:=a) (xs:=ys) (fun i σ H2=>Kp lt H0 H2/\(∃D ks,H2 lt=some (.dT ks)/\QE H2 D ks/\Mor n 25 N (En*(4*i)) (4*i) D (fun φ=>linQ (T.take i) (opQ rs φ)) (fun z=>∃p∈T.take i,z∈(chQ rs 1 [(p.1,1)]).map (·.1)))/\i<=ys.length/\∃o3 o4 o5 o6,σ=[some (.ref a),some v,some (.ref lt),o3,o4,o5,o6])
  ⟨Kp.refl _ _,⟨[],[],hlt0,trivial,(Mor.nil n 25 N).eqS (fun φ=>rfl) (fun z=>by simp)⟩,Nat.zero_le _,none,none,none,none,rfl⟩ (fun i σ H2 _ h=>.of (h.1 _ _ nlst ha0)) (fun i t σ H2 ht h=>?_) (fun σ H2 h=>?_)
 ·obtain ⟨k2,⟨D2,ks2,hl2,hq2,hM2⟩,hi,o3,o4,o5,o6,rfl⟩:=h
  obtain ⟨um,r,ka,xq,hum,rfl,hr',hka,hxq⟩:=hB0.get ht
  obtain ⟨u,x⟩:=um
  simp only at hka hxq
  have t02:=kp_tup hlt0 (ndt _) k2
  have hil:=(List.getElem?_eq_some_iff.mp hum).1
  have hmem:=List.mem_of_getElem? hum
  have hku:Mt.Urn n 20 u:=hT20 (u,x) hmem
  have hxv:Vq (LL ^ k) (4 ^ (k*k)) x:=hTv (u,x) hmem
  have hka2:=t02 _ _ hka
  have hxq2:=t02 _ _ hxq
  refine ⟨r,_,rfl,.of (t02 _ _ hr'),rfl,_,_,rfl,_,_,rfl,rfl,?_⟩
  refine ⟨_,rfl,_,rfl,.inr ⟨lt,ka,v,n,1,u,rs,rfl,⟨Dt.mkI (ne_of hka2 hl2 (by intro z;cases z)) hka2,hku,hv0.kp k2,hR,n1,n4,by decide,ch_len128 hR n1 n4 hku (by decide)⟩,fun pl ts S H4 g4 hSp hSo hpl hts=>⟨pl,rfl,⟨_,.of hpl⟩,?_⟩⟩⟩
  obtain ⟨sk1,sk2,sk3,sk4⟩:=ch_ok hR n4 hku 1 (by decide)
  have hS4:S.length<=4:=by rw[hSp.length_eq];exact sk4
  have hl4:=g4 _ _ hl2
  have hq4:QE H4 D2 ks2:=hq2.mono fun a xs e=>g4 _ _ e
  refine for_list (K:=K) (a:=pl) (xs:=ts) (fun j σ H5=>Kp lt H4 H5/\(∃D ks,H5 lt=some (.dT ks)/\QE H5 D ks/\Mor n 25 N (En*(4*i)+En*j) (4*i+j) D (fun φ=>linQ (T.take i) (opQ rs φ)+x*linQ (S.take j) φ) (fun z=>z∈(S.take j).map (·.1) ∨ ∃p∈T.take i,z∈(chQ rs 1 [(p.1,1)]).map (·.1)))/\j<=ts.length/\∃o5 o6,σ=[some (.ref a),some v,some (.ref lt),some (.ref ka),some (.ref xq),o5,o6])
   ⟨Kp.refl _ _,⟨D2,ks2,hl4,hq4,(hM2.eqS (fun φ=>by show _=_+x*0;grind) (fun z=>by simp)).mono (by omega) (by omega)⟩,Nat.zero_le _,o5,o6,rfl⟩ (fun j σ H5 _ h=>.of (h.1 _ _ (ne_of hpl hl4 (by intro z;cases z)) hpl)) (fun j t σ H5 ht h=>?_) (fun σ H5 h=>?_)
  ·obtain ⟨k5',⟨D5,ks5,hl5,hq5,hM5⟩,hj,o5,o6,rfl⟩:=h
   obtain ⟨sp,q',w',z',hsp,rfl,hq',hw',hz'⟩:=hts.get ht
   obtain ⟨sk,sx⟩:=sp
   simp only at hw' hz'
   have hjl:=(List.getElem?_eq_some_iff.mp ht).1
   have hjS:j<S.length:=(List.getElem?_eq_some_iff.mp hsp).1
   have hsm:(sk,sx)∈chQ rs 1 [(u,1)]:=hSp.mem_iff.mp (List.mem_of_getElem? hsp)
   have hskU:Mt.Urn n 25 sk:=sk1 _ hsm
   have hsxv:Vq (LL ^ 1) (4 ^ (1*1)) sx:=sk3 _ hsm
   have hpv:Vq N En (x*sx):=by
    have:=hxv.mul hsxv
    rw[show LL ^ 1=LL from Nat.pow_one _,hN] at this
    have e:4 ^ (k*k)*4 ^ (1*1)=En:=by rw[<- hE]
    rw[e] at this
    exact this
   have t45:=kp_tup hl4 (ndt _) k5'
   have hw5:H5 w'=some (.tup ((Md.kI sk).map kV)):=by rw[kI_kV];exact t45 _ _ hw'
   have hz5:=t45 _ _ hz'
   have hx5:=t45 _ _ (g4 _ _ hxq2)
   have d1:Bd 1861 x:=hxv.bd (LLp_pos k) (Nat.le_trans (Nat.mul_le_mul (Nat.le_trans (LL_pow k) (Nat.pow_le_pow_right (by decide) (show 300*k<=1500 by omega))) (Nat.le_trans (Nat.le_mul_of_pos_right _ (by decide)) (hE ▸ hEn))) (by rw[<- Nat.pow_add];exact Nat.pow_le_pow_right (by decide) (by decide))) (Nat.le_trans (LL_pow k) (Nat.pow_le_pow_right (by decide) (by omega)))
   have d2:Bd 400 sx:=hsxv.bd (LLp_pos 1) (by
    have e:(2:Nat) ^ 400=2 ^ 300*2 ^ 100:=by rw[<- Nat.pow_add]
    rw[e];exact Nat.mul_le_mul (LL_pow 1) (by decide)) (Nat.le_trans (LL_pow 1) (Nat.pow_le_pow_right (by decide) (by decide)))
   have d3:Bd 1861 (x*sx):=hpv.bd hN0 (big _ (Nat.le_trans hEn (by decide))) hN2
   have vv:=hM5.all.val (k:=sk)
   have hi4:4*i+j<=512:=by have:=hB.len;omega
   have d4:Bd 1861 (valQ D5 sk):=vv.bd hN0 (big _ (by rw[<- Nat.mul_add];exact len512 hEn hi4)) hN2
   refine ⟨q',_,rfl,.of (t45 _ _ hq'),rfl,_,_,rfl,_,_,rfl,rfl,?_⟩
   refine ⟨_,rfl,lt,rfl,.inr ⟨_,.inl hl5⟩,_,rfl,(by show 2<=sizeLine;decide),fun p8 hp8=>?_⟩
   have g8:Same H5 (upd H5 p8 (.tup [.int 0,.int 1])):=Same.new hp8
   have hz8:FrAt (upd H5 p8 (.tup [.int 0,.int 1])) 0 (.ref p8):=⟨p8,rfl,upd_same⟩
   try dsimp -proj only
   generalize upd H5 p8 (.tup [.int 0,.int 1])=H8 at g8 hz8
   have hl8:=g8 _ _ hl5
   have hw8:=g8 _ _ hw5
   have hq8:QE H8 D5 ks5:=hq5.mono fun a xs e=>g8 _ _ e
   obtain ⟨r8,er8,hr8⟩:=hq8.val (k:=sk) hz8
   refine ⟨_,DGet.t hl8 hw8,?_⟩
   rw[er8]
   refine ⟨_,rfl,_,rfl,xq,z',x,sx,1861,400,rfl,g8 _ _ hx5,g8 _ _ hz5,Rat.num_nonneg.mpr hxv.nn,Rat.num_nonneg.mpr hsxv.nn,d1,d2,by decide,fun p7 H7 g7 hp7=>?_⟩
   refine ⟨r8,p7,_,x*sx,1861,1861,rfl,g7 _ _ hr8,hp7,Rat.num_nonneg.mpr vv.nn,Rat.num_nonneg.mpr hpv.nn,d4,d3,by decide,fun p9 H9 g9 hp9=>?_⟩
   have g59:Same H5 H9:=g8.trans (g7.trans g9)
   have hl9:=g59 _ _ hl5
   have hw9:=g59 _ _ hw5
   have hq9:QE H9 D5 ks5:=hq5.mono fun a xs e=>g59 _ _ e
   have hM6:=hM5.add hskU hpv
   refine ⟨_,rfl,_,rfl,lt,_,rfl,DPut.t hl9 hw9 (by rw[hq9.len];exact small_tab (Nat.le_trans hM5.len (by omega))),?_⟩
   have hq10:=hq9.put (k:=sk) (x:=x*sx) (v:=.ref p9) hM5.nd ⟨p9,rfl,hp9⟩
   have k10:Kp lt H4 (upd H9 lt (.dT (putK ks5 (Md.kI sk) (.ref p9)))):=(k5'.trans (g59.kp lt)).trans Kp.at
   refine ⟨k10,⟨_,_,upd_same,hq10.mono (kp_tup hl9 (ndt _) Kp.at),?_⟩,hjl,_,_,rfl⟩
   have et:S.take (j+1)=S.take j++[(sk,sx)]:=by rw[List.take_add_one,hsp];rfl
   rw[et]
   refine (hM6.eqS (fun φ=>?_) (fun z=>?_)).mono (by rw[Nat.mul_add];omega) (by omega)
   ·rw[linQ_append,linQ_cons]
    show _=_+x*(_+(sx*φ sk+0))
    grind
   ·rw[List.map_append,List.mem_append]
    show _ ↔ ((_ ∨ z∈[sk]) ∨ _)
    rw[List.mem_singleton]
    constructor
    ·rintro (h|h|h)
     ·exact .inl (.inr h)
     ·exact .inl (.inl h)
     ·exact .inr h
    ·rintro ((h|h)|h)
     ·exact .inr (.inl h)
     ·exact .inl h
     ·exact .inr (.inr h)
  ·obtain ⟨k5',⟨D5,ks5,hl5,hq5,hM5⟩,_,o5,o6,rfl⟩:=h
   refine ⟨(k2.trans (g4.kp lt)).trans k5',⟨D5,ks5,hl5,hq5,?_⟩,(List.getElem?_eq_some_iff.mp ht).1,_,_,_,_,rfl⟩
   rw[hts.len,List.take_length] at hM5
   have et:T.take (i+1)=T.take i++[(u,x)]:=by rw[List.take_add_one,hum];rfl
   rw[et]
   refine (hM5.eqS (fun φ=>?_) (fun z=>?_)).mono (by rw[<- Nat.mul_add];exact Nat.mul_le_mul_left _ (by omega)) (by omega)
   ·rw[linQ_append,linQ_cons,linQ_perm hSp,lin_one hku]
    show _=_+(x*_+0)
    grind
   ·have e1:z∈S.map (·.1) ↔ z∈(chQ rs 1 [(u,1)]).map (·.1):=(hSp.map _).mem_iff
    rw[e1]
    constructor
    ·rintro (h|⟨p,hp,h⟩)
     ·exact ⟨_,List.mem_append_right _ (List.mem_singleton.mpr rfl),h⟩
     ·exact ⟨p,List.mem_append_left _ hp,h⟩
    ·rintro ⟨p,hp,h⟩
     rcases List.mem_append.mp hp with hp|hp
     ·exact .inr ⟨p,hp,h⟩
     ·rw[List.mem_singleton.mp hp] at h
      exact .inl h
 ·obtain ⟨k2,⟨D,ks,hl2,hq2,hM2⟩,_,o3,o4,o5,o6,rfl⟩:=h
  rw[hB.len,List.take_length] at hM2
  have hDp:D.Perm (chQ rs (k+1) [(ns,1)]):=more_perm hM2 hTp kk1 ((ch_ok hR n4 hU (k+1) (by omega)).2.1)
  have hDl:D.length<128:=by rw[hDp.length_eq];exact ch_len128 hR n1 n4 hU (by omega)
  have hnd:(ks.map fun t=>kz t.1)=D.map (·.1):=qe_kz hq2
  have hndk:(ks.map fun t=>kz t.1).Nodup:=by rw[hnd];exact hM2.nd
  have hnk:(ks.map (·.1)).Nodup:=by
   have e:(ks.map fun t=>kz t.1)=(ks.map (·.1)).map kz:=by rw[List.map_map];rfl
   rw[e] at hndk
   exact List.Pairwise.of_map kz (fun a b h e=>h (by rw[e])) hndk
  have hks:ks.length<128:=by rw[hq2.len];exact hDl
  refine ⟨_,rfl,lt,ks,rfl,hl2,fun o=>?_⟩
  have hkf:Kp lt H2 (upd H2 lt (.frz o (.dT ks))):=Kp.at
  have hlf:upd H2 lt (.frz o (.dT ks)) lt=some (.frz o (.dT ks)):=upd_same
  have hqf:QE (upd H2 lt (.frz o (.dT ks))) D ks:=hq2.mono (kp_tup hl2 (ndt _) hkf)
  generalize upd H2 lt (.frz o (.dT ks))=Hf at hkf hlf hqf
  refine blk_keys (K:=K) (by show ks.length<=_;exact Nat.le_trans (Nat.le_of_lt hks) (by decide)) (fun i zs H'=>Same Hf H'/\zs.length=i/\∀(j:Nat) (y:V),zs[j]?=some y->∃k x r ka,ks[j]?=some (k,x)/\y=.ref r/\H' r=some (.tup [.ref ka,x])/\H' ka=some (.tup (k.map kV)))
   ⟨Same.refl _,rfl,fun j y hy=>by simp at hy⟩ (fun i zs H' h=>Nat.le_of_eq h.2.1) (fun i zs H' _ h=>h.1 _ _ hlf) rfl (fun i zs H' kk x ka hx hka h=>?_) (fun zs H' h=>?_)
  ·obtain ⟨gi,li,ei⟩:=h
   have hlf':=gi _ _ hlf
   refine ⟨_,rfl,_,rfl,_,rfl,lt,x,rfl,.inr ⟨ks,kk,ka,.inr ⟨o,hlf'⟩,rfl,hka,(valV_get hnk hx).symm⟩,(by show 2<=sizeLine;decide),fun p hp=>?_⟩
   have gp:Same H' (upd H' p (.tup [.ref ka,x])):=Same.new hp
   refine ⟨gi.trans gp,by rw[List.length_append,li];rfl,fun j y hy=>?_⟩
   rw[List.getElem?_append] at hy
   by_cases hj:j<zs.length
   ·rw[if_pos hj] at hy
    obtain ⟨k',x',r',ka',e1,e2,e3,e4⟩:=ei j y hy
    exact ⟨k',x',r',ka',e1,e2,gp _ _ e3,gp _ _ e4⟩
   ·rw[if_neg hj] at hy
    have hj0:j - zs.length=0:=by
     have:=(List.getElem?_eq_some_iff.mp hy).1
     simp at this;omega
    rw[hj0] at hy
    cases hy
    have:j=i:=by omega
    subst this
    exact ⟨kk,x,p,ka,hx,rfl,upd_same,gp _ _ hka⟩
  ·obtain ⟨gi,li,ei⟩:=h
   intro pl hpl
   have gl:Same H' (upd H' pl (.lst zs)):=Same.new hpl
   refine ⟨pl,zs,ks,rfl,.of upd_same,(bq_prl ei li).same gl,hks,fun kx hkx=>(hqf.keys kx hkx).1,hndk,fun Dl ys' kvs' H3 hp3 ho3 g3 hD3 hP3=>?_⟩
   obtain ⟨T',hT',hQ'⟩:=(hqf.mono fun a xs e=>g3 _ _ (gl _ _ (gi _ _ e))).perm hp3
   refine q Dl ys' T' H3 ?_ (hT'.trans hDp) ?_ hD3 (BQ.of hQ' hP3)
   ·exact fun b o e=>g3 _ _ (gl _ _ (gi _ _ (hkf _ _ (ne_of_none e hlt) (k2 _ _ (ne_of_none e hlt) (g0 _ _ e)))))
   ·unfold OrdQ
    rw[<- qe_kz hQ']
    exact ho3
end
end G
namespace Mq
open PySem PySem.Spec PyProof.Rows L2 Mt Md
theorem linQ_smul (φ:List Int->Rat) (c:Rat):∀T:TabQ,linQ T φ*c=linQ T (fun v=>φ v*c)
 | []=>by show (0:Rat)*c=0;grind
 | p::T=>by rw[linQ_cons,linQ_cons,<- linQ_smul φ c T];grind
theorem sumQ_cast (f:Nat->Int):∀l:List Nat,sumQ (l.map fun i=>((f i:Int):Rat))=(((l.map f).sum:Int):Rat)
 | []=>by show (0:Rat)=((0:Int):Rat);grind
 | i::l=>by
  rw[List.map_cons,List.map_cons,List.sum_cons,Rat.intCast_add,<- sumQ_cast f l];rfl
theorem opQ_ways {rs:List (List Int)}{φ:List Int->Int}{u:List Int} (hs:0<u.sum):opQ rs (fun v=>((φ v:Int):Rat)) u*((u.sum:Int):Rat)=((opT rs φ u:Int):Rat):=by
 unfold opQ opT
 rw[sumQ_mul,<- sumQ_cast (fun i=>u.getD i 0*φ (addL u (rs.getD i []))),List.map_map]
 congr 1
 refine List.map_congr_left fun i _=>?_
 show share u i*((φ (addL u (rs.getD i [])):Int):Rat)*((u.sum:Int):Rat)=_
 have:=cut_self_mul (t:=u.getD i 0) hs
 unfold share
 rw[Rat.intCast_mul,<- this]
 grind
noncomputable def wN (s g:Int):Nat->Int
 | 0=>1
 | k+1=>wN s g k*(s+(k:Int)*g)
theorem wN_pos {s g:Int} (hs:0<s) (hg:0<=g):∀k:Nat,0<wN s g k
 | 0=>by show (0:Int)<1;decide
 | k+1=>by
  have h2:0<=(k:Int)*g:=Int.mul_nonneg (by omega) hg
  exact Int.mul_pos (wN_pos hs hg k) (by omega)
theorem ch_ways {n:Nat}{rs:List (List Int)}{u:List Int}{g:Int} (hR:Rul n 5 rs) (n4:n<=4) (hu:Urn n 20 u) (hg:∀r∈rs,r.sum=g):∀(k:Nat),k<=6->∀φ:List Int->Int,linQ (chQ rs k [(u,1)]) (fun v=>((φ v:Int):Rat))*((wN u.sum g k:Int):Rat)=((lin (waysD rs k [(u,1)]) φ:Int):Rat)
 | 0,_,φ=>by
  show (1*((φ u:Int):Rat)+0)*((1:Int):Rat)=((lin [(u,1)] φ:Int):Rat)
  rw[lin_cons,lin_nil,Int.one_mul,Int.add_zero]
  grind
 | k+1,hk,φ=>by
  have kk:=(ch_ok hR n4 hu k (by omega)).1
  have ih:=ch_ways hR n4 hu hg k (by omega) (opT rs φ)
  show linQ (nextQ rs (chQ rs k [(u,1)])) _*((wN u.sum g k*(u.sum+(k:Int)*g):Int):Rat)=((lin (nextD rs (waysD rs k [(u,1)])) φ:Int):Rat)
  have hw:=ways_ok (m:=20) hR n4 (D:=[(u,1)]) (fun p hp=>by rw[List.mem_singleton.mp hp];exact ⟨hu.len,hu.nn⟩) (by unfold ND;simp) (by simp) k
  rw[lin_next (fun p hp b hb=>((hw.1 p hp).2 b hb).1),<- ih,linQ_next kk.pos,Rat.intCast_mul]
  have e:linQ (chQ rs k [(u,1)]) (opQ rs fun v=>((φ v:Int):Rat))*((u.sum+(k:Int)*g:Int):Rat)=linQ (chQ rs k [(u,1)]) (fun v=>((opT rs φ v:Int):Rat)):=by
   rw[linQ_smul]
   refine linQ_congr fun p hp=>?_
   have hs:=ch_sum hR hu hg (k:=k) (by omega) n4 hp
   have e2:u.sum+(k:Int)*g=p.1.sum:=by rw[hs,Int.mul_comm]
   rw[e2]
   exact opQ_ways (kk.pos p hp).2
  rw[<- e]
  grind
theorem ch_cut {n k:Nat}{rs:List (List Int)}{u:List Int}{g:Int} (hR:Rul n 5 rs) (n4:n<=4) (hu:Urn n 20 u) (hg:∀r∈rs,r.sum=g) (g0:0<=g) (hk:k<=6) {p:List Int × Rat} (hp:p∈chQ rs k [(u,1)]):p.2=cut (valD (waysD rs k [(u,1)]) p.1) (wN u.sum g k):=by
 have nd:=(ch_ok hR n4 hu k hk).2.1
 have h:=ch_ways hR n4 hu hg k hk (Md.dl p.1)
 have e1:linQ (chQ rs k [(u,1)]) (fun v=>((Md.dl p.1 v:Int):Rat))=p.2:=by
  rw[<- ((mem_val nd).mp hp).2,<- val_lin nd]
  refine linQ_congr fun q _=>?_
  unfold Md.dl
  by_cases z:q.1=p.1
  ·rw[if_pos z,if_pos z];rfl
  ·rw[if_neg z,if_neg z];rfl
 rw[e1] at h
 have hw:=wN_pos hu.pos g0 k
 refine rat_eq_of (cast_pos hw) ?_
 rw[h,cut_self_mul hw]
 rfl
theorem mem_uboL_of {rs:List (List Int)}{u:List Int}:∀{bs:List Int}{i j:Nat},j<bs.length->0<bs.getD j 0->(bs.getD j 0,addL u (rs.getD (i+j) []))∈uboL rs u i bs
 | [],i,j,h,_=>by simp at h
 | b::bs,i,0,_,h=>by
  have hb:0<b:=h
  rw[uboL_cons,if_pos hb]
  exact List.mem_cons_self
 | b::bs,i,j+1,hj,h=>by
  have:=mem_uboL_of (rs:=rs) (u:=u) (bs:=bs) (i:=i+1) (j:=j) (by simpa using hj) h
  rw[show i+1+j=i+(j+1) by omega] at this
  rw[uboL_cons]
  split
  ·exact List.mem_cons_of_mem _ this
  ·exact this
theorem ch_shift (rs:List (List Int)):∀(k:Nat) (T:TabQ),chQ rs (k+1) T=chQ rs k (nextQ rs T)
 | 0,T=>rfl
 | k+1,T=>by
  show nextQ rs (chQ rs (k+1) T)=nextQ rs (chQ rs k (nextQ rs T))
  rw[ch_shift rs k T]
theorem fol_key {n:Nat}{rs:List (List Int)} (hR:Rul n 5 rs):∀{ds:List Nat}{ns v:List Int}{m:Nat}{T:TabQ},Urn n m ns->(∀j∈ds,j<n)->ns∈T.map (·.1)->(fol rs ns ds).2=some v->v∈(chQ rs ds.length T).map (·.1)
 | [],ns,v,m,T,hu,_,hm,h=>by
  cases h
  exact hm
 | j::ds,ns,v,m,T,hu,hd,hm,h=>by
  rw[fol_cons] at h
  by_cases hz:ns.getD j 0=0
  ·rw[if_pos hz] at h;cases h
  ·rw[if_neg hz] at h
   have hj:j<n:=hd j List.mem_cons_self
   have hp:=(hu.getD j).1
   rw[List.length_cons,ch_shift]
   refine fol_key hR (hu.add (hR.at hj)) (fun i hi=>hd i (List.mem_cons_of_mem _ hi)) ?_ h
   obtain ⟨p,hp2,e⟩:=List.mem_map.mp hm
   refine mem_next.mpr ⟨p,hp2,(ns.getD j 0,addL ns (rs.getD j [])),?_,rfl⟩
   have e':p.1=ns:=e
   rw[e']
   have:=mem_uboL_of (rs:=rs) (u:=ns) (bs:=ns) (i:=0) (j:=j) (by rw[hu.len];exact hj) (by omega)
   rw[Nat.zero_add] at this
   exact this
theorem fol_pos {n:Nat}{rs:List (List Int)} (hR:Rul n 5 rs):∀{ds:List Nat}{ns v:List Int}{m:Nat},Urn n m ns->(∀j∈ds,j<n)->(fol rs ns ds).2=some v->(fol rs ns ds).1≠0
 | [],ns,v,m,hu,_,h=>by
  show (1:Rat)≠0
  decide
 | j::ds,ns,v,m,hu,hd,h=>by
  rw[fol_cons] at h ⊢
  by_cases hz:ns.getD j 0=0
  ·rw[if_pos hz] at h;cases h
  ·rw[if_neg hz] at h ⊢
   have hj:j<n:=hd j List.mem_cons_self
   have ih:=fol_pos hR (hu.add (hR.at hj)) (fun i hi=>hd i (List.mem_cons_of_mem _ hi)) h
   show share ns j*_≠0
   intro z
   rcases Rat.mul_eq_zero.mp z with z|z
   ·have:=cut_self_mul (t:=ns.getD j 0) hu.pos
    unfold share at z
    rw[z] at this
    have h2:((ns.getD j 0:Int):Rat)=((0:Int):Rat):=by rw[<- this];grind
    exact hz (Rat.intCast_inj.mp h2)
   ·exact ih z
end Mq
set_option maxHeartbeats 8000000
namespace G
open PySem PySem.Spec PyProof.Rows L2 Mt Md Mq
theorem neD_at {H:Hp}{p r:Addr}{a b:List Int}{Q:VK} (hp:H p=some (.tup (a.map V.int))) (hr:H r=some (.tup (b.map V.int))) (q:Q (.bl (!decide (a=b))) H):rNeD (.ref p) (.ref r) H Q :=
 neD_dec (l:=p+r+1) (Dt.mkI (Nat.ne_of_lt (Nat.lt_succ_of_le (Nat.le_add_right p r))) hp) (Dt.mkI (Nat.ne_of_lt (Nat.lt_succ_of_le (Nat.le_add_left r p))) hr) q
theorem eqD_at {H:Hp}{p r:Addr}{a b:List Int}{Q:VK} (hp:H p=some (.tup (a.map V.int))) (hr:H r=some (.tup (b.map V.int))) (q:Q (.bl (decide (a=b))) H):rEqD (.ref p) (.ref r) H Q :=
 eqD_dec (l:=p+r+1) (Dt.mkI (Nat.ne_of_lt (Nat.lt_succ_of_le (Nat.le_add_right p r))) hp) (Dt.mkI (Nat.ne_of_lt (Nat.lt_succ_of_le (Nat.le_add_left r p))) hr) q
noncomputable def pD (p:List Int × Rat):PyData:=.tuple [DI p.1,DI (fr p.2)]
theorem bq_dt {H:Hp}:∀{T:TabQ}{ys:List V},BQ H T ys->∃N,∀st,N<st->Dts st H (T.map pD) ys
 | [],[],_=>⟨0,fun _ _=>rfl⟩
 | p::T,y::ys,h=>by
  obtain ⟨N,hN⟩:=bq_dt h.2
  obtain ⟨r,ka,q,e,h1,h2,h3⟩:=h.1
  refine ⟨N+r+ka+q,fun st hst=>⟨y,ys,rfl,⟨r,_,e,?_,h1,⟨_,_,rfl,Dt.mkI ?_ h2,⟨_,_,rfl,Dt.mkI ?_ h3,rfl⟩⟩⟩,hN st ?_⟩⟩
  ·exact Nat.ne_of_lt (Nat.lt_of_le_of_lt (Nat.le_trans (Nat.le_add_left r N) (Nat.le_trans (Nat.le_add_right _ _) (Nat.le_add_right _ _))) hst)
  ·exact Nat.ne_of_lt (Nat.lt_of_le_of_lt (by rw[Nat.add_right_comm];exact Nat.le_add_left _ _) hst)
  ·exact Nat.ne_of_lt (Nat.lt_of_le_of_lt (Nat.le_add_left _ _) hst)
  ·exact Nat.lt_of_le_of_lt (Nat.le_trans (Nat.le_add_right _ _) (Nat.le_trans (Nat.le_add_right _ _) (Nat.le_add_right _ _))) hst
 | [],_::_,h=>h.elim
 | _::_,[],h=>h.elim
theorem lay_pD (p:List Int × Rat):PyData.canLay0 (pD p)=true/\PyData.depth (pD p)<=3:=by
 have h1:=layI p.1
 have h2:=layI (fr p.2)
 refine ⟨?_,?_⟩
 ·show PyData.canLay0 (.tuple [DI p.1,DI (fr p.2)])=true
  unfold PyData.canLay0 PyData.canLayAll0 PyData.canLayAll0 PyData.canLayAll0
  rw[h1.1,h2.1];rfl
 ·show PyData.depth (.tuple [DI p.1,DI (fr p.2)])<=3
  unfold PyData.depth PyData.depthAll PyData.depthAll PyData.depthAll
  have:=h1.2
  have:=h2.2
  omega
theorem lay_tab:∀T:TabQ,PyData.canLayAll0 (T.map pD)=true/\PyData.depthAll (T.map pD)<=3
 | []=>⟨rfl,by show PyData.depthAll []<=3;unfold PyData.depthAll;omega⟩
 | p::T=>by
  have h1:=lay_pD p
  have h2:=lay_tab T
  refine ⟨?_,?_⟩
  ·show PyData.canLayAll0 (pD p::T.map pD)=true
   unfold PyData.canLayAll0
   rw[h1.1,h2.1];rfl
  ·show PyData.depthAll (pD p::T.map pD)<=3
   unfold PyData.depthAll
   have:=h1.2
   have:=h2.2
   omega
theorem shaped_tab (T:TabQ):SeqAt.shaped (.list (T.map pD))=true:=by
 unfold SeqAt.shaped
 rw[Bool.and_eq_true]
 refine ⟨?_,decide_eq_true ?_⟩
 ·show PyData.canLay0 (.list (T.map pD))=true
  unfold PyData.canLay0
  exact (lay_tab T).1
 ·have:=(lay_tab T).2
  show PyData.depth (.list (T.map pD))<=64
  unfold PyData.depth
  omega
theorem eqv_pD (p:List Int × Rat):PyData.eqv (pD p) (pD p)=true:=by
 show PyData.eqv (.tuple [DI p.1,DI (fr p.2)]) (.tuple [DI p.1,DI (fr p.2)])=true
 unfold PyData.eqv PyData.eqvAll PyData.eqvAll PyData.eqvAll
 rw[eqvI,eqvI,decide_eq_true rfl,decide_eq_true rfl];rfl
theorem eqv_tab:∀T:TabQ,PyData.eqvAll (T.map pD) (T.map pD)=true
 | []=>by show PyData.eqvAll [] []=true;unfold PyData.eqvAll;rfl
 | p::T=>by
  show PyData.eqvAll (pD p::T.map pD) (pD p::T.map pD)=true
  unfold PyData.eqvAll
  rw[eqv_pD,eqv_tab T];rfl
theorem neTab {H:Hp}{D1 D2:Addr}{ys1 ys2:List V}{T:TabQ}{Q:VK} (h1:H D1=some (.lst ys1)) (b1:BQ H T ys1) (h2:H D2=some (.lst ys2)) (b2:BQ H T ys2) (q:Q (.bl false) H):rNeD (.ref D1) (.ref D2) H Q:=by
 obtain ⟨N1,d1⟩:=bq_dt b1
 obtain ⟨N2,d2⟩:=bq_dt b2
 have a1:N1<N1+N2+D1+D2+1:=Nat.lt_succ_of_le (Nat.le_trans (Nat.le_add_right _ _) (Nat.le_trans (Nat.le_add_right _ _) (Nat.le_add_right _ _)))
 have a2:N2<N1+N2+D1+D2+1:=Nat.lt_succ_of_le (Nat.le_trans (Nat.le_add_left _ _) (Nat.le_trans (Nat.le_add_right _ _) (Nat.le_add_right _ _)))
 have a3:D1≠N1+N2+D1+D2+1:=Nat.ne_of_lt (Nat.lt_succ_of_le (Nat.le_trans (Nat.le_add_left _ _) (Nat.le_add_right _ _)))
 have a4:D2≠N1+N2+D1+D2+1:=Nat.ne_of_lt (Nat.lt_succ_of_le (Nat.le_add_left _ _))
 refine ⟨N1+N2+D1+D2+1,.list (T.map pD),.list (T.map pD),⟨D1,ys1,rfl,a3,h1,d1 _ a1⟩,⟨D2,ys2,rfl,a4,h2,d2 _ a2⟩,shaped_tab T,shaped_tab T,?_⟩
 have e:PyData.eqv (.list (T.map pD)) (.list (T.map pD))=true:=by
  unfold PyData.eqv
  exact eqv_tab T
 rw[e];exact q
theorem grow_all {rs:List (List Int)}{g:Int} (h:grow rs=some g):∀r∈rs,r.sum=g:=by
 intro r hr
 unfold grow at h
 split at h
 ·rename_i hh
  have:=List.all_eq_true.mp hh r.sum (List.mem_map.mpr ⟨r,hr,rfl⟩)
  injection h with h
  rw[<- h]
  exact eq_of_beq this
 ·cases h
theorem ways_wN (s g:Int):∀k:Nat,waysN s g k=wN s g k
 | 0=>rfl
 | k+1=>by
  show waysN s g k*_=wN s g k*_
  rw[ways_wN s g k]
theorem sum_snd {T:TabQ}:linQ T (fun _=>1)=sumQ (T.map (·.2)):=by
 rw[linQ_sum]
 congr 1
 refine List.map_congr_left fun p _=>?_
 show (1:Rat)*p.2=p.2
 grind
theorem BQ.mono {H H':Hp} (h:∀a xs,H a=some (.tup xs)->H' a=some (.tup xs)):∀{T:TabQ}{ys:List V},BQ H T ys->BQ H' T ys
 | [],[],_=>trivial
 | _::_,_::_,hb=>⟨let ⟨r,ka,q,e,a,b,c⟩:=hb.1;⟨r,ka,q,e,h _ _ a,h _ _ b,h _ _ c⟩,BQ.mono h hb.2⟩
 | [],_::_,hb=>hb.elim
 | _::_,[],hb=>hb.elim
theorem DI_inj {a b:List Int} (h:DI a=DI b):a=b:=by
 unfold DI at h
 injection h with h
 exact (List.map_inj_right fun x y e=>by injection e).mp h
theorem urnD60 {n m:Nat}{ns:List Int} (h:Mt.Urn n m ns) (hm:m<=60) (h1:1<=n) (h4:n<=4):urnD 60 (DI ns)=true:=by
 unfold urnD
 rw[lenD_DI,sumD_DI,h.len,decide_eq_true (show (1:Int)<=(n:Int) by omega),decide_eq_true (show (n:Int)<=4 by omega),decide_eq_true h.pos]
 have:wholesD 0 60 (DI ns)=true:=by
  show (ns.map PyData.int).all (wholeD 0 60)=true
  rw[List.all_map]
  refine List.all_eq_true.mpr fun x hx=>?_
  have:=h.nn x hx
  show (decide ((0:Int)<=x)&&decide (x<=60))=true
  rw[decide_eq_true this.1,decide_eq_true (show x<=60 by omega)];rfl
 rw[this];rfl
theorem kI_snoc (gs:List Nat) (y:Nat):kI (gs++[y])=kI gs++[(y:Int)]:=by unfold kI;rw[List.map_append];rfl
theorem joinR {S R:Hp->Prop}{A:Prop} (main:(∀H',S H'->R H')->A) (rest:∀H',S H'->R H'):A:=main rest
theorem joinS {S R:L2.St->Hp->Prop}{A:Prop} (main:(∀σ H',S σ H'->R σ H')->A) (rest:∀σ H',S σ H'->R σ H'):A:=main rest
section
variable {P:Program}{w:World}{K:W.Frag}{mg:Str->Option Value}{base:Heap}{f:Addr}{fd:FuncData}
structure Cals (P:Program) (w:World) (K:W.Frag) (mg:Str->Option Value) (base:Heap) (c:Nat->Addr):Prop where
 state:Cal P w K mg base 8 "_law_state" ["_law_script","_law_k"] (sp_state K)
 take:Cal P w K mg base 8 "_law_take" ["_law_state_here","_law_many"] sp_take
 urn:Cal P w K mg base 8 "_law_urn_of" ["_law_state_here","_law_kinds"] sp_lurn
 rule:Cal P w K mg base 8 "_law_rule" ["_law_state_here","_law_kinds"] sp_lrule
 st:CalX P w K mg base 8 "stands" ["urn","rule","draws"] (sp_st c)
 plus:Cal P w K mg base 8 "_law_plus" ["_law_one","_law_other"] sp_plus
 isu:Cal P w K mg base 8 "is_urn" ["thing"] sp_is_urn
 more:Cal P w K mg base 8 "_law_more" ["_law_some","_law_rule_here"] sp_more
 gro:CalX P w K mg base 8 "growth" ["kinds","rule"] sp_growthV
 cut:Cal P w K mg base 8 "_law_fraction" ["_law_top","_law_bottom"] sp_cut
 wt:CalX P w K mg base 8 "ways_to" ["urn","rule","draws","other"] (sp_wt c)
 ways:CalX P w K mg base 8 "ways" ["urn","rule","draws"] (sp_ways c)
 ub:CalX P w K mg base 8 "urn_behind" ["urn","rule","draws"] (sp_urn_behind c)
 co:CalX P w K mg base 8 "chance_of" ["urn","rule","draws"] (sp_chance_of c)
noncomputable def spLaw (K:W.Frag):Sp:=fun vs H Q _=>∃(a:Addr) (ns:List Int),vs=[.ref a]/\SqL K H a (ns.map V.int)/\ns.length<=63/\∀H',Q (.bl true) H'
noncomputable abbrev s_law:Stmt:=top 57
theorem sc_law:FnScope ["_law_script","_law_k","_law_state_here","_law_kinds","_law_urn","_law_rule_here","_law_draws","_law_some","_law_total","_law_one","_law_odds","_law_grown","_law_row","_law_there"] ["_law_script"] (defScope s_law):=⟨rfl,rfl,rfl,by decide +kernel,rfl,by decide +kernel,by decide +kernel⟩
theorem ok_law {c:Nat->Addr} (F:Fun K "law" "law" s_law f fd) (B:Bt mg) (B2:Bt2 mg) (C:Cals P w K mg base c):FnOk P w K mg base CX0 9 f fd ["_law_script"] (spLaw K):=by
 refine F.ok sc_law (fun vs H Q E h=>?_) (fun cdv A outer s H vs Q E hr h=>?_)
 ·obtain ⟨a,ns,rfl,_⟩:=h
  rfl
 obtain ⟨a,scr,rfl,hS,h63,q⟩:=h
 refine ⟨_,(@pss_cons _ _ _ _ _ (ps_for PassesOwn.never rfl (pi_range1 rfl B.range (@pa_cons _ _ _ _ _ (pe_callB (call_max2 rfl) rfl B.max boot_max (@pa_cons _ _ _ _ _ pe_int (@pa_cons _ _ _ _ _ (pe_callB (call_min2 rfl) rfl B.min boot_min (@pa_cons _ _ _ _ _ (pe_callB call_len_seq rfl B.len PySem.boot_len (@pa_cons _ _ _ _ _ (pv 0) pa_nil (by rfl))) (@pa_cons _ _ _ _ _ pe_int pa_nil (by rfl)) (by rfl))) pa_nil (by rfl)) (by rfl))) pa_nil (by rfl))) (pg_name (i:=1) sc_law.nd rfl (Or.inl rfl))
  (@pss_cons _ _ _ _ _ (@ps_set _ _ 2 _ _ _ _ sc_law.nd rfl (Or.inr rfl) (pe_cal C.state hr rfl (@pa_cons _ _ _ _ _ (pv 0) (@pa_cons _ _ _ _ _ (pv 1) pa_nil (by rfl)) (by rfl))) (by rfl) (by first|exact .inl rfl|exact .inr rfl))
  (@pss_cons _ _ _ _ _ (@ps_set _ _ 3 _ _ _ _ sc_law.nd rfl (Or.inr rfl) (@pe_op _ _ _ _ _ _ _ _ op_add pe_int (pe_cal C.take hr rfl (@pa_cons _ _ _ _ _ (pv 2) (@pa_cons _ _ _ _ _ pe_int pa_nil (by rfl)) (by rfl)))) (by rfl) (by first|exact .inl rfl|exact .inr rfl))
  (@pss_cons _ _ _ _ _ (ps_asg (@pe_tup _ _ _ _ _ (@pa_cons _ _ _ _ _ (pe_cal C.urn hr rfl (@pa_cons _ _ _ _ _ (pv 2) (@pa_cons _ _ _ _ _ (pv 3) pa_nil (by rfl)) (by rfl))) (@pa_cons _ _ _ _ _ (pe_cal C.rule hr rfl (@pa_cons _ _ _ _ _ (pv 2) (@pa_cons _ _ _ _ _ (pv 3) pa_nil (by rfl)) (by rfl))) (@pa_cons _ _ _ _ _ (pe_cal C.take hr rfl (@pa_cons _ _ _ _ _ (pv 2) (@pa_cons _ _ _ _ _ pe_int pa_nil (by rfl)) (by rfl))) pa_nil (by rfl)) (by rfl)) (by rfl))) (pg_tup rfl (pgs_cons (pg_name (i:=4) sc_law.nd rfl (Or.inr rfl)) (pgs_cons (pg_name (i:=5) sc_law.nd rfl (Or.inl rfl)) (pgs_cons (pg_name (i:=6) sc_law.nd rfl (Or.inr rfl)) pgs_nil)))))
  (@pss_cons _ _ _ _ _ (@ps_set _ _ 7 _ _ _ _ sc_law.nd rfl (Or.inl rfl) (pe_calx C.st hr rfl pass10 (@pa_cons _ _ _ _ _ (pv 4) (@pa_cons _ _ _ _ _ (pv 5) (@pa_cons _ _ _ _ _ (pv 6) pa_nil (by rfl)) (by rfl)) (by rfl))) (by rfl) (by first|exact .inl rfl|exact .inr rfl))
  (@pss_cons _ _ _ _ _ (@ps_set _ _ 8 _ _ _ _ sc_law.nd rfl (Or.inl rfl) (@pe_tup _ _ _ _ _ (@pa_cons _ _ _ _ _ pe_int (@pa_cons _ _ _ _ _ pe_int pa_nil (by rfl)) (by rfl))) (by rfl) (by first|exact .inl rfl|exact .inr rfl))
  (@pss_cons _ _ _ _ _ (ps_for PassesOwn.never rfl (pi_list (pv 7)) (pg_tup rfl (pgs_cons (pg_name (i:=9) sc_law.nd rfl (Or.inl rfl)) (pgs_cons (pg_name (i:=10) sc_law.nd rfl (Or.inl rfl)) pgs_nil)))
  (@pss_one _ _ _ (@ps_set _ _ 8 _ _ _ _ sc_law.nd rfl (Or.inl rfl) (pe_cal C.plus hr rfl (@pa_cons _ _ _ _ _ (pv 8) (@pa_cons _ _ _ _ _ (pv 10) pa_nil (by rfl)) (by rfl))) (by rfl) (by first|exact .inl rfl|exact .inr rfl))))
  (@pss_cons _ _ _ _ _ (ps_if (PW.pt (pw_or (@pt_cmpR _ _ _ _ _ _ _ _ (op_neD hr.units) (pv 8) (@pe_tup _ _ _ _ _ (@pa_cons _ _ _ _ _ pe_int (@pa_cons _ _ _ _ _ pe_int pa_nil (by rfl)) (by rfl))) (nomark _)) (pw_or1 (@pt_cmpR _ _ _ _ _ _ _ _ (op_neD hr.units) (pe_calx C.st hr rfl pass10 (@pa_cons _ _ _ _ _ (pv 4) (@pa_cons _ _ _ _ _ (pv 5) (@pa_cons _ _ _ _ _ pe_int pa_nil (by rfl)) (by rfl)) (by rfl))) (@pe_lst _ _ _ _ (@pa_cons _ _ _ _ _ (@pe_tup _ _ _ _ _ (@pa_cons _ _ _ _ _ (pv 4) (@pa_cons _ _ _ _ _ (@pe_tup _ _ _ _ _ (@pa_cons _ _ _ _ _ pe_int (@pa_cons _ _ _ _ _ pe_int pa_nil (by rfl)) (by rfl))) pa_nil (by rfl)) (by rfl))) pa_nil (by rfl))) (nomark _))))) (@pss_one _ _ _ (ps_ret pe_bl)) pss_nil)
  (@pss_cons _ _ _ _ _ (ps_if (PW.pt (pw_and (pt_val (pe_callB (call_all_seq rfl) rfl B.all boot_all (@pa_cons _ _ _ _ _ (pe_compG (N:=["_law_one","_law_odds"]) (ix:=[none,none]) (ifs:=[]) (tc:=tTrue) rfl (pi_list (pv 7))
   (fun s H ex=>pgtK (K:=K) (n:=2) rfl rfl (pgs_cons (pg_c (i:=0) (by decide +kernel) rfl (Or.inl rfl) (.inr rfl)) (pgs_cons (pg_c (i:=1) (by decide +kernel) rfl (Or.inl rfl) (.inr rfl)) pgs_nil))) (fun s H ex=>pifs_nil) (fun s H ex=>(pe_cal C.isu hr rfl (@pa_cons _ _ _ _ _ (pv 0) pa_nil (by rfl)))) rfl (by decide +kernel) (by rfl) (by rfl) (fun _=>rfl)) pa_nil (by rfl)))) (pw_and1 (@pt_cmpR _ _ _ _ _ _ _ _ (op_neD hr.units) (pe_calx C.st hr rfl pass10 (@pa_cons _ _ _ _ _ (pv 4) (@pa_cons _ _ _ _ _ (pv 5) (@pa_cons _ _ _ _ _ (@pe_op _ _ _ _ _ _ _ _ op_add (pv 6) pe_int) pa_nil (by rfl)) (by rfl)) (by rfl))) (pe_cal C.more hr rfl (@pa_cons _ _ _ _ _ (pv 7) (@pa_cons _ _ _ _ _ (pv 5) pa_nil (by rfl)) (by rfl))) (nomark _))))) (@pss_one _ _ _ (ps_ret pe_bl)) pss_nil)
  (@pss_cons _ _ _ _ _ (@ps_set _ _ 11 _ _ _ _ sc_law.nd rfl (Or.inr rfl) (pe_calx C.gro hr rfl pass10 (@pa_cons _ _ _ _ _ (pv 3) (@pa_cons _ _ _ _ _ (pv 5) pa_nil (by rfl)) (by rfl))) (by rfl) (by first|exact .inl rfl|exact .inr rfl))
  (@pss_cons _ _ _ _ _ (ps_if (pt_cmp (pc_notN (pv 11))) (@pss_cons _ _ _ _ _ (ps_if (pt_val (pe_callB (call_any_seq rfl) rfl B2.any boot_any (@pa_cons _ _ _ _ _ (pe_compG (N:=["_law_one","_law_odds","_law_urn","_law_grown","_law_draws"]) (ix:=[none,none,some 4,some 11,some 6]) (ifs:=[]) (tc:=tTrue) rfl (pi_list (pv 7))
   (fun s H ex=>pgtK (K:=K) (n:=2) rfl rfl (pgs_cons (pg_c (i:=0) (by decide +kernel) rfl (Or.inl rfl) (.inr rfl)) (pgs_cons (pg_c (i:=1) (by decide +kernel) rfl (Or.inl rfl) (.inr rfl)) pgs_nil))) (fun s H ex=>pifs_nil) (fun s H ex=>(pe_cmpR op_ne (pe_callB (sumK (K:=K) rfl rfl) rfl B.sum boot_sum (@pa_cons _ _ _ _ _ (pv 0) pa_nil (by rfl))) (@pe_op _ _ _ _ _ _ _ _ op_add (pe_callB (sumK (K:=K) rfl rfl) rfl B.sum boot_sum (@pa_cons _ _ _ _ _ (pv 2) pa_nil (by rfl))) (@pe_op _ _ _ _ _ _ _ _ op_mul (pv 3) (pv 4))) (nomark _))) rfl (by decide +kernel) (by rfl) (by rfl) (fun _=>rfl)) pa_nil (by rfl)))) (@pss_one _ _ _ (ps_ret pe_bl)) pss_nil)
  (@pss_one _ _ _ (ps_for PassesOwn.never rfl (pi_list (pv 7)) (pg_tup rfl (pgs_cons (pg_name (i:=9) sc_law.nd rfl (Or.inl rfl)) (pgs_cons (pg_name (i:=10) sc_law.nd rfl (Or.inl rfl)) pgs_nil)))
  (@pss_one _ _ _ (ps_if (@pt_cmpR _ _ _ _ _ _ _ _ (op_neD hr.units) (pv 10) (pe_cal C.cut hr rfl (@pa_cons _ _ _ _ _ (pe_calx C.wt hr rfl pass10 (@pa_cons _ _ _ _ _ (pv 4) (@pa_cons _ _ _ _ _ (pv 5) (@pa_cons _ _ _ _ _ (pv 6) (@pa_cons _ _ _ _ _ (pv 9) pa_nil (by rfl)) (by rfl)) (by rfl)) (by rfl))) (@pa_cons _ _ _ _ _ (pe_calx C.ways hr rfl pass10 (@pa_cons _ _ _ _ _ (pv 4) (@pa_cons _ _ _ _ _ (pv 5) (@pa_cons _ _ _ _ _ (pv 6) pa_nil (by rfl)) (by rfl)) (by rfl))) pa_nil (by rfl)) (by rfl))) (nomark _)) (@pss_one _ _ _ (ps_ret pe_bl)) pss_nil))))) pss_nil)
  (@pss_cons _ _ _ _ _ (@ps_set _ _ 12 _ _ _ _ sc_law.nd rfl (Or.inl rfl) (pe_callTy call_tuple_of rfl B.tuple boot_tuple (@pa_cons _ _ _ _ _ (pe_compG (N:=["_law_turn","_law_state_here","_law_kinds"]) (ix:=[none,some 2,some 3]) (ifs:=[]) (tc:=tTrue) rfl (pi_range1 rfl B.range (@pa_cons _ _ _ _ _ (pv 6) pa_nil (by rfl)))
   (fun s H ex=>pg_c (i:=0) (by decide +kernel) rfl (Or.inl rfl) (.inr rfl)) (fun s H ex=>pifs_nil) (fun s H ex=>(pe_cal C.take hr rfl (@pa_cons _ _ _ _ _ (pv 1) (@pa_cons _ _ _ _ _ (pv 2) pa_nil (by rfl)) (by rfl)))) rfl (by decide +kernel) (by rfl) (by rfl) (fun _=>rfl)) pa_nil (by rfl))) (by rfl) (by first|exact .inl rfl|exact .inr rfl))
  (@pss_cons _ _ _ _ _ (@ps_set _ _ 13 _ _ _ _ sc_law.nd rfl (Or.inl rfl) (pe_calx C.ub hr rfl pass10 (@pa_cons _ _ _ _ _ (pv 4) (@pa_cons _ _ _ _ _ (pv 5) (@pa_cons _ _ _ _ _ (pv 12) pa_nil (by rfl)) (by rfl)) (by rfl))) (by rfl) (by first|exact .inl rfl|exact .inr rfl))
  (@pss_cons _ _ _ _ _ (ps_if (@pt_cmpR _ _ _ _ _ _ _ _ op_ne (pe_cmp (pc_isN (pv 13))) (pe_cmpR (op_eqD hr.units) (pe_calx C.co hr rfl pass10 (@pa_cons _ _ _ _ _ (pv 4) (@pa_cons _ _ _ _ _ (pv 5) (@pa_cons _ _ _ _ _ (pv 12) pa_nil (by rfl)) (by rfl)) (by rfl))) (@pe_tup _ _ _ _ _ (@pa_cons _ _ _ _ _ pe_int (@pa_cons _ _ _ _ _ pe_int pa_nil (by rfl)) (by rfl))) (nomark _)) (nomark _)) (@pss_one _ _ _ (ps_ret pe_bl)) pss_nil)
  (@pss_one _ _ _ (ps_if (PW.pt (pw_and (pt_cmp (pc_notN (pv 13))) (pw_and1 (@pt_cmpR _ _ _ _ _ _ _ _ (op_notInT hr.units) (pv 13) (pe_compG (N:=["_law_one","_law_odds"]) (ix:=[none,none]) (ifs:=[]) (tc:=tTrue) rfl (pi_list (pv 7))
   (fun s H ex=>pgtK (K:=K) (n:=2) rfl rfl (pgs_cons (pg_c (i:=0) (by decide +kernel) rfl (Or.inl rfl) (.inr rfl)) (pgs_cons (pg_c (i:=1) (by decide +kernel) rfl (Or.inl rfl) (.inr rfl)) pgs_nil))) (fun s H ex=>pifs_nil) (fun s H ex=>(pv 0)) rfl (by decide +kernel) (by rfl) (by rfl) (fun _=>rfl)) (by rfl))))) (@pss_one _ _ _ (ps_ret pe_bl)) pss_nil))))))))))))))))
  (@pss_one _ _ _ (ps_ret pe_bl))),?_⟩
 refine ⟨_,rfl,a,_,rfl,.inl hS,_,_,rfl,_,_,rfl,_,rfl,?_,?_,?_⟩
 ·split <;> split <;> omega
 ·rw[List.length_map];split <;> split <;> omega
 refine for_range (lo:=0) (fun i σ H2=>SqL K H2 a (scr.map V.int)/\∃o1 o2 o3 o4 o5 o6 o7 o8 o9 oa ob oc od,σ=[some (.ref a),o1,o2,o3,o4,o5,o6,o7,o8,o9,oa,ob,oc,od])
  ⟨hS,none,none,none,none,none,none,none,none,none,none,none,none,none,rfl⟩ (fun i σ H2 hi h=>?_) (fun σ H2 h=>q H2)
 obtain ⟨hS2,o1,o2,o3,o4,o5,o6,o7,o8,o9,oa,ob,oc,od,rfl⟩:=h
 have e0:(0:Int)+(i:Int)=(i:Int):=by omega
 rw[e0]
 refine ⟨_,rfl,_,rfl,a,scr,i,rfl,hS2,fun l x b hl hst=>?_⟩
 have s3:Sta l b (upd H2 l (.lst [.int x,.bl b])) (upd H2 l (.lst [.int x,.bl b])):=Sta.start upd_same hst
 have hA:∀H',Kp l (upd H2 l (.lst [.int x,.bl b])) H'->SqL K H' a (scr.map V.int):=fun H' k=>by
  rcases hS2 with (h|⟨o,h⟩)|h
  ·exact .inl (.inl (k _ _ (ne_of_none h hl) (Same.new hl _ _ h)))
  ·exact .inl (.inr ⟨o,k _ _ (ne_of_none h hl) (Same.new hl _ _ h)⟩)
  ·exact .inr h
 show tSeq _ _ _ _ (upd H2 l (.lst [.int x,.bl b]))
 generalize upd H2 l (.lst [.int x,.bl b])=H3 at s3 hA
 clear hS2 hl hst
 obtain ⟨_,x3,hx3,ok3⟩:=id s3
 refine ⟨_,rfl,l,4,x3,b,rfl,hx3,ok3,by decide,by decide,fun y x1 hy ok1=>⟨_,_,rfl,rfl,?_⟩⟩
 have en:(1:Int)+(y:Int)=((1+y:Nat):Int):=by omega
 try dsimp only
 rw[en]
 have n1:1<=1+y:=by omega
 have n4:1+y<=4:=by omega
 generalize 1+y=n at n1 n4
 have s4:=s3.go ok1
 generalize upd H3 l (.lst [.int x1,.bl b])=H4 at s4
 obtain ⟨_,x4,hx4,ok4⟩:=id s4
 refine ⟨_,rfl,_,rfl,l,n,x4,b,rfl,hx4,ok4,n1,n4,fun ua H5 ns s5' hua hU=>?_⟩
 have s5:=s4.trans s5'
 have nua:=s5.neL hua
 obtain ⟨_,x5,hx5,ok5⟩:=id s5
 refine ⟨_,rfl,_,rfl,l,n,x5,b,rfl,hx5,ok5,n1,n4,fun rv H6 rs s6' hrd hR=>?_⟩
 have s6:=s5.trans s6'
 have hua6:=s6'.1 _ _ nua hua
 obtain ⟨_,x6,hx6,ok6⟩:=id s6
 refine ⟨_,rfl,l,6,x6,b,rfl,hx6,ok6,by decide,by decide,fun k x7 hk ok7=>?_⟩
 have s7:=s6.go ok7
 have k7:Kp l H6 (upd H6 l (.lst [.int x7,.bl b])):=Kp.at
 try dsimp -proj only
 generalize upd H6 l (.lst [.int x7,.bl b])=H7 at s7 k7
 have hua7:=k7 _ _ nua hua6
 have hrd7:=hrd.kp k7
 have k5:k<=5:=by omega
 have k6:k<=6:=by omega
 refine ⟨(by show 3<=sizeLine;decide),fun pp hpp=>⟨pp,_,rfl,.of upd_same,rfl,_,_,rfl,_,_,rfl,_,_,rfl,rfl,?_⟩⟩
 have g8:Same H7 (upd H7 pp (.tup [.ref ua,rv,.int k])):=Same.new hpp
 have s8:=s7.same g8
 have hua8:=g8 _ _ hua7
 have hrd8:=hrd7.kp (g8.kp l)
 try dsimp -proj only[gName]
 generalize upd H7 pp (.tup [.ref ua,rv,.int k])=H8 at s8 hua8 hrd8
 clear hpp hua6 hua g8 s6' hua7 hrd7 hrd s7 s6 s5 s4 k7
 have AS:∀(H':Hp) (j:Nat),Kp l H8 H'->j<=6->AskS l H' n ns rs j ua rv:=fun H' j kk hj=>⟨Dt.mkI nua (kk _ _ nua hua8),hU,hrd8.kp kk,hR,n1,n4,hj,ch_len128 hR n1 n4 hU hj⟩
 refine ⟨_,rfl,_,rfl,_,rfl,.inr ⟨l,ua,rv,n,k,ns,rs,rfl,AS _ _ (Kp.refl _ _) k6,fun sl ys T H9 g9 hTp hTo hsl hB=>?_⟩⟩
 have s9:=s8.same g9
 obtain ⟨w1,w2,w3,w4⟩:=ch_ok hR n4 hU k k6
 have hTl:T.length<128:=by rw[hTp.length_eq];exact ch_len128 hR n1 n4 hU k6
 have hTv:∀p∈T,Vq (LL ^ k) (4 ^ (k*k)) p.2:=fun p hp=>w3 p (hTp.mem_iff.mp hp)
 have bdq:∀(Bn:Nat) (x:Rat),Vq (LL ^ k) Bn x->Bn<=2 ^ 60->Bd 1900 x:=fun Bn x hv hB=>hv.bd (LLp_pos k) (by
  have e:(2:Nat) ^ 1900=2 ^ 1840*2 ^ 60:=by rw[<- Nat.pow_add]
  rw[e]
  exact Nat.mul_le_mul (Nat.le_trans (LL_pow k) (Nat.pow_le_pow_right (by decide) (by omega))) hB) (Nat.le_trans (LL_pow k) (Nat.pow_le_pow_right (by decide) (by omega)))
 have h450:4 ^ (k*k)<=2 ^ 50:=by
  have h:4 ^ (k*k)<=4 ^ 25:=Nat.pow_le_pow_right (by decide) (by
   have:=Nat.mul_le_mul k5 k5;omega)
  exact Nat.le_trans h (by decide)
 refine ⟨(by show 2<=sizeLine;decide),fun tp htp=>?_⟩
 have g10:Same H9 (upd H9 tp (.tup [.int 0,.int 1])):=Same.new htp
 have htp10:upd H9 tp (.tup [.int 0,.int 1]) tp=some (.tup ((fr 0).map V.int)):=upd_same
 try dsimp -proj only[gName]
 generalize upd H9 tp (.tup [.int 0,.int 1])=H10 at g10 htp10
 have hsl10:=g10 _ _ hsl
 have hB10:=hB.same g10
 refine ⟨_,rfl,sl,rfl,⟨_,.of hsl10⟩,?_⟩
 refine for_list (K:=K) (a:=sl) (xs:=ys) (fun i2 σ H'=>Same H10 H'/\i2<=ys.length/\∃c p9 pa,σ=[some (.ref a),some (.int i),some (.ref l),some (.int n),some (.ref ua),some rv,some (.int k),some (.ref sl),some (.ref c),p9,pa,ob,oc,od]/\H' c=some (.tup ((fr (sumQ ((T.take i2).map (·.2)))).map V.int)))
  ⟨Same.refl _,Nat.zero_le _,tp,o9,oa,rfl,htp10⟩ (fun i2 σ H' _ h=>.of (h.1 _ _ hsl10)) (fun i2 t σ H' ht h=>?_) (fun σ H11 h=>?_)
 ·obtain ⟨g',hi2,cc,p9,pa,rfl,hc⟩:=h
  obtain ⟨p,r,ka,qa,hp,rfl,h1,h2,h3⟩:=hB10.get ht
  have hjl:=(List.getElem?_eq_some_iff.mp ht).1
  have hpv:=hTv p (List.mem_of_getElem? hp)
  have hsv:Vq (LL ^ k) (4 ^ (k*k)*((T.take i2).map (·.2)).length) (sumQ ((T.take i2).map (·.2))):=sumQ_vq fun x hx=>by
   obtain ⟨z,hz,rfl⟩:=List.mem_map.mp hx
   exact hTv z (List.mem_of_mem_take hz)
  have hl2:((T.take i2).map (·.2)).length<=2 ^ 10:=by rw[List.length_map,List.length_take];omega
  refine ⟨r,_,rfl,.of (g' _ _ h1),rfl,_,_,rfl,_,_,rfl,rfl,?_⟩
  refine ⟨_,rfl,_,rfl,cc,qa,_,_,1900,1900,rfl,hc,g' _ _ h3,Rat.num_nonneg.mpr hsv.nn,Rat.num_nonneg.mpr hpv.nn,bdq _ _ hsv (Nat.le_trans (Nat.mul_le_mul h450 hl2) (by decide)),bdq _ _ hpv (Nat.le_trans h450 (by decide)),by decide,fun r3 H4' g4 hr4=>⟨g'.trans g4,hjl,r3,_,_,rfl,?_⟩⟩
  rw[List.take_add_one,hp,List.map_append]
  show H4' r3=some (.tup ((fr (sumQ ((T.take i2).map (·.2)++[p.2]))).map V.int))
  rw[sumQ_snoc]
  exact hr4
 obtain ⟨g11,_,cc,p9,pa,rfl,hc⟩:=h
 rw[hB10.len,List.take_length,<- sum_snd,linQ_perm hTp,ch_one hR n4 hU k k6] at hc
 have G11:Same H8 H11:=(g9.trans g10).trans g11
 have hsl11:=g11 _ _ hsl10
 have hB11:=hB10.same g11
 clear hsl10 hB10 hsl hB htp10 g10 htp
 refine ⟨_,rfl,(by show 2<=sizeLine;decide),fun p4 hp4=>?_⟩
 have g12:Same H11 (upd H11 p4 (.tup [.int 1,.int 1])):=Same.new hp4
 refine neD_at (a:=[1,1]) (b:=[1,1]) (g12 _ _ hc) upd_same ⟨_,rfl,?_⟩
 rw[decide_eq_true rfl]
 refine iteF ?_
 have G12:=G11.trans g12
 have hsl12:=g12 _ _ hsl11
 have hB12:=hB11.same g12
 try dsimp -proj only[gName]
 generalize upd H11 p4 (.tup [.int 1,.int 1])=H12 at g12 G12 hsl12 hB12
 refine ⟨_,rfl,_,rfl,.inr ⟨l,ua,rv,n,0,ns,rs,rfl,AS _ _ (G12.kp l) (by decide),fun s0 ys0 T0 H13 g13 hTp0 hTo0 hs0 hB0=>?_⟩⟩
 have eT0:T0=[(ns,1)]:=List.perm_singleton.mp hTp0
 subst eT0
 refine ⟨_,rfl,(by show 2<=sizeLine;decide),fun p5 hp5=>⟨(by show 2<=sizeLine;decide),fun p6 hp6=>⟨(by show 1<=sizeLine;decide),fun p7 hp7=>?_⟩⟩⟩
 have g14:Same H13 (upd H13 p5 (.tup [.int 1,.int 1])):=Same.new hp5
 have hp5':upd H13 p5 (.tup [.int 1,.int 1]) p5=some (.tup ((fr 1).map V.int)):=upd_same
 try dsimp -proj only at hp6 hp7
 try dsimp -proj only
 generalize upd H13 p5 (.tup [.int 1,.int 1])=H14 at g14 hp5' hp6 hp7
 have g15:Same H14 (upd H14 p6 (.tup [.ref ua,.ref p5])):=Same.new hp6
 have hp6':upd H14 p6 (.tup [.ref ua,.ref p5]) p6=some (.tup [.ref ua,.ref p5]):=upd_same
 generalize upd H14 p6 (.tup [.ref ua,.ref p5])=H15 at g15 hp6' hp7
 have g16:Same H15 (upd H15 p7 (.lst [.ref p6])):=Same.new hp7
 have hp7':upd H15 p7 (.lst [.ref p6]) p7=some (.lst [.ref p6]):=upd_same
 generalize upd H15 p7 (.lst [.ref p6])=H16 at g16 hp7'
 have g136:Same H13 H16:=(g14.trans g15).trans g16
 have G16:Same H8 H16:=(G12.trans g13).trans g136
 refine neTab (T:=[(ns,1)]) (g136 _ _ hs0) (hB0.same g136) hp7' ⟨⟨p6,ua,p5,rfl,g16 _ _ hp6',G16 _ _ hua8,g16 _ _ (g15 _ _ hp5')⟩,trivial⟩ ⟨_,rfl,?_⟩
 refine iteF ?_
 have hsl16:=g136 _ _ (g13 _ _ hsl12)
 have hB16:=hB12.same (g13.trans g136)
 clear hsl12 hB12 g12 G12 g13 hs0 hB0 g14 g15 g16 g136 hp5' hp6' hp7' hp5 hp6 hp7 hsl11 hB11 g11 G11 hc hp4
 refine ⟨_,rfl,sl,rfl,⟨_,.of hsl16⟩,?_⟩
 refine blk_list2 (K:=K) (a:=sl) (xs:=ys) (sz (by rw[hB16.len];omega)) (fun j zs Hj=>Same H16 Hj/\j<=T.length/\zs=((T.take j).map fun p=>V.bl (urnD 20 (DI p.1)))) ⟨Same.refl _,Nat.zero_le _,rfl⟩ (fun j zs Hj h=>?_) (fun j zs Hj _ h=>.of (h.1 _ _ hsl16)) ⟨rfl,rfl⟩ (fun j zs Hj x hx h=>?_) (fun zs H17 h=>?_)
 ·obtain ⟨_,hj,rfl⟩:=h
  rw[List.length_map,List.length_take];omega
 ·obtain ⟨gj,hj,rfl⟩:=h
  obtain ⟨p,r,ka,qa,hp,rfl,h1,h2,h3⟩:=hB16.get hx
  have hjl:=(List.getElem?_eq_some_iff.mp hp).1
  have hku:=w1 p (hTp.mem_iff.mp (List.mem_of_getElem? hp))
  refine ⟨r,.ref ka,.ref qa,rfl,.of (gj _ _ h1),_,rfl,.ref ka,ka+1,DI p.1,rfl,Dt.mkI (Nat.ne_of_lt (Nat.lt_succ_self _)) (gj _ _ h2),short_DI (by rw[hku.len];omega),fun Hk gk=>⟨gj.trans gk,hjl,?_⟩⟩
  rw[List.take_add_one,hp,List.map_append]
  rfl
 obtain ⟨g17,_,rfl⟩:=h
 rw[hB16.len,List.take_length]
 intro pz hpz
 have g18:Same H17 (upd H17 pz (.lst (T.map fun p=>V.bl (urnD 20 (DI p.1))))):=Same.new hpz
 refine ⟨pz,_,rfl,.inl (.of upd_same),?_,_,rfl,?_⟩
 ·rw[List.all_map,List.all_eq_true];intro p _;rfl
 have G18:=(G16.trans g17).trans g18
 have hsl18:=g18 _ _ (g17 _ _ hsl16)
 have hB18:=hB16.same (g17.trans g18)
 try dsimp -proj only[gName]
 generalize upd H17 pz (.lst (T.map fun p=>V.bl (urnD 20 (DI p.1))))=H18 at g18 G18 hsl18 hB18
 clear hsl16 hB16 g17 g18 hpz
 have hlast:((T.map fun p=>V.bl (urnD 20 (DI p.1))).all truV=true)->∀p∈T,Mt.Urn n 20 p.1:=fun h p hp=>by
  rw[List.all_map,List.all_eq_true] at h
  have h2:urnD 20 (DI p.1)=true:=h p hp
  obtain ⟨ms,e,_,_,hm,hs⟩:=urnD_true h2
  have e2:=DI_inj e
  have hku:=w1 p (hTp.mem_iff.mp hp)
  rw[e2]
  rw[e2] at hku
  exact ⟨hku.len,hm,hs⟩
 apply joinR (S:=fun H'=>Same H18 H')
 ·intro rest
  by_cases hall:((T.map fun p=>V.bl (urnD 20 (DI p.1))).all truV=true)
  ·rw[if_pos hall]
   have e1:(k:Int)+1=((k+1:Nat):Int):=by omega
   refine ⟨_,rfl,_,rfl,_,rfl,_,_,rfl,rfl,?_⟩
   try dsimp -proj only
   rw[e1]
   refine .inr ⟨l,ua,rv,n,k+1,ns,rs,rfl,AS _ _ (G18.kp l) (by omega),fun s1 ys1 T1 H19 g19 hTp1 hTo1 hs1 hB1=>?_⟩
   refine ⟨_,rfl,_,rfl,sl,l,rv,n,k,ns,rs,T,ys,rfl,g19 _ _ hsl18,hB18.same g19,hTp,hrd8.kp ((G18.trans g19).kp l),hR,n1,n4,hU,k5,hlast hall,fun s2 ys2 T2 H20 g20 hTp2 hTo2 hs2 hB2=>?_⟩
   have eT:T1=T2:=ord_unique hTo1 hTo2 (by
    have:=(ch_ok hR n4 hU (k+1) (by omega)).2.1
    unfold NDq at this ⊢
    exact (hTp1.map _).nodup_iff.mpr this) (hTp1.trans hTp2.symm)
   subst eT
   refine neTab (g20 _ _ hs1) (hB1.same g20) hs2 hB2 ⟨_,rfl,?_⟩
   exact iteF (rest _ (g19.trans g20))
  ·rw[if_neg hall]
   exact iteF (rest _ (Same.refl _))
 intro H20 g20
 have G20:=G18.trans g20
 have hsl20:=g20 _ _ hsl18
 have hB20:=hB18.same g20
 clear hsl18 hB18 hlast
 refine ⟨_,rfl,_,rfl,l,rv,n,rs,rfl,hrd8.kp (G20.kp l),hR,n1,n4,fun H21 g21=>?_⟩
 have G21:=G20.trans g21
 have hsl21:=g21 _ _ hsl20
 have hB21:=hB20.same g21
 clear hsl20 hB20 g20 g21
 generalize hgv:gV (grow rs)=gv
 apply joinS (S:=fun σ H'=>Same H21 H'/\∃q9 qa,σ=[some (.ref a),some (.int i),some (.ref l),some (.int n),some (.ref ua),some rv,some (.int k),some (.ref sl),some (.ref cc),q9,qa,some gv,oc,od])
 ·intro rest
  refine ⟨_,rfl,_,rfl,?_⟩
  rcases Option.eq_none_or_eq_some (grow rs) with hg|⟨g,hg⟩
  ·exact iteNS (by rw[<- hgv,hg];rfl) (rest _ H21 ⟨Same.refl _,p9,pa,rfl⟩)
  ·have eg:gv=V.int g:=by rw[<- hgv,hg];rfl
   subst eg
   rw[decide_eq_false (show ¬ V.int g=V.non from fun z=>by cases z)]
   refine iteT ?_
   have hgb:=grow_le hR n1 hg
   have hgs:=grow_all hg
   refine ⟨_,rfl,sl,rfl,⟨_,.of hsl21⟩,?_⟩
   refine blk_list2 (K:=K) (a:=sl) (xs:=ys) (sz (by rw[hB21.len];omega)) (fun j zs Hj=>Same H21 Hj/\j<=T.length/\zs=((T.take j).map fun _=>V.bl false)) ⟨Same.refl _,Nat.zero_le _,rfl⟩ (fun j zs Hj h=>?_) (fun j zs Hj _ h=>.of (h.1 _ _ hsl21)) ⟨rfl,rfl⟩ (fun j zs Hj x hx h=>?_) (fun zs Hk h=>?_)
   ·obtain ⟨_,hj,rfl⟩:=h
    rw[List.length_map,List.length_take];omega
   ·obtain ⟨gj,hj,rfl⟩:=h
    obtain ⟨p,r,ka,qa,hp,rfl,h1,h2,h3⟩:=hB21.get hx
    have hjl:=(List.getElem?_eq_some_iff.mp hp).1
    have hps:=ch_sum hR hU hgs k6 n4 (hTp.mem_iff.mp (List.mem_of_getElem? hp))
    refine ⟨r,.ref ka,.ref qa,rfl,.of (gj _ _ h1),_,rfl,ka,p.1,rfl,.inr (.of (gj _ _ h2)),_,rfl,ua,ns,rfl,.inr (.of (gj _ _ (G21 _ _ hua8))),_,rfl,_,rfl,_,_,rfl,rfl,.inl ⟨by omega,by omega⟩,_,_,rfl,rfl,rfl,gj,hjl,?_⟩
    rw[List.take_add_one,hp,List.map_append,hps,decide_eq_true rfl]
    rfl
   obtain ⟨gk,_,rfl⟩:=h
   rw[hB21.len,List.take_length]
   intro pz hpz
   have gz:Same Hk (upd Hk pz (.lst (T.map fun _=>V.bl false))):=Same.new hpz
   refine ⟨pz,_,rfl,.inl (.of upd_same),?_,_,rfl,?_⟩
   ·rw[List.all_map,List.all_eq_true];intro p _;rfl
   rw[show (T.map fun _=>V.bl false).any truV=false by rw[List.any_map,List.any_eq_false];intro p _;exact Bool.false_ne_true]
   refine iteF ?_
   have Gz:=gk.trans gz
   try dsimp -proj only[gName]
   generalize upd Hk pz (.lst (T.map fun _=>V.bl false))=Hz at gz Gz
   have hslz:=Gz _ _ hsl21
   have hBz:=hB21.same Gz
   have G8z:=G21.trans Gz
   refine ⟨_,rfl,sl,rfl,⟨_,.of hslz⟩,?_⟩
   refine for_list (K:=K) (a:=sl) (xs:=ys) (fun i2 σ H'=>Same Hz H'/\i2<=ys.length/\∃q9 qa,σ=[some (.ref a),some (.int i),some (.ref l),some (.int n),some (.ref ua),some rv,some (.int k),some (.ref sl),some (.ref cc),q9,qa,some (.int g),oc,od])
    ⟨Same.refl _,Nat.zero_le _,p9,pa,rfl⟩ (fun i2 σ H' _ h=>.of (h.1 _ _ hslz)) (fun i2 t σ H' ht h=>?_) (fun σ H' h=>?_)
   ·obtain ⟨g',hi2,q9,qa',rfl⟩:=h
    obtain ⟨p,r,ka,qa,hp,rfl,h1,h2,h3⟩:=hBz.get ht
    have hjl:=(List.getElem?_eq_some_iff.mp ht).1
    have hpm:=hTp.mem_iff.mp (List.mem_of_getElem? hp)
    have hku:=w1 p hpm
    have G':=G8z.trans g'
    have hxl:H8 l=some (.lst [.int _,.bl b]):=s8.2.choose_spec.1
    have hcut:=ch_cut hR n4 hU hgs hgb.1 k6 hpm
    have hwp:=wN_pos hU.pos hgb.1 k
    have hu80:ns.sum<=80:=by
     have:=Mt.sum_le (l:=ns) (m:=20) fun x hx=>(hU.nn x hx).2
     rw[hU.len] at this;omega
    have hwb:=waysN_bd (Int.le_of_lt hU.pos) hu80 hgb.1 (by omega) k (by omega)
    rw[ways_wN] at hwb
    have hka':=g' _ _ h2
    refine ⟨r,_,rfl,.of (g' _ _ h1),rfl,_,_,rfl,_,_,rfl,rfl,?_⟩
    refine ⟨_,rfl,_,rfl,_,rfl,_,rfl,_,rfl,.inr ⟨l,ua,ka,rv,n,k,ns,p.1,rs,g,rfl,Dt.mkI nua (G' _ _ hua8),hU,hrd8.kp (G'.kp l),hR,n1,n4,hg,k6,Dt.mkI (ne_of hka' (G' _ _ hxl) (by intro z;cases z)) hka',hku.len,urnD60 hku (by omega) n1 n4,fun H23 g23=>?_⟩⟩
    refine ⟨_,rfl,_,rfl,_,rfl,.inr ⟨l,ua,rv,n,k,ns,rs,g,rfl,Dt.mkI nua (g23 _ _ (G' _ _ hua8)),hU,hrd8.kp ((G'.trans g23).kp l),hR,n1,n4,hg,by omega,fun H24 g24=>?_⟩⟩
    rw[ways_wN]
    refine ⟨_,_,rfl,cut_top_nn hwp (by rw[<- hcut];exact (hTv p (List.mem_of_getElem? hp)).nn),hwp,log_of (n:=60) hwp ?_ (by decide),fun pq H25 g25 hpq=>?_⟩
    ·have:(1024:Int) ^ k<=1024 ^ 6:=by
      have:=Nat.pow_le_pow_right (show 0<1024 by decide) k6
      exact_mod_cast this
     have e:(1024:Int) ^ 6=2 ^ 60:=by decide
     have:wN ns.sum g k<=2 ^ 60:=by rw[<- e];omega
     omega
    ·rw[<- hcut] at hpq
     have g35:=(g23.trans g24).trans g25
     refine neD_at (g35 _ _ (g' _ _ h3)) hpq ⟨_,rfl,?_⟩
     rw[decide_eq_true rfl]
     exact iteF ⟨g'.trans g35,hjl,_,_,rfl⟩
   ·obtain ⟨g',_,q9,qa',rfl⟩:=h
    exact rest _ H' ⟨Gz.trans g',q9,qa',rfl⟩
 rintro σ H22 ⟨g22,q9,qa,rfl⟩
 have G22:=G21.trans g22
 have hsl22:=g22 _ _ hsl21
 have hB22:=hB21.same g22
 have s22:=s8.same G22
 clear hsl21 hB21 g22 G21 G20 G18 G16
 obtain ⟨_,x22,hx22,ok22⟩:=id s22
 have nsl:sl≠l:=fun e=>by
  rw[e,hx22] at hsl22
  injection hsl22 with h
  injection h with h
  subst h
  cases T with
  | nil=>exact hB22.elim
  | cons p T =>
   obtain ⟨r,ka,q,z,_⟩:=hB22.1
   cases z
 have k22:Kp l H8 H22:=G22.kp l
 refine ⟨_,rfl,(k:Int),rfl,by omega,by omega,?_⟩
 refine blk_range (lo:=0) (n:=k) (sz (by omega)) (fun i ys HE=>Sta l b H22 HE/\∃gs:List Nat,ys=(kI gs).map V.int/\gs.length=i/\∀z∈gs,z<n)
  ⟨Sta.start hx22 ok22,[],rfl,rfl,by simp⟩ (fun i ys HE h=>?_) rfl (fun i ys HE hi h=>?_) (fun ys' HE h=>?_)
 ·obtain ⟨_,gs,rfl,hn,_⟩:=h
  rw[List.length_map,kI_len];exact hn
 ·obtain ⟨sE,gs,rfl,hn,hb⟩:=h
  obtain ⟨_,xE,hxE,okE⟩:=id sE
  refine ⟨_,rfl,_,rfl,l,n,xE,b,rfl,hxE,okE,by omega,by omega,fun y x4 hy ok4=>?_⟩
  refine ⟨sE.go ok4,gs++[y],?_,by rw[List.length_append,hn];rfl,fun z hz=>?_⟩
  ·rw[kI_snoc,List.map_append]
   rfl
  ·rcases List.mem_append.mp hz with h|h
   ·exact hb z h
   ·rw[List.mem_singleton.mp h];omega
 obtain ⟨sE,gs,rfl,hgl,hgb⟩:=h
 intro pz2 hpz2
 refine ⟨pz2,_,rfl,.inl ⟨.of upd_same,fun pg hpg=>?_⟩⟩
 have gF:Same HE (upd (upd HE pz2 (.lst ((kI gs).map V.int))) pg (.tup ((kI gs).map V.int))):=(Same.new hpz2).trans (Same.new hpg)
 have hpgF:upd (upd HE pz2 (.lst ((kI gs).map V.int))) pg (.tup ((kI gs).map V.int)) pg=some (.tup ((kI gs).map V.int)):=upd_same
 have sF:=(s22.trans sE).same gF
 have kF:Kp l H22 (upd (upd HE pz2 (.lst ((kI gs).map V.int))) pg (.tup ((kI gs).map V.int))):=sE.1.trans (gF.kp l)
 try dsimp -proj only[gName]
 generalize upd (upd HE pz2 (.lst ((kI gs).map V.int))) pg (.tup ((kI gs).map V.int))=HF at hpgF sF kF
 clear gF sE hpz2 hpg
 have hslF:=kF _ _ nsl hsl22
 have hBF:BQ HF T ys:=hB22.mono fun b' xs e=>kF _ _ (ne_of e hx22 (by intro z;cases z)) e
 have K8F:=k22.trans kF
 have npg:=sF.neL hpgF
 clear hsl22 hB22 hx22 ok22 nsl
 have AK:∀H',Same HF H'->Ask l H' n ns rs gs ua rv pg:=fun H' g=>⟨Dt.mkI nua (g _ _ (K8F _ _ nua hua8)),hU,hrd8.kp (K8F.trans (g.kp l)),hR,Dt.mkI npg (g _ _ hpgF),n1,n4,by omega,hgb⟩
 have FIN:∀H',Same HF H'->SqL K H' a (scr.map V.int):=fun H' g=>hA _ (sF.1.trans (g.kp l))
 refine ⟨_,rfl,_,rfl,_,rfl,.inr ⟨l,ua,pg,rv,n,ns,rs,gs,rfl,AK _ (Same.refl _),fun u H25 g25 hu=>?_⟩⟩
 refine ⟨_,rfl,_,rfl,_,rfl,_,rfl,.inr ⟨l,ua,pg,rv,n,ns,rs,gs,rfl,AK _ g25,fun pq H26 g26 hpq=>?_⟩⟩
 refine ⟨(by show 2<=sizeLine;decide),fun p0 hp0=>?_⟩
 have g27:Same H26 (upd H26 p0 (.tup [.int 0,.int 1])):=Same.new hp0
 refine eqD_at (b:=[0,1]) (g27 _ _ hpq) upd_same ?_
 try dsimp -proj only[gName]
 generalize upd H26 p0 (.tup [.int 0,.int 1])=H27 at g27
 have G27:Same HF H27:=(g25.trans g26).trans g27
 have hu27:=hu.same (g26.trans g27)
 have hdec:decide (u=V.non)=decide (fr (fol rs ns gs).1=[0,1]):=by
  cases hf:(fol rs ns gs).2 with
  | none =>
   rw[hf] at hu
   have hu':u=.non:=hu
   rw[fol_none hf,hu',decide_eq_true rfl]
   exact (decide_eq_true fr_zero).symm
  | some v =>
   rw[hf] at hu
   obtain ⟨b',hu',_⟩:=hu
   have:=fol_pos hR hU hgb hf
   have z2:¬ fr (fol rs ns gs).1=[0,1]:=fun z=>this (fr_inj (q:=0) z)
   rw[hu',decide_eq_false (fun z=>by cases z),decide_eq_false z2]
 refine ⟨rfl,_,rfl,?_⟩
 refine iteNS (by rw[hdec]) ?_
 refine ⟨_,rfl,_,rfl,?_⟩
 cases hf:(fol rs ns gs).2 with
 | none =>
  rw[hf] at hu27
  have hu':u=.non:=hu27
  refine iteNS hu' (iteF ?_)
  exact ⟨FIN _ G27,_,_,_,_,_,_,_,_,_,_,_,_,_,rfl⟩
 | some v =>
  rw[hf] at hu27
  obtain ⟨b',hu',hb'⟩:=hu27
  subst hu'
  rw[decide_eq_false (show ¬ V.ref b'=V.non from fun z=>by cases z)]
  refine iteT ?_
  have hsl27:=G27 _ _ hslF
  have hB27:=hBF.same G27
  refine ⟨_,rfl,_,rfl,sl,rfl,⟨_,.of hsl27⟩,?_⟩
  refine blk_list2 (K:=K) (a:=sl) (xs:=ys) (sz (by rw[hB27.len];omega)) (fun j zs Hj=>Same H27 Hj/\j<=T.length/\∃as:List Addr,zs=as.map V.ref/\as.length=j/\(∀q∈as,∃ns:List Int,Hj q=some (.tup (ns.map V.int)))/\∀p∈T.take j,∃q∈as,Hj q=some (.tup (p.1.map V.int))) ⟨Same.refl _,Nat.zero_le _,[],rfl,rfl,by simp,by simp⟩ (fun j zs Hj h=>?_) (fun j zs Hj _ h=>.of (h.1 _ _ hsl27)) ⟨rfl,rfl⟩ (fun j zs Hj x hx h=>?_) (fun zs Hk h=>?_)
  ·obtain ⟨_,hj,as,rfl,hl,_⟩:=h
   rw[List.length_map];exact hl
  ·obtain ⟨gj,hj,as,rfl,hl,ha1,ha2⟩:=h
   obtain ⟨p,r,ka,qa,hp,rfl,h1,h2,h3⟩:=hB27.get hx
   have hjl:=(List.getElem?_eq_some_iff.mp hp).1
   refine ⟨r,.ref ka,.ref qa,rfl,.of (gj _ _ h1),_,rfl,gj,hjl,as++[ka],by rw[List.map_append];rfl,by rw[List.length_append,hl];rfl,fun q hq=>?_,fun p' hp'=>?_⟩
   ·rcases List.mem_append.mp hq with hq|hq
    ·exact ha1 q hq
    ·rw[List.mem_singleton.mp hq];exact ⟨p.1,gj _ _ h2⟩
   ·rw[List.take_add_one,hp] at hp'
    rcases List.mem_append.mp hp' with hp'|hp'
    ·obtain ⟨q,hq,hq2⟩:=ha2 p' hp'
     exact ⟨q,List.mem_append_left _ hq,hq2⟩
    ·have:p'=p:=by simpa using hp'
     subst this
     exact ⟨ka,List.mem_append_right _ (List.mem_singleton.mpr rfl),gj _ _ h2⟩
  ·obtain ⟨gk,_,as,rfl,hl,ha1,ha2⟩:=h
   rw[hB27.len,List.take_length] at ha2
   intro pz hpz
   have gz:Same Hk (upd Hk pz (.lst (as.map V.ref))):=Same.new hpz
   refine ⟨b',pz,v,as,rfl,rfl,gz _ _ (gk _ _ hb'),.of upd_same,fun q hq=>?_,fun bb hbb=>?_⟩
   ·obtain ⟨ms,hms⟩:=ha1 q hq
    exact ⟨ms,gz _ _ hms⟩
   ·have hv:v∈(chQ rs gs.length [(ns,1)]).map (·.1):=fol_key hR hU hgb (by simp) hf
    rw[hgl] at hv
    obtain ⟨p,hp,e⟩:=List.mem_map.mp hv
    obtain ⟨q,hq,hq2⟩:=ha2 p (hTp.mem_iff.mpr hp)
    have e':p.1=v:=e
    rw[e'] at hq2
    rw[hbb.mpr ⟨q,hq,gz _ _ hq2⟩]
    refine ⟨_,rfl,iteF ?_⟩
    exact ⟨FIN _ ((G27.trans gk).trans gz),_,_,_,_,_,_,_,_,_,_,_,_,_,rfl⟩
end
end G
set_option maxHeartbeats 4000000
namespace G
open PySem PySem.Spec PyProof.Rows L2 Mt
noncomputable def Has (K:W.Frag) (x:Str) (st:Stmt):Prop:=∃(f:Addr) (oc:Value) (od:Option Addr) (kV doc pm:Value) (an:Option Addr) (cdv ct:Value) (sl:Array (Option Value)),
 W.nsIn K mainGlobals x=some (some (.ref f))/\K.lookup f=some ⟨oc,od,.func (W.fnOf x x (defArgs st) (defBody st) (defScope st) .none kV doc pm an cdv ct),sl⟩/\W.codeIn K cdv x=true/\W.keepIn K (.ref f)=true
theorem has_mk {K:W.Frag}{x:Str}{st:Stmt}{f:Addr}{oc:Value}{od:Option Addr}{kV doc pm:Value}{an:Option Addr}{cdv ct:Value}{sl:Array (Option Value)}
  (a:W.nsIn K mainGlobals x=some (some (.ref f))) (l:K.lookup f=some ⟨oc,od,.func (W.fnOf x x (defArgs st) (defBody st) (defScope st) .none kV doc pm an cdv ct),sl⟩) (c:W.codeIn K cdv x=true) (k:W.keepIn K (.ref f)=true):Has K x st :=
 ⟨f,oc,od,kV,doc,pm,an,cdv,ct,sl,a,l,c,k⟩
theorem cal_mk {P:Program}{w:World}{K:W.Frag}{mg:Str->Option Value}{base h:Heap}{x:Str}{st:Stmt}{ps:List Str}{k:Nat}{sp:Sp} (X:K.In h) (G:h.Ns mainGlobals mg) (H:Has K x st)
  (hb:∀(f:Addr) (fd:FuncData),Fun K x x st f fd->Binds K fd ps []) (ok:∀(f:Addr) (fd:FuncData),Fun K x x st f fd->FnOk P w K mg base CX0 k f fd ps sp):Cal P w K mg base k x ps sp:=by
 obtain ⟨f,oc,od,kV,doc,pm,an,cdv,ct,sl,a,l,c,kp⟩:=H
 have F:=fun_mk (st:=st) l c kp
 exact ⟨f,_,W.mg_of X G a,kp,hb _ _ F,ok _ _ F⟩
theorem calx_mk {P:Program}{w:World}{K:W.Frag}{mg:Str->Option Value}{base h:Heap}{x:Str}{st:Stmt}{ps:List Str}{k:Nat}{sp:Sp} (X:K.In h) (G:h.Ns mainGlobals mg) (H:Has K x st)
  (hb:∀(f:Addr) (fd:FuncData),Fun K x x st f fd->Binds K fd ps []) (ok:∀(f:Addr) (fd:FuncData),Fun K x x st f fd->FnOk P w K mg base (CX1 P w) k f fd ps sp):CalX P w K mg base k x ps sp:=by
 obtain ⟨f,oc,od,kV,doc,pm,an,cdv,ct,sl,a,l,c,kp⟩:=H
 have F:=fun_mk (st:=st) l c kp
 exact ⟨f,_,W.mg_of X G a,kp,hb _ _ F,ok _ _ F⟩
noncomputable def errX (K:W.Frag):List Addr->Bool
 | []=>true
 | C::cs=>W.excIn K C vE "ValueError.__new__"&&errX K cs
theorem errX_get {K:W.Frag}:∀{cs:List Addr}{i:Nat},errX K cs=true->i<cs.length->W.excIn K (cs.getD i 0) vE "ValueError.__new__"=true
 | C::cs,0,h,_=>by
  unfold errX at h
  rw[Bool.and_eq_true] at h
  exact h.1
 | C::cs,i+1,h,hi=>by
  unfold errX at h
  rw[Bool.and_eq_true] at h
  have:=errX_get (cs:=cs) (i:=i) h.2 (by simpa using hi)
  simpa using this
theorem errs_mk {K:W.Frag}{h:Heap}{mg:Str->Option Value}{a0 a1 a4 a5 a6 B:Addr} (X:K.In h) (G:h.Ns mainGlobals mg)
  (e0:W.nsIn K mainGlobals "NoUrn"=some (some (.ref a0))) (e1:W.nsIn K mainGlobals "NoRule"=some (some (.ref a1))) (e4:W.nsIn K mainGlobals "NoDraws"=some (some (.ref a4))) (e5:W.nsIn K mainGlobals "NoNumber"=some (some (.ref a5))) (e6:W.nsIn K mainGlobals "NotEven"=some (some (.ref a6)))
  (hX:errX K [a0,a1,a0,a0,a4,a5,a6,a0,a0,a0]=true):Errs K mg (fun i=>[a0,a1,a0,a0,a4,a5,a6,a0,a0,a0].getD i 0) B :=
 ⟨W.mg_of X G e0,W.mg_of X G e1,W.mg_of X G e4,W.mg_of X G e5,W.mg_of X G e6,fun i hi=>errX_get hX hi⟩
theorem all_mk {l:W.OpenLaw}{w:World}{K:W.Frag}{h:Heap}{mg:Str->Option Value}{fa Bs:Addr}{c:Nat->Addr} (X:K.In h) (G:h.Ns mainGlobals mg) (hfa:mg "law"=some (.ref fa)) (R:Errs K mg c Bs)
  (h1:Has K "is_number" s_is_number) (h2:Has K "is_whole" s_is_whole) (h3:Has K "are_wholes" s_are_wholes) (h4:Has K "need_number" s_need_number) (h5:Has K "is_urn_up_to" s_is_urn_up_to) (h6:Has K "is_urn" s_is_urn) (h7:Has K "is_rule" s_is_rule) (h8:Has K "need_urn" s_need_urn) (h9:Has K "need_rule" s_need_rule) (h10:Has K "need_urn_and_rule" s_nur) (h11:Has K "greatest_divisor" s_gd) (h12:Has K "fraction" s_fraction) (h13:Has K "times" s_times) (h14:Has K "plus" s_plus) (h15:Has K "share" s_share) (h16:Has K "put_in" s_put_in) (h17:Has K "own_urn" s_own_urn) (h18:Has K "urns_behind_one" s_ubo) (h19:Has K "next_chances" s_nextc) (h20:Has K "stands" s_st) (h21:Has K "need_draws" s_need_draws) (h22:Has K "follow" s_follow) (h23:Has K "chance_of" s_chance_of) (h24:Has K "urn_behind" s_urn_behind) (h25:Has K "growth_of" s_growth_of) (h26:Has K "growth" s_growth) (h27:Has K "need_even" s_need_even) (h28:Has K "ways" s_ways) (h29:Has K "next_ways" s_nextw) (h30:Has K "ways_to" s_wt) (h31:Has K "_law_cell_at" s_cell_at) (h32:Has K "_law_state" s_state) (h33:Has K "_law_take" s_take) (h34:Has K "_law_urn_of" s_lurn) (h35:Has K "_law_rule" s_lrule) (h36:Has K "_law_fraction" s_cut) (h37:Has K "_law_plus" s_lplus) (h38:Has K "_law_by" s_by) (h39:Has K "_law_more" s_more)
  (hlaw:Has K "law" s_law)
  (z1:W.nsIn K mainGlobals "isinstance"=some none) (z2:W.nsIn K mainGlobals "bool"=some none) (z3:W.nsIn K mainGlobals "int"=some none) (z4:W.nsIn K mainGlobals "tuple"=some none) (z5:W.nsIn K mainGlobals "list"=some none) (z6:W.nsIn K mainGlobals "all"=some none) (z7:W.nsIn K mainGlobals "sum"=some none) (z8:W.nsIn K mainGlobals "len"=some none) (z9:W.nsIn K mainGlobals "range"=some none) (z10:W.nsIn K mainGlobals "max"=some none) (z11:W.nsIn K mainGlobals "min"=some none) (z12:W.nsIn K mainGlobals "abs"=some none) (z13:W.nsIn K mainGlobals "zip"=some none) (z14:W.nsIn K mainGlobals "any"=some none) (z15:W.nsIn K mainGlobals "enumerate"=some none) (z16:W.nsIn K mainGlobals "sorted"=some none)
  {t1:Tok} (m1:W.nsIn K mainGlobals "MOST_KINDS"=some (some (.int 4 t1))) {t2:Tok} (m2:W.nsIn K mainGlobals "MOST_BALLS"=some (some (.int 20 t2))) {t3:Tok} (m3:W.nsIn K mainGlobals "MOST_PUT_IN"=some (some (.int 5 t3))) {t4:Tok} (m4:W.nsIn K mainGlobals "MOST_STAND_DRAWS"=some (some (.int 6 t4))) {t5:Tok} (m5:W.nsIn K mainGlobals "MOST_WAYS_DRAWS"=some (some (.int 40 t5))) {t6:Tok} (m6:W.nsIn K mainGlobals "MOST_DRAWS"=some (some (.int 20 t6))) {t7:Tok} (m7:W.nsIn K mainGlobals "MOST_BALLS_BEHIND"=some (some (.int 60 t7))):
  ∃fd:FuncData,(∀(s:Shared) (v:Value),BindsTo s fd ⟨[v],[]⟩ [("_law_script",v)])/\∀base:Heap,K.In base->base.Ns mainGlobals mg->FnOk l.prog w K mg base CX0 9 fa fd ["_law_script"] (spLaw K):=by
 obtain ⟨f,oc,od,kV,doc,pm,an,cdv,ct,sl,a,lk,c',kp⟩:=hlaw
 have e:=hfa.symm.trans (W.mg_of X G a)
 cases e
 have F:=fun_mk (st:=s_law) lk c' kp
 have B:Bt mg:=⟨W.mg_none_of X G z1,W.mg_none_of X G z2,W.mg_none_of X G z3,W.mg_none_of X G z4,W.mg_none_of X G z5,W.mg_none_of X G z6,W.mg_none_of X G z7,W.mg_none_of X G z8,W.mg_none_of X G z9,W.mg_none_of X G z10,W.mg_none_of X G z11,W.mg_none_of X G z12,W.mg_none_of X G z13⟩
 have B2:Bt2 mg:=⟨W.mg_none_of X G z14⟩
 have B3:Bt3 mg:=⟨W.mg_none_of X G z15,W.mg_none_of X G z16⟩
 have C:Ct mg:=⟨⟨_,W.mg_of X G m1⟩,⟨_,W.mg_of X G m2⟩,⟨_,W.mg_of X G m3⟩⟩
 have C2:Ct2 mg:=⟨⟨_,W.mg_of X G m4⟩⟩
 have CW:CtW mg:=⟨⟨_,W.mg_of X G m5⟩⟩
 have CD:CtD mg:=⟨⟨_,W.mg_of X G m6⟩⟩
 have CB:CtB mg:=⟨⟨_,W.mg_of X G m7⟩⟩
 refine ⟨W.fnOf "law" "law" (defArgs s_law) (defBody s_law) (defScope s_law) .none kV doc pm an cdv ct,fun s v=>.of_eq rfl,fun base _ _=>?_⟩
 have c_is_number:Cal l.prog w K mg base 0 "is_number" ["thing"] sp_is_number:=cal_mk X G h1 (fun f fd F=>F.binds (ps:=["thing"]) fun _ _ _ _ _ _ us hl=>match us,hl with | [_],_=>rfl) (fun f fd F=>ok_is_number F B)
 have c_is_whole:Cal l.prog w K mg base 1 "is_whole" ["thing","low","high"] sp_is_whole:=cal_mk X G h2 (fun f fd F=>F.binds (ps:=["thing","low","high"]) fun _ _ _ _ _ _ us hl=>match us,hl with | [_,_,_],_=>rfl) (fun f fd F=>ok_is_whole F c_is_number)
 have c_are_wholes:Cal l.prog w K mg base 2 "are_wholes" ["thing","low","high"] sp_are_wholes:=cal_mk X G h3 (fun f fd F=>F.binds (ps:=["thing","low","high"]) fun _ _ _ _ _ _ us hl=>match us,hl with | [_,_,_],_=>rfl) (fun f fd F=>ok_are_wholes F B c_is_whole)
 have c_need_number:CalX l.prog w K mg base 2 "need_number" ["thing","low","high"] (sp_need_number c):=calx_mk X G h4 (fun f fd F=>F.binds (ps:=["thing","low","high"]) fun _ _ _ _ _ _ us hl=>match us,hl with | [_,_,_],_=>rfl) (fun f fd F=>ok_need_number F R c_is_whole)
 have c_is_urn_up_to:Cal l.prog w K mg base 3 "is_urn_up_to" ["thing","most"] sp_is_urn_up_to:=cal_mk X G h5 (fun f fd F=>F.binds (ps:=["thing","most"]) fun _ _ _ _ _ _ us hl=>match us,hl with | [_,_],_=>rfl) (fun f fd F=>ok_is_urn_up_to F B C c_are_wholes)
 have c_is_urn:Cal l.prog w K mg base 4 "is_urn" ["thing"] sp_is_urn:=cal_mk X G h6 (fun f fd F=>F.binds (ps:=["thing"]) fun _ _ _ _ _ _ us hl=>match us,hl with | [_],_=>rfl) (fun f fd F=>ok_is_urn F C c_is_urn_up_to)
 have c_is_rule:CalX l.prog w K mg base 3 "is_rule" ["kinds","thing"] (sp_is_rule c):=calx_mk X G h7 (fun f fd F=>F.binds (ps:=["kinds","thing"]) fun _ _ _ _ _ _ us hl=>match us,hl with | [_,_],_=>rfl) (fun f fd F=>ok_is_rule F B C c_are_wholes c_need_number)
 have c_need_urn:CalX l.prog w K mg base 5 "need_urn" ["thing"] (sp_need_urn c):=calx_mk X G h8 (fun f fd F=>F.binds (ps:=["thing"]) fun _ _ _ _ _ _ us hl=>match us,hl with | [_],_=>rfl) (fun f fd F=>ok_need_urn F R c_is_urn)
 have c_need_rule:CalX l.prog w K mg base 4 "need_rule" ["kinds","thing"] (sp_need_rule c):=calx_mk X G h9 (fun f fd F=>F.binds (ps:=["kinds","thing"]) fun _ _ _ _ _ _ us hl=>match us,hl with | [_,_],_=>rfl) (fun f fd F=>ok_need_rule F R c_is_rule)
 have c_need_urn_and_rule:CalX l.prog w K mg base 6 "need_urn_and_rule" ["urn","rule"] (sp_nur c):=calx_mk X G h10 (fun f fd F=>F.binds (ps:=["urn","rule"]) fun _ _ _ _ _ _ us hl=>match us,hl with | [_,_],_=>rfl) (fun f fd F=>ok_nur F B c_need_urn c_need_rule)
 have c_greatest_divisor:Cal l.prog w K mg base 1 "greatest_divisor" ["one","other"] sp_gd:=cal_mk X G h11 (fun f fd F=>F.binds (ps:=["one","other"]) fun _ _ _ _ _ _ us hl=>match us,hl with | [_,_],_=>rfl) (fun f fd F=>ok_gd F B)
 have c_fraction:Cal l.prog w K mg base 2 "fraction" ["top","bottom"] sp_fraction:=cal_mk X G h12 (fun f fd F=>F.binds (ps:=["top","bottom"]) fun _ _ _ _ _ _ us hl=>match us,hl with | [_,_],_=>rfl) (fun f fd F=>ok_fraction F c_greatest_divisor)
 have c_times:Cal l.prog w K mg base 3 "times" ["one","other"] sp_times:=cal_mk X G h13 (fun f fd F=>F.binds (ps:=["one","other"]) fun _ _ _ _ _ _ us hl=>match us,hl with | [_,_],_=>rfl) (fun f fd F=>ok_times F c_fraction)
 have c_plus:Cal l.prog w K mg base 3 "plus" ["one","other"] sp_plus:=cal_mk X G h14 (fun f fd F=>F.binds (ps:=["one","other"]) fun _ _ _ _ _ _ us hl=>match us,hl with | [_,_],_=>rfl) (fun f fd F=>ok_plus F c_fraction)
 have c_share:Cal l.prog w K mg base 3 "share" ["urn","kind"] sp_share:=cal_mk X G h15 (fun f fd F=>F.binds (ps:=["urn","kind"]) fun _ _ _ _ _ _ us hl=>match us,hl with | [_,_],_=>rfl) (fun f fd F=>ok_share F B c_fraction)
 have c_put_in:Cal l.prog w K mg base 1 "put_in" ["urn","rule","kind"] sp_put_in:=cal_mk X G h16 (fun f fd F=>F.binds (ps:=["urn","rule","kind"]) fun _ _ _ _ _ _ us hl=>match us,hl with | [_,_,_],_=>rfl) (fun f fd F=>ok_put_in F B)
 have c_own_urn:Cal l.prog w K mg base 1 "own_urn" ["urn"] sp_own_urn:=cal_mk X G h17 (fun f fd F=>F.binds (ps:=["urn"]) fun _ _ _ _ _ _ us hl=>match us,hl with | [_],_=>rfl) (fun f fd F=>ok_own_urn F B)
 have c_urns_behind_one:Cal l.prog w K mg base 2 "urns_behind_one" ["urn","rule"] sp_ubo:=cal_mk X G h18 (fun f fd F=>F.binds (ps:=["urn","rule"]) fun _ _ _ _ _ _ us hl=>match us,hl with | [_,_],_=>rfl) (fun f fd F=>ok_ubo F B3 c_put_in)
 have c_next_chances:Cal l.prog w K mg base 4 "next_chances" ["chances","rule"] sp_nextc:=cal_mk X G h19 (fun f fd F=>F.binds (ps:=["chances","rule"]) fun _ _ _ _ _ _ us hl=>match us,hl with | [_,_],_=>rfl) (fun f fd F=>ok_nextc F B c_urns_behind_one c_times c_fraction c_plus)
 have c_stands:CalX l.prog w K mg base 7 "stands" ["urn","rule","draws"] (sp_st c):=calx_mk X G h20 (fun f fd F=>F.binds (ps:=["urn","rule","draws"]) fun _ _ _ _ _ _ us hl=>match us,hl with | [_,_,_],_=>rfl) (fun f fd F=>ok_st F B B3 C2 c_need_urn_and_rule c_need_number c_own_urn c_next_chances)
 have c_need_draws:CalX l.prog w K mg base 3 "need_draws" ["urn","thing"] (sp_need_draws c):=calx_mk X G h21 (fun f fd F=>F.binds (ps:=["urn","thing"]) fun _ _ _ _ _ _ us hl=>match us,hl with | [_,_],_=>rfl) (fun f fd F=>ok_need_draws F B CD R c_are_wholes)
 have c_follow:CalX l.prog w K mg base 7 "follow" ["urn","rule","draws"] (sp_follow c):=calx_mk X G h22 (fun f fd F=>F.binds (ps:=["urn","rule","draws"]) fun _ _ _ _ _ _ us hl=>match us,hl with | [_,_,_],_=>rfl) (fun f fd F=>ok_follow F B c_need_urn_and_rule c_need_draws c_own_urn c_times c_share c_put_in)
 have c_chance_of:CalX l.prog w K mg base 8 "chance_of" ["urn","rule","draws"] (sp_chance_of c):=calx_mk X G h23 (fun f fd F=>F.binds (ps:=["urn","rule","draws"]) fun _ _ _ _ _ _ us hl=>match us,hl with | [_,_,_],_=>rfl) (fun f fd F=>ok_chance_of F c_follow)
 have c_urn_behind:CalX l.prog w K mg base 8 "urn_behind" ["urn","rule","draws"] (sp_urn_behind c):=calx_mk X G h24 (fun f fd F=>F.binds (ps:=["urn","rule","draws"]) fun _ _ _ _ _ _ us hl=>match us,hl with | [_,_,_],_=>rfl) (fun f fd F=>ok_urn_behind F c_follow)
 have c_growth_of:Cal l.prog w K mg base 1 "growth_of" ["rule"] sp_growth_of:=cal_mk X G h25 (fun f fd F=>F.binds (ps:=["rule"]) fun _ _ _ _ _ _ us hl=>match us,hl with | [_],_=>rfl) (fun f fd F=>ok_growth_of F B)
 have c_growth:CalX l.prog w K mg base 5 "growth" ["kinds","rule"] sp_growthV:=calx_mk X G h26 (fun f fd F=>F.binds (ps:=["kinds","rule"]) fun _ _ _ _ _ _ us hl=>match us,hl with | [_,_],_=>rfl) (fun f fd F=>ok_growth F c_need_rule c_growth_of)
 have c_need_even:CalX l.prog w K mg base 7 "need_even" ["urn","rule"] (sp_need_even c):=calx_mk X G h27 (fun f fd F=>F.binds (ps:=["urn","rule"]) fun _ _ _ _ _ _ us hl=>match us,hl with | [_,_],_=>rfl) (fun f fd F=>ok_need_even F R c_need_urn_and_rule c_growth_of)
 have c_ways:CalX l.prog w K mg base 8 "ways" ["urn","rule","draws"] (sp_ways c):=calx_mk X G h28 (fun f fd F=>F.binds (ps:=["urn","rule","draws"]) fun _ _ _ _ _ _ us hl=>match us,hl with | [_,_,_],_=>rfl) (fun f fd F=>ok_ways F B CW c_need_even c_need_number c_growth_of)
 have c_next_ways:Cal l.prog w K mg base 3 "next_ways" ["ways_by_urn","rule"] sp_nextw:=cal_mk X G h29 (fun f fd F=>F.binds (ps:=["ways_by_urn","rule"]) fun _ _ _ _ _ _ us hl=>match us,hl with | [_,_],_=>rfl) (fun f fd F=>ok_nextw F c_urns_behind_one)
 have c_ways_to:CalX l.prog w K mg base 8 "ways_to" ["urn","rule","draws","other"] (sp_wt c):=calx_mk X G h30 (fun f fd F=>F.binds (ps:=["urn","rule","draws","other"]) fun _ _ _ _ _ _ us hl=>match us,hl with | [_,_,_,_],_=>rfl) (fun f fd F=>ok_wt F B C2 CB R c_need_even c_need_number c_is_urn_up_to c_next_ways)
 have c__law_cell_at:Cal l.prog w K mg base 1 "_law_cell_at" ["_law_script","_law_k"] (sp_cell_at K):=cal_mk X G h31 (fun f fd F=>F.binds (ps:=["_law_script","_law_k"]) fun _ _ _ _ _ _ us hl=>match us,hl with | [_,_],_=>rfl) (fun f fd F=>ok_cell_at F B)
 have c__law_state:Cal l.prog w K mg base 2 "_law_state" ["_law_script","_law_k"] (sp_state K):=cal_mk X G h32 (fun f fd F=>F.binds (ps:=["_law_script","_law_k"]) fun _ _ _ _ _ _ us hl=>match us,hl with | [_,_],_=>rfl) (fun f fd F=>ok_state F c__law_cell_at)
 have c__law_take:Cal l.prog w K mg base 1 "_law_take" ["_law_state_here","_law_many"] sp_take:=cal_mk X G h33 (fun f fd F=>F.binds (ps:=["_law_state_here","_law_many"]) fun _ _ _ _ _ _ us hl=>match us,hl with | [_,_],_=>rfl) (fun f fd F=>ok_take F )
 have c__law_urn_of:Cal l.prog w K mg base 2 "_law_urn_of" ["_law_state_here","_law_kinds"] sp_lurn:=cal_mk X G h34 (fun f fd F=>F.binds (ps:=["_law_state_here","_law_kinds"]) fun _ _ _ _ _ _ us hl=>match us,hl with | [_,_],_=>rfl) (fun f fd F=>ok_lurn F B B2 c__law_take)
 have c__law_rule:Cal l.prog w K mg base 2 "_law_rule" ["_law_state_here","_law_kinds"] sp_lrule:=cal_mk X G h35 (fun f fd F=>F.binds (ps:=["_law_state_here","_law_kinds"]) fun _ _ _ _ _ _ us hl=>match us,hl with | [_,_],_=>rfl) (fun f fd F=>ok_lrule F B c__law_take)
 have c__law_fraction:Cal l.prog w K mg base 1 "_law_fraction" ["_law_top","_law_bottom"] sp_cut:=cal_mk X G h36 (fun f fd F=>F.binds (ps:=["_law_top","_law_bottom"]) fun _ _ _ _ _ _ us hl=>match us,hl with | [_,_],_=>rfl) (fun f fd F=>ok_cut F B)
 have c__law_plus:Cal l.prog w K mg base 2 "_law_plus" ["_law_one","_law_other"] sp_plus:=cal_mk X G h37 (fun f fd F=>F.binds (ps:=["_law_one","_law_other"]) fun _ _ _ _ _ _ us hl=>match us,hl with | [_,_],_=>rfl) (fun f fd F=>ok_lplus F c__law_fraction)
 have c__law_by:Cal l.prog w K mg base 2 "_law_by" ["_law_one","_law_other"] sp_times:=cal_mk X G h38 (fun f fd F=>F.binds (ps:=["_law_one","_law_other"]) fun _ _ _ _ _ _ us hl=>match us,hl with | [_,_],_=>rfl) (fun f fd F=>ok_by F c__law_fraction)
 have c__law_more:Cal l.prog w K mg base 8 "_law_more" ["_law_some","_law_rule_here"] sp_more:=cal_mk X G h39 (fun f fd F=>F.binds (ps:=["_law_some","_law_rule_here"]) fun _ _ _ _ _ _ us hl=>match us,hl with | [_,_],_=>rfl) (fun f fd F=>ok_more F B3 c_stands (c__law_plus.up (by decide)) (c__law_by.up (by decide)))
 exact ok_law F B B2 ⟨(c__law_state.up (by decide)),(c__law_take.up (by decide)),(c__law_urn_of.up (by decide)),(c__law_rule.up (by decide)),(c_stands.up (by decide)),(c__law_plus.up (by decide)),(c_is_urn.up (by decide)),c__law_more,(c_growth.up (by decide)),(c__law_fraction.up (by decide)),c_ways_to,c_ways,c_urn_behind,c_chance_of⟩
theorem walk {l:W.OpenLaw}{q:Program}{loose:List Str}{XP:(Str->Option Value)->Heap->Prop}{YP:World->Heap->Prop}{d:DefRec}{K:Params->W.Frag} (hn:l.most=some 63) (hdf:d.params.defaults=[])
  (hY:∀(w:World) (h:Heap),YP w h->(K w.params).In h)
  (F:∀(w:World) (mg:Str->Option Value) (fa:Addr) (h:Heap),(K w.params).In h->h.Ns mainGlobals mg->mg d.name=some (.ref fa) ->
   ∃fd:FuncData,(∀(s:Shared) (u:Value),BindsTo s fd ⟨[u],[]⟩ [("_law_script",u)])/\∀base:Heap,(K w.params).In base->base.Ns mainGlobals mg->FnOk l.prog w (K w.params) mg base CX0 9 fa fd ["_law_script"] (spLaw (K w.params))):
  W.WalkO q loose XP YP l.row.toRowW d [] (fun f vs=>PySem.call f vs):=
 L2.walk_of (n:=63) (k:=9) (x:="_law_script") (CX:=fun _=>CX0) (sp:=fun w=>spLaw (K w.params)) hn (by decide) hdf ⟨rfl,by decide,by decide⟩ hY F (fun _ _ a ns hl _ hS=>⟨a,ns,rfl,hS,hl,fun _=>rfl⟩) fun _ _ _ _ _ z=>z
end G
noncomputable def PySem.Challenge.cw_growurns_k24_whole_stands_holds.tw6675742159655192181 : Unit:=()
noncomputable def PySem.Challenge.cw_growurns_k24_whole_stands_holds.tw13826450020209553633 : Unit:=()
noncomputable def PySem.Challenge.cw_growurns_k24_whole_stands_holds.tw17293667679193390691 : Unit:=()
noncomputable def PySem.Challenge.cw_growurns_k24_whole_stands_holds.tw11249756901524577953 : Unit:=()
noncomputable def PySem.Challenge.cw_growurns_k24_whole_stands_holds.tw10230512562038703961 : Unit:=()
noncomputable def PySem.Challenge.cw_growurns_k24_whole_stands_holds.tw18403127040030099945 : Unit:=()
noncomputable def PySem.Challenge.cw_growurns_k24_whole_stands_holds.tw5784708416905388500 : Unit:=()
noncomputable def PySem.Challenge.cw_growurns_k24_whole_stands_holds.tw6092710363701243170 : Unit:=()
noncomputable def PySem.Challenge.cw_growurns_k24_whole_stands_holds.tw11566571257610118507 : Unit:=()
noncomputable def PySem.Challenge.cw_growurns_k24_whole_stands_holds.tw4757858014450762860 : Unit:=()
noncomputable def PySem.Challenge.cw_growurns_k24_whole_stands_holds.tw12075394679594797255 : Unit:=()
noncomputable def PySem.Challenge.cw_growurns_k24_whole_stands_holds.tw17887115775774964679 : Unit:=()
noncomputable def PySem.Challenge.cw_growurns_k24_whole_stands_holds.tw3221719394078416735 : Unit:=()
noncomputable def PySem.Challenge.cw_growurns_k24_whole_stands_holds.tw2388260140204878458 : Unit:=()
noncomputable def PySem.Challenge.cw_growurns_k24_whole_stands_holds.tw16059478738788395444 : Unit:=()
noncomputable def PySem.Challenge.cw_growurns_k24_whole_stands_holds.tw2635651527331942505 : Unit:=()
noncomputable def PySem.Challenge.cw_growurns_k24_whole_stands_holds.tw5423684675755612181 : Unit:=()
noncomputable def PySem.Challenge.cw_growurns_k24_whole_stands_holds.tw10620008841031108899 : Unit:=()
noncomputable def PySem.Challenge.cw_growurns_k24_whole_stands_holds.tw1622127216197164758 : Unit:=()
noncomputable def PySem.Challenge.cw_growurns_k24_whole_stands_holds.tw8379085530163992914 : Unit:=()
noncomputable def PySem.Challenge.cw_growurns_k24_whole_stands_holds.tw15953339062674406676 : Unit:=()
noncomputable def PySem.Challenge.cw_growurns_k24_whole_stands_holds.tw559111239127937904 : Unit:=()
noncomputable def PySem.Challenge.cw_growurns_k24_whole_stands_holds.tw15922071709609944301 : Unit:=()
noncomputable def PySem.Challenge.cw_growurns_k24_whole_stands_holds.tw15700960116751134586 : Unit:=()
noncomputable def PySem.Challenge.cw_growurns_k24_whole_stands_holds.tw412059051762912470 : Unit:=()
noncomputable def PySem.Challenge.cw_growurns_k24_whole_stands_holds.tw1952125252418367671 : Unit:=()
noncomputable def PySem.Challenge.cw_growurns_k24_whole_stands_holds.tw10618405280014152998 : Unit:=()
noncomputable def PySem.Challenge.cw_growurns_k24_whole_stands_holds.tw10799741107737124213 : Unit:=()
noncomputable def PySem.Challenge.cw_growurns_k24_whole_stands_holds.tw10133389067704962155 : Unit:=()
noncomputable def PySem.Challenge.cw_growurns_k24_whole_stands_holds.tw13138201506044598440 : Unit:=()
noncomputable def PySem.Challenge.cw_growurns_k24_whole_stands_holds.tw6526732202304225511 : Unit:=()
set_option Elab.async true
open PySem PySem.W PyProof.Rows
set_option maxRecDepth 100000 in
set_option maxHeartbeats 0 in
theorem PySem.Challenge.cw_growurns_k24_whole_stands_holds : PySem.Challenge.rw_growurns_k24_whole_stands.Holds := by
 w_on;o_law;k_head;(case hw=>w_witness2)
 k_fill
 refine G.walk (l:=PySem.Challenge.rw_growurns_k24_whole_stands) rfl rfl (fun w h Y=>W.kIn_of Y) ?F
 case F =>
  intro w mg fa h KX NS hmg
  refine' G.all_mk KX NS hmg (G.errs_mk (B:=0) KX NS ?e0 ?e1 ?e4 ?e5 ?e6 ?eX) (G.has_mk ?a1 ?l1 ?c1 ?k1) (G.has_mk ?a2 ?l2 ?c2 ?k2) (G.has_mk ?a3 ?l3 ?c3 ?k3) (G.has_mk ?a4 ?l4 ?c4 ?k4) (G.has_mk ?a5 ?l5 ?c5 ?k5) (G.has_mk ?a6 ?l6 ?c6 ?k6) (G.has_mk ?a7 ?l7 ?c7 ?k7) (G.has_mk ?a8 ?l8 ?c8 ?k8) (G.has_mk ?a9 ?l9 ?c9 ?k9) (G.has_mk ?a10 ?l10 ?c10 ?k10) (G.has_mk ?a11 ?l11 ?c11 ?k11) (G.has_mk ?a12 ?l12 ?c12 ?k12) (G.has_mk ?a13 ?l13 ?c13 ?k13) (G.has_mk ?a14 ?l14 ?c14 ?k14) (G.has_mk ?a15 ?l15 ?c15 ?k15) (G.has_mk ?a16 ?l16 ?c16 ?k16) (G.has_mk ?a17 ?l17 ?c17 ?k17) (G.has_mk ?a18 ?l18 ?c18 ?k18) (G.has_mk ?a19 ?l19 ?c19 ?k19) (G.has_mk ?a20 ?l20 ?c20 ?k20) (G.has_mk ?a21 ?l21 ?c21 ?k21) (G.has_mk ?a22 ?l22 ?c22 ?k22) (G.has_mk ?a23 ?l23 ?c23 ?k23) (G.has_mk ?a24 ?l24 ?c24 ?k24) (G.has_mk ?a25 ?l25 ?c25 ?k25) (G.has_mk ?a26 ?l26 ?c26 ?k26) (G.has_mk ?a27 ?l27 ?c27 ?k27) (G.has_mk ?a28 ?l28 ?c28 ?k28) (G.has_mk ?a29 ?l29 ?c29 ?k29) (G.has_mk ?a30 ?l30 ?c30 ?k30) (G.has_mk ?a31 ?l31 ?c31 ?k31) (G.has_mk ?a32 ?l32 ?c32 ?k32) (G.has_mk ?a33 ?l33 ?c33 ?k33) (G.has_mk ?a34 ?l34 ?c34 ?k34) (G.has_mk ?a35 ?l35 ?c35 ?k35) (G.has_mk ?a36 ?l36 ?c36 ?k36) (G.has_mk ?a37 ?l37 ?c37 ?k37) (G.has_mk ?a38 ?l38 ?c38 ?k38) (G.has_mk ?a39 ?l39 ?c39 ?k39) (G.has_mk ?la ?ll ?lc ?lk) ?z1 ?z2 ?z3 ?z4 ?z5 ?z6 ?z7 ?z8 ?z9 ?z10 ?z11 ?z12 ?z13 ?z14 ?z15 ?z16 ?m1 ?m2 ?m3 ?m4 ?m5 ?m6 ?m7
  (case e0=>k_is);(case e1=>k_is);(case e4=>k_is);(case e5=>k_is);(case e6=>k_is)
  (case eX=>kernel_rfl)
  (case a1=>k_is);(case l1=>k_is);(case c1=>k_is);(case k1=>k_is)
  (case a2=>k_is);(case l2=>k_is);(case c2=>k_is);(case k2=>k_is)
  (case a3=>k_is);(case l3=>k_is);(case c3=>k_is);(case k3=>k_is)
  (case a4=>k_is);(case l4=>k_is);(case c4=>k_is);(case k4=>k_is)
  (case a5=>k_is);(case l5=>k_is);(case c5=>k_is);(case k5=>k_is)
  (case a6=>k_is);(case l6=>k_is);(case c6=>k_is);(case k6=>k_is)
  (case a7=>k_is);(case l7=>k_is);(case c7=>k_is);(case k7=>k_is)
  (case a8=>k_is);(case l8=>k_is);(case c8=>k_is);(case k8=>k_is)
  (case a9=>k_is);(case l9=>k_is);(case c9=>k_is);(case k9=>k_is)
  (case a10=>k_is);(case l10=>k_is);(case c10=>k_is);(case k10=>k_is)
  (case a11=>k_is);(case l11=>k_is);(case c11=>k_is);(case k11=>k_is)
  (case a12=>k_is);(case l12=>k_is);(case c12=>k_is);(case k12=>k_is)
  (case a13=>k_is);(case l13=>k_is);(case c13=>k_is);(case k13=>k_is)
  (case a14=>k_is);(case l14=>k_is);(case c14=>k_is);(case k14=>k_is)
  (case a15=>k_is);(case l15=>k_is);(case c15=>k_is);(case k15=>k_is)
  (case a16=>k_is);(case l16=>k_is);(case c16=>k_is);(case k16=>k_is)
  (case a17=>k_is);(case l17=>k_is);(case c17=>k_is);(case k17=>k_is)
  (case a18=>k_is);(case l18=>k_is);(case c18=>k_is);(case k18=>k_is)
  (case a19=>k_is);(case l19=>k_is);(case c19=>k_is);(case k19=>k_is)
  (case a20=>k_is);(case l20=>k_is);(case c20=>k_is);(case k20=>k_is)
  (case a21=>k_is);(case l21=>k_is);(case c21=>k_is);(case k21=>k_is)
  (case a22=>k_is);(case l22=>k_is);(case c22=>k_is);(case k22=>k_is)
  (case a23=>k_is);(case l23=>k_is);(case c23=>k_is);(case k23=>k_is)
  (case a24=>k_is);(case l24=>k_is);(case c24=>k_is);(case k24=>k_is)
  (case a25=>k_is);(case l25=>k_is);(case c25=>k_is);(case k25=>k_is)
  (case a26=>k_is);(case l26=>k_is);(case c26=>k_is);(case k26=>k_is)
  (case a27=>k_is);(case l27=>k_is);(case c27=>k_is);(case k27=>k_is)
  (case a28=>k_is);(case l28=>k_is);(case c28=>k_is);(case k28=>k_is)
  (case a29=>k_is);(case l29=>k_is);(case c29=>k_is);(case k29=>k_is)
  (case a30=>k_is);(case l30=>k_is);(case c30=>k_is);(case k30=>k_is)
  (case a31=>k_is);(case l31=>k_is);(case c31=>k_is);(case k31=>k_is)
  (case a32=>k_is);(case l32=>k_is);(case c32=>k_is);(case k32=>k_is)
  (case a33=>k_is);(case l33=>k_is);(case c33=>k_is);(case k33=>k_is)
  (case a34=>k_is);(case l34=>k_is);(case c34=>k_is);(case k34=>k_is)
  (case a35=>k_is);(case l35=>k_is);(case c35=>k_is);(case k35=>k_is)
  (case a36=>k_is);(case l36=>k_is);(case c36=>k_is);(case k36=>k_is)
  (case a37=>k_is);(case l37=>k_is);(case c37=>k_is);(case k37=>k_is)
  (case a38=>k_is);(case l38=>k_is);(case c38=>k_is);(case k38=>k_is)
  (case a39=>k_is);(case l39=>k_is);(case c39=>k_is);(case k39=>k_is)
  (case la=>k_is);(case ll=>k_is);(case lc=>k_is);(case lk=>k_is)
  (case z1=>k_is);(case z2=>k_is);(case z3=>k_is);(case z4=>k_is);(case z5=>k_is);(case z6=>k_is);(case z7=>k_is);(case z8=>k_is);(case z9=>k_is);(case z10=>k_is);(case z11=>k_is);(case z12=>k_is);(case z13=>k_is);(case z14=>k_is);(case z15=>k_is);(case z16=>k_is)
  (case m1=>k_is);(case m2=>k_is);(case m3=>k_is);(case m4=>k_is);(case m5=>k_is);(case m6=>k_is);(case m7=>k_is)
#print axioms PySem.Challenge.cw_growurns_k24_whole_stands_holds
