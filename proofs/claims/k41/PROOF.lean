import PyProof.Rows.All
import Wide.All
import OpenK.AllK
import Wide.FinOn
import Lean
import PyProof.EqAt
import PyProof.EqKinds
import PyProof.TupleCall
import KE.KIsAll
import KE.KLam
import KE.KTryDeep
import PyProof.ExcAttrAll.ValueError
import KE.KSortTup
import KE.KItemsList
import PyProof.Rows.SortRuns
import KE.KDictList
import PySem.Challenge.RW_growurns_k41_orders_that_matter
set_option Elab.async false
set_option linter.all false
set_option maxRecDepth 100000
namespace L2
open PySem PySem.Spec PyProof.Rows
abbrev Key:=Sum Int Str
def keyIs:Key->Value->Bool
  | .inl k,v=>Value.isInt k v
  | .inr x,v=>Value.isStrOf x v
def keyH (w:World):Key->Int
  | .inl k=>hashInt k
  | .inr x=>hashStr w x
theorem keyIs_shape:∀ {k:Key} {v:Value},keyIs k v=true->(∃ i t,k=Sum.inl i/\v=Value.int i t) ∨ (∃ x t,k=Sum.inr x/\v=Value.str x t)
  | .inl i,v,h=>by
    obtain ⟨t,e⟩:=Value.isInt_shape (k:=i) (v:=v) h
    exact .inl ⟨i,t,rfl,e⟩
  | .inr x,v,h=>by
    obtain ⟨t,e⟩:=Value.isStrOf_shape (x:=x) (v:=v) h
    exact .inr ⟨x,t,rfl,e⟩
theorem keyIs_int (i:Int) (t:Tok):keyIs (.inl i) (.int i t)=true:=by simp [keyIs,Value.isInt]
theorem keyIs_str (x:Str) (t:Tok):keyIs (.inr x) (.str x t)=true:=by simp [keyIs,Value.isStrOf]
theorem key_ll (a b:Int):decide ((Sum.inl a:Key)=Sum.inl b)=(a == b):=by
  by_cases e:a=b
  · subst e;simp
  · have h:¬ (Sum.inl a:Key)=Sum.inl b:=fun q=>e (Sum.inl.inj q)
    rw [decide_eq_false h]
    exact (beq_eq_false_iff_ne.mpr e).symm
theorem key_rr (a b:Str):decide ((Sum.inr a:Key)=Sum.inr b)=decide (a=b):=by
  by_cases e:a=b
  · subst e;simp
  · have h:¬ (Sum.inr a:Key)=Sum.inr b:=fun q=>e (Sum.inr.inj q)
    rw [decide_eq_false h,decide_eq_false e]
theorem key_lr (a:Int) (b:Str):decide ((Sum.inl a:Key)=Sum.inr b)=false:=decide_eq_false (fun q=>nomatch q)
theorem key_rl (a:Str) (b:Int):decide ((Sum.inr a:Key)=Sum.inl b)=false:=decide_eq_false (fun q=>nomatch q)
def mixKind (prog:Program) (w:World):PySem.KeyKind prog w Key where
  is:=keyIs
  hash:=keyH w
  inj:=fun v a b ha hb=>by
    rcases keyIs_shape ha with ⟨i,t,rfl,rfl⟩ | ⟨x,t,rfl,rfl⟩
    · rcases keyIs_shape hb with ⟨j,u,rfl,e⟩ | ⟨y,u,rfl,e⟩
      · injection e with e1 _;rw [e1]
      · exact nomatch e
    · rcases keyIs_shape hb with ⟨j,u,rfl,e⟩ | ⟨y,u,rfl,e⟩
      · exact nomatch e
      · injection e with e1 _;rw [e1]
  byValue:=fun k v h=>by
    rcases keyIs_shape h with ⟨i,t,rfl,rfl⟩ | ⟨x,t,rfl,rfl⟩ <;> rfl
  pyHash:=fun hv h=>by
    rcases keyIs_shape hv with ⟨i,t,rfl,rfl⟩ | ⟨x,t,rfl,rfl⟩
    · exact wpAny_pyHash_int h
    · exact wpAny_pyHash_str h
  eqBool:=fun hu hv h=>by
    rcases keyIs_shape hu with ⟨i,t,rfl,rfl⟩ | ⟨x,t,rfl,rfl⟩
    · rcases keyIs_shape hv with ⟨j,u,rfl,rfl⟩ | ⟨y,u,rfl,rfl⟩
      · rw [key_ll] at h;exact wpAny_eqBool_int h
      · rw [key_lr] at h;exact SeqAt.EqAt.int_str i t y u _ _ _ _ h
    · rcases keyIs_shape hv with ⟨j,u,rfl,rfl⟩ | ⟨y,u,rfl,rfl⟩
      · rw [key_rl] at h;exact SeqAt.EqAt.str_int x t j u _ _ _ _ h
      · rw [key_rr] at h;exact wpAny_eqBool_str h
  «strs»:=fun k x t v h=>by
    rcases keyIs_shape h with ⟨i,u,rfl,e⟩ | ⟨y,u,rfl,e⟩
    · exact nomatch e
    · injection e with e1 _
      subst e1
      cases v <;> rfl
theorem mixKind_int (prog:Program) (w:World) (i:Int) (t:Tok):(mixKind prog w).is (.inl i) (.int i t)=true:=keyIs_int i t
theorem mixKind_str (prog:Program) (w:World) (x:Str) (t:Tok):(mixKind prog w).is (.inr x) (.str x t)=true:=keyIs_str x t
end L2
namespace L2
open PySem PySem.Spec PyProof.Rows
inductive V where
  | non | bl (b:Bool) | int (i:Int) | str (x:Str) | byt (b:Array UInt8) | flt (b:UInt64) | ref (a:Addr) | ty (n:String)
  deriving DecidableEq
def RelV:V->Value->Prop
  | .non,u=>u=Value.none
  | .bl b,u=>u=Value.bool b
  | .int i,u=>∃ t,u=Value.int i t
  | .str x,u=>∃ t,u=Value.str x t
  | .byt b,u=>∃ t,u=Value.bytes b t
  | .flt b,u=>∃ t,u=Value.float b t
  | .ref a,u=>u=Value.ref a
  | .ty n,u=>u=Value.type n
abbrev Vals:List V->List Value->Prop:=Paired RelV
theorem Vals.length {xs:List V} {us:List Value} (r:Vals xs us):xs.length=us.length:=Paired.length r
theorem Vals.get:∀ {xs:List V} {us:List Value} {i:Nat} {x:V},Vals xs us->xs[i]?=some x->∃ u,us[i]?=some u/\RelV x u
  | _,_,_,_,.nil,e=>by simp at e
  | _,_,0,_,.cons r _,e=>by simp at e;subst e;exact ⟨_,rfl,r⟩
  | _,_,i + 1,x,.cons _ t,e=>by
    obtain ⟨u,h1,h2⟩:=Vals.get (i:=i) (x:=x) t (by simpa using e)
    exact ⟨u,by simpa using h1,h2⟩
theorem Vals.set {x:V} {u:Value} (r:RelV x u):∀ {xs:List V} {us:List Value} (i:Nat),Vals xs us->Vals (xs.set i x) (us.set i u)
  | _,_,_,.nil=>.nil
  | _,_,0,.cons _ t=>.cons r t
  | _,_,i + 1,.cons q t=>.cons q (Vals.set r i t)
theorem Vals.append:∀ {xs ys:List V} {us ws:List Value},Vals xs us->Vals ys ws->Vals (xs ++ ys) (us ++ ws)
  | _,_,_,_,.nil,s=>s
  | _,_,_,_,.cons r t,s=>.cons r (Vals.append t s)
theorem Vals.take:∀ {xs:List V} {us:List Value} (n:Nat),Vals xs us->Vals (xs.take n) (us.take n)
  | _,_,0,_=>.nil
  | _,_,_ + 1,.nil=>.nil
  | _,_,n + 1,.cons r t=>.cons r (Vals.take n t)
theorem Vals.drop:∀ {xs:List V} {us:List Value} (n:Nat),Vals xs us->Vals (xs.drop n) (us.drop n)
  | _,_,0,r=>r
  | _,_,_ + 1,.nil=>.nil
  | _,_,n + 1,.cons _ t=>Vals.drop n t
def RelO:Option V->Option Value->Prop
  | some v,some u=>RelV v u
  | none,none=>True
  | _,_=>False
def KV {κ:Type}:List (κ × V)->List (κ × Value)->Prop:=Paired fun (p:κ × V) (q:κ × Value)=>p.1=q.1/\RelV p.2 q.2
def kV:Key->V
  | .inl i=>.int i
  | .inr x=>.str x
inductive HO where
  | lst (xs:List V)
  | tup (xs:List V)
  | dK (kvs:List (Key × V)) | dT (kvs:List (List Key × V))
  | set (S:Int->Bool) (n:Nat)
  | ins (C dx:Addr) (fs:List (Str × V))
  | own (x:Addr)
  | xd (fs:List (Str × V))
  | met (f x:Addr)
  | rng (lo hi:Int)
  | frz (o:Obj) (u:HO)
  | tbl (ps:Array Value)
  | ext (φ:Heap->Prop)
abbrev Hp:=Addr->Option HO
def upd (H:Hp) (a:Addr) (o:HO):Hp:=fun b=>if b=a then some o else H b
theorem upd_same {H:Hp} {a:Addr} {o:HO}:upd H a o a=some o:=by unfold upd;rw [if_pos rfl]
theorem upd_ne {H:Hp} {a b:Addr} {o:HO} (h:b ≠ a):upd H a o b=H b:=by unfold upd;rw [if_neg h]
theorem ne_of {H:Hp} {a b:Addr} {o u:HO} (h:H a=some o) (h':H b=some u) (d:o ≠ u):a ≠ b:=by
  intro e;subst e;rw [h] at h';exact d (Option.some.inj h')
theorem ne_of_none {H:Hp} {a b:Addr} {o:HO} (h:H a=some o) (h':H b=none):a ≠ b:=by
  intro e;subst e;rw [h] at h';cases h'
section
variable (P:Program) (w:World)
def ObjOk (H:Hp) (h:Heap) (a:Addr):HO->Prop
  | .lst xs=>xs.length <= sizeLine/\∃ (its:List Value) (n:Nat),Vals xs its/\h.get? a=some { cls:=.type "list",data:=.seq its.toArray n }
  | .tup xs=>xs.length <= sizeLine/\∃ its:List Value,Vals xs its/\IsTup h a its.toArray
  | .dK kvs=>kvs.length <= sizeLine/\(a == sysModules)=false/\∃ vs,KV kvs vs/\h.DictOf (mixKind P w) a vs
  | .dT kvs=>kvs.length <= sizeLine/\(a == sysModules)=false/\∃ xs:List (List Key × Addr × Value),
      Paired (fun (p:List Key × V) (q:List Key × Addr × Value)=>p.1=q.1/\H q.2.1=some (.tup (p.1.map kV))/\RelV p.2 q.2.2) kvs xs /\
      ∃ o es ep,h.get? a=some o/\o.ExactDict/\o.data=.dict es ep/\es.toList=xs.map (entryOfKey (tupleKind (mixKind P w)))/\(xs.map (·.1)).Nodup
  | .set S n=>h.SetOf (intKind P w) a S n
  | .ins C dx fs=>H dx=some (.own a)/\fs.length <= 1000/\dx ≠ a/\h.get? a=some (PySem.W.instObj C dx) /\
      ∃ mA,h.Ns1 dx mA/\(∀ f,RelO (fs.lookup f) (mA f))/\PySem.Within mA (fs.map (·.1))
  | .own _=>∃ o,h.get? a=some o
  | .xd fs=>∃ mA,h.Ns1 a mA/\∀ f,RelO (fs.lookup f) (mA f)
  | .rng lo hi=>∃ t u v,h.get? a=some { cls:=.type "range",data:=.fields #[.int lo t,.int hi u,.int 1 v] }
  | .frz o u=>h.get? a=some o/\ObjOk H h a u
  | .tbl ps=>h.get? a=some { cls:=.none,data:=.fields ps }
  | .met f x=>h.get? a=some (PySem.W.methodObj (.ref f) (.ref x))
  | .ext φ=>φ h/\(∃ o,h.get? a=some o)/\∀ h1 h2:Heap,φ h1->(∀ o,h1.get? a=some o->h2.get? a=some o)->φ h2
def HOk (H:Hp) (h:Heap):Prop:=∀ a o,H a=some o->ObjOk P w H h a o
end
section
variable {P:Program} {w:World} {H H':Hp} {h h':Heap} {a:Addr} {o:HO}
theorem ObjOk.lt (x:ObjOk P w H h a o):a < h.objs.size:=by
  cases o with
  | lst xs=>obtain ⟨_,_,_,_,e⟩:=x;exact Heap.lt_size e
  | tup xs=>obtain ⟨_,_,_,p⟩:=x;exact p.lt
  | dK kvs=>obtain ⟨_,_,_,_,o,_,_,e,_⟩:=x;exact Heap.lt_size e
  | dT kvs=>obtain ⟨_,_,_,_,o,_,_,e,_⟩:=x;exact Heap.lt_size e
  | set S n=>obtain ⟨o,_,_,_,e,_⟩:=x;exact Heap.lt_size e
  | ins C dx fs=>obtain ⟨_,_,_,e,_⟩:=x;exact Heap.lt_size e
  | own y=>obtain ⟨_,e⟩:=x;exact Heap.lt_size e
  | xd fs=>obtain ⟨_,⟨_,_,_,e,_⟩,_⟩:=x;exact Heap.lt_size e
  | rng lo hi=>obtain ⟨_,_,_,e⟩:=x;exact Heap.lt_size e
  | frz ob u=>obtain ⟨e,_⟩:=x;exact Heap.lt_size e
  | tbl ps=>exact Heap.lt_size (show h.get? a=some _ from x)
  | met f y=>exact Heap.lt_size (show h.get? a=some _ from x)
  | ext φ=>obtain ⟨_,⟨_,e⟩,_⟩:=x;exact Heap.lt_size e
theorem Paired.mapP {α β:Type} {F G:α->β->Prop}:∀ {l₁:List α} {l₂:List β},Paired F l₁ l₂->(∀ a b,F a b->G a b)->Paired G l₁ l₂
  | _,_,.nil,_=>.nil
  | _,_,.cons r t,f=>.cons (f _ _ r) (Paired.mapP t f)
theorem ObjOk.stay (x:ObjOk P w H h a o) (k:∀ b u,(b=a ∨ H b=some (.own a))->h.get? b=some u->h'.get? b=some u)
    (ho:∀ b,H b=some (.own a)->H' b=some (.own a)) (ht:∀ b xs,H b=some (.tup xs)->H' b=some (.tup xs)):ObjOk P w H' h' a o:=by
  induction o with
  | lst xs=>obtain ⟨z,its,n,r,e⟩:=x;exact ⟨z,its,n,r,k _ _ (.inl rfl) e⟩
  | tup xs=>obtain ⟨z,its,r,ob,e,c⟩:=x;exact ⟨z,its,r,ob,k _ _ (.inl rfl) e,c⟩
  | dK kvs=>obtain ⟨z,y,vs,r,ob,es,ep,e,c⟩:=x;exact ⟨z,y,vs,r,ob,es,ep,k _ _ (.inl rfl) e,c⟩
  | dT kvs =>
    obtain ⟨z,y,xs,r,ob,es,ep,e,c⟩:=x
    exact ⟨z,y,xs,Paired.mapP r fun p q z=>⟨z.1,ht _ _ z.2.1,z.2.2⟩,ob,es,ep,k _ _ (.inl rfl) e,c⟩
  | set S n=>obtain ⟨ob,es,ep,t,e,c⟩:=x;exact ⟨ob,es,ep,t,k _ _ (.inl rfl) e,c⟩
  | ins C dx fs =>
    obtain ⟨d,z,ne,e,mA,⟨od,es,ep,e2,c⟩,r⟩:=x
    exact ⟨ho _ d,z,ne,k _ _ (.inl rfl) e,mA,⟨od,es,ep,k _ _ (.inr d) e2,c⟩,r⟩
  | own y=>obtain ⟨ob,e⟩:=x;exact ⟨ob,k _ _ (.inl rfl) e⟩
  | xd fs=>obtain ⟨mA,⟨od,es,ep,e,c⟩,r⟩:=x;exact ⟨mA,⟨od,es,ep,k _ _ (.inl rfl) e,c⟩,r⟩
  | rng lo hi=>obtain ⟨t,u,v,e⟩:=x;exact ⟨t,u,v,k _ _ (.inl rfl) e⟩
  | frz ob u ih=>obtain ⟨e,q⟩:=x;exact ⟨k _ _ (.inl rfl) e,ih q⟩
  | tbl ps =>
    have e:h.get? a=some { cls:=.none,data:=.fields ps }:=x
    show h'.get? a=some { cls:=.none,data:=.fields ps }
    exact k a _ (.inl rfl) e
  | met f y =>
    have e:h.get? a=some (PySem.W.methodObj (.ref f) (.ref y)):=x
    show h'.get? a=some (PySem.W.methodObj (.ref f) (.ref y))
    exact k a _ (.inl rfl) e
  | ext φ=>obtain ⟨p,⟨o,e⟩,st⟩:=x;exact ⟨st _ _ p fun o q=>k _ _ (.inl rfl) q,⟨o,k _ _ (.inl rfl) e⟩,st⟩
theorem HOk.lt (x:HOk P w H h) (e:H a=some o):a < h.objs.size:=(x a o e).lt
theorem HOk.fresh (x:HOk P w H h) (e:h.objs.size <= a):H a=none:=by
  cases q:H a with
  | none=>rfl
  | some u=>exact absurd (Nat.lt_of_lt_of_le (x.lt q) e) (Nat.lt_irrefl _)
theorem HOk.kept (x:HOk P w H h) (k:∀ b u,h.get? b=some u->h'.get? b=some u):HOk P w H h':=fun a o e =>
  (x a o e).stay (fun b u _ q=>k b u q) (fun _ q=>q) fun _ _ q=>q
theorem HOk.laid (x:HOk P w H h) (k:∀ b u,h.get? b=some u->h'.get? b=some u) (hp:h.objs.size <= a) (new:ObjOk P w (upd H a o) h' a o):HOk P w (upd H a o) h':=fun b u e=>by
  have hn:=x.fresh hp
  by_cases hb:b=a
  · subst hb;rw [upd_same] at e;cases e;exact new
  · rw [upd_ne hb] at e
    exact (x b u e).stay (fun c v _ q=>k c v q) (fun c q=>by rw [upd_ne (ne_of_none q hn)];exact q) fun c xs q=>by rw [upd_ne (ne_of_none q hn)];exact q
end
def Rd (H:Hp) (a:Addr) (u:HO):Prop:=H a=some u ∨ ∃ o,H a=some (.frz o u)
theorem Rd.ok {P:Program} {w:World} {H:Hp} {h:Heap} {a:Addr} {u:HO} (r:Rd H a u) (x:HOk P w H h):ObjOk P w H h a u:=by
  rcases r with r | ⟨o,r⟩
  · exact x a u r
  · obtain ⟨_,q⟩:=x a _ r
    exact q
def Mut:Option HO->Prop
  | some (.lst _)=>True
  | some (.dK _)=>True
  | some (.dT _)=>True
  | some (.set _ _)=>True
  | some (.ins _ _ _)=>True
  | some (.ext _)=>True
  | _=>False
section
variable {P:Program} {w:World} {H:Hp} {h h':Heap} {x e:Addr} {o':HO}
theorem HOk.write (ok:HOk P w H h) (mu:Mut (H x)) (he:e=x ∨ H e=some (.own x)) (k:∀ b u,b ≠ e->h.get? b=some u->h'.get? b=some u) (heo:∃ u,h'.get? e=some u)
    (new:ObjOk P w (upd H x o') h' x o'):HOk P w (upd H x o') h':=fun b u q=>by
  have nown:∀ c y,H c=some (.own y)->c ≠ x:=fun c y r z=>by subst z;rw [r] at mu;exact mu
  have ntup:∀ c xs,H c=some (.tup xs)->c ≠ x:=fun c xs r z=>by subst z;rw [r] at mu;exact mu
  by_cases hb:b=x
  · subst hb;rw [upd_same] at q;cases q;exact new
  · rw [upd_ne hb] at q
    by_cases hbe:b=e
    · have q':H b=some (.own x):=by
        rcases he with z | z
        · exact absurd (hbe.trans z) hb
        · rw [hbe];exact z
      rw [q] at q';cases q'
      obtain ⟨v,hv⟩:=heo
      exact ⟨v,by rw [hbe];exact hv⟩
    · refine (ok b u q).stay (fun c v hc r=>k c v ?_ r) (fun c r=>by rw [upd_ne (nown c b r)];exact r) fun c xs r=>by rw [upd_ne (ntup c xs r)];exact r
      rcases hc with rfl | hc
      · exact hbe
      · rintro rfl
        rcases he with z | z
        · exact nown c b hc z
        · rw [hc] at z;cases z;exact hb rfl
end
structure Un (fs ex:List Addr) (H H':Hp) (h h':Heap):Prop where
  keep:∀ b o,h.get? b=some o->H b=none->b ∉ fs->b ∉ ex->h'.get? b=some o
  slot:∀ b o,h.get? b=some o->H b=none->b ∈ fs->b ∉ ex->∃ sl,h'.get? b=some { o with slots:=sl }
  free:∀ b o,h.get? b=some o->H b=none->b ∉ ex->H' b=none
  there:∀ b o,h.get? b=some o->b ∉ ex->∃ o',h'.get? b=some o'
  tups:∀ b xs,H b=some (.tup xs)->H' b=some (.tup xs)
  frzs:∀ b o u,H b=some (.frz o u)->H' b=some (.frz o u)
  tbls:∀ b ps,H b=some (.tbl ps)->∃ more,H' b=some (.tbl (ps ++ more))
section
variable {fs fs' ex ex':List Addr} {H H1 H2:Hp} {h h1 h2 h':Heap} {a x e:Addr} {o:HO}
theorem Un.any (u:Un fs ex H H1 h h1) {b:Addr} {ob:Obj} (q:h.get? b=some ob) (n:H b=none) (hx:b ∉ ex):∃ sl,h1.get? b=some { ob with slots:=sl }:=by
  by_cases hb:b ∈ fs
  · exact u.slot b ob q n hb hx
  · exact ⟨ob.slots,u.keep b ob q n hb hx⟩
theorem Un.kept (k:∀ b u,h.get? b=some u->h'.get? b=some u):Un fs ex H H h h' :=
  ⟨fun b ob q _ _ _=>k b ob q,fun b ob q _ _ _=>⟨ob.slots,k b ob q⟩,fun _ _ _ n _=>n,fun b ob q _=>⟨ob,k b ob q⟩,fun _ _ q=>q,fun _ _ _ q=>q,fun _ ps q=>⟨#[],by rw [q];simp⟩⟩
theorem Un.refl:Un fs ex H H h h:=Un.kept fun _ _ q=>q
theorem Un.laid (k:∀ b u,h.get? b=some u->h'.get? b=some u) (hp:h.objs.size <= a) (hn:H a=none):Un fs ex H (upd H a o) h h' where
  keep:=fun b u q _ _ _=>k b u q
  slot:=fun b u q _ _ _=>⟨u.slots,k b u q⟩
  free:=fun b u q n _=>by rw [upd_ne (Nat.ne_of_lt (Nat.lt_of_lt_of_le (Heap.lt_size q) hp))];exact n
  there:=fun b u q _=>⟨u,k b u q⟩
  tups:=fun b xs q=>by rw [upd_ne (ne_of_none q hn)];exact q
  frzs:=fun b u xs q=>by rw [upd_ne (ne_of_none q hn)];exact q
  tbls:=fun b ps q=>⟨#[],by rw [upd_ne (ne_of_none q hn),q];simp⟩
theorem Un.write (mu:Mut (H x)) (he:e=x ∨ H e=some (.own x)) (k:∀ b u,b ≠ e->h.get? b=some u->h'.get? b=some u) (heo:∃ u,h'.get? e=some u):Un fs ex H (upd H x o) h h':=by
  have hx:∀ b,H b=none->b ≠ x:=fun b n z=>by subst z;rw [n] at mu;exact mu
  have hb:∀ b,H b=none->b ≠ e:=fun b n z=>by
    subst z
    rcases he with r | r
    · exact hx b n r
    · rw [n] at r;cases r
  have hm:∀ b u,H b=some u->¬ Mut (some u)->b ≠ x:=fun b u q nm z=>by subst z;rw [q] at mu;exact nm mu
  refine ⟨fun b u q n _ _=>k b u (hb b n) q,fun b u q n _ _=>⟨u.slots,k b u (hb b n) q⟩,fun b u q n _=>by rw [upd_ne (hx b n)];exact n,fun b u q _=>?_,
    fun b xs q=>by rw [upd_ne (hm b _ q fun z=>z)];exact q,fun b u xs q=>by rw [upd_ne (hm b _ q fun z=>z)];exact q,fun b ps q=>⟨#[],by rw [upd_ne (hm b _ q fun z=>z),q];simp⟩⟩
  by_cases hbe:b=e
  · subst hbe;exact heo
  · exact ⟨u,k b u hbe q⟩
end
def trk (h:Heap) (H:Hp):List Addr:=(List.range h.objs.size).filter fun a=>(H a).isSome
def hidT (h:Heap) (H:Hp):Heap:=PySem.W.hideAll h (trk h H)
theorem hidT_size (h:Heap) (H:Hp):(hidT h H).objs.size=h.objs.size:=PySem.W.hideAll_size _ _
theorem hidT_get {h:Heap} {H:Hp} {b:Addr} {o:Obj} (e:h.get? b=some o) (n:H b=none):(hidT h H).get? b=some o :=
  PySem.W.hideAll_get _ e fun hm=>by
    have q:(H b).isSome=true:=(List.mem_filter.mp hm).2
    rw [n] at q;simp at q
theorem of_hidT {h:Heap} {H:Hp} {b:Addr} {o:Obj} (e:(hidT h H).get? b=some o):h.get? b=some o/\H b=none:=by
  have e':h.get? b=some o:=PySem.W.of_hideAll (trk h H) e
  refine ⟨e',?_⟩
  cases q:H b with
  | none=>rfl
  | some x =>
    have hm:b ∈ trk h H:=List.mem_filter.mpr ⟨List.mem_range.mpr (Heap.lt_size e'),by simp [q]⟩
    have z:(hidT h H).get? b=none:=PySem.W.hideAll_none (trk h H) hm
    rw [z] at e;cases e
def allNews (g h:Heap) (L:Addr):List (Addr × Obj):=(List.range h.objs.size).filterMap fun a=>if a=L ∨ (g.get? a).isSome=true then none else (h.get? a).map fun o=>(a,o)
def rest (g h:Heap) (L d:Addr):List (Addr × Obj):=(allNews g h L).filter fun p=>decide (p.1 ≠ d)
end L2
namespace L2
open PySem PySem.Spec PyProof.Rows
structure Mod (K:PySem.W.Frag) (mg:Str->Option Value) (base:Heap):Prop where
  kin:K.In base
  glob:base.Ns mainGlobals mg
  blt:∃ mb,base.Ns builtinsNs mb/\∀ x:Str,x ≠ "__name__"->mb x=bootBuiltins x
  nolimit:base.NoLimit
structure Cx where
  prog:Program
  w:World
  K:PySem.W.Frag
  mg:Str->Option Value
  base:Heap
  A:Around
  N:List Str
  s₀:Shared
  H₀:Hp
  env:Env
  outer:List Env
  stack:List Env
  ex:List Addr
  fn:Str->Bool
  calm:Bool
  pn:List (Addr × Obj)
  xe:Value->Shared->Prop
def frs (l:List Env):List Addr:=l.filterMap (·.frame)
abbrev Cx.fs (X:Cx):List Addr:=frs X.outer
def Vis (sc:Scope) (x:Str):Prop:=sc.names.lookup x=some .local ∨ sc.names.lookup x=some .cell ∨ sc.names.lookup x=some .free
def Loc (sc:Scope) (x:Str):Prop:=sc.names.lookup x=some .local ∨ sc.names.lookup x=some .cell
def Look (env:Env) (h:Heap) (m:Str->Option Value) (x:Str) (u:Value):Prop :=
  (env.kindOf x=some .local/\m x=some u) ∨ ((env.kindOf x=some .cell ∨ env.kindOf x=some .free)/\∃ c,env.cells.lookup x=some c/\h.IsCell c (some u))
structure Cx.Ok (X:Cx):Prop where
  mod:Mod X.K X.mg X.base
  kind:X.env.scope.kind=.function
  glob:X.env.globals=mainGlobals
  blt:X.env.builtins=builtinsNs
  above:X.s₀.heap.objs.size <= X.env.locals
  inj:∀ x y c,X.env.cells.lookup x=some c->X.env.cells.lookup y=some c->x=y
  has:∀ x,(X.env.kindOf x=some .cell ∨ X.env.kindOf x=some .free)->∃ c,X.env.cells.lookup x=some c
  cab:∀ x c,X.fn x=true->X.env.cells.lookup x=some c->X.s₀.heap.objs.size <= c
  hd:X.calm=true->X.A.handled=none
  frames:X.A.frames=some X.stack
  stk:X.stack=X.outer ∨ (X.stack=X.env :: X.outer/\X.env.frame=some X.env.locals)
  exf:∀ b ∈ X.ex,b ≠ X.env.locals/\∀ x c,X.env.cells.lookup x=some c->c ≠ b
  bs:∀ b o,X.base.get? b=some o->X.s₀.heap.get? b=some o/\X.H₀ b=none
  bsz:X.base.objs.size <= X.s₀.heap.objs.size
  noex:∀ b o,X.base.get? b=some o->b ∉ X.ex
  exfs:∀ b ∈ X.ex,b ∉ X.fs
  funs:X.s₀.heap.FunFrames X.base X.outer
  frf:∀ b ∈ X.fs,X.H₀ b=none
structure Inv (X:Cx) (pins:List (Addr × Obj)) (σ:List (Option V)) (H:Hp) (s:Shared):Prop where
  ok:X.Ok
  os:s.os=X.s₀.os
  bare:AllBare s.gens
  base:Un X.fs X.ex X.H₀ H X.s₀.heap s.heap
  loc:∃ m,s.heap.Ns X.env.locals m/\∀ (i:Nat) (x:Str) (v:V),X.N[i]?=some x->σ[i]?=some (some v)->Vis X.env.scope x->∃ u,RelV v u/\Look X.env s.heap m x u
  cell:∀ x c,X.env.cells.lookup x=some c->∃ v,s.heap.IsCell c v
  free:H X.env.locals=none
  freeC:∀ x c,X.env.cells.lookup x=some c->H c=none
  pin:∀ p ∈ X.pn ++ pins,s.heap.get? p.1=some p.2/\H p.1=none/\p.1 ≠ X.env.locals/\p.1 ∉ X.fs/\∀ v,p.2.data ≠ .cell v
  hok:HOk X.prog X.w H s.heap
  len:σ.length=X.N.length
section
variable {X:Cx} {pins:List (Addr × Obj)} {σ:List (Option V)} {H H':Hp} {s:Shared} {h':Heap}
theorem Cx.Ok.nofr (ok:X.Ok) {b:Addr} {o:Obj} (e:X.base.get? b=some o):b ∉ X.fs:=fun hb=>by
  have:=(ok.funs.mem hb).1
  rw [e] at this;cases this
theorem Inv.bs (I:Inv X pins σ H s):∀ b o,X.base.get? b=some o->s.heap.get? b=some o/\H b=none:=fun b o e =>
  ⟨I.base.keep b o (I.ok.bs b o e).1 (I.ok.bs b o e).2 (I.ok.nofr e) (I.ok.noex b o e),I.base.free b o (I.ok.bs b o e).1 (I.ok.bs b o e).2 (I.ok.noex b o e)⟩
theorem Inv.bk (I:Inv X pins σ H s):∀ b o,X.base.get? b=some o->s.heap.get? b=some o:=fun b o e=>(I.bs b o e).1
theorem Inv.mod (I:Inv X pins σ H s):Mod X.K X.mg X.base:=I.ok.mod
theorem Inv.kIn (I:Inv X pins σ H s):X.K.In s.heap:=I.ok.mod.kin.keeps I.bk
theorem Inv.nolimit (I:Inv X pins σ H s):s.heap.NoLimit:=I.ok.mod.nolimit.keeps I.bk
theorem Inv.lt (I:Inv X pins σ H s):X.env.locals < s.heap.objs.size:=let ⟨_,hn,_⟩:=I.loc;hn.lt
theorem Inv.sz (I:Inv X pins σ H s):X.s₀.heap.objs.size <= s.heap.objs.size:=Nat.le_trans I.ok.above (Nat.le_of_lt I.lt)
theorem Inv.nofs (I:Inv X pins σ H s) {a:Addr} (h:s.heap.objs.size <= a):a ∉ X.fs:=fun hb=>by
  obtain ⟨_,o,ho,_⟩:=I.ok.funs.mem hb
  exact absurd (Nat.lt_of_lt_of_le (Heap.lt_size ho) (Nat.le_trans I.sz h)) (Nat.lt_irrefl _)
theorem Inv.cne (I:Inv X pins σ H s):∀ x c,X.env.cells.lookup x=some c->c ≠ X.env.locals:=fun x c e z=>by
  obtain ⟨v,o,ho,hd⟩:=I.cell x c e
  obtain ⟨m,⟨o',es,ep,ho',hd',_⟩,_⟩:=I.loc
  rw [z,ho'] at ho;cases ho;rw [hd'] at hd;cases hd
theorem Inv.funs (I:Inv X pins σ H s):s.heap.FunFrames X.base X.outer:=by
  have all:∀ (l:List Env),(∀ b ∈ frs l,b ∈ X.fs)->X.s₀.heap.FunFrames X.base l->s.heap.FunFrames X.base l:=by
    intro l
    induction l with
    | nil=>intro _ _;trivial
    | cons env r ih =>
      intro hs hl
      obtain ⟨hk,⟨L,o,hf,hn,ho,hd⟩,hr⟩:=hl
      have hL:L ∈ X.fs:=hs L (by unfold frs;rw [List.filterMap_cons,hf];exact List.mem_cons_self)
      obtain ⟨sl,e⟩:=I.base.slot L o ho (I.ok.frf L hL) hL fun z=>I.ok.exfs L z hL
      exact ⟨hk,⟨L,_,hf,hn,e,hd⟩,ih (fun b hb=>hs b (by unfold frs;rw [List.filterMap_cons,hf];exact List.mem_cons_of_mem _ hb)) hr⟩
  exact all X.outer (fun _ hb=>hb) I.ok.funs
theorem Inv.stack (I:Inv X pins σ H s):s.heap.FunFrames X.base X.stack:=by
  rcases I.ok.stk with e | ⟨e,hf⟩
  · rw [e];exact I.funs
  · rw [e]
    obtain ⟨m,hn,_⟩:=I.loc
    refine .cons (by rw [I.ok.kind];decide) hf hn ?_ I.funs
    exact Heap.get?_none_of_le (Nat.le_trans I.ok.bsz I.ok.above)
theorem Inv.stkSub (I:Inv X pins σ H s):∀ b ∈ frs X.stack,b ∈ X.env.locals :: X.fs:=fun b hb=>by
  rcases I.ok.stk with e | ⟨e,hf⟩
  · rw [e] at hb;exact List.mem_cons_of_mem _ hb
  · rw [e] at hb
    unfold frs at hb
    rw [List.filterMap_cons,hf] at hb
    exact hb
theorem Inv.stkFree (I:Inv X pins σ H s):∀ b ∈ frs X.stack,H b=none:=fun b hb=>by
  rcases List.mem_cons.mp (I.stkSub b hb) with e | hb
  · rw [e];exact I.free
  · obtain ⟨_,o,ho,_⟩:=I.ok.funs.mem hb
    exact I.base.free b o ho (I.ok.frf b hb) fun z=>I.ok.exfs b z hb
theorem Inv.step {g':Array GenState} {t':Nat} {d':Drawn} {ch:List Addr} (I:Inv X pins σ H s)
    (hch:∀ b ∈ ch,(b ∈ X.ex ∨ X.s₀.heap.objs.size <= b)/\b ≠ X.env.locals/\(∀ x c,X.env.cells.lookup x=some c->c ≠ b)/\∀ p ∈ X.pn ++ pins,p.1 ≠ b)
    (keep:∀ b o,b ≠ X.env.locals->b ∉ X.fs->b ∉ ch->s.heap.get? b=some o->H b=none->h'.get? b=some o)
    (slot:∀ b o,b ≠ X.env.locals->b ∈ X.fs->b ∉ ch->s.heap.get? b=some o->H b=none->∃ sl,h'.get? b=some { o with slots:=sl }) (free:∀ b o,b ∉ ch->s.heap.get? b=some o->H b=none->H' b=none)
    (there:∀ b o,b ∉ ch->s.heap.get? b=some o->∃ o',h'.get? b=some o')
    (tups:∀ b xs,H b=some (.tup xs)->H' b=some (.tup xs)) (frzs:∀ b o u,H b=some (.frz o u)->H' b=some (.frz o u)) (tbls:∀ b ps,H b=some (.tbl ps)->∃ more,H' b=some (.tbl (ps ++ more)))
    (ns:∀ m,s.heap.Ns X.env.locals m->h'.Ns X.env.locals m) (hok:HOk X.prog X.w H' h') (hg:AllBare g') :
    Inv X pins σ H' { s with heap:=h',gens:=g',drawn:=d',toks:=t' }:=by
  have neL:∀ b o,X.s₀.heap.get? b=some o->b ≠ X.env.locals:=fun b o e=>Nat.ne_of_lt (Nat.lt_of_lt_of_le (Heap.lt_size e) I.ok.above)
  have neC:∀ b o,X.s₀.heap.get? b=some o->b ∉ X.ex->b ∉ ch:=fun b o e hx hb=>by
    rcases (hch b hb).1 with z | z
    · exact hx z
    · exact absurd (Nat.lt_of_lt_of_le (Heap.lt_size e) z) (Nat.lt_irrefl _)
  have cellK:∀ x c,X.env.cells.lookup x=some c->∀ v,s.heap.IsCell c v->h'.IsCell c v:=fun x c e v ⟨o,ho,hd⟩=>by
    have nch:c ∉ ch:=fun z=>(hch c z).2.2.1 x c e rfl
    by_cases hc:c ∈ X.fs
    · obtain ⟨sl,q⟩:=slot c o (I.cne x c e) hc nch ho (I.freeC x c e)
      exact ⟨_,q,hd⟩
    · exact ⟨o,keep c o (I.cne x c e) hc nch ho (I.freeC x c e),hd⟩
  refine ⟨I.ok,I.os,hg,⟨fun b o e n hb hx=>?_,fun b o e n hb hx=>?_,fun b o e n hx=>?_,fun b o e hx=>?_,fun b xs e=>tups b xs (I.base.tups b xs e),fun b o xs e=>frzs b o xs (I.base.frzs b o xs e),fun b ps e=>?_⟩,?_,fun x c e=>?_,?_,fun x c e=>?_,fun p hp=>?_,hok,I.len⟩
  · exact keep b o (neL b o e) hb (neC b o e hx) (I.base.keep b o e n hb hx) (I.base.free b o e n hx)
  · obtain ⟨sl,e1⟩:=I.base.slot b o e n hb hx
    obtain ⟨sl',e2⟩:=slot b _ (neL b o e) hb (neC b o e hx) e1 (I.base.free b o e n hx)
    exact ⟨sl',e2⟩
  · obtain ⟨o',e1⟩:=I.base.there b o e hx
    exact free b o' (neC b o e hx) e1 (I.base.free b o e n hx)
  · obtain ⟨o',e1⟩:=I.base.there b o e hx
    exact there b o' (neC b o e hx) e1
  · obtain ⟨m1,e1⟩:=I.base.tbls b ps e
    obtain ⟨m2,e2⟩:=tbls b _ e1
    exact ⟨m1 ++ m2,by rw [e2,Array.append_assoc]⟩
  · obtain ⟨m,hn,hl⟩:=I.loc
    refine ⟨m,ns m hn,fun i x v e1 e2 e3=>?_⟩
    obtain ⟨u,r,l⟩:=hl i x v e1 e2 e3
    refine ⟨u,r,?_⟩
    rcases l with l | ⟨k,c,e,z⟩
    · exact .inl l
    · exact .inr ⟨k,c,e,cellK x c e _ z⟩
  · obtain ⟨v,z⟩:=I.cell x c e
    exact ⟨v,cellK x c e v z⟩
  · obtain ⟨m,⟨o,_,_,ho,_⟩,_⟩:=I.loc
    exact free _ o (fun z=>(hch _ z).2.1 rfl) ho I.free
  · obtain ⟨v,o,ho,hd⟩:=I.cell x c e
    exact free c o (fun z=>(hch c z).2.2.1 x c e rfl) ho (I.freeC x c e)
  · obtain ⟨e,n,ne,nf,d⟩:=I.pin p hp
    have nch:p.1 ∉ ch:=fun z=>(hch p.1 z).2.2.2 p hp rfl
    exact ⟨keep p.1 p.2 ne nf nch e n,free p.1 p.2 nch e n,ne,nf,d⟩
theorem Inv.un {t':Nat} (I:Inv X pins σ H s) (u:Un X.fs [] H H' s.heap h') (hok:HOk X.prog X.w H' h'):Inv X pins σ H' { s with heap:=h',toks:=t' }:=by
  obtain ⟨m,⟨o,es,ep,ho,r⟩,_⟩:=id I.loc
  obtain ⟨sl,hL⟩:=u.any ho I.free (by simp)
  exact I.step (g':=s.gens) (d':=s.drawn) (ch:=[]) (fun _ z=>nomatch z) (fun b o _ hb _ e n=>u.keep b o e n hb (by simp)) (fun b o _ hb _ e n=>u.slot b o e n hb (by simp)) (fun b o _ e n=>u.free b o e n (by simp)) (fun b o _ e=>u.there b o e (by simp)) u.tups u.frzs u.tbls (fun m' hm=>by
    obtain ⟨o',es',ep',ho',r'⟩:=hm
    rw [ho] at ho';cases ho'
    exact ⟨_,es',ep',hL,r'⟩) hok I.bare
theorem Inv.call {g':Array GenState} {t':Nat} {d':Drawn} {ch:List Addr} (I:Inv X pins σ H s) (u:Un (frs X.stack) ch H H' s.heap h') (hok:HOk X.prog X.w H' h') (hg:AllBare g')
    (hch:∀ b ∈ ch,(b ∈ X.ex ∨ X.s₀.heap.objs.size <= b)/\b ≠ X.env.locals/\(∀ x c,X.env.cells.lookup x=some c->c ≠ b)/\∀ p ∈ X.pn ++ pins,p.1 ≠ b) :
    Inv X pins σ H' { s with heap:=h',gens:=g',drawn:=d',toks:=t' }:=by
  obtain ⟨m,⟨o,es,ep,ho,r⟩,_⟩:=id I.loc
  obtain ⟨sl,hL⟩:=u.any ho I.free fun z=>(hch _ z).2.1 rfl
  exact I.step (ch:=ch) hch (fun b o hL hb hc e n=>u.keep b o e n (fun z=>(List.mem_cons.mp (I.stkSub b z)).elim hL hb) hc) (fun b o _ _ hc e n=>u.any e n hc) (fun b o hc e n=>u.free b o e n hc) (fun b o hc e=>u.there b o e hc) u.tups u.frzs u.tbls (fun m' hm=>by
    obtain ⟨o',es',ep',ho',r'⟩:=hm
    rw [ho] at ho';cases ho'
    exact ⟨_,es',ep',hL,r'⟩) hok hg
theorem Inv.turned {t':Nat} {it:Addr} (I:Inv X pins σ H s) (k:∀ b o,b ≠ it->s.heap.get? b=some o->h'.get? b=some o) (hn:H it=none) (hL:it ≠ X.env.locals)
    (h1:it ∈ X.ex ∨ X.s₀.heap.objs.size <= it) (h2:∀ x c,X.env.cells.lookup x=some c->c ≠ it) (h3:∀ p ∈ X.pn ++ pins,p.1 ≠ it):Inv X pins σ H { s with heap:=h',toks:=t' }:=by
  have nit:∀ b u,H b=some u->b ≠ it:=fun b u e z=>by rw [z,hn] at e;cases e
  refine I.step (g':=s.gens) (d':=s.drawn) (ch:=[it]) (fun b hb=>?_) (fun b o _ _ hc e _=>k b o (fun z=>hc (by simp [z])) e) (fun b o _ _ hc e _=>⟨o.slots,k b o (fun z=>hc (by simp [z])) e⟩) (fun _ _ _ _ n=>n)
    (fun b o hc e=>⟨o,k b o (fun z=>hc (by simp [z])) e⟩) (fun _ _ e=>e) (fun _ _ _ e=>e) (fun b ps e=>⟨#[],by rw [e];simp⟩) (fun m hm=>?_) (fun b u e=>?_) I.bare
  · have e:b=it:=by simpa using hb
    subst e
    exact ⟨h1,hL,h2,h3⟩
  · obtain ⟨o,es,ep,ho,r⟩:=hm
    exact ⟨o,es,ep,k _ o (Ne.symm hL) ho,r⟩
  · refine (I.hok b u e).stay (fun c v hc q=>k c v ?_ q) (fun _ q=>q) fun _ _ q=>q
    rcases hc with z | z
    · rw [z];exact nit b u e
    · exact nit c _ z
theorem Inv.tok (I:Inv X pins σ H s) (t:Nat):Inv X pins σ H { s with toks:=t }:=I.un (h':=s.heap) (t':=t) Un.refl I.hok
theorem Inv.kept {t':Nat} (I:Inv X pins σ H s) (k:∀ b u,s.heap.get? b=some u->h'.get? b=some u):Inv X pins σ H { s with heap:=h',toks:=t' }:=I.un (Un.kept k) (I.hok.kept k)
theorem Inv.laid {a:Addr} {o:HO} {t':Nat} (I:Inv X pins σ H s) (k:∀ b u,s.heap.get? b=some u->h'.get? b=some u) (hp:s.heap.objs.size <= a) (new:ObjOk X.prog X.w (upd H a o) h' a o) :
    Inv X pins σ (upd H a o) { s with heap:=h',toks:=t' }:=I.un (Un.laid k hp (I.hok.fresh hp)) (I.hok.laid k hp new)
theorem Inv.write {x e:Addr} {o:HO} {t':Nat} (I:Inv X pins σ H s) (mu:Mut (H x)) (he:e=x ∨ H e=some (.own x)) (k:∀ b u,b ≠ e->s.heap.get? b=some u->h'.get? b=some u) (heo:∃ u,h'.get? e=some u)
    (new:ObjOk X.prog X.w (upd H x o) h' x o):Inv X pins σ (upd H x o) { s with heap:=h',toks:=t' }:=I.un (Un.write mu he k heo) (I.hok.write mu he k heo new)
theorem Inv.weak {σ':List (Option V)} (I:Inv X pins σ H s) (hl:σ'.length=σ.length) (w:∀ (i:Nat) v,σ'[i]?=some (some v)->σ[i]?=some (some v)):Inv X pins σ' H s :=
  ⟨I.ok,I.os,I.bare,I.base,let ⟨m,hn,hl'⟩:=I.loc;⟨m,hn,fun i x v e1 e2 e3=>hl' i x v e1 (w i v e2) e3⟩,I.cell,I.free,I.freeC,I.pin,I.hok,hl.trans I.len⟩
theorem Inv.pins_of {pins':List (Addr × Obj)} (I:Inv X pins σ H s) (h:∀ p ∈ pins',s.heap.get? p.1=some p.2/\H p.1=none/\p.1 ≠ X.env.locals/\p.1 ∉ X.fs/\∀ v,p.2.data ≠ .cell v):Inv X pins' σ H s :=
  ⟨I.ok,I.os,I.bare,I.base,I.loc,I.cell,I.free,I.freeC,fun p hp=>(List.mem_append.mp hp).elim (fun z=>I.pin p (List.mem_append_left _ z)) (h p),I.hok,I.len⟩
theorem nodup_ix {N:List Str} (hN:N.Nodup) {i j:Nat} {x:Str} (a:N[i]?=some x) (b:N[j]?=some x):i=j:=by
  obtain ⟨h1,e1⟩:=List.getElem?_eq_some_iff.mp a
  obtain ⟨h2,e2⟩:=List.getElem?_eq_some_iff.mp b
  exact (List.getElem_inj hN).mp (e1.trans e2.symm)
theorem store_ok2 {M:Model} {A:Around} {E:Value->Shared->Prop} {i:Nat} {x:Str} {v:V} {u:Value} {Q:Unit->Shared->Prop} (I:Inv X pins σ H s) (hN:X.N.Nodup) (hi:X.N[i]?=some x) (hx:Loc X.env.scope x) (r:RelV v u)
    (h:∀ s',Inv X pins (σ.set i (some v)) H s'->(∃ a,Heap.SameBut a s.heap s'.heap/\(a=X.env.locals ∨ X.env.cells.lookup x=some a))->Q () s') (hf:X.fn x=true ∨ X.env.scope.names.lookup x=some .local:=by first | exact .inl rfl | exact .inr rfl | assumption):wpAny M A (storeName X.env x u) Q E s:=by
  obtain ⟨m,hn,hl⟩:=id I.loc
  have hcls:(X.env.scope.kind == .class || (X.env.scope.kind == .module && X.env.locals != X.env.globals))=false:=by rw [I.ok.kind];rfl
  have hiσ:i < σ.length:=by rw [I.len];exact (List.getElem?_eq_some_iff.mp hi).1
  have cne:=I.cne
  have tracked:∀ {a:Addr} {h':Heap},(∃ o,s.heap.get? a=some o/\H a=none)->Heap.SameBut a s.heap h'->HOk X.prog X.w H h':=fun {a h'} ha hs b ob e=>by
    obtain ⟨_,_,hfree⟩:=ha
    refine (I.hok b ob e).stay (fun c w' hc q=>(hs.2 c ?_).trans q) (fun _ q=>q) fun _ _ q=>q
    rintro rfl
    rcases hc with rfl | hc
    · rw [hfree] at e;cases e
    · rw [hfree] at hc;cases hc
  rcases hx with hk | hk
  · refine wpAny_storeName_local hk hn (fun h' hn' hs=>?_) hcls
    obtain ⟨oL,_,_,hoL,_⟩:=id hn
    refine h _ ⟨I.ok,I.os,I.bare,⟨fun b o e n hb hx=>?_,fun b o e n hb hx=>?_,I.base.free,fun b o e hx=>?_,I.base.tups,I.base.frzs,I.base.tbls⟩,⟨_,hn',fun j y v' e1 e2 e3=>?_⟩,fun y c e=>?_,I.free,I.freeC,fun p hp=>?_,tracked ⟨oL,hoL,I.free⟩ hs,by simpa using I.len⟩ ⟨_,hs,.inl rfl⟩
    · exact (hs.2 b (Nat.ne_of_lt (Nat.lt_of_lt_of_le (Heap.lt_size e) I.ok.above))).trans (I.base.keep b o e n hb hx)
    · obtain ⟨sl,e1⟩:=I.base.slot b o e n hb hx
      exact ⟨sl,(hs.2 b (Nat.ne_of_lt (Nat.lt_of_lt_of_le (Heap.lt_size e) I.ok.above))).trans e1⟩
    · obtain ⟨o',e1⟩:=I.base.there b o e hx
      exact ⟨o',(hs.2 b (Nat.ne_of_lt (Nat.lt_of_lt_of_le (Heap.lt_size e) I.ok.above))).trans e1⟩
    · by_cases hj:j=i
      · subst hj
        rw [hi] at e1;cases e1
        rw [List.getElem?_set_self hiσ] at e2
        cases e2
        exact ⟨u,r,.inl ⟨hk,by simp⟩⟩
      · rw [List.getElem?_set_ne (Ne.symm hj)] at e2
        obtain ⟨u',r',q⟩:=hl j y v' e1 e2 e3
        refine ⟨u',r',?_⟩
        rcases q with ⟨k,e⟩ | ⟨k,c,e,z⟩
        · refine .inl ⟨k,?_⟩
          have:y ≠ x:=fun e=>hj (nodup_ix hN e1 (e ▸ hi))
          simp [this,e]
        · exact .inr ⟨k,c,e,z.sameBut hs (cne y c e)⟩
    · obtain ⟨w',z⟩:=I.cell y c e
      exact ⟨w',z.sameBut hs (cne y c e)⟩
    · obtain ⟨e,n,ne,nf,d⟩:=I.pin p hp
      exact ⟨(hs.2 p.1 ne).trans e,n,ne,nf,d⟩
  · have hfn:X.fn x=true:=by
      rcases hf with z | z
      · exact z
      · rw [z] at hk;cases hk
    obtain ⟨c,hc⟩:=I.ok.has x (.inl hk)
    obtain ⟨w',z⟩:=I.cell x c hc
    refine wpAny_storeName_cell I.ok.kind hk hc z (fun h' hc' hs=>?_)
    obtain ⟨oc,hoc,hocd⟩:=id z
    refine h { s with heap:=h' } ⟨I.ok,I.os,I.bare,⟨fun b o e n hb hx=>?_,fun b o e n hb hx=>?_,I.base.free,fun b o e hx=>?_,I.base.tups,I.base.frzs,I.base.tbls⟩,⟨m,hn.sameBut hs (Ne.symm (cne x c hc)),fun j y v' e1 e2 e3=>?_⟩,fun y c' e=>?_,I.free,I.freeC,fun p hp=>?_,tracked ⟨oc,hoc,I.freeC x c hc⟩ hs,by simpa using I.len⟩ ⟨c,hs,.inr hc⟩
    · exact (hs.2 b (Nat.ne_of_lt (Nat.lt_of_lt_of_le (Heap.lt_size e) (I.ok.cab x c hfn hc)))).trans (I.base.keep b o e n hb hx)
    · obtain ⟨sl,e1⟩:=I.base.slot b o e n hb hx
      exact ⟨sl,(hs.2 b (Nat.ne_of_lt (Nat.lt_of_lt_of_le (Heap.lt_size e) (I.ok.cab x c hfn hc)))).trans e1⟩
    · obtain ⟨o',e1⟩:=I.base.there b o e hx
      exact ⟨o',(hs.2 b (Nat.ne_of_lt (Nat.lt_of_lt_of_le (Heap.lt_size e) (I.ok.cab x c hfn hc)))).trans e1⟩
    · by_cases hj:j=i
      · subst hj
        rw [hi] at e1;cases e1
        rw [List.getElem?_set_self hiσ] at e2
        cases e2
        exact ⟨u,r,.inr ⟨.inl hk,c,hc,hc'⟩⟩
      · rw [List.getElem?_set_ne (Ne.symm hj)] at e2
        obtain ⟨u',r',q⟩:=hl j y v' e1 e2 e3
        refine ⟨u',r',?_⟩
        rcases q with q | ⟨k,c',e,z'⟩
        · exact .inl q
        · refine .inr ⟨k,c',e,z'.sameBut hs ?_⟩
          rintro rfl
          exact hj (nodup_ix hN e1 (I.ok.inj _ _ _ e hc ▸ hi))
    · by_cases hcc:c'=c
      · subst hcc;exact ⟨_,hc'⟩
      · obtain ⟨w2,z2⟩:=I.cell y c' e
        exact ⟨w2,z2.sameBut hs hcc⟩
    · obtain ⟨e,n,ne,nf,d⟩:=I.pin p hp
      refine ⟨(hs.2 p.1 ?_).trans e,n,ne,nf,d⟩
      intro q
      rw [q,hoc] at e
      have q':oc=p.2:=Option.some.inj e
      exact d w' (by rw [<- q'];exact hocd)
theorem store_ok {M:Model} {A:Around} {E:Value->Shared->Prop} {i:Nat} {x:Str} {v:V} {u:Value} {Q:Unit->Shared->Prop} (I:Inv X pins σ H s) (hN:X.N.Nodup) (hi:X.N[i]?=some x) (hx:Loc X.env.scope x) (r:RelV v u)
    (h:∀ s',Inv X pins (σ.set i (some v)) H s'->Q () s') (hf:X.fn x=true ∨ X.env.scope.names.lookup x=some .local:=by first | exact .inl rfl | exact .inr rfl | assumption):wpAny M A (storeName X.env x u) Q E s :=
  store_ok2 I hN hi hx r (fun s' I' _=>h s' I') hf
theorem Inv.call' {s':Shared} {ch:List Addr} (I:Inv X pins σ H s) (ho:s'.os=s.os) (u:Un (frs X.stack) ch H H' s.heap s'.heap) (hok:HOk X.prog X.w H' s'.heap) (hg:AllBare s'.gens)
    (hch:∀ b ∈ ch,(b ∈ X.ex ∨ X.s₀.heap.objs.size <= b)/\b ≠ X.env.locals/\(∀ x c,X.env.cells.lookup x=some c->c ≠ b)/\∀ p ∈ X.pn ++ pins,p.1 ≠ b):Inv X pins σ H' s':=by
  obtain ⟨h',g',d',t',o'⟩:=s'
  have e:o'=s.os:=ho
  subst e
  exact I.call (g':=g') (t':=t') (d':=d') u hok hg hch
end
abbrev XK:=Value->Option Addr->Hp->Prop
abbrev St:=List (Option V)
abbrev VK:=V->Hp->Prop
abbrev TE:=St->Hp->VK->Prop
abbrev TT:=St->Hp->(Bool->Hp->Prop)->Prop
abbrev TA:=St->Hp->(List V->Hp->Prop)->Prop
structure Ends where
  nx:St->Hp->Prop
  rt:VK
  bk:St->Hp->Prop:=fun _ _=>False
  ct:St->Hp->Prop:=fun _ _=>False
abbrev TS:=Ends->St->Hp->Prop
def EP (X:Cx) (pins:List (Addr × Obj)) (σ:St) (Q:VK) (u:Value) (s':Shared):Prop:=∃ v H',Inv X pins σ H' s'/\RelV v u/\Q v H'
def TP (X:Cx) (pins:List (Addr × Obj)) (σ:St) (Q:Bool->Hp->Prop) (b:Bool) (s':Shared):Prop:=∃ H',Inv X pins σ H' s'/\Q b H'
def AP (X:Cx) (pins:List (Addr × Obj)) (σ:St) (Q:List V->Hp->Prop) (us:List Value) (s':Shared):Prop:=∃ vs H',Inv X pins σ H' s'/\Vals vs us/\Q vs H'
def SP (X:Cx) (pins:List (Addr × Obj)) (D:Ends) (f:Flow) (s':Shared):Prop :=
  match f with
  | .next=>∃ σ' H',Inv X pins σ' H' s'/\D.nx σ' H'
  | .brk=>∃ σ' H',Inv X pins σ' H' s'/\D.bk σ' H'
  | .cont=>∃ σ' H',Inv X pins σ' H' s'/\D.ct σ' H'
  | .ret u=>∃ v σ' H',Inv X pins σ' H' s'/\RelV v u/\D.rt v H'
def PE (X:Cx) (e:Expr) (t:TE):Prop :=
  ∀ (pins:List (Addr × Obj)) (s:Shared) (σ:St) (H:Hp) (Q:VK),Inv X pins σ H s->t σ H Q->wpAny (model X.prog X.w) X.A (eval e X.env) (EP X pins σ Q) X.xe s
def PT (X:Cx) (e:Expr) (t:TT):Prop :=
  ∀ (pins:List (Addr × Obj)) (s:Shared) (σ:St) (H:Hp) (Q:Bool->Hp->Prop),Inv X pins σ H s->t σ H Q->wpAny (model X.prog X.w) X.A (isTrue e X.env (eval e X.env)) (TP X pins σ Q) X.xe s
def PW (X:Cx) (e:Expr) (t:TT):Prop :=
  ∀ (whole:Sem Value) (pins:List (Addr × Obj)) (s:Shared) (σ:St) (H:Hp) (Q:Bool->Hp->Prop),Inv X pins σ H s->t σ H Q->wpAny (model X.prog X.w) X.A (isTrue e X.env whole) (TP X pins σ Q) X.xe s
theorem PW.pt {X:Cx} {e:Expr} {t:TT} (h:PW X e t):PT X e t:=h _
def PA (X:Cx) (es:List Expr) (t:TA):Prop :=
  ∀ (pos:Pos) (pins:List (Addr × Obj)) (s:Shared) (σ:St) (H:Hp) (Q:List V->Hp->Prop),Inv X pins σ H s->t σ H Q->wpAny (model X.prog X.w) X.A (spliced (backTo pos (starEach es X.env))) (AP X pins σ Q) X.xe s
def PS (X:Cx) (st:Stmt) (t:TS):Prop :=
  ∀ (pins:List (Addr × Obj)) (s:Shared) (σ:St) (H:Hp) (D:Ends),Inv X pins σ H s->t D σ H->wpAny (model X.prog X.w) X.A (exec st X.env) (SP X pins D) X.xe s
def PSs (X:Cx) (st:List Stmt) (t:TS):Prop :=
  ∀ (pins:List (Addr × Obj)) (s:Shared) (σ:St) (H:Hp) (D:Ends),Inv X pins σ H s->t D σ H->wpAny (model X.prog X.w) X.A (execs st X.env) (SP X pins D) X.xe s
theorem thn {α:Type} {t:Sem α} {Q Q':α->Shared->Prop} {M:Model} {A:Around} {E:Value->Shared->Prop} {s:Shared} (h:wpAny M A t Q E s) (hQ:∀ a s,Q a s->Q' a s):wpAny M A t Q' E s:=wpAny_mono h hQ fun _ _ x=>x
end L2
namespace L2
open PySem PySem.Spec PyProof.Rows
section
variable {X:Cx}
def tVar (i:Nat):TE:=fun σ H Q=>∃ v,σ[i]?=some (some v)/\Q v H
def tC (v:V):TE:=fun _ H Q=>Q v H
theorem pe_var {i:Nat} {x:Str} {pos:Pos} (hN:X.N[i]?=some x) (hv:Vis X.env.scope x) (hd:(x == ("__debug__":Str))=false:=by decide) (hcd:(x == ("__classdict__":Str))=false:=by decide):PE X (.Name x pos) (tVar i):=by
  intro pins s σ H Q I h
  obtain ⟨v,e,h⟩:=h
  obtain ⟨m,hn,hl⟩:=I.loc
  obtain ⟨u,r,l⟩:=hl i x v hN e hv
  have fin:EP X pins σ Q u s:=⟨v,H,I,r,h⟩
  rcases l with ⟨hk,hm⟩ | ⟨hk,c,hc,hcell⟩
  · exact wpAny_Name (wpAny_loadName_local I.ok.kind hk hn hm fin) hd
  · rcases hk with hk | hk
    · exact wpAny_Name (wpAny_loadName_cell I.ok.kind hk hc hcell fin) hd
    · exact wpAny_Name (wpAny_loadName_free I.ok.kind hk hc hcell fin hcd) hd
theorem pe_int {i j pos}:PE X (.Constant (.int i) j pos) (tC (.int i)):=fun _ _ _ H _ I h=>wpAny_Constant_int ⟨.int i,H,I.tok _,⟨_,rfl⟩,h⟩
theorem pe_bl {b j pos}:PE X (.Constant (.bool b) j pos) (tC (.bl b)):=fun _ _ _ H _ I h=>Constant_bool ⟨.bl b,H,I,rfl,h⟩
theorem pe_non {j pos}:PE X (.Constant .none j pos) (tC .non):=fun _ _ _ H _ I h=>Constant_none ⟨.non,H,I,rfl,h⟩
theorem pe_str {x j pos}:PE X (.Constant (.str x) j pos) (tC (.str x)):=fun _ _ _ H _ I h=>Calls.Constant_str ⟨.str x,H,I.tok _,⟨_,rfl⟩,h⟩
def Gl (X:Cx) (x:Str):Prop:=X.env.kindOf x=some .globalImplicit
theorem ld_glob {E:Value->Shared->Prop} {pins:List (Addr × Obj)} {s:Shared} {σ:St} {H:Hp} {x:Str} {u:Value} {pos:Pos} {Q:Value->Shared->Prop} (I:Inv X pins σ H s) (hg:Gl X x) (hm:X.mg x=some u) (h:Q u s)
    (hd:(x == ("__debug__":Str))=false:=by decide):wpAny (model X.prog X.w) X.A (eval (.Name x pos) X.env) Q E s :=
  Calls.Name_function_global I.ok.kind hg (Calls.loadGlobal_global (by rw [I.ok.glob];exact I.mod.glob.keeps I.bk) hm h) hd
theorem ld_blt {E:Value->Shared->Prop} {pins:List (Addr × Obj)} {s:Shared} {σ:St} {H:Hp} {x:Str} {u:Value} {pos:Pos} {Q:Value->Shared->Prop} (I:Inv X pins σ H s) (hg:Gl X x) (hm:X.mg x=none) (hv:bootBuiltins x=some u) (h:Q u s)
    (hn:x ≠ "__name__":=by decide) (hd:(x == ("__debug__":Str))=false:=by decide):wpAny (model X.prog X.w) X.A (eval (.Name x pos) X.env) Q E s:=by
  obtain ⟨mb,h1,h2⟩:=I.mod.blt
  exact Calls.Name_function_global I.ok.kind hg (Calls.loadGlobal_builtin (by rw [I.ok.glob];exact I.mod.glob.keeps I.bk) hm (by rw [I.ok.blt];exact h1.keeps I.bk) ((h2 x hn).trans hv) h) hd
theorem pe_glob {x:Str} {v:V} {u:Value} {pos:Pos} (hg:Gl X x) (hm:X.mg x=some u) (r:RelV v u) (hd:(x == ("__debug__":Str))=false:=by decide):PE X (.Name x pos) (tC v) :=
  fun _ _ _ H _ I h=>ld_glob I hg hm ⟨v,H,I,r,h⟩ hd
theorem pe_bltn {x:Str} {v:V} {u:Value} {pos:Pos} (hg:Gl X x) (hm:X.mg x=none) (hv:bootBuiltins x=some u) (r:RelV v u) (hn:x ≠ "__name__":=by decide) (hd:(x == ("__debug__":Str))=false:=by decide):PE X (.Name x pos) (tC v) :=
  fun _ _ _ H _ I h=>ld_blt I hg hm hv ⟨v,H,I,r,h⟩ hn hd
variable {a b:Expr} {ta tb:TE} {pos:Pos}
def PC (X:Cx) (op:CmpOp) (a b:Expr) (t:TE):Prop :=
  ∀ (pins:List (Addr × Obj)) (s:Shared) (σ:St) (H:Hp) (Q:VK),Inv X pins σ H s->t σ H Q ->
    wpAny (model X.prog X.w) X.A (eval a X.env) (fun v s₁=>wpAny (model X.prog X.w) X.A (eval b X.env) (fun u s₂=>wpAny (model X.prog X.w) X.A (compareOp op v u) (EP X pins σ Q) X.xe s₂) X.xe s₁) X.xe s
theorem nobehind (b:Expr) {op:CmpOp} (h:op ≠ .In) (h2:op ≠ .NotIn):behindInMarks op b=false:=by
  have e1:(op == CmpOp.In)=false:=by cases op <;> first | rfl | exact absurd rfl h
  have e2:(op == CmpOp.NotIn)=false:=by cases op <;> first | rfl | exact absurd rfl h2
  cases b <;> simp [behindInMarks,e1,e2]
def tIsN (ta:TE):TE:=fun σ H Q=>ta σ H fun x H1=>Q (.bl (decide (x=.non))) H1
theorem RelV.none_iff {x:V} {v:Value} (r:RelV x v):(v == Value.none)=decide (x=.non):=by
  cases x with
  | non=>cases r;rfl
  | bl _=>cases r;rfl
  | int _=>obtain ⟨t,rfl⟩:=r;rfl
  | str _=>obtain ⟨t,rfl⟩:=r;rfl
  | byt _=>obtain ⟨t,rfl⟩:=r;rfl
  | flt _=>obtain ⟨t,rfl⟩:=r;rfl
  | ref _=>cases r;rfl
  | ty _=>cases r;rfl
theorem pc_isN {j pos'} (ha:PE X a ta):PC X .Is a (.Constant .none j pos') (tIsN ta):=by
  intro pins s σ H Q I h
  refine thn (ha pins s σ H _ I h) fun v s1 ⟨x,H1,I1,r1,q1⟩=>?_
  exact Constant_none (is_none_gen ⟨.bl _,H1,I1,by rw [r1.none_iff];rfl,q1⟩)
def tB (t:TE):TT:=fun σ H Q=>t σ H fun x H1=>∃ c,x=.bl c/\Q c H1
theorem pe_cmp {op:CmpOp} {t:TE} (h:PC X op a b t) (h1:behindInMarks op b=false:=by first | exact nobehind _ (by decide) (by decide) | rfl):PE X (.Compare a [op] [b] pos) t:=fun pins s σ H Q I hw=>wpAny_Compare1 (h pins s σ H Q I hw) h1
theorem pt_cmp {op:CmpOp} {t:TE} (h:PC X op a b t) (h1:behindInMarks op b=false:=by first | exact nobehind _ (by decide) (by decide) | rfl):PT X (.Compare a [op] [b] pos) (tB t):=by
  intro pins s σ H Q I hw
  refine wpAny_isTrue_Compare1 (thn (h pins s σ H _ I hw) fun v s1 h1=>thn h1 fun u s2 h2=>thn h2 fun c s3 ⟨x,H1,I1,r1,q1⟩=>?_) h1
  obtain ⟨d,rfl,q⟩:=q1
  cases r1
  exact wpAny_truthy_bool ⟨H1,I1,q⟩
theorem pt_val {e:Expr} {t:TE} (h:PE X e t) (he:∀ whole,isTrue e X.env whole=(do let v <- whole;standAt e.pos;holding [v] (truthy v)):=by intro _;rfl):PT X e (tB t):=by
  intro pins s σ H Q I hw
  refine isTrue_plain (thn (h pins s σ H _ I hw) fun v s1 ⟨x,H1,I1,r1,q1⟩=>?_) (he _)
  obtain ⟨d,rfl,q⟩:=q1
  cases r1
  exact wpAny_truthy_bool ⟨H1,I1,q⟩
variable {tA tB':TT} {rest:List Expr}
def tAnd (t u:TT):TT:=fun σ H Q=>t σ H fun c H1=>if c=true then u σ H1 Q else Q false H1
def tOr (t u:TT):TT:=fun σ H Q=>t σ H fun c H1=>if c=true then Q true H1 else u σ H1 Q
def tNot (t:TT):TT:=fun σ H Q=>t σ H fun c H1=>Q (!c) H1
theorem pw_and1 (ha:PT X a tA):PW X (.BoolOp .And [a] pos) tA:=by
  intro wh pins s σ H Q I h
  refine isTrue_and (thn (ha pins s σ H Q I h) fun c s1 e=>?_)
  cases c with
  | true=>exact isTrue_and_nil e
  | false=>exact e
theorem pw_or1 (ha:PT X a tA):PW X (.BoolOp .Or [a] pos) tA:=by
  intro wh pins s σ H Q I h
  refine isTrue_or (thn (ha pins s σ H Q I h) fun c s1 e=>?_)
  cases c with
  | false=>exact isTrue_or_nil e
  | true=>exact e
theorem pw_and (ha:PT X a tA) (hb:PW X (.BoolOp .And (b :: rest) pos) tB'):PW X (.BoolOp .And (a :: b :: rest) pos) (tAnd tA tB'):=by
  intro wh pins s σ H Q I h
  refine isTrue_and (thn (ha pins s σ H _ I h) fun c s1 ⟨H1,I1,q1⟩=>?_)
  cases c with
  | true=>exact hb wh pins s1 σ H1 Q I1 q1
  | false=>exact ⟨H1,I1,q1⟩
theorem pw_or (ha:PT X a tA) (hb:PW X (.BoolOp .Or (b :: rest) pos) tB'):PW X (.BoolOp .Or (a :: b :: rest) pos) (tOr tA tB'):=by
  intro wh pins s σ H Q I h
  refine isTrue_or (thn (ha pins s σ H _ I h) fun c s1 ⟨H1,I1,q1⟩=>?_)
  cases c with
  | true=>exact ⟨H1,I1,q1⟩
  | false=>exact hb wh pins s1 σ H1 Q I1 q1
theorem pt_not (ha:PT X a tA):PT X (.UnaryOp .Not a pos) (tNot tA):=by
  intro pins s σ H Q I h
  exact isTrue_not (ha pins s σ H (fun c H1=>Q (!c) H1) I h)
def tAndV (ta tb:TE):TE:=fun σ H Q=>ta σ H fun x H1=>∃ c,x=.bl c/\if c=true then tb σ H1 Q else Q (.bl false) H1
def tNotV (ta:TE):TE:=fun σ H Q=>ta σ H fun x H1=>∃ c,x=.bl c/\Q (.bl (!c)) H1
theorem pe_one {op} {t:TE} (h:PE X a t):PE X (.BoolOp op [a] pos) t:=fun pins s σ H Q I hw=>BoolOp_one (h pins s σ H Q I hw)
theorem pe_and (ha:PE X a ta) (hb:PE X (.BoolOp .And (b :: rest) pos) tb):PE X (.BoolOp .And (a :: b :: rest) pos) (tAndV ta tb):=by
  intro pins s σ H Q I h
  refine BoolOp_and (thn (ha pins s σ H _ I h) fun v s1 ⟨x,H1,I1,r1,q1⟩=>?_)
  obtain ⟨c,rfl,q1⟩:=q1
  cases r1
  refine wpAny_truthy_bool ?_
  cases c with
  | true=>exact hb pins s1 σ H1 Q I1 q1
  | false=>exact ⟨.bl false,H1,I1,rfl,q1⟩
theorem pe_not (ha:PE X a ta):PE X (.UnaryOp .Not a pos) (tNotV ta):=by
  intro pins s σ H Q I h
  refine UnaryOp_ (thn (ha pins s σ H _ I h) fun v s1 ⟨x,H1,I1,r1,q1⟩=>?_)
  obtain ⟨c,rfl,q1⟩:=q1
  cases r1
  exact not_of (wpAny_truthy_bool ⟨.bl (!c),H1,I1,rfl,q1⟩)
end
end L2
namespace L2
open PySem PySem.Spec PyProof.Rows
def SqL (K:PySem.W.Frag) (H:Hp) (a:Addr) (xs:List V):Prop :=
  Rd H a (.lst xs) ∨
    ∃ (o:Obj) (its:Array Value) (n:Nat),K.lookup a=some o/\o.cls=.type "list"/\o.dict=none/\o.data=.seq its n/\its.size <= sizeLine/\Vals xs its.toList
def SqT (K:PySem.W.Frag) (H:Hp) (a:Addr) (xs:List V):Prop :=
  Rd H a (.tup xs) ∨
    ∃ (o:Obj) (its:Array Value) (n:Nat),K.lookup a=some o/\o.cls=.type "tuple"/\o.data=.seq its n/\its.size <= sizeLine/\Vals xs its.toList
def absV:Value->Option V
  | .none=>some .non
  | .bool b=>some (.bl b)
  | .int i _=>some (.int i)
  | .str x _=>some (.str x)
  | .bytes b _=>some (.byt b)
  | .float b _=>some (.flt b)
  | .ref a=>some (.ref a)
  | .type n=>some (.ty n)
  | _=>none
theorem RelV.abs {x:V} {u:Value} (r:RelV x u):absV u=some x:=by
  cases x with
  | non=>cases r;rfl
  | bl _=>cases r;rfl
  | int _=>obtain ⟨t,rfl⟩:=r;rfl
  | str _=>obtain ⟨t,rfl⟩:=r;rfl
  | byt _=>obtain ⟨t,rfl⟩:=r;rfl
  | flt _=>obtain ⟨t,rfl⟩:=r;rfl
  | ref _=>cases r;rfl
  | ty _=>cases r;rfl
theorem RelV.inj {x y:V} {u:Value} (r:RelV x u) (q:RelV y u):x=y:=Option.some.inj (r.abs.symm.trans q.abs)
theorem Vals.inj:∀ {xs ys:List V} {us:List Value},Vals xs us->Vals ys us->xs=ys
  | _,_,_,.nil,.nil=>rfl
  | _,_,_,.cons r t,.cons r' t'=>by rw [r.inj r',Vals.inj t t']
section
variable {X:Cx} {pins:List (Addr × Obj)} {σ:St} {H:Hp} {s:Shared} {a:Addr} {xs ys:List V}
theorem SqL.of {K:PySem.W.Frag} (h:H a=some (.lst xs)):SqL K H a xs:=.inl (.inl h)
theorem SqT.of {K:PySem.W.Frag} (h:H a=some (.tup xs)):SqT K H a xs:=.inl (.inl h)
theorem Inv.list (I:Inv X pins σ H s) (h:SqL X.K H a xs):∃ its:List Value,Vals xs its/\PlainL s.heap a its.toArray/\xs.length <= sizeLine:=by
  rcases h with h | ⟨o,its,n,hk,hc,hd,hs,hz,r⟩
  · obtain ⟨z,its,n,r,e⟩:=h.ok I.hok
    exact ⟨its,r,⟨_,n,e,rfl,rfl,rfl⟩,z⟩
  · refine ⟨its.toList,r,⟨o,n,I.kIn a o hk,hc,hd,by simpa using hs⟩,?_⟩
    have e:=r.length
    simp only [Array.length_toList] at e
    omega
theorem Inv.tuple (I:Inv X pins σ H s) (h:SqT X.K H a xs):∃ its:List Value,Vals xs its/\IsTup s.heap a its.toArray/\xs.length <= sizeLine:=by
  rcases h with h | ⟨o,its,n,hk,hc,hs,hz,r⟩
  · obtain ⟨z,its,r,p⟩:=h.ok I.hok
    exact ⟨its,r,p,z⟩
  · refine ⟨its.toList,r,⟨o,I.kIn a o hk,hc,n,by simpa using hs⟩,?_⟩
    have e:=r.length
    simp only [Array.length_toList] at e
    omega
theorem Inv.list_inj (I:Inv X pins σ H s) (h:SqL X.K H a xs) (h':SqL X.K H a ys):xs=ys:=by
  obtain ⟨its,r,⟨o,n,e,_,_,d⟩,_⟩:=I.list h
  obtain ⟨its',r',⟨o',n',e',_,_,d'⟩,_⟩:=I.list h'
  rw [e] at e';cases e'
  rw [d] at d'
  injection d' with d1 _
  have:its=its':=by simpa using congrArg Array.toList d1
  subst this
  exact r.inj r'
theorem Inv.tuple_inj (I:Inv X pins σ H s) (h:SqT X.K H a xs) (h':SqT X.K H a ys):xs=ys:=by
  obtain ⟨its,r,⟨o,e,_,n,d⟩,_⟩:=I.tuple h
  obtain ⟨its',r',⟨o',e',_,n',d'⟩,_⟩:=I.tuple h'
  rw [e] at e';cases e'
  rw [d] at d'
  injection d' with d1 _
  have:its=its':=by simpa using congrArg Array.toList d1
  subst this
  exact r.inj r'
end
abbrev Cx.wish (X:Cx) (E:Value->Shared->Prop):Cx:={ X with xe:=E }
abbrev Cx.nox (X:Cx):Cx:=X.wish fun _ _=>False
theorem Cx.Ok.wish {X:Cx} (ok:X.Ok) (E:Value->Shared->Prop):(X.wish E).Ok :=
  ⟨ok.mod,ok.kind,ok.glob,ok.blt,ok.above,ok.inj,ok.has,ok.cab,ok.hd,ok.frames,ok.stk,ok.exf,ok.bs,ok.bsz,ok.noex,ok.exfs,ok.funs,ok.frf⟩
theorem Cx.Ok.unwish {X:Cx} {E:Value->Shared->Prop} (ok:(X.wish E).Ok):X.Ok :=
  ⟨ok.mod,ok.kind,ok.glob,ok.blt,ok.above,ok.inj,ok.has,ok.cab,ok.hd,ok.frames,ok.stk,ok.exf,ok.bs,ok.bsz,ok.noex,ok.exfs,ok.funs,ok.frf⟩
section
variable {X:Cx} {pins:List (Addr × Obj)} {σ:St} {H:Hp} {s:Shared} {E:Value->Shared->Prop}
theorem Inv.wish (I:Inv X pins σ H s) (E:Value->Shared->Prop):Inv (X.wish E) pins σ H s:=⟨I.ok.wish E,I.os,I.bare,I.base,I.loc,I.cell,I.free,I.freeC,I.pin,I.hok,I.len⟩
theorem Inv.unwish (I:Inv (X.wish E) pins σ H s):Inv X pins σ H s:=⟨I.ok.unwish,I.os,I.bare,I.base,I.loc,I.cell,I.free,I.freeC,I.pin,I.hok,I.len⟩
theorem SP.unwish {D:Ends} {f:Flow} {s':Shared} (h:SP (X.wish E) pins D f s'):SP X pins D f s':=by
  cases f with
  | next=>obtain ⟨σ',H',I,q⟩:=h;exact ⟨σ',H',I.unwish,q⟩
  | brk=>obtain ⟨σ',H',I,q⟩:=h;exact ⟨σ',H',I.unwish,q⟩
  | cont=>obtain ⟨σ',H',I,q⟩:=h;exact ⟨σ',H',I.unwish,q⟩
  | ret u=>obtain ⟨v,σ',H',I,r,q⟩:=h;exact ⟨v,σ',H',I.unwish,r,q⟩
theorem PSs.nox {st:List Stmt} {t:TS} (h:PSs X.nox st t):PSs X st t:=fun pins s σ H D I hw =>
  wpAny_mono (h pins s σ H D (I.wish _) hw) (fun _ _ q=>q.unwish) fun _ _ z=>False.elim z
end
section
variable {X:Cx} {st:Stmt} {rest:List Stmt} {t u:TS} {e:Expr} {te:TE} {pos:Pos}
def tNext:TS:=fun D σ H=>D.nx σ H
def tSeq (t u:TS):TS:=fun D σ H=>t { D with nx:=u D } σ H
theorem pss_nil:PSs X [] tNext:=fun _ _ σ H _ I h=>wpAny_execs_nil ⟨σ,H,I,h⟩
theorem pss_cons (h1:PS X st t) (h2:PSs X rest u):PSs X (st :: rest) (tSeq t u):=by
  intro pins s σ H D I h
  refine wpAny_execs_cons (thn (h1 pins s σ H { D with nx:=u D } I h) fun f s1 q=>?_)
  cases f with
  | next =>
    obtain ⟨σ',H',I',q⟩:=q
    exact h2 pins s1 σ' H' D I' q
  | ret v=>exact q
  | brk=>exact q
  | cont=>exact q
theorem pss_one (h1:PS X st t):PSs X [st] t:=by
  intro pins s σ H D I h
  refine wpAny_execs_cons (thn (h1 pins s σ H D I h) fun f s1 q=>?_)
  cases f with
  | next=>exact wpAny_execs_nil q
  | ret v=>exact q
  | brk=>exact q
  | cont=>exact q
theorem Inv.quiet {pins:List (Addr × Obj)} {σ:St} {H:Hp} {s:Shared} (I:Inv X pins σ H s):interactive X.env=false:=by simp [interactive,I.ok.kind]
def tDrop (te:TE):TS:=fun D σ H=>te σ H fun _ H1=>D.nx σ H1
theorem ps_expr (he:PE X e te) (hs:swapsWith e none pos.line X.env=pure false:=by rfl):PS X (.Expr e pos) (tDrop te):=by
  intro pins s σ H D I h
  exact wpAny_Expr_any (thn (he pins s σ H _ I h) fun v s1 ⟨x,H1,I1,r1,q1⟩=>⟨σ,H1,I1,q1⟩) I.quiet hs
def tRet (te:TE):TS:=fun D σ H=>te σ H D.rt
theorem ps_ret (he:PE X e te):PS X (.Return (some e) pos) (tRet te):=by
  intro pins s σ H D I h
  exact wpAny_Return_some (thn (he pins s σ H _ I h) fun v s1 ⟨x,H1,I1,r1,q1⟩=>⟨x,σ,H1,I1,r1,q1⟩)
def tIfS (c:TT) (t u:TS):TS:=fun D σ H=>c σ H fun b H1=>if b=true then t D σ H1 else u D σ H1
theorem ps_if {c:Expr} {a b:List Stmt} {tc:TT} (hc:PT X c tc) (ha:PSs X a t) (hb:PSs X b u):PS X (.If c a b pos) (tIfS tc t u):=by
  intro pins s σ H D I h
  refine wpAny_If (thn (hc pins s σ H _ I h) fun d s1 ⟨H1,I1,q1⟩=>?_)
  cases d with
  | true=>exact ha pins s1 σ H1 D I1 q1
  | false=>exact hb pins s1 σ H1 D I1 q1
def tNever:TS:=fun _ _ _=>False
theorem pss_never {sts:List Stmt}:PSs X sts tNever:=fun _ _ _ _ _ _ h=>h.elim
end
abbrev TG:=V->St->Hp->(St->Hp->Prop)->Prop
abbrev TGs:=List V->St->Hp->(St->Hp->Prop)->Prop
def PG (X:Cx) (target:Expr) (t:TG):Prop :=
  ∀ (pins:List (Addr × Obj)) (s:Shared) (σ:St) (H:Hp) (v:V) (u:Value) (Q:St->Hp->Prop),Inv X pins σ H s->RelV v u->t v σ H Q ->
    wpAny (model X.prog X.w) X.A (assign target X.env u) (fun _ s'=>∃ σ' H',Inv X pins σ' H' s'/\Q σ' H') X.xe s
def PGs (X:Cx) (ts:List Expr) (t:TGs):Prop :=
  ∀ (pins:List (Addr × Obj)) (s:Shared) (σ:St) (H:Hp) (vs:List V) (us:List Value) (Q:St->Hp->Prop),Inv X pins σ H s->Vals vs us->t vs σ H Q ->
    wpAny (model X.prog X.w) X.A (assignInOrder ((assignEach ts X.env).map (·.2)) us) (fun _ s'=>∃ σ' H',Inv X pins σ' H' s'/\Q σ' H') X.xe s
abbrev TSet:=V->V->V->Hp->(Hp->Prop)->Prop
def PSet (X:Cx) (t:TSet):Prop :=
  ∀ (pins:List (Addr × Obj)) (s:Shared) (σ:St) (H:Hp) (o i v:V) (ov iv u:Value) (Q:Hp->Prop),Inv X pins σ H s->RelV o ov->RelV i iv->RelV v u->t o i v H Q ->
    wpAny (model X.prog X.w) X.A (setItem ov iv u) (fun _ s'=>∃ H',Inv X pins σ H' s'/\Q H') X.xe s
section
variable {X:Cx} {pos:Pos}
def gName (i:Nat):TG:=fun v σ H Q=>Q (σ.set i (some v)) H
theorem pg_name {i:Nat} {x:Str} (hN:X.N.Nodup) (hi:X.N[i]?=some x) (hx:Loc X.env.scope x) (hf:X.fn x=true ∨ X.env.scope.names.lookup x=some .local:=by first | exact .inl rfl | exact .inr rfl | assumption):PG X (.Name x pos) (gName i):=by
  intro pins s σ H v u Q I r h
  exact wpAny_assign_Name (store_ok I hN hi hx r (fun s' I'=>⟨_,H,I',h⟩) hf)
def gNil:TGs:=fun vs σ H Q=>vs=[]/\Q σ H
def gCons (t:TG) (u:TGs):TGs:=fun vs σ H Q=>∃ v r,vs=v :: r/\t v σ H fun σ' H'=>u r σ' H' Q
theorem pgs_nil:PGs X [] gNil:=by
  intro pins s σ H vs us Q I r h
  obtain ⟨e,h⟩:=h
  subst e
  cases r
  exact assignInOrder_nil ⟨σ,H,I,h⟩
theorem pgs_cons {e:Expr} {es:List Expr} {t:TG} {u:TGs} (h1:PG X e t) (h2:PGs X es u)
    (hs:(assignEach (e :: es) X.env).map (·.2)=assign e X.env :: (assignEach es X.env).map (·.2):=by rfl):PGs X (e :: es) (gCons t u):=by
  intro pins s σ H vs us Q I r h
  obtain ⟨v,vr,e1,h⟩:=h
  subst e1
  cases r with
  | cons r rr =>
    rw [hs]
    refine assignInOrder_cons (thn (h1 pins s σ H _ _ _ I r h) fun _ s1 ⟨σ1,H1,I1,q1⟩=>?_)
    exact h2 pins s1 σ1 H1 _ _ Q I1 rr q1
def gTup (K:PySem.W.Frag) (n:Nat) (t:TGs):TG:=fun v σ H Q=>∃ a xs,v=.ref a/\SqT K H a xs/\xs.length=n/\t xs σ H Q
theorem pg_tup {es:List Expr} {k:Nat} {t:TGs} {n:Nat} (hc:X.calm=true) (h:PGs X es t)
    (hn:(assignEach es X.env).length=n:=by rfl) (hst:(assignEach es X.env).findIdx? (·.1)=none:=by rfl):PG X (.Tuple es k pos) (gTup X.K n t):=by
  intro pins s σ H v u Q I r hw
  obtain ⟨a,xs,e1,hq,hl,hw⟩:=hw
  subst e1
  cases r
  obtain ⟨its,rv,ht,hz⟩:=I.tuple hq
  refine assign_Tuple_tuple (I.ok.hd hc) ht (by simp [hn,<- hl,rv.length]) hst fun h' hx=>?_
  have I1:Inv X pins σ H { s with heap:=h' }:=I.kept (t':=s.toks) fun b o e=>hx b o (Nat.ne_of_lt (Heap.lt_size e)) e
  exact h pins _ σ H xs _ Q I1 (by simpa using rv) hw
def gSub (to ti:TE) (t:TSet):TG:=fun v σ H Q=>to σ H fun o H1=>ti σ H1 fun i H2=>t o i v H2 fun H3=>Q σ H3
theorem pg_sub {o i:Expr} {to ti:TE} {t:TSet} (ho:PE X o to) (hi:PE X i ti) (hs:PSet X t)
    (ha:∀ v,assign (.Subscript o i pos) X.env v=(do
      let ov <- holding [v] (eval o X.env)
      let iv <- holding [v,ov] (eval i X.env)
      standAt pos
      holding [v,ov,iv] (setItem ov iv v)
      release [v,ov,iv] []):=by intro _;rfl):PG X (.Subscript o i pos) (gSub to ti t):=by
  intro pins s σ H v u Q I r h
  rw [ha]
  refine wpAny_bind (wpAny_holding (thn (ho pins s σ H _ I h) fun ov s1 ⟨x,H1,I1,r1,q1⟩=>?_))
  refine wpAny_bind (wpAny_holding (thn (hi pins s1 σ H1 _ I1 q1) fun iv s2 ⟨y,H2,I2,r2,q2⟩=>?_))
  refine wpAny_bind (wpAny_standAt (wpAny_bind (wpAny_holding (thn (hs pins s2 σ H2 x y v ov iv u _ I2 r1 r2 r q2) fun _ s3 ⟨H3,I3,q3⟩=>?_))))
  exact wpAny_release ⟨σ,H3,I3,q3⟩
def tAsg (te:TE) (g:TG):TS:=fun D σ H=>te σ H fun x H1=>g x σ H1 D.nx
theorem ps_asg {tg e:Expr} {te:TE} {g:TG} (he:PE X e te) (hg:PG X tg g) (hs:swapsWithSole [tg] e pos.line X.env=pure false:=by rfl) (hw:swappedStores [tg] e X.env=pure none:=by rfl)
    (h1:(assignEach [tg] X.env).map (·.2)=[assign tg X.env]:=by rfl):PS X (.Assign [tg] e pos) (tAsg te g):=by
  intro pins s σ H D I h
  refine wpAny_Assign_stores (thn (he pins s σ H _ I h) fun v s1 ⟨x,H1,I1,r1,q1⟩=>?_) hs hw
  rw [h1]
  exact thn (hg pins s1 σ H1 x v _ I1 r1 q1) fun _ s2 q=>q
theorem ps_set {i:Nat} {x:Str} {e:Expr} {te:TE} {pos':Pos} (hN:X.N.Nodup) (hi:X.N[i]?=some x) (hx:Loc X.env.scope x) (he:PE X e te) (hs:swapsWith e (some (.Name x pos')) pos.line X.env=pure false:=by rfl) (hf:X.fn x=true ∨ X.env.scope.names.lookup x=some .local:=by first | exact .inl rfl | exact .inr rfl | assumption) :
    PS X (.Assign [.Name x pos'] e pos) (tAsg te (gName i)):=by
  intro pins s σ H D I h
  refine wpAny_Assign_Name (thn (he pins s σ H _ I h) fun v s1 ⟨y,H1,I1,r1,q1⟩=>?_) hs
  exact store_ok I1 hN hi hx r1 (fun s2 I2=>⟨_,H1,I2,q1⟩) hf
def tPar (i j:Nat) (ta:TA):TS:=fun D σ H=>ta σ H fun vs H1=>∃ v w,vs=[v,w]/\D.nx ((σ.set i (some v)).set j (some w)) H1
theorem ps_par {i j:Nat} {x y:Str} {a b:Expr} {ta:TA} {px py pt:Pos} {kt k2 pt2} (hc:X.calm=true) (hN:X.N.Nodup) (hi:X.N[i]?=some x) (hj:X.N[j]?=some y) (hij:i ≠ j)
    (hx:X.env.scope.names.lookup x=some .local) (hy:X.env.scope.names.lookup y=some .local) (ha:PA X [a,b] ta)
    (hw:swappedStores [.Tuple [.Name x px,.Name y py] kt pt] (.Tuple [a,b] k2 pt2) X.env=pure (some [x,y]))
    (hs:swapsWithSole [.Tuple [.Name x px,.Name y py] kt pt] (.Tuple [a,b] k2 pt2) pos.line X.env=pure false:=by rfl) :
    PS X (.Assign [.Tuple [.Name x px,.Name y py] kt pt] (.Tuple [a,b] k2 pt2) pos) (tPar i j ta):=by
  intro pins s σ H D I h
  rw [exec_Assign_arm]
  refine wpAny_bind (wpAny_standAt ?_)
  rw [hs]
  refine wpAny_bind (wpAny_pure ?_)
  rw [if_neg (by decide)]
  refine wpAny_bind (Tuple_ (thn (ha _ pins s σ H _ I h) fun us s1 ⟨vs,H1,I1,r1,q1⟩=>?_))
  obtain ⟨v,w,e1,q1⟩:=q1
  subst e1
  obtain ⟨u1,u2,rfl,rv,rw'⟩:∃ u1 u2,us=[u1,u2]/\RelV v u1/\RelV w u2:=by
    cases r1 with
    | cons p q =>
      cases q with
      | cons p' q' =>
        cases q'
        exact ⟨_,_,rfl,p,p'⟩
  refine wpAny_newObj_type ?_ (by show 2 <= sizeLine;decide)
  have I2:Inv X pins σ H1 { s1 with heap:=s1.heap.push { cls:=.type "tuple",data:=.seq [u1,u2].toArray } }:=I1.kept (t':=s1.toks) fun b o e=>Heap.get?_push_of_some _ e
  rw [hw]
  refine wpAny_bind (wpAny_pure ?_)
  show wpAny (model X.prog X.w) X.A (do rule "assign.swapped-stores";let items <- unpackItems (.ref s1.heap.objs.size) 2 none;assignInOrder [fun v=>bindName X.env y v,fun v=>bindName X.env x v] items.reverse;pure Flow.next) _ _ _
  refine wpAny_bind (wpAny_rule (wpAny_bind (unpackItems_tuple (items:=#[u1,u2]) (I.ok.hd hc) (IsTup.new s1.heap _) fun h' hx'=>?_)))
  have I3:=I2.kept (h':=h') (t':=s1.toks) fun b o e=>hx' b o (Nat.ne_of_lt (Heap.lt_size e)) e
  show wpAny _ _ (assignInOrder [fun v=>bindName X.env y v,fun v=>bindName X.env x v] [u2,u1] >>= fun _=>pure Flow.next) _ _ _
  refine wpAny_bind (assignInOrder_cons (wpAny_bindName (store_ok I3 hN hj (.inl hy) rw' (fun s2 I4=>?_) (.inr hy))))
  refine assignInOrder_cons (wpAny_bindName (store_ok I4 hN hi (.inl hx) rv (fun s3 I5=>assignInOrder_nil (wpAny_pure ?_)) (.inr hx)))
  rw [List.set_comm _ _ (Ne.symm hij)] at I5
  exact ⟨_,H1,I5,q1⟩
end
section
variable {X:Cx} {pos:Pos}
def tWhile (c:TT) (tb:TS):TS:=fun D σ H=>∃ W:Nat->St->Hp->Prop,(∃ m,W m σ H)/\∀ m σ H,W m σ H ->
  c σ H fun b H1=>if b=true then ∃ N:St->Hp->Prop,(∀ σ' H',N σ' H'->∃ m',m' < m/\W m' σ' H')/\tb { D with nx:=N,ct:=N,bk:=D.nx } σ H1 else D.nx σ H1
theorem ps_while {c:Expr} {body:List Stmt} {tc:TT} {tb:TS} (hp:PassesOwn (model X.prog X.w) X.A X.env X.xe) (hc:PT X c tc) (hb:PSs X body tb):PS X (.While c body [] pos) (tWhile tc tb):=by
  intro pins s σ H D I h
  obtain ⟨W,⟨m0,w0⟩,turn⟩:=h
  refine wpAny_While (codeAny_whileLoop (fun n s'=>∃ σ' H',Inv X pins σ' H' s'/\W n σ' H') ?_ m0 ⟨σ,H,I,w0⟩)
  rintro n s1 ⟨σ1,H1,I1,w1⟩
  refine wpAny_passesOwn hp (thn (hc pins s1 σ1 H1 _ I1 (turn n σ1 H1 w1)) fun b s2 ⟨H2,I2,q2⟩=>?_)
  cases b with
  | true =>
    obtain ⟨N,hN,q2⟩:=q2
    rw [if_pos rfl]
    refine wpAny_passesOwn hp (thn (hb pins s2 σ1 H2 _ I2 q2) fun f s3 q3=>?_)
    cases f with
    | next =>
      obtain ⟨σ3,H3,I3,n3⟩:=q3
      obtain ⟨m',hm,w3⟩:=hN σ3 H3 n3
      exact ⟨m',hm,σ3,H3,I3,w3⟩
    | cont =>
      obtain ⟨σ3,H3,I3,n3⟩:=q3
      obtain ⟨m',hm,w3⟩:=hN σ3 H3 n3
      exact ⟨m',hm,σ3,H3,I3,w3⟩
    | brk=>exact q3
    | ret v=>exact q3
  | false =>
    rw [if_neg Bool.false_ne_true]
    exact wpAny_execs_nil ⟨σ1,H2,I2,q2⟩
end
structure It where
  go:Nat->Hp->Prop
  yld:Nat->Hp->V->Hp->Prop
  stop:Nat->Hp->Prop
def FpOk (X:Cx) (pins:List (Addr × Obj)) (H:Hp) (b:Addr):Prop :=
  H b=none/\b ≠ X.env.locals/\b ∉ X.fs/\(b ∈ X.ex ∨ X.s₀.heap.objs.size <= b)/\(∀ x c,X.env.cells.lookup x=some c->c ≠ b)/\∀ p ∈ X.pn ++ pins,p.1 ≠ b
theorem Inv.fpOk {X:Cx} {pins:List (Addr × Obj)} {σ:St} {H H':Hp} {s:Shared} {b:Addr} (I:Inv X pins σ H s) (hb:s.heap.objs.size <= b) (hn:H' b=none):FpOk X pins H' b:=by
  refine ⟨hn,Nat.ne_of_gt (Nat.lt_of_lt_of_le I.lt hb),I.nofs hb,.inr (Nat.le_trans I.sz hb),fun x c e z=>?_,fun p hp z=>?_⟩
  · obtain ⟨v,q⟩:=I.cell x c e
    exact absurd (Nat.lt_of_lt_of_le q.lt (by rw [z];exact hb)) (Nat.lt_irrefl _)
  · exact absurd (Nat.lt_of_lt_of_le (Heap.lt_size (I.pin p hp).1) (by rw [z];exact hb)) (Nat.lt_irrefl _)
structure Turn (P:Program) (w:World) (K:PySem.W.Frag) (tg:Expr) (J:It) (fp:List Addr) (it:Addr) (tn:Nat->Heap->Prop):Prop where
  mem:it ∈ fp
  obj:∀ i h,tn i h->∀ b ∈ fp,∃ o,h.get? b=some o/\∀ v,o.data ≠ .cell v
  keep:∀ i h h',tn i h->(∀ b ∈ fp,∀ o,h.get? b=some o->h'.get? b=some o)->tn i h'
  item:∀ (X:Cx),X.prog=P->X.w=w->X.K=K->X.calm=true->∀ (i:Nat) (pins:List (Addr × Obj)) (s:Shared) (σ:St) (H:Hp) (E:Value->Shared->Prop),Inv X pins σ H s->(∀ b ∈ fp,FpOk X pins H b)->tn i s.heap->J.go i H ->
    wpAny (model P w) X.A (pyNext (.ref it)) (fun r s1=>∃ u,r=some u /\
      wpAny (model P w) X.A (letOwnedTupleGo tg (.ref it) u) (fun _ s2=>∃ x H',Inv X pins σ H' s2/\RelV x u/\J.yld i H x H'/\tn (i + 1) s2.heap/\∀ b ∈ fp,H' b=none) E s1) E s
  done:∀ (X:Cx),X.prog=P->X.w=w->X.K=K->X.calm=true->∀ (i:Nat) (pins:List (Addr × Obj)) (s:Shared) (σ:St) (H:Hp) (E:Value->Shared->Prop),Inv X pins σ H s->(∀ b ∈ fp,FpOk X pins H b)->tn i s.heap->J.stop i H ->
    wpAny (model P w) X.A (pyNext (.ref it)) (fun r s1=>r=none/\Inv X pins σ H s1) E s
  self:∀ (A:Around) (i:Nat) (s:Shared) (Q:Value->Shared->Prop) (E:Value->Shared->Prop),tn i s.heap->Q (.ref it) s->wpAny (model P w) A (pyIter (.ref it)) Q E s
abbrev TI:=St->Hp->(It->Hp->Prop)->Prop
def PIE (X:Cx) (pins:List (Addr × Obj)) (σ:St) (tg:Expr) (R:It->Hp->Prop) (itv:Value) (s2:Shared):Prop :=
  ∃ (it:Addr) (fp:List Addr) (tn:Nat->Heap->Prop) (J:It) (H':Hp),itv=.ref it/\Inv X pins σ H' s2/\Turn X.prog X.w X.K tg J fp it tn/\tn 0 s2.heap/\(∀ b ∈ fp,FpOk X pins H' b)/\R J H'
def PI (X:Cx) (tg iter:Expr) (wi:TI):Prop :=
  ∀ (pins:List (Addr × Obj)) (s:Shared) (σ:St) (H:Hp) (R:It->Hp->Prop),Inv X pins σ H s->wi σ H R ->
    wpAny (model X.prog X.w) X.A (eval iter X.env) (fun v s1=>wpAny (model X.prog X.w) X.A (pyIter v) (PIE X pins σ tg R) X.xe s1) X.xe s
theorem go_of {M:Model} {A:Around} {E:Value->Shared->Prop} {s:Shared} {tg:Expr} {it:Addr} {u:Value} {o:Obj} {n:String} {vs:Array Value} {Q:Unit->Shared->Prop} (ho:s.heap.get? it=some o) (hc:o.cls=.type n) (hd:o.data=.fields vs)
    (hn:["enumerate","zip","dict_itemiterator","dict_reverseitemiterator","odict_iterator","itertools.zip_longest","itertools.pairwise"].contains n=false) (hQ:Q () s):wpAny M A (letOwnedTupleGo tg (.ref it) u) Q E s:=by
  unfold letOwnedTupleGo
  cases tg <;> first
    | exact wpAny_pure hQ
    | (cases u <;> first
        | exact wpAny_pure hQ
        | (refine wpAny_bind (wpAny_load ho ?_)
           rw [hc,hd]
           show wpAny M A (if (["enumerate","zip","dict_itemiterator","dict_reverseitemiterator","odict_iterator","itertools.zip_longest","itertools.pairwise"].contains n && vs[0]? == some (rawInt _))=true then _ else _) Q E s
           rw [if_neg (by intro h;rw [hn,Bool.false_and] at h;cases h)]
           exact wpAny_pure hQ))
def Itl (K:PySem.W.Frag) (a:Addr):It :=
  ⟨fun i H=>∃ xs x,SqL K H a xs/\xs[i]?=some x,fun i H x H'=>H'=H/\∀ xs,SqL K H a xs->xs[i]?=some x,fun i H=>∃ xs,SqL K H a xs/\xs.length <= i⟩
def Itt (K:PySem.W.Frag) (a:Addr):It :=
  ⟨fun i H=>∃ xs x,SqT K H a xs/\xs[i]?=some x,fun i H x H'=>H'=H/\∀ xs,SqT K H a xs->xs[i]?=some x,fun i H=>∃ xs,SqT K H a xs/\xs.length <= i⟩
def Itr (lo:Int) (n:Nat):It:=⟨fun i _=>i < n,fun i H x H'=>H'=H/\x=.int (lo + i),fun i _=>n <= i⟩
theorem turn_list {P:Program} {w:World} {K:PySem.W.Frag} {tg:Expr} (a it:Addr):Turn P w K tg (Itl K a) [it] it (fun i h=>h.IsListIter it a i) where
  mem:=by simp
  obj:=fun i h st b hb=>by
    have e:b=it:=by simpa using hb
    subst e
    obtain ⟨o,e,c,d⟩:=st
    exact ⟨o,e,fun v z=>by rw [d] at z;cases z⟩
  keep:=fun i h h' st k=>st.at fun o e=>k it (by simp) o e
  item:=by
    intro X hP hw hK hc i pins s σ H E I hf st hg
    subst hP hw hK
    obtain ⟨xs,x,hq,hx⟩:=hg
    obtain ⟨its,rv,p,hz⟩:=I.list hq
    obtain ⟨u,hu,ru⟩:=rv.get hx
    obtain ⟨f0,f1,f2,f3,f4,f5⟩:=hf it (by simp)
    refine wpAny_pyNext_list_item st p.isList (x:=u) (by simpa using hu) fun h' st' sb=>?_
    have I1:Inv X pins σ H { s with heap:=h' }:=I.turned (t':=s.toks) (fun b o hb e=>(sb.2 b hb).trans e) f0 f1 f3 f4 f5
    obtain ⟨o,e,c,d⟩:=id st'
    exact ⟨u,rfl,go_of (s:={ s with heap:=h' }) e c d (by decide) ⟨x,H,I1,ru,⟨rfl,fun ys hy=>by rw [I.list_inj hy hq];exact hx⟩,st',fun b hb=>(hf b hb).1⟩⟩
  done:=by
    intro X hP hw hK hc i pins s σ H E I hf st hg
    subst hP hw hK
    obtain ⟨xs,hq,hx⟩:=hg
    obtain ⟨its,rv,p,hz⟩:=I.list hq
    obtain ⟨f0,f1,f2,f3,f4,f5⟩:=hf it (by simp)
    have hl:=rv.length
    exact wpAny_pyNext_list_end (I.ok.hd hc) st p.isList (by simp;omega) fun h' eb=>⟨rfl,I.turned (t':=s.toks) (fun b o hb e=>eb b o hb e) f0 f1 f3 f4 f5⟩
  self:=fun _ _ _ _ _ st h=>wpAny_pyIter_listiter st h
theorem turn_tuple {P:Program} {w:World} {K:PySem.W.Frag} {tg:Expr} (a it:Addr):Turn P w K tg (Itt K a) [it] it (fun i h=>h.IsTupleIter it a i) where
  mem:=by simp
  obj:=fun i h st b hb=>by
    have e:b=it:=by simpa using hb
    subst e
    obtain ⟨o,e,c,d⟩:=st
    exact ⟨o,e,fun v z=>by rw [d] at z;cases z⟩
  keep:=fun i h h' st k=>st.at fun o e=>k it (by simp) o e
  item:=by
    intro X hP hw hK hc i pins s σ H E I hf st hg
    subst hP hw hK
    obtain ⟨xs,x,hq,hx⟩:=hg
    obtain ⟨its,rv,p,hz⟩:=I.tuple hq
    obtain ⟨u,hu,ru⟩:=rv.get hx
    obtain ⟨f0,f1,f2,f3,f4,f5⟩:=hf it (by simp)
    refine wpAny_pyNext_tuple_item st (show s.heap.IsTuple a its.toArray from p) (x:=u) (by simpa using hu) fun h' st' sb=>?_
    have I1:Inv X pins σ H { s with heap:=h' }:=I.turned (t':=s.toks) (fun b o hb e=>(sb.2 b hb).trans e) f0 f1 f3 f4 f5
    obtain ⟨o,e,c,d⟩:=id st'
    exact ⟨u,rfl,go_of (s:={ s with heap:=h' }) e c d (by decide) ⟨x,H,I1,ru,⟨rfl,fun ys hy=>by rw [I.tuple_inj hy hq];exact hx⟩,st',fun b hb=>(hf b hb).1⟩⟩
  done:=by
    intro X hP hw hK hc i pins s σ H E I hf st hg
    subst hP hw hK
    obtain ⟨xs,hq,hx⟩:=hg
    obtain ⟨its,rv,p,hz⟩:=I.tuple hq
    obtain ⟨f0,f1,f2,f3,f4,f5⟩:=hf it (by simp)
    have hl:=rv.length
    exact wpAny_pyNext_tuple_end (I.ok.hd hc) st (show s.heap.IsTuple a its.toArray from p) (by simp;omega) fun h' eb=>⟨rfl,I.turned (t':=s.toks) (fun b o hb e=>eb b o hb e) f0 f1 f3 f4 f5⟩
  self:=fun _ _ _ _ _ st h=>wpAny_pyIter_tupleiter st h
theorem turn_range {P:Program} {w:World} {K:PySem.W.Frag} {tg:Expr} (it:Addr) (lo:Int) (n:Nat):Turn P w K tg (Itr lo n) [it] it (fun i h=>IsRangeIter h it (lo + (i:Nat) * 1) ((n:Int) - (i:Nat)) 1) where
  mem:=by simp
  obj:=fun i h st b hb=>by
    have e:b=it:=by simpa using hb
    subst e
    exact ⟨_,st,fun v z=>by
      have z':Data.fields _=Data.cell v:=z
      cases z'⟩
  keep:=fun i h h' st k=>k it (by simp) _ st
  item:=by
    intro X hP hw hK hc i pins s σ H E I hf st hg
    subst hP hw hK
    obtain ⟨f0,f1,f2,f3,f4,f5⟩:=hf it (by simp)
    have W:=Walks.range (prog:=X.prog) (w:=X.w) (I.ok.hd hc) it lo 1 n
    refine W.item i s _ _ hg st fun v h' tk hv st' kk=>?_
    obtain ⟨t,rfl⟩:=hv
    have I1:Inv X pins σ H { s with heap:=h',toks:=tk }:=I.turned (fun b o hb e=>kk b o (by simpa using hb) e) f0 f1 f3 f4 f5
    refine ⟨_,rfl,go_of (s:={ s with heap:=h',toks:=tk }) (n:="range_iterator") st' rfl rfl (by decide) ⟨.int (lo + i),H,I1,⟨t,?_⟩,⟨rfl,rfl⟩,st',fun b hb=>(hf b hb).1⟩⟩
    rw [Int.mul_one]
  done:=by
    intro X hP hw hK hc i pins s σ H E I hf st hg
    subst hP hw hK
    obtain ⟨f0,f1,f2,f3,f4,f5⟩:=hf it (by simp)
    exact wpAny_pyNext_range_end (I.ok.hd hc) st (by have:n <= i:=hg;omega) fun h' eb=>⟨rfl,I.turned (t':=s.toks) (fun b o hb e=>eb b o hb e) f0 f1 f3 f4 f5⟩
  self:=fun _ _ _ _ _ st h=>wpAny_pyIter_rangeiter st h
end L2
namespace L2
open PySem PySem.Spec PyProof.Rows
section
variable {X:Cx} {tg:Expr}
def iList (K:PySem.W.Frag) (tl:TE):TI:=fun σ H R=>tl σ H fun x H1=>∃ a,x=.ref a/\(∃ xs,SqL K H1 a xs)/\R (Itl K a) H1
def iTup (K:PySem.W.Frag) (tl:TE):TI:=fun σ H R=>tl σ H fun x H1=>∃ a,x=.ref a/\(∃ xs,SqT K H1 a xs)/\R (Itt K a) H1
theorem pi_list {l:Expr} {tl:TE} (hl:PE X l tl):PI X tg l (iList X.K tl):=by
  intro pins s σ H R I h
  refine thn (hl pins s σ H _ I h) fun v s1 ⟨x,H1,I1,r1,q1⟩=>?_
  obtain ⟨a,e,⟨xs,hq⟩,q⟩:=q1
  subst e
  cases r1
  obtain ⟨its,rv,p,hz⟩:=I1.list hq
  refine wpAny_pyIter_list p.isList ?_
  refine ⟨s1.heap.objs.size,[s1.heap.objs.size],_,_,H1,rfl,I1.kept (t':=s1.toks) fun b o e=>Heap.get?_push_of_some _ e,turn_list a _,⟨_,Heap.get?_push_size _ rfl,rfl,rfl⟩,fun b hb=>?_,q⟩
  have e:b=s1.heap.objs.size:=by simpa using hb
  subst e
  exact I1.fpOk (Nat.le_refl _) (I1.hok.fresh (Nat.le_refl _))
theorem pi_tup {l:Expr} {tl:TE} (hl:PE X l tl):PI X tg l (iTup X.K tl):=by
  intro pins s σ H R I h
  refine thn (hl pins s σ H _ I h) fun v s1 ⟨x,H1,I1,r1,q1⟩=>?_
  obtain ⟨a,e,⟨xs,hq⟩,q⟩:=q1
  subst e
  cases r1
  obtain ⟨its,rv,p,hz⟩:=I1.tuple hq
  refine wpAny_pyIter_tuple (show s1.heap.IsTuple a its.toArray from p) ?_
  refine ⟨s1.heap.objs.size,[s1.heap.objs.size],_,_,H1,rfl,I1.kept (t':=s1.toks) fun b o e=>Heap.get?_push_of_some _ e,turn_tuple a _,⟨_,Heap.get?_push_size _ rfl,rfl,rfl⟩,fun b hb=>?_,q⟩
  have e:b=s1.heap.objs.size:=by simpa using hb
  subst e
  exact I1.fpOk (Nat.le_refl _) (I1.hok.fresh (Nat.le_refl _))
theorem range_it {pins:List (Addr × Obj)} {σ:St} {H:Hp} {s:Shared} {R:It->Hp->Prop} {E:Value->Shared->Prop} {lo hi:Int} {t u v:Tok} {tk:Nat} (I:Inv X pins σ H s) (h1:-(2 ^ 62) <= lo) (h2:lo < 2 ^ 62) (h3:-(2 ^ 62) <= hi) (h4:hi < 2 ^ 62)
    (q:R (Itr lo (hi - lo).toNat) H):wpAny (model X.prog X.w) X.A (pyIter (.ref s.heap.objs.size)) (PIE X pins σ tg R) E { s with heap:=s.heap.push { cls:=.type "range",data:=.fields #[.int lo t,.int hi u,.int 1 v] },toks:=tk }:=by
  refine wpAny_pyIter_range (IsRange.new ..) (small_one h1 h2 h3 h4) ?_
  have I1:Inv X pins σ H { s with heap:=s.heap.push { cls:=.type "range",data:=.fields #[.int lo t,.int hi u,.int 1 v] },toks:=tk }:=I.kept fun b o e=>Heap.get?_push_of_some _ e
  refine ⟨(s.heap.push { cls:=.type "range",data:=.fields #[.int lo t,.int hi u,.int 1 v] }).objs.size,[(s.heap.push { cls:=.type "range",data:=.fields #[.int lo t,.int hi u,.int 1 v] }).objs.size],_,_,H,rfl,
    I1.kept (t':=tk) fun b o e=>Heap.get?_push_of_some _ e,turn_range _ lo (hi - lo).toNat,?_,fun b hb=>?_,q⟩
  · have e1:lo + ((0:Nat):Int) * 1=lo:=by simp
    have e2:(((hi - lo).toNat:Nat):Int) - ((0:Nat):Int)=Builtin.Range.rangeSize lo hi 1:=by rw [rangeSize_one];split <;> omega
    show IsRangeIter _ _ (lo + ((0:Nat):Int) * 1) ((((hi - lo).toNat:Nat):Int) - ((0:Nat):Int)) 1
    rw [e1,e2]
    exact Heap.get?_push_size _ rfl
  · have e:b=(s.heap.push { cls:=.type "range",data:=.fields #[.int lo t,.int hi u,.int 1 v] }).objs.size:=by simpa using hb
    subst e
    exact I1.fpOk (Nat.le_refl _) (I1.hok.fresh (Nat.le_refl _))
def iRng1 (ta:TA):TI:=fun σ H R=>ta σ H fun vs H1=>∃ j:Int,vs=[.int j]/\-(2 ^ 62) <= j/\j < 2 ^ 62/\R (Itr 0 j.toNat) H1
theorem pi_range1 {a:Expr} {ta:TA} {p pos:Pos} (hg:Gl X "range") (hm:X.mg "range"=none) (ha:PA X [a] ta) (hs:starEach [a] X.env=[(false,eval a X.env)]:=by rfl):PI X tg (.Call (.Name "range" p) [a] [] pos) (iRng1 ta):=by
  intro pins s σ H R I h
  refine Call_ (ld_blt I hg hm boot_range (PyProof.Rows.callWith_type1 (thn (ha pos pins s σ H _ I h) fun us s1 ⟨vs,H1,I1,r1,q1⟩=>?_) hs rfl))
  obtain ⟨j,e,q1,q2,q⟩:=q1
  subst e
  cases r1 with
  | cons r rr =>
    cases rr
    obtain ⟨t,rfl⟩:=r
    exact call_range_1 (range_it I1 (by omega) (by omega) q1 q2 (by simpa using q))
def tFor (wi:TI) (g:TG) (tb:TS):TS:=fun D σ H=>wi σ H fun J H1=>∃ W:Nat->Nat->St->Hp->Prop,(∃ m,W 0 m σ H1)/\∀ i m σ H,W i m σ H ->
  (J.stop i H/\D.nx σ H) ∨ (J.go i H/\∃ N:St->Hp->Prop,(∀ σ' H',N σ' H'->∃ m',m' < m/\W (i + 1) m' σ' H')/\∀ x H',J.yld i H x H'->g x σ H' fun σ2 H2=>tb { D with nx:=N,ct:=N,bk:=D.nx } σ2 H2)
def pinsAt (fp:List Addr) (h:Heap):List (Addr × Obj):=fp.filterMap fun b=>(h.get? b).map fun o=>(b,o)
theorem mem_pinsAt {fp:List Addr} {h:Heap} {b:Addr} {o:Obj} (hb:b ∈ fp) (e:h.get? b=some o):(b,o) ∈ pinsAt fp h:=List.mem_filterMap.mpr ⟨b,hb,by rw [e];rfl⟩
theorem of_pinsAt {fp:List Addr} {h:Heap} {p:Addr × Obj} (hp:p ∈ pinsAt fp h):p.1 ∈ fp/\h.get? p.1=some p.2:=by
  obtain ⟨b,hb,e⟩:=List.mem_filterMap.mp hp
  cases q:h.get? b with
  | none=>rw [q] at e;cases e
  | some o =>
    rw [q] at e
    have e':(b,o)=p:=Option.some.inj e
    subst e'
    exact ⟨hb,q⟩
theorem Inv.pinned {pins:List (Addr × Obj)} {σ:St} {H:Hp} {s:Shared} {fp:List Addr} (I:Inv X pins σ H s) (hf:∀ b ∈ fp,FpOk X pins H b) (ho:∀ b ∈ fp,∃ o,s.heap.get? b=some o/\∀ v,o.data ≠ .cell v):Inv X (pins ++ pinsAt fp s.heap) σ H s :=
  I.pins_of fun p hp=>(List.mem_append.mp hp).elim (fun z=>I.pin p (List.mem_append_right _ z)) fun z=>by
    obtain ⟨hb,e⟩:=of_pinsAt z
    obtain ⟨f0,f1,f2,_⟩:=hf p.1 hb
    obtain ⟨o,e',d⟩:=ho p.1 hb
    rw [e] at e';cases e'
    exact ⟨e,f0,f1,f2,d⟩
theorem Inv.unpinned {pins pl:List (Addr × Obj)} {σ:St} {H:Hp} {s:Shared} (I:Inv X (pins ++ pl) σ H s):Inv X pins σ H s:=I.pins_of fun p hp=>I.pin p (List.mem_append_right _ (List.mem_append_left _ hp))
theorem ps_for {iter:Expr} {body:List Stmt} {wi:TI} {g:TG} {tb:TS} {pos:Pos} (hp:PassesOwn (model X.prog X.w) X.A X.env X.xe) (hc:X.calm=true) (hi:PI X tg iter wi) (hg:PG X tg g) (hb:PSs X body tb)
    (hs:∀ x,foldedSetIterable iter X.env x=pure x:=by intro _;rfl):PS X (.For tg iter body [] pos) (tFor wi g tb):=by
  intro pins s σ H D I h
  refine wpAny_For (thn (hi pins s σ H _ I h) fun v s1 h1=>thn h1 fun itv s2 h2=>?_) hs
  obtain ⟨it,fp,tn,J,H2,e,I2,T,st2,f2,W,⟨m0,w0⟩,turn⟩:=h2
  subst e
  have stat:∀ {H':Hp},(∀ b ∈ fp,H' b=none)->∀ b ∈ fp,FpOk X pins H' b:=fun hn b hb=>⟨hn b hb,(f2 b hb).2⟩
  refine codeAny_forLoop_any (fun n s'=>∃ i σ' H',Inv X pins σ' H' s'/\tn i s'.heap/\(∀ b ∈ fp,H' b=none)/\W i n σ' H') ?_ m0 ⟨0,σ,H2,I2,st2,fun b hb=>(f2 b hb).1,w0⟩
  rintro n s3 ⟨i,σ3,H3,I3,st3,fr3,w3⟩
  rcases turn i n σ3 H3 w3 with ⟨stop,qn⟩ | ⟨go,N,hN,step⟩
  · refine wpAny_passesOwn hp (thn (T.done X rfl rfl rfl hc i pins s3 σ3 H3 X.xe I3 (stat fr3) st3 stop) fun r s4 ⟨hr,I4⟩=>?_)
    subst hr
    exact wpAny_execs_nil ⟨σ3,H3,I4,qn⟩
  · refine wpAny_passesOwn hp (thn (T.item X rfl rfl rfl hc i pins s3 σ3 H3 X.xe I3 (stat fr3) st3 go) fun r s4 ⟨u,hr,h4⟩=>?_)
    subst hr
    refine wpAny_passesOwn hp (thn h4 fun _ s5 ⟨x,H5,I5,r5,y5,st5,fr5⟩=>?_)
    have I5':=I5.pinned (stat fr5) (T.obj _ _ st5)
    refine wpAny_passesOwn hp (thn (hg _ s5 σ3 H5 x u _ I5' r5 (step x H5 y5)) fun _ s6 ⟨σ6,H6,I6,q6⟩=>?_)
    refine wpAny_passesOwn hp (thn (hb _ s6 σ6 H6 _ I6 q6) fun f s7 q7=>?_)
    have again:∀ {σ7:St} {H7:Hp},Inv X (pins ++ pinsAt fp s5.heap) σ7 H7 s7->N σ7 H7->∃ m,m < n/\∃ i σ' H',Inv X pins σ' H' s7/\tn i s7.heap/\(∀ b ∈ fp,H' b=none)/\W i m σ' H':=fun {σ7 H7} I7 n7=>by
      obtain ⟨m',hm,w7⟩:=hN σ7 H7 n7
      refine ⟨m',hm,i + 1,σ7,H7,I7.unpinned,T.keep _ _ _ st5 fun b hb o e=>(I7.pin (b,o) (List.mem_append_right _ (List.mem_append_right _ (mem_pinsAt hb e)))).1,fun b hb=>?_,w7⟩
      obtain ⟨o,e,d⟩:=T.obj _ _ st5 b hb
      exact (I7.pin (b,o) (List.mem_append_right _ (List.mem_append_right _ (mem_pinsAt hb e)))).2.1
    cases f with
    | next=>obtain ⟨σ7,H7,I7,n7⟩:=q7;exact again I7 n7
    | cont=>obtain ⟨σ7,H7,I7,n7⟩:=q7;exact again I7 n7
    | brk=>obtain ⟨σ7,H7,I7,q7⟩:=q7;exact ⟨σ7,H7,I7.unpinned,q7⟩
    | ret v=>obtain ⟨x7,σ7,H7,I7,r7,q7⟩:=q7;exact ⟨x7,σ7,H7,I7.unpinned,r7,q7⟩
end
theorem for_list {K:PySem.W.Frag} {a:Addr} {xs:List V} {g:TG} {tb:TS} {D:Ends} {σ:St} {H:Hp} (Pv:Nat->St->Hp->Prop) (h0:Pv 0 σ H) (hl:∀ i σ H,i <= xs.length->Pv i σ H->SqL K H a xs)
    (hs:∀ i x σ H,xs[i]?=some x->Pv i σ H->g x σ H fun σ2 H2=>tb { D with nx:=Pv (i + 1),ct:=Pv (i + 1),bk:=D.nx } σ2 H2) (hd:∀ σ H,Pv xs.length σ H->D.nx σ H) :
    ∃ W:Nat->Nat->St->Hp->Prop,(∃ m,W 0 m σ H)/\∀ i m σ H,W i m σ H ->
      ((Itl K a).stop i H/\D.nx σ H) ∨ ((Itl K a).go i H/\∃ N:St->Hp->Prop,(∀ σ' H',N σ' H'->∃ m',m' < m/\W (i + 1) m' σ' H')/\∀ x H',(Itl K a).yld i H x H'->g x σ H' fun σ2 H2=>tb { D with nx:=N,ct:=N,bk:=D.nx } σ2 H2):=by
  refine ⟨fun i m σ H=>m=xs.length - i/\i <= xs.length/\Pv i σ H,⟨xs.length,by simp,Nat.zero_le _,h0⟩,?_⟩
  rintro i m σ H ⟨rfl,hi,p⟩
  have q:=hl i σ H hi p
  by_cases hlt:i < xs.length
  · refine .inr ⟨⟨xs,xs[i],q,by simp [hlt]⟩,Pv (i + 1),fun σ' H' p'=>⟨xs.length - (i + 1),by omega,rfl,hlt,p'⟩,fun x H' y=>?_⟩
    obtain ⟨e,y⟩:=y
    subst e
    exact hs i x σ _ (y xs q) p
  · have e:i=xs.length:=by omega
    subst e
    exact .inl ⟨⟨xs,q,Nat.le_refl _⟩,hd σ H p⟩
theorem for_tup {K:PySem.W.Frag} {a:Addr} {xs:List V} {g:TG} {tb:TS} {D:Ends} {σ:St} {H:Hp} (Pv:Nat->St->Hp->Prop) (h0:Pv 0 σ H) (hl:∀ i σ H,i <= xs.length->Pv i σ H->SqT K H a xs)
    (hs:∀ i x σ H,xs[i]?=some x->Pv i σ H->g x σ H fun σ2 H2=>tb { D with nx:=Pv (i + 1),ct:=Pv (i + 1),bk:=D.nx } σ2 H2) (hd:∀ σ H,Pv xs.length σ H->D.nx σ H) :
    ∃ W:Nat->Nat->St->Hp->Prop,(∃ m,W 0 m σ H)/\∀ i m σ H,W i m σ H ->
      ((Itt K a).stop i H/\D.nx σ H) ∨ ((Itt K a).go i H/\∃ N:St->Hp->Prop,(∀ σ' H',N σ' H'->∃ m',m' < m/\W (i + 1) m' σ' H')/\∀ x H',(Itt K a).yld i H x H'->g x σ H' fun σ2 H2=>tb { D with nx:=N,ct:=N,bk:=D.nx } σ2 H2):=by
  refine ⟨fun i m σ H=>m=xs.length - i/\i <= xs.length/\Pv i σ H,⟨xs.length,by simp,Nat.zero_le _,h0⟩,?_⟩
  rintro i m σ H ⟨rfl,hi,p⟩
  have q:=hl i σ H hi p
  by_cases hlt:i < xs.length
  · refine .inr ⟨⟨xs,xs[i],q,by simp [hlt]⟩,Pv (i + 1),fun σ' H' p'=>⟨xs.length - (i + 1),by omega,rfl,hlt,p'⟩,fun x H' y=>?_⟩
    obtain ⟨e,y⟩:=y
    subst e
    exact hs i x σ _ (y xs q) p
  · have e:i=xs.length:=by omega
    subst e
    exact .inl ⟨⟨xs,q,Nat.le_refl _⟩,hd σ H p⟩
theorem for_range {lo:Int} {n:Nat} {g:TG} {tb:TS} {D:Ends} {σ:St} {H:Hp} (Pv:Nat->St->Hp->Prop) (h0:Pv 0 σ H)
    (hs:∀ i σ H,i < n->Pv i σ H->g (.int (lo + i)) σ H fun σ2 H2=>tb { D with nx:=Pv (i + 1),ct:=Pv (i + 1),bk:=D.nx } σ2 H2) (hd:∀ σ H,Pv n σ H->D.nx σ H) :
    ∃ W:Nat->Nat->St->Hp->Prop,(∃ m,W 0 m σ H)/\∀ i m σ H,W i m σ H ->
      ((Itr lo n).stop i H/\D.nx σ H) ∨ ((Itr lo n).go i H/\∃ N:St->Hp->Prop,(∀ σ' H',N σ' H'->∃ m',m' < m/\W (i + 1) m' σ' H')/\∀ x H',(Itr lo n).yld i H x H'->g x σ H' fun σ2 H2=>tb { D with nx:=N,ct:=N,bk:=D.nx } σ2 H2):=by
  refine ⟨fun i m σ H=>m=n - i/\i <= n/\Pv i σ H,⟨n,by simp,Nat.zero_le _,h0⟩,?_⟩
  rintro i m σ H ⟨rfl,hi,p⟩
  by_cases hlt:i < n
  · refine .inr ⟨hlt,Pv (i + 1),fun σ' H' p'=>⟨n - (i + 1),by omega,rfl,hlt,p'⟩,fun x H' y=>?_⟩
    obtain ⟨e,y⟩:=y
    subst e y
    exact hs i σ _ hlt p
  · have e:i=n:=by omega
    subst e
    exact .inl ⟨Nat.le_refl _,hd σ H p⟩
end L2
namespace L2
open PySem PySem.Spec PyProof.Rows
abbrev R2:=V->V->Hp->VK->Prop
def OpR (X:Cx) (f:Value->Value->Sem Value) (r:R2):Prop :=
  ∀ (pins:List (Addr × Obj)) (s:Shared) (σ:St) (H:Hp) (x y:V) (v u:Value) (Q:VK),Inv X pins σ H s->RelV x v->RelV y u->r x y H Q ->
    wpAny (model X.prog X.w) X.A (f v u) (EP X pins σ Q) X.xe s
def UnR (X:Cx) (f:Value->Sem Value) (r:V->Hp->VK->Prop):Prop :=
  ∀ (pins:List (Addr × Obj)) (s:Shared) (σ:St) (H:Hp) (x:V) (v:Value) (Q:VK),Inv X pins σ H s->RelV x v->r x H Q ->
    wpAny (model X.prog X.w) X.A (f v) (EP X pins σ Q) X.xe s
def CallR (X:Cx) (f:Value) (r:List V->Hp->VK->Prop):Prop :=
  ∀ (pins:List (Addr × Obj)) (s:Shared) (σ:St) (H:Hp) (xs:List V) (us:List Value) (Q:VK),Inv X pins σ H s->Vals xs us->r xs H Q ->
    wpAny (model X.prog X.w) X.A (call f us) (EP X pins σ Q) X.xe s
def tOp (r:R2) (ta tb:TE):TE:=fun σ H Q=>ta σ H fun x H1=>tb σ H1 fun y H2=>r x y H2 Q
def tUn (r:V->Hp->VK->Prop) (ta:TE):TE:=fun σ H Q=>ta σ H fun x H1=>r x H1 Q
def rI (C:Int->Int->Prop) (g:Int->Int->V):R2:=fun x y H Q=>∃ i j,x=.int i/\y=.int j/\C i j/\Q (g i j) H
def rI0 (g:Int->Int->V):R2:=fun x y H Q=>∃ i j,x=.int i/\y=.int j/\Q (g i j) H
def rU (g:Int->V):V->Hp->VK->Prop:=fun x H Q=>∃ i,x=.int i/\Q (g i) H
section
variable {X:Cx} {a b c:Expr} {ta tb tc:TE} {pos:Pos}
theorem binT (ha:PE X a ta) (hb:PE X b tb) {pins:List (Addr × Obj)} {s:Shared} {σ:St} {H:Hp} {R:V->V->Hp->Prop} (I:Inv X pins σ H s)
    (h:ta σ H fun x H1=>tb σ H1 fun y H2=>R x y H2) {Q:Value->Shared->Prop} {f:Value->Value->Sem Value}
    (hf:∀ v u s2 x y H2,Inv X pins σ H2 s2->RelV x v->RelV y u->R x y H2->wpAny (model X.prog X.w) X.A (f v u) Q X.xe s2) :
    wpAny (model X.prog X.w) X.A (eval a X.env) (fun v s₁=>wpAny (model X.prog X.w) X.A (eval b X.env) (fun u s₂=>wpAny (model X.prog X.w) X.A (f v u) Q X.xe s₂) X.xe s₁) X.xe s:=by
  refine thn (ha pins s σ H _ I h) fun v s1 ⟨x,H1,I1,r1,q1⟩=>?_
  refine thn (hb pins s1 σ H1 _ I1 q1) fun u s2 ⟨y,H2,I2,r2,q2⟩=>?_
  exact hf v u s2 x y H2 I2 r1 r2 q2
theorem pe_op {op:Operator} {r:R2} (ho:OpR X (binaryOp op) r) (ha:PE X a ta) (hb:PE X b tb):PE X (.BinOp a op b pos) (tOp r ta tb):=by
  intro pins s σ H Q I h
  exact wpAny_BinOp (binT ha hb I h fun v u s2 x y H2 I2 rx ry q=>ho pins s2 σ H2 x y v u Q I2 rx ry q)
theorem pe_un {op:UnaryOp} {r:V->Hp->VK->Prop} (ho:UnR X (unaryOp op) r) (ha:PE X a ta):PE X (.UnaryOp op a pos) (tUn r ta):=by
  intro pins s σ H Q I h
  exact UnaryOp_ (thn (ha pins s σ H _ I h) fun v s1 ⟨x,H1,I1,r1,q1⟩=>ho pins s1 σ H1 x v Q I1 r1 q1)
theorem opI {f:Value->Value->Sem Value} {C:Int->Int->Prop} {g:Int->Int->Int}
    (rule:∀ (i j:Int) (t u:Tok) (s:Shared) (Q:Value->Shared->Prop) (E:Value->Shared->Prop),C i j->Q (.int (g i j) s.toks) { s with toks:=s.toks + 1 }->wpAny (model X.prog X.w) X.A (f (.int i t) (.int j u)) Q E s) :
    OpR X f (rI C fun i j=>.int (g i j)):=by
  intro pins s σ H x y v u Q I rx ry h
  obtain ⟨i,j,rfl,rfl,hc,q⟩:=h
  obtain ⟨t,rfl⟩:=rx
  obtain ⟨t',rfl⟩:=ry
  exact rule i j t t' s _ _ hc ⟨.int (g i j),H,I.tok _,⟨_,rfl⟩,q⟩
theorem opI0 {f:Value->Value->Sem Value} {g:Int->Int->Int}
    (rule:∀ (i j:Int) (t u:Tok) (s:Shared) (Q:Value->Shared->Prop) (E:Value->Shared->Prop),Q (.int (g i j) s.toks) { s with toks:=s.toks + 1 }->wpAny (model X.prog X.w) X.A (f (.int i t) (.int j u)) Q E s) :
    OpR X f (rI0 fun i j=>.int (g i j)):=by
  intro pins s σ H x y v u Q I rx ry h
  obtain ⟨i,j,rfl,rfl,q⟩:=h
  obtain ⟨t,rfl⟩:=rx
  obtain ⟨t',rfl⟩:=ry
  exact rule i j t t' s _ _ ⟨.int (g i j),H,I.tok _,⟨_,rfl⟩,q⟩
theorem opB0 {f:Value->Value->Sem Value} {g:Int->Int->Bool}
    (rule:∀ (i j:Int) (t u:Tok) (s:Shared) (Q:Value->Shared->Prop) (E:Value->Shared->Prop),Q (.bool (g i j)) s->wpAny (model X.prog X.w) X.A (f (.int i t) (.int j u)) Q E s) :
    OpR X f (rI0 fun i j=>.bl (g i j)):=by
  intro pins s σ H x y v u Q I rx ry h
  obtain ⟨i,j,rfl,rfl,q⟩:=h
  obtain ⟨t,rfl⟩:=rx
  obtain ⟨t',rfl⟩:=ry
  exact rule i j t t' s _ _ ⟨.bl (g i j),H,I,rfl,q⟩
def CDiv (i j:Int):Prop:=0 < j/\j < 1073741824
def CPow (i j:Int):Prop:=0 <= j/\j <= 1000000/\i.natAbs < 2 ^ 64
def CMul (i j:Int):Prop:=(-(2 ^ 64) < i/\i < 2 ^ 64) ∨ (-(2 ^ 64) < j/\j < 2 ^ 64)
theorem CMul.ok {i j:Int} (h:CMul i j):IntMulOk i j:=by
  rcases h with ⟨h1,h2⟩ | ⟨h1,h2⟩
  · exact .of_left (intBits_le_64 h1 h2)
  · exact .of_right (intBits_le_64 h1 h2)
theorem op_add:OpR X (binaryOp .Add) (rI0 fun i j=>.int (i + j)):=opI0 fun _ _ _ _ _ _ _ q=>add_int q
theorem op_sub:OpR X (binaryOp .Sub) (rI0 fun i j=>.int (i - j)):=opI0 fun _ _ _ _ _ _ _ q=>sub_int q
theorem op_mul:OpR X (binaryOp .Mult) (rI CMul fun i j=>.int (i * j)):=opI fun _ _ _ _ _ _ _ hc q=>mul_int q hc.ok
theorem op_fdiv:OpR X (binaryOp .FloorDiv) (rI CDiv fun i j=>.int (i / j)):=opI fun i j _ _ _ _ _ hc q=>by
  have h1:(0:Int) < j:=hc.1
  have h2:j < 1073741824:=hc.2
  exact floordiv_int (by omega) (by rw [Int.fdiv_eq_ediv_of_nonneg i (by omega)];exact q) (.inl (PyProof.noPylong_small (by omega)))
theorem op_mod:OpR X (binaryOp .Mod) (rI (fun _ j=>0 < j) fun i j=>.int (i % j)):=opI fun i j _ _ _ _ _ hc q=>by
  have h1:(0:Int) < j:=hc
  exact mod_int' (by omega) (by rw [Int.fmod_eq_emod_of_nonneg i (by omega)];exact q)
theorem op_pow:OpR X (binaryOp .Pow) (rI CPow fun i j=>.int (i ^ j.toNat)):=opI fun _ _ _ _ _ _ _ hc q=>pow_int_small hc.1 hc.2.1 hc.2.2 q
theorem unI {f:Value->Sem Value} {g:Int->Int}
    (rule:∀ (i:Int) (t:Tok) (s:Shared) (Q:Value->Shared->Prop) (E:Value->Shared->Prop),Q (.int (g i) s.toks) { s with toks:=s.toks + 1 }->wpAny (model X.prog X.w) X.A (f (.int i t)) Q E s) :
    UnR X f (rU fun i=>.int (g i)):=by
  intro pins s σ H x v Q I rx h
  obtain ⟨i,rfl,q⟩:=h
  obtain ⟨t,rfl⟩:=rx
  exact rule i t s _ _ ⟨.int (g i),H,I.tok _,⟨_,rfl⟩,q⟩
theorem un_neg:UnR X (unaryOp .USub) (rU fun i=>.int (-i)):=unI fun _ _ _ _ _ q=>neg_int q
end
def scal:V->V->Bool
  | .non,.non=>true | .non,.int _=>true | .int _,.non=>true | .non,.bl _=>true | .bl _,.non=>true | .non,.str _=>true | .str _,.non=>true
  | .int _,.int _=>true | .bl _,.bl _=>true | .str _,.str _=>true | .byt _,.byt _=>true
  | .int _,.str _=>true | .str _,.int _=>true | .bl _,.str _=>true | .str _,.bl _=>true
  | _,_=>false
def rEq:R2:=fun x y H Q=>scal x y=true/\Q (.bl (decide (x=y))) H
def rNe:R2:=fun x y H Q=>scal x y=true/\Q (.bl (!decide (x=y))) H
theorem dec_int {i j:Int}:decide (V.int i=V.int j)=(i == j):=by
  rw [Bool.eq_iff_iff]
  simp
theorem dec_bl {i j:Bool}:decide (V.bl i=V.bl j)=(i == j):=by
  rw [Bool.eq_iff_iff]
  simp
theorem dec_str {i j:Str}:decide (V.str i=V.str j)=(i == j):=by
  rw [Bool.eq_iff_iff]
  simp
theorem dec_byt {i j:Array UInt8}:decide (V.byt i=V.byt j)=(i.toList == j.toList):=by
  rw [Bool.eq_iff_iff]
  cases i
  cases j
  simp
section
variable {X:Cx} {a b c:Expr} {ta tb tc:TE} {pos:Pos}
theorem fin_bl {pins:List (Addr × Obj)} {σ:St} {H:Hp} {s:Shared} {Q:VK} {k k':Bool} (I:Inv X pins σ H s) (q:Q (.bl k) H) (e:k=k'):EP X pins σ Q (.bool k') s:=by
  subst e
  exact ⟨.bl k,H,I,rfl,q⟩
theorem op_eq:OpR X (compareOp .Eq) rEq:=by
  intro pins s σ H x y v u Q I rx ry h
  obtain ⟨hs,q⟩:=h
  cases x with
  | non =>
    cases rx
    cases y with
    | non=>cases ry;exact PySem.EqNone.eq_none_none (fin_bl I q (by simp))
    | bl j=>cases ry;exact PySem.EqNone.eq_none_bool (fin_bl I q (by simp))
    | int j=>obtain ⟨t',rfl⟩:=ry;exact PySem.EqNone.eq_none_int (fin_bl I q (by simp))
    | str j=>obtain ⟨t',rfl⟩:=ry;exact PySem.EqNone.eq_none_str (fin_bl I q (by simp))
    | _=>exact absurd (show false=true from hs) Bool.false_ne_true
  | bl i =>
    cases rx
    cases y with
    | non=>cases ry;exact PySem.EqNone.eq_bool_none (fin_bl I q (by simp))
    | bl j=>cases ry;exact eq_bool (fin_bl I q dec_bl)
    | str j=>obtain ⟨t',rfl⟩:=ry;exact PySem.EqMixed.eq_bool_str (fin_bl I q (by simp))
    | _=>exact absurd (show false=true from hs) Bool.false_ne_true
  | int i =>
    obtain ⟨t,rfl⟩:=rx
    cases y with
    | non=>cases ry;exact PySem.EqNone.eq_int_none (fin_bl I q (by simp))
    | int j=>obtain ⟨t',rfl⟩:=ry;exact eq_int (fin_bl I q dec_int)
    | str j=>obtain ⟨t',rfl⟩:=ry;exact PySem.EqMixed.eq_int_str (fin_bl I q (by simp))
    | _=>exact absurd (show false=true from hs) Bool.false_ne_true
  | str i =>
    obtain ⟨t,rfl⟩:=rx
    cases y with
    | non=>cases ry;exact PySem.EqNone.eq_str_none (fin_bl I q (by simp))
    | bl j=>cases ry;exact PySem.EqMixed.eq_str_bool (fin_bl I q (by simp))
    | int j=>obtain ⟨t',rfl⟩:=ry;exact PySem.EqMixed.eq_str_int (fin_bl I q (by simp))
    | str j=>obtain ⟨t',rfl⟩:=ry;exact eq_str (fin_bl I q dec_str)
    | _=>exact absurd (show false=true from hs) Bool.false_ne_true
  | byt i =>
    obtain ⟨t,rfl⟩:=rx
    cases y with
    | byt j=>obtain ⟨t',rfl⟩:=ry;exact PySem.W.eq_bytes (fin_bl I q dec_byt)
    | _=>exact absurd (show false=true from hs) Bool.false_ne_true
  | _=>cases y <;> exact absurd (show false=true from hs) Bool.false_ne_true
theorem op_ne:OpR X (compareOp .NotEq) rNe:=by
  intro pins s σ H x y v u Q I rx ry h
  obtain ⟨hs,q⟩:=h
  cases x with
  | non =>
    cases rx
    cases y with
    | non=>cases ry;exact PySem.EqNone.ne_none_none (fin_bl I q (by simp))
    | bl j=>cases ry;exact PySem.EqNone.ne_none_bool (fin_bl I q (by simp))
    | int j=>obtain ⟨t',rfl⟩:=ry;exact PySem.EqNone.ne_none_int (fin_bl I q (by simp))
    | str j=>obtain ⟨t',rfl⟩:=ry;exact PySem.EqNone.ne_none_str (fin_bl I q (by simp))
    | _=>exact absurd (show false=true from hs) Bool.false_ne_true
  | bl i =>
    cases rx
    cases y with
    | non=>cases ry;exact PySem.EqNone.ne_bool_none (fin_bl I q (by simp))
    | bl j=>cases ry;exact ne_bool (fin_bl I q (congrArg not dec_bl))
    | str j=>obtain ⟨t',rfl⟩:=ry;exact PySem.EqMixed.ne_bool_str (fin_bl I q (by simp))
    | _=>exact absurd (show false=true from hs) Bool.false_ne_true
  | int i =>
    obtain ⟨t,rfl⟩:=rx
    cases y with
    | non=>cases ry;exact PySem.EqNone.ne_int_none (fin_bl I q (by simp))
    | int j=>obtain ⟨t',rfl⟩:=ry;exact ne_int (fin_bl I q (congrArg not dec_int))
    | str j=>obtain ⟨t',rfl⟩:=ry;exact PySem.EqMixed.ne_int_str (fin_bl I q (by simp))
    | _=>exact absurd (show false=true from hs) Bool.false_ne_true
  | str i =>
    obtain ⟨t,rfl⟩:=rx
    cases y with
    | non=>cases ry;exact PySem.EqNone.ne_str_none (fin_bl I q (by simp))
    | bl j=>cases ry;exact PySem.EqMixed.ne_str_bool (fin_bl I q (by simp))
    | int j=>obtain ⟨t',rfl⟩:=ry;exact PySem.EqMixed.ne_str_int (fin_bl I q (by simp))
    | str j=>obtain ⟨t',rfl⟩:=ry;exact ne_str (fin_bl I q (congrArg not dec_str))
    | _=>exact absurd (show false=true from hs) Bool.false_ne_true
  | byt i =>
    obtain ⟨t,rfl⟩:=rx
    cases y with
    | byt j=>obtain ⟨t',rfl⟩:=ry;exact PySem.W.ne_bytes (fin_bl I q (congrArg not dec_byt))
    | _=>exact absurd (show false=true from hs) Bool.false_ne_true
  | _=>cases y <;> exact absurd (show false=true from hs) Bool.false_ne_true
theorem op_lt:OpR X (compareOp .Lt) (rI0 fun i j=>.bl (decide (i < j))):=opB0 fun _ _ _ _ _ _ _ q=>lt_int q
theorem op_le:OpR X (compareOp .LtE) (rI0 fun i j=>.bl (decide (i <= j))):=opB0 fun _ _ _ _ _ _ _ q=>le_int q
theorem op_gt:OpR X (compareOp .Gt) (rI0 fun i j=>.bl (decide (j < i))):=opB0 fun _ _ _ _ _ _ _ q=>gt_int q
theorem op_ge:OpR X (compareOp .GtE) (rI0 fun i j=>.bl (decide (j <= i))):=opB0 fun _ _ _ _ _ _ _ q=>ge_int q
theorem nomark (b:Expr) {op:CmpOp} (h:op ≠ .In:=by decide) (h2:op ≠ .NotIn:=by decide):behindInMarks op b=false:=by
  have e1:(op == CmpOp.In)=false:=by cases op <;> first | rfl | exact absurd rfl h
  have e2:(op == CmpOp.NotIn)=false:=by cases op <;> first | rfl | exact absurd rfl h2
  cases b <;> simp [behindInMarks,e1,e2]
theorem pe_cmpR {op:CmpOp} {r:R2} (ho:OpR X (compareOp op) r) (ha:PE X a ta) (hb:PE X b tb) (hm:behindInMarks op b=false):PE X (.Compare a [op] [b] pos) (tOp r ta tb):=by
  intro pins s σ H Q I h
  exact wpAny_Compare1 (binT ha hb I h fun v u s2 x y H2 I2 rx ry q=>ho pins s2 σ H2 x y v u Q I2 rx ry q) hm
def tTest (t:TE):TT:=fun σ H Q=>t σ H fun x H'=>∃ k,x=.bl k/\Q k H'
theorem pt_cmpR {op:CmpOp} {r:R2} (ho:OpR X (compareOp op) r) (ha:PE X a ta) (hb:PE X b tb) (hm:behindInMarks op b=false):PT X (.Compare a [op] [b] pos) (tTest (tOp r ta tb)):=by
  intro pins s σ H Q I h
  refine wpAny_isTrue_Compare1 (thn (ha pins s σ H _ I h) fun v s1 ⟨x,H1,I1,r1,q1⟩=>thn (hb pins s1 σ H1 _ I1 q1) fun u s2 ⟨y,H2,I2,r2,q2⟩ =>
    thn (ho pins s2 σ H2 x y v u _ I2 r1 r2 q2) fun c s3 ⟨z,H3,I3,r3,k,e,q3⟩=>?_) hm
  subst e
  cases r3
  exact wpAny_truthy_bool ⟨H3,I3,q3⟩
def tChain (r r':R2) (ta tb tc:TE):TE:=fun σ H Q=>ta σ H fun x H1=>tb σ H1 fun y H2=>r x y H2 fun z H3=>∃ k,z=.bl k /\
  (if k=true then tc σ H3 fun w' H4=>r' y w' H4 Q else Q (.bl false) H3)
theorem pe_chain {op op':CmpOp} {r r':R2} (ho:OpR X (compareOp op) r) (ho':OpR X (compareOp op') r') (ha:PE X a ta) (hb:PE X b tb) (hc:PE X c tc)
    (hm:lastMarks [op,op'] [b,c]=false:=by with_unfolding_all rfl):PE X (.Compare a [op,op'] [b,c] pos) (tChain r r' ta tb tc):=by
  intro pins s σ H Q I h
  refine Compare_chain (thn (ha pins s σ H _ I h) fun v s1 ⟨x,H1,I1,r1,q1⟩=>chain_link (thn (hb pins s1 σ H1 _ I1 q1) fun u s2 ⟨y,H2,I2,r2,q2⟩ =>
    thn (ho pins s2 σ H2 x y v u _ I2 r1 r2 q2) fun d s3 ⟨z,H3,I3,r3,k,e,q3⟩=>?_)) hm
  subst e
  cases r3
  refine wpAny_truthy_bool ?_
  cases k with
  | false=>exact ite_ff ⟨.bl false,H3,I3,rfl,q3⟩
  | true=>exact ite_tt (chain_last (thn (hc pins s3 σ H3 _ I3 q3) fun w' s4 ⟨z',H4,I4,r4,q4⟩=>ho' pins s4 σ H4 y z' u w' Q I4 r2 r4 q4))
theorem pt_chain {op op':CmpOp} {r r':R2} (ho:OpR X (compareOp op) r) (ho':OpR X (compareOp op') r') (ha:PE X a ta) (hb:PE X b tb) (hc:PE X c tc)
    (hm:lastMarks [op,op'] [b,c]=false:=by with_unfolding_all rfl):PT X (.Compare a [op,op'] [b,c] pos) (tTest (tChain r r' ta tb tc)):=by
  intro pins s σ H Q I h
  refine isTrue_chain (thn (ha pins s σ H _ I h) fun v s1 ⟨x,H1,I1,r1,q1⟩=>test_link (thn (hb pins s1 σ H1 _ I1 q1) fun u s2 ⟨y,H2,I2,r2,q2⟩ =>
    thn (ho pins s2 σ H2 x y v u _ I2 r1 r2 q2) fun d s3 ⟨z,H3,I3,r3,k,e,q3⟩=>?_)) hm
  subst e
  cases r3
  refine wpAny_truthy_bool ?_
  cases k with
  | false =>
    obtain ⟨k',e',q'⟩:=q3
    cases e'
    exact ite_ff ⟨H3,I3,q'⟩
  | true =>
    refine ite_tt (test_last (thn (hc pins s3 σ H3 _ I3 q3) fun w' s4 ⟨z',H4,I4,r4,q4⟩=>thn (ho' pins s4 σ H4 y z' u w' _ I4 r2 r4 q4) fun d' s5 ⟨z2,H5,I5,r5,k2,e2,q5⟩=>?_))
    subst e2
    cases r5
    exact wpAny_truthy_bool ⟨H5,I5,q5⟩
theorem line63:(sizeLine:Nat) < 2 ^ 63:=by rw [sizeLine_eq];decide
theorem vals1 {x:V} {us:List Value} (r:Vals [x] us):∃ u,us=[u]/\RelV x u:=by
  cases r with
  | cons r1 r2=>cases r2;exact ⟨_,rfl,r1⟩
theorem vals2 {x y:V} {us:List Value} (r:Vals [x,y] us):∃ u w',us=[u,w']/\RelV x u/\RelV y w':=by
  cases r with
  | cons r1 r2 =>
    cases r2 with
    | cons r3 r4=>cases r4;exact ⟨_,_,rfl,r1,r3⟩
theorem call_abs:CallR X (.builtin "abs") (fun xs H Q=>∃ i,xs=[.int i]/\Q (.int (if i < 0 then -i else i)) H):=by
  intro pins s σ H xs us Q I r h
  obtain ⟨i,rfl,q⟩:=h
  obtain ⟨u,rfl,t,rfl⟩:=vals1 r
  exact call_abs_int fun u tk=>⟨.int (if i < 0 then -i else i),H,I.tok _,⟨_,rfl⟩,q⟩
theorem call_max2 (hc:X.calm=true):CallR X (.builtin "max") (fun xs H Q=>∃ i j,xs=[.int i,.int j]/\Q (.int (if j > i then j else i)) H):=by
  intro pins s σ H xs us Q I r h
  obtain ⟨i,j,rfl,q⟩:=h
  obtain ⟨u,w',rfl,⟨t,rfl⟩,⟨t',rfl⟩⟩:=vals2 r
  refine max_two_ints (I.ok.hd hc) fun h' tk k=>⟨_,H,I.kept k,?_,q⟩
  by_cases hj:j > i
  · rw [if_pos hj,if_pos hj];exact ⟨_,rfl⟩
  · rw [if_neg hj,if_neg hj];exact ⟨_,rfl⟩
theorem call_min2 (hc:X.calm=true):CallR X (.builtin "min") (fun xs H Q=>∃ i j,xs=[.int i,.int j]/\Q (.int (if j < i then j else i)) H):=by
  intro pins s σ H xs us Q I r h
  obtain ⟨i,j,rfl,q⟩:=h
  obtain ⟨u,w',rfl,⟨t,rfl⟩,⟨t',rfl⟩⟩:=vals2 r
  refine min_two_ints (I.ok.hd hc) fun h' tk k=>⟨_,H,I.kept k,?_,q⟩
  by_cases hj:j < i
  · rw [if_pos hj,if_pos hj];exact ⟨_,rfl⟩
  · rw [if_neg hj,if_neg hj];exact ⟨_,rfl⟩
theorem call_int1:CallR X (.type "int") (fun xs H Q=>(∃ i,xs=[.int i]/\Q (.int i) H) ∨ ∃ k,xs=[.bl k]/\Q (.int (if k then 1 else 0)) H):=by
  intro pins s σ H xs us Q I r h
  rcases h with ⟨i,rfl,q⟩ | ⟨k,rfl,q⟩
  · obtain ⟨u,rfl,t,rfl⟩:=vals1 r
    exact call_int_int ⟨.int i,H,I,⟨_,rfl⟩,q⟩
  · obtain ⟨u,rfl,r1⟩:=vals1 r
    cases r1
    exact call_int_bool ⟨.int (if k then 1 else 0),H,I.tok _,⟨_,rfl⟩,q⟩
end
end L2
namespace L2
open PySem PySem.Spec PyProof.Rows
structure ObjM (h:Heap) (x dx C:Addr) (mA:Str->Option Value):Prop where
  obj:h.get? x=some (PySem.W.instObj C dx)
  ns:h.Ns1 dx mA
  ne:dx ≠ x
theorem lookIn_ns {h:Heap} {dx:Addr} {mA:Str->Option Value} (n:h.Ns1 dx mA):∃ od,h.get? dx=some od/\∀ name,PySem.W.lookIn name od=some (mA name):=by
  obtain ⟨o,es,ep,ho,hd,hk,_,hm⟩:=n
  refine ⟨o,ho,fun name=>?_⟩
  have e:=hm name
  unfold nsFind findBy at e
  rw [<- Array.find?_toList] at e
  unfold PySem.W.lookIn
  rw [hd]
  dsimp only
  split
  · rename_i y q
    rw [q] at e
    exact congrArg some e
  · rename_i q
    rw [q] at e
    have a:es.toList.any (·.refKey)=false:=by
      rw [List.any_eq_false]
      intro y hy
      obtain ⟨z,t,hkey⟩:=hk y (Array.mem_toList_iff.mp hy)
      simp [DictEntry.refKey,hkey]
    have a':¬ es.toList.any (·.refKey)=true:=by rw [a];exact Bool.false_ne_true
    rw [if_neg a']
    exact congrArg some e
theorem ObjM.look {h:Heap} {x dx C:Addr} {mA:Str->Option Value} (I:ObjM h x dx C mA):∃ od,PySem.W.InstAt h x (PySem.W.instObj C dx) C (some od)/\∀ name,PySem.W.lookIn name od=some (mA name) :=
  let ⟨od,ho,hl⟩:=lookIn_ns I.ns
  ⟨od,⟨I.obj,rfl,rfl,ho⟩,hl⟩
section
variable {prog:Program} {w:World} {A:Around} {E:Value->Shared->Prop} {s:Shared} {K:PySem.W.Frag} {x dx C f:Addr} {mA:Str->Option Value} {name:Str} {v:Value}
end
theorem RelO.some_of {v:V} {o:Option Value} (r:RelO (some v) o):∃ u,o=some u/\RelV v u:=by
  cases o with
  | none=>exact (show False from r).elim
  | some u=>exact ⟨u,rfl,r⟩
section
variable {P:Program} {w:World} {H H':Hp} {h h':Heap} {a C dx:Addr} {fs fs':List (Str × V)}
theorem ins_get (hok:HOk P w H h) (e:H a=some (.ins C dx fs)):∃ mA,ObjM h a dx C mA/\(∀ f,RelO (fs.lookup f) (mA f))/\PySem.Within mA (fs.map (·.1))/\fs.length <= 1000/\H dx=some (.own a):=by
  obtain ⟨d,z,ne,ob,mA,n,r,q⟩:=(show ObjOk P w H h a (.ins C dx fs) from hok a _ e)
  exact ⟨mA,⟨ob,n,ne⟩,r,q,z,d⟩
end
structure Cls (K:PySem.W.Frag) (C:Addr):Prop where
  pg:PySem.W.plainGet K C Str.empty=true
  hd:PySem.W.hasDictIn K C=true
  po:PySem.W.plainOver K C=true
  sa:PySem.W.findIn K (.ref C) "__setattr__"=some (some (.builtin "object.__setattr__"))
theorem Cls.get {K:PySem.W.Frag} {C:Addr} (c:Cls K C) (f:Str):PySem.W.plainGet K C f=true:=c.pg
structure Con (K:PySem.W.Frag) (C:Addr) (f:Str) (v:V) (u:Value):Prop where
  at_:PySem.W.findIn K (.ref C) f=some (some u)
  rel:RelV v u
  get:PySem.W.specialIn K u "__get__"=some none
  cp:PySem.W.copiedNames.contains f=false
structure Meth (K:PySem.W.Frag) (C:Addr) (m:Str) (f:Addr):Prop where
  at_:PySem.W.findIn K (.ref C) m=some (some (.ref f))
  fn:PySem.W.isFn K (.ref f)=true
  kp:PySem.W.keepIn K (.ref f)=true
section
variable {X:Cx} {pins:List (Addr × Obj)} {σ:St} {H:Hp} {s:Shared} {a C dx:Addr} {fs:List (Str × V)} {f:Str} {v:V} {A:Around} {E:Value->Shared->Prop}
end
section
variable {X:Cx} {o e value:Expr} {f:Str} {pos pos' tpos:Pos} {ta tv:TE}
end
section
variable {X:Cx} {pins:List (Addr × Obj)} {σ:St} {H:Hp} {s:Shared} {A:Around} {E:Value->Shared->Prop} {Q:Value->Shared->Prop} {c:Value} {b:Bool}
inductive TyOf (K:PySem.W.Frag) (H:Hp):V->Value->Prop where
  | non:TyOf K H .non (.type "NoneType")
  | bl (x:Bool):TyOf K H (.bl x) (.type "bool")
  | int (i:Int):TyOf K H (.int i) (.type "int")
  | str (x:Str):TyOf K H (.str x) (.type "str")
  | flt (x:UInt64):TyOf K H (.flt x) (.type "float")
  | lst {a:Addr} {xs:List V} (e:H a=some (.lst xs)):TyOf K H (.ref a) (.type "list")
  | frz {a:Addr} {o:Obj} {xs:List V} (e:H a=some (.frz o (.lst xs))):TyOf K H (.ref a) (.type "list")
  | tup {a:Addr} {xs:List V} (e:H a=some (.tup xs)):TyOf K H (.ref a) (.type "tuple")
  | dK {a:Addr} {kvs:List (Key × V)} (e:H a=some (.dK kvs)):TyOf K H (.ref a) (.type "dict")
  | dT {a:Addr} {kvs:List (List Key × V)} (e:H a=some (.dT kvs)):TyOf K H (.ref a) (.type "dict")
  | ins {a C dx:Addr} {fs:List (Str × V)} (e:H a=some (.ins C dx fs)) (cl:Cls K C) (ha:PySem.W.findIn K (.ref C) "__class__"=some (some (.builtin "object.__class__")))
      (hn:PySem.W.specialIn K (.builtin "object.__class__") "__get__"=some (some (.builtin "getset_descriptor.__get__"))) (htk:PySem.W.takesIn K (.builtin "object.__class__")=some true)
      (hm:PySem.W.mroIn K C (.type "object")=some true):TyOf K H (.ref a) (.ref C)
theorem isinst_ok {x:V} {u t:Value} (I:Inv X pins σ H s) (rx:RelV x u) (ty:TyOf X.K H x t) (e:PySem.W.kitOne X.K t c=some b) (h:∀ tk,Q (.bool b) { s with toks:=tk }) :
    wpAny (model X.prog X.w) A (call (.builtin "isinstance") [u,c]) Q E s:=by
  cases ty with
  | non=>cases (show u=Value.none from rx);exact PySem.W.kia_one PySem.W.kitx_none I.kIn True.intro e (fun z=>nomatch z) h
  | bl y=>cases (show u=Value.bool y from rx);exact PySem.W.kia_one PySem.W.kitx_bool I.kIn True.intro e (fun z=>nomatch z) h
  | int i=>obtain ⟨t,q⟩:=(show ∃ t,u=Value.int i t from rx);cases q;exact PySem.W.kia_one PySem.W.kitx_int I.kIn True.intro e (fun z=>nomatch z) h
  | str y=>obtain ⟨t,q⟩:=(show ∃ t,u=Value.str y t from rx);cases q;exact PySem.W.kia_one PySem.W.kitx_str I.kIn True.intro e (fun z=>nomatch z) h
  | flt y=>obtain ⟨t,q⟩:=(show ∃ t,u=Value.float y t from rx);cases q;exact PySem.W.kia_one PySem.W.kitx_float I.kIn True.intro e (fun z=>nomatch z) h
  | @lst a xs ea =>
    cases (show u=Value.ref a from rx)
    obtain ⟨_,_,n,_,h1⟩:=(show ObjOk X.prog X.w H s.heap a (.lst xs) from I.hok a _ ea)
    exact PySem.W.kia_one PySem.W.kitx_list I.kIn ⟨_,h1,rfl⟩ e (fun z=>nomatch z) h
  | @frz a ob xs ea =>
    cases (show u=Value.ref a from rx)
    obtain ⟨_,_,_,n,_,h1⟩:=(show ObjOk X.prog X.w H s.heap a (.frz ob (.lst xs)) from I.hok a _ ea)
    exact PySem.W.kia_one PySem.W.kitx_list I.kIn ⟨_,h1,rfl⟩ e (fun z=>nomatch z) h
  | @tup a xs ea =>
    cases (show u=Value.ref a from rx)
    obtain ⟨_,_,_,p⟩:=(show ObjOk X.prog X.w H s.heap a (.tup xs) from I.hok a _ ea)
    obtain ⟨o,h1,h2,_⟩:=p
    exact PySem.W.kia_one PySem.W.kitx_tuple I.kIn ⟨o,h1,h2⟩ e (fun z=>nomatch z) h
  | @dK a kvs ea =>
    cases (show u=Value.ref a from rx)
    obtain ⟨_,_,vs,_,p⟩:=(show ObjOk X.prog X.w H s.heap a (.dK kvs) from I.hok a _ ea)
    obtain ⟨o,es,ep,h1,h2,_⟩:=p
    exact PySem.W.kia_one PySem.W.kitx_dict I.kIn ⟨o,h1,h2.1⟩ e (fun z=>nomatch z) h
  | @dT a kvs ea =>
    cases (show u=Value.ref a from rx)
    obtain ⟨_,_,xs,_,o,es,ep,h1,h2,_⟩:=(show ObjOk X.prog X.w H s.heap a (.dT kvs) from I.hok a _ ea)
    exact PySem.W.kia_one PySem.W.kitx_dict I.kIn ⟨o,h1,h2.1⟩ e (fun z=>nomatch z) h
  | @ins a C dx fs ea cl ha hn htk hm =>
    cases (show u=Value.ref a from rx)
    obtain ⟨mA,O,_⟩:=ins_get I.hok ea
    obtain ⟨od,J,_⟩:=O.look
    exact PySem.W.kia_one (PySem.W.kitx_own (cl.get _) cl.hd ha hn htk hm) I.kIn J e (fun z=>nomatch z) h
end
end L2
namespace L2
open PySem PySem.Spec PyProof.Rows
structure Room (k:Nat) (A:Around):Prop where
  hd:A.handled=none
  dp:A.depth + 3 * k + 5 < recursionLimit
  un:A.units + 16 * k + 200 < cLine
theorem Room.mono {j k:Nat} {A:Around} (r:Room k A) (h:j <= k):Room j A:=⟨r.hd,by have:=r.dp;omega,by have:=r.un;omega⟩
theorem Room.deeper {k:Nat} {A:Around} (r:Room (k + 1) A) (env:Env):Room k (A.deeper env) :=
  ⟨r.hd,by have:=r.dp;show A.depth + 1 + 3 * k + 5 < _;omega,by have:=r.un;show A.units + 3 + 16 * k + 200 < _;omega⟩
theorem Room.depth {k:Nat} {A:Around} (r:Room k A):A.depth < recursionLimit:=by have:=r.dp;omega
theorem Room.units {k:Nat} {A:Around} (r:Room k A):A.units + 64 < cLine:=by have:=r.un;omega
def tNil:TA:=fun _ H Q=>Q [] H
def tCons (ta:TE) (tr:TA):TA:=fun σ H Q=>ta σ H fun x H1=>tr σ H1 fun xs H2=>Q (x :: xs) H2
section
variable {X:Cx} {e:Expr} {es:List Expr} {te:TE} {t:TA} {pos:Pos}
theorem pa_nil:PA X [] tNil:=fun _ _ _ _ H Q I h=>Calls.spliced_nil ⟨[],H,I,.nil,h⟩
theorem pa_cons (ha:PE X e te) (hr:PA X es t) (hs:starEach (e :: es) X.env=(false,eval e X.env) :: starEach es X.env:=by rfl):PA X (e :: es) (tCons te t):=by
  intro pos pins s σ H Q I h
  rw [hs]
  show wpAny _ _ (spliced ((false,eval e X.env) :: backTo pos (starEach es X.env))) _ _ s
  refine Calls.spliced_cons (thn (ha pins s σ H _ I h) fun u s1 ⟨x,H1,I1,r1,q1⟩=>?_)
  exact thn (hr pos pins s1 σ H1 _ I1 q1) fun us s2 ⟨xs,H2,I2,r2,q2⟩=>⟨x :: xs,H2,I2,.cons r1 r2,q2⟩
def tTup (t:TA):TE:=fun σ H Q=>t σ H fun xs H1=>xs.length <= sizeLine/\∀ p,H1 p=none->Q (.ref p) (upd H1 p (.tup xs))
def tLst (t:TA):TE:=fun σ H Q=>t σ H fun xs H1=>xs.length <= sizeLine/\∀ p,H1 p=none->Q (.ref p) (upd H1 p (.lst xs))
theorem pe_tup {x1} (h:PA X es t):PE X (.Tuple es x1 pos) (tTup t):=by
  intro pins s σ H Q I hq
  refine wpAny_Tuple_spliced (thn (h pos pins s σ H _ I hq) fun us s1 ⟨xs,H1,I1,r,z,q⟩=>⟨by rw [<- r.length];exact z,?_⟩)
  have hf:H1 s1.heap.objs.size=none:=I1.hok.fresh (Nat.le_refl _)
  refine ⟨.ref s1.heap.objs.size,upd H1 s1.heap.objs.size (.tup xs),I1.laid (t':=s1.toks) (fun b u e=>Heap.get?_push_of_some _ e) (Nat.le_refl _) ?_,rfl,q _ hf⟩
  exact ⟨z,us,r,⟨_,Heap.get?_push_size _ rfl,rfl,_,rfl⟩⟩
theorem pe_lst (h:PA X es t):PE X (.List es pos) (tLst t):=by
  intro pins s σ H Q I hq
  refine wpAny_List_spliced (thn (h pos pins s σ H _ I hq) fun us s1 ⟨xs,H1,I1,r,z,q⟩=>⟨by rw [<- r.length];exact z,?_⟩)
  have hf:H1 s1.heap.objs.size=none:=I1.hok.fresh (Nat.le_refl _)
  refine ⟨.ref s1.heap.objs.size,upd H1 s1.heap.objs.size (.lst xs),I1.laid (t':=s1.toks) (fun b u e=>Heap.get?_push_of_some _ e) (Nat.le_refl _) ?_,rfl,q _ hf⟩
  exact ⟨z,us,0,r,Heap.get?_push_size _ rfl⟩
end
abbrev Sp:=List V->Hp->VK->XK->Prop
abbrev CXT:=List Env->Hp->Shared->XK->Value->Shared->Prop
structure Env0 (P:Program) (w:World) (K:PySem.W.Frag) (mg:Str->Option Value) (base:Heap) (A:Around) (outer:List Env) (s:Shared) (H:Hp):Prop where
  frames:A.frames=some outer
  mod:Mod K mg base
  bs:∀ b o,base.get? b=some o->s.heap.get? b=some o/\H b=none
  bsz:base.objs.size <= s.heap.objs.size
  funs:s.heap.FunFrames base outer
  frf:∀ b ∈ frs outer,H b=none
  hok:HOk P w H s.heap
  bare:AllBare s.gens
def CE (outer:List Env) (P:Program) (w:World) (H:Hp) (s:Shared) (Q:VK) (u:Value) (s':Shared):Prop :=
  ∃ v H',s'.os=s.os/\AllBare s'.gens/\Un (frs outer) [] H H' s.heap s'.heap/\HOk P w H' s'.heap/\RelV v u/\Q v H'
def CR (CX:CXT) (outer:List Env) (P:Program) (w:World) (H:Hp) (s:Shared) (Q:VK) (E:XK) (r:Result) (s':Shared):Prop :=
  match r with
  | .ok (.ret u)=>CE outer P w H s Q u s'
  | .ok _=>False
  | .error e=>CX outer H s E e s'
structure FnOk (P:Program) (w:World) (K:PySem.W.Frag) (mg:Str->Option Value) (base:Heap) (CX:CXT) (k:Nat) (f:Addr) (fd:FuncData) (ps:List Str) (sp:Sp):Prop where
  len:∀ vs H Q E,sp vs H Q E->vs.length=ps.length
  run:∀ (A:Around) (outer:List Env) (s:Shared) (H:Hp) (args:Args) (us:List Value) (vs:List V) (Q:VK) (E:XK),Room k A->Env0 P w K mg base A outer s H->BindsTo s fd args (ps.zip us)->Vals vs us->sp vs H Q E ->
    codeAny (model P w) A (.call (.ref f) args) (CR CX outer P w H s Q E) s
theorem FnOk.mono {P:Program} {w:World} {K:PySem.W.Frag} {mg:Str->Option Value} {base:Heap} {CX:CXT} {j k:Nat} {f:Addr} {fd:FuncData} {ps:List Str} {sp:Sp} (F:FnOk P w K mg base CX j f fd ps sp) (h:j <= k) :
    FnOk P w K mg base CX k f fd ps sp:=⟨F.len,fun A outer s H args us vs Q E hr=>F.run A outer s H args us vs Q E (hr.mono h)⟩
section
variable {X:Cx} {pins:List (Addr × Obj)} {σ:St} {H:Hp} {s s':Shared}
theorem Inv.env0 (I:Inv X pins σ H s):Env0 X.prog X.w X.K X.mg X.base X.A X.stack s H :=
  ⟨I.ok.frames,I.ok.mod,I.bs,Nat.le_trans I.ok.bsz I.sz,I.stack,I.stkFree,I.hok,I.bare⟩
theorem Inv.after {Q:VK} {u:Value} (I:Inv X pins σ H s) (h:CE X.stack X.prog X.w H s Q u s'):EP X pins σ Q u s':=by
  obtain ⟨v,H',os,bare,un,hok,r,q⟩:=h
  obtain ⟨hh,g,d,t,os'⟩:=s'
  obtain rfl:os'=s.os:=os
  exact ⟨v,H',I.call (h':=hh) (g':=g) (d':=d) (t':=t) (ch:=[]) un hok bare (fun b z=>absurd z (by simp)),r,q⟩
end
def tCall (sp:Sp) (dvs:List V) (E:XK) (t:TA):TE:=fun σ H Q=>t σ H fun vs H1=>sp (vs ++ dvs) H1 Q E
def Binds (K:PySem.W.Frag) (fd:FuncData) (ps:List Str) (ds:List Value):Prop :=
  ∀ (s:Shared) (us:List Value),K.In s.heap->(us ++ ds).length=ps.length->BindsTo s fd ⟨us,[]⟩ (ps.zip (us ++ ds))
theorem Binds.all {K:PySem.W.Frag} {fd:FuncData} {ps:List Str} (h:∀ us:List Value,us.length=ps.length->bindArgs fd ⟨us,[]⟩=pure (ps.zip us)):Binds K fd ps []:=fun s us _ hl=>by
  rw [List.append_nil] at hl ⊢
  exact .of_eq (h us hl)
def Passes (CX:CXT) (X:Cx) (E:XK):Prop:=∀ (pins:List (Addr × Obj)) (σ:St) (H:Hp) (s:Shared) (e:Value) (s':Shared),Inv X pins σ H s->CX X.stack H s E e s'->X.xe e s'
section
variable {X:Cx} {CX:CXT} {k:Nat} {f C:Addr} {fd:FuncData} {ps:List Str} {sp:Sp} {dvs:List V} {ds:List Value} {E:XK} {x m:Str} {p pos apos:Pos} {e o:Expr} {es:List Expr} {ta:TE} {t:TA}
theorem run_fn {pins:List (Addr × Obj)} {σ:St} {H:Hp} {s:Shared} {Q:VK} {us:List Value} {vs:List V} (F:FnOk X.prog X.w X.K X.mg X.base CX k f fd ps sp) (hr:Room k X.A) (hb:Binds X.K fd ps ds) (hd:Vals dvs ds) (hx:Passes CX X E)
    (I:Inv X pins σ H s) (r:Vals vs us) (h:sp (vs ++ dvs) H Q E):wpAny (model X.prog X.w) X.A (call (.ref f) us) (EP X pins σ Q) X.xe s:=by
  have r2:Vals (vs ++ dvs) (us ++ ds):=r.append hd
  have hl:(us ++ ds).length=ps.length:=by rw [<- r2.length];exact F.len _ _ _ _ h
  refine wpAny_call (codeAny_mono (F.run X.A X.stack s H ⟨us,[]⟩ (us ++ ds) (vs ++ dvs) Q E hr I.env0 (hb s us I.kIn hl) r2 h) fun r s' hq=>?_)
  cases r with
  | error e=>exact hx pins σ H s e s' I hq
  | ok fl =>
    cases fl with
    | ret u=>exact I.after hq
    | next=>exact False.elim hq
    | brk=>exact False.elim hq
    | cont=>exact False.elim hq
theorem pe_call (F:FnOk X.prog X.w X.K X.mg X.base CX k f fd ps sp) (hr:Room k X.A) (hg:Gl X x) (hm:X.mg x=some (.ref f)) (hk:PySem.W.keepIn X.K (.ref f)=true) (hb:Binds X.K fd ps ds) (hd:Vals dvs ds) (hx:Passes CX X E)
    (ha:PA X (e :: es) t) (hdb:(x == ("__debug__":Str))=false:=by decide) (he:starEach (e :: es) X.env=(false,eval e X.env) :: starEach es X.env:=by rfl) (hpl:(backTo pos (starEach es X.env)).any (·.1)=false:=by rfl) :
    PE X (.Call (.Name x p) (e :: es) [] pos) (tCall sp dvs E t):=by
  intro pins s σ H Q I h
  refine wpAny_Call_Name_kw (ld_glob I hg hm ?_ hdb)
  refine PySem.W.callWith_K (h₀:=X.base) I.ok.mod.kin hk (thn (ha pos pins s σ H _ I h) fun us s1 ⟨vs,H1,I1,r,q⟩=>⟨I1.kIn,?_⟩) he hpl
  exact run_fn F hr hb hd hx I1 r q
structure Mk (K:PySem.W.Frag) (C f:Addr):Prop where
  makes:PySem.W.makesIn K C=true
  init:PySem.W.findIn K (.ref C) "__init__"=some (some (.ref f))
  fn:PySem.W.isFn K (.ref f)=true
  kp:PySem.W.keepIn K (.ref C)=true
end
section
variable {X:Cx} {CX:CXT} {k:Nat} {f C:Addr} {fd:FuncData} {ps ks:List Str} {sp:Sp} {E:XK} {x m:Str} {p pos apos kpos:Pos} {e o:Expr} {es:List Expr} {kws:List Keyword} {te ta:TE} {t tk:TA} {nm:Option Str}
structure KBinds (K:PySem.W.Frag) (fd:FuncData) (ps ks:List Str) (g:List Value->List Value->List Value) (gV:List V->List V->List V):Prop where
  to:∀ (s:Shared) (us ws:List Value),K.In s.heap->(g us ws).length=ps.length->BindsTo s fd ⟨us,ks.zip ws⟩ (ps.zip (g us ws))
  rel:∀ {vs:List V} {us:List Value} {zs:List V} {ws:List Value},Vals vs us->Vals zs ws->Vals (gV vs zs) (g us ws)
variable {g:List Value->List Value->List Value} {gV:List V->List V->List V}
end
structure FnScope (N P:List Str) (sc:Scope):Prop where
  kind:sc.kind=.function
  co:sc.isCoroutine=false
  gen:sc.isGenerator=false
  nd:N.Nodup
  pre:N.take P.length=P
  par:∀ x ∈ P,sc.names.lookup x=some .local ∨ sc.names.lookup x=some .cell
  nofree:∀ y ∈ sc.names,y.2 ≠ .free
theorem bindL_out {kindOf:Str->Option NameKind} {x:Str}:∀ {binds:List (Str × Value)} {m:Str->Option Value},(∀ v,(x,v) ∉ binds)->bindL kindOf binds m x=m x
  | [],_,_=>rfl
  | (n,v) :: r,m,h=>by
    unfold bindL
    rw [bindL_out fun w hw=>h w (List.mem_cons_of_mem _ hw)]
    split
    · have:x ≠ n:=by rintro rfl;exact h v List.mem_cons_self
      simp [this]
    · rfl
theorem bindC_out {kindOf:Str->Option NameKind} {x:Str}:∀ {binds:List (Str × Value)} {m:Str->Option Value},(∀ v,(x,v) ∉ binds)->bindC kindOf binds m x=m x
  | [],_,_=>rfl
  | (n,v) :: r,m,h=>by
    unfold bindC
    rw [bindC_out fun w hw=>h w (List.mem_cons_of_mem _ hw)]
    split
    · rfl
    · have:x ≠ n:=by rintro rfl;exact h v List.mem_cons_self
      simp [this]
theorem bindL_get {kindOf:Str->Option NameKind} {x:Str} {v:Value}:∀ {P:List Str} {vs:List Value} {i:Nat} {m:Str->Option Value},P.Nodup->P[i]?=some x->vs[i]?=some v->kindOf x=some .local ->
    bindL kindOf (P.zip vs) m x=some v
  | [],_,_,_,_,h,_,_=>by simp at h
  | _ :: _,[],_,_,_,_,h,_=>by simp at h
  | p :: P,w :: vs,0,m,nd,h1,h2,hk=>by
    simp at h1 h2;subst h1;subst h2
    show bindL kindOf ((p,w) :: P.zip vs) m p=_
    unfold bindL
    rw [bindL_out fun v hv=>(List.nodup_cons.mp nd).1 (List.of_mem_zip hv).1,if_pos hk]
    simp
  | p :: P,w :: vs,i + 1,m,nd,h1,h2,hk=>by
    show bindL kindOf ((p,w) :: P.zip vs) m x=_
    unfold bindL
    exact bindL_get (i:=i) (List.nodup_cons.mp nd).2 (by simpa using h1) (by simpa using h2) hk
theorem bindC_get {kindOf:Str->Option NameKind} {x:Str} {v:Value}:∀ {P:List Str} {vs:List Value} {i:Nat} {m:Str->Option Value},P.Nodup->P[i]?=some x->vs[i]?=some v->kindOf x ≠ some .local ->
    bindC kindOf (P.zip vs) m x=some v
  | [],_,_,_,_,h,_,_=>by simp at h
  | _ :: _,[],_,_,_,_,h,_=>by simp at h
  | p :: P,w :: vs,0,m,nd,h1,h2,hk=>by
    simp at h1 h2;subst h1;subst h2
    show bindC kindOf ((p,w) :: P.zip vs) m p=_
    unfold bindC
    rw [bindC_out fun v hv=>(List.nodup_cons.mp nd).1 (List.of_mem_zip hv).1,if_neg hk]
    simp
  | p :: P,w :: vs,i + 1,m,nd,h1,h2,hk=>by
    show bindC kindOf ((p,w) :: P.zip vs) m x=_
    unfold bindC
    exact bindC_get (i:=i) (List.nodup_cons.mp nd).2 (by simpa using h1) (by simpa using h2) hk
def start (N:List Str) (vs:List V):St:=vs.map some ++ List.replicate (N.length - vs.length) none
def cxOf (CX:CXT) (P:Program) (w:World) (K:PySem.W.Frag) (mg:Str->Option Value) (base:Heap) (N:List Str) (qual:Str) (scope:Scope) (f:Addr) (cd:Value) (A:Around) (outer:List Env) (s:Shared) (H:Hp) (E:XK):Cx where
  prog:=P
  w:=w
  K:=K
  mg:=mg
  base:=base
  A:=A.deeper (envOfC qual scope s.heap.objs.size f cd)
  N:=N
  s₀:=s
  H₀:=H
  env:=envOfC qual scope s.heap.objs.size f cd
  outer:=outer
  stack:=envOfC qual scope s.heap.objs.size f cd :: outer
  ex:=[]
  calm:=true
  fn:=fun _=>true
  pn:=[]
  xe:=fun e s'=>wpAny (model P w) (A.deeper (envOfC qual scope s.heap.objs.size f cd)) (leaving (envOfC qual scope s.heap.objs.size f cd) e) (fun _ s''=>CX outer H s E e s'') (fun e' s''=>CX outer H s E e' s'') s'
theorem cell_has {sc:Scope} {n:Nat} {x:Str} (h:sc.names.lookup x=some .cell):∃ c,(cellsFrom n sc.names []).lookup x=some c:=by
  have q:=PySem.W.cellsFrom_some sc.names n [] (.inl h)
  exact Option.isSome_iff_exists.mp q
theorem inv_start {CX:CXT} {P:Program} {w:World} {K:PySem.W.Frag} {mg:Str->Option Value} {base:Heap} {N ps:List Str} {qual:Str} {scope:Scope} {f:Addr} {cd:Value} {A:Around} {outer:List Env} {s s1:Shared} {H:Hp} {E:XK} {us:List Value} {vs:List V}
    (S:FnScope N ps scope) (hd:A.handled=none) (e0:Env0 P w K mg base A outer s H) (hl:vs.length=ps.length) (r:Vals vs us)
    (x:InCallC s s.heap.objs.size (bindL (envOfC qual scope s.heap.objs.size f cd).kindOf (ps.zip us) fun _=>none) (cellsFrom (s.heap.objs.size + 1) scope.names []) (bindC (envOfC qual scope s.heap.objs.size f cd).kindOf (ps.zip us) fun _=>none) s1) :
    Inv (cxOf CX P w K mg base N qual scope f cd A outer s H E) [] (start N vs) H s1:=by
  have hpl:ps.length <= N.length:=by have:=congrArg List.length S.pre;rw [List.length_take] at this;omega
  obtain ⟨h1,tk,rfl,hk⟩:=x.done
  have noA:∀ b:Addr,b ∉ (cxOf CX P w K mg base N qual scope f cd A outer s H E).ex:=fun b z=>absurd (show b ∈ ([]:List Addr) from z) (by simp)
  refine ⟨⟨e0.mod,S.kind,rfl,rfl,Nat.le_refl _,fun y z c h1 h2=>?_,fun y hy=>?_,fun y c _ h=>?_,fun _=>hd,Around.frames_deeper e0.frames,.inr ⟨rfl,rfl⟩,fun b z=>absurd z (noA b),e0.bs,e0.bsz,fun b _ _=>noA b,fun b z=>absurd z (noA b),e0.funs,e0.frf⟩,
    rfl,e0.bare,Un.kept hk,⟨_,x.toInCall.ns,fun i y v h1 h2 h3=>?_⟩,fun y c h=>⟨_,x.cell y c h⟩,e0.hok.fresh (Nat.le_refl _),fun y c h=>?_,fun p hp=>absurd (show p ∈ ([]:List (Addr × Obj)) from hp) (by simp),e0.hok.kept hk,?_⟩
  · exact name_of_addr x.apart (PySem.mem_of_lookup h1) (PySem.mem_of_lookup h2)
  · have hy:scope.names.lookup y=some .cell ∨ scope.names.lookup y=some .free:=hy
    rcases hy with hy | hy
    · exact cell_has hy
    · exact absurd rfl (S.nofree _ (PySem.mem_of_lookup hy))
  · exact Nat.le_of_lt (x.above y c (PySem.mem_of_lookup h))
  · have hi:i < vs.length:=by
      unfold start at h2
      by_cases hi:i < vs.length
      · exact hi
      · rw [List.getElem?_append_right (by simpa using hi)] at h2
        rw [List.getElem?_replicate] at h2
        split at h2 <;> cases h2
    have ha:vs[i]?=some v:=by
      unfold start at h2
      rw [List.getElem?_append_left (by simpa using hi),List.getElem?_map] at h2
      cases e:vs[i]? with
      | none=>rw [e] at h2;cases h2
      | some a=>rw [e] at h2;cases h2;rfl
    obtain ⟨u,hu,rv⟩:=r.get ha
    have hp:ps[i]?=some y:=by
      rw [<- S.pre,List.getElem?_take_of_lt (by omega)];exact h1
    have ndP:ps.Nodup:=by rw [<- S.pre];exact S.nd.sublist (List.take_sublist _ _)
    refine ⟨u,rv,?_⟩
    rcases S.par y (List.mem_of_getElem? hp) with k | k
    · exact .inl ⟨k,bindL_get ndP hp hu k⟩
    · obtain ⟨c,e⟩:=cell_has (n:=s.heap.objs.size + 1) k
      refine .inr ⟨.inl k,c,e,?_⟩
      have q:=x.cell y c e
      rw [bindC_get ndP hp hu (by show scope.names.lookup y ≠ _;rw [k];decide)] at q
      exact q
  · exact e0.hok.fresh (Nat.le_of_lt (x.above y c (PySem.mem_of_lookup h)))
  · unfold start
    show _=N.length
    rw [List.length_append,List.length_map,List.length_replicate]
    omega
theorem fn_of {CX:CXT} {P:Program} {w:World} {K:PySem.W.Frag} {mg:Str->Option Value} {base:Heap} {k:Nat} {f:Addr} {name qual:Str} {params:Arguments} {body:List Stmt} {scope:Scope} {dV kV doc pm cdv ct oc:Value} {an od:Option Addr}
    {osl:Array (Option Value)} {N ps:List Str} {sp:Sp} (lk:K.lookup f=some ⟨oc,od,.func (PySem.W.fnOf name qual params body scope dV kV doc pm an cdv ct),osl⟩) (hcd:PySem.W.codeIn K cdv qual=true) (S:FnScope N ps scope)
    (len:∀ vs H Q E,sp vs H Q E->vs.length=ps.length)
    (hbody:∀ (A:Around) (outer:List Env) (s:Shared) (H:Hp) (vs:List V) (Q:VK) (E:XK),Room k (A.deeper (envOfC qual scope s.heap.objs.size f cdv))->sp vs H Q E ->
      ∃ t,PSs (cxOf CX P w K mg base N qual scope f cdv A outer s H E) body t/\t { nx:=fun _ H'=>Q .non H',rt:=Q } (start N vs) H) :
    FnOk P w K mg base CX (k + 1) f (PySem.W.fnOf name qual params body scope dV kV doc pm an cdv ct) ps sp:=by
  refine ⟨len,fun A outer s H args us vs Q E hr e0 hb r hsp=>?_⟩
  have hl:=len _ _ _ _ hsp
  have KX:K.In s.heap:=e0.mod.kin.keeps fun b o e=>(e0.bs b o e).1
  have lim:s.heap.NoLimit:=e0.mod.nolimit.keeps fun b o e=>(e0.bs b o e).1
  have hkind:∀ y ∈ ps.zip us,scope.names.lookup y.1=some .local ∨ (scope.names.lookup y.1=some .cell/\((cellsFrom (s.heap.objs.size + 1) scope.names []).lookup y.1).isSome=true):=fun ⟨n,v⟩ hy=>by
    rcases S.par n (List.of_mem_zip hy).1 with q | q
    · exact .inl q
    · exact .inr ⟨q,PySem.W.cellsFrom_some _ _ _ (.inl q)⟩
  refine codeAny_call_function hr.depth (KX _ _ lk) rfl S.co S.gen rfl (PySem.W.codeRec_of KX hcd) (hb _ _ _ _ ?_)
  refine wpAny_newFunctionEnv_cells S.kind hkind fun env he s1 x=>?_
  subst he
  refine ⟨lim.keeps x.toInCall.keep,codeAny_func ?_⟩
  obtain ⟨t,ht,hq⟩:=hbody A outer s H vs Q E (hr.deeper _) hsp
  have I:Inv (cxOf CX P w K mg base N qual scope f cdv A outer s H E) [] (start N vs) H s1:=inv_start S hr.hd e0 hl r x
  refine wpAny_mono (ht [] s1 (start N vs) H _ I hq) (fun fl s' hs=>?_) fun e s' hs=>hs
  have fin:∀ {σ':St} {H':Hp} {v:V} {u:Value},Inv (cxOf CX P w K mg base N qual scope f cdv A outer s H E) [] σ' H' s'->RelV v u->Q v H'->CE outer P w H s Q u s' :=
    fun {σ' H' v u} J rv q=>⟨v,H',J.os,J.bare,J.base,J.hok,rv,q⟩
  cases fl with
  | ret u =>
    obtain ⟨v,σ',H',J,rv,q⟩:=hs
    exact fin J rv q
  | next =>
    obtain ⟨σ',H',J,q⟩:=hs
    exact fin (v:=V.non) (u:=Value.none) J rfl q
  | brk =>
    obtain ⟨_,_,_,q⟩:=hs
    exact False.elim q
  | cont =>
    obtain ⟨_,_,_,q⟩:=hs
    exact False.elim q
end L2
namespace L2
open PySem PySem.Spec PyProof.Rows
section
variable {X:Cx} {x:Str} {p pos:Pos} {e:Expr} {es:List Expr} {t:TA} {id T:String} {r:List V->Hp->VK->Prop}
def tCB (r:List V->Hp->VK->Prop) (t:TA):TE:=fun σ H Q=>t σ H fun vs H1=>r vs H1 Q
theorem pe_callB (hc:CallR X (.builtin id) r) (hg:Gl X x) (hm:X.mg x=none) (hv:bootBuiltins x=some (.builtin id)) (ha:PA X (e :: es) t) (hn:x ≠ "__name__":=by decide) (hdb:(x == ("__debug__":Str))=false:=by decide)
    (he:starEach (e :: es) X.env=(false,eval e X.env) :: starEach es X.env:=by rfl) (hpl:(backTo pos (starEach es X.env)).any (·.1)=false:=by rfl):PE X (.Call (.Name x p) (e :: es) [] pos) (tCB r t):=by
  intro pins s σ H Q I h
  refine wpAny_Call_Name_kw (ld_blt I hg hm hv ?_ hn hdb)
  exact PyProof.Rows.callWith_builtin1 (thn (ha pos pins s σ H _ I h) fun us s1 ⟨vs,H1,I1,r1,q1⟩=>hc pins s1 σ H1 vs us Q I1 r1 q1) he hpl
theorem pe_callTy (hc:CallR X (.type T) r) (hg:Gl X x) (hm:X.mg x=none) (hv:bootBuiltins x=some (.type T)) (ha:PA X (e :: es) t) (hn:x ≠ "__name__":=by decide) (hdb:(x == ("__debug__":Str))=false:=by decide)
    (he:starEach (e :: es) X.env=(false,eval e X.env) :: starEach es X.env:=by rfl) (hpl:(backTo pos (starEach es X.env)).any (·.1)=false:=by rfl):PE X (.Call (.Name x p) (e :: es) [] pos) (tCB r t):=by
  intro pins s σ H Q I h
  refine wpAny_Call_Name_kw (ld_blt I hg hm hv ?_ hn hdb)
  exact PyProof.Rows.callWith_type1 (thn (ha pos pins s σ H _ I h) fun us s1 ⟨vs,H1,I1,r1,q1⟩=>hc pins s1 σ H1 vs us Q I1 r1 q1) he hpl
end
end L2
namespace HT
open PySem PyProof.Rows
def lexLt:List Int->List Int->Bool
  | [],[]=>false
  | [],_ :: _=>true
  | _ :: _,[]=>false
  | x :: xs,y :: ys=>if x=y then lexLt xs ys else decide (x < y)
theorem lexLt_cons (x y:Int) (xs ys:List Int):lexLt (x :: xs) (y :: ys)=if x=y then lexLt xs ys else decide (x < y):=rfl
theorem lexLt_nil_nil:lexLt [] []=false:=rfl
theorem lexLt_nil_cons (y:Int) (ys:List Int):lexLt [] (y :: ys)=true:=rfl
theorem lexLt_cons_nil (x:Int) (xs:List Int):lexLt (x :: xs) []=false:=rfl
theorem eqAt_int (A:Around) (s:Shared) (a:Int) (t:Tok) (c:Int) (u:Tok):∃ e,SeqAt.EqAt A s (.int a t) (.int c u) e/\(e=true ↔ a=c) :=
  ⟨(a == c),SeqAt.EqAt.int_int a t c u,by simp⟩
theorem rcLt_int (A:Around) (s:Shared) (a:Int) (t:Tok) (c:Int) (u:Tok) (prog:Program) (w:World) (E:Value->Shared->Prop) (Q:Value->Shared->Prop) (h:Q (.bool (decide (a < c))) s) :
    wpAny (model prog w) A (richCompare .Lt (.int a t) (.int c u)) Q E s :=
  (PyProof.Rows.lt_int h:wpAny (model prog w) A (compareOp .Lt (.int a t) (.int c u)) Q E s)
section
open PySem.SeqAt
open PySem.AutoSeq1 (wpAny_loadPart')
open PySem.MeetsSeq PySem.MeetsSeq2 PySem.MeetsSeq3
theorem tuple_lt_ints (l b:Addr) (items items2:Array Value) (n n2:Nat) (dd dd2:Option Addr) (sl sl2:Array (Option Value)) (ns ms:List Int) (hi:IntsAre items.toList ns) (hj:IntsAre items2.toList ms) :
    Meets (Builtin.«tuple.__lt__» ⟨[.ref l,.ref b],[]⟩)
      (fun _ R s=>s.heap.get? l=some { cls:=.type "tuple",dict:=dd,data:=.seq items n,slots:=sl }/\s.heap.get? b=some { cls:=.type "tuple",dict:=dd2,data:=.seq items2 n2,slots:=sl2 } /\
        R (.ok (.ret (.bool (lexLt ns ms)))) s) :=
  .of_wp fun prog w A R s h=>by
    obtain ⟨hp,g,d,tk,os⟩:=s;obtain ⟨hl,hb,h⟩:=h
    have f2:=AutoSeq1.sub_tuple_tuple
    have z1:items.size=ns.length:=by rw [<- hi.length];simp
    have z2:items2.size=ms.length:=by rw [<- hj.length];simp
    wp_walk using wpAny_loadPart' hl,wpAny_loadPart' hb,wpAny_forIn_list _ (fun rest b s'=>b.1=none/\s'=⟨hp,g,d,tk,os⟩/\∃ (vs ws:List Value) (ns' ms':List Int),rest=vs.zip ws /\
      IntsAre vs ns'/\IntsAre ws ms'/\ns'.length + items2.size=ms'.length + items.size/\R (.ok (.ret (.bool (lexLt ns' ms')))) ⟨hp,g,d,tk,os⟩) _
    case turn =>
      rintro ⟨y,x⟩ rest b s' ⟨hb',rfl,vs,ws,ns',ms',hz,hvi,hwi,hlen,hR⟩
      cases hvi with
      | nil=>rw [List.zip_nil_left] at hz;cases hz
      | cons a t hvi' =>
        cases hwi with
        | nil=>rw [List.zip_nil_right] at hz;cases hz
        | cons c u hwi' =>
          rw [List.zip_cons_cons] at hz
          injection hz with hyx hrest
          injection hyx with hy hx
          subst hy hx
          rw [lexLt_cons] at hR
          simp only [List.length_cons] at hlen
          obtain ⟨e,he,hiff⟩:=eqAt_int A.in1 ⟨hp,g,d,tk,os⟩ a t c u
          refine wpAny_bind (he prog w _ _ ?_)
          cases e with
          | true =>
            rw [if_pos (hiff.mp rfl)] at hR
            wp_walk
            exact ⟨rfl,rfl,_,_,_,_,hrest,hvi',hwi',by omega,hR⟩
          | false =>
            rw [if_neg (fun q=>absurd (hiff.mpr q) Bool.false_ne_true)] at hR
            have hri:=rcLt_int A.in1 ⟨hp,g,d,tk,os⟩ a t c u prog w
            wp_walk using hri
            exact ⟨_,rfl,by simpa using hR⟩
    case fin =>
      rintro ⟨b1,b2⟩ s' ⟨hb',rfl,vs,ws,ns',ms',hz,hvi,hwi,hlen,hR⟩
      simp only at hb'
      subst hb'
      have hv:lexLt ns' ms'=decide (items.size < items2.size):=by
        cases hvi with
        | nil =>
          cases hwi with
          | nil =>
            simp only [List.length_nil] at hlen
            rw [lexLt_nil_nil]
            exact (decide_eq_false (by omega)).symm
          | cons c u hw =>
            simp only [List.length_nil,List.length_cons] at hlen
            rw [lexLt_nil_cons]
            exact (decide_eq_true (by omega)).symm
        | cons a t hv =>
          cases hwi with
          | nil =>
            simp only [List.length_nil,List.length_cons] at hlen
            rw [lexLt_cons_nil]
            exact (decide_eq_false (by omega)).symm
          | cons c u hw =>
            rw [List.zip_cons_cons] at hz
            cases hz
      rw [hv] at hR
      wp_walk
      exact ⟨_,rfl,by simpa [Builtin.Tuple.tupleCompareSizes] using hR⟩
    case h =>
      exact ⟨rfl,rfl,items.toList,items2.toList,ns,ms,rfl,hi,hj,by omega,h⟩
end
section
variable {prog:Program} {w:World} {A:Around} {E:Value->Shared->Prop} {s:Shared}
theorem lt_tupInts {l b:Addr} {items items2:Array Value} {ns ms:List Int} {Q:Value->Shared->Prop} (hl:IsTup s.heap l items) (hb:IsTup s.heap b items2) (hi:IntsAre items.toList ns) (hj:IntsAre items2.toList ms)
    (hu:A.units < cLine) (h:Q (.bool (lexLt ns ms)) s):wpAny (model prog w) A (compareOp .Lt (.ref l) (.ref b)) Q E s:=by
  obtain ⟨⟨cls,dd,data,sl⟩,ho,hc,n,hd⟩:=id hl
  obtain ⟨⟨cls2,dd2,data2,sl2⟩,ho2,hc2,n2,hd2⟩:=id hb
  simp only at hc hd hc2 hd2
  subst hc hd hc2 hd2
  exact richCompare_meets_room (op:=.Lt) ⟨_,ho,rfl⟩ ⟨_,ho2,rfl⟩ PySem.F.slot_tuple_lt PySem.F.entry_tuple_lt (PySem.F.args_tuple_lt_2 _ _) (tuple_lt_ints l b items items2 n n2 dd dd2 sl sl2 ns ms hi hj)
    ⟨ho,ho2,show Value.bool (lexLt ns ms) ≠ Value.notImplemented/\Q (.bool (lexLt ns ms)) s from ⟨(fun x=>nomatch x),h⟩⟩ hu
theorem cat_tup {t b:Addr} {vs ws:List Value} {Q:Value->Shared->Prop} (ht:IsTup s.heap t vs.toArray) (hb:IsTup s.heap b ws.toArray) (hv:vs ≠ [])
    (h1:ws=[]->Q (.ref t) s) (h2:ws ≠ []->Q (.ref s.heap.objs.size) { s with heap:=s.heap.push { cls:=.type "tuple",data:=.seq (vs ++ ws).toArray } })
    (hsz:vs.length + ws.length <= sizeLine):wpAny (model prog w) A (binaryOp .Add (.ref t) (.ref b)) Q E s:=by
  obtain ⟨⟨cls,dd,data,sl⟩,ho,hc,n,hd⟩:=id ht
  obtain ⟨⟨cls2,dd2,data2,sl2⟩,ho2,hc2,n2,hd2⟩:=id hb
  simp only at hc hd hc2 hd2
  subst hc hd hc2 hd2
  have e:vs.toArray ++ ws.toArray=(vs ++ ws).toArray:=by simp
  by_cases hw:ws=[]
  · exact concat_meets ⟨_,ho,rfl⟩ ⟨_,ho2,rfl⟩ noFill_tuple_add seq_tuple_add PySem.F.slot_tuple_add PySem.F.entry_tuple_add (PySem.F.args_tuple_add_2 _ _)
      (tuple_addW1 t b vs.toArray ws.toArray n n2 dd dd2 sl sl2 (by simpa using hv) (by simp [hw])) ⟨ho,ho2,h1 hw⟩
  · refine concat_meets ⟨_,ho,rfl⟩ ⟨_,ho2,rfl⟩ noFill_tuple_add seq_tuple_add PySem.F.slot_tuple_add PySem.F.entry_tuple_add (PySem.F.args_tuple_add_2 _ _)
      (tuple_addW2 t b vs.toArray ws.toArray n n2 dd dd2 sl sl2 (by simpa using hv) (by simpa using hw) (by rw [List.size_toArray,List.size_toArray];exact hsz)) ⟨ho,ho2,?_⟩
    rw [e]
    exact h2 hw
def sIx (n d:Nat):Option Int->Nat
  | none=>d
  | some v=>if v < 0 then (v + (n:Int)).toNat else min v.toNat n
theorem sIx_none (n d:Nat):sIx n d none=d:=rfl
theorem sIx_nat (n d k:Nat):sIx n d (some (k:Int))=min k n:=by
  show (if (k:Int) < 0 then ((k:Int) + (n:Int)).toNat else min (k:Int).toNat n)=min k n
  rw [if_neg (by omega),Int.toNat_natCast]
theorem sIx_le (n d:Nat) (hd:d <= n) (o:Option Int):sIx n d o <= n:=by
  cases o with
  | none=>exact hd
  | some v =>
    show (if v < 0 then (v + (n:Int)).toNat else min v.toNat n) <= n
    by_cases hv:v < 0
    · rw [if_pos hv];omega
    · rw [if_neg hv];exact Nat.min_le_right _ _
theorem clip_eq (v:Int) (n d:Nat):(if v < 0 then max (v + (n:Int)) 0 else min v (n:Int))=((sIx n d (some v):Nat):Int):=by
  show (if v < 0 then max (v + (n:Int)) 0 else min v (n:Int))=(((if v < 0 then (v + (n:Int)).toNat else min v.toNat n):Nat):Int)
  by_cases hv:v < 0
  · simp only [if_pos hv];omega
  · simp only [if_neg hv];omega
theorem adjust_gen (lo hi:Option Int) (n:Nat):Builtin.Slice.sliceAdjust lo hi 1 (n:Int)=(((sIx n 0 lo:Nat):Int),((sIx n n hi:Nat):Int)):=by
  have h1:¬ ((1:Int) < 0):=by omega
  unfold Builtin.Slice.sliceAdjust
  simp only [h1,if_false]
  refine Prod.ext ?_ ?_
  · cases lo with
    | none=>rfl
    | some v=>exact clip_eq v n 0
  · cases hi with
    | none=>rfl
    | some v=>exact clip_eq v n n
theorem places_gen (i j:Nat):Builtin.Slice.slicePlaces (i:Int) (j:Int) 1=j - i:=by
  unfold Builtin.Slice.slicePlaces
  have h1:(1:Int) > 0:=by omega
  simp only [h1,if_true,Int.ediv_one]
  split <;> omega
theorem slicePart_ {v:Value} {o:Option Int} {Q:Option Int->Shared->Prop} (p:IsPart v o) (h:Q o s):wpAny (model prog w) A (Builtin.Slice.slicePartIndex v) Q E s:=by
  cases p with
  | none=>exact slicePart_none h
  | int i t=>exact slicePart_int h
theorem sliceApplied_gen {sl:Addr} {vl vu:Value} {lo hi:Option Int} {n:Nat} {Q:Int × Int × Nat->Shared->Prop} (hs:s.heap.IsSliceOf sl vl vu .none) (pl:IsPart vl lo) (pu:IsPart vu hi)
    (h:Q (((sIx n 0 lo:Nat):Int),1,sIx n n hi - sIx n 0 lo) s):wpAny (model prog w) A (Builtin.Slice.sliceApplied (.ref sl) (pure (n:Int))) Q E s:=by
  obtain ⟨os,hos,hcs,hds⟩:=id hs
  unfold Builtin.Slice.sliceApplied Builtin.Slice.sliceFields
  refine wpAny_bind (wpAny_bind (wpAny_field hos hds (x:=vl) rfl (wpAny_bind (wpAny_field hos hds (x:=vu) rfl (wpAny_bind (wpAny_field hos hds (x:=.none) rfl (wpAny_pure ?_)))))))
  refine wpAny_bind (slicePart_none ?_)
  show wpAny _ _ (if ((1:Int) == 0)=true then _ else _) _ _ s
  rw [if_neg (by decide)]
  refine wpAny_bind (slicePart_ pl (wpAny_bind (slicePart_ pu (wpAny_bind (wpAny_pure ?_)))))
  show wpAny _ _ (match Builtin.Slice.sliceAdjust lo hi 1 (n:Int) with | (lo,hi)=>pure (lo,(1:Int),Builtin.Slice.slicePlaces lo hi 1)) _ _ s
  rw [adjust_gen lo hi n]
  show wpAny _ _ (pure (((sIx n 0 lo:Nat):Int),(1:Int),Builtin.Slice.slicePlaces ((sIx n 0 lo:Nat):Int) ((sIx n n hi:Nat):Int) 1)) _ _ s
  rw [places_gen]
  exact wpAny_pure h
theorem pick_gen (xs:Array Value) (i k:Nat):((List.range k).filterMap fun (m:Nat)=>xs[((i:Int) + (m:Int) * 1).toNat]?).toArray=((xs.toList.drop i).take k).toArray:=by
  have e:(fun (m:Nat)=>xs[((i:Int) + (m:Int) * 1).toNat]?)=fun m=>xs[i + m]?:=by
    funext m
    have:((i:Int) + (m:Int) * 1).toNat=i + m:=by omega
    rw [this]
  rw [e]
  have:=pick_run xs i k
  rw [List.filterMap_map] at this
  have e2:((fun x=>xs[x]?) ∘ fun x=>i + x)=fun m=>xs[i + m]?:=rfl
  rw [e2] at this
  rw [this]
theorem getItem_tuple_cut {t sl:Addr} {items:Array Value} {vl vu:Value} {lo hi:Option Int} {Q:Value->Shared->Prop} (ht:IsTup s.heap t items) (hs:s.heap.IsSliceOf sl vl vu .none) (pl:IsPart vl lo) (pu:IsPart vu hi)
    (hw:¬ (sIx items.size 0 lo=0/\sIx items.size items.size hi=items.size))
    (h:Q (.ref s.heap.objs.size) { s with heap:=s.heap.push { cls:=.type "tuple",data:=.seq ((items.toList.drop (sIx items.size 0 lo)).take (sIx items.size items.size hi - sIx items.size 0 lo)).toArray } })
    (hsz:items.size <= sizeLine):wpAny (model prog w) A (getItem (.ref t) (.ref sl)) Q E s:=by
  have htake:sizeOk (.seq ((items.toList.drop (sIx items.size 0 lo)).take (sIx items.size items.size hi - sIx items.size 0 lo)).toArray):=by
    show ((items.toList.drop (sIx items.size 0 lo)).take (sIx items.size items.size hi - sIx items.size 0 lo)).toArray.size <= sizeLine
    rw [List.size_toArray,List.length_take,List.length_drop,Array.length_toList]
    omega
  have hj:sIx items.size items.size hi <= items.size:=sIx_le _ _ (Nat.le_refl _) hi
  obtain ⟨os,hos,hcs,hds⟩:=id hs
  have hTs:s.TypeIs (.ref sl) "slice":=⟨os,hos,hcs⟩
  unfold getItem
  try with_reducible refine wpAny_holding ?_
  first | refine wpAny_bind (wpAny_pure ?_) | skip
  refine wpAny_bind (wpAny_sequenceKey ht.typeIs (by decide) ?_)
  refine wpAny_bind (wpAny_callSpecial?_slot (name:=Str.ofString "__getitem__") ht.typeIs PyProof.Rows.slot_tuple_getitem
    (wpAny_call_entry PyProof.Rows.slot_tuple_getitem ht.typeIs entry_tuple_getitem ?_ (args_tuple_getitem _ _)))
  show wpAny _ _ (Builtin.Tuple.tupleItemsOf (.ref t) >>= _) _ _ s
  refine wpAny_bind (tupleItemsOf_ ht ?_)
  refine wpAny_bind (wpAny_typeOf hTs ?_)
  rw [if_pos (by decide)]
  refine wpAny_bind (sliceApplied_gen hs pl pu ?_)
  have hno:¬ ((((sIx items.size 0 lo:Nat):Int) == 0 && (1:Int) == 1 && (sIx items.size items.size hi - sIx items.size 0 lo) == items.size)=true):=by
    intro q
    rw [Bool.and_eq_true,Bool.and_eq_true] at q
    have q1:((sIx items.size 0 lo:Nat):Int)=0:=eq_of_beq q.1.1
    have q2:sIx items.size items.size hi - sIx items.size 0 lo=items.size:=eq_of_beq q.2
    exact hw ⟨by omega,by omega⟩
  show wpAny _ _ (if (((sIx items.size 0 lo:Nat):Int) == 0 && (1:Int) == 1 && (sIx items.size items.size hi - sIx items.size 0 lo) == items.size)=true then _ else _) _ _ s
  rw [if_neg hno,pick_gen]
  first
    | exact wpAny_bind (m:=Builtin.Tuple.tupleExact _) (wpAny_newObj_type (wpAny_pure ⟨_,rfl,wpAny_pure h⟩) htake)
    | exact wpAny_bind (m:=Builtin.Tuple.tupleExact _) (wpAny_newObj_type (wpAny_bind (wpAny_pure (wpAny_pure ⟨_,rfl,wpAny_pure h⟩))) htake)
    | exact wpAny_bind (wpAny_bind (m:=Builtin.Tuple.tupleExact _) (wpAny_newObj_type (wpAny_pure (wpAny_pure ⟨_,rfl,wpAny_pure h⟩)) htake))
    | exact wpAny_bind (wpAny_bind (m:=Builtin.Tuple.tupleExact _) (wpAny_newObj_type (wpAny_pure ⟨_,rfl,wpAny_pure h⟩) htake))
end
end HT
namespace L2
open PySem PySem.Spec PyProof.Rows
abbrev TO:=St->Hp->(Option Int->Hp->Prop)->Prop
def PO (X:Cx) (e:Option Expr) (t:TO):Prop :=
  ∀ (pins:List (Addr × Obj)) (s:Shared) (σ:St) (H:Hp) (Q:Option Int->Hp->Prop),Inv X pins σ H s->t σ H Q ->
    wpAny (model X.prog X.w) X.A (evalPart e X.env) (fun u s'=>∃ o H',Inv X pins σ H' s'/\IsPart u o/\Q o H') X.xe s
def tNoPart:TO:=fun _ H Q=>Q none H
def tPart (t:TE):TO:=fun σ H Q=>t σ H fun x H1=>∃ i,x=.int i/\Q (some i) H1
theorem intsAre_of {ns:List Int}:∀ {us:List Value},Vals (ns.map V.int) us->IntsAre us ns:=by
  induction ns with
  | nil=>intro us r;rw [List.map_nil] at r;cases r;exact .nil
  | cons n ns ih =>
    intro us r
    rw [List.map_cons] at r
    cases r with
    | cons r1 r2 =>
      obtain ⟨t,e⟩:=r1
      subst e
      exact .cons n t (ih r2)
section
variable {X:Cx} {e:Expr} {te:TE} {lo hi:Option Expr} {tl th:TO} {pos p2:Pos}
theorem po_none:PO X none tNoPart:=by
  intro pins s σ H Q I h
  rw [evalPart_none]
  exact wpAny_pure ⟨none,H,I,.none,h⟩
theorem po_some (h:PE X e te):PO X (some e) (tPart te):=by
  intro pins s σ H Q I hw
  rw [evalPart_some]
  refine thn (h pins s σ H _ I hw) fun u s1 ⟨x,H1,I1,r1,q1⟩=>?_
  obtain ⟨i,rfl,q⟩:=q1
  obtain ⟨t,rfl⟩:=r1
  exact ⟨some i,H1,I1,.int i t,q⟩
def SlR (X:Cx) (r:V->Option Int->Option Int->Hp->VK->Prop):Prop :=
  ∀ (pins:List (Addr × Obj)) (s:Shared) (σ:St) (H:Hp) (x:V) (v vl vu:Value) (lo hi:Option Int) (sl:Addr) (Q:VK),Inv X pins σ H s->RelV x v->s.heap.IsSliceOf sl vl vu .none->IsPart vl lo->IsPart vu hi->r x lo hi H Q ->
    ∃ T id,typeLookup (.type T) "__getitem__"=pure (some (.builtin id))/\s.TypeIs v T/\wpAny (model X.prog X.w) X.A (getItem v (.ref sl)) (EP X pins σ Q) X.xe s
def tSl (r:V->Option Int->Option Int->Hp->VK->Prop) (te:TE) (tl th:TO):TE:=fun σ H Q=>te σ H fun x H1=>tl σ H1 fun l H2=>th σ H2 fun u H3=>r x l u H3 Q
theorem pe_slice {r:V->Option Int->Option Int->Hp->VK->Prop} (hr:SlR X r) (he:PE X e te) (hl:PO X lo tl) (hu:PO X hi th):PE X (.Subscript e (.Slice lo hi none p2) pos) (tSl r te tl th):=by
  intro pins s σ H Q I h
  refine Subscript_ (thn (he pins s σ H _ I h) fun v s1 ⟨x,H1,I1,r1,q1⟩=>?_)
  refine wpAny_Slice (thn (hl pins s1 σ H1 _ I1 q1) fun vl s2 ⟨l,H2,I2,pl,q2⟩=>thn (hu pins s2 σ H2 _ I2 q2) fun vu s3 ⟨u,H3,I3,pu,q3⟩=>?_)
  rw [evalPart_none]
  refine wpAny_pure ?_
  have I4:Inv X pins σ H3 { s3 with heap:=s3.heap.push { cls:=.type "slice",data:=.fields #[vl,vu,.none] } }:=I3.kept (t':=s3.toks) fun b ob q=>Heap.get?_push_of_some _ q
  obtain ⟨T,id,hT,ht,hg⟩:=hr pins { s3 with heap:=s3.heap.push { cls:=.type "slice",data:=.fields #[vl,vu,.none] } } σ H3 x v vl vu l u s3.heap.objs.size Q I4 r1 (Heap.IsSliceOf.new ..) pl pu q3
  show wpAny (model X.prog X.w) X.A (subscriptTail e (.Slice lo hi none p2) v (.ref s3.heap.objs.size)) (EP X pins σ Q) X.xe { s3 with heap:=s3.heap.push { cls:=.type "slice",data:=.fields #[vl,vu,.none] } }
  exact tail_any (ops:=[.ref s3.heap.objs.size,v]) ht hT hg (by with_unfolding_all rfl)
def cutV (xs:List V) (lo hi:Option Int):List V:=(xs.drop (HT.sIx xs.length 0 lo)).take (HT.sIx xs.length xs.length hi - HT.sIx xs.length 0 lo)
theorem cutV_length (xs:List V) (lo hi:Option Int):(cutV xs lo hi).length <= xs.length:=by
  unfold cutV
  rw [List.length_take,List.length_drop]
  omega
def rSlT (K:PySem.W.Frag):V->Option Int->Option Int->Hp->VK->Prop:=fun x lo hi H Q=>∃ a xs,x=.ref a/\SqT K H a xs /\
  ¬ (HT.sIx xs.length 0 lo=0/\HT.sIx xs.length xs.length hi=xs.length)/\∀ p,H p=none->Q (.ref p) (upd H p (.tup (cutV xs lo hi)))
theorem sl_tup:SlR X (rSlT X.K):=by
  intro pins s σ H x v vl vu lo hi sl Q I rx hs pl pu h
  obtain ⟨a,xs,rfl,hx,hw,q⟩:=h
  cases rx
  obtain ⟨its,r,ht,hz⟩:=I.tuple hx
  have hlen:its.toArray.size=xs.length:=by rw [List.size_toArray];exact r.length.symm
  refine ⟨"tuple",_,PyProof.Rows.slot_tuple_getitem.lookup,ht.typeIs,?_⟩
  refine HT.getItem_tuple_cut ht hs pl pu (by rw [hlen];exact hw) ?_ (by rw [hlen];exact hz)
  rw [hlen]
  refine ⟨.ref s.heap.objs.size,_,I.laid (t':=s.toks) (o:=.tup (cutV xs lo hi)) (fun b ob q=>Heap.get?_push_of_some _ q) (Nat.le_refl _) ?_,rfl,q _ (I.hok.fresh (Nat.le_refl _))⟩
  exact ⟨Nat.le_trans (cutV_length xs lo hi) hz,_,(r.drop (HT.sIx xs.length 0 lo)).take (HT.sIx xs.length xs.length hi - HT.sIx xs.length 0 lo),IsTup.new _ _⟩
def rLtT (K:PySem.W.Frag):R2:=fun x y H Q=>∃ a b ns ms,x=.ref a/\y=.ref b/\SqT K H a (ns.map V.int)/\SqT K H b (ms.map V.int)/\Q (.bl (HT.lexLt ns ms)) H
theorem op_ltT (hu:X.A.units < cLine):OpR X (compareOp .Lt) (rLtT X.K):=by
  intro pins s σ H x y v u Q I rx ry h
  obtain ⟨a,b,ns,ms,rfl,rfl,ha,hb,q⟩:=h
  cases rx
  cases ry
  obtain ⟨its,r1,p1,_⟩:=I.tuple ha
  obtain ⟨its2,r2,p2,_⟩:=I.tuple hb
  have i1:IntsAre its.toArray.toList ns:=intsAre_of r1
  have i2:IntsAre its2.toArray.toList ms:=intsAre_of r2
  exact HT.lt_tupInts p1 p2 i1 i2 hu ⟨.bl (HT.lexLt ns ms),H,I,rfl,q⟩
def rCatT (K:PySem.W.Frag):R2:=fun x y H Q=>∃ a b xs ys,x=.ref a/\y=.ref b/\SqT K H a xs/\SqT K H b ys/\xs ≠ []/\xs.length + ys.length <= sizeLine /\
  (ys=[]->Q (.ref a) H)/\(ys ≠ []->∀ p,H p=none->Q (.ref p) (upd H p (.tup (xs ++ ys))))
theorem Vals.nil_iff {xs:List V} {us:List Value} (r:Vals xs us):us=[] ↔ xs=[]:=by
  cases r with
  | nil=>simp
  | cons _ _=>simp
theorem op_catT:OpR X (binaryOp .Add) (rCatT X.K):=by
  intro pins s σ H x y v u Q I rx ry h
  obtain ⟨a,b,xs,ys,rfl,rfl,ha,hb,hx,hz,q1,q2⟩:=h
  cases rx
  cases ry
  obtain ⟨its,r1,p1,_⟩:=I.tuple ha
  obtain ⟨its2,r2,p2,_⟩:=I.tuple hb
  refine HT.cat_tup p1 p2 (fun z=>hx (r1.nil_iff.mp z)) (fun z=>⟨.ref a,H,I,rfl,q1 (r2.nil_iff.mp z)⟩) (fun z=>?_) (by rw [<- r1.length,<- r2.length];exact hz)
  refine ⟨.ref s.heap.objs.size,_,I.laid (t':=s.toks) (o:=.tup (xs ++ ys)) (fun b ob q=>Heap.get?_push_of_some _ q) (Nat.le_refl _) ?_,rfl,q2 (fun w=>z (r2.nil_iff.mpr w)) _ (I.hok.fresh (Nat.le_refl _))⟩
  exact ⟨by rw [List.length_append];exact hz,_,r1.append r2,IsTup.new _ _⟩
end
end L2
namespace L2
open PySem PySem.Spec PyProof.Rows
def ixN (n:Nat) (i:Int):Option Nat:=if 0 <= i then (if i < n then some i.toNat else none) else if -(n:Int) <= i then some (i + n).toNat else none
def atI {α:Type} (xs:List α) (i:Int):Option α:=(ixN xs.length i).bind fun j=>xs[j]?
theorem ixN_seq {n:Nat} {i:Int} {j:Nat} (h:ixN n i=some j):seqIndex? i n=some j/\j < n/\-(n:Int) <= i/\i < n:=by
  unfold ixN at h
  by_cases h0:0 <= i
  · rw [if_pos h0] at h
    by_cases h1:i < n
    · rw [if_pos h1] at h
      have e:i.toNat=j:=Option.some.inj h
      exact ⟨by rw [seqIndex_of h0 h1,e],by omega,by omega,h1⟩
    · rw [if_neg h1] at h;cases h
  · rw [if_neg h0] at h
    by_cases h1:-(n:Int) <= i
    · rw [if_pos h1] at h
      have e:(i + n).toNat=j:=Option.some.inj h
      exact ⟨by rw [seqIndex_neg (by omega) h1,e],by omega,h1,by omega⟩
    · rw [if_neg h1] at h;cases h
theorem atI_get {α:Type} {xs:List α} {i:Int} {v:α} (h:atI xs i=some v):∃ j,seqIndex? i xs.length=some j/\xs[j]?=some v/\j < xs.length/\-(xs.length:Int) <= i/\i < xs.length:=by
  unfold atI at h
  cases e:ixN xs.length i with
  | none=>rw [e] at h;cases h
  | some j =>
    rw [e] at h
    obtain ⟨h1,h2,h3,h4⟩:=ixN_seq e
    exact ⟨j,h1,h,h2,h3,h4⟩
theorem atI_nat {α:Type} {xs:List α} {j:Nat} {v:α} (h:xs[j]?=some v):atI xs (j:Int)=some v:=by
  have hj:j < xs.length:=(List.getElem?_eq_some_iff.mp h).1
  have e:ixN xs.length (j:Int)=some j:=by
    unfold ixN
    rw [if_pos (by omega),if_pos (by omega)];simp
  unfold atI;rw [e];exact h
def PlainIx (b:Expr):Prop:=∀ o i,subscripted b false o i=operate [o,i] (getItem o i)
def IxR (X:Cx) (r:R2):Prop :=
  ∀ (value slice:Expr) (pins:List (Addr × Obj)) (s:Shared) (σ:St) (H:Hp) (x y:V) (v u:Value) (Q:VK),Inv X pins σ H s->RelV x v->RelV y u->r x y H Q ->
    subscripted slice false v u=operate [v,u] (getItem v u)->wpAny (model X.prog X.w) X.A (subscriptTail value slice v u) (EP X pins σ Q) X.xe s
def MtR (X:Cx) (id:String) (r:V->List V->Hp->VK->Prop):Prop :=
  ∀ (pins:List (Addr × Obj)) (s:Shared) (σ:St) (H:Hp) (x:V) (xs:List V) (v:Value) (us:List Value) (Q:VK),Inv X pins σ H s->RelV x v->Vals xs us->r x xs H Q ->
    wpAny (model X.prog X.w) X.A (call (.builtin id) (v :: us)) (EP X pins σ Q) X.xe s
section
variable {X:Cx} {a b:Expr} {ta tb:TE} {pos:Pos}
theorem pe_ix {r:R2} (hr:IxR X r) (ha:PE X a ta) (hb:PE X b tb) (hs:PlainIx b):PE X (.Subscript a b pos) (tOp r ta tb):=by
  intro pins s σ H Q I h
  exact Subscript_ (binT ha hb I h fun v u s2 x y H2 I2 rx ry q=>hr a b pins s2 σ H2 x y v u Q I2 rx ry q (hs _ _))
def rIxL (K:PySem.W.Frag):R2:=fun x y H Q=>∃ p xs i v,x=.ref p/\y=.int i/\SqL K H p xs/\atI xs i=some v/\Q v H
def rIxT (K:PySem.W.Frag):R2:=fun x y H Q=>∃ p xs i v,x=.ref p/\y=.int i/\SqT K H p xs/\atI xs i=some v/\Q v H
theorem ix_list:IxR X (rIxL X.K):=by
  intro value slice pins s σ H x y v u Q I rx ry h hs
  obtain ⟨p,xs,i,z,rfl,rfl,hq,he,q⟩:=h
  cases rx
  obtain ⟨t,rfl⟩:=ry
  obtain ⟨its,r,pl,hz⟩:=I.list hq
  obtain ⟨j,h1,h2,h3,h4,h5⟩:=atI_get he
  obtain ⟨w,ew,rw'⟩:=r.get h2
  have hl:=r.length
  have hn:=line63
  have fin:EP X pins σ Q w s:=⟨z,H,I,rw',q⟩
  by_cases h0:0 <= i
  · have hj:i.toNat=j:=by
      rw [seqIndex_of h0 h5] at h1
      exact Option.some.inj h1
    exact item_listR pl.isList h0 (by omega) (by rw [hj];simpa using ew) fin hs
  · have hj:(i + (its.toArray.size:Int)).toNat=j:=by
      rw [seqIndex_neg (by omega) h4] at h1
      rw [List.size_toArray,<- hl]
      exact Option.some.inj h1
    exact subscriptTail_builtinR (x:=w) pl.isList.typeIs slot_list_getitem.lookup
      (wpAny_getItem_list_neg (Q:=fun r s'=>r=w/\EP X pins σ Q r s') pl.isList (by omega) (by rw [List.size_toArray] <;> omega) (by omega) (by rw [hj];simpa using ew) ⟨rfl,fin⟩) hs
theorem ix_tup:IxR X (rIxT X.K):=by
  intro value slice pins s σ H x y v u Q I rx ry h hs
  obtain ⟨p,xs,i,z,rfl,rfl,hq,he,q⟩:=h
  cases rx
  obtain ⟨t,rfl⟩:=ry
  obtain ⟨its,r,pl,hz⟩:=I.tuple hq
  obtain ⟨j,h1,h2,h3,h4,h5⟩:=atI_get he
  obtain ⟨w,ew,rw'⟩:=r.get h2
  have hl:=r.length
  have hn:=line63
  have fin:EP X pins σ Q w s:=⟨z,H,I,rw',q⟩
  exact subscriptTail_builtinR (x:=w) pl.typeIs slot_tuple_getitem.lookup
    (getItem_tuple (j:=j) (Q:=fun r s'=>r=w/\EP X pins σ Q r s') pl (by omega) (by omega) (by rw [List.size_toArray,<- hl];exact h1) (by simpa using ew) ⟨rfl,fin⟩) hs
theorem mapSeq_set (its:List Value) (n j:Nat) (u:Value):Obj.mapSeq (·.setIfInBounds j u) { cls:=.type "list",data:=.seq its.toArray n }={ cls:=.type "list",data:=.seq (its.set j u).toArray n }:=by
  simp [Obj.mapSeq]
theorem Inv.lst {pins:List (Addr × Obj)} {σ:St} {H:Hp} {s:Shared} {p:Addr} {xs:List V} (I:Inv X pins σ H s) (h:H p=some (.lst xs)) :
    ∃ (its:List Value) (n:Nat),Vals xs its/\s.heap.get? p=some { cls:=.type "list",data:=.seq its.toArray n }/\xs.length <= sizeLine:=by
  obtain ⟨z,its,n,r,e⟩:=I.hok p _ h
  exact ⟨its,n,r,e,z⟩
theorem Inv.lstUpd {pins:List (Addr × Obj)} {σ:St} {H:Hp} {s:Shared} {p:Addr} {xs ys:List V} {its its':List Value} {n n':Nat} {f:Obj->Obj} (I:Inv X pins σ H s) (h:H p=some (.lst xs))
    (ho:s.heap.get? p=some { cls:=.type "list",data:=.seq its.toArray n }) (hf:f { cls:=.type "list",data:=.seq its.toArray n }={ cls:=.type "list",data:=.seq its'.toArray n' }) (r:Vals ys its') (hz:ys.length <= sizeLine) (t:Nat) :
    Inv X pins σ (upd H p (.lst ys)) { s with heap:=s.heap.update p f,toks:=t }:=by
  have e:(s.heap.update p f).get? p=some { cls:=.type "list",data:=.seq its'.toArray n' }:=by
    rw [Heap.get?_update_self f ho (by rw [hf] <;> rfl),hf]
  refine I.write (x:=p) (e:=p) (by rw [h];trivial) (.inl rfl) (fun b u hb q=>(Heap.get?_update_other _ _ (Ne.symm hb)).trans q) ⟨_,e⟩ ?_
  exact ⟨hz,its',n',r,e⟩
def rSetL:V->V->V->Hp->(Hp->Prop)->Prop:=fun o i v H Q=>∃ p xs k j,o=.ref p/\i=.int k/\H p=some (.lst xs)/\ixN xs.length k=some j/\Q (upd H p (.lst (xs.set j v)))
theorem set_list:PSet X rSetL:=by
  intro pins s σ H o i v ov iv u Q I ro ri rv h
  obtain ⟨p,xs,k,j,rfl,rfl,hp,hj,q⟩:=h
  cases ro
  obtain ⟨t,rfl⟩:=ri
  obtain ⟨its,n,r,ho,hz⟩:=I.lst hp
  obtain ⟨h1,h2,h3,h4⟩:=ixN_seq hj
  have hl:=r.length
  have hn:=line63
  have I':Inv X pins σ (upd H p (.lst (xs.set j v))) { s with heap:=s.heap.update p (Obj.mapSeq (·.setIfInBounds j u)) } :=
    I.lstUpd hp ho (mapSeq_set its n j u) (r.set rv j) (by rw [List.length_set];exact hz) s.toks
  by_cases h0:0 <= k
  · have hk:k.toNat=j:=by
      rw [seqIndex_of h0 h4] at h1
      exact Option.some.inj h1
    exact PySem.W.ki_setAt ho h0 (by omega) (by rw [List.size_toArray,<- hl];exact h4) (by rw [hk];exact ⟨_,I',q⟩)
  · have hk:(k + (its.toArray.size:Int)).toNat=j:=by
      rw [seqIndex_neg (by omega) h3] at h1
      rw [List.size_toArray,<- hl]
      exact Option.some.inj h1
    exact PySem.W.ki_setBack ho (by omega) (by rw [List.size_toArray,<- hl];exact h3) (by omega) (by rw [hk];exact ⟨_,I',q⟩)
theorem call_len_seq:CallR X (.builtin "len") (fun xs H Q=>∃ p ys,xs=[.ref p]/\(SqL X.K H p ys ∨ SqT X.K H p ys)/\Q (.int ys.length) H):=by
  intro pins s σ H xs us Q I r h
  obtain ⟨p,ys,rfl,hq,q⟩:=h
  obtain ⟨u,rfl,rx⟩:=vals1 r
  cases rx
  have hn:=line63
  rcases hq with hq | hq
  · obtain ⟨its,r',pl,hz⟩:=I.list hq
    have hlen:=r'.length
    exact Calls.call_len_list pl.isList (by simp only [List.size_toArray] <;> omega) ⟨.int ys.length,H,I.tok _,⟨s.toks + 1,by rw [List.size_toArray,hlen]⟩,q⟩
  · obtain ⟨its,r',pl,hz⟩:=I.tuple hq
    have hlen:=r'.length
    exact len_tuple pl (by simp only [List.size_toArray] <;> omega) ⟨.int ys.length,H,I.tok _,⟨s.toks + 1,by rw [List.size_toArray,hlen]⟩,q⟩
theorem call_list_of:CallR X (.type "list") (fun xs H Q=>∃ p ys,xs=[.ref p]/\(SqL X.K H p ys ∨ SqT X.K H p ys)/\∀ l,H l=none->Q (.ref l) (upd H l (.lst ys))):=by
  intro pins s σ H xs us Q I r h
  obtain ⟨p,ys,rfl,hq,q⟩:=h
  obtain ⟨u,rfl,rx⟩:=vals1 r
  cases rx
  have fin:∀ (its:List Value),Vals ys its->ys.length <= sizeLine->∀ (h':Heap) (c':Nat),(∀ b o',s.heap.get? b=some o'->h'.get? b=some o') ->
      h'.get? s.heap.objs.size=some { cls:=.type "list",dict:=none,data:=.seq its.toArray c',slots:=#[] }->EP X pins σ Q (.ref s.heap.objs.size) { s with heap:=h' }:=fun its r' hz h' c' kp e =>
    ⟨.ref s.heap.objs.size,_,I.laid (t':=s.toks) kp (Nat.le_refl _) (show ObjOk X.prog X.w _ h' _ (.lst ys) from ⟨hz,its,c',r',e⟩),rfl,q _ (I.hok.fresh (Nat.le_refl _))⟩
  rcases hq with hq | hq
  · obtain ⟨its,r',pl,hz⟩:=I.list hq
    have hlen:=r'.length
    obtain ⟨o,ho,hc,n,hd⟩:=pl.isList
    exact call_list_seq p (.inl rfl) ho hc hd (fun h' c' kp e=>fin its r' hz h' c' kp e) (by simp only [List.size_toArray] <;> omega)
  · obtain ⟨its,r',pl,hz⟩:=I.tuple hq
    have hlen:=r'.length
    obtain ⟨o,ho,hc,n,hd⟩:=pl
    exact call_list_seq p (.inr rfl) ho hc hd (fun h' c' kp e=>fin its r' hz h' c' kp e) (by simp only [List.size_toArray] <;> omega)
theorem call_tuple_of:CallR X (.type "tuple") (fun xs H Q=>∃ p ys,xs=[.ref p]/\((SqL X.K H p ys/\∀ l,H l=none->Q (.ref l) (upd H l (.tup ys))) ∨ (SqT X.K H p ys/\Q (.ref p) H))):=by
  intro pins s σ H xs us Q I r h
  obtain ⟨p,ys,rfl,h⟩:=h
  obtain ⟨u,rfl,rx⟩:=vals1 r
  cases rx
  rcases h with ⟨hq,q⟩ | ⟨hq,q⟩
  · obtain ⟨its,r',pl,hz⟩:=I.list hq
    have hlen:=r'.length
    refine call_tuple_list pl.isList (fun h' kp=>?_) (by simp only [List.size_toArray] <;> omega)
    have I1:Inv X pins σ H { s with heap:=h' }:=I.kept (t':=s.toks) kp
    have I2:Inv X pins σ (upd H h'.objs.size (.tup ys)) { s with heap:=h'.push { cls:=.type "tuple",data:=.seq its.toArray } } :=
      I1.laid (t':=s.toks) (fun b o e=>Heap.get?_push_of_some _ e) (Nat.le_refl _) (show ObjOk X.prog X.w _ _ _ (.tup ys) from ⟨hz,its,r',IsTup.new _ _⟩)
    exact ⟨.ref h'.objs.size,_,I2,rfl,q _ (I1.hok.fresh (Nat.le_refl _))⟩
  · obtain ⟨its,r',pl,hz⟩:=I.tuple hq
    exact call_tuple_same pl ⟨.ref p,H,I,rfl,q⟩
def tyV (K:PySem.W.Frag) (T:String) (x:V) (H:Hp):Prop:=match x with
  | .str _=>T="str"
  | .int _=>T="int"
  | .ref p=>(T="list"/\∃ xs,SqL K H p xs) ∨ (T="tuple"/\∃ o,K.lookup p=some o/\o.cls=.type "tuple"/\o.dict=none) ∨
      (T="dict"/\((∃ kvs,H p=some (.dK kvs)) ∨ ∃ kvs,H p=some (.dT kvs))) ∨ (T="set"/\∃ S n,H p=some (.set S n))
  | _=>False
theorem tyV_is {pins:List (Addr × Obj)} {σ:St} {H:Hp} {s:Shared} {T:String} {x:V} {v:Value} (I:Inv X pins σ H s) (r:RelV x v) (ty:tyV X.K T x H) :
    s.TypeIs v T/\∀ a,v=.ref a->∃ ob,s.heap.get? a=some ob/\ob.dict=none:=by
  cases x with
  | str z =>
    obtain ⟨t,rfl⟩:=r
    cases (show T="str" from ty)
    exact ⟨typeIs_str s z t,fun _ e=>nomatch e⟩
  | int i =>
    obtain ⟨t,rfl⟩:=r
    cases (show T="int" from ty)
    exact ⟨typeIs_int s i t,fun _ e=>nomatch e⟩
  | ref p =>
    cases r
    rcases ty with ⟨rfl,xs,hq⟩ | ⟨rfl,o,hk,hc,hd⟩ | ⟨rfl,hk⟩ | ⟨rfl,S,n,hk⟩
    · obtain ⟨its,_,pl,_⟩:=I.list hq
      refine ⟨pl.isList.typeIs,fun a e=>?_⟩
      cases e
      obtain ⟨o,n,e,c,hd,_⟩:=pl
      exact ⟨o,e,hd⟩
    · refine ⟨⟨o,I.kIn p o hk,hc⟩,fun a e=>?_⟩
      cases e
      exact ⟨o,I.kIn _ o hk,hd⟩
    · have z:∃ o,s.heap.get? p=some o/\o.ExactDict:=by
        rcases hk with ⟨kvs,hk⟩ | ⟨kvs,hk⟩
        · obtain ⟨_,_,_,_,o,_,_,e,ex,_⟩:=I.hok p _ hk
          exact ⟨o,e,ex⟩
        · obtain ⟨_,_,_,_,o,_,_,e,ex,_⟩:=I.hok p _ hk
          exact ⟨o,e,ex⟩
      obtain ⟨o,e,ex⟩:=z
      refine ⟨⟨o,e,ex.1⟩,fun a e2=>?_⟩
      cases e2
      exact ⟨o,e,ex.2.1⟩
    · obtain ⟨o,_,_,_,e,ex,_⟩:=I.hok p _ hk
      refine ⟨⟨o,e,ex.1⟩,fun a e2=>?_⟩
      cases e2
      exact ⟨o,e,ex.2.1⟩
  | _=>exact False.elim ty
def tBM (K:PySem.W.Frag) (T:String) (r:V->List V->Hp->VK->Prop) (to:TE) (t:TA):TE:=fun σ H Q=>to σ H fun x H1=>tyV K T x H1/\t σ H1 fun xs H2=>r x xs H2 Q
variable {o e:Expr} {es:List Expr} {to:TE} {t:TA} {name:Str} {apos cpos:Pos} {T id:String} {r:V->List V->Hp->VK->Prop}
theorem pe_bm (pa:PlainAttrs T) (slot:Slot T name id) (hty:typeOf (.builtin id)=pure (.type "method_descriptor")) (hm:MtR X id r) (ho:PE X o to) (ha:PA X (e :: es) t)
    (hbase:attributeBase o name X.env (eval o X.env)=eval o X.env:=by rfl)
    (hfew:((backTo cpos (starEach (e :: es) X.env)).all (fun x=>!x.1) && (backToKw cpos (keywordEach [] X.env)).all (fun x=>x.1.isSome)
      && decide ((e :: es).length + ([]:List Keyword).length + (if ([]:List Keyword).isEmpty then 0 else 1) < 30))=true:=by rfl)
    (hline:(apos.endLine == cpos.line)=true:=by rfl) (hs:starEach (e :: es) X.env=(false,eval e X.env) :: starEach es X.env:=by rfl) (hplain:(backTo cpos (starEach es X.env)).any (·.1)=false:=by rfl) :
    PE X (.Call (.Attribute o name apos) (e :: es) [] cpos) (tBM X.K T r to t):=by
  intro pins s σ H Q I h
  refine wpAny_Call_method_late hbase hfew hline rfl (thn (ho pins s σ H _ I h) fun v s1 ⟨x,H1,I1,r1,ty,q1⟩=>?_)
  obtain ⟨h1,h2⟩:=tyV_is I1 r1 ty
  refine ⟨T,id,pa,slot,hty,h1,h2,?_⟩
  have hA:=ha cpos pins s1 σ H1 _ I1 q1
  rw [hs] at hA ⊢
  refine Calls.callWith_builtin (by show (false || (backTo cpos (starEach es X.env)).any (·.1))=false;rw [hplain] <;> rfl) (Calls.evalArgs_plain ?_)
  exact thn hA fun us s2 ⟨vs,H2,I2,r2,q2⟩=>hm pins s2 σ H2 x vs v us Q I2 r1 r2 q2
/- xs.append(e),list.index on a module's tuple .. are MtR facts of 06m -/
end
end L2
namespace L2
open PySem PySem.Spec PyProof.Rows
def MtM (X:Cx) (id:String) (r:V->List V->Hp->VK->Prop):Prop :=
  ∀ (pins:List (Addr × Obj)) (s:Shared) (σ:St) (H:Hp) (x:V) (xs:List V) (v:Value) (us:List Value) (Q:VK),Inv X pins σ H s->RelV x v->Vals xs us->r x xs H Q ->
    wpAny (model X.prog X.w) X.A (call (.builtin id) (v :: us)) (EP X pins σ Q) X.xe s
theorem Vals.one:∀ {x:V} {us:List Value},Vals [x] us->∃ u,us=[u]/\RelV x u
  | _,_,.cons r .nil=>⟨_,rfl,r⟩
theorem Vals.two:∀ {x y:V} {us:List Value},Vals [x,y] us->∃ u v,us=[u,v]/\RelV x u/\RelV y v
  | _,_,_,.cons r (.cons q .nil)=>⟨_,_,rfl,r,q⟩
theorem Vals.rep {xs:List V} {us:List Value} (h:Vals xs us):∀ k:Nat,Vals (List.replicate k xs).flatten (List.replicate k us).flatten
  | 0=>.nil
  | k + 1=>by
    rw [List.replicate_succ,List.replicate_succ,List.flatten_cons,List.flatten_cons]
    exact Vals.append h (Vals.rep h k)
theorem foldl_rep (its:List Value):∀ (k:Nat) (acc:List Value),
    List.foldl (fun x1 x2=>x1 ++ x2) acc.toArray (List.replicate k its.toArray)=(acc ++ (List.replicate k its).flatten).toArray
  | 0,acc=>by simp
  | k + 1,acc=>by
    have e:acc.toArray ++ its.toArray=(acc ++ its).toArray:=by simp
    have e2:(acc ++ its) ++ (List.replicate k its).flatten=acc ++ (List.replicate (k + 1) its).flatten:=by
      rw [List.replicate_succ,List.flatten_cons,List.append_assoc]
    rw [<- e2,<- foldl_rep its k (acc ++ its),<- e,List.replicate_succ,List.foldl_cons]
section
variable {X:Cx} {pins:List (Addr × Obj)} {σ:St} {H:Hp} {s:Shared} {l b:Addr} {xs ys zs:List V}
theorem Inv.lset {its its':List Value} {n:Nat} {f:Array Value->Array Value} {t':Nat} (I:Inv X pins σ H s) (hH:H l=some (.lst xs))
    (e:s.heap.get? l=some { cls:=.type "list",data:=.seq its.toArray n }) (hf:f its.toArray=its'.toArray) (hv:Vals ys its') (hz:ys.length <= sizeLine) :
    Inv X pins σ (upd H l (.lst ys)) { s with heap:=s.heap.update l (Obj.mapSeq f),toks:=t' }:=by
  have q:=PySem.IsL.update e f
  rw [hf] at q
  refine I.write (x:=l) (e:=l) (by rw [hH];exact trivial) (.inl rfl) (fun b' u hb hu=>(Heap.get?_update_other s.heap (Obj.mapSeq f) (Ne.symm hb)).trans hu) ⟨_,q⟩ ?_
  exact ⟨hz,its',_,hv,q⟩
theorem Inv.lnew {its:List Value} {t':Nat} (I:Inv X pins σ H s) (hv:Vals ys its) (hz:ys.length <= sizeLine) :
    Inv X pins σ (upd H s.heap.objs.size (.lst ys)) { s with heap:=s.heap.push { cls:=.type "list",data:=.seq its.toArray },toks:=t' } :=
  I.laid (fun _ _ q=>Heap.get?_push_of_some _ q) (Nat.le_refl _) ⟨hz,its,0,hv,Heap.get?_push_size _ rfl⟩
theorem Inv.fresh (I:Inv X pins σ H s):H s.heap.objs.size=none:=I.hok.fresh (Nat.le_refl _)
theorem Inv.lstM (I:Inv X pins σ H s) (hH:H l=some (.lst xs)):xs.length <= sizeLine/\∃ (its:List Value) (n:Nat),Vals xs its/\xs.length=its.length/\s.heap.get? l=some { cls:=.type "list",data:=.seq its.toArray n }:=by
  obtain ⟨z,its,n,r,e⟩:=I.hok l _ hH
  exact ⟨z,its,n,r,r.length,e⟩
theorem notLongL {n:Nat} (h:n <= sizeLine):Builtin.List.listTooLong n=false:=by
  unfold Builtin.List.listTooLong
  exact decide_eq_false (by omega)
end
section
variable {X:Cx}
def rAppend:V->List V->Hp->VK->Prop:=fun x vs H Q=>∃ l xs y,x=.ref l/\vs=[y]/\H l=some (.lst xs)/\xs.length < sizeLine/\Q .non (upd H l (.lst (xs ++ [y])))
theorem mt_append:MtM X "list.append" rAppend:=by
  intro pins s σ H x vs v us Q I rx rv h
  obtain ⟨l,xs,y,rfl,rfl,hH,hz,q⟩:=h
  cases rx
  obtain ⟨u,rfl,ru⟩:=rv.one
  obtain ⟨z,its,n,r,hl,e⟩:=I.lstM hH
  refine call_meets F.slot_list_append ⟨_,e,rfl⟩ F.entry_list_append (F.args_list_append_2 _ _) (PySem.list_append l its.toArray n u (by rw [List.size_toArray];omega)) ⟨e,?_⟩
  refine ⟨.non,_,I.lset (its':=its ++ [u]) hH e (by simp) (r.append (.cons ru .nil)) ?_,rfl,q⟩
  rw [List.length_append,List.length_singleton]
  omega
def rExtend:V->List V->Hp->VK->Prop:=fun x vs H Q=>∃ l b xs zs,x=.ref l/\vs=[.ref b]/\H l=some (.lst xs)/\H b=some (.lst zs)/\xs.length + zs.length <= sizeLine/\Q .non (upd H l (.lst (xs ++ zs)))
theorem mt_extend:MtM X "list.extend" rExtend:=by
  intro pins s σ H x vs v us Q I rx rv h
  obtain ⟨l,b,xs,zs,rfl,rfl,hH,hB,hz,q⟩:=h
  cases rx
  obtain ⟨u,rfl,ru⟩:=rv.one
  cases ru
  obtain ⟨z,its,n,r,hl,e⟩:=I.lstM hH
  obtain ⟨z2,its2,n2,r2,hl2,e2⟩:=I.lstM hB
  have hsz:its.toArray.size + its2.toArray.size <= sizeLine:=by rw [List.size_toArray,List.size_toArray];omega
  have hlong:¬ (!its.toArray.isEmpty && Builtin.List.listTooLong (its.toArray.size + its2.toArray.size))=true:=by
    rw [notLongL hsz,Bool.and_false]
    exact Bool.false_ne_true
  refine call_meets F.slot_list_extend ⟨_,e,rfl⟩ F.entry_list_extend (F.args_list_extend_2 _ _)
    (AutoSeq1.list_extend_list_list_0 l its.toArray n b its2.toArray n2 hlong (by rw [List.size_toArray];omega) (by omega)) ⟨e,e2,?_⟩
  refine ⟨.non,_,I.lset (its':=its ++ its2) hH e (by simp) (r.append r2) ?_,rfl,q⟩
  rw [List.length_append]
  omega
def rCat:R2:=fun x y H Q=>∃ l b xs zs,x=.ref l/\y=.ref b/\H l=some (.lst xs)/\H b=some (.lst zs)/\xs.length + zs.length <= sizeLine/\∀ p,H p=none->Q (.ref p) (upd H p (.lst (xs ++ zs)))
theorem op_cat:OpR X (binaryOp .Add) rCat:=by
  intro pins s σ H x y v u Q I rx ry h
  obtain ⟨l,b,xs,zs,rfl,rfl,hH,hB,hz,q⟩:=h
  cases rx
  cases ry
  obtain ⟨z,its,n,r,hl,e⟩:=I.lstM hH
  obtain ⟨z2,its2,n2,r2,hl2,e2⟩:=I.lstM hB
  refine PySem.P.add_list e e2 ?_ (by rw [List.size_toArray,List.size_toArray];omega)
  have ea:its.toArray ++ its2.toArray=(its ++ its2).toArray:=by simp
  rw [ea]
  exact ⟨.ref _,_,I.lnew (t':=s.toks) (r.append r2) (by rw [List.length_append];omega),rfl,q _ I.fresh⟩
def rRep:R2:=fun x y H Q=>∃ l k xs,x=.ref l/\y=.int k/\H l=some (.lst xs)/\-(2 ^ 63) <= k/\k < 2 ^ 63/\xs.length * k.toNat <= sizeLine /\
  ∀ p,H p=none->Q (.ref p) (upd H p (.lst (List.replicate k.toNat xs).flatten))
theorem len_rep {α:Type} (xs:List α) (k:Nat):(List.replicate k xs).flatten.length=k * xs.length:=by
  induction k with
  | zero=>simp
  | succ k ih=>rw [List.replicate_succ,List.flatten_cons,List.length_append,ih,Nat.succ_mul,Nat.add_comm]
theorem op_rep:OpR X (binaryOp .Mult) rRep:=by
  intro pins s σ H x y v u Q I rx ry h
  obtain ⟨l,k,xs,rfl,rfl,hH,h1,h2,hz,q⟩:=h
  cases rx
  obtain ⟨t,rfl⟩:=ry
  obtain ⟨z,its,n,r,hl,e⟩:=I.lstM hH
  have hlen:its.toArray.size * k.toNat <= sizeLine:=by rw [List.size_toArray,<- hl];exact hz
  have hcap:¬ its.toArray.size * k.toNat > (2 ^ 63 - 1) / 8:=by
    have:(sizeLine:Nat) <= (2 ^ 63 - 1) / 8:=by decide
    omega
  have hfit:¬ (!Builtin.List.listFitsIndex k)=true:=by
    rw [fitsIndex_both h1 h2]
    exact Bool.false_ne_true
  have hlong:¬ Builtin.List.listTooLong (its.toArray.size * k.toNat)=true:=by
    rw [notLongL hlen]
    exact Bool.false_ne_true
  have hnew:List.foldl (fun x1 x2=>x1 ++ x2) #[] (List.replicate (if its.toArray.isEmpty=true then 0 else k.toNat) its.toArray)=(List.replicate k.toNat its).flatten.toArray:=by
    have f0:∀ m:Nat,List.foldl (fun x1 x2=>x1 ++ x2) #[] (List.replicate m its.toArray)=(List.replicate m its).flatten.toArray:=fun m=>by
      have:=foldl_rep its m []
      rw [List.nil_append] at this
      exact this
    rw [f0]
    cases its with
    | nil=>simp
    | cons a r'=>rw [if_neg (by simp)]
  refine wpAny_binaryOp_repeat_ref (T:="list") (U:="int") (by decide) ⟨_,e,rfl⟩ (fun s'=>typeIs_int s' k t) noFill_list_mul F.fills_int_mul F.slot_int_rmul repeat_list F.slot_int_index.lookup
    (call_meets F.slot_int_rmul (typeIs_int s k t) F.entry_int_rmul (F.args_int_rmul_2 _ _) (int___rmul___int_list k t l its.toArray n)
      ⟨e,rfl,⟨_,e,rfl⟩,call_meets F.slot_list_mul ⟨_,e,rfl⟩ F.entry_list_mul (F.args_list_mul_2 _ _) (AutoListH.list___mul___list_int_3 l its.toArray n k t hfit hcap hlong) ⟨e,?_⟩⟩)
  rw [hnew]
  exact ⟨.ref _,_,I.lnew (t':=s.toks) (r.rep k.toNat) (by rw [len_rep,Nat.mul_comm];exact hz),rfl,q _ I.fresh⟩
end
section
variable {prog:Program} {w:World} {A:Around} {E:Value->Shared->Prop} {s:Shared}
set_option maxRecDepth 100000 in
end
section
variable {X:Cx}
end
end L2
namespace Att
open PySem PySem.W PySem.Calls PyProof.Rows
theorem ints_of_wellAll {P:Params} {h:Heap}:∀ (ns:List Int) (vs:List Value),WellAll P h vs (ns.map WData.int)->IntsAre vs ns:=by
  intro ns
  induction ns with
  | nil =>
    intro vs w
    rw [List.map_nil] at w
    cases w
    exact .nil
  | cons n ns ih =>
    intro vs w
    rw [List.map_cons] at w
    cases w with
    | cons a b =>
      cases a
      exact .cons _ _ (ih _ b)
theorem script_of {l:OpenLaw} {n:Nat} (hn:l.most=some n) {P:Params} {h:Heap} {args:List WData} {vals:List Value}
    (hpre:l.row.toRowW.claim.pre args=true) (hwl:WellAll P h vals args) :
    ∃ a vs ns,vals=[Value.ref a]/\args=[WData.list (ns.map WData.int)]/\h.get? a=some { cls:=.type "list",data:=.seq vs.toArray }/\IntsAre vs ns/\ns.length <= n:=by
  have hsh:WShape.hasAll [] args [.list .int]=true:=(pre_splitW hpre).1
  have hc:l.pre.holds [] { args:=args }=true:=(pre_splitW hpre).2
  obtain ⟨d,r,rfl,h1,h2⟩:=hasAllW_cons hsh
  obtain rfl:=hasAllW_nil h2
  obtain ⟨xs,rfl,h3⟩:=hasW_list h1
  obtain ⟨ns,rfl⟩:=items_int h3
  have hlen:ns.length <= n:=by
    unfold OpenLaw.pre at hc
    have h4:(WTm.not (.lt (.lit (.int (n:Int))) (.len (.arg 0)))).holds [] { args:=[.list (ns.map .int)] }=true:=by
      have h4:=(holds_andW hc).1
      rw [hn] at h4
      exact h4
    have h5:=condW_of h4 (w_not (w_lt w_lit (w_len_list (w_arg rfl))))
    rw [List.length_map] at h5
    refine Nat.le_of_not_lt fun q=>?_
    have q':(n:Int) < ((ns.length:Nat):Int):=by omega
    first
      | (rw [decide_eq_true q'] at h5;exact absurd h5 (by decide))
      | (simp at h5;omega)
  cases hwl with
  | cons w1 w2 =>
    cases w2
    cases w1 with
    | list ho hall=>exact ⟨_,_,ns,rfl,rfl,ho,ints_of_wellAll ns _ hall,hlen⟩
theorem post_true (l:OpenLaw) (args:List WData):l.row.toRowW.claim.post args (.bool true) args=true :=
  postW_of (r:=l.row.toRowW) (X:=(true == true))
    (show WShape.has [] (.bool true) .bool=true by first | rfl | decide | simp [WShape.has,WShape.arms,WShape.armsAll])
    (show (WTm.eq .res (.lit (.bool true))).value [] { args:=args,res:=some (.bool true),after:=args }=some (.bool (true == true)) from w_eq_bool (w_res rfl) w_lit) rfl
theorem attach_call {l:OpenLaw} {n:Nat} {q:Program} {loose:List Str} {XP:(Str->Option Value)->Heap->Prop} {YP:World->Heap->Prop} {d:DefRec}
    (hn:l.most=some n) (hdf:d.params.defaults=[])
    (call:∀ (w:World) (s₀ s₁:Shared) (mg mb:Str->Option Value) (fa:Addr) (o:Obj) (pm cd doc:Value) (a:Addr) (vs:List Value) (ns:List Int),
      Ground q loose [] XP w s₀ mg mb s₁.heap->YP w s₁.heap ->
      s₁.heap.get? fa=some o->o.data=.func (docDef d.name d.params d.body d.scope pm cd doc)->s₁.heap.CodeRec cd d.name->mg d.name=some (.ref fa) ->
      s₁.heap.get? a=some { cls:=.type "list",data:=.seq vs.toArray }->IntsAre vs ns->ns.length <= n->s₁.gens=#[] ->
      codeAny (model l.prog w) callerA (.call (.ref fa) ⟨[.ref a],[]⟩) (fun r s'=>r=.ok (.ret (.bool true))/\OldK s₁.heap s'.heap/\s'.os=s₁.os/\AllBare s'.gens) s₁) :
    WalkO q loose XP YP l.row.toRowW d [] (fun f vs=>PySem.call f vs):=by
  intro w s₀ s₁ mg mb G Y fa o pm cd doc dV kV ho hd hcd hD hmg hg args vals as hpre hlay hrd hwl hlo
  obtain rfl:dV=.none:=Dflts.none hD hdf
  obtain rfl:kV=.none:=Dflts.noKw hD
  obtain ⟨a,vs,ns,rfl,rfl,hobj,hints,hlen⟩:=script_of hn hpre hwl
  refine enter_call (codeAny_mono (call w s₀ s₁ mg mb fa o pm cd doc a vs ns G Y ho (fd_plain hd) hcd hmg hobj hints hlen hg) fun r s' hq=>?_)
  obtain ⟨rfl,h2,h3,h4⟩:=hq
  exact ⟨.inl ⟨.bool true,.bool true,[],rfl,fun _=>rfl,.bool true,post_true l _,fun _=>⟨List.Pairwise.nil,fun _ hm=>(nomatch hm)⟩⟩,h2,h3,h4⟩
section
variable {prog:Program} {w:World} {A:Around} {E:Value->Shared->Prop} {s:Shared} {K:Frag}
end
end Att
namespace L2
open PySem PySem.Spec PyProof.Rows
theorem vals_ints:∀ {vs:List Value} {ns:List Int},IntsAre vs ns->Vals (ns.map V.int) vs
  | _,_,.nil=>.nil
  | _,_,.cons n t h=>.cons ⟨t,rfl⟩ (vals_ints h)
end L2
namespace L2
open PySem PySem.Spec PyProof.Rows
abbrev KOf {K:PySem.W.Frag} {h:Heap} (_:K.In h):PySem.W.Frag:=K
end L2
/- THE LAST THEOREM (shape;LID,My.* are yours):
   My.Adr: a structure of the addresses that your layer names (classes,functions);My.Txt K t: a structure (Prop) of the equations over K;
   My.txt_mk:{K} {implicit addresses ..} (e1:nsIn K mainGlobals "law"=some (some (.ref f))) (e2:K.lookup f=some ⟨oc,od,.func (fnOf "law" "law" params body scope dV kV doc pm an cdv ct),sl⟩) (e3:codeIn K cdv "law"=true) ..:∃ t,My.Txt K t
set_option maxRecDepth 100000 in
set_option maxHeartbeats 0 in
theorem PySem.Challenge.cw_LID_holds:PySem.Challenge.rw_LID.Holds:=by
  w_on;o_law;k_head;(case hw=>w_witness2)
  k_fill
  refine L2.walk_of (l:=PySem.Challenge.rw_LID) (n:=63) (k:=40) (x:="script") (CX:=fun w=>..) (sp:=fun _=>My.sp_law) rfl (by decide) rfl ⟨rfl,by decide,by decide⟩ (fun w h Y=>PySem.W.kIn_of Y) ?F ?S ?C
  case F =>
    intro w mg fa h KX G hmg
    have T:∃ t,My.Txt (L2.KOf KX) t:=by
      dsimp only [L2.KOf]                          -- K must stand as «<heap const> w.params» for k_is
      refine' My.txt_mk ?e1 ?e2 ?e3 ..
      (case e1=>PySem.W.k_is)                    -- in the order: a name->its address->its object->its parts
      (case e2=>PySem.W.k_is)
      ..
    obtain ⟨t,T⟩:=T
    have e0:=hmg.symm.trans (PySem.W.mg_of KX G T.law)
    cases e0                                       -- fa is the law's own address
    exact ⟨_,fun s u=>.of_eq rfl,fun base kb nb=>My.law_fn T kb nb⟩     -- if «.of_eq rfl» comes too early: refine' ⟨_,?b,fun base kb nb=>My.law_fn T kb nb⟩;exact fun s u=>.of_eq rfl
  case S=>exact fun w H a ns hl hO hS=>..
  case C=>exact ..
(the tactic k_is has no namespace: write k_is) -/
namespace L2
open PySem PySem.Spec PyProof.Rows
def defArgs (s:Stmt):Arguments:=match s with
  | .FunctionDef _ a _ _ _ _ _ _ _ _=>a
  | _=>{ posonlyargs:=[],args:=[],vararg:=none,kwonlyargs:=[],kw_defaults:=[],kwarg:=none,defaults:=[] }
def defBody (s:Stmt):List Stmt:=match s with
  | .FunctionDef _ _ b _ _ _ _ _ _ _=>b
  | _=>[]
def defScope (s:Stmt):Scope:=match s with
  | .FunctionDef _ _ _ _ _ _ sc _ _ _=>sc
  | _=>{ kind:=.function,names:=[],isGenerator:=false,isCoroutine:=false }
abbrev CX0:CXT:=fun _ _ _ _ _ _=>False
abbrev E0:XK:=fun _ _ _=>False
theorem pass0 {X:Cx}:Passes CX0 X E0:=fun _ _ _ _ _ _ _ h=>h.elim
structure Fun (K:PySem.W.Frag) (x qual:Str) (st:Stmt) (f:Addr) (fd:FuncData):Prop where
  ex:∃ (oc:Value) (od:Option Addr) (kV doc pm:Value) (an:Option Addr) (cdv ct:Value) (osl:Array (Option Value)),
    fd=PySem.W.fnOf x qual (defArgs st) (defBody st) (defScope st) .none kV doc pm an cdv ct/\K.lookup f=some ⟨oc,od,.func fd,osl⟩/\PySem.W.codeIn K cdv qual=true
  kp:PySem.W.keepIn K (.ref f)=true
section
variable {P:Program} {w:World} {K:PySem.W.Frag} {mg:Str->Option Value} {base:Heap}
theorem Fun.ok {x qual:Str} {st:Stmt} {f:Addr} {fd:FuncData} {N ps:List Str} {k:Nat} {sp:Sp} (F:Fun K x qual st f fd) (S:FnScope N ps (defScope st)) (len:∀ vs H Q E,sp vs H Q E->vs.length=ps.length)
    (hbody:∀ (cdv:Value) (A:Around) (outer:List Env) (s:Shared) (H:Hp) (vs:List V) (Q:VK) (E:XK),Room k (A.deeper (envOfC qual (defScope st) s.heap.objs.size f cdv))->sp vs H Q E ->
      ∃ t,PSs (cxOf CX0 P w K mg base N qual (defScope st) f cdv A outer s H E).nox (defBody st) t/\t { nx:=fun _ H'=>Q .non H',rt:=Q } (start N vs) H):FnOk P w K mg base CX0 (k + 1) f fd ps sp:=by
  obtain ⟨oc,od,kV,doc,pm,an,cdv,ct,osl,rfl,lk,hcd⟩:=F.ex
  refine fn_of lk hcd S len fun A outer s H vs Q E hr hsp=>?_
  obtain ⟨t,h,q⟩:=hbody cdv A outer s H vs Q E hr hsp
  exact ⟨t,h.nox,q⟩
theorem Fun.binds {x qual:Str} {st:Stmt} {f:Addr} {fd:FuncData} {ps:List Str} (F:Fun K x qual st f fd)
    (h:∀ (kV doc pm:Value) (an:Option Addr) (cdv ct:Value) (us:List Value),us.length=ps.length->bindArgs (PySem.W.fnOf x qual (defArgs st) (defBody st) (defScope st) .none kV doc pm an cdv ct) ⟨us,[]⟩=pure (ps.zip us)):Binds K fd ps []:=by
  obtain ⟨oc,od,kV,doc,pm,an,cdv,ct,osl,rfl,lk,hcd⟩:=F.ex
  exact .all (h kV doc pm an cdv ct)
theorem fun_mk {x qual:Str} {st:Stmt} {f:Addr} {oc:Value} {od an:Option Addr} {osl:Array (Option Value)} {kV doc pm cdv ct:Value} (l:K.lookup f=some ⟨oc,od,.func (PySem.W.fnOf x qual (defArgs st) (defBody st) (defScope st) .none kV doc pm an cdv ct),osl⟩)
    (c:PySem.W.codeIn K cdv qual=true) (k:PySem.W.keepIn K (.ref f)=true):Fun K x qual st f (PySem.W.fnOf x qual (defArgs st) (defBody st) (defScope st) .none kV doc pm an cdv ct):=⟨⟨oc,od,kV,doc,pm,an,cdv,ct,osl,rfl,l,c⟩,k⟩
end
theorem hu_of {A:Around} {k:Nat} (hr:Room k A):A.units + 1 < cLine:=Nat.lt_of_le_of_lt (Nat.add_le_add_left (by decide:1 <= 64) _) hr.units
theorem small1000 {n:Nat} (h:n <= 1000):n < sizeLine:=Nat.lt_of_le_of_lt h (by decide)
section
variable {X:Cx}
theorem pv (i:Nat) {x:Str} {pos:Pos} (hN:X.N[i]?=some x:=by rfl) (hv:Vis X.env.scope x:=by first | exact Or.inl rfl | exact Or.inr (Or.inl rfl) | exact Or.inr (Or.inr rfl)) (hd:(x == ("__debug__":Str))=false:=by decide)
    (hcd:(x == ("__classdict__":Str))=false:=by decide):PE X (.Name x pos) (tVar i):=pe_var hN hv hd hcd
end
theorem iteF {A B:Prop} (h:B):if false=true then A else B:=by
  rw [if_neg Bool.false_ne_true]
  exact h
theorem iteT {A B:Prop} (h:A):if true=true then A else B:=by
  rw [if_pos rfl]
  exact h
theorem ite2 {c A B:Prop} [Decidable c] (h1:c->A) (h2:¬ c->B):if c then A else B:=by
  by_cases h:c
  · rw [if_pos h]
    exact h1 h
  · rw [if_neg h]
    exact h2 h
theorem iteNS {c A B:Prop} [Decidable c] (hc:c) (h:B):if (!decide c)=true then A else B:=by
  rw [decide_eq_true hc]
  exact iteF h
def Same (H H':Hp):Prop:=∀ b o,H b=some o->H' b=some o
theorem Same.refl (H:Hp):Same H H:=fun _ _ h=>h
theorem Same.trans {H H1 H2:Hp} (a:Same H H1) (b:Same H1 H2):Same H H2:=fun c o h=>b c o (a c o h)
theorem Same.free {H H':Hp} (e:Same H H') {l:Addr} (h:H' l=Option.none):H l=Option.none:=by
  cases q:H l with
  | none=>rfl
  | some o =>
    rw [e l o q] at h
    cases h
end L2
set_option maxHeartbeats 4000000
namespace L2
open PySem PySem.Spec PyProof.Rows
theorem cellsFrom_app:∀ (names:List (Str × NameKind)) (n:Nat) (acc:List (Str × Addr)),cellsFrom n names acc=cellsFrom n names [] ++ acc
  | [],n,acc=>rfl
  | (x,k) :: r,n,acc=>by
    unfold cellsFrom
    split
    · rw [cellsFrom_app r (n + 1) ((x,n) :: acc),cellsFrom_app r (n + 1) [(x,n)],List.append_assoc]
      rfl
    · exact cellsFrom_app r n acc
def closL (env:Env):List (Str × NameKind)->List (Str × Addr)->List (Str × Addr)
  | [],acc=>acc
  | (x,k) :: r,acc=>if k == .free then closL env r ((x,(env.cells.lookup x).getD 0) :: acc) else closL env r acc
theorem closL_eq {env:Env} (f:Str × NameKind->List (Str × Addr)->Sem (ForInStep (List (Str × Addr))))
    (hf:∀ name kind cs,f (name,kind) cs=if kind == .free then (do let a <- cellOf env name;pure (.yield ((name,a) :: cs))) else pure (.yield cs)) :
    ∀ (names:List (Str × NameKind)) (acc:List (Str × Addr)),(∀ x ∈ names,x.2=.free->∃ c,env.cells.lookup x.1=some c)->forIn names acc f=pure (closL env names acc)
  | [],acc,_=>by rw [List.forIn_nil];rfl
  | (x,k) :: r,acc,h=>by
    have ih:=fun acc=>closL_eq f hf r acc fun y hy=>h y (List.mem_cons_of_mem _ hy)
    rw [List.forIn_cons,hf]
    unfold closL
    by_cases hk:(k == NameKind.free)=true
    · rw [if_pos hk,if_pos hk]
      obtain ⟨c,hc⟩:=h (x,k) List.mem_cons_self (beq_iff_eq.mp hk)
      have hc':env.cells.lookup x=some c:=hc
      have:cellOf env x=pure c:=by unfold cellOf;rw [hc']
      rw [this,hc']
      simp only [pure_bind,Option.getD_some]
      exact ih _
    · rw [if_neg hk,if_neg hk]
      simp only [pure_bind]
      exact ih _
theorem closureFor_eq {scope:Scope} {env:Env} (h:∀ x ∈ scope.names,x.2=.free->∃ c,env.cells.lookup x.1=some c):closureFor scope env=pure (closL env scope.names []):=by
  simp only [closureFor]
  rw [closL_eq (env:=env) _ (fun name kind cs=>by cases hk:kind == NameKind.free <;> simp [hk]) scope.names [] h]
  rfl
theorem closL_mem {env:Env}:∀ {names:List (Str × NameKind)} {acc:List (Str × Addr)} {x:Str} {c:Addr},(∀ x ∈ names,x.2=.free->∃ c,env.cells.lookup x.1=some c) ->
    (x,c) ∈ closL env names acc->(x,c) ∈ acc ∨ env.cells.lookup x=some c
  | [],acc,x,c,_,hm=>.inl hm
  | (y,k) :: r,acc,x,c,h,hm=>by
    have hr:∀ x ∈ r,x.2=.free->∃ c,env.cells.lookup x.1=some c:=fun z hz=>h z (List.mem_cons_of_mem _ hz)
    unfold closL at hm
    by_cases hk:(k == NameKind.free)=true
    · rw [if_pos hk] at hm
      obtain ⟨d,hd⟩:=h (y,k) List.mem_cons_self (beq_iff_eq.mp hk)
      have hd':env.cells.lookup y=some d:=hd
      rcases closL_mem hr hm with q | q
      · rcases List.mem_cons.mp q with e | q
        · cases e
          right;rw [hd'];rfl
        · exact .inl q
      · exact .inr q
    · rw [if_neg hk] at hm
      exact closL_mem hr hm
theorem closL_acc {env:Env}:∀ {names:List (Str × NameKind)} {acc:List (Str × Addr)} {p:Str × Addr},p ∈ acc->p ∈ closL env names acc
  | [],_,_,h=>h
  | (y,k) :: r,acc,p,h=>by
    unfold closL
    split
    · exact closL_acc (List.mem_cons_of_mem _ h)
    · exact closL_acc h
theorem closL_has {env:Env}:∀ {names:List (Str × NameKind)} {acc:List (Str × Addr)} {x:Str},(x,NameKind.free) ∈ names->∃ c,(x,c) ∈ closL env names acc
  | [],_,_,h=>by cases h
  | (y,k) :: r,acc,x,h=>by
    unfold closL
    rcases List.mem_cons.mp h with e | h
    · cases e
      rw [if_pos (by rfl)]
      exact ⟨_,closL_acc List.mem_cons_self⟩
    · split
      · exact closL_has h
      · exact closL_has h
theorem lookup_of_mem {α:Type}:∀ {l:List (Str × α)} {x:Str} {c:α},(x,c) ∈ l->∃ d,l.lookup x=some d
  | (k,v) :: r,x,c,h=>by
    rw [List.lookup_cons]
    cases hb:x == k with
    | true=>exact ⟨v,rfl⟩
    | false =>
      rcases List.mem_cons.mp h with e | h
      · cases e;simp at hb
      · exact lookup_of_mem h
theorem lookup_append_some {α:Type}:∀ {l l':List (Str × α)} {x:Str} {c:α},(l ++ l').lookup x=some c->l.lookup x=some c ∨ (l.lookup x=none/\l'.lookup x=some c)
  | [],l',x,c,h=>.inr ⟨rfl,h⟩
  | (k,v) :: r,l',x,c,h=>by
    rw [List.cons_append,List.lookup_cons] at h
    rw [List.lookup_cons]
    cases hb:x == k with
    | true=>rw [hb] at h;exact .inl h
    | false=>rw [hb] at h;exact lookup_append_some h
theorem lookup_append_left {α:Type}:∀ {l l':List (Str × α)} {x:Str} {c:α},l.lookup x=some c->(l ++ l').lookup x=some c
  | [],l',x,c,h=>by cases h
  | (k,v) :: r,l',x,c,h=>by
    rw [List.cons_append,List.lookup_cons]
    rw [List.lookup_cons] at h
    cases hb:x == k with
    | true=>rw [hb] at h;exact h
    | false=>rw [hb] at h;exact lookup_append_left h
theorem lookup_append_right {α:Type}:∀ {l l':List (Str × α)} {x:Str},l.lookup x=none->(l ++ l').lookup x=l'.lookup x
  | [],l',x,h=>rfl
  | (k,v) :: r,l',x,h=>by
    rw [List.cons_append,List.lookup_cons]
    rw [List.lookup_cons] at h
    cases hb:x == k with
    | true=>rw [hb] at h;cases h
    | false=>rw [hb] at h;exact lookup_append_right h
theorem lookup_relabel {env:Env}:∀ (names:List (Str × NameKind)) (x:Str),
    (names.map fun (n,k)=>if (k == NameKind.free && env.scope.kind == .function && env.kindOf n == some .cell) then (n,NameKind.cell) else (n,k)).lookup x
     =(names.lookup x).map fun k=>if (k == NameKind.free && env.scope.kind == .function && env.kindOf x == some .cell)=true then NameKind.cell else k
  | [],x=>rfl
  | (n,k) :: r,x=>by
    have ih:=lookup_relabel (env:=env) r x
    rw [List.map_cons]
    cases hx:x == n with
    | true =>
      have e:x=n:=beq_iff_eq.mp hx
      subst e
      by_cases hc:(k == NameKind.free && env.scope.kind == .function && env.kindOf x == some .cell)=true
      · simp only [hc,if_true,List.lookup_cons,hx,Option.map_some]
      · simp only [hc,List.lookup_cons,hx,Option.map_some]
        simp
    | false =>
      show List.lookup x ((if (k == NameKind.free && env.scope.kind == .function && env.kindOf n == some .cell)=true then (n,NameKind.cell) else (n,k)) :: _)=_
      by_cases hc:(k == NameKind.free && env.scope.kind == .function && env.kindOf n == some .cell)=true
      · rw [if_pos hc]
        simp only [List.lookup_cons,hx]
        exact ih
      · rw [if_neg hc]
        simp only [List.lookup_cons,hx]
        exact ih
theorem cellsFrom_in:∀ {names:List (Str × NameKind)} {n:Nat} {acc:List (Str × Addr)} {x:Str} {d:Addr},(x,d) ∈ cellsFrom n names acc->(x,d) ∈ acc ∨ (x,NameKind.cell) ∈ names
  | [],_,_,_,_,h=>.inl h
  | (y,k) :: r,n,acc,x,d,h=>by
    unfold cellsFrom at h
    by_cases hk:(k == NameKind.cell)=true
    · rw [if_pos hk] at h
      have e:k=.cell:=beq_iff_eq.mp hk
      subst e
      rcases cellsFrom_in h with q | q
      · rcases List.mem_cons.mp q with z | z
        · cases z;exact .inr List.mem_cons_self
        · exact .inl z
      · exact .inr (List.mem_cons_of_mem _ q)
    · rw [if_neg hk] at h
      rcases cellsFrom_in h with q | q
      · exact .inl q
      · exact .inr (List.mem_cons_of_mem _ q)
def okNames (scope:Scope):Bool:=scope.names.all fun x=>scope.names.lookup x.1 == some x.2
theorem okNames_get {scope:Scope} (h:okNames scope=true) {x:Str × NameKind} (hx:x ∈ scope.names):scope.names.lookup x.1=some x.2:=beq_iff_eq.mp (List.all_eq_true.mp h x hx)
theorem relabel_kind {scope:Scope} {env:Env} {x:Str} (h:(relabel scope env).names.lookup x=some .cell ∨ (relabel scope env).names.lookup x=some .free) :
    scope.names.lookup x=some .cell ∨ scope.names.lookup x=some .free:=by
  unfold relabel at h
  rw [lookup_relabel] at h
  cases e:scope.names.lookup x with
  | none=>rw [e] at h;rcases h with h | h <;> cases h
  | some k =>
    rw [e,Option.map_some] at h
    by_cases hc:(k == NameKind.free && env.scope.kind == .function && env.kindOf x == some .cell)=true
    · rw [Bool.and_eq_true,Bool.and_eq_true] at hc
      exact .inr (by rw [beq_iff_eq.mp hc.1.1])
    · simp only [hc] at h
      simpa using h
theorem newEnv_comp {M:Model} {A:Around} {E:Value->Shared->Prop} {s:Shared} {scope:Scope} {globals:Addr} {cl:List (Str × Addr)} {qual:Str} {env:Env} {Q:Env->Shared->Prop}
    (h:Q (newEnv scope s.heap.objs.size globals (cellsFrom (s.heap.objs.size + 1) scope.names [] ++ cl) qual none .none (some env) builtinsNs)
      { s with heap:=pushCells (s.heap.push { cls:=.type "dict",data:=.dict #[] }) scope.names }) :
    wpAny M A (newFunctionEnv scope globals cl [] qual none .none (some env)) Q E s:=by
  simp only [newFunctionEnv,Option.isSome_some,if_true]
  refine wpAny_bind (wpAny_alloc ?_)
  refine wpAny_bind (wpAny_layCells _ (fun name kind cells=>by cases hkc:kind == NameKind.cell <;> simp [hkc]) _ _ _ _ ?_)
  rw [show ({ s with heap:=s.heap.push { cls:=.type "dict",data:=.dict #[] } }:Shared).heap.objs.size=s.heap.objs.size + 1 from Heap.size_push ..,cellsFrom_app]
  exact wpAny_bind (wpAny_pure (wpAny_pure h))
def Cx.comp (X:Cx) (scope:Scope) (N:List Str) (s:Shared) (H:Hp) (ex:List Addr):Cx where
  prog:=X.prog
  w:=X.w
  K:=X.K
  mg:=X.mg
  base:=X.base
  A:=X.A
  N:=N
  s₀:=s
  H₀:=H
  env:=compEnvC scope (cellsFrom (s.heap.objs.size + 1) scope.names [] ++ closL X.env scope.names []) s.heap.objs.size X.env
  outer:=X.stack
  stack:=X.stack
  ex:=ex
  fn:=fun x=>scope.names.lookup x == some .cell
  calm:=X.calm
  pn:=[]
  xe:=fun _ _=>False
def pick (ix:List (Option Nat)) (σ:St):St:=ix.map fun o=>o.bind fun i=>(σ[i]?).join
def okIx (scope:Scope) (N:List Str):List Str->List (Option Nat)->Bool
  | [],[]=>true
  | _ :: N',none :: ix=>okIx scope N N' ix
  | x :: N',some i :: ix=>N[i]? == some x && scope.names.lookup x == some .free && okIx scope N N' ix
  | _,_=>false
theorem okIx_len {scope:Scope} {N:List Str}:∀ {N':List Str} {ix:List (Option Nat)},okIx scope N N' ix=true->ix.length=N'.length
  | [],[],_=>rfl
  | _ :: N',none :: ix,h=>by simp [okIx_len (N':=N') (ix:=ix) h]
  | x :: N',some i :: ix,h=>by
    unfold okIx at h
    rw [Bool.and_eq_true] at h
    simp [okIx_len (N':=N') (ix:=ix) h.2]
  | [],_ :: _,h=>by simp [okIx] at h
  | _ :: _,[],h=>by simp [okIx] at h
theorem okIx_get {scope:Scope} {N:List Str}:∀ {N':List Str} {ix:List (Option Nat)} {j i:Nat},okIx scope N N' ix=true->ix[j]?=some (some i) ->
    ∃ x,N'[j]?=some x/\N[i]?=some x/\scope.names.lookup x=some .free
  | [],[],j,i,_,e=>by simp at e
  | y :: N',none :: ix,0,i,h,e=>by simp at e
  | y :: N',none :: ix,j + 1,i,h,e=>by
    obtain ⟨x,h1,h2⟩:=okIx_get (N':=N') (ix:=ix) (j:=j) (i:=i) h (by simpa using e)
    exact ⟨x,by simpa using h1,h2⟩
  | y :: N',some k :: ix,0,i,h,e=>by
    unfold okIx at h
    rw [Bool.and_eq_true,Bool.and_eq_true] at h
    simp at e
    subst e
    exact ⟨y,rfl,beq_iff_eq.mp h.1.1,beq_iff_eq.mp h.1.2⟩
  | y :: N',some k :: ix,j + 1,i,h,e=>by
    unfold okIx at h
    rw [Bool.and_eq_true] at h
    obtain ⟨x,h1,h2⟩:=okIx_get (N':=N') (ix:=ix) (j:=j) (i:=i) h.2 (by simpa using e)
    exact ⟨x,by simpa using h1,h2⟩
  | [],_ :: _,_,_,h,_=>by simp [okIx] at h
  | _ :: _,[],_,_,h,_=>by simp [okIx] at h
def okFree (scope:Scope) (env:Env):Bool:=scope.names.all fun x=>!(x.2 == .free) || env.kindOf x.1 == some .cell || env.kindOf x.1 == some .free
theorem okFree_get {scope:Scope} {env:Env} (h:okFree scope env=true) {x:Str × NameKind} (hx:x ∈ scope.names) (hk:x.2=.free):env.kindOf x.1=some .cell ∨ env.kindOf x.1=some .free:=by
  have:=List.all_eq_true.mp h x hx
  rw [hk] at this
  simpa using this
section
variable {X:Cx} {pins:List (Addr × Obj)} {σ:St} {H:Hp} {s:Shared} {scope:Scope} {N:List Str} {ix:List (Option Nat)} {ex:List Addr}
theorem Inv.closed (I:Inv X pins σ H s) (hf:okFree scope X.env=true):∀ x ∈ scope.names,x.2=.free->∃ c,X.env.cells.lookup x.1=some c :=
  fun x hx hk=>I.ok.has x.1 (okFree_get hf hx hk)
theorem pick_get {j:Nat} {v:V} (h:(pick ix σ)[j]?=some (some v)):∃ i,ix[j]?=some (some i)/\σ[i]?=some (some v):=by
  unfold pick at h
  rw [List.getElem?_map] at h
  cases e:ix[j]? with
  | none=>rw [e] at h;cases h
  | some o =>
    rw [e] at h
    cases o with
    | none=>cases h
    | some i =>
      refine ⟨i,rfl,?_⟩
      have h':(σ[i]?).join=some v:=Option.some.inj h
      cases q:σ[i]? with
      | none=>rw [q] at h';cases h'
      | some z=>rw [q] at h';exact congrArg some h'
theorem Inv.comp (I:Inv X pins σ H s) (hk:scope.kind=.function) (hnm:okNames scope=true) (hf:okFree scope X.env=true) (hx:okIx scope X.N N ix=true)
    (hex:∀ b ∈ ex,H b=none/\b ≠ X.env.locals/\b ∉ X.fs/\(b ∈ X.ex ∨ X.s₀.heap.objs.size <= b)/\(∀ x c,X.env.cells.lookup x=some c->c ≠ b)/\b < s.heap.objs.size) :
    Inv (X.comp scope N s H ex) [] (pick ix σ) H { s with heap:=pushCells (s.heap.push { cls:=.type "dict",data:=.dict #[] }) scope.names }:=by
  have hcl:=I.closed hf
  have hkeep:∀ b o,s.heap.get? b=some o->(pushCells (s.heap.push { cls:=.type "dict",data:=.dict #[] }) scope.names).get? b=some o:=fun b o e=>pushCells_keeps _ _ b o (Heap.get?_push_of_some _ e)
  have ok:=cellsFrom_ok scope.names (s.heap.push { cls:=.type "dict",data:=.dict #[] }) (s.heap.objs.size + 1) [] ⟨fun _ _ hm=>(nomatch hm),List.Pairwise.nil⟩ (by rw [Heap.size_push];exact Nat.le_refl _)
  rw [Heap.size_push] at ok
  have hns:(pushCells (s.heap.push { cls:=.type "dict",data:=.dict #[] }) scope.names).Ns s.heap.objs.size (fun _=>none):=(Heap.Ns.new s.heap (.type "dict")).keeps (pushCells_keeps _ _)
  have cells:∀ x c,(X.comp scope N s H ex).env.cells.lookup x=some c->(x,c) ∈ cellsFrom (s.heap.objs.size + 1) scope.names [] ∨ X.env.cells.lookup x=some c:=fun x c e=>by
    have e':(cellsFrom (s.heap.objs.size + 1) scope.names [] ++ closL X.env scope.names []).lookup x=some c:=e
    rcases lookup_append_some e' with q | ⟨_,q⟩
    · exact .inl (mem_of_lookup q)
    · rcases closL_mem hcl (mem_of_lookup q) with z | z
      · cases z
      · exact .inr z
  have old:∀ x c,X.env.cells.lookup x=some c->c + 1 <= s.heap.objs.size:=fun x c e=>let ⟨v,q⟩:=I.cell x c e;q.lt
  have own:∀ x c,(x,c) ∈ cellsFrom (s.heap.objs.size + 1) scope.names []->s.heap.objs.size + 1 <= c:=fun x c e=>(ok.empty x c e).2
  refine ⟨⟨I.ok.mod,hk,I.ok.glob,I.ok.blt,Nat.le_refl _,fun x y c h1 h2=>?_,fun x h1=>?_,fun x c h1 h2=>?_,I.ok.hd,I.ok.frames,.inl rfl,fun b hb=>⟨?_,fun x c e=>?_⟩,I.bs,Nat.le_trans I.ok.bsz I.sz,fun b o e hb=>?_,fun b hb hb'=>?_,I.stack,I.stkFree⟩,
    rfl,I.bare,Un.kept hkeep,⟨_,hns,fun j x v h1 h2 h3=>?_⟩,fun x c e=>?_,I.hok.fresh (Nat.le_refl _),fun x c e=>?_,fun p hp=>absurd (show p ∈ ([]:List (Addr × Obj)) from hp) (by simp),I.hok.kept hkeep,?_⟩
  · rcases cells x c h1 with q1 | q1 <;> rcases cells y c h2 with q2 | q2
    · exact name_of_addr ok.apart q1 q2
    · exact absurd (Nat.le_trans (own _ _ q1) (Nat.le_trans (Nat.le_succ _) (old _ _ q2))) (Nat.not_succ_le_self _)
    · exact absurd (Nat.le_trans (own _ _ q2) (Nat.le_trans (Nat.le_succ _) (old _ _ q1))) (Nat.not_succ_le_self _)
    · exact I.ok.inj x y c q1 q2
  · have h1':scope.names.lookup x=some .cell ∨ scope.names.lookup x=some .free:=relabel_kind h1
    rcases h1' with q | q
    · obtain ⟨c,e⟩:=cell_has (n:=s.heap.objs.size + 1) (sc:=scope) q
      exact ⟨c,lookup_append_left e⟩
    · obtain ⟨c,e⟩:=closL_has (env:=X.env) (acc:=[]) (mem_of_lookup q)
      cases z:(cellsFrom (s.heap.objs.size + 1) scope.names []).lookup x with
      | some d=>exact ⟨d,lookup_append_left z⟩
      | none =>
        obtain ⟨d,e'⟩:=lookup_of_mem e
        exact ⟨d,(lookup_append_right z).trans e'⟩
  · have h1':scope.names.lookup x=some .cell:=beq_iff_eq.mp h1
    obtain ⟨d,e⟩:=cell_has (n:=s.heap.objs.size + 1) (sc:=scope) h1'
    have e':(cellsFrom (s.heap.objs.size + 1) scope.names [] ++ closL X.env scope.names []).lookup x=some c:=h2
    rw [lookup_append_left e] at e'
    cases e'
    exact Nat.le_trans (Nat.le_succ _) (own _ _ (mem_of_lookup e))
  · exact Nat.ne_of_lt (hex b hb).2.2.2.2.2
  · rcases cells x c e with q | q
    · exact Nat.ne_of_gt (Nat.lt_of_lt_of_le (hex b hb).2.2.2.2.2 (Nat.le_trans (Nat.le_succ _) (own _ _ q)))
    · exact (hex b hb).2.2.2.2.1 x c q
  · rcases (hex b hb).2.2.2.1 with z | z
    · exact I.ok.noex b o e z
    · exact absurd (Nat.lt_of_lt_of_le (Heap.lt_size e) (Nat.le_trans I.ok.bsz z)) (Nat.lt_irrefl _)
  · rcases List.mem_cons.mp (I.stkSub b hb') with z | z
    · exact (hex b hb).2.1 z
    · exact (hex b hb).2.2.1 z
  · obtain ⟨i,e1,e2⟩:=pick_get h2
    obtain ⟨y,f1,f2,f3⟩:=okIx_get hx e1
    have exy:x=y:=by
      have h1':N[j]?=some x:=h1
      rw [f1] at h1';exact (Option.some.inj h1').symm
    subst exy
    obtain ⟨m,hm,hl⟩:=I.loc
    have kx:=okFree_get hf (mem_of_lookup f3) rfl
    have vis:Vis X.env.scope x:=by
      rcases kx with k | k
      · exact .inr (.inl k)
      · exact .inr (.inr k)
    obtain ⟨u,ru,l⟩:=hl i x v f2 e2 vis
    refine ⟨u,ru,.inr ?_⟩
    have hv:(relabel scope X.env).names.lookup x=some .cell ∨ (relabel scope X.env).names.lookup x=some .free:=by
      unfold relabel
      rw [lookup_relabel,f3,Option.map_some]
      split
      · exact .inl rfl
      · exact .inr rfl
    refine ⟨hv,?_⟩
    rcases l with ⟨k,_⟩ | ⟨k,c,ec,z⟩
    · have k':X.env.kindOf x=some .local:=k
      rcases kx with q | q <;> rw [q] at k' <;> cases k'
    · obtain ⟨d,ed⟩:=closL_has (env:=X.env) (acc:=[]) (mem_of_lookup f3)
      have nocell:(cellsFrom (s.heap.objs.size + 1) scope.names []).lookup x=none ∨ ∃ d,(cellsFrom (s.heap.objs.size + 1) scope.names []).lookup x=some d:=by
        cases (cellsFrom (s.heap.objs.size + 1) scope.names []).lookup x with
        | none=>exact .inl rfl
        | some d=>exact .inr ⟨d,rfl⟩
      rcases nocell with q | ⟨d',q⟩
      · obtain ⟨d2,ed2⟩:=lookup_of_mem ed
        have hd2:X.env.cells.lookup x=some d2:=by
          rcases closL_mem hcl (mem_of_lookup ed2) with z | z
          · cases z
          · exact z
        rw [ec] at hd2
        cases hd2
        exact ⟨c,(lookup_append_right q).trans ed2,z.keeps hkeep⟩
      · -- a name is not both free and a cell of the block
        exfalso
        rcases cellsFrom_in (mem_of_lookup q) with z | z
        · cases z
        · have z':=okNames_get hnm z
          rw [f3] at z'
          cases z'
  · rcases cells x c e with q | q
    · exact ⟨none,(ok.empty x c q).1⟩
    · obtain ⟨v,z⟩:=I.cell x c q
      exact ⟨v,z.keeps hkeep⟩
  · rcases cells x c e with q | q
    · exact I.hok.fresh (Nat.le_trans (Nat.le_succ _) (own x c q))
    · exact I.freeC x c q
  · show (pick ix σ).length=N.length
    unfold pick
    rw [List.length_map]
    exact okIx_len hx
end
end L2
namespace L2
open PySem PySem.Spec PyProof.Rows
section
variable {prog:Program} {w:World} {A:Around} {R:Result->Shared->Prop} {s:Shared}
theorem compLoop_any {elt target iter:Expr} {ifs:List Expr} {scope:Scope} {pos:Pos} {it acc:Value} {env:Env} (I:Nat->Shared->Prop)
    (turn:∀ n s,I n s->wpAny (model prog w) A (pyNext it) (fun r s₁=>match r with
      | none=>R (.ok .next) s₁
      | some v=>wpAny (model prog w) A (letOwnedTupleGo target it v) (fun _ s₁'=>wpAny (model prog w) A (assign target env v) (fun _ s₂ =>
          wpAny (model prog w) A (forIn ifs true fun c r=>if r=true then do let ok <- isTrue c env (eval c env);pure (ForInStep.yield ok) else pure (ForInStep.yield r)) (fun ok s₃ =>
            if ok=true then wpAny (model prog w) A (eval elt env) (fun x s₄ =>
              wpAny (model prog w) A (call (.builtin "list.append") [acc,x]) (fun _ s₅=>∃ m,m < n/\I m s₅) (fun _ _=>False) s₄) (fun _ _=>False) s₃
            else ∃ m,m < n/\I m s₃) (fun _ _=>False) s₂) (fun _ _=>False) s₁') (fun _ _=>False) s₁) (fun _ _=>False) s)
    (n:Nat) (h:I n s) :
    codeAny (model prog w) A (.compLoop (.ListComp elt [⟨target,iter,ifs,0⟩] scope pos) 0 it acc env) R s:=by
  refine codeAny_loop rfl I (fun n s hI=>?_) n h
  show wpAny _ A ((compTurn (.ListComp elt [⟨target,iter,ifs,0⟩] scope pos) 0 it acc env).onRaise (fun x=>do noteFrame x env;theTreesLotGoes x)) _ _ s
  refine wpAny_noted ?_
  rw [compTurn_list]
  refine wpAny_bind (wpAny_standAt (wpAny_bind (wpAny_mono (turn n s hI) (fun r s₁ h₁=>?_) fun _ _ h'=>h'.elim)))
  cases r with
  | none=>exact wpAny_pure h₁
  | some v =>
    refine wpAny_bind (wpAny_mono h₁ (fun _ s₁' h₁'=>?_) fun _ _ h'=>h'.elim)
    refine wpAny_bind (wpAny_mono h₁' (fun _ s₂ h₂=>wpAny_bind (wpAny_mono h₂ (fun ok s₃ h₃=>?_) fun _ _ h'=>h'.elim)) fun _ _ h'=>h'.elim)
    cases ok with
    | false=>exact wpAny_pure ⟨rfl,h₃⟩
    | true =>
      exact wpAny_bind (wpAny_bind (wpAny_mono h₃ (fun x s₄ h₄=>wpAny_bind (wpAny_mono h₄ (fun _ s₅ h₅=>wpAny_pure (wpAny_pure ⟨rfl,h₅⟩)) fun _ _ h'=>h'.elim)) fun _ _ h'=>h'.elim))
end
def Wk (σ σ2:St):Prop:=σ.length=σ2.length/\∀ (i:Nat) v,σ[i]?=some (some v)->σ2[i]?=some (some v)
theorem Wk.set {σ:St} {i:Nat} {v:V} (h:σ[i]?=some none ∨ σ[i]?=none):Wk σ (σ.set i (some v)):=by
  refine ⟨by simp,fun j u e=>?_⟩
  by_cases hj:j=i
  · subst hj
    rcases h with h | h <;> rw [h] at e <;> cases e
  · rw [List.getElem?_set_ne (Ne.symm hj)]
    exact e
section
variable {X:Cx} {pins:List (Addr × Obj)} {σ:St} {H H':Hp} {s s':Shared} {scope:Scope} {N:List Str} {ix:List (Option Nat)} {fp:List Addr}
abbrev accS (s:Shared):Shared:={ s with heap:=s.heap.push { cls:=.type "list",dict:=none,data:=.seq ([]:List Value).toArray } }
theorem acc_size (s:Shared):(accS s).heap.objs.size=s.heap.objs.size + 1:=Heap.size_push ..
theorem Inv.comp_end {pins':List (Addr × Obj)} {σ':St} {ys:List V} {its:List Value} {n:Nat} {h':Heap} (I:Inv X pins σ H s) (J:Inv (X.comp scope N (accS s) H (s.heap.objs.size :: fp)) pins' σ' H' s') (hfp:∀ b ∈ fp,FpOk X pins H b)
    (hD:H' s.heap.objs.size=none) (hl:s'.heap.get? s.heap.objs.size=some { cls:=.type "list",data:=.seq its.toArray n }) (hv:Vals ys its) (hz:ys.length <= sizeLine)
    (hs:Heap.SameBut (accS s).heap.objs.size s'.heap h'):Inv X pins σ (upd H' s.heap.objs.size (.lst ys)) { s' with heap:=h' }:=by
  have oldC:∀ b,b < s.heap.objs.size->b ≠ (accS s).heap.objs.size:=fun b hb=>by rw [acc_size];exact Nat.ne_of_lt (Nat.lt_succ_of_lt hb)
  have DC:s.heap.objs.size ≠ (accS s).heap.objs.size:=by rw [acc_size];exact Nat.ne_of_lt (Nat.lt_succ_self _)
  have pushed:∀ b o,s.heap.get? b=some o->(accS s).heap.get? b=some o:=fun b o e=>Heap.get?_push_of_some _ e
  have nex:∀ b o,s.heap.get? b=some o->b ∉ fp->b ∉ (X.comp scope N (accS s) H (s.heap.objs.size :: fp)).ex:=fun b o e hb z=>by
    rcases List.mem_cons.mp (show b ∈ s.heap.objs.size :: fp from z) with z | z
    · rw [z] at e;exact absurd (Heap.lt_size e) (Nat.lt_irrefl _)
    · exact hb z
  have U:=J.base
  have un:Un (frs X.stack) fp H (upd H' s.heap.objs.size (.lst ys)) s.heap h':=by
    refine ⟨fun b o e n hb hx=>?_,fun b o e n hb hx=>?_,fun b o e n hx=>?_,fun b o e hx=>?_,fun b xs e=>?_,fun b o u e=>?_,fun b ps e=>?_⟩
    · exact (hs.2 b (oldC b (Heap.lt_size e))).trans (U.keep b o (pushed b o e) n hb (nex b o e hx))
    · obtain ⟨sl,q⟩:=U.slot b o (pushed b o e) n hb (nex b o e hx)
      exact ⟨sl,(hs.2 b (oldC b (Heap.lt_size e))).trans q⟩
    · rw [upd_ne (Nat.ne_of_lt (Heap.lt_size e))]
      exact U.free b o (pushed b o e) n (nex b o e hx)
    · obtain ⟨o',q⟩:=U.there b o (pushed b o e) (nex b o e hx)
      exact ⟨o',(hs.2 b (oldC b (Heap.lt_size e))).trans q⟩
    · have q:=U.tups b xs e
      rw [upd_ne (ne_of_none q hD)];exact q
    · have q:=U.frzs b o u e
      rw [upd_ne (ne_of_none q hD)];exact q
    · obtain ⟨m,q⟩:=U.tbls b ps e
      exact ⟨m,by rw [upd_ne (ne_of_none q hD)];exact q⟩
  have hC:H' (accS s).heap.objs.size=none:=J.free
  have hok:HOk X.prog X.w (upd H' s.heap.objs.size (.lst ys)) h':=fun b u e=>by
    by_cases hb:b=s.heap.objs.size
    · subst hb
      rw [upd_same] at e;cases e
      exact ⟨hz,its,n,hv,(hs.2 _ DC).trans hl⟩
    · rw [upd_ne hb] at e
      refine (J.hok b u e).stay (fun c v hc q=>(hs.2 c ?_).trans q) (fun c q=>by rw [upd_ne (ne_of_none q hD)];exact q) fun c xs q=>by rw [upd_ne (ne_of_none q hD)];exact q
      rintro rfl
      rcases hc with z | z
      · rw [<- z,hC] at e;cases e
      · rw [hC] at z;cases z
  exact I.call' (s':={ s' with heap:=h' }) (ch:=fp) J.os un hok J.bare fun b hb=>⟨(hfp b hb).2.2.2.1,(hfp b hb).2.1,(hfp b hb).2.2.2.2.1,(hfp b hb).2.2.2.2.2⟩
end
section
variable {X:Cx} {scope:Scope} {N:List Str} {ix:List (Option Nat)} {elt target iter:Expr} {ifs:List Expr} {pos:Pos} {wi:TI} {g:TG} {te:TE} {tc:TT}
def PIfs (X:Cx) (ifs:List Expr) (t:TT):Prop :=
  ∀ (pins:List (Addr × Obj)) (s:Shared) (σ:St) (H:Hp) (Q:Bool->Hp->Prop),Inv X pins σ H s->t σ H Q ->
    wpAny (model X.prog X.w) X.A (forIn ifs true fun c r=>if r=true then do let ok <- isTrue c X.env (eval c X.env);pure (ForInStep.yield ok) else pure (ForInStep.yield r)) (TP X pins σ Q) X.xe s
def tTrue:TT:=fun _ H Q=>Q true H
theorem pifs_nil:PIfs X [] tTrue:=fun _ _ _ H _ I h=>wpAny_tests_nil ⟨H,I,h⟩
def Blk (J:It) (σ0:St) (g:TG) (tc:TT) (te:TE) (H1:Hp) (F:List V->Hp->Prop):Prop:=∃ W:Nat->Nat->List V->Hp->Prop,(∃ m,W 0 m [] H1)/\∀ i m ys H2,W i m ys H2->ys.length <= sizeLine /\
  ((J.stop i H2/\F ys H2) ∨
   (J.go i H2/\∃ (Ny:V->Hp->Prop) (Nn:Hp->Prop),(∀ y H,Ny y H->∃ m',m' < m/\W (i + 1) m' (ys ++ [y]) H)/\(∀ H,Nn H->∃ m',m' < m/\W (i + 1) m' ys H) /\
     ∀ x H3,J.yld i H2 x H3->g x σ0 H3 fun σ2 H4=>Wk σ0 σ2/\tc σ2 H4 fun b H5=>if b=true then te σ2 H5 Ny else Nn H5))
theorem comp_run {pins:List (Addr × Obj)} {σ:St} {H:Hp} {s:Shared} {it:Addr} {fp:List Addr} {tn:Nat->Heap->Prop} {J:It} {F:List V->Hp->Prop} {E:Value->Shared->Prop} {RR:Value->Addr->Result->Shared->Prop}
    (hc:X.calm=true) (hk:scope.kind=.function) (hnm:okNames scope=true) (hf:okFree scope X.env=true) (hx:okIx scope X.N N ix=true)
    (hg:∀ s H ex,PG (X.comp scope N s H ex) target g) (ht:∀ s H ex,PIfs (X.comp scope N s H ex) ifs tc) (he:PE (X.comp scope N (accS s) H (s.heap.objs.size :: fp)) elt te)
    (I:Inv X pins σ H s) (T:Turn X.prog X.w X.K target J fp it tn) (st:tn 0 s.heap) (hfp:∀ b ∈ fp,FpOk X pins H b) (B:Blk J (pick ix σ) g tc te H F)
    (fin:∀ (ys:List V) (H':Hp) (s':Shared) (σ':St) (its:List Value) (n:Nat),Inv (X.comp scope N (accS s) H (s.heap.objs.size :: fp)) [] σ' H' s'->H' s.heap.objs.size=none ->
      s'.heap.get? s.heap.objs.size=some { cls:=.type "list",data:=.seq its.toArray n }->Vals ys its->ys.length <= sizeLine->F ys H'->RR (.ref s.heap.objs.size) (accS s).heap.objs.size (.ok .next) s') :
    wpAny (model X.prog X.w) X.A (newList []) (fun acc s₃=>wpAny (model X.prog X.w) X.A (newFunctionEnv scope X.env.globals (closL X.env scope.names []) [] X.env.qual none .none (some X.env)) (fun cenv s₄ =>
      codeAny (model X.prog X.w) X.A (.compStart (.ListComp elt [⟨target,iter,ifs,0⟩] scope pos) 0 (.ref it) acc { cenv with scope:=relabel scope X.env }) (RR acc cenv.locals) s₄) E s₃) E s:=by
  refine wpAny_newObj_type (newEnv_comp ?_) (by show ([]:List Value).toArray.size <= sizeLine;exact Nat.zero_le _)
  obtain ⟨W,⟨m0,w0⟩,turn⟩:=B
  have I1:Inv X pins σ H (accS s):=I.kept (t':=s.toks) fun b o e=>Heap.get?_push_of_some _ e
  have fpLt:∀ b ∈ fp,b < s.heap.objs.size:=fun b hb=>let ⟨o,e,_⟩:=T.obj 0 _ st b hb;Heap.lt_size e
  have accE:(accS s).heap.get? s.heap.objs.size=some { cls:=.type "list",dict:=none,data:=.seq ([]:List Value).toArray }:=Heap.get?_push_size _ rfl
  have fD:FpOk X pins H s.heap.objs.size:=I.fpOk (Nat.le_refl _) (I.hok.fresh (Nat.le_refl _))
  have J0:Inv (X.comp scope N (accS s) H (s.heap.objs.size :: fp)) [] (pick ix σ) H _:=I1.comp (N:=N) (ix:=ix) (ex:=s.heap.objs.size :: fp) hk hnm hf hx fun b hb=>by
    rcases List.mem_cons.mp hb with z | z
    · subst z
      exact ⟨fD.1,fD.2.1,fD.2.2.1,fD.2.2.2.1,fD.2.2.2.2.1,by rw [acc_size];exact Nat.lt_succ_self _⟩
    · obtain ⟨f0,f1,f2,f3,f4,_⟩:=hfp b z
      exact ⟨f0,f1,f2,f3,f4,by rw [acc_size];exact Nat.lt_succ_of_lt (fpLt b z)⟩
  have keep0:∀ b o,(accS s).heap.get? b=some o->(pushCells ((accS s).heap.push { cls:=.type "dict",data:=.dict #[] }) scope.names).get? b=some o:=fun b o e=>pushCells_keeps _ _ b o (Heap.get?_push_of_some _ e)
  have st0:tn 0 (pushCells ((accS s).heap.push { cls:=.type "dict",data:=.dict #[] }) scope.names):=T.keep 0 _ _ st fun b hb o e=>keep0 b o (Heap.get?_push_of_some _ e)
  have exOk:∀ b ∈ s.heap.objs.size :: fp,b ≠ (X.comp scope N (accS s) H (s.heap.objs.size :: fp)).env.locals/\b ∉ (X.comp scope N (accS s) H (s.heap.objs.size :: fp)).fs /\
      ∀ x c,(X.comp scope N (accS s) H (s.heap.objs.size :: fp)).env.cells.lookup x=some c->c ≠ b:=fun b hb=>⟨(J0.ok.exf b hb).1,J0.ok.exfs b hb,(J0.ok.exf b hb).2⟩
  have stat:∀ {H':Hp} {o:Obj},(∀ b ∈ fp,H' b=none)->∀ b ∈ fp,FpOk (X.comp scope N (accS s) H (s.heap.objs.size :: fp)) [(s.heap.objs.size,o)] H' b:=fun {H' o} hn b hb=>by
    obtain ⟨e1,e2,e3⟩:=exOk b (List.mem_cons_of_mem _ hb)
    refine ⟨hn b hb,e1,e2,.inl (List.mem_cons_of_mem _ hb),e3,fun p hp=>?_⟩
    have hp':p ∈ [(s.heap.objs.size,o)]:=(List.mem_append.mp hp).elim (fun z=>absurd (show p ∈ ([]:List (Addr × Obj)) from z) (by simp)) id
    rw [List.mem_singleton.mp hp']
    exact Nat.ne_of_gt (fpLt b hb)
  have loop:codeAny (model X.prog X.w) X.A (.compLoop (.ListComp elt [⟨target,iter,ifs,0⟩] scope pos) 0 (.ref it) (.ref s.heap.objs.size) (X.comp scope N (accS s) H (s.heap.objs.size :: fp)).env) (RR (.ref s.heap.objs.size) (accS s).heap.objs.size)
      { accS s with heap:=pushCells ((accS s).heap.push { cls:=.type "dict",data:=.dict #[] }) scope.names }:=by
    refine compLoop_any (fun n s'=>∃ i ys its k H',Inv (X.comp scope N (accS s) H (s.heap.objs.size :: fp)) [] (pick ix σ) H' s'/\tn i s'.heap/\(∀ b ∈ fp,H' b=none)/\H' s.heap.objs.size=none /\
      s'.heap.get? s.heap.objs.size=some { cls:=.type "list",data:=.seq (its:List Value).toArray k }/\Vals ys its/\W i n ys H') ?_ m0
      ⟨0,[],[],0,H,J0,st0,fun b hb=>(hfp b hb).1,fD.1,keep0 _ _ accE,.nil,w0⟩
    rintro n s3 ⟨i,ys,its,k,H3,I3,st3,fr3,d3,l3,v3,w3⟩
    obtain ⟨hz,hw⟩:=turn i n ys H3 w3
    have pinD:Inv (X.comp scope N (accS s) H (s.heap.objs.size :: fp)) [(s.heap.objs.size,{ cls:=.type "list",data:=.seq its.toArray k })] (pick ix σ) H3 s3:=I3.pins_of fun p hp=>by
      rw [List.mem_singleton.mp hp]
      exact ⟨l3,d3,(exOk _ List.mem_cons_self).1,(exOk _ List.mem_cons_self).2.1,fun v z=>by cases z⟩
    rcases hw with ⟨stop,fy⟩ | ⟨go,Ny,Nn,hNy,hNn,step⟩
    · refine thn (T.done (X.comp scope N (accS s) H (s.heap.objs.size :: fp)) rfl rfl rfl hc i _ s3 (pick ix σ) H3 (fun _ _=>False) pinD (stat fr3) st3 stop) fun r s4 ⟨hr,I4⟩=>?_
      subst hr
      have q:=(I4.pin (s.heap.objs.size,_) (List.mem_append_right _ List.mem_cons_self)).1
      exact fin ys H3 s4 _ its k (I4.pins_of fun p hp=>by cases hp) d3 q v3 hz fy
    · refine thn (T.item (X.comp scope N (accS s) H (s.heap.objs.size :: fp)) rfl rfl rfl hc i _ s3 (pick ix σ) H3 (fun _ _=>False) pinD (stat fr3) st3 go) fun r s4 ⟨u,hr,h4⟩=>?_
      subst hr
      refine thn h4 fun _ s5 ⟨x,H5,I5,r5,y5,st5,fr5⟩=>?_
      have I5':=I5.pinned (stat fr5) (T.obj _ _ st5)
      refine thn (hg (accS s) H (s.heap.objs.size :: fp) _ s5 (pick ix σ) H5 x u _ I5' r5 (step x H5 y5)) fun _ s6 ⟨σ6,H6,I6,wk6,q6⟩=>?_
      refine thn (ht (accS s) H (s.heap.objs.size :: fp) _ s6 σ6 H6 _ I6 q6) fun ok s7 ⟨H7,I7,q7⟩=>?_
      cases ok with
      | false =>
        obtain ⟨m',hm,w7⟩:=hNn H7 q7
        refine ⟨m',hm,i + 1,ys,its,k,H7,(I7.weak wk6.1 wk6.2).pins_of (fun p hp=>by cases hp),?_,fun b hb=>?_,?_,?_,v3,w7⟩
        · exact T.keep _ _ _ st5 fun b hb o e=>(I7.pin (b,o) (List.mem_append_right _ (List.mem_append_right _ (mem_pinsAt hb e)))).1
        · obtain ⟨o,e,d⟩:=T.obj _ _ st5 b hb
          exact (I7.pin (b,o) (List.mem_append_right _ (List.mem_append_right _ (mem_pinsAt hb e)))).2.1
        · exact (I7.pin (s.heap.objs.size,_) (List.mem_append_right _ (List.mem_append_left _ List.mem_cons_self))).2.1
        · exact (I7.pin (s.heap.objs.size,_) (List.mem_append_right _ (List.mem_append_left _ List.mem_cons_self))).1
      | true =>
        show wpAny _ _ _ _ _ _
        refine thn (he _ s7 σ6 H7 _ I7 q7) fun yv s8 ⟨y,H8,I8,r8,q8'⟩=>?_
        obtain ⟨m',hm,w8⟩:=hNy y H8 q8'
        have q8:=I8.pin (s.heap.objs.size,_) (List.mem_append_right _ (List.mem_append_left _ List.mem_cons_self))
        refine wpAny_list_append_plain (l:=s.heap.objs.size) (items:=its.toArray) ⟨k,q8.1⟩ (fun h' hl' sb=>?_) (by rw [List.size_toArray,<- v3.length];exact hz)
        obtain ⟨k',hl'⟩:=hl'
        have I9:Inv (X.comp scope N (accS s) H (s.heap.objs.size :: fp)) [] (pick ix σ) H8 { s8 with heap:=h' }:=((I8.weak wk6.1 wk6.2).pins_of (pins':=[]) (fun p hp=>by cases hp)).turned (t':=s8.toks) (it:=s.heap.objs.size)
          (fun b o hb e=>(sb.2 b hb).trans e) q8.2.1 (exOk _ List.mem_cons_self).1 (.inl List.mem_cons_self) (exOk _ List.mem_cons_self).2.2 (fun p hp=>absurd (show p ∈ ([]:List (Addr × Obj)) from hp) (by simp))
        refine ⟨m',hm,i + 1,ys ++ [y],its ++ [yv],k',H8,I9,?_,fun b hb=>?_,q8.2.1,?_,v3.append (.cons r8 .nil),w8⟩
        · refine T.keep _ _ _ st5 fun b hb o e=>(sb.2 b (Nat.ne_of_lt (fpLt b hb))).trans (I8.pin (b,o) (List.mem_append_right _ (List.mem_append_right _ (mem_pinsAt hb e)))).1
        · obtain ⟨o,e,d⟩:=T.obj _ _ st5 b hb
          exact (I8.pin (b,o) (List.mem_append_right _ (List.mem_append_right _ (mem_pinsAt hb e)))).2.1
        · have e:its.toArray.push yv=(its ++ [yv]).toArray:=by simp
          rw [<- e];exact hl'
  exact codeAny_compStart_list loop (T.self _ 0 _ _ _ st0 loop)
theorem pe_compG (hc:X.calm=true) (hi:PI X target iter wi) (hg:∀ s H ex,PG (X.comp scope N s H ex) target g) (ht:∀ s H ex,PIfs (X.comp scope N s H ex) ifs tc) (he:∀ s H ex,PE (X.comp scope N s H ex) elt te)
    (hk:scope.kind=.function) (hnm:okNames scope=true) (hf:okFree scope X.env=true) (hx:okIx scope X.N N ix=true) (hs:∀ x,foldedSetIterable iter X.env x=pure x) :
    PE X (.ListComp elt [⟨target,iter,ifs,0⟩] scope pos) (fun σ H Q=>wi σ H fun J H1=>Blk J (pick ix σ) g tc te H1 fun ys H2=>∀ p,H2 p=none->Q (.ref p) (upd H2 p (.lst ys))):=by
  intro pins s σ H Q I h
  rw [eval_ListComp]
  refine wpAny_comprehension_free (use:=none) rfl hs (closureFor_eq (I.closed hf)) hk (fun x hx hl=>(okNames_get hnm hx).trans (by rw [hl])) ?_
  refine thn (hi pins s σ H _ I h) fun v s1 h1=>thn h1 fun itv s2 h2=>?_
  obtain ⟨it,fp,tn,J,H2,e,I2,T,st2,f2,B⟩:=h2
  subst e
  refine comp_run (RR:=fun acc C=>compPost (model X.prog X.w) X.A X.xe none (EP X pins σ Q) acc C) hc hk hnm hf hx hg ht (he _ _ _) I2 T st2 f2 B ?_
  intro ys H' s' σ' its n J' hD hl hv hz hF
  obtain ⟨m,hm,_⟩:=J'.loc
  exact ⟨m,hm,fun h' hs'=>⟨.ref s2.heap.objs.size,_,I2.comp_end J' f2 hD hl hv hz hs',rfl,hF _ hD⟩⟩
theorem ps_setcompG {i:Nat} {y:Str} {py spos:Pos} (hc:X.calm=true) (hN:X.N.Nodup) (hn:X.N[i]?=some y) (hy:X.env.scope.names.lookup y=some .local)
    (hi:PI X target iter wi) (hg:∀ s H ex,PG (X.comp scope N s H ex) target g) (ht:∀ s H ex,PIfs (X.comp scope N s H ex) ifs tc) (he:∀ s H ex,PE (X.comp scope N s H ex) elt te)
    (hk:scope.kind=.function) (hnm:okNames scope=true) (hf:okFree scope X.env=true) (hx:okIx scope X.N N ix=true) (hs:∀ x,foldedSetIterable iter X.env x=pure x)
    (hsw:swapsWith (.ListComp elt [⟨target,iter,ifs,0⟩] scope pos) (some (.Name y py)) spos.line X.env=pure true) :
    PS X (.Assign [.Name y py] (.ListComp elt [⟨target,iter,ifs,0⟩] scope pos) spos) (fun D σ H=>wi σ H fun J H1=>Blk J (pick ix σ) g tc te H1 fun ys H2=>∀ p,H2 p=none->D.nx (σ.set i (some (.ref p))) (upd H2 p (.lst ys))):=by
  intro pins s σ H D I h
  rw [exec_Assign_Name_used _ _ _ _ hsw]
  refine wpAny_bind (wpAny_standAt (wpAny_bind ?_))
  show wpAny _ X.A (do let _ <- comprehension (.ListComp elt [⟨target,iter,ifs,0⟩] scope pos) scope X.env _ (newList []) false (eval iter X.env) (some (assign (.Name y py) X.env))) _ _ s
  refine wpAny_bind (thn (wpAny_comprehension_free (use:=some (assign (.Name y py) X.env)) (Q:=fun _ s'=>SP X pins D .next s') rfl hs (closureFor_eq (I.closed hf)) hk (fun x hx hl=>(okNames_get hnm hx).trans (by rw [hl])) ?_) fun _ s' hq=>wpAny_pure (wpAny_pure hq))
  refine thn (hi pins s σ H _ I h) fun v s1 h1=>thn h1 fun itv s2 h2=>?_
  obtain ⟨it,fp,tn,J,H2,e,I2,T,st2,f2,B⟩:=h2
  subst e
  refine comp_run (RR:=fun acc C=>compPost (model X.prog X.w) X.A X.xe (some (assign (.Name y py) X.env)) (fun _ s'=>SP X pins D .next s') acc C) hc hk hnm hf hx hg ht (he _ _ _) I2 T st2 f2 B ?_
  intro ys H' s' σ' its n J' hD hl hv hz hF
  obtain ⟨m,hm,_⟩:=J'.loc
  have I3:=I2.comp_end (h':=s'.heap) J' f2 hD hl hv hz (.refl ..)
  show wpAny _ X.A (assign (.Name y py) X.env (.ref s2.heap.objs.size)) _ _ _
  refine wpAny_assign_Name (store_ok2 (v:=.ref s2.heap.objs.size) I3 hN hn (.inl hy) rfl (fun s'' I4 hsb=>?_) (.inr hy))
  obtain ⟨a,sb,ha⟩:=hsb
  have hCa:(accS s2).heap.objs.size ≠ a:=by
    rw [acc_size]
    rcases ha with z | z
    · rw [z];exact Nat.ne_of_gt (Nat.lt_succ_of_lt I2.lt)
    · obtain ⟨v,q⟩:=I2.cell y a z
      exact Nat.ne_of_gt (Nat.lt_succ_of_lt q.lt)
  have hC2:(upd H' s2.heap.objs.size (.lst ys)) (accS s2).heap.objs.size=none:=by
    rw [upd_ne (by rw [acc_size];exact Nat.ne_of_gt (Nat.lt_succ_self _))]
    exact J'.free
  refine ⟨m,hm.sameBut sb hCa,fun h' hs'=>?_⟩
  refine ⟨_,_,?_,hF _ hD⟩
  obtain ⟨m2,n2,_⟩:=id I4.loc
  refine I4.turned (t':=s''.toks) (it:=(accS s2).heap.objs.size) (fun b o hb e=>(hs'.2 b hb).trans e) hC2 ?_ ?_ ?_ ?_
  · rw [acc_size];exact Nat.ne_of_gt (Nat.lt_succ_of_lt I2.lt)
  · rw [acc_size];exact .inr (Nat.le_trans I2.sz (Nat.le_succ _))
  · intro x c e
    obtain ⟨v,q⟩:=I2.cell x c e
    rw [acc_size];exact Nat.ne_of_lt (Nat.lt_succ_of_lt q.lt)
  · intro p hp
    rw [acc_size];exact Nat.ne_of_lt (Nat.lt_succ_of_lt (Heap.lt_size (I2.pin p hp).1))
end
end L2
namespace L2
open PySem PySem.Spec PyProof.Rows
section
variable {X:Cx} {pins:List (Addr × Obj)} {σ:St} {H:Hp} {s:Shared} {p:Addr} {xs:List V}
theorem seq_walk {A:Around} {E:Value->Shared->Prop} {Q:Value->Shared->Prop} (I:Inv X pins σ H s) (hh:A.handled=none) (hs:SqL X.K H p xs ∨ SqT X.K H p xs)
    (h:∀ (its:List Value) (it:Addr) (fp wr:List Addr) (St:Nat->Heap->Prop) (h2:Heap),Vals xs its->Walks X.prog X.w A it fp wr its.length (fun i v=>its[i]?=some v) St->St 0 h2->(∀ b ∈ fp,b < h2.objs.size) ->
      (∀ h':Heap,(∀ b o,b ∉ wr->h2.get? b=some o->h'.get? b=some o)->∀ b o,s.heap.get? b=some o->h'.get? b=some o)->Q (.ref it) { s with heap:=h2 }) :
    wpAny (model X.prog X.w) A (pyIter (.ref p)) Q E s:=by
  have keep:∀ (o:Obj) (h':Heap),(∀ b u,b ∉ [s.heap.objs.size]->(s.heap.push o).get? b=some u->h'.get? b=some u)->∀ b u,s.heap.get? b=some u->h'.get? b=some u:=fun o h' hk b u e =>
    hk b u (fun hm=>by rw [List.mem_singleton.mp hm] at e;exact Nat.lt_irrefl _ (Heap.lt_size e)) (Heap.get?_push_of_some _ e)
  rcases hs with hs | hs
  · obtain ⟨its,rv,pl,hz⟩:=I.list hs
    have hlt:p < s.heap.objs.size:=by obtain ⟨_,e,_⟩:=pl.isList;exact Heap.lt_size e
    refine wpAny_pyIter_list pl.isList ?_
    have W:=Walks.list (prog:=X.prog) (w:=X.w) (A:=A) hh s.heap.objs.size p (Nat.ne_of_lt hlt) its.toArray
    refine h its s.heap.objs.size [s.heap.objs.size,p] [s.heap.objs.size] (fun i h=>h.IsListIter s.heap.objs.size p i/\h.IsList p its.toArray) _ rv (by simpa using W) ⟨⟨_,Heap.get?_push_size _ rfl,rfl,rfl⟩,pl.isList.push _⟩ (fun b hb=>?_) (keep _)
    rw [Heap.size_push]
    rcases List.mem_cons.mp hb with rfl | hb
    · exact Nat.lt_succ_self _
    · rw [List.mem_singleton.mp hb];exact Nat.lt_succ_of_lt hlt
  · obtain ⟨its,rv,pl,hz⟩:=I.tuple hs
    have pl':s.heap.IsTuple p its.toArray:=pl
    have hlt:p < s.heap.objs.size:=pl.lt
    refine wpAny_pyIter_tuple pl' ?_
    have W:=Walks.tuple (prog:=X.prog) (w:=X.w) (A:=A) hh s.heap.objs.size p (Nat.ne_of_lt hlt) its.toArray
    refine h its s.heap.objs.size [s.heap.objs.size,p] [s.heap.objs.size] (fun i h=>h.IsTupleIter s.heap.objs.size p i/\h.IsTuple p its.toArray) _ rv (by simpa using W) ⟨⟨_,Heap.get?_push_size _ rfl,rfl,rfl⟩,pl'.push _⟩ (fun b hb=>?_) (keep _)
    rw [Heap.size_push]
    rcases List.mem_cons.mp hb with rfl | hb
    · exact Nat.lt_succ_self _
    · rw [List.mem_singleton.mp hb];exact Nat.lt_succ_of_lt hlt
def nth (ns:List Int) (i:Nat):Int:=(ns[i]?).getD 0
theorem preSum_nth (ns:List Int):∀ k,preSum (nth ns) k=(ns.take k).sum
  | 0=>by simp [preSum]
  | k + 1=>by
    rw [preSum,preSum_nth ns k,List.take_add_one,List.sum_append]
    unfold nth
    cases ns[k]? <;> simp
theorem vals_int {ns:List Int} {its:List Value} (r:Vals (ns.map V.int) its) {i:Nat} {v:Value} (e:its[i]?=some v):∃ t,v=.int (nth ns i) t:=by
  have hl:=r.length
  rw [List.length_map] at hl
  have hi:i < ns.length:=by rw [hl];exact (List.getElem?_eq_some_iff.mp e).1
  obtain ⟨u,hu,ru⟩:=r.get (i:=i) (x:=.int ns[i]) (by rw [List.getElem?_map,List.getElem?_eq_getElem hi];rfl)
  rw [e] at hu;cases hu
  obtain ⟨t,rfl⟩:=ru
  exact ⟨t,by unfold nth;rw [List.getElem?_eq_getElem hi];rfl⟩
theorem call_sum_seq (hc:X.calm=true):CallR X (.builtin "sum") (fun xs H Q=>∃ (p:Addr) (ns:List Int),xs=[.ref p]/\(SqL X.K H p (ns.map V.int) ∨ SqT X.K H p (ns.map V.int))/\Q (.int ns.sum) H):=by
  intro pins s σ H xs us Q I r h
  obtain ⟨p,ns,rfl,hs,q⟩:=h
  obtain ⟨u,rfl,ru⟩:=vals1 r
  cases ru
  refine call_sum_walkG (seq_walk (A:=X.A.in1) I (I.ok.hd hc) hs fun its it fp wr St h2 rv W st hfp keep=>?_)
  refine ⟨it,fp,wr,its.length,_,St,nth ns,rfl,W,st,hfp,fun i v e=>vals_int rv e,fun h' tk t' hk=>?_⟩
  have e:preSum (nth ns) its.length=ns.sum:=by
    rw [preSum_nth,<- rv.length,List.length_map,List.take_length]
  rw [e]
  exact ⟨.int ns.sum,H,I.kept (keep h' hk),⟨_,rfl⟩,q⟩
def truV:V->Bool
  | .bl b=>b
  | .int i=>i != 0
  | .non=>false
  | _=>true
def okTru:V->Bool
  | .bl _=>true
  | .int _=>true
  | .non=>true
  | _=>false
theorem truth_V {A:Around} {E:Value->Shared->Prop} {x:V} {v:Value} {s:Shared} {Q:Bool->Shared->Prop} (r:RelV x v) (ok:okTru x=true) (h:Q (truV x) s):wpAny (model X.prog X.w) A (truthy v) Q E s:=by
  cases x with
  | bl b=>cases r;exact wpAny_truthy_bool h
  | int i=>obtain ⟨t,rfl⟩:=r;exact PyProof.Rows.truthy_int h
  | non=>cases r;exact PyProof.Rows.truthy_none h
  | _=>exact absurd (show false=true from ok) Bool.false_ne_true
def tnth (d:Bool) (xs:List V) (i:Nat):Bool:=((xs[i]?).map truV).getD d
theorem all_nth (xs:List V):(List.range xs.length).all (tnth true xs)=xs.all truV:=by
  rw [Bool.eq_iff_iff,List.all_eq_true,List.all_eq_true]
  constructor
  · intro h b hb
    obtain ⟨i,hi,e⟩:=List.getElem_of_mem hb
    have:=h i (List.mem_range.mpr hi)
    unfold tnth at this
    rw [List.getElem?_eq_getElem hi,e] at this
    exact this
  · intro h i hi
    have hi':=List.mem_range.mp hi
    unfold tnth
    rw [List.getElem?_eq_getElem hi']
    exact h _ (List.getElem_mem hi')
theorem any_nth (xs:List V):(List.range xs.length).any (tnth false xs)=xs.any truV:=by
  rw [Bool.eq_iff_iff,List.any_eq_true,List.any_eq_true]
  constructor
  · rintro ⟨i,hi,e⟩
    have hi':=List.mem_range.mp hi
    unfold tnth at e
    rw [List.getElem?_eq_getElem hi'] at e
    exact ⟨_,List.getElem_mem hi',e⟩
  · rintro ⟨b,hb,e⟩
    obtain ⟨i,hi,rfl⟩:=List.getElem_of_mem hb
    refine ⟨i,List.mem_range.mpr hi,?_⟩
    unfold tnth
    rw [List.getElem?_eq_getElem hi]
    exact e
theorem truthOf_nth {A:Around} {its:List Value} (d:Bool) (rv:Vals xs its) (ok:xs.all okTru=true):TruthOf X.prog X.w A (fun i v=>its[i]?=some v) (tnth d xs):=by
  intro i v s Q E e hQ
  have hi:i < xs.length:=by rw [rv.length];exact (List.getElem?_eq_some_iff.mp e).1
  obtain ⟨u,hu,ru⟩:=rv.get (i:=i) (x:=xs[i]) (by rw [List.getElem?_eq_getElem hi])
  rw [e] at hu;cases hu
  refine truth_V (X:=X) ru (List.all_eq_true.mp ok _ (List.getElem_mem hi)) ?_
  unfold tnth at hQ
  rw [List.getElem?_eq_getElem hi] at hQ
  exact hQ
theorem call_all_seq (hc:X.calm=true):CallR X (.builtin "all") (fun xs H Q=>∃ (p:Addr) (ys:List V),xs=[.ref p]/\(SqL X.K H p ys ∨ SqT X.K H p ys)/\ys.all okTru=true/\Q (.bl (ys.all truV)) H):=by
  intro pins s σ H xs us Q I r h
  obtain ⟨p,ys,rfl,hs,ok,q⟩:=h
  obtain ⟨u,rfl,ru⟩:=vals1 r
  cases ru
  refine call_all_walk (seq_walk (A:=X.A.in1) I (I.ok.hd hc) hs fun its it fp wr St h2 rv W st hfp keep=>?_)
  refine ⟨it,fp,wr,its.length,_,St,tnth true ys,rfl,W,st,truthOf_nth true rv ok,fun h' tk hk=>?_⟩
  rw [<- rv.length,all_nth]
  exact ⟨.bl _,H,I.kept (keep h' hk),rfl,q⟩
theorem call_any_seq (hc:X.calm=true):CallR X (.builtin "any") (fun xs H Q=>∃ (p:Addr) (ys:List V),xs=[.ref p]/\(SqL X.K H p ys ∨ SqT X.K H p ys)/\ys.all okTru=true/\Q (.bl (ys.any truV)) H):=by
  intro pins s σ H xs us Q I r h
  obtain ⟨p,ys,rfl,hs,ok,q⟩:=h
  obtain ⟨u,rfl,ru⟩:=vals1 r
  cases ru
  refine call_any_walk (seq_walk (A:=X.A.in1) I (I.ok.hd hc) hs fun its it fp wr St h2 rv W st hfp keep=>?_)
  refine ⟨it,fp,wr,its.length,_,St,tnth false ys,rfl,W,st,truthOf_nth false rv ok,fun h' tk hk=>?_⟩
  rw [<- rv.length,any_nth]
  exact ⟨.bl _,H,I.kept (keep h' hk),rfl,q⟩
end
end L2
namespace L2
open PySem PySem.Spec PyProof.Rows
section
variable {prog:Program} {w:World} {A:Around} {E:Value->Shared->Prop} {s:Shared}
theorem nextT_item {it t:Addr} {i:Nat} {its:Array Value} {x:Value} {Q:Value->Shared->Prop} (hit:s.heap.IsTupleIter it t i) (ht:s.heap.IsTuple t its) (hx:its[i]?=some x)
    (hQ:∀ h',h'.IsTupleIter it t (i + 1)->Heap.SameBut it s.heap h'->Q x { s with heap:=h' }):wpAny (model prog w) A (Builtin.SmallTypes.nextOf (.ref it)) Q E s:=by
  obtain ⟨o,ho,hc,hd⟩:=id hit
  obtain ⟨ol,hol,_,nl,hdl⟩:=ht
  unfold Builtin.SmallTypes.nextOf
  refine wpAny_bind (wpAny_callSpecial?_slot (name:=Str.ofString "__next__") hit.typeIs F.slot_tuple_iterator_next
    (wpAny_call_entry F.slot_tuple_iterator_next hit.typeIs F.entry_tuple_iterator_next ?_ (F.args_tuple_iterator_next_1 _)))
  show wpAny _ _ (field (.ref it) 0 >>= _) _ _ s
  refine wpAny_bind (wpAny_field ho hd (x:=.ref t) rfl ?_)
  show wpAny _ _ (if (Value.ref t == Value.none)=true then _ else _) _ _ s
  rw [if_neg (show ¬ ((Value.ref t == Value.none)=true) from Bool.false_ne_true)]
  show wpAny _ _ (field (.ref it) 1 >>= _) _ _ s
  refine wpAny_bind (wpAny_field ho hd (x:=.int i 0) rfl ?_)
  show wpAny _ _ (seqItems? (.ref t) >>= _) _ _ s
  refine wpAny_bind (wpAny_seqItems hol hdl ?_)
  simp only [Int.toNat_natCast,hx]
  refine wpAny_bind (wpAny_setField ho hd (by simp) (wpAny_pure ⟨x,rfl,wpAny_pure (hQ _ ?_ (Heap.SameBut.update ..))⟩))
  exact ⟨_,Heap.get?_update_self _ ho (Obj.isFreed_of_fields (Obj.data_mapFields hd _)),(Obj.cls_mapFields ..).trans hc,by
    rw [Obj.data_mapFields hd];simp [rawInt]⟩
end
end L2
namespace L2
open PySem PySem.Spec PyProof.Rows
section
variable {prog:Program} {w:World} {A:Around} {E:Value->Shared->Prop} {s:Shared}
theorem nextT_end {it t:Addr} {i:Nat} {its:Array Value} {Q:Value->Shared->Prop} (hh:A.handled=none) (hit:s.heap.IsTupleIter it t i) (ht:s.heap.IsTuple t its) (hx:its[i]?=none)
    (hE:∀ h' e,Heap.ExtBut it s.heap h'->(∃ o,h'.get? e=some o/\o.cls=.type "StopIteration")->E (.ref e) { s with heap:=h' }):wpAny (model prog w) A (Builtin.SmallTypes.nextOf (.ref it)) Q E s:=by
  obtain ⟨o,ho,hc,hd⟩:=id hit
  obtain ⟨ol,hol,_,nl,hdl⟩:=ht
  unfold Builtin.SmallTypes.nextOf
  refine wpAny_bind (wpAny_callSpecial?_slot (name:=Str.ofString "__next__") hit.typeIs F.slot_tuple_iterator_next
    (wpAny_call_entry F.slot_tuple_iterator_next hit.typeIs F.entry_tuple_iterator_next ?_ (F.args_tuple_iterator_next_1 _)))
  show wpAny _ _ (field (.ref it) 0 >>= _) _ _ s
  refine wpAny_bind (wpAny_field ho hd (x:=.ref t) rfl ?_)
  show wpAny _ _ (if (Value.ref t == Value.none)=true then _ else _) _ _ s
  rw [if_neg (show ¬ ((Value.ref t == Value.none)=true) from Bool.false_ne_true)]
  show wpAny _ _ (field (.ref it) 1 >>= _) _ _ s
  refine wpAny_bind (wpAny_field ho hd (x:=.int i 0) rfl ?_)
  show wpAny _ _ (seqItems? (.ref t) >>= _) _ _ s
  refine wpAny_bind (wpAny_seqItems hol hdl ?_)
  simp only [Int.toNat_natCast,hx]
  refine wpAny_bind (wpAny_rule (wpAny_bind (wpAny_setField ho hd (by simp) ?_)))
  show wpAny _ _ (newExc (.type "StopIteration") [] >>= _) _ _ _
  refine wpAny_bind ?_
  simp only [newExc,newTuple]
  refine wpAny_bind (wpAny_newObj_type ?_ (by size_fits))
  refine wpAny_bind (m:=firstArgMember _ _) (wpAny_of_eq (a:=Value.none) (by first | rfl | (simp only [firstArgMember];rfl)) ?_)
  refine wpAny_newObj_type ?_ (by size_fits)
  simp only [raiseNew]
  refine wpAny_bind (wpAny_handled ?_)
  first | rw [show A.in1.handled=none from hh] | rw [hh]
  exact wpAny_bind (wpAny_pure (wpAny_throw (hE _ _ (((Heap.SameBut.update ..).extBut.push _).push _) ⟨_,Heap.get?_push_size _ rfl,rfl⟩)))
structure ZipT (h:Heap) (z TI TO i1 i2 t1 t2:Addr) (k:Nat):Prop where
  zz:IsZip h z TI TO .none
  ti:IsPair h TI (.ref i1) (.ref i2)
  tO:∃ a b,IsPair h TO a b
  it1:h.IsTupleIter i1 t1 k
  it2:h.IsTupleIter i2 t2 k
structure ZipD (z TI TO i1 i2 t1 t2:Addr):Prop where
  a1:TI ≠ z
  a2:TO ≠ z
  a3:i1 ≠ z
  a4:i2 ≠ z
  b1:TI ≠ TO
  b2:TI ≠ i1
  b3:TI ≠ i2
  c1:TO ≠ i1
  c2:TO ≠ i2
  d1:i1 ≠ i2
  e1:t1 ≠ z
  e2:t1 ≠ TO
  e3:t1 ≠ i1
  e4:t1 ≠ i2
  f1:t2 ≠ z
  f2:t2 ≠ TO
  f3:t2 ≠ i1
  f4:t2 ≠ i2
theorem ne_add {n a b:Nat} (h:a ≠ b):n + a ≠ n + b:=by omega
theorem ne_lo {n a t:Nat} (h:t < n):t ≠ n + a:=by omega
theorem ZipD.new {n t1 t2:Nat} (h1:t1 < n) (h2:t2 < n):ZipD (n + 4) (n + 2) (n + 3) n (n + 1) t1 t2 where
  a1:=ne_add (by decide)
  a2:=ne_add (by decide)
  a3:=ne_add (n:=n) (a:=0) (by decide)
  a4:=ne_add (by decide)
  b1:=ne_add (by decide)
  b2:=ne_add (n:=n) (b:=0) (by decide)
  b3:=ne_add (by decide)
  c1:=ne_add (n:=n) (b:=0) (by decide)
  c2:=ne_add (by decide)
  d1:=ne_add (n:=n) (a:=0) (by decide)
  e1:=ne_lo h1
  e2:=ne_lo h1
  e3:=ne_lo (a:=0) h1
  e4:=ne_lo h1
  f1:=ne_lo h2
  f2:=ne_lo h2
  f3:=ne_lo (a:=0) h2
  f4:=ne_lo h2
theorem zipT_item {z TI TO i1 i2 t1 t2:Addr} {xs ys:Array Value} {k:Nat} {x y:Value} {Q:Option Value->Shared->Prop} (D:ZipD z TI TO i1 i2 t1 t2) (Z:ZipT s.heap z TI TO i1 i2 t1 t2 k) (hl1:s.heap.IsTuple t1 xs) (hl2:s.heap.IsTuple t2 ys)
    (hx:xs[k]?=some x) (hy:ys[k]?=some y)
    (hQ:∀ h',IsZip h' z TI TO (rawInt s.heap.objs.size)->IsPair h' TO x y->h'.IsTupleIter i1 t1 (k + 1)->h'.IsTupleIter i2 t2 (k + 1)->IsPair h' s.heap.objs.size x y->h'.objs.size=s.heap.objs.size + 1 ->
      (∀ c o,c ∉ [z,TO,i1,i2]->s.heap.get? c=some o->h'.get? c=some o)->Q (some (.ref s.heap.objs.size)) { s with heap:=h' }) :
    wpAny (model prog w) A (pyNext (.ref z)) Q E s:=by
  obtain ⟨hz,hTI,⟨a,b,hTO⟩,h1,h2⟩:=Z
  have hT:s.TypeIs (.ref z) "zip":=⟨_,hz,rfl⟩
  unfold pyNext
  refine wpAny_bind (wpAny_attempt (wpAny_callSpecial?_slot (name:=Str.ofString "__next__") hT F.slot_zip_next (wpAny_call_entry F.slot_zip_next hT F.entry_zip_next ?_ (F.args_zip_next_1 _))))
  show wpAny _ _ (field (.ref z) 2 >>= _) _ _ _
  refine wpAny_bind (wpAny_field hz rfl (x:=.bool false) rfl ?_)
  show wpAny _ _ (field (.ref z) 3 >>= _) _ _ _
  refine wpAny_bind (wpAny_field hz rfl (x:=.ref TI) rfl (wpAny_bind (wpAny_seqItems hTI rfl ?_)))
  show wpAny _ _ (Builtin.SmallTypes.ownedTupleIsFree (.ref z) >>= _) _ _ _
  refine wpAny_bind ?_
  unfold Builtin.SmallTypes.ownedTupleIsFree
  refine wpAny_bind (wpAny_field hz rfl (x:=.none) rfl (wpAny_pure ?_))
  simp only [if_true]
  refine wpAny_bind (wpAny_rule (wpAny_bind (wpAny_field hz rfl (x:=.ref TO) rfl (wpAny_bind (wpAny_setField_rec hz (by simp) fun g1 z1 s1=>?_)))))
  replace z1:IsZip g1 z TI TO .ellipsis:=z1
  refine wpAny_bind ?_
  simp only [List.zipIdx_cons,List.zipIdx_nil,List.forIn_cons,List.forIn_nil]
  refine wpAny_bind (wpAny_bind (wpAny_onRaise ?_))
  show wpAny _ _ (Builtin.SmallTypes.nextOf (.ref i1) >>= _) _ _ _
  refine wpAny_bind (nextT_item (h1.at fun o e=>s1.extBut _ o D.a3 e) (hl1.at fun o e=>s1.extBut _ o D.e1 e) hx fun g2 j1 s2=>wpAny_pure ?_)
  have o2:IsPair g2 TO a b:=s2.extBut _ _ D.c1 (s1.extBut _ _ D.a2 hTO)
  refine wpAny_bind (wpAny_seqItems o2 rfl (wpAny_bind (wpAny_updateSeq_pair o2 fun g3 o3 s3=>?_)))
  replace o3:IsPair g3 TO x b:=o3
  refine wpAny_bind (wpAny_letGo (wpAny_pure (wpAny_bind (wpAny_bind (wpAny_onRaise ?_)))))
  show wpAny _ _ (Builtin.SmallTypes.nextOf (.ref i2) >>= _) _ _ _
  refine wpAny_bind (nextT_item (h2.at fun o e=>s3.extBut _ o D.c2.symm (s2.extBut _ o D.d1.symm (s1.extBut _ o D.a4 e))) (hl2.at fun o e=>s3.extBut _ o D.f2 (s2.extBut _ o D.f3 (s1.extBut _ o D.f1 e))) hy fun g4 j2 s4=>wpAny_pure ?_)
  have o4:IsPair g4 TO x b:=s4.extBut _ _ D.c2 o3
  refine wpAny_bind (wpAny_seqItems o4 rfl (wpAny_bind (wpAny_updateSeq_pair o4 fun g5 o5 s5=>?_)))
  replace o5:IsPair g5 TO x y:=o5
  refine wpAny_bind (wpAny_letGo (wpAny_pure (wpAny_pure ?_)))
  refine wpAny_bind (wpAny_seqItems o5 rfl (wpAny_bind (wpAny_newTuple ?_)))
  have hsz:g5.objs.size=s.heap.objs.size:=by rw [s5.1,s4.1,s3.1,s2.1,s1.1]
  have z5:IsZip g5 z TI TO .ellipsis:=s5.extBut _ _ D.a2.symm (s4.extBut _ _ D.a4.symm (s3.extBut _ _ D.a2.symm (s2.extBut _ _ D.a3.symm z1)))
  have k5:∀ c o,c ∉ [z,TO,i1,i2]->s.heap.get? c=some o->g5.get? c=some o:=fun c o hc e=>by
    simp only [List.mem_cons,List.not_mem_nil,or_false,not_or] at hc
    exact s5.extBut _ _ hc.2.1 (s4.extBut _ _ hc.2.2.2 (s3.extBut _ _ hc.2.1 (s2.extBut _ _ hc.2.2.1 (s1.extBut _ _ hc.1 e))))
  have m1:g5.IsTupleIter i1 t1 (k + 1):=j1.at fun o e=>s5.extBut _ o D.c1.symm (s4.extBut _ o D.d1 (s3.extBut _ o D.c1.symm e))
  have m2:g5.IsTupleIter i2 t2 (k + 1):=j2.at fun o e=>s5.extBut _ o D.c2.symm e
  show wpAny _ _ (Builtin.SmallTypes.ownedTupleHandOut (.ref z) (.ref g5.objs.size) >>= _) _ _ _
  refine wpAny_bind ?_
  unfold Builtin.SmallTypes.ownedTupleHandOut
  have z6:IsZip (g5.push { cls:=.type "tuple",data:=.seq #[x,y] }) z TI TO .ellipsis:=Heap.get?_push_of_some _ z5
  refine wpAny_bind (wpAny_setField_rec z6 (by simp) fun g7 z7 s7=>?_)
  replace z7:IsZip g7 z TI TO (rawInt g5.objs.size):=z7
  refine wpAny_setField_rec z7 (by simp) fun g8 z8 s8=>?_
  replace z8:IsZip g8 z TI TO (rawInt g5.objs.size):=z8
  have up:∀ c o,c ≠ z->g5.get? c=some o->g8.get? c=some o:=fun c o hc e=>s8.extBut _ _ hc (s7.extBut _ _ hc (Heap.get?_push_of_some _ e))
  have new8:IsPair g8 g5.objs.size x y:=s8.extBut _ _ (Nat.ne_of_gt (Heap.lt_size z5)) (s7.extBut _ _ (Nat.ne_of_gt (Heap.lt_size z5)) (Heap.get?_push_size _ rfl))
  have size8:g8.objs.size=g5.objs.size + 1:=by rw [s8.1,s7.1,Heap.size_push]
  rw [hsz] at z8 new8 size8
  refine wpAny_pure ⟨_,rfl,wpAny_pure ?_⟩
  show Q (some (.ref g5.objs.size)) _
  rw [hsz]
  exact hQ g8 z8 (up _ _ D.a2 o5) (m1.at fun o e=>up _ o D.a3 e) (m2.at fun o e=>up _ o D.a4 e) new8 size8 fun c o hc e=>up c o (fun q=>hc (by simp [q])) (k5 c o hc e)
theorem zipT_end {z TI TO i1 i2 t1 t2:Addr} {xs:Array Value} {k:Nat} {Q:Option Value->Shared->Prop} (hh:A.handled=none) (D:ZipD z TI TO i1 i2 t1 t2) (Z:ZipT s.heap z TI TO i1 i2 t1 t2 k) (hl1:s.heap.IsTuple t1 xs)
    (hx:xs[k]?=none) (hQ:∀ h',(∀ c o,c ∉ [z,TO,i1,i2]->s.heap.get? c=some o->h'.get? c=some o)->Q none { s with heap:=h' }):wpAny (model prog w) A (pyNext (.ref z)) Q E s:=by
  obtain ⟨hz,hTI,⟨a,b,hTO⟩,h1,h2⟩:=Z
  have hT:s.TypeIs (.ref z) "zip":=⟨_,hz,rfl⟩
  unfold pyNext
  refine wpAny_bind (wpAny_attempt (wpAny_callSpecial?_slot (name:=Str.ofString "__next__") hT F.slot_zip_next (wpAny_call_entry F.slot_zip_next hT F.entry_zip_next ?_ (F.args_zip_next_1 _))))
  show wpAny _ _ (field (.ref z) 2 >>= _) _ _ _
  refine wpAny_bind (wpAny_field hz rfl (x:=.bool false) rfl ?_)
  show wpAny _ _ (field (.ref z) 3 >>= _) _ _ _
  refine wpAny_bind (wpAny_field hz rfl (x:=.ref TI) rfl (wpAny_bind (wpAny_seqItems hTI rfl ?_)))
  show wpAny _ _ (Builtin.SmallTypes.ownedTupleIsFree (.ref z) >>= _) _ _ _
  refine wpAny_bind ?_
  unfold Builtin.SmallTypes.ownedTupleIsFree
  refine wpAny_bind (wpAny_field hz rfl (x:=.none) rfl (wpAny_pure ?_))
  simp only [if_true]
  refine wpAny_bind (wpAny_rule (wpAny_bind (wpAny_field hz rfl (x:=.ref TO) rfl (wpAny_bind (wpAny_setField_rec hz (by simp) fun g1 z1 s1=>?_)))))
  replace z1:IsZip g1 z TI TO .ellipsis:=z1
  refine wpAny_bind ?_
  simp only [List.zipIdx_cons,List.zipIdx_nil,List.forIn_cons,List.forIn_nil]
  refine wpAny_bind (wpAny_bind (wpAny_onRaise ?_))
  show wpAny _ _ (Builtin.SmallTypes.nextOf (.ref i1) >>= _) _ _ _
  refine wpAny_bind (nextT_end hh (h1.at fun o e=>s1.extBut _ o D.a3 e) (hl1.at fun o e=>s1.extBut _ o D.e1 e) hx fun g2 e s2 he=>?_)
  obtain ⟨oe,hoe,hce⟩:=he
  have z2:IsZip g2 z TI TO .ellipsis:=s2 _ _ D.a3.symm z1
  have hez:e ≠ z:=fun q=>by subst q;rw [z2] at hoe;cases hoe;simp at hce
  refine wpAny_setField_rec z2 (by simp) fun g3 _ s3=>?_
  refine wpAny_bind (wpAny_isInstance (T:="StopIteration") (b:=true) ⟨oe,s3.extBut _ _ hez hoe,hce⟩ isSubtype_stop (wpAny_pure (hQ g3 fun c o hc q=>?_)))
  simp only [List.mem_cons,List.not_mem_nil,or_false,not_or] at hc
  exact s3.extBut _ _ hc.1 (s2 _ _ hc.2.2.1 (s1.extBut _ _ hc.1 q))
abbrev tit (t:Addr):Obj:={ cls:=.type "tuple_iterator",data:=.fields #[.ref t,.int 0 0] }
abbrev tpr (a b:Value):Obj:={ cls:=.type "tuple",data:=.seq #[a,b] }
abbrev zob (a b:Addr):Obj:={ cls:=.type "zip",data:=.fields #[.none,.bool false,.bool false,.ref a,.ref b] }
abbrev zipHp (h:Heap) (t1 t2:Addr):Heap:=((((h.push (tit t1)).push (tit t2)).push (tpr (.ref h.objs.size) (.ref (h.objs.size + 1)))).push (tpr .none .none)).push (zob (h.objs.size + 2) (h.objs.size + 3))
theorem zip_newT (t1 t2:Addr) (xs ys:Array Value) :
    Meets (Builtin.«zip.__new__» ⟨[.type "zip",.ref t1,.ref t2],[]⟩) (fun _ R s=>s.heap.IsTuple t1 xs/\s.heap.IsTuple t2 ys/\R (.ok (.ret (.ref (s.heap.objs.size + 4)))) { s with heap:=zipHp s.heap t1 t2 }) :=
  .of_wp fun prog w A R s h=>by
    obtain ⟨hp,g,d,tk,os⟩:=s;obtain ⟨hl1,hl2,h⟩:=h
    have hsub:=sub_zip
    have hL1:Heap.IsTuple (Shared.heap ⟨hp,g,d,tk,os⟩) t1 xs:=hl1
    have hL2:Heap.IsTuple (Shared.heap ⟨hp.push (tit t1),g,d,tk,os⟩) t2 ys:=Heap.IsTuple.push hl2 _
    wp_walk using wpAny_pyIter_tuple hL1,wpAny_pyIter_tuple hL2
    simp only [Heap.size_push]
    exact ⟨_,rfl,h⟩
theorem call_zipT {t1 t2:Addr} {xs ys:Array Value} {Q:Value->Shared->Prop} (hl1:s.heap.IsTuple t1 xs) (hl2:s.heap.IsTuple t2 ys)
    (h:∀ h',ZipT h' (s.heap.objs.size + 4) (s.heap.objs.size + 2) (s.heap.objs.size + 3) s.heap.objs.size (s.heap.objs.size + 1) t1 t2 0->(∀ c o,s.heap.get? c=some o->h'.get? c=some o)->h'.objs.size=s.heap.objs.size + 5 ->
      Q (.ref (s.heap.objs.size + 4)) { s with heap:=h' }):wpAny (model prog w) A (call (.type "zip") [.ref t1,.ref t2]) Q E s:=by
  refine callType_new F.called_zip (by decide) (F.typeCall_zip_2 _ _) (F.newCall_zip_2 _ _) (fun obj=>F.args_object_init_3 obj _ _) F.entry_zip_new (zip_newT t1 t2 xs ys) ⟨hl1,hl2,?_⟩
  have up:∀ {b:Addr} {o:Obj} (h0:Heap) (x:Obj),h0.get? b=some o->(h0.push x).get? b=some o:=fun _ _ e=>Heap.get?_push_of_some _ e
  have here:∀ (h0:Heap) (x:Obj) (n:Nat),x.isFreed=false->h0.objs.size=n->(h0.push x).get? n=some x:=fun h0 x n hf e=>by subst e;exact Heap.get?_push_size _ hf
  have Z:ZipT (zipHp s.heap t1 t2) (s.heap.objs.size + 4) (s.heap.objs.size + 2) (s.heap.objs.size + 3) s.heap.objs.size (s.heap.objs.size + 1) t1 t2 0 :=
    ⟨here _ _ _ rfl (by simp only [Heap.size_push]),up _ _ (up _ _ (here _ _ _ rfl (by simp only [Heap.size_push]))),⟨_,_,up _ _ (here _ _ _ rfl (by simp only [Heap.size_push]))⟩,
      ⟨_,up _ _ (up _ _ (up _ _ (up _ _ (here _ _ _ rfl rfl)))),rfl,rfl⟩,⟨_,up _ _ (up _ _ (up _ _ (here _ _ _ rfl (by simp only [Heap.size_push])))),rfl,rfl⟩⟩
  exact ⟨⟨_,Z.zz,rfl⟩,h _ Z (fun c o e=>up _ _ (up _ _ (up _ _ (up _ _ (up _ _ e))))) (by simp only [Heap.size_push])⟩
end
section
variable {X:Cx} {pins:List (Addr × Obj)} {σ:St} {H:Hp} {s:Shared}
theorem Inv.turnedL {h':Heap} {t':Nat} {ch:List Addr} (I:Inv X pins σ H s) (k:∀ b o,b ∉ ch->s.heap.get? b=some o->h'.get? b=some o) (hf:∀ b ∈ ch,FpOk X pins H b):Inv X pins σ H { s with heap:=h',toks:=t' }:=by
  have nit:∀ b u,H b=some u->b ∉ ch:=fun b u e z=>by rw [(hf b z).1] at e;cases e
  refine I.step (g':=s.gens) (d':=s.drawn) (ch:=ch) (fun b hb=>⟨(hf b hb).2.2.2.1,(hf b hb).2.1,(hf b hb).2.2.2.2.1,(hf b hb).2.2.2.2.2⟩) (fun b o _ _ hc e _=>k b o hc e) (fun b o _ _ hc e _=>⟨o.slots,k b o hc e⟩) (fun _ _ _ _ n=>n)
    (fun b o hc e=>⟨o,k b o hc e⟩) (fun _ _ e=>e) (fun _ _ _ e=>e) (fun b ps e=>⟨#[],by rw [e];simp⟩) (fun m hm=>?_) (fun b u e=>?_) I.bare
  · obtain ⟨o,es,ep,ho,r⟩:=hm
    exact ⟨o,es,ep,k _ o (fun z=>(hf _ z).2.1 rfl) ho,r⟩
  · refine (I.hok b u e).stay (fun c v hc q=>k c v ?_ q) (fun _ q=>q) fun _ _ q=>q
    rcases hc with z | z
    · rw [z];exact nit b u e
    · exact nit c _ z
def Itz (K:PySem.W.Frag) (a b:Addr):It :=
  ⟨fun i H=>∃ xs ys x y,SqT K H a xs/\SqT K H b ys/\xs[i]?=some x/\ys[i]?=some y,fun i H v H'=>∃ p x y,H p=none/\v=.ref p/\H'=upd H p (.tup [x,y])/\(∀ xs,SqT K H a xs->xs[i]?=some x)/\∀ ys,SqT K H b ys->ys[i]?=some y,
    fun i H=>∃ xs,SqT K H a xs/\xs.length <= i⟩
theorem turn_zip {P:Program} {w:World} {K:PySem.W.Frag} {es:List Expr} {kk:Nat} {pos:Pos} {a b z TI TO i1 i2:Addr} (D:ZipD z TI TO i1 i2 a b) :
    Turn P w K (.Tuple es kk pos) (Itz K a b) [z,TI,TO,i1,i2] z (fun i h=>ZipT h z TI TO i1 i2 a b i) where
  mem:=by simp
  obj:=fun i h st c hc=>by
    obtain ⟨hz,hTI,⟨_,_,hTO⟩,⟨_,h1,_,d1⟩,⟨_,h2,_,d2⟩⟩:=st
    simp only [List.mem_cons,List.not_mem_nil,or_false] at hc
    rcases hc with rfl | rfl | rfl | rfl | rfl
    · exact ⟨_,hz,fun v q=>by cases q⟩
    · exact ⟨_,hTI,fun v q=>by cases q⟩
    · exact ⟨_,hTO,fun v q=>by cases q⟩
    · exact ⟨_,h1,fun v q=>by rw [d1] at q;cases q⟩
    · exact ⟨_,h2,fun v q=>by rw [d2] at q;cases q⟩
  keep:=fun i h h' st k=>by
    obtain ⟨hz,hTI,⟨_,_,hTO⟩,h1,h2⟩:=st
    exact ⟨k _ (by simp) _ hz,k _ (by simp) _ hTI,⟨_,_,k _ (by simp) _ hTO⟩,h1.at fun o e=>k _ (by simp) o e,h2.at fun o e=>k _ (by simp) o e⟩
  item:=by
    intro X hP hw hK hc i pins s σ H E I hf st hg
    subst hP hw hK
    obtain ⟨xs,ys,x,y,ha,hb,hx,hy⟩:=hg
    obtain ⟨its,r1,p1,_⟩:=I.tuple ha
    obtain ⟨its2,r2,p2,_⟩:=I.tuple hb
    obtain ⟨u,hu,ru⟩:=r1.get hx
    obtain ⟨v,hv,rv⟩:=r2.get hy
    refine zipT_item D st (show s.heap.IsTuple a its.toArray from p1) (show s.heap.IsTuple b its2.toArray from p2) (x:=u) (y:=v) (by simpa using hu) (by simpa using hv) fun h' z1 o1 j1 j2 new sz keep=>?_
    refine ⟨_,rfl,wpAny_letOwnedTupleGo_zip (s:={ s with heap:=h' }) z1 fun h2 z2 sb=>?_⟩
    have hn:H s.heap.objs.size=none:=I.hok.fresh (Nat.le_refl _)
    have zlt:z < s.heap.objs.size:=Heap.lt_size st.zz
    have k2:∀ c o,c ∉ [z,TI,TO,i1,i2]->s.heap.get? c=some o->h2.get? c=some o:=fun c o hc e=>by
      simp only [List.mem_cons,List.not_mem_nil,or_false,not_or] at hc
      exact sb.extBut _ _ hc.1 (keep c o (by simp only [List.mem_cons,List.not_mem_nil,or_false,not_or];exact ⟨hc.1,hc.2.2.1,hc.2.2.2.1,hc.2.2.2.2⟩) e)
    have e0:h2.get? s.heap.objs.size=some { cls:=.type "tuple",data:=.seq #[u,v] }:=sb.extBut _ _ (Nat.ne_of_gt zlt) new
    have pne:∀ c o,s.heap.get? c=some o->c ≠ s.heap.objs.size:=fun c o e=>Nat.ne_of_lt (Heap.lt_size e)
    have nit:∀ c u,H c=some u->c ∉ [z,TI,TO,i1,i2]:=fun c u e q=>by rw [(hf c q).1] at e;cases e
    have hok:HOk X.prog X.w (upd H s.heap.objs.size (.tup [x,y])) h2:=fun c ob e=>by
      by_cases hq:c=s.heap.objs.size
      · subst hq
        rw [upd_same] at e;cases e
        exact ⟨by show 2 <= sizeLine;decide,[u,v],.cons ru (.cons rv .nil),⟨_,e0,rfl,_,rfl⟩⟩
      · rw [upd_ne hq] at e
        refine (I.hok c ob e).stay (fun d w' hd q=>k2 d w' ?_ q) (fun d q=>by rw [upd_ne (ne_of_none q hn)];exact q) fun d xs q=>by rw [upd_ne (ne_of_none q hn)];exact q
        rcases hd with rfl | hd
        · exact nit d ob e
        · exact nit d _ hd
    have I2:Inv X pins σ (upd H s.heap.objs.size (.tup [x,y])) { s with heap:=h2 }:=by
      refine I.step (g':=s.gens) (d':=s.drawn) (t':=s.toks) (ch:=[z,TI,TO,i1,i2]) (fun c hc=>⟨(hf c hc).2.2.2.1,(hf c hc).2.1,(hf c hc).2.2.2.2.1,(hf c hc).2.2.2.2.2⟩) (fun c o _ _ hc e _=>k2 c o hc e) (fun c o _ _ hc e _=>⟨o.slots,k2 c o hc e⟩)
        (fun c o _ e n=>by rw [upd_ne (pne c o e)];exact n) (fun c o hc e=>⟨o,k2 c o hc e⟩) (fun c xs e=>by rw [upd_ne (ne_of_none e hn)];exact e) (fun c o u e=>by rw [upd_ne (ne_of_none e hn)];exact e) (fun c ps e=>⟨#[],by rw [upd_ne (ne_of_none e hn),e];simp⟩) (fun m hm=>?_) hok I.bare
      obtain ⟨o,es,ep,ho,r⟩:=hm
      exact ⟨o,es,ep,k2 _ o (fun q=>(hf _ q).2.1 rfl) ho,r⟩
    refine ⟨.ref s.heap.objs.size,_,I2,rfl,⟨_,x,y,hn,rfl,rfl,fun xs' h'=>by rw [I.tuple_inj h' ha];exact hx,fun ys' h'=>by rw [I.tuple_inj h' hb];exact hy⟩,?_,fun c hc=>?_⟩
    · exact ⟨z2,sb.extBut _ _ D.a1 (keep _ _ (by simp only [List.mem_cons,List.not_mem_nil,or_false,not_or];exact ⟨D.a1,D.b1,D.b2,D.b3⟩) st.ti),⟨_,_,sb.extBut _ _ D.a2 o1⟩,j1.at fun o e=>sb.extBut _ o D.a3 e,j2.at fun o e=>sb.extBut _ o D.a4 e⟩
    · have hlt:c < s.heap.objs.size:=by
        obtain ⟨hz,hTI,⟨_,_,hTO⟩,⟨_,h1,_⟩,⟨_,h2,_⟩⟩:=st
        simp only [List.mem_cons,List.not_mem_nil,or_false] at hc
        rcases hc with rfl | rfl | rfl | rfl | rfl
        · exact Heap.lt_size hz
        · exact Heap.lt_size hTI
        · exact Heap.lt_size hTO
        · exact Heap.lt_size h1
        · exact Heap.lt_size h2
      rw [upd_ne (Nat.ne_of_lt hlt)]
      exact (hf c hc).1
  done:=by
    intro X hP hw hK hc i pins s σ H E I hf st hg
    subst hP hw hK
    obtain ⟨xs,ha,hx⟩:=hg
    obtain ⟨its,r1,p1,_⟩:=I.tuple ha
    have hl:=r1.length
    refine zipT_end (I.ok.hd hc) D st (show s.heap.IsTuple a its.toArray from p1) (by simp;omega) fun h' keep=>⟨rfl,I.turnedL (t':=s.toks) (ch:=[z,TI,TO,i1,i2]) (fun c o hc e=>keep c o (fun q=>hc ?_) e) hf⟩
    simp only [List.mem_cons,List.not_mem_nil,or_false] at q ⊢
    rcases q with q | q | q | q
    · exact .inl q
    · exact .inr (.inr (.inl q))
    · exact .inr (.inr (.inr (.inl q)))
    · exact .inr (.inr (.inr (.inr q)))
  self:=fun _ _ _ _ _ st h=>wpAny_pyIter_zip st.zz h
def iZip (K:PySem.W.Frag) (ta:TA):TI:=fun σ H R=>ta σ H fun vs H1=>∃ a b xs ys,vs=[.ref a,.ref b]/\SqT K H1 a xs/\SqT K H1 b ys/\R (Itz K a b) H1
theorem pi_zip {e1 e2:Expr} {es:List Expr} {kk:Nat} {pt p pos:Pos} {ta:TA} (hg:Gl X "zip") (hm:X.mg "zip"=none) (ha:PA X [e1,e2] ta) (hs:starEach [e1,e2] X.env=[(false,eval e1 X.env),(false,eval e2 X.env)]:=by rfl) (hs2:starEach [e2] X.env=[(false,eval e2 X.env)]:=by rfl) :
    PI X (.Tuple es kk pt) (.Call (.Name "zip" p) [e1,e2] [] pos) (iZip X.K ta):=by
  intro pins s σ H R I h
  refine Call_ (ld_blt I hg hm boot_zip (PyProof.Rows.callWith_type1 (thn (ha pos pins s σ H _ I h) fun us s1 ⟨vs,H1,I1,r1,q1⟩=>?_) (by rw [hs,hs2]) (by rw [hs2];rfl)))
  obtain ⟨a,b,xs,ys,rfl,hx,hy,q⟩:=q1
  cases r1 with
  | cons ra rr =>
    cases rr with
    | cons rb rr =>
      cases rr
      cases ra
      cases rb
      obtain ⟨its,r1,p1,_⟩:=I1.tuple hx
      obtain ⟨its2,r2,p2,_⟩:=I1.tuple hy
      refine call_zipT (show s1.heap.IsTuple a its.toArray from p1) (show s1.heap.IsTuple b its2.toArray from p2) fun h' Z keep sz=>?_
      refine wpAny_pyIter_zip (s:={ s1 with heap:=h' }) Z.zz ?_
      have I2:Inv X pins σ H1 { s1 with heap:=h' }:=I1.kept (t':=s1.toks) keep
      refine ⟨s1.heap.objs.size + 4,[s1.heap.objs.size + 4,s1.heap.objs.size + 2,s1.heap.objs.size + 3,s1.heap.objs.size,s1.heap.objs.size + 1],_,_,H1,rfl,I2,turn_zip (ZipD.new p1.lt p2.lt),Z,fun c hc=>?_,q⟩
      have hge:s1.heap.objs.size <= c:=by
        simp only [List.mem_cons,List.not_mem_nil,or_false] at hc
        rcases hc with rfl | rfl | rfl | rfl | rfl <;> first | exact Nat.le_add_right _ _ | exact Nat.le_refl _
      exact I1.fpOk hge (I1.hok.fresh hge)
end
end L2
namespace L2
open PySem PySem.Spec PyProof.Rows
mutual
def Dt (st:Addr) (H:Hp):PyData->V->Prop
  | .none,v=>v=.non
  | .bool b,v=>v=.bl b
  | .int i,v=>v=.int i
  | .str x,v=>v=.str x
  | .tuple ds,v=>∃ a xs,v=.ref a/\a ≠ st/\H a=some (.tup xs)/\Dts st H ds xs
  | .list ds,v=>∃ a xs,v=.ref a/\a ≠ st/\H a=some (.lst xs)/\Dts st H ds xs
  | .dict _,v=>∃ a ks,v=.ref a/\a ≠ st/\H a=some (.dK ks)
def Dts (st:Addr) (H:Hp):List PyData->List V->Prop
  | [],xs=>xs=[]
  | d :: ds,xs=>∃ x r,xs=x :: r/\Dt st H d x/\Dts st H ds r
end
def Kp (st:Addr) (H H':Hp):Prop:=∀ b o,b ≠ st->H b=some o->H' b=some o
theorem Kp.refl (st:Addr) (H:Hp):Kp st H H:=fun _ _ _ e=>e
theorem Kp.trans {st:Addr} {H H1 H2:Hp} (a:Kp st H H1) (b:Kp st H1 H2):Kp st H H2:=fun c o n e=>b c o n (a c o n e)
theorem Same.kp {H H':Hp} (a:Same H H') (st:Addr):Kp st H H':=fun b o _ e=>a b o e
theorem Same.new {H:Hp} {p:Addr} {o:HO} (h:H p=none):Same H (upd H p o):=fun b u q=>by rw [upd_ne (ne_of_none q h)];exact q
theorem Kp.new {st:Addr} {H:Hp} {p:Addr} {o:HO} (h:H p=none):Kp st H (upd H p o):=(Same.new h).kp st
theorem Kp.at {st:Addr} {H:Hp} {o:HO}:Kp st H (upd H st o):=fun b u n q=>by rw [upd_ne n];exact q
mutual
theorem Dt.kp {st:Addr} {H H':Hp} (k:Kp st H H'):∀ {d:PyData} {v:V},Dt st H d v->Dt st H' d v
  | .none,_,h=>by unfold Dt at h ⊢;exact h
  | .bool _,_,h=>by unfold Dt at h ⊢;exact h
  | .int _,_,h=>by unfold Dt at h ⊢;exact h
  | .str _,_,h=>by unfold Dt at h ⊢;exact h
  | .tuple ds,_,h=>by
    unfold Dt at h ⊢
    obtain ⟨a,xs,e,n,q,r⟩:=h
    exact ⟨a,xs,e,n,k a _ n q,Dts.kp k r⟩
  | .list ds,_,h=>by
    unfold Dt at h ⊢
    obtain ⟨a,xs,e,n,q,r⟩:=h
    exact ⟨a,xs,e,n,k a _ n q,Dts.kp k r⟩
  | .dict kvs,_,h=>by
    unfold Dt at h ⊢
    obtain ⟨a,ks,e,n,q⟩:=h
    exact ⟨a,ks,e,n,k a _ n q⟩
theorem Dts.kp {st:Addr} {H H':Hp} (k:Kp st H H'):∀ {ds:List PyData} {xs:List V},Dts st H ds xs->Dts st H' ds xs
  | [],_,h=>by unfold Dts at h ⊢;exact h
  | d :: ds,_,h=>by
    unfold Dts at h ⊢
    obtain ⟨x,r,e,q1,q2⟩:=h
    exact ⟨x,r,e,Dt.kp k q1,Dts.kp k q2⟩
end
theorem Dt.int (st:Addr) (H:Hp) (i:Int):Dt st H (.int i) (.int i):=by unfold Dt;rfl
theorem Dt.bl (st:Addr) (H:Hp) (b:Bool):Dt st H (.bool b) (.bl b):=by unfold Dt;rfl
theorem Dt.non (st:Addr) (H:Hp):Dt st H .none .non:=by unfold Dt;rfl
theorem Dt.str (st:Addr) (H:Hp) (x:Str):Dt st H (.str x) (.str x):=by unfold Dt;rfl
theorem Dt.tup {st:Addr} {H:Hp} {a:Addr} {xs:List V} {ds:List PyData} (n:a ≠ st) (h:H a=some (.tup xs)) (r:Dts st H ds xs):Dt st H (.tuple ds) (.ref a):=by unfold Dt;exact ⟨a,xs,rfl,n,h,r⟩
theorem Dt.lst {st:Addr} {H:Hp} {a:Addr} {xs:List V} {ds:List PyData} (n:a ≠ st) (h:H a=some (.lst xs)) (r:Dts st H ds xs):Dt st H (.list ds) (.ref a):=by unfold Dt;exact ⟨a,xs,rfl,n,h,r⟩
theorem Dts.nil (st:Addr) (H:Hp):Dts st H [] []:=by unfold Dts;rfl
theorem Dts.cons {st:Addr} {H:Hp} {d:PyData} {ds:List PyData} {x:V} {xs:List V} (h:Dt st H d x) (r:Dts st H ds xs):Dts st H (d :: ds) (x :: xs):=by unfold Dts;exact ⟨x,xs,rfl,h,r⟩
theorem Dts.uncons {st:Addr} {H:Hp} {d:PyData} {ds:List PyData} {xs:List V} (h:Dts st H (d :: ds) xs):∃ x r,xs=x :: r/\Dt st H d x/\Dts st H ds r:=by unfold Dts at h;exact h
theorem Dts.len {st:Addr} {H:Hp}:∀ {ds:List PyData} {xs:List V},Dts st H ds xs->ds.length=xs.length
  | [],_,h=>by unfold Dts at h;subst h;rfl
  | d :: ds,_,h=>by
    obtain ⟨x,r,e,_,q⟩:=h.uncons
    subst e
    rw [List.length_cons,List.length_cons,Dts.len q]
theorem Dts.append {st:Addr} {H:Hp}:∀ {ds es:List PyData} {xs ys:List V},Dts st H ds xs->Dts st H es ys->Dts st H (ds ++ es) (xs ++ ys)
  | [],_,_,_,h,q=>by unfold Dts at h;subst h;exact q
  | d :: ds,_,_,_,h,q=>by
    obtain ⟨x,r,e,h1,h2⟩:=h.uncons
    subst e
    exact Dts.cons h1 (Dts.append h2 q)
theorem Dts.get {st:Addr} {H:Hp}:∀ {ds:List PyData} {xs:List V} {i:Nat} {x:V},Dts st H ds xs->xs[i]?=some x->∃ d,ds[i]?=some d/\Dt st H d x
  | [],_,i,x,h,e=>by unfold Dts at h;subst h;simp at e
  | d :: ds,_,0,x,h,e=>by
    obtain ⟨y,r,e1,h1,h2⟩:=h.uncons
    subst e1
    simp at e;subst e
    exact ⟨d,rfl,h1⟩
  | d :: ds,_,i + 1,x,h,e=>by
    obtain ⟨y,r,e1,h1,h2⟩:=h.uncons
    subst e1
    obtain ⟨d',e2,h3⟩:=Dts.get (i:=i) (x:=x) h2 (by simpa using e)
    exact ⟨d',by simpa using e2,h3⟩
theorem Dts.ints (st:Addr) (H:Hp):∀ ns:List Int,Dts st H (ns.map PyData.int) (ns.map V.int)
  | []=>Dts.nil st H
  | n :: ns=>Dts.cons (Dt.int st H n) (Dts.ints st H ns)
theorem Dts.ints_eq {st:Addr} {H:Hp}:∀ {ns:List Int} {xs:List V},Dts st H (ns.map PyData.int) xs->xs=ns.map V.int
  | [],_,h=>by unfold Dts at h;exact h
  | n :: ns,_,h=>by
    rw [List.map_cons] at h
    obtain ⟨x,r,e,h1,h2⟩:=h.uncons
    unfold Dt at h1
    rw [e,h1,Dts.ints_eq h2,List.map_cons]
abbrev DI (ns:List Int):PyData:=.tuple (ns.map .int)
theorem Dt.di {st:Addr} {H:Hp} {ns:List Int} {v:V} (h:Dt st H (DI ns) v):∃ a,v=.ref a/\a ≠ st/\H a=some (.tup (ns.map V.int)):=by
  unfold DI Dt at h
  obtain ⟨a,xs,e,n,q,r⟩:=h
  exact ⟨a,e,n,by rw [q,r.ints_eq]⟩
theorem Dt.mkI {st:Addr} {H:Hp} {ns:List Int} {a:Addr} (n:a ≠ st) (h:H a=some (.tup (ns.map V.int))):Dt st H (DI ns) (.ref a):=Dt.tup n h (Dts.ints st H ns)
mutual
theorem Dt.reads {P:Program} {w:World} {st:Addr} {H:Hp} {h:Heap} (ok:HOk P w H h):∀ {d:PyData} {v:V} {u:Value},d.canLay0=true->Dt st H d v->RelV v u->∃ as,Reads h u d as
  | .none,_,u,_,q,r=>by unfold Dt at q;subst q;cases r;exact ⟨[],.none⟩
  | .bool b,_,u,_,q,r=>by unfold Dt at q;subst q;cases r;exact ⟨[],.bool b⟩
  | .int i,_,u,_,q,r=>by unfold Dt at q;subst q;obtain ⟨t,rfl⟩:=r;exact ⟨[],.int i t⟩
  | .str x,_,u,_,q,r=>by unfold Dt at q;subst q;obtain ⟨t,rfl⟩:=r;exact ⟨[],.str x t⟩
  | .tuple ds,_,u,cl,q,r=>by
    unfold PyData.canLay0 at cl
    unfold Dt at q
    obtain ⟨a,xs,e,n,hq,rs⟩:=q
    subst e
    cases r
    obtain ⟨_,its,rv,o,ho,hc,m,hd⟩:=ok a _ hq
    obtain ⟨as,ra⟩:=Dts.reads ok cl rs rv
    exact ⟨as,.tuple ho hc hd (by simpa using ra)⟩
  | .list ds,_,u,cl,q,r=>by
    unfold PyData.canLay0 at cl
    unfold Dt at q
    obtain ⟨a,xs,e,n,hq,rs⟩:=q
    subst e
    cases r
    obtain ⟨_,its,m,rv,ho⟩:=ok a _ hq
    obtain ⟨as,ra⟩:=Dts.reads ok cl rs rv
    exact ⟨a :: as,.list ho rfl rfl (by simpa using ra)⟩
  | .dict kvs,_,u,cl,q,r=>by unfold PyData.canLay0 at cl;cases cl
theorem Dts.reads {P:Program} {w:World} {st:Addr} {H:Hp} {h:Heap} (ok:HOk P w H h):∀ {ds:List PyData} {xs:List V} {us:List Value},PyData.canLayAll0 ds=true->Dts st H ds xs->Vals xs us->∃ as,ReadsAll h us ds as
  | [],_,us,_,q,r=>by unfold Dts at q;subst q;cases r;exact ⟨[],.nil⟩
  | d :: ds,_,us,cl,q,r=>by
    unfold PyData.canLayAll0 at cl
    rw [Bool.and_eq_true] at cl
    obtain ⟨x,rr,e,h1,h2⟩:=q.uncons
    subst e
    cases r with
    | cons r1 r2 =>
      obtain ⟨as,ra⟩:=Dt.reads ok cl.1 h1 r1
      obtain ⟨bs,rb⟩:=Dts.reads ok cl.2 h2 r2
      exact ⟨as ++ bs,.cons ra rb⟩
end
theorem shaped_lay {d:PyData} (h:SeqAt.shaped d=true):d.canLay0=true:=by
  unfold SeqAt.shaped at h
  rw [Bool.and_eq_true] at h
  exact h.1
section
variable {X:Cx}
def rEqD:R2:=fun x y H Q=>∃ st d e,Dt st H d x/\Dt st H e y/\SeqAt.shaped d=true/\SeqAt.shaped e=true/\Q (.bl (PyData.eqv d e)) H
def rNeD:R2:=fun x y H Q=>∃ st d e,Dt st H d x/\Dt st H e y/\SeqAt.shaped d=true/\SeqAt.shaped e=true/\Q (.bl (!PyData.eqv d e)) H
theorem op_eqD (hu:X.A.units + 64 < cLine):OpR X (compareOp .Eq) rEqD:=by
  intro pins s σ H x y v u Q I rx ry h
  obtain ⟨st,d,e,h1,h2,s1,s2,q⟩:=h
  obtain ⟨as,ra⟩:=h1.reads I.hok (shaped_lay s1) rx
  obtain ⟨bs,rb⟩:=h2.reads I.hok (shaped_lay s2) ry
  exact eq_dataH ra rb s1 s2 hu (fin_bl I q rfl)
theorem op_neD (hu:X.A.units + 64 < cLine):OpR X (compareOp .NotEq) rNeD:=by
  intro pins s σ H x y v u Q I rx ry h
  obtain ⟨st,d,e,h1,h2,s1,s2,q⟩:=h
  obtain ⟨as,ra⟩:=h1.reads I.hok (shaped_lay s1) rx
  obtain ⟨bs,rb⟩:=h2.reads I.hok (shaped_lay s2) ry
  exact ne_dataH ra rb s1 s2 hu (fin_bl I q rfl)
def tyN:PyData->String
  | .none=>"NoneType"
  | .bool _=>"bool"
  | .int _=>"int"
  | .str _=>"str"
  | .list _=>"list"
  | .tuple _=>"tuple"
  | .dict _=>"dict"
theorem Dt.ty {K:PySem.W.Frag} {st:Addr} {H:Hp} {d:PyData} {v:V} (h:Dt st H d v):TyOf K H v (.type (tyN d)):=by
  cases d with
  | none=>unfold Dt at h;subst h;exact .non
  | bool b=>unfold Dt at h;subst h;exact .bl b
  | int i=>unfold Dt at h;subst h;exact .int i
  | str x=>unfold Dt at h;subst h;exact .str x
  | list ds=>unfold Dt at h;obtain ⟨a,xs,e,_,q,_⟩:=h;subst e;exact .lst q
  | tuple ds=>unfold Dt at h;obtain ⟨a,xs,e,_,q,_⟩:=h;subst e;exact .tup q
  | dict kvs=>unfold Dt at h;obtain ⟨a,ks,e,_,q⟩:=h;subst e;exact .dK q
def isBoolD:PyData->Bool
  | .bool _=>true
  | _=>false
def isIntD:PyData->Bool
  | .bool _=>true
  | .int _=>true
  | _=>false
def isTupD:PyData->Bool
  | .tuple _=>true
  | _=>false
def isListD:PyData->Bool
  | .list _=>true
  | _=>false
theorem kit_bool (K:PySem.W.Frag) (d:PyData):PySem.W.kitOne K (.type (tyN d)) (.type "bool")=some (isBoolD d):=by cases d <;> kernel_rfl
theorem kit_int (K:PySem.W.Frag) (d:PyData):PySem.W.kitOne K (.type (tyN d)) (.type "int")=some (isIntD d):=by cases d <;> kernel_rfl
theorem kit_tup (K:PySem.W.Frag) (d:PyData):PySem.W.kitOne K (.type (tyN d)) (.type "tuple")=some (isTupD d):=by cases d <;> kernel_rfl
theorem kit_list (K:PySem.W.Frag) (d:PyData):PySem.W.kitOne K (.type (tyN d)) (.type "list")=some (isListD d):=by cases d <;> kernel_rfl
theorem call_isi {T:String} {f:PyData->Bool} (hk:∀ K d,PySem.W.kitOne K (.type (tyN d)) (.type T)=some (f d)) :
    CallR X (.builtin "isinstance") (fun xs H Q=>∃ x st d,xs=[x,.ty T]/\Dt st H d x/\Q (.bl (f d)) H):=by
  intro pins s σ H xs us Q I r h
  obtain ⟨x,st,d,rfl,hd,q⟩:=h
  cases r with
  | cons r1 rr =>
    cases rr with
    | cons r2 rr =>
      cases rr
      cases r2
      exact isinst_ok I r1 (hd.ty (K:=X.K)) (hk X.K d) fun tk=>⟨.bl (f d),H,I.tok tk,rfl,q⟩
theorem op_fdivB:OpR X (binaryOp .FloorDiv) (rI (fun _ j=>0 < j/\j.natAbs.log2 < 9000) fun i j=>.int (i / j)):=opI fun i j _ _ _ _ _ hc q =>
  floordiv_int (by have:=hc.1;omega) (by rw [Int.fdiv_eq_ediv_of_nonneg i (by have:=hc.1;omega)];exact q) (.inl (PyProof.noPylong_of_log2 hc.2))
theorem op_mulB:OpR X (binaryOp .Mult) (rI (fun i j=>Builtin.Int.intBits i <= 2 ^ 20/\Builtin.Int.intBits j <= 2 ^ 20) fun i j=>.int (i * j)):=opI fun _ _ _ _ _ _ _ hc q=>mul_int q (.of_bits hc.1 hc.2)
def rCatA (K:PySem.W.Frag):R2:=fun x y H Q=>∃ a b xs ys,x=.ref a/\y=.ref b/\SqT K H a xs/\SqT K H b ys/\xs.length + ys.length <= sizeLine /\
  (xs=[]->Q (.ref b) H)/\(xs ≠ []->ys=[]->Q (.ref a) H)/\(xs ≠ []->ys ≠ []->∀ p,H p=none->Q (.ref p) (upd H p (.tup (xs ++ ys))))
theorem op_catA:OpR X (binaryOp .Add) (rCatA X.K):=by
  intro pins s σ H x y v u Q I rx ry h
  obtain ⟨a,b,xs,ys,rfl,rfl,ha,hb,hz,q0,q1,q2⟩:=h
  by_cases hx:xs=[]
  · subst hx
    cases rx
    cases ry
    obtain ⟨its,r1,p1,_⟩:=I.tuple ha
    obtain ⟨its2,r2,p2,_⟩:=I.tuple hb
    cases r1
    obtain ⟨⟨cls,dd,data,sl⟩,ho,hc,n,hd⟩:=id p1
    obtain ⟨⟨cls2,dd2,data2,sl2⟩,ho2,hc2,n2,hd2⟩:=id p2
    simp only at hc hd hc2 hd2
    subst hc hd hc2 hd2
    exact concat_meets ⟨_,ho,rfl⟩ ⟨_,ho2,rfl⟩ noFill_tuple_add seq_tuple_add PySem.F.slot_tuple_add PySem.F.entry_tuple_add (PySem.F.args_tuple_add_2 _ _)
      (tuple_addW0 a b _ _ n n2 dd dd2 sl sl2 (by rfl)) ⟨ho,ho2,⟨.ref b,H,I,rfl,q0 rfl⟩⟩
  · exact op_catT pins s σ H _ _ v u Q I rx ry ⟨a,b,xs,ys,rfl,rfl,ha,hb,hx,hz,q1 hx,q2 hx⟩
end
end L2
namespace L2
open PySem PySem.Spec PyProof.Rows
section
variable {prog:Program} {w:World} {A:Around} {E:Value->Shared->Prop} {s:Shared}
theorem getItem_whole {t sl:Addr} {items:Array Value} {vl vu:Value} {lo hi:Option Int} {Q:Value->Shared->Prop} (ht:IsTup s.heap t items) (hs:s.heap.IsSliceOf sl vl vu .none) (pl:IsPart vl lo) (pu:IsPart vu hi)
    (hw:HT.sIx items.size 0 lo=0/\HT.sIx items.size items.size hi=items.size) (h:Q (.ref t) s):wpAny (model prog w) A (getItem (.ref t) (.ref sl)) Q E s:=by
  obtain ⟨os,hos,hcs,hds⟩:=id hs
  have hTs:s.TypeIs (.ref sl) "slice":=⟨os,hos,hcs⟩
  unfold getItem
  try with_reducible refine wpAny_holding ?_
  first | refine wpAny_bind (wpAny_pure ?_) | skip
  refine wpAny_bind (wpAny_sequenceKey ht.typeIs (by decide) ?_)
  refine wpAny_bind (wpAny_callSpecial?_slot (name:=Str.ofString "__getitem__") ht.typeIs PyProof.Rows.slot_tuple_getitem
    (wpAny_call_entry PyProof.Rows.slot_tuple_getitem ht.typeIs entry_tuple_getitem ?_ (args_tuple_getitem _ _)))
  show wpAny _ _ (Builtin.Tuple.tupleItemsOf (.ref t) >>= _) _ _ s
  refine wpAny_bind (tupleItemsOf_ ht (wpAny_bind (wpAny_typeOf hTs ?_)))
  rw [if_pos (by decide)]
  refine wpAny_bind (HT.sliceApplied_gen hs pl pu ?_)
  show wpAny _ _ (if (((HT.sIx items.size 0 lo:Nat):Int) == 0 && (1:Int) == 1 && (HT.sIx items.size items.size hi - HT.sIx items.size 0 lo) == items.size)=true then _ else _) _ _ s
  rw [if_pos (by rw [hw.1,hw.2];simp)]
  refine wpAny_bind (m:=Builtin.Tuple.tupleIsExact (.ref t)) ?_
  unfold Builtin.Tuple.tupleIsExact
  refine wpAny_bind (wpAny_typeOf ht.typeIs (wpAny_pure ?_))
  rw [if_pos (by decide)]
  refine wpAny_bind (wpAny_rule ?_)
  first
    | exact wpAny_pure ⟨_,rfl,wpAny_pure h⟩
    | exact wpAny_bind (wpAny_pure (wpAny_pure ⟨_,rfl,wpAny_pure h⟩))
end
section
variable {X:Cx}
def rSlA (K:PySem.W.Frag):V->Option Int->Option Int->Hp->VK->Prop:=fun x lo hi H Q=>∃ a xs,x=.ref a/\SqT K H a xs /\
  ((HT.sIx xs.length 0 lo=0/\HT.sIx xs.length xs.length hi=xs.length)->Q (.ref a) H) /\
  (¬ (HT.sIx xs.length 0 lo=0/\HT.sIx xs.length xs.length hi=xs.length)->∀ p,H p=none->Q (.ref p) (upd H p (.tup (cutV xs lo hi))))
theorem sl_any:SlR X (rSlA X.K):=by
  intro pins s σ H x v vl vu lo hi sl Q I rx hs pl pu h
  obtain ⟨a,xs,rfl,hx,q1,q2⟩:=h
  by_cases hw:HT.sIx xs.length 0 lo=0/\HT.sIx xs.length xs.length hi=xs.length
  · cases rx
    obtain ⟨its,r,ht,hz⟩:=I.tuple hx
    have hlen:its.toArray.size=xs.length:=by rw [List.size_toArray];exact r.length.symm
    exact ⟨"tuple",_,PyProof.Rows.slot_tuple_getitem.lookup,ht.typeIs,getItem_whole ht hs pl pu (by rw [hlen];exact hw) ⟨.ref a,H,I,rfl,q1 hw⟩⟩
  · exact sl_tup pins s σ H _ v vl vu lo hi sl Q I rx hs pl pu ⟨a,xs,rfl,hx,hw,q2 hw⟩
theorem noR_tuple:typeLookup (.type "tuple") (dunderR "mul")=pure (some (.builtin "tuple.__rmul__")):=by rw [typeLookup_type,builtinLookup_eq_fast];kernel_rfl
theorem noFill_tuple_mul:fillsNumberSlot (.type "tuple") "mul"=pure false :=
  PySem.fillsNumberSlot_seq (id:="tuple.__mul__") (r:=some (.builtin "tuple.__rmul__")) F.slot_tuple_mul.lookup (by decide +kernel) noR_tuple (by decide +kernel)
theorem repeat_tuple:seqRepeat? (.type "tuple")=pure (some (.builtin "tuple.__mul__")):=by
  unfold seqRepeat?
  rw [PySem.seqSlot_of (T:="tuple") (name:="__mul__") (id:="tuple.__mul__") F.slot_tuple_mul.lookup (by decide +kernel),PySem.seqSlot_of (T:="tuple") (name:="__rmul__") (id:="tuple.__rmul__") noR_tuple (by decide +kernel)]
  rfl
theorem rmul_tuple (a:Int) (t:Tok) (l:Addr) (items:Array Value) (n:Nat) (dd:Option Addr) (sl:Array (Option Value)) :
    Meets (Builtin.«int.__rmul__» ⟨[.int a t,.ref l],[]⟩) (fun _ R s=>s.heap.get? l=some { cls:=.type "tuple",dict:=dd,data:=.seq items n,slots:=sl }/\R (.ok (.ret Value.notImplemented)) s) :=
  .of_wp fun prog w A R s h=>by obtain ⟨hp,g,d,tk,os⟩:=s;obtain ⟨hl,h⟩:=h;wp_walk;exact ⟨_,rfl,h⟩
theorem mul_tuple1 (l:Addr) (items:Array Value) (n:Nat) (dd:Option Addr) (sl:Array (Option Value)) (t:Tok) :
    Meets (Builtin.«tuple.__mul__» ⟨[.ref l,.int 1 t],[]⟩) (fun _ R s=>s.heap.get? l=some { cls:=.type "tuple",dict:=dd,data:=.seq items n,slots:=sl }/\R (.ok (.ret (.ref l))) s) :=
  .of_wp fun prog w A R s h=>by
    obtain ⟨hp,g,d,tk,os⟩:=s;obtain ⟨hl,h⟩:=h
    wp_walk
    exact ⟨_,rfl,h⟩
theorem mul_tupleN (l:Addr) (v:Value) (n:Nat) (dd:Option Addr) (sl:Array (Option Value)) (k:Int) (t:Tok) (hk:k=2 ∨ k=3 ∨ k=4) :
    Meets (Builtin.«tuple.__mul__» ⟨[.ref l,.int k t],[]⟩) (fun _ R s=>s.heap.get? l=some { cls:=.type "tuple",dict:=dd,data:=.seq #[v] n,slots:=sl } /\
      R (.ok (.ret (.ref s.heap.objs.size))) { s with heap:=s.heap.push { cls:=.type "tuple",data:=.seq (List.replicate k.toNat v).toArray } }) :=
  .of_wp fun prog w A R s h=>by
    obtain ⟨hp,g,d,tk,os⟩:=s;obtain ⟨hl,h⟩:=h
    rcases hk with rfl | rfl | rfl
    · wp_walk
      exact ⟨_,rfl,h⟩
    · wp_walk
      exact ⟨_,rfl,h⟩
    · wp_walk
      exact ⟨_,rfl,h⟩
def rRep1 (K:PySem.W.Frag):R2:=fun x y H Q=>∃ a v k,x=.ref a/\y=.int k/\SqT K H a [v]/\1 <= k/\k <= 4/\(k=1->Q (.ref a) H)/\(k ≠ 1->∀ p,H p=none->Q (.ref p) (upd H p (.tup (List.replicate k.toNat v))))
theorem vals_rep {v:V} {u:Value} (r:RelV v u):∀ n:Nat,Vals (List.replicate n v) (List.replicate n u)
  | 0=>.nil
  | n + 1=>.cons r (vals_rep r n)
theorem op_rep1:OpR X (binaryOp .Mult) (rRep1 X.K):=by
  intro pins s σ H x y w' u Q I rx ry h
  obtain ⟨a,v,k,rfl,rfl,ha,h1,h4,q1,q2⟩:=h
  cases rx
  obtain ⟨t,rfl⟩:=ry
  obtain ⟨its,r,p1,_⟩:=I.tuple ha
  cases r with
  | cons r1 rr =>
    cases rr
    obtain ⟨⟨cls,dd,data,sl⟩,ho,hc,n,hd⟩:=id p1
    simp only at hc hd
    subst hc hd
    refine wpAny_binaryOp_repeat_ref (T:="tuple") (U:="int") (by decide) ⟨_,ho,rfl⟩ (fun s'=>typeIs_int s' k t) noFill_tuple_mul F.fills_int_mul F.slot_int_rmul repeat_tuple F.slot_int_index.lookup
      (call_meets F.slot_int_rmul (typeIs_int s k t) F.entry_int_rmul (F.args_int_rmul_2 _ _) (rmul_tuple k t a _ n dd sl) ⟨ho,rfl,⟨_,ho,rfl⟩,?_⟩)
    by_cases hk:k=1
    · subst hk
      exact call_meets F.slot_tuple_mul ⟨_,ho,rfl⟩ F.entry_tuple_mul (F.args_tuple_mul_2 _ _) (mul_tuple1 a _ n dd sl t) ⟨ho,⟨.ref a,H,I,rfl,q1 rfl⟩⟩
    · refine call_meets F.slot_tuple_mul ⟨_,ho,rfl⟩ F.entry_tuple_mul (F.args_tuple_mul_2 _ _) (mul_tupleN a _ n dd sl k t (by omega)) ⟨ho,?_⟩
      refine ⟨.ref s.heap.objs.size,_,I.laid (t':=s.toks) (o:=.tup (List.replicate k.toNat v)) (fun b ob q=>Heap.get?_push_of_some _ q) (Nat.le_refl _) ?_,rfl,q2 hk _ (I.hok.fresh (Nat.le_refl _))⟩
      exact ⟨by rw [List.length_replicate];exact Nat.le_trans (show k.toNat <= 1000 by omega) (Nat.le_of_lt (small1000 (Nat.le_refl _))),_,vals_rep r1 _,IsTup.new _ _⟩
end
end L2
namespace L2
open PySem PySem.Spec PyProof.Rows
structure Cal (P:Program) (w:World) (K:PySem.W.Frag) (mg:Str->Option Value) (base:Heap) (k:Nat) (x:Str) (ps:List Str) (sp:Sp):Prop where
  ex:∃ f fd,mg x=some (.ref f)/\PySem.W.keepIn K (.ref f)=true/\Binds K fd ps []/\FnOk P w K mg base CX0 k f fd ps sp
theorem Cal.up {P:Program} {w:World} {K:PySem.W.Frag} {mg:Str->Option Value} {base:Heap} {j k:Nat} {x:Str} {ps:List Str} {sp:Sp} (C:Cal P w K mg base j x ps sp) (h:j <= k):Cal P w K mg base k x ps sp :=
  let ⟨f,fd,a,b,c,d⟩:=C.ex;⟨f,fd,a,b,c,d.mono h⟩
def tCb (sp:Sp) (t:TA):TE:=fun σ H Q=>t σ H fun vs H1=>sp vs H1 Q E0
section
variable {X:Cx} {k:Nat} {x:Str} {ps:List Str} {sp:Sp} {p pos:Pos} {e:Expr} {es:List Expr} {t:TA}
theorem pe_cal (C:Cal X.prog X.w X.K X.mg X.base k x ps sp) (hr:Room k X.A) (hg:Gl X x) (ha:PA X (e :: es) t)
    (hdb:(x == ("__debug__":Str))=false:=by decide) (he:starEach (e :: es) X.env=(false,eval e X.env) :: starEach es X.env:=by rfl) (hpl:(backTo pos (starEach es X.env)).any (·.1)=false:=by rfl) :
    PE X (.Call (.Name x p) (e :: es) [] pos) (tCb sp t):=by
  obtain ⟨f,fd,hm,hk,hb,F⟩:=C.ex
  have h:=pe_call (x:=x) (p:=p) (pos:=pos) F hr hg hm hk hb .nil pass0 ha hdb he hpl
  have e:tCall sp [] E0 t=tCb sp t:=by
    funext σ H Q
    show t σ H (fun vs H1=>sp (vs ++ []) H1 Q E0)=t σ H (fun vs H1=>sp vs H1 Q E0)
    congr 1
    funext vs H1
    rw [List.append_nil]
  rw [<- e];exact h
end
section
variable {K:PySem.W.Frag} {σ0:St} {te:TE} {H:Hp} {F:List V->Hp->Prop}
theorem blk_range {lo:Int} {n:Nat} (hn:n <= sizeLine) (Pv:Nat->List V->Hp->Prop) (h0:Pv 0 [] H) (hl:∀ i ys H,Pv i ys H->ys.length=i) (hσ:σ0[0]?=some none)
    (hs:∀ i ys H,i < n->Pv i ys H->te (σ0.set 0 (some (.int (lo + i)))) H fun y H'=>Pv (i + 1) (ys ++ [y]) H') (hd:∀ ys H,Pv n ys H->F ys H):Blk (Itr lo n) σ0 (gName 0) tTrue te H F:=by
  refine ⟨fun i m ys H=>m=n - i/\i <= n/\Pv i ys H,⟨n,by simp,Nat.zero_le _,h0⟩,?_⟩
  rintro i m ys H2 ⟨rfl,hi,p⟩
  refine ⟨by rw [hl i ys H2 p];omega,?_⟩
  by_cases hlt:i < n
  · refine .inr ⟨hlt,fun y H'=>Pv (i + 1) (ys ++ [y]) H',fun _=>False,fun y H' q=>⟨n - (i + 1),by omega,rfl,hlt,q⟩,fun _ q=>q.elim,fun x H3 y=>?_⟩
    obtain ⟨rfl,rfl⟩:=y
    exact ⟨Wk.set (.inl hσ),hs i ys _ hlt p⟩
  · have e:i=n:=by omega
    subst e
    exact .inl ⟨Nat.le_refl _,hd ys H2 p⟩
theorem blk_tup {a:Addr} {xs:List V} (hn:xs.length <= sizeLine) (Pv:Nat->List V->Hp->Prop) (h0:Pv 0 [] H) (hl:∀ i ys H,Pv i ys H->ys.length=i) (hq:∀ i ys H,i <= xs.length->Pv i ys H->SqT K H a xs) (hσ:σ0[0]?=some none)
    (hs:∀ i ys H x,xs[i]?=some x->Pv i ys H->te (σ0.set 0 (some x)) H fun y H'=>Pv (i + 1) (ys ++ [y]) H') (hd:∀ ys H,Pv xs.length ys H->F ys H):Blk (Itt K a) σ0 (gName 0) tTrue te H F:=by
  refine ⟨fun i m ys H=>m=xs.length - i/\i <= xs.length/\Pv i ys H,⟨xs.length,by simp,Nat.zero_le _,h0⟩,?_⟩
  rintro i m ys H2 ⟨rfl,hi,p⟩
  have q:=hq i ys H2 hi p
  refine ⟨by rw [hl i ys H2 p];omega,?_⟩
  by_cases hlt:i < xs.length
  · refine .inr ⟨⟨xs,xs[i],q,by simp [hlt]⟩,fun y H'=>Pv (i + 1) (ys ++ [y]) H',fun _=>False,fun y H' q=>⟨xs.length - (i + 1),by omega,rfl,hlt,q⟩,fun _ q=>q.elim,fun x H3 y=>?_⟩
    obtain ⟨rfl,y⟩:=y
    exact ⟨Wk.set (.inl hσ),hs i ys _ x (y xs q) p⟩
  · have e:i=xs.length:=by omega
    subst e
    exact .inl ⟨⟨xs,q,Nat.le_refl _⟩,hd ys H2 p⟩
theorem blk_zip {a b:Addr} {xs ys:List V} (hn:xs.length <= sizeLine) (hxy:xs.length=ys.length) (Pv:Nat->List V->Hp->Prop) (h0:Pv 0 [] H) (hl:∀ i zs H,Pv i zs H->zs.length=i)
    (hq:∀ i zs H,i <= xs.length->Pv i zs H->SqT K H a xs/\SqT K H b ys) (hσ:σ0[0]?=some none/\σ0[1]?=some none)
    (hs:∀ i zs H x y p,xs[i]?=some x->ys[i]?=some y->H p=none->Pv i zs H->te ((σ0.set 0 (some x)).set 1 (some y)) (upd H p (.tup [x,y])) fun z H'=>Pv (i + 1) (zs ++ [z]) H') (hd:∀ zs H,Pv xs.length zs H->F zs H) :
    Blk (Itz K a b) σ0 (gTup K 2 (gCons (gName 0) (gCons (gName 1) gNil))) tTrue te H F:=by
  refine ⟨fun i m zs H=>m=xs.length - i/\i <= xs.length/\Pv i zs H,⟨xs.length,by simp,Nat.zero_le _,h0⟩,?_⟩
  rintro i m zs H2 ⟨rfl,hi,p⟩
  obtain ⟨q1,q2⟩:=hq i zs H2 hi p
  refine ⟨by rw [hl i zs H2 p];omega,?_⟩
  by_cases hlt:i < xs.length
  · refine .inr ⟨⟨xs,ys,xs[i],ys[i]'(by omega),q1,q2,by simp [hlt],by rw [List.getElem?_eq_getElem (by omega)]⟩,fun y H'=>Pv (i + 1) (zs ++ [y]) H',fun _=>False,fun y H' q=>⟨xs.length - (i + 1),by omega,rfl,hlt,q⟩,fun _ q=>q.elim,fun v H3 yld=>?_⟩
    obtain ⟨r,x,y,hr,rfl,rfl,hx,hy⟩:=yld
    refine ⟨r,[x,y],rfl,.of upd_same,rfl,x,[y],rfl,y,[],rfl,rfl,?_,?_⟩
    · refine ⟨by simp,fun j u e=>?_⟩
      by_cases h1:j=1
      · subst h1;rw [hσ.2] at e;cases e
      · rw [List.getElem?_set_ne (Ne.symm h1)]
        by_cases h2:j=0
        · subst h2;rw [hσ.1] at e;cases e
        · rw [List.getElem?_set_ne (Ne.symm h2)];exact e
    · exact hs i zs _ x y r (hx xs q1) (hy ys q2) hr p
  · have e:i=xs.length:=by omega
    subst e
    exact .inl ⟨⟨xs,q1,Nat.le_refl _⟩,hd zs H2 p⟩
end
section
variable {X:Cx}
theorem pe_bty {x:Str} {T:String} {pos:Pos} (hg:Gl X x) (hm:X.mg x=none) (hv:bootBuiltins x=some (.type T)) (hn:x ≠ "__name__":=by decide) (hd:(x == ("__debug__":Str))=false:=by decide):PE X (.Name x pos) (tC (.ty T)):=pe_bltn hg hm hv (v:=.ty T) rfl hn hd
theorem pg_c {scope:Scope} {N:List Str} {s:Shared} {H:Hp} {ex:List Addr} {i:Nat} {x:Str} {pos:Pos} (hN:N.Nodup) (hi:N[i]?=some x) (hx:Loc (X.comp scope N s H ex).env.scope x)
    (hf:(X.comp scope N s H ex).fn x=true ∨ (X.comp scope N s H ex).env.scope.names.lookup x=some .local):PG (X.comp scope N s H ex) (.Name x pos) (gName i):=pg_name hN hi hx hf
end
theorem sz {n:Nat} (h:n <= 1000):n <= sizeLine:=Nat.le_of_lt (small1000 h)
end L2
namespace L2
open PySem PySem.Spec PyProof.Rows
section
variable {X:Cx} {K:PySem.W.Frag}
theorem lenK (h:X.K=K):CallR X (.builtin "len") (fun xs H Q=>∃ p ys,xs=[.ref p]/\(SqL K H p ys ∨ SqT K H p ys)/\Q (.int ys.length) H):=by subst h;exact call_len_seq
theorem sumK (h:X.K=K) (hc:X.calm=true):CallR X (.builtin "sum") (fun xs H Q=>∃ (p:Addr) (ns:List Int),xs=[.ref p]/\(SqL K H p (ns.map V.int) ∨ SqT K H p (ns.map V.int))/\Q (.int ns.sum) H):=by subst h;exact call_sum_seq hc
theorem tupK (h:X.K=K):CallR X (.type "tuple") (fun xs H Q=>∃ p ys,xs=[.ref p]/\((SqL K H p ys/\∀ l,H l=none->Q (.ref l) (upd H l (.tup ys))) ∨ (SqT K H p ys/\Q (.ref p) H))):=by subst h;exact call_tuple_of
theorem ixK (h:X.K=K):IxR X (rIxT K):=by subst h;exact ix_tup
theorem ixLK (h:X.K=K):IxR X (rIxL K):=by subst h;exact ix_list
theorem pgtK (h:X.K=K) {es:List Expr} {k:Nat} {t:TGs} {n:Nat} {pos:Pos} (hc:X.calm=true) (hp:PGs X es t)
    (hn:(assignEach es X.env).length=n:=by rfl) (hst:(assignEach es X.env).findIdx? (·.1)=none:=by rfl):PG X (.Tuple es k pos) (gTup K n t):=by subst h;exact pg_tup hc hp hn hst
end
end L2
namespace L2
open PySem PySem.Spec PyProof.Rows
def Hd (h:Heap) (a C:Addr):Option Addr->Prop
  | none=>∃ oe vs,h.get? a=some oe/\oe.cls=.ref C/\oe.dict=none/\oe.data=.fields vs/\vs[1]?=some .none
  | some T=>∃ oe vs oT ts,h.get? a=some oe/\oe.cls=.ref C/\oe.dict=none/\oe.data=.fields vs/\vs[1]?=some (.ref T)/\T ≠ a/\h.get? T=some oT/\oT.data=.fields ts/\ts[3]?=some .none
theorem Hd.at {h:Heap} {a C:Addr} {x:Option Addr} (q:Hd h a C x):∃ oe vs,h.get? a=some oe/\oe.cls=.ref C/\oe.dict=none/\oe.data=.fields vs:=by
  cases x with
  | none=>obtain ⟨oe,vs,e1,e2,e3,e4,_⟩:=q;exact ⟨oe,vs,e1,e2,e3,e4⟩
  | some T=>obtain ⟨oe,vs,_,_,e1,e2,e3,e4,_⟩:=q;exact ⟨oe,vs,e1,e2,e3,e4⟩
theorem dict_mapFields (f:Array Value->Array Value) (o:Obj):(Obj.mapFields f o).dict=o.dict:=by
  obtain ⟨c,d,dt,sl⟩:=o
  cases dt <;> rfl
theorem entry_x {M:Model} {A:Around} {E:Value->Shared->Prop} {s:Shared} {bs:Heap} {ev:Env} {out:List Env} {L a C:Addr} {ob:Obj} {us:Array Value} {hdv:Value} {hn:Bool} {Q:Unit->Shared->Prop}
    (fr:A.frames=some (ev :: out)) (ff:s.heap.FunFrames bs (ev :: out)) (fl:ev.frame=some L) (ga:s.heap.get? a=some ob) (gc:ob.cls=.ref C) (gd:ob.dict=none) (gf:ob.data=.fields us) (sz:1 < us.size)
    (k:∀ h' T,Hd h' a C (some T)->s.heap.objs.size <= T->(∀ b o,b ≠ a->b ∉ frs (ev :: out)->s.heap.get? b=some o->h'.get? b=some o) ->
      (∀ b o,b ≠ a->s.heap.get? b=some o->∃ sl,h'.get? b=some { o with slots:=sl })->Q () { s with heap:=h' }) :
    wpAny M A (do let x <- frameOf ev;let pl <- entryPlaceOf L hn;let b <- EntryCells.newEntry hdv x .none (rawInt L) .none pl;setField (.ref a) 1 b) (fun _ s'=>wpAny M A (setFlight (.ref a) none) Q E s') E s:=by
  have na:a ∉ (ev :: out).filterMap (·.frame):=fun hm=>by
    obtain ⟨_,o,ho,hnf⟩:=ff.mem hm
    rw [ga] at ho
    cases ho
    exact hnf us gf
  refine wpAny_bind (wpAny_frameOf_fun fr ff fl fun g1 hs=>?_)
  refine wpAny_bind (wpAny_entryPlaceOf fun pl hpl=>?_)
  unfold EntryCells.newEntry newFields
  refine wpAny_bind (wpAny_newObj_type ?_ (hpl.sizeOk5 _ _ _ _ _))
  have ga1:g1.get? a=some ob:=(hs.2.1 a na).trans ga
  generalize hnew:({ cls:=.type "traceback",dict:=none,data:=.fields ([hdv,.ref L,.none,rawInt L,.none] ++ (if pl.isEmpty then List.replicate 6 Value.none else pl)).toArray }:Obj)=ot
  have ga2:(g1.push ot).get? a=some ob:=Heap.get?_push_of_some (h:=g1) ot ga1
  have gt2:(g1.push ot).get? g1.objs.size=some ot:=Heap.get?_push_size g1 (by rw [<- hnew];rfl)
  have otd:∃ ts,ot.data=.fields ts/\3 < ts.size:=by
    refine ⟨_,by rw [<- hnew],?_⟩
    simp only [List.size_toArray,List.length_append,List.length_cons,List.length_nil]
    omega
  obtain ⟨ts,otd,tsz⟩:=otd
  refine wpAny_setField ga2 gf sz ?_
  have neT:g1.objs.size ≠ a:=Nat.ne_of_gt (Heap.lt_size ga1)
  have d3:=Obj.data_mapFields gf (·.setIfInBounds 1 (Value.ref g1.objs.size))
  have ga3:=Heap.get?_update_self (Obj.mapFields (·.setIfInBounds 1 (Value.ref g1.objs.size))) ga2 (Obj.isFreed_of_fields d3)
  have gt3:((g1.push ot).update a (Obj.mapFields (·.setIfInBounds 1 (Value.ref g1.objs.size)))).get? g1.objs.size=some ot :=
    (Heap.get?_update_other (g1.push ot) (Obj.mapFields (·.setIfInBounds 1 (Value.ref g1.objs.size))) (Ne.symm neT)).trans gt2
  unfold setFlight
  refine wpAny_bind (wpAny_field ga3 d3 (x:=.ref g1.objs.size) (by simp [sz]) ?_)
  rw [if_pos (show (Value.ref g1.objs.size != Value.none)=true from by simp)]
  refine wpAny_setField gt3 otd tsz ?_
  have kp:∀ b o,b ≠ a->g1.get? b=some o ->
      (((g1.push ot).update a (Obj.mapFields (·.setIfInBounds 1 (Value.ref g1.objs.size)))).update g1.objs.size (Obj.mapFields (·.setIfInBounds 3 ((none:Option Addr).elim Value.none fun f=>rawInt f)))).get? b=some o:=by
    intro b o hb e
    have hbT:g1.objs.size ≠ b:=Nat.ne_of_gt (Heap.lt_size e)
    rw [Heap.get?_update_other _ _ hbT,Heap.get?_update_other _ _ (Ne.symm hb)]
    exact Heap.get?_push_of_some _ e
  refine k _ g1.objs.size ⟨_,_,_,_,(Heap.get?_update_other _ _ neT).trans ga3,?_,?_,d3,by simp [sz],neT,Heap.get?_update_self _ gt3 (Obj.isFreed_of_fields (Obj.data_mapFields otd _)),Obj.data_mapFields otd _,?_⟩ (by rw [hs.1];exact Nat.le_refl _) (fun b o hb hf e=>?_) (fun b o hb e=>?_)
  · rw [Obj.cls_mapFields]
    exact gc
  · rw [dict_mapFields]
    exact gd
  · rw [Array.getElem?_setIfInBounds_self_of_lt tsz]
    rfl
  · exact kp b o hb ((hs.2.1 b hf).trans e)
  · obtain ⟨sl,e1⟩:=hs.2.2 b o e
    exact ⟨sl,kp b _ hb e1⟩
theorem note_x {M:Model} {A:Around} {E:Value->Shared->Prop} {s:Shared} {bs:Heap} {ev:Env} {out:List Env} {L a C:Addr} {hd:Option Addr} {Q:Unit->Shared->Prop}
    (fr:A.frames=some (ev :: out)) (ff:s.heap.FunFrames bs (ev :: out)) (fl:ev.frame=some L) (x:Hd s.heap a C hd)
    (k:∀ h' T,Hd h' a C (some T)->s.heap.objs.size <= T->(∀ b o,b ≠ a->hd ≠ some b->b ∉ frs (ev :: out)->s.heap.get? b=some o->h'.get? b=some o) ->
      (∀ b o,b ≠ a->hd ≠ some b->s.heap.get? b=some o->∃ sl,h'.get? b=some { o with slots:=sl })->Q () { s with heap:=h' }) :
    wpAny M A (noteFrame (.ref a) ev) (fun _ s'=>wpAny M A (setFlight (.ref a) none) Q E s') E s:=by
  unfold noteFrame
  simp only [fl]
  cases hd with
  | none =>
    obtain ⟨oe,vs,e1,e2,e3,e4,e5⟩:=x
    refine wpAny_bind (wpAny_field e1 e4 e5 ?_)
    rw [if_neg (by decide)]
    exact entry_x fr ff fl e1 e2 e3 e4 (Array.getElem?_eq_some_iff.mp e5).1 fun h' T q1 q2 q3 q4=>k h' T q1 q2 (fun b o hb _=>q3 b o hb) (fun b o hb _=>q4 b o hb)
  | some T0 =>
    obtain ⟨oe,vs,oT,ts,e1,e2,e3,e4,e5,ne,t1,t2,t3⟩:=x
    refine wpAny_bind (wpAny_field e1 e4 e5 ?_)
    rw [if_pos (show (Value.ref T0 != Value.none)=true from by simp)]
    refine wpAny_bind (wpAny_field t1 t2 t3 ?_)
    rw [if_neg (show ¬ ((Value.none == rawInt L)=true) from by simp [rawInt])]
    refine wpAny_bind (wpAny_setField t1 t2 (Array.getElem?_eq_some_iff.mp t3).1 ?_)
    have ot:∀ b,b ≠ T0->(s.heap.update T0 (Obj.mapFields (·.setIfInBounds 3 Value.none))).get? b=s.heap.get? b:=fun b hb=>Heap.get?_update_other _ _ (Ne.symm hb)
    have nr:∀ b o,s.heap.get? b=some o->(∀ vs,o.data ≠ .fields vs)->b ≠ T0:=fun b o hb hnf q=>by
      rw [q,t1] at hb
      cases hb
      exact hnf ts t2
    refine entry_x fr (ff.of_keeps fun b o hb hnf=>⟨o,(ot b (nr b o hb hnf)).trans hb,rfl⟩) fl ((ot a (Ne.symm ne)).trans e1) e2 e3 e4 (Array.getElem?_eq_some_iff.mp e5).1 fun h' T q1 q2 q3 q4=>?_
    have q2':s.heap.objs.size <= T:=by
      have z:=Heap.size_after_update s.heap T0 (Obj.mapFields (·.setIfInBounds 3 Value.none))
      rw [<- z];exact q2
    exact k h' T q1 q2' (fun b o hb hx hf e=>q3 b o hb hf ((ot b fun z=>hx (by rw [z])).trans e)) (fun b o hb hx e=>q4 b o hb ((ot b fun z=>hx (by rw [z])).trans e))
theorem leave_x {M:Model} {A:Around} {E:Value->Shared->Prop} {s:Shared} {bs:Heap} {ev:Env} {out:List Env} {L a C:Addr} {hd:Option Addr} {Q:Unit->Shared->Prop}
    (fr:A.frames=some (ev :: out)) (ff:s.heap.FunFrames bs (ev :: out)) (fl:ev.frame=some L) (x:Hd s.heap a C hd)
    (k:∀ h' T,Hd h' a C (some T)->s.heap.objs.size <= T->(∀ b o,b ≠ a->hd ≠ some b->b ∉ frs (ev :: out)->s.heap.get? b=some o->h'.get? b=some o) ->
      (∀ b o,b ≠ a->hd ≠ some b->s.heap.get? b=some o->∃ sl,h'.get? b=some { o with slots:=sl })->Q () { s with heap:=h' }) :
    wpAny M A (leaving ev (.ref a)) Q E s:=by
  unfold leaving
  exact wpAny_bind (note_x fr ff fl x k)
end L2
namespace L2
open PySem PySem.Spec PyProof.Rows
theorem ObjOk.there {P:Program} {w:World} {H:Hp} {h:Heap} {a:Addr} {o:HO} (x:ObjOk P w H h a o):∃ u,h.get? a=some u:=by
  cases o with
  | lst xs=>obtain ⟨_,_,_,_,e⟩:=x;exact ⟨_,e⟩
  | tup xs=>obtain ⟨_,_,_,ob,e,_⟩:=x;exact ⟨_,e⟩
  | dK kvs=>obtain ⟨_,_,_,_,ob,_,_,e,_⟩:=x;exact ⟨_,e⟩
  | dT kvs=>obtain ⟨_,_,_,_,ob,_,_,e,_⟩:=x;exact ⟨_,e⟩
  | set S n=>obtain ⟨ob,_,_,_,e,_⟩:=x;exact ⟨_,e⟩
  | ins C dx fs=>obtain ⟨_,_,_,e,_⟩:=x;exact ⟨_,e⟩
  | own y=>exact x
  | xd fs=>obtain ⟨_,⟨_,_,_,e,_⟩,_⟩:=x;exact ⟨_,e⟩
  | rng lo hi=>obtain ⟨_,_,_,e⟩:=x;exact ⟨_,e⟩
  | frz ob u=>obtain ⟨e,_⟩:=x;exact ⟨_,e⟩
  | tbl ps=>exact ⟨_,(show h.get? a=some _ from x)⟩
  | met f y=>exact ⟨_,(show h.get? a=some _ from x)⟩
  | ext φ=>obtain ⟨_,e,_⟩:=x;exact e
theorem HOk.none_of {P:Program} {w:World} {H:Hp} {h:Heap} {a:Addr} (x:HOk P w H h) (e:h.get? a=none):H a=none:=by
  cases z:H a with
  | none=>rfl
  | some u =>
    obtain ⟨o,eo⟩:=(x a u z).there
    rw [e] at eo
    cases eo
structure Fly (P:Program) (w:World) (fs:List Addr) (H:Hp) (s:Shared) (a C:Addr) (H':Hp) (s':Shared):Prop where
  os:s'.os=s.os
  bare:AllBare s'.gens
  un:Un fs [] H H' s.heap s'.heap
  hok:HOk P w H' s'.heap
  exc:∃ T,Hd s'.heap a C (some T)/\s.heap.get? a=none/\s.heap.get? T=none/\H' a=none/\H' T=none
def CX1 (P:Program) (w:World):CXT:=fun outer H s E e s'=>∃ a C H',e=.ref a/\Fly P w (frs outer) H s a C H' s'/\E (.ref C) none H'
theorem un_x {fs:List Addr} {H:Hp} {h h':Heap} {a:Addr} {hd:Option Addr} (ha:H a=none) (ht:∀ T,hd=some T->H T=none) (hf:∀ b ∈ fs,H b=none)
    (k1:∀ b o,b ≠ a->hd ≠ some b->b ∉ fs->h.get? b=some o->h'.get? b=some o) {P:Program} {w:World} (ok:HOk P w H h):HOk P w H h':=fun b o e=>by
  have nt:∀ c u,H c=some u->c ≠ a/\hd ≠ some c/\c ∉ fs:=fun c u q=>by
    refine ⟨fun z=>?_,fun z=>?_,fun z=>?_⟩
    · rw [z,ha] at q;cases q
    · rw [ht c z] at q;cases q
    · rw [hf c z] at q;cases q
  refine (ok b o e).stay (fun c u hc q=>?_) (fun _ q=>q) fun _ _ q=>q
  rcases hc with z | z
  · subst z
    obtain ⟨n1,n2,n3⟩:=nt _ _ e
    exact k1 _ u n1 n2 n3 q
  · obtain ⟨n1,n2,n3⟩:=nt _ _ z
    exact k1 _ u n1 n2 n3 q
theorem fly_out {X:Cx} {pins:List (Addr × Obj)} {σ:St} {H:Hp} {s:Shared} {a C:Addr} {hd:Option Addr} {M:Model} {Q:Unit->Shared->Prop} {E:Value->Shared->Prop} (I:Inv X pins σ H s) (hs:X.stack=X.env :: X.outer) (hf:X.env.frame=some X.env.locals) (hex:X.ex=[])
    (x:Hd s.heap a C hd) (na:X.s₀.heap.get? a=none) (nT:∀ T,hd=some T->X.s₀.heap.get? T=none) (ha:H a=none) (ht:∀ T,hd=some T->H T=none)
    (q:∀ s',Fly X.prog X.w X.fs X.H₀ X.s₀ a C H s'->Q () s'):wpAny M X.A (leaving X.env (.ref a)) Q E s:=by
  have fr:X.A.frames=some (X.env :: X.outer):=by rw [I.ok.frames,hs]
  have ff:s.heap.FunFrames X.base (X.env :: X.outer):=by rw [<- hs];exact I.stack
  have hfs:frs (X.env :: X.outer)=X.env.locals :: X.fs:=by
    unfold frs
    rw [List.filterMap_cons,hf]
    rfl
  refine leave_x fr ff hf x fun h' T k0 k00 k1 k2=>q _ ?_
  have exN:∀ b,b ∉ X.ex:=fun b z=>by rw [hex] at z;cases z
  have neA:∀ b o,X.s₀.heap.get? b=some o->b ≠ a/\hd ≠ some b/\b ≠ X.env.locals:=fun b o e=>by
    refine ⟨fun z=>?_,fun z=>?_,Nat.ne_of_lt (Nat.lt_of_lt_of_le (Heap.lt_size e) I.ok.above)⟩
    · rw [z,na] at e;cases e
    · rw [nT b z] at e;cases e
  refine ⟨I.os,I.bare,⟨fun b o e n hb _=>?_,fun b o e n hb _=>?_,fun b o e n _=>I.base.free b o e n (exN b),fun b o e _=>?_,I.base.tups,I.base.frzs,I.base.tbls⟩,un_x (fs:=frs (X.env :: X.outer)) ha ht (fun b hb=>I.stkFree b (by rw [hs];exact hb)) k1 I.hok,T,k0,na,?_,ha,I.hok.fresh k00⟩
  · obtain ⟨n1,n2,n3⟩:=neA b o e
    exact k1 b o n1 n2 (by rw [hfs];intro z;rcases List.mem_cons.mp z with z | z;exact n3 z;exact hb z) (I.base.keep b o e n hb (exN b))
  · obtain ⟨n1,n2,n3⟩:=neA b o e
    obtain ⟨sl,e1⟩:=I.base.slot b o e n hb (exN b)
    obtain ⟨sl',e2⟩:=k2 b _ n1 n2 e1
    exact ⟨sl',e2⟩
  · obtain ⟨n1,n2,n3⟩:=neA b o e
    obtain ⟨o',e1⟩:=I.base.there b o e (exN b)
    obtain ⟨sl',e2⟩:=k2 b _ n1 n2 e1
    exact ⟨_,e2⟩
  · exact Heap.get?_none_of_le (Nat.le_trans I.sz k00)
theorem none_back {fs:List Addr} {H H':Hp} {h h':Heap} (u:Un fs [] H H' h h') {b:Addr} (e:h'.get? b=none):h.get? b=none:=by
  cases q:h.get? b with
  | none=>rfl
  | some o =>
    obtain ⟨o',e'⟩:=u.there b o q (by simp)
    rw [e'] at e
    cases e
section
variable {P:Program} {w:World} {K:PySem.W.Frag} {mg:Str->Option Value} {base:Heap} {N:List Str} {qual:Str} {scope:Scope} {f:Addr} {cd:Value} {A:Around} {outer:List Env} {s₀:Shared} {H₀:Hp} {E:XK}
theorem passes1:Passes (CX1 P w) (cxOf (CX1 P w) P w K mg base N qual scope f cd A outer s₀ H₀ E) E:=by
  intro pins σ H s e s' I h
  obtain ⟨a,C,H',rfl,F,hE⟩:=h
  obtain ⟨T,x,n1,n2,n3,n4⟩:=F.exc
  have I':=I.call' (ch:=[]) F.os F.un F.hok F.bare (fun b z=>absurd z (by simp))
  exact fly_out I' rfl rfl rfl x (none_back I.base n1) (fun T' z=>by cases z;exact none_back I.base n2) n3 (fun T' z=>by cases z;exact n4) fun s'' F'=>⟨a,C,H',rfl,F',hE⟩
def vE:List Value:=[.type "ValueError",.type "Exception",.type "BaseException",.type "object"]
def XC (K:PySem.W.Frag) (C:Addr):Prop:=PySem.W.excIn K C vE "ValueError.__new__"=true
theorem exc_obj {K:PySem.W.Frag} {h:Heap} {C:Addr} (X:K.In h) (q:XC K C) :
    ∃ bm N nm q bs hdct sn sub ab col dd k0 k1 k2 k3 k5 mN,h.get? C=some (excClassObj nm q C N bs bm hdct sn sub ab col dd k0 k1 k2 k3 k5 "ValueError.__new__")/\h.Ns N mN/\mN "__init__"=none/\OwnTail h vE bm:=by
  unfold XC PySem.W.excIn at q
  split at q
  case h_2=>cases q
  case h_1 dd cd sl ho =>
    split at q
    case h_2=>cases q
    case h_1 C' bm k0 k1 k2 k3 n k5 hm hs =>
      simp only [Bool.and_eq_true,beq_iff_eq,Bool.not_eq_true'] at q
      obtain ⟨⟨⟨⟨⟨z1,z2⟩,hdel⟩,ht⟩,hok⟩,hni⟩:=q
      subst z1
      subst z2
      obtain ⟨nm,bs,mro,ns,qn,hd,sn,sub,ab,col,del⟩:=cd
      dsimp only at hm hdel hok hni
      subst hm hdel
      have hsl:sl=#[k0,k1,k2,k3,some (.builtin "ValueError.__new__"),k5]:=by
        obtain ⟨l⟩:=sl
        simp only at hs
        rw [hs]
      subst hsl
      exact ⟨bm,ns,nm,qn,bs,hd,sn,sub,ab,col,dd,k0,k1,k2,k3,k5,_,X _ _ ho,.of_isNs (PySem.W.isNs_of_in X hok),PySem.W.nsMap_none_of_in X hok hni,PySem.W.tail_of_in X ht⟩
def tRaise (C:Addr) (E:XK) (t:TA):TS:=fun _ σ H=>t σ H fun _ H1=>E (.ref C) none H1
theorem ps_raise {x:Str} {C:Addr} {e:Expr} {es:List Expr} {t:TA} {np cpos pos:Pos} (hg:Gl (cxOf (CX1 P w) P w K mg base N qual scope f cd A outer s₀ H₀ E) x) (hm:mg x=some (.ref C)) (hc:XC K C)
    (ha:PA (cxOf (CX1 P w) P w K mg base N qual scope f cd A outer s₀ H₀ E) (e :: es) t) (hl:(e :: es).length <= 1:=by decide)
    (hdb:(x == ("__debug__":Str))=false:=by decide)
    (he:starEach (e :: es) (envOfC qual scope s₀.heap.objs.size f cd)=(false,eval e (envOfC qual scope s₀.heap.objs.size f cd)) :: starEach es (envOfC qual scope s₀.heap.objs.size f cd):=by rfl)
    (hpl:(backTo cpos (starEach es (envOfC qual scope s₀.heap.objs.size f cd))).any (·.1)=false:=by rfl)
    (hvl:∀ σ H Q,t σ H Q->t σ H fun vs H1=>vs.length <= sizeLine/\Q vs H1) :
    PS (cxOf (CX1 P w) P w K mg base N qual scope f cd A outer s₀ H₀ E) (.Raise (some (.Call (.Name x np) (e :: es) [] cpos)) none pos) (tRaise C E t):=by
  intro pins s σ H D I h
  obtain ⟨bm,NN,nm,q,bs,hdct,sn,sub,ab,col,dd,k0,k1,k2,k3,k5,mN,hC,hN,hni,T⟩:=exc_obj I.ok.mod.kin hc
  have FB:=PySem.F.excBase_ValueError
  refine wpAny_Raise_call_subT (C:=C) (nm:=nm) (q:=q) (N:=NN) (bs:=bs) (bm:=bm) (hdct:=hdct) (sn:=sn) (sub:=sub) (ab:=ab) (col:=col) (dd:=dd) (k0:=k0) (k1:=k1) (k2:=k2) (k3:=k3) (k5:=k5)
    FB (mN:=mN) (T.hasType FB.hasBase) (I.ok.hd rfl) ?_ hni (ld_glob I hg hm ⟨rfl,?_⟩ hdb)
  · show (backTo cpos (starEach (e :: es) (envOfC qual scope s₀.heap.objs.size f cd))).any (·.1)=false
    rw [he]
    show (false || (backTo cpos (starEach es (envOfC qual scope s₀.heap.objs.size f cd))).any (·.1))=false
    rw [hpl]
    rfl
  · have hq:=ha cpos pins s σ H _ I (hvl _ _ _ h)
    show wpAny _ _ (evalArgs (.ref C) true (backTo cpos (starEach (e :: es) (envOfC qual scope s₀.heap.objs.size f cd))) []) _ _ s
    have hq':wpAny (model P w) (A.deeper (envOfC qual scope s₀.heap.objs.size f cd)) (spliced (backTo cpos (starEach (e :: es) (envOfC qual scope s₀.heap.objs.size f cd)))) _ _ s:=hq
    rw [he] at hq' ⊢
    refine Calls.evalArgs_plain (wpAny_mono hq' (fun us s2 ⟨vs,H2,I2,r,lv,hE⟩=>⟨rfl,?_,I2.bk _ _ hC,hN.keeps I2.bk,T.keeps I2.bk,fun h' a mk=>?_⟩) fun _ _ y=>y)
    · show us.length <= sizeLine
      rw [<- r.length]
      exact lv
    · obtain ⟨t,ea,tn,et⟩:=mk.there
      have ha:H2 a=none:=I2.hok.none_of mk.new
      have I3:Inv (cxOf (CX1 P w) P w K mg base N qual scope f cd A outer s₀ H₀ E) pins σ H2 { s2 with heap:=h' }:=I2.kept mk.keeps
      exact fly_out (hd:=none) I3 rfl rfl rfl ⟨_,_,ea,rfl,rfl,rfl,rfl⟩ (none_back I2.base mk.new) (fun T' z=>by cases z) ha (fun T' z=>by cases z) fun s'' F'=>⟨a,C,H2,rfl,F',hE⟩
end
end L2
namespace L2
open PySem PySem.Spec PyProof.Rows
abbrev KN (o:Obj):HO:=.frz o (.ext fun _=>True)
theorem kn_ok {P:Program} {w:World} {H:Hp} {h:Heap} {a:Addr} {o:Obj} (e:h.get? a=some o):ObjOk P w H h a (KN o):=⟨e,trivial,⟨o,e⟩,fun _ _ _ _=>trivial⟩
theorem HOk.kn {P:Program} {w:World} {H:Hp} {h:Heap} {a:Addr} {o:Obj} (x:HOk P w H h) (e:H a=some (KN o)):h.get? a=some o:=(x a _ e).1
theorem HOk.know {P:Program} {w:World} {H:Hp} {h:Heap} {a:Addr} {o:Obj} (x:HOk P w H h) (n:H a=none) (e:h.get? a=some o):HOk P w (upd H a (KN o)) h:=fun b u q=>by
  by_cases hb:b=a
  · subst hb
    rw [upd_same] at q
    cases q
    exact kn_ok e
  · rw [upd_ne hb] at q
    exact (x b u q).stay (fun _ _ _ z=>z) (fun c z=>by rw [upd_ne (ne_of_none z n)];exact z) fun c xs z=>by rw [upd_ne (ne_of_none z n)];exact z
theorem Un.know {fs ex:List Addr} {H H':Hp} {h h':Heap} {a:Addr} {o:HO} (u:Un fs ex H H' h h') (n:H' a=none) (na:h.get? a=none):Un fs ex H (upd H' a o) h h' where
  keep:=u.keep
  slot:=u.slot
  free:=fun b ob q m hx=>by
    rw [upd_ne (fun z=>by rw [z,na] at q;cases q)]
    exact u.free b ob q m hx
  there:=u.there
  tups:=fun b xs q=>by
    rw [upd_ne (ne_of_none (u.tups b xs q) n)]
    exact u.tups b xs q
  frzs:=fun b ob xs q=>by
    rw [upd_ne (ne_of_none (u.frzs b ob xs q) n)]
    exact u.frzs b ob xs q
  tbls:=fun b ps q=>by
    obtain ⟨m,e⟩:=u.tbls b ps q
    exact ⟨m,by rw [upd_ne (ne_of_none e n)];exact e⟩
section
variable {P:Program} {w:World} {fs:List Addr} {H H':Hp} {s s':Shared} {a C:Addr} {M:Model} {A:Around} {E:Value->Shared->Prop} {Q:Unit->Shared->Prop}
theorem Fly.noteW {bs:Heap} {ev:Env} {out:List Env} {L:Addr} (F:Fly P w (frs (ev :: out)) H s a C H' s') (fr:A.frames=some (ev :: out)) (ff:s'.heap.FunFrames bs (ev :: out)) (fl:ev.frame=some L) (hfs:∀ b ∈ frs (ev :: out),H' b=none)
    (q:∀ s'',Fly P w (frs (ev :: out)) H s a C H' s''->Q () s''):wpAny M A (noteFrame (.ref a) ev) (fun _ s2=>wpAny M A (setFlight (.ref a) none) Q E s2) E s':=by
  obtain ⟨T0,x,n1,n2,n3,n4⟩:=F.exc
  refine note_x fr ff fl x fun h' T k0 k00 k1 k2=>q _ ?_
  have neA:∀ b o,s.heap.get? b=some o->b ≠ a/\some T0 ≠ some b:=fun b o e=>by
    refine ⟨fun z=>?_,fun z=>?_⟩
    · rw [z,n1] at e;cases e
    · have z':=Option.some.inj z
      rw [<- z',n2] at e;cases e
  refine ⟨F.os,F.bare,⟨fun b o e n hb hx=>?_,fun b o e n hb hx=>?_,F.un.free,fun b o e hx=>?_,F.un.tups,F.un.frzs,F.un.tbls⟩,un_x (hd:=some T0) n3 (fun T' z=>by cases z;exact n4) hfs k1 F.hok,T,k0,n1,?_,n3,F.hok.fresh k00⟩
  · obtain ⟨m1,m2⟩:=neA b o e
    exact k1 b o m1 m2 hb (F.un.keep b o e n hb hx)
  · obtain ⟨m1,m2⟩:=neA b o e
    obtain ⟨sl,e1⟩:=F.un.slot b o e n hb hx
    obtain ⟨sl',e2⟩:=k2 b _ m1 m2 e1
    exact ⟨sl',e2⟩
  · obtain ⟨m1,m2⟩:=neA b o e
    obtain ⟨o',e1⟩:=F.un.there b o e hx
    obtain ⟨sl',e2⟩:=k2 b _ m1 m2 e1
    exact ⟨_,e2⟩
  · exact none_back F.un (Heap.get?_none_of_le k00)
theorem Fly.landW (F:Fly P w fs H s a C H' s') (hfs:∀ b ∈ fs,H' b=none) (q:∀ s'',Fly P w fs H s a C H' s''->Q () s''):wpAny M A (setFlight (.ref a) none) Q E s':=by
  obtain ⟨T,⟨oe,vs,oT,ts,e1,e2,e3,e4,e5,ne,t1,t2,t3⟩,n1,n2,n3,n4⟩:=F.exc
  refine wpAny_setFlight_none e1 e4 e5 t1 t2 (Array.getElem?_eq_some_iff.mp t3).1 (q _ ?_)
  have ot:∀ b,b ≠ T->(s'.heap.update T (Obj.mapFields (·.setIfInBounds 3 Value.none))).get? b=s'.heap.get? b:=fun b hb=>Heap.get?_update_other _ _ (Ne.symm hb)
  have nT:∀ b o,s.heap.get? b=some o->b ≠ T:=fun b o e z=>by rw [z,n2] at e;cases e
  refine ⟨F.os,F.bare,⟨fun b o e n hb hx=>(ot b (nT b o e)).trans (F.un.keep b o e n hb hx),fun b o e n hb hx=>?_,F.un.free,fun b o e hx=>?_,F.un.tups,F.un.frzs,F.un.tbls⟩,?_,T,?_,n1,n2,n3,n4⟩
  · obtain ⟨sl,z⟩:=F.un.slot b o e n hb hx
    exact ⟨sl,(ot b (nT b o e)).trans z⟩
  · obtain ⟨o',z⟩:=F.un.there b o e hx
    exact ⟨o',(ot b (nT b o e)).trans z⟩
  · exact un_x (fs:=fs) (hd:=some T) n3 (fun T' z=>by cases z;exact n4) hfs (fun b o _ hb _ e=>(ot b fun z=>hb (by rw [z])).trans e) F.hok
  · exact ⟨oe,vs,_,_,(ot a (Ne.symm ne)).trans e1,e2,e3,e4,e5,ne,Heap.get?_update_self _ t1 (Obj.isFreed_of_fields (Obj.data_mapFields t2 _)),Obj.data_mapFields t2 _,by
      rw [Array.getElem?_setIfInBounds_self_of_lt (Array.getElem?_eq_some_iff.mp t3).1]⟩
end
theorem exc_match {K:PySem.W.Frag} {M:Model} {A:Around} {E:Value->Shared->Prop} {s:Shared} {a C D:Addr} {oe:Obj} {Q:Bool->Shared->Prop} (X:K.In s.heap) (he:s.heap.get? a=some oe) (hc:oe.cls=.ref C)
    (h1:PySem.W.kitCls K (.ref C) (.ref D)=some true) (h2:PySem.W.subIn K (.ref D) (.type "BaseException")=some true) (q:Q true s):wpAny M A (excMatches (.ref a) (.ref D)) Q E s:=by
  obtain ⟨l1,l2,l3⟩:=PySem.W.kit_cls (M:=M) X h1
  have l4:=PySem.W.looks_subIn (M:=M) X h2
  have l5:PySem.W.Looks M s.heap (typeOf (.ref a)) (.ref C):=hc ▸ (PySem.W.Looks.ld he).andThen .now
  have l6:PySem.W.Looks M s.heap (isInstance (.ref D) (.type "tuple")) false:=l1.andThen (PySem.W.Looks.of_pure tc_notTuple)
  have l7:PySem.W.Looks M s.heap (isExcClass (.ref D)) true:=l2.andThen (by simpa using l4)
  unfold excMatches
  refine wpAny_bind (l6.here ?_)
  simp only [Bool.false_eq_true,if_false]
  refine wpAny_bind (wpAny_pure ?_)
  simp only [List.forIn_cons,List.forIn_nil]
  refine wpAny_bind (wpAny_bind (wpAny_bind (l7.here ?_)))
  simp only [Bool.not_true,Bool.false_eq_true,if_false]
  refine wpAny_pure (wpAny_pure (wpAny_bind (l5.here (wpAny_bind (wpAny_bind (wpAny_bind (l3.here ?_)))))))
  simp only [if_true]
  exact wpAny_pure (wpAny_pure (wpAny_pure q))
end L2
namespace L2
open PySem PySem.Spec PyProof.Rows
abbrev Cx.marked (X:Cx) (v:Value):Cx:={ X with A:=X.A.mark (some v),calm:=false,xe:=fun _ _=>False }
theorem Inv.marked {X:Cx} {pins:List (Addr × Obj)} {σ:St} {H:Hp} {s:Shared} (I:Inv X pins σ H s) (v:Value):Inv (X.marked v) pins σ H s :=
  ⟨⟨I.ok.mod,I.ok.kind,I.ok.glob,I.ok.blt,I.ok.above,I.ok.inj,I.ok.has,I.ok.cab,(fun z=>absurd z (by simp)),I.ok.frames,I.ok.stk,I.ok.exf,I.ok.bs,I.ok.bsz,I.ok.noex,I.ok.exfs,I.ok.funs,I.ok.frf⟩,
    I.os,I.bare,I.base,I.loc,I.cell,I.free,I.freeC,I.pin,I.hok,I.len⟩
theorem Inv.unmarked {X:Cx} {pins:List (Addr × Obj)} {σ:St} {H:Hp} {s:Shared} {v:Value} (ok:X.Ok) (I:Inv (X.marked v) pins σ H s):Inv X pins σ H s :=
  ⟨ok,I.os,I.bare,I.base,I.loc,I.cell,I.free,I.freeC,I.pin,I.hok,I.len⟩
theorem unbind_ok {X:Cx} {pins:List (Addr × Obj)} {σ:St} {H:Hp} {s:Shared} {i:Nat} {n:Str} {pos:Pos} {M:Model} {A:Around} {E:Value->Shared->Prop} {Q:Unit->Shared->Prop} (I:Inv X pins σ H s) (hN:X.N.Nodup) (hi:X.N[i]?=some n) (hl:X.env.scope.names.lookup n=some .local)
    (q:∀ s',Inv X pins (σ.set i none) H s'->Q () s'):wpAny M A (do bindName X.env n .none;unbindBehindTheSuite X.env n pos) Q E s:=by
  refine wpAny_bind (wpAny_bindName (store_ok I hN hi (.inl hl) (v:=.non) rfl (fun s1 I1=>?_) (.inr hl)))
  unfold unbindBehindTheSuite
  refine wpAny_onRaise ?_
  obtain ⟨m,hn,hlk⟩:=id I1.loc
  have hcls:(X.env.scope.kind == .class || (X.env.scope.kind == .module && X.env.locals != X.env.globals))=false:=by rw [I.ok.kind];rfl
  have hiσ:i < σ.length:=by rw [I.len];exact (List.getElem?_eq_some_iff.mp hi).1
  obtain ⟨u0,_,lk0⟩:=hlk i n .non hi (List.getElem?_set_self hiσ) (.inl hl)
  have hv:m n=some u0:=by
    rcases lk0 with ⟨_,z⟩ | ⟨z,_⟩
    · exact z
    · have z':X.env.scope.names.lookup n=some .cell ∨ X.env.scope.names.lookup n=some .free:=z
      rw [hl] at z'
      rcases z' with z' | z' <;> cases z'
  have cne:=I1.cne
  obtain ⟨oL,_,_,hoL,_⟩:=id hn
  refine wpAny_unbindName_local (show X.env.kindOf n=some .local from hl) hn hv hcls fun h' u hn' hs=>q _ ?_
  have neL:∀ b o,X.s₀.heap.get? b=some o->b ≠ X.env.locals:=fun b o e=>Nat.ne_of_lt (Nat.lt_of_lt_of_le (Heap.lt_size e) I.ok.above)
  refine ⟨I.ok,I1.os,I1.bare,⟨fun b o e n hb hx=>(hs.2 b (neL b o e)).trans (I1.base.keep b o e n hb hx),fun b o e n hb hx=>?_,I1.base.free,fun b o e hx=>?_,I1.base.tups,I1.base.frzs,I1.base.tbls⟩,⟨_,hn',fun j y v' e1 e2 e3=>?_⟩,fun y c e=>?_,I1.free,I1.freeC,fun p hp=>?_,fun b ob e=>?_,by simpa using I.len⟩
  · obtain ⟨sl,z⟩:=I1.base.slot b o e n hb hx
    exact ⟨sl,(hs.2 b (neL b o e)).trans z⟩
  · obtain ⟨o',z⟩:=I1.base.there b o e hx
    exact ⟨o',(hs.2 b (neL b o e)).trans z⟩
  · by_cases hj:j=i
    · subst hj
      rw [List.getElem?_set_self hiσ] at e2
      cases e2
    · rw [List.getElem?_set_ne (Ne.symm hj)] at e2
      have e2':(σ.set i (some V.non))[j]?=some (some v'):=by rw [List.getElem?_set_ne (Ne.symm hj)];exact e2
      obtain ⟨u',r',z⟩:=hlk j y v' e1 e2' e3
      refine ⟨u',r',?_⟩
      rcases z with ⟨k,e⟩ | ⟨k,c,e,z⟩
      · refine .inl ⟨k,?_⟩
        have ny:y ≠ n:=fun e=>hj (nodup_ix hN e1 (e ▸ hi))
        simp [ny,e]
      · exact .inr ⟨k,c,e,z.sameBut hs (cne y c e)⟩
  · obtain ⟨w',z⟩:=I1.cell y c e
    exact ⟨w',z.sameBut hs (cne y c e)⟩
  · obtain ⟨e,n,ne,nf,d⟩:=I1.pin p hp
    exact ⟨(hs.2 p.1 ne).trans e,n,ne,nf,d⟩
  · refine (I1.hok b ob e).stay (fun c w' hc z=>(hs.2 c ?_).trans z) (fun _ z=>z) fun _ _ z=>z
    rintro rfl
    have fr:=I1.free
    rcases hc with rfl | hc
    · rw [fr] at e;cases e
    · rw [fr] at hc;cases hc
def Callee (X:Cx) (k:Nat) (fa:Addr) (sp:Sp) (H:Hp):Prop :=
  ∃ fo fd,H fa=some (KN fo)/\fo.data=.func fd/\bindArgs fd ⟨[],[]⟩=pure []/\FnOk X.prog X.w X.K X.mg X.base (CX1 X.prog X.w) k fa fd [] sp
def ExcObj (oe:Obj) (C:Addr):Prop:=oe.cls=.ref C/\oe.dict=none/\∃ vs,oe.data=.fields vs
def tTry (X:Cx) (k iC iE iR:Nat) (B:Addr):TS:=fun D σ H=>∃ fa sp,σ[iC]?=some (some (.ref fa))/\Callee X k fa sp H /\
  sp [] H (fun _ H1=>D.nx σ H1) (fun c _ H1=>∃ C,c=.ref C/\PySem.W.kitCls X.K (.ref C) (.ref B)=some true/\∀ a oe,ExcObj oe C->H1 a=none->D.nx ((σ.set iR (some (.ref a))).set iE none) (upd H1 a (KN oe)))
theorem ps_tryX {X:Cx} {k iC iE iR:Nat} {xc xT n xr:Str} {B:Addr} {p1 p2 p3 p4 p5 p6 p7 p8 p9:Pos} (hs:X.stack=X.env :: X.outer) (hfl:X.env.frame=some X.env.locals) (hr:Room k X.A) (hN:X.N.Nodup)
    (hC:X.N[iC]?=some xc) (hCv:Vis X.env.scope xc) (hE:X.N[iE]?=some n) (hEl:X.env.scope.names.lookup n=some .local) (hR:X.N[iR]?=some xr) (hRl:X.env.scope.names.lookup xr=some .local) (hne:iE ≠ iR)
    (hg:Gl X xT) (hm:X.mg xT=some (.ref B)) (hB:PySem.W.subIn X.K (.ref B) (.type "BaseException")=some true)
    (d1:(xc == ("__debug__":Str))=false:=by decide) (d2:(xc == ("__classdict__":Str))=false:=by decide) (d3:(xT == ("__debug__":Str))=false:=by decide) (d4:(n == ("__debug__":Str))=false:=by decide) (d5:(n == ("__classdict__":Str))=false:=by decide)
    (w1:swapsWith (.Call (.Name xc p1) [] [] p2) none p3.line X.env=pure false:=by rfl) (w2:swapsWith (.Name n p6) (some (.Name xr p5)) p7.line X.env=pure false:=by rfl)
    (w3:swappedStores [.Name xr p5] (.Name n p6) X.env=pure none:=by rfl) :
    PS X (.Try [.Expr (.Call (.Name xc p1) [] [] p2) p3] [.ExceptHandler (some (.Name xT p4)) (some n) [.Assign [.Name xr p5] (.Name n p6) p7] p8] [] [] p9) (tTry X k iC iE iR B):=by
  intro pins s σ H D I h
  obtain ⟨fa,sp,e0,⟨fo,fd,kn,hfd,bnd,F⟩,hsp⟩:=h
  refine wpAny_Try_except (wpAny_execs_cons (wpAny_Expr_any (wpAny_Call_Name_kw ?_) I.quiet w1))
  have hv:=pe_var (X:=X.nox) (i:=iC) (x:=xc) (pos:=p1) hC hCv d1 d2 pins s σ H (fun v H1=>v=.ref fa/\H1=H) (I.wish _) ⟨_,e0,rfl,rfl⟩
  refine wpAny_mono hv (fun u s1 ⟨v,H1,I1,r,ev,eH⟩=>?_) fun _ _ z=>False.elim z
  subst ev
  subst eH
  obtain rfl:u=Value.ref fa:=r
  have I2:Inv X pins σ H1 s1:=I1.unwish
  have hfa:PySem.W.FnAt fa s1.heap:=by
    have z:=I2.hok.kn kn
    obtain ⟨c,d,dt,sl⟩:=fo
    dsimp only at hfd
    subst hfd
    exact ⟨c,d,fd,sl,z⟩
  refine PySem.W.callWith_F0 hfa (wpAny_call (codeAny_mono (F.run X.A X.stack s1 H1 ⟨[],[]⟩ [] [] _ _ hr I2.env0 (.of_eq bnd) .nil hsp) fun res s' hq=>?_))
  cases res with
  | ok fl =>
    cases fl with
    | ret u =>
      obtain ⟨v,H',I3,rv,q3⟩:=I2.after hq
      exact wpAny_execs_nil (wpAny_execs_nil ⟨σ,H',I3,q3⟩)
    | next=>exact False.elim hq
    | brk=>exact False.elim hq
    | cont=>exact False.elim hq
  | error e =>
    obtain ⟨a,C,H',rfl,F1,C',ec,hk,hnx⟩:=hq
    cases ec
    have hfr:frs X.stack=frs (X.env :: X.outer):=by rw [hs]
    have I3:Inv X pins σ H' s':=I2.call' (ch:=[]) F1.os F1.un F1.hok F1.bare (fun b z=>absurd z (by simp))
    have F1':Fly X.prog X.w (frs (X.env :: X.outer)) H1 s1 a C H' s':=by rw [<- hfr];exact F1
    have fr0:∀ b ∈ frs (X.env :: X.outer),H' b=none:=fun b hb=>I3.stkFree b (by rw [hfr];exact hb)
    refine F1'.noteW (bs:=X.base) (by rw [I.ok.frames,hs]) (by rw [<- hs];exact I3.stack) hfl fr0 fun s3 F3=>?_
    have inv:∀ s4,Fly X.prog X.w (frs (X.env :: X.outer)) H1 s1 a C H' s4->Inv X pins σ H' s4:=fun s4 F4=>I2.call' (ch:=[]) F4.os (by rw [hfr];exact F4.un) F4.hok F4.bare (fun b z=>absurd z (by simp))
    refine wpAny_handleBy_cons (codeAny_handlers_test (ld_glob (X:=X.marked (.ref a)) ((inv s3 F3).marked _) hg hm ?_ d3)) (by intro q;cases q)
    obtain ⟨T3,x3,n1,n2,n3,n4⟩:=F3.exc
    obtain ⟨oe3,vs3,e31,e32,e33,e34⟩:=x3.at
    refine exc_match (inv s3 F3).kIn e31 e32 hk hB ?_
    show codeAny _ _ _ _ s3
    refine codeAny_handlers_suite_as (F3.landW fr0 fun s4 F4=>?_)
    obtain ⟨T4,x4,m1,m2,m3,m4⟩:=F4.exc
    obtain ⟨oe,vs,e41,e42,e43,e44⟩:=x4.at
    have I4:Inv X pins σ (upd H' a (KN oe)) s4:=I2.call' (ch:=[]) F4.os (by rw [hfr];exact F4.un.know m3 m1) (F4.hok.know m3 e41) F4.bare (fun b z=>absurd z (by simp))
    refine store_ok (X:=X.marked (.ref a)) (I4.marked _) hN hE (.inl hEl) (v:=.ref a) rfl (fun s5 I5=>?_) (.inr hEl)
    have hst:PSs (X.marked (.ref a)) [.Assign [.Name xr p5] (.Name n p6) p7] (tAsg (tVar iE) (gName iR)):=pss_one (ps_set hN hR (.inl hRl) (pe_var hE (.inl hEl) d4 d5) w2 (.inr hRl))
    have hlen:iE < σ.length:=by rw [I.len];exact (List.getElem?_eq_some_iff.mp hE).1
    refine wpAny_mono (hst pins s5 _ _ { nx:=fun σ' H2=>σ'=(σ.set iE (some (.ref a))).set iR (some (.ref a))/\H2=upd H' a (KN oe),rt:=fun _ _=>False } I5 ⟨.ref a,List.getElem?_set_self hlen,rfl,rfl⟩) (fun f s6 q=>?_) fun _ _ z=>False.elim z
    cases f with
    | ret v=>obtain ⟨_,_,_,_,_,z⟩:=q;exact False.elim z
    | brk=>obtain ⟨_,_,_,z⟩:=q;exact False.elim z
    | cont=>obtain ⟨_,_,_,z⟩:=q;exact False.elim z
    | next =>
      obtain ⟨σ6,H6,I6,eσ,eH⟩:=q
      subst eσ
      subst eH
      refine unbind_ok (I6.unmarked I.ok) hN hE hEl fun s7 I7=>⟨_,_,I7,?_⟩
      have z:=hnx a oe ⟨e42,e43,vs,e44⟩ m3
      have hσ:((σ.set iE (some (V.ref a))).set iR (some (V.ref a))).set iE none=(σ.set iR (some (V.ref a))).set iE none:=by
        apply List.ext_getElem?
        intro j
        simp only [List.getElem?_set,List.length_set]
        by_cases z1:iE=j <;> by_cases z2:iR=j <;> simp [z1,z2]
      rw [hσ]
      exact z
end L2
namespace L2
open PySem PySem.Spec PyProof.Rows
structure XI (K:PySem.W.Frag) (C:Addr):Prop where
  ga:PySem.W.findIn K (.ref C) "__getattribute__"=some (some (.builtin "BaseException.__getattribute__"))
  gt:PySem.W.findIn K (.ref C) "__getattr__"=some none
  sb:PySem.W.subIn K (.ref C) (.type "BaseException")=some true
  hc:(PySem.W.clsIn K C).isSome=true
  ha:PySem.W.findIn K (.ref C) "__class__"=some (some (.builtin "object.__class__"))
  hn:PySem.W.specialIn K (.builtin "object.__class__") "__get__"=some (some (.builtin "getset_descriptor.__get__"))
  tk:PySem.W.takesIn K (.builtin "object.__class__")=some true
  hm:PySem.W.mroIn K C (.type "object")=some true
theorem findObj_none {K:PySem.W.Frag} {C:Addr} {name:Str} {a g:Value} (hc:(PySem.W.clsIn K C).isSome=true) (ha:PySem.W.findIn K (.ref C) name=some (some a)) (hg:PySem.W.specialIn K a "__get__"=some (some g)) (ht:PySem.W.takesIn K a=some true) :
    PySem.W.findObj K C none name=some (.bind g a):=by
  obtain ⟨cd,hc⟩:=Option.isSome_iff_exists.mp hc
  unfold PySem.W.findObj
  rw [hc,Option.bind_some,ha,Option.bind_some]
  simp [hg,ht]
theorem kin_openX {prog:Program} {w:World} {A:Around} {E:Value->Shared->Prop} {s:Shared} {K:PySem.W.Frag} {a C:Addr} {oe:Obj} {g d:Value} {name:Str} (X:K.In s.heap) (I:PySem.W.InstAt s.heap a oe C none)
    (hga:PySem.W.findIn K (.ref C) "__getattribute__"=some (some (.builtin "BaseException.__getattribute__"))) (hgt:PySem.W.findIn K (.ref C) "__getattr__"=some none) (hs:PySem.W.subIn K (.ref C) (.type "BaseException")=some true)
    (hf:PySem.W.findObj K C none name=some (.bind g d)) {Q:Option Value->Shared->Prop}
    (h:wpAny (model prog w) A.in1 (call g [d,.ref a,.ref C]) (fun v s'=>wpAny (model prog w) A (handedOut v) (fun v s''=>Q (some v) s'') (fun _ _=>False) s') (fun _ _=>False) { s with toks:=s.toks + 1 }) :
    wpAny (model prog w) A (getAttr? (.ref a) name) Q E s:=by
  obtain ⟨hh,gg,dr,t,os⟩:=s
  have L0:=I.type (M:=model prog w)
  have L1:=PySem.W.looks_findIn (M:=model prog w) X hga
  have L2:=PySem.W.looks_findIn (M:=model prog w) X hgt
  have L3:=PySem.W.looks_find (M:=model prog w) X I hf
  have L4:PySem.W.Looks (model prog w) hh (isInstance (.ref a) (.type "BaseException")) true:=L0.andThen (PySem.W.looks_subIn X hs)
  have f3:=PySem.F.excAttr_ValueError.ga.bind (.ref a)
  unfold getAttr? getAttrBy? getAttrBy
  refine wpAny_bind (wpAny_mkText (wpAny_bind (wpAny_attempt (wpAny_holding (wpAny_bind (L0.at (wpAny_bind (L1.at ?_))))))))
  have hx2:(Value.builtin "BaseException.__getattribute__" == Value.builtin "object.__getattribute__")=false:=by decide +kernel
  have hx3:(onTheHeap (Value.ref C) && Value.builtin "BaseException.__getattribute__" == Value.builtin "object.__getattribute__")=false:=by rw [hx2];rfl
  show wpAny _ _ (if (onTheHeap (Value.ref C) && Value.builtin "BaseException.__getattribute__" == Value.builtin "object.__getattribute__")=true then _ else getAttrByItsOwn _ _ _ _ _ _) _ _ _
  rw [hx3,if_neg (by decide)]
  unfold getAttrByItsOwn hookBefore
  simp only [onTheHeap,if_true]
  refine wpAny_bind (L2.at (wpAny_bind (wpAny_attempt (wpAny_holding ?_))))
  unfold callGetattribute
  rw [if_neg (by decide)]
  unfold boundAndCalled
  refine wpAny_bind (wpAny_of_eq f3 (wpAny_call ?_))
  refine codeAny_call_builtin PySem.F.excAttr_ValueError.ga.plain PySem.F.entry_bexc_ga ?_
  have hk:builtinKind "BaseException.__getattribute__"=some .slot:=by decide +kernel
  have hsplit:splitId "BaseException.__getattribute__"=some ("BaseException","__getattribute__"):=by decide +kernel
  have ha:=PySem.F.args_bexc_ga (.ref a) (.str name t)
  simp only [checkBuiltinCall,hk,hsplit]
  refine wpAny_bind (L4.at ?_)
  repeat (first | wp_step)
  refine wpAny_loadPart I.at_ (wpAny_pure ?_)
  rw [I.cls]
  refine wpAny_bind (L3.at ?_)
  show wpAny _ _ (Builtin.ObjectAttr.bindTo g d (.ref a) (.ref C)) _ _ _
  unfold Builtin.ObjectAttr.bindTo
  dsimp only
  exact wpAny_bind (wpAny_holding (wpAny_mono h (fun v s' z=>wpAny_pure (wpAny_mono z (fun v s'' q=>wpAny_pure q) (fun _ _ z=>z.elim))) (fun _ _ z=>z.elim)))
theorem ExcObj.inst {h:Heap} {a C:Addr} {oe:Obj} (x:ExcObj oe C) (e:h.get? a=some oe):PySem.W.InstAt h a oe C none:=by
  obtain ⟨c,d,vs,hv⟩:=x
  refine ⟨e,c,?_,?_⟩
  · obtain ⟨c0,d0,dt,sl⟩:=oe
    dsimp only at hv
    subst hv
    rfl
  · rw [d]
    trivial
theorem kitx_exc {K:PySem.W.Frag} {a C:Addr} {oe:Obj} (Z:XI K C) (x:ExcObj oe C):PySem.W.KitX K (.ref a) (.ref C) (fun h=>h.get? a=some oe) where
  ty:=fun _ _ _ e=>(x.inst e).type
  it:=fun _ _ X _=>by
    obtain ⟨cd,hcD⟩:=Option.isSome_iff_exists.mp Z.hc
    unfold PySem.W.clsIn at hcD
    split at hcD
    case h_2=>cases hcD
    case h_1 c' d' cd' sl' ho =>
      intro A' Q' E' s' k q
      unfold isType loadHead
      exact wpAny_bind (wpAny_loadPart (k _ _ (X _ _ ho)) (wpAny_pure q))
  ne:=fun h tp dd its n sl X htp=>by
    obtain ⟨cd,hcD⟩:=Option.isSome_iff_exists.mp Z.hc
    refine Bool.eq_false_iff.mpr fun q=>?_
    have e:C=tp:=Value.ref.inj (beq_iff_eq.mp q)
    subst e
    unfold PySem.W.clsIn at hcD
    split at hcD
    case h_2=>cases hcD
    case h_1 c' d' cd' sl' ho =>
      have z:=(X _ _ ho).symm.trans htp
      cases z
  ca:=fun {_ _ _ _ _ s} X e k=>by
    have hf:=findObj_none Z.hc Z.ha Z.hn Z.tk
    have I:=x.inst e
    exact kin_openX X I Z.ga Z.gt Z.sb hf (wpAny_call (PySem.W.class_get (s:={ s with toks:=s.toks + 1 }) (ox:=oe) (od:=none) X I Z.hm (PySem.W.handed_on rfl k)))
def clV:V->Option Value
  | .ref D=>some (.ref D)
  | .ty T=>some (.type T)
  | _=>none
def rIsX (K:PySem.W.Frag):List V->Hp->VK->Prop:=fun xs H Q=>∃ a oe C c cv b,xs=[.ref a,c]/\H a=some (KN oe)/\ExcObj oe C/\XI K C/\clV c=some cv/\PySem.W.kitOne K (.ref C) cv=some b/\Q (.bl b) H
theorem call_isx {X:Cx}:CallR X (.builtin "isinstance") (rIsX X.K):=by
  intro pins s σ H xs us Q I r h
  obtain ⟨a,oe,C,c,cv,b,rfl,ha,x,Z,hcv,hk,q⟩:=h
  cases r with
  | cons r1 rr =>
    cases rr with
    | cons r2 rr =>
      cases rr
      cases r1
      have ec:∀ u,RelV c u->u=cv:=fun u ru=>by
        cases c with
        | ref D=>cases hcv;exact ru
        | ty T=>cases hcv;exact ru
        | _=>cases hcv
      have eu:=ec _ r2
      subst eu
      exact PySem.W.kia_one (kitx_exc Z x) I.kIn (I.hok.kn ha) hk (by intro z;cases z) fun tk=>⟨.bl b,H,I.tok tk,rfl,q⟩
theorem vals_bl:∀ {bs:List Bool} {us:List Value},Vals (bs.map V.bl) us->us=bs.map Value.bool
  | [],_,.nil=>rfl
  | _ :: _,_,.cons r t=>by rw [vals_bl t];cases r;rfl
def rIdxB:V->List V->Hp->VK->Prop:=fun x vs H Q=>∃ (l:Addr) (bs:List Bool) (j:Nat),x=.ref l/\vs=[.bl true]/\H l=some (.lst (bs.map V.bl))/\bs[j]?=some true/\(∀ m,m < j->bs[m]?=some false)/\Q (.int j) H
theorem mt_indexB {X:Cx}:MtR X "list.index" rIdxB:=by
  intro pins s σ H x vs v us Q I rx rv h
  obtain ⟨l,bs,j,rfl,rfl,hH,hj,hno,q⟩:=h
  cases rx
  obtain ⟨u,rfl,ru⟩:=rv.one
  cases ru
  obtain ⟨z,its,n,r,hl,e⟩:=I.lstM hH
  have ei:=vals_bl r
  subst ei
  obtain ⟨j1,j2⟩:=List.getElem?_eq_some_iff.mp hj
  have z':bs.length <= sizeLine:=by simpa using z
  have hsz:sizeLine < 2 ^ 63 - 1:=by decide
  refine call_meets F.slot_list_index ⟨_,e,rfl⟩ F.entry_list_index (F.args_list_index_2 _ _)
    (SeqAt.list_indexAt l (bs.map Value.bool).toArray n none #[] (.bool true) (fun y=>y == Value.bool true) j (by simpa using j1) (by omega) ?_ ?_) ⟨e,fun y hy=>?_,?_⟩
  · simp [j2]
  · intro m hm hlt
    have:=hno m hlt
    obtain ⟨m1,m2⟩:=List.getElem?_eq_some_iff.mp this
    simp [m2]
  · obtain ⟨b,hb,rfl⟩:∃ b,b ∈ bs/\Value.bool b=y:=by simpa using hy
    have eb:(Value.bool b == Value.bool true)=(b == true):=by cases b <;> rfl
    show SeqAt.EqAt _ _ _ _ (Value.bool b == Value.bool true)
    rw [eb]
    exact SeqAt.EqAt.bool_bool b true
  · exact ⟨.int j,H,I.tok _,⟨_,rfl⟩,q⟩
end L2
namespace L2
open PySem PySem.Spec PyProof.Rows
def Cel (cl:List (Str × Addr)) (b:Addr):Prop:=∃ x,cl.lookup x=some b
open Classical in
noncomputable def offC (cl:List (Str × Addr)) (H:Hp):Hp:=fun b=>if Cel cl b then none else H b
open Classical in
noncomputable def onC (cl:List (Str × Addr)) (H H':Hp):Hp:=fun b=>if Cel cl b then H b else H' b
theorem offC_in {cl:List (Str × Addr)} {H:Hp} {b:Addr} (h:Cel cl b):offC cl H b=none:=by unfold offC;rw [if_pos h]
theorem offC_out {cl:List (Str × Addr)} {H:Hp} {b:Addr} (h:¬ Cel cl b):offC cl H b=H b:=by unfold offC;rw [if_neg h]
theorem onC_in {cl:List (Str × Addr)} {H H':Hp} {b:Addr} (h:Cel cl b):onC cl H H' b=H b:=by unfold onC;rw [if_pos h]
theorem onC_out {cl:List (Str × Addr)} {H H':Hp} {b:Addr} (h:¬ Cel cl b):onC cl H H' b=H' b:=by unfold onC;rw [if_neg h]
def CelK (cl:List (Str × Addr)) (H:Hp):Prop:=∀ x c,cl.lookup x=some c->∃ oc v,H c=some (KN oc)/\oc.data=.cell v
section
variable {P:Program} {w:World} {fs:List Addr} {cl:List (Str × Addr)} {H H':Hp} {h h':Heap}
theorem offC_hok (ok:HOk P w H h) (ck:CelK cl H):HOk P w (offC cl H) h:=fun b o e=>by
  have nb:¬ Cel cl b:=fun z=>by rw [offC_in z] at e;cases e
  rw [offC_out nb] at e
  have nk:∀ c u,H c=some u->(∀ oc,u ≠ KN oc)->¬ Cel cl c:=fun c u q n ⟨x,z⟩=>by
    obtain ⟨oc,v,q',_⟩:=ck x c z
    rw [q] at q'
    exact n oc (Option.some.inj q')
  refine (ok b o e).stay (fun _ _ _ q=>q) (fun c q=>?_) fun c xs q=>?_
  · rw [offC_out (nk c _ q (by intro oc z;cases z))];exact q
  · rw [offC_out (nk c _ q (by intro oc z;cases z))];exact q
theorem un_on (u:Un fs [] (offC cl H) H' h h') (ok:HOk P w H h) (ck:CelK cl H) (hfs:∀ b ∈ fs,H b=none):Un fs [] H (onC cl H H') h h':=by
  have nc:∀ b,H b=none->¬ Cel cl b:=fun b n ⟨x,z⟩=>by
    obtain ⟨oc,v,q,_⟩:=ck x b z
    rw [n] at q;cases q
  have nk:∀ c u,H c=some u->(∀ oc,u ≠ KN oc)->¬ Cel cl c:=fun c u q n ⟨x,z⟩=>by
    obtain ⟨oc,v,q',_⟩:=ck x c z
    rw [q] at q'
    exact n oc (Option.some.inj q')
  refine ⟨fun b o e n hb hx=>u.keep b o e (by rw [offC_out (nc b n)];exact n) hb hx,fun b o e n hb hx=>u.slot b o e (by rw [offC_out (nc b n)];exact n) hb hx,fun b o e n hx=>?_,u.there,fun b xs q=>?_,fun b o xs q=>?_,fun b ps q=>?_⟩
  · rw [onC_out (nc b n)]
    exact u.free b o e (by rw [offC_out (nc b n)];exact n) hx
  · have z:=nk b _ q (by intro oc z;cases z)
    rw [onC_out z]
    exact u.tups b xs (by rw [offC_out z];exact q)
  · by_cases z:Cel cl b
    · rw [onC_in z];exact q
    · rw [onC_out z]
      exact u.frzs b o xs (by rw [offC_out z];exact q)
  · have z:=nk b _ q (by intro oc z;cases z)
    obtain ⟨m,e⟩:=u.tbls b ps (by rw [offC_out z];exact q)
    exact ⟨m,by rw [onC_out z];exact e⟩
theorem hok_on (u:Un fs [] (offC cl H) H' h h') (ok:HOk P w H h) (ok':HOk P w H' h') (ck:CelK cl H) (hfs:∀ b ∈ fs,H b=none):HOk P w (onC cl H H') h':=fun b o e=>by
  have hn:∀ c,Cel cl c->H' c=none/\∃ oc v,H c=some (KN oc)/\oc.data=.cell v/\h'.get? c=some oc:=fun c z=>by
    obtain ⟨x,zx⟩:=z
    obtain ⟨oc,v,q,d⟩:=ck x c zx
    have g:=ok.kn q
    exact ⟨u.free c oc g (offC_in ⟨x,zx⟩) (by simp),oc,v,q,d,u.keep c oc g (offC_in ⟨x,zx⟩) (fun hb=>by rw [hfs c hb] at q;cases q) (by simp)⟩
  by_cases z:Cel cl b
  · rw [onC_in z] at e
    obtain ⟨_,oc,v,q,d,g⟩:=hn b z
    rw [q] at e
    cases e
    exact kn_ok g
  · rw [onC_out z] at e
    refine (ok' b o e).stay (fun _ _ _ q=>q) (fun c q=>?_) fun c xs q=>?_
    · rw [onC_out (fun zc=>by rw [(hn c zc).1] at q;cases q)];exact q
    · rw [onC_out (fun zc=>by rw [(hn c zc).1] at q;cases q)];exact q
theorem un_off {Hf:Hp} (u:Un fs [] Hf H' h h') (ok:HOk P w Hf h) (ok':HOk P w H' h') (ck:CelK cl Hf) (hc:∀ b,Cel cl b->H b=none) (ho:∀ b,¬ Cel cl b->Hf b=H b):Un fs [] H (offC cl H') h h'/\HOk P w (offC cl H') h':=by
  have hk:∀ b,Cel cl b->∃ oc v,H' b=some (KN oc)/\oc.data=.cell v/\h.get? b=some oc/\h'.get? b=some oc:=fun b z=>by
    obtain ⟨x,zx⟩:=z
    obtain ⟨oc,v,q,d⟩:=ck x b zx
    have q':=u.frzs b _ _ q
    exact ⟨oc,v,q',d,ok.kn q,ok'.kn q'⟩
  have nk:∀ c u,H' c=some u->(∀ oc,u ≠ KN oc)->¬ Cel cl c:=fun c u q n z=>by
    obtain ⟨oc,v,q',_⟩:=hk c z
    rw [q] at q'
    exact n oc (Option.some.inj q')
  have nh:∀ c u,H c=some u->¬ Cel cl c:=fun c u q z=>by rw [hc c z] at q;cases q
  refine ⟨⟨fun b o e n hb hx=>?_,fun b o e n hb hx=>?_,fun b o e n hx=>?_,u.there,fun b xs q=>?_,fun b o xs q=>?_,fun b ps q=>?_⟩,fun b o e=>?_⟩
  · by_cases z:Cel cl b
    · obtain ⟨oc,v,_,_,g,g'⟩:=hk b z
      rw [e] at g;cases g
      exact g'
    · exact u.keep b o e (by rw [ho b z];exact n) hb hx
  · by_cases z:Cel cl b
    · obtain ⟨oc,v,_,_,g,g'⟩:=hk b z
      rw [e] at g;cases g
      exact ⟨o.slots,g'⟩
    · exact u.slot b o e (by rw [ho b z];exact n) hb hx
  · by_cases z:Cel cl b
    · exact offC_in z
    · rw [offC_out z]
      exact u.free b o e (by rw [ho b z];exact n) hx
  · have z:=nh b _ q
    rw [offC_out z]
    exact u.tups b xs (by rw [ho b z];exact q)
  · have z:=nh b _ q
    rw [offC_out z]
    exact u.frzs b o xs (by rw [ho b z];exact q)
  · have z:=nh b _ q
    obtain ⟨m,e⟩:=u.tbls b ps (by rw [ho b z];exact q)
    exact ⟨m,by rw [offC_out z];exact e⟩
  · have z:¬ Cel cl b:=fun z=>by rw [offC_in z] at e;cases e
    rw [offC_out z] at e
    refine (ok' b o e).stay (fun _ _ _ q=>q) (fun c q=>?_) fun c xs q=>?_
    · rw [offC_out (nk c _ q (by intro oc z;cases z))];exact q
    · rw [offC_out (nk c _ q (by intro oc z;cases z))];exact q
end
def CTab (q:Str) (T:Addr) (H:Hp):Prop:=∃ ps,H T=some (.tbl ps)/\TriplesOk ps.toList /\
  ∀ pos v,codeAmong pos ps.toList=some v->∃ c oc vs t,v=.ref c/\H c=some (KN oc)/\oc.data=.fields vs/\vs[1]?=some (.str q t)
theorem triples_inv {l:List Value} (h:TriplesOk l):l=[] ∨ ∃ i t j u c r,l=.int i t :: .int j u :: c :: r/\TriplesOk r:=by
  unfold TriplesOk at h
  split at h
  · exact .inl rfl
  · exact .inr ⟨_,_,_,_,_,_,rfl,h⟩
  · exact h.elim
theorem triples_app {l:List Value} {i j:Int} {t u:Tok} {c:Value} (h:TriplesOk l):TriplesOk (l ++ [.int i t,.int j u,c]):=by
  generalize hn:l.length=n
  induction n using Nat.strongRecOn generalizing l with
  | _ n ih =>
    rcases triples_inv h with e | ⟨a,ta,b,tb,x,r,e,hr⟩
    · subst e;trivial
    · subst e
      have z:TriplesOk (r ++ [.int i t,.int j u,c]):=ih r.length (by rw [<- hn];simp only [List.length_cons];omega) hr rfl
      exact z
theorem among_app {pos:Pos} {l:List Value} {i j:Int} {t u:Tok} {c v:Value} (h:TriplesOk l) (e:codeAmong pos (l ++ [.int i t,.int j u,c])=some v):codeAmong pos l=some v ∨ v=c:=by
  generalize hn:l.length=n
  induction n using Nat.strongRecOn generalizing l with
  | _ n ih =>
    rcases triples_inv h with q | ⟨a,ta,b,tb,x,r,q,hr⟩
    · subst q
      have e':(if (i == (pos.line:Int) && j == (pos.col:Int))=true then some c else codeAmong pos [])=some v:=e
      by_cases z:(i == (pos.line:Int) && j == (pos.col:Int))=true
      · rw [if_pos z] at e';exact .inr (Option.some.inj e').symm
      · rw [if_neg z] at e';cases e'
    · subst q
      have e':(if (a == (pos.line:Int) && b == (pos.col:Int))=true then some x else codeAmong pos (r ++ [.int i t,.int j u,c]))=some v:=e
      show (if (a == (pos.line:Int) && b == (pos.col:Int))=true then some x else codeAmong pos r)=some v ∨ v=c
      by_cases z:(a == (pos.line:Int) && b == (pos.col:Int))=true
      · rw [if_pos z] at e'
        rw [if_pos z]
        exact .inl e'
      · rw [if_neg z] at e'
        rw [if_neg z]
        exact ih r.length (by rw [<- hn];simp only [List.length_cons];omega) hr e' rfl
structure LamX (X:Cx) (T:Addr):Prop where
  code:∃ c,X.env.code=.ref c/\PySem.W.CodeHd X.base c T
  blt:X.base.BuiltinsAt X.mg T
abbrev lamQ (X:Cx):Str:=X.env.qual ++ "<lambda>"
abbrev lamO (X:Cx) (params:Arguments) (body:Expr) (scope:Scope) (c:Addr) (ctv:Value):Obj:=PySem.W.kla_obj "<lambda>" (lamQ X) params body scope (closL X.env scope.names []) ((X.mg "__name__").getD .none) c ctv
def CodeK (q:Str) (H:Hp) (c:Addr):Prop:=∃ oc vs t,H c=some (KN oc)/\oc.data=.fields vs/\vs[1]?=some (.str q t)
def tLam (X:Cx) (T:Addr) (params:Arguments) (body:Expr) (scope:Scope):TE:=fun σ H Q=>CTab (lamQ X) T H /\
  ∀ f c ctv H',(∀ b o,b ≠ T->H b=some o->H' b=some o)->CTab (lamQ X) T H'->H f=none->H' f=some (KN (lamO X params body scope c ctv))->CodeK (lamQ X) H' c->Q (.ref f) H'
theorem pe_lambda {X:Cx} {T:Addr} {params:Arguments} {body:Expr} {scope:Scope} {pos:Pos} (Z:LamX X T) (hdef:defaultsOf params X.env=([],[]):=by rfl) (hf:okFree scope X.env=true:=by rfl) :
    PE X (.Lambda params body scope pos) (tLam X T params body scope):=by
  intro pins s σ H Q I h
  obtain ⟨⟨ps,hP,ht,hk⟩,q⟩:=h
  obtain ⟨c,hc,C⟩:=Z.code
  obtain ⟨bm,ob,b1,b2,b3,b4,b5,b6⟩:=Z.blt
  have hcl:=closureFor_eq (I.closed hf)
  have hg:=I.mod.glob.keeps I.bk
  have gP:s.heap.get? T=some (PySem.W.tabObj ps):=I.hok T _ hP
  have hgT:mainGlobals ≠ T:=fun z=>by
    obtain ⟨o,es,ep,e,hd,_⟩:=hg
    rw [z,gP] at e;cases e;cases hd
  have hB:s.heap.BuiltinsAt X.mg T:=⟨bm,ob,b1,b2,b3,b4,I.bk _ _ b5,b6⟩
  refine PySem.W.kla_eval hdef ?_
  cases e:codeAmong pos ps.toList with
  | none =>
    refine PySem.W.kla_makeFunction (mg:=X.mg) hcl I.ok.glob hg hc (C.keeps I.bk) gP ht e hgT hB fun c' ctv h' tk hx hge hlt hrec htb=>?_
    obtain ⟨c2,oc,vs,t,e2,hoc,hd,hv⟩:=hrec
    cases e2
    have nT:T < s.heap.objs.size:=Heap.lt_size gP
    have cT:c' ≠ T:=fun z=>absurd hge (by rw [z];exact Nat.not_le_of_lt nT)
    have fT:h'.objs.size ≠ T:=fun z=>absurd (Nat.lt_of_le_of_lt hge hlt) (by rw [z];exact Nat.lt_asymm nT)
    have fc:c' ≠ h'.objs.size:=Nat.ne_of_lt hlt
    have sz:s.heap.objs.size <= h'.objs.size:=Nat.le_trans hge (Nat.le_of_lt hlt)
    have nc:H c'=none:=I.hok.fresh hge
    have nf:H h'.objs.size=none:=I.hok.fresh sz
    generalize hfo:PySem.W.kla_obj "<lambda>" (X.env.qual ++ "<lambda>") params body scope (closL X.env scope.names []) ((X.mg "__name__").getD .none) c' ctv=fo
    generalize hps:ps ++ #[rawInt pos.line,rawInt pos.col,.ref c']=ps' at htb
    have hfree:fo.isFreed=false:=by rw [<- hfo];rfl
    have kp:∀ b o,b ≠ T->s.heap.get? b=some o->(h'.push fo).get? b=some o:=fun b o hb eb=>Heap.get?_push_of_some _ (hx b o hb eb)
    let H1:Hp:=upd (upd (upd H T (.tbl ps')) c' (KN oc)) h'.objs.size (KN fo)
    have hT1:H1 T=some (.tbl ps'):=by
      show upd (upd (upd H T (.tbl ps')) c' (KN oc)) h'.objs.size (KN fo) T=_
      rw [upd_ne (Ne.symm fT),upd_ne (Ne.symm cT),upd_same]
    have hc1:H1 c'=some (KN oc):=by
      show upd (upd (upd H T (.tbl ps')) c' (KN oc)) h'.objs.size (KN fo) c'=_
      rw [upd_ne fc,upd_same]
    have hf1:H1 h'.objs.size=some (KN fo):=upd_same
    have ho1:∀ b,b ≠ T->b ≠ c'->b ≠ h'.objs.size->H1 b=H b:=fun b z1 z2 z3=>by
      show upd (upd (upd H T (.tbl ps')) c' (KN oc)) h'.objs.size (KN fo) b=_
      rw [upd_ne z3,upd_ne z2,upd_ne z1]
    have hs1:∀ b o,b ≠ T->H b=some o->H1 b=some o:=fun b o z eb=>by
      rw [ho1 b z (ne_of_none eb nc) (ne_of_none eb nf)];exact eb
    have old:∀ b o,s.heap.get? b=some o->b ≠ c'/\b ≠ h'.objs.size:=fun b o eb=>⟨Nat.ne_of_lt (Nat.lt_of_lt_of_le (Heap.lt_size eb) hge),Nat.ne_of_lt (Nat.lt_of_lt_of_le (Heap.lt_size eb) sz)⟩
    have uT:∀ b,H b=none->b ≠ T:=fun b n z=>by rw [z,hP] at n;cases n
    have U:Un X.fs [] H H1 s.heap (h'.push fo):=by
      refine ⟨fun b o eb n _ _=>kp b o (uT b n) eb,fun b o eb n _ _=>⟨o.slots,kp b o (uT b n) eb⟩,fun b o eb n _=>?_,fun b o eb _=>?_,fun b xs eb=>?_,fun b o u eb=>?_,fun b qs eb=>?_⟩
      · rw [ho1 b (uT b n) (old b o eb).1 (old b o eb).2];exact n
      · by_cases z:b=T
        · subst z;exact ⟨_,Heap.get?_push_of_some _ htb⟩
        · exact ⟨o,kp b o z eb⟩
      · exact hs1 b _ (fun z=>by rw [z,hP] at eb;cases eb) eb
      · exact hs1 b _ (fun z=>by rw [z,hP] at eb;cases eb) eb
      · by_cases z:b=T
        · subst z
          rw [hP] at eb;cases eb
          exact ⟨_,by rw [hT1,<- hps]⟩
        · exact ⟨#[],by rw [hs1 b _ z eb];simp⟩
    have OK:HOk X.prog X.w H1 (h'.push fo):=fun b o eb=>by
      by_cases z1:b=T
      · subst z1
        rw [hT1] at eb;cases eb
        exact Heap.get?_push_of_some _ htb
      · by_cases z2:b=c'
        · subst z2
          rw [hc1] at eb;cases eb
          exact kn_ok (Heap.get?_push_of_some _ hoc)
        · by_cases z3:b=h'.objs.size
          · subst z3
            rw [hf1] at eb;cases eb
            exact kn_ok (Heap.get?_push_size _ hfree)
          · rw [ho1 b z1 z2 z3] at eb
            refine (I.hok b o eb).stay (fun d v hd qd=>kp d v ?_ qd) (fun d qd=>hs1 d _ (fun z=>by rw [z,hP] at qd;cases qd) qd) fun d xs qd=>hs1 d _ (fun z=>by rw [z,hP] at qd;cases qd) qd
            rcases hd with hd | hd
            · rw [hd];exact z1
            · intro z;rw [z,hP] at hd;cases hd
    have I1:=I.un (t':=tk) U OK
    have fin:=q h'.objs.size c' ctv H1 hs1 ⟨ps',hT1,?_,fun pos' v ev=>?_⟩ nf (by rw [hf1,<- hfo]) ⟨oc,vs,t,hc1,hd,hv⟩
    · exact ⟨.ref h'.objs.size,H1,I1,rfl,fin⟩
    · rw [<- hps]
      have z:=triples_app (i:=pos.line) (j:=pos.col) (t:=0) (u:=0) (c:=.ref c') ht
      simpa [rawInt] using z
    · rw [<- hps] at ev
      have ev':codeAmong pos' (ps.toList ++ [.int pos.line 0,.int pos.col 0,.ref c'])=some v:=by simpa [rawInt] using ev
      rcases among_app ht ev' with z | z
      · obtain ⟨c3,oc3,vs3,t3,y1,y2,y3,y4⟩:=hk pos' v z
        exact ⟨c3,oc3,vs3,t3,y1,hs1 c3 _ (fun z=>by rw [z,hP] at y2;cases y2) y2,y3,y4⟩
      · exact ⟨c',oc,vs,t,z,hc1,hd,hv⟩
  | some cv =>
    obtain ⟨c3,oc3,vs3,t3,y1,y2,y3,y4⟩:=hk pos cv e
    subst y1
    refine PySem.W.kla_makeFunctionHit (mg:=X.mg) hcl I.ok.glob hg hc (C.keeps I.bk) gP ht e hB fun ctv h' tk hkp sz=>?_
    have nf:H h'.objs.size=none:=I.hok.fresh sz
    have kp:∀ b o,s.heap.get? b=some o->(h'.push (lamO X params body scope c3 ctv)).get? b=some o:=fun b o eb=>Heap.get?_push_of_some _ (hkp b o eb)
    have I1:=I.laid (t':=tk) (o:=KN (lamO X params body scope c3 ctv)) kp sz (kn_ok (Heap.get?_push_size _ rfl))
    have hs1:∀ b o,H b=some o->upd H h'.objs.size (KN (lamO X params body scope c3 ctv)) b=some o:=fun b o eb=>by rw [upd_ne (ne_of_none eb nf)];exact eb
    refine ⟨.ref h'.objs.size,_,I1,rfl,q h'.objs.size c3 ctv _ (fun b o _ eb=>hs1 b o eb) ⟨ps,hs1 _ _ hP,ht,fun pos' v ev=>?_⟩ nf upd_same ⟨oc3,vs3,t3,hs1 _ _ y2,y3,y4⟩⟩
    obtain ⟨c4,oc4,vs4,t4,x1,x2,x3,x4⟩:=hk pos' v ev
    exact ⟨c4,oc4,vs4,t4,x1,hs1 _ _ x2,x3,x4⟩
end L2
namespace L2
open PySem PySem.Spec PyProof.Rows
def cxLam (P:Program) (w:World) (K:PySem.W.Frag) (mg:Str->Option Value) (base:Heap) (N:List Str) (qual:Str) (scope:Scope) (f:Addr) (cd:Value) (cl:List (Str × Addr)) (A:Around) (outer:List Env) (s:Shared) (H:Hp) (E:XK):Cx where
  prog:=P
  w:=w
  K:=K
  mg:=mg
  base:=base
  A:=A.deeper (PySem.W.envX qual scope s.heap.objs.size f cd cl)
  N:=N
  s₀:=s
  H₀:=H
  env:=PySem.W.envX qual scope s.heap.objs.size f cd cl
  outer:=outer
  stack:=PySem.W.envX qual scope s.heap.objs.size f cd cl :: outer
  ex:=[]
  calm:=true
  fn:=fun _=>false
  pn:=[]
  xe:=fun e s'=>wpAny (model P w) (A.deeper (PySem.W.envX qual scope s.heap.objs.size f cd cl)) (leaving (PySem.W.envX qual scope s.heap.objs.size f cd cl) e) (fun _ s''=>CX1 P w outer H s E e s'') (fun e' s''=>CX1 P w outer H s E e' s'') s'
section
variable {P:Program} {w:World} {K:PySem.W.Frag} {mg:Str->Option Value} {base:Heap} {N:List Str} {qual:Str} {scope:Scope} {f:Addr} {cd:Value} {cl:List (Str × Addr)} {A:Around} {outer:List Env} {s₀:Shared} {H₀:Hp} {E:XK}
theorem passesL:Passes (CX1 P w) (cxLam P w K mg base N qual scope f cd cl A outer s₀ H₀ E) E:=by
  intro pins σ H s e s' I h
  obtain ⟨a,C,H',rfl,F,hE⟩:=h
  obtain ⟨T,x,n1,n2,n3,n4⟩:=F.exc
  have I':=I.call' (ch:=[]) F.os F.un F.hok F.bare (fun b z=>absurd z (by simp))
  exact fly_out I' rfl rfl rfl x (none_back I.base n1) (fun T' z=>by cases z;exact none_back I.base n2) n3 (fun T' z=>by cases z;exact n4) fun s'' F'=>⟨a,C,H',rfl,F',hE⟩
end
def LamSt (cl:List (Str × Addr)) (scope:Scope) (N:List Str) (H:Hp) (σ:St):Prop:=σ.length=N.length /\
  ∀ (i:Nat) (x:Str) (v:V),N[i]?=some x->σ[i]?=some (some v)->scope.names.lookup x=some .free/\∃ c oc u,cl.lookup x=some c/\H c=some (KN oc)/\oc.data=.cell (some u)/\RelV v u
structure LamScope (cl:List (Str × Addr)) (scope:Scope):Prop where
  kind:scope.kind=.function
  co:scope.isCoroutine=false
  gen:scope.isGenerator=false
  nocell:∀ x ∈ scope.names,x.2 ≠ .cell
  inj:∀ x y c,cl.lookup x=some c->cl.lookup y=some c->x=y
  has:∀ x,scope.names.lookup x=some .free->∃ c,cl.lookup x=some c
theorem lookup_mem' {α:Type}:∀ {l:List (Str × α)} {x:Str} {c:α},l.lookup x=some c->∃ y,(y,c) ∈ l/\y=x
  | [],_,_,h=>by cases h
  | (y,d) :: r,x,c,h=>by
    by_cases z:(x == y)=true
    · rw [List.lookup_cons,z] at h
      cases h
      exact ⟨y,List.mem_cons_self,(beq_iff_eq.mp z).symm⟩
    · rw [List.lookup_cons,Bool.eq_false_iff.mpr z] at h
      obtain ⟨y',m,e⟩:=lookup_mem' h
      exact ⟨y',List.mem_cons_of_mem _ m,e⟩
theorem LamScope.nc {cl:List (Str × Addr)} {scope:Scope} (S:LamScope cl scope) {x:Str} (h:scope.names.lookup x=some .cell):False:=by
  obtain ⟨y,m,_⟩:=lookup_mem' h
  exact S.nocell _ m rfl
theorem fnL {P:Program} {w:World} {K:PySem.W.Frag} {mg:Str->Option Value} {base:Heap} {k:Nat} {f c:Addr} {name qual:Str} {params:Arguments} {body:Expr} {scope:Scope} {cl:List (Str × Addr)} {pm ct:Value} {N:List Str} {sp:Sp}
    (S:LamScope cl scope)
    (hsp:∀ vs H Q E,sp vs H Q E->vs=[]/\H f=some (KN (PySem.W.kla_obj name qual params body scope cl pm c ct))/\CodeK qual H c/\CelK cl H/\∃ σ,LamSt cl scope N H σ /\
      ∀ (A:Around) (outer:List Env) (s:Shared),Room k (A.deeper (PySem.W.envX qual scope s.heap.objs.size f (.ref c) cl))->∃ t,PE (cxLam P w K mg base N qual scope f (.ref c) cl A outer s (offC cl H) (fun C d H'=>E C d (onC cl H H'))) body t/\t σ (offC cl H) (fun v H'=>Q v (onC cl H H'))) :
    FnOk P w K mg base (CX1 P w) (k + 1) f (PySem.W.kla_fn name qual params body scope cl pm (.ref c) ct) [] sp:=by
  refine ⟨fun vs H Q E q=>by rw [(hsp vs H Q E q).1];rfl,fun A outer s H args us vs Q E hr e0 hb r hq=>?_⟩
  obtain ⟨rfl,hf,⟨oc,cvs,t,hc,hcd,hcv⟩,ck,σ,hσ,hrun⟩:=hsp _ _ _ _ hq
  have lim:s.heap.NoLimit:=e0.mod.nolimit.keeps fun b o e=>(e0.bs b o e).1
  have gf:=e0.hok.kn hf
  have gc:=e0.hok.kn hc
  refine PySem.W.kla_callFunE hr.depth gf rfl S.co S.gen rfl ⟨c,oc,cvs,t,rfl,gc,hcd,hcv⟩ (hb _ _ _ _ ?_)
  refine wpAny_newFunctionEnv S.nocell (fun x hx=>absurd hx (by simp)) (fun h1 hns hsb=>⟨lim.fresh _ hsb,?_⟩) S.kind
  show codeAny _ _ (.expr body (PySem.W.envX qual scope s.heap.objs.size f (.ref c) cl)) _ _
  have hk1:∀ b o,s.heap.get? b=some o->h1.get? b=some o:=fun b o e=>hsb.extBut b o (Nat.ne_of_lt (Heap.lt_size e)) (Heap.get?_push_of_some _ e)
  obtain ⟨tt,hbody,ht⟩:=hrun A outer s (hr.deeper _)
  have hfs:∀ b ∈ frs outer,H b=none:=e0.frf
  have ok0:=offC_hok e0.hok ck
  have noff:∀ b,H b=none->offC cl H b=none:=fun b n=>by
    by_cases z:Cel cl b
    · exact offC_in z
    · rw [offC_out z];exact n
  have nL:∀ x d,cl.lookup x=some d->d < s.heap.objs.size/\∃ oc v,s.heap.get? d=some oc/\oc.data=.cell v:=fun x d e=>by
    obtain ⟨oc,v,q,dd⟩:=ck x d e
    have g:=e0.hok.kn q
    exact ⟨Heap.lt_size g,oc,v,g,dd⟩
  have I:Inv (cxLam P w K mg base N qual scope f (.ref c) cl A outer s (offC cl H) (fun C d H'=>E C d (onC cl H H'))) [] σ (offC cl H) { s with heap:=h1,toks:=s.toks + ([]:List (Str × Value)).length }:=by
    have noA:∀ b:Addr,b ∉ (cxLam P w K mg base N qual scope f (.ref c) cl A outer s (offC cl H) (fun C d H'=>E C d (onC cl H H'))).ex:=fun b z=>absurd (show b ∈ ([]:List Addr) from z) (by simp)
    refine ⟨⟨e0.mod,S.kind,rfl,rfl,Nat.le_refl _,S.inj,fun y hy=>?_,fun y d hy _=>absurd (show false=true from hy) (by simp),fun _=>hr.hd,Around.frames_deeper e0.frames,.inr ⟨rfl,rfl⟩,fun b z=>absurd z (noA b),fun b o e=>⟨(e0.bs b o e).1,noff b (e0.bs b o e).2⟩,e0.bsz,fun b _ _=>noA b,fun b z=>absurd z (noA b),e0.funs,fun b hb=>noff b (e0.frf b hb)⟩,
      rfl,e0.bare,Un.kept hk1,⟨_,hns,fun i y v h1' h2 h3=>?_⟩,fun y d h=>?_,noff _ (e0.hok.fresh (Nat.le_refl _)),fun y d h=>offC_in ⟨y,h⟩,fun p hp=>absurd (show p ∈ ([]:List (Addr × Obj)) from hp) (by simp),ok0.kept hk1,hσ.1⟩
    · have hy':scope.names.lookup y=some .cell ∨ scope.names.lookup y=some .free:=hy
      rcases hy' with hy' | hy'
      · exact (S.nc hy').elim
      · exact S.has y hy'
    · obtain ⟨kf,d,oc',u,e1,e2,e3,rv⟩:=hσ.2 i y v h1' h2
      exact ⟨u,rv,.inr ⟨.inr kf,d,e1,oc',hk1 _ _ (e0.hok.kn e2),e3⟩⟩
    · obtain ⟨_,oc',v,g,dd⟩:=nL y d h
      exact ⟨v,oc',hk1 _ _ g,dd⟩
  refine PySem.W.kla_codeExpr (wpAny_mono (hbody [] _ σ (offC cl H) _ I ht) (fun u s' ⟨v,H',J,rv,q⟩=>?_) fun e s' hx=>?_)
  · exact ⟨v,onC cl H H',J.os,J.bare,un_on J.base e0.hok ck hfs,hok_on J.base e0.hok J.hok ck hfs,rv,q⟩
  · have conv:∀ e s'',CX1 P w outer (offC cl H) s (fun C d H'=>E C d (onC cl H H')) e s''->CX1 P w outer H s E e s'':=fun e s'' h=>by
      obtain ⟨a,C,H',rfl,F,hE⟩:=h
      obtain ⟨T,x,n1,n2,n3,n4⟩:=F.exc
      have nC:∀ b,s.heap.get? b=none->¬ Cel cl b:=fun b n ⟨x,z⟩=>by
        obtain ⟨_,oc',v,g,_⟩:=nL x b z
        rw [n] at g;cases g
      exact ⟨a,C,onC cl H H',rfl,⟨F.os,F.bare,un_on F.un e0.hok ck hfs,hok_on F.un e0.hok F.hok ck hfs,T,x,n1,n2,by rw [onC_out (nC a n1)];exact n3,by rw [onC_out (nC T n2)];exact n4⟩,hE⟩
    exact wpAny_mono hx (fun _ s'' h=>conv e s'' h) fun e' s'' h=>conv e' s'' h
structure FrzX (X:Cx) (σ:St) (H Hf:Hp):Prop where
  out:∀ b,¬ Cel X.env.cells b->Hf b=H b
  none:∀ b,Cel X.env.cells b->H b=none
  cell:CelK X.env.cells Hf
  val:∀ (i:Nat) (x:Str) (v:V),X.N[i]?=some x->σ[i]?=some (some v)->(X.env.kindOf x=some .cell ∨ X.env.kindOf x=some .free)->∃ c oc u,X.env.cells.lookup x=some c/\Hf c=some (KN oc)/\oc.data=.cell (some u)/\RelV v u
open Classical in
noncomputable def frzAll (cl:List (Str × Addr)) (h:Heap) (H:Hp):Hp:=fun b=>if Cel cl b then (h.get? b).map (fun o=>KN o) else H b
theorem Inv.frz {X:Cx} {pins:List (Addr × Obj)} {σ:St} {H:Hp} {s:Shared} (I:Inv X pins σ H s):FrzX X σ H (frzAll X.env.cells s.heap H)/\HOk X.prog X.w (frzAll X.env.cells s.heap H) s.heap:=by
  have hin:∀ b,Cel X.env.cells b->∃ o v,s.heap.get? b=some o/\o.data=.cell v/\frzAll X.env.cells s.heap H b=some (KN o):=fun b z=>by
    obtain ⟨x,zx⟩:=z
    obtain ⟨v,o,e,d⟩:=I.cell x b zx
    refine ⟨o,v,e,d,?_⟩
    unfold frzAll
    rw [if_pos ⟨x,zx⟩,e]
    rfl
  have hout:∀ b,¬ Cel X.env.cells b->frzAll X.env.cells s.heap H b=H b:=fun b z=>by unfold frzAll;rw [if_neg z]
  have hno:∀ b,Cel X.env.cells b->H b=none:=fun b ⟨x,z⟩=>I.freeC x b z
  refine ⟨⟨hout,hno,fun x c z=>?_,fun i x v h1 h2 h3=>?_⟩,fun b o e=>?_⟩
  · obtain ⟨o,v,_,d,q⟩:=hin c ⟨x,z⟩
    exact ⟨o,v,q,d⟩
  · obtain ⟨m,hn,hl⟩:=I.loc
    obtain ⟨u,r,lk⟩:=hl i x v h1 h2 (by rcases h3 with h3 | h3;exact .inr (.inl h3);exact .inr (.inr h3))
    rcases lk with ⟨z,_⟩ | ⟨_,c,e,oc,g,d⟩
    · rw [z] at h3
      rcases h3 with h3 | h3 <;> cases h3
    · obtain ⟨o,v',g',d',q⟩:=hin c ⟨x,e⟩
      rw [g] at g';cases g'
      exact ⟨c,oc,u,e,q,d,r⟩
  · by_cases z:Cel X.env.cells b
    · obtain ⟨o',v,g,d,q⟩:=hin b z
      rw [q] at e;cases e
      exact kn_ok g
    · rw [hout b z] at e
      refine (I.hok b o e).stay (fun _ _ _ q=>q) (fun c q=>?_) fun c xs q=>?_
      · rw [hout c (fun zc=>by rw [hno c zc] at q;cases q)];exact q
      · rw [hout c (fun zc=>by rw [hno c zc] at q;cases q)];exact q
def tCallF (X:Cx) (sp:Sp) (t:TA):TE:=fun σ H Q=>t σ H fun vs H1=>∀ Hf,FrzX X σ H1 Hf->sp vs Hf (fun v H'=>Q v (offC X.env.cells H')) E0
theorem pe_callF {X:Cx} {k:Nat} {f:Addr} {fd:FuncData} {ps:List Str} {sp:Sp} {x:Str} {p pos:Pos} {e:Expr} {es:List Expr} {t:TA} (F:FnOk X.prog X.w X.K X.mg X.base CX0 k f fd ps sp) (hr:Room k X.A) (hg:Gl X x) (hm:X.mg x=some (.ref f)) (hk:PySem.W.keepIn X.K (.ref f)=true) (hb:Binds X.K fd ps [])
    (hfn:∀ y,X.fn y=true:=by intro y;rfl)
    (ha:PA X (e :: es) t) (hdb:(x == ("__debug__":Str))=false:=by decide) (he:starEach (e :: es) X.env=(false,eval e X.env) :: starEach es X.env:=by rfl) (hpl:(backTo pos (starEach es X.env)).any (·.1)=false:=by rfl) :
    PE X (.Call (.Name x p) (e :: es) [] pos) (tCallF X sp t):=by
  intro pins s σ H Q I h
  refine wpAny_Call_Name_kw (ld_glob I hg hm ?_ hdb)
  refine PySem.W.callWith_K (h₀:=X.base) I.ok.mod.kin hk (thn (ha pos pins s σ H _ I h) fun us s1 ⟨vs,H1,I1,r,q⟩=>⟨I1.kIn,?_⟩) he hpl
  obtain ⟨fz,hokf⟩:=I1.frz
  have q':=q _ fz
  have r2:Vals (vs ++ []) (us ++ []):=r.append .nil
  have hl:(us ++ []).length=ps.length:=by rw [<- r2.length,List.append_nil];exact F.len _ _ _ _ q'
  have e0:=I1.env0
  have nof:∀ b o,X.base.get? b=some o->¬ Cel X.env.cells b:=fun b o eb ⟨y,z⟩=>absurd (Nat.lt_of_lt_of_le (Heap.lt_size eb) I.ok.bsz) (Nat.not_lt_of_le (I.ok.cab y b (hfn y) z))
  have hfr:∀ b ∈ frs X.stack,¬ Cel X.env.cells b:=fun b hb ⟨y,z⟩=>by
    rcases List.mem_cons.mp (I1.stkSub b hb) with e | hb
    · exact I1.cne y b z e
    · obtain ⟨_,o,ho,_⟩:=I1.ok.funs.mem hb
      exact absurd (Heap.lt_size ho) (Nat.not_lt_of_le (I.ok.cab y b (hfn y) z))
  have e1:Env0 X.prog X.w X.K X.mg X.base X.A X.stack s1 (frzAll X.env.cells s1.heap H1):=⟨e0.frames,e0.mod,fun b o eb=>⟨(e0.bs b o eb).1,by rw [fz.out b (nof b o eb)];exact (e0.bs b o eb).2⟩,e0.bsz,e0.funs,fun b hb=>by rw [fz.out b (hfr b hb)];exact e0.frf b hb,hokf,e0.bare⟩
  refine wpAny_call (codeAny_mono (F.run X.A X.stack s1 _ ⟨us,[]⟩ us vs _ E0 hr e1 (by have z:=hb s1 us I1.kIn hl;rw [List.append_nil] at z;exact z) r q') fun res s' hq=>?_)
  cases res with
  | error e=>exact False.elim hq
  | ok fl =>
    cases fl with
    | ret u =>
      obtain ⟨v,H',os,bare,un,hok,rv,qq⟩:=hq
      obtain ⟨un',hok'⟩:=un_off (H:=H1) un hokf hok fz.cell fz.none fz.out
      exact I1.after ⟨v,_,os,bare,un',hok',rv,qq⟩
    | next=>exact False.elim hq
    | brk=>exact False.elim hq
    | cont=>exact False.elim hq
end L2
namespace L2
open PySem PySem.Spec PyProof.Rows
abbrev TJ:=St->Hp->(Hp->Prop)->Prop
def PJ (X:Cx) (es:List Expr) (n:Nat) (t:TJ):Prop :=
  ∀ (acc:Str),acc.length <= n->∀ (pins:List (Addr × Obj)) (s:Shared) (σ:St) (H:Hp) (Q:Hp->Prop),Inv X pins σ H s->t σ H Q ->
    wpAny (model X.prog X.w) X.A (joinParts acc (evalEach es X.env)) (fun u s'=>∃ z H',Inv X pins σ H' s'/\RelV (.str z) u/\Q H') X.xe s
section
variable {X:Cx} {es:List Expr} {n:Nat} {t:TJ}
theorem pj_nil (h:n <= sizeLine:=by decide):PJ X [] n (fun _ H Q=>Q H):=by
  intro acc ha pins s σ H Q I q
  exact joinParts_nil (s:=s) ⟨acc,H,I.tok _,⟨_,rfl⟩,q⟩ (Nat.le_trans ha h)
theorem pj_str {x:Str} {j:Nat} {pos:Pos} (h:PJ X es (n + x.length) t) (hz:n + x.length <= sizeLine:=by decide):PJ X (.Constant (.str x) j pos :: es) n t:=by
  intro acc ha pins s σ H Q I q
  show wpAny _ _ (joinParts acc (eval (.Constant (.str x) j pos) X.env :: evalEach es X.env)) _ _ _
  refine joinParts_cons (Calls.Constant_str ⟨?_,?_⟩)
  · rw [strLen_append];omega
  · exact h (acc ++ x) (by rw [strLen_append];omega) pins _ σ H Q (I.tok _) q
theorem pj_fmt {e:Expr} {te:TE} {pos:Pos} (he:PE X e te) (h:PJ X es (n + 100) t) (hz:n + 100 <= sizeLine:=by decide) :
    PJ X (.FormattedValue e (-1) none pos :: es) n (fun σ H Q=>te σ H fun v H1=>∃ i:Int,v=.int i/\i.natAbs.log2 < 1920/\(toString i:Str).length <= 100/\t σ H1 Q):=by
  intro acc ha pins s σ H Q I q
  show wpAny _ _ (joinParts acc (eval (.FormattedValue e (-1) none pos) X.env :: evalEach es X.env)) _ _ _
  refine joinParts_cons (FormattedValue_plain (thn (he pins s σ H _ I q) fun u s1 ⟨v,H1,I1,r,i,ev,hl,hz',q1⟩=>?_))
  subst ev
  obtain ⟨tk,rfl⟩:=r
  refine formatField_int_small hl ⟨?_,?_⟩
  · rw [strLen_append];omega
  · exact h _ (by rw [strLen_append];omega) pins _ σ H1 Q (I1.tok _) q1
theorem pe_fstr {v1 v2:Expr} {rest:List Expr} {pos:Pos} (h:PJ X (v1 :: v2 :: rest) 0 t):PE X (.JoinedStr (v1 :: v2 :: rest) pos) (fun σ H Q=>t σ H fun H1=>∀ z,Q (.str z) H1):=by
  intro pins s σ H Q I q
  exact JoinedStr_many (thn (h Str.empty (Nat.le_refl _) pins s σ H _ I q) fun u s1 ⟨z,H1,I1,r,q1⟩=>⟨.str z,H1,I1,r,q1 z⟩)
end
theorem pass10 {P:Program} {w:World} {X:Cx}:Passes (CX1 P w) X E0:=fun _ _ _ _ _ _ _ h=>by
  obtain ⟨_,_,_,_,_,z⟩:=h
  exact z.elim
section
variable {P:Program} {w:World} {K:PySem.W.Frag} {mg:Str->Option Value} {base:Heap}
theorem Fun.okX {x qual:Str} {st:Stmt} {f:Addr} {fd:FuncData} {N ps:List Str} {k:Nat} {sp:Sp} (F:Fun K x qual st f fd) (S:FnScope N ps (defScope st)) (len:∀ vs H Q E,sp vs H Q E->vs.length=ps.length)
    (hbody:∀ (cdv:Value) (A:Around) (outer:List Env) (s:Shared) (H:Hp) (vs:List V) (Q:VK) (E:XK),Room k (A.deeper (envOfC qual (defScope st) s.heap.objs.size f cdv))->sp vs H Q E ->
      ∃ t,PSs (cxOf (CX1 P w) P w K mg base N qual (defScope st) f cdv A outer s H E) (defBody st) t/\t { nx:=fun _ H'=>Q .non H',rt:=Q } (start N vs) H):FnOk P w K mg base (CX1 P w) (k + 1) f fd ps sp:=by
  obtain ⟨oc,od,kV,doc,pm,an,cdv,ct,osl,rfl,lk,hcd⟩:=F.ex
  exact fn_of lk hcd S len fun A outer s H vs Q E hr hsp=>hbody cdv A outer s H vs Q E hr hsp
theorem Fun.okC {x qual:Str} {st:Stmt} {f:Addr} {fd:FuncData} {N ps:List Str} {k:Nat} {sp:Sp} (F:Fun K x qual st f fd) (S:FnScope N ps (defScope st)) (len:∀ vs H Q E,sp vs H Q E->vs.length=ps.length)
    (hbody:∀ (cdv:Value) (A:Around) (outer:List Env) (s:Shared) (H:Hp) (vs:List V) (Q:VK) (E:XK),fd.code=cdv->Room k (A.deeper (envOfC qual (defScope st) s.heap.objs.size f cdv))->sp vs H Q E ->
      ∃ t,PSs (cxOf CX0 P w K mg base N qual (defScope st) f cdv A outer s H E).nox (defBody st) t/\t { nx:=fun _ H'=>Q .non H',rt:=Q } (start N vs) H):FnOk P w K mg base CX0 (k + 1) f fd ps sp:=by
  obtain ⟨oc,od,kV,doc,pm,an,cdv,ct,osl,rfl,lk,hcd⟩:=F.ex
  refine fn_of lk hcd S len fun A outer s H vs Q E hr hsp=>?_
  obtain ⟨t,h,q⟩:=hbody cdv A outer s H vs Q E rfl hr hsp
  exact ⟨t,h.nox,q⟩
end
section
variable {P:Program} {w:World} {K:PySem.W.Frag} {mg:Str->Option Value} {base:Heap} {N:List Str} {qual:Str} {scope:Scope} {f:Addr} {cd:Value} {A:Around} {outer:List Env} {s₀:Shared} {H₀:Hp} {E:XK}
theorem ps_raise1 {x:Str} {C:Addr} {e:Expr} {te:TE} {np cpos pos:Pos} (hm:mg x=some (.ref C)) (hc:XC K C) (he:PE (cxOf (CX1 P w) P w K mg base N qual scope f cd A outer s₀ H₀ E) e te)
    (hmono:∀ σ H (Q Q':VK),(∀ v H1,Q v H1->Q' v H1)->te σ H Q->te σ H Q')
    (hg:Gl (cxOf (CX1 P w) P w K mg base N qual scope f cd A outer s₀ H₀ E) x:=by rfl)
    (hdb:(x == ("__debug__":Str))=false:=by decide)
    (hst:starEach [e] (envOfC qual scope s₀.heap.objs.size f cd)=(false,eval e (envOfC qual scope s₀.heap.objs.size f cd)) :: starEach [] (envOfC qual scope s₀.heap.objs.size f cd):=by rfl) :
    PS (cxOf (CX1 P w) P w K mg base N qual scope f cd A outer s₀ H₀ E) (.Raise (some (.Call (.Name x np) [e] [] cpos)) none pos) (fun _ σ H=>te σ H fun _ H1=>E (.ref C) none H1):=by
  have h:=ps_raise (E:=E) (pos:=pos) (np:=np) (cpos:=cpos) (t:=tCons te tNil) hg hm hc (pa_cons he pa_nil (hs:=hst)) (Nat.le_refl _) hdb hst rfl (fun σ H Q q=>hmono _ _ _ _ (fun v H1 z=>⟨by show 1 <= sizeLine;decide,z⟩) q)
  exact h
end
end L2
namespace L2
open PySem PySem.Spec PyProof.Rows
def OnlyT (ts:List Addr) (H:Hp):Prop:=(∀ b,H b=none ∨ (∃ o xs,H b=some (.frz o (.lst xs))) ∨ (b ∈ ts/\H b=some (.tbl #[])))/\∀ T ∈ ts,H T=some (.tbl #[])
theorem law_callT {P:Program} {w:World} {K:PySem.W.Frag} {mg mb:Str->Option Value} {k:Nat} {fa a:Addr} {fd:FuncData} {x:Str} {sp:Sp} {s1:Shared} {vs:List Value} {ns:List Int} {ts:List Addr}
    (KX:K.In s1.heap) (hns:s1.heap.Ns mainGlobals mg) (hb:s1.heap.Ns builtinsNs mb) (hbb:∀ x:Str,x ≠ "__name__"->mb x=bootBuiltins x) (hlim:s1.heap.NoLimit) (hg:s1.gens=#[])
    (hbm:∃ bm ob,mg "__builtins__"=some (.ref bm)/\bm ≠ builtinsNs/\s1.heap.get? bm=some ob/\ob.cls=.type "module"/\ob.dict=some builtinsNs/\ob.data=.plain)
    (ha:s1.heap.get? a=some { cls:=.type "list",data:=.seq vs.toArray }) (hi:IntsAre vs ns) (hl:ns.length <= sizeLine) (hr:Room k callerA)
    (tabs:∀ T ∈ ts,s1.heap.get? T=some (PySem.W.tabObj #[])/\isCodeTable s1.heap T/\K.lookup T=none)
    (F:∀ base:Heap,K.In base->base.Ns mainGlobals mg->(∀ T ∈ ts,base.BuiltinsAt mg T)->FnOk P w K mg base CX0 k fa fd [x] sp) (hbind:∀ (s:Shared) (u:Value),BindsTo s fd ⟨[u],[]⟩ [(x,u)])
    (hsp:∀ H:Hp,OnlyT ts H->SqL K H a (ns.map V.int)->sp [.ref a] H (fun v _=>v=.bl true) fun _ _ _=>False) :
    codeAny (model P w) callerA (.call (.ref fa) ⟨[.ref a],[]⟩) (fun r s'=>r=.ok (.ret (.bool true))/\OldK s1.heap s'.heap/\s'.os=s1.os/\AllBare s'.gens) s1:=by
  have rv:=vals_ints hi
  have lenV:=hi.length
  have aT:a ∉ ts:=fun z=>by
    have e:=(tabs a z).1
    rw [ha] at e;cases e
  have core:∀ H:Hp,OnlyT ts H->SqL K H a (ns.map V.int)->HOk P w H s1.heap->(∀ b,H b ≠ none->b=a ∨ b ∈ ts)->(H a ≠ none->K.lookup a=none) ->
      codeAny (model P w) callerA (.call (.ref fa) ⟨[.ref a],[]⟩) (fun r s'=>r=.ok (.ret (.bool true))/\OldK s1.heap s'.heap/\s'.os=s1.os/\AllBare s'.gens) s1:=by
    intro H hO hS hok hA hK
    have base_of:∀ {b:Addr} {o:Obj},s1.heap.get? b=some o->H b=none->(hidT s1.heap H).get? b=some o:=fun e n=>hidT_get e n
    have noB:∀ {b:Addr} {o:Obj},s1.heap.get? b=some o->(∀ xs n,o.data ≠ .seq xs n)->(∀ xs,o.data ≠ .fields xs)->H b=none:=fun {b o} e d1 d2=>by
      cases q:H b with
      | none=>rfl
      | some u =>
        rcases hA b (by rw [q];simp) with e' | e'
        · subst e'
          rw [ha] at e;cases e
          exact absurd rfl (d1 _ _)
        · rw [(tabs b e').1] at e;cases e
          exact absurd rfl (d2 _)
    have noA:∀ {b:Addr} {o:Obj} {es:Array DictEntry} {ep:Nat},s1.heap.get? b=some o->o.data=.dict es ep->H b=none:=fun {b o es ep} e d =>
      noB e (fun xs n z=>by rw [d] at z;cases z) (fun xs z=>by rw [d] at z;cases z)
    have nsK:∀ {b:Addr} {m:Str->Option Value},s1.heap.Ns b m->(hidT s1.heap H).Ns b m:=fun {b m} ⟨o,es,ep,e,d,r⟩=>⟨o,es,ep,base_of e (noA e d),d,r⟩
    have hKb:K.In (hidT s1.heap H):=fun b o e=>base_of (KX b o e) (by
      cases q:H b with
      | none=>rfl
      | some u =>
        rcases hA b (by rw [q];simp) with e' | e'
        · subst e'
          rw [hK (by rw [q];simp)] at e;cases e
        · rw [(tabs b e').2.2] at e;cases e)
    have hM:Mod K mg (hidT s1.heap H):=⟨hKb,nsK hns,⟨mb,nsK hb,hbb⟩,let ⟨mc,h1,h2⟩:=hlim;⟨mc,nsK h1,h2⟩⟩
    have hBM:∀ T ∈ ts,(hidT s1.heap H).BuiltinsAt mg T:=fun T hT=>by
      obtain ⟨bm,ob,b1,b2,b3,b4,b5,b6⟩:=hbm
      refine ⟨bm,ob,b1,b2,fun z=>?_,fun z=>?_,base_of b3 (noB b3 (fun xs n z=>by rw [b6] at z;cases z) (fun xs z=>by rw [b6] at z;cases z)),b4,b5,b6⟩
      · obtain ⟨o,es,ep,e,d,_⟩:=hns
        rw [<- z,b3] at e;cases e
        rw [b6] at d;cases d
      · rw [z,(tabs T hT).1] at b3;cases b3;cases b4
    have e0:Env0 P w K mg (hidT s1.heap H) callerA [] s1 H:=⟨rfl,hM,fun b o e=>of_hidT e,Nat.le_of_eq (hidT_size _ _),trivial,fun b hb=>absurd (show b ∈ ([]:List Addr) from hb) (by simp),hok,.of_eq hg⟩
    refine codeAny_mono ((F _ hKb (nsK hns) hBM).run callerA [] s1 H ⟨[.ref a],[]⟩ [.ref a] [.ref a] _ _ hr e0 (hbind s1 (.ref a)) (.cons rfl .nil) (hsp H hO hS)) fun r s' h=>?_
    cases r with
    | error e=>exact False.elim h
    | ok fl =>
      cases fl with
      | next=>exact False.elim h
      | brk=>exact False.elim h
      | cont=>exact False.elim h
      | ret u =>
        obtain ⟨v,H',os,bare,un,hok',r',q⟩:=h
        have q':v=.bl true:=q
        subst q'
        obtain rfl:u=Value.bool true:=r'
        refine ⟨rfl,⟨fun b o e=>?_,fun b o e=>un.there b o e (by simp)⟩,os,bare⟩
        cases q:H b with
        | none=>exact .inl (un.keep b o e q (by intro z;exact absurd (show b ∈ ([]:List Addr) from z) (by simp)) (by simp))
        | some u =>
          rcases hO.1 b with z | ⟨ob,xs,z⟩ | ⟨hT,z⟩
          · rw [q] at z;cases z
          · have z2:=un.frzs b ob _ z
            obtain ⟨e1,_⟩:=hok b _ z
            obtain ⟨e2,_⟩:=hok' b _ z2
            rw [e] at e1;cases e1
            exact .inl e2
          · obtain ⟨more,z2⟩:=un.tbls b _ z
            have e1:s1.heap.get? b=some { cls:=.none,data:=.fields #[] }:=hok b _ z
            have e2:s'.heap.get? b=some { cls:=.none,data:=.fields (#[] ++ more) }:=hok' b _ z2
            rw [e] at e1;cases e1
            exact .inr (.inl ⟨(tabs b hT).2.1,rfl,#[],more,rfl,e2⟩)
  have tabOk:∀ (H:Hp) (T:Addr),T ∈ ts->ObjOk P w H s1.heap T (.tbl #[]):=fun H T hT=>(tabs T hT).1
  cases hk:K.lookup a with
  | some o =>
    have e:=KX a o hk
    rw [ha] at e
    cases e
    refine core (fun b=>if b ∈ ts then some (.tbl #[]) else none) ⟨fun b=>?_,fun T hT=>if_pos hT⟩ (.inr ⟨_,vs.toArray,_,hk,rfl,rfl,rfl,by rw [List.size_toArray,lenV];exact hl,by simpa using rv⟩) (fun b u z=>?_) (fun b z=>?_) fun z=>absurd (if_neg aT) z
    · by_cases hb:b ∈ ts
      · exact .inr (.inr ⟨hb,if_pos hb⟩)
      · exact .inl (if_neg hb)
    · by_cases hb:b ∈ ts
      · have z':=(if_pos hb).symm.trans z
        cases z'
        exact tabOk _ b hb
      · have z':=(if_neg hb).symm.trans z
        cases z'
    · by_cases hb:b ∈ ts
      · exact .inr hb
      · exact absurd (if_neg hb) z
  | none =>
    refine core (fun b=>if b=a then some (.frz { cls:=.type "list",data:=.seq vs.toArray } (.lst (ns.map V.int))) else if b ∈ ts then some (.tbl #[]) else none) ⟨fun b=>?_,fun T hT=>?_⟩ (.inl (.inr ⟨{ cls:=.type "list",data:=.seq vs.toArray },if_pos rfl⟩)) (fun b u z=>?_) (fun b z=>?_) fun _=>hk
    · by_cases hb:b=a
      · exact .inr (.inl ⟨_,_,if_pos hb⟩)
      · by_cases hc:b ∈ ts
        · exact .inr (.inr ⟨hc,(if_neg hb).trans (if_pos hc)⟩)
        · exact .inl ((if_neg hb).trans (if_neg hc))
    · exact (if_neg (fun z=>aT (by rw [<- z];exact hT))).trans (if_pos hT)
    · by_cases hb:b=a
      · have z':=(if_pos hb).symm.trans z
        cases z'
        subst hb
        exact ⟨ha,by rw [List.length_map];exact hl,vs,_,rv,ha⟩
      · have z':=(if_neg hb).symm.trans z
        by_cases hc:b ∈ ts
        · have z2:=(if_pos hc).symm.trans z'
          cases z2
          exact tabOk _ b hc
        · have z2:=(if_neg hc).symm.trans z'
          cases z2
    · by_cases hb:b=a
      · exact .inl hb
      · by_cases hc:b ∈ ts
        · exact .inr hc
        · exact absurd ((if_neg hb).trans (if_neg hc)) z
theorem walk_ofT {l:PySem.W.OpenLaw} {n k:Nat} {q:Program} {loose:List Str} {XP:(Str->Option Value)->Heap->Prop} {YP:World->Heap->Prop} {d:DefRec} {K:Params->PySem.W.Frag} {sp:World->Sp} {x:Str} {ts:List Addr}
    (hn:l.most=some n) (hn2:n <= sizeLine) (hdf:d.params.defaults=[]) (hr:Room k callerA)
    (hY:∀ (w:World) (h:Heap),YP w h->(K w.params).In h) (hT:∀ (w:World) (h:Heap),YP w h->∀ T ∈ ts,h.get? T=some (PySem.W.tabObj #[]))
    (F:∀ (w:World) (mg:Str->Option Value) (fa:Addr) (h:Heap),(K w.params).In h->h.Ns mainGlobals mg->mg d.name=some (.ref fa) ->
      ∃ fd:FuncData,(∀ (s:Shared) (u:Value),BindsTo s fd ⟨[u],[]⟩ [(x,u)])/\(∀ T ∈ ts,(K w.params).lookup T=none/\∃ c,PySem.W.codeHdIn (K w.params) c T=true) /\
        ∀ base:Heap,(K w.params).In base->base.Ns mainGlobals mg->(∀ T ∈ ts,base.BuiltinsAt mg T)->FnOk l.prog w (K w.params) mg base CX0 k fa fd [x] (sp w))
    (hsp:∀ (w:World) (H:Hp) (a:Addr) (ns:List Int),ns.length <= n->OnlyT ts H->SqL (K w.params) H a (ns.map V.int)->sp w [.ref a] H (fun v _=>v=.bl true) fun _ _ _=>False) :
    PySem.W.WalkO q loose XP YP l.row.toRowW d [] (fun f vs=>PySem.call f vs):=by
  refine Att.attach_call hn hdf fun w s₀ s₁ mg mb fa o pm cd doc a vs ns G Y ho hd hcd hmg hobj hints hlen hg=>?_
  have KX:=hY w _ Y
  obtain ⟨fd,hb,ht,hF⟩:=F w mg fa _ KX G.T.g hmg
  refine law_callT KX G.T.g G.T.b G.T.builtins G.T.nolimit hg G.T.bmain hobj hints (Nat.le_trans hlen hn2) hr (fun T hm=>?_) hF hb (fun H hO hS=>hsp w H a ns hlen hO hS)
  obtain ⟨h1,c,h2⟩:=ht T hm
  have hP:=hT w _ Y T hm
  exact ⟨hP,((PySem.W.codeHd_of_K KX h2).tab hP).isCodeTable,h1⟩
end L2
namespace L2
open PySem PySem.Spec PyProof.Rows
structure CalX (P:Program) (w:World) (K:PySem.W.Frag) (mg:Str->Option Value) (base:Heap) (k:Nat) (x:Str) (ps:List Str) (sp:Sp):Prop where
  ex:∃ f fd,mg x=some (.ref f)/\PySem.W.keepIn K (.ref f)=true/\Binds K fd ps []/\FnOk P w K mg base (CX1 P w) k f fd ps sp
theorem CalX.up {P:Program} {w:World} {K:PySem.W.Frag} {mg:Str->Option Value} {base:Heap} {j k:Nat} {x:Str} {ps:List Str} {sp:Sp} (C:CalX P w K mg base j x ps sp) (h:j <= k):CalX P w K mg base k x ps sp :=
  let ⟨f,fd,a,b,c,d⟩:=C.ex;⟨f,fd,a,b,c,d.mono h⟩
def tCx (sp:Sp) (E:XK) (t:TA):TE:=fun σ H Q=>t σ H fun vs H1=>sp vs H1 Q E
section
variable {X:Cx} {k:Nat} {x:Str} {ps:List Str} {sp:Sp} {p pos:Pos} {e:Expr} {es:List Expr} {t:TA} {E:XK}
theorem pe_calx (C:CalX X.prog X.w X.K X.mg X.base k x ps sp) (hr:Room k X.A) (hg:Gl X x) (hx:Passes (CX1 X.prog X.w) X E) (ha:PA X (e :: es) t)
    (hdb:(x == ("__debug__":Str))=false:=by decide) (he:starEach (e :: es) X.env=(false,eval e X.env) :: starEach es X.env:=by rfl) (hpl:(backTo pos (starEach es X.env)).any (·.1)=false:=by rfl) :
    PE X (.Call (.Name x p) (e :: es) [] pos) (tCx sp E t):=by
  obtain ⟨f,fd,hm,hk,hb,F⟩:=C.ex
  have h:=pe_call (x:=x) (p:=p) (pos:=pos) F hr hg hm hk hb .nil hx ha hdb he hpl
  have e:tCall sp [] E t=tCx sp E t:=by
    funext σ H Q
    show t σ H (fun vs H1=>sp (vs ++ []) H1 Q E)=t σ H (fun vs H1=>sp vs H1 Q E)
    congr 1
    funext vs H1
    rw [List.append_nil]
  rw [<- e];exact h
end
structure Errs (K:PySem.W.Frag) (mg:Str->Option Value) (c:Nat->Addr) (B:Addr):Prop where
  e0:mg "NoUrn"=some (.ref (c 0))
  e1:mg "NoRule"=some (.ref (c 1))
  e2:mg "NoKind"=some (.ref (c 2))
  e3:mg "NoBall"=some (.ref (c 3))
  e4:mg "NoDraws"=some (.ref (c 4))
  e5:mg "NoNumber"=some (.ref (c 5))
  e6:mg "NotEven"=some (.ref (c 6))
  e7:mg "NoCounts"=some (.ref (c 7))
  e8:mg "NotAlike"=some (.ref (c 8))
  e9:mg "BadNote"=some (.ref (c 9))
  eb:mg "UrnError"=some (.ref B)
  xc:∀ i,i < 10->XC K (c i)
  xi:∀ i,i < 10->XI K (c i)
  sub:∀ i,i < 10->PySem.W.kitCls K (.ref (c i)) (.ref B)=some true
  bb:PySem.W.subIn K (.ref B) (.type "BaseException")=some true
  one:∀ i j,i < 10->j < 10->PySem.W.kitOne K (.ref (c i)) (.ref (c j))=some (decide (i=j))
  val:∀ i,i < 10->PySem.W.kitOne K (.ref (c i)) (.type "ValueError")=some true
def Sm (i:Int):Prop:=i.natAbs.log2 < 1920/\(toString i:Str).length <= 100
end L2
namespace L2
open PySem PySem.Spec PyProof.Rows
section
variable {X:Cx} {pins:List (Addr × Obj)} {σ:St} {H:Hp} {s:Shared}
theorem Inv.bigger (I:Inv X pins σ H s):sysModules < s.heap.objs.size:=by
  obtain ⟨mc,⟨o,es,ep,e,_⟩,_⟩:=I.nolimit
  exact Nat.lt_of_le_of_lt (by decide) (Heap.lt_size e)
def rCatS:R2:=fun x y H Q=>∃ (a b:Addr) (xs ys:List V),x=.ref a/\y=.ref b/\H a=some (.tup xs)/\H b=some (.tup ys)/\xs.length + ys.length <= 1000/\∀ p H',Same H H'->H' p=some (.tup (xs ++ ys))->Q (.ref p) H'
theorem catS:OpR X (binaryOp .Add) rCatS:=by
  intro pins s σ H x y v u Q I rx ry h
  obtain ⟨a,b,xs,ys,rfl,rfl,ha,hb,hz,q⟩:=h
  refine op_catA pins s σ H _ _ v u Q I rx ry ⟨a,b,xs,ys,rfl,rfl,.of ha,.of hb,Nat.le_trans hz (by decide),fun e=>?_,fun _ e=>?_,fun _ _ p hp=>?_⟩
  · subst e
    exact q b H (Same.refl H) hb
  · subst e
    exact q a H (Same.refl H) (by rw [List.append_nil];exact ha)
  · exact q p _ (Same.new hp) upd_same
end
section
variable {K:PySem.W.Frag} {σ0:St} {te:TE} {H:Hp} {F:List V->Hp->Prop}
theorem blk_list {a:Addr} {xs:List V} (hn:xs.length <= sizeLine) (Pv:Nat->List V->Hp->Prop) (h0:Pv 0 [] H) (hl:∀ i ys H,Pv i ys H->ys.length=i) (hq:∀ i ys H,i <= xs.length->Pv i ys H->SqL K H a xs) (hσ:σ0[0]?=some none)
    (hs:∀ i ys H x,xs[i]?=some x->Pv i ys H->te (σ0.set 0 (some x)) H fun y H'=>Pv (i + 1) (ys ++ [y]) H') (hd:∀ ys H,Pv xs.length ys H->F ys H):Blk (Itl K a) σ0 (gName 0) tTrue te H F:=by
  refine ⟨fun i m ys H=>m=xs.length - i/\i <= xs.length/\Pv i ys H,⟨xs.length,by simp,Nat.zero_le _,h0⟩,?_⟩
  rintro i m ys H2 ⟨rfl,hi,p⟩
  have q:=hq i ys H2 hi p
  refine ⟨by rw [hl i ys H2 p];omega,?_⟩
  by_cases hlt:i < xs.length
  · refine .inr ⟨⟨xs,xs[i],q,by simp [hlt]⟩,fun y H'=>Pv (i + 1) (ys ++ [y]) H',fun _=>False,fun y H' q=>⟨xs.length - (i + 1),by omega,rfl,hlt,q⟩,fun _ q=>q.elim,fun x H3 y=>?_⟩
    obtain ⟨rfl,y⟩:=y
    exact ⟨Wk.set (.inl hσ),hs i ys _ x (y xs q) p⟩
  · have e:i=xs.length:=by omega
    subst e
    exact .inl ⟨⟨xs,q,Nat.le_refl _⟩,hd ys H2 p⟩
end
end L2
namespace L2
open PySem PySem.Spec PyProof.Rows
section
variable {X:Cx} {es:List Expr} {te:TE} {t:TA}
theorem pa_k {c j p} (ha:PE X (.Constant c j p) te) (hr:PA X es t):PA X (.Constant c j p :: es) (tCons te t):=pa_cons ha hr rfl
theorem pa_b {a op b p} (ha:PE X (.BinOp a op b p) te) (hr:PA X es t):PA X (.BinOp a op b p :: es) (tCons te t):=pa_cons ha hr rfl
theorem pa_t {xs c p} (ha:PE X (.Tuple xs c p) te) (hr:PA X es t):PA X (.Tuple xs c p :: es) (tCons te t):=pa_cons ha hr rfl
theorem pa_l {xs p} (ha:PE X (.List xs p) te) (hr:PA X es t):PA X (.List xs p :: es) (tCons te t):=pa_cons ha hr rfl
theorem pa_d {ks vs p} (ha:PE X (.Dict ks vs p) te) (hr:PA X es t):PA X (.Dict ks vs p :: es) (tCons te t):=pa_cons ha hr rfl
end
end L2
namespace L2
open PySem PySem.Spec PyProof.Rows
def constV:Expr->Option V
  | .Constant (.int i) _ _=>some (.int i)
  | .Constant (.bool b) _ _=>some (.bl b)
  | .Constant .none _ _=>some .non
  | .Constant (.str x) _ _=>some (.str x)
  | .UnaryOp .USub (.Constant (.int i) _ _) _=>some (.int (-i))
  | _=>none
def constVs:List Expr->Option (List V)
  | []=>some []
  | e :: es=>match constV e,constVs es with
    | some v,some vs=>some (v :: vs)
    | _,_=>none
theorem constV_pe {X:Cx} {e:Expr} {v:V} (h:constV e=some v):PE X e (tC v)/\∀ es:List Expr,starEach (e :: es) X.env=(false,eval e X.env) :: starEach es X.env:=by
  unfold constV at h
  split at h
  · cases h;exact ⟨pe_int,fun _=>rfl⟩
  · cases h;exact ⟨pe_bl,fun _=>rfl⟩
  · cases h;exact ⟨pe_non,fun _=>rfl⟩
  · cases h;exact ⟨pe_str,fun _=>rfl⟩
  · cases h
    refine ⟨fun pins s σ H Q I q=>?_,fun _=>rfl⟩
    exact pe_un un_neg pe_int pins s σ H Q I ⟨_,rfl,q⟩
  · cases h
theorem pa_pre {X:Cx} {t:TA}:∀ {es:List Expr} {vs:List V} (n:Nat),constVs (es.take n)=some vs->PA X (es.drop n) t->PA X es (fun σ H Q=>t σ H fun ws H1=>Q (vs ++ ws) H1)
  | es,vs,0,h,hr=>by
    have e:vs=[]:=by
      have h':constVs []=some vs:=by simpa using h
      cases h';rfl
    subst e
    exact hr
  | [],vs,n + 1,h,hr=>by
    have e:vs=[]:=by
      have h':constVs []=some vs:=by simpa using h
      cases h';rfl
    subst e
    exact hr
  | e :: es,vs,n + 1,h,hr=>by
    have h':constVs (e :: es.take n)=some vs:=by simpa using h
    unfold constVs at h'
    cases e1:constV e with
    | none=>rw [e1] at h';cases h'
    | some v =>
      cases e2:constVs (es.take n) with
      | none=>rw [e1,e2] at h';cases h'
      | some us =>
        rw [e1,e2] at h'
        cases h'
        obtain ⟨p1,p2⟩:=constV_pe (X:=X) e1
        have ih:=pa_pre (es:=es) n e2 (by simpa using hr)
        exact pa_cons p1 ih (p2 es)
theorem pa_consts {X:Cx} {es:List Expr} {vs:List V} (h:constVs es=some vs):PA X es (fun _ H Q=>Q vs H):=by
  have z:=pa_pre (X:=X) (es:=es) (vs:=vs) es.length (by rw [List.take_length];exact h) (by rw [List.drop_length];exact pa_nil)
  have e:(fun (σ:L2.St) (H:Hp) (Q:List V->Hp->Prop)=>tNil σ H fun ws H1=>Q (vs ++ ws) H1)=fun _ H Q=>Q vs H:=by
    funext σ H Q
    show Q (vs ++ []) H=Q vs H
    rw [List.append_nil]
  rw [<- e]
  exact z
theorem pe_pick {X:Cx} {a c:Expr} {xs:List Expr} {vs:List V} {ta tc:TE} {p1 p2 p3:Pos} (h:constVs xs=some vs) (ha:PE X a ta) (hc:PE X c tc) (hx:PlainIx c) :
    PE X (.Subscript a (.Subscript (.List xs p1) c p2) p3) (tOp (rIxL X.K) ta (tOp (rIxL X.K) (tLst fun _ H Q=>Q vs H) tc)) :=
  pe_ix ix_list ha (pe_ix ix_list (pe_lst (pa_consts h)) hc hx) (fun _ _=>rfl)
end L2
namespace L2
open PySem PySem.Spec PyProof.Rows
structure Clo (X:Cx):Prop where
  inj:∀ x y c,X.env.cells.lookup x=some c->X.env.cells.lookup y=some c->x=y
  has:∀ x,(X.env.kindOf x=some .cell ∨ X.env.kindOf x=some .free)->∃ c,X.env.cells.lookup x=some c
theorem pe_clo {X:Cx} {e:Expr} {t:TE} (h:PE X e t):PE X e (fun σ H Q=>Clo X->t σ H Q):=fun pins s σ H Q I q=>h pins s σ H Q I (q ⟨I.ok.inj,I.ok.has⟩)
section
variable {X:Cx} {σ:L2.St} {H Hf:Hp} {scope:Scope}
theorem Clo.closed (Z:Clo X) (hf:okFree scope X.env=true):∀ x ∈ scope.names,x.2=.free->∃ c,X.env.cells.lookup x.1=some c:=fun x hx hk=>Z.has x.1 (okFree_get hf hx hk)
theorem Clo.sub (Z:Clo X) (hf:okFree scope X.env=true) {x:Str} {c:Addr} (h:(closL X.env scope.names []).lookup x=some c):X.env.cells.lookup x=some c:=by
  obtain ⟨y,hm,e⟩:=lookup_mem' h
  subst e
  rcases closL_mem (Z.closed hf) hm with q | q
  · cases q
  · exact q
theorem Clo.cel (Z:Clo X) (hf:okFree scope X.env=true) {b:Addr} (h:Cel (closL X.env scope.names []) b):Cel X.env.cells b:=let ⟨x,e⟩:=h;⟨x,Z.sub hf e⟩
theorem Clo.lsc (Z:Clo X) (hf:okFree scope X.env=true) (k1:scope.kind=.function) (k2:scope.isCoroutine=false) (k3:scope.isGenerator=false) (k4:∀ x ∈ scope.names,x.2 ≠ .cell):LamScope (closL X.env scope.names []) scope :=
  ⟨k1,k2,k3,k4,fun x y c h1 h2=>Z.inj x y c (Z.sub hf h1) (Z.sub hf h2),fun x h=>by
    obtain ⟨y,hm,e⟩:=lookup_mem' h
    subst e
    obtain ⟨c,hc⟩:=closL_has (env:=X.env) (acc:=[]) hm
    exact lookup_of_mem hc⟩
theorem Clo.celk (Z:Clo X) (hf:okFree scope X.env=true) (fz:FrzX X σ H Hf):CelK (closL X.env scope.names []) Hf:=fun x c h=>fz.cell x c (Z.sub hf h)
theorem Clo.st (Z:Clo X) (hf:okFree scope X.env=true) (fz:FrzX X σ H Hf) {N:List Str} {ix:List (Option Nat)} (hx:okIx scope X.N N ix=true):LamSt (closL X.env scope.names []) scope N Hf (pick ix σ):=by
  refine ⟨by unfold pick;rw [List.length_map];exact okIx_len hx,fun j x v h1 h2=>?_⟩
  obtain ⟨i,h3,h4⟩:=pick_get h2
  obtain ⟨y,e1,e2,e3⟩:=okIx_get hx h3
  rw [h1] at e1
  cases e1
  obtain ⟨y,hm,e⟩:=lookup_mem' e3
  subst e
  obtain ⟨c,oc,u,c1,c2,c3,c4⟩:=fz.val i y v e2 h4 (okFree_get hf hm rfl)
  obtain ⟨d,hd⟩:=closL_has (env:=X.env) (acc:=[]) hm
  obtain ⟨d',hd'⟩:=lookup_of_mem hd
  have z:=Z.sub hf hd'
  rw [c1] at z
  cases z
  exact ⟨e3,c,oc,u,hd',c2,c3,c4⟩
theorem FrzX.same (fz:FrzX X σ H Hf):Same H Hf:=fun b o e=>by rw [fz.out b (fun z=>by rw [fz.none b z] at e;cases e)];exact e
theorem FrzX.inner (fz:FrzX X σ H Hf) (Z:Clo X) (hf:okFree scope X.env=true):Same H (offC (closL X.env scope.names []) Hf):=fun b o e=>by
  have nc:¬ Cel X.env.cells b:=fun z=>by rw [fz.none b z] at e;cases e
  rw [offC_out fun z=>nc (Z.cel hf z)]
  exact fz.same b o e
theorem FrzX.back (fz:FrzX X σ H Hf) {H':Hp} (g:Same Hf H'):Same H (offC X.env.cells H'):=fun b o e=>by
  have nc:¬ Cel X.env.cells b:=fun z=>by rw [fz.none b z] at e;cases e
  rw [offC_out nc]
  exact g b o (fz.same b o e)
end
theorem on_same {cl:List (Str × Addr)} {H H':Hp} (g:Same (offC cl H) H'):Same H (onC cl H H'):=fun b o e=>by
  by_cases z:Cel cl b
  · rw [onC_in z];exact e
  · rw [onC_out z];exact g b o (by rw [offC_out z];exact e)
def spLam (P:Program) (w:World) (K:PySem.W.Frag) (mg:Str->Option Value) (base:Heap) (k:Nat) (f c:Addr) (name qual:Str) (params:Arguments) (body:Expr) (scope:Scope) (cl:List (Str × Addr)) (pm ct:Value) (N:List Str):Sp:=fun vs H Q E =>
  vs=[]/\H f=some (KN (PySem.W.kla_obj name qual params body scope cl pm c ct))/\CodeK qual H c/\CelK cl H/\∃ σ,LamSt cl scope N H σ /\
    ∀ (A:Around) (outer:List Env) (s:Shared),Room k (A.deeper (PySem.W.envX qual scope s.heap.objs.size f (.ref c) cl))->∃ t,PE (cxLam P w K mg base N qual scope f (.ref c) cl A outer s (offC cl H) (fun C d H'=>E C d (onC cl H H'))) body t/\t σ (offC cl H) (fun v H'=>Q v (onC cl H H'))
theorem CTab.kp {q:Str} {T l:Addr} {H H':Hp} {xs:List V} (h:CTab q T H) (hl:H l=some (.lst xs)) (k:Kp l H H'):CTab q T H':=by
  obtain ⟨ps,h1,h2,h3⟩:=h
  refine ⟨ps,k T _ (fun e=>by rw [e,hl] at h1;cases h1) h1,h2,fun pos v e=>?_⟩
  obtain ⟨c,oc,vs,t,e1,e2,e3,e4⟩:=h3 pos v e
  exact ⟨c,oc,vs,t,e1,k c _ (fun z=>by rw [z,hl] at e2;cases e2) e2,e3,e4⟩
theorem CTab.same {q:Str} {T:Addr} {H H':Hp} (h:CTab q T H) (g:Same H H'):CTab q T H':=by
  obtain ⟨ps,h1,h2,h3⟩:=h
  refine ⟨ps,g _ _ h1,h2,fun pos v e=>?_⟩
  obtain ⟨c,oc,vs,t,e1,e2,e3,e4⟩:=h3 pos v e
  exact ⟨c,oc,vs,t,e1,g _ _ e2,e3,e4⟩
theorem pe_callR {X:Cx} {k:Nat} {ps:List Str} {sp:Sp} {x:Str} {p pos:Pos} {e:Expr} {es:List Expr} {t:TA} (C:Cal X.prog X.w X.K X.mg X.base k x ps sp) (hr:Room k X.A) (hg:Gl X x) (ha:PA X (e :: es) t)
    (hfn:∀ y,X.fn y=true:=by intro y;rfl) (hdb:(x == ("__debug__":Str))=false:=by decide) (he:starEach (e :: es) X.env=(false,eval e X.env) :: starEach es X.env:=by rfl) (hpl:(backTo pos (starEach es X.env)).any (·.1)=false:=by rfl) :
    PE X (.Call (.Name x p) (e :: es) [] pos) (fun σ H Q=>Clo X->tCallF X sp t σ H Q):=by
  obtain ⟨f,fd,hm,hk,hb,F⟩:=C.ex
  exact pe_clo (pe_callF F hr hg hm hk hb hfn ha hdb he hpl)
end L2
namespace L2
open PySem PySem.Spec PyProof.Rows
def isSeqD:PyData->Bool
  | .list _=>true
  | .tuple _=>true
  | _=>false
section
variable {X:Cx}
def okSeq:PyData->Bool
  | .none=>true
  | .int _=>true
  | .tuple _=>true
  | _=>false
def tCallV (i:Nat) (f:Addr) (sp:Sp) (E:XK) (t:TA):TE:=fun σ H Q=>σ[i]?=some (some (.ref f))/\t σ H fun vs H1=>sp vs H1 Q E
theorem pe_callV {CX:CXT} {k i:Nat} {f:Addr} {fd:FuncData} {ps:List Str} {sp:Sp} {E:XK} {x:Str} {p pos:Pos} {e:Expr} {es:List Expr} {t:TA} (F:FnOk X.prog X.w X.K X.mg X.base CX k f fd ps sp) (hr:Room k X.A) (hk:PySem.W.keepIn X.K (.ref f)=true) (hb:Binds X.K fd ps []) (hx:Passes CX X E)
    (ha:PA X (e :: es) t) (hN:X.N[i]?=some x:=by rfl) (hv:Vis X.env.scope x:=by first | exact Or.inl rfl | exact Or.inr (Or.inl rfl) | exact Or.inr (Or.inr rfl)) (hd:(x == ("__debug__":Str))=false:=by decide) (hcd:(x == ("__classdict__":Str))=false:=by decide)
    (he:starEach (e :: es) X.env=(false,eval e X.env) :: starEach es X.env:=by rfl) (hpl:(backTo pos (starEach es X.env)).any (·.1)=false:=by rfl) :
    PE X (.Call (.Name x p) (e :: es) [] pos) (tCallV i f sp E t):=by
  intro pins s σ H Q I h
  obtain ⟨e0,h⟩:=h
  refine wpAny_Call_Name_kw ?_
  refine thn (pe_var (X:=X) (i:=i) (x:=x) (pos:=p) hN hv hd hcd pins s σ H (fun v H1=>v=.ref f/\H1=H) I ⟨_,e0,rfl,rfl⟩) fun u s1 ⟨v,H1,I1,r,ev,eH⟩=>?_
  subst ev
  subst eH
  obtain rfl:u=Value.ref f:=r
  refine PySem.W.callWith_K (h₀:=X.base) I.ok.mod.kin hk (thn (ha pos pins s1 σ H1 _ I1 h) fun us s2 ⟨vs,H2,I2,r2,q⟩=>⟨I2.kIn,?_⟩) he hpl
  exact run_fn F hr hb .nil hx I2 r2 (by rw [List.append_nil];exact q)
end
end L2
namespace L2
open PySem PySem.Spec PyProof.Rows
section
variable {X:Cx} {scope:Scope} {N:List Str} {ix:List (Option Nat)} {elt target iter:Expr} {ifs:List Expr} {pos:Pos} {wi:TI} {g:TG} {tc:TT}
end
end L2
namespace L2
open PySem PySem.Spec PyProof.Rows
section
variable {X:Cx}
def tD1 (k v:Int):TE:=fun _ H Q=>∀ p,H p=none->Q (.ref p) (upd H p (.dK [(Sum.inl k,.int v)]))
theorem pe_d1 {k v:Int} {j1 j2} {p1 p2 pos:Pos}:PE X (.Dict [some (.Constant (.int k) j1 p1)] [.Constant (.int v) j2 p2] pos) (tD1 k v):=by
  intro pins s σ H Q I h
  refine wpAny_Dict_pairs (knd:=mixKind X.prog X.w) (pairs:=[(eval (.Constant (.int k) j1 p1) X.env,do let x <- eval (.Constant (.int v) j2 p2) X.env;standAt pos;pure x)]) rfl (by simp) (by simp) ?_
  refine evalPairs_cons (wpAny_Constant_int (wpAny_bind (wpAny_Constant_int (wpAny_bind (wpAny_standAt (wpAny_pure (evalPairs_nil ?_)))))))
  refine ⟨[(Sum.inl k,_)],⟨?_,rfl,trivial⟩,Heap.DictOf.new s.heap,fun h' dd hs=>?_⟩
  · exact (by simp [keyIs,Value.isInt]:keyIs (Sum.inl k) (.int k s.toks)=true)
  · exact ⟨.ref s.heap.objs.size,_,I.laid (a:=s.heap.objs.size) (o:=.dK [(Sum.inl k,.int v)]) (t':=_) (fun b u q=>(hs.2 b (Nat.ne_of_lt (Heap.lt_size q))).trans (Heap.get?_push_of_some _ q)) (Nat.le_refl _)
      ⟨by show 1 <= sizeLine;decide,beq_eq_false_iff_ne.mpr (Ne.symm (Nat.ne_of_lt I.bigger)),_,.cons ⟨rfl,⟨_,rfl⟩⟩ .nil,dd⟩,rfl,h _ (I.hok.fresh (Nat.le_refl _))⟩
theorem mul_tupleH (l:Addr) (items:Array Value) (n:Nat) (dd:Option Addr) (sl:Array (Option Value)) (t:Tok) (xs:Array Value) (k:Nat) (hk:k=5) (hm1:1 <= items.size) (hm:items.size <= 4) (hx:(List.replicate k items).foldl (· ++ ·) #[]=xs) (hs:xs.size <= 20) :
    Meets (Builtin.«tuple.__mul__» ⟨[.ref l,.int (k:Int) t],[]⟩) (fun _ R s=>s.heap.get? l=some { cls:=.type "tuple",dict:=dd,data:=.seq items n,slots:=sl } /\
      R (.ok (.ret (.ref s.heap.objs.size))) { s with heap:=s.heap.push { cls:=.type "tuple",data:=.seq xs } }) :=
  .of_wp fun prog w A R s h=>by
    obtain ⟨hp,g,d,tk,os⟩:=s;obtain ⟨hl,h⟩:=h
    wp_walk
    have hne:items.isEmpty=false:=by
      unfold Array.isEmpty
      exact decide_eq_false (by omega)
    rw [if_neg (by rw [hne,hk];decide)]
    wp_walk
    rw [if_neg (by
      rw [hk]
      have:items.size=1 ∨ items.size=2 ∨ items.size=3 ∨ items.size=4:=by omega
      rcases this with e | e | e | e <;> rw [e] <;> decide)]
    simp only [Int.toNat_natCast,hx]
    wp_walk
    have hz:¬ xs.size > sizeLine:=by
      have z:20 < sizeLine:=by decide
      omega
    have hy:¬ Builtin.Tuple.tupleTooMany ((items.size:Int) * ((k:Nat):Int))=true:=by
      rw [hk]
      have:items.size=1 ∨ items.size=2 ∨ items.size=3 ∨ items.size=4:=by omega
      rcases this with e | e | e | e <;> rw [e] <;> decide
    rw [if_neg hy]
    wp_walk
    exact ⟨_,rfl,h⟩
theorem fold_five (xs:List Value):(List.replicate 5 xs.toArray).foldl (· ++ ·) #[]=(List.replicate 5 xs).flatten.toArray:=by
  apply Array.toList_inj.mp
  simp [List.replicate_succ]
def rRep5:R2:=fun x y H Q=>∃ (a:Addr) (xs:List V),x=.ref a/\y=.int 5/\H a=some (.tup xs)/\1 <= xs.length/\xs.length <= 4/\∀ p H',Same H H'->H' p=some (.tup (List.replicate 5 xs).flatten)->Q (.ref p) H'
theorem vals_flat {xs:List V} {us:List Value} (r:Vals xs us):∀ n:Nat,Vals (List.replicate n xs).flatten (List.replicate n us).flatten
  | 0=>.nil
  | n + 1=>by rw [List.replicate_succ,List.replicate_succ,List.flatten_cons,List.flatten_cons];exact r.append (vals_flat r n)
theorem op_rep5:OpR X (binaryOp .Mult) rRep5:=by
  intro pins s σ H x y w' u Q I rx ry h
  obtain ⟨a,xs,rfl,rfl,ha,h1,h4,q⟩:=h
  cases rx
  obtain ⟨t,rfl⟩:=ry
  obtain ⟨its,r,p1,_⟩:=I.tuple (SqT.of (K:=X.K) ha)
  obtain ⟨⟨cls,dd,data,sl⟩,ho,hc,n,hd⟩:=id p1
  simp only at hc hd
  subst hc hd
  have hl:=r.length
  refine wpAny_binaryOp_repeat_ref (T:="tuple") (U:="int") (by decide) ⟨_,ho,rfl⟩ (fun s'=>typeIs_int s' 5 t) noFill_tuple_mul F.fills_int_mul F.slot_int_rmul repeat_tuple F.slot_int_index.lookup
    (call_meets F.slot_int_rmul (typeIs_int s 5 t) F.entry_int_rmul (F.args_int_rmul_2 _ _) (rmul_tuple 5 t a _ n dd sl) ⟨ho,rfl,⟨_,ho,rfl⟩,?_⟩)
  refine call_meets F.slot_tuple_mul ⟨_,ho,rfl⟩ F.entry_tuple_mul (F.args_tuple_mul_2 _ _) (mul_tupleH a its.toArray n dd sl t _ 5 rfl (by rw [List.size_toArray];omega) (by rw [List.size_toArray];omega) (fold_five its) (by rw [List.size_toArray];simp [List.replicate_succ];omega)) ⟨ho,?_⟩
  refine ⟨.ref s.heap.objs.size,_,I.laid (t':=s.toks) (o:=.tup (List.replicate 5 xs).flatten) (fun b ob q=>Heap.get?_push_of_some _ q) (Nat.le_refl _) ?_,rfl,q _ _ (Same.new (I.hok.fresh (Nat.le_refl _))) upd_same⟩
  have hz:(List.replicate 5 xs).flatten.length <= sizeLine:=by
    have z:20 <= sizeLine:=by decide
    refine Nat.le_trans ?_ z
    simp [List.replicate_succ];omega
  exact ⟨hz,_,vals_flat r _,IsTup.new _ _⟩
end
end L2
namespace L2
open PySem PySem.Spec PyProof.Rows
end L2
namespace L2
open PySem PySem.Spec PyProof.Rows
section
variable (P:Program) (w:World)
end
section
variable {P:Program} {w:World} {H H':Hp} {h h':Heap} {a:Addr} {o:HO}
end
section
variable {P:Program} {w:World} {H:Hp} {h h':Heap} {x e:Addr} {o':HO}
end
section
variable {fs fs' ex ex':List Addr} {H H1 H2:Hp} {h h1 h2 h':Heap} {a x e:Addr} {o:HO}
end
end L2
namespace L2
open PySem PySem.Spec PyProof.Rows
section
variable {X:Cx} {pins:List (Addr × Obj)} {σ:List (Option V)} {H H':Hp} {s:Shared} {h':Heap}
end
end L2
namespace L2
open PySem PySem.Spec PyProof.Rows
section
variable {X:Cx}
variable {a b:Expr} {ta tb:TE} {pos:Pos}
variable {tA tB':TT} {rest:List Expr}
end
end L2
namespace L2
open PySem PySem.Spec PyProof.Rows
section
variable {X:Cx} {pins:List (Addr × Obj)} {σ:St} {H:Hp} {s:Shared} {a:Addr} {xs ys:List V}
end
section
variable {X:Cx} {pins:List (Addr × Obj)} {σ:St} {H:Hp} {s:Shared} {E:Value->Shared->Prop}
end
section
variable {X:Cx} {st:Stmt} {rest:List Stmt} {t u:TS} {e:Expr} {te:TE} {pos:Pos}
end
section
variable {X:Cx} {pos:Pos}
end
section
variable {X:Cx} {pos:Pos}
end
end L2
namespace L2
open PySem PySem.Spec PyProof.Rows
section
variable {X:Cx} {tg:Expr}
end
end L2
namespace L2
open PySem PySem.Spec PyProof.Rows
section
variable {X:Cx} {a b c:Expr} {ta tb tc:TE} {pos:Pos}
end
section
variable {X:Cx} {a b c:Expr} {ta tb tc:TE} {pos:Pos}
end
end L2
namespace L2
open PySem PySem.Spec PyProof.Rows
section
variable {prog:Program} {w:World} {A:Around} {E:Value->Shared->Prop} {s:Shared} {K:PySem.W.Frag} {x dx C f:Addr} {mA:Str->Option Value} {name:Str} {v:Value}
end
section
variable {P:Program} {w:World} {H H':Hp} {h h':Heap} {a C dx:Addr} {fs fs':List (Str × V)}
end
section
variable {X:Cx} {pins:List (Addr × Obj)} {σ:St} {H:Hp} {s:Shared} {a C dx:Addr} {fs:List (Str × V)} {f:Str} {v:V} {A:Around} {E:Value->Shared->Prop}
end
section
variable {X:Cx} {o e value:Expr} {f:Str} {pos pos' tpos:Pos} {ta tv:TE}
end
section
variable {X:Cx} {pins:List (Addr × Obj)} {σ:St} {H:Hp} {s:Shared} {A:Around} {E:Value->Shared->Prop} {Q:Value->Shared->Prop} {c:Value} {b:Bool}
end
end L2
namespace L2
open PySem PySem.Spec PyProof.Rows
section
variable {X:Cx} {e:Expr} {es:List Expr} {te:TE} {t:TA} {pos:Pos}
end
section
variable {X:Cx} {pins:List (Addr × Obj)} {σ:St} {H:Hp} {s s':Shared}
end
section
variable {X:Cx} {CX:CXT} {k:Nat} {f C:Addr} {fd:FuncData} {ps:List Str} {sp:Sp} {dvs:List V} {ds:List Value} {E:XK} {x m:Str} {p pos apos:Pos} {e o:Expr} {es:List Expr} {ta:TE} {t:TA}
end
section
variable {X:Cx} {CX:CXT} {k:Nat} {f C:Addr} {fd:FuncData} {ps ks:List Str} {sp:Sp} {E:XK} {x m:Str} {p pos apos kpos:Pos} {e o:Expr} {es:List Expr} {kws:List Keyword} {te ta:TE} {t tk:TA} {nm:Option Str}
variable {g:List Value->List Value->List Value} {gV:List V->List V->List V}
end
end L2
namespace L2
open PySem PySem.Spec PyProof.Rows
section
variable {X:Cx} {x:Str} {p pos:Pos} {e:Expr} {es:List Expr} {t:TA} {id T:String} {r:List V->Hp->VK->Prop}
end
end L2
namespace L2
open PySem PySem.Spec PyProof.Rows
section
variable {κ:Type} [DecidableEq κ]
def valV (kvs:List (κ × V)) (k:κ):Option V:=(kvs.find? fun kv=>decide (kv.1=k)).map (·.2)
def putK (kvs:List (κ × V)) (k:κ) (v:V):List (κ × V) :=
  if (kvs.any fun kv=>decide (kv.1=k))=true then kvs.map (fun kv=>if kv.1=k then (kv.1,v) else kv) else kvs ++ [(k,v)]
theorem valV_pos {p:κ × V} {r:List (κ × V)} {k:κ} (e:p.1=k):valV (p :: r) k=some p.2:=by simp [valV,List.find?_cons,e]
theorem valV_neg {p:κ × V} {r:List (κ × V)} {k:κ} (e:¬ p.1=k):valV (p :: r) k=valV r k:=by simp [valV,List.find?_cons,e]
theorem valV_any (k:κ):∀ kvs:List (κ × V),(kvs.any fun kv=>decide (kv.1=k))=(valV kvs k).isSome
  | []=>rfl
  | p :: r=>by
    rw [List.any_cons]
    by_cases e:p.1=k
    · simp only [valV_pos e,decide_eq_true e,Bool.true_or,Option.isSome_some]
    · rw [valV_neg e,decide_eq_false e,Bool.false_or];exact valV_any k r
theorem valV_map (k j:κ) (y:V):∀ kvs:List (κ × V),valV (kvs.map fun kv=>if kv.1=k then (kv.1,y) else kv) j=(valV kvs j).map fun x=>if j=k then y else x
  | []=>rfl
  | p :: r=>by
    have ih:=valV_map k j y r
    rw [List.map_cons]
    by_cases h:p.1=k
    · rw [if_pos h]
      by_cases e:p.1=j
      · rw [valV_pos (p:=(p.1,y)) e,valV_pos e,Option.map_some,if_pos (e.symm.trans h)]
      · rw [valV_neg (p:=(p.1,y)) e,valV_neg e,ih]
    · rw [if_neg h]
      by_cases e:p.1=j
      · rw [valV_pos (p:=p) e,valV_pos e,Option.map_some,if_neg (fun z=>h (e.trans z))]
      · rw [valV_neg (p:=p) e,valV_neg e,ih]
theorem valV_snoc (k j:κ) (y:V):∀ kvs:List (κ × V),valV kvs k=none->valV (kvs ++ [(k,y)]) j=if j=k then some y else valV kvs j
  | [],_=>by
    by_cases e:k=j
    · rw [if_pos e.symm];exact valV_pos (p:=(k,y)) e
    · rw [if_neg (fun z=>e z.symm)];exact valV_neg (p:=(k,y)) e
  | p :: r,hn=>by
    rw [List.cons_append]
    have hk:¬ p.1=k:=fun z=>by rw [valV_pos z] at hn;cases hn
    rw [valV_neg hk] at hn
    have ih:=valV_snoc k j y r hn
    by_cases e:p.1=j
    · rw [valV_pos e,valV_pos e,if_neg (fun z=>hk (e.trans z))]
    · rw [valV_neg e,valV_neg e,ih]
theorem valV_put (kvs:List (κ × V)) (k j:κ) (y:V):valV (putK kvs k y) j=if j=k then some y else valV kvs j:=by
  unfold putK
  by_cases a:(kvs.any fun kv=>decide (kv.1=k))=true
  · rw [if_pos a,valV_map]
    rw [valV_any] at a
    by_cases e:j=k
    · obtain ⟨x,hx⟩:=Option.isSome_iff_exists.mp a
      rw [if_pos e,e,hx,Option.map_some,if_pos rfl]
    · rw [if_neg e]
      cases valV kvs j with
      | none=>rfl
      | some x=>rw [Option.map_some,if_neg e]
  · rw [if_neg a]
    refine valV_snoc k j y kvs ?_
    rw [valV_any] at a
    cases q:valV kvs k with
    | none=>rfl
    | some x=>rw [q] at a;exact (a rfl).elim
theorem length_putK (kvs:List (κ × V)) (k:κ) (v:V):(putK kvs k v).length <= kvs.length + 1:=by
  unfold putK
  split
  · rw [List.length_map];omega
  · rw [List.length_append,List.length_cons,List.length_nil];omega
theorem RelO.isSome_eq {o:Option V} {u:Option Value} (r:RelO o u):o.isSome=u.isSome:=by
  cases o with
  | none=>cases u with
    | none=>rfl
    | some _=>exact (show False from r).elim
  | some _=>cases u with
    | none=>exact (show False from r).elim
    | some _=>rfl
theorem KV.val {kvs:List (κ × V)} {vs:List (κ × Value)} (r:KV kvs vs) (k:κ):RelO (valV kvs k) (valueAt vs k):=by
  unfold KV at r
  induction r with
  | nil=>exact True.intro
  | @cons p q ps qs h t ih =>
    obtain ⟨h1,h2⟩:=h
    by_cases e:p.1=k
    · have e':q.1=k:=h1.symm.trans e
      have b:valueAt (q :: qs) k=some q.2:=by simp [valueAt,List.find?_cons,e']
      rw [valV_pos e,b];exact h2
    · have e':¬ q.1=k:=fun z=>e (h1.trans z)
      have b:valueAt (q :: qs) k=valueAt qs k:=by simp [valueAt,List.find?_cons,e']
      rw [valV_neg e,b];exact ih
end
theorem kV_is {P:Program} {w:World} {k:Key} {u:Value} (r:RelV (kV k) u):(mixKind P w).is k u=true:=by
  cases k with
  | inl i=>obtain ⟨t,e⟩:=(show ∃ t,u=Value.int i t from r);subst e;exact mixKind_int P w i t
  | inr x=>obtain ⟨t,e⟩:=(show ∃ t,u=Value.str x t from r);subst e;exact mixKind_str P w x t
theorem items_are {P:Program} {w:World}:∀ {ks:List Key} {us:List Value},Vals (ks.map kV) us->ItemsAre (mixKind P w) ks us
  | [],_,r=>by rw [List.map_nil] at r;cases r;exact .nil
  | k :: ks,_,r=>by
    rw [List.map_cons] at r
    cases r with
    | cons h t=>exact .cons (kV_is h) (items_are t)
abbrev KT (H:Hp):List (List Key × V)->List (List Key × Addr × Value)->Prop:=Paired fun p q=>p.1=q.1/\H q.2.1=some (.tup (p.1.map kV))/\RelV p.2 q.2.2
theorem KT.val {H:Hp} {kvs:List (List Key × V)} {xs:List (List Key × Addr × Value)} (r:KT H kvs xs) (k:List Key):RelO (valV kvs k) ((atKey xs k).map (·.2)):=by
  induction r with
  | nil=>exact True.intro
  | @cons p q ps qs h t ih =>
    obtain ⟨h1,_,h2⟩:=h
    by_cases e:p.1=k
    · have e':q.1=k:=h1.symm.trans e
      have b:atKey (q :: qs) k=some q.2:=by simp [atKey,List.find?_cons,e']
      rw [valV_pos e,b];exact h2
    · have e':¬ q.1=k:=fun z=>e (h1.trans z)
      have b:atKey (q :: qs) k=atKey qs k:=by simp [atKey,List.find?_cons,e']
      rw [valV_neg e,b];exact ih
theorem KT.repl {H:Hp} {kvs:List (List Key × V)} {xs:List (List Key × Addr × Value)} (r:KT H kvs xs) (k:List Key) {y:V} {u:Value} (ry:RelV y u) :
    KT H (kvs.map fun kv=>if kv.1=k then (kv.1,y) else kv) (xs.map (putAt k u)):=by
  induction r with
  | nil=>exact .nil
  | @cons p q ps qs h t ih =>
    rw [List.map_cons,List.map_cons]
    refine .cons ?_ ih
    obtain ⟨h1,h2,h3⟩:=h
    unfold putAt
    by_cases e:p.1=k
    · rw [if_pos e,if_pos (h1.symm.trans e)];exact ⟨h1,h2,ry⟩
    · rw [if_neg e,if_neg (fun z=>e (h1.trans z))];exact ⟨h1,h2,h3⟩
theorem KT.put {H:Hp} {kvs:List (List Key × V)} {xs:List (List Key × Addr × Value)} (r:KT H kvs xs) (k:List Key) {b:Addr} {y:V} {u:Value} (hb:H b=some (.tup (k.map kV))) (ry:RelV y u) :
    KT H (putK kvs k y) (storedH xs k b u):=by
  have e:(kvs.any fun kv=>decide (kv.1=k))=(atKey xs k).isSome:=by
    rw [valV_any,(r.val k).isSome_eq,Option.isSome_map]
  unfold putK storedH
  rw [e]
  by_cases q:(atKey xs k).isSome=true
  · rw [if_pos q,if_pos q];exact r.repl k ry
  · rw [if_neg q,if_neg q];exact Paired.snoc r ⟨rfl,hb,ry⟩
theorem KT.keeps {H H':Hp} {kvs:List (List Key × V)} {xs:List (List Key × Addr × Value)} (r:KT H kvs xs) (ht:∀ b ys,H b=some (.tup ys)->H' b=some (.tup ys)):KT H' kvs xs :=
  Paired.mapP r fun _ _ z=>⟨z.1,ht _ _ z.2.1,z.2.2⟩
section
variable {P:Program} {w:World} {H:Hp} {h:Heap} {a:Addr}
theorem rd_of {u:HO} (ok:HOk P w H h) (e:Rd H a u):ObjOk P w H h a u:=e.ok ok
theorem dk_rd {kvs:List (Key × V)} (ok:HOk P w H h) (e:Rd H a (.dK kvs)):kvs.length <= sizeLine/\(a == sysModules)=false/\∃ vs,KV kvs vs/\h.DictOf (mixKind P w) a vs :=
  show ObjOk P w H h a (.dK kvs) from rd_of ok e
theorem key_of {ks:List Key} (ok:HOk P w H h) (e:H a=some (.tup (ks.map kV))):(tupleKind (mixKind P w)).is h ks a:=by
  obtain ⟨_,its,r,o,h1,h2,n,h3⟩:=(show ObjOk P w H h a (.tup (ks.map kV)) from ok a _ e)
  exact ⟨o,its.toArray,n,h1,h2,h3,by simpa using items_are r⟩
theorem dt_rd {kvs:List (List Key × V)} (ok:HOk P w H h) (e:Rd H a (.dT kvs)):kvs.length <= sizeLine/\(a == sysModules)=false /\
    ∃ xs,KT H kvs xs/\h.DictOfH (tupleKind (mixKind P w)) a xs:=by
  obtain ⟨z,y,xs,r,o,es,ep,h1,h2,h3,h4,h5⟩:=(show ObjOk P w H h a (.dT kvs) from rd_of ok e)
  refine ⟨z,y,xs,r,o,es,ep,h1,h2,h3,h4,fun x hx=>?_,h5⟩
  have all:∀ {l:List (List Key × V)} {m:List (List Key × Addr × Value)},KT H l m->∀ x ∈ m,(tupleKind (mixKind P w)).is h x.1 x.2.1:=by
    intro l m q
    induction q with
    | nil=>intro x hx;exact nomatch hx
    | @cons p q ps qs hq t ih =>
      intro x hx
      rcases List.mem_cons.mp hx with e | hx
      · subst e
        exact key_of ok (by rw [<- hq.1];exact hq.2.1)
      · exact ih x hx
  exact all r x hx
theorem dt_of {kvs:List (List Key × V)} (ok:HOk P w H h) (e:H a=some (.dT kvs)):kvs.length <= sizeLine/\(a == sysModules)=false /\
    ∃ xs,KT H kvs xs/\h.DictOfH (tupleKind (mixKind P w)) a xs:=dt_rd ok (.inl e)
end
def DGet (H:Hp) (a:Addr) (y:V) (r:Option V):Prop :=
  (∃ kvs k,Rd H a (.dK kvs)/\y=kV k/\r=valV kvs k) ∨ ∃ kvs k b,Rd H a (.dT kvs)/\y=.ref b/\H b=some (.tup (k.map kV))/\r=valV kvs k
section
variable {X:Cx} {pins:List (Addr × Obj)} {σ:St} {H:Hp} {s:Shared} {a:Addr} {y v:V} {u r:Value} {o:Option V} {A:Around} {E:Value->Shared->Prop}
theorem Inv.big (I:Inv X pins σ H s):sysModules < s.heap.objs.size:=by
  have h:mainGlobals < s.heap.objs.size:=(I.mod.glob.keeps I.bk).lt
  exact Nat.lt_trans (by decide) h
theorem d_getItem {Q:Value->Shared->Prop} (hu:A.units + 1 < cLine) (I:Inv X pins σ H s) (g:DGet H a y (some v)) (ry:RelV y u) (h:∀ w' s',Inv X pins σ H s'->RelV v w'->Q w' s') :
    wpAny (model X.prog X.w) A (getItem (.ref a) u) Q E s:=by
  rcases g with ⟨kvs,k,e,ey,l⟩ | ⟨kvs,k,b,e,ey,eb,l⟩
  · subst ey
    obtain ⟨z,hd,vs,rel,dd⟩:=dk_rd I.hok e
    obtain ⟨w',hw,rw'⟩:=RelO.some_of (v:=v) (o:=valueAt vs k) (by rw [l];exact rel.val k)
    exact wpAny_getItem_of (kV_is ry) dd.mapOf hw (h w' _ (I.tok _) rw')
  · subst ey
    cases (show u=Value.ref b from ry)
    obtain ⟨z,hd,xs,rel,dd⟩:=dt_rd I.hok e
    obtain ⟨w',hw,rw'⟩:=RelO.some_of (v:=v) (o:=(atKey xs k).map (·.2)) (by rw [l];exact rel.val k)
    obtain ⟨p,hp,hp2⟩:=Option.map_eq_some_iff.mp hw
    refine wpAny_getItem_heap (tupleKind_room_in1 hu) (key_of I.hok eb) dd hp ?_
    rw [hp2]
    exact h w' _ (I.tok _) rw'
theorem d_write {h':Heap} {t':Nat} {ob:HO} (I:Inv X pins σ H s) (mu:Mut (H a)) (hs:Heap.SameBut a s.heap h') (he:∃ q,h'.get? a=some q) (new:ObjOk X.prog X.w (upd H a ob) h' a ob) :
    Inv X pins σ (upd H a ob) { s with heap:=h',toks:=t' } :=
  I.write (x:=a) (e:=a) mu (.inl rfl) (fun b q hb z=>(hs.2 b hb).trans z) he new
end
section
variable {X:Cx} {pins:List (Addr × Obj)} {σ:St} {H:Hp} {s:Shared} {a:Addr} {kvs:List (Key × V)} {k:Key} {u:Value} {A:Around} {E:Value->Shared->Prop}
end
def NoSl (i:Expr):Prop:=∀ ov iv,subscripted i false ov iv=operate [ov,iv] (getItem ov iv)
theorem subD_of {prog:Program} {w:World} {A:Around} {E:Value->Shared->Prop} {s:Shared} {env:Env} {value slice:Expr} {pos:Pos} {T id:String} {Q:Value->Shared->Prop}
    (hl:typeLookup (.type T) "__getitem__"=pure (some (.builtin id))) (hs:NoSl slice)
    (h:wpAny (model prog w) A (eval value env) (fun o s₁=>wpAny (model prog w) A (eval slice env) (fun i s₂=>s₂.TypeIs o T/\wpAny (model prog w) A (getItem o i) Q E s₂) E s₁) E s) :
    wpAny (model prog w) A (eval (.Subscript value slice pos) env) Q E s:=by
  refine Subscript_ (wpAny_mono h (fun o s₁ h₁=>wpAny_mono h₁ (fun i s₂ h₂=>?_) fun _ _ x=>x) fun _ _ x=>x)
  obtain ⟨hT,h₂⟩:=h₂
  unfold subscriptTail
  refine wpAny_bind ?_
  rw [getitemInPython_of_ne hT.not_modules]
  refine wpAny_bind (wpAny_specialOf hT hl ?_)
  have fin:wpAny (model prog w) A (subscripted slice false o i) (fun r s₃=>wpAny (model prog w) A (letTemporaryGo value o r >>= fun _=>pure r) Q E s₃) E s₂:=by
    rw [hs o i]
    exact wpAny_operating (wpAny_mono h₂ (fun r s₃ h₃=>wpAny_bind (wpAny_letTemporaryGo (wpAny_pure h₃))) fun _ _ x=>x)
  first
    | exact wpAny_pure (wpAny_bind fin)
    | exact wpAny_bind (wpAny_pure (wpAny_bind fin))
    | exact wpAny_bind fin
theorem dict_typeIs {X:Cx} {pins:List (Addr × Obj)} {σ:St} {H:Hp} {s:Shared} {a:Addr} {y:V} {o:Option V} (I:Inv X pins σ H s) (g:DGet H a y o):s.TypeIs (.ref a) "dict":=by
  rcases g with ⟨kvs,k,e,_,_⟩ | ⟨kvs,k,b,e,_,_,_⟩
  · obtain ⟨_,_,vs,_,dd⟩:=dk_rd I.hok e
    exact dd.typeIs
  · obtain ⟨_,_,xs,_,dd⟩:=dt_rd I.hok e
    exact dd.typeIs
def tDGet (td ty:TE):TE:=fun σ H Q=>td σ H fun x H1=>ty σ H1 fun y H2=>∃ a v,x=.ref a/\DGet H2 a y (some v)/\Q v H2
section
variable {X:Cx} {o i e value:Expr} {pos pos' tpos:Pos} {td ty tv:TE}
theorem pe_dget (hu:X.A.units + 1 < cLine) (ho:PE X o td) (hi:PE X i ty) (hs:NoSl i):PE X (.Subscript o i pos) (tDGet td ty):=by
  intro pins s σ H Q I h
  refine subD_of PySem.F.slot_dict_getitem.lookup hs (thn (ho pins s σ H _ I h) fun u s1 ⟨x,H1,I1,rx,q1⟩=>thn (hi pins s1 σ H1 _ I1 q1) fun iv s2 ⟨y,H2,I2,ry,a,v,ex,g,q2⟩=>?_)
  subst ex
  obtain rfl:u=Value.ref a:=rx
  exact ⟨dict_typeIs I2 g,d_getItem hu I2 g ry fun w' s3 I3 rw'=>⟨v,H2,I3,rw',q2⟩⟩
end
theorem dt_empty {P:Program} {w:World} {H:Hp} (h:Heap) (hb:sysModules < h.objs.size):ObjOk P w H (h.push { cls:=.type "dict",data:=.dict #[] }) h.objs.size (.dT []) :=
  ⟨Nat.zero_le _,beq_eq_false_iff_ne.mpr (Ne.symm (Nat.ne_of_lt hb)),[],.nil,_,#[],0,Heap.get?_push_size _ rfl,⟨rfl,rfl,rfl⟩,rfl,rfl,List.nodup_nil⟩
section
variable {X:Cx} {pos:Pos}
end
structure M1 (X:Cx) (o:Expr) (m:Str) (apos:Pos) (e:Expr) (cpos:Pos):Prop where
  base:attributeBase o m X.env (eval o X.env)=eval o X.env
  few:((backTo cpos (starEach [e] X.env)).all (fun x=>!x.1) && (backToKw cpos (keywordEach [] X.env)).all (fun x=>x.1.isSome)
    && decide (([e]:List Expr).length + ([]:List Keyword).length + (if ([]:List Keyword).isEmpty then 0 else 1) < 30))=true
  line:(apos.endLine == cpos.line)=true
  trees:backTo cpos (starEach [e] X.env)=[(false,eval e X.env)]
structure M2 (X:Cx) (o:Expr) (m:Str) (apos:Pos) (e f:Expr) (cpos:Pos):Prop where
  base:attributeBase o m X.env (eval o X.env)=eval o X.env
  few:((backTo cpos (starEach [e,f] X.env)).all (fun x=>!x.1) && (backToKw cpos (keywordEach [] X.env)).all (fun x=>x.1.isSome)
    && decide (([e,f]:List Expr).length + ([]:List Keyword).length + (if ([]:List Keyword).isEmpty then 0 else 1) < 30))=true
  line:(apos.endLine == cpos.line)=true
  trees:backTo cpos (starEach [e,f] X.env)=[(false,eval e X.env),(false,eval f X.env)]
section
variable {X:Cx} {pins:List (Addr × Obj)} {σ:St} {H:Hp} {s:Shared} {a:Addr} {y d:V} {u r:Value} {o:Option V} {A:Around} {E:Value->Shared->Prop}
end
section
variable {X:Cx} {o e f:Expr} {apos cpos:Pos} {td ty tx:TE}
end
section
variable {X:Cx} {pins:List (Addr × Obj)} {σ:St} {H:Hp} {s:Shared} {a:Addr} {kvs:List (Key × V)} {A:Around} {E:Value->Shared->Prop}
end
section
variable {X:Cx} {pins:List (Addr × Obj)} {σ:St} {H:Hp} {s:Shared} {a:Addr} {y:V} {u:Value} {A:Around} {E:Value->Shared->Prop}
end
end L2
namespace Att
open PySem PySem.W PySem.Calls PyProof.Rows
section
variable {prog:Program} {w:World} {A:Around} {E:Value->Shared->Prop} {s:Shared} {K:Frag}
end
end Att
namespace L2
open PySem PySem.Spec PyProof.Rows
end L2
namespace L2
open PySem PySem.Spec PyProof.Rows
end L2
namespace L2
open PySem PySem.Spec PyProof.Rows
section
variable {P:Program} {w:World} {K:PySem.W.Frag} {mg:Str->Option Value} {base:Heap}
end
section
variable {X:Cx}
end
section
variable {κ:Type} [DecidableEq κ]
end
end L2
namespace L2
open PySem PySem.Spec PyProof.Rows
section
variable {prog:Program} {w:World} {A:Around} {E:Value->Shared->Prop} {s:Shared}
structure EnT (h:Heap) (e it t:Addr) (k:Nat):Prop where
  en:∃ old,IsEnum h e it k old
  it:h.IsTupleIter it t k
end
section
variable {X:Cx} {pins:List (Addr × Obj)} {σ:St} {H:Hp} {s:Shared}
end
end L2
namespace L2
open PySem PySem.Spec PyProof.Rows
section
variable {prog:Program} {w:World} {A:Around} {E:Value->Shared->Prop} {s:Shared}
end
section
variable {X:Cx} {pins:List (Addr × Obj)} {σ:St} {H:Hp} {s:Shared}
end
end L2
namespace L2
open PySem PySem.Spec PyProof.Rows
section
variable {X:Cx}
end
section
theorem wk2 {σ0:St} (hσ:σ0[0]?=some none/\σ0[1]?=some none) (x y:V):Wk σ0 ((σ0.set 0 (some x)).set 1 (some y)):=by
  refine ⟨by simp,fun j u e=>?_⟩
  by_cases h1:j=1
  · subst h1;rw [hσ.2] at e;cases e
  · rw [List.getElem?_set_ne (Ne.symm h1)]
    by_cases h2:j=0
    · subst h2;rw [hσ.1] at e;cases e
    · rw [List.getElem?_set_ne (Ne.symm h2)];exact e
end
end L2
namespace Mt
def fr (q:Rat):List Int:=[q.num,(q.den:Int)]
def cut (t b:Int):Rat:=mkRat t b.toNat
theorem cut_num {t b:Int} (hb:0 < b):(cut t b).num=t / (Int.gcd t b:Int):=by
  have h:b.toNat ≠ 0:=by omega
  unfold cut
  rw [Rat.mkRat_def,dif_neg h,Rat.num_normalize]
  have e:b.toNat=b.natAbs:=by omega
  rw [e];rfl
theorem cut_den {t b:Int} (hb:0 < b):((cut t b).den:Int)=b / (Int.gcd t b:Int):=by
  have h:b.toNat ≠ 0:=by omega
  unfold cut
  rw [Rat.mkRat_def,dif_neg h,Rat.den_normalize]
  have e:b.toNat=b.natAbs:=by omega
  rw [e,Int.natCast_ediv]
  have e2:((b.natAbs:Nat):Int)=b:=by omega
  rw [e2];rfl
theorem fr_cut {t b:Int} (hb:0 < b):fr (cut t b)=[t / (Int.gcd t b:Int),b / (Int.gcd t b:Int)]:=by
  unfold fr;rw [cut_num hb,cut_den hb]
theorem cut_mul (p q:Rat):cut (p.num * q.num) ((p.den:Int) * (q.den:Int))=p * q:=by
  unfold cut
  rw [Rat.mul_def,Rat.mkRat_def]
  have e:((p.den:Int) * (q.den:Int)).toNat=p.den * q.den:=by rw [<- Int.natCast_mul];rfl
  have hp:=p.den_nz;have hq:=q.den_nz
  have h:p.den * q.den ≠ 0:=Nat.mul_ne_zero hp hq
  rw [dif_neg (by rw [e];exact h)]
  congr 1
theorem cut_zero {c:Int} (hc:0 < c):cut 0 c=0:=by
  unfold cut
  rw [Rat.mkRat_eq_zero (by omega)]
theorem cut_self {c:Int} (hc:0 < c):cut c c=1:=by
  unfold cut
  have h:c.toNat ≠ 0:=by omega
  have e:((c.toNat:Nat):Int)=c:=by omega
  have:mkRat c c.toNat=mkRat 1 1:=by
    rw [Rat.mkRat_eq_iff h (by decide),e];grind
  rw [this];rfl
theorem fr_inj {p q:Rat} (h:fr p=fr q):p=q:=by
  unfold fr at h
  simp only [List.cons.injEq,and_true] at h
  exact Rat.ext h.1 (by omega)
structure Bd (n:Nat) (q:Rat):Prop where
  num:q.num.natAbs <= 2 ^ n
  den:q.den <= 2 ^ n
theorem natAbs_ediv_le (a:Int) (g:Nat):(a / (g:Int)).natAbs <= a.natAbs:=by
  rcases Nat.eq_zero_or_pos g with h | h
  · subst h;simp
  · have h0:(0:Int) < g:=by omega
    rcases Int.le_total 0 a with ha | ha
    · have h1:0 <= a / (g:Int):=Int.ediv_nonneg ha (by omega)
      have h2:a / (g:Int) <= a:=Int.ediv_le_self _ ha
      omega
    · have h1:a <= a / (g:Int):=by
        rw [Int.le_ediv_iff_mul_le h0]
        have:a * (g:Int) <= a * 1:=Int.mul_le_mul_of_nonpos_left ha (by omega)
        omega
      have h2:a / (g:Int) <= 0:=by
        have:=Int.ediv_le_ediv h0 ha
        simpa using this
      omega
theorem Bd.cut {t b:Int} {n:Nat} (hb:0 < b) (h1:t.natAbs <= 2 ^ n) (h2:b.natAbs <= 2 ^ n):Bd n (Mt.cut t b):=by
  refine ⟨?_,?_⟩
  · rw [cut_num hb];exact Nat.le_trans (natAbs_ediv_le _ _) h1
  · have:=cut_den (t:=t) hb
    have l:=natAbs_ediv_le b (Int.gcd t b)
    omega
theorem Bd.mul {n m:Nat} {p q:Rat} (a:Bd n p) (b:Bd m q):Bd (n + m) (p * q):=by
  have hp:=p.den_nz;have hq:=q.den_nz
  rw [<- cut_mul]
  refine Bd.cut ?_ ?_ ?_
  · have:=Nat.mul_pos (Nat.pos_of_ne_zero hp) (Nat.pos_of_ne_zero hq)
    rw [<- Int.natCast_mul];omega
  · rw [Int.natAbs_mul,Nat.pow_add];exact Nat.mul_le_mul a.num b.num
  · rw [Int.natAbs_mul,Nat.pow_add];exact Nat.mul_le_mul a.den b.den
theorem Bd.one:Bd 0 1:=⟨by decide,by decide⟩
def addL:List Int->List Int->List Int:=List.zipWith (· + ·)
def share (ns:List Int) (k:Nat):Rat:=cut (ns.getD k 0) ns.sum
def fol (rs:List (List Int)):List Int->List Nat->Rat × Option (List Int)
  | ns,[]=>(1,some ns)
  | ns,k :: ds=>if ns.getD k 0=0 then (0,none) else (share ns k * (fol rs (addL ns (rs.getD k [])) ds).1,(fol rs (addL ns (rs.getD k [])) ds).2)
theorem fol_nil (rs:List (List Int)) (ns:List Int):fol rs ns []=(1,some ns):=rfl
theorem fol_cons (rs:List (List Int)) (ns:List Int) (k:Nat) (ds:List Nat) :
    fol rs ns (k :: ds)=if ns.getD k 0=0 then (0,none) else (share ns k * (fol rs (addL ns (rs.getD k [])) ds).1,(fol rs (addL ns (rs.getD k [])) ds).2):=rfl
structure Urn (n m:Nat) (ns:List Int):Prop where
  len:ns.length=n
  nn:∀ x ∈ ns,0 <= x/\x <= m
  pos:0 < ns.sum
structure Row (n m:Nat) (r:List Int):Prop where
  len:r.length=n
  nn:∀ x ∈ r,0 <= x/\x <= m
structure Rul (n m:Nat) (rs:List (List Int)):Prop where
  len:rs.length=n
  row:∀ r ∈ rs,Row n m r
theorem Rul.at {n m:Nat} {rs:List (List Int)} (h:Rul n m rs) {k:Nat} (hk:k < n):Row n m (rs.getD k []):=by
  have hk':k < rs.length:=by rw [h.len];exact hk
  have:rs.getD k []=rs[k]:=by rw [List.getD_eq_getElem?_getD,List.getElem?_eq_getElem hk'];rfl
  rw [this];exact h.row _ (List.getElem_mem hk')
theorem sum_nonneg:∀ {l:List Int},(∀ x ∈ l,0 <= x)->0 <= l.sum
  | [],_=>by simp
  | a :: l,h=>by
    rw [List.sum_cons]
    have h1:=h a List.mem_cons_self
    have h2:=sum_nonneg fun x hx=>h x (List.mem_cons_of_mem _ hx)
    omega
theorem sum_le {m:Int}:∀ {l:List Int},(∀ x ∈ l,x <= m)->l.sum <= m * (l.length:Int)
  | [],_=>by simp
  | a :: l,h=>by
    rw [List.sum_cons,List.length_cons]
    have h1:=h a List.mem_cons_self
    have h2:=sum_le fun x hx=>h x (List.mem_cons_of_mem _ hx)
    have e:m * ((l.length + 1:Nat):Int)=m * (l.length:Int) + m:=by rw [Int.natCast_add,Int.mul_add];simp
    omega
theorem addL_sum:∀ {a b:List Int},a.length=b.length->(addL a b).sum=a.sum + b.sum
  | [],[],_=>by simp [addL]
  | x :: a,y :: b,h=>by
    have ih:=addL_sum (a:=a) (b:=b) (by simpa using h)
    show ((x + y) :: addL a b).sum=_
    rw [List.sum_cons,List.sum_cons,List.sum_cons,ih];omega
  | [],_ :: _,h=>by simp at h
  | _ :: _,[],h=>by simp at h
theorem addL_mem:∀ {a b:List Int} {x:Int},x ∈ addL a b->∃ y ∈ a,∃ z ∈ b,x=y + z
  | [],b,x,h=>by simp [addL] at h
  | _ :: _,[],x,h=>by simp [addL] at h
  | p :: a,q :: b,x,h=>by
    rcases List.mem_cons.mp (show x ∈ (p + q) :: addL a b from h) with e | h
    · exact ⟨p,List.mem_cons_self,q,List.mem_cons_self,e⟩
    · obtain ⟨y,hy,z,hz,e⟩:=addL_mem h
      exact ⟨y,List.mem_cons_of_mem _ hy,z,List.mem_cons_of_mem _ hz,e⟩
theorem Urn.add {n m j:Nat} {ns r:List Int} (h:Urn n m ns) (hr:Row n j r):Urn n (m + j) (addL ns r):=by
  have hl:ns.length=r.length:=by rw [h.len,hr.len]
  refine ⟨?_,fun x hx=>?_,?_⟩
  · unfold addL;rw [List.length_zipWith,h.len,hr.len];omega
  · obtain ⟨y,hy,z,hz,e⟩:=addL_mem hx
    have:=h.nn y hy;have:=hr.nn z hz;omega
  · rw [addL_sum hl]
    have:=sum_nonneg (l:=r) fun x hx=>(hr.nn x hx).1
    have:=h.pos;omega
theorem Urn.getD {n m:Nat} {ns:List Int} (h:Urn n m ns) (k:Nat):0 <= ns.getD k 0/\ns.getD k 0 <= m:=by
  rw [List.getD_eq_getElem?_getD]
  cases e:ns[k]? with
  | none=>simp
  | some x=>exact h.nn x (List.mem_of_getElem? e)
end Mt
namespace Md
open PySem PySem.Spec L2 Mt
def kI (ns:List Int):List Key:=ns.map Sum.inl
theorem kI_kV (ns:List Int):(kI ns).map kV=ns.map V.int:=by
  unfold kI;rw [List.map_map];rfl
def dl (k:List Int):List Int->Int:=fun k'=>if k'=k then 1 else 0
def comb (rs:List (List Int)) (i:Nat):List Int->Nat->Int
  | [],_=>0
  | c :: cs,j=>c * (rs.getD j []).getD i 0 + comb rs i cs (j + 1)
def beh (u:List Int) (rs:List (List Int)) (c:List Int):List Int:=(List.range u.length).map fun i=>u.getD i 0 + comb rs i c 0
def inc (c:List Int) (i:Nat):List Int:=c.set i (c.getD i 0 + 1)
theorem comb_inc (rs:List (List Int)) (i:Nat):∀ (c:List Int) (j k:Nat),k < c.length->comb rs i (inc c k) j=comb rs i c j + (rs.getD (j + k) []).getD i 0
  | [],_,_,h=>by simp at h
  | x :: c,j,0,_=>by
    show (x + 1) * _ + comb rs i c (j + 1)=x * _ + comb rs i c (j + 1) + _
    rw [Int.add_mul];simp;omega
  | x :: c,j,k + 1,h=>by
    have ih:=comb_inc rs i c (j + 1) k (by simpa using h)
    show x * _ + comb rs i (inc c k) (j + 1)=x * _ + comb rs i c (j + 1) + _
    rw [ih,show j + 1 + k=j + (k + 1) by omega];omega
theorem beh_inc {n:Nat} {u c:List Int} {rs:List (List Int)} {k:Nat} (hu:u.length=n) (hc:c.length=n) (hR:Rul n 5 rs) (hk:k < n):beh u rs (inc c k)=addL (beh u rs c) (rs.getD k []):=by
  have hr:=hR.at hk
  have l1:(beh u rs c).length=n:=by unfold beh;simp [hu]
  apply List.ext_getElem?
  intro i
  unfold addL
  rw [List.getElem?_zipWith]
  unfold beh
  rw [List.getElem?_map,List.getElem?_map]
  by_cases hi:i < n
  · rw [List.getElem?_range (by omega)]
    rw [List.getElem?_eq_getElem (l:=rs.getD k []) (by rw [hr.len];exact hi)]
    simp only [Option.map_some]
    rw [comb_inc rs i c 0 k (by omega),Nat.zero_add]
    congr 1
    rw [show (rs.getD k []).getD i 0=(rs.getD k [])[i]'(by rw [hr.len];exact hi) by rw [List.getD_eq_getElem?_getD (l:=rs.getD k []),List.getElem?_eq_getElem (by rw [hr.len];exact hi)];rfl]
    omega
  · rw [List.getElem?_eq_none (by simp;omega)]
    simp
theorem comb_zero (rs:List (List Int)) (i:Nat):∀ (n j:Nat),comb rs i (List.replicate n 0) j=0
  | 0,_=>rfl
  | n + 1,j=>by
    show (0:Int) * _ + comb rs i (List.replicate n 0) (j + 1)=0
    rw [comb_zero rs i n (j + 1)];omega
theorem beh_zero (u:List Int) (rs:List (List Int)) (n:Nat):beh u rs (List.replicate n 0)=u:=by
  unfold beh
  apply List.ext_getElem?
  intro i
  rw [List.getElem?_map]
  by_cases hi:i < u.length
  · rw [List.getElem?_range hi,Option.map_some,comb_zero,List.getD_eq_getElem?_getD,List.getElem?_eq_getElem hi];simp
  · rw [List.getElem?_eq_none (by simp;omega),List.getElem?_eq_none (by omega)];rfl
theorem inc_ok {n m:Nat} {c:List Int} {i:Nat} (h:c.length=n/\∀ b ∈ c,0 <= b/\b <= (m:Int)) (hi:i < n):(inc c i).length=n/\∀ b ∈ inc c i,0 <= b/\b <= ((m + 1:Nat):Int):=by
  unfold inc
  refine ⟨by rw [List.length_set];exact h.1,fun b hb=>?_⟩
  rcases List.mem_or_eq_of_mem_set hb with e | e
  · have:=h.2 b e;omega
  · have hi':i < c.length:=by omega
    have:=h.2 c[i] (List.getElem_mem hi')
    rw [List.getD_eq_getElem?_getD,List.getElem?_eq_getElem hi'] at e
    simp at e
    omega
end Md
namespace L2
open PySem PySem.Spec PyProof.Rows
theorem _root_.PySem.Heap.IsList.at' {h h':Heap} {a:Addr} {items:Array Value} (x:h.IsList a items) (e:∀ o,h.get? a=some o->h'.get? a=some o):h'.IsList a items:=let ⟨o,ho,r⟩:=x;⟨o,e _ ho,r⟩
section
variable {prog:Program} {w:World} {A:Around} {E:Value->Shared->Prop} {s:Shared}
theorem _root_.PySem.Heap.IsList.lt' {h:Heap} {a:Addr} {items:Array Value} (x:h.IsList a items):a < h.objs.size:=let ⟨_,ho,_⟩:=x;Heap.lt_size ho
structure ZipL (h:Heap) (z TI TO i1 i2 t1 t2:Addr) (k:Nat):Prop where
  zz:IsZip h z TI TO .none
  ti:IsPair h TI (.ref i1) (.ref i2)
  tO:∃ a b,IsPair h TO a b
  it1:h.IsListIter i1 t1 k
  it2:h.IsTupleIter i2 t2 k
theorem zipL_item {z TI TO i1 i2 t1 t2:Addr} {xs ys:Array Value} {k:Nat} {x y:Value} {Q:Option Value->Shared->Prop} (D:ZipD z TI TO i1 i2 t1 t2) (Z:ZipL s.heap z TI TO i1 i2 t1 t2 k) (hl1:s.heap.IsList t1 xs) (hl2:s.heap.IsTuple t2 ys)
    (hx:xs[k]?=some x) (hy:ys[k]?=some y)
    (hQ:∀ h',IsZip h' z TI TO (rawInt s.heap.objs.size)->IsPair h' TO x y->h'.IsListIter i1 t1 (k + 1)->h'.IsTupleIter i2 t2 (k + 1)->IsPair h' s.heap.objs.size x y->h'.objs.size=s.heap.objs.size + 1 ->
      (∀ c o,c ∉ [z,TO,i1,i2]->s.heap.get? c=some o->h'.get? c=some o)->Q (some (.ref s.heap.objs.size)) { s with heap:=h' }) :
    wpAny (model prog w) A (pyNext (.ref z)) Q E s:=by
  obtain ⟨hz,hTI,⟨a,b,hTO⟩,h1,h2⟩:=Z
  have hT:s.TypeIs (.ref z) "zip":=⟨_,hz,rfl⟩
  unfold pyNext
  refine wpAny_bind (wpAny_attempt (wpAny_callSpecial?_slot (name:=Str.ofString "__next__") hT F.slot_zip_next (wpAny_call_entry F.slot_zip_next hT F.entry_zip_next ?_ (F.args_zip_next_1 _))))
  show wpAny _ _ (field (.ref z) 2 >>= _) _ _ _
  refine wpAny_bind (wpAny_field hz rfl (x:=.bool false) rfl ?_)
  show wpAny _ _ (field (.ref z) 3 >>= _) _ _ _
  refine wpAny_bind (wpAny_field hz rfl (x:=.ref TI) rfl (wpAny_bind (wpAny_seqItems hTI rfl ?_)))
  show wpAny _ _ (Builtin.SmallTypes.ownedTupleIsFree (.ref z) >>= _) _ _ _
  refine wpAny_bind ?_
  unfold Builtin.SmallTypes.ownedTupleIsFree
  refine wpAny_bind (wpAny_field hz rfl (x:=.none) rfl (wpAny_pure ?_))
  simp only [if_true]
  refine wpAny_bind (wpAny_rule (wpAny_bind (wpAny_field hz rfl (x:=.ref TO) rfl (wpAny_bind (wpAny_setField_rec hz (by simp) fun g1 z1 s1=>?_)))))
  replace z1:IsZip g1 z TI TO .ellipsis:=z1
  refine wpAny_bind ?_
  simp only [List.zipIdx_cons,List.zipIdx_nil,List.forIn_cons,List.forIn_nil]
  refine wpAny_bind (wpAny_bind (wpAny_onRaise ?_))
  show wpAny _ _ (Builtin.SmallTypes.nextOf (.ref i1) >>= _) _ _ _
  refine wpAny_bind (wpAny_nextOf_list_item (h1.at fun o e=>s1.extBut _ o D.a3 e) (hl1.at' fun o e=>s1.extBut _ o D.e1 e) hx fun g2 j1 s2=>wpAny_pure ?_)
  have o2:IsPair g2 TO a b:=s2.extBut _ _ D.c1 (s1.extBut _ _ D.a2 hTO)
  refine wpAny_bind (wpAny_seqItems o2 rfl (wpAny_bind (wpAny_updateSeq_pair o2 fun g3 o3 s3=>?_)))
  replace o3:IsPair g3 TO x b:=o3
  refine wpAny_bind (wpAny_letGo (wpAny_pure (wpAny_bind (wpAny_bind (wpAny_onRaise ?_)))))
  show wpAny _ _ (Builtin.SmallTypes.nextOf (.ref i2) >>= _) _ _ _
  refine wpAny_bind (nextT_item (h2.at fun o e=>s3.extBut _ o D.c2.symm (s2.extBut _ o D.d1.symm (s1.extBut _ o D.a4 e))) (hl2.at fun o e=>s3.extBut _ o D.f2 (s2.extBut _ o D.f3 (s1.extBut _ o D.f1 e))) hy fun g4 j2 s4=>wpAny_pure ?_)
  have o4:IsPair g4 TO x b:=s4.extBut _ _ D.c2 o3
  refine wpAny_bind (wpAny_seqItems o4 rfl (wpAny_bind (wpAny_updateSeq_pair o4 fun g5 o5 s5=>?_)))
  replace o5:IsPair g5 TO x y:=o5
  refine wpAny_bind (wpAny_letGo (wpAny_pure (wpAny_pure ?_)))
  refine wpAny_bind (wpAny_seqItems o5 rfl (wpAny_bind (wpAny_newTuple ?_)))
  have hsz:g5.objs.size=s.heap.objs.size:=by rw [s5.1,s4.1,s3.1,s2.1,s1.1]
  have z5:IsZip g5 z TI TO .ellipsis:=s5.extBut _ _ D.a2.symm (s4.extBut _ _ D.a4.symm (s3.extBut _ _ D.a2.symm (s2.extBut _ _ D.a3.symm z1)))
  have k5:∀ c o,c ∉ [z,TO,i1,i2]->s.heap.get? c=some o->g5.get? c=some o:=fun c o hc e=>by
    simp only [List.mem_cons,List.not_mem_nil,or_false,not_or] at hc
    exact s5.extBut _ _ hc.2.1 (s4.extBut _ _ hc.2.2.2 (s3.extBut _ _ hc.2.1 (s2.extBut _ _ hc.2.2.1 (s1.extBut _ _ hc.1 e))))
  have m1:g5.IsListIter i1 t1 (k + 1):=j1.at fun o e=>s5.extBut _ o D.c1.symm (s4.extBut _ o D.d1 (s3.extBut _ o D.c1.symm e))
  have m2:g5.IsTupleIter i2 t2 (k + 1):=j2.at fun o e=>s5.extBut _ o D.c2.symm e
  show wpAny _ _ (Builtin.SmallTypes.ownedTupleHandOut (.ref z) (.ref g5.objs.size) >>= _) _ _ _
  refine wpAny_bind ?_
  unfold Builtin.SmallTypes.ownedTupleHandOut
  have z6:IsZip (g5.push { cls:=.type "tuple",data:=.seq #[x,y] }) z TI TO .ellipsis:=Heap.get?_push_of_some _ z5
  refine wpAny_bind (wpAny_setField_rec z6 (by simp) fun g7 z7 s7=>?_)
  replace z7:IsZip g7 z TI TO (rawInt g5.objs.size):=z7
  refine wpAny_setField_rec z7 (by simp) fun g8 z8 s8=>?_
  replace z8:IsZip g8 z TI TO (rawInt g5.objs.size):=z8
  have up:∀ c o,c ≠ z->g5.get? c=some o->g8.get? c=some o:=fun c o hc e=>s8.extBut _ _ hc (s7.extBut _ _ hc (Heap.get?_push_of_some _ e))
  have new8:IsPair g8 g5.objs.size x y:=s8.extBut _ _ (Nat.ne_of_gt (Heap.lt_size z5)) (s7.extBut _ _ (Nat.ne_of_gt (Heap.lt_size z5)) (Heap.get?_push_size _ rfl))
  have size8:g8.objs.size=g5.objs.size + 1:=by rw [s8.1,s7.1,Heap.size_push]
  rw [hsz] at z8 new8 size8
  refine wpAny_pure ⟨_,rfl,wpAny_pure ?_⟩
  show Q (some (.ref g5.objs.size)) _
  rw [hsz]
  exact hQ g8 z8 (up _ _ D.a2 o5) (m1.at fun o e=>up _ o D.a3 e) (m2.at fun o e=>up _ o D.a4 e) new8 size8 fun c o hc e=>up c o (fun q=>hc (by simp [q])) (k5 c o hc e)
theorem zipL_end {z TI TO i1 i2 t1 t2:Addr} {xs:Array Value} {k:Nat} {Q:Option Value->Shared->Prop} (hh:A.handled=none) (D:ZipD z TI TO i1 i2 t1 t2) (Z:ZipL s.heap z TI TO i1 i2 t1 t2 k) (hl1:s.heap.IsList t1 xs)
    (hx:xs[k]?=none) (hQ:∀ h',(∀ c o,c ∉ [z,TO,i1,i2]->s.heap.get? c=some o->h'.get? c=some o)->Q none { s with heap:=h' }):wpAny (model prog w) A (pyNext (.ref z)) Q E s:=by
  obtain ⟨hz,hTI,⟨a,b,hTO⟩,h1,h2⟩:=Z
  have hT:s.TypeIs (.ref z) "zip":=⟨_,hz,rfl⟩
  unfold pyNext
  refine wpAny_bind (wpAny_attempt (wpAny_callSpecial?_slot (name:=Str.ofString "__next__") hT F.slot_zip_next (wpAny_call_entry F.slot_zip_next hT F.entry_zip_next ?_ (F.args_zip_next_1 _))))
  show wpAny _ _ (field (.ref z) 2 >>= _) _ _ _
  refine wpAny_bind (wpAny_field hz rfl (x:=.bool false) rfl ?_)
  show wpAny _ _ (field (.ref z) 3 >>= _) _ _ _
  refine wpAny_bind (wpAny_field hz rfl (x:=.ref TI) rfl (wpAny_bind (wpAny_seqItems hTI rfl ?_)))
  show wpAny _ _ (Builtin.SmallTypes.ownedTupleIsFree (.ref z) >>= _) _ _ _
  refine wpAny_bind ?_
  unfold Builtin.SmallTypes.ownedTupleIsFree
  refine wpAny_bind (wpAny_field hz rfl (x:=.none) rfl (wpAny_pure ?_))
  simp only [if_true]
  refine wpAny_bind (wpAny_rule (wpAny_bind (wpAny_field hz rfl (x:=.ref TO) rfl (wpAny_bind (wpAny_setField_rec hz (by simp) fun g1 z1 s1=>?_)))))
  replace z1:IsZip g1 z TI TO .ellipsis:=z1
  refine wpAny_bind ?_
  simp only [List.zipIdx_cons,List.zipIdx_nil,List.forIn_cons,List.forIn_nil]
  refine wpAny_bind (wpAny_bind (wpAny_onRaise ?_))
  show wpAny _ _ (Builtin.SmallTypes.nextOf (.ref i1) >>= _) _ _ _
  refine wpAny_bind (wpAny_nextOf_list_end hh (h1.at fun o e=>s1.extBut _ o D.a3 e) (hl1.at' fun o e=>s1.extBut _ o D.e1 e) hx fun g2 e s2 he=>?_)
  obtain ⟨oe,hoe,hce⟩:=he
  have z2:IsZip g2 z TI TO .ellipsis:=s2 _ _ D.a3.symm z1
  have hez:e ≠ z:=fun q=>by subst q;rw [z2] at hoe;cases hoe;simp at hce
  refine wpAny_setField_rec z2 (by simp) fun g3 _ s3=>?_
  refine wpAny_bind (wpAny_isInstance (T:="StopIteration") (b:=true) ⟨oe,s3.extBut _ _ hez hoe,hce⟩ isSubtype_stop (wpAny_pure (hQ g3 fun c o hc q=>?_)))
  simp only [List.mem_cons,List.not_mem_nil,or_false,not_or] at hc
  exact s3.extBut _ _ hc.1 (s2 _ _ hc.2.2.1 (s1.extBut _ _ hc.1 q))
abbrev lit (t:Addr):Obj:={ cls:=.type "list_iterator",data:=.fields #[.ref t,.int 0 0] }
abbrev zipHpL (h:Heap) (t1 t2:Addr):Heap:=((((h.push (lit t1)).push (tit t2)).push (tpr (.ref h.objs.size) (.ref (h.objs.size + 1)))).push (tpr .none .none)).push (zob (h.objs.size + 2) (h.objs.size + 3))
theorem zip_newL (t1 t2:Addr) (xs ys:Array Value) :
    Meets (Builtin.«zip.__new__» ⟨[.type "zip",.ref t1,.ref t2],[]⟩) (fun _ R s=>s.heap.IsList t1 xs/\s.heap.IsTuple t2 ys/\R (.ok (.ret (.ref (s.heap.objs.size + 4)))) { s with heap:=zipHpL s.heap t1 t2 }) :=
  .of_wp fun prog w A R s h=>by
    obtain ⟨hp,g,d,tk,os⟩:=s;obtain ⟨hl1,hl2,h⟩:=h
    have hsub:=sub_zip
    have hL1:Heap.IsList (Shared.heap ⟨hp,g,d,tk,os⟩) t1 xs:=hl1
    have hL2:Heap.IsTuple (Shared.heap ⟨hp.push (lit t1),g,d,tk,os⟩) t2 ys:=Heap.IsTuple.push hl2 _
    wp_walk using wpAny_pyIter_list hL1,wpAny_pyIter_tuple hL2
    simp only [Heap.size_push]
    exact ⟨_,rfl,h⟩
theorem call_zipL {t1 t2:Addr} {xs ys:Array Value} {Q:Value->Shared->Prop} (hl1:s.heap.IsList t1 xs) (hl2:s.heap.IsTuple t2 ys)
    (h:∀ h',ZipL h' (s.heap.objs.size + 4) (s.heap.objs.size + 2) (s.heap.objs.size + 3) s.heap.objs.size (s.heap.objs.size + 1) t1 t2 0->(∀ c o,s.heap.get? c=some o->h'.get? c=some o)->h'.objs.size=s.heap.objs.size + 5 ->
      Q (.ref (s.heap.objs.size + 4)) { s with heap:=h' }):wpAny (model prog w) A (call (.type "zip") [.ref t1,.ref t2]) Q E s:=by
  refine callType_new F.called_zip (by decide) (F.typeCall_zip_2 _ _) (F.newCall_zip_2 _ _) (fun obj=>F.args_object_init_3 obj _ _) F.entry_zip_new (zip_newL t1 t2 xs ys) ⟨hl1,hl2,?_⟩
  have up:∀ {b:Addr} {o:Obj} (h0:Heap) (x:Obj),h0.get? b=some o->(h0.push x).get? b=some o:=fun _ _ e=>Heap.get?_push_of_some _ e
  have here:∀ (h0:Heap) (x:Obj) (n:Nat),x.isFreed=false->h0.objs.size=n->(h0.push x).get? n=some x:=fun h0 x n hf e=>by subst e;exact Heap.get?_push_size _ hf
  have Z:ZipL (zipHpL s.heap t1 t2) (s.heap.objs.size + 4) (s.heap.objs.size + 2) (s.heap.objs.size + 3) s.heap.objs.size (s.heap.objs.size + 1) t1 t2 0 :=
    ⟨here _ _ _ rfl (by simp only [Heap.size_push]),up _ _ (up _ _ (here _ _ _ rfl (by simp only [Heap.size_push]))),⟨_,_,up _ _ (here _ _ _ rfl (by simp only [Heap.size_push]))⟩,
      ⟨_,up _ _ (up _ _ (up _ _ (up _ _ (here _ _ _ rfl rfl)))),rfl,rfl⟩,⟨_,up _ _ (up _ _ (up _ _ (here _ _ _ rfl (by simp only [Heap.size_push])))),rfl,rfl⟩⟩
  exact ⟨⟨_,Z.zz,rfl⟩,h _ Z (fun c o e=>up _ _ (up _ _ (up _ _ (up _ _ (up _ _ e))))) (by simp only [Heap.size_push])⟩
end
section
variable {X:Cx} {pins:List (Addr × Obj)} {σ:St} {H:Hp} {s:Shared}
def ItzL (K:PySem.W.Frag) (a b:Addr):It :=
  ⟨fun i H=>∃ xs ys x y,SqL K H a xs/\SqT K H b ys/\xs[i]?=some x/\ys[i]?=some y,fun i H v H'=>∃ p x y,H p=none/\v=.ref p/\H'=upd H p (.tup [x,y])/\(∀ xs,SqL K H a xs->xs[i]?=some x)/\∀ ys,SqT K H b ys->ys[i]?=some y,
    fun i H=>∃ xs,SqL K H a xs/\xs.length <= i⟩
theorem turn_zipL {P:Program} {w:World} {K:PySem.W.Frag} {es:List Expr} {kk:Nat} {pos:Pos} {a b z TI TO i1 i2:Addr} (D:ZipD z TI TO i1 i2 a b) :
    Turn P w K (.Tuple es kk pos) (ItzL K a b) [z,TI,TO,i1,i2] z (fun i h=>ZipL h z TI TO i1 i2 a b i) where
  mem:=by simp
  obj:=fun i h st c hc=>by
    obtain ⟨hz,hTI,⟨_,_,hTO⟩,⟨_,h1,_,d1⟩,⟨_,h2,_,d2⟩⟩:=st
    simp only [List.mem_cons,List.not_mem_nil,or_false] at hc
    rcases hc with rfl | rfl | rfl | rfl | rfl
    · exact ⟨_,hz,fun v q=>by cases q⟩
    · exact ⟨_,hTI,fun v q=>by cases q⟩
    · exact ⟨_,hTO,fun v q=>by cases q⟩
    · exact ⟨_,h1,fun v q=>by rw [d1] at q;cases q⟩
    · exact ⟨_,h2,fun v q=>by rw [d2] at q;cases q⟩
  keep:=fun i h h' st k=>by
    obtain ⟨hz,hTI,⟨_,_,hTO⟩,h1,h2⟩:=st
    exact ⟨k _ (by simp) _ hz,k _ (by simp) _ hTI,⟨_,_,k _ (by simp) _ hTO⟩,h1.at fun o e=>k _ (by simp) o e,h2.at fun o e=>k _ (by simp) o e⟩
  item:=by
    intro X hP hw hK hc i pins s σ H E I hf st hg
    subst hP hw hK
    obtain ⟨xs,ys,x,y,ha,hb,hx,hy⟩:=hg
    obtain ⟨its,r1,p1,_⟩:=I.list ha
    obtain ⟨its2,r2,p2,_⟩:=I.tuple hb
    obtain ⟨u,hu,ru⟩:=r1.get hx
    obtain ⟨v,hv,rv⟩:=r2.get hy
    refine zipL_item D st (show s.heap.IsList a its.toArray from p1.isList) (show s.heap.IsTuple b its2.toArray from p2) (x:=u) (y:=v) (by simpa using hu) (by simpa using hv) fun h' z1 o1 j1 j2 new sz keep=>?_
    refine ⟨_,rfl,wpAny_letOwnedTupleGo_zip (s:={ s with heap:=h' }) z1 fun h2 z2 sb=>?_⟩
    have hn:H s.heap.objs.size=none:=I.hok.fresh (Nat.le_refl _)
    have zlt:z < s.heap.objs.size:=Heap.lt_size st.zz
    have k2:∀ c o,c ∉ [z,TI,TO,i1,i2]->s.heap.get? c=some o->h2.get? c=some o:=fun c o hc e=>by
      simp only [List.mem_cons,List.not_mem_nil,or_false,not_or] at hc
      exact sb.extBut _ _ hc.1 (keep c o (by simp only [List.mem_cons,List.not_mem_nil,or_false,not_or];exact ⟨hc.1,hc.2.2.1,hc.2.2.2.1,hc.2.2.2.2⟩) e)
    have e0:h2.get? s.heap.objs.size=some { cls:=.type "tuple",data:=.seq #[u,v] }:=sb.extBut _ _ (Nat.ne_of_gt zlt) new
    have pne:∀ c o,s.heap.get? c=some o->c ≠ s.heap.objs.size:=fun c o e=>Nat.ne_of_lt (Heap.lt_size e)
    have nit:∀ c u,H c=some u->c ∉ [z,TI,TO,i1,i2]:=fun c u e q=>by rw [(hf c q).1] at e;cases e
    have hok:HOk X.prog X.w (upd H s.heap.objs.size (.tup [x,y])) h2:=fun c ob e=>by
      by_cases hq:c=s.heap.objs.size
      · subst hq
        rw [upd_same] at e;cases e
        exact ⟨by show 2 <= sizeLine;decide,[u,v],.cons ru (.cons rv .nil),⟨_,e0,rfl,_,rfl⟩⟩
      · rw [upd_ne hq] at e
        refine (I.hok c ob e).stay (fun d w' hd q=>k2 d w' ?_ q) (fun d q=>by rw [upd_ne (ne_of_none q hn)];exact q) fun d xs q=>by rw [upd_ne (ne_of_none q hn)];exact q
        rcases hd with rfl | hd
        · exact nit d ob e
        · exact nit d _ hd
    have I2:Inv X pins σ (upd H s.heap.objs.size (.tup [x,y])) { s with heap:=h2 }:=by
      refine I.step (g':=s.gens) (d':=s.drawn) (t':=s.toks) (ch:=[z,TI,TO,i1,i2]) (fun c hc=>⟨(hf c hc).2.2.2.1,(hf c hc).2.1,(hf c hc).2.2.2.2.1,(hf c hc).2.2.2.2.2⟩) (fun c o _ _ hc e _=>k2 c o hc e) (fun c o _ _ hc e _=>⟨o.slots,k2 c o hc e⟩)
        (fun c o _ e n=>by rw [upd_ne (pne c o e)];exact n) (fun c o hc e=>⟨o,k2 c o hc e⟩) (fun c xs e=>by rw [upd_ne (ne_of_none e hn)];exact e) (fun c o u e=>by rw [upd_ne (ne_of_none e hn)];exact e) (fun c ps e=>⟨#[],by rw [upd_ne (ne_of_none e hn),e];simp⟩) (fun m hm=>?_) hok I.bare
      obtain ⟨o,es,ep,ho,r⟩:=hm
      exact ⟨o,es,ep,k2 _ o (fun q=>(hf _ q).2.1 rfl) ho,r⟩
    refine ⟨.ref s.heap.objs.size,_,I2,rfl,⟨_,x,y,hn,rfl,rfl,fun xs' h'=>by rw [I.list_inj h' ha];exact hx,fun ys' h'=>by rw [I.tuple_inj h' hb];exact hy⟩,?_,fun c hc=>?_⟩
    · exact ⟨z2,sb.extBut _ _ D.a1 (keep _ _ (by simp only [List.mem_cons,List.not_mem_nil,or_false,not_or];exact ⟨D.a1,D.b1,D.b2,D.b3⟩) st.ti),⟨_,_,sb.extBut _ _ D.a2 o1⟩,j1.at fun o e=>sb.extBut _ o D.a3 e,j2.at fun o e=>sb.extBut _ o D.a4 e⟩
    · have hlt:c < s.heap.objs.size:=by
        obtain ⟨hz,hTI,⟨_,_,hTO⟩,⟨_,h1,_⟩,⟨_,h2,_⟩⟩:=st
        simp only [List.mem_cons,List.not_mem_nil,or_false] at hc
        rcases hc with rfl | rfl | rfl | rfl | rfl
        · exact Heap.lt_size hz
        · exact Heap.lt_size hTI
        · exact Heap.lt_size hTO
        · exact Heap.lt_size h1
        · exact Heap.lt_size h2
      rw [upd_ne (Nat.ne_of_lt hlt)]
      exact (hf c hc).1
  done:=by
    intro X hP hw hK hc i pins s σ H E I hf st hg
    subst hP hw hK
    obtain ⟨xs,ha,hx⟩:=hg
    obtain ⟨its,r1,p1,_⟩:=I.list ha
    have hl:=r1.length
    refine zipL_end (I.ok.hd hc) D st (show s.heap.IsList a its.toArray from p1.isList) (by simp;omega) fun h' keep=>⟨rfl,I.turnedL (t':=s.toks) (ch:=[z,TI,TO,i1,i2]) (fun c o hc e=>keep c o (fun q=>hc ?_) e) hf⟩
    simp only [List.mem_cons,List.not_mem_nil,or_false] at q ⊢
    rcases q with q | q | q | q
    · exact .inl q
    · exact .inr (.inr (.inl q))
    · exact .inr (.inr (.inr (.inl q)))
    · exact .inr (.inr (.inr (.inr q)))
  self:=fun _ _ _ _ _ st h=>wpAny_pyIter_zip st.zz h
end
end L2
namespace L2
open PySem PySem.Spec PyProof.Rows
section
variable {X:Cx} {K:PySem.W.Frag}
def iZip2 (K:PySem.W.Frag) (ta:TA):TI:=fun σ H R=>ta σ H fun vs H1=>∃ a b xs ys,vs=[.ref a,.ref b]/\SqT K H1 b ys/\((SqT K H1 a xs/\R (Itz K a b) H1) ∨ (SqL K H1 a xs/\R (ItzL K a b) H1))
theorem pi_zip2 {e1 e2:Expr} {es:List Expr} {kk:Nat} {pt p pos:Pos} {ta:TA} (hg:Gl X "zip") (hm:X.mg "zip"=none) (ha:PA X [e1,e2] ta) (hs:starEach [e1,e2] X.env=[(false,eval e1 X.env),(false,eval e2 X.env)]:=by rfl) (hs2:starEach [e2] X.env=[(false,eval e2 X.env)]:=by rfl) :
    PI X (.Tuple es kk pt) (.Call (.Name "zip" p) [e1,e2] [] pos) (iZip2 X.K ta):=by
  intro pins s σ H R I h
  refine Call_ (ld_blt I hg hm boot_zip (PyProof.Rows.callWith_type1 (thn (ha pos pins s σ H _ I h) fun us s1 ⟨vs,H1,I1,r1,q1⟩=>?_) (by rw [hs,hs2]) (by rw [hs2];rfl)))
  obtain ⟨a,b,xs,ys,rfl,hy,hx⟩:=q1
  cases r1 with
  | cons ra rr =>
    cases rr with
    | cons rb rr =>
      cases rr
      cases ra
      cases rb
      obtain ⟨its2,r2,p2,_⟩:=I1.tuple hy
      have lo:∀ c,c ∈ [s1.heap.objs.size + 4,s1.heap.objs.size + 2,s1.heap.objs.size + 3,s1.heap.objs.size,s1.heap.objs.size + 1]->s1.heap.objs.size <= c:=fun c hc=>by
        simp only [List.mem_cons,List.not_mem_nil,or_false] at hc
        rcases hc with rfl | rfl | rfl | rfl | rfl <;> first | exact Nat.le_add_right _ _ | exact Nat.le_refl _
      rcases hx with ⟨hx,q⟩ | ⟨hx,q⟩
      · obtain ⟨its,r1,p1,_⟩:=I1.tuple hx
        refine call_zipT (show s1.heap.IsTuple a its.toArray from p1) (show s1.heap.IsTuple b its2.toArray from p2) fun h' Z keep sz=>?_
        refine wpAny_pyIter_zip (s:={ s1 with heap:=h' }) Z.zz ?_
        have I2:Inv X pins σ H1 { s1 with heap:=h' }:=I1.kept (t':=s1.toks) keep
        exact ⟨s1.heap.objs.size + 4,[s1.heap.objs.size + 4,s1.heap.objs.size + 2,s1.heap.objs.size + 3,s1.heap.objs.size,s1.heap.objs.size + 1],_,_,H1,rfl,I2,turn_zip (ZipD.new p1.lt p2.lt),Z,fun c hc=>I1.fpOk (lo c hc) (I1.hok.fresh (lo c hc)),q⟩
      · obtain ⟨its,r1,p1,_⟩:=I1.list hx
        refine call_zipL (show s1.heap.IsList a its.toArray from p1.isList) (show s1.heap.IsTuple b its2.toArray from p2) fun h' Z keep sz=>?_
        refine wpAny_pyIter_zip (s:={ s1 with heap:=h' }) Z.zz ?_
        have I2:Inv X pins σ H1 { s1 with heap:=h' }:=I1.kept (t':=s1.toks) keep
        exact ⟨s1.heap.objs.size + 4,[s1.heap.objs.size + 4,s1.heap.objs.size + 2,s1.heap.objs.size + 3,s1.heap.objs.size,s1.heap.objs.size + 1],_,_,H1,rfl,I2,turn_zipL (ZipD.new p1.isList.lt' p2.lt),Z,fun c hc=>I1.fpOk (lo c hc) (I1.hok.fresh (lo c hc)),q⟩
theorem pi_zip2K (h:X.K=K) {e1 e2:Expr} {es:List Expr} {kk:Nat} {pt p pos:Pos} {ta:TA} (hg:Gl X "zip") (hm:X.mg "zip"=none) (ha:PA X [e1,e2] ta) (hs:starEach [e1,e2] X.env=[(false,eval e1 X.env),(false,eval e2 X.env)]:=by rfl) (hs2:starEach [e2] X.env=[(false,eval e2 X.env)]:=by rfl) :
    PI X (.Tuple es kk pt) (.Call (.Name "zip" p) [e1,e2] [] pos) (iZip2 K ta):=by subst h;exact pi_zip2 hg hm ha hs hs2
theorem blk_zipL {a b:Addr} {xs ys:List V} {σ0:St} {te:TE} {H:Hp} {F:List V->Hp->Prop} (hn:xs.length <= sizeLine) (hxy:xs.length=ys.length) (Pv:Nat->List V->Hp->Prop) (h0:Pv 0 [] H) (hl:∀ i zs H,Pv i zs H->zs.length=i)
    (hq:∀ i zs H,i <= xs.length->Pv i zs H->SqL K H a xs/\SqT K H b ys) (hσ:σ0[0]?=some none/\σ0[1]?=some none)
    (hs:∀ i zs H x y p,xs[i]?=some x->ys[i]?=some y->H p=none->Pv i zs H->te ((σ0.set 0 (some x)).set 1 (some y)) (upd H p (.tup [x,y])) fun z H'=>Pv (i + 1) (zs ++ [z]) H') (hd:∀ zs H,Pv xs.length zs H->F zs H) :
    Blk (ItzL K a b) σ0 (gTup K 2 (gCons (gName 0) (gCons (gName 1) gNil))) tTrue te H F:=by
  refine ⟨fun i m zs H=>m=xs.length - i/\i <= xs.length/\Pv i zs H,⟨xs.length,by simp,Nat.zero_le _,h0⟩,?_⟩
  rintro i m zs H2 ⟨rfl,hi,p⟩
  obtain ⟨q1,q2⟩:=hq i zs H2 hi p
  refine ⟨by rw [hl i zs H2 p];omega,?_⟩
  by_cases hlt:i < xs.length
  · refine .inr ⟨⟨xs,ys,xs[i],ys[i]'(by omega),q1,q2,by simp [hlt],by rw [List.getElem?_eq_getElem (by omega)]⟩,fun y H'=>Pv (i + 1) (zs ++ [y]) H',fun _=>False,fun y H' q=>⟨xs.length - (i + 1),by omega,rfl,hlt,q⟩,fun _ q=>q.elim,fun v H3 yld=>?_⟩
    obtain ⟨r,x,y,hr,rfl,rfl,hx,hy⟩:=yld
    exact ⟨r,[x,y],rfl,.of upd_same,rfl,x,[y],rfl,y,[],rfl,rfl,wk2 hσ _ _,hs i zs _ x y r (hx xs q1) (hy ys q2) hr p⟩
  · have e:i=xs.length:=by omega
    subst e
    exact .inl ⟨⟨xs,q1,Nat.le_refl _⟩,hd zs H2 p⟩
end
section
variable {prog:Program} {w:World} {A:Around} {E:Value->Shared->Prop} {s:Shared}
end
section
variable {X:Cx}
end
end L2
namespace L2
open PySem PySem.Spec PyProof.Rows
theorem fn_of0 {CX:CXT} {P:Program} {w:World} {K:PySem.W.Frag} {mg:Str->Option Value} {base:Heap} {f:Addr} {name qual:Str} {params:Arguments} {body:List Stmt} {scope:Scope} {dV kV doc pm cdv ct oc:Value} {an od:Option Addr}
    {osl:Array (Option Value)} {N ps:List Str} {sp:Sp} (lk:K.lookup f=some ⟨oc,od,.func (PySem.W.fnOf name qual params body scope dV kV doc pm an cdv ct),osl⟩) (hcd:PySem.W.codeIn K cdv qual=true) (S:FnScope N ps scope)
    (len:∀ vs H Q E,sp vs H Q E->vs.length=ps.length)
    (hbody:∀ (A:Around) (outer:List Env) (s:Shared) (H:Hp) (vs:List V) (Q:VK) (E:XK),sp vs H Q E ->
      ∃ t,PSs (cxOf CX P w K mg base N qual scope f cdv A outer s H E) body t/\t { nx:=fun _ H'=>Q .non H',rt:=Q } (start N vs) H) :
    FnOk P w K mg base CX 0 f (PySem.W.fnOf name qual params body scope dV kV doc pm an cdv ct) ps sp:=by
  refine ⟨len,fun A outer s H args us vs Q E hr e0 hb r hsp=>?_⟩
  have hl:=len _ _ _ _ hsp
  have KX:K.In s.heap:=e0.mod.kin.keeps fun b o e=>(e0.bs b o e).1
  have lim:s.heap.NoLimit:=e0.mod.nolimit.keeps fun b o e=>(e0.bs b o e).1
  have hkind:∀ y ∈ ps.zip us,scope.names.lookup y.1=some .local ∨ (scope.names.lookup y.1=some .cell/\((cellsFrom (s.heap.objs.size + 1) scope.names []).lookup y.1).isSome=true):=fun ⟨n,v⟩ hy=>by
    rcases S.par n (List.of_mem_zip hy).1 with q | q
    · exact .inl q
    · exact .inr ⟨q,PySem.W.cellsFrom_some _ _ _ (.inl q)⟩
  refine codeAny_call_function hr.depth (KX _ _ lk) rfl S.co S.gen rfl (PySem.W.codeRec_of KX hcd) (hb _ _ _ _ ?_)
  refine wpAny_newFunctionEnv_cells S.kind hkind fun env he s1 x=>?_
  subst he
  refine ⟨lim.keeps x.toInCall.keep,codeAny_func ?_⟩
  obtain ⟨t,ht,hq⟩:=hbody A outer s H vs Q E hsp
  have I:Inv (cxOf CX P w K mg base N qual scope f cdv A outer s H E) [] (start N vs) H s1:=inv_start S hr.hd e0 hl r x
  refine wpAny_mono (ht [] s1 (start N vs) H _ I hq) (fun fl s' hs=>?_) fun e s' hs=>hs
  have fin:∀ {σ':St} {H':Hp} {v:V} {u:Value},Inv (cxOf CX P w K mg base N qual scope f cdv A outer s H E) [] σ' H' s'->RelV v u->Q v H'->CE outer P w H s Q u s' :=
    fun {σ' H' v u} J rv q=>⟨v,H',J.os,J.bare,J.base,J.hok,rv,q⟩
  cases fl with
  | ret u =>
    obtain ⟨v,σ',H',J,rv,q⟩:=hs
    exact fin J rv q
  | next =>
    obtain ⟨σ',H',J,q⟩:=hs
    exact fin (v:=V.non) (u:=Value.none) J rfl q
  | brk =>
    obtain ⟨_,_,_,q⟩:=hs
    exact False.elim q
  | cont =>
    obtain ⟨_,_,_,q⟩:=hs
    exact False.elim q
theorem Fun.ok0 {P:Program} {w:World} {K:PySem.W.Frag} {mg:Str->Option Value} {base:Heap} {x qual:Str} {st:Stmt} {f:Addr} {fd:FuncData} {N ps:List Str} {sp:Sp} (F:Fun K x qual st f fd) (S:FnScope N ps (defScope st)) (len:∀ vs H Q E,sp vs H Q E->vs.length=ps.length)
    (hbody:∀ (cdv:Value) (A:Around) (outer:List Env) (s:Shared) (H:Hp) (vs:List V) (Q:VK) (E:XK),sp vs H Q E ->
      ∃ t,PSs (cxOf CX0 P w K mg base N qual (defScope st) f cdv A outer s H E).nox (defBody st) t/\t { nx:=fun _ H'=>Q .non H',rt:=Q } (start N vs) H):FnOk P w K mg base CX0 0 f fd ps sp:=by
  obtain ⟨oc,od,kV,doc,pm,an,cdv,ct,osl,rfl,lk,hcd⟩:=F.ex
  refine fn_of0 lk hcd S len fun A outer s H vs Q E hsp=>?_
  obtain ⟨t,h,q⟩:=hbody cdv A outer s H vs Q E hsp
  exact ⟨t,h.nox,q⟩
section
variable {X:Cx}
end
end L2
namespace G
open PySem PySem.Spec PyProof.Rows L2 Mt
def top (i:Nat):Stmt:=PySem.Challenge.pw_growurns_k41_orders_that_matter.main.body.getD i (.Pass ⟨0,0,0,0⟩)
structure Bt (mg:Str->Option Value):Prop where
  isinstance:mg "isinstance"=none
  bool:mg "bool"=none
  int:mg "int"=none
  tuple:mg "tuple"=none
  list:mg "list"=none
  all:mg "all"=none
  sum:mg "sum"=none
  len:mg "len"=none
  range:mg "range"=none
  max:mg "max"=none
  min:mg "min"=none
  abs:mg "abs"=none
  zip:mg "zip"=none
def wholeD (lo hi:Int):PyData->Bool
  | .int i=>decide (lo <= i) && decide (i <= hi)
  | _=>false
section
variable {P:Program} {w:World} {K:PySem.W.Frag} {mg:Str->Option Value} {base:Heap} {f:Addr} {fd:FuncData}
def numD:PyData->Bool
  | .int _=>true
  | _=>false
def sp_is_number:Sp:=fun vs H Q _=>∃ (v:V) (st:Addr) (d:PyData),vs=[v]/\Dt st H d v/\Q (.bl (numD d)) H
abbrev s_is_number:Stmt:=top 13
theorem sc_is_number:FnScope ["thing"] ["thing"] (defScope s_is_number):=⟨rfl,rfl,rfl,by decide +kernel,rfl,by decide +kernel,by decide +kernel⟩
theorem ok_is_number (F:Fun K "is_number" "is_number" s_is_number f fd) (B:Bt mg):FnOk P w K mg base CX0 0 f fd ["thing"] sp_is_number:=by
  refine F.ok0 sc_is_number (fun vs H Q E h=>?_) (fun cdv A outer s H vs Q E h=>?_)
  · obtain ⟨v,st,d,rfl,_⟩:=h
    rfl
  obtain ⟨v,st,d,rfl,hd,q⟩:=h
  refine ⟨_,pss_one (ps_ret (pe_and (pe_callB (call_isi kit_int) rfl B.isinstance boot_isinstance (pa_cons (pv 0) (pa_cons (pe_bty rfl B.int boot_int) pa_nil)))
    (pe_one (pe_not (pe_callB (call_isi kit_bool) rfl B.isinstance boot_isinstance (pa_cons (pv 0) (pa_cons (pe_bty rfl B.bool boot_bool) pa_nil))))))),?_⟩
  refine ⟨_,rfl,v,st,d,rfl,hd,_,rfl,?_⟩
  cases d with
  | bool b=>exact ⟨_,rfl,v,st,_,rfl,hd,_,rfl,q⟩
  | int i=>exact ⟨_,rfl,v,st,_,rfl,hd,_,rfl,q⟩
  | none=>exact q
  | str x=>exact q
  | list ds=>exact q
  | tuple ds=>exact q
  | dict kvs=>exact q
def sp_is_whole:Sp:=fun vs H Q _=>∃ (v:V) (st:Addr) (d:PyData) (lo hi:Int),vs=[v,.int lo,.int hi]/\Dt st H d v/\Q (.bl (wholeD lo hi d)) H
abbrev s_is_whole:Stmt:=top 14
theorem sc_is_whole:FnScope ["thing","low","high"] ["thing","low","high"] (defScope s_is_whole):=⟨rfl,rfl,rfl,by decide +kernel,rfl,by decide +kernel,by decide +kernel⟩
theorem ok_is_whole (F:Fun K "is_whole" "is_whole" s_is_whole f fd) (c1:Cal P w K mg base 0 "is_number" ["thing"] sp_is_number):FnOk P w K mg base CX0 1 f fd ["thing","low","high"] sp_is_whole:=by
  refine F.ok sc_is_whole (fun vs H Q E h=>?_) (fun cdv A outer s H vs Q E hr h=>?_)
  · obtain ⟨v,st,d,lo,hi,rfl,_⟩:=h
    rfl
  obtain ⟨v,st,d,lo,hi,rfl,hd,q⟩:=h
  refine ⟨_,pss_one (ps_ret (pe_and (pe_cal c1 hr rfl (pa_cons (pv 0) pa_nil)) (pe_one (pe_chain op_le op_le (pv 1) (pv 0) (pv 2))))),?_⟩
  refine ⟨_,rfl,v,st,d,rfl,hd,_,rfl,?_⟩
  cases d with
  | int i =>
    refine iteT ?_
    unfold Dt at hd
    subst hd
    refine ⟨_,rfl,_,rfl,lo,i,rfl,rfl,_,rfl,?_⟩
    have q':Q (.bl (decide (lo <= i) && decide (i <= hi))) H:=q
    by_cases h1:lo <= i
    · rw [decide_eq_true h1,Bool.true_and] at q'
      rw [decide_eq_true h1]
      exact iteT ⟨_,rfl,i,hi,rfl,rfl,q'⟩
    · rw [decide_eq_false h1,Bool.false_and] at q'
      rw [decide_eq_false h1]
      exact iteF q'
  | bool b=>exact q
  | none=>exact q
  | str x=>exact q
  | list ds=>exact q
  | tuple ds=>exact q
  | dict kvs=>exact q
def wholesD (lo hi:Int):PyData->Bool
  | .tuple ds=>ds.all (wholeD lo hi)
  | _=>false
def sp_are_wholes:Sp:=fun vs H Q _=>∃ (v:V) (st:Addr) (d:PyData) (lo hi:Int),vs=[v,.int lo,.int hi]/\Dt st H d v/\(∀ ds,d=.tuple ds->ds.length <= 1000)/\∀ H',Same H H'->Q (.bl (wholesD lo hi d)) H'
abbrev s_are_wholes:Stmt:=top 15
theorem sc_are_wholes:FnScope ["thing","low","high"] ["thing","low","high"] (defScope s_are_wholes):=⟨rfl,rfl,rfl,by decide +kernel,rfl,by decide +kernel,by decide +kernel⟩
theorem ok_are_wholes (F:Fun K "are_wholes" "are_wholes" s_are_wholes f fd) (B:Bt mg) (c1:Cal P w K mg base 1 "is_whole" ["thing","low","high"] sp_is_whole):FnOk P w K mg base CX0 2 f fd ["thing","low","high"] sp_are_wholes:=by
  refine F.ok sc_are_wholes (fun vs H Q E h=>?_) (fun cdv A outer s H vs Q E hr h=>?_)
  · obtain ⟨v,st,d,lo,hi,rfl,_⟩:=h
    rfl
  obtain ⟨v,st,d,lo,hi,rfl,hd,hl,q⟩:=h
  refine ⟨_,pss_one (ps_ret (pe_and (pe_callB (call_isi kit_tup) rfl B.isinstance boot_isinstance (pa_cons (pv 0) (pa_cons (pe_bty rfl B.tuple boot_tuple) pa_nil)))
    (pe_one (pe_callB (call_all_seq rfl) rfl B.all boot_all (pa_cons (pe_compG (N:=["part","low","high"]) (ix:=[none,some 1,some 2]) (ifs:=[]) (tc:=tTrue) rfl (pi_tup (pv 0))
      (fun s H ex=>pg_c (i:=0) (by decide +kernel) rfl (Or.inl rfl) (.inr rfl)) (fun s H ex=>pifs_nil) (fun s H ex=>pe_cal c1 hr rfl (pa_cons (pv 0) (pa_cons (pv 1) (pa_cons (pv 2) pa_nil)))) rfl (by decide +kernel) (by rfl) (by rfl) (fun _=>rfl)) pa_nil))))),?_⟩
  refine ⟨_,rfl,v,st,d,rfl,hd,_,rfl,?_⟩
  cases d with
  | tuple ds =>
    refine iteT ?_
    obtain ⟨a,xs,rfl,ne,ha,hds⟩:∃ a xs,v=.ref a/\a ≠ st/\H a=some (.tup xs)/\Dts st H ds xs:=by unfold Dt at hd;exact hd
    have hlen:=hds.len
    have hl':=hl ds rfl
    refine ⟨_,rfl,a,rfl,⟨xs,.of ha⟩,blk_tup (K:=K) (a:=a) (xs:=xs) (sz (by omega)) (fun i ys H2=>Same H H2/\i <= ds.length/\ys=(ds.take i).map fun d=>V.bl (wholeD lo hi d)) ⟨Same.refl H,Nat.zero_le _,rfl⟩ (fun i ys H2 h=>?_) (fun i ys H2 _ h=>.of (h.1 _ _ ha)) rfl (fun i ys H2 x hx h=>?_) (fun ys H2 h=>?_)⟩
    · obtain ⟨_,hi,rfl⟩:=h
      rw [List.length_map,List.length_take];omega
    · obtain ⟨hS,hil,rfl⟩:=h
      obtain ⟨d,hd',dt⟩:=hds.get hx
      refine ⟨_,rfl,_,rfl,_,rfl,x,st,d,lo,hi,rfl,dt.kp (hS.kp st),hS,(List.getElem?_eq_some_iff.mp hd').1,?_⟩
      rw [List.take_add_one,hd',List.map_append];rfl
    · obtain ⟨hS,hil,rfl⟩:=h
      intro p hp
      refine ⟨p,_,rfl,.inl (.of upd_same),?_,?_⟩
      · rw [List.all_map];exact List.all_eq_true.mpr fun _ _=>rfl
      · have e:(((ds.take xs.length).map fun d=>V.bl (wholeD lo hi d)).all truV)=wholesD lo hi (.tuple ds):=by
          rw [<- hlen,List.take_length,List.all_map];rfl
        rw [e]
        exact q _ (hS.trans (Same.new hp))
  | _=>exact q H (Same.refl H)
end
end G
namespace G
open PySem PySem.Spec PyProof.Rows L2 Mt
structure Ct (mg:Str->Option Value):Prop where
  kinds:∃ t,mg "MOST_KINDS"=some (.int 4 t)
  balls:∃ t,mg "MOST_BALLS"=some (.int 20 t)
  puts:∃ t,mg "MOST_PUT_IN"=some (.int 5 t)
theorem _root_.L2.Dt.untup {st:Addr} {H:Hp} {ds:List PyData} {v:V} (h:Dt st H (.tuple ds) v):∃ a xs,v=.ref a/\a ≠ st/\H a=some (.tup xs)/\Dts st H ds xs:=by unfold Dt at h;exact h
theorem _root_.L2.Dt.unint {st:Addr} {H:Hp} {i:Int} {v:V} (h:Dt st H (.int i) v):v=.int i:=by unfold Dt at h;exact h
theorem wholeD_int {lo hi:Int} {d:PyData} (h:wholeD lo hi d=true):∃ i,d=.int i/\lo <= i/\i <= hi:=by
  cases d with
  | int i =>
    have h':(decide (lo <= i) && decide (i <= hi))=true:=h
    rw [Bool.and_eq_true] at h'
    exact ⟨i,rfl,of_decide_eq_true h'.1,of_decide_eq_true h'.2⟩
  | _=>cases (show false=true from h)
theorem all_ints {lo hi:Int}:∀ {ds:List PyData},ds.all (wholeD lo hi)=true->∃ ns:List Int,ds=ns.map .int/\∀ x ∈ ns,lo <= x/\x <= hi
  | [],_=>⟨[],rfl,by simp⟩
  | d :: ds,h=>by
    rw [List.all_cons,Bool.and_eq_true] at h
    obtain ⟨i,e,h1,h2⟩:=wholeD_int h.1
    obtain ⟨ns,e2,h3⟩:=all_ints h.2
    subst e e2
    exact ⟨i :: ns,rfl,fun x hx=>by
      rcases List.mem_cons.mp hx with z | z
      · subst z;exact ⟨h1,h2⟩
      · exact h3 x z⟩
theorem wholesD_ints {lo hi:Int} {d:PyData} (h:wholesD lo hi d=true):∃ ns:List Int,d=DI ns/\∀ x ∈ ns,lo <= x/\x <= hi:=by
  cases d with
  | tuple ds =>
    obtain ⟨ns,e,h2⟩:=all_ints (ds:=ds) h
    subst e
    exact ⟨ns,rfl,h2⟩
  | _=>cases (show false=true from h)
def intD:PyData->Int
  | .int i=>i
  | _=>0
def lenD:PyData->Nat
  | .tuple ds=>ds.length
  | _=>0
def sumD:PyData->Int
  | .tuple ds=>(ds.map intD).sum
  | _=>0
theorem sumD_DI (ns:List Int):sumD (DI ns)=ns.sum:=by
  show ((ns.map PyData.int).map intD).sum=ns.sum
  rw [List.map_map]
  have e:(intD ∘ PyData.int)=id:=by funext i;rfl
  rw [e,List.map_id]
theorem lenD_DI (ns:List Int):lenD (DI ns)=ns.length:=by show (ns.map PyData.int).length=_;rw [List.length_map]
def urnD (m:Int) (d:PyData):Bool:=wholesD 0 m d && ((decide ((1:Int) <= lenD d) && decide ((lenD d:Int) <= 4)) && decide ((0:Int) < sumD d))
def ruleD (k:Int) (d:PyData):Bool:=match d with
  | .tuple ds=>decide ((ds.length:Int)=k) && ds.all (fun r=>wholesD 0 5 r && decide ((lenD r:Int)=k))
  | _=>false
def short (d:PyData):Prop:=∀ ds,d=.tuple ds->ds.length <= 1000
section
variable {P:Program} {w:World} {K:PySem.W.Frag} {mg:Str->Option Value} {base:Heap} {f:Addr} {fd:FuncData}
def sp_is_urn_up_to:Sp:=fun vs H Q _=>∃ (v:V) (st:Addr) (d:PyData) (m:Int),vs=[v,.int m]/\Dt st H d v/\short d/\∀ H',Same H H'->Q (.bl (urnD m d)) H'
abbrev s_is_urn_up_to:Stmt:=top 26
theorem sc_is_urn_up_to:FnScope ["thing","most"] ["thing","most"] (defScope s_is_urn_up_to):=⟨rfl,rfl,rfl,by decide +kernel,rfl,by decide +kernel,by decide +kernel⟩
theorem ok_is_urn_up_to (F:Fun K "is_urn_up_to" "is_urn_up_to" s_is_urn_up_to f fd) (B:Bt mg) (C:Ct mg) (c1:Cal P w K mg base 2 "are_wholes" ["thing","low","high"] sp_are_wholes):FnOk P w K mg base CX0 3 f fd ["thing","most"] sp_is_urn_up_to:=by
  refine F.ok sc_is_urn_up_to (fun vs H Q E h=>?_) (fun cdv A outer s H vs Q E hr h=>?_)
  · obtain ⟨v,st,d,m,rfl,_⟩:=h
    rfl
  obtain ⟨v,st,d,m,rfl,hd,hl,q⟩:=h
  obtain ⟨tk,hk⟩:=C.kinds
  refine ⟨_,pss_cons (ps_if (pt_not (pt_val (pe_cal c1 hr rfl (pa_cons (pv 0) (pa_cons pe_int (pa_cons (pv 1) pa_nil)))))) (pss_one (ps_ret pe_bl)) pss_nil)
    (pss_one (ps_ret (pe_and (pe_chain op_le op_le pe_int (pe_callB call_len_seq rfl B.len PySem.boot_len (pa_cons (pv 0) pa_nil)) (pe_glob (v:=.int 4) rfl hk ⟨tk,rfl⟩))
      (pe_one (pe_cmpR op_gt (pe_callB (call_sum_seq rfl) rfl B.sum boot_sum (pa_cons (pv 0) pa_nil)) pe_int (nomark _)))))),?_⟩
  refine ⟨_,rfl,_,rfl,v,st,d,0,m,rfl,hd,hl,fun H1 g1=>⟨_,rfl,?_⟩⟩
  have q1:=q H1 g1
  unfold urnD at q1
  cases hw:wholesD 0 m d with
  | false =>
    rw [hw,Bool.false_and] at q1
    exact iteT q1
  | true =>
    rw [hw,Bool.true_and] at q1
    refine iteF ?_
    obtain ⟨ns,e,hns⟩:=wholesD_ints hw
    subst e
    obtain ⟨a,e,ne,ha⟩:=hd.di
    subst e
    rw [lenD_DI,sumD_DI] at q1
    have ha1:=g1 _ _ ha
    refine ⟨_,rfl,a,_,rfl,.inr (.of ha1),_,_,rfl,rfl,_,rfl,?_⟩
    rw [List.length_map]
    by_cases h1:(1:Int) <= (ns.length:Int)
    · rw [decide_eq_true h1,Bool.true_and] at q1
      rw [decide_eq_true h1]
      refine iteT ⟨_,_,rfl,rfl,_,rfl,?_⟩
      by_cases h2:(ns.length:Int) <= 4
      · rw [decide_eq_true h2,Bool.true_and] at q1
        rw [decide_eq_true h2]
        exact iteT ⟨_,rfl,a,ns,rfl,.inr (.of ha1),_,_,rfl,rfl,q1⟩
      · rw [decide_eq_false h2,Bool.false_and] at q1
        rw [decide_eq_false h2]
        exact iteF q1
    · rw [decide_eq_false h1,Bool.false_and,Bool.false_and] at q1
      rw [decide_eq_false h1]
      exact iteF ⟨_,rfl,iteF q1⟩
def sp_is_urn:Sp:=fun vs H Q _=>∃ (v:V) (st:Addr) (d:PyData),vs=[v]/\Dt st H d v/\short d/\∀ H',Same H H'->Q (.bl (urnD 20 d)) H'
abbrev s_is_urn:Stmt:=top 25
theorem sc_is_urn:FnScope ["thing"] ["thing"] (defScope s_is_urn):=⟨rfl,rfl,rfl,by decide +kernel,rfl,by decide +kernel,by decide +kernel⟩
theorem ok_is_urn (F:Fun K "is_urn" "is_urn" s_is_urn f fd) (C:Ct mg) (c1:Cal P w K mg base 3 "is_urn_up_to" ["thing","most"] sp_is_urn_up_to):FnOk P w K mg base CX0 4 f fd ["thing"] sp_is_urn:=by
  refine F.ok sc_is_urn (fun vs H Q E h=>?_) (fun cdv A outer s H vs Q E hr h=>?_)
  · obtain ⟨v,st,d,rfl,_⟩:=h
    rfl
  obtain ⟨v,st,d,rfl,hd,hl,q⟩:=h
  obtain ⟨tk,hk⟩:=C.balls
  refine ⟨_,pss_one (ps_ret (pe_cal c1 hr rfl (pa_cons (pv 0) (pa_cons (pe_glob (v:=.int 20) rfl hk ⟨tk,rfl⟩) pa_nil)))),?_⟩
  exact ⟨_,rfl,v,st,d,20,rfl,hd,hl,q⟩
def sp_need_number (c:Nat->Addr):Sp:=fun vs H Q E=>∃ (v:V) (st:Addr) (d:PyData) (lo hi:Int),vs=[v,.int lo,.int hi]/\Dt st H d v/\Sm lo/\Sm hi/\(wholeD lo hi d=true->Q .non H)/\(wholeD lo hi d=false->E (.ref (c 5)) none H)
abbrev s_need_number:Stmt:=top 16
theorem sc_need_number:FnScope ["thing","low","high"] ["thing","low","high"] (defScope s_need_number):=⟨rfl,rfl,rfl,by decide +kernel,rfl,by decide +kernel,by decide +kernel⟩
theorem ok_need_number {c:Nat->Addr} {B:Addr} (F:Fun K "need_number" "need_number" s_need_number f fd) (R:Errs K mg c B) (c1:Cal P w K mg base 1 "is_whole" ["thing","low","high"] sp_is_whole):FnOk P w K mg base (CX1 P w) 2 f fd ["thing","low","high"] (sp_need_number c):=by
  refine F.okX sc_need_number (fun vs H Q E h=>?_) (fun cdv A outer s H vs Q E hr h=>?_)
  · obtain ⟨v,st,d,lo,hi,rfl,_⟩:=h
    rfl
  obtain ⟨v,st,d,lo,hi,rfl,hd,slo,shi,q1,q2⟩:=h
  refine ⟨_,pss_one (ps_if (pt_not (pt_val (pe_cal c1 hr rfl (pa_cons (pv 0) (pa_cons (pv 1) (pa_cons (pv 2) pa_nil)))))) (pss_one (ps_raise1 R.e5 (R.xc 5 (by decide)) (pe_fstr (pj_str (pj_fmt (pv 1) (pj_str (pj_fmt (pv 2) pj_nil))))) (fun σ H Q Q' m q=>?_))) pss_nil),?_⟩
  · obtain ⟨v1,z1,i1,z2,z3,z4,v2,z5,i2,z6,z7,z8,z9⟩:=q
    exact ⟨v1,z1,i1,z2,z3,z4,v2,z5,i2,z6,z7,z8,fun z=>m _ _ (z9 z)⟩
  refine ⟨_,rfl,_,rfl,_,rfl,v,st,d,lo,hi,rfl,hd,_,rfl,?_⟩
  cases hw:wholeD lo hi d with
  | true=>exact iteF (q1 hw)
  | false=>exact iteT ⟨_,rfl,lo,rfl,slo.1,slo.2,_,rfl,hi,rfl,shi.1,shi.2,fun z=>q2 hw⟩
def sp_is_rule (c:Nat->Addr):Sp:=fun vs H Q E=>∃ (u v:V) (st:Addr) (dk d:PyData),vs=[u,v]/\Dt st H dk u/\(wholeD 1 4 dk=false->E (.ref (c 5)) none H) /\
  (∀ k,dk=.int k->1 <= k->k <= 4->Dt st H d v/\short d/\(∀ ds,d=.tuple ds->∀ r ∈ ds,short r)/\∀ H',Same H H'->Q (.bl (ruleD k d)) H')
abbrev s_is_rule:Stmt:=top 27
theorem sc_is_rule:FnScope ["kinds","thing"] ["kinds","thing"] (defScope s_is_rule):=⟨rfl,rfl,rfl,by decide +kernel,rfl,by decide +kernel,by decide +kernel⟩
theorem sm1:Sm 1:=by unfold Sm;decide +kernel
theorem sm4:Sm 4:=by unfold Sm;decide +kernel
theorem ok_is_rule {c:Nat->Addr} (F:Fun K "is_rule" "is_rule" s_is_rule f fd) (B:Bt mg) (C:Ct mg) (c1:Cal P w K mg base 2 "are_wholes" ["thing","low","high"] sp_are_wholes) (c2:CalX P w K mg base 2 "need_number" ["thing","low","high"] (sp_need_number c)):FnOk P w K mg base (CX1 P w) 3 f fd ["kinds","thing"] (sp_is_rule c):=by
  refine F.okX sc_is_rule (fun vs H Q E h=>?_) (fun cdv A outer s H vs Q E hr h=>?_)
  · obtain ⟨u,v,st,dk,d,rfl,_⟩:=h
    rfl
  obtain ⟨u,v,st,dk,d,rfl,hu,qE,qQ⟩:=h
  obtain ⟨tk,hk⟩:=C.kinds
  obtain ⟨tp,hp⟩:=C.puts
  refine ⟨_,pss_cons (ps_expr (pe_calx c2 hr rfl passes1 (pa_cons (pv 0) (pa_cons pe_int (pa_cons (pe_glob (v:=.int 4) rfl hk ⟨tk,rfl⟩) pa_nil)))))
    (PSs.nox (pss_cons (ps_if (PW.pt (pw_or (pt_not (pt_val (pe_callB (call_isi kit_tup) rfl B.isinstance boot_isinstance (pa_cons (pv 1) (pa_cons (pe_bty rfl B.tuple boot_tuple) pa_nil)))))
      (pw_or1 (pt_cmpR op_ne (pe_callB call_len_seq rfl B.len PySem.boot_len (pa_cons (pv 1) pa_nil)) (pv 0) (nomark _))))) (pss_one (ps_ret pe_bl)) pss_nil)
    (pss_one (ps_ret (pe_callB (call_all_seq rfl) rfl B.all boot_all (pa_cons (pe_compG (N:=["row","kinds"]) (ix:=[none,some 0]) (ifs:=[]) (tc:=tTrue) rfl (pi_tup (pv 1))
      (fun s H ex=>pg_c (i:=0) (by decide +kernel) rfl (Or.inl rfl) (.inr rfl)) (fun s H ex=>pifs_nil)
      (fun s H ex=>pe_and (pe_cal c1 hr rfl (pa_cons (pv 0) (pa_cons pe_int (pa_cons (pe_glob (v:=.int 5) rfl hp ⟨tp,rfl⟩) pa_nil)))) (pe_one (pe_cmpR op_eq (pe_callB (lenK (K:=K) rfl) rfl B.len PySem.boot_len (pa_cons (pv 0) pa_nil)) (pv 1) (nomark _)))) rfl (by decide +kernel) (by rfl) (by rfl) (fun _=>rfl)) pa_nil)))))),?_⟩
  refine ⟨_,rfl,u,st,dk,1,4,rfl,hu,sm1,sm4,fun hw=>?_,qE⟩
  obtain ⟨k,e,k1,k4⟩:=wholeD_int hw
  subst e
  obtain rfl:=hu.unint
  obtain ⟨hd,hl,hl2,q⟩:=qQ k rfl k1 k4
  refine ⟨_,rfl,v,st,d,rfl,hd,_,rfl,?_⟩
  cases d with
  | tuple ds =>
    obtain ⟨a,xs,e,ne,ha,hds⟩:=hd.untup
    subst e
    have hlen:=hds.len
    have hl':=hl ds rfl
    refine iteF ⟨_,rfl,a,xs,rfl,.inr (.of ha),_,rfl,rfl,_,rfl,?_⟩
    have q0:=fun H' g=>q H' g
    unfold ruleD at q0
    by_cases hk':(ds.length:Int)=k
    · have e1:V.int (xs.length:Int)=V.int k:=by rw [<- hlen,hk']
      rw [decide_eq_true e1]
      refine iteF ?_
      have q1:∀ H',Same H H'->Q (.bl (ds.all (fun r=>wholesD 0 5 r && decide ((lenD r:Int)=k)))) H':=fun H' g=>by
        have:=q0 H' g
        simp only [decide_eq_true hk',Bool.true_and] at this
        exact this
      refine ⟨_,rfl,a,rfl,⟨xs,.of ha⟩,blk_tup (K:=K) (a:=a) (xs:=xs) (sz (by omega)) (fun i ys H2=>Same H H2/\i <= ds.length/\ys=(ds.take i).map fun r=>V.bl (wholesD 0 5 r && decide ((lenD r:Int)=k))) ⟨Same.refl H,Nat.zero_le _,rfl⟩ (fun i ys H2 h=>?_) (fun i ys H2 _ h=>.of (h.1 _ _ ha)) rfl (fun i ys H2 x hx h=>?_) (fun ys H2 h=>?_)⟩
      · obtain ⟨_,hil,rfl⟩:=h
        rw [List.length_map,List.length_take];omega
      · obtain ⟨hS,hil,rfl⟩:=h
        obtain ⟨d,hd',dt⟩:=hds.get hx
        have dt2:=dt.kp (hS.kp st)
        refine ⟨_,rfl,x,st,d,0,5,rfl,dt2,hl2 ds rfl d (List.mem_of_getElem? hd'),fun H3 g3=>⟨_,rfl,?_⟩⟩
        have fin:∀ b:Bool,b=(wholesD 0 5 d && decide ((lenD d:Int)=k))->Same H H3/\i + 1 <= ds.length/\((ds.take i).map fun r=>V.bl (wholesD 0 5 r && decide ((lenD r:Int)=k))) ++ [V.bl b]=(ds.take (i + 1)).map fun r=>V.bl (wholesD 0 5 r && decide ((lenD r:Int)=k)):=fun b e=>by
          subst e
          refine ⟨hS.trans g3,(List.getElem?_eq_some_iff.mp hd').1,?_⟩
          rw [List.take_add_one,hd',List.map_append];rfl
        cases hw:wholesD 0 5 d with
        | false=>exact iteF (fin false (by rw [hw];rfl))
        | true =>
          obtain ⟨ns,e,_⟩:=wholesD_ints hw
          subst e
          obtain ⟨b,e,_,hb⟩:=dt2.di
          subst e
          refine iteT ⟨_,rfl,b,_,rfl,.inr (.of (g3 _ _ hb)),_,rfl,rfl,?_⟩
          refine fin _ ?_
          rw [hw,Bool.true_and,lenD_DI,List.length_map]
          rw [decide_eq_decide]
          constructor
          · intro e;injection e
          · intro e;rw [e]
      · obtain ⟨hS,hil,rfl⟩:=h
        intro p hp
        refine ⟨p,_,rfl,.inl (.of upd_same),?_,?_⟩
        · rw [List.all_map];exact List.all_eq_true.mpr fun _ _=>rfl
        · have e:(((ds.take xs.length).map fun r=>V.bl (wholesD 0 5 r && decide ((lenD r:Int)=k))).all truV)=ds.all (fun r=>wholesD 0 5 r && decide ((lenD r:Int)=k)):=by
            rw [<- hlen,List.take_length,List.all_map];rfl
          rw [e]
          exact q1 _ (hS.trans (Same.new hp))
    · have e1:¬ V.int (xs.length:Int)=V.int k:=fun e=>hk' (by rw [hlen];injection e)
      rw [decide_eq_false e1]
      refine iteT ?_
      have:=q0 H (Same.refl H)
      simp only [decide_eq_false hk',Bool.false_and] at this
      exact this
  | _=>exact iteT (iteT (q H (Same.refl H)))
end
end G
namespace G
open PySem PySem.Spec PyProof.Rows L2 Mt
theorem boot_VE:bootBuiltins "ValueError"=some (.type "ValueError"):=by decide +kernel
def bsL (i:Nat):List Bool:=[decide (i=0),decide (i=1),decide (i=2),decide (i=3),decide (i=4),decide (i=5),decide (i=6),decide (i=7),decide (i=8),decide (i=9)]
theorem bsL_len (i:Nat):(bsL i).length=10:=rfl
theorem bs_len (i:Nat):(bsL i).length <= sizeLine:=by rw [bsL_len];decide
theorem bs_sum:∀ i:Nat,i < 10->((bsL i).map (fun b=>if b then (1:Int) else 0)).sum=1:=by decide
theorem bs_at:∀ i:Nat,i < 10->(bsL i)[i]?=some true/\∀ m,m < i->(bsL i)[m]?=some false:=by decide
section
variable {P:Program} {w:World} {K:PySem.W.Frag} {mg:Str->Option Value} {base:Heap} {f:Addr} {fd:FuncData}
def wordsL:List V:=[.str "urn",.str "rule",.str "kind",.str "ball",.str "draws",.str "number",.str "not even",.str "counts",.str "not alike",.str "note"]
def outV:Option Nat->V
  | none=>.non
  | some i=>wordsL.getD i .non
theorem words_at:∀ i:Nat,i < 10->atI wordsL (i:Int)=some (wordsL.getD i .non):=by
  intro i hi
  exact atI_nat (by rw [List.getElem?_eq_getElem (show i < wordsL.length from hi),List.getD_eq_getElem?_getD,List.getElem?_eq_getElem (show i < wordsL.length from hi)];rfl)
def Out (c:Nat->Addr) (H:Hp) (Q:VK) (E:XK):Option Nat->Prop
  | none=>∀ v H1,Same H H1->Q v H1
  | some i=>∀ H1,Same H H1->E (.ref (c i)) none H1
def sp_refused (P:Program) (w:World) (K:PySem.W.Frag) (mg:Str->Option Value) (base:Heap) (k:Nat) (c:Nat->Addr):Sp:=fun vs H Q _=>∃ (fa:Addr) (spL:Sp) (fo:Obj) (fd:FuncData) (o:Option Nat),vs=[.ref fa]/\H fa=some (KN fo)/\fo.data=.func fd /\
  bindArgs fd ⟨[],[]⟩=pure []/\FnOk P w K mg base (CX1 P w) k fa fd [] spL/\(∀ i,o=some i->i < 10)/\(∀ Q' E',Out c H Q' E' o->spL [] H Q' E')/\∀ H',Same H H'->Q (outV o) H'
abbrev s_refused:Stmt:=top 59
theorem sc_refused:FnScope ["_law_call","_law_error","e","_law_sorts","_law_words"] ["_law_call"] (defScope s_refused):=⟨rfl,rfl,rfl,by decide +kernel,rfl,by decide +kernel,by decide +kernel⟩
theorem ok_refused {c:Nat->Addr} {Bs:Addr} {k:Nat} (FF:Fun K "_law_refused" "_law_refused" s_refused f fd) (B:Bt mg) (R:Errs K mg c Bs) (hVE:mg "ValueError"=none):FnOk P w K mg base CX0 (k + 1) f fd ["_law_call"] (sp_refused P w K mg base k c):=by
  refine FF.ok sc_refused (fun vs H Q E h=>?_) (fun cdv A outer s H vs Q E hr h=>?_)
  · obtain ⟨fa,spL,fo,fd,o,rfl,_⟩:=h
    rfl
  obtain ⟨fa,spL,fo,fd',o,rfl,kn,hfd,bnd,FL,ho,hsp,q⟩:=h
  refine ⟨_,pss_cons (ps_set (i:=1) sc_refused.nd rfl (Or.inl rfl) pe_non)
    (pss_cons (ps_tryX (k:=k) (iC:=0) (iE:=2) (iR:=1) rfl rfl hr sc_refused.nd rfl (Or.inl rfl) rfl rfl rfl rfl (by decide) rfl R.eb R.bb)
    (pss_cons (ps_if (pt_cmp (pc_isN (pv 1))) (pss_one (ps_ret pe_non)) pss_nil)
    (pss_cons (ps_set (i:=3) sc_refused.nd rfl (Or.inl rfl) (pe_lst (pa_cons (pe_callB call_isx rfl B.isinstance boot_isinstance (pa_cons (pv 1) (pa_cons (pe_glob (v:=.ref (c 0)) rfl R.e0 rfl) pa_nil))) (pa_cons (pe_callB call_isx rfl B.isinstance boot_isinstance (pa_cons (pv 1) (pa_cons (pe_glob (v:=.ref (c 1)) rfl R.e1 rfl) pa_nil))) (pa_cons (pe_callB call_isx rfl B.isinstance boot_isinstance (pa_cons (pv 1) (pa_cons (pe_glob (v:=.ref (c 2)) rfl R.e2 rfl) pa_nil))) (pa_cons (pe_callB call_isx rfl B.isinstance boot_isinstance (pa_cons (pv 1) (pa_cons (pe_glob (v:=.ref (c 3)) rfl R.e3 rfl) pa_nil))) pa_nil))))))
    (pss_cons (ps_set (i:=3) sc_refused.nd rfl (Or.inl rfl) (pe_op op_cat (pv 3) (pe_lst (pa_cons (pe_callB call_isx rfl B.isinstance boot_isinstance (pa_cons (pv 1) (pa_cons (pe_glob (v:=.ref (c 4)) rfl R.e4 rfl) pa_nil))) (pa_cons (pe_callB call_isx rfl B.isinstance boot_isinstance (pa_cons (pv 1) (pa_cons (pe_glob (v:=.ref (c 5)) rfl R.e5 rfl) pa_nil))) (pa_cons (pe_callB call_isx rfl B.isinstance boot_isinstance (pa_cons (pv 1) (pa_cons (pe_glob (v:=.ref (c 6)) rfl R.e6 rfl) pa_nil))) pa_nil))))))
    (pss_cons (ps_set (i:=3) sc_refused.nd rfl (Or.inl rfl) (pe_op op_cat (pv 3) (pe_lst (pa_cons (pe_callB call_isx rfl B.isinstance boot_isinstance (pa_cons (pv 1) (pa_cons (pe_glob (v:=.ref (c 7)) rfl R.e7 rfl) pa_nil))) (pa_cons (pe_callB call_isx rfl B.isinstance boot_isinstance (pa_cons (pv 1) (pa_cons (pe_glob (v:=.ref (c 8)) rfl R.e8 rfl) pa_nil))) (pa_cons (pe_callB call_isx rfl B.isinstance boot_isinstance (pa_cons (pv 1) (pa_cons (pe_glob (v:=.ref (c 9)) rfl R.e9 rfl) pa_nil))) pa_nil))))))
    (pss_cons (ps_if (PW.pt (pw_or (pt_not (pt_val (pe_callB call_isx rfl B.isinstance boot_isinstance (pa_cons (pv 1) (pa_cons (pe_bty rfl hVE boot_VE) pa_nil)))))
      (pw_or1 (pt_cmpR op_ne (pe_callB (call_sum_seq rfl) rfl B.sum boot_sum (pa_cons (pe_compG (N:=["_law_one"]) (ix:=[none]) (ifs:=[]) (tc:=tTrue) rfl (pi_list (pv 3))
        (fun s H ex=>pg_c (i:=0) (by decide +kernel) rfl (Or.inl rfl) (.inr rfl)) (fun s H ex=>pifs_nil) (fun s H ex=>pe_callTy call_int1 rfl B.int boot_int (pa_cons (pv 0) pa_nil)) rfl (by decide +kernel) (by rfl) (by rfl) (fun _=>rfl)) pa_nil)) pe_int (nomark _)))))
      (pss_one (ps_ret pe_str)) pss_nil)
    (@pss_cons _ _ _ _ _ (@ps_set _ _ 4 _ _ _ _ sc_refused.nd rfl (Or.inl rfl) (@pe_lst _ _ _ _ (pa_consts rfl)) rfl (.inl rfl))
    (pss_one (ps_ret (pe_ix ix_list (pv 4) (pe_bm PySem.F.plainAttrs_list PySem.F.slot_list_index PySem.F.type_list_index mt_indexB (pv 3) (pa_cons pe_bl pa_nil)) (fun _ _=>rfl))))))))))),?_⟩
  refine ⟨fa,spL,rfl,⟨fo,fd',kn,hfd,bnd,FL⟩,hsp _ _ ?_⟩
  cases o with
  | none=>exact fun v H1 g1=>⟨_,rfl,_,rfl,iteT (q H1 g1)⟩
  | some i =>
    have hi:=ho i rfl
    intro H1 g1
    refine ⟨c i,rfl,R.sub i hi,fun a oe x na=>?_⟩
    have g2:Same H (upd H1 a (KN oe)):=g1.trans (Same.new na)
    have ha2:upd H1 a (KN oe) a=some (KN oe):=upd_same
    generalize upd H1 a (KN oe)=H2 at g2 ha2
    refine ⟨_,rfl,_,rfl,iteF ?_⟩
    refine ⟨_,rfl,a,oe,c i,_,_,_,rfl,ha2,x,R.xi i hi,rfl,R.one i 0 hi (by decide),_,rfl,a,oe,c i,_,_,_,rfl,ha2,x,R.xi i hi,rfl,R.one i 1 hi (by decide),_,rfl,a,oe,c i,_,_,_,rfl,ha2,x,R.xi i hi,rfl,R.one i 2 hi (by decide),_,rfl,a,oe,c i,_,_,_,rfl,ha2,x,R.xi i hi,rfl,R.one i 3 hi (by decide),(by show 4 <= sizeLine;decide),fun p hp=>?_⟩
    have g3:Same H2 (upd H2 p (.lst [.bl (decide (i=0)),.bl (decide (i=1)),.bl (decide (i=2)),.bl (decide (i=3))])):=Same.new hp
    have hp3:upd H2 p (.lst [.bl (decide (i=0)),.bl (decide (i=1)),.bl (decide (i=2)),.bl (decide (i=3))]) p=some (.lst [.bl (decide (i=0)),.bl (decide (i=1)),.bl (decide (i=2)),.bl (decide (i=3))]):=upd_same
    have ha3:=g3 _ _ ha2
    show tSeq _ _ _ _ (upd H2 p (.lst [.bl (decide (i=0)),.bl (decide (i=1)),.bl (decide (i=2)),.bl (decide (i=3))]))
    generalize upd H2 p (.lst [.bl (decide (i=0)),.bl (decide (i=1)),.bl (decide (i=2)),.bl (decide (i=3))])=H3 at g3 hp3 ha3
    refine ⟨_,rfl,_,rfl,a,oe,c i,_,_,_,rfl,ha3,x,R.xi i hi,rfl,R.one i 4 hi (by decide),_,rfl,a,oe,c i,_,_,_,rfl,ha3,x,R.xi i hi,rfl,R.one i 5 hi (by decide),_,rfl,a,oe,c i,_,_,_,rfl,ha3,x,R.xi i hi,rfl,R.one i 6 hi (by decide),(by show 3 <= sizeLine;decide),fun p2 hp2=>⟨p,p2,_,_,rfl,rfl,(by rw [upd_ne (ne_of_none hp3 hp2)];exact hp3),upd_same,(by show 4 + 3 <= sizeLine;decide),fun p4 hp4=>?_⟩⟩
    obtain ⟨H5,g5,hp5,e5⟩:∃ H5,Same H3 H5/\H5 p4=some (.lst [.bl (decide (i=0)),.bl (decide (i=1)),.bl (decide (i=2)),.bl (decide (i=3)),.bl (decide (i=4)),.bl (decide (i=5)),.bl (decide (i=6))])/\H5=upd (upd H3 p2 (.lst [.bl (decide (i=4)),.bl (decide (i=5)),.bl (decide (i=6))])) p4 (.lst [.bl (decide (i=0)),.bl (decide (i=1)),.bl (decide (i=2)),.bl (decide (i=3)),.bl (decide (i=4)),.bl (decide (i=5)),.bl (decide (i=6))]):=⟨_,(Same.new hp2).trans (Same.new hp4),upd_same,rfl⟩
    show tSeq _ _ _ _ (upd (upd H3 p2 (.lst [.bl (decide (i=4)),.bl (decide (i=5)),.bl (decide (i=6))])) p4 (.lst [.bl (decide (i=0)),.bl (decide (i=1)),.bl (decide (i=2)),.bl (decide (i=3)),.bl (decide (i=4)),.bl (decide (i=5)),.bl (decide (i=6))]))
    rw [<- e5]
    clear e5
    have ha5:=g5 _ _ ha3
    refine ⟨_,rfl,_,rfl,a,oe,c i,_,_,_,rfl,ha5,x,R.xi i hi,rfl,R.one i 7 hi (by decide),_,rfl,a,oe,c i,_,_,_,rfl,ha5,x,R.xi i hi,rfl,R.one i 8 hi (by decide),_,rfl,a,oe,c i,_,_,_,rfl,ha5,x,R.xi i hi,rfl,R.one i 9 hi (by decide),(by show 3 <= sizeLine;decide),fun p5 hp5'=>⟨p4,p5,_,_,rfl,rfl,(by rw [upd_ne (ne_of_none hp5 hp5')];exact hp5),upd_same,(by show 7 + 3 <= sizeLine;decide),fun p6 hp6=>?_⟩⟩
    obtain ⟨H7,g6,hl7,e7⟩:∃ H7,Same H5 H7/\H7 p6=some (.lst ((bsL i).map V.bl))/\H7=upd (upd H5 p5 (.lst [.bl (decide (i=7)),.bl (decide (i=8)),.bl (decide (i=9))])) p6 (.lst ((bsL i).map V.bl)):=⟨_,(Same.new hp5').trans (Same.new hp6),upd_same,rfl⟩
    show tSeq _ _ _ _ (upd (upd H5 p5 (.lst [.bl (decide (i=7)),.bl (decide (i=8)),.bl (decide (i=9))])) p6 (.lst ((bsL i).map V.bl)))
    rw [<- e7]
    clear e7
    have ha7:=g6 _ _ ha5
    have g7:Same H H7:=((g2.trans g3).trans g5).trans g6
    refine ⟨_,rfl,a,oe,c i,_,_,_,rfl,ha7,x,R.xi i hi,rfl,R.val i hi,_,rfl,iteF ?_⟩
    refine ⟨_,rfl,p6,rfl,⟨_,.of hl7⟩,blk_list (K:=K) (a:=p6) (xs:=(bsL i).map V.bl) (by rw [List.length_map];exact bs_len i) (fun j ys H2=>Same H7 H2/\j <= 10/\ys=((bsL i).take j).map fun b=>V.int (if b then 1 else 0)) ⟨Same.refl _,Nat.zero_le _,rfl⟩ (fun j ys H2 h=>?_) (fun j ys H2 _ h=>.of (h.1 _ _ hl7)) rfl (fun j ys H2 v hv h=>?_) (fun ys H2 h=>?_)⟩
    · obtain ⟨_,hj,rfl⟩:=h
      rw [List.length_map,List.length_take,bsL_len];omega
    · obtain ⟨hS,hj,rfl⟩:=h
      rw [List.getElem?_map] at hv
      obtain ⟨b,hb,ev⟩:=Option.map_eq_some_iff.mp hv
      subst ev
      refine ⟨_,rfl,.inr ⟨b,rfl,hS,?_,?_⟩⟩
      · have:=(List.getElem?_eq_some_iff.mp hb).1
        rw [bsL_len] at this
        exact this
      · rw [List.take_add_one,hb,List.map_append];rfl
    · obtain ⟨hS,hj,rfl⟩:=h
      intro pz hpz
      refine ⟨pz,((bsL i).take ((bsL i).map V.bl).length).map (fun b=>if b then 1 else 0),rfl,.inl (.of (by rw [upd_same,List.map_map];rfl)),rfl,_,rfl,?_⟩
      rw [List.length_map,List.take_length,bs_sum i hi]
      refine iteF ⟨(by show 10 <= sizeLine;decide),fun pw hpw=>?_⟩
      have gz:=(hS.trans (Same.new (o:=.lst (((bsL i).map fun b=>V.int (if b then 1 else 0)))) hpz)).trans (Same.new (o:=.lst wordsL) hpw)
      refine ⟨_,rfl,_,rfl,.inl ⟨rfl,_,.of (gz _ _ hl7)⟩,p6,bsL i,i,rfl,rfl,gz _ _ hl7,(bs_at i hi).1,(bs_at i hi).2,pw,_,_,_,rfl,rfl,.of upd_same,words_at i hi,q _ (g7.trans gz)⟩
end
end G
namespace G
open PySem PySem.Spec PyProof.Rows L2 Mt
theorem atI_int {ns:List Int} {k:Nat} (h:k < ns.length):atI (ns.map V.int) (k:Int)=some (.int (ns.getD k 0)):=by
  refine atI_nat ?_
  rw [List.getElem?_map,List.getElem?_eq_getElem h,List.getD_eq_getElem?_getD,List.getElem?_eq_getElem h];rfl
def StOk (x:Int) (b:Bool):Prop:=b=false->0 <= x/\x < 2147483647
section
variable {P:Program} {w:World} {K:PySem.W.Frag} {mg:Str->Option Value} {base:Heap} {f:Addr} {fd:FuncData}
def sp_cell_at (K:PySem.W.Frag):Sp:=fun vs H Q _=>∃ (a:Addr) (ns:List Int) (k:Nat),vs=[.ref a,.int k]/\SqL K H a (ns.map V.int)/\∀ x,Q (.int x) H
abbrev s_cell_at:Stmt:=top 43
theorem sc_cell_at:FnScope ["_law_script","_law_k"] ["_law_script","_law_k"] (defScope s_cell_at):=⟨rfl,rfl,rfl,by decide +kernel,rfl,by decide +kernel,by decide +kernel⟩
theorem ok_cell_at (F:Fun K "_law_cell_at" "_law_cell_at" s_cell_at f fd) (B:Bt mg):FnOk P w K mg base CX0 1 f fd ["_law_script","_law_k"] (sp_cell_at K):=by
  refine F.ok sc_cell_at (fun vs H Q E h=>?_) (fun cdv A outer s H vs Q E hr h=>?_)
  · obtain ⟨a,ns,k,rfl,_⟩:=h
    rfl
  obtain ⟨a,ns,k,rfl,ha,q⟩:=h
  refine ⟨_,pss_cons (ps_if (pt_cmpR op_lt (pv 1) (pe_callB call_len_seq rfl B.len PySem.boot_len (pa_cons (pv 0) pa_nil)) (nomark _)) (pss_one (ps_ret (pe_ix ix_list (pv 0) (pv 1) (fun _ _=>rfl)))) pss_nil)
    (pss_one (ps_ret pe_int)),?_⟩
  refine ⟨_,rfl,_,rfl,a,_,rfl,.inl ha,_,_,rfl,rfl,_,rfl,?_⟩
  refine ite2 (fun c=>?_) (fun c=>q 0)
  have c':(k:Int) < (((ns.map V.int).length:Nat):Int):=of_decide_eq_true c
  rw [List.length_map] at c'
  exact ⟨_,rfl,_,rfl,a,_,_,_,rfl,rfl,ha,atI_int (by omega),q _⟩
def sp_state (K:PySem.W.Frag):Sp:=fun vs H Q _=>∃ (a:Addr) (ns:List Int) (k:Nat),vs=[.ref a,.int k]/\SqL K H a (ns.map V.int)/\∀ l x b,H l=none->StOk x b->Q (.ref l) (upd H l (.lst [.int x,.bl b]))
abbrev s_state:Stmt:=top 44
theorem sc_state:FnScope ["_law_script","_law_k","_law_cell"] ["_law_script","_law_k"] (defScope s_state):=⟨rfl,rfl,rfl,by decide +kernel,rfl,by decide +kernel,by decide +kernel⟩
theorem ok_state (F:Fun K "_law_state" "_law_state" s_state f fd) (c1:Cal P w K mg base 1 "_law_cell_at" ["_law_script","_law_k"] (sp_cell_at K)):FnOk P w K mg base CX0 2 f fd ["_law_script","_law_k"] (sp_state K):=by
  refine F.ok sc_state (fun vs H Q E h=>?_) (fun cdv A outer s H vs Q E hr h=>?_)
  · obtain ⟨a,ns,k,rfl,_⟩:=h
    rfl
  obtain ⟨a,ns,k,rfl,ha,q⟩:=h
  refine ⟨_,pss_cons (ps_set (i:=2) sc_state.nd rfl (Or.inl rfl) (pe_cal c1 hr rfl (pa_cons (pv 0) (pa_cons (pv 1) pa_nil))))
    (pss_cons (ps_if (pt_cmpR op_ge (pv 2) (pe_op op_pow pe_int pe_int) (nomark _)) (pss_one (ps_ret (pe_lst (pa_cons (pe_op op_sub (pv 2) (pe_op op_pow pe_int pe_int)) (pa_cons pe_bl pa_nil))))) pss_nil)
    (pss_one (ps_ret (pe_lst (pa_cons (pe_op op_mod (pv 2) pe_int) (pa_cons pe_bl pa_nil)))))),?_⟩
  have hp:CPow 10 18:=⟨by decide,by decide,by decide⟩
  refine ⟨_,rfl,_,rfl,a,ns,k,rfl,ha,fun x=>?_⟩
  refine ⟨_,rfl,_,_,rfl,rfl,hp,_,_,rfl,rfl,_,rfl,?_⟩
  refine ite2 (fun c=>?_) (fun c=>?_)
  · exact ⟨_,rfl,_,_,rfl,rfl,hp,_,_,rfl,rfl,(by show 2 <= sizeLine;decide),fun l hl=>q l _ _ hl (fun z=>by cases z)⟩
  · exact ⟨_,rfl,_,_,rfl,rfl,(by show (0:Int) < 2147483647;decide),(by show 2 <= sizeLine;decide),fun l hl=>q l _ _ hl (fun _=>⟨Int.emod_nonneg _ (by decide),Int.emod_lt_of_pos _ (by decide)⟩)⟩
def sp_take:Sp:=fun vs H Q _=>∃ (l:Addr) (m x:Int) (b:Bool),vs=[.ref l,.int m]/\H l=some (.lst [.int x,.bl b])/\StOk x b/\1 <= m/\m <= 1000 /\
  ∀ (y:Nat) (x':Int),(y:Int) < m->StOk x' b->Q (.int y) (upd H l (.lst [.int x',.bl b]))
abbrev s_take:Stmt:=top 45
theorem sc_take:FnScope ["_law_state_here","_law_many","_law_found","_law_mixed"] ["_law_state_here","_law_many"] (defScope s_take):=⟨rfl,rfl,rfl,by decide +kernel,rfl,by decide +kernel,by decide +kernel⟩
theorem ok_take (F:Fun K "_law_take" "_law_take" s_take f fd):FnOk P w K mg base CX0 1 f fd ["_law_state_here","_law_many"] sp_take:=by
  refine F.ok sc_take (fun vs H Q E h=>?_) (fun cdv A outer s H vs Q E hr h=>?_)
  · obtain ⟨l,m,x,b,rfl,_⟩:=h
    rfl
  obtain ⟨l,m,x,b,rfl,hl,hst,m1,m2,q⟩:=h
  refine ⟨_,pss_cons (ps_if (pt_val (pe_ix ix_list (pv 0) pe_int (fun _ _=>rfl)))
      (pss_cons (ps_set (i:=2) sc_take.nd rfl (Or.inl rfl) (pe_op op_mod (pe_ix ix_list (pv 0) pe_int (fun _ _=>rfl)) (pv 1)))
      (pss_cons (ps_asg (pe_op op_fdiv (pe_ix ix_list (pv 0) pe_int (fun _ _=>rfl)) (pv 1)) (pg_sub (pv 0) pe_int set_list))
      (pss_one (ps_ret (pv 2))))) pss_nil)
    (pss_cons (ps_asg (pe_op op_mod (pe_op op_add (pe_op op_mul (pe_ix ix_list (pv 0) pe_int (fun _ _=>rfl)) pe_int) pe_int) pe_int) (pg_sub (pv 0) pe_int set_list))
    (pss_cons (ps_set (i:=3) sc_take.nd rfl (Or.inl rfl) (pe_op op_mod (pe_op op_add (pe_op op_add (pe_op op_mul (pe_ix ix_list (pv 0) pe_int (fun _ _=>rfl)) (pe_ix ix_list (pv 0) pe_int (fun _ _=>rfl))) (pe_op op_mul pe_int (pe_ix ix_list (pv 0) pe_int (fun _ _=>rfl)))) pe_int) pe_int))
    (pss_cons (ps_set (i:=3) sc_take.nd rfl (Or.inl rfl) (pe_op op_mod (pe_op op_add (pe_op op_mul (pv 3) (pv 3)) (pe_op op_mul pe_int (pv 3))) pe_int))
    (pss_one (ps_ret (pe_op op_mod (pe_op op_fdiv (pv 3) pe_int) (pv 1))))))),?_⟩
  have fin:∀ (z x':Int),StOk x' b->Q (.int (z % m)) (upd H l (.lst [.int x',.bl b])):=fun z x' h=>by
    have h1:=Int.emod_nonneg z (show m ≠ 0 by omega)
    have h2:=Int.emod_lt_of_pos z (show 0 < m by omega)
    have e:z % m=(((z % m).toNat:Nat):Int):=by omega
    rw [e]
    exact q _ x' (by omega) h
  refine ⟨_,rfl,l,_,_,_,rfl,rfl,.of hl,atI_nat (j:=1) rfl,_,rfl,?_⟩
  cases b with
  | true =>
    refine iteT ⟨_,rfl,l,_,_,_,rfl,rfl,.of hl,atI_nat (j:=0) rfl,_,rfl,_,_,rfl,rfl,(by omega),?_⟩
    refine ⟨_,rfl,l,_,_,_,rfl,rfl,.of hl,atI_nat (j:=0) rfl,_,rfl,_,_,rfl,rfl,⟨by omega,by omega⟩,_,rfl,l,_,_,0,rfl,rfl,hl,rfl,?_⟩
    exact ⟨_,rfl,fin _ _ (fun z=>by cases z)⟩
  | false =>
    obtain ⟨x0,x1⟩:=hst rfl
    refine iteF ⟨_,rfl,l,_,_,_,rfl,rfl,.of hl,atI_nat (j:=0) rfl,_,_,rfl,rfl,.inl ⟨by omega,by omega⟩,_,_,rfl,rfl,_,_,rfl,rfl,(by show (0:Int) < 2147483647;decide),_,rfl,l,_,_,0,rfl,rfl,hl,rfl,?_⟩
    have y0:=Int.emod_nonneg (x * 48271 + 29) (show (2147483647:Int) ≠ 0 by decide)
    have y1:=Int.emod_lt_of_pos (x * 48271 + 29) (show (0:Int) < 2147483647 by decide)
    show tSeq _ _ _ _ (upd H l (.lst [.int ((x * 48271 + 29) % 2147483647),.bl false]))
    generalize (x * 48271 + 29) % 2147483647=y at y0 y1
    have hl2:upd H l (.lst [.int y,.bl false]) l=some (.lst [.int y,.bl false]):=upd_same
    refine ⟨_,rfl,l,_,_,_,rfl,rfl,.of hl2,atI_nat (j:=0) rfl,_,rfl,l,_,_,_,rfl,rfl,.of hl2,atI_nat (j:=0) rfl,_,_,rfl,rfl,.inl ⟨by omega,by omega⟩,_,rfl,l,_,_,_,rfl,rfl,.of hl2,atI_nat (j:=0) rfl,_,_,rfl,rfl,.inr ⟨by omega,by omega⟩,_,_,rfl,rfl,_,_,rfl,rfl,_,_,rfl,rfl,(by show (0:Int) < 2147483629;decide),?_⟩
    have z0:=Int.emod_nonneg (y * y + 39373 * y + 7) (show (2147483629:Int) ≠ 0 by decide)
    have z1:=Int.emod_lt_of_pos (y * y + 39373 * y + 7) (show (0:Int) < 2147483629 by decide)
    generalize (y * y + 39373 * y + 7) % 2147483629=z at z0 z1
    refine ⟨_,rfl,_,rfl,_,_,rfl,rfl,.inl ⟨by omega,by omega⟩,_,rfl,_,_,rfl,rfl,.inr ⟨by omega,by omega⟩,_,_,rfl,rfl,_,_,rfl,rfl,(by show (0:Int) < 2147483587;decide),?_⟩
    exact ⟨_,rfl,_,_,rfl,rfl,⟨by decide,by decide⟩,_,rfl,_,_,rfl,rfl,(by omega),fin _ _ (fun _=>⟨y0,y1⟩)⟩
end
end G
namespace G
open PySem PySem.Spec PyProof.Rows L2 Mt
structure Bt2 (mg:Str->Option Value):Prop where
  any:mg "any"=none
theorem boot_any:bootBuiltins "any"=some (.builtin "any"):=by decide +kernel
theorem any_pos:∀ {ns:List Int},(∀ x ∈ ns,0 <= x)->(ns.map V.int).any truV=decide (0 < ns.sum)
  | [],_=>rfl
  | a :: ns,h=>by
    have h1:=h a List.mem_cons_self
    have h2:=Mt.sum_nonneg (l:=ns) fun x hx=>h x (List.mem_cons_of_mem _ hx)
    rw [List.map_cons,List.any_cons,any_pos fun x hx=>h x (List.mem_cons_of_mem _ hx),List.sum_cons]
    show ((a != 0) || _)=_
    by_cases ha:a=0
    · subst ha
      rw [Int.zero_add];rfl
    · rw [bne_iff_ne.mpr ha,Bool.true_or,decide_eq_true (by omega)]
def wInt:PyData->Bool
  | .int _=>true
  | _=>false
section
variable {P:Program} {w:World} {K:PySem.W.Frag} {mg:Str->Option Value} {base:Heap} {f:Addr} {fd:FuncData}
def sp_lwhole:Sp:=fun vs H Q _=>∃ (v:V) (st:Addr) (d:PyData),vs=[v]/\Dt st H d v/\Q (.bl (wInt d)) H
abbrev s_whole:Stmt:=top 51
theorem sc_whole:FnScope ["_law_thing"] ["_law_thing"] (defScope s_whole):=⟨rfl,rfl,rfl,by decide +kernel,rfl,by decide +kernel,by decide +kernel⟩
theorem ok_whole (F:Fun K "_law_whole" "_law_whole" s_whole f fd) (B:Bt mg):FnOk P w K mg base CX0 1 f fd ["_law_thing"] sp_lwhole:=by
  refine F.ok sc_whole (fun vs H Q E h=>?_) (fun cdv A outer s H vs Q E hr h=>?_)
  · obtain ⟨v,st,d,rfl,_⟩:=h
    rfl
  obtain ⟨v,st,d,rfl,hd,q⟩:=h
  refine ⟨_,pss_one (ps_ret (pe_and (pe_callB (call_isi kit_int) rfl B.isinstance boot_isinstance (pa_cons (pv 0) (pa_cons (pe_bty rfl B.int boot_int) pa_nil)))
    (pe_one (pe_not (pe_callB (call_isi kit_bool) rfl B.isinstance boot_isinstance (pa_cons (pv 0) (pa_cons (pe_bty rfl B.bool boot_bool) pa_nil))))))),?_⟩
  refine ⟨_,rfl,v,st,d,rfl,hd,_,rfl,?_⟩
  cases d with
  | bool b=>exact iteT ⟨_,rfl,v,st,_,rfl,hd,_,rfl,q⟩
  | int i=>exact iteT ⟨_,rfl,v,st,_,rfl,hd,_,rfl,q⟩
  | _=>exact iteF q
theorem look_run {c1:Unit} {st:Addr} {H:Hp} {hi:Int} {x:V} {d:PyData} {Q:VK} (dt:Dt st H d x) (q:Q (.bl (wholeD 0 hi d)) H) :
    tAndV (tCb sp_lwhole (tCons (tVar 0) tNil)) (tChain (rI0 fun i j=>.bl (decide (i <= j))) (rI0 fun i j=>.bl (decide (i <= j))) (tC (.int 0)) (tVar 0) (tC (.int hi))) [some x] H Q:=by
  refine ⟨_,rfl,x,st,d,rfl,dt,_,rfl,?_⟩
  cases d with
  | int i =>
    refine iteT ?_
    unfold Dt at dt
    subst dt
    refine ⟨_,rfl,0,i,rfl,rfl,_,rfl,?_⟩
    have q':Q (.bl (decide (0 <= i) && decide (i <= hi))) H:=q
    by_cases h1:0 <= i
    · rw [decide_eq_true h1,Bool.true_and] at q'
      rw [decide_eq_true h1]
      exact iteT ⟨i,hi,rfl,rfl,q'⟩
    · rw [decide_eq_false h1,Bool.false_and] at q'
      rw [decide_eq_false h1]
      exact iteF q'
  | _=>exact iteF q
abbrev s_lis_urn:Stmt:=top 52
theorem sc_lis_urn:FnScope ["_law_thing"] ["_law_thing"] (defScope s_lis_urn):=⟨rfl,rfl,rfl,by decide +kernel,rfl,by decide +kernel,by decide +kernel⟩
theorem ok_lis_urn (F:Fun K "_law_is_urn" "_law_is_urn" s_lis_urn f fd) (B:Bt mg) (B2:Bt2 mg) (c1:Cal P w K mg base 1 "_law_whole" ["_law_thing"] sp_lwhole):FnOk P w K mg base CX0 2 f fd ["_law_thing"] sp_is_urn:=by
  refine F.ok sc_lis_urn (fun vs H Q E h=>?_) (fun cdv A outer s H vs Q E hr h=>?_)
  · obtain ⟨v,st,d,rfl,_⟩:=h
    rfl
  obtain ⟨v,st,d,rfl,hd,hl,q⟩:=h
  refine ⟨_,pss_cons (ps_if (PW.pt (pw_or (pt_not (pt_val (pe_callB (call_isi kit_tup) rfl B.isinstance boot_isinstance (pa_cons (pv 0) (pa_cons (pe_bty rfl B.tuple boot_tuple) pa_nil)))))
      (pw_or1 (pt_not (pt_chain op_le op_le pe_int (pe_callB call_len_seq rfl B.len PySem.boot_len (pa_cons (pv 0) pa_nil)) pe_int))))) (pss_one (ps_ret pe_bl)) pss_nil)
    (pss_one (ps_ret (pe_and (pe_callB (call_all_seq rfl) rfl B.all boot_all (pa_cons (pe_compG (N:=["_law_many"]) (ix:=[none]) (ifs:=[]) (tc:=tTrue) rfl (pi_tup (pv 0)) (fun s H ex=>pg_c (i:=0) (by decide +kernel) rfl (Or.inl rfl) (.inr rfl)) (fun s H ex=>pifs_nil) (fun s H ex=>pe_and (pe_cal c1 hr rfl (pa_cons (pv 0) pa_nil)) (pe_one (pe_chain op_le op_le pe_int (pv 0) pe_int))) rfl (by decide +kernel) (by rfl) (by rfl) (fun _=>rfl)) pa_nil)) (pe_one (pe_callB (call_any_seq rfl) rfl B2.any boot_any (pa_cons (pv 0) pa_nil)))))),?_⟩
  refine ⟨_,rfl,v,st,d,rfl,hd,_,rfl,?_⟩
  have no:(∀ ds,d=.tuple ds->¬ (1 <= ds.length/\ds.length <= 4) ∨ ds.all (wholeD 0 20)=false)->urnD 20 d=false:=fun h=>by
    unfold urnD
    cases d with
    | tuple ds =>
      rcases h ds rfl with z | z
      · show (ds.all (wholeD 0 20) && ((decide ((1:Int) <= (ds.length:Int)) && decide ((ds.length:Int) <= 4)) && _))=false
        have:(decide ((1:Int) <= (ds.length:Int)) && decide ((ds.length:Int) <= 4))=false:=by
          rw [Bool.and_eq_false_iff,decide_eq_false_iff_not,decide_eq_false_iff_not];omega
        rw [this,Bool.false_and,Bool.and_false]
      · show (ds.all (wholeD 0 20) && _)=false
        rw [z,Bool.false_and]
    | _=>rfl
  cases d with
  | tuple ds =>
    obtain ⟨a,xs,e,ne,ha,hds⟩:=hd.untup
    subst e
    have hlen:=hds.len
    refine iteF ⟨_,rfl,a,xs,rfl,.inr (.of ha),_,_,rfl,rfl,_,rfl,?_⟩
    have qb:∀ (b:Bool) (H':Hp),Same H H'->urnD 20 (.tuple ds)=b->Q (.bl b) H':=fun b H' g e=>by rw [<- e];exact q H' g
    have bad:¬ (1 <= ds.length/\ds.length <= 4)->Q (.bl false) H:=fun z=>qb false H (Same.refl H) (no fun ds' e=>by cases e;exact .inl z)
    rw [<- hlen]
    by_cases h1:(1:Int) <= (ds.length:Int)
    · rw [decide_eq_true h1]
      refine iteT ⟨_,_,rfl,rfl,_,rfl,?_⟩
      by_cases h4:(ds.length:Int) <= 4
      · rw [decide_eq_true h4]
        refine iteF ⟨_,rfl,a,rfl,⟨xs,.of ha⟩,blk_tup (K:=K) (a:=a) (xs:=xs) (sz (by omega)) (fun i ys H2=>Same H H2/\i <= ds.length/\ys=(ds.take i).map fun d=>V.bl (wholeD 0 20 d)) ⟨Same.refl H,Nat.zero_le _,rfl⟩ (fun i ys H2 h=>?_) (fun i ys H2 _ h=>.of (h.1 _ _ ha)) rfl (fun i ys H2 x hx h=>?_) (fun ys H2 h=>?_)⟩
        · obtain ⟨_,hi,rfl⟩:=h
          rw [List.length_map,List.length_take];omega
        · obtain ⟨hS,hil,rfl⟩:=h
          obtain ⟨d,hd',dt⟩:=hds.get hx
          refine look_run (c1:=()) (hi:=20) (dt.kp (hS.kp st)) ⟨hS,(List.getElem?_eq_some_iff.mp hd').1,?_⟩
          rw [List.take_add_one,hd',List.map_append];rfl
        · obtain ⟨hS,hil,rfl⟩:=h
          intro p hp
          have e:(((ds.take xs.length).map fun d=>V.bl (wholeD 0 20 d)).all truV)=wholesD 0 20 (.tuple ds):=by
            rw [<- hlen,List.take_length,List.all_map];rfl
          refine ⟨p,_,rfl,.inl (.of upd_same),(by rw [List.all_map];exact List.all_eq_true.mpr fun _ _=>rfl),_,rfl,?_⟩
          rw [e]
          cases hw:wholesD 0 20 (.tuple ds) with
          | false =>
            exact iteF (qb false _ (hS.trans (Same.new hp)) (no fun ds' e=>by cases e;exact .inr hw))
          | true =>
            obtain ⟨ns,e,hns⟩:=all_ints (show ds.all (wholeD 0 20)=true from hw)
            subst e
            have hxs:=hds.ints_eq
            subst hxs
            have hlen2:(ns.map PyData.int).length=ns.length:=List.length_map ..
            refine iteT ⟨_,rfl,a,_,rfl,.inr (.of ((hS.trans (Same.new hp)) _ _ ha)),(by rw [List.all_map];exact List.all_eq_true.mpr fun _ _=>rfl),?_⟩
            rw [hlen2] at h1 h4
            refine qb _ _ (hS.trans (Same.new hp)) ?_
            unfold urnD
            rw [lenD_DI,sumD_DI,hw,Bool.true_and,decide_eq_true h1,decide_eq_true h4,Bool.true_and,Bool.true_and,any_pos fun x hx=>(hns x hx).1]
      · rw [decide_eq_false h4]
        exact iteT (bad fun z=>h4 (by omega))
    · rw [decide_eq_false h1]
      exact iteF ⟨_,rfl,iteT (bad fun z=>h1 (by omega))⟩
  | _=>exact iteT (iteT (by have:=q H (Same.refl H);rw [no fun ds e=>by cases e] at this;exact this))
def sp_lis_rule:Sp:=fun vs H Q _=>∃ (v:V) (st:Addr) (d:PyData) (k:Int),vs=[.int k,v]/\Dt st H d v/\k <= 1000/\∀ H',Same H H'->Q (.bl (ruleD k d)) H'
abbrev s_lis_rule:Stmt:=top 53
theorem sc_lis_rule:FnScope ["_law_kinds","_law_thing","_law_row"] ["_law_kinds","_law_thing"] (defScope s_lis_rule):=⟨rfl,rfl,rfl,by decide +kernel,rfl,by decide +kernel,by decide +kernel⟩
theorem ok_lis_rule (F:Fun K "_law_is_rule" "_law_is_rule" s_lis_rule f fd) (B:Bt mg) (c1:Cal P w K mg base 1 "_law_whole" ["_law_thing"] sp_lwhole):FnOk P w K mg base CX0 2 f fd ["_law_kinds","_law_thing"] sp_lis_rule:=by
  refine F.ok sc_lis_rule (fun vs H Q E h=>?_) (fun cdv A outer s H vs Q E hr h=>?_)
  · obtain ⟨v,st,d,k,rfl,_⟩:=h
    rfl
  obtain ⟨v,st,d,k,rfl,hd,hk1000,q⟩:=h
  refine ⟨_,pss_cons (ps_if (PW.pt (pw_or (pt_not (pt_val (pe_callB (call_isi kit_tup) rfl B.isinstance boot_isinstance (pa_cons (pv 1) (pa_cons (pe_bty rfl B.tuple boot_tuple) pa_nil)))))
      (pw_or1 (pt_cmpR op_ne (pe_callB call_len_seq rfl B.len PySem.boot_len (pa_cons (pv 1) pa_nil)) (pv 0) (nomark _))))) (pss_one (ps_ret pe_bl)) pss_nil)
    (pss_cons (ps_for PassesOwn.never rfl (pi_tup (pv 1)) (pg_name (i:=2) sc_lis_rule.nd rfl (Or.inl rfl))
      (pss_cons (ps_if (PW.pt (pw_or (pt_not (pt_val (pe_callB (call_isi kit_tup) rfl B.isinstance boot_isinstance (pa_cons (pv 2) (pa_cons (pe_bty rfl B.tuple boot_tuple) pa_nil)))))
      (pw_or1 (pt_cmpR op_ne (pe_callB call_len_seq rfl B.len PySem.boot_len (pa_cons (pv 2) pa_nil)) (pv 0) (nomark _))))) (pss_one (ps_ret pe_bl)) pss_nil)
      (pss_one (ps_if (pt_not (pt_val (pe_callB (call_all_seq rfl) rfl B.all boot_all (pa_cons (pe_compG (N:=["_law_many"]) (ix:=[none]) (ifs:=[]) (tc:=tTrue) rfl (pi_tup (pv 2)) (fun s H ex=>pg_c (i:=0) (by decide +kernel) rfl (Or.inl rfl) (.inr rfl)) (fun s H ex=>pifs_nil) (fun s H ex=>pe_and (pe_cal c1 hr rfl (pa_cons (pv 0) pa_nil)) (pe_one (pe_chain op_le op_le pe_int (pv 0) pe_int))) rfl (by decide +kernel) (by rfl) (by rfl) (fun _=>rfl)) pa_nil)))) (pss_one (ps_ret pe_bl)) pss_nil))))
    (pss_one (ps_ret pe_bl))),?_⟩
  refine ⟨_,rfl,v,st,d,rfl,hd,_,rfl,?_⟩
  cases d with
  | tuple ds =>
    obtain ⟨a,xs,e,ne,ha,hds⟩:=hd.untup
    subst e
    have hlen:=hds.len
    have qr:∀ (b:Bool) (H':Hp),Same H H'->b=(decide ((ds.length:Int)=k) && ds.all (fun r=>wholesD 0 5 r && decide ((lenD r:Int)=k)))->Q (.bl b) H':=fun b H' g e=>by
      have:=q H' g
      rw [e]
      exact this
    refine iteF ⟨_,rfl,a,xs,rfl,.inr (.of ha),_,rfl,rfl,_,rfl,?_⟩
    by_cases hk:(ds.length:Int)=k
    · have e1:V.int (xs.length:Int)=V.int k:=by rw [<- hlen,hk]
      rw [decide_eq_true e1]
      refine iteF ⟨_,rfl,a,rfl,⟨xs,.of ha⟩,?_⟩
      refine for_tup (K:=K) (a:=a) (xs:=xs) (fun i σ H2=>Same H H2/\i <= ds.length/\(∃ o,σ=[some (.int k),some (.ref a),o])/\(ds.take i).all (fun r=>wholesD 0 5 r && decide ((lenD r:Int)=k))=true) ⟨Same.refl H,Nat.zero_le _,⟨_,rfl⟩,rfl⟩ (fun i σ H2 _ h=>.of (h.1 _ _ ha)) (fun i x σ H2 hx h=>?_) (fun σ H2 h=>?_)
      · obtain ⟨g2,hi,⟨o,rfl⟩,hal⟩:=h
        obtain ⟨r,hd',dt0⟩:=hds.get hx
        have dt:=dt0.kp (g2.kp st)
        have bad:(wholesD 0 5 r && decide ((lenD r:Int)=k))=false->∀ H3,Same H H3->Q (.bl false) H3:=fun z H3 g3=>qr _ _ g3 (by
          rw [decide_eq_true hk,Bool.true_and]
          refine (Bool.eq_false_iff.mpr fun y=>?_).symm
          rw [List.all_eq_true.mp y r (List.mem_of_getElem? hd')] at z
          cases z)
        refine ⟨_,rfl,x,st,r,rfl,dt,_,rfl,?_⟩
        cases r with
        | tuple rs =>
          obtain ⟨b,ys,e,_,hb,hrs⟩:=dt.untup
          subst e
          have hl2:=hrs.len
          refine iteF ⟨_,rfl,b,ys,rfl,.inr (.of hb),_,rfl,rfl,_,rfl,?_⟩
          by_cases hk2:(rs.length:Int)=k
          · have e2:V.int (ys.length:Int)=V.int k:=by rw [<- hl2,hk2]
            rw [decide_eq_true e2]
            refine iteF ⟨_,rfl,b,rfl,⟨ys,.of hb⟩,blk_tup (K:=K) (a:=b) (xs:=ys) (sz (by omega)) (fun j zs H3=>Same H2 H3/\j <= rs.length/\zs=(rs.take j).map fun d=>V.bl (wholeD 0 5 d)) ⟨Same.refl _,Nat.zero_le _,rfl⟩ (fun j zs H3 h=>?_) (fun j zs H3 _ h=>.of (h.1 _ _ hb)) rfl (fun j zs H3 y hy h=>?_) (fun zs H3 h=>?_)⟩
            · obtain ⟨_,hj,rfl⟩:=h
              rw [List.length_map,List.length_take];omega
            · obtain ⟨g3,hj,rfl⟩:=h
              obtain ⟨d,hd3,dt3⟩:=hrs.get hy
              refine look_run (c1:=()) (hi:=5) (dt3.kp (g3.kp st)) ⟨g3,(List.getElem?_eq_some_iff.mp hd3).1,?_⟩
              rw [List.take_add_one,hd3,List.map_append];rfl
            · obtain ⟨g3,hj,rfl⟩:=h
              intro p hp
              have e:(((rs.take ys.length).map fun d=>V.bl (wholeD 0 5 d)).all truV)=wholesD 0 5 (.tuple rs):=by
                rw [<- hl2,List.take_length,List.all_map];rfl
              refine ⟨p,_,rfl,.inl (.of upd_same),(by rw [List.all_map];exact List.all_eq_true.mpr fun _ _=>rfl),_,rfl,?_⟩
              rw [e]
              cases hw:wholesD 0 5 (.tuple rs) with
              | false =>
                refine iteT (bad ?_ _ ((g2.trans g3).trans (Same.new hp)))
                rw [hw,Bool.false_and]
              | true =>
                refine iteF ⟨(g2.trans g3).trans (Same.new hp),(List.getElem?_eq_some_iff.mp hd').1,⟨_,rfl⟩,?_⟩
                rw [List.take_add_one,hd',List.all_append,hal]
                show (true && ([PyData.tuple rs].all _))=true
                rw [List.all_cons,hw,show decide ((lenD (.tuple rs):Int)=k)=true from decide_eq_true hk2];rfl
          · have e2:¬ V.int (ys.length:Int)=V.int k:=fun e=>hk2 (by rw [hl2];injection e)
            rw [decide_eq_false e2]
            refine iteT (bad ?_ H2 g2)
            rw [show decide ((lenD (.tuple rs):Int)=k)=false from decide_eq_false hk2,Bool.and_false]
        | _=>exact iteT (iteT (bad rfl H2 g2))
      · obtain ⟨g2,_,⟨o,rfl⟩,hal⟩:=h
        rw [<- hlen,List.take_length] at hal
        exact qr _ _ g2 (by rw [decide_eq_true hk,hal];rfl)
    · have e1:¬ V.int (xs.length:Int)=V.int k:=fun e=>hk (by rw [hlen];injection e)
      rw [decide_eq_false e1]
      exact iteT (qr _ _ (Same.refl H) (by rw [decide_eq_false hk];rfl))
  | _=>exact iteT (iteT (q H (Same.refl H)))
end
end G
namespace G
open PySem PySem.Spec PyProof.Rows L2 Mt
theorem ixN_nat {n k:Nat} (h:k < n):ixN n (k:Int)=some k:=by
  unfold ixN
  rw [if_pos (by omega),if_pos (by omega)];simp
theorem set_pos':∀ {l:List Int} {y:Nat} {v:Int},(∀ x ∈ l,0 <= x)->0 < v->y < l.length->0 < (l.set y v).sum
  | [],y,_,_,_,h=>by simp at h
  | a :: l,0,v,h,hv,_=>by
    rw [List.set_cons_zero,List.sum_cons]
    have:=Mt.sum_nonneg (l:=l) fun x hx=>h x (List.mem_cons_of_mem _ hx)
    omega
  | a :: l,y + 1,v,h,hv,hy=>by
    rw [List.set_cons_succ,List.sum_cons]
    have h1:=set_pos' (l:=l) (y:=y) (fun x hx=>h x (List.mem_cons_of_mem _ hx)) hv (by simpa using hy)
    have h2:=h a List.mem_cons_self
    omega
abbrev DR (rs:List (List Int)):PyData:=.tuple (rs.map DI)
theorem short_DI {ns:List Int} (h:ns.length <= 1000):short (DI ns):=fun ds e=>by
  injection e with e
  rw [<- e,List.length_map];exact h
theorem short_DR {rs:List (List Int)} (h:rs.length <= 1000):short (DR rs):=fun ds e=>by
  injection e with e
  rw [<- e,List.length_map];exact h
theorem shorts_DR {n:Nat} {rs:List (List Int)} (h:Rul n 5 rs) (hn:n <= 1000):∀ ds,DR rs=.tuple ds->∀ r ∈ ds,short r:=fun ds e r hr=>by
  injection e with e
  rw [<- e] at hr
  obtain ⟨row,hrow,e2⟩:=List.mem_map.mp hr
  rw [<- e2]
  exact short_DI (by rw [(h.row row hrow).len];exact hn)
theorem dr_row {st:Addr} {H:Hp} {rs:List (List Int)} {v:V} {k:Nat} (h:Dt st H (DR rs) v) (hk:k < rs.length) :
    ∃ r xs b,v=.ref r/\H r=some (.tup xs)/\xs[k]?=some (.ref b)/\H b=some (.tup ((rs.getD k []).map V.int)):=by
  obtain ⟨r,xs,e,_,hr,hds⟩:=h.untup
  have hl:=hds.len
  rw [List.length_map] at hl
  have hkx:k < xs.length:=by omega
  obtain ⟨d,hd,dt⟩:=hds.get (i:=k) (x:=xs[k]) (List.getElem?_eq_getElem hkx)
  rw [List.getElem?_map,List.getElem?_eq_getElem hk] at hd
  have e2:rs.getD k []=rs[k]:=by rw [List.getD_eq_getElem?_getD,List.getElem?_eq_getElem hk];rfl
  have e3:d=DI rs[k]:=(Option.some.inj hd).symm
  subst e3
  obtain ⟨b,eb,_,hb⟩:=dt.di
  exact ⟨r,xs,b,e,hr,by rw [List.getElem?_eq_getElem hkx,eb],by rw [e2];exact hb⟩
theorem urnD_of {n:Nat} {ns:List Int} (h:Urn n 20 ns) (h1:1 <= n) (h4:n <= 4):urnD 20 (DI ns)=true:=by
  unfold urnD
  rw [lenD_DI,sumD_DI,h.len,decide_eq_true (show (1:Int) <= (n:Int) by omega),decide_eq_true (show (n:Int) <= 4 by omega),decide_eq_true h.pos]
  have:wholesD 0 20 (DI ns)=true:=by
    show (ns.map PyData.int).all (wholeD 0 20)=true
    rw [List.all_map]
    refine List.all_eq_true.mpr fun x hx=>?_
    have:=h.nn x hx
    show (decide ((0:Int) <= x) && decide (x <= 20))=true
    rw [decide_eq_true this.1,decide_eq_true (show x <= 20 by omega)];rfl
  rw [this];rfl
theorem ruleD_of {n:Nat} {rs:List (List Int)} (h:Rul n 5 rs):ruleD n (DR rs)=true:=by
  show (decide (((rs.map DI).length:Int)=n) && (rs.map DI).all (fun r=>wholesD 0 5 r && decide ((lenD r:Int)=n)))=true
  rw [List.length_map,h.len,decide_eq_true rfl,Bool.true_and,List.all_map]
  refine List.all_eq_true.mpr fun r hr=>?_
  have hw:=h.row r hr
  show (wholesD 0 5 (DI r) && decide ((lenD (DI r):Int)=n))=true
  rw [lenD_DI,hw.len,decide_eq_true rfl,Bool.and_true]
  show (r.map PyData.int).all (wholeD 0 5)=true
  rw [List.all_map]
  refine List.all_eq_true.mpr fun x hx=>?_
  have:=hw.nn x hx
  show (decide ((0:Int) <= x) && decide (x <= 5))=true
  rw [decide_eq_true this.1,decide_eq_true (show x <= 5 by omega)];rfl
theorem neT {H:Hp} {l p:Addr} {xs ys:List V} (hl:H l=some (.lst xs)) (hp:H p=some (.tup ys)):p ≠ l:=fun e=>by rw [e,hl] at hp;cases hp
theorem Dts_rep {st:Addr} {H:Hp} {d:PyData} {v:V} (h:Dt st H d v):∀ n:Nat,Dts st H (List.replicate n d) (List.replicate n v)
  | 0=>Dts.nil st H
  | n + 1=>Dts.cons h (Dts_rep h n)
section
variable {X:Cx}
def rRepS:R2:=fun x y H Q=>∃ (a:Addr) (v:V) (k:Nat),x=.ref a/\y=.int (k:Int)/\H a=some (.tup [v])/\1 <= k/\k <= 4/\∀ p H',Same H H'->H' p=some (.tup (List.replicate k v))->Q (.ref p) H'
theorem repS:OpR X (binaryOp .Mult) rRepS:=by
  intro pins s σ H x y v u Q I rx ry h
  obtain ⟨a,v',k,rfl,rfl,ha,h1,h4,q⟩:=h
  refine op_rep1 pins s σ H _ _ v u Q I rx ry ⟨a,v',(k:Int),rfl,rfl,.of ha,by omega,by omega,fun hk=>?_,fun hk p hp=>?_⟩
  · have hk':k=1:=by omega
    subst hk'
    exact q a H (Same.refl H) ha
  · exact q p _ (Same.new hp) upd_same
def rSlS:V->Option Int->Option Int->Hp->VK->Prop:=fun x lo hi H Q=>∃ (a:Addr) (xs:List V),x=.ref a/\H a=some (.tup xs)/\∀ p H',Same H H'->H' p=some (.tup (cutV xs lo hi))->Q (.ref p) H'
theorem slS:SlR X rSlS:=by
  intro pins s σ H x v vl vu lo hi sl Q I rx hs pl pu h
  obtain ⟨a,xs,rfl,ha,q⟩:=h
  refine sl_any pins s σ H _ v vl vu lo hi sl Q I rx hs pl pu ⟨a,xs,rfl,.of ha,fun hw=>?_,fun hw p hp=>?_⟩
  · refine q a H (Same.refl H) ?_
    unfold cutV
    rw [hw.1,hw.2,List.drop_zero,Nat.sub_zero,List.take_length];exact ha
  · exact q p _ (Same.new hp) upd_same
end
section
variable {P:Program} {w:World} {K:PySem.W.Frag} {mg:Str->Option Value} {base:Heap} {f:Addr} {fd:FuncData}
def Sta (l:Addr) (b:Bool) (H H':Hp):Prop:=Kp l H H'/\∃ x,H' l=some (.lst [.int x,.bl b])/\StOk x b
theorem Sta.start {l:Addr} {b:Bool} {H:Hp} {x:Int} (h:H l=some (.lst [.int x,.bl b])) (ok:StOk x b):Sta l b H H:=⟨Kp.refl l H,x,h,ok⟩
theorem Sta.same {l:Addr} {b:Bool} {H H1 H2:Hp} (s:Sta l b H H1) (g:Same H1 H2):Sta l b H H2:=by
  obtain ⟨k,x,h,ok⟩:=s
  exact ⟨k.trans (g.kp l),x,g _ _ h,ok⟩
theorem Sta.new {l:Addr} {b:Bool} {H H1:Hp} {p:Addr} {o:HO} (s:Sta l b H H1) (h:H1 p=none):Sta l b H (upd H1 p o):=s.same (Same.new h)
theorem Sta.trans {l:Addr} {b:Bool} {H H1 H2:Hp} (s:Sta l b H H1) (t:Sta l b H1 H2):Sta l b H H2:=⟨s.1.trans t.1,t.2⟩
theorem Sta.ne {l:Addr} {b:Bool} {H H1:Hp} {p:Addr} (s:Sta l b H H1) (h:H1 p=none):l ≠ p:=by
  obtain ⟨_,x,e,_⟩:=s
  exact ne_of_none e h
theorem Sta.go {l:Addr} {b:Bool} {H H1:Hp} {x:Int} (s:Sta l b H H1) (ok:StOk x b):Sta l b H (upd H1 l (.lst [.int x,.bl b])):=⟨s.1.trans Kp.at,x,upd_same,ok⟩
theorem Sta.neL {l:Addr} {b:Bool} {H H1:Hp} {p:Addr} {xs:List V} (s:Sta l b H H1) (h:H1 p=some (.tup xs)):p ≠ l:=fun e=>by
  obtain ⟨_,x,q,_⟩:=s
  rw [e,q] at h;cases h
theorem Sta.lput {l p:Addr} {b:Bool} {H H1:Hp} {o:HO} (s:Sta l b H H1) (hpl:p ≠ l) (hpn:H p=none):Sta l b H (upd H1 p o):=by
  obtain ⟨k,x',e,ok⟩:=s
  exact ⟨fun c o hc hco=>by rw [upd_ne (fun z=>by rw [z,hpn] at hco;cases hco)];exact k c o hc hco,x',by rw [upd_ne hpl.symm];exact e,ok⟩
def sp_lurn:Sp:=fun vs H Q _=>∃ (l:Addr) (n:Nat) (x:Int) (b:Bool),vs=[.ref l,.int n]/\H l=some (.lst [.int x,.bl b])/\StOk x b/\1 <= n/\n <= 4 /\
  ∀ (p:Addr) (H':Hp) (ns:List Int),Sta l b H H'->H' p=some (.tup (ns.map V.int))->Mt.Urn n 20 ns->Q (.ref p) H'
abbrev s_lurn:Stmt:=top 46
theorem sc_lurn:FnScope ["_law_state_here","_law_kinds","_law_most","_law_found"] ["_law_state_here","_law_kinds"] (defScope s_lurn):=⟨rfl,rfl,rfl,by decide +kernel,rfl,by decide +kernel,by decide +kernel⟩
theorem ok_lurn (F:Fun K "_law_urn_of" "_law_urn_of" s_lurn f fd) (B:Bt mg) (B2:Bt2 mg) (c1:Cal P w K mg base 1 "_law_take" ["_law_state_here","_law_many"] sp_take):FnOk P w K mg base CX0 2 f fd ["_law_state_here","_law_kinds"] sp_lurn:=by
  refine F.ok sc_lurn (fun vs H Q E h=>?_) (fun cdv A outer s H vs Q E hr h=>?_)
  · obtain ⟨l,n,x,b,rfl,_⟩:=h
    rfl
  obtain ⟨l,n,x,b,rfl,hl,hst,n1,n4,q⟩:=h
  refine ⟨_,pss_cons (ps_set (i:=2) sc_lurn.nd rfl (Or.inr rfl) (pe_ix ix_list (pe_lst (pa_cons pe_int (pa_cons pe_int (pa_cons pe_int (pa_cons pe_int pa_nil))))) (pe_cal c1 hr rfl (pa_cons (pv 0) (pa_cons pe_int pa_nil))) (fun _ _=>rfl)))
    (pss_cons (ps_setcompG (N:=["_law_kind","_law_state_here","_law_most"]) (ix:=[none,some 0,some 2]) (ifs:=[]) (tc:=tTrue) (i:=3) rfl sc_lurn.nd rfl rfl (pi_range1 rfl B.range (pa_cons (pv 1) pa_nil))
      (fun s H ex=>pg_c (i:=0) (by decide +kernel) rfl (Or.inl rfl) (.inr rfl)) (fun s H ex=>pifs_nil) (fun s H ex=>pe_cal c1 hr rfl (pa_cons (pv 1) (pa_cons (pv 2) pa_nil))) rfl (by decide +kernel) (by rfl) (by rfl) (fun _=>rfl) (by rfl))
    (pss_cons (ps_if (pt_cmpR op_eq (pe_cal c1 hr rfl (pa_cons (pv 0) (pa_cons pe_int pa_nil))) pe_int (nomark _)) (pss_one (ps_asg pe_int (pg_sub (pv 3) (pe_cal c1 hr rfl (pa_cons (pv 0) (pa_cons (pv 1) pa_nil))) set_list))) pss_nil)
    (pss_cons (ps_if (pt_not (pt_val (pe_callB (call_any_seq rfl) rfl B2.any boot_any (pa_cons (pv 3) pa_nil)))) (pss_one (ps_asg (pe_op op_add pe_int (pe_cal c1 hr rfl (pa_cons (pv 0) (pa_cons pe_int pa_nil)))) (pg_sub (pv 3) (pe_cal c1 hr rfl (pa_cons (pv 0) (pa_cons (pv 1) pa_nil))) set_list))) pss_nil)
    (pss_one (ps_ret (pe_callTy call_tuple_of rfl B.tuple boot_tuple (pa_cons (pv 3) pa_nil))))))),?_⟩
  have s0:Sta l b H H:=Sta.start hl hst
  refine ⟨(by show 4 <= sizeLine;decide),fun p0 hp0=>⟨_,rfl,?_⟩⟩
  have s1:Sta l b H (upd H p0 (.lst [.int 3,.int 3,.int 6,.int 21])):=s0.new hp0
  obtain ⟨_,x1,hx1,ok1⟩:=id s1
  refine ⟨l,4,x1,b,rfl,hx1,ok1,by decide,by decide,fun y x2 hy ok2=>?_⟩
  have s2:=s1.go ok2
  have k2:Kp l (upd H p0 (.lst [.int 3,.int 3,.int 6,.int 21])) (upd (upd H p0 (.lst [.int 3,.int 3,.int 6,.int 21])) l (.lst [.int x2,.bl b])):=Kp.at
  generalize upd (upd H p0 (.lst [.int 3,.int 3,.int 6,.int 21])) l (.lst [.int x2,.bl b])=H1 at s2 k2
  have hp1:H1 p0=some (.lst [.int 3,.int 3,.int 6,.int 21]):=k2 _ _ (s0.ne hp0).symm upd_same
  obtain ⟨m,hm,m1,m2⟩:∃ m:Int,([.int 3,.int 3,.int 6,.int 21]:List V)[y]?=some (.int m)/\1 <= m/\m <= 21:=by
    have hy':y < 4:=by omega
    match y,hy' with
    | 0,_=>exact ⟨3,rfl,by decide,by decide⟩
    | 1,_=>exact ⟨3,rfl,by decide,by decide⟩
    | 2,_=>exact ⟨6,rfl,by decide,by decide⟩
    | 3,_=>exact ⟨21,rfl,by decide,by decide⟩
  refine ⟨p0,_,_,_,rfl,rfl,.of hp1,atI_nat hm,?_⟩
  refine ⟨_,rfl,(n:Int),rfl,by omega,by omega,?_⟩
  refine blk_range (lo:=0) (n:=n) (sz (by omega)) (fun i ys H2=>Sta l b H H2/\∃ ns:List Int,ys=ns.map V.int/\ns.length=i/\∀ z ∈ ns,0 <= z/\z <= 20)
    ⟨s2,[],rfl,rfl,by simp⟩ (fun i ys H2 h=>?_) rfl (fun i ys H2 hi h=>?_) (fun ys H2 h=>?_)
  · obtain ⟨_,ns,rfl,hn,_⟩:=h
    rw [List.length_map];exact hn
  · obtain ⟨s3,ns,rfl,hn,hb⟩:=h
    obtain ⟨_,x3,hx3,ok3⟩:=id s3
    refine ⟨_,rfl,_,rfl,l,m,x3,b,rfl,hx3,ok3,m1,by omega,fun y x4 hy ok4=>?_⟩
    refine ⟨s3.go ok4,ns ++ [(y:Int)],by rw [List.map_append];rfl,by rw [List.length_append,hn];rfl,fun z hz=>?_⟩
    rcases List.mem_append.mp hz with h | h
    · exact hb z h
    · rw [List.mem_singleton.mp h];omega
  · obtain ⟨s3,ns,rfl,hn,hb⟩:=h
    intro p hp
    have s4:Sta l b H (upd H2 p (.lst (ns.map V.int))):=s3.new hp
    have hpl:p ≠ l:=(s3.ne hp).symm
    have hpn:H p=none:=by
      cases e:H p with
      | none=>rfl
      | some o=>rw [s3.1 p o hpl e] at hp;cases hp
    have hp4:upd H2 p (.lst (ns.map V.int)) p=some (.lst (ns.map V.int)):=upd_same
    show tSeq _ _ _ _ (upd H2 p (.lst (ns.map V.int)))
    generalize upd H2 p (.lst (ns.map V.int))=H3 at s4 hp4
    obtain ⟨_,x4,hx4,ok4⟩:=id s4
    refine ⟨_,rfl,l,8,x4,b,rfl,hx4,ok4,by decide,by decide,fun y8 x8 hy8 ok8=>⟨rfl,_,rfl,?_⟩⟩
    have s8:=s4.go ok8
    have k8:Kp l H3 (upd H3 l (.lst [.int x8,.bl b])):=Kp.at
    generalize upd H3 l (.lst [.int x8,.bl b])=H8 at s8 k8
    have hp8:=k8 _ _ hpl hp4
    refine ite2 (fun _=>?_) (fun _=>?_)
    · obtain ⟨_,x9,hx9,ok9⟩:=id s8
      refine ⟨_,rfl,_,rfl,_,rfl,l,n,x9,b,rfl,hx9,ok9,by omega,by omega,fun y9 xa hy9 oka=>?_⟩
      have s9:=s8.go oka
      have k9:Kp l H8 (upd H8 l (.lst [.int xa,.bl b])):=Kp.at
      generalize upd H8 l (.lst [.int xa,.bl b])=H9 at s9 k9
      have hp9:=k9 _ _ hpl hp8
      have hy9':y9 < ns.length:=by omega
      refine ⟨p,_,_,y9,rfl,rfl,hp9,ixN_nat (by rw [List.length_map];exact hy9'),?_⟩
      have sA:=s9.lput (o:=.lst ((ns.map V.int).set y9 (.int 20))) hpl hpn
      have hpA:upd H9 p (.lst ((ns.map V.int).set y9 (.int 20))) p=some (.lst ((ns.set y9 20).map V.int)):=by rw [upd_same,List.map_set]
      have hnA:(ns.set y9 20).length=n:=by rw [List.length_set];exact hn
      have hbA:∀ z ∈ ns.set y9 20,0 <= z/\z <= 20:=fun z hz=>by
        rcases List.mem_or_eq_of_mem_set hz with h | h
        · exact hb z h
        · rw [h];decide
      show tSeq _ _ _ _ (upd H9 p (.lst ((ns.map V.int).set y9 (.int 20))))
      generalize upd H9 p (.lst ((ns.map V.int).set y9 (.int 20)))=HA at sA hpA
      generalize ns.set y9 20=nsA at hpA hnA hbA
      refine ⟨_,rfl,p,_,rfl,.inl (.of hpA),(by rw [List.all_map];exact List.all_eq_true.mpr fun _ _=>rfl),_,rfl,?_⟩
      rw [any_pos fun x hx=>(hbA x hx).1]
      by_cases hz:0 < nsA.sum
      · rw [decide_eq_true hz]
        refine iteF ⟨_,rfl,p,_,rfl,.inl ⟨.of hpA,fun t ht=>?_⟩⟩
        exact q t _ nsA (sA.new ht) upd_same ⟨hnA,hbA,hz⟩
      · rw [decide_eq_false hz]
        obtain ⟨_,xz,hxz,okz⟩:=id sA
        refine iteT ⟨_,rfl,l,3,xz,b,rfl,hxz,okz,by decide,by decide,fun v x5 hv ok5=>?_⟩
        have s5:=sA.go ok5
        have k5:Kp l HA (upd HA l (.lst [.int x5,.bl b])):=Kp.at
        generalize upd HA l (.lst [.int x5,.bl b])=H4 at s5 k5
        obtain ⟨_,x6,hx6,ok6⟩:=id s5
        refine ⟨_,_,rfl,rfl,_,rfl,_,rfl,_,rfl,l,n,x6,b,rfl,hx6,ok6,by omega,by omega,fun y x7 hy ok7=>?_⟩
        have s6:=s5.go ok7
        have k6:Kp l H4 (upd H4 l (.lst [.int x7,.bl b])):=Kp.at
        generalize upd H4 l (.lst [.int x7,.bl b])=H5 at s6 k6
        have hp5:H5 p=some (.lst (nsA.map V.int)):=k6 _ _ hpl (k5 _ _ hpl hpA)
        have hy':y < nsA.length:=by omega
        refine ⟨p,_,_,y,rfl,rfl,hp5,ixN_nat (by rw [List.length_map];exact hy'),?_⟩
        refine ⟨_,rfl,p,_,rfl,.inl ⟨.of upd_same,fun t ht=>?_⟩⟩
        have s7:=s6.lput (o:=.lst ((nsA.map V.int).set y (.int (1 + v)))) hpl hpn
        refine q t _ (nsA.set y (1 + v)) (s7.new ht) (by rw [upd_same,List.map_set]) ⟨by rw [List.length_set];exact hnA,fun z hz=>?_,set_pos' (fun z hz=>(hbA z hz).1) (by omega) hy'⟩
        rcases List.mem_or_eq_of_mem_set hz with h | h
        · exact hbA z h
        · rw [h];omega
    · show tSeq _ _ _ _ H8
      refine ⟨_,rfl,p,_,rfl,.inl (.of hp8),(by rw [List.all_map];exact List.all_eq_true.mpr fun _ _=>rfl),_,rfl,?_⟩
      rw [any_pos fun x hx=>(hb x hx).1]
      by_cases hz:0 < ns.sum
      · rw [decide_eq_true hz]
        refine iteF ⟨_,rfl,p,_,rfl,.inl ⟨.of hp8,fun t ht=>?_⟩⟩
        exact q t _ ns (s8.new ht) upd_same ⟨hn,hb,hz⟩
      · rw [decide_eq_false hz]
        obtain ⟨_,xz,hxz,okz⟩:=id s8
        refine iteT ⟨_,rfl,l,3,xz,b,rfl,hxz,okz,by decide,by decide,fun v x5 hv ok5=>?_⟩
        have s5:=s8.go ok5
        have k5:Kp l H8 (upd H8 l (.lst [.int x5,.bl b])):=Kp.at
        generalize upd H8 l (.lst [.int x5,.bl b])=H4 at s5 k5
        obtain ⟨_,x6,hx6,ok6⟩:=id s5
        refine ⟨_,_,rfl,rfl,_,rfl,_,rfl,_,rfl,l,n,x6,b,rfl,hx6,ok6,by omega,by omega,fun y x7 hy ok7=>?_⟩
        have s6:=s5.go ok7
        have k6:Kp l H4 (upd H4 l (.lst [.int x7,.bl b])):=Kp.at
        generalize upd H4 l (.lst [.int x7,.bl b])=H5 at s6 k6
        have hp5:H5 p=some (.lst (ns.map V.int)):=k6 _ _ hpl (k5 _ _ hpl hp8)
        have hy':y < ns.length:=by omega
        refine ⟨p,_,_,y,rfl,rfl,hp5,ixN_nat (by rw [List.length_map];exact hy'),?_⟩
        refine ⟨_,rfl,p,_,rfl,.inl ⟨.of upd_same,fun t ht=>?_⟩⟩
        have s7:=s6.lput (o:=.lst ((ns.map V.int).set y (.int (1 + v)))) hpl hpn
        refine q t _ (ns.set y (1 + v)) (s7.new ht) (by rw [upd_same,List.map_set]) ⟨by rw [List.length_set];exact hn,fun z hz=>?_,set_pos' (fun z hz=>(hb z hz).1) (by omega) hy'⟩
        rcases List.mem_or_eq_of_mem_set hz with h | h
        · exact hb z h
        · rw [h];omega
end
end G
namespace G
open PySem PySem.Spec PyProof.Rows L2 Mt
theorem cut_drop {xs:List V} {y:Nat} (h:y <= xs.length):cutV xs (some (y:Int)) none=xs.drop y:=by
  unfold cutV
  have e1:HT.sIx xs.length 0 (some (y:Int))=y:=by rw [HT.sIx_nat];omega
  rw [e1,HT.sIx_none]
  exact List.take_of_length_le (by rw [List.length_drop];omega)
theorem cut_take {xs:List V} {y:Nat} (h:y <= xs.length):cutV xs none (some (y:Int))=xs.take y:=by
  unfold cutV
  have e1:HT.sIx xs.length xs.length (some (y:Int))=y:=by rw [HT.sIx_nat];omega
  rw [e1,HT.sIx_none,List.drop_zero,Nat.sub_zero]
section
variable {P:Program} {w:World} {K:PySem.W.Frag} {mg:Str->Option Value} {base:Heap} {f:Addr} {fd:FuncData}
def sp_lrule:Sp:=fun vs H Q _=>∃ (l:Addr) (n:Nat) (x:Int) (b:Bool),vs=[.ref l,.int n]/\H l=some (.lst [.int x,.bl b])/\StOk x b/\1 <= n/\n <= 4 /\
  ∀ (v:V) (H':Hp) (rs:List (List Int)),Sta l b H H'->Dt l H' (DR rs) v->Mt.Rul n 5 rs->Q v H'
abbrev s_lrule:Stmt:=top 47
theorem sc_lrule:FnScope ["_law_state_here","_law_kinds","_law_way","_law_more","_law_row","_law_far"] ["_law_state_here","_law_kinds"] (defScope s_lrule):=⟨rfl,rfl,rfl,by decide +kernel,rfl,by decide +kernel,by decide +kernel⟩
theorem ok_lrule (F:Fun K "_law_rule" "_law_rule" s_lrule f fd) (B:Bt mg) (c1:Cal P w K mg base 1 "_law_take" ["_law_state_here","_law_many"] sp_take):FnOk P w K mg base CX0 2 f fd ["_law_state_here","_law_kinds"] sp_lrule:=by
  refine F.ok sc_lrule (fun vs H Q E h=>?_) (fun cdv A outer s H vs Q E hr h=>?_)
  · obtain ⟨l,n,x,b,rfl,_⟩:=h
    rfl
  obtain ⟨l,n,x,b,rfl,hl,hst,n1,n4,q⟩:=h
  refine ⟨_,pss_cons (ps_set (i:=2) sc_lrule.nd rfl (Or.inl rfl) (pe_cal c1 hr rfl (pa_cons (pv 0) (pa_cons pe_int pa_nil))))
    (pss_cons (ps_set (i:=3) sc_lrule.nd rfl (Or.inr rfl) (pe_cal c1 hr rfl (pa_cons (pv 0) (pa_cons pe_int pa_nil))))
    (pss_cons (ps_if (pt_cmpR op_eq (pv 2) pe_int (nomark _)) (pss_one (ps_ret (pe_callTy call_tuple_of rfl B.tuple boot_tuple (pa_cons (pe_compG (N:=["_law_kind","_law_kinds","_law_more"]) (ix:=[none,some 1,some 3]) (ifs:=[]) (tc:=tTrue) rfl (pi_range1 rfl B.range (pa_cons (pv 1) pa_nil)) (fun s H ex=>pg_c (i:=0) (by decide +kernel) rfl (Or.inr rfl) (.inl rfl)) (fun s H ex=>pifs_nil) (fun s H ex=>(pe_callTy (tupK (K:=K) rfl) rfl B.tuple boot_tuple (pa_cons (pe_compG (N:=["_law_one","_law_more","_law_kind"]) (ix:=[none,some 2,some 0]) (ifs:=[]) (tc:=tTrue) rfl (pi_range1 rfl B.range (pa_cons (pv 1) pa_nil)) (fun s H ex=>pg_c (i:=0) (by decide +kernel) rfl (Or.inl rfl) (.inr rfl)) (fun s H ex=>pifs_nil) (fun s H ex=>pe_op op_mul (pv 1) (pe_callTy call_int1 rfl B.int boot_int (pa_cons (pe_cmpR op_eq (pv 0) (pv 2) (nomark _)) pa_nil))) rfl (by decide +kernel) (by rfl) (by rfl) (fun _=>rfl)) pa_nil))) rfl (by decide +kernel) (by rfl) (by rfl) (fun _=>rfl)) pa_nil)))) pss_nil)
    (pss_cons (ps_set (i:=4) sc_lrule.nd rfl (Or.inr rfl) (pe_callTy call_tuple_of rfl B.tuple boot_tuple (pa_cons (pe_compG (N:=["_law_kind","_law_state_here"]) (ix:=[none,some 0]) (ifs:=[]) (tc:=tTrue) rfl (pi_range1 rfl B.range (pa_cons (pv 1) pa_nil)) (fun s H ex=>pg_c (i:=0) (by decide +kernel) rfl (Or.inl rfl) (.inr rfl)) (fun s H ex=>pifs_nil) (fun s H ex=>pe_cal c1 hr rfl (pa_cons (pv 1) (pa_cons (pe_ix (ixLK (K:=K) rfl) (pe_lst (pa_cons pe_int (pa_cons pe_int (pa_cons pe_int pa_nil)))) (pe_cal c1 hr rfl (pa_cons (pv 1) (pa_cons pe_int pa_nil))) (fun _ _=>rfl)) pa_nil))) rfl (by decide +kernel) (by rfl) (by rfl) (fun _=>rfl)) pa_nil)))
    (pss_cons (ps_if (pt_cmpR op_eq (pv 2) pe_int (nomark _)) (pss_one (ps_ret (pe_op repS (pe_tup (pa_cons (pv 4) pa_nil)) (pv 1)))) pss_nil)
    (pss_cons (ps_if (pt_cmpR op_eq (pv 2) pe_int (nomark _)) (pss_cons (ps_setcompG (N:=["_law_kind","_law_state_here","_law_kinds"]) (ix:=[none,some 0,some 1]) (ifs:=[]) (tc:=tTrue) (i:=5) rfl sc_lrule.nd rfl rfl (pi_range1 rfl B.range (pa_cons (pv 1) pa_nil)) (fun s H ex=>pg_c (i:=0) (by decide +kernel) rfl (Or.inl rfl) (.inr rfl)) (fun s H ex=>pifs_nil) (fun s H ex=>pe_cal c1 hr rfl (pa_cons (pv 1) (pa_cons (pv 2) pa_nil))) rfl (by decide +kernel) (by rfl) (by rfl) (fun _=>rfl) (by rfl)) (pss_one (ps_ret (pe_callTy call_tuple_of rfl B.tuple boot_tuple (pa_cons (pe_compG (N:=["_law_place","_law_row"]) (ix:=[none,some 4]) (ifs:=[]) (tc:=tTrue) rfl (pi_list (pv 5)) (fun s H ex=>pg_c (i:=0) (by decide +kernel) rfl (Or.inl rfl) (.inr rfl)) (fun s H ex=>pifs_nil) (fun s H ex=>pe_op catS (pe_slice slS (pv 1) (po_some (pv 0)) po_none) (pe_slice slS (pv 1) po_none (po_some (pv 0)))) rfl (by decide +kernel) (by rfl) (by rfl) (fun _=>rfl)) pa_nil))))) pss_nil)
    (pss_cons (ps_if (pt_cmpR op_eq (pv 2) pe_int (nomark _)) (pss_one (ps_ret (pe_callTy call_tuple_of rfl B.tuple boot_tuple (pa_cons (pe_compG (N:=["_law_kind","_law_kinds","_law_more"]) (ix:=[none,some 1,some 3]) (ifs:=[]) (tc:=tTrue) rfl (pi_range1 rfl B.range (pa_cons (pv 1) pa_nil)) (fun s H ex=>pg_c (i:=0) (by decide +kernel) rfl (Or.inr rfl) (.inl rfl)) (fun s H ex=>pifs_nil) (fun s H ex=>(pe_callTy (tupK (K:=K) rfl) rfl B.tuple boot_tuple (pa_cons (pe_compG (N:=["_law_one","_law_kind","_law_kinds","_law_more"]) (ix:=[none,some 0,some 1,some 2]) (ifs:=[]) (tc:=tTrue) rfl (pi_range1 rfl B.range (pa_cons (pv 1) pa_nil)) (fun s H ex=>pg_c (i:=0) (by decide +kernel) rfl (Or.inl rfl) (.inr rfl)) (fun s H ex=>pifs_nil) (fun s H ex=>pe_op op_mul (pv 3) (pe_callTy call_int1 rfl B.int boot_int (pa_cons (pe_cmpR op_eq (pv 0) (pe_op op_mod (pe_op op_add (pv 1) pe_int) (pv 2)) (nomark _)) pa_nil))) rfl (by decide +kernel) (by rfl) (by rfl) (fun _=>rfl)) pa_nil))) rfl (by decide +kernel) (by rfl) (by rfl) (fun _=>rfl)) pa_nil)))) pss_nil)
    (pss_one (ps_ret (pe_callTy call_tuple_of rfl B.tuple boot_tuple (pa_cons (pe_compG (N:=["_law_kind","_law_kinds","_law_state_here"]) (ix:=[none,some 1,some 0]) (ifs:=[]) (tc:=tTrue) rfl (pi_range1 rfl B.range (pa_cons (pv 1) pa_nil)) (fun s H ex=>pg_c (i:=0) (by decide +kernel) rfl (Or.inl rfl) (.inr rfl)) (fun s H ex=>pifs_nil) (fun s H ex=>(pe_callTy (tupK (K:=K) rfl) rfl B.tuple boot_tuple (pa_cons (pe_compG (N:=["_law_one","_law_state_here"]) (ix:=[none,some 2]) (ifs:=[]) (tc:=tTrue) rfl (pi_range1 rfl B.range (pa_cons (pv 1) pa_nil)) (fun s H ex=>pg_c (i:=0) (by decide +kernel) rfl (Or.inl rfl) (.inr rfl)) (fun s H ex=>pifs_nil) (fun s H ex=>pe_cal c1 hr rfl (pa_cons (pv 1) (pa_cons pe_int pa_nil))) rfl (by decide +kernel) (by rfl) (by rfl) (fun _=>rfl)) pa_nil))) rfl (by decide +kernel) (by rfl) (by rfl) (fun _=>rfl)) pa_nil)))))))))),?_⟩
  have lo62:-(2 ^ 62) <= ((n:Nat):Int):=by omega
  have hi62:((n:Nat):Int) < 2 ^ 62:=by omega
  have s0:Sta l b H H:=Sta.start hl hst
  have fin:∀ (rs:List (List Int)) (ys:List V) (H3:Hp) (p ra:Addr),Sta l b H H3->rs.length=n->(∀ r ∈ rs,Mt.Row n 5 r)->Dts l H3 (rs.map DI) ys->H3 p=none->upd H3 p (.lst ys) ra=none->Q (.ref ra) (upd (upd H3 p (.lst ys)) ra (.tup ys)):=fun rs ys H3 p ra s3 h1 h2 h3 hp hra=>by
    have s4:Sta l b H (upd H3 p (.lst ys)):=s3.new hp
    exact q _ _ rs (s4.new hra) (Dt.tup (s4.ne hra).symm upd_same (h3.kp ((Kp.new hp).trans (Kp.new hra)))) ⟨h1,h2⟩
  refine ⟨_,rfl,l,5,x,b,rfl,hl,hst,by decide,by decide,fun wy x1 hwy ok1=>?_⟩
  have s1:=s0.go ok1
  show tSeq _ _ _ _ (upd H l (.lst [.int x1,.bl b]))
  generalize upd H l (.lst [.int x1,.bl b])=H1 at s1
  obtain ⟨_,x2,hx2,ok2⟩:=id s1
  refine ⟨_,rfl,l,6,x2,b,rfl,hx2,ok2,by decide,by decide,fun mo x3 hmo ok3=>?_⟩
  have s2:=s1.go ok3
  show tSeq _ _ _ _ (upd H1 l (.lst [.int x3,.bl b]))
  generalize upd H1 l (.lst [.int x3,.bl b])=H2 at s2
  refine ⟨_,rfl,rfl,_,rfl,ite2 (fun _=>?_) (fun _=>?_)⟩
  · refine ⟨_,rfl,(n:Int),rfl,lo62,hi62,?_⟩
    refine blk_range (lo:=0) (n:=n) (sz (by omega)) (fun i ys H3=>Sta l b H H3/\∃ rs:List (List Int),rs.length=i/\(∀ r ∈ rs,Mt.Row n 5 r)/\Dts l H3 (rs.map DI) ys)
      ⟨s2,[],rfl,by simp,Dts.nil _ _⟩ (fun i ys H3 h=>?_) rfl (fun i ys H3 hi h=>?_) (fun ys H3 h=>?_)
    · obtain ⟨_,rs,hr1,_,hd⟩:=h
      rw [<- hd.len,List.length_map];exact hr1
    · obtain ⟨s3,rs,hr1,hr2,hd⟩:=h
      refine ⟨_,rfl,(n:Int),rfl,lo62,hi62,?_⟩
      refine blk_range (lo:=0) (n:=n) (sz (by omega)) (fun j zs H4=>Sta l b H H4/\Kp l H3 H4/\∃ r:List Int,zs=r.map V.int/\r.length=j/\∀ z ∈ r,0 <= z/\z <= 5)
        ⟨s3,Kp.refl _ _,[],rfl,rfl,by simp⟩ (fun j zs H4 h=>?_) rfl (fun j zs H4 hj h=>?_) (fun zs H4 h=>?_)
      · obtain ⟨_,_,r,rfl,hr,_⟩:=h
        rw [List.length_map];exact hr
      · obtain ⟨s4,k4,r,rfl,hr,hz⟩:=h
        refine ⟨_,rfl,_,rfl,_,rfl,rfl,.inr ⟨_,rfl,_,_,rfl,rfl,.inl ⟨by omega,by omega⟩,?_⟩⟩
        refine ⟨s4,k4,r ++ [_],by rw [List.map_append];rfl,by rw [List.length_append,hr];rfl,fun z hz'=>?_⟩
        rcases List.mem_append.mp hz' with h | h
        · exact hz z h
        · rw [List.mem_singleton.mp h]
          split <;> omega
      · obtain ⟨s4,k4,r,rfl,hr,hz⟩:=h
        intro p hp
        have s5:Sta l b H (upd H4 p (.lst (r.map V.int))):=s4.new hp
        refine ⟨p,_,rfl,.inl ⟨.of upd_same,fun t ht=>?_⟩⟩
        have kk:Kp l H3 (upd (upd H4 p (.lst (r.map V.int))) t (.tup (r.map V.int))):=(k4.trans (Kp.new hp)).trans (Kp.new ht)
        refine ⟨s5.new ht,rs ++ [r],by rw [List.length_append,hr1];rfl,fun r' hr'=>?_,?_⟩
        · rcases List.mem_append.mp hr' with h | h
          · exact hr2 r' h
          · rw [List.mem_singleton.mp h];exact ⟨hr,hz⟩
        · rw [List.map_append]
          exact (hd.kp kk).append (Dts.cons (Dt.mkI (s5.ne ht).symm upd_same) (Dts.nil _ _))
    · obtain ⟨s3,rs,hr1,hr2,hd⟩:=h
      exact fun p hp=>⟨p,_,rfl,.inl ⟨.of upd_same,fun ra hra=>fin rs ys H3 p ra s3 hr1 hr2 hd hp hra⟩⟩
  refine ⟨_,rfl,(n:Int),rfl,lo62,hi62,?_⟩
  refine blk_range (lo:=0) (n:=n) (sz (by omega)) (fun i ys H3=>Sta l b H H3/\∃ ns:List Int,ys=ns.map V.int/\ns.length=i/\∀ z ∈ ns,0 <= z/\z <= 5)
    ⟨s2,[],rfl,rfl,by simp⟩ (fun i ys H3 h=>?_) rfl (fun i ys H3 hi h=>?_) (fun ys H3 h=>?_)
  · obtain ⟨_,ns,rfl,hn,_⟩:=h
    rw [List.length_map];exact hn
  · obtain ⟨s3,ns,rfl,hn,hb⟩:=h
    refine ⟨_,rfl,(by show 3 <= sizeLine;decide),fun p5 hp5=>?_⟩
    have s5:Sta l b H (upd H3 p5 (.lst [.int 2,.int 3,.int 6])):=s3.new hp5
    have np5:p5 ≠ l:=(s3.ne hp5).symm
    obtain ⟨_,x5,hx5,ok5⟩:=id s5
    refine ⟨_,rfl,l,3,x5,b,rfl,hx5,ok5,by decide,by decide,fun y x6 hy ok6=>?_⟩
    have s6:=s5.go ok6
    have k6:Kp l (upd H3 p5 (.lst [.int 2,.int 3,.int 6])) (upd (upd H3 p5 (.lst [.int 2,.int 3,.int 6])) l (.lst [.int x6,.bl b])):=Kp.at
    have hp6:=k6 _ _ np5 upd_same
    obtain ⟨m,hm,m1,m2⟩:∃ m:Int,([.int 2,.int 3,.int 6]:List V)[y]?=some (.int m)/\1 <= m/\m <= 6:=by
      have hy':y < 3:=by omega
      match y,hy' with
      | 0,_=>exact ⟨2,rfl,by decide,by decide⟩
      | 1,_=>exact ⟨3,rfl,by decide,by decide⟩
      | 2,_=>exact ⟨6,rfl,by decide,by decide⟩
    obtain ⟨_,x7,hx7,ok7⟩:=id s6
    refine ⟨p5,_,_,_,rfl,rfl,.of hp6,atI_nat hm,l,m,x7,b,rfl,hx7,ok7,m1,by omega,fun y2 x8 hy2 ok8=>?_⟩
    refine ⟨s6.go ok8,ns ++ [(y2:Int)],by rw [List.map_append];rfl,by rw [List.length_append,hn];rfl,fun z hz=>?_⟩
    rcases List.mem_append.mp hz with h | h
    · exact hb z h
    · rw [List.mem_singleton.mp h];omega
  obtain ⟨s3,ns,rfl,hn,hb⟩:=h
  intro p3 hp3
  refine ⟨p3,_,rfl,.inl ⟨.of upd_same,fun rw hrw=>?_⟩⟩
  have s4:Sta l b H (upd H3 p3 (.lst (ns.map V.int))):=s3.new hp3
  have s5:=s4.new (o:=.tup (ns.map V.int)) hrw
  have hr5:upd (upd H3 p3 (.lst (ns.map V.int))) rw (.tup (ns.map V.int)) rw=some (.tup (ns.map V.int)):=upd_same
  show tSeq _ _ _ _ (upd (upd H3 p3 (.lst (ns.map V.int))) rw (.tup (ns.map V.int)))
  generalize upd (upd H3 p3 (.lst (ns.map V.int))) rw (.tup (ns.map V.int))=H5 at s5 hr5
  have nrw:rw ≠ l:=s5.neL hr5
  have hrow:Mt.Row n 5 ns:=⟨hn,hb⟩
  refine ⟨_,rfl,rfl,_,rfl,ite2 (fun _=>?_) (fun _=>?_)⟩
  · refine ⟨_,rfl,(by show 1 <= sizeLine;decide),fun pa hpa=>⟨_,rfl,pa,.ref rw,n,rfl,rfl,upd_same,n1,n4,fun pb Hb gb hpb=>?_⟩⟩
    have g:=(Same.new (o:=.tup [.ref rw]) hpa).trans gb
    have s6:=s5.same g
    refine q _ _ (List.replicate n ns) s6 (Dt.tup (s6.neL hpb) hpb ?_) ⟨List.length_replicate,fun r hr=>by rw [List.eq_of_mem_replicate hr];exact hrow⟩
    rw [List.map_replicate]
    exact Dts_rep (Dt.mkI nrw (g _ _ hr5)) n
  refine ⟨_,rfl,rfl,_,rfl,ite2 (fun _=>?_) (fun _=>?_)⟩
  · refine ⟨_,rfl,(n:Int),rfl,lo62,hi62,?_⟩
    refine blk_range (lo:=0) (n:=n) (sz (by omega)) (fun i ys H6=>Sta l b H H6/\Kp l H5 H6/\∃ ks:List Nat,ys=ks.map (fun (k:Nat)=>V.int k)/\ks.length=i/\∀ z ∈ ks,z < n)
      ⟨s5,Kp.refl _ _,[],rfl,rfl,by simp⟩ (fun i ys H6 h=>?_) rfl (fun i ys H6 hi h=>?_) (fun ys H6 h=>?_)
    · obtain ⟨_,_,ks,rfl,hk,_⟩:=h
      rw [List.length_map];exact hk
    · obtain ⟨s6,k6,ks,rfl,hk,hlt⟩:=h
      obtain ⟨_,x6,hx6,ok6⟩:=id s6
      refine ⟨_,rfl,_,rfl,l,n,x6,b,rfl,hx6,ok6,by omega,by omega,fun y x7 hy ok7=>?_⟩
      refine ⟨s6.go ok7,k6.trans Kp.at,ks ++ [y],by rw [List.map_append];rfl,by rw [List.length_append,hk];rfl,fun z hz=>?_⟩
      rcases List.mem_append.mp hz with h | h
      · exact hlt z h
      · rw [List.mem_singleton.mp h];omega
    obtain ⟨s6,k6,ks,rfl,hk,hlt⟩:=h
    intro pf hpf
    have s7:=s6.new (o:=.lst (ks.map (fun (k:Nat)=>V.int k))) hpf
    have npf:pf ≠ l:=(s6.ne hpf).symm
    have hf7:upd H6 pf (.lst (ks.map (fun (k:Nat)=>V.int k))) pf=some (.lst (ks.map (fun (k:Nat)=>V.int k))):=upd_same
    have hr7:upd H6 pf (.lst (ks.map (fun (k:Nat)=>V.int k))) rw=some (.tup (ns.map V.int)):=Same.new hpf _ _ (k6 _ _ nrw hr5)
    generalize upd H6 pf (.lst (ks.map (fun (k:Nat)=>V.int k)))=H7 at s7 hf7 hr7
    refine ⟨_,rfl,pf,rfl,⟨_,.of hf7⟩,blk_list (K:=K) (a:=pf) (xs:=ks.map (fun (k:Nat)=>V.int k)) (by rw [List.length_map,hk];exact sz (by omega)) (fun i ys H8=>Same H7 H8/\i <= n/\∃ rs:List (List Int),rs.length=i/\(∀ r ∈ rs,Mt.Row n 5 r)/\Dts l H8 (rs.map DI) ys)
      ⟨Same.refl _,Nat.zero_le _,[],rfl,by simp,Dts.nil _ _⟩ (fun i ys H8 h=>?_) (fun i ys H8 _ h=>.of (h.1 _ _ hf7)) rfl (fun i ys H8 v hv h=>?_) (fun ys H8 h=>?_)⟩
    · obtain ⟨_,_,rs,hr1,_,hd⟩:=h
      rw [<- hd.len,List.length_map];exact hr1
    · obtain ⟨g8,hin,rs,hr1,hr2,hd⟩:=h
      rw [List.getElem?_map] at hv
      obtain ⟨k,hk',ev⟩:=Option.map_eq_some_iff.mp hv
      subst ev
      have hik:=(List.getElem?_eq_some_iff.mp hk').1
      have hkn:=hlt k (List.mem_of_getElem? hk')
      have hr8:=g8 _ _ hr7
      have hkl:k <= (ns.map V.int).length:=by rw [List.length_map];omega
      have ea:cutV (ns.map V.int) (some (k:Int)) none=(ns.drop k).map V.int:=by rw [cut_drop hkl,List.map_drop]
      have eb:cutV (ns.map V.int) none (some (k:Int))=(ns.take k).map V.int:=by rw [cut_take hkl,List.map_take]
      refine ⟨_,rfl,_,rfl,_,rfl,rw,_,rfl,hr8,fun p1 H9 g9 hp1=>⟨_,rfl,_,rfl,_,rfl,rw,_,rfl,g9 _ _ hr8,fun p2 HA gA hp2=>?_⟩⟩
      rw [ea] at hp1
      rw [eb] at hp2
      refine ⟨p1,p2,_,_,rfl,rfl,gA _ _ hp1,hp2,(by rw [List.length_map,List.length_map,List.length_drop,List.length_take];omega),fun p HB gB hpB=>?_⟩
      have gAll:=(g9.trans gA).trans gB
      have gTot:=g8.trans gAll
      have sB:=s7.same gTot
      refine ⟨gTot,by omega,rs ++ [ns.drop k ++ ns.take k],by rw [List.length_append,hr1];rfl,fun r' hr'=>?_,?_⟩
      · rcases List.mem_append.mp hr' with h | h
        · exact hr2 r' h
        · rw [List.mem_singleton.mp h]
          refine ⟨by rw [List.length_append,List.length_drop,List.length_take];omega,fun z hz=>?_⟩
          have hz':z ∈ ns:=by
            rcases List.mem_append.mp hz with h | h
            · exact List.mem_of_mem_drop h
            · exact List.mem_of_mem_take h
          exact hb z hz'
      · rw [List.map_append]
        exact (hd.kp (gAll.kp l)).append (Dts.cons (Dt.mkI (sB.neL hpB) (by rw [hpB,List.map_append])) (Dts.nil _ _))
    · obtain ⟨g8,_,rs,hr1,hr2,hd⟩:=h
      rw [List.length_map,hk] at hr1
      exact fun p hp=>⟨p,_,rfl,.inl ⟨.of upd_same,fun ra hra=>fin rs ys H8 p ra (s7.same g8) hr1 hr2 hd hp hra⟩⟩
  refine ⟨_,rfl,rfl,_,rfl,ite2 (fun _=>?_) (fun _=>?_)⟩
  · refine ⟨_,rfl,(n:Int),rfl,lo62,hi62,?_⟩
    refine blk_range (lo:=0) (n:=n) (sz (by omega)) (fun i ys H3=>Sta l b H H3/\∃ rs:List (List Int),rs.length=i/\(∀ r ∈ rs,Mt.Row n 5 r)/\Dts l H3 (rs.map DI) ys)
      ⟨s5,[],rfl,by simp,Dts.nil _ _⟩ (fun i ys H3 h=>?_) rfl (fun i ys H3 hi h=>?_) (fun ys H3 h=>?_)
    · obtain ⟨_,rs,hr1,_,hd⟩:=h
      rw [<- hd.len,List.length_map];exact hr1
    · obtain ⟨s3,rs,hr1,hr2,hd⟩:=h
      refine ⟨_,rfl,(n:Int),rfl,lo62,hi62,?_⟩
      refine blk_range (lo:=0) (n:=n) (sz (by omega)) (fun j zs H4=>Sta l b H H4/\Kp l H3 H4/\∃ r:List Int,zs=r.map V.int/\r.length=j/\∀ z ∈ r,0 <= z/\z <= 5)
        ⟨s3,Kp.refl _ _,[],rfl,rfl,by simp⟩ (fun j zs H4 h=>?_) rfl (fun j zs H4 hj h=>?_) (fun zs H4 h=>?_)
      · obtain ⟨_,_,r,rfl,hr,_⟩:=h
        rw [List.length_map];exact hr
      · obtain ⟨s4,k4,r,rfl,hr,hz⟩:=h
        refine ⟨_,rfl,_,rfl,_,rfl,_,_,rfl,rfl,_,rfl,_,_,rfl,rfl,(by omega),rfl,.inr ⟨_,rfl,_,_,rfl,rfl,.inl ⟨by omega,by omega⟩,?_⟩⟩
        refine ⟨s4,k4,r ++ [_],by rw [List.map_append];rfl,by rw [List.length_append,hr];rfl,fun z hz'=>?_⟩
        rcases List.mem_append.mp hz' with h | h
        · exact hz z h
        · rw [List.mem_singleton.mp h]
          split <;> omega
      · obtain ⟨s4,k4,r,rfl,hr,hz⟩:=h
        intro p hp
        have s5:Sta l b H (upd H4 p (.lst (r.map V.int))):=s4.new hp
        refine ⟨p,_,rfl,.inl ⟨.of upd_same,fun t ht=>?_⟩⟩
        have kk:Kp l H3 (upd (upd H4 p (.lst (r.map V.int))) t (.tup (r.map V.int))):=(k4.trans (Kp.new hp)).trans (Kp.new ht)
        refine ⟨s5.new ht,rs ++ [r],by rw [List.length_append,hr1];rfl,fun r' hr'=>?_,?_⟩
        · rcases List.mem_append.mp hr' with h | h
          · exact hr2 r' h
          · rw [List.mem_singleton.mp h];exact ⟨hr,hz⟩
        · rw [List.map_append]
          exact (hd.kp kk).append (Dts.cons (Dt.mkI (s5.ne ht).symm upd_same) (Dts.nil _ _))
    · obtain ⟨s3,rs,hr1,hr2,hd⟩:=h
      exact fun p hp=>⟨p,_,rfl,.inl ⟨.of upd_same,fun ra hra=>fin rs ys H3 p ra s3 hr1 hr2 hd hp hra⟩⟩
  refine ⟨_,rfl,(n:Int),rfl,lo62,hi62,?_⟩
  refine blk_range (lo:=0) (n:=n) (sz (by omega)) (fun i ys H3=>Sta l b H H3/\∃ rs:List (List Int),rs.length=i/\(∀ r ∈ rs,Mt.Row n 5 r)/\Dts l H3 (rs.map DI) ys)
    ⟨s5,[],rfl,by simp,Dts.nil _ _⟩ (fun i ys H3 h=>?_) rfl (fun i ys H3 hi h=>?_) (fun ys H3 h=>?_)
  · obtain ⟨_,rs,hr1,_,hd⟩:=h
    rw [<- hd.len,List.length_map];exact hr1
  · obtain ⟨s3,rs,hr1,hr2,hd⟩:=h
    refine ⟨_,rfl,(n:Int),rfl,lo62,hi62,?_⟩
    refine blk_range (lo:=0) (n:=n) (sz (by omega)) (fun j zs H4=>Sta l b H H4/\Kp l H3 H4/\∃ r:List Int,zs=r.map V.int/\r.length=j/\∀ z ∈ r,0 <= z/\z <= 5)
      ⟨s3,Kp.refl _ _,[],rfl,rfl,by simp⟩ (fun j zs H4 h=>?_) rfl (fun j zs H4 hj h=>?_) (fun zs H4 h=>?_)
    · obtain ⟨_,_,r,rfl,hr,_⟩:=h
      rw [List.length_map];exact hr
    · obtain ⟨s4,k4,r,rfl,hr,hz⟩:=h
      obtain ⟨_,x5,hx5,ok5⟩:=id s4
      refine ⟨_,rfl,l,6,x5,b,rfl,hx5,ok5,by decide,by decide,fun y x6 hy ok6=>?_⟩
      refine ⟨s4.go ok6,k4.trans Kp.at,r ++ [(y:Int)],by rw [List.map_append];rfl,by rw [List.length_append,hr];rfl,fun z hz'=>?_⟩
      rcases List.mem_append.mp hz' with h | h
      · exact hz z h
      · rw [List.mem_singleton.mp h];omega
    · obtain ⟨s4,k4,r,rfl,hr,hz⟩:=h
      intro p hp
      have s5:Sta l b H (upd H4 p (.lst (r.map V.int))):=s4.new hp
      refine ⟨p,_,rfl,.inl ⟨.of upd_same,fun t ht=>?_⟩⟩
      have kk:Kp l H3 (upd (upd H4 p (.lst (r.map V.int))) t (.tup (r.map V.int))):=(k4.trans (Kp.new hp)).trans (Kp.new ht)
      refine ⟨s5.new ht,rs ++ [r],by rw [List.length_append,hr1];rfl,fun r' hr'=>?_,?_⟩
      · rcases List.mem_append.mp hr' with h | h
        · exact hr2 r' h
        · rw [List.mem_singleton.mp h];exact ⟨hr,hz⟩
      · rw [List.map_append]
        exact (hd.kp kk).append (Dts.cons (Dt.mkI (s5.ne ht).symm upd_same) (Dts.nil _ _))
  · obtain ⟨s3,rs,hr1,hr2,hd⟩:=h
    exact fun p hp=>⟨p,_,rfl,.inl ⟨.of upd_same,fun ra hra=>fin rs ys H3 p ra s3 hr1 hr2 hd hp hra⟩⟩
end
end G
namespace G
open PySem PySem.Spec PyProof.Rows L2 Mt
def ok2 (d:PyData):Prop:=short d/\∀ ds,d=.tuple ds->∀ r ∈ ds,short r
def Da (l:Addr) (H:Hp) (v:V):Prop:=∃ d,Dt l H d v
def Sh (l:Addr) (H:Hp) (v:V):Prop:=∃ d,Dt l H d v/\short d
def Tg (l:Addr) (H:Hp) (v:V):Prop:=∃ d,Dt l H d v/\ok2 d
theorem Da.kp {l:Addr} {H H':Hp} {v:V} (h:Da l H v) (k:Kp l H H'):Da l H' v:=let ⟨d,e⟩:=h;⟨d,e.kp k⟩
theorem Sh.kp {l:Addr} {H H':Hp} {v:V} (h:Sh l H v) (k:Kp l H H'):Sh l H' v:=let ⟨d,e,s⟩:=h;⟨d,e.kp k,s⟩
theorem Tg.kp {l:Addr} {H H':Hp} {v:V} (h:Tg l H v) (k:Kp l H H'):Tg l H' v:=let ⟨d,e,s⟩:=h;⟨d,e.kp k,s⟩
theorem Sh.da {l:Addr} {H:Hp} {v:V} (h:Sh l H v):Da l H v:=let ⟨d,e,_⟩:=h;⟨d,e⟩
theorem Tg.sh {l:Addr} {H:Hp} {v:V} (h:Tg l H v):Sh l H v:=let ⟨d,e,s⟩:=h;⟨d,e,s.1⟩
theorem ok2_not {d:PyData} (h:∀ ds,d ≠ .tuple ds):ok2 d:=⟨fun ds e=>absurd e (h ds),fun ds e=>absurd e (h ds)⟩
theorem Tg.int (l:Addr) (H:Hp) (i:Int):Tg l H (.int i):=⟨_,Dt.int l H i,ok2_not fun ds e=>by cases e⟩
theorem Tg.bl (l:Addr) (H:Hp) (b:Bool):Tg l H (.bl b):=⟨_,Dt.bl l H b,ok2_not fun ds e=>by cases e⟩
theorem Tg.non (l:Addr) (H:Hp):Tg l H .non:=⟨_,Dt.non l H,ok2_not fun ds e=>by cases e⟩
theorem Tg.str (l:Addr) (H:Hp) (x:Str):Tg l H (.str x):=⟨_,Dt.str l H x,ok2_not fun ds e=>by cases e⟩
theorem dts_da {l:Addr} {H:Hp}:∀ {xs:List V},(∀ x ∈ xs,Da l H x)->∃ ds,Dts l H ds xs
  | [],_=>⟨[],Dts.nil _ _⟩
  | x :: xs,h=>by
    obtain ⟨d,hd⟩:=h x List.mem_cons_self
    obtain ⟨ds,hds⟩:=dts_da (xs:=xs) fun y hy=>h y (List.mem_cons_of_mem _ hy)
    exact ⟨d :: ds,Dts.cons hd hds⟩
theorem dts_sh {l:Addr} {H:Hp}:∀ {xs:List V},(∀ x ∈ xs,Sh l H x)->∃ ds,Dts l H ds xs/\∀ d ∈ ds,short d
  | [],_=>⟨[],Dts.nil _ _,by simp⟩
  | x :: xs,h=>by
    obtain ⟨d,hd,hs⟩:=h x List.mem_cons_self
    obtain ⟨ds,hds,hss⟩:=dts_sh (xs:=xs) fun y hy=>h y (List.mem_cons_of_mem _ hy)
    refine ⟨d :: ds,Dts.cons hd hds,fun e he=>?_⟩
    rcases List.mem_cons.mp he with z | z
    · subst z;exact hs
    · exact hss e z
theorem Sh.tup {l p:Addr} {H:Hp} {xs:List V} (hp:H p=some (.tup xs)) (ne:p ≠ l) (hl:xs.length <= 1000) (h:∀ x ∈ xs,Da l H x):Sh l H (.ref p):=by
  obtain ⟨ds,hds⟩:=dts_da h
  refine ⟨_,Dt.tup ne hp hds,fun es e=>?_⟩
  injection e with e
  rw [<- e,hds.len];exact hl
theorem Tg.tup {l p:Addr} {H:Hp} {xs:List V} (hp:H p=some (.tup xs)) (ne:p ≠ l) (hl:xs.length <= 1000) (h:∀ x ∈ xs,Sh l H x):Tg l H (.ref p):=by
  obtain ⟨ds,hds,hss⟩:=dts_sh h
  refine ⟨_,Dt.tup ne hp hds,fun es e=>?_,fun es e r hr=>?_⟩
  · injection e with e
    rw [<- e,hds.len];exact hl
  · injection e with e
    rw [<- e] at hr;exact hss r hr
theorem Tg.lst {l p:Addr} {H:Hp} {xs:List V} (hp:H p=some (.lst xs)) (ne:p ≠ l) (h:∀ x ∈ xs,Da l H x):Tg l H (.ref p):=by
  obtain ⟨ds,hds⟩:=dts_da h
  exact ⟨_,Dt.lst ne hp hds,ok2_not fun ds e=>by cases e⟩
theorem Tg.dct {l p:Addr} {H:Hp} {ks:List (Key × V)} (hp:H p=some (.dK ks)) (ne:p ≠ l):Tg l H (.ref p) :=
  ⟨.dict [],by unfold Dt;exact ⟨p,ks,rfl,ne,hp⟩,ok2_not fun ds e=>by cases e⟩
def Tup (Pr:Hp->V->Prop) (m:Nat) (te:TE) (σ:L2.St) (H:Hp):Prop:=∀ Q:VK,(∀ p H' xs,Same H H'->H' p=some (.tup xs)->(∀ x ∈ xs,Pr H' x)->xs.length <= m->Q (.ref p) H')->te σ H Q
section
variable {Pr:Hp->V->Prop} {m m1 m2:Nat} {ta tb te:TE} {σ:L2.St} {H:Hp}
theorem Tup.cat (h1:Tup Pr m1 ta σ H) (h2:∀ H',Same H H'->Tup Pr m2 tb σ H') (mo:∀ H H' v,Same H H'->Pr H v->Pr H' v) (hm:m1 + m2 <= 1000):Tup Pr (m1 + m2) (tOp rCatS ta tb) σ H:=by
  intro Q q
  refine h1 _ fun p1 H1 xs g1 hp1 e1 l1=>h2 H1 g1 _ fun p2 H2 ys g2 hp2 e2 l2=>?_
  refine ⟨p1,p2,xs,ys,rfl,rfl,g2 _ _ hp1,hp2,by omega,fun p H' g hp=>q p H' _ ((g1.trans g2).trans g) hp (fun x hx=>?_) (by rw [List.length_append];omega)⟩
  rcases List.mem_append.mp hx with z | z
  · exact mo _ _ _ (g2.trans g) (e1 x z)
  · exact mo _ _ _ g (e2 x z)
theorem mem_cutV {xs:List V} {lo hi:Option Int} {x:V} (h:x ∈ cutV xs lo hi):x ∈ xs:=List.mem_of_mem_drop (List.mem_of_mem_take h)
theorem Tup.sl {i:Nat} {a:Addr} {xs:List V} {tl th:TO} (hi:σ[i]?=some (some (.ref a))) (ha:H a=some (.tup xs)) (he:∀ x ∈ xs,Pr H x) (mo:∀ H H' v,Same H H'->Pr H v->Pr H' v) (hm:xs.length <= m)
    (hl:∃ o,∀ R:Option Int->Hp->Prop,R o H->tl σ H R) (hh:∃ o,∀ R:Option Int->Hp->Prop,R o H->th σ H R):Tup Pr m (tSl rSlS (tVar i) tl th) σ H:=by
  intro Q q
  obtain ⟨o1,h1⟩:=hl
  obtain ⟨o2,h2⟩:=hh
  refine ⟨_,hi,h1 _ (h2 _ ⟨a,xs,rfl,ha,fun p H' g hp=>q p H' _ g hp (fun x hx=>mo _ _ _ g (he x (mem_cutV hx))) (Nat.le_trans (cutV_length xs o1 o2) hm)⟩)⟩
theorem Tup.one {i:Nat} {v:V} (hi:σ[i]?=some (some v)) (hv:Pr H v) (mo:∀ H H' v,Same H H'->Pr H v->Pr H' v):Tup Pr 1 (tTup (tCons (tVar i) tNil)) σ H:=by
  intro Q q
  refine ⟨_,hi,by show 1 <= sizeLine;decide,fun p hp=>q p _ [v] (Same.new hp) upd_same (fun x hx=>?_) (Nat.le_refl _)⟩
  rw [List.mem_singleton.mp hx]
  exact mo _ _ _ (Same.new hp) hv
theorem Tup.var {i:Nat} {a:Addr} {xs:List V} (hi:σ[i]?=some (some (.ref a))) (ha:H a=some (.tup xs)) (he:∀ x ∈ xs,Pr H x) (hm:xs.length <= m):Tup Pr m (tVar i) σ H :=
  fun Q q=>⟨_,hi,q a H xs (Same.refl H) ha he hm⟩
end
theorem po_no {σ:L2.St} {H:Hp}:∃ o,∀ R:Option Int->Hp->Prop,R o H->tNoPart σ H R:=⟨none,fun R r=>r⟩
theorem po_var {σ:L2.St} {H:Hp} {i:Nat} {k:Int} (h:σ[i]?=some (some (.int k))):∃ o,∀ R:Option Int->Hp->Prop,R o H->tPart (tVar i) σ H R:=⟨some k,fun R r=>⟨_,h,k,rfl,r⟩⟩
theorem po_succ {σ:L2.St} {H:Hp} {i:Nat} {k:Int} (h:σ[i]?=some (some (.int k))):∃ o,∀ R:Option Int->Hp->Prop,R o H->tPart (tOp (rI0 fun i j=>.int (i + j)) (tVar i) (tC (.int 1))) σ H R:=⟨some (k + 1),fun R r=>⟨_,h,k,1,rfl,rfl,k + 1,rfl,r⟩⟩
end G
namespace G
open PySem PySem.Spec PyProof.Rows L2 Mt
section
variable {P:Program} {w:World} {K:PySem.W.Frag} {mg:Str->Option Value} {base:Heap} {f:Addr} {fd:FuncData}
theorem pick12:∀ y:Nat,y < 12->∃ k:Nat,([.int 0,.int 0,.int 0,.int 0,.int 1,.int 2,.int 3,.int 4,.int 5,.int 6,.int 7,.int 8]:List V)[y]?=some (.int k)/\k < 9
  | 0,_=>⟨0,rfl,by decide⟩
  | 1,_=>⟨0,rfl,by decide⟩
  | 2,_=>⟨0,rfl,by decide⟩
  | 3,_=>⟨0,rfl,by decide⟩
  | 4,_=>⟨1,rfl,by decide⟩
  | 5,_=>⟨2,rfl,by decide⟩
  | 6,_=>⟨3,rfl,by decide⟩
  | 7,_=>⟨4,rfl,by decide⟩
  | 8,_=>⟨5,rfl,by decide⟩
  | 9,_=>⟨6,rfl,by decide⟩
  | 10,_=>⟨7,rfl,by decide⟩
  | 11,_=>⟨8,rfl,by decide⟩
def sp_bu:Sp:=fun vs H Q _=>∃ (l ua:Addr) (x:Int) (b:Bool) (ns:List Int),vs=[.ref l,.ref ua]/\H l=some (.lst [.int x,.bl b])/\StOk x b/\H ua=some (.tup (ns.map V.int))/\1 <= ns.length/\ns.length <= 4 /\
  ∀ (v:V) (H':Hp),Sta l b H H'->Tg l H' v->Q v H'
abbrev s_bu:Stmt:=top 55
theorem sc_bu:FnScope ["_law_state_here","_law_urn","_law_at","_law_odd_here","_law_some"] ["_law_state_here","_law_urn"] (defScope s_bu):=⟨rfl,rfl,rfl,by decide +kernel,rfl,by decide +kernel,by decide +kernel⟩
theorem ok_bu (F:Fun K "_law_bent_urn" "_law_bent_urn" s_bu f fd) (B:Bt mg) (c1:Cal P w K mg base 1 "_law_take" ["_law_state_here","_law_many"] sp_take):FnOk P w K mg base CX0 2 f fd ["_law_state_here","_law_urn"] sp_bu:=by
  refine F.ok sc_bu (fun vs H Q E h=>?_) (fun cdv A outer s H vs Q E hr h=>?_)
  · obtain ⟨l,ua,x,b,ns,rfl,_⟩:=h
    rfl
  obtain ⟨l,ua,x,b,ns,rfl,hl,hst,hua,n1,n4,q⟩:=h
  refine ⟨_,pss_cons (ps_set (i:=2) sc_bu.nd rfl (Or.inl rfl) (pe_cal c1 hr rfl (pa_cons (pv 0) (pa_cons (pe_callB call_len_seq rfl B.len PySem.boot_len (pa_cons (pv 1) pa_nil)) pa_nil))))
    (pss_cons (ps_set (i:=3) sc_bu.nd rfl (Or.inl rfl) (@pe_ix _ _ _ _ _ _ _ ix_list (@pe_lst _ _ _ _ (pa_pre 7 rfl (pa_cons (pe_tup (pa_cons pe_int pa_nil)) (pa_cons (pe_lst (pa_cons pe_int pa_nil)) (pa_cons (pe_op op_pow pe_int pe_int) (pa_cons (pe_op op_add (pe_ix ix_tup (pv 1) (pv 2) (fun _ _=>rfl)) pe_int) pa_nil)))))) (pe_cal c1 hr rfl (pa_cons (pv 0) (pa_cons pe_int pa_nil))) (fun _ _=>rfl)))
    (pss_cons (ps_set (i:=4) sc_bu.nd rfl (Or.inl rfl) (pe_lst
      (pa_cons (pe_op catS (pe_op catS (pe_slice slS (pv 1) po_none (po_some (pv 2))) (pe_tup (pa_cons (pv 3) pa_nil))) (pe_slice slS (pv 1) (po_some (pe_op op_add (pv 2) pe_int)) po_none))
      (pa_cons (pe_op catS (pe_op catS (pe_slice slS (pv 1) po_none (po_some (pv 2))) (pe_tup (pa_cons (pv 3) pa_nil))) (pe_slice slS (pv 1) (po_some (pv 2)) po_none))
      (pa_cons (pe_op catS (pe_slice slS (pv 1) po_none (po_some (pv 2))) (pe_slice slS (pv 1) (po_some (pe_op op_add (pv 2) pe_int)) po_none))
      (pa_cons (pe_callTy call_list_of rfl B.list boot_list (pa_cons (pv 1) pa_nil)) pa_nil))))))
    (pss_cons (ps_set (i:=4) sc_bu.nd rfl (Or.inl rfl) (pe_op op_cat (pv 4) (pe_lst
      (pa_cons (pe_op repS (pe_tup (pa_cons pe_int pa_nil)) (pe_callB call_len_seq rfl B.len PySem.boot_len (pa_cons (pv 1) pa_nil)))
      (pa_cons pe_non (pa_cons (pe_tup (pa_cons (pv 1) pa_nil)) (pa_cons (pe_op op_rep5 (pv 1) pe_int) (pa_cons (pv 3) pa_nil))))))))
    (pss_one (ps_ret (pe_pick rfl (pv 4) (pe_cal c1 hr rfl (pa_cons (pv 0) (pa_cons pe_int pa_nil))) (fun _ _=>rfl))))))),?_⟩
  have s0:Sta l b H H:=Sta.start hl hst
  have nua:ua ≠ l:=neT hl hua
  refine ⟨_,rfl,_,rfl,ua,_,rfl,.inr (.of hua),l,_,x,b,rfl,hl,hst,?_,?_,fun at0 x1 hat ok1=>?_⟩
  · rw [List.length_map];omega
  · rw [List.length_map];omega
  rw [List.length_map] at hat
  have s1:=s0.go ok1
  have k1:Kp l H (upd H l (.lst [.int x1,.bl b])):=Kp.at
  show tSeq _ _ _ _ (upd H l (.lst [.int x1,.bl b]))
  generalize upd H l (.lst [.int x1,.bl b])=H1 at s1 k1
  have hua1:=k1 _ _ nua hua
  refine ⟨(by show 1 <= sizeLine;decide),fun pt hpt=>?_⟩
  have s2:Sta l b H (upd H1 pt (.tup [.int 1])):=s1.new hpt
  have g2:Same H1 (upd H1 pt (.tup [.int 1])):=Same.new hpt
  have hpt2:upd H1 pt (.tup [.int 1]) pt=some (.tup [.int 1]):=upd_same
  dsimp only
  generalize upd H1 pt (.tup [.int 1])=H2 at s2 g2 hpt2
  have npt:pt ≠ l:=s2.neL hpt2
  refine ⟨(by show 1 <= sizeLine;decide),fun pw hpw=>?_⟩
  have s2':Sta l b H (upd H2 pw (.lst [.int 1])):=s2.new hpw
  have g2':Same H2 (upd H2 pw (.lst [.int 1])):=Same.new hpw
  have hpw2:upd H2 pw (.lst [.int 1]) pw=some (.lst [.int 1]):=upd_same
  have npw:pw ≠ l:=(s2.ne hpw).symm
  dsimp only
  generalize upd H2 pw (.lst [.int 1])=H2' at s2' g2' hpw2
  have hua2:=(g2.trans g2') _ _ hua1
  refine ⟨_,_,rfl,rfl,⟨by decide,by decide,by decide⟩,_,rfl,_,rfl,ua,_,_,_,rfl,rfl,.of hua2,atI_int (by omega),_,_,rfl,rfl,(by show 11 <= sizeLine;decide),fun po hpo=>?_⟩
  have s3:=s2'.new (o:=.lst ([.int 21,.int (-1),.int 20,.int 0,.bl true,.non,.str "1"] ++ [.ref pt,.ref pw,.int (10 ^ 29),.int (ns.getD at0 0 + 1)])) hpo
  have npo:po ≠ l:=(s2'.ne hpo).symm
  have g3:Same H2' (upd H2' po (.lst ([.int 21,.int (-1),.int 20,.int 0,.bl true,.non,.str "1"] ++ [.ref pt,.ref pw,.int (10 ^ 29),.int (ns.getD at0 0 + 1)]))):=Same.new hpo
  have hpo3:upd H2' po (.lst ([.int 21,.int (-1),.int 20,.int 0,.bl true,.non,.str "1"] ++ [.ref pt,.ref pw,.int (10 ^ 29),.int (ns.getD at0 0 + 1)])) po=some (.lst ([.int 21,.int (-1),.int 20,.int 0,.bl true,.non,.str "1"] ++ [.ref pt,.ref pw,.int (10 ^ 29),.int (ns.getD at0 0 + 1)])):=upd_same
  show tCb sp_take _ _ (upd H2' po (.lst ([.int 21,.int (-1),.int 20,.int 0,.bl true,.non,.str "1"] ++ [.ref pt,.ref pw,.int (10 ^ 29),.int (ns.getD at0 0 + 1)]))) _
  generalize hX:(([.int 21,.int (-1),.int 20,.int 0,.bl true,.non,.str "1"] ++ [.ref pt,.ref pw,.int (10 ^ 29),.int (ns.getD at0 0 + 1)]):List V)=X11 at s3 g3 hpo3
  have hX11:X11.length=11/\∀ (H':Hp),H' pt=some (.tup [.int 1])->H' pw=some (.lst [.int 1])->∀ y ∈ X11,Tg l H' y:=by
    rw [<- hX]
    refine ⟨rfl,fun H' h h' y hy=>?_⟩
    simp only [List.cons_append,List.nil_append,List.mem_cons,List.not_mem_nil,or_false] at hy
    rcases hy with e | e | e | e | e | e | e | e | e | e | e
    · rw [e];exact Tg.int _ _ _
    · rw [e];exact Tg.int _ _ _
    · rw [e];exact Tg.int _ _ _
    · rw [e];exact Tg.int _ _ _
    · rw [e];exact Tg.bl _ _ _
    · rw [e];exact Tg.non _ _
    · rw [e];exact Tg.str _ _ _
    · rw [e];exact Tg.tup h npt (by decide) fun z hz=>by rw [List.mem_singleton.mp hz];exact (Tg.int _ _ _).sh
    · rw [e];exact Tg.lst h' npw fun z hz=>by rw [List.mem_singleton.mp hz];exact (Tg.int _ _ _).sh.da
    · rw [e];exact Tg.int _ _ _
    · rw [e];exact Tg.int _ _ _
  clear hX
  have hua3:=g3 _ _ hua2
  have hpt3:=(g2'.trans g3) _ _ hpt2
  have hpw3:=g3 _ _ hpw2
  generalize upd H2' po (.lst X11)=H3 at s3 g3 hpo3 hua3 hpt3 hpw3
  obtain ⟨_,x3,hx3,ok3⟩:=id s3
  refine ⟨_,rfl,l,11,x3,b,rfl,hx3,ok3,by decide,by decide,fun y x4 hy ok4=>?_⟩
  have s4:=s3.go ok4
  have k4:Kp l H3 (upd H3 l (.lst [.int x4,.bl b])):=Kp.at
  dsimp only
  generalize upd H3 l (.lst [.int x4,.bl b])=H4 at s4 k4
  have hua4:=k4 _ _ nua hua3
  have hpt4:=k4 _ _ npt hpt3
  have hpw4:=k4 _ _ npw hpw3
  have hpo4:=k4 _ _ npo hpo3
  have hy11:y < X11.length:=by rw [hX11.1];omega
  refine ⟨po,_,_,X11[y],rfl,rfl,.of hpo4,atI_nat (List.getElem?_eq_getElem hy11),?_⟩
  have hod:Tg l H4 X11[y]:=hX11.2 H4 hpt4 hpw4 _ (List.getElem_mem hy11)
  generalize X11[y]=od at hod
  clear hX11 hy11 hpo4 hpo3 hpt4 hpt3 hpt2 hpw4 hpw3 hpw2
  have mo:∀ (H H':Hp) (v:V),Same H H'->Sh l H v->Sh l H' v:=fun H H' v g h=>h.kp (g.kp l)
  have hxs:∀ H',∀ z ∈ ns.map V.int,Sh l H' z:=fun H' z hz=>by
    obtain ⟨i,_,e⟩:=List.mem_map.mp hz
    rw [<- e];exact (Tg.int _ _ _).sh
  have hln:(ns.map V.int).length <= 4:=by rw [List.length_map];exact n4
  have U:∀ H',Same H4 H'->H' ua=some (.tup (ns.map V.int)):=fun H' g=>g _ _ hua4
  have T1:∀ H',Same H4 H'->Tup (Sh l) (4 + 1 + 4) (tOp rCatS (tOp rCatS (tSl rSlS (tVar 1) tNoPart (tPart (tVar 2))) (tTup (tCons (tVar 3) tNil))) (tSl rSlS (tVar 1) (tPart (tOp (rI0 fun i j=>.int (i + j)) (tVar 2) (tC (.int 1)))) tNoPart)) [some (.ref l),some (.ref ua),some (.int at0),some od,none] H':=fun H' g =>
    Tup.cat (Tup.cat (Tup.sl rfl (U _ g) (hxs _) mo hln po_no (po_var rfl)) (fun H'' g'=>Tup.one rfl (hod.sh.kp ((g.trans g').kp l)) mo) mo (by decide)) (fun H'' g'=>Tup.sl rfl (U _ (g.trans g')) (hxs _) mo hln (po_succ rfl) po_no) mo (by decide)
  have T2:∀ H',Same H4 H'->Tup (Sh l) (4 + 1 + 4) (tOp rCatS (tOp rCatS (tSl rSlS (tVar 1) tNoPart (tPart (tVar 2))) (tTup (tCons (tVar 3) tNil))) (tSl rSlS (tVar 1) (tPart (tVar 2)) tNoPart)) [some (.ref l),some (.ref ua),some (.int at0),some od,none] H':=fun H' g =>
    Tup.cat (Tup.cat (Tup.sl rfl (U _ g) (hxs _) mo hln po_no (po_var rfl)) (fun H'' g'=>Tup.one rfl (hod.sh.kp ((g.trans g').kp l)) mo) mo (by decide)) (fun H'' g'=>Tup.sl rfl (U _ (g.trans g')) (hxs _) mo hln (po_var rfl) po_no) mo (by decide)
  have T3:∀ H',Same H4 H'->Tup (Sh l) (4 + 4) (tOp rCatS (tSl rSlS (tVar 1) tNoPart (tPart (tVar 2))) (tSl rSlS (tVar 1) (tPart (tOp (rI0 fun i j=>.int (i + j)) (tVar 2) (tC (.int 1)))) tNoPart)) [some (.ref l),some (.ref ua),some (.int at0),some od,none] H':=fun H' g =>
    Tup.cat (Tup.sl rfl (U _ g) (hxs _) mo hln po_no (po_var rfl)) (fun H'' g'=>Tup.sl rfl (U _ (g.trans g')) (hxs _) mo hln (po_succ rfl) po_no) mo (by decide)
  show tOp rCatS _ _ _ _ _
  refine T1 H4 (Same.refl _) _ fun p1 H5 xs1 g5 hp1 e1 l1=>?_
  show tOp rCatS _ _ _ _ _
  refine T2 H5 g5 _ fun p2 H6 xs2 g6 hp2 e2 l2=>?_
  show tOp rCatS _ _ _ _ _
  refine T3 H6 (g5.trans g6) _ fun p3 H7 xs3 g7 hp3 e3 l3=>?_
  have g47:=(g5.trans g6).trans g7
  have s7:Sta l b H H7:=s4.same g47
  refine ⟨_,rfl,ua,_,rfl,.inr (.of (U _ g47)),fun p4 hp4=>⟨(by show 4 <= sizeLine;decide),fun ps hps=>?_⟩⟩
  have s8:Sta l b H (upd H7 p4 (.lst (ns.map V.int))):=s7.new hp4
  have np4:p4 ≠ l:=(s7.ne hp4).symm
  have s9:Sta l b H (upd (upd H7 p4 (.lst (ns.map V.int))) ps (.lst [.ref p1,.ref p2,.ref p3,.ref p4])):=s8.new hps
  have nps:ps ≠ l:=(s8.ne hps).symm
  have g79:Same H7 (upd (upd H7 p4 (.lst (ns.map V.int))) ps (.lst [.ref p1,.ref p2,.ref p3,.ref p4])):=(Same.new hp4).trans (Same.new hps)
  have hp4':upd (upd H7 p4 (.lst (ns.map V.int))) ps (.lst [.ref p1,.ref p2,.ref p3,.ref p4]) p4=some (.lst (ns.map V.int)):=by rw [upd_ne (fun e=>by rw [<- e,upd_same] at hps;cases hps),upd_same]
  have hps':upd (upd H7 p4 (.lst (ns.map V.int))) ps (.lst [.ref p1,.ref p2,.ref p3,.ref p4]) ps=some (.lst [.ref p1,.ref p2,.ref p3,.ref p4]):=upd_same
  show tSeq _ _ _ _ (upd (upd H7 p4 (.lst (ns.map V.int))) ps (.lst [.ref p1,.ref p2,.ref p3,.ref p4]))
  generalize upd (upd H7 p4 (.lst (ns.map V.int))) ps (.lst [.ref p1,.ref p2,.ref p3,.ref p4])=H9 at s9 g79 hp4' hps'
  have tg:∀ {p:Addr} {xs:List V} {m:Nat} {Ha:Hp},Same Ha H9->Ha p=some (.tup xs)->(∀ z ∈ xs,Sh l Ha z)->xs.length <= m->m <= 1000->Tg l H9 (.ref p):=fun {p xs m Ha} g h e lm hm=>Tg.tup (g _ _ h) (s9.neL (g _ _ h)) (by omega) fun z hz=>mo _ _ _ g (e z hz)
  have t1:Tg l H9 (.ref p1):=tg ((g6.trans g7).trans g79) hp1 e1 l1 (by decide)
  have t2:Tg l H9 (.ref p2):=tg (g7.trans g79) hp2 e2 l2 (by decide)
  have t3:Tg l H9 (.ref p3):=tg g79 hp3 e3 l3 (by decide)
  have t4:Tg l H9 (.ref p4):=Tg.lst hp4' np4 fun z hz=>(hxs _ z hz).da
  have hod9:Tg l H9 od:=hod.kp ((g47.trans g79).kp l)
  have hua9:=U _ (g47.trans g79)
  clear T1 T2 T3 U
  refine ⟨_,rfl,(by show 1 <= sizeLine;decide),fun q0 hq0=>?_⟩
  have gA:Same H9 (upd H9 q0 (.tup [.int 0])):=Same.new hq0
  have hA:upd H9 q0 (.tup [.int 0]) q0=some (.tup [.int 0]):=upd_same
  dsimp only
  generalize upd H9 q0 (.tup [.int 0])=HA at gA hA
  refine ⟨_,rfl,ua,_,rfl,.inr (.of (gA _ _ hua9)),q0,.int 0,ns.length,rfl,(by rw [List.length_map]),hA,n1,n4,fun pa HB gB hpa=>?_⟩
  refine ⟨_,rfl,(by show 1 <= sizeLine;decide),fun pf hpf=>?_⟩
  have gE:Same HB (upd HB pf (.tup [.ref ua])):=Same.new hpf
  have hE:upd HB pf (.tup [.ref ua]) pf=some (.tup [.ref ua]):=upd_same
  dsimp only
  generalize upd HB pf (.tup [.ref ua])=HE at gE hE
  have g9E:=(gA.trans gB).trans gE
  refine ⟨_,rfl,ua,_,rfl,rfl,g9E _ _ hua9,(by rw [List.length_map];exact n1),hln,fun pg HF gF hpg=>⟨_,rfl,(by show 5 <= sizeLine;decide),fun ph hph=>?_⟩⟩
  have g9F:=g9E.trans gF
  have s9F:=s9.same g9F
  have hps1:=g9F _ _ hps'
  refine ⟨ps,ph,_,_,rfl,rfl,(by rw [upd_ne (ne_of_none hps1 hph)];exact hps1),upd_same,(by show 4 + 5 <= sizeLine;decide),fun pz hpz=>?_⟩
  have gG:Same HF (upd (upd HF ph (.lst [.ref pa,.non,.ref pf,.ref pg,od])) pz (.lst ([.ref p1,.ref p2,.ref p3,.ref p4] ++ [.ref pa,.non,.ref pf,.ref pg,od]))):=(Same.new hph).trans (Same.new hpz)
  have hz:upd (upd HF ph (.lst [.ref pa,.non,.ref pf,.ref pg,od])) pz (.lst ([.ref p1,.ref p2,.ref p3,.ref p4] ++ [.ref pa,.non,.ref pf,.ref pg,od])) pz=some (.lst ([.ref p1,.ref p2,.ref p3,.ref p4] ++ [.ref pa,.non,.ref pf,.ref pg,od])):=upd_same
  have nz:pz ≠ l:=((s9F.new hph).ne hpz).symm
  have sG:=s9F.same gG
  show tRet _ _ _ (upd (upd HF ph (.lst [.ref pa,.non,.ref pf,.ref pg,od])) pz (.lst ([.ref p1,.ref p2,.ref p3,.ref p4] ++ [.ref pa,.non,.ref pf,.ref pg,od])))
  generalize upd (upd HF ph (.lst [.ref pa,.non,.ref pf,.ref pg,od])) pz (.lst ([.ref p1,.ref p2,.ref p3,.ref p4] ++ [.ref pa,.non,.ref pf,.ref pg,od]))=HG at gG hz sG
  have all:∀ y ∈ ([.ref p1,.ref p2,.ref p3,.ref p4] ++ [.ref pa,.non,.ref pf,.ref pg,od]:List V),Tg l HG y:=fun y hy=>by
    simp only [List.cons_append,List.nil_append,List.mem_cons,List.not_mem_nil,or_false] at hy
    have k9:=(g9F.trans gG).kp l
    rcases hy with e | e | e | e | e | e | e | e | e
    · rw [e];exact t1.kp k9
    · rw [e];exact t2.kp k9
    · rw [e];exact t3.kp k9
    · rw [e];exact t4.kp k9
    · rw [e]
      have h:=((gE.trans gF).trans gG) _ _ hpa
      exact Tg.tup h (sG.neL h) (by rw [List.length_replicate];omega) fun z hz=>by rw [List.eq_of_mem_replicate hz];exact (Tg.int _ _ _).sh
    · rw [e];exact Tg.non _ _
    · rw [e]
      have h:=(gF.trans gG) _ _ hE
      have hu:=(g9F.trans gG) _ _ hua9
      exact Tg.tup h (sG.neL h) (by show 1 <= 1000;decide) fun z hz=>by rw [List.mem_singleton.mp hz];exact Sh.tup hu (sG.neL hu) (by omega) fun z' hz'=>(hxs _ z' hz').da
    · rw [e]
      have h:=gG _ _ hpg
      refine Tg.tup h (sG.neL h) (by simp [List.replicate_succ];omega) fun z hz=>?_
      obtain ⟨ys,h1,h2⟩:=List.mem_flatten.mp hz
      rw [List.eq_of_mem_replicate h1] at h2
      exact hxs _ z h2
    · rw [e];exact hod9.kp k9
  generalize hL9:([.ref p1,.ref p2,.ref p3,.ref p4] ++ [.ref pa,.non,.ref pf,.ref pg,od]:List V)=L9 at hz all
  have hlen9:L9.length=9:=by rw [<- hL9];rfl
  refine ⟨_,rfl,(by show 12 <= sizeLine;decide),fun pk hpk=>?_⟩
  have sH:=sG.new (o:=.lst [.int 0,.int 0,.int 0,.int 0,.int 1,.int 2,.int 3,.int 4,.int 5,.int 6,.int 7,.int 8]) hpk
  have npk:pk ≠ l:=(sG.ne hpk).symm
  have kH:Kp l HG (upd HG pk (.lst [.int 0,.int 0,.int 0,.int 0,.int 1,.int 2,.int 3,.int 4,.int 5,.int 6,.int 7,.int 8])):=Kp.new hpk
  have hk:upd HG pk (.lst [.int 0,.int 0,.int 0,.int 0,.int 1,.int 2,.int 3,.int 4,.int 5,.int 6,.int 7,.int 8]) pk=some (.lst [.int 0,.int 0,.int 0,.int 0,.int 1,.int 2,.int 3,.int 4,.int 5,.int 6,.int 7,.int 8]):=upd_same
  obtain ⟨_,xH,hxH,okH⟩:=id sH
  refine ⟨_,rfl,l,12,xH,b,rfl,hxH,okH,by decide,by decide,fun y xI hy okI=>?_⟩
  have sI:=sH.go okI
  have kI:Kp l (upd HG pk (.lst [.int 0,.int 0,.int 0,.int 0,.int 1,.int 2,.int 3,.int 4,.int 5,.int 6,.int 7,.int 8])) (upd (upd HG pk (.lst [.int 0,.int 0,.int 0,.int 0,.int 1,.int 2,.int 3,.int 4,.int 5,.int 6,.int 7,.int 8])) l (.lst [.int xI,.bl b])):=Kp.at
  have hk2:=kI _ _ npk hk
  have hz2:=(kH.trans kI) _ _ nz hz
  obtain ⟨k,hk3,hk4⟩:=pick12 y (by omega)
  refine ⟨pk,_,_,_,rfl,rfl,.of hk2,atI_nat hk3,pz,_,_,L9[k]'(by omega),rfl,rfl,.of hz2,atI_nat (List.getElem?_eq_getElem _),q _ _ sI ((all _ (List.getElem_mem _)).kp (kH.trans kI))⟩
end
end G
namespace G
open PySem PySem.Spec PyProof.Rows L2 Mt
section
variable {P:Program} {w:World} {K:PySem.W.Frag} {mg:Str->Option Value} {base:Heap} {f:Addr} {fd:FuncData}
theorem pick8:∀ y:Nat,y < 8->∃ k:Nat,([.int 0,.int 0,.int 0,.int 0,.int 1,.int 2,.int 3,.int 4]:List V)[y]?=some (.int k)/\k < 5
  | 0,_=>⟨0,rfl,by decide⟩
  | 1,_=>⟨0,rfl,by decide⟩
  | 2,_=>⟨0,rfl,by decide⟩
  | 3,_=>⟨0,rfl,by decide⟩
  | 4,_=>⟨1,rfl,by decide⟩
  | 5,_=>⟨2,rfl,by decide⟩
  | 6,_=>⟨3,rfl,by decide⟩
  | 7,_=>⟨4,rfl,by decide⟩
theorem pick11:∀ y:Nat,y < 11->∃ k:Nat,([.int 0,.int 0,.int 0,.int 0,.int 0,.int 1,.int 2,.int 3,.int 4,.int 5,.int 6]:List V)[y]?=some (.int k)/\k < 7
  | 0,_=>⟨0,rfl,by decide⟩
  | 1,_=>⟨0,rfl,by decide⟩
  | 2,_=>⟨0,rfl,by decide⟩
  | 3,_=>⟨0,rfl,by decide⟩
  | 4,_=>⟨0,rfl,by decide⟩
  | 5,_=>⟨1,rfl,by decide⟩
  | 6,_=>⟨2,rfl,by decide⟩
  | 7,_=>⟨3,rfl,by decide⟩
  | 8,_=>⟨4,rfl,by decide⟩
  | 9,_=>⟨5,rfl,by decide⟩
  | 10,_=>⟨6,rfl,by decide⟩
def sp_br:Sp:=fun vs H Q _=>∃ (l:Addr) (rv:V) (x:Int) (b:Bool) (n:Nat) (rs:List (List Int)),vs=[.ref l,rv]/\H l=some (.lst [.int x,.bl b])/\StOk x b/\Dt l H (DR rs) rv/\Mt.Rul n 5 rs/\1 <= n/\n <= 4 /\
  ∀ (v:V) (H':Hp),Sta l b H H'->Tg l H' v->Q v H'
abbrev s_br:Stmt:=top 56
theorem sc_br:FnScope ["_law_state_here","_law_rule_here","_law_at","_law_k","_law_row","_law_odd_here","_law_rows","_law_one","_law_some"] ["_law_state_here","_law_rule_here"] (defScope s_br):=⟨rfl,rfl,rfl,by decide +kernel,rfl,by decide +kernel,by decide +kernel⟩
theorem ok_br (F:Fun K "_law_bent_rule" "_law_bent_rule" s_br f fd) (B:Bt mg) (c1:Cal P w K mg base 1 "_law_take" ["_law_state_here","_law_many"] sp_take):FnOk P w K mg base CX0 2 f fd ["_law_state_here","_law_rule_here"] sp_br:=by
  refine F.ok sc_br (fun vs H Q E h=>?_) (fun cdv A outer s H vs Q E hr h=>?_)
  · obtain ⟨l,rv,x,b,n,rs,rfl,_⟩:=h
    rfl
  obtain ⟨l,rv,x,b,n,rs,rfl,hl,hst,hrd,hR,n1,n4,q⟩:=h
  refine ⟨_,pss_cons (ps_par (i:=2) (j:=3) rfl sc_br.nd rfl rfl (by decide) rfl rfl (pa_cons (pe_cal c1 hr rfl (pa_cons (pv 0) (pa_cons (pe_callB call_len_seq rfl B.len PySem.boot_len (pa_cons (pv 1) pa_nil)) pa_nil))) (pa_cons (pe_cal c1 hr rfl (pa_cons (pv 0) (pa_cons (pe_callB call_len_seq rfl B.len PySem.boot_len (pa_cons (pv 1) pa_nil)) pa_nil))) pa_nil)) rfl)
    (pss_cons (ps_set (i:=4) sc_br.nd rfl (Or.inl rfl) (pe_ix ix_tup (pv 1) (pv 2) (fun _ _=>rfl)))
    (pss_cons (ps_set (i:=5) sc_br.nd rfl (Or.inl rfl) (@pe_ix _ _ _ _ _ _ _ ix_list (@pe_lst _ _ _ _ (pa_pre 7 rfl (pa_cons (pe_tup (pa_cons pe_int pa_nil)) (pa_cons (pe_op op_pow pe_int pe_int) (pa_cons (pe_ix ix_tup (pv 4) (pv 3) (fun _ _=>rfl)) pa_nil))))) (pe_cal c1 hr rfl (pa_cons (pv 0) (pa_cons pe_int pa_nil))) (fun _ _=>rfl)))
    (pss_cons (ps_set (i:=6) sc_br.nd rfl (Or.inl rfl) (pe_lst
      (pa_cons (pe_op catS (pe_op catS (pe_slice slS (pv 4) po_none (po_some (pv 3))) (pe_tup (pa_cons (pv 5) pa_nil))) (pe_slice slS (pv 4) (po_some (pe_op op_add (pv 3) pe_int)) po_none))
      (pa_cons (pe_op catS (pe_op catS (pe_slice slS (pv 4) po_none (po_some (pv 3))) (pe_tup (pa_cons (pv 5) pa_nil))) (pe_slice slS (pv 4) (po_some (pv 3)) po_none))
      (pa_cons (pe_op catS (pe_slice slS (pv 4) po_none (po_some (pv 3))) (pe_slice slS (pv 4) (po_some (pe_op op_add (pv 3) pe_int)) po_none))
      (pa_cons (pe_callTy call_list_of rfl B.list boot_list (pa_cons (pv 4) pa_nil)) (pa_consts rfl)))))))
    (pss_cons (ps_set (i:=7) sc_br.nd rfl (Or.inl rfl) (pe_pick rfl (pv 6) (pe_cal c1 hr rfl (pa_cons (pv 0) (pa_cons pe_int pa_nil))) (fun _ _=>rfl)))
    (pss_cons (ps_set (i:=8) sc_br.nd rfl (Or.inl rfl) (pe_lst
      (pa_cons (pe_op catS (pe_op catS (pe_slice slS (pv 1) po_none (po_some (pv 2))) (pe_tup (pa_cons (pv 7) pa_nil))) (pe_slice slS (pv 1) (po_some (pe_op op_add (pv 2) pe_int)) po_none))
      (pa_cons (pe_op catS (pe_slice slS (pv 1) po_none (po_some (pv 2))) (pe_slice slS (pv 1) (po_some (pe_op op_add (pv 2) pe_int)) po_none))
      (pa_cons (pe_op catS (pv 1) (pe_tup (pa_cons (pv 4) pa_nil)))
      (pa_cons (pe_callTy call_list_of rfl B.list boot_list (pa_cons (pv 1) pa_nil)) (@pa_k _ _ _ _ _ _ _ pe_non (pa_cons (pe_tup (pa_cons (pv 1) pa_nil)) pa_nil))))))))
    (pss_one (ps_ret (pe_pick rfl (pe_op op_cat (pv 8) (pe_lst (pa_cons (pv 4) pa_nil))) (pe_cal c1 hr rfl (pa_cons (pv 0) (pa_cons pe_int pa_nil))) (fun _ _=>rfl))))))))),?_⟩
  obtain ⟨ra,zs,e,nra,hra,hds⟩:=hrd.untup
  subst e
  have hzl:zs.length=n:=by rw [<- hds.len,List.length_map];exact hR.len
  have s0:Sta l b H H:=Sta.start hl hst
  refine ⟨_,rfl,_,rfl,ra,_,rfl,.inr (.of hra),l,_,x,b,rfl,hl,hst,(by omega),(by omega),fun at0 x1 hat ok1=>?_⟩
  have s1:=s0.go ok1
  have k1:Kp l H (upd H l (.lst [.int x1,.bl b])):=Kp.at
  try dsimp only
  generalize upd H l (.lst [.int x1,.bl b])=H1 at s1 k1
  have hra1:=k1 _ _ nra hra
  obtain ⟨_,x1',hx1,ok1'⟩:=id s1
  refine ⟨_,rfl,_,rfl,ra,_,rfl,.inr (.of hra1),l,_,x1',b,rfl,hx1,ok1',(by omega),(by omega),fun k0 x2 hk0 ok2=>⟨_,_,rfl,?_⟩⟩
  have s2:=s1.go ok2
  have k2:Kp l H1 (upd H1 l (.lst [.int x2,.bl b])):=Kp.at
  try dsimp only
  generalize upd H1 l (.lst [.int x2,.bl b])=H2 at s2 k2
  have hat':at0 < rs.length:=by rw [hR.len];omega
  obtain ⟨ra',zs',lb,e1,e2,hzb,hlb⟩:=dr_row hrd hat'
  cases e1
  rw [hra] at e2
  cases e2
  have hrow:Mt.Row n 5 (rs.getD at0 []):=hR.at (by rw [<- hR.len];exact hat')
  generalize rs.getD at0 []=row at hlb hrow
  have nlb:lb ≠ l:=neT hl hlb
  have hra2:=k2 _ _ nra hra1
  have hlb2:=(k1.trans k2) _ _ nlb hlb
  have hds2:=hds.kp (k1.trans k2)
  have hrl:=hrow.len
  refine ⟨_,rfl,_,rfl,ra,_,_,_,rfl,rfl,.of hra2,atI_nat hzb,?_⟩
  refine ⟨(by show 1 <= sizeLine;decide),fun pt hpt=>?_⟩
  have s3:Sta l b H (upd H2 pt (.tup [.int 1])):=s2.new hpt
  have g3:Same H2 (upd H2 pt (.tup [.int 1])):=Same.new hpt
  have hpt3:upd H2 pt (.tup [.int 1]) pt=some (.tup [.int 1]):=upd_same
  try dsimp only
  generalize upd H2 pt (.tup [.int 1])=H3 at s3 g3 hpt3
  have npt:pt ≠ l:=s3.neL hpt3
  refine ⟨_,_,rfl,rfl,⟨by decide,by decide,by decide⟩,_,rfl,_,rfl,lb,_,_,_,rfl,rfl,.of (g3 _ _ hlb2),atI_int (by omega),(by show 10 <= sizeLine;decide),fun po hpo=>?_⟩
  have s4:=s3.new (o:=.lst ([.int 6,.int (-1),.int 5,.int 0,.bl true,.non,.str "1"] ++ [.ref pt,.int (10 ^ 29),.int (row.getD k0 0)])) hpo
  have npo:po ≠ l:=(s3.ne hpo).symm
  have g4:Same H3 (upd H3 po (.lst ([.int 6,.int (-1),.int 5,.int 0,.bl true,.non,.str "1"] ++ [.ref pt,.int (10 ^ 29),.int (row.getD k0 0)]))):=Same.new hpo
  have hpo4:upd H3 po (.lst ([.int 6,.int (-1),.int 5,.int 0,.bl true,.non,.str "1"] ++ [.ref pt,.int (10 ^ 29),.int (row.getD k0 0)])) po=some (.lst ([.int 6,.int (-1),.int 5,.int 0,.bl true,.non,.str "1"] ++ [.ref pt,.int (10 ^ 29),.int (row.getD k0 0)])):=upd_same
  show tCb sp_take _ _ (upd H3 po (.lst ([.int 6,.int (-1),.int 5,.int 0,.bl true,.non,.str "1"] ++ [.ref pt,.int (10 ^ 29),.int (row.getD k0 0)]))) _
  generalize hX:(([.int 6,.int (-1),.int 5,.int 0,.bl true,.non,.str "1"] ++ [.ref pt,.int (10 ^ 29),.int (row.getD k0 0)]):List V)=X10 at s4 g4 hpo4
  have hX10:X10.length=10/\∀ (H':Hp),H' pt=some (.tup [.int 1])->∀ y ∈ X10,Tg l H' y:=by
    rw [<- hX]
    refine ⟨rfl,fun H' h y hy=>?_⟩
    simp only [List.cons_append,List.nil_append,List.mem_cons,List.not_mem_nil,or_false] at hy
    rcases hy with e | e | e | e | e | e | e | e | e | e
    · rw [e];exact Tg.int _ _ _
    · rw [e];exact Tg.int _ _ _
    · rw [e];exact Tg.int _ _ _
    · rw [e];exact Tg.int _ _ _
    · rw [e];exact Tg.bl _ _ _
    · rw [e];exact Tg.non _ _
    · rw [e];exact Tg.str _ _ _
    · rw [e];exact Tg.tup h npt (by decide) fun z hz=>by rw [List.mem_singleton.mp hz];exact (Tg.int _ _ _).sh
    · rw [e];exact Tg.int _ _ _
    · rw [e];exact Tg.int _ _ _
  clear hX
  have g24:=g3.trans g4
  have hpt4:=g4 _ _ hpt3
  generalize upd H3 po (.lst X10)=H4 at s4 g24 g4 hpo4 hpt4
  obtain ⟨_,x4,hx4,ok4⟩:=id s4
  refine ⟨_,rfl,l,10,x4,b,rfl,hx4,ok4,by decide,by decide,fun y x5 hy ok5=>?_⟩
  have s5:=s4.go ok5
  have k5:Kp l H4 (upd H4 l (.lst [.int x5,.bl b])):=Kp.at
  dsimp only
  generalize upd H4 l (.lst [.int x5,.bl b])=H5 at s5 k5
  have k25:=(g24.kp l).trans k5
  have hra5:=k25 _ _ nra hra2
  have hlb5:=k25 _ _ nlb hlb2
  have hds5:=hds2.kp k25
  have hpt5:=k5 _ _ npt hpt4
  have hpo5:=k5 _ _ npo hpo4
  have hy10:y < X10.length:=by rw [hX10.1];omega
  refine ⟨po,_,_,X10[y],rfl,rfl,.of hpo5,atI_nat (List.getElem?_eq_getElem hy10),?_⟩
  have hod:Tg l H5 X10[y]:=hX10.2 H5 hpt5 _ (List.getElem_mem hy10)
  generalize X10[y]=od at hod
  clear hX10 hy10 hpo5 hpo4 hpt5 hpt4 hpt3 k25 g24 k5 g4 g3 s4 s3 s2 s1 k1 k2 hra1 hra2 hlb2 hds2 hx1 hx4
  have moD:∀ (H H':Hp) (v:V),Same H H'->Da l H v->Da l H' v:=fun H H' v g h=>h.kp (g.kp l)
  have moS:∀ (H H':Hp) (v:V),Same H H'->Sh l H v->Sh l H' v:=fun H H' v g h=>h.kp (g.kp l)
  have hxs:∀ H',∀ z ∈ row.map V.int,Da l H' z:=fun H' z hz=>by
    obtain ⟨i,_,e⟩:=List.mem_map.mp hz
    rw [<- e];exact (Tg.int _ _ _).sh.da
  have hln:(row.map V.int).length <= 4:=by rw [List.length_map,hrow.len];exact n4
  have U:∀ H',Same H5 H'->H' lb=some (.tup (row.map V.int)):=fun H' g=>g _ _ hlb5
  have T1:∀ H',Same H5 H'->Tup (Da l) (4 + 1 + 4) (tOp rCatS (tOp rCatS (tSl rSlS (tVar 4) tNoPart (tPart (tVar 3))) (tTup (tCons (tVar 5) tNil))) (tSl rSlS (tVar 4) (tPart (tOp (rI0 fun i j=>.int (i + j)) (tVar 3) (tC (.int 1)))) tNoPart)) [some (.ref l),some (.ref ra),some (.int at0),some (.int k0),some (.ref lb),some od,none,none,none] H':=fun H' g =>
    Tup.cat (Tup.cat (Tup.sl rfl (U _ g) (hxs _) moD hln po_no (po_var rfl)) (fun H'' g'=>Tup.one rfl (hod.sh.da.kp ((g.trans g').kp l)) moD) moD (by decide)) (fun H'' g'=>Tup.sl rfl (U _ (g.trans g')) (hxs _) moD hln (po_succ rfl) po_no) moD (by decide)
  have T2:∀ H',Same H5 H'->Tup (Da l) (4 + 1 + 4) (tOp rCatS (tOp rCatS (tSl rSlS (tVar 4) tNoPart (tPart (tVar 3))) (tTup (tCons (tVar 5) tNil))) (tSl rSlS (tVar 4) (tPart (tVar 3)) tNoPart)) [some (.ref l),some (.ref ra),some (.int at0),some (.int k0),some (.ref lb),some od,none,none,none] H':=fun H' g =>
    Tup.cat (Tup.cat (Tup.sl rfl (U _ g) (hxs _) moD hln po_no (po_var rfl)) (fun H'' g'=>Tup.one rfl (hod.sh.da.kp ((g.trans g').kp l)) moD) moD (by decide)) (fun H'' g'=>Tup.sl rfl (U _ (g.trans g')) (hxs _) moD hln (po_var rfl) po_no) moD (by decide)
  have T3:∀ H',Same H5 H'->Tup (Da l) (4 + 4) (tOp rCatS (tSl rSlS (tVar 4) tNoPart (tPart (tVar 3))) (tSl rSlS (tVar 4) (tPart (tOp (rI0 fun i j=>.int (i + j)) (tVar 3) (tC (.int 1)))) tNoPart)) [some (.ref l),some (.ref ra),some (.int at0),some (.int k0),some (.ref lb),some od,none,none,none] H':=fun H' g =>
    Tup.cat (Tup.sl rfl (U _ g) (hxs _) moD hln po_no (po_var rfl)) (fun H'' g'=>Tup.sl rfl (U _ (g.trans g')) (hxs _) moD hln (po_succ rfl) po_no) moD (by decide)
  show tOp rCatS _ _ _ _ _
  refine T1 H5 (Same.refl _) _ fun p1 H6 xs1 g6 hp1 e1 l1=>?_
  show tOp rCatS _ _ _ _ _
  refine T2 H6 g6 _ fun p2 H7 xs2 g7 hp2 e2 l2=>?_
  show tOp rCatS _ _ _ _ _
  refine T3 H7 (g6.trans g7) _ fun p3 H8 xs3 g8 hp3 e3 l3=>?_
  have g58:=(g6.trans g7).trans g8
  have s8:Sta l b H H8:=s5.same g58
  refine ⟨_,rfl,lb,_,rfl,.inr (.of (U _ g58)),fun p4 hp4=>⟨(by show 5 <= sizeLine;decide),fun prw hprw=>?_⟩⟩
  have s9:Sta l b H (upd H8 p4 (.lst (row.map V.int))):=s8.new hp4
  have np4:p4 ≠ l:=(s8.ne hp4).symm
  have s10:Sta l b H (upd (upd H8 p4 (.lst (row.map V.int))) prw (.lst [.ref p1,.ref p2,.ref p3,.ref p4,.non])):=s9.new hprw
  have nprw:prw ≠ l:=(s9.ne hprw).symm
  have g810:Same H8 (upd (upd H8 p4 (.lst (row.map V.int))) prw (.lst [.ref p1,.ref p2,.ref p3,.ref p4,.non])):=(Same.new hp4).trans (Same.new hprw)
  have hp4':upd (upd H8 p4 (.lst (row.map V.int))) prw (.lst [.ref p1,.ref p2,.ref p3,.ref p4,.non]) p4=some (.lst (row.map V.int)):=by rw [upd_ne (fun e=>by rw [<- e,upd_same] at hprw;cases hprw),upd_same]
  have hprw':upd (upd H8 p4 (.lst (row.map V.int))) prw (.lst [.ref p1,.ref p2,.ref p3,.ref p4,.non]) prw=some (.lst [.ref p1,.ref p2,.ref p3,.ref p4,.non]):=upd_same
  show tSeq _ _ _ _ (upd (upd H8 p4 (.lst (row.map V.int))) prw (.lst [.ref p1,.ref p2,.ref p3,.ref p4,.non]))
  generalize upd (upd H8 p4 (.lst (row.map V.int))) prw (.lst [.ref p1,.ref p2,.ref p3,.ref p4,.non])=H10 at s10 g810 hp4' hprw'
  have tg:∀ {p:Addr} {xs:List V} {m:Nat} {Ha:Hp},Same Ha H10->Ha p=some (.tup xs)->(∀ z ∈ xs,Da l Ha z)->xs.length <= m->m <= 1000->Sh l H10 (.ref p):=fun {p xs m Ha} g h e lm hm=>Sh.tup (g _ _ h) (s10.neL (g _ _ h)) (by omega) fun z hz=>moD _ _ _ g (e z hz)
  have alr:∀ z ∈ ([.ref p1,.ref p2,.ref p3,.ref p4,.non]:List V),Sh l H10 z:=fun z hz=>by
    simp only [List.mem_cons,List.not_mem_nil,or_false] at hz
    rcases hz with e | e | e | e | e
    · rw [e];exact tg ((g7.trans g8).trans g810) hp1 e1 l1 (by decide)
    · rw [e];exact tg (g8.trans g810) hp2 e2 l2 (by decide)
    · rw [e];exact tg g810 hp3 e3 l3 (by decide)
    · rw [e];exact (Tg.lst hp4' np4 fun z hz=>hxs _ z hz).sh
    · rw [e];exact (Tg.non _ _).sh
  generalize hrws:([.ref p1,.ref p2,.ref p3,.ref p4,.non]:List V)=rws at hprw' alr
  have hrl5:rws.length=5:=by rw [<- hrws];rfl
  clear T1 T2 T3
  refine ⟨_,rfl,(by show 8 <= sizeLine;decide),fun pk hpk=>?_⟩
  have s11:=s10.new (o:=.lst [.int 0,.int 0,.int 0,.int 0,.int 1,.int 2,.int 3,.int 4]) hpk
  have npk:pk ≠ l:=(s10.ne hpk).symm
  have k11:Kp l H10 (upd H10 pk (.lst [.int 0,.int 0,.int 0,.int 0,.int 1,.int 2,.int 3,.int 4])):=Kp.new hpk
  have hk11:upd H10 pk (.lst [.int 0,.int 0,.int 0,.int 0,.int 1,.int 2,.int 3,.int 4]) pk=some (.lst [.int 0,.int 0,.int 0,.int 0,.int 1,.int 2,.int 3,.int 4]):=upd_same
  obtain ⟨_,x11,hx11,ok11⟩:=id s11
  refine ⟨_,rfl,l,8,x11,b,rfl,hx11,ok11,by decide,by decide,fun y2 x12 hy2 ok12=>?_⟩
  have s12:=s11.go ok12
  have k12:Kp l (upd H10 pk (.lst [.int 0,.int 0,.int 0,.int 0,.int 1,.int 2,.int 3,.int 4])) (upd (upd H10 pk (.lst [.int 0,.int 0,.int 0,.int 0,.int 1,.int 2,.int 3,.int 4])) l (.lst [.int x12,.bl b])):=Kp.at
  have hk12:=k12 _ _ npk hk11
  have k1012:=k11.trans k12
  dsimp only
  generalize upd (upd H10 pk (.lst [.int 0,.int 0,.int 0,.int 0,.int 1,.int 2,.int 3,.int 4])) l (.lst [.int x12,.bl b])=H12 at s12 hk12 k1012
  obtain ⟨k,hk3,hk4⟩:∃ k:Nat,([.int 0,.int 0,.int 0,.int 0,.int 1,.int 2,.int 3,.int 4]:List V)[y2]?=some (.int k)/\k < 5:=pick8 y2 (by omega)
  refine ⟨pk,_,_,_,rfl,rfl,.of hk12,atI_nat hk3,prw,_,_,rws[k]'(by omega),rfl,rfl,.of (k1012 _ _ nprw hprw'),atI_nat (List.getElem?_eq_getElem _),?_⟩
  have hon:Sh l H12 (rws[k]'(by omega)):=(alr _ (List.getElem_mem _)).kp k1012
  generalize rws[k]'(by omega)=on at hon
  have k512:=((g58.trans g810).kp l).trans k1012
  have hra12:=k512 _ _ nra hra5
  have hlb12:=k512 _ _ nlb hlb5
  have hod12:=hod.kp k512
  have hds12:=hds5.kp k512
  have hlbS:∀ H',Same H12 H'->Sh l H' (.ref lb):=fun H' g=>Sh.tup (g _ _ hlb12) nlb (by omega) fun z hz=>hxs _ z hz
  have hzs:∀ H',Same H12 H'->∀ z ∈ zs,Sh l H' z:=fun H' g z hz=>by
    obtain ⟨i,hi⟩:=List.getElem?_of_mem hz
    obtain ⟨d,hd,dt⟩:=hds12.get hi
    rw [List.getElem?_map] at hd
    obtain ⟨r,hr',e⟩:=Option.map_eq_some_iff.mp hd
    subst e
    have hm:=List.mem_of_getElem? hr'
    exact ⟨_,dt.kp (g.kp l),short_DI (by rw [(hR.row r hm).len];omega)⟩
  have hzl4:zs.length <= 4:=by omega
  have V1:∀ H',Same H12 H'->Tup (Sh l) (4 + 1 + 4) (tOp rCatS (tOp rCatS (tSl rSlS (tVar 1) tNoPart (tPart (tVar 2))) (tTup (tCons (tVar 7) tNil))) (tSl rSlS (tVar 1) (tPart (tOp (rI0 fun i j=>.int (i + j)) (tVar 2) (tC (.int 1)))) tNoPart)) [some (.ref l),some (.ref ra),some (.int at0),some (.int k0),some (.ref lb),some od,some (.ref prw),some on,none] H':=fun H' g =>
    Tup.cat (Tup.cat (Tup.sl rfl (g _ _ hra12) (hzs _ g) moS hzl4 po_no (po_var rfl)) (fun H'' g'=>Tup.one rfl (hon.kp ((g.trans g').kp l)) moS) moS (by decide)) (fun H'' g'=>Tup.sl rfl ((g.trans g') _ _ hra12) (hzs _ (g.trans g')) moS hzl4 (po_succ rfl) po_no) moS (by decide)
  have V2:∀ H',Same H12 H'->Tup (Sh l) (4 + 4) (tOp rCatS (tSl rSlS (tVar 1) tNoPart (tPart (tVar 2))) (tSl rSlS (tVar 1) (tPart (tOp (rI0 fun i j=>.int (i + j)) (tVar 2) (tC (.int 1)))) tNoPart)) [some (.ref l),some (.ref ra),some (.int at0),some (.int k0),some (.ref lb),some od,some (.ref prw),some on,none] H':=fun H' g =>
    Tup.cat (Tup.sl rfl (g _ _ hra12) (hzs _ g) moS hzl4 po_no (po_var rfl)) (fun H'' g'=>Tup.sl rfl ((g.trans g') _ _ hra12) (hzs _ (g.trans g')) moS hzl4 (po_succ rfl) po_no) moS (by decide)
  have V3:∀ H',Same H12 H'->Tup (Sh l) (4 + 1) (tOp rCatS (tVar 1) (tTup (tCons (tVar 4) tNil))) [some (.ref l),some (.ref ra),some (.int at0),some (.int k0),some (.ref lb),some od,some (.ref prw),some on,none] H':=fun H' g =>
    Tup.cat (Tup.var rfl (g _ _ hra12) (hzs _ g) hzl4) (fun H'' g'=>Tup.one rfl (hlbS _ (g.trans g')) moS) moS (by decide)
  show tOp rCatS _ _ _ _ _
  refine V1 H12 (Same.refl _) _ fun q1 J1 ys1 j1 hq1 f1 m1=>?_
  show tOp rCatS _ _ _ _ _
  refine V2 J1 j1 _ fun q2 J2 ys2 j2 hq2 f2 m2=>?_
  show tOp rCatS _ _ _ _ _
  refine V3 J2 (j1.trans j2) _ fun q3 J3 ys3 j3 hq3 f3 m3=>?_
  have j123:=(j1.trans j2).trans j3
  have t3:Sta l b H J3:=s12.same j123
  refine ⟨_,rfl,ra,_,rfl,.inr (.of (j123 _ _ hra12)),fun q4 hq4=>?_⟩
  have t4:Sta l b H (upd J3 q4 (.lst zs)):=t3.new hq4
  have nq4:q4 ≠ l:=(t3.ne hq4).symm
  have j4:Same J3 (upd J3 q4 (.lst zs)):=Same.new hq4
  have hq4':upd J3 q4 (.lst zs) q4=some (.lst zs):=upd_same
  try dsimp only
  generalize upd J3 q4 (.lst zs)=J4 at t4 j4 hq4'
  refine ⟨_,rfl,(by show 1 <= sizeLine;decide),fun pf hpf=>⟨(by show 6 <= sizeLine;decide),fun ps hps=>?_⟩⟩
  have hE:upd J4 pf (.tup [.ref ra]) pf=some (.tup [.ref ra]):=upd_same
  have j5:Same J4 (upd (upd J4 pf (.tup [.ref ra])) ps (.lst [.ref q1,.ref q2,.ref q3,.ref q4,.non,.ref pf])):=(Same.new hpf).trans (Same.new hps)
  have hE5:upd (upd J4 pf (.tup [.ref ra])) ps (.lst [.ref q1,.ref q2,.ref q3,.ref q4,.non,.ref pf]) pf=some (.tup [.ref ra]):=Same.new hps _ _ hE
  have hps':upd (upd J4 pf (.tup [.ref ra])) ps (.lst [.ref q1,.ref q2,.ref q3,.ref q4,.non,.ref pf]) ps=some (.lst [.ref q1,.ref q2,.ref q3,.ref q4,.non,.ref pf]):=upd_same
  dsimp only [gName]
  generalize upd (upd J4 pf (.tup [.ref ra])) ps (.lst [.ref q1,.ref q2,.ref q3,.ref q4,.non,.ref pf])=J5 at j5 hE5 hps'
  have t5:=t4.same j5
  have j15:=(j123.trans j4).trans j5
  have tg2:∀ {p:Addr} {xs:List V} {m:Nat} {Ha:Hp},Same Ha J5->Ha p=some (.tup xs)->(∀ z ∈ xs,Sh l Ha z)->xs.length <= m->m <= 1000->Tg l J5 (.ref p):=fun {p xs m Ha} g h e lm hm=>Tg.tup (g _ _ h) (t5.neL (g _ _ h)) (by omega) fun z hz=>moS _ _ _ g (e z hz)
  have u1:Tg l J5 (.ref q1):=tg2 (((j2.trans j3).trans j4).trans j5) hq1 f1 m1 (by decide)
  have u2:Tg l J5 (.ref q2):=tg2 ((j3.trans j4).trans j5) hq2 f2 m2 (by decide)
  have u3:Tg l J5 (.ref q3):=tg2 (j4.trans j5) hq3 f3 m3 (by decide)
  have u4:Tg l J5 (.ref q4):=Tg.lst (j5 _ _ hq4') nq4 fun z hz=>(hzs _ j15 z hz).da
  have u6:Tg l J5 (.ref pf):=Tg.tup hE5 (t5.neL hE5) (by show 1 <= 1000;decide) fun z hz=>by rw [List.mem_singleton.mp hz];exact Sh.tup (j15 _ _ hra12) nra (by omega) fun z' hz'=>(hzs _ j15 z' hz').da
  have u7:Tg l J5 (.ref lb):=Tg.tup (j15 _ _ hlb12) nlb (by omega) fun z hz=>by
    obtain ⟨i,_,e⟩:=List.mem_map.mp hz
    rw [<- e];exact (Tg.int _ _ _).sh
  clear V1 V2 V3
  refine ⟨_,rfl,_,rfl,(by show 1 <= sizeLine;decide),fun ph hph=>⟨ps,ph,_,_,rfl,rfl,(by rw [upd_ne (ne_of_none hps' hph)];exact hps'),upd_same,(by show 6 + 1 <= sizeLine;decide),fun pz hpz=>?_⟩⟩
  have gG:Same J5 (upd (upd J5 ph (.lst [.ref lb])) pz (.lst ([.ref q1,.ref q2,.ref q3,.ref q4,.non,.ref pf] ++ [.ref lb]))):=(Same.new hph).trans (Same.new hpz)
  have hz:upd (upd J5 ph (.lst [.ref lb])) pz (.lst ([.ref q1,.ref q2,.ref q3,.ref q4,.non,.ref pf] ++ [.ref lb])) pz=some (.lst ([.ref q1,.ref q2,.ref q3,.ref q4,.non,.ref pf] ++ [.ref lb])):=upd_same
  have nz:pz ≠ l:=((t5.new hph).ne hpz).symm
  have sG:=t5.same gG
  try dsimp only
  generalize upd (upd J5 ph (.lst [.ref lb])) pz (.lst ([.ref q1,.ref q2,.ref q3,.ref q4,.non,.ref pf] ++ [.ref lb]))=HG at gG hz sG
  have all:∀ y ∈ (([.ref q1,.ref q2,.ref q3,.ref q4,.non,.ref pf] ++ [.ref lb]):List V),Tg l HG y:=fun y hy=>by
    simp only [List.cons_append,List.nil_append,List.mem_cons,List.not_mem_nil,or_false] at hy
    have k9:=gG.kp l
    rcases hy with e | e | e | e | e | e | e
    · rw [e];exact u1.kp k9
    · rw [e];exact u2.kp k9
    · rw [e];exact u3.kp k9
    · rw [e];exact u4.kp k9
    · rw [e];exact Tg.non _ _
    · rw [e];exact u6.kp k9
    · rw [e];exact u7.kp k9
  generalize hL10:(([.ref q1,.ref q2,.ref q3,.ref q4,.non,.ref pf] ++ [.ref lb]):List V)=L10 at hz all
  have hlen10:L10.length=7:=by rw [<- hL10];rfl
  refine ⟨(by show 11 <= sizeLine;decide),fun pk2 hpk2=>?_⟩
  have sH:=sG.new (o:=.lst [.int 0,.int 0,.int 0,.int 0,.int 0,.int 1,.int 2,.int 3,.int 4,.int 5,.int 6]) hpk2
  have npk2:pk2 ≠ l:=(sG.ne hpk2).symm
  have kH:Kp l HG (upd HG pk2 (.lst [.int 0,.int 0,.int 0,.int 0,.int 0,.int 1,.int 2,.int 3,.int 4,.int 5,.int 6])):=Kp.new hpk2
  have hkk:upd HG pk2 (.lst [.int 0,.int 0,.int 0,.int 0,.int 0,.int 1,.int 2,.int 3,.int 4,.int 5,.int 6]) pk2=some (.lst [.int 0,.int 0,.int 0,.int 0,.int 0,.int 1,.int 2,.int 3,.int 4,.int 5,.int 6]):=upd_same
  obtain ⟨_,xH,hxH,okH⟩:=id sH
  refine ⟨_,rfl,l,11,xH,b,rfl,hxH,okH,by decide,by decide,fun y3 xI hy3 okI=>?_⟩
  have sI:=sH.go okI
  have kI:Kp l (upd HG pk2 (.lst [.int 0,.int 0,.int 0,.int 0,.int 0,.int 1,.int 2,.int 3,.int 4,.int 5,.int 6])) (upd (upd HG pk2 (.lst [.int 0,.int 0,.int 0,.int 0,.int 0,.int 1,.int 2,.int 3,.int 4,.int 5,.int 6])) l (.lst [.int xI,.bl b])):=Kp.at
  have hkk2:=kI _ _ npk2 hkk
  have hz2:=(kH.trans kI) _ _ nz hz
  obtain ⟨k',hk5,hk6⟩:∃ k:Nat,([.int 0,.int 0,.int 0,.int 0,.int 0,.int 1,.int 2,.int 3,.int 4,.int 5,.int 6]:List V)[y3]?=some (.int k)/\k < 7:=pick11 y3 (by omega)
  refine ⟨pk2,_,_,_,rfl,rfl,.of hkk2,atI_nat hk5,pz,_,_,L10[k']'(by omega),rfl,rfl,.of hz2,atI_nat (List.getElem?_eq_getElem _),q _ _ sI ((all _ (List.getElem_mem _)).kp (kH.trans kI))⟩
end
end G
namespace L2
open PySem PySem.Spec PyProof.Rows
def TL (H:Hp):List (List Int)->List V->Prop
  | [],[]=>True
  | z :: zs,x :: xs=>(∃ a,x=.ref a/\H a=some (.tup (z.map V.int)))/\TL H zs xs
  | _,_=>False
theorem TL.same {H H':Hp} (g:Same H H'):∀ {zs:List (List Int)} {xs:List V},TL H zs xs->TL H' zs xs
  | [],[],_=>trivial
  | z :: zs,x :: xs,h=>⟨let ⟨a,e,q⟩:=h.1;⟨a,e,g _ _ q⟩,TL.same g h.2⟩
  | [],_ :: _,h=>h.elim
  | _ :: _,[],h=>h.elim
theorem TL.kp {st:Addr} {H H':Hp} {o:HO} (hst:H st=some o) (ho:∀ xs,o ≠ .tup xs) (k:Kp st H H'):∀ {zs:List (List Int)} {xs:List V},TL H zs xs->TL H' zs xs
  | [],[],_=>trivial
  | z :: zs,x :: xs,h=>⟨let ⟨a,e,q⟩:=h.1;⟨a,e,k _ _ (fun z=>by rw [z,hst] at q;exact ho _ (Option.some.inj q)) q⟩,TL.kp hst ho k h.2⟩
  | [],_ :: _,h=>h.elim
  | _ :: _,[],h=>h.elim
theorem TL.len {H:Hp}:∀ {zs:List (List Int)} {xs:List V},TL H zs xs->zs.length=xs.length
  | [],[],_=>rfl
  | z :: zs,x :: xs,h=>by rw [List.length_cons,List.length_cons,TL.len h.2]
  | [],_ :: _,h=>h.elim
  | _ :: _,[],h=>h.elim
theorem TL.get {H:Hp}:∀ {zs:List (List Int)} {xs:List V} {i:Nat} {x:V},TL H zs xs->xs[i]?=some x->∃ z a,zs[i]?=some z/\x=.ref a/\H a=some (.tup (z.map V.int))
  | z :: zs,x :: xs,0,y,h,e=>by
    obtain ⟨a,ea,q⟩:=h.1
    cases e
    exact ⟨z,a,rfl,ea,q⟩
  | z :: zs,x :: xs,i + 1,y,h,e=>TL.get (i:=i) h.2 e
  | [],[],i,y,h,e=>by simp at e
  | [],_ :: _,i,y,h,e=>h.elim
  | _ :: _,[],i,y,h,e=>h.elim
theorem TL.snoc {H:Hp} {z:List Int} {a:Addr} (q:H a=some (.tup (z.map V.int))):∀ {zs:List (List Int)} {xs:List V},TL H zs xs->TL H (zs ++ [z]) (xs ++ [.ref a])
  | [],[],_=>⟨⟨a,rfl,q⟩,trivial⟩
  | w :: zs,x :: xs,h=>⟨h.1,TL.snoc q h.2⟩
  | [],_ :: _,h=>h.elim
  | _ :: _,[],h=>h.elim
theorem eqvI2:∀ a b:List Int,PyData.eqvAll (a.map PyData.int) (b.map PyData.int)=decide (a=b)
  | [],[]=>by unfold PyData.eqvAll;rfl
  | [],y :: b=>by
    show PyData.eqvAll [] (.int y :: b.map PyData.int)=_
    unfold PyData.eqvAll;rfl
  | x :: a,[]=>by
    show PyData.eqvAll (.int x :: a.map PyData.int) []=_
    unfold PyData.eqvAll;rfl
  | x :: a,y :: b=>by
    show PyData.eqvAll (.int x :: a.map PyData.int) (.int y :: b.map PyData.int)=_
    unfold PyData.eqvAll
    rw [eqvI2 a b]
    unfold PyData.eqv
    by_cases h:x=y
    · subst h;simp
    · simp [h]
end L2
namespace L2
open PySem PySem.Spec PyProof.Rows
open PySem.W (KasT)
section
variable {n:Nat} (hn:0 < n)
include hn
end
end L2
namespace L2
open PySem PySem.Spec PyProof.Rows
section
variable {prog:Program} {w:World} {A:Around} {E:Value->Shared->Prop} {s:Shared}
end
end L2
namespace L2
open PySem PySem.Spec PyProof.Rows
section
variable {prog:Program} {w:World} {A:Around} {E:Value->Shared->Prop} {s:Shared} {v d:Addr} {od:Obj} {es:Array DictEntry} {ep:Nat}
end
section
variable {prog:Program} {w:World} {A:Around} {E:Value->Shared->Prop} {s:Shared}
end
end L2
namespace L2
open PySem PySem.Spec PyProof.Rows
section
variable {prog:Program} {w:World} {A:Around} {E:Value->Shared->Prop} {s:Shared}
end
end L2
namespace L2
open PySem PySem.Spec PyProof.Rows
def PrL (H:Hp):List (List Key × V)->List V->Prop
  | [],[]=>True
  | (k,x) :: kvs,y :: ys=>(∃ p ka,y=.ref p/\H p=some (.tup [.ref ka,x])/\H ka=some (.tup (k.map kV)))/\PrL H kvs ys
  | _,_=>False
theorem PrL.same {H H':Hp} (g:Same H H'):∀ {kvs:List (List Key × V)} {ys:List V},PrL H kvs ys->PrL H' kvs ys
  | [],[],_=>trivial
  | (k,x) :: kvs,y :: ys,h=>⟨let ⟨p,ka,e,a,b⟩:=h.1;⟨p,ka,e,g _ _ a,g _ _ b⟩,PrL.same g h.2⟩
  | [],_ :: _,h=>h.elim
  | _ :: _,[],h=>h.elim
theorem PrL.len {H:Hp}:∀ {kvs:List (List Key × V)} {ys:List V},PrL H kvs ys->kvs.length=ys.length
  | [],[],_=>rfl
  | (k,x) :: kvs,y :: ys,h=>by rw [List.length_cons,List.length_cons,PrL.len h.2]
  | [],_ :: _,h=>h.elim
  | _ :: _,[],h=>h.elim
theorem PrL.get {H:Hp}:∀ {kvs:List (List Key × V)} {ys:List V} {i:Nat} {y:V},PrL H kvs ys->ys[i]?=some y->∃ k x p ka,kvs[i]?=some (k,x)/\y=.ref p/\H p=some (.tup [.ref ka,x])/\H ka=some (.tup (k.map kV))
  | (k,x) :: kvs,y :: ys,0,z,h,e=>by
    obtain ⟨p,ka,e1,a,b⟩:=h.1
    cases e
    exact ⟨k,x,p,ka,rfl,e1,a,b⟩
  | (k,x) :: kvs,y :: ys,i + 1,z,h,e=>PrL.get (i:=i) h.2 e
  | [],[],i,z,h,e=>by simp at e
  | [],_ :: _,i,z,h,e=>h.elim
  | _ :: _,[],i,z,h,e=>h.elim
section
variable {X:Cx} {pins:List (Addr × Obj)} {σ:St} {H:Hp} {s:Shared}
theorem Inv.lays {N:Hp} {h':Heap} {t':Nat} (I:Inv X pins σ H s) (k:∀ b u,s.heap.get? b=some u->h'.get? b=some u)
    (ok:∀ b o,s.heap.objs.size <= b->N b=some o->ObjOk X.prog X.w (fun b=>if b < s.heap.objs.size then H b else N b) h' b o) :
    Inv X pins σ (fun b=>if b < s.heap.objs.size then H b else N b) { s with heap:=h',toks:=t' }:=by
  have lo:∀ b o,H b=some o->(fun b=>if b < s.heap.objs.size then H b else N b) b=some o:=fun b o e=>by
    show (if b < s.heap.objs.size then H b else N b)=some o
    rw [if_pos (I.hok.lt e)];exact e
  refine I.un ⟨fun b o q _ _ _=>k b o q,fun b o q _ _ _=>⟨o.slots,k b o q⟩,fun b o q n _=>?_,fun b o q _=>⟨o,k b o q⟩,fun b xs q=>lo b _ q,fun b o u q=>lo b _ q,fun b ps q=>⟨#[],(lo b _ q).trans (by simp)⟩⟩ fun b o e=>?_
  · show (if b < s.heap.objs.size then H b else N b)=none
    rw [if_pos (Heap.lt_size q)];exact n
  · by_cases hb:b < s.heap.objs.size
    · have e':H b=some o:=by
        have:(if b < s.heap.objs.size then H b else N b)=some o:=e
        rwa [if_pos hb] at this
      exact (I.hok b o e').stay (fun c v _ q=>k c v q) (fun c q=>lo c _ q) fun c xs q=>lo c _ q
    · have e':N b=some o:=by
        have:(if b < s.heap.objs.size then H b else N b)=some o:=e
        rwa [if_neg hb] at this
      exact ok b o (Nat.le_of_not_lt hb) e'
end
end L2
namespace L2
open PySem PySem.Spec PyProof.Rows
section
variable {K:PySem.W.Frag} {σ0:St} {te:TE} {H:Hp} {F:List V->Hp->Prop}
end
theorem canLayI':∀ ns:List Int,PyData.canLayAll0 (ns.map PyData.int)=true
  | []=>rfl
  | n :: ns=>by
    show PyData.canLayAll0 (.int n :: ns.map PyData.int)=true
    unfold PyData.canLayAll0
    rw [canLayI' ns]
    first | rfl | simp [PyData.canLay0]
theorem depthI':∀ ns:List Int,PyData.depthAll (ns.map PyData.int) <= 1
  | []=>by first | decide | simp [PyData.depthAll]
  | n :: ns=>by
    have:=depthI' ns
    show PyData.depthAll (.int n :: ns.map PyData.int) <= 1
    unfold PyData.depthAll
    have h:PyData.depth (.int n) <= 1:=by first | decide | simp [PyData.depth]
    omega
theorem layI (ns:List Int):PyData.canLay0 (DI ns)=true/\PyData.depth (DI ns) <= 2:=by
  refine ⟨?_,?_⟩
  · show PyData.canLay0 (.tuple (ns.map PyData.int))=true
    unfold PyData.canLay0
    exact canLayI' ns
  · have:=depthI' ns
    show PyData.depth (.tuple (ns.map PyData.int)) <= 2
    unfold PyData.depth
    omega
theorem shapedI' (ns:List Int):SeqAt.shaped (DI ns)=true:=by
  unfold SeqAt.shaped
  rw [Bool.and_eq_true]
  exact ⟨(layI ns).1,decide_eq_true (by have:=(layI ns).2;omega)⟩
theorem eqvI (a b:List Int):PyData.eqv (DI a) (DI b)=decide (a=b):=by unfold DI PyData.eqv;exact eqvI2 a b
theorem neD_dec {H:Hp} {x y:V} {a b:List Int} {l:Addr} {Q:VK} (hx:Dt l H (DI a) x) (hy:Dt l H (DI b) y) (q:Q (.bl (!decide (a=b))) H):rNeD x y H Q:=by
  refine ⟨l,DI a,DI b,hx,hy,shapedI' a,shapedI' b,?_⟩
  rw [eqvI];exact q
end L2
namespace Mq
open PySem PySem.Spec L2 Mt Md
abbrev TabQ:=List (List Int × Rat)
def FrAt (H:Hp) (x:Rat) (v:V):Prop:=∃ q,v=.ref q/\H q=some (.tup ((fr x).map V.int))
theorem FrAt.same {H H':Hp} {x:Rat} {v:V} (h:∀ a xs,H a=some (.tup xs)->H' a=some (.tup xs)):FrAt H x v->FrAt H' x v:=fun ⟨q,e,a⟩=>⟨q,e,h _ _ a⟩
def QE (H:Hp):TabQ->List (List Key × V)->Prop
  | [],[]=>True
  | p :: T,kv :: kvs=>kv.1=kI p.1/\FrAt H p.2 kv.2/\QE H T kvs
  | _,_=>False
theorem QE.mono {H H':Hp} (h:∀ a xs,H a=some (.tup xs)->H' a=some (.tup xs)):∀ {T:TabQ} {kvs:List (List Key × V)},QE H T kvs->QE H' T kvs
  | [],[],_=>trivial
  | _ :: _,_ :: _,⟨a,b,c⟩=>⟨a,b.same h,QE.mono h c⟩
  | [],_ :: _,h'=>h'.elim
  | _ :: _,[],h'=>h'.elim
theorem QE.len {H:Hp}:∀ {T:TabQ} {kvs:List (List Key × V)},QE H T kvs->kvs.length=T.length
  | [],[],_=>rfl
  | _ :: _,_ :: _,⟨_,_,c⟩=>by rw [List.length_cons,List.length_cons,QE.len c]
  | [],_ :: _,h'=>h'.elim
  | _ :: _,[],h'=>h'.elim
theorem QE.get {H:Hp}:∀ {T:TabQ} {kvs:List (List Key × V)} {i:Nat} {k:List Key} {x:V},QE H T kvs->kvs[i]?=some (k,x)->∃ p,T[i]?=some p/\k=kI p.1/\FrAt H p.2 x
  | p :: _,_ :: _,0,_,_,⟨a,b,_⟩,h=>by cases h;exact ⟨p,rfl,a,b⟩
  | _ :: _,_ :: _,i + 1,_,_,⟨_,_,c⟩,h=>QE.get (i:=i) c (by simpa using h)
  | [],[],_,_,_,_,h=>by simp at h
  | [],_ :: _,_,_,_,h',_=>h'.elim
  | _ :: _,[],_,_,_,h',_=>h'.elim
theorem QE.snoc {H:Hp} {k:List Int} {x:Rat} {v:V} (hv:FrAt H x v):∀ {T:TabQ} {kvs:List (List Key × V)},QE H T kvs->QE H (T ++ [(k,x)]) (kvs ++ [(kI k,v)])
  | [],[],_=>⟨rfl,hv,trivial⟩
  | p :: T,kv :: kvs,⟨a,b,c⟩=>⟨a,b,QE.snoc hv c⟩
  | [],_ :: _,h'=>h'.elim
  | _ :: _,[],h'=>h'.elim
structure Vq (N B:Nat) (x:Rat):Prop where
  nn:0 <= x
  le:x <= (B:Rat)
  dv:∃ z:Int,x * (N:Rat)=(z:Rat)
end Mq
namespace Mq
open PySem PySem.Spec L2 Mt Md
end Mq
namespace G
open PySem PySem.Spec PyProof.Rows L2 Mt Md Mq
structure Ct2 (mg:Str->Option Value):Prop where
  stand:∃ t,mg "MOST_STAND_DRAWS"=some (.int 6 t)
structure Bt3 (mg:Str->Option Value):Prop where
  enumerate:mg "enumerate"=none
  sorted:mg "sorted"=none
theorem sm_k {k:Int} (h1:1 <= k) (h4:k <= 4):Sm k:=by
  have h:k=1 ∨ k=2 ∨ k=3 ∨ k=4:=by omega
  rcases h with rfl | rfl | rfl | rfl <;> (unfold Sm;decide +kernel)
theorem urnD_true {m:Int} {d:PyData} (h:urnD m d=true):∃ ns:List Int,d=DI ns/\1 <= ns.length/\ns.length <= 4/\(∀ x ∈ ns,0 <= x/\x <= m)/\0 < ns.sum:=by
  unfold urnD at h
  rw [Bool.and_eq_true,Bool.and_eq_true,Bool.and_eq_true] at h
  obtain ⟨hw,⟨h1,h4⟩,hs⟩:=h
  obtain ⟨ns,e,hn⟩:=wholesD_ints hw
  subst e
  rw [lenD_DI] at h1 h4
  rw [sumD_DI] at hs
  have h1':=of_decide_eq_true h1
  have h4':=of_decide_eq_true h4
  exact ⟨ns,rfl,by omega,by omega,hn,of_decide_eq_true hs⟩
theorem bits_of {i:Int} {n:Nat} (h:i.natAbs <= 2 ^ n) (hn:n <= 100000):Builtin.Int.intBits i <= 2 ^ 20:=by
  unfold Builtin.Int.intBits
  split
  · exact Nat.zero_le _
  · rename_i hz
    have hz':i.natAbs ≠ 0:=fun e=>hz (by rw [beq_iff_eq];omega)
    have h2:i.natAbs.log2 < n + 1:=(Nat.log2_lt hz').mpr (Nat.lt_of_le_of_lt h (Nat.pow_lt_pow_right (by decide) (by omega)))
    omega
theorem log_of {i:Int} {n:Nat} (h0:0 < i) (h:i.natAbs <= 2 ^ n) (hn:n < 8999):i.natAbs.log2 < 9000:=by
  rw [Nat.log2_lt (by omega)]
  exact Nat.lt_of_le_of_lt h (Nat.pow_lt_pow_right (by decide) (by omega))
theorem gcd_step {x y:Int} (hx:0 <= x) (hy:0 < y):Int.gcd y (x % y)=Int.gcd x y:=by
  have h1:(x % y).natAbs=x.natAbs % y.natAbs:=by
    rw [Int.natAbs_emod_of_nonneg hx]
  unfold Int.gcd
  rw [h1,Nat.gcd_comm x.natAbs,Nat.gcd_rec y.natAbs x.natAbs,Nat.gcd_comm]
theorem cut_nn {t b:Int} (ht:0 <= t) (hb:0 < b):0 <= (cut t b).num:=by
  rw [cut_num hb];exact Int.ediv_nonneg ht (by omega)
theorem share_nn {n m:Nat} {ns:List Int} (h:Urn n m ns) (k:Nat):0 <= Mt.share ns k:=Rat.num_nonneg.mp (cut_nn (h.getD k).1 h.pos)
theorem Urn.sum_le {n m:Nat} {ns:List Int} (h:Mt.Urn n m ns) (hn:n <= 4):ns.sum <= (m:Int) * 4:=by
  have:=Mt.sum_le (m:=(m:Int)) (l:=ns) fun x hx=>(h.nn x hx).2
  rw [h.len] at this
  refine Int.le_trans this (Int.mul_le_mul_of_nonneg_left (by omega) (by omega))
theorem share_bd {n m:Nat} {ns:List Int} (h:Mt.Urn n m ns) (hn:n <= 4) (hm:m <= 1000) (k:Nat):Bd 12 (Mt.share ns k):=by
  have h1:=h.getD k
  have h2:=Urn.sum_le h hn
  have h3:=h.pos
  refine Bd.cut h.pos ?_ ?_
  · show _ <= 4096;omega
  · show _ <= 4096;omega
mutual
theorem Dt_toD {l T:Addr} {H:Hp} {ps:List (List Key × V)} (hT:H T=some (.dT ps)):∀ {d:PyData} {v:V},Dt l H d v->Dt T H d v
  | .none,_,h=>by unfold Dt at h ⊢;exact h
  | .bool _,_,h=>by unfold Dt at h ⊢;exact h
  | .int _,_,h=>by unfold Dt at h ⊢;exact h
  | .str _,_,h=>by unfold Dt at h ⊢;exact h
  | .tuple ds,_,h=>by
    unfold Dt at h ⊢
    obtain ⟨a,xs,e,n,q,r⟩:=h
    exact ⟨a,xs,e,(fun z=>by rw [z,hT] at q;cases q),q,Dts_toD hT r⟩
  | .list ds,_,h=>by
    unfold Dt at h ⊢
    obtain ⟨a,xs,e,n,q,r⟩:=h
    exact ⟨a,xs,e,(fun z=>by rw [z,hT] at q;cases q),q,Dts_toD hT r⟩
  | .dict kvs,_,h=>by
    unfold Dt at h ⊢
    obtain ⟨z,a,e,n,q⟩:=h
    exact ⟨z,a,e,(fun z=>by rw [z,hT] at q;cases q),q⟩
theorem Dts_toD {l T:Addr} {H:Hp} {ps:List (List Key × V)} (hT:H T=some (.dT ps)):∀ {ds:List PyData} {xs:List V},Dts l H ds xs->Dts T H ds xs
  | [],_,h=>by unfold Dts at h ⊢;exact h
  | d :: ds,_,h=>by
    unfold Dts at h ⊢
    obtain ⟨x,r,e,q1,q2⟩:=h
    exact ⟨x,r,e,Dt_toD hT q1,Dts_toD hT q2⟩
end
theorem sm_0:Sm 0:=by unfold Sm;decide +kernel
section
variable {P:Program} {w:World} {K:PySem.W.Frag} {mg:Str->Option Value} {base:Heap} {f:Addr} {fd:FuncData} {ec:Nat->Addr} {Bs:Addr}
def sp_need_urn (ec:Nat->Addr):Sp:=fun vs H Q E=>∃ (v:V) (st:Addr) (d:PyData),vs=[v]/\Dt st H d v/\short d/\(urnD 20 d=true->∀ H',Same H H'->Q .non H')/\(urnD 20 d=false->∀ H',Same H H'->E (.ref (ec 0)) none H')
abbrev s_need_urn:Stmt:=top 28
theorem sc_need_urn:FnScope ["thing"] ["thing"] (defScope s_need_urn):=⟨rfl,rfl,rfl,by decide +kernel,rfl,by decide +kernel,by decide +kernel⟩
theorem ok_need_urn (F:Fun K "need_urn" "need_urn" s_need_urn f fd) (R:Errs K mg ec Bs) (c1:Cal P w K mg base 4 "is_urn" ["thing"] sp_is_urn):FnOk P w K mg base (CX1 P w) 5 f fd ["thing"] (sp_need_urn ec):=by
  refine F.okX sc_need_urn (fun vs H Q E h=>?_) (fun cdv A outer s H vs Q E hr h=>?_)
  · obtain ⟨v,st,d,rfl,_⟩:=h
    rfl
  obtain ⟨v,st,d,rfl,hd,hs,q1,q2⟩:=h
  refine ⟨_,pss_one (ps_if (pt_not (pt_val (pe_cal c1 hr rfl (pa_cons (pv 0) pa_nil)))) (pss_one (ps_raise1 R.e0 (R.xc 0 (by decide)) pe_str (fun σ H Q Q' m q=>m _ _ q))) pss_nil),?_⟩
  refine ⟨_,rfl,v,st,d,rfl,hd,hs,fun H1 g1=>⟨_,rfl,?_⟩⟩
  cases hw:urnD 20 d with
  | true=>exact iteF (q1 hw H1 g1)
  | false=>exact iteT (q2 hw H1 g1)
def sp_need_rule (ec:Nat->Addr):Sp:=fun vs H Q E=>∃ (v:V) (st:Addr) (d:PyData) (k:Int),vs=[.int k,v]/\1 <= k/\k <= 4/\Dt st H d v/\ok2 d/\(ruleD k d=true->∀ H',Same H H'->Q .non H')/\(ruleD k d=false->∀ H',Same H H'->E (.ref (ec 1)) none H')
abbrev s_need_rule:Stmt:=top 29
theorem sc_need_rule:FnScope ["kinds","thing"] ["kinds","thing"] (defScope s_need_rule):=⟨rfl,rfl,rfl,by decide +kernel,rfl,by decide +kernel,by decide +kernel⟩
theorem ok_need_rule (F:Fun K "need_rule" "need_rule" s_need_rule f fd) (R:Errs K mg ec Bs) (c1:CalX P w K mg base 3 "is_rule" ["kinds","thing"] (sp_is_rule ec)):FnOk P w K mg base (CX1 P w) 4 f fd ["kinds","thing"] (sp_need_rule ec):=by
  refine F.okX sc_need_rule (fun vs H Q E h=>?_) (fun cdv A outer s H vs Q E hr h=>?_)
  · obtain ⟨v,st,d,k,rfl,_⟩:=h
    rfl
  obtain ⟨v,st,d,k,rfl,k1,k4,hd,ok,q1,q2⟩:=h
  refine ⟨_,pss_one (ps_if (pt_not (pt_val (pe_calx c1 hr rfl passes1 (pa_cons (pv 0) (pa_cons (pv 1) pa_nil))))) (pss_one (ps_raise1 R.e1 (R.xc 1 (by decide)) (pe_fstr (pj_str (pj_fmt (pv 0) (pj_str pj_nil)))) (fun σ H Q Q' m q=>?_))) pss_nil),?_⟩
  · obtain ⟨v1,z1,i1,z2,z3,z4,z5⟩:=q
    exact ⟨v1,z1,i1,z2,z3,z4,fun z=>m _ _ (z5 z)⟩
  refine ⟨_,rfl,_,rfl,.int k,v,st,.int k,d,rfl,Dt.int _ _ _,(fun hw=>?_),fun k' e _ _=>?_⟩
  · have hw':(decide ((1:Int) <= k) && decide (k <= 4))=false:=hw
    rw [decide_eq_true k1,decide_eq_true k4] at hw'
    cases hw'
  cases e
  refine ⟨hd,ok.1,ok.2,fun H1 g1=>⟨_,rfl,?_⟩⟩
  cases hw:ruleD k d with
  | true=>exact iteF (q1 hw H1 g1)
  | false=>exact iteT ⟨_,rfl,k,rfl,(sm_k k1 k4).1,(sm_k k1 k4).2,fun z=>q2 hw H1 g1⟩
def sp_nur (ec:Nat->Addr):Sp:=fun vs H Q E=>∃ (u v:V) (st:Addr) (d e:PyData),vs=[u,v]/\Dt st H d u/\short d/\Dt st H e v/\ok2 e/\(urnD 20 d=false->∀ H',Same H H'->E (.ref (ec 0)) none H') /\
  (urnD 20 d=true->ruleD (lenD d) e=false->∀ H',Same H H'->E (.ref (ec 1)) none H')/\(urnD 20 d=true->ruleD (lenD d) e=true->∀ H',Same H H'->Q .non H')
abbrev s_nur:Stmt:=top 30
theorem sc_nur:FnScope ["urn","rule"] ["urn","rule"] (defScope s_nur):=⟨rfl,rfl,rfl,by decide +kernel,rfl,by decide +kernel,by decide +kernel⟩
theorem ok_nur (F:Fun K "need_urn_and_rule" "need_urn_and_rule" s_nur f fd) (B:Bt mg) (c1:CalX P w K mg base 5 "need_urn" ["thing"] (sp_need_urn ec)) (c2:CalX P w K mg base 4 "need_rule" ["kinds","thing"] (sp_need_rule ec)):FnOk P w K mg base (CX1 P w) 6 f fd ["urn","rule"] (sp_nur ec):=by
  refine F.okX sc_nur (fun vs H Q E h=>?_) (fun cdv A outer s H vs Q E hr h=>?_)
  · obtain ⟨u,v,st,d,e,rfl,_⟩:=h
    rfl
  obtain ⟨u,v,st,d,e,rfl,hu,hus,hv,hvo,q0,q1,q2⟩:=h
  refine ⟨_,pss_cons (ps_expr (pe_calx c1 hr rfl passes1 (pa_cons (pv 0) pa_nil))) (pss_one (ps_expr (pe_calx (c2.up (by decide)) hr rfl passes1 (pa_cons (pe_callB call_len_seq rfl B.len PySem.boot_len (pa_cons (pv 0) pa_nil)) (pa_cons (pv 1) pa_nil))))),?_⟩
  refine ⟨_,rfl,u,st,d,rfl,hu,hus,fun hw H1 g1=>?_,q0⟩
  obtain ⟨ns,e1,l1,l4,_⟩:=urnD_true hw
  subst e1
  obtain ⟨a,e2,_,ha⟩:=hu.di
  subst e2
  have q1':=q1 hw
  have q2':=q2 hw
  rw [lenD_DI] at q1' q2'
  refine ⟨_,rfl,a,_,rfl,.inr (.of (g1 _ _ ha)),_,rfl,v,st,e,(ns.length:Int),?_,by omega,by omega,hv.kp (g1.kp st),hvo,fun hr2 H2 g2=>q2' hr2 H2 (g1.trans g2),fun hr2 H2 g2=>q1' hr2 H2 (g1.trans g2)⟩
  rw [List.length_map]
def sp_gd:Sp:=fun vs H Q _=>∃ x y:Int,vs=[.int x,.int y]/\0 <= x/\0 <= y/\Q (.int (Int.gcd x y:Nat)) H
abbrev s_gd:Stmt:=top 17
theorem sc_gd:FnScope ["one","other"] ["one","other"] (defScope s_gd):=⟨rfl,rfl,rfl,by decide +kernel,rfl,by decide +kernel,by decide +kernel⟩
theorem ok_gd (F:Fun K "greatest_divisor" "greatest_divisor" s_gd f fd) (B:Bt mg):FnOk P w K mg base CX0 1 f fd ["one","other"] sp_gd:=by
  refine F.ok sc_gd (fun vs H Q E h=>?_) (fun cdv A outer s H vs Q E hr h=>?_)
  · obtain ⟨x,y,rfl,_⟩:=h
    rfl
  obtain ⟨x,y,rfl,hx,hy,q⟩:=h
  refine ⟨_,pss_cons (ps_while PassesOwn.never (pt_cmpR op_ne (pv 1) pe_int (nomark _)) (pss_one (ps_par (i:=0) (j:=1) rfl sc_gd.nd rfl rfl (by decide) rfl rfl (pa_cons (pv 1) (pa_cons (pe_op op_mod (pv 0) (pv 1)) pa_nil)) rfl)))
    (pss_one (ps_ret (pe_callB call_abs rfl B.abs boot_abs (pa_cons (pv 0) pa_nil)))),?_⟩
  refine ⟨fun m σ H2=>H2=H/\∃ x' y':Int,0 <= x'/\0 <= y'/\σ=[some (.int x'),some (.int y')]/\m=y'.toNat/\Int.gcd x' y'=Int.gcd x y,⟨_,rfl,x,y,hx,hy,rfl,rfl,rfl⟩,?_⟩
  rintro m σ H2 ⟨rfl,x',y',h1,h2,rfl,rfl,e⟩
  refine ⟨_,rfl,rfl,_,rfl,?_⟩
  by_cases hz:y'=0
  · subst hz
    rw [decide_eq_true rfl]
    refine iteF ⟨_,rfl,x',rfl,?_⟩
    have e2:(if x' < 0 then -x' else x')=((Int.gcd x y:Nat):Int):=by
      rw [<- e,Int.gcd_zero_right]
      split <;> omega
    rw [e2];exact q
  · rw [decide_eq_false (show ¬ V.int y'=V.int 0 from fun z=>hz (by injection z))]
    refine iteT ⟨fun σ' H'=>H'=H2/\∃ a b:Int,0 <= a/\0 <= b/\σ'=[some (.int a),some (.int b)]/\b.toNat < y'.toNat/\Int.gcd a b=Int.gcd x y,?_,?_⟩
    · rintro σ' H' ⟨rfl,a,b,ha,hb,rfl,hlt,e2⟩
      exact ⟨_,hlt,rfl,a,b,ha,hb,rfl,rfl,e2⟩
    · have hm:=Int.emod_nonneg x' (show y' ≠ 0 from hz)
      have hm2:=Int.emod_lt_of_pos x' (show 0 < y' by omega)
      refine ⟨_,rfl,_,rfl,_,rfl,_,_,rfl,rfl,(by omega),_,_,rfl,?_⟩
      exact ⟨rfl,y',x' % y',h2,hm,rfl,by omega,by rw [gcd_step h1 (by omega)];exact e⟩
def sp_fraction:Sp:=fun vs H Q _=>∃ t b:Int,vs=[.int t,.int b]/\0 <= t/\0 < b/\b.natAbs.log2 < 9000/\∀ p H',Same H H'->H' p=some (.tup ((fr (cut t b)).map V.int))->Q (.ref p) H'
abbrev s_fraction:Stmt:=top 18
theorem sc_fraction:FnScope ["top","bottom","divisor"] ["top","bottom"] (defScope s_fraction):=⟨rfl,rfl,rfl,by decide +kernel,rfl,by decide +kernel,by decide +kernel⟩
theorem gcd_log {t b:Int} (hb:0 < b) (h:b.natAbs.log2 < 9000):0 < ((Int.gcd t b:Nat):Int)/\((Int.gcd t b:Nat):Int).natAbs.log2 < 9000:=by
  have h0:0 < Int.gcd t b:=Int.gcd_pos_of_ne_zero_right _ (by omega)
  refine ⟨by omega,?_⟩
  rw [Int.natAbs_natCast]
  have l:Int.gcd t b <= b.natAbs:=Nat.le_of_dvd (by omega) (Nat.gcd_dvd_right _ _)
  rw [Nat.log2_lt (by omega)] at h ⊢
  omega
theorem ok_fraction (F:Fun K "fraction" "fraction" s_fraction f fd) (c1:Cal P w K mg base 1 "greatest_divisor" ["one","other"] sp_gd):FnOk P w K mg base CX0 2 f fd ["top","bottom"] sp_fraction:=by
  refine F.ok sc_fraction (fun vs H Q E h=>?_) (fun cdv A outer s H vs Q E hr h=>?_)
  · obtain ⟨x,y,rfl,_⟩:=h
    rfl
  obtain ⟨t,b,rfl,ht,hb,hlog,q⟩:=h
  refine ⟨_,pss_cons (ps_set (i:=2) sc_fraction.nd rfl (Or.inl rfl) (pe_cal c1 hr rfl (pa_cons (pv 0) (pa_cons (pv 1) pa_nil))))
    (pss_one (ps_ret (pe_tup (pa_cons (pe_op op_fdivB (pv 0) (pv 2)) (pa_cons (pe_op op_fdivB (pv 1) (pv 2)) pa_nil))))),?_⟩
  have g:=gcd_log (t:=t) hb hlog
  refine ⟨_,rfl,_,rfl,t,b,rfl,ht,by omega,?_⟩
  refine ⟨_,rfl,_,rfl,_,_,rfl,rfl,g,_,rfl,_,rfl,_,_,rfl,rfl,g,(by show 2 <= sizeLine;decide),fun p hp=>?_⟩
  refine q p _ (Same.new hp) ?_
  rw [upd_same,fr_cut hb];rfl
def sp_times:Sp:=fun vs H Q _=>∃ (p q:Addr) (x y:Rat) (n m:Nat),vs=[.ref p,.ref q]/\H p=some (.tup ((fr x).map V.int))/\H q=some (.tup ((fr y).map V.int))/\0 <= x.num/\0 <= y.num/\Bd n x/\Bd m y/\n + m <= 8000 /\
  ∀ r H',Same H H'->H' r=some (.tup ((fr (x * y)).map V.int))->Q (.ref r) H'
abbrev s_times:Stmt:=top 19
theorem sc_times:FnScope ["one","other"] ["one","other"] (defScope s_times):=⟨rfl,rfl,rfl,by decide +kernel,rfl,by decide +kernel,by decide +kernel⟩
theorem ok_times (F:Fun K "times" "times" s_times f fd) (c1:Cal P w K mg base 2 "fraction" ["top","bottom"] sp_fraction):FnOk P w K mg base CX0 3 f fd ["one","other"] sp_times:=by
  refine F.ok sc_times (fun vs H Q E h=>?_) (fun cdv A outer s H vs Q E hr h=>?_)
  · obtain ⟨p,q,x,y,n,m,rfl,_⟩:=h
    rfl
  obtain ⟨p,q,x,y,n,m,rfl,hp,hq,x0,y0,bx,by',hnm,k⟩:=h
  refine ⟨_,pss_one (ps_ret (pe_cal c1 hr rfl (pa_cons (pe_op op_mulB (pe_ix ix_tup (pv 0) pe_int (fun _ _=>rfl)) (pe_ix ix_tup (pv 1) pe_int (fun _ _=>rfl))) (pa_cons (pe_op op_mulB (pe_ix ix_tup (pv 0) pe_int (fun _ _=>rfl)) (pe_ix ix_tup (pv 1) pe_int (fun _ _=>rfl))) pa_nil)))),?_⟩
  have hp':H p=some (.tup [.int x.num,.int x.den]):=hp
  have hq':H q=some (.tup [.int y.num,.int y.den]):=hq
  have b1:Builtin.Int.intBits x.num <= 2 ^ 20:=bits_of bx.num (by omega)
  have b2:Builtin.Int.intBits y.num <= 2 ^ 20:=bits_of by'.num (by omega)
  have b3:Builtin.Int.intBits (x.den:Int) <= 2 ^ 20:=bits_of (by rw [Int.natAbs_natCast];exact bx.den) (by omega)
  have b4:Builtin.Int.intBits (y.den:Int) <= 2 ^ 20:=bits_of (by rw [Int.natAbs_natCast];exact by'.den) (by omega)
  refine ⟨_,rfl,p,_,_,_,rfl,rfl,.of hp',atI_nat (j:=0) rfl,_,rfl,q,_,_,_,rfl,rfl,.of hq',atI_nat (j:=0) rfl,_,_,rfl,rfl,⟨b1,b2⟩,
    _,rfl,p,_,_,_,rfl,rfl,.of hp',atI_nat (j:=1) rfl,_,rfl,q,_,_,_,rfl,rfl,.of hq',atI_nat (j:=1) rfl,_,_,rfl,rfl,⟨b3,b4⟩,_,_,rfl,Int.mul_nonneg x0 y0,?_,?_,?_⟩
  · have h1:=x.den_nz;have h2:=y.den_nz
    have:=Nat.mul_pos (Nat.pos_of_ne_zero h1) (Nat.pos_of_ne_zero h2)
    rw [<- Int.natCast_mul];omega
  · rw [Nat.log2_lt (by have h1:=x.den_nz;have h2:=y.den_nz;rw [Int.natAbs_mul];exact Nat.mul_ne_zero (by omega) (by omega)),Int.natAbs_mul]
    refine Nat.lt_of_le_of_lt (Nat.mul_le_mul bx.den by'.den) ?_
    rw [<- Nat.pow_add]
    exact Nat.pow_lt_pow_right (by decide) (by omega)
  · rw [cut_mul];exact k
def sp_share:Sp:=fun vs H Q _=>∃ (a:Addr) (n m:Nat) (ns:List Int) (k:Nat),vs=[.ref a,.int k]/\H a=some (.tup (ns.map V.int))/\Mt.Urn n m ns/\n <= 4/\m <= 1000/\k < n/\∀ p H',Same H H'->H' p=some (.tup ((fr (Mt.share ns k)).map V.int))->Q (.ref p) H'
abbrev s_share:Stmt:=top 32
theorem sc_share:FnScope ["urn","kind"] ["urn","kind"] (defScope s_share):=⟨rfl,rfl,rfl,by decide +kernel,rfl,by decide +kernel,by decide +kernel⟩
theorem ok_share (F:Fun K "share" "share" s_share f fd) (B:Bt mg) (c1:Cal P w K mg base 2 "fraction" ["top","bottom"] sp_fraction):FnOk P w K mg base CX0 3 f fd ["urn","kind"] sp_share:=by
  refine F.ok sc_share (fun vs H Q E h=>?_) (fun cdv A outer s H vs Q E hr h=>?_)
  · obtain ⟨a,n,m,ns,k,rfl,_⟩:=h
    rfl
  obtain ⟨a,n,m,ns,k,rfl,ha,hu,h4,hm,hk,q⟩:=h
  refine ⟨_,pss_one (ps_ret (pe_cal c1 hr rfl (pa_cons (pe_ix ix_tup (pv 0) (pv 1) (fun _ _=>rfl)) (pa_cons (pe_callB (call_sum_seq rfl) rfl B.sum boot_sum (pa_cons (pv 0) pa_nil)) pa_nil)))),?_⟩
  have h2:=Urn.sum_le hu h4
  have h3:=hu.pos
  refine ⟨_,rfl,_,rfl,a,_,_,_,rfl,rfl,.of ha,atI_int (by rw [hu.len];exact hk),_,rfl,a,ns,rfl,.inr (.of ha),_,_,rfl,(hu.getD k).1,h3,log_of (n:=12) h3 (by show _ <= 4096;omega) (by omega),q⟩
def sp_put_in:Sp:=fun vs H Q _=>∃ (a st:Addr) (v:V) (n j:Nat) (ns:List Int) (rs:List (List Int)) (k:Nat),vs=[.ref a,v,.int k]/\H a=some (.tup (ns.map V.int))/\ns.length=n/\Dt st H (DR rs) v/\Mt.Rul n j rs/\n <= 4/\k < n /\
  ∀ p H',Same H H'->H' p=some (.tup ((addL ns (rs.getD k [])).map V.int))->Q (.ref p) H'
abbrev s_put_in:Stmt:=top 33
theorem sc_put_in:FnScope ["urn","rule","kind"] ["urn","rule","kind"] (defScope s_put_in):=⟨rfl,rfl,rfl,by decide +kernel,rfl,by decide +kernel,by decide +kernel⟩
theorem ok_put_in (F:Fun K "put_in" "put_in" s_put_in f fd) (B:Bt mg):FnOk P w K mg base CX0 1 f fd ["urn","rule","kind"] sp_put_in:=by
  refine F.ok sc_put_in (fun vs H Q E h=>?_) (fun cdv A outer s H vs Q E hr h=>?_)
  · obtain ⟨a,st,v,n,j,ns,rs,k,rfl,_⟩:=h
    rfl
  obtain ⟨a,st,v,n,j,ns,rs,k,rfl,ha,hn,hd,hru,h4,hk,q⟩:=h
  refine ⟨_,pss_one (ps_ret (pe_callTy call_tuple_of rfl B.tuple boot_tuple (pa_cons (pe_compG (N:=["balls","more"]) (ix:=[none,none]) (ifs:=[]) (tc:=tTrue) rfl
      (pi_zip rfl B.zip (pa_cons (pv 0) (pa_cons (pe_ix ix_tup (pv 1) (pv 2) (fun _ _=>rfl)) pa_nil)))
      (fun s H ex=>pgtK (K:=K) (n:=2) rfl rfl (pgs_cons (pg_c (i:=0) (by decide +kernel) rfl (Or.inl rfl) (.inr rfl)) (pgs_cons (pg_c (i:=1) (by decide +kernel) rfl (Or.inl rfl) (.inr rfl)) pgs_nil))) (fun s H ex=>pifs_nil)
      (fun s H ex=>pe_op op_add (pv 0) (pv 1)) rfl (by decide +kernel) (by rfl) (by rfl) (fun _=>rfl)) pa_nil))),?_⟩
  obtain ⟨r,xs,b,e,hr2,hx,hb⟩:=dr_row hd (by rw [hru.len];exact hk)
  subst e
  have hrow:=hru.at hk
  generalize hrw:rs.getD k []=row at *
  refine ⟨_,rfl,_,rfl,_,rfl,r,_,_,_,rfl,rfl,.of hr2,atI_nat hx,a,b,_,_,rfl,.of ha,.of hb,?_⟩
  have l1:ns.length=row.length:=by rw [hn,hrow.len]
  refine blk_zip (K:=K) (a:=a) (b:=b) (xs:=ns.map V.int) (ys:=row.map V.int) (sz (by rw [List.length_map];omega)) (by rw [List.length_map,List.length_map];exact l1)
    (fun i zs H2=>Same H H2/\i <= n/\zs=((addL ns row).take i).map V.int) ⟨Same.refl H,Nat.zero_le _,rfl⟩ (fun i zs H2 h=>?_) (fun i zs H2 _ h=>⟨.of (h.1 _ _ ha),.of (h.1 _ _ hb)⟩) ⟨rfl,rfl⟩ (fun i zs H2 x y p hx hy hp h=>?_) (fun zs H2 h=>?_)
  · obtain ⟨_,hil,rfl⟩:=h
    have:(addL ns row).length=n:=by unfold addL;rw [List.length_zipWith,<- l1,hn];omega
    rw [List.length_map,List.length_take,this];omega
  · obtain ⟨hS,hil,rfl⟩:=h
    have hi:i < ns.length:=by have:=(List.getElem?_eq_some_iff.mp hx).1;rwa [List.length_map] at this
    have hi2:i < row.length:=by omega
    rw [List.getElem?_map,List.getElem?_eq_getElem hi] at hx
    rw [List.getElem?_map,List.getElem?_eq_getElem hi2] at hy
    cases hx
    cases hy
    refine ⟨_,rfl,_,rfl,_,_,rfl,rfl,hS.trans (Same.new hp),by omega,?_⟩
    have e:(addL ns row)[i]?=some (ns[i] + row[i]):=by
      unfold addL;rw [List.getElem?_zipWith,List.getElem?_eq_getElem hi,List.getElem?_eq_getElem hi2]
    rw [List.take_add_one,e,List.map_append];rfl
  · obtain ⟨hS,hil,rfl⟩:=h
    intro p hp
    refine ⟨p,_,rfl,.inl ⟨.of upd_same,fun l hl=>?_⟩⟩
    refine q l _ ((hS.trans (Same.new hp)).trans (Same.new hl)) ?_
    rw [upd_same,List.length_map]
    have:(addL ns row).length=ns.length:=by unfold addL;rw [List.length_zipWith,<- l1];omega
    rw [<- this,List.take_length]
def sp_own_urn:Sp:=fun vs H Q _=>∃ (a:Addr) (xs:List V),vs=[.ref a]/\H a=some (.tup xs)/\∀ p H',Same H H'->H' p=some (.tup xs)->Q (.ref p) H'
abbrev s_own_urn:Stmt:=top 34
theorem sc_own_urn:FnScope ["urn"] ["urn"] (defScope s_own_urn):=⟨rfl,rfl,rfl,by decide +kernel,rfl,by decide +kernel,by decide +kernel⟩
theorem ok_own_urn (F:Fun K "own_urn" "own_urn" s_own_urn f fd) (B:Bt mg):FnOk P w K mg base CX0 1 f fd ["urn"] sp_own_urn:=by
  refine F.ok sc_own_urn (fun vs H Q E h=>?_) (fun cdv A outer s H vs Q E hr h=>?_)
  · obtain ⟨a,xs,rfl,_⟩:=h
    rfl
  obtain ⟨a,xs,rfl,ha,q⟩:=h
  refine ⟨_,pss_one (ps_ret (pe_callTy call_tuple_of rfl B.tuple boot_tuple (pa_cons (pe_callTy call_list_of rfl B.list boot_list (pa_cons (pv 0) pa_nil)) pa_nil))),?_⟩
  refine ⟨_,rfl,a,_,rfl,.inr (.of ha),fun l hl=>⟨l,_,rfl,.inl ⟨.of upd_same,fun p hp=>?_⟩⟩⟩
  exact q p _ ((Same.new hl).trans (Same.new hp)) upd_same
end
end G
namespace G
open PySem PySem.Spec PyProof.Rows L2 Mt
structure CtD (mg:Str->Option Value):Prop where
  draws:∃ t,mg "MOST_DRAWS"=some (.int 20 t)
def drawsD (n:Nat) (d:PyData):Bool:=wholesD 0 ((n:Int) - 1) d && decide (lenD d <= 20)
def kI (ks:List Nat):List Int:=ks.map fun (k:Nat)=>(k:Int)
theorem kI_len (ks:List Nat):(kI ks).length=ks.length:=by unfold kI;rw [List.length_map]
theorem drawsD_of {n:Nat} {ks:List Nat} (hl:ks.length <= 20) (hk:∀ k ∈ ks,k < n):drawsD n (DI (kI ks))=true:=by
  unfold drawsD
  rw [lenD_DI,kI_len,decide_eq_true hl,Bool.and_true]
  show ((kI ks).map PyData.int).all (wholeD 0 ((n:Int) - 1))=true
  rw [List.all_map]
  refine List.all_eq_true.mpr fun x hx=>?_
  obtain ⟨k,hk1,e⟩:=List.mem_map.mp hx
  have:=hk k hk1
  show (decide ((0:Int) <= x) && decide (x <= (n:Int) - 1))=true
  rw [decide_eq_true (show (0:Int) <= x by omega),decide_eq_true (show x <= (n:Int) - 1 by omega)];rfl
section
variable {P:Program} {w:World} {K:PySem.W.Frag} {mg:Str->Option Value} {base:Heap} {f:Addr} {fd:FuncData} {ec:Nat->Addr} {Bs:Addr}
def sp_need_draws (ec:Nat->Addr):Sp:=fun vs H Q E=>∃ (a st:Addr) (xs:List V) (v:V) (d:PyData),vs=[.ref a,v]/\H a=some (.tup xs)/\Dt st H d v/\short d/\(drawsD xs.length d=true->∀ H',Same H H'->Q .non H')/\(drawsD xs.length d=false->∀ H',Same H H'->E (.ref (ec 4)) none H')
abbrev s_need_draws:Stmt:=top 31
theorem sc_need_draws:FnScope ["urn","thing"] ["urn","thing"] (defScope s_need_draws):=⟨rfl,rfl,rfl,by decide +kernel,rfl,by decide +kernel,by decide +kernel⟩
theorem ok_need_draws (F:Fun K "need_draws" "need_draws" s_need_draws f fd) (B:Bt mg) (C:CtD mg) (R:Errs K mg ec Bs) (c1:Cal P w K mg base 2 "are_wholes" ["thing","low","high"] sp_are_wholes):FnOk P w K mg base (CX1 P w) 3 f fd ["urn","thing"] (sp_need_draws ec):=by
  refine F.okX sc_need_draws (fun vs H Q E h=>?_) (fun cdv A outer s H vs Q E hr h=>?_)
  · obtain ⟨a,st,xs,v,d,rfl,_⟩:=h
    rfl
  obtain ⟨a,st,xs,v,d,rfl,ha,hd,hs,q1,q2⟩:=h
  obtain ⟨td,hD⟩:=C.draws
  refine ⟨_,pss_one (ps_if (PW.pt (pw_or (pt_not (pt_val (pe_cal c1 hr rfl (pa_cons (pv 1) (pa_cons pe_int (pa_cons (pe_op op_sub (pe_callB call_len_seq rfl B.len PySem.boot_len (pa_cons (pv 0) pa_nil)) pe_int) pa_nil))))))
    (pw_or1 (pt_cmpR op_gt (pe_callB call_len_seq rfl B.len PySem.boot_len (pa_cons (pv 1) pa_nil)) (pe_glob (v:=.int 20) rfl hD ⟨td,rfl⟩) (nomark _))))) (pss_one (ps_raise1 R.e4 (R.xc 4 (by decide)) pe_str (fun σ H Q Q' m q=>m _ _ q))) pss_nil),?_⟩
  refine ⟨_,rfl,_,rfl,a,_,rfl,.inr (.of ha),_,_,rfl,rfl,_,st,d,0,_,rfl,hd,hs,fun H1 g1=>⟨_,rfl,?_⟩⟩
  unfold drawsD at q1 q2
  cases hw:wholesD 0 ((xs.length:Int) - 1) d with
  | false =>
    rw [hw,Bool.false_and] at q2
    exact iteT (iteT (q2 rfl H1 g1))
  | true =>
    rw [hw,Bool.true_and] at q1 q2
    obtain ⟨ns,e,_⟩:=wholesD_ints hw
    subst e
    obtain ⟨b,e,_,hb⟩:=hd.di
    subst e
    rw [lenD_DI] at q1 q2
    refine iteF ⟨_,rfl,b,_,rfl,.inr (.of (g1 _ _ hb)),_,_,rfl,rfl,_,rfl,?_⟩
    rw [List.length_map]
    by_cases hl:ns.length <= 20
    · rw [decide_eq_false (show ¬ (20:Int) < (ns.length:Int) by omega)]
      exact iteF (q1 (decide_eq_true hl) H1 g1)
    · rw [decide_eq_true (show (20:Int) < (ns.length:Int) by omega)]
      exact iteT (q2 (decide_eq_false hl) H1 g1)
end
end G
namespace G
open PySem PySem.Spec PyProof.Rows L2 Mt
def UrnV (H:Hp):Option (List Int)->V->Prop
  | none,u=>u=.non
  | some ms,u=>∃ b,u=.ref b/\H b=some (.tup (ms.map V.int))
structure Ask (st:Addr) (H:Hp) (n:Nat) (ns:List Int) (rs:List (List Int)) (ks:List Nat) (a:Addr) (v:V) (d:Addr):Prop where
  u:Dt st H (DI ns) (.ref a)
  uu:Mt.Urn n 20 ns
  r:Dt st H (DR rs) v
  ru:Mt.Rul n 5 rs
  d:Dt st H (DI (kI ks)) (.ref d)
  n1:1 <= n
  n4:n <= 4
  len:ks.length <= 20
  lt:∀ k ∈ ks,k < n
section
variable {P:Program} {w:World} {K:PySem.W.Frag} {mg:Str->Option Value} {base:Heap} {f:Addr} {fd:FuncData} {ec:Nat->Addr} {Bs:Addr}
def sp_followV:Sp:=fun vs H Q _=>∃ (st a d:Addr) (v:V) (n:Nat) (ns:List Int) (rs:List (List Int)) (ks:List Nat),vs=[.ref a,v,.ref d]/\Ask st H n ns rs ks a v d /\
  ∀ p q u H',Same H H'->H' p=some (.tup [.ref q,u])->H' q=some (.tup ((fr (fol rs ns ks).1).map V.int))->UrnV H' (fol rs ns ks).2 u->Q (.ref p) H'
def sp_follow (ec:Nat->Addr):Sp:=fun vs H Q E=>False ∨ sp_followV vs H Q E
abbrev s_follow:Stmt:=top 35
theorem sc_follow:FnScope ["urn","rule","draws","so_far","now","kind"] ["urn","rule","draws"] (defScope s_follow):=⟨rfl,rfl,rfl,by decide +kernel,rfl,by decide +kernel,by decide +kernel⟩
theorem ok_follow (F:Fun K "follow" "follow" s_follow f fd) (B:Bt mg) (c1:CalX P w K mg base 6 "need_urn_and_rule" ["urn","rule"] (sp_nur ec)) (c2:CalX P w K mg base 3 "need_draws" ["urn","thing"] (sp_need_draws ec))
    (c3:Cal P w K mg base 1 "own_urn" ["urn"] sp_own_urn) (c4:Cal P w K mg base 3 "times" ["one","other"] sp_times) (c5:Cal P w K mg base 3 "share" ["urn","kind"] sp_share) (c6:Cal P w K mg base 1 "put_in" ["urn","rule","kind"] sp_put_in):FnOk P w K mg base (CX1 P w) 7 f fd ["urn","rule","draws"] (sp_follow ec):=by
  refine F.okX sc_follow (fun vs H Q E h=>?_) (fun cdv A outer s H vs Q E hr h=>?_)
  · rcases h with h | ⟨st,a,d,v,n,ns,rs,ks,rfl,_⟩
    · exact h.elim
    · rfl
  refine ⟨_,pss_cons (ps_expr (pe_calx c1 hr rfl passes1 (pa_cons (pv 0) (pa_cons (pv 1) pa_nil)))) (pss_cons (ps_expr (pe_calx (c2.up (by decide)) hr rfl passes1 (pa_cons (pv 0) (pa_cons (pv 2) pa_nil))))
    (PSs.nox (pss_cons (ps_set (i:=3) sc_follow.nd rfl (Or.inl rfl) (pe_tup (pa_cons pe_int (pa_cons pe_int pa_nil))))
    (pss_cons (ps_set (i:=4) sc_follow.nd rfl (Or.inl rfl) (pe_cal (c3.up (by decide)) hr rfl (pa_cons (pv 0) pa_nil)))
    (pss_cons (ps_for PassesOwn.never rfl (pi_tup (pv 2)) (pg_name (i:=5) sc_follow.nd rfl (Or.inl rfl))
      (pss_cons (ps_if (pt_cmpR op_eq (pe_ix ix_tup (pv 4) (pv 5) (fun _ _=>rfl)) pe_int (nomark _)) (pss_one (ps_ret (pe_tup (pa_cons (pe_tup (pa_cons pe_int (pa_cons pe_int pa_nil))) (pa_cons pe_non pa_nil))))) pss_nil)
      (pss_cons (ps_set (i:=3) sc_follow.nd rfl (Or.inl rfl) (pe_cal (c4.up (by decide)) hr rfl (pa_cons (pv 3) (pa_cons (pe_cal (c5.up (by decide)) hr rfl (pa_cons (pv 4) (pa_cons (pv 5) pa_nil))) pa_nil))))
      (pss_one (ps_set (i:=4) sc_follow.nd rfl (Or.inl rfl) (pe_cal (c6.up (by decide)) hr rfl (pa_cons (pv 4) (pa_cons (pv 1) (pa_cons (pv 5) pa_nil)))))))))
    (pss_one (ps_ret (pe_tup (pa_cons (pv 3) (pa_cons (pv 4) pa_nil)))))))))),?_⟩
  rcases h with h | ⟨st,a,d,v,n,ns,rs,ks,rfl,hA,q⟩
  · exact h.elim
  obtain ⟨a',e,_,ha⟩:=hA.u.di
  cases e
  obtain ⟨d',e,_,hd⟩:=hA.d.di
  cases e
  have lk:(kI ks).length=ks.length:=by unfold kI;rw [List.length_map]
  have hn4:=hA.n4
  have uok:=urnD_of hA.uu hA.n1 hA.n4
  have rok:ruleD (lenD (DI ns):Int) (DR rs)=true:=by rw [lenD_DI,hA.uu.len];exact ruleD_of hA.ru
  refine ⟨_,rfl,_,rfl,_,_,st,DI ns,DR rs,rfl,hA.u,short_DI (by rw [hA.uu.len];omega),hA.r,⟨short_DR (by rw [hA.ru.len];omega),shorts_DR hA.ru (by omega)⟩,(fun z=>by rw [uok] at z;cases z),(fun _ z=>by rw [rok] at z;cases z),fun _ _ H1 g1=>?_⟩
  have dok:drawsD (ns.map V.int).length (DI (kI ks))=true:=drawsD_of hA.len (by rw [List.length_map,hA.uu.len];exact hA.lt)
  refine ⟨_,rfl,_,rfl,a,st,_,_,DI (kI ks),rfl,g1 _ _ ha,hA.d.kp (g1.kp st),short_DI (by rw [kI_len];have:=hA.len;omega),(fun _ H2 g2=>?_),(fun z=>by rw [dok] at z;cases z)⟩
  refine ⟨(by show 2 <= sizeLine;decide),fun c hc=>?_⟩
  have s2:Same H (upd H2 c (.tup [.int 1,.int 1])):=(g1.trans g2).trans (Same.new hc)
  refine ⟨_,rfl,a,_,rfl,s2 _ _ ha,fun b H3 g3 hb=>?_⟩
  have s3:Same H H3:=s2.trans g3
  refine ⟨_,rfl,d,rfl,⟨_,.of (s3 _ _ hd)⟩,?_⟩
  refine for_tup (K:=K) (a:=d) (xs:=(kI ks).map V.int) (fun i σ H4=>Same H H4/\∃ c b o x ms,σ=[some (.ref a),some v,some (.ref d),some (.ref c),some (.ref b),o]/\H4 c=some (.tup ((fr x).map V.int))/\H4 b=some (.tup (ms.map V.int)) /\
    Mt.Urn n (20 + 5 * i) ms/\Bd (12 * i) x/\0 <= x/\x * (fol rs ms (ks.drop i)).1=(fol rs ns ks).1/\(fol rs ms (ks.drop i)).2=(fol rs ns ks).2)
    ⟨s3,c,b,none,1,ns,rfl,g3 _ _ upd_same,hb,hA.uu,Bd.one,(by decide),(by rw [List.drop_zero];grind),(by rw [List.drop_zero])⟩ (fun i σ H4 _ h=>.of (h.1 _ _ hd)) (fun i x σ H4 hx h=>?_) (fun σ H4 h=>?_)
  · obtain ⟨s4,c,b,o,x',ms,rfl,hc4,hb4,hu4,hB,hx0,e1,e2⟩:=h
    have hi:i < ks.length:=by have:=(List.getElem?_eq_some_iff.mp hx).1;rwa [List.length_map,lk] at this
    have ex:x=.int ((ks[i]:Nat):Int):=by
      unfold kI at hx
      rw [List.getElem?_map,List.getElem?_map,List.getElem?_eq_getElem hi] at hx
      exact (Option.some.inj hx).symm
    subst ex
    have hk:=hA.lt ks[i] (List.getElem_mem hi)
    have hlen:=hA.len
    rw [List.drop_eq_getElem_cons hi] at e1 e2
    generalize ks[i]=k at *
    have hkm:k < ms.length:=by rw [hu4.len];exact hk
    refine ⟨_,rfl,_,rfl,b,_,_,_,rfl,rfl,.of hb4,atI_int hkm,rfl,_,rfl,?_⟩
    by_cases hz:ms.getD k 0=0
    · rw [hz,decide_eq_true rfl]
      refine iteT ⟨(by show 2 <= sizeLine;decide),fun p1 hp1=>⟨(by show 2 <= sizeLine;decide),fun p2 hp2=>?_⟩⟩
      rw [fol_cons,if_pos hz] at e1 e2
      have e1':(fol rs ns ks).1=0:=by rw [<- e1];grind
      have e2':(fol rs ns ks).2=none:=by rw [<- e2]
      have hpp:p1 ≠ p2:=fun e=>by rw [<- e,upd_same] at hp2;cases hp2
      refine q p2 p1 .non _ ((s4.trans (Same.new hp1)).trans (Same.new hp2)) upd_same ?_ ?_
      · rw [upd_ne hpp,upd_same,e1'];rfl
      · rw [e2'];exact rfl
    · rw [decide_eq_false (show ¬ V.int (ms.getD k 0)=V.int 0 from fun z=>hz (by injection z))]
      refine iteF ?_
      rw [fol_cons,if_neg hz] at e1 e2
      refine ⟨_,rfl,_,rfl,_,rfl,b,n,_,ms,k,rfl,hb4,hu4,hn4,(by omega),hk,fun p5 H5 g5 h5=>?_⟩
      refine ⟨c,p5,x',Mt.share ms k,12 * i,12,rfl,g5 _ _ hc4,h5,Rat.num_nonneg.mpr hx0,Rat.num_nonneg.mpr (share_nn hu4 k),hB,share_bd hu4 hn4 (by omega) k,(by omega),fun p6 H6 g6 h6=>?_⟩
      have s6:Same H H6:=s4.trans (g5.trans g6)
      have g46:Same H4 H6:=g5.trans g6
      refine ⟨_,rfl,_,rfl,_,rfl,b,st,v,n,5,ms,rs,k,rfl,g46 _ _ hb4,hu4.len,hA.r.kp (s6.kp st),hA.ru,hn4,hk,fun p7 H7 g7 h7=>?_⟩
      refine ⟨s6.trans g7,p6,p7,_,x' * Mt.share ms k,_,rfl,g7 _ _ h6,h7,?_,?_,Rat.mul_nonneg hx0 (share_nn hu4 k),?_,e2⟩
      · have:=hu4.add (hA.ru.at hk)
        rw [show 20 + 5 * (i + 1)=20 + 5 * i + 5 by omega];exact this
      · rw [show 12 * (i + 1)=12 * i + 12 by omega];exact hB.mul (share_bd hu4 hn4 (by omega) k)
      · rw [<- e1];grind
  · obtain ⟨s4,c,b,o,x',ms,rfl,hc4,hb4,hu4,hB,hx0,e1,e2⟩:=h
    rw [List.length_map,lk,List.drop_length,fol_nil] at e1 e2
    refine ⟨_,rfl,_,rfl,(by show 2 <= sizeLine;decide),fun p hp=>?_⟩
    have g:=Same.new (o:=.tup [.ref c,.ref b]) hp
    refine q p c (.ref b) _ (s4.trans g) upd_same ?_ ?_
    · rw [g _ _ hc4,<- e1];congr 4;grind
    · rw [<- e2];exact ⟨b,rfl,g _ _ hb4⟩
def sp_chance_ofV:Sp:=fun vs H Q _=>∃ (st a d:Addr) (v:V) (n:Nat) (ns:List Int) (rs:List (List Int)) (ks:List Nat),vs=[.ref a,v,.ref d]/\Ask st H n ns rs ks a v d /\
  ∀ q H',Same H H'->H' q=some (.tup ((fr (fol rs ns ks).1).map V.int))->Q (.ref q) H'
def sp_chance_of (ec:Nat->Addr):Sp:=fun vs H Q E=>False ∨ sp_chance_ofV vs H Q E
abbrev s_chance_of:Stmt:=top 36
theorem sc_chance_of:FnScope ["urn","rule","draws"] ["urn","rule","draws"] (defScope s_chance_of):=⟨rfl,rfl,rfl,by decide +kernel,rfl,by decide +kernel,by decide +kernel⟩
theorem ok_chance_of (F:Fun K "chance_of" "chance_of" s_chance_of f fd) (c1:CalX P w K mg base 7 "follow" ["urn","rule","draws"] (sp_follow ec)):FnOk P w K mg base (CX1 P w) 8 f fd ["urn","rule","draws"] (sp_chance_of ec):=by
  refine F.okX sc_chance_of (fun vs H Q E h=>?_) (fun cdv A outer s H vs Q E hr h=>?_)
  · rcases h with h | ⟨st,a,d,v,n,ns,rs,ks,rfl,_⟩
    · exact h.elim
    · rfl
  refine ⟨_,pss_one (ps_ret (pe_ix ix_tup (pe_calx c1 hr rfl passes1 (pa_cons (pv 0) (pa_cons (pv 1) (pa_cons (pv 2) pa_nil)))) pe_int (fun _ _=>rfl))),?_⟩
  rcases h with h | ⟨st,a,d,v,n,ns,rs,ks,rfl,hA,q⟩
  · exact h.elim
  refine ⟨_,rfl,_,rfl,_,rfl,.inr ⟨st,a,d,v,n,ns,rs,ks,rfl,hA,fun p c u H1 g1 hp hc hu=>?_⟩⟩
  exact ⟨p,_,_,_,rfl,rfl,.of hp,atI_nat (j:=0) rfl,q c H1 g1 hc⟩
end
end G
set_option maxHeartbeats 1000000
namespace So
open PySem PyProof.Rows
section
variable {prog:Program} {w:World} {A:Around} {E:Value->Shared->Prop} {s:Shared} {rk:Keyed->Int} {M:Keyed->Prop} {κ:SortKind}
def Ask (prog:Program) (w:World) (A:Around) (s:Shared) (rk:Keyed->Int) (M:Keyed->Prop) (κ:SortKind):Prop:=∀ x y:Keyed,M x->M y->∀ Q:Bool->Shared->Prop,Q (decide (rk x < rk y)) s->wpAny (model prog w) A (keyLt' κ x.1 y.1) Q (fun _ _=>False) s
theorem wpS_lt {x y:Keyed} {st:SortSt} {Q:Option Bool->SortSt->Prop} (hA:Ask prog w A s rk M κ) (hk:kindOf st=κ) (hx:M x) (hy:M y) (h:Q (some (decide (rk x < rk y))) st):wpS (model prog w) A E s (lt' x y) Q st:=by
  rw [lt'_eq]
  refine wpS_bind (wpS_get ?_)
  rw [hk]
  refine wpS_bind (wpS_lift (wpAny_attempt (wpAny_mono (hA x y hx hy (fun b s'=>s'=s/\b=decide (rk x < rk y)) ⟨rfl,rfl⟩) (fun b s' hb=>⟨hb.1,?_⟩) fun _ _ z=>z.elim)))
  obtain ⟨_,rfl⟩:=hb
  exact wpS_pure h
theorem wpS_elem {arr:Array Keyed} {i:Nat} {x:Keyed} {st:SortSt} {Q:Keyed->SortSt->Prop} (h:arr[i]?=some x) (q:Q x st):wpS (model prog w) A E s (elem' arr i) Q st:=by
  rw [elem'_eq,h]
  exact wpS_pure q
end
end So
namespace So
open PySem PyProof.Rows
def Up (rk:Keyed->Int) (l:List Keyed):Prop:=l.Pairwise fun x y=>rk x <= rk y
structure Mg (rk:Keyed->Int) (la lb O:List Keyed) (ia ib:Nat):Prop where
  perm:O.Perm (la.take ia ++ lb.take ib)
  up:Up rk O
  low:∀ x ∈ O,∀ y ∈ la.drop ia ++ lb.drop ib,rk x <= rk y
end So
set_option maxHeartbeats 4000000
namespace So
open PySem PyProof.Rows
def Gl (st st':SortSt):Prop:=kindOf st'=kindOf st/\arrOf st'=arrOf st/\pendingOf st'=pendingOf st/\failedOf st'=failedOf st
section
variable {rk:Keyed->Int} {a b out:Array Keyed} {ia ib:Nat}
theorem get_of {i:Nat} (h:i < a.size):∃ x,a[i]?=some x/\x ∈ a.toList:=⟨a[i],Array.getElem?_eq_getElem h,Array.getElem_mem_toList h⟩
end
section
variable {prog:Program} {w:World} {A:Around} {E:Value->Shared->Prop} {s:Shared} {rk:Keyed->Int} {M:Keyed->Prop} {κ:SortKind}
end
end So
namespace So
open PySem PyProof.Rows
section
variable {prog:Program} {w:World} {A:Around} {E:Value->Shared->Prop} {s:Shared} {rk:Keyed->Int} {M:Keyed->Prop} {κ:SortKind}
end
end So
namespace So
open PySem PyProof.Rows
structure Mh (rk:Keyed->Int) (la lb O:List Keyed) (na nb:Nat):Prop where
  perm:O.Perm (la.drop na ++ lb.drop nb)
  up:Up rk O
  hi:∀ x ∈ la.take na ++ lb.take nb,∀ y ∈ O,rk x <= rk y
section
variable {rk:Keyed->Int} {a b out:Array Keyed} {na nb:Nat}
end
section
variable {prog:Program} {w:World} {A:Around} {E:Value->Shared->Prop} {s:Shared} {rk:Keyed->Int} {M:Keyed->Prop} {κ:SortKind}
end
end So
namespace So
open PySem PyProof.Rows
section
variable {prog:Program} {w:World} {A:Around} {E:Value->Shared->Prop} {s:Shared} {rk:Keyed->Int} {M:Keyed->Prop} {κ:SortKind}
end
end So
namespace So
open PySem PyProof.Rows
section
variable {prog:Program} {w:World} {A:Around} {E:Value->Shared->Prop} {s:Shared} {rk:Keyed->Int} {M:Keyed->Prop} {κ:SortKind}
end
end So
namespace So
open PySem PyProof.Rows
def Kv (rk:Keyed->Int) (arr:Array Keyed) (i:Nat):Int:=rk ((arr[i]?).getD (Value.none,Value.none))
theorem Kv.congr {rk:Keyed->Int} {a b:Array Keyed} {i j:Nat} (h:a[i]?=b[j]?):Kv rk a i=Kv rk b j:=by unfold Kv;rw [h]
def Srt (rk:Keyed->Int) (arr:Array Keyed) (lo n:Nat):Prop:=∀ i j,lo <= i->i <= j->j < lo + n->Kv rk arr i <= Kv rk arr j
def Dcr (rk:Keyed->Int) (arr:Array Keyed) (lo n:Nat):Prop:=∀ i j,lo <= i->i <= j->j < lo + n->Kv rk arr j <= Kv rk arr i
structure Kpt (lo:Nat) (a b:Array Keyed):Prop where
  perm:b.toList.Perm a.toList
  low:∀ i,i < lo->b[i]?=a[i]?
theorem Kpt.refl (lo:Nat) (a:Array Keyed):Kpt lo a a:=⟨List.Perm.refl _,fun _ _=>rfl⟩
theorem Kpt.trans {lo:Nat} {a b c:Array Keyed} (h:Kpt lo a b) (k:Kpt lo b c):Kpt lo a c:=⟨k.perm.trans h.perm,fun i hi=>(k.low i hi).trans (h.low i hi)⟩
theorem Kpt.size {lo:Nat} {a b:Array Keyed} (h:Kpt lo a b):b.size=a.size:=by have:=h.perm.length_eq;simpa using this
theorem Kpt.mirror {lo i j:Nat} {a:Array Keyed} (hi:lo <= i) (hj:j <= a.size):Kpt lo a (mirror a i j ((j - i) / 2)) :=
  ⟨Array.perm_iff_toList_perm.mp (mirror_perm a i j _),fun k hk=>by rw [getElem?_mirror_all hj,if_neg (by omega)]⟩
theorem Kv.mirror {rk:Keyed->Int} {a:Array Keyed} {i j:Nat} (hj:j <= a.size) (k:Nat):Kv rk (mirror a i j ((j - i) / 2)) k=if i <= k/\k < j then Kv rk a (i + j - 1 - k) else Kv rk a k:=by
  have e:=getElem?_mirror_all (i:=i) hj k
  by_cases h1:i <= k/\k < j
  · rw [if_pos h1] at e ⊢;exact Kv.congr e
  · rw [if_neg h1] at e ⊢;exact Kv.congr e
theorem mirror_eq {rk:Keyed->Int} {a:Array Keyed} {i j:Nat} (hj:j <= a.size) (heq:∀ k,i <= k->k < j->Kv rk a k=Kv rk a (j - 1)) (k:Nat):Kv rk (mirror a i j ((j - i) / 2)) k=Kv rk a k:=by
  rw [Kv.mirror hj]
  split
  · rw [heq _ (by omega) (by omega),heq k (by omega) (by omega)]
  · rfl
theorem Dcr.more' {rk:Keyed->Int} {a:Array Keyed} {lo x:Nat} (h:Dcr rk a lo x) (hlt:Kv rk a (lo + x) <= Kv rk a (lo + x - 1)):Dcr rk a lo (x + 1):=fun i j hi hij hj=>by
  by_cases hjx:j < lo + x
  · exact h i j hi hij hjx
  · have:j=lo + x:=by omega
    subst this
    by_cases hix:i=lo + x
    · subst hix;exact Int.le_refl _
    · exact Int.le_trans hlt (h i (lo + x - 1) hi (by omega) (by omega))
theorem Dcr.more {rk:Keyed->Int} {a:Array Keyed} {lo x:Nat} (h:Dcr rk a lo x) (hlt:Kv rk a (lo + x) < Kv rk a (lo + x - 1)):Dcr rk a lo (x + 1):=h.more' (Int.le_of_lt hlt)
section
variable {prog:Program} {w:World} {A:Around} {E:Value->Shared->Prop} {s:Shared} {rk:Keyed->Int} {M:Keyed->Prop} {κ:SortKind} {pd:Array (Nat × Nat × Nat)} {mg:Nat}
theorem ltAt_ok {arr:Array Keyed} {i j:Nat} {Q:Option Bool->SortSt->Prop} (hA:Ask prog w A s rk M κ) (m:∀ x ∈ arr.toList,M x) (hi:i < arr.size) (hj:j < arr.size) (h:Q (some (decide (Kv rk arr i < Kv rk arr j))) (SortSt.mk' κ arr pd mg none)):wpS (model prog w) A E s (ltAt' i j) Q (SortSt.mk' κ arr pd mg none):=by
  obtain ⟨x,hx,mx⟩:=get_of (a:=arr) hi
  obtain ⟨y,hy,my⟩:=get_of (a:=arr) hj
  have e1:Kv rk arr i=rk x:=by unfold Kv;rw [hx];rfl
  have e2:Kv rk arr j=rk y:=by unfold Kv;rw [hy];rfl
  rw [e1,e2] at h
  rw [ltAt'_eq]
  refine wpS_bind (wpS_get ?_)
  exact wpS_bind (wpS_elem hx (wpS_bind (wpS_elem hy (wpS_lt hA rfl (m x mx) (m y my) h))))
theorem asc_loop {arr:Array Keyed} {st:SortSt} {lo a nrem:Nat} {f:Nat->Option (Option Nat) × Nat->StateT SortSt Sem (ForInStep (Option (Option Nat) × Nat))} {Q:Option (Option Nat) × Nat->SortSt->Prop}
    (hstep:∀ (x n:Nat) (R:ForInStep (Option (Option Nat) × Nat)->SortSt->Prop),1 <= n->n < nrem->(Kv rk arr (lo + n) < Kv rk arr (lo + n - 1)->R (.done (none,n)) st)->(¬ Kv rk arr (lo + n) < Kv rk arr (lo + n - 1)->R (.yield (none,n + 1)) st)->wpS (model prog w) A E s (f x (none,n)) R st)
    (ha:1 <= a) (han:a <= nrem) (hs:Srt rk arr lo a) (h:∀ n,a <= n->n <= nrem->Srt rk arr lo n->(n=nrem ∨ Kv rk arr (lo + n) < Kv rk arr (lo + n - 1))->Q (none,n) st):wpS (model prog w) A E s (forIn [a:nrem] (none,a) f) Q st:=by
  refine wpS_forRange (I:=fun x c st'=>st'=st/\c=(none,x)/\Srt rk arr lo x) ?_ ?_ ⟨rfl,rfl,hs⟩
  · rintro x c st' hax hxn ⟨rfl,rfl,hs'⟩
    refine hstep x x _ (by omega) hxn (fun hlt=>h x hax (by omega) hs' (.inr hlt)) (fun hlt=>⟨rfl,rfl,fun i j hi hij hj=>?_⟩)
    by_cases hjx:j < lo + x
    · exact hs' i j hi hij hjx
    · have hj':j=lo + x:=by omega
      subst hj'
      by_cases hi':i=lo + x
      · subst hi';exact Int.le_refl _
      · exact Int.le_trans (hs' i (lo + x - 1) hi (by omega) (by omega)) (Int.not_lt.mp hlt)
  · rintro c st' ⟨rfl,rfl,hs'⟩
    rw [show max a nrem=nrem by omega] at hs' ⊢
    exact h nrem han (Nat.le_refl _) hs' (.inl rfl)
theorem countRun_ok {arr:Array Keyed} {lo nrem:Nat} {Q:Option Nat->SortSt->Prop} (hA:Ask prog w A s rk M κ) (m:∀ x ∈ arr.toList,M x) (h1:1 <= nrem) (hN:lo + nrem <= arr.size)
    (h:∀ (arr':Array Keyed) (n:Nat),1 <= n->n <= nrem->Kpt lo arr arr'->Srt rk arr' lo n->Q (some n) (SortSt.mk' κ arr' pd mg none)):wpS (model prog w) A E s (countRun' lo nrem) Q (SortSt.mk' κ arr pd mg none):=by
  have one:Srt rk arr lo 1:=fun i j hi hij hj=>by
    have:i=j:=by omega
    subst this;exact Int.le_refl _
  refine wpS_bind (asc_loop (arr:=arr) (lo:=lo) ?_ (Nat.le_refl 1) h1 one fun n hn1 hn2 hs hend=>?_)
  · intro x n R hn hnn r1 r2
    dsimp only
    refine wpS_bind (ltAt_ok hA m (by omega) (by omega) ?_)
    by_cases hlt:Kv rk arr (lo + n) < Kv rk arr (lo + n - 1)
    · rw [decide_eq_true hlt];exact wpS_pure (r1 hlt)
    · rw [decide_eq_false hlt];exact wpS_pure (r2 hlt)
  dsimp only
  by_cases e1:(n == nrem)=true
  · rw [if_pos e1]
    exact wpS_pure (h arr n hn1 hn2 (Kpt.refl lo arr) hs)
  rw [if_neg e1]
  have e1':n ≠ nrem:=by simpa using e1
  have hlt:=hend.resolve_left e1'
  by_cases hn:n > 1
  · rw [if_pos hn]
    refine wpS_bind (ltAt_ok hA m (by omega) (by omega) ?_)
    by_cases hrose:Kv rk arr lo < Kv rk arr (lo + n - 1)
    · rw [decide_eq_true hrose]
      exact wpS_pure (h arr n hn1 hn2 (Kpt.refl lo arr) hs)
    rw [decide_eq_false hrose]
    dsimp only
    rw [if_neg (by decide)]
    refine wpS_bind (wpS_modify ?_)
    have alleq:∀ k,lo <= k->k < lo + n->Kv rk arr k=Kv rk arr (lo + n - 1):=fun k hk1 hk2=>by
      have a1:=hs lo k (Nat.le_refl _) hk1 hk2
      have a2:=hs k (lo + n - 1) hk1 (by omega) (by omega)
      omega
    have eqv:=mirror_eq (rk:=rk) (a:=arr) (i:=lo) (j:=lo + n) (by omega) alleq
    have k1:Kpt lo arr (mirror arr lo (lo + n) ((lo + n - lo) / 2)):=Kpt.mirror (Nat.le_refl _) (by omega)
    have d1:Dcr rk (mirror arr lo (lo + n) ((lo + n - lo) / 2)) lo (n + 1):=by
      refine Dcr.more (fun i j hi hij hj=>?_) (by rw [eqv,eqv];exact hlt)
      rw [eqv,eqv,alleq i hi (by omega),alleq j (by omega) (by omega)]
      exact Int.le_refl _
    show wpS _ _ _ _ _ _ (SortSt.mk' κ (mirror arr lo (lo + n) ((lo + n - lo) / 2)) pd mg none)
    generalize mirror arr lo (lo + n) ((lo + n - lo) / 2)=arr1 at k1 d1
    refine wpS_bind (wpS_lift (wpAny_rule ⟨rfl,?_⟩))
    refine wpS_bind (wpS_mono (wpS_forRange (I:=fun x c st'=>∃ arr2 neq,c=(none,x,neq)/\st'=SortSt.mk' κ arr2 pd mg none/\Kpt lo arr arr2/\Dcr rk arr2 lo x/\neq + 1 <= x/\(∀ i,lo + x - (neq + 1) <= i->i < lo + x->Kv rk arr2 i=Kv rk arr2 (lo + x - 1)))
      (Q:=fun c st'=>∃ arr2 n2 neq,c=(none,n2,neq)/\st'=SortSt.mk' κ arr2 pd mg none/\Kpt lo arr arr2/\Dcr rk arr2 lo n2/\neq + 1 <= n2/\(∀ i,lo + n2 - (neq + 1) <= i->i < lo + n2->Kv rk arr2 i=Kv rk arr2 (lo + n2 - 1))/\n + 1 <= n2/\n2 <= nrem) ?_ ?_ ⟨_,0,rfl,rfl,k1,d1,by omega,fun i hi hi2=>by congr 1;omega⟩) ?_)
    · rintro x c st' hnx hx ⟨arr2,neq,rfl,rfl,k2,d2,q1,q2⟩
      have m2:∀ x ∈ arr2.toList,M x:=fun x hx=>m x (k2.perm.mem_iff.mp hx)
      have z2:=k2.size
      dsimp only
      refine wpS_bind (ltAt_ok hA m2 (by omega) (by omega) ?_)
      by_cases hlt:Kv rk arr2 (lo + x) < Kv rk arr2 (lo + x - 1)
      · rw [decide_eq_true hlt]
        dsimp only
        rw [if_pos rfl]
        by_cases hq:neq > 0
        · rw [if_pos hq]
          refine wpS_bind (wpS_modify (wpS_pure ⟨_,0,rfl,rfl,k2.trans (Kpt.mirror (by omega) (by omega)),?_,by omega,fun i hi hi2=>by congr 1;omega⟩))
          have eqv:=mirror_eq (rk:=rk) (a:=arr2) (i:=lo + x - (neq + 1)) (j:=lo + x) (by omega) q2
          intro i j hi hij hj
          show Kv rk (mirror arr2 _ _ _) j <= Kv rk (mirror arr2 _ _ _) i
          rw [eqv,eqv]
          exact d2.more hlt i j hi hij (by omega)
        · rw [if_neg hq]
          exact wpS_pure ⟨arr2,0,rfl,rfl,k2,fun i j hi hij hj=>d2.more hlt i j hi hij (by omega),by omega,fun i hi hi2=>by congr 1;omega⟩
      · rw [decide_eq_false hlt]
        dsimp only
        rw [if_neg (by decide)]
        refine wpS_bind (ltAt_ok hA m2 (by omega) (by omega) ?_)
        by_cases hgt:Kv rk arr2 (lo + x - 1) < Kv rk arr2 (lo + x)
        · rw [decide_eq_true hgt]
          dsimp only
          rw [if_pos rfl]
          exact wpS_pure ⟨arr2,x,neq,rfl,rfl,k2,d2,q1,q2,hnx,by omega⟩
        · rw [decide_eq_false hgt]
          dsimp only
          rw [if_neg (by decide)]
          have heq:Kv rk arr2 (lo + x)=Kv rk arr2 (lo + x - 1):=by omega
          refine wpS_pure ⟨arr2,neq + 1,rfl,rfl,k2,fun i j hi hij hj=>?_,by omega,fun i hi hi2=>?_⟩
          · exact d2.more' (by omega) i j hi hij (by omega)
          · rw [show lo + (x + 1) - 1=lo + x by omega,heq]
            by_cases hix:i=lo + x
            · rw [hix,heq]
            · exact q2 i (by omega) (by omega)
    · rintro c st' ⟨arr2,neq,rfl,rfl,k2,d2,q1,q2⟩
      rw [show max (n + 1) nrem=nrem by omega] at d2 q1 q2 ⊢
      exact ⟨arr2,nrem,neq,rfl,rfl,k2,d2,q1,q2,by omega,Nat.le_refl _⟩
    · rintro c st' ⟨arr2,n2,neq,rfl,rfl,k2,d2,q1,q2,hn2a,hn2b⟩
      have z2:=k2.size
      dsimp only
      by_cases hq:neq > 0
      · rw [if_pos hq]
        refine wpS_bind (wpS_modify ?_)
        have eqv:=mirror_eq (rk:=rk) (a:=arr2) (i:=lo + n2 - (neq + 1)) (j:=lo + n2) (by omega) q2
        have k4:Kpt lo arr (mirror arr2 (lo + n2 - (neq + 1)) (lo + n2) ((lo + n2 - (lo + n2 - (neq + 1))) / 2)):=k2.trans (Kpt.mirror (by omega) (by omega))
        have d4:Dcr rk (mirror arr2 (lo + n2 - (neq + 1)) (lo + n2) ((lo + n2 - (lo + n2 - (neq + 1))) / 2)) lo n2:=fun i j hi hij hj=>by rw [eqv,eqv];exact d2 i j hi hij hj
        show wpS _ _ _ _ _ _ (SortSt.mk' κ (mirror arr2 (lo + n2 - (neq + 1)) (lo + n2) ((lo + n2 - (lo + n2 - (neq + 1))) / 2)) pd mg none)
        generalize mirror arr2 (lo + n2 - (neq + 1)) (lo + n2) ((lo + n2 - (lo + n2 - (neq + 1))) / 2)=arr4 at k4 d4
        refine wpS_bind (wpS_modify ?_)
        have k5:Kpt lo arr (mirror arr4 lo (lo + n2) ((lo + n2 - lo) / 2)):=k4.trans (Kpt.mirror (Nat.le_refl _) (by rw [k4.size];omega))
        have s5:Srt rk (mirror arr4 lo (lo + n2) ((lo + n2 - lo) / 2)) lo n2:=fun i j hi hij hj=>by
          rw [Kv.mirror (by rw [k4.size];omega),Kv.mirror (by rw [k4.size];omega),if_pos (by omega),if_pos (by omega)]
          exact d4 _ _ (by omega) (by omega) (by omega)
        have m5:∀ x ∈ (mirror arr4 lo (lo + n2) ((lo + n2 - lo) / 2)).toList,M x:=fun x hx=>m x (k5.perm.mem_iff.mp hx)
        have z5:=k5.size
        show wpS _ _ _ _ _ _ (SortSt.mk' κ (mirror arr4 lo (lo + n2) ((lo + n2 - lo) / 2)) pd mg none)
        generalize mirror arr4 lo (lo + n2) ((lo + n2 - lo) / 2)=arr5 at k5 s5 m5 z5
        refine wpS_bind (asc_loop (arr:=arr5) (lo:=lo) ?_ (by omega) (by omega) s5 fun n3 hn31 hn32 hs3 _=>wpS_pure (h arr5 n3 (by omega) hn32 k5 hs3))
        intro x n R hn hnn r1 r2
        dsimp only
        refine wpS_bind (ltAt_ok hA m5 (by omega) (by omega) ?_)
        by_cases hlt:Kv rk arr5 (lo + n) < Kv rk arr5 (lo + n - 1)
        · rw [decide_eq_true hlt];exact wpS_pure (r1 hlt)
        · rw [decide_eq_false hlt];exact wpS_pure (r2 hlt)
      · rw [if_neg hq]
        have k4:=k2
        have d4:=d2
        generalize arr2=arr4 at k4 d4
        refine wpS_bind (wpS_modify ?_)
        have k5:Kpt lo arr (mirror arr4 lo (lo + n2) ((lo + n2 - lo) / 2)):=k4.trans (Kpt.mirror (Nat.le_refl _) (by rw [k4.size];omega))
        have s5:Srt rk (mirror arr4 lo (lo + n2) ((lo + n2 - lo) / 2)) lo n2:=fun i j hi hij hj=>by
          rw [Kv.mirror (by rw [k4.size];omega),Kv.mirror (by rw [k4.size];omega),if_pos (by omega),if_pos (by omega)]
          exact d4 _ _ (by omega) (by omega) (by omega)
        have m5:∀ x ∈ (mirror arr4 lo (lo + n2) ((lo + n2 - lo) / 2)).toList,M x:=fun x hx=>m x (k5.perm.mem_iff.mp hx)
        have z5:=k5.size
        show wpS _ _ _ _ _ _ (SortSt.mk' κ (mirror arr4 lo (lo + n2) ((lo + n2 - lo) / 2)) pd mg none)
        generalize mirror arr4 lo (lo + n2) ((lo + n2 - lo) / 2)=arr5 at k5 s5 m5 z5
        refine wpS_bind (asc_loop (arr:=arr5) (lo:=lo) ?_ (by omega) (by omega) s5 fun n3 hn31 hn32 hs3 _=>wpS_pure (h arr5 n3 (by omega) hn32 k5 hs3))
        intro x n R hn hnn r1 r2
        dsimp only
        refine wpS_bind (ltAt_ok hA m5 (by omega) (by omega) ?_)
        by_cases hlt:Kv rk arr5 (lo + n) < Kv rk arr5 (lo + n - 1)
        · rw [decide_eq_true hlt];exact wpS_pure (r1 hlt)
        · rw [decide_eq_false hlt];exact wpS_pure (r2 hlt)
  rw [if_neg hn]
  have k1:Kpt lo arr arr:=Kpt.refl lo arr
  have en:n=1:=by omega
  have d1:Dcr rk arr lo (n + 1):=by
    refine Dcr.more (fun i j hi hij hj=>?_) hlt
    have:i=j:=by omega
    subst this;exact Int.le_refl _
  refine wpS_bind (wpS_lift (wpAny_rule ⟨rfl,?_⟩))
  refine wpS_bind (wpS_mono (wpS_forRange (I:=fun x c st'=>∃ arr2 neq,c=(none,x,neq)/\st'=SortSt.mk' κ arr2 pd mg none/\Kpt lo arr arr2/\Dcr rk arr2 lo x/\neq + 1 <= x/\(∀ i,lo + x - (neq + 1) <= i->i < lo + x->Kv rk arr2 i=Kv rk arr2 (lo + x - 1)))
    (Q:=fun c st'=>∃ arr2 n2 neq,c=(none,n2,neq)/\st'=SortSt.mk' κ arr2 pd mg none/\Kpt lo arr arr2/\Dcr rk arr2 lo n2/\neq + 1 <= n2/\(∀ i,lo + n2 - (neq + 1) <= i->i < lo + n2->Kv rk arr2 i=Kv rk arr2 (lo + n2 - 1))/\n + 1 <= n2/\n2 <= nrem) ?_ ?_ ⟨_,0,rfl,rfl,k1,d1,by omega,fun i hi hi2=>by congr 1;omega⟩) ?_)
  · rintro x c st' hnx hx ⟨arr2,neq,rfl,rfl,k2,d2,q1,q2⟩
    have m2:∀ x ∈ arr2.toList,M x:=fun x hx=>m x (k2.perm.mem_iff.mp hx)
    have z2:=k2.size
    dsimp only
    refine wpS_bind (ltAt_ok hA m2 (by omega) (by omega) ?_)
    by_cases hlt:Kv rk arr2 (lo + x) < Kv rk arr2 (lo + x - 1)
    · rw [decide_eq_true hlt]
      dsimp only
      rw [if_pos rfl]
      by_cases hq:neq > 0
      · rw [if_pos hq]
        refine wpS_bind (wpS_modify (wpS_pure ⟨_,0,rfl,rfl,k2.trans (Kpt.mirror (by omega) (by omega)),?_,by omega,fun i hi hi2=>by congr 1;omega⟩))
        have eqv:=mirror_eq (rk:=rk) (a:=arr2) (i:=lo + x - (neq + 1)) (j:=lo + x) (by omega) q2
        intro i j hi hij hj
        show Kv rk (mirror arr2 _ _ _) j <= Kv rk (mirror arr2 _ _ _) i
        rw [eqv,eqv]
        exact d2.more hlt i j hi hij (by omega)
      · rw [if_neg hq]
        exact wpS_pure ⟨arr2,0,rfl,rfl,k2,fun i j hi hij hj=>d2.more hlt i j hi hij (by omega),by omega,fun i hi hi2=>by congr 1;omega⟩
    · rw [decide_eq_false hlt]
      dsimp only
      rw [if_neg (by decide)]
      refine wpS_bind (ltAt_ok hA m2 (by omega) (by omega) ?_)
      by_cases hgt:Kv rk arr2 (lo + x - 1) < Kv rk arr2 (lo + x)
      · rw [decide_eq_true hgt]
        dsimp only
        rw [if_pos rfl]
        exact wpS_pure ⟨arr2,x,neq,rfl,rfl,k2,d2,q1,q2,hnx,by omega⟩
      · rw [decide_eq_false hgt]
        dsimp only
        rw [if_neg (by decide)]
        have heq:Kv rk arr2 (lo + x)=Kv rk arr2 (lo + x - 1):=by omega
        refine wpS_pure ⟨arr2,neq + 1,rfl,rfl,k2,fun i j hi hij hj=>?_,by omega,fun i hi hi2=>?_⟩
        · exact d2.more' (by omega) i j hi hij (by omega)
        · rw [show lo + (x + 1) - 1=lo + x by omega,heq]
          by_cases hix:i=lo + x
          · rw [hix,heq]
          · exact q2 i (by omega) (by omega)
  · rintro c st' ⟨arr2,neq,rfl,rfl,k2,d2,q1,q2⟩
    rw [show max (n + 1) nrem=nrem by omega] at d2 q1 q2 ⊢
    exact ⟨arr2,nrem,neq,rfl,rfl,k2,d2,q1,q2,by omega,Nat.le_refl _⟩
  · rintro c st' ⟨arr2,n2,neq,rfl,rfl,k2,d2,q1,q2,hn2a,hn2b⟩
    have z2:=k2.size
    dsimp only
    by_cases hq:neq > 0
    · rw [if_pos hq]
      refine wpS_bind (wpS_modify ?_)
      have eqv:=mirror_eq (rk:=rk) (a:=arr2) (i:=lo + n2 - (neq + 1)) (j:=lo + n2) (by omega) q2
      have k4:Kpt lo arr (mirror arr2 (lo + n2 - (neq + 1)) (lo + n2) ((lo + n2 - (lo + n2 - (neq + 1))) / 2)):=k2.trans (Kpt.mirror (by omega) (by omega))
      have d4:Dcr rk (mirror arr2 (lo + n2 - (neq + 1)) (lo + n2) ((lo + n2 - (lo + n2 - (neq + 1))) / 2)) lo n2:=fun i j hi hij hj=>by rw [eqv,eqv];exact d2 i j hi hij hj
      show wpS _ _ _ _ _ _ (SortSt.mk' κ (mirror arr2 (lo + n2 - (neq + 1)) (lo + n2) ((lo + n2 - (lo + n2 - (neq + 1))) / 2)) pd mg none)
      generalize mirror arr2 (lo + n2 - (neq + 1)) (lo + n2) ((lo + n2 - (lo + n2 - (neq + 1))) / 2)=arr4 at k4 d4
      refine wpS_bind (wpS_modify ?_)
      have k5:Kpt lo arr (mirror arr4 lo (lo + n2) ((lo + n2 - lo) / 2)):=k4.trans (Kpt.mirror (Nat.le_refl _) (by rw [k4.size];omega))
      have s5:Srt rk (mirror arr4 lo (lo + n2) ((lo + n2 - lo) / 2)) lo n2:=fun i j hi hij hj=>by
        rw [Kv.mirror (by rw [k4.size];omega),Kv.mirror (by rw [k4.size];omega),if_pos (by omega),if_pos (by omega)]
        exact d4 _ _ (by omega) (by omega) (by omega)
      have m5:∀ x ∈ (mirror arr4 lo (lo + n2) ((lo + n2 - lo) / 2)).toList,M x:=fun x hx=>m x (k5.perm.mem_iff.mp hx)
      have z5:=k5.size
      show wpS _ _ _ _ _ _ (SortSt.mk' κ (mirror arr4 lo (lo + n2) ((lo + n2 - lo) / 2)) pd mg none)
      generalize mirror arr4 lo (lo + n2) ((lo + n2 - lo) / 2)=arr5 at k5 s5 m5 z5
      refine wpS_bind (asc_loop (arr:=arr5) (lo:=lo) ?_ (by omega) (by omega) s5 fun n3 hn31 hn32 hs3 _=>wpS_pure (h arr5 n3 (by omega) hn32 k5 hs3))
      intro x n R hn hnn r1 r2
      dsimp only
      refine wpS_bind (ltAt_ok hA m5 (by omega) (by omega) ?_)
      by_cases hlt:Kv rk arr5 (lo + n) < Kv rk arr5 (lo + n - 1)
      · rw [decide_eq_true hlt];exact wpS_pure (r1 hlt)
      · rw [decide_eq_false hlt];exact wpS_pure (r2 hlt)
    · rw [if_neg hq]
      have k4:=k2
      have d4:=d2
      generalize arr2=arr4 at k4 d4
      refine wpS_bind (wpS_modify ?_)
      have k5:Kpt lo arr (mirror arr4 lo (lo + n2) ((lo + n2 - lo) / 2)):=k4.trans (Kpt.mirror (Nat.le_refl _) (by rw [k4.size];omega))
      have s5:Srt rk (mirror arr4 lo (lo + n2) ((lo + n2 - lo) / 2)) lo n2:=fun i j hi hij hj=>by
        rw [Kv.mirror (by rw [k4.size];omega),Kv.mirror (by rw [k4.size];omega),if_pos (by omega),if_pos (by omega)]
        exact d4 _ _ (by omega) (by omega) (by omega)
      have m5:∀ x ∈ (mirror arr4 lo (lo + n2) ((lo + n2 - lo) / 2)).toList,M x:=fun x hx=>m x (k5.perm.mem_iff.mp hx)
      have z5:=k5.size
      show wpS _ _ _ _ _ _ (SortSt.mk' κ (mirror arr4 lo (lo + n2) ((lo + n2 - lo) / 2)) pd mg none)
      generalize mirror arr4 lo (lo + n2) ((lo + n2 - lo) / 2)=arr5 at k5 s5 m5 z5
      refine wpS_bind (asc_loop (arr:=arr5) (lo:=lo) ?_ (by omega) (by omega) s5 fun n3 hn31 hn32 hs3 _=>wpS_pure (h arr5 n3 (by omega) hn32 k5 hs3))
      intro x n R hn hnn r1 r2
      dsimp only
      refine wpS_bind (ltAt_ok hA m5 (by omega) (by omega) ?_)
      by_cases hlt:Kv rk arr5 (lo + n) < Kv rk arr5 (lo + n - 1)
      · rw [decide_eq_true hlt];exact wpS_pure (r1 hlt)
      · rw [decide_eq_false hlt];exact wpS_pure (r2 hlt)
end
end So
namespace So
open PySem PyProof.Rows
theorem Kpt.bubble {lo src d:Nat} {a:Array Keyed} (hs:src < a.size) (hd:lo + d <= src):Kpt lo a (bubble a src d) :=
  ⟨Array.perm_iff_toList_perm.mp (bubble_perm a src d),fun k hk=>by rw [getElem?_bubble hs d (by omega),if_neg (by omega),if_neg (by omega)]⟩
theorem Kv.bubble {rk:Keyed->Int} {a:Array Keyed} {src d:Nat} (hs:src < a.size) (hd:d <= src) (k:Nat):Kv rk (bubble a src d) k=if k=src - d then Kv rk a src else if src - d < k/\k <= src then Kv rk a (k - 1) else Kv rk a k:=by
  have e:=getElem?_bubble hs d hd k
  by_cases h1:k=src - d
  · rw [if_pos h1] at e ⊢;exact Kv.congr e
  · rw [if_neg h1] at e ⊢
    by_cases h2:src - d < k/\k <= src
    · rw [if_pos h2] at e ⊢;exact Kv.congr e
    · rw [if_neg h2] at e ⊢;exact Kv.congr e
section
variable {prog:Program} {w:World} {A:Around} {E:Value->Shared->Prop} {s:Shared} {rk:Keyed->Int} {M:Keyed->Prop} {κ:SortKind} {pd:Array (Nat × Nat × Nat)} {mg:Nat}
theorem binarySort_ok {arr:Array Keyed} {lo n ok:Nat} {Q:Bool->SortSt->Prop} (hA:Ask prog w A s rk M κ) (m:∀ x ∈ arr.toList,M x) (h1:1 <= ok) (h2:ok <= n) (hN:lo + n <= arr.size) (hs:Srt rk arr lo ok)
    (h:∀ (arr':Array Keyed),Kpt lo arr arr'->Srt rk arr' lo n->Q true (SortSt.mk' κ arr' pd mg none)):wpS (model prog w) A E s (binarySort' lo n ok) Q (SortSt.mk' κ arr pd mg none):=by
  refine wpS_bind (wpS_mono (wpS_forRange (I:=fun k c st'=>c=(none,())/\∃ arr2,st'=SortSt.mk' κ arr2 pd mg none/\Kpt lo arr arr2/\Srt rk arr2 lo k) (Q:=fun c st'=>c=(none,())/\∃ arr2,st'=SortSt.mk' κ arr2 pd mg none/\Kpt lo arr arr2/\Srt rk arr2 lo n) ?_ ?_ ⟨rfl,arr,rfl,Kpt.refl lo arr,by rw [Nat.max_eq_left h1];exact hs⟩) ?_)
  · rintro k c st' hk1 hk2 ⟨rfl,arr2,rfl,k2,s2⟩
    have z2:=k2.size
    have m2:∀ x ∈ arr2.toList,M x:=fun x hx=>m x (k2.perm.mem_iff.mp hx)
    rw [Nat.max_eq_left h1] at hk1
    dsimp only
    refine wpS_bind (wpS_mono (wpS_forRange (I:=fun x c st'=>st'=SortSt.mk' κ arr2 pd mg none/\∃ l r,c=(none,l,r)/\l <= r/\r <= k/\r - l <= k - x/\(∀ i,i < l->Kv rk arr2 (lo + i) <= Kv rk arr2 (lo + k))/\(∀ i,r <= i->i < k->Kv rk arr2 (lo + k) <= Kv rk arr2 (lo + i)))
      (Q:=fun c st'=>st'=SortSt.mk' κ arr2 pd mg none/\∃ l,c=(none,l,l)/\l <= k/\(∀ i,i < l->Kv rk arr2 (lo + i) <= Kv rk arr2 (lo + k))/\(∀ i,l <= i->i < k->Kv rk arr2 (lo + k) <= Kv rk arr2 (lo + i))) ?_ ?_ ⟨rfl,0,k,rfl,Nat.zero_le _,Nat.le_refl _,by omega,fun i hi=>by omega,fun i hi hi2=>by omega⟩) ?_)
    · rintro x c st' _ hx ⟨rfl,l,r,rfl,a1,a2,a3,a4,a5⟩
      dsimp only
      by_cases hge:l ≥ r
      · rw [if_pos hge]
        have e:l=r:=by omega
        subst e
        exact wpS_pure ⟨rfl,l,rfl,a2,a4,a5⟩
      rw [if_neg hge]
      refine wpS_bind (ltAt_ok hA m2 (by omega) (by omega) ?_)
      by_cases hlt:Kv rk arr2 (lo + k) < Kv rk arr2 (lo + (l + r) / 2)
      · rw [decide_eq_true hlt]
        refine wpS_pure ⟨rfl,l,(l + r) / 2,rfl,by omega,by omega,by omega,a4,fun i hi hi2=>?_⟩
        exact Int.le_trans (Int.le_of_lt hlt) (s2 _ _ (by omega) (by omega) (by omega))
      · rw [decide_eq_false hlt]
        refine wpS_pure ⟨rfl,(l + r) / 2 + 1,r,rfl,by omega,a2,by omega,fun i hi=>?_,a5⟩
        exact Int.le_trans (s2 _ (lo + (l + r) / 2) (by omega) (by omega) (by omega)) (Int.not_lt.mp hlt)
    · rintro c st' ⟨rfl,l,r,rfl,a1,a2,a3,a4,a5⟩
      have e:l=r:=by omega
      subst e
      exact ⟨rfl,l,rfl,a2,a4,a5⟩
    · rintro c st' ⟨rfl,l,rfl,a2,a4,a5⟩
      dsimp only
      refine wpS_bind (wpS_modify (wpS_pure ⟨rfl,_,rfl,k2.trans (Kpt.bubble (src:=lo + k) (d:=lo + k - (lo + l)) (by omega) (by omega)),?_⟩))
      intro i j hi hij hj
      show Kv rk (bubble arr2 (lo + k) (lo + k - (lo + l))) i <= Kv rk (bubble arr2 (lo + k) (lo + k - (lo + l))) j
      rw [Kv.bubble (by omega) (by omega),Kv.bubble (by omega) (by omega),show lo + k - (lo + k - (lo + l))=lo + l by omega]
      by_cases c1:i=lo + l
      · rw [if_pos c1]
        by_cases c2:j=lo + l
        · rw [if_pos c2];exact Int.le_refl _
        · rw [if_neg c2,if_pos (by omega)]
          have:=a5 (j - 1 - lo) (by omega) (by omega)
          rw [show lo + (j - 1 - lo)=j - 1 by omega] at this
          exact this
      · rw [if_neg c1]
        by_cases c3:lo + l < i/\i <= lo + k
        · rw [if_pos c3,if_neg (by omega),if_pos (by omega)]
          exact s2 _ _ (by omega) (by omega) (by omega)
        · rw [if_neg c3]
          by_cases c2:j=lo + l
          · rw [if_pos c2]
            have:=a4 (i - lo) (by omega)
            rw [show lo + (i - lo)=i by omega] at this
            exact this
          · rw [if_neg c2]
            by_cases c4:lo + l < j/\j <= lo + k
            · rw [if_pos c4]
              exact s2 _ _ hi (by omega) (by omega)
            · rw [if_neg c4]
              exact s2 _ _ hi hij (by omega)
  · rintro c st' ⟨rfl,arr2,rfl,k2,s2⟩
    rw [show max (max ok 1) n=n by omega] at s2
    exact ⟨rfl,arr2,rfl,k2,s2⟩
  · rintro c st' ⟨rfl,arr2,rfl,k2,s2⟩
    exact wpS_pure (h arr2 k2 s2)
end
end So
namespace So
open PySem PyProof.Rows
theorem srt_up {rk:Keyed->Int} {arr:Array Keyed} {lo n:Nat} (h:Srt rk arr lo n) (hN:lo + n <= arr.size):Up rk ((arr.toList.drop lo).take n):=by
  refine List.pairwise_iff_getElem.mpr fun i j hi hj hij=>?_
  have hj':j < n:=by rw [List.length_take] at hj;omega
  have e:∀ k (hk:k < ((arr.toList.drop lo).take n).length),rk (((arr.toList.drop lo).take n)[k])=Kv rk arr (lo + k):=fun k hk=>by
    have hk':k < n:=by rw [List.length_take] at hk;omega
    have e1:((arr.toList.drop lo).take n)[k]?=arr[lo + k]?:=by rw [List.getElem?_take,if_pos hk',List.getElem?_drop];simp
    unfold Kv
    rw [<- e1,List.getElem?_eq_getElem hk];rfl
  rw [e i hi,e j hj]
  exact h _ _ (by omega) (by omega) (by omega)
section
variable {prog:Program} {w:World} {A:Around} {E:Value->Shared->Prop} {s:Shared} {rk:Keyed->Int} {M:Keyed->Prop} {κ:SortKind}
end
end So
namespace So
open PySem PyProof.Rows PySem.Spec L2
section
variable {prog:Program} {w:World} {A:Around} {E:Value->Shared->Prop} {s:Shared} {rk:Keyed->Int} {M:Keyed->Prop} {κ:SortKind}
theorem sortRuns_small {arr:Array Keyed} {Q:Unit->SortSt->Prop} (hA:Ask prog w A s rk M κ) (m:∀ x ∈ arr.toList,M x) (h2:2 <= arr.size) (h64:arr.size < 64)
    (h:∀ st',(arrOf st').toList.Perm arr.toList->failedOf st'=none->Up rk (arrOf st').toList->Q () st'):wpS (model prog w) A E s sortRuns' Q (SortSt.mk' κ arr #[] 7 none):=by
  rw [sortRuns'_eq]
  refine wpS_bind (wpS_get ?_)
  dsimp only
  obtain ⟨N,eN⟩:∃ N,N=arr.size:=⟨_,rfl⟩
  have hmr:minRun' N N 0=N:=by
    obtain ⟨f,hf⟩:∃ f,N=f + 1:=⟨N - 1,by omega⟩
    have:minRun' (f + 1) N 0=N:=by rw [minRun'_succ,if_pos (by omega)];rfl
    rw [<- hf] at this
    exact this
  simp only [<- eN,hmr]
  refine wpS_bind (wpS_mono (wpS_forRange
    (I:=fun x c st'=>(x=0/\c=(none,0)/\st'=SortSt.mk' κ arr #[] 7 none) ∨ (1 <= x/\∃ arr2,c=(none,N)/\st'=SortSt.mk' κ arr2 #[(0,N,0)] 7 none/\Kpt 0 arr arr2/\Srt rk arr2 0 N))
    (Q:=fun c st'=>c.1=none/\∃ arr2,st'=SortSt.mk' κ arr2 #[(0,N,0)] 7 none/\Kpt 0 arr arr2/\Srt rk arr2 0 N) ?_ ?_ (.inl ⟨rfl,rfl,rfl⟩)) ?_)
  · rintro x c st' _ hx (⟨rfl,rfl,rfl⟩ | ⟨hx1,arr2,rfl,rfl,k2,s2⟩)
    · dsimp only
      rw [if_neg (by omega)]
      simp only [Nat.sub_zero,Nat.zero_add,Nat.min_self]
      refine wpS_bind (countRun_ok hA m (by omega) (by omega) fun arr2 n hn1 hn2 k2 s2=>?_)
      have m2:∀ x ∈ arr2.toList,M x:=fun x hx=>m x (k2.perm.mem_iff.mp hx)
      have z2:=k2.size
      dsimp only
      by_cases hlt:n < N
      · rw [if_pos hlt]
        refine wpS_bind (wpS_lift (wpAny_rule ⟨rfl,?_⟩))
        refine wpS_bind (binarySort_ok hA m2 hn1 (by omega) (by omega) s2 fun arr3 k3 s3=>?_)
        simp only [Bool.not_true,Bool.false_eq_true,if_false]
        refine wpS_bind (wpS_get ?_)
        have hb:(pendingOf (SortSt.mk' κ arr3 #[] 7 none)).back?=none:=rfl
        rw [hb]
        dsimp only
        exact wpS_bind (wpS_modify (wpS_pure (.inr ⟨by omega,arr3,rfl,rfl,k2.trans k3,s3⟩)))
      · rw [if_neg hlt]
        have e:n=N:=by omega
        subst e
        refine wpS_bind (wpS_get ?_)
        have hb:(pendingOf (SortSt.mk' κ arr2 #[] 7 none)).back?=none:=rfl
        rw [hb]
        dsimp only
        exact wpS_bind (wpS_modify (wpS_pure (.inr ⟨by omega,arr2,rfl,rfl,k2,s2⟩)))
    · dsimp only
      rw [if_pos (Nat.le_refl _)]
      exact wpS_pure ⟨rfl,arr2,rfl,k2,s2⟩
  · rintro c st' (⟨hx,rfl,rfl⟩ | ⟨hx1,arr2,rfl,rfl,k2,s2⟩)
    · omega
    · exact ⟨rfl,arr2,rfl,k2,s2⟩
  · rintro ⟨c1,c2⟩ st' ⟨hc,arr2,rfl,k2,s2⟩
    dsimp only at hc
    subst hc
    dsimp only
    refine wpS_bind (wpS_mono (wpS_forRange (I:=fun _ c st'=>c=(none,())/\st'=SortSt.mk' κ arr2 #[(0,N,0)] 7 none) (Q:=fun c st'=>c=(none,())/\st'=SortSt.mk' κ arr2 #[(0,N,0)] 7 none) ?_ (fun _ _ z=>z) ⟨rfl,rfl⟩) ?_)
    · rintro x c st' _ _ ⟨rfl,rfl⟩
      refine wpS_bind (wpS_get ?_)
      rw [if_pos (by show (1:Nat) <= 1;exact Nat.le_refl 1)]
      exact wpS_pure ⟨rfl,rfl⟩
    · rintro c st' ⟨rfl,rfl⟩
      have z2:=k2.size
      refine wpS_pure (h _ k2.perm rfl ?_)
      have:=srt_up s2 (by omega)
      rw [List.drop_zero,List.take_of_length_le (by rw [Array.length_toList];omega)] at this
      exact this
end
end So
namespace L2
open PySem PySem.Spec PyProof.Rows HT
theorem lex_irr:∀ a:List Int,lexLt a a=false
  | []=>rfl
  | x :: a=>by rw [lexLt_cons,if_pos rfl];exact lex_irr a
theorem lex_tri:∀ {a b:List Int},lexLt a b=false->lexLt b a=false->a=b
  | [],[],_,_=>rfl
  | [],_ :: _,h,_=>by rw [lexLt_nil_cons] at h;cases h
  | _ :: _,[],_,h=>by rw [lexLt_nil_cons] at h;cases h
  | x :: a,y :: b,h,k=>by
    rw [lexLt_cons] at h k
    by_cases e:x=y
    · rw [if_pos e] at h
      rw [if_pos e.symm] at k
      rw [e,lex_tri h k]
    · rw [if_neg e,decide_eq_false_iff_not] at h
      rw [if_neg fun z=>e z.symm,decide_eq_false_iff_not] at k
      omega
theorem lex_trans:∀ {a b c:List Int},lexLt a b=true->lexLt b c=true->lexLt a c=true
  | [],[],[],h,_=>by cases h
  | [],_ :: _,[],_,k=>by rw [lexLt_cons_nil] at k;cases k
  | [],_,_ :: _,_,_=>rfl
  | x :: a,[],_,h,_=>by rw [lexLt_cons_nil] at h;cases h
  | x :: a,y :: b,[],_,k=>by rw [lexLt_cons_nil] at k;cases k
  | x :: a,y :: b,z :: c,h,k=>by
    rw [lexLt_cons] at h k ⊢
    by_cases e1:x=y
    · rw [if_pos e1] at h
      by_cases e2:y=z
      · rw [if_pos e2] at k
        rw [if_pos (e1.trans e2)]
        exact lex_trans h k
      · rw [if_neg e2,decide_eq_true_iff] at k
        rw [if_neg (by omega),decide_eq_true_iff];omega
    · rw [if_neg e1,decide_eq_true_iff] at h
      by_cases e2:y=z
      · rw [if_neg (by omega),decide_eq_true_iff];omega
      · rw [if_neg e2,decide_eq_true_iff] at k
        rw [if_neg (by omega),decide_eq_true_iff];omega
section
variable {prog:Program} {w:World} {A:Around} {E:Value->Shared->Prop} {s:Shared}
def IntsAt (h:Heap) (v:Value) (ns:List Int):Prop:=∃ (a:Addr) (us:List Value),v=.ref a/\IsTup h a us.toArray/\IntsAre us ns
theorem ints_at:∀ {us:List Value} {ns:List Int} {j:Nat} {v:Value},IntsAre us ns->us[j]?=some v->∃ t,v=Value.int (ns.getD j 0) t
  | _,_,0,v,.cons _ _ _,e=>by cases e;exact ⟨_,rfl⟩
  | _,_,j + 1,v,.cons _ _ t,e=>by
    obtain ⟨t',h⟩:=ints_at (j:=j) t (by simpa using e)
    exact ⟨t',by rw [h];rfl⟩
theorem ints_ln:∀ {us:List Value} {ns:List Int},IntsAre us ns->us.length=ns.length
  | _,_,.nil=>rfl
  | _,_,.cons _ _ t=>by rw [List.length_cons,List.length_cons,ints_ln t]
theorem ints_fn:∀ {us:List Value} {ns ms:List Int},IntsAre us ns->IntsAre us ms->ns=ms
  | _,_,_,.nil,.nil=>rfl
  | _,_,_,.cons _ _ t,.cons _ _ u=>by rw [ints_fn t u]
theorem IntsAt.eq {p q:Value} {ns ms:List Int} (h1:IntsAt s.heap p ns) (h2:IntsAt s.heap q ms) (hu:A.units < cLine) (hne:ns ≠ ms):SeqAt.EqAt A s p q false:=by
  obtain ⟨a,us,rfl,⟨oa,ha,hca,na,hda⟩,i1⟩:=h1
  obtain ⟨b,vs,rfl,⟨ob,hb,hcb,nb,hdb⟩,i2⟩:=h2
  have l1:=ints_ln i1
  have l2:=ints_ln i2
  by_cases hab:a=b
  · subst hab
    rw [ha] at hb
    cases hb
    rw [hda] at hdb
    injection hdb with e1 _
    have e2:us=vs:=by simpa using e1
    subst e2
    exact absurd (ints_fn i1 i2) hne
  · have:=SeqAt.EqAt.of_refs hab (SeqAt.RcAt.tuples (A:=A) (e:=fun j=>decide (ns.getD j 0=ms.getD j 0)) ⟨oa,ha,hca,na,hda⟩ ⟨ob,hb,hcb,nb,hdb⟩ hu fun j h1 h2=>by
      have h1':j < us.length:=by simpa using h1
      have h2':j < vs.length:=by simpa using h2
      obtain ⟨t,ex⟩:=ints_at i1 (List.getElem?_eq_getElem h1')
      obtain ⟨u,ey⟩:=ints_at i2 (List.getElem?_eq_getElem h2')
      have e1:us.toArray[j]=.int (ns.getD j 0) t:=by rw [List.getElem_toArray];exact ex
      have e2:vs.toArray[j]=.int (ms.getD j 0) u:=by rw [List.getElem_toArray];exact ey
      rw [e1,e2]
      have e3:decide (ns.getD j 0=ms.getD j 0)=(ns.getD j 0 == ms.getD j 0):=by rw [Bool.eq_iff_iff];simp
      rw [e3]
      exact SeqAt.EqAt.int_int _ t _ u)
    have e:((List.range (min us.toArray.size vs.toArray.size)).all (fun j=>decide (ns.getD j 0=ms.getD j 0)) && us.toArray.size == vs.toArray.size)=false:=by
      rw [Bool.eq_false_iff]
      intro z
      rw [Bool.and_eq_true,List.all_eq_true,beq_iff_eq,List.size_toArray,List.size_toArray] at z
      refine hne (List.ext_getElem (by omega) fun i h1 h2=>?_)
      have:=of_decide_eq_true (z.1 i (List.mem_range.mpr (by omega)))
      rw [List.getD_eq_getElem?_getD,List.getD_eq_getElem?_getD,List.getElem?_eq_getElem h1,List.getElem?_eq_getElem h2] at this
      exact this
    rw [e] at this
    exact this
theorem IntsAt.lt {p q:Value} {ns ms:List Int} (h1:IntsAt s.heap p ns) (h2:IntsAt s.heap q ms) (hu:A.units < cLine) {Q:Value->Shared->Prop} (hq:Q (.bool (lexLt ns ms)) s):wpAny (model prog w) A (compareOp .Lt p q) Q E s:=by
  obtain ⟨a,us,rfl,ta,i1⟩:=h1
  obtain ⟨b,vs,rfl,tb,i2⟩:=h2
  exact HT.lt_tupInts ta tb i1 i2 hu hq
end
end L2
namespace L2
open PySem PySem.Spec PyProof.Rows HT
def kz (k:List Key):List Int:=k.map fun z=>match z with | .inl i=>i | .inr _=>0
theorem kz_ints (ns:List Int):kz (ns.map Sum.inl)=ns:=by
  unfold kz
  rw [List.map_map]
  exact List.map_id _
section
variable {X:Cx} {H:Hp}
theorem intsAt_of {P:Program} {w:World} {h:Heap} {q:Addr} {ms:List Int} (ok:HOk P w H h) (e:H q=some (.tup (ms.map V.int))):IntsAt h (.ref q) ms:=by
  obtain ⟨_,its,r,t⟩:=(show ObjOk P w H h q (.tup (ms.map V.int)) from ok q _ e)
  exact ⟨q,its,rfl,t,intsAre_of r⟩
theorem IntsAt.keep {h h':Heap} {v:Value} {ns:List Int} (x:IntsAt h v ns) (k:∀ a o,v=.ref a->h.get? a=some o->h'.get? a=some o):IntsAt h' v ns:=by
  obtain ⟨a,us,e,⟨o,ho,r⟩,i⟩:=x
  exact ⟨a,us,e,⟨o,k a o e ho,r⟩,i⟩
end
end L2
namespace L2
open PySem PySem.Spec PyProof.Rows HT
section
variable {X:Cx} {H:Hp}
theorem refs_vals:∀ {as:List Addr} {its:List Value},Vals (as.map V.ref) its->its=as.map Value.ref
  | [],its,r=>by cases r;rfl
  | a :: as,its,r=>by
    cases r with
    | cons r1 rr =>
      cases r1
      rw [refs_vals rr];rfl
theorem prl_refs {H:Hp}:∀ {kvs:List (List Key × V)} {ys:List V},PrL H kvs ys->∃ as:List Addr,ys=as.map V.ref
  | [],[],_=>⟨[],rfl⟩
  | (k,x) :: kvs,y :: ys,h=>by
    obtain ⟨p,ka,e,_⟩:=h.1
    obtain ⟨as,e2⟩:=prl_refs h.2
    exact ⟨p :: as,by rw [e,e2];rfl⟩
  | [],_ :: _,h=>h.elim
  | _ :: _,[],h=>h.elim
end
end L2
namespace L2
open PySem PySem.Spec PyProof.Rows
section
variable {K:PySem.W.Frag} {σ0:St} {te:TE} {H:Hp} {F:List V->Hp->Prop}
end
end L2
namespace L2
open PySem PySem.Spec PyProof.Rows
section
variable {prog:Program} {w:World} {A:Around} {E:Value->Shared->Prop} {s:Shared}
structure ZipTL (h:Heap) (z TI TO i1 i2 t1 t2:Addr) (k:Nat):Prop where
  zz:IsZip h z TI TO .none
  ti:IsPair h TI (.ref i1) (.ref i2)
  tO:∃ a b,IsPair h TO a b
  it1:h.IsTupleIter i1 t1 k
  it2:h.IsListIter i2 t2 k
end
section
variable {X:Cx} {pins:List (Addr × Obj)} {σ:St} {H:Hp} {s:Shared}
end
section
variable {X:Cx} {K:PySem.W.Frag}
end
section
variable {X:Cx} {K:PySem.W.Frag}
end
section
variable {prog:Program} {w:World} {A:Around} {E:Value->Shared->Prop} {s:Shared}
structure ZipLM (h:Heap) (z TI TO i1 i2 t1 t2:Addr) (k:Nat):Prop where
  zz:IsZip h z TI TO .none
  ti:IsPair h TI (.ref i1) (.ref i2)
  tO:∃ a b,IsPair h TO a b
  it1:h.IsListIter i1 t1 k
  it2:h.IsListIter i2 t2 k
end
section
variable {X:Cx} {pins:List (Addr × Obj)} {σ:St} {H:Hp} {s:Shared}
end
section
variable {X:Cx} {K:PySem.W.Frag}
end
end L2
namespace L2
open PySem PySem.Spec PyProof.Rows
section
variable {prog:Program} {w:World} {A:Around} {E:Value->Shared->Prop} {s:Shared}
end
section
variable {X:Cx} {pins:List (Addr × Obj)} {σ:St} {H:Hp} {s:Shared}
end
end L2
namespace L2
open PySem PySem.Spec PyProof.Rows
section
variable {prog:Program} {w:World} {A:Around} {E:Value->Shared->Prop} {s:Shared}
end
section
variable {X:Cx} {pins:List (Addr × Obj)} {σ:St} {H:Hp} {s:Shared}
end
section
variable {X:Cx}
open Classical in
end
end L2
namespace So
open PySem PyProof.Rows PySem.Spec L2
section
variable {prog:Program} {w:World} {A:Around} {E:Value->Shared->Prop} {s:Shared} {rk:Keyed->Int} {M:Keyed->Prop} {κ:SortKind}
theorem sort_raw64 {rv:Value->Int} {B:Addr} {vs:List Value} {c:Nat} {P:PySem.Fin->Shared->Prop} (hB:s.heap.get? B=some (seqObj "list" vs.toArray c)) (h64:vs.length < 64)
    (hk:2 <= vs.length->∀ h1,(∀ b o,b ≠ B->s.heap.get? b=some o->h1.get? b=some o) ->
      wpAny (model prog w) A (keyKind' vs.toArray) (fun κ s'=>s'={ s with heap:=h1 }/\Ask prog w A { s with heap:=h1 } (fun x=>rv x.1) (fun x=>x.1 ∈ vs) κ) (fun _ _=>False) { s with heap:=h1 })
    (hP:∀ h' vs' c',vs'.Perm vs->vs'.Pairwise (fun x y=>rv x <= rv y)->(∀ b o,b ≠ B->s.heap.get? b=some o->h'.get? b=some o)->h'.get? B=some (seqObj "list" (List.toArray vs') c')->P (.done (.ret .none)) { s with heap:=h' }):wpAny (model prog w) A (Builtin.«list.sort» ⟨[.ref B],[]⟩) P E s:=by
  obtain ⟨e1,hB1⟩:∃ e1,(s.heap.update B (Obj.mapSeq fun _=>(#[]:Array Value))).get? B=some (seqObj "list" #[] e1):=⟨_,get?_update_seq hB fun _=>#[]⟩
  have b1:=Heap.SameBut.update s.heap B (Obj.mapSeq fun _=>(#[]:Array Value))
  obtain ⟨h3,eh3⟩:∃ h3,h3=((s.heap.update B (Obj.mapSeq fun _=>(#[]:Array Value))).push (seqObj "tuple" vs.toArray 0)).push (seqObj "list" #[] 0):=⟨_,rfl⟩
  have hB3:h3.get? B=some (seqObj "list" #[] e1):=by rw [eh3];exact Heap.get?_push_of_some _ (Heap.get?_push_of_some _ hB1)
  have k3:∀ b o,b ≠ B->s.heap.get? b=some o->h3.get? b=some o:=fun b o hb q=>by rw [eh3];exact Heap.get?_push_of_some _ (Heap.get?_push_of_some _ (b1.extBut b o hb q))
  rw [list_sort_plain]
  refine wpAny_bind (listItems_at hB rfl (wpAny_bind (listUpdate_at hB rfl ?_ (by rw [List.size_toArray,sizeLine_eq];omega) (Nat.zero_le _))))
  refine wpAny_bind (seqEpoch_at hB1 rfl (wpAny_bind (wpAny_newTuple ?_ (by show vs.length <= _;rw [sizeLine_eq];omega))))
  refine wpAny_bind (wpAny_newList (wpAny_holding ?_) (Nat.zero_le _))
  show wpAny (model prog w) A _ P E { s with heap:=((s.heap.update B (Obj.mapSeq fun _=>(#[]:Array Value))).push (seqObj "tuple" vs.toArray 0)).push (seqObj "list" #[] 0) }
  rw [<- eh3]
  dsimp only
  have fin:∀ (st:SortSt) (out:List Value),(arrOf st).map (·.2)=List.toArray out->out.length=vs.length->failedOf st=none->out.Perm vs->out.Pairwise (fun x y=>rv x <= rv y) ->
      wpAny (model prog w) A (do
        let sorted:=(arrOf st).map (·.2)
        let touched:=(<- seqEpoch B) != e1
        Builtin.List.listUpdate (.ref B) fun _=>sorted
        if let some e:=failedOf st then rule "list.sort.comparison-raised";throw e
        if touched then rule "list.sort.modified";raiseError "ValueError" "list modified during sort"
        ret .none) P E { s with heap:=h3 }:=fun st out ho hl hf hp hu=>by
    rw [ho]
    have sz:(List.toArray out).size <= sizeLine:=by rw [List.size_toArray,hl,sizeLine_eq];omega
    obtain ⟨c2,hc2⟩:∃ c2,(h3.update B (Obj.mapSeq fun _=>List.toArray out)).get? B=some (seqObj "list" (List.toArray out) c2):=⟨_,get?_update_seq hB3 fun _=>List.toArray out⟩
    refine wpAny_bind (seqEpoch_at hB3 rfl (wpAny_bind (listUpdate_at hB3 rfl ?_ (Nat.zero_le _) (Nat.le_trans sz (Nat.le_succ _)))))
    rw [hf]
    simp only [bne_self_eq_false,Bool.false_eq_true,if_false]
    exact wpAny_pure (hP _ out c2 hp hu (fun b o hb q=>(Heap.SameBut.update h3 B _).extBut b o hb (k3 b o hb q)) hc2)
  by_cases h2:2 <= vs.length
  · have hn2:¬ vs.toArray.size < 2:=by rw [List.size_toArray];omega
    rw [if_neg hn2,if_neg hn2]
    refine wpAny_bind (wpAny_mono (hk h2 h3 k3) (fun κ s0 hh=>?_) fun _ _ x=>x.elim)
    obtain ⟨rfl,ask⟩:=hh
    have ez:(vs.toArray.zip vs.toArray).toList=vs.map fun v=>(v,v):=by
      rw [Array.toList_zip]
      show vs.zip vs=_
      clear hk hP hB h64 h2 hn2 ask fin hB1 b1 eh3 hB3 k3
      induction vs with
      | nil=>rfl
      | cons v vs ih=>rw [List.zip_cons_cons,ih];rfl
    refine wpAny_bind (wpAny_mono (sortRuns_small (rk:=fun x=>rv x.1) (M:=fun x=>x.1 ∈ vs) (s:={ s with heap:=h3 }) (Q:=fun _ st'=>(arrOf st').toList.Perm (vs.map fun v=>(v,v))/\failedOf st'=none/\Up (fun x=>rv x.1) (arrOf st').toList) ask (fun x hx=>?_) ?_ ?_ (fun st' a1 a2 a3=>⟨by rw [ez] at a1;exact a1,a2,a3⟩)) ?_ fun _ _ e=>e)
    · rw [ez] at hx
      obtain ⟨v,hv,rfl⟩:=List.mem_map.mp hx
      exact hv
    · have:=congrArg List.length ez
      simp at this ⊢
      omega
    · have:=congrArg List.length ez
      simp at this ⊢
      omega
    rintro ⟨⟨⟩,st'⟩ s' ⟨rfl,hp,hf,hu⟩
    dsimp only at hp hf hu ⊢
    have twin:∀ x ∈ (arrOf st').toList,x.1=x.2:=fun x hx=>by
      obtain ⟨v,_,rfl⟩:=List.mem_map.mp (hp.mem_iff.mp hx)
      rfl
    have hp2:((arrOf st').toList.map (·.2)).Perm vs:=by
      have:=hp.map (·.2)
      rw [List.map_map] at this
      have e:vs.map ((fun x:Keyed=>x.2) ∘ fun v=>(v,v))=vs:=by
        have:((fun x:Keyed=>x.2) ∘ fun v=>(v,v))=id:=rfl
        rw [this,List.map_id]
      rw [e] at this
      exact this
    refine fin st' ((arrOf st').toList.map (·.2)) ?_ hp2.length_eq hf hp2 ?_
    · apply Array.toList_inj.mp
      simp
    · rw [List.pairwise_map]
      refine List.Pairwise.imp_of_mem ?_ hu
      intro x y hx hy hxy
      rw [<- twin x hx,<- twin y hy]
      exact hxy
  · have hn2:vs.toArray.size < 2:=by rw [List.size_toArray];omega
    rw [if_pos hn2,if_pos hn2]
    refine wpAny_bind (wpAny_pure (wpAny_bind ?_))
    rw [StateT.run_pure]
    refine wpAny_pure ?_
    refine fin _ vs (by
      show ((vs.toArray.zip vs.toArray).map (·.2))=vs.toArray
      apply Array.toList_inj.mp
      simp [List.map_snd_zip]) rfl rfl (List.Perm.refl _) ?_
    match vs,h2 with
    | [],_=>exact List.Pairwise.nil
    | [v],_=>exact List.pairwise_singleton _ _
    | a :: b :: l,h2=>exact absurd (by simp:2 <= (a :: b :: l).length) h2
end
end So
namespace L2
open PySem PySem.Spec PyProof.Rows HT
section
variable {X:Cx} {H:Hp}
def rvI:Value->Int
  | .int i _=>i
  | _=>0
theorem ints_rv:∀ {ns:List Int} {its:List Value},Vals (ns.map V.int) its->its.map rvI=ns/\∀ v ∈ its,∃ i t,v=.int i t
  | [],its,r=>by
    cases r
    exact ⟨rfl,fun v h=>by cases h⟩
  | n :: ns,its,r=>by
    cases r with
    | cons r1 rr =>
      obtain ⟨t,rfl⟩:=r1
      obtain ⟨e,h⟩:=ints_rv rr
      refine ⟨by rw [List.map_cons,e];rfl,fun v hv=>?_⟩
      rcases List.mem_cons.mp hv with z | z
      · exact ⟨n,t,z⟩
      · exact h v z
theorem vals_rv:∀ {its:List Value},(∀ v ∈ its,∃ i t,v=Value.int i t)->Vals ((its.map rvI).map V.int) its
  | [],_=>.nil
  | v :: its,h=>by
    obtain ⟨i,t,e⟩:=h v List.mem_cons_self
    subst e
    exact .cons ⟨t,rfl⟩ (vals_rv fun v hv=>h v (List.mem_cons_of_mem _ hv))
end
end L2
namespace L2
open PySem PySem.Spec PyProof.Rows
section
variable {X:Cx}
open Classical in
end
end L2
namespace L2
open PySem PySem.Spec PyProof.Rows
section
variable {X:Cx}
end
end L2
namespace L2
open PySem PySem.Spec PyProof.Rows
section
variable {prog:Program} {w:World} {A:Around} {R:Result->Shared->Prop} {s:Shared}
end
section
variable {X:Cx} {pins:List (Addr × Obj)} {σ:St} {H H':Hp} {s s':Shared} {scope:Scope} {N:List Str} {ix:List (Option Nat)} {fp:List Addr}
end
section
variable {X:Cx} {scope:Scope} {N:List Str} {ix:List (Option Nat)} {kx vx target iter:Expr} {pos:Pos} {wi:TI} {g:TG} {tk tv:TE}
abbrev accD (s:Shared):Shared:={ s with heap:=s.heap.push { cls:=.type "dict",data:=.dict #[] } }
end
end L2
namespace L2
open PySem PySem.Spec PyProof.Rows
section
variable {X:Cx}
abbrev TJx:=St->Hp->(Str->Hp->Prop)->Prop
section
variable {es:List Expr} {n:Nat} {t:TJx}
end
end
end L2
namespace L2
open PySem PySem.Spec PyProof.Rows
theorem en_loop:entryFor table "dict.update.loop"=some Builtin.«dict.update.loop»:=by kernel_rfl
theorem ck_dnew (a:Value):checkBuiltinCall "dict.__new__" { pos:=[.type "dict",a] }=pure ():=by kernel_rfl
theorem dnew (a:Value):Builtin.«dict.__new__» ⟨[.type "dict",a],[]⟩=(do let o <- newObj (.type "dict") (.dict #[]);ret o):=by kernel_rfl
section
variable {prog:Program} {w:World} {A:Around} {E:Value->Shared->Prop} {s:Shared}
theorem lk_keys:typeLookup (Value.type "list") (Str.ofString "keys")=pure none:=by kernel_rfl
theorem lk_getattr:typeLookup (Value.type "list") (Str.ofString "__getattr__")=pure none:=by kernel_rfl
theorem ty_lga:typeOf (.builtin "list.__getattribute__")=pure (.type "wrapper_descriptor"):=by kernel_rfl
theorem attr_keys {p:Addr} {xs:Array Value} {k:Nat} {sl:Array (Option Value)} {Q:Option Value->Shared->Prop} (ho:s.heap.get? p=some { cls:=.type "list",data:=.seq xs k,slots:=sl }) (hh:A.handled=none)
    (h:∀ h' tk,(∀ b o,s.heap.get? b=some o->h'.get? b=some o)->Q none { s with heap:=h',toks:=tk }):wpAny (model prog w) A (getAttr? (.ref p) (Str.ofString "keys")) Q E s:=by
  have hT:s.TypeIs (.ref p) "list":=⟨_,ho,rfl⟩
  unfold getAttr?
  refine wpAny_bind (wpAny_mkText ?_)
  unfold getAttrBy?
  refine wpAny_bind (wpAny_attempt ?_)
  unfold getAttrBy
  refine wpAny_holding (wpAny_bind (wpAny_typeOf (T:="list") hT ?_))
  rw [list_getattribute]
  refine wpAny_bind (wpAny_pure ?_)
  dsimp only
  rw [if_neg (by decide)]
  unfold getAttrByItsOwn hookBefore
  rw [if_neg (by decide)]
  refine wpAny_bind (wpAny_pure (wpAny_bind (wpAny_attempt (wpAny_holding ?_))))
  unfold callGetattribute
  rw [if_neg (by decide)]
  unfold boundAndCalled bindSpecial
  rw [ty_lga]
  refine wpAny_bind (wpAny_bind (wpAny_pure ?_))
  rw [if_pos (by decide)]
  refine wpAny_pure ?_
  dsimp only
  show wpAny (model prog w) A (call (.builtin "list.__getattribute__") [.ref p,.str (Str.ofString "keys") s.toks]) _ _ _
  refine call_meets PySem.F.slot_list_getattribute (⟨_,ho,rfl⟩:Shared.TypeIs _ (.ref p) "list") am_entry_list_getattribute (PySem.F.args_list_getattribute_2 _ _)
    (meets_getattribute_miss_list p xs k sl (Str.ofString "keys") s.toks lk_keys (by decide +kernel) (by decide +kernel)) ⟨ho,hh,fun h' tk e hE=>?_⟩
  dsimp only at hE
  obtain ⟨t,u,he⟩:=hE.there
  show wpAny (model prog w) A (getattributeRaised (.ref p) (.str (Str.ofString "keys") s.toks) (.type "list") (.ref e) none false false) _ _ _
  unfold getattributeRaised
  refine wpAny_bind (wpAny_isInstance (T:="AttributeError") (b:=true) ⟨_,he,rfl⟩ sub_AttributeError ?_)
  rw [if_pos rfl]
  unfold hookBehind
  rw [if_neg (by decide),lk_getattr]
  refine wpAny_bind (wpAny_pure ?_)
  unfold hookOrError attributeErrorLeaves
  dsimp only
  rw [if_pos (show (!false)=true from rfl)]
  refine wpAny_bind (wpAny_throw ?_)
  refine wpAny_bind (wpAny_isInstance (T:="AttributeError") (b:=true) ⟨_,he,rfl⟩ sub_AttributeError ?_)
  rw [if_pos rfl]
  exact wpAny_pure (h h' tk hE.keeps)
end
end L2
namespace L2
open PySem PySem.Spec PyProof.Rows
theorem quiet_loop (args:Args):(Code.builtin "dict.update.loop" args).quiet=true:=by kernel_rfl
section
variable {X:Cx} {pins:List (Addr × Obj)} {σ:St} {H:Hp} {p d it:Addr} {rs:List Addr} {kvs:List (Key × V)} {A:Around} {R:Result->Shared->Prop}
end
end L2
namespace L2
open PySem PySem.Spec PyProof.Rows
section
variable {X:Cx} {pins:List (Addr × Obj)} {σ:St} {H:Hp} {s:Shared}
end
end L2
namespace L2
open PySem PySem.Spec PyProof.Rows
section
variable {X:Cx}
def rSlS:V->Option Int->Option Int->Hp->VK->Prop:=fun x lo hi H Q=>∃ a,x=.str a/\a.length <= sizeLine/\Q (.str (Txt.slice a lo hi)) H
end
end L2
namespace L2
open PySem PySem.Spec PyProof.Rows
end L2
namespace L2
open PySem PySem.Spec PyProof.Rows
section
variable {prog:Program} {w:World} {A:Around} {E:Value->Shared->Prop} {s:Shared}
end
section
variable {X:Cx} {pos:Pos}
end
end L2
namespace L2
open PySem PySem.Spec PyProof.Rows
end L2
namespace L2
open PySem PySem.Spec PyProof.Rows
section
variable {prog:Program} {w:World} {A:Around} {R:Result->Shared->Prop} {s:Shared} {elt t0 i0 t1 i1:Expr} {fs:List Expr} {scope:Scope} {pos:Pos} {it acc:Value} {env:Env}
abbrev Two (elt t0 i0 t1 i1:Expr) (fs:List Expr) (scope:Scope) (pos:Pos):Expr:=.ListComp elt [⟨t0,i0,[],0⟩,⟨t1,i1,fs,0⟩] scope pos
abbrev NoE:Value->Shared->Prop:=fun _ _=>False
theorem two_in (I:Nat->Shared->Prop)
    (turn:∀ n s,I n s->wpAny (model prog w) A (pyNext it) (fun r s1=>match r with
      | none=>R (.ok .next) s1
      | some v=>wpAny (model prog w) A (letOwnedTupleGo t1 it v) (fun _ s2=>wpAny (model prog w) A (assign t1 env v) (fun _ s3 =>
          wpAny (model prog w) A (forIn fs true fun c r=>if r=true then do let ok <- isTrue c env (eval c env);pure (ForInStep.yield ok) else pure (ForInStep.yield r)) (fun ok s4 =>
            if ok=true then wpAny (model prog w) A (eval elt env) (fun x s5=>wpAny (model prog w) A (call (.builtin "list.append") [acc,x]) (fun _ s6=>∃ m,m < n/\I m s6) NoE s5) NoE s4
            else ∃ m,m < n/\I m s4) NoE s3) NoE s2) NoE s1) NoE s)
    (n:Nat) (h:I n s):codeAny (model prog w) A (.compLoop (Two elt t0 i0 t1 i1 fs scope pos) 1 it acc env) R s:=by
  refine codeAny_loop rfl I (fun n s hI=>?_) n h
  show wpAny _ A ((compTurn (Two elt t0 i0 t1 i1 fs scope pos) 1 it acc env).onRaise (fun x=>do noteFrame x env;theTreesLotGoes x)) _ _ s
  refine wpAny_noted ?_
  have e:compTurn (Two elt t0 i0 t1 i1 fs scope pos) 1 it acc env=(do
      standAt i1.pos
      let r <- pyNext it
      match r with
      | none=>pure (.done .next)
      | some v =>
        letOwnedTupleGo t1 it v
        assign t1 env v
        let ok <- forIn fs true fun c r=>if r=true then do let ok <- isTrue c env (eval c env);pure (ForInStep.yield ok) else pure (ForInStep.yield r)
        if ok then
          (do let _ <- call (.builtin "list.append") [acc,<- eval elt env])
        again (.compLoop (Two elt t0 i0 t1 i1 fs scope pos) 1 it acc env)):=by rfl
  rw [e]
  refine wpAny_bind (wpAny_standAt (wpAny_bind (wpAny_mono (turn n s hI) (fun r s1 h1=>?_) fun _ _ h'=>h'.elim)))
  cases r with
  | none=>exact wpAny_pure h1
  | some v =>
    refine wpAny_bind (wpAny_mono h1 (fun _ s2 h2=>?_) fun _ _ h'=>h'.elim)
    refine wpAny_bind (wpAny_mono h2 (fun _ s3 h3=>wpAny_bind (wpAny_mono h3 (fun ok s4 h4=>?_) fun _ _ h'=>h'.elim)) fun _ _ h'=>h'.elim)
    cases ok with
    | false=>exact wpAny_pure ⟨rfl,h4⟩
    | true=>exact wpAny_bind (wpAny_bind (wpAny_mono h4 (fun x s5 h5=>wpAny_bind (wpAny_mono h5 (fun _ s6 h6=>wpAny_pure (wpAny_pure ⟨rfl,h6⟩)) fun _ _ h'=>h'.elim)) fun _ _ h'=>h'.elim))
theorem two_out (hs:∀ x,foldedSetIterable i1 env x=pure x) (I:Nat->Shared->Prop)
    (turn:∀ n s,I n s->wpAny (model prog w) A (pyNext it) (fun r s1=>match r with
      | none=>R (.ok .next) s1
      | some v=>wpAny (model prog w) A (letOwnedTupleGo t0 it v) (fun _ s2=>wpAny (model prog w) A (assign t0 env v) (fun _ s3 =>
          wpAny (model prog w) A (eval i1 env) (fun x s4=>wpAny (model prog w) A (pyIter x) (fun jt s5 =>
            codeAny (model prog w) A (.compStart (Two elt t0 i0 t1 i1 fs scope pos) 1 jt acc env) (fun r s6=>(∃ f,r=.ok f)/\∃ m,m < n/\I m s6) s5) NoE s4) NoE s3) NoE s2) NoE s1) NoE s)
    (n:Nat) (h:I n s):codeAny (model prog w) A (.compLoop (Two elt t0 i0 t1 i1 fs scope pos) 0 it acc env) R s:=by
  refine codeAny_loop rfl I (fun n s hI=>?_) n h
  show wpAny _ A ((compTurn (Two elt t0 i0 t1 i1 fs scope pos) 0 it acc env).onRaise (fun x=>do noteFrame x env;theTreesLotGoes x)) _ _ s
  refine wpAny_noted ?_
  have e:compTurn (Two elt t0 i0 t1 i1 fs scope pos) 0 it acc env=(do
      standAt i0.pos
      let r <- pyNext it
      match r with
      | none=>pure (.done .next)
      | some v =>
        letOwnedTupleGo t0 it v
        assign t0 env v
        let x <- eval i1 env
        standAt i1.pos
        let x <- foldedSetIterable i1 env x
        let _ <- runOwn (.compStart (Two elt t0 i0 t1 i1 fs scope pos) 1 (<- holding [x] (pyIter x)) acc env) env
        again (.compLoop (Two elt t0 i0 t1 i1 fs scope pos) 0 it acc env)):=by rfl
  rw [e]
  refine wpAny_bind (wpAny_standAt (wpAny_bind (wpAny_mono (turn n s hI) (fun r s1 h1=>?_) fun _ _ h'=>h'.elim)))
  cases r with
  | none=>exact wpAny_pure h1
  | some v =>
    refine wpAny_bind (wpAny_mono h1 (fun _ s2 h2=>?_) fun _ _ h'=>h'.elim)
    refine wpAny_bind (wpAny_mono h2 (fun _ s3 h3=>wpAny_bind (wpAny_mono h3 (fun x s4 h4=>wpAny_bind (wpAny_standAt ?_)) fun _ _ h'=>h'.elim)) fun _ _ h'=>h'.elim)
    rw [hs x]
    refine wpAny_bind (wpAny_pure (wpAny_bind (wpAny_holding (wpAny_mono h4 (fun jt s5 h5=>?_) fun _ _ h'=>h'.elim))))
    refine wpAny_bind (wpAny_runOwn (codeAny_mono h5 fun r s6 h6=>?_))
    obtain ⟨⟨f,e⟩,h6⟩:=h6
    subst e
    exact wpAny_pure ⟨rfl,h6⟩
theorem two_start (h0:codeAny (model prog w) A (.compLoop (Two elt t0 i0 t1 i1 fs scope pos) 1 it acc env) R s)
    (h:∀ E,wpAny (model prog w) A (pyIter it) (fun jt s'=>codeAny (model prog w) A (.compLoop (Two elt t0 i0 t1 i1 fs scope pos) 1 jt acc env) R s') E s) :
    codeAny (model prog w) A (.compStart (Two elt t0 i0 t1 i1 fs scope pos) 1 it acc env) R s:=by
  refine codeAny_of_tree ?_
  show wpAny _ _ ((compStart (Two elt t0 i0 t1 i1 fs scope pos) 1 it acc env).onRaise (fun x=>do noteFrame x env;standAt theWindowsPlace)) _ _ s
  refine wpAny_notedAt ?_
  unfold compStart
  show wpAny _ _ (ask >>= _) _ _ s
  refine wpAny_bind (wpAny_askSetting (wpAny_ite ?_))
  split
  · first
      | exact wpAny_bind (wpAny_pure (wpAny_pure ⟨rfl,h0⟩))
      | exact wpAny_pure ⟨rfl,h0⟩
  · refine wpAny_bind (wpAny_rule ?_)
    show wpAny _ _ (standAt i1.pos >>= _) _ _ s
    exact wpAny_bind (wpAny_standAt (wpAny_bind (wpAny_mono (h _) (fun jt s' h'=>wpAny_pure ⟨rfl,h'⟩) fun _ _ x=>x)))
end
end L2
namespace L2
open PySem PySem.Spec PyProof.Rows
section
variable {X:Cx} {scope:Scope} {N:List Str} {ix:List (Option Nat)} {elt t0 i0 t1 i1:Expr} {fs:List Expr} {pos:Pos} {wi wj:TI} {g g1:TG} {te:TE} {tc:TT}
def BlkG (J:It) (σ0:St) (g:TG) (tc:TT) (te:TE) (H1:Hp) (y0:List V) (F:List V->Hp->Prop):Prop:=∃ W:Nat->Nat->List V->Hp->Prop,(∃ m,W 0 m y0 H1)/\∀ i m ys H2,W i m ys H2->ys.length <= sizeLine /\
  ((J.stop i H2/\F ys H2) ∨
   (J.go i H2/\∃ (Ny:V->Hp->Prop) (Nn:Hp->Prop),(∀ y H,Ny y H->∃ m',m' < m/\W (i + 1) m' (ys ++ [y]) H)/\(∀ H,Nn H->∃ m',m' < m/\W (i + 1) m' ys H) /\
     ∀ x H3,J.yld i H2 x H3->g x σ0 H3 fun σ2 H4=>Wk σ0 σ2/\tc σ2 H4 fun b H5=>if b=true then te σ2 H5 Ny else Nn H5))
def Blk2 (J:It) (σ0:St) (g:TG) (wj:TI) (g1:TG) (tc:TT) (te:TE) (H1:Hp) (F:List V->Hp->Prop):Prop:=∃ W:Nat->Nat->List V->Hp->Prop,(∃ m,W 0 m [] H1)/\∀ i m ys H2,W i m ys H2->ys.length <= sizeLine /\
  ((J.stop i H2/\F ys H2) ∨
   (J.go i H2/\∀ x H3,J.yld i H2 x H3->g x σ0 H3 fun σ2 H4=>Wk σ0 σ2/\wj σ2 H4 fun J1 H5=>BlkG J1 σ2 g1 tc te H5 ys fun ys' H6=>∃ m',m' < m/\W (i + 1) m' ys' H6))
abbrev LO (its:List Value) (k:Nat):Obj:={ cls:=.type "list",data:=.seq its.toArray k }
theorem lo_nc {its:List Value} {k:Nat}:∀ v,(LO its k).data ≠ .cell v:=fun v z=>by cases z
theorem in_run {s0:Shared} {H0:Hp} {ex0:List Addr} {pins:List (Addr × Obj)} {σ:St} {H:Hp} {s:Shared} {D:Addr} {ys:List V} {its:List Value} {k:Nat} {F:List V->Hp->Prop} (hc:X.calm=true)
    (hD:D ∈ ex0) (hf:∀ {H':Hp},H' D=none->FpOk (X.comp scope N s0 H0 ex0) pins H' D)
    (hi:PI (X.comp scope N s0 H0 ex0) t1 i1 wj) (hg:PG (X.comp scope N s0 H0 ex0) t1 g1) (ht:PIfs (X.comp scope N s0 H0 ex0) fs tc) (he:PE (X.comp scope N s0 H0 ex0) elt te)
    (I:Inv (X.comp scope N s0 H0 ex0) pins σ H s) (d:H D=none) (l:s.heap.get? D=some (LO its k)) (v:Vals ys its)
    (B:wj σ H fun J H1=>BlkG J σ g1 tc te H1 ys F) :
    wpAny (model X.prog X.w) X.A (eval i1 (X.comp scope N s0 H0 ex0).env) (fun x s4=>wpAny (model X.prog X.w) X.A (pyIter x) (fun jt s5 =>
      codeAny (model X.prog X.w) X.A (.compStart (Two elt t0 i0 t1 i1 fs scope pos) 1 jt (.ref D) (X.comp scope N s0 H0 ex0).env)
        (fun r s6=>(∃ f,r=.ok f)/\∃ ys' its' k' H',Inv (X.comp scope N s0 H0 ex0) pins σ H' s6/\H' D=none/\s6.heap.get? D=some (LO its' k')/\Vals ys' its'/\F ys' H') s5) NoE s4) NoE s:=by
  generalize hY:X.comp scope N s0 H0 ex0=Y at *
  have eP:Y.prog=X.prog:=by rw [<- hY];rfl
  have eW:Y.w=X.w:=by rw [<- hY];rfl
  have eA:Y.A=X.A:=by rw [<- hY];rfl
  have eC:Y.calm=true:=by rw [<- hY];exact hc
  have eE:Y.xe=NoE:=by rw [<- hY];rfl
  have eX:Y.ex=ex0:=by rw [<- hY];rfl
  have pin1:∀ {H':Hp} {s':Shared} {σ':St} {its':List Value} {k':Nat},Inv Y pins σ' H' s'->H' D=none->s'.heap.get? D=some (LO its' k')->Inv Y (pins ++ [(D,LO its' k')]) σ' H' s':=fun {H' s' σ' its' k'} I' d' l' =>
    I'.pins_of fun p hp=>by
      rcases List.mem_append.mp hp with z | z
      · exact I'.pin p (List.mem_append_right _ z)
      · rw [List.mem_singleton.mp z]
        obtain ⟨_,f1,f2,_⟩:=hf d'
        exact ⟨l',d',f1,f2,lo_nc⟩
  rw [<- eP,<- eW,<- eA]
  have h1:=hi (pins ++ [(D,LO its k)]) s σ H _ (pin1 I d l) B
  rw [eE] at h1
  refine thn h1 fun x s4 h4=>thn h4 fun jt s5 h5=>?_
  obtain ⟨it,fp,tn,J,H2,rfl,I2,T,st2,f2,B2⟩:=h5
  have q2:=I2.pin (D,LO its k) (List.mem_append_right _ (List.mem_append_right _ List.mem_cons_self))
  have nD:∀ b ∈ fp,D ≠ b:=fun b hb=>(f2 b hb).2.2.2.2.2 (D,LO its k) (List.mem_append_right _ (List.mem_append_right _ List.mem_cons_self))
  have stat:∀ {H':Hp} {o:Obj},(∀ b ∈ fp,H' b=none)->∀ b ∈ fp,FpOk Y (pins ++ [(D,o)]) H' b:=fun {H' o} hn b hb=>by
    obtain ⟨_,e1,e2,e3,e4,e5⟩:=f2 b hb
    refine ⟨hn b hb,e1,e2,e3,e4,fun p hp=>?_⟩
    rcases List.mem_append.mp hp with z | z
    · exact e5 p (List.mem_append_left _ z)
    · rcases List.mem_append.mp z with z | z
      · exact e5 p (List.mem_append_right _ (List.mem_append_left _ z))
      · rw [List.mem_singleton.mp z];exact nD b hb
  obtain ⟨W,⟨m0,w0⟩,turn⟩:=B2
  have drop:∀ {σ':St} {H':Hp} {s':Shared} {ps:List (Addr × Obj)},Inv Y ((pins ++ ps)) σ' H' s'->Inv Y pins σ' H' s':=fun {σ' H' s' ps} I'=>I'.pins_of fun p hp=>I'.pin p (List.mem_append_right _ (List.mem_append_left _ hp))
  have drop2:∀ {σ':St} {H':Hp} {s':Shared} {ps qs:List (Addr × Obj)},Inv Y (pins ++ ps ++ qs) σ' H' s'->Inv Y pins σ' H' s':=fun {σ' H' s' ps qs} I'=>drop (ps:=ps ++ qs) (by rw [<- List.append_assoc];exact I')
  have loop:codeAny (model Y.prog Y.w) Y.A (.compLoop (Two elt t0 i0 t1 i1 fs scope pos) 1 (.ref it) (.ref D) Y.env) (fun r s6=>(∃ f,r=.ok f)/\∃ ys' its' k' H',Inv Y pins σ H' s6/\H' D=none/\s6.heap.get? D=some (LO its' k')/\Vals ys' its'/\F ys' H') s5:=by
    refine two_in (fun n s'=>∃ i ys its k H',Inv Y pins σ H' s'/\tn i s'.heap/\(∀ b ∈ fp,H' b=none)/\H' D=none/\s'.heap.get? D=some (LO its k)/\Vals ys its/\W i n ys H') ?_ m0
      ⟨0,ys,its,k,H2,drop I2,st2,fun b hb=>(f2 b hb).1,q2.2.1,q2.1,v,w0⟩
    rintro n s3 ⟨i,ys,its,k,H3,I3,st3,fr3,d3,l3,v3,w3⟩
    obtain ⟨hz,hw⟩:=turn i n ys H3 w3
    have I3':=pin1 I3 d3 l3
    rcases hw with ⟨stop,fy⟩ | ⟨go,Ny,Nn,hNy,hNn,step⟩
    · refine thn (T.done Y rfl rfl rfl eC i _ s3 σ H3 _ I3' (stat fr3) st3 stop) fun r s4 ⟨hr,I4⟩=>?_
      subst hr
      exact ⟨⟨_,rfl⟩,ys,its,k,H3,drop I4,d3,(I4.pin (D,_) (List.mem_append_right _ (List.mem_append_right _ List.mem_cons_self))).1,v3,fy⟩
    · refine thn (T.item Y rfl rfl rfl eC i _ s3 σ H3 _ I3' (stat fr3) st3 go) fun r s4 ⟨u,hr,h4⟩=>?_
      subst hr
      refine thn h4 fun _ s5 ⟨x,H5,I5,r5,y5,st5,fr5⟩=>?_
      have I5':=I5.pinned (stat fr5) (T.obj _ _ st5)
      have hg':=hg _ s5 σ H5 x u _ I5' r5 (step x H5 y5)
      rw [eE] at hg'
      refine thn hg' fun _ s6 ⟨σ6,H6,I6,wk6,q6⟩=>?_
      have ht':=ht _ s6 σ6 H6 _ I6 q6
      rw [eE] at ht'
      refine thn ht' fun ok s7 ⟨H7,I7,q7⟩=>?_
      have inD:∀ {o:Obj},(D,o) ∈ Y.pn ++ (pins ++ [(D,o)] ++ pinsAt fp s5.heap):=fun {o}=>List.mem_append_right _ (List.mem_append_left _ (List.mem_append_right _ List.mem_cons_self))
      cases ok with
      | false =>
        obtain ⟨m',hm,w7⟩:=hNn H7 q7
        refine ⟨m',hm,i + 1,ys,its,k,H7,drop2 (I7.weak wk6.1 wk6.2),?_,fun b hb=>?_,(I7.pin (D,_) inD).2.1,(I7.pin (D,_) inD).1,v3,w7⟩
        · exact T.keep _ _ _ st5 fun b hb o e=>(I7.pin (b,o) (List.mem_append_right _ (List.mem_append_right _ (mem_pinsAt hb e)))).1
        · obtain ⟨o,e,_⟩:=T.obj _ _ st5 b hb
          exact (I7.pin (b,o) (List.mem_append_right _ (List.mem_append_right _ (mem_pinsAt hb e)))).2.1
      | true =>
        show wpAny _ _ _ _ _ _
        have he':=he _ s7 σ6 H7 _ I7 q7
        rw [eE] at he'
        refine thn he' fun yv s8 ⟨y,H8,I8,r8,q8'⟩=>?_
        obtain ⟨m',hm,w8⟩:=hNy y H8 q8'
        have q8:=I8.pin (D,_) inD
        refine wpAny_list_append_plain (l:=D) (items:=its.toArray) ⟨k,q8.1⟩ (fun h' hl' sb=>?_) (by rw [List.size_toArray,<- v3.length];exact hz)
        obtain ⟨k',hl'⟩:=hl'
        obtain ⟨_,f1,f2',f3,f4,f5⟩:=hf q8.2.1
        have I9:Inv Y pins σ H8 { s8 with heap:=h' }:=(drop2 (I8.weak wk6.1 wk6.2)).turned (t':=s8.toks) (it:=D) (fun b o hb e=>(sb.2 b hb).trans e) q8.2.1 f1 f3 f4 f5
        refine ⟨m',hm,i + 1,ys ++ [y],its ++ [yv],k',H8,I9,?_,fun b hb=>?_,q8.2.1,?_,v3.append (.cons r8 .nil),w8⟩
        · exact T.keep _ _ _ st5 fun b hb o e=>(sb.2 b (nD b hb).symm).trans (I8.pin (b,o) (List.mem_append_right _ (List.mem_append_right _ (mem_pinsAt hb e)))).1
        · obtain ⟨o,e,_⟩:=T.obj _ _ st5 b hb
          exact (I8.pin (b,o) (List.mem_append_right _ (List.mem_append_right _ (mem_pinsAt hb e)))).2.1
        · have e:its.toArray.push yv=(its ++ [yv]).toArray:=by simp
          unfold LO;rw [<- e];exact hl'
  exact two_start loop fun E=>T.self _ 0 _ _ _ st2 loop
theorem comp_run2 {pins:List (Addr × Obj)} {σ:St} {H:Hp} {s:Shared} {it:Addr} {fp:List Addr} {tn:Nat->Heap->Prop} {J:It} {F:List V->Hp->Prop} {E:Value->Shared->Prop} {RR:Value->Addr->Result->Shared->Prop}
    (hc:X.calm=true) (hk:scope.kind=.function) (hnm:okNames scope=true) (hf:okFree scope X.env=true) (hx:okIx scope X.N N ix=true) (hs:∀ s H ex x,foldedSetIterable i1 (X.comp scope N s H ex).env x=pure x)
    (hg:∀ s H ex,PG (X.comp scope N s H ex) t0 g) (hj:∀ s H ex,PI (X.comp scope N s H ex) t1 i1 wj) (hg1:∀ s H ex,PG (X.comp scope N s H ex) t1 g1) (ht:∀ s H ex,PIfs (X.comp scope N s H ex) fs tc) (he:∀ s H ex,PE (X.comp scope N s H ex) elt te)
    (I:Inv X pins σ H s) (T:Turn X.prog X.w X.K t0 J fp it tn) (st:tn 0 s.heap) (hfp:∀ b ∈ fp,FpOk X pins H b) (B:Blk2 J (pick ix σ) g wj g1 tc te H F)
    (fin:∀ (ys:List V) (H':Hp) (s':Shared) (σ':St) (its:List Value) (n:Nat),Inv (X.comp scope N (accS s) H (s.heap.objs.size :: fp)) [] σ' H' s'->H' s.heap.objs.size=none ->
      s'.heap.get? s.heap.objs.size=some (LO its n)->Vals ys its->ys.length <= sizeLine->F ys H'->RR (.ref s.heap.objs.size) (accS s).heap.objs.size (.ok .next) s') :
    wpAny (model X.prog X.w) X.A (newList []) (fun acc s₃=>wpAny (model X.prog X.w) X.A (newFunctionEnv scope X.env.globals (closL X.env scope.names []) [] X.env.qual none .none (some X.env)) (fun cenv s₄ =>
      codeAny (model X.prog X.w) X.A (.compStart (Two elt t0 i0 t1 i1 fs scope pos) 0 (.ref it) acc { cenv with scope:=relabel scope X.env }) (RR acc cenv.locals) s₄) E s₃) E s:=by
  refine wpAny_newObj_type (newEnv_comp ?_) (by show ([]:List Value).toArray.size <= sizeLine;exact Nat.zero_le _)
  obtain ⟨W,⟨m0,w0⟩,turn⟩:=B
  have I1:Inv X pins σ H (accS s):=I.kept (t':=s.toks) fun b o e=>Heap.get?_push_of_some _ e
  have fpLt:∀ b ∈ fp,b < s.heap.objs.size:=fun b hb=>let ⟨o,e,_⟩:=T.obj 0 _ st b hb;Heap.lt_size e
  have accE:(accS s).heap.get? s.heap.objs.size=some { cls:=.type "list",dict:=none,data:=.seq ([]:List Value).toArray }:=Heap.get?_push_size _ rfl
  have fD:FpOk X pins H s.heap.objs.size:=I.fpOk (Nat.le_refl _) (I.hok.fresh (Nat.le_refl _))
  have J0:Inv (X.comp scope N (accS s) H (s.heap.objs.size :: fp)) [] (pick ix σ) H _:=I1.comp (N:=N) (ix:=ix) (ex:=s.heap.objs.size :: fp) hk hnm hf hx fun b hb=>by
    rcases List.mem_cons.mp hb with z | z
    · subst z
      exact ⟨fD.1,fD.2.1,fD.2.2.1,fD.2.2.2.1,fD.2.2.2.2.1,by rw [acc_size];exact Nat.lt_succ_self _⟩
    · obtain ⟨f0,f1,f2,f3,f4,_⟩:=hfp b z
      exact ⟨f0,f1,f2,f3,f4,by rw [acc_size];exact Nat.lt_succ_of_lt (fpLt b z)⟩
  have keep0:∀ b o,(accS s).heap.get? b=some o->(pushCells ((accS s).heap.push { cls:=.type "dict",data:=.dict #[] }) scope.names).get? b=some o:=fun b o e=>pushCells_keeps _ _ b o (Heap.get?_push_of_some _ e)
  have st0:tn 0 (pushCells ((accS s).heap.push { cls:=.type "dict",data:=.dict #[] }) scope.names):=T.keep 0 _ _ st fun b hb o e=>keep0 b o (Heap.get?_push_of_some _ e)
  have exOk:∀ b ∈ s.heap.objs.size :: fp,b ≠ (X.comp scope N (accS s) H (s.heap.objs.size :: fp)).env.locals/\b ∉ (X.comp scope N (accS s) H (s.heap.objs.size :: fp)).fs /\
      ∀ x c,(X.comp scope N (accS s) H (s.heap.objs.size :: fp)).env.cells.lookup x=some c->c ≠ b:=fun b hb=>⟨(J0.ok.exf b hb).1,J0.ok.exfs b hb,(J0.ok.exf b hb).2⟩
  have statP:∀ {H':Hp} {ps:List (Addr × Obj)},(∀ p ∈ ps,p.1=s.heap.objs.size)->(∀ b ∈ fp,H' b=none)->∀ b ∈ fp,FpOk (X.comp scope N (accS s) H (s.heap.objs.size :: fp)) ps H' b:=fun {H' ps} hps hn b hb=>by
    obtain ⟨e1,e2,e3⟩:=exOk b (List.mem_cons_of_mem _ hb)
    refine ⟨hn b hb,e1,e2,.inl (List.mem_cons_of_mem _ hb),e3,fun p hp=>?_⟩
    have hp':p ∈ ps:=(List.mem_append.mp hp).elim (fun z=>absurd (show p ∈ ([]:List (Addr × Obj)) from z) (by simp)) id
    rw [hps p hp']
    exact Nat.ne_of_gt (fpLt b hb)
  have statD:∀ {H':Hp} {h:Heap},H' s.heap.objs.size=none->FpOk (X.comp scope N (accS s) H (s.heap.objs.size :: fp)) (pinsAt fp h) H' s.heap.objs.size:=fun {H' h} hn=>by
    obtain ⟨e1,e2,e3⟩:=exOk _ List.mem_cons_self
    refine ⟨hn,e1,e2,.inl List.mem_cons_self,e3,fun p hp=>?_⟩
    have hp':p ∈ pinsAt fp h:=(List.mem_append.mp hp).elim (fun z=>absurd (show p ∈ ([]:List (Addr × Obj)) from z) (by simp)) id
    obtain ⟨b,hb,e⟩:=List.mem_filterMap.mp hp'
    cases q:h.get? b with
    | none=>rw [q] at e;cases e
    | some o =>
      rw [q] at e;cases e
      exact Nat.ne_of_lt (fpLt b hb)
  have loop:codeAny (model X.prog X.w) X.A (.compLoop (Two elt t0 i0 t1 i1 fs scope pos) 0 (.ref it) (.ref s.heap.objs.size) (X.comp scope N (accS s) H (s.heap.objs.size :: fp)).env) (RR (.ref s.heap.objs.size) (accS s).heap.objs.size)
      { accS s with heap:=pushCells ((accS s).heap.push { cls:=.type "dict",data:=.dict #[] }) scope.names }:=by
    refine two_out (hs _ _ _) (fun n s'=>∃ i ys its k H',Inv (X.comp scope N (accS s) H (s.heap.objs.size :: fp)) [] (pick ix σ) H' s'/\tn i s'.heap/\(∀ b ∈ fp,H' b=none)/\H' s.heap.objs.size=none /\
      s'.heap.get? s.heap.objs.size=some (LO its k)/\Vals ys its/\W i n ys H') ?_ m0
      ⟨0,[],[],0,H,J0,st0,fun b hb=>(hfp b hb).1,fD.1,keep0 _ _ accE,.nil,w0⟩
    rintro n s3 ⟨i,ys,its,k,H3,I3,st3,fr3,d3,l3,v3,w3⟩
    obtain ⟨hz,hw⟩:=turn i n ys H3 w3
    have pinD:Inv (X.comp scope N (accS s) H (s.heap.objs.size :: fp)) [(s.heap.objs.size,LO its k)] (pick ix σ) H3 s3:=I3.pins_of fun p hp=>by
      rw [List.mem_singleton.mp hp]
      exact ⟨l3,d3,(exOk _ List.mem_cons_self).1,(exOk _ List.mem_cons_self).2.1,lo_nc⟩
    have one:∀ p ∈ [(s.heap.objs.size,LO its k)],p.1=s.heap.objs.size:=fun p hp=>by rw [List.mem_singleton.mp hp]
    rcases hw with ⟨stop,fy⟩ | ⟨go,step⟩
    · refine thn (T.done (X.comp scope N (accS s) H (s.heap.objs.size :: fp)) rfl rfl rfl hc i _ s3 (pick ix σ) H3 (fun _ _=>False) pinD (statP one fr3) st3 stop) fun r s4 ⟨hr,I4⟩=>?_
      subst hr
      have q:=(I4.pin (s.heap.objs.size,_) (List.mem_append_right _ List.mem_cons_self)).1
      exact fin ys H3 s4 _ its k (I4.pins_of fun p hp=>by cases hp) d3 q v3 hz fy
    · refine thn (T.item (X.comp scope N (accS s) H (s.heap.objs.size :: fp)) rfl rfl rfl hc i _ s3 (pick ix σ) H3 (fun _ _=>False) pinD (statP one fr3) st3 go) fun r s4 ⟨u,hr,h4⟩=>?_
      subst hr
      refine thn h4 fun _ s5 ⟨x,H5,I5,r5,y5,st5,fr5⟩=>?_
      have I5':=I5.pinned (statP one fr5) (T.obj _ _ st5)
      refine thn (hg (accS s) H (s.heap.objs.size :: fp) _ s5 (pick ix σ) H5 x u _ I5' r5 (step x H5 y5)) fun _ s6 ⟨σ6,H6,I6,wk6,q6⟩=>?_
      have qD:=I6.pin (s.heap.objs.size,LO its k) (List.mem_append_right _ (List.mem_append_left _ List.mem_cons_self))
      have I6':Inv (X.comp scope N (accS s) H (s.heap.objs.size :: fp)) (pinsAt fp s5.heap) σ6 H6 s6:=I6.pins_of fun p hp=>I6.pin p (List.mem_append_right _ (List.mem_append_right _ hp))
      refine thn (in_run (t0:=t0) (i0:=i0) (pos:=pos) hc List.mem_cons_self statD (hj _ _ _) (hg1 _ _ _) (ht _ _ _) (he _ _ _) I6' qD.2.1 qD.1 v3 q6) fun x s7 h7=>thn h7 fun jt s8 h8=>codeAny_mono h8 fun r s9 h9=>?_
      obtain ⟨ok,ys',its',k',H',I9,d9,l9,v9,m',hm,w9⟩:=h9
      refine ⟨ok,m',hm,i + 1,ys',its',k',H',(I9.weak wk6.1 wk6.2).pins_of (fun p hp=>by cases hp),?_,fun b hb=>?_,d9,l9,v9,w9⟩
      · exact T.keep _ _ _ st5 fun b hb o e=>(I9.pin (b,o) (List.mem_append_right _ (mem_pinsAt hb e))).1
      · obtain ⟨o,e,_⟩:=T.obj _ _ st5 b hb
        exact (I9.pin (b,o) (List.mem_append_right _ (mem_pinsAt hb e))).2.1
  exact codeAny_compStart_list loop (T.self _ 0 _ _ _ st0 loop)
def tSet2 (wi:TI) (ix:List (Option Nat)) (g:TG) (wj:TI) (g1:TG) (tc:TT) (te:TE) (i:Nat):TS:=fun D σ H=>wi σ H fun J H1=>Blk2 J (pick ix σ) g wj g1 tc te H1 fun ys H2=>∀ p,H2 p=none->D.nx (σ.set i (some (.ref p))) (upd H2 p (.lst ys))
theorem ps_setcomp2 {i:Nat} {y:Str} {py spos:Pos} (hc:X.calm=true) (hN:X.N.Nodup) (hn:X.N[i]?=some y) (hy:X.env.scope.names.lookup y=some .local)
    (hi:PI X t0 i0 wi) (hg:∀ s H ex,PG (X.comp scope N s H ex) t0 g) (hj:∀ s H ex,PI (X.comp scope N s H ex) t1 i1 wj) (hg1:∀ s H ex,PG (X.comp scope N s H ex) t1 g1) (ht:∀ s H ex,PIfs (X.comp scope N s H ex) fs tc) (he:∀ s H ex,PE (X.comp scope N s H ex) elt te)
    (hk:scope.kind=.function) (hnm:okNames scope=true) (hf:okFree scope X.env=true) (hx:okIx scope X.N N ix=true) (hs:∀ x,foldedSetIterable i0 X.env x=pure x) (hs1:∀ s H ex x,foldedSetIterable i1 (X.comp scope N s H ex).env x=pure x)
    (hsw:swapsWith (Two elt t0 i0 t1 i1 fs scope pos) (some (.Name y py)) spos.line X.env=pure true) :
    PS X (.Assign [.Name y py] (Two elt t0 i0 t1 i1 fs scope pos) spos) (tSet2 wi ix g wj g1 tc te i):=by
  intro pins s σ H D I h
  rw [exec_Assign_Name_used _ _ _ _ hsw]
  refine wpAny_bind (wpAny_standAt (wpAny_bind ?_))
  show wpAny _ X.A (do let _ <- comprehension (Two elt t0 i0 t1 i1 fs scope pos) scope X.env _ (newList []) false (eval i0 X.env) (some (assign (.Name y py) X.env))) _ _ s
  refine wpAny_bind (thn (wpAny_comprehension_free (use:=some (assign (.Name y py) X.env)) (Q:=fun _ s'=>SP X pins D .next s') rfl hs (closureFor_eq (I.closed hf)) hk (fun x hx hl=>(okNames_get hnm hx).trans (by rw [hl])) ?_) fun _ s' hq=>wpAny_pure (wpAny_pure hq))
  refine thn (hi pins s σ H _ I h) fun v s1 h1=>thn h1 fun itv s2 h2=>?_
  obtain ⟨it,fp,tn,J,H2,e,I2,T,st2,f2,B⟩:=h2
  subst e
  refine comp_run2 (RR:=fun acc C=>compPost (model X.prog X.w) X.A X.xe (some (assign (.Name y py) X.env)) (fun _ s'=>SP X pins D .next s') acc C) hc hk hnm hf hx hs1 hg hj hg1 ht he I2 T st2 f2 B ?_
  intro ys H' s' σ' its n J' hD hl hv hz hF
  obtain ⟨m,hm,_⟩:=J'.loc
  have I3:=I2.comp_end (h':=s'.heap) J' f2 hD hl hv hz (.refl ..)
  show wpAny _ X.A (assign (.Name y py) X.env (.ref s2.heap.objs.size)) _ _ _
  refine wpAny_assign_Name (store_ok2 (v:=.ref s2.heap.objs.size) I3 hN hn (.inl hy) rfl (fun s'' I4 hsb=>?_) (.inr hy))
  obtain ⟨a,sb,ha⟩:=hsb
  have hCa:(accS s2).heap.objs.size ≠ a:=by
    rw [acc_size]
    rcases ha with z | z
    · rw [z];exact Nat.ne_of_gt (Nat.lt_succ_of_lt I2.lt)
    · obtain ⟨v,q⟩:=I2.cell y a z
      exact Nat.ne_of_gt (Nat.lt_succ_of_lt q.lt)
  have hC2:(upd H' s2.heap.objs.size (.lst ys)) (accS s2).heap.objs.size=none:=by
    rw [upd_ne (by rw [acc_size];exact Nat.ne_of_gt (Nat.lt_succ_self _))]
    exact J'.free
  refine ⟨m,hm.sameBut sb hCa,fun h' hs'=>⟨_,_,?_,hF _ hD⟩⟩
  refine I4.turned (t':=s''.toks) (it:=(accS s2).heap.objs.size) (fun b o hb e=>(hs'.2 b hb).trans e) hC2 ?_ ?_ ?_ ?_
  · rw [acc_size];exact Nat.ne_of_gt (Nat.lt_succ_of_lt I2.lt)
  · rw [acc_size];exact .inr (Nat.le_trans I2.sz (Nat.le_succ _))
  · intro x c e
    obtain ⟨v,q⟩:=I2.cell x c e
    rw [acc_size];exact Nat.ne_of_lt (Nat.lt_succ_of_lt q.lt)
  · intro p hp
    rw [acc_size];exact Nat.ne_of_lt (Nat.lt_succ_of_lt (Heap.lt_size (I2.pin p hp).1))
end
end L2
namespace L2
open PySem PySem.Spec PyProof.Rows HT
def lex2 (a b:List Int × List Int):Bool:=if a.1=b.1 then lexLt a.2 b.2 else lexLt a.1 b.1
theorem lex2_irr (a:List Int × List Int):lex2 a a=false:=by unfold lex2;rw [if_pos rfl];exact lex_irr _
theorem lex2_trans {a b c:List Int × List Int} (h1:lex2 a b=true) (h2:lex2 b c=true):lex2 a c=true:=by
  unfold lex2 at *
  by_cases e1:a.1=b.1
  · by_cases e2:b.1=c.1
    · rw [if_pos e1] at h1;rw [if_pos e2] at h2;rw [if_pos (e1.trans e2)];exact lex_trans h1 h2
    · rw [if_neg e2] at h2;rw [if_neg (fun z=>e2 (e1.symm.trans z)),e1];exact h2
  · rw [if_neg e1] at h1
    by_cases e2:b.1=c.1
    · rw [if_neg (fun z=>e1 (z.trans e2.symm)),<- e2];exact h1
    · rw [if_neg e2] at h2
      have:=lex_trans h1 h2
      rw [if_neg fun z=>by rw [z,lex_irr] at this;cases this];exact this
theorem best_le {bt:Nat->Nat->Bool} (hi:∀ a,bt a a=false) (ht:∀ a b c,bt a b=true->bt b c=true->bt a c=true):∀ k,argBest bt k <= k/\∀ i,i <= k->bt i (argBest bt k)=false
  | 0=>⟨Nat.le_refl _,fun i h=>by rw [Nat.le_zero.mp h];exact hi 0⟩
  | k + 1=>by
    obtain ⟨a1,a2⟩:=best_le hi ht k
    unfold argBest
    cases hb:bt (k + 1) (argBest bt k) with
    | true =>
      rw [if_pos rfl]
      refine ⟨Nat.le_refl _,fun i h=>?_⟩
      rcases Nat.lt_or_eq_of_le h with z | z
      · rw [Bool.eq_false_iff]
        intro q
        have:=ht _ _ _ q hb
        rw [a2 i (by omega)] at this;cases this
      · rw [z];exact hi _
    | false =>
      rw [if_neg Bool.false_ne_true]
      refine ⟨by omega,fun i h=>?_⟩
      rcases Nat.lt_or_eq_of_le h with z | z
      · exact a2 i (by omega)
      · rw [z];exact hb
theorem IntsAt.same {A:Around} {s:Shared} {p q:Value} {ns:List Int} (h1:IntsAt s.heap p ns) (h2:IntsAt s.heap q ns) (hu:A.units < cLine):SeqAt.EqAt A s p q true:=by
  obtain ⟨a,us,rfl,⟨oa,ha,hca,na,hda⟩,i1⟩:=h1
  obtain ⟨b,vs,rfl,⟨ob,hb,hcb,nb,hdb⟩,i2⟩:=h2
  by_cases hab:a=b
  · subst hab;exact SeqAt.EqAt.same _
  · have:=SeqAt.EqAt.of_refs hab (SeqAt.RcAt.tuples (A:=A) (e:=fun _=>true) ⟨oa,ha,hca,na,hda⟩ ⟨ob,hb,hcb,nb,hdb⟩ hu fun j h1 h2=>by
      obtain ⟨t,ex⟩:=ints_at i1 (List.getElem?_eq_getElem (show j < us.length by simpa using h1))
      obtain ⟨u,ey⟩:=ints_at i2 (List.getElem?_eq_getElem (show j < vs.length by simpa using h2))
      rw [List.getElem_toArray,List.getElem_toArray,ex,ey]
      have:=SeqAt.EqAt.int_int (A:=A.in1) (s:=s) (ns.getD j 0) t (ns.getD j 0) u
      rw [beq_self_eq_true] at this
      exact this)
    have e:((List.range (min us.toArray.size vs.toArray.size)).all (fun _=>true) && us.toArray.size == vs.toArray.size)=true:=by
      rw [Bool.and_eq_true,List.all_eq_true,beq_iff_eq,List.size_toArray,List.size_toArray,ints_ln i1,ints_ln i2]
      exact ⟨fun _ _=>rfl,rfl⟩
    rw [e] at this
    exact this
section
open PySem.SeqAt
open PySem.AutoSeq1 (wpAny_loadPart')
open PySem.MeetsSeq PySem.MeetsSeq2 PySem.MeetsSeq3
theorem tuple_lt_pairs (l b:Addr) (p1 q1 p2 q2:Value) (n n2:Nat) (dd dd2:Option Addr) (sl sl2:Array (Option Value)) (x y:List Int × List Int) :
    Meets (Builtin.«tuple.__lt__» ⟨[.ref l,.ref b],[]⟩)
      (fun A R s=>s.heap.get? l=some { cls:=.type "tuple",dict:=dd,data:=.seq #[p1,q1] n,slots:=sl }/\s.heap.get? b=some { cls:=.type "tuple",dict:=dd2,data:=.seq #[p2,q2] n2,slots:=sl2 } /\
        IntsAt s.heap p1 x.1/\IntsAt s.heap p2 y.1/\IntsAt s.heap q1 x.2/\IntsAt s.heap q2 y.2/\A.in1.units < cLine/\R (.ok (.ret (.bool (lex2 x y)))) s) :=
  .of_wp fun prog w A R s h=>by
    obtain ⟨hp,g,d,tk,os⟩:=s
    obtain ⟨hl,hb,i1,i2,i3,i4,hu,h⟩:=h
    have f2:=AutoSeq1.sub_tuple_tuple
    have eqs:∀ {v u:Value} {ns ms:List Int},IntsAt hp v ns->IntsAt hp u ms->SeqAt.EqAt A.in1 ⟨hp,g,d,tk,os⟩ v u (decide (ns=ms)):=fun {v u ns ms} h1 h2=>by
      by_cases e:ns=ms
      · rw [decide_eq_true e];subst e;exact IntsAt.same h1 h2 hu
      · rw [decide_eq_false e];exact IntsAt.eq (s:=⟨hp,g,d,tk,os⟩) h1 h2 hu e
    have lts:∀ {v u:Value} {ns ms:List Int},IntsAt hp v ns->IntsAt hp u ms->∀ (E:Value->Shared->Prop) (Q:Value->Shared->Prop),Q (.bool (lexLt ns ms)) ⟨hp,g,d,tk,os⟩->wpAny (model prog w) A.in1 (richCompare .Lt v u) Q E ⟨hp,g,d,tk,os⟩:=fun h1 h2 E Q q =>
      IntsAt.lt (s:=⟨hp,g,d,tk,os⟩) h1 h2 hu q
    wp_walk using wpAny_loadPart' hl,wpAny_loadPart' hb,wpAny_forIn_list _ (fun rest b s'=>b.1=none/\s'=⟨hp,g,d,tk,os⟩/\((rest=[(p1,p2),(q1,q2)]/\R (.ok (.ret (.bool (lex2 x y)))) ⟨hp,g,d,tk,os⟩) ∨ (rest=[(q1,q2)]/\R (.ok (.ret (.bool (lexLt x.2 y.2)))) ⟨hp,g,d,tk,os⟩) ∨ (rest=[]/\R (.ok (.ret (.bool false))) ⟨hp,g,d,tk,os⟩))) _
    case turn =>
      rintro ⟨u,v⟩ rest b s' ⟨hb',rfl,hR⟩
      rcases hR with ⟨e,hR⟩ | ⟨e,hR⟩ | ⟨e,hR⟩
      · injection e with e1 e2
        injection e1 with eu ev
        subst eu ev
        refine wpAny_bind (eqs i1 i2 prog w _ _ ?_)
        by_cases c:x.1=y.1
        · rw [decide_eq_true c]
          unfold lex2 at hR
          rw [if_pos c] at hR
          wp_walk
          exact ⟨rfl,rfl,.inr (.inl ⟨e2,hR⟩)⟩
        · rw [decide_eq_false c]
          unfold lex2 at hR
          rw [if_neg c] at hR
          have hri:=lts i1 i2
          wp_walk using hri
          exact ⟨_,rfl,by simpa using hR⟩
      · injection e with e1 e2
        injection e1 with eu ev
        subst eu ev
        refine wpAny_bind (eqs i3 i4 prog w _ _ ?_)
        by_cases c:x.2=y.2
        · rw [decide_eq_true c]
          rw [c,lex_irr] at hR
          wp_walk
          exact ⟨rfl,rfl,.inr (.inr ⟨e2,hR⟩)⟩
        · rw [decide_eq_false c]
          have hri:=lts i3 i4
          wp_walk using hri
          exact ⟨_,rfl,by simpa using hR⟩
      · cases e
    case fin =>
      rintro ⟨b1,b2⟩ s' ⟨hb',rfl,hR⟩
      simp only at hb'
      subst hb'
      rcases hR with ⟨e,_⟩ | ⟨e,_⟩ | ⟨_,hR⟩
      · cases e
      · cases e
      · wp_walk
        exact ⟨_,rfl,by simpa [Builtin.Tuple.tupleCompareSizes] using hR⟩
    case h=>exact ⟨rfl,rfl,.inl ⟨rfl,h⟩⟩
end
section
variable {prog:Program} {w:World} {A:Around} {s:Shared}
theorem lt_pairs {E:Value->Shared->Prop} {l b:Addr} {p1 q1 p2 q2:Value} {x y:List Int × List Int} {Q:Value->Shared->Prop} (hl:IsTup s.heap l #[p1,q1]) (hb:IsTup s.heap b #[p2,q2])
    (i1:IntsAt s.heap p1 x.1) (i2:IntsAt s.heap p2 y.1) (i3:IntsAt s.heap q1 x.2) (i4:IntsAt s.heap q2 y.2) (hu:A.units + 1 < cLine) (h:Q (.bool (lex2 x y)) s):wpAny (model prog w) A (richCompare .Lt (.ref l) (.ref b)) Q E s:=by
  obtain ⟨⟨cls,dd,data,sl⟩,ho,hc,n,hd⟩:=id hl
  obtain ⟨⟨cls2,dd2,data2,sl2⟩,ho2,hc2,n2,hd2⟩:=id hb
  simp only at hc hd hc2 hd2
  subst hc hd hc2 hd2
  exact richCompare_meets_room (op:=.Lt) ⟨_,ho,rfl⟩ ⟨_,ho2,rfl⟩ PySem.F.slot_tuple_lt PySem.F.entry_tuple_lt (PySem.F.args_tuple_lt_2 _ _) (tuple_lt_pairs l b p1 q1 p2 q2 n n2 dd dd2 sl sl2 x y)
    ⟨ho,ho2,i1,i2,i3,i4,hu,show Value.bool (lex2 x y) ≠ Value.notImplemented/\Q (.bool (lex2 x y)) s from ⟨(fun x=>nomatch x),h⟩⟩ (by omega)
def kept2:Option Value->Array Value
  | none=>#[]
  | some v=>#[v,v]
theorem min_loop {R:Result->Shared->Prop} {I:Addr} {fp wr:List Addr} {n:Nat} {P:Nat->Value->Prop} {St:Nat->Heap->Prop} (W:Walks prog w A.in1 I fp wr n P St) (bt:Nat->Nat->Bool) (h0:Heap) (S:Addr) (hSf:S ∉ fp) (d:Value)
    (hcmp:∀ i j vi vj (s:Shared) (Q:Value->Shared->Prop) (E:Value->Shared->Prop),(∀ b o,b ∉ wr->b ≠ S->h0.get? b=some o->s.heap.get? b=some o)->P i vi->P j vj->Q (.bool (bt i j)) s->wpAny (model prog w) A.in1 (richCompare .Lt vi vj) Q E s) :
    ∀ (r j:Nat) (s:Shared) (ob:Option Value) (c:Nat),n - j=r->j <= n->St j s.heap->(∀ b o,b ∉ wr->b ≠ S->h0.get? b=some o->s.heap.get? b=some o)->(match ob with | none=>j=0 | some v=>0 < j/\P (argBest bt (j - 1)) v) ->
    s.heap.get? S=some { cls:=.type "list",dict:=none,data:=.seq (kept2 ob) c,slots:=#[] } ->
    (∀ v h' tk,(n=0/\v=d ∨ 0 < n/\P (argBest bt (n - 1)) v)->(∀ b o,b ∉ wr->b ≠ S->h0.get? b=some o->h'.get? b=some o)->R (.ok (.ret v)) { s with heap:=h',toks:=tk }) ->
    codeAny (model prog w) A (.builtin "min.loop" ⟨[.ref I,.none,.ref S],[("default",d)]⟩) R s:=by
  have hSw:S ∉ wr:=fun h=>hSf (W.sub _ h)
  have nm:(toString "min" ++ toString ".loop":String)="min.loop":=by decide
  intro r
  induction r with
  | zero =>
    intro j s ob c hk hj hst k0 hob hS hR
    have hin:j=n:=by omega
    subst hin
    refine codeAny_builtin PySem.F.entry_min_loop ?_
    rw [Around.under_plainId PySem.F.plain_min_loop _]
    show wpAny _ A.in1 (seqItems? (.ref S) >>= _) _ _ s
    refine wpAny_bind (wpAny_seqItems hS rfl ?_)
    cases ob with
    | none =>
      have hob:j=0:=hob
      subst hob
      show wpAny _ A.in1 (tryCatch (pyNext (.ref I)) _ >>= _) _ _ s
      refine wpAny_bind (wpAny_tryCatch (W.done s _ _ hst fun h' tk hk'=>?_))
      exact wpAny_bind (wpAny_rule (wpAny_pure (hR d h' tk (.inl ⟨rfl,rfl⟩) fun b o hw hs e=>hk' b o hw (k0 b o hw hs e))))
    | some v =>
      obtain ⟨hj0,hP⟩:=hob
      show wpAny _ A.in1 (tryCatch (pyNext (.ref I)) _ >>= _) _ _ s
      refine wpAny_bind (wpAny_tryCatch (W.done s _ _ hst fun h' tk hk'=>?_))
      have hS':=hk' S _ hSw hS
      show wpAny _ A.in1 (updateSeq S (fun _=>#[]) >>= _) _ _ _
      refine wpAny_bind ?_
      refine wpAny_updateSeq (hz:=by show 2 <= sizeLine;decide) hS' rfl (wpAny_bind (wpAny_letGo (wpAny_pure ?_)))
      exact hR v _ tk (.inr ⟨hj0,hP⟩) fun b o hw hs e=>(Heap.get?_update_other _ _ (Ne.symm hs)).trans (hk' b o hw (k0 b o hw hs e))
  | succ r ih =>
    intro j s ob c hk hj hst k0 hob hS hR
    have hlt:j < n:=by omega
    have go:∀ (h' h2:Heap) (tk c':Nat) (v:Value),St (j + 1) h'->(∀ b o,b ∉ wr->s.heap.get? b=some o->h'.get? b=some o)->(∀ b,b ≠ S->∀ o,h'.get? b=some o->h2.get? b=some o) ->
        P (argBest bt j) v->h2.get? S=some { cls:=.type "list",dict:=none,data:=.seq (kept2 (some v)) c',slots:=#[] } ->
        codeAny (model prog w) A (.builtin "min.loop" ⟨[.ref I,.none,.ref S],[("default",d)]⟩) R { s with heap:=h2,toks:=tk }:=fun h' h2 tk c' v st' k1 k2 hP hS2 =>
      ih (j + 1) { s with heap:=h2,toks:=tk } (some v) c' (by omega) hlt (W.frame _ _ _ st' fun b hb o e=>k2 b (fun z=>hSf (z ▸ hb)) o e) (fun b o hw hs e=>k2 b hs o (k1 b o hw (k0 b o hw hs e))) ⟨by omega,hP⟩ hS2 fun v' h'' tk'' q kk=>hR v' h'' tk'' q kk
    refine codeAny_builtin PySem.F.entry_min_loop ?_
    rw [Around.under_plainId PySem.F.plain_min_loop _]
    show wpAny _ A.in1 (seqItems? (.ref S) >>= _) _ _ s
    refine wpAny_bind (wpAny_seqItems hS rfl ?_)
    cases ob with
    | none =>
      have hob:j=0:=hob
      subst hob
      show wpAny _ A.in1 (tryCatch (pyNext (.ref I)) _ >>= _) _ _ s
      refine wpAny_bind (wpAny_tryCatch (W.item 0 s _ _ hlt hst fun v h' tk hP hst' hk'=>?_))
      have hS':=hk' S _ hSw hS
      show wpAny _ A.in1 (updateSeq S (fun _=>#[v,v]) >>= _) _ _ _
      refine wpAny_bind ?_
      refine wpAny_updateSeq hS' rfl ?_
      rw [nm]
      exact wpAny_pure ⟨plainId_quiet PySem.F.plain_min_loop _,go h' _ tk _ v hst' hk' (fun b hb o e=>(Heap.get?_update_other _ _ (Ne.symm hb)).trans e) hP (Heap.get?_update_self _ hS' rfl)⟩
    | some vb =>
      obtain ⟨hj0,hPb⟩:=hob
      show wpAny _ A.in1 (tryCatch (pyNext (.ref I)) _ >>= _) _ _ s
      refine wpAny_bind (wpAny_tryCatch (W.item j s _ _ hlt hst fun v h' tk hP hst' hk'=>?_))
      have hS':=hk' S _ hSw hS
      show wpAny _ A.in1 (tryCatch (holding [v,v] (richCompare .Lt v vb >>= _)) _ >>= _) _ _ _
      refine wpAny_bind (wpAny_tryCatch (wpAny_holding (wpAny_bind (hcmp j (argBest bt (j - 1)) v vb _ _ _ (fun b o hw hs e=>hk' b o hw (k0 b o hw hs e)) hP hPb ?_))))
      refine wpAny_bind (wpAny_holding (wpAny_truthy_bool ?_))
      refine wpAny_bind (wpAny_letGo (wpAny_pure ?_))
      obtain ⟨i,rfl⟩:∃ i,j=i + 1:=⟨j - 1,by omega⟩
      rw [Nat.add_sub_cancel] at hPb ⊢
      cases hb:bt (i + 1) (argBest bt i) with
      | true =>
        simp only [if_true]
        refine wpAny_bind ?_
        refine wpAny_updateSeq (hz:=by show 2 <= sizeLine;decide) hS' rfl (wpAny_bind (wpAny_letGo ?_))
        rw [nm]
        exact wpAny_pure ⟨plainId_quiet PySem.F.plain_min_loop _,go h' _ tk _ v hst' hk' (fun b hb o e=>(Heap.get?_update_other _ _ (Ne.symm hb)).trans e) (by simp only [argBest,hb,if_true];exact hP) (Heap.get?_update_self _ hS' rfl)⟩
      | false =>
        simp only [Bool.false_eq_true,if_false]
        refine wpAny_bind (wpAny_letGo ?_)
        rw [nm]
        exact wpAny_pure ⟨plainId_quiet PySem.F.plain_min_loop _,go h' h' tk c vb hst' hk' (fun _ _ _ e=>e) (by simp only [argBest,hb,Bool.false_eq_true,if_false];exact hPb) hS'⟩
end
end L2
namespace L2
open PySem PySem.Spec PyProof.Rows HT
section
variable {X:Cx}
def CallKR (X:Cx) (f:Value) (k:Str) (r:List V->V->Hp->VK->Prop):Prop :=
  ∀ (pins:List (Addr × Obj)) (s:Shared) (σ:St) (H:Hp) (xs:List V) (us:List Value) (y:V) (u:Value) (Q:VK),Inv X pins σ H s->Vals xs us->RelV y u->r xs y H Q ->
    wpAny (model X.prog X.w) X.A (call f us [(k,u)]) (EP X pins σ Q) X.xe s
def tCK (r:List V->V->Hp->VK->Prop) (t:TA) (te:TE):TE:=fun σ H Q=>t σ H fun vs H1=>te σ H1 fun y H2=>r vs y H2 Q
theorem pe_callKw {x k:Str} {p pos kp:Pos} {e ke:Expr} {es:List Expr} {t:TA} {te:TE} {id:String} {r:List V->V->Hp->VK->Prop} (hc:CallKR X (.builtin id) k r) (hg:Gl X x) (hm:X.mg x=none) (hv:bootBuiltins x=some (.builtin id)) (ha:PA X (e :: es) t) (hk:PE X ke te) (hn:x ≠ "__name__":=by decide) (hdb:(x == ("__debug__":Str))=false:=by decide)
    (he:starEach (e :: es) X.env=(false,eval e X.env) :: starEach es X.env:=by rfl) (hpl:(backTo pos (starEach es X.env)).any (·.1)=false:=by rfl):PE X (.Call (.Name x p) (e :: es) [⟨some k,ke,kp⟩] pos) (tCK r t te):=by
  intro pins s σ H Q I h
  refine wpAny_Call_Name_kw (ld_blt I hg hm hv ?_ hn hdb)
  refine PyProof.Rows.callWith_kw (thn (ha pos pins s σ H _ I h) fun us s1 ⟨vs,H1,I1,r1,q1⟩=>?_) ?_ ?_
  · refine PyProof.Rows.kws_cons (thn (hk pins s1 σ H1 _ I1 q1) fun u s2 ⟨y,H2,I2,r2,q2⟩=>PyProof.Rows.kws_nil ?_)
    exact hc pins s2 σ H2 vs us y u Q I2 r1 r2 q2
  · rw [he];rfl
  · rw [he];exact hpl
theorem args_minD (a d:Value):argsOk "min" ⟨[a],[("default",d)]⟩:=by unfold argsOk;kernel_rfl
def rMinD:List V->V->Hp->VK->Prop:=fun xs y H Q=>∃ (p:Addr) (rs:List Addr) (ks:List (List Int × List Int)),xs=[.ref p]/\y=.non/\H p=some (.lst (rs.map V.ref))/\rs.length=ks.length /\
  (∀ (j:Nat) r k,rs[j]?=some r->ks[j]?=some k->∃ a b,H r=some (.tup [.ref a,.ref b])/\H a=some (.tup (k.1.map V.int))/\H b=some (.tup (k.2.map V.int))) /\
  (ks=[]->Q .non H)/\∀ (j:Nat) r k,rs[j]?=some r->ks[j]?=some k->(∀ k' ∈ ks,lex2 k' k=false)->Q (.ref r) H
theorem call_minD (hc:X.calm=true) (hu:X.A.units + 64 < cLine):CallKR X (.builtin "min") "default" rMinD:=by
  intro pins s σ H xs us y u Q I r ry h
  obtain ⟨p,rs,ks,rfl,rfl,hp,hl,hk,q0,q1⟩:=h
  obtain ⟨u',rfl,ru⟩:=vals1 r
  cases ru
  cases ry
  have tupH:∀ {s':Shared},(∀ b o,s.heap.get? b=some o->s'.heap.get? b=some o)->∀ {t:Addr} {a b:Addr},H t=some (.tup [.ref a,.ref b])->IsTup s'.heap t #[.ref a,.ref b]:=fun {s'} kp {t a b} e=>by
    obtain ⟨_,its,rv,o,e1,e2,e3⟩:=(show ObjOk X.prog X.w H s.heap t (.tup [.ref a,.ref b]) from I.hok t _ e)
    have ei:=refs_vals (as:=[a,b]) rv
    subst ei
    exact ⟨o,kp _ _ e1,e2,e3⟩
  have intH:∀ {s':Shared},(∀ b o,s.heap.get? b=some o->s'.heap.get? b=some o)->∀ {t:Addr} {ns:List Int},H t=some (.tup (ns.map V.int))->IntsAt s'.heap (.ref t) ns:=fun {s'} kp {t ns} e =>
    (intsAt_of I.hok e).keep fun a o _ e=>kp a o e
  refine wpAny_call (codeAny_call_builtin PySem.F.plain_min PySem.F.entry_min ?_)
  simp only [checkBuiltinCall,PySem.F.kind_min]
  have body:wpAny (model X.prog X.w) X.A.in1 (Builtin.«min» ⟨[.ref p],[("default",.none)]⟩) (fun fin s'=>match fin with
      | .done f=>(match (Except.ok f:Result) with | .ok (.ret v)=>EP X pins σ Q v s' | .ok _=>False | .error e=>X.xe e s')
      | .again c'=>c'.quiet=true/\codeAny (model X.prog X.w) X.A c' (fun r s'=>match r with | .ok (.ret v)=>EP X pins σ Q v s' | .ok _=>False | .error e=>X.xe e s') s') X.xe s:=by
    have nm:(toString "min" ++ toString ".loop":String)="min.loop":=by decide
    show wpAny _ X.A.in1 (Builtin.Builtins.bindParams "min" ["key","default"] 0 ⟨[],[("default",.none)]⟩ >>= _) _ _ s
    refine wpAny_bind (wpAny_of_eq (show Builtin.Builtins.bindParams "min" ["key","default"] 0 ⟨[],[("default",.none)]⟩=pure [none,some .none] from rfl) (wpAny_bind (wpAny_pure (wpAny_bind ?_))))
    refine seq_walk (A:=X.A.in1) I (I.ok.hd hc) (.inl (.of hp)) fun its it fp wr St h2 rv W st hfp keep=>?_
    have ei:=refs_vals rv
    subst ei
    refine wpAny_bind (wpAny_newObj_type ?_)
    have hSf:h2.objs.size ∉ fp:=fun hm=>Nat.lt_irrefl _ (hfp _ hm)
    have kp:∀ {h':Heap},(∀ b o,b ∉ wr->b ≠ h2.objs.size->h2.get? b=some o->h'.get? b=some o)->∀ b o,s.heap.get? b=some o->h'.get? b=some o:=fun k=>keep _ fun b o hw e=>k b o hw (Nat.ne_of_lt (Heap.lt_size e)) e
    rw [nm]
    have at':∀ {i:Nat} {v:Value},(rs.map Value.ref)[i]?=some v->∃ r,rs[i]?=some r/\v=.ref r/\ks[i]?=some (ks.getD i ([],[])):=fun {i v} e=>by
      rw [List.getElem?_map] at e
      cases hr:rs[i]? with
      | none=>rw [hr] at e;cases e
      | some r =>
        rw [hr] at e;cases e
        have hi:i < ks.length:=by rw [<- hl];exact (List.getElem?_eq_some_iff.mp hr).1
        exact ⟨r,rfl,rfl,by rw [List.getD_eq_getElem?_getD,List.getElem?_eq_getElem hi];rfl⟩
    refine wpAny_pure ⟨plainId_quiet PySem.F.plain_min_loop _,min_loop W (fun i j=>lex2 (ks.getD i ([],[])) (ks.getD j ([],[]))) h2 h2.objs.size hSf .none ?_ _ 0 _ none 0 rfl (Nat.zero_le _) (W.frame _ _ _ st fun b _ o e=>Heap.get?_push_of_some _ e) (fun b o _ _ e=>Heap.get?_push_of_some _ e) rfl (Heap.get?_push_size _ rfl) ?_⟩
    · intro i j vi vj s' Q' E' k1 e1 e2 q
      obtain ⟨r1,g1,rfl,g2⟩:=at' e1
      obtain ⟨r2,g3,rfl,g4⟩:=at' e2
      obtain ⟨a1,b1,t1,t2,t3⟩:=hk i _ _ g1 g2
      obtain ⟨a2,b2,t4,t5,t6⟩:=hk j _ _ g3 g4
      exact lt_pairs (tupH (kp k1) t1) (tupH (kp k1) t4) (intH (kp k1) t2) (intH (kp k1) t5) (intH (kp k1) t3) (intH (kp k1) t6) (by show X.A.units + 1 + 1 < cLine;omega) q
    · intro v h' tk hv k1
      rcases hv with ⟨hn,rfl⟩ | ⟨hn,hv⟩
      · have:ks=[]:=List.length_eq_zero_iff.mp (by rw [List.length_map] at hn;omega)
        exact ⟨.non,H,I.kept (kp k1),rfl,q0 this⟩
      · obtain ⟨r,g1,rfl,g2⟩:=at' hv
        rw [List.length_map] at g1 g2 hn
        refine ⟨.ref r,H,I.kept (kp k1),rfl,q1 _ r _ g1 g2 fun k' hk'=>?_⟩
        obtain ⟨i,hi,rfl⟩:=List.getElem_of_mem hk'
        have:=(best_le (bt:=fun i j=>lex2 (ks.getD i ([],[])) (ks.getD j ([],[]))) (fun a=>lex2_irr _) (fun a b c=>lex2_trans) (rs.length - 1)).2 i (by omega)
        rw [List.getD_eq_getElem?_getD,List.getElem?_eq_getElem hi] at this
        exact this
  cases hsig:Manifest.signature? "min" with
  | none=>exact wpAny_pure body
  | some sig =>
    have ha:=args_minD (.ref p) .none
    simp only [argsOk,hsig] at ha
    show wpAny _ X.A.in1 (Bind.checkArgs "min" sig ⟨[.ref p],[("default",.none)]⟩) _ _ s
    rw [show Bind.checkArgs "min" sig ⟨[.ref p],[("default",.none)]⟩=pure () from ha];exact wpAny_pure body
end
end L2
namespace L2
open PySem PySem.Spec PyProof.Rows
def mergeT (a b:List (List Key × V)):List (List Key × V):=b.foldl (fun acc t=>putK acc t.1 t.2) a
theorem length_mergeT:∀ (b a:List (List Key × V)),(mergeT a b).length <= a.length + b.length
  | [],a=>Nat.le_refl _
  | t :: b,a=>by
    have h1:=length_mergeT b (putK a t.1 t.2)
    have h2:=length_putK a t.1 t.2
    show (mergeT (putK a t.1 t.2) b).length <= _
    rw [List.length_cons];omega
section
variable {X:Cx} {pins:List (Addr × Obj)} {σ:St} {H:Hp} {p d it:Addr} {rs:List Addr} {kvs:List (List Key × V)} {A:Around} {R:Result->Shared->Prop}
theorem dset_atT {s:Shared} {a b:Addr} {k:List Key} {v:V} {u r:Value} {E:Value->Shared->Prop} {Q:Unit->Shared->Prop} (hu:A.units < cLine) (I:Inv X pins σ H s) (e:H a=some (.dT kvs)) (eb:H b=some (.tup (k.map kV))) (l:kvs.length < sizeLine) (ry:RelV (.ref b) u) (rv:RelV v r) (h:∀ s',Inv X pins σ (upd H a (.dT (putK kvs k v))) s'->(∀ b q,b ≠ a->s.heap.get? b=some q->s'.heap.get? b=some q)->Q () s') :
    wpAny (model X.prog X.w) A (dictSet a u r) Q E s:=by
  cases (show u=Value.ref b from ry)
  obtain ⟨z,hd,xs,rel,dd⟩:=dt_of I.hok e
  have hz:xs.length <= sizeLine:=by rw [<- Paired.length rel];exact z
  have hl:(putK kvs k v).length <= sizeLine:=by have:=length_putK kvs k v;omega
  refine wpAny_dictSet_heap (hsz:=hz) hu (key_of I.hok eb) dd fun h' dd' hs=>h _ ?_ (fun b q hb hq=>(hs.2 b hb).trans hq)
  obtain ⟨q,es,ep,hq,h2,h3,h4,_,h5⟩:=dd'
  refine d_write I (by rw [e];exact True.intro) hs ⟨q,hq⟩ ⟨hl,hd,_,(rel.put k eb rv).keeps fun c ys ec=>?_,q,es,ep,hq,h2,h3,h4,h5⟩
  rw [upd_ne (ne_of ec e (fun z=>nomatch z))]
  exact ec
theorem upd_loopT (hh:A.handled=none) (hu:A.in1.units < cLine) (hn:kvs.length <= 1000) (hlen:rs.length=kvs.length) (hp:H p=some (.lst (rs.map V.ref))) (hd:H d=none) (hpr:∀ (j:Nat) r,rs[j]?=some r->∃ k v ka,kvs[j]?=some (k,v)/\H r=some (.tup [.ref ka,v])/\H ka=some (.tup (k.map kV))) (hF:FpOk X pins H it) (hitd:it ≠ d)
    (fin:∀ s',Inv X pins σ (upd H d (.dT (mergeT [] kvs))) s'->R (.ok (.ret .none)) s'):∀ (m i:Nat) (s:Shared),kvs.length - i=m->i <= kvs.length->Inv X pins σ (upd H d (.dT (mergeT [] (kvs.take i)))) s->s.heap.IsListIter it p i ->
    codeAny (model X.prog X.w) A (.builtin "dict.update.loop" ⟨[.ref d,.ref it,rawInt i,.none],[]⟩) R s
  | m,i,s,hm,hi,I,hit=>by
    have npd:p ≠ d:=fun e=>by rw [e,hd] at hp;cases hp
    have hp':upd H d (.dT (mergeT [] (kvs.take i))) p=some (.lst (rs.map V.ref)):=by rw [upd_ne npd];exact hp
    obtain ⟨its,rv,pl,hz⟩:=I.list (.of hp')
    have hil:=rv.length
    rw [List.length_map] at hil
    refine codeAny_builtin en_loop ?_
    unfold Builtin.«dict.update.loop» rawInt
    dsimp only
    by_cases hlt:i < kvs.length
    · have hri:i < rs.length:=by omega
      obtain ⟨k,v,ka,hkv,hr,hka⟩:=hpr i rs[i] (List.getElem?_eq_getElem hri)
      have hiv:i < its.length:=by omega
      have hx:its[i]?=some (.ref rs[i]):=by
        have:=rv.get (i:=i) (x:=.ref rs[i]) (by rw [List.getElem?_map,List.getElem?_eq_getElem hri];rfl)
        obtain ⟨u,hu,ru⟩:=this
        cases ru
        exact hu
      generalize rs[i]=r at hr hx
      refine wpAny_bind (wpAny_pyNext_list_item hit pl.isList (by simpa using hx) fun h' hit' sb=>?_)
      dsimp only
      obtain ⟨f0,f1,f2,f3,f4,f5⟩:=hF
      have f0':upd H d (.dT (mergeT [] (kvs.take i))) it=none:=by rw [upd_ne hitd];exact f0
      have I1:Inv X pins σ (upd H d (.dT (mergeT [] (kvs.take i)))) { s with heap:=h' }:=I.turned (t':=s.toks) (it:=it) (fun b o hb e=>(sb.2 b hb).trans e) f0' f1 f3 f4 f5
      have nrd:r ≠ d:=fun e=>by rw [e,hd] at hr;cases hr
      have hr':upd H d (.dT (mergeT [] (kvs.take i))) r=some (.tup [.ref ka,v]):=by rw [upd_ne nrd];exact hr
      have nkd:ka ≠ d:=fun e=>by rw [e,hd] at hka;cases hka
      have hka':upd H d (.dT (mergeT [] (kvs.take i))) ka=some (.tup (k.map kV)):=by rw [upd_ne nkd];exact hka
      obtain ⟨its2,rv2,⟨o,ho,hc,n,hdt⟩,_⟩:=I1.tuple (.of hr')
      obtain ⟨kk,vv,e2,rk,rvv⟩:=rv2.two
      subst e2
      refine wpAny_bind (wpAny_holding (wpAny_bind (wpAny_tryCatch ?_)))
      unfold Builtin.Dict.pairItems
      refine wpAny_bind (wpAny_typeOf (T:="tuple") ⟨o,ho,hc⟩ ?_)
      rw [if_pos (by decide)]
      unfold seqItems?
      dsimp only
      refine wpAny_bind (wpAny_bind (wpAny_load ho ?_))
      rw [hdt]
      dsimp only
      refine wpAny_pure (wpAny_pure ?_)
      dsimp only [Option.getD]
      show wpAny _ _ (holding [kk,vv] (dictSet d kk vv)) _ _ _
      refine wpAny_holding (dset_atT hu I1 upd_same hka' ?_ rk rvv fun s2 I2 kp2=>?_)
      · have:=length_mergeT (kvs.take i) []
        rw [List.length_take,List.length_nil] at this
        have:=sz (show kvs.length + 0 <= 1000 by omega)
        omega
      refine wpAny_pure ⟨quiet_loop _,?_⟩
      refine upd_loopT hh hu hn hlen hp hd hpr ⟨f0,f1,f2,f3,f4,f5⟩ hitd fin (m - 1) (i + 1) s2 (by omega) (by omega) ?_ ?_
      · have e1:mergeT [] (kvs.take (i + 1))=putK (mergeT [] (kvs.take i)) k v:=by
          unfold mergeT
          rw [List.take_add_one,hkv,List.foldl_append]
          rfl
        rw [e1]
        have e2:upd (upd H d (.dT (mergeT [] (kvs.take i)))) d (.dT (putK (mergeT [] (kvs.take i)) k v))=upd H d (.dT (putK (mergeT [] (kvs.take i)) k v)):=by
          funext b
          by_cases hb:b=d
          · rw [hb,upd_same,upd_same]
          · rw [upd_ne hb,upd_ne hb,upd_ne hb]
        rw [<- e2]
        exact I2
      · obtain ⟨oi,h1,h2,h3⟩:=hit'
        exact ⟨oi,kp2 _ _ hitd h1,h2,h3⟩
    · have ei:i=kvs.length:=by omega
      subst ei
      refine wpAny_bind (wpAny_pyNext_list_end hh hit pl.isList (by
        rw [List.getElem?_toArray]
        exact List.getElem?_eq_none (by omega)) fun h' sb=>?_)
      dsimp only
      unfold Builtin.Dict.addKeywords
      simp only [List.forIn_nil]
      refine wpAny_bind (wpAny_bind (wpAny_pure (wpAny_pure ?_)))
      rw [List.take_length] at I
      obtain ⟨f0,f1,f2,f3,f4,f5⟩:=hF
      exact wpAny_pure (fin _ (I.turned (t':=s.toks) (it:=it) (fun b o hb e=>sb b o hb e) (by rw [upd_ne hitd];exact f0) f1 f3 f4 f5))
  termination_by m=>m
def rDictT (K:PySem.W.Frag):List V->Hp->VK->Prop:=fun xs H Q=>∃ (p:Addr) (rs:List Addr) (kvs:List (List Key × V)),xs=[.ref p]/\H p=some (.lst (rs.map V.ref))/\rs.length=kvs.length/\kvs.length <= 1000/\(∀ (j:Nat) r,rs[j]?=some r->∃ k v ka,kvs[j]?=some (k,v)/\H r=some (.tup [.ref ka,v])/\H ka=some (.tup (k.map kV)))/\∀ d,H d=none->Q (.ref d) (upd H d (.dT (mergeT [] kvs)))
theorem call_dictT (hc:X.calm=true) (hu:X.A.units + 64 < cLine):CallR X (.type "dict") (rDictT X.K):=by
  intro pins s σ H xs us Q I r h
  obtain ⟨p,rs,kvs,rfl,hp,hlen,hn,hpr,q⟩:=h
  obtain ⟨u,rfl,rx⟩:=vals1 r
  cases rx
  have hd:=I.hok.fresh (Nat.le_refl s.heap.objs.size)
  refine callType_codes (Q₁:=fun obj s₁=>obj=.ref s.heap.objs.size/\s₁=accD s) PySem.F.kt_called_dict (PySem.F.kt_typeCall_dict_1 _) PySem.F.entry_dict_init ?_ ?_
  · refine codeAny_call_builtin PySem.F.kt_plain_dict_new PySem.F.kt_entry_dict_new ?_
    rw [ck_dnew]
    refine wpAny_pure ?_
    rw [dnew]
    exact wpAny_bind (wpAny_newObj_type (wpAny_pure ⟨rfl,rfl⟩) (by show (#[]:Array DictEntry).size <= _;exact Nat.zero_le _))
  · rintro obj s₁ ⟨rfl,rfl⟩
    have I1:Inv X pins σ (upd H s.heap.objs.size (.dT [])) (accD s):=I.laid (a:=s.heap.objs.size) (o:=.dT []) (h':=s.heap.push { cls:=.type "dict",data:=.dict #[] }) (t':=s.toks) (fun _ _ q=>Heap.get?_push_of_some _ q) (Nat.le_refl _) (dt_empty s.heap I.big)
    refine ⟨⟨_,Heap.get?_push_size _ rfl,rfl⟩,PySem.F.args_dict_init_2 _ _,?_⟩
    have npd:p ≠ s.heap.objs.size:=fun e=>by rw [e,hd] at hp;cases hp
    have hp1:upd H s.heap.objs.size (.dT []) p=some (.lst (rs.map V.ref)):=by rw [upd_ne npd];exact hp
    obtain ⟨its,rv,⟨o,n,ho,hc1,hc2,hc3⟩,hz⟩:=I1.list (.of hp1)
    obtain ⟨c,dt,sl⟩:=o
    dsimp only at hc1 hc2 hc3
    subst hc1 hc2 hc3
    have hh:X.A.handled=none:=I.ok.hd hc
    unfold Builtin.«dict.__init__» Builtin.Dict.selfAndRest Builtin.Dict.notOrdered
    rw [if_pos (by decide)]
    refine wpAny_bind (wpAny_bind (wpAny_bind (wpAny_typeOf (T:="dict") ⟨_,Heap.get?_push_size _ rfl,rfl⟩ ?_)))
    rw [if_neg (by decide)]
    refine wpAny_pure ?_
    dsimp only
    unfold Builtin.Dict.addrOf
    refine wpAny_bind (wpAny_pure (wpAny_pure ?_))
    dsimp only
    unfold Builtin.Dict.updateCommon
    dsimp only
    unfold Builtin.Dict.updateFrom
    refine wpAny_bind (wpAny_typeOf (T:="list") ⟨_,ho,rfl⟩ ?_)
    rw [if_pos (by decide)]
    refine wpAny_bind (attr_keys ho hh fun h' tk kp=>?_)
    rw [if_pos (show (none:Option Value).isNone=true from rfl)]
    refine wpAny_bind (wpAny_rule ?_)
    have I2:=I1.kept (t':=tk) kp
    obtain ⟨its2,rv2,pl2,hz2⟩:=I2.list (.of hp1)
    refine wpAny_bind (wpAny_pyIter_list pl2.isList ?_)
    have hsz:s.heap.objs.size < h'.objs.size:=Heap.lt_size (kp _ _ (Heap.get?_push_size s.heap (o:={ cls:=.type "dict",data:=.dict #[] }) rfl))
    refine wpAny_pure ⟨quiet_loop _,?_⟩
    have hit:H h'.objs.size=none:=by
      have:=I2.hok.fresh (Nat.le_refl h'.objs.size)
      rw [upd_ne (Nat.ne_of_gt hsz)] at this
      exact this
    refine upd_loopT (X:=X) (pins:=pins) (σ:=σ) (H:=H) (A:=X.A.in1) hh (by show X.A.units + 1 + 1 < cLine;omega) hn hlen hp hd hpr (I2.fpOk (Nat.le_refl _) hit) (Nat.ne_of_gt hsz) ?_ kvs.length 0 _ rfl (Nat.zero_le _) ?_ ?_
    · exact fun s' Ie=>⟨rfl,.ref s.heap.objs.size,_,Ie,rfl,q _ hd⟩
    · exact I2.kept (t':=tk) fun _ _ e=>Heap.get?_push_of_some _ e
    · exact ⟨_,Heap.get?_push_size _ rfl,rfl,rfl⟩
end
end L2
namespace L2
open PySem PySem.Spec PyProof.Rows HT
section
variable {prog:Program} {w:World} {A:Around} {E:Value->Shared->Prop} {s:Shared}
theorem collect_tup {l:Addr} {vs:List Value} {Q:List Value->Shared->Prop} (hl:IsTup s.heap l vs.toArray)
    (h:Q vs { s with heap:=(s.heap.push (seqObj "list" #[] 0)).update s.heap.objs.size (Obj.mapSeq (· ++ vs.toArray)) }) (hsz:vs.length <= sizeLine):wpAny (model prog w) A (collect (.ref l)) Q E s:=by
  obtain ⟨o,ho,hc,n,hd⟩:=id hl
  unfold collect
  refine wpAny_bind (wpAny_runValue (codeAny_builtin entry_proto_collect' ?_))
  show wpAny _ _ (do again (.builtin "list.__iadd__" ⟨[<- newList [],.ref l],[]⟩)) _ _ s
  refine wpAny_bind (wpAny_newList (wpAny_pure ⟨Code.quiet_builtin _ (by decide +kernel),codeAny_builtin entry_list_iadd' ?_⟩))
  show wpAny _ _ (Builtin.List.listExtendWith (.ref s.heap.objs.size) (.ref l) (.ref s.heap.objs.size)) _ _ { s with heap:=s.heap.push (seqObj "list" #[] 0) }
  unfold Builtin.List.listExtendWith
  have e1:(s.heap.push (seqObj "list" #[] 0)).get? l=some o:=Heap.get?_push_of_some _ ho
  refine wpAny_bind (wpAny_typeOf (T:="tuple") ⟨o,e1,hc⟩ ?_)
  rw [if_pos (by rw [Bool.or_eq_true];exact .inr rfl)]
  refine wpAny_bind (listItems_at e1 hd (wpAny_bind (listItems_at (xs:=#[]) (n:=0) (Heap.get?_push_size _ rfl) rfl ?_)))
  rw [if_neg (by simp)]
  refine wpAny_bind (listUpdate_at (xs:=#[]) (n:=0) (Heap.get?_push_size _ rfl) rfl (wpAny_pure ?_) (Nat.zero_le _) (by show (#[] ++ vs.toArray).size <= sizeLine + 1;simp only [Array.size_append,List.size_toArray,List.length_nil];omega))
  show wpAny (model prog w) A (do
      let o <- load s.heap.objs.size
      match o.data with
      | .seq xs _=>pure xs.toList
      | _=>unsupported "internal:collect") Q E { s with heap:=(s.heap.push (seqObj "list" #[] 0)).update s.heap.objs.size (Obj.mapSeq (· ++ vs.toArray)) }
  refine wpAny_bind (wpAny_load (get?_update_seq (Heap.get?_push_size _ rfl) _) ?_)
  show wpAny _ _ (pure ((#[]:Array Value) ++ vs.toArray).toList) Q E _
  rw [show ((#[]:Array Value) ++ vs.toArray).toList=vs by simp]
  exact wpAny_pure h
end
section
variable {X:Cx} {H:Hp}
def rSortT (K:PySem.W.Frag):List V->Hp->VK->Prop:=fun xs H Q=>∃ (p:Addr) (ns:List Int),xs=[.ref p]/\SqT K H p (ns.map V.int)/\ns.length < 64 /\
  ∀ (D:Addr) (ms:List Int) (H':Hp),ms.Perm ns->ms.Pairwise (· <= ·)->Same H H'->H' D=some (.lst (ms.map V.int))->Q (.ref D) H'
theorem call_sortT:CallR X (.builtin "sorted") (rSortT X.K):=by
  intro pins s σ H xs us Q I rr h
  obtain ⟨p,ns,rfl,hp,h64,q⟩:=h
  cases rr with
  | cons r1 rr =>
    cases rr
    cases r1
    obtain ⟨its,rv',hl,hz⟩:=I.tuple hp
    obtain ⟨eN,hint⟩:=ints_rv rv'
    have hIA:=intsAre_of rv'
    have hil:its.length=ns.length:=by rw [<- eN,List.length_map]
    refine Calls.call_function_entry kind_sorted plain_sorted entry_sorted (args_sorted1 _) ?_
    unfold Builtin.«sorted»
    refine wpAny_bind (m:=checkCount "sorted" 1 1 _) (wpAny_pure ?_)
    refine wpAny_bind (collect_tup hl ?_ (by rw [sizeLine_eq];omega))
    refine wpAny_bind (wpAny_newList ?_ (by rw [sizeLine_eq];omega))
    obtain ⟨h',eh'⟩:∃ h',h'=(s.heap.push (seqObj "list" #[] 0)).update s.heap.objs.size (Obj.mapSeq (· ++ its.toArray)):=⟨_,rfl⟩
    rw [<- eh']
    have hsz:h'.objs.size=s.heap.objs.size + 1:=by rw [eh',Heap.size_update,size_push']
    have k1:∀ b o,s.heap.get? b=some o->h'.get? b=some o:=fun b o q=>by
      have hlt:b < s.heap.objs.size:=Heap.lt_size q
      rw [eh',Heap.get?_update_ne _ _ _ _ (Nat.ne_of_lt hlt),Heap.get?_push_ne _ _ _ (Nat.ne_of_lt hlt)]
      exact q
    have hB:(h'.push (seqObj "list" its.toArray 0)).get? h'.objs.size=some (seqObj "list" its.toArray 0):=Heap.get?_push_size _ rfl
    have k2:∀ b o,s.heap.get? b=some o->(h'.push (seqObj "list" its.toArray 0)).get? b=some o:=fun b o e=>Heap.get?_push_of_some _ (k1 b o e)
    have lt1:∀ b o,s.heap.get? b=some o->b ≠ h'.objs.size:=fun b o e=>by
      have:=Heap.lt_size e
      rw [hsz]
      exact Nat.ne_of_lt (Nat.lt_succ_of_lt this)
    show wpAny _ _ _ _ _ { s with heap:=h'.push (seqObj "list" its.toArray 0) }
    refine wpAny_bind (wpAny_holding (wpAny_call_entry slot_list_sort ⟨_,hB,rfl⟩ entry_list_sort ?body (args_list_sort _)))
    refine So.sort_raw64 (rv:=rvI) (s:={ s with heap:=h'.push (seqObj "list" its.toArray 0) }) (vs:=its) hB (by rw [hil];exact h64) (fun h2 h1 kp=>?_) (fun h5 vs' c' hpm hup kp hB5=>?_)
    · rw [PyProof.Rows.ksk_kind (keys:=its.toArray) (kz:=ns) (by simpa using hIA) (by simpa using h2)]
      refine wpAny_pure ⟨rfl,fun x y hx hy Q hQ=>?_⟩
      obtain ⟨x1,x2⟩:=x
      obtain ⟨y1,y2⟩:=y
      dsimp only at hx hy hQ ⊢
      obtain ⟨i,t,rfl⟩:=hint x1 hx
      obtain ⟨j,u,rfl⟩:=hint y1 hy
      exact PySem.W.kat_lt_int hQ
    · refine ⟨_,rfl,wpAny_pure ⟨_,rfl,?_⟩⟩
      have hint':∀ v ∈ vs',∃ i t,v=Value.int i t:=fun v hv=>hint v (hpm.mem_iff.mp hv)
      have k5:∀ b o,s.heap.get? b=some o->h5.get? b=some o:=fun b o e=>kp b o (lt1 b o e) (k2 b o e)
      have J:=I.lays (N:=fun b=>if b=h'.objs.size then some (.lst ((vs'.map rvI).map V.int)) else none) (h':=h5) (t':=s.toks) k5 (fun b o hb e=>?_)
      · refine ⟨.ref h'.objs.size,_,J,rfl,q _ (vs'.map rvI) _ ?_ ?_ (fun b o e=>?_) ?_⟩
        · rw [<- eN];exact hpm.map _
        · rw [List.pairwise_map];exact hup
        · show (if b < s.heap.objs.size then H b else _)=some o
          rw [if_pos (I.hok.lt e)];exact e
        · show (if h'.objs.size < s.heap.objs.size then H h'.objs.size else (if h'.objs.size=h'.objs.size then _ else _))=_
          rw [if_neg (by rw [hsz];exact Nat.not_lt_of_le (Nat.le_succ _)),if_pos rfl]
      · by_cases hbB:b=h'.objs.size
        · rw [if_pos hbB] at e
          cases e
          refine ⟨?_,vs',c',vals_rv hint',?_⟩
          · rw [List.length_map,List.length_map,hpm.length_eq,sizeLine_eq];omega
          · rw [hbB,hB5]
        · rw [if_neg hbB] at e
          cases e
end
end L2
namespace Mo
open L2 HT Mt Md
def zI (ds:List Nat):List Int:=ds.map fun (k:Nat)=>(k:Int)
theorem zI_inj {a b:List Nat} (h:zI a=zI b):a=b:=by
  have:(fun (k:Nat)=>(k:Int)).Injective:=fun x y e=>by exact Int.ofNat.inj e
  exact (List.map_inj_right this).mp h
theorem zI_len (a:List Nat):(zI a).length=a.length:=List.length_map ..
def dr (n:Nat):Nat->List (List Nat)
  | 0=>[[]]
  | k + 1=>(dr n k).flatMap fun d=>(List.range n).map fun j=>d ++ [j]
theorem dr_iff {n:Nat}:∀ {k:Nat} {d:List Nat},d ∈ dr n k ↔ d.length=k/\∀ x ∈ d,x < n
  | 0,d=>by
    unfold dr
    rw [List.mem_singleton]
    refine ⟨fun e=>by rw [e];exact ⟨rfl,fun x h=>by cases h⟩,fun ⟨h,_⟩=>List.length_eq_zero_iff.mp h⟩
  | k + 1,d=>by
    unfold dr
    rw [List.mem_flatMap]
    constructor
    · rintro ⟨a,ha,h⟩
      obtain ⟨j,hj,rfl⟩:=List.mem_map.mp h
      obtain ⟨h1,h2⟩:=dr_iff.mp ha
      refine ⟨by rw [List.length_append,h1];rfl,fun x hx=>?_⟩
      rcases List.mem_append.mp hx with z | z
      · exact h2 x z
      · rw [List.mem_singleton.mp z];exact List.mem_range.mp hj
    · rintro ⟨h1,h2⟩
      have hne:d ≠ []:=fun z=>by rw [z] at h1;cases h1
      refine ⟨d.dropLast,dr_iff.mpr ⟨by rw [List.length_dropLast];omega,fun x hx=>h2 x (List.dropLast_subset d hx)⟩,List.mem_map.mpr ⟨d.getLast hne,List.mem_range.mpr (h2 _ (List.getLast_mem hne)),List.dropLast_concat_getLast hne⟩⟩
theorem dr_len (n:Nat):∀ k,(dr n k).length=n ^ k
  | 0=>rfl
  | k + 1=>by
    unfold dr
    rw [List.length_flatMap]
    have:(dr n k).map (fun d=>((List.range n).map fun j=>d ++ [j]).length)=(dr n k).map fun _=>n:=List.map_congr_left fun d _=>by rw [List.length_map,List.length_range]
    rw [this,List.map_const',List.sum_replicate_nat,dr_len n k,Nat.pow_succ]
theorem lex_snoc:∀ {a b:List Int} (i j:Int),a.length=b.length->lexLt (a ++ [i]) (b ++ [j])=if a=b then decide (i < j) else lexLt a b
  | [],[],i,j,_=>by
    rw [if_pos rfl]
    show (if i=j then lexLt [] [] else decide (i < j))=_
    by_cases e:i=j
    · rw [if_pos e,e];exact (decide_eq_false (by omega)).symm
    · rw [if_neg e]
  | x :: a,y :: b,i,j,h=>by
    show (if x=y then lexLt (a ++ [i]) (b ++ [j]) else decide (x < y))=_
    by_cases e:x=y
    · rw [if_pos e,lex_snoc i j (by simpa using h)]
      by_cases e2:a=b
      · rw [if_pos e2,if_pos (by rw [e,e2])]
      · rw [if_neg e2,if_neg (fun z=>e2 (by injection z)),lexLt_cons,if_pos e]
    · rw [if_neg e,if_neg (fun z=>e (by injection z)),lexLt_cons,if_neg e]
  | [],_ :: _,_,_,h=>by cases h
  | _ :: _,[],_,_,h=>by cases h
theorem dr_pw (n:Nat):∀ k,(dr n k).Pairwise fun a b=>lexLt (zI a) (zI b)=true
  | 0=>List.pairwise_singleton ..
  | k + 1=>by
    unfold dr
    have sn:∀ (a:List Nat) (j:Nat),zI (a ++ [j])=zI a ++ [(j:Int)]:=fun a j=>by unfold zI;rw [List.map_append];rfl
    refine List.pairwise_flatMap.mpr ⟨fun a _=>List.pairwise_map.mpr (List.pairwise_lt_range.imp fun {i j} h=>?_),?_⟩
    · rw [sn,sn,lex_snoc _ _ rfl,if_pos rfl]
      exact decide_eq_true (by omega)
    · refine List.Pairwise.imp_of_mem ?_ (dr_pw n k)
      intro a b ha hb h x hx y hy
      obtain ⟨i,_,rfl⟩:=List.mem_map.mp hx
      obtain ⟨j,_,rfl⟩:=List.mem_map.mp hy
      rw [sn,sn,lex_snoc _ _ (by rw [zI_len,zI_len,(dr_iff.mp ha).1,(dr_iff.mp hb).1]),if_neg fun e=>by rw [e,lex_irr] at h;cases h]
      exact h
def srt (ds:List Nat):List Nat:=ds.mergeSort fun a b=>decide (a <= b)
theorem srt_perm (ds:List Nat):(srt ds).Perm ds:=List.mergeSort_perm ..
theorem srt_pw (ds:List Nat):(srt ds).Pairwise (· <= ·):=by
  have:=List.pairwise_mergeSort (le:=fun (a b:Nat)=>decide (a <= b)) (fun a b c h1 h2=>by simp only [decide_eq_true_eq] at *;omega) (fun a b=>by simp only [Bool.or_eq_true,decide_eq_true_eq];omega) ds
  exact this.imp fun h=>of_decide_eq_true h
theorem pw_zI {a:List Nat} (h:a.Pairwise (· <= ·)):(zI a).Pairwise (· <= ·):=List.pairwise_map.mpr (h.imp fun h=>by omega)
theorem srt_of {ms:List Int} {ds:List Nat} (h:ms.Perm (zI ds)) (hp:ms.Pairwise (· <= ·)):ms=zI (srt ds):=by
  have h2:ms.Perm (zI (srt ds)):=h.trans ((srt_perm ds).map _).symm
  exact h2.eq_of_pairwise (fun a b _ _ x y=>by omega) hp (pw_zI (srt_pw ds))
theorem srt_eq {a b:List Nat} (h:a.Perm b):srt a=srt b:=zI_inj (srt_of ((h.symm.map _ |>.symm |>.trans (List.Perm.refl _)) |> fun q=>((srt_perm a).map _).trans q) (pw_zI (srt_pw a)))
theorem srt_srt (a:List Nat):srt (srt a)=srt a:=srt_eq (srt_perm a)
theorem lex_least:∀ {ms ns:List Int},ms.Perm ns->ms.Pairwise (· <= ·)->lexLt ns ms=false
  | [],ns,h,_=>by rw [h.symm.eq_nil];rfl
  | m :: ms,[],h,_=>by cases h.eq_nil
  | m :: ms,n :: ns,h,hp=>by
    have hm:m <= n:=by
      rcases List.mem_cons.mp (h.mem_iff.mpr (List.mem_cons_self:n ∈ n :: ns)) with e | e
      · omega
      · exact (List.pairwise_cons.mp hp).1 n e
    rw [lexLt_cons]
    by_cases e:n=m
    · subst e
      rw [if_pos rfl]
      exact lex_least ((List.perm_cons _).mp h) (List.pairwise_cons.mp hp).2
    · rw [if_neg e];exact decide_eq_false (by omega)
theorem srt_least (ds:List Nat):lexLt (zI ds) (zI (srt ds))=false:=lex_least ((srt_perm ds).map _) (pw_zI (srt_pw ds))
theorem dr_srt {n k:Nat} {d:List Nat} (h:d ∈ dr n k):srt d ∈ dr n k:=by
  obtain ⟨h1,h2⟩:=dr_iff.mp h
  exact dr_iff.mpr ⟨by rw [(srt_perm d).length_eq,h1],fun x hx=>h2 x ((srt_perm d).mem_iff.mp hx)⟩
def Un (c:List Nat->Rat) (a b:List Nat):Prop:=lexLt (zI a) (zI b)=true/\srt a=srt b/\c a ≠ c b
def IsF (c:List Nat->Rat) (R:List (List Nat)):Option (List Nat × List Nat)->Prop
  | none=>∀ a ∈ R,∀ b ∈ R,¬ Un c a b
  | some (a,b)=>a ∈ R/\b ∈ R/\Un c a b/\∀ a' ∈ R,∀ b' ∈ R,Un c a' b'->lex2 (zI a',zI b') (zI a,zI b)=false
theorem lex2_tri {a b a' b':List Int} (h1:lex2 (a,b) (a',b')=false) (h2:lex2 (a',b') (a,b)=false):a=a'/\b=b':=by
  unfold lex2 at h1 h2
  dsimp only at h1 h2
  by_cases e:a=a'
  · rw [if_pos e] at h1;rw [if_pos e.symm] at h2
    exact ⟨e,lex_tri h1 h2⟩
  · rw [if_neg e] at h1;rw [if_neg (Ne.symm e)] at h2
    exact absurd (lex_tri h1 h2) e
theorem IsF.uniq {c:List Nat->Rat} {R:List (List Nat)}:∀ {o1 o2:Option (List Nat × List Nat)},IsF c R o1->IsF c R o2->o1=o2
  | none,none,_,_=>rfl
  | none,some (a,b),h1,h2=>absurd h2.2.2.1 (h1 a h2.1 b h2.2.1)
  | some (a,b),none,h1,h2=>absurd h1.2.2.1 (h2 a h1.1 b h1.2.1)
  | some (a,b),some (a',b'),h1,h2=>by
    obtain ⟨e1,e2⟩:=lex2_tri (h2.2.2.2 a h1.1 b h1.2.1 h1.2.2.1) (h1.2.2.2 a' h2.1 b' h2.2.1 h2.2.2.1)
    rw [zI_inj e1,zI_inj e2]
theorem un_srt {c:List Nat->Rat} {b:List Nat} (h:c b ≠ c (srt b)):Un c (srt b) b:=by
  refine ⟨?_,srt_srt b,fun e=>h e.symm⟩
  cases e:lexLt (zI (srt b)) (zI b) with
  | true=>rfl
  | false=>rw [zI_inj (lex_tri e (srt_least b))] at h;exact absurd rfl h
theorem isF_none {c:List Nat->Rat} {n k:Nat} (h:∀ b ∈ dr n k,c b=c (srt b)):IsF c (dr n k) none:=fun a ha b hb hu=>hu.2.2 (by rw [h a ha,h b hb,hu.2.1])
theorem isF_some {c:List Nat->Rat} {n k:Nat} {b:List Nat} (hb:b ∈ dr n k) (hc:c b ≠ c (srt b)) (hm:∀ d ∈ dr n k,c d ≠ c (srt d)->lex2 (zI (srt d),zI d) (zI (srt b),zI b)=false):IsF c (dr n k) (some (srt b,b)):=by
  refine ⟨dr_srt hb,hb,un_srt hc,fun x hx y hy hu=>?_⟩
  cases q:lex2 (zI x,zI y) (zI (srt b),zI b) with
  | false=>rfl
  | true =>
    exfalso
    by_cases hcx:c x=c (srt x)
    · have hcy:c y ≠ c (srt y):=fun e=>hu.2.2 (by rw [hcx,e,hu.2.1])
      have h1:=hm y hy hcy
      by_cases e:x=srt y
      · rw [e] at q;rw [q] at h1;cases h1
      · have l:lexLt (zI (srt y)) (zI x)=true:=by
          cases z:lexLt (zI (srt y)) (zI x) with
          | true=>rfl
          | false=>exact absurd (zI_inj (lex_tri z (by rw [<- hu.2.1];exact srt_least x))).symm e
        have:lex2 (zI (srt y),zI y) (zI x,zI y)=true:=by
          unfold lex2;dsimp only;rw [if_neg fun z=>by rw [z,lex_irr] at l;cases l];exact l
        rw [lex2_trans this q] at h1;cases h1
    · have h1:=hm x hx hcx
      have l:=(un_srt hcx).1
      have:lex2 (zI (srt x),zI x) (zI x,zI y)=true:=by
        unfold lex2;dsimp only;rw [if_neg fun z=>by rw [z,lex_irr] at l;cases l];exact l
      rw [lex2_trans this q] at h1;cases h1
end Mo
namespace L2
open PySem PySem.Spec PyProof.Rows
theorem blk2_lr {K:PySem.W.Frag} {σ0:St} {te:TE} {H:Hp} {F:List V->Hp->Prop} {a:Addr} {xs:List V} {n i0 i1:Nat} {wj:TI} (Pv:Nat->Nat->List V->Hp->Prop) (h0:Pv 0 0 [] H) (hl:∀ i j ys H,Pv i j ys H->ys.length <= sizeLine)
    (hq:∀ i ys H,i <= xs.length->Pv i 0 ys H->SqL K H a xs) (hσ:σ0[i0]?=some none) (hσ1:σ0[i1]?=some none) (hne:i0 ≠ i1)
    (hw:∀ x H R,R (Itr 0 n) H->wj (σ0.set i0 (some x)) H R)
    (hs:∀ i j x ys H,xs[i]?=some x->j < n->Pv i j ys H->te ((σ0.set i0 (some x)).set i1 (some (.int (0 + j)))) H fun y H'=>Pv i (j + 1) (ys ++ [y]) H')
    (hx:∀ i ys H,i < xs.length->Pv i n ys H->Pv (i + 1) 0 ys H) (hd:∀ ys H,Pv xs.length 0 ys H->F ys H):Blk2 (Itl K a) σ0 (gName i0) wj (gName i1) tTrue te H F:=by
  refine ⟨fun i m ys H=>m=xs.length - i/\i <= xs.length/\Pv i 0 ys H,⟨xs.length,by simp,Nat.zero_le _,h0⟩,?_⟩
  rintro i m ys H2 ⟨rfl,hi,p⟩
  have q:=hq i ys H2 hi p
  refine ⟨hl i 0 ys H2 p,?_⟩
  by_cases hlt:i < xs.length
  · refine .inr ⟨⟨xs,xs[i],q,by simp [hlt]⟩,fun x H3 y=>?_⟩
    obtain ⟨rfl,y⟩:=y
    have hxi:=y xs q
    refine ⟨Wk.set (.inl hσ),hw x _ _ ?_⟩
    refine ⟨fun j m' ys H=>m'=n - j/\j <= n/\Pv i j ys H,⟨n,by simp,Nat.zero_le _,p⟩,?_⟩
    rintro j m' ys' H5 ⟨rfl,hj,p'⟩
    refine ⟨hl i j ys' H5 p',?_⟩
    by_cases hjn:j < n
    · refine .inr ⟨hjn,fun y H'=>Pv i (j + 1) (ys' ++ [y]) H',fun _=>False,fun y H' q=>⟨n - (j + 1),by omega,rfl,hjn,q⟩,fun _ q=>q.elim,fun z H6 yz=>?_⟩
      obtain ⟨rfl,rfl⟩:=yz
      refine ⟨Wk.set (.inl ?_),hs i j x ys' _ hxi hjn p'⟩
      rw [List.getElem?_set_ne hne];exact hσ1
    · have e:j=n:=by omega
      subst e
      exact .inl ⟨Nat.le_refl _,xs.length - (i + 1),by omega,rfl,hlt,hx i ys' H5 hlt p'⟩
  · have e:i=xs.length:=by omega
    subst e
    exact .inl ⟨⟨xs,q,Nat.le_refl _⟩,hd ys H2 p⟩
end L2
namespace G
open PySem PySem.Spec PyProof.Rows L2 Mt Md Mo
structure CtO (mg:Str->Option Value):Prop where
  order:∃ t,mg "MOST_ORDER_DRAWS"=some (.int 4 t)
theorem boot_sorted:bootBuiltins "sorted"=some (Value.builtin "sorted"):=by decide +kernel
theorem neD_at {H:Hp} {p r:Addr} {a b:List Int} {Q:VK} (hp:H p=some (.tup (a.map V.int))) (hr:H r=some (.tup (b.map V.int))) (q:Q (.bl (!decide (a=b))) H):rNeD (.ref p) (.ref r) H Q :=
  neD_dec (l:=p + r + 1) (Dt.mkI (Nat.ne_of_lt (Nat.lt_succ_of_le (Nat.le_add_right p r))) hp) (Dt.mkI (Nat.ne_of_lt (Nat.lt_succ_of_le (Nat.le_add_left r p))) hr) q
theorem zI_snoc (a:List Nat) (j:Nat):zI (a ++ [j])=zI a ++ [(j:Int)]:=by unfold zI;rw [List.map_append];rfl
theorem dr256 {n k:Nat} (n4:n <= 4) (k4:k <= 4):(dr n k).length <= 256:=by
  rw [dr_len]
  exact Nat.le_trans (Nat.pow_le_pow_left n4 k) (Nat.pow_le_pow_right (n:=4) (by decide) k4)
section
variable {P:Program} {w:World} {K:PySem.W.Frag} {mg:Str->Option Value} {base:Heap} {f:Addr} {fd:FuncData} {ec:Nat->Addr} {Bs:Addr}
def sp_ad:Sp:=fun vs H Q _=>∃ n k:Nat,vs=[.int n,.int k]/\n <= 4/\k <= 4/\∀ p ys H',Same H H'->H' p=some (.lst ys)->TL H' ((dr n k).map zI) ys->Q (.ref p) H'
abbrev s_ad:Stmt:=top 39
theorem sc_ad:FnScope ["kinds","many","found","turn"] ["kinds","many"] (defScope s_ad):=⟨rfl,rfl,rfl,by decide +kernel,rfl,by decide +kernel,by decide +kernel⟩
theorem ok_ad (F:Fun K "all_draws" "all_draws" s_ad f fd) (B:Bt mg):FnOk P w K mg base CX0 1 f fd ["kinds","many"] sp_ad:=by
  refine F.ok sc_ad (fun vs H Q E h=>?_) (fun cdv A outer s H vs Q E hr h=>?_)
  · obtain ⟨n,k,rfl,_⟩:=h
    rfl
  obtain ⟨n,k,rfl,n4,k4,q⟩:=h
  refine ⟨_,pss_cons (ps_set (i:=2) sc_ad.nd rfl (Or.inl rfl) (pe_lst (pa_cons (pe_tup pa_nil) pa_nil)))
    (pss_cons (ps_for PassesOwn.never rfl (pi_range1 rfl B.range (pa_cons (pv 1) pa_nil)) (pg_name (i:=3) sc_ad.nd rfl (Or.inl rfl))
      (pss_one (ps_setcomp2 (N:=["draws","kind","kinds"]) (ix:=[none,none,some 0]) (fs:=[]) (tc:=tTrue) (i:=2) rfl sc_ad.nd rfl rfl (pi_list (pv 2))
        (fun s H ex=>pg_c (i:=0) (by decide +kernel) rfl (Or.inl rfl) (.inr rfl)) (fun s H ex=>pi_range1 rfl B.range (pa_cons (pv 2) pa_nil)) (fun s H ex=>pg_c (i:=1) (by decide +kernel) rfl (Or.inl rfl) (.inr rfl)) (fun s H ex=>pifs_nil)
        (fun s H ex=>pe_op catS (pv 0) (pe_tup (pa_cons (pv 1) pa_nil))) rfl (by decide +kernel) (by rfl) (by rfl) (fun _=>rfl) (fun _ _ _ _=>rfl) (by rfl))))
    (pss_one (ps_ret (pv 2)))),?_⟩
  refine ⟨(by show 0 <= sizeLine;decide),fun p0 hp0=>⟨(by show 1 <= sizeLine;decide),fun pl hpl=>?_⟩⟩
  have g0:Same H (upd H p0 (.tup [])):=Same.new hp0
  have h0:upd H p0 (.tup []) p0=some (.tup []):=upd_same
  try dsimp -proj only [gName] at *
  generalize upd H p0 (.tup [])=H0 at g0 h0 hpl
  have g1:Same H0 (upd H0 pl (.lst [.ref p0])):=Same.new hpl
  have h1:upd H0 pl (.lst [.ref p0]) pl=some (.lst [.ref p0]):=upd_same
  generalize upd H0 pl (.lst [.ref p0])=H1 at g1 h1
  refine ⟨_,rfl,(k:Int),rfl,by omega,by omega,?_⟩
  refine for_range (lo:=0) (n:=k) (fun j σ H4=>Same H H4/\j <= k/\∃ p ys o3,σ=[some (.int n),some (.int k),some (.ref p),o3]/\H4 p=some (.lst ys)/\TL H4 ((dr n j).map zI) ys)
    ⟨g0.trans g1,Nat.zero_le _,pl,_,none,rfl,h1,⟨p0,rfl,g1 _ _ h0⟩,trivial⟩ (fun j σ H4 hj h=>?_) (fun σ H4 h=>?_)
  · obtain ⟨g4,hjk,p,ys,o3,rfl,hp4,hT⟩:=h
    have lA:=dr256 (n:=n) (k:=j) n4 (by omega)
    have lB:=dr256 (n:=n) (k:=j + 1) n4 (by omega)
    have ed:dr n (j + 1)=(dr n j).flatMap fun d=>(List.range n).map fun y=>d ++ [y]:=rfl
    have dm:∀ d ∈ dr n j,d.length=j:=fun d hd=>(dr_iff.mp hd).1
    generalize dr n (j + 1)=A' at ed lB
    generalize dr n j=A at hT lA ed dm
    have yl:ys.length=A.length:=by rw [<- hT.len,List.length_map]
    refine ⟨_,rfl,p,rfl,⟨_,.of hp4⟩,?_⟩
    refine blk2_lr (xs:=ys) (n:=n) (fun i y cs H7=>Same H4 H7/\i <= A.length/\y <= n/\(y=0 ∨ i < A.length)/\TL H7 (((A.take i).flatMap (fun d=>(List.range n).map fun y=>d ++ [y]) ++ (List.range y).map fun y=>A.getD i [] ++ [y]).map zI) cs)
      ⟨Same.refl _,Nat.zero_le _,Nat.zero_le _,.inl rfl,trivial⟩ (fun i y cs H7 h=>?_) (fun i cs H7 _ h=>.of (h.1 _ _ hp4)) rfl rfl (by decide) (fun x H7 R h=>⟨_,rfl,(n:Int),rfl,by omega,by omega,h⟩) (fun i y x cs H7 hx hy h=>?_) (fun i cs H7 hi h=>?_) (fun cs H7 h=>?_)
    · obtain ⟨_,hi,hy,hz,hc⟩:=h
      refine sz ?_
      rw [<- hc.len,List.length_map,List.length_append,List.length_map,List.length_range]
      have:∀ i,((A.take i).flatMap fun d=>(List.range n).map fun y=>d ++ [y]).length <= A'.length:=fun i=>by
        rw [ed]
        conv=>rhs;rw [<- List.take_append_drop i A,List.flatMap_append,List.length_append]
        omega
      have:=this i
      omega
    · obtain ⟨g7,hi,hyn,hz,hc⟩:=h
      obtain ⟨z,d,hz',rfl,hd⟩:=(hT.same g7).get hx
      rw [List.getElem?_map] at hz'
      obtain ⟨s0,hs0,ez⟩:=Option.map_eq_some_iff.mp hz'
      subst ez
      have e0:(0:Int) + (y:Int)=(y:Int):=by omega
      rw [e0]
      have sl:=dm s0 (List.mem_of_getElem? hs0)
      refine ⟨_,rfl,_,rfl,(by show 1 <= sizeLine;decide),fun p1 hp1=>⟨d,p1,(zI s0).map V.int,[.int y],rfl,rfl,(Same.new hp1) _ _ hd,upd_same,(by rw [List.length_map,zI_len];show s0.length + 1 <= _;omega),fun pd Hc gc hpd=>⟨g7.trans ((Same.new hp1).trans gc),hi,by omega,.inr (List.getElem?_eq_some_iff.mp hs0).1,?_⟩⟩⟩
      rw [List.map_append] at hc
      rw [List.range_succ,List.map_append,List.map_append,List.map_append,<- List.append_assoc]
      refine TL.snoc ?_ (hc.same ((Same.new hp1).trans gc))
      rw [hpd,List.getD_eq_getElem?_getD,hs0]
      show _=some (HO.tup ((zI (s0 ++ [y])).map V.int))
      rw [zI_snoc,List.map_append];rfl
    · obtain ⟨g7,_,_,_,hc⟩:=h
      refine ⟨g7,by omega,Nat.zero_le _,.inl rfl,?_⟩
      have hi':i < A.length:=by omega
      rw [List.range_zero,List.map_nil,List.append_nil,List.take_add_one,List.getElem?_eq_getElem hi',List.flatMap_append]
      rw [List.getD_eq_getElem?_getD,List.getElem?_eq_getElem hi'] at hc
      simpa using hc
    · obtain ⟨g7,_,_,_,hc⟩:=h
      intro pc hpc
      refine ⟨(g4.trans g7).trans (Same.new hpc),by omega,pc,cs,_,rfl,upd_same,?_⟩
      rw [List.range_zero,List.map_nil,List.append_nil,yl,List.take_length,<- ed] at hc
      exact hc.same (Same.new hpc)
  · obtain ⟨g4,_,p,ys,o3,rfl,hp4,hT⟩:=h
    exact ⟨_,rfl,q p ys H4 g4 hp4 hT⟩
end
end G
namespace G
open PySem PySem.Spec PyProof.Rows L2 Mt Md Mo
theorem kpTup {st:Addr} {H H':Hp} {o:HO} (hst:H st=some o) (ho:∀ xs,o ≠ .tup xs) (k:Kp st H H'):∀ a xs,H a=some (.tup xs)->H' a=some (.tup xs):=fun a xs q=>k _ _ (fun z=>by rw [z,hst] at q;exact ho _ (Option.some.inj q)) q
def PL (H:Hp):List (List Int × List Int)->List V->Prop
  | [],[]=>True
  | k :: ks,x :: xs=>(∃ r a b,x=.ref r/\H r=some (.tup [.ref a,.ref b])/\H a=some (.tup (k.1.map V.int))/\H b=some (.tup (k.2.map V.int)))/\PL H ks xs
  | _,_=>False
theorem PL.to {H H':Hp} (k:∀ a xs,H a=some (.tup xs)->H' a=some (.tup xs)):∀ {ks:List (List Int × List Int)} {xs:List V},PL H ks xs->PL H' ks xs
  | [],[],_=>trivial
  | _ :: _,_ :: _,h=>⟨let ⟨r,a,b,e,h1,h2,h3⟩:=h.1;⟨r,a,b,e,k _ _ h1,k _ _ h2,k _ _ h3⟩,PL.to k h.2⟩
  | [],_ :: _,h=>h.elim
  | _ :: _,[],h=>h.elim
theorem PL.snoc {H:Hp} {r a b:Addr} {x:List Int × List Int} (h1:H r=some (.tup [.ref a,.ref b])) (h2:H a=some (.tup (x.1.map V.int))) (h3:H b=some (.tup (x.2.map V.int))):∀ {ks:List (List Int × List Int)} {xs:List V},PL H ks xs->PL H (ks ++ [x]) (xs ++ [.ref r])
  | [],[],_=>⟨⟨r,a,b,rfl,h1,h2,h3⟩,trivial⟩
  | _ :: _,_ :: _,h=>⟨h.1,PL.snoc h1 h2 h3 h.2⟩
  | [],_ :: _,h=>h.elim
  | _ :: _,[],h=>h.elim
theorem PL.refs {H:Hp}:∀ {ks:List (List Int × List Int)} {xs:List V},PL H ks xs->∃ rs:List Addr,xs=rs.map V.ref/\rs.length=ks.length/\∀ (j:Nat) r k,rs[j]?=some r->ks[j]?=some k->∃ a b,H r=some (.tup [.ref a,.ref b])/\H a=some (.tup (k.1.map V.int))/\H b=some (.tup (k.2.map V.int))
  | [],[],_=>⟨[],rfl,rfl,fun j r k h=>by cases h⟩
  | k0 :: ks,x :: xs,h=>by
    obtain ⟨r,a,b,e,h1,h2,h3⟩:=h.1
    obtain ⟨rs,e2,e3,e4⟩:=PL.refs h.2
    refine ⟨r :: rs,by rw [e,e2];rfl,by rw [List.length_cons,List.length_cons,e3],fun j r' k hr hk=>?_⟩
    cases j with
    | zero=>cases hr;cases hk;exact ⟨a,b,h1,h2,h3⟩
    | succ j=>exact e4 j r' k (by simpa using hr) (by simpa using hk)
  | [],_ :: _,h=>h.elim
  | _ :: _,[],h=>h.elim
def PairV (H:Hp):Option (List Nat × List Nat)->V->Prop
  | none,u=>u=.non
  | some (a,b),u=>∃ p x y,u=.ref p/\H p=some (.tup [.ref x,.ref y])/\H x=some (.tup ((zI a).map V.int))/\H y=some (.tup ((zI b).map V.int))
theorem PairV.same {H H':Hp} (g:Same H H'):∀ {o:Option (List Nat × List Nat)} {u:V},PairV H o u->PairV H' o u
  | none,_,h=>h
  | some (_,_),_,⟨p,x,y,e,h1,h2,h3⟩=>⟨p,x,y,e,g _ _ h1,g _ _ h2,g _ _ h3⟩
structure AskO (st:Addr) (H:Hp) (n:Nat) (ns:List Int) (rs:List (List Int)) (k:Nat) (a:Addr) (v:V):Prop where
  u:Dt st H (DI ns) (.ref a)
  uu:Mt.Urn n 20 ns
  r:Dt st H (DR rs) v
  ru:Mt.Rul n 5 rs
  n1:1 <= n
  n4:n <= 4
  k4:k <= 4
  t:∃ o,H st=some o/\∀ xs,o ≠ .tup xs
theorem AskO.same {st:Addr} {H H':Hp} {n:Nat} {ns:List Int} {rs:List (List Int)} {k:Nat} {a:Addr} {v:V} (h:AskO st H n ns rs k a v) (g:Same H H'):AskO st H' n ns rs k a v :=
  ⟨h.u.kp (g.kp st),h.uu,h.r.kp (g.kp st),h.ru,h.n1,h.n4,h.k4,let ⟨o,e,q⟩:=h.t;⟨o,g _ _ e,q⟩⟩
theorem AskO.ask {st:Addr} {H:Hp} {n:Nat} {ns:List Int} {rs:List (List Int)} {k:Nat} {a d:Addr} {v:V} {ks:List Nat} (h:AskO st H n ns rs k a v) (hd:H d=some (.tup ((zI ks).map V.int))) (hk:ks ∈ dr n k):Ask st H n ns rs ks a v d:=by
  obtain ⟨o,e,q⟩:=h.t
  obtain ⟨h1,h2⟩:=dr_iff.mp hk
  exact ⟨h.u,h.uu,h.r,h.ru,Dt.mkI (fun z=>by rw [z,e] at hd;exact q _ (by injection hd)) hd,h.n1,h.n4,by have:=h.k4;omega,h2⟩
def chO (rs:List (List Int)) (ns:List Int) (d:List Nat):Rat:=(fol rs ns d).1
def unl (c:List Nat->Rat) (A:List (List Nat)):List (List Int × List Int):=(A.filter fun d=>!decide (c d=c (srt d))).map fun d=>(zI (srt d),zI d)
theorem unl_snoc (c:List Nat->Rat) (A:List (List Nat)) (d:List Nat):unl c (A ++ [d])=unl c A ++ (if c d=c (srt d) then [] else [(zI (srt d),zI d)]):=by
  unfold unl
  rw [List.filter_append,List.map_append]
  by_cases h:c d=c (srt d)
  · rw [if_pos h];simp [h]
  · rw [if_neg h];simp [h]
theorem unl_len (c:List Nat->Rat) (A:List (List Nat)):(unl c A).length <= A.length:=by unfold unl;rw [List.length_map];exact List.length_filter_le ..
theorem unl_F {c:List Nat->Rat} {n k:Nat}:(unl c (dr n k)=[]->IsF c (dr n k) none)/\∀ x,x ∈ unl c (dr n k)->(∀ y ∈ unl c (dr n k),lex2 y x=false)->∃ a b,x=(zI a,zI b)/\IsF c (dr n k) (some (a,b)):=by
  refine ⟨fun h=>isF_none fun b hb=>?_,fun x hx hm=>?_⟩
  · by_cases e:c b=c (srt b)
    · exact e
    · have:(zI (srt b),zI b) ∈ unl c (dr n k):=List.mem_map.mpr ⟨b,List.mem_filter.mpr ⟨hb,by simp [e]⟩,rfl⟩
      rw [h] at this;cases this
  · obtain ⟨b,hb,rfl⟩:=List.mem_map.mp hx
    obtain ⟨hb1,hb2⟩:=List.mem_filter.mp hb
    refine ⟨srt b,b,rfl,isF_some hb1 (by simpa using hb2) fun d hd hc=>hm _ (List.mem_map.mpr ⟨d,List.mem_filter.mpr ⟨hd,by simp [hc]⟩,rfl⟩)⟩
def DueO (d e g:PyData) (i:Nat):Prop:=(i=0/\urnD 20 d=false) ∨ (i=1/\urnD 20 d=true/\ruleD (lenD d) e=false) ∨ (i=5/\urnD 20 d=true/\ruleD (lenD d) e=true/\wholeD 0 4 g=false)
def RefO (ec:Nat->Addr) (vs:List V) (H:Hp) (E:XK):Prop:=∃ (st:Addr) (u v x:V) (d e g:PyData) (i:Nat),vs=[u,v,x]/\Dt st H d u/\short d/\Dt st H e v/\ok2 e/\Dt st H g x/\DueO d e g i/\∀ H',Same H H'->E (.ref (ec i)) none H'
theorem sm_4:Sm 4:=sm_k (by decide) (by decide)
section
variable {P:Program} {w:World} {K:PySem.W.Frag} {mg:Str->Option Value} {base:Heap} {f:Addr} {fd:FuncData} {ec:Nat->Addr} {Bs:Addr}
def sp_fuV:Sp:=fun vs H Q _=>∃ (st a:Addr) (v:V) (n k:Nat) (ns:List Int) (rs:List (List Int)),vs=[.ref a,v,.int k]/\AskO st H n ns rs k a v /\
  ∀ o u H',Same H H'->IsF (chO rs ns) (dr n k) o->PairV H' o u->Q u H'
def sp_fu (ec:Nat->Addr):Sp:=fun vs H Q E=>RefO ec vs H E ∨ sp_fuV vs H Q E
abbrev s_fu:Stmt:=top 40
theorem sc_fu:FnScope ["urn","rule","draws","unlike","order","least"] ["urn","rule","draws"] (defScope s_fu):=⟨rfl,rfl,rfl,by decide +kernel,rfl,by decide +kernel,by decide +kernel⟩
theorem ok_fu (F:Fun K "first_unlike" "first_unlike" s_fu f fd) (B:Bt mg) (B3:Bt3 mg) (C2:CtO mg) (c1:CalX P w K mg base 6 "need_urn_and_rule" ["urn","rule"] (sp_nur ec)) (c2:CalX P w K mg base 2 "need_number" ["thing","low","high"] (sp_need_number ec)) (c3:Cal P w K mg base 1 "all_draws" ["kinds","many"] sp_ad) (c4:CalX P w K mg base 8 "chance_of" ["urn","rule","draws"] (sp_chance_of ec)):FnOk P w K mg base (CX1 P w) 9 f fd ["urn","rule","draws"] (sp_fu ec):=by
  refine F.okX sc_fu (fun vs H Q E h=>?_) (fun cdv A outer s H vs Q E hr h=>?_)
  · rcases h with ⟨st,u,v,x,d,e,g,i,rfl,_⟩ | ⟨st,a,v,n,k,ns,rs,rfl,_⟩
    · rfl
    · rfl
  obtain ⟨tw,hW⟩:=C2.order
  refine ⟨_,pss_cons (ps_expr (pe_calx (c1.up (by decide)) hr rfl passes1 (pa_cons (pv 0) (pa_cons (pv 1) pa_nil)))) (pss_cons (ps_expr (pe_calx (c2.up (by decide)) hr rfl passes1 (pa_cons (pv 2) (pa_cons pe_int (pa_cons (pe_glob (v:=.int 4) rfl hW ⟨tw,rfl⟩) pa_nil)))))
    (PSs.nox (pss_cons (ps_set (i:=3) sc_fu.nd rfl (Or.inl rfl) (pe_lst pa_nil))
    (pss_cons (ps_for PassesOwn.never rfl (pi_list (pe_cal (c3.up (by decide)) hr rfl (pa_cons (pe_callB call_len_seq rfl B.len PySem.boot_len (pa_cons (pv 0) pa_nil)) (pa_cons (pv 2) pa_nil)))) (pg_name (i:=4) sc_fu.nd rfl (Or.inl rfl))
      (pss_cons (ps_set (i:=5) sc_fu.nd rfl (Or.inl rfl) (pe_callTy call_tuple_of rfl B.tuple boot_tuple (pa_cons (pe_callB call_sortT rfl B3.sorted boot_sorted (pa_cons (pv 4) pa_nil)) pa_nil)))
      (pss_one (ps_if (pt_cmpR (op_neD hr.units) (pe_calx c4 hr rfl pass10 (pa_cons (pv 0) (pa_cons (pv 1) (pa_cons (pv 4) pa_nil)))) (pe_calx c4 hr rfl pass10 (pa_cons (pv 0) (pa_cons (pv 1) (pa_cons (pv 5) pa_nil)))) (nomark _))
        (pss_one (ps_expr (pe_bm PySem.F.plainAttrs_list PySem.F.slot_list_append PySem.F.type_list_append mt_append (pv 3) (pa_cons (pe_tup (pa_cons (pv 5) (pa_cons (pv 4) pa_nil))) pa_nil)))) pss_nil))))
    (pss_one (ps_ret (pe_callKw (call_minD rfl hr.units) rfl B.min boot_min (pa_cons (pv 3) pa_nil) pe_non))))))),?_⟩
  rcases h with ⟨st,u,v,x,d,e,g,i,rfl,hu,hus,hv,hvo,hx,due,q⟩ | ⟨st,a,v,n,k,ns,rs,rfl,hA,q⟩
  · unfold DueO at due
    refine ⟨_,rfl,_,rfl,u,v,st,d,e,rfl,hu,hus,hv,hvo,fun hw H1 g1=>?_,fun hw hw2 H1 g1=>?_,fun hw hw2 H1 g1=>?_⟩
    · rcases due with ⟨rfl,_⟩ | ⟨_,z,_⟩ | ⟨_,z,_⟩
      · exact q H1 g1
      all_goals (rw [hw] at z;cases z)
    · rcases due with ⟨_,z⟩ | ⟨rfl,_⟩ | ⟨_,_,z,_⟩
      · rw [hw] at z;cases z
      · exact q H1 g1
      · rw [hw2] at z;cases z
    · rcases due with ⟨_,z⟩ | ⟨_,_,z⟩ | ⟨rfl,_,_,z⟩
      · rw [hw] at z;cases z
      · rw [hw2] at z;cases z
      · exact ⟨_,rfl,x,st,g,0,4,rfl,hx.kp (g1.kp st),sm_0,sm_4,(fun zt=>by rw [z] at zt;cases zt),fun _=>q H1 g1⟩
  · have hU:=hA.uu
    have hR:=hA.ru
    have n1:=hA.n1
    have n4:=hA.n4
    have k4:=hA.k4
    obtain ⟨a',e,_,ha⟩:=hA.u.di
    cases e
    have uok:=urnD_of hU n1 n4
    have rok:ruleD (lenD (DI ns):Int) (DR rs)=true:=by rw [lenD_DI,hU.len];exact ruleD_of hR
    have hlen:=hR.len
    refine ⟨_,rfl,_,rfl,_,_,st,DI ns,DR rs,rfl,hA.u,short_DI (by rw [hU.len];omega),hA.r,⟨short_DR (by omega),shorts_DR hR (by omega)⟩,(fun z=>by rw [uok] at z;cases z),(fun _ z=>by rw [rok] at z;cases z),fun _ _ H1 g1=>?_⟩
    have hwk:wholeD 0 4 (.int (k:Int))=true:=by
      show (decide ((0:Int) <= (k:Int)) && decide ((k:Int) <= 4))=true
      rw [decide_eq_true (by omega),decide_eq_true (by omega)];rfl
    refine ⟨_,rfl,_,st,.int k,0,4,rfl,Dt.int _ _ _,sm_0,sm_4,(fun _=>?_),(fun z=>by rw [hwk] at z;cases z)⟩
    refine ⟨(by show 0 <= sizeLine;decide),fun lu hlu=>?_⟩
    have g2:Same H1 (upd H1 lu (.lst [])):=Same.new hlu
    have h2:upd H1 lu (.lst []) lu=some (.lst []):=upd_same
    have hHl:H lu=none:=g1.free hlu
    try dsimp -proj only
    generalize upd H1 lu (.lst [])=H2 at g2 h2
    have g12:=g1.trans g2
    have ha2:=g12 _ _ ha
    have eN:((ns.map V.int).length:Int)=(n:Int):=by rw [List.length_map,hU.len]
    refine ⟨_,rfl,a,_,rfl,.inr (.of ha2),_,rfl,n,k,(by show [V.int ((ns.map V.int).length:Int),V.int (k:Int)]=_;rw [eN]),n4,k4,fun pa ys H3 g3 hpa hT=>?_⟩
    have lA:=dr256 n4 k4
    have yl:ys.length=(dr n k).length:=by rw [<- hT.len,List.length_map]
    have hlu3:=g3 _ _ h2
    have y1:0 < ys.length:=by rw [yl,dr_len];exact Nat.pow_pos (by omega)
    have npa:pa ≠ lu:=fun e=>by
      rw [e,hlu3] at hpa
      injection hpa with z
      injection z with z
      rw [<- z] at y1;cases y1
    have nls:∀ xs ys,HO.lst xs ≠ .tup ys:=fun _ _ z=>by cases z
    have g13:=g12.trans g3
    refine ⟨pa,rfl,⟨_,.of hpa⟩,?_⟩
    refine for_list (K:=K) (a:=pa) (xs:=ys) (fun i σ H6=>Kp lu H3 H6/\(∃ zs,H6 lu=some (.lst zs)/\PL H6 (unl (chO rs ns) ((dr n k).take i)) zs)/\i <= ys.length/\∃ o4 o5,σ=[some (.ref a),some v,some (.int k),some (.ref lu),o4,o5])
      ⟨Kp.refl _ _,⟨[],hlu3,trivial⟩,Nat.zero_le _,none,none,rfl⟩ (fun i σ H6 _ h=>.of (h.1 _ _ npa hpa)) (fun i t σ H6 ht h=>?_) (fun σ H6 h=>?_)
    · obtain ⟨k6,⟨zs,hz6,hP⟩,hi,o4,o5,rfl⟩:=h
      have t36:=kpTup hlu3 (nls _) k6
      obtain ⟨z,d,hz,rfl,hd3⟩:=hT.get ht
      rw [List.getElem?_map] at hz
      obtain ⟨s0,hs0,ez⟩:=Option.map_eq_some_iff.mp hz
      subst ez
      have hm:=List.mem_of_getElem? hs0
      have hd6:=t36 _ _ hd3
      have sl:s0.length <= 4:=by rw [(dr_iff.mp hm).1];exact k4
      have il:=(List.getElem?_eq_some_iff.mp ht).1
      have hl6:Same H H6:=fun b o e=>k6 _ _ (fun z=>by rw [z,hHl] at e;cases e) (g13 _ _ e)
      have etk:(dr n k).take (i + 1)=(dr n k).take i ++ [s0]:=by rw [List.take_add_one,hs0];rfl
      refine ⟨_,rfl,d,zI s0,rfl,.of hd6,by rw [zI_len];omega,fun D ms H7 hpm hpw g7 hD=>?_⟩
      have em:=srt_of hpm hpw
      subst em
      refine ⟨D,_,rfl,.inl ⟨.of hD,fun t ht'=>?_⟩⟩
      have g8:Same H6 (upd H7 t (.tup ((zI (srt s0)).map V.int))):=g7.trans (Same.new ht')
      have ht8:upd H7 t (.tup ((zI (srt s0)).map V.int)) t=some (.tup ((zI (srt s0)).map V.int)):=upd_same
      try dsimp -proj only
      generalize upd H7 t (.tup ((zI (srt s0)).map V.int))=H8 at g8 ht8
      have A8:=hA.same (hl6.trans g8)
      refine ⟨_,rfl,_,rfl,_,rfl,.inr ⟨st,a,d,v,n,ns,rs,s0,rfl,A8.ask (g8 _ _ hd6) hm,fun q1 H9 g9 hq1=>?_⟩⟩
      refine ⟨_,rfl,_,rfl,_,rfl,.inr ⟨st,a,t,v,n,ns,rs,srt s0,rfl,(A8.same g9).ask (g9 _ _ ht8) (dr_srt hm),fun q2 Ha ga hq2=>?_⟩⟩
      refine neD_at (ga _ _ hq1) hq2 ?_
      have gA:Same H6 Ha:=g8.trans (g9.trans ga)
      have hzA:=gA _ _ hz6
      have hPA:=hP.to (H':=Ha) fun b xs e=>gA _ _ e
      by_cases hc:chO rs ns s0=chO rs ns (srt s0)
      · have e1:decide (fr (fol rs ns s0).1=fr (fol rs ns (srt s0)).1)=true:=decide_eq_true (by have:(fol rs ns s0).1=(fol rs ns (srt s0)).1:=hc;rw [this])
        rw [e1]
        refine ⟨false,rfl,iteF ⟨k6.trans (gA.kp lu),⟨zs,hzA,?_⟩,il,_,_,rfl⟩⟩
        rw [etk,unl_snoc,if_pos hc,List.append_nil];exact hPA
      · have e1:decide (fr (fol rs ns s0).1=fr (fol rs ns (srt s0)).1)=false:=decide_eq_false fun z=>hc (fr_inj z)
        rw [e1]
        refine ⟨true,rfl,iteT ⟨_,rfl,.inl ⟨rfl,_,.of hzA⟩,_,rfl,_,rfl,(by show 2 <= sizeLine;decide),fun pp hpp=>?_⟩⟩
        have gB:=Same.new (o:=.tup [.ref t,.ref d]) hpp
        have hpB:upd Ha pp (.tup [.ref t,.ref d]) pp=some (.tup [.ref t,.ref d]):=upd_same
        try dsimp -proj only
        generalize upd Ha pp (.tup [.ref t,.ref d])=Hb at gB hpB
        have hzB:=gB _ _ hzA
        have zl:zs.length <= 256:=by
          obtain ⟨rr,e1,e2,_⟩:=hP.refs
          rw [e1,List.length_map,e2]
          refine Nat.le_trans (unl_len _ _) ?_
          rw [List.length_take];omega
        refine ⟨lu,zs,_,rfl,rfl,hzB,Nat.lt_of_le_of_lt zl (by decide),?_⟩
        have kB:Kp lu Hb (upd Hb lu (.lst (zs ++ [.ref pp]))):=Kp.at
        refine ⟨k6.trans (((gA.trans gB).kp lu).trans kB),⟨_,upd_same,?_⟩,il,_,_,rfl⟩
        rw [etk,unl_snoc,if_neg hc]
        have tB:=kpTup hzB (nls _) kB
        exact PL.snoc (tB _ _ hpB) (tB _ _ (gB _ _ (ga _ _ (g9 _ _ ht8)))) (tB _ _ (gB _ _ (gA _ _ hd6))) (hPA.to fun b xs e=>tB _ _ (gB _ _ e))
    · obtain ⟨k6,⟨zs,hz6,hP⟩,hi,o4,o5,rfl⟩:=h
      have et:(dr n k).take ys.length=dr n k:=by rw [yl,List.take_length]
      rw [et] at hP
      obtain ⟨rr,e1,e2,e3⟩:=hP.refs
      subst e1
      have gH:Same H H6:=fun b o e=>k6 _ _ (fun z=>by rw [z,hHl] at e;cases e) (g13 _ _ e)
      refine ⟨_,rfl,lu,rr,_,rfl,rfl,hz6,e2,e3,fun h0=>q none _ H6 gH (unl_F.1 h0) rfl,fun j r x hr hx hmin=>?_⟩
      obtain ⟨a1,b1,e,hF⟩:=unl_F.2 x (List.mem_of_getElem? hx) hmin
      subst e
      obtain ⟨xa,xb,h5,h6,h7⟩:=e3 j r _ hr hx
      exact q _ _ H6 gH hF ⟨r,xa,xb,rfl,h5,h6,h7⟩
def sp_oaV:Sp:=fun vs H Q _=>∃ (st a:Addr) (v:V) (n k:Nat) (ns:List Int) (rs:List (List Int)),vs=[.ref a,v,.int k]/\AskO st H n ns rs k a v /\
  ∀ o H',Same H H'->IsF (chO rs ns) (dr n k) o->Q (.bl o.isNone) H'
def sp_oa (ec:Nat->Addr):Sp:=fun vs H Q E=>RefO ec vs H E ∨ sp_oaV vs H Q E
abbrev s_oa:Stmt:=top 41
theorem sc_oa:FnScope ["urn","rule","draws"] ["urn","rule","draws"] (defScope s_oa):=⟨rfl,rfl,rfl,by decide +kernel,rfl,by decide +kernel,by decide +kernel⟩
theorem ok_oa (F:Fun K "orders_alike" "orders_alike" s_oa f fd) (c1:CalX P w K mg base 9 "first_unlike" ["urn","rule","draws"] (sp_fu ec)):FnOk P w K mg base (CX1 P w) 10 f fd ["urn","rule","draws"] (sp_oa ec):=by
  refine F.okX sc_oa (fun vs H Q E h=>?_) (fun cdv A outer s H vs Q E hr h=>?_)
  · rcases h with ⟨st,u,v,x,d,e,g,i,rfl,_⟩ | ⟨st,a,v,n,k,ns,rs,rfl,_⟩
    · rfl
    · rfl
  refine ⟨_,pss_one (ps_ret (pe_cmp (pc_isN (pe_calx c1 hr rfl passes1 (pa_cons (pv 0) (pa_cons (pv 1) (pa_cons (pv 2) pa_nil))))))),?_⟩
  rcases h with ⟨st,u,v,x,d,e,g,i,rfl,hu,hus,hv,hvo,hx,due,q⟩ | ⟨st,a,v,n,k,ns,rs,rfl,hA,q⟩
  · exact ⟨_,rfl,_,rfl,_,rfl,.inl ⟨st,u,v,x,d,e,g,i,rfl,hu,hus,hv,hvo,hx,due,q⟩⟩
  · refine ⟨_,rfl,_,rfl,_,rfl,.inr ⟨st,a,v,n,k,ns,rs,rfl,hA,fun o u H' g hF hP=>?_⟩⟩
    have:=q o H' g hF
    cases o with
    | none=>cases (show u=.non from hP);exact this
    | some x =>
      obtain ⟨a,b⟩:=x
      obtain ⟨p,y,z,rfl,_⟩:=hP
      exact this
end
end G
namespace L2
open PySem PySem.Spec PyProof.Rows
theorem kit_seq3 (K:PySem.W.Frag) (d:PyData):PySem.W.kitAny K (.type (tyN d)) [.type "tuple",.type "list"]=some (isSeqD d):=by cases d <;> kernel_rfl
section
variable {X:Cx}
theorem call_isi3:CallR X (.builtin "isinstance") (fun xs H Q=>∃ x st d p,xs=[x,.ref p]/\Dt st H d x/\okSeq d=true/\H p=some (.tup [.ty "tuple",.ty "list"])/\Q (.bl (isSeqD d)) H):=by
  intro pins s σ H xs us Q I r h
  obtain ⟨x,st,d,p,rfl,hd,ok,hp,q⟩:=h
  cases r with
  | cons r1 rr =>
    cases rr with
    | cons r2 rr =>
      cases rr
      cases r2
      have e:=kit_seq3 X.K d
      obtain ⟨_,its,rv,ob,ho,hc,n,hdt⟩:=(show ObjOk X.prog X.w H s.heap p (.tup [.ty "tuple",.ty "list"]) from I.hok p _ hp)
      cases rv with
      | cons q1 rv =>
        cases rv with
        | cons q2 rv =>
          cases rv
          cases q1
          cases q2
          obtain ⟨oc,od,dt,sl⟩:=ob
          simp only at hc hdt
          subst hc hdt
          have fin:∀ tk,EP X pins σ Q (.bool (isSeqD d)) { s with toks:=tk }:=fun tk=>⟨.bl (isSeqD d),H,I.tok tk,rfl,q⟩
          cases d with
          | none =>
            unfold Dt at hd
            subst hd
            cases r1
            exact PySem.W.kia_tup PySem.W.kitx_none I.kIn True.intro ho e (fun z=>nomatch z) fin
          | int i =>
            unfold Dt at hd
            subst hd
            obtain ⟨t,rfl⟩:=r1
            exact PySem.W.kia_tup PySem.W.kitx_int I.kIn True.intro ho e (fun z=>nomatch z) fin
          | tuple ds =>
            unfold Dt at hd
            obtain ⟨a,xs,e1,_,ha,_⟩:=hd
            subst e1
            cases r1
            obtain ⟨_,_,_,o,h1,h2,_⟩:=(show ObjOk X.prog X.w H s.heap a (.tup xs) from I.hok a _ ha)
            exact PySem.W.kia_tup PySem.W.kitx_tuple I.kIn ⟨o,h1,h2⟩ ho e (fun z=>nomatch z) fin
          | _=>cases (show false=true from ok)
end
end L2
namespace G
open PySem PySem.Spec PyProof.Rows L2 Mt Md
section
variable {P:Program} {w:World} {K:PySem.W.Frag} {mg:Str->Option Value} {base:Heap} {f:Addr} {fd:FuncData} {ec:Nat->Addr} {Bs:Addr}
def sp_number:Sp:=fun vs H Q _=>∃ (l:Addr) (x:Int) (b:Bool),vs=[.ref l,.int 4]/\H l=some (.lst [.int x,.bl b])/\StOk x b/\∀ (v:V) (H':Hp) (d:PyData),Sta l b H H'->Dt l H' d v->wholeD 0 4 d=false->Q v H'
abbrev s_number:Stmt:=top 57
theorem sc_number:FnScope ["_law_state_here","_law_most"] ["_law_state_here","_law_most"] (defScope s_number):=⟨rfl,rfl,rfl,by decide +kernel,rfl,by decide +kernel,by decide +kernel⟩
theorem ok_number (F:Fun K "_law_number" "_law_number" s_number f fd) (c1:Cal P w K mg base 1 "_law_take" ["_law_state_here","_law_many"] sp_take):FnOk P w K mg base CX0 2 f fd ["_law_state_here","_law_most"] sp_number:=by
  refine F.ok sc_number (fun vs H Q E h=>?_) (fun cdv A outer s H vs Q E hr h=>?_)
  · obtain ⟨l,x,b,rfl,_⟩:=h
    rfl
  obtain ⟨l,x,b,rfl,hl,hst,q⟩:=h
  refine ⟨_,pss_one (ps_ret (pe_ix ix_list (pe_lst (pa_cons (pe_op op_add (pv 1) pe_int) (pa_pre 5 rfl (pa_cons (pe_tup (pa_cons pe_int pa_nil)) (pa_cons (pe_lst (pa_cons pe_int pa_nil)) (pa_cons (pe_op op_pow pe_int pe_int) (pa_cons (pe_un un_neg (pe_op op_pow pe_int pe_int)) pa_nil))))))) (pe_cal c1 hr rfl (pa_cons (pv 0) (pa_cons pe_int pa_nil))) (fun _ _=>rfl))),?_⟩
  have s0:Sta l b H H:=Sta.start hl hst
  refine ⟨_,rfl,_,_,rfl,rfl,(by show 1 <= sizeLine;decide),fun pt hpt=>?_⟩
  have s2:Sta l b H (upd H pt (.tup [.int 1])):=s0.new hpt
  have hpt2:upd H pt (.tup [.int 1]) pt=some (.tup [.int 1]):=upd_same
  have npt:pt ≠ l:=(s0.ne hpt).symm
  try dsimp only
  generalize upd H pt (.tup [.int 1])=H2 at s2 hpt2
  refine ⟨(by show 1 <= sizeLine;decide),fun pw hpw=>?_⟩
  have g3:Same H2 (upd H2 pw (.lst [.int 1])):=Same.new hpw
  have hpw3:upd H2 pw (.lst [.int 1]) pw=some (.lst [.int 1]):=upd_same
  have npw:pw ≠ l:=(s2.ne hpw).symm
  have s3:=s2.same g3
  try dsimp only
  generalize upd H2 pw (.lst [.int 1])=H3 at s3 g3 hpw3
  refine ⟨_,_,rfl,rfl,⟨by decide,by decide,by decide⟩,_,_,rfl,rfl,⟨by decide,by decide,by decide⟩,_,rfl,(by show 10 <= sizeLine;decide),fun po hpo=>?_⟩
  obtain ⟨X,hX⟩:∃ X:List V,X=.int (4 + 1) :: ([.int (-1),.bl true,.bl false,.non,.str "1"] ++ [.ref pt,.ref pw,.int (10 ^ 29),.int (-(10 ^ 29))]):=⟨_,rfl⟩
  have s4:Sta l b H (upd H3 po (.lst X)):=s3.new hpo
  have g4:Same H3 (upd H3 po (.lst X)):=Same.new hpo
  have hpo4:upd H3 po (.lst X) po=some (.lst X):=upd_same
  have npo:po ≠ l:=(s3.ne hpo).symm
  show tCb sp_take _ _ (upd H3 po (.lst (.int (4 + 1) :: ([.int (-1),.bl true,.bl false,.non,.str "1"] ++ [.ref pt,.ref pw,.int (10 ^ 29),.int (-(10 ^ 29))])))) _
  rw [<- hX]
  generalize upd H3 po (.lst X)=H4 at s4 g4 hpo4
  obtain ⟨_,x4,hx4,ok4⟩:=id s4
  refine ⟨_,rfl,l,10,x4,b,rfl,hx4,ok4,by decide,by decide,fun y x5 hy ok5=>?_⟩
  have s5:=s4.go ok5
  have k5:Kp l H4 (upd H4 l (.lst [.int x5,.bl b])):=Kp.at
  try dsimp only
  generalize upd H4 l (.lst [.int x5,.bl b])=H5 at s5 k5
  have f1:=k5 _ _ npt ((g3.trans g4) _ _ hpt2)
  have f2:=k5 _ _ npw (g4 _ _ hpw3)
  obtain ⟨v,d,hv,dt,hw⟩:∃ v d,X[y]?=some v/\Dt l H5 d v/\wholeD 0 4 d=false:=by
    rw [hX]
    have hy':y < 10:=by omega
    match y,hy' with
    | 0,_=>exact ⟨_,_,rfl,Dt.int _ _ _,by decide⟩
    | 1,_=>exact ⟨_,_,rfl,Dt.int _ _ _,by decide⟩
    | 2,_=>exact ⟨_,_,rfl,Dt.bl _ _ _,rfl⟩
    | 3,_=>exact ⟨_,_,rfl,Dt.bl _ _ _,rfl⟩
    | 4,_=>exact ⟨_,_,rfl,Dt.non _ _,rfl⟩
    | 5,_=>exact ⟨_,_,rfl,Dt.str _ _ _,rfl⟩
    | 6,_=>exact ⟨_,_,rfl,Dt.mkI (ns:=[1]) npt f1,rfl⟩
    | 7,_=>exact ⟨_,_,rfl,Dt.lst npw f2 (Dts.cons (Dt.int _ _ _) (Dts.nil _ _)),rfl⟩
    | 8,_=>exact ⟨_,_,rfl,Dt.int _ _ _,by decide⟩
    | 9,_=>exact ⟨_,_,rfl,Dt.int _ _ _,by decide⟩
  exact ⟨po,_,_,_,rfl,rfl,.of (k5 _ _ npo hpo4),atI_nat hv,q v H5 d s5 dt hw⟩
abbrev s_same:Stmt:=top 58
theorem sc_same:FnScope ["_law_found","_law_due_here"] ["_law_found","_law_due_here"] (defScope s_same):=⟨rfl,rfl,rfl,by decide +kernel,rfl,by decide +kernel,by decide +kernel⟩
def sp_same0:Sp:=fun vs H Q _=>∃ v,vs=[v,v]/\(v=.non ∨ ∃ i,v=.int i)/\∀ H',Same H H'->Q (.bl true) H'
theorem ok_same0 (F:Fun K "_law_same" "_law_same" s_same f fd) (B:Bt mg):FnOk P w K mg base CX0 1 f fd ["_law_found","_law_due_here"] sp_same0:=by
  refine F.ok sc_same (fun vs H Q E h=>?_) (fun cdv A outer s H vs Q E hr h=>?_)
  · obtain ⟨v,rfl,_⟩:=h
    rfl
  obtain ⟨v,rfl,hv,q⟩:=h
  refine ⟨_,pss_cons (ps_if (pt_val (pe_callB call_isi3 rfl B.isinstance boot_isinstance (pa_cons (pv 1) (pa_cons (pe_tup (pa_cons (pe_bty rfl B.tuple boot_tuple) (pa_cons (pe_bty rfl B.list boot_list) pa_nil))) pa_nil)))) pss_never pss_nil)
    (pss_one (ps_ret (pe_and (pe_cmpR (op_eqD hr.units) (pv 0) (pv 1) (nomark _)) (pe_one (pe_cmpR op_eq (pe_callB (call_isi kit_bool) rfl B.isinstance boot_isinstance (pa_cons (pv 0) (pa_cons (pe_bty rfl B.bool boot_bool) pa_nil))) (pe_callB (call_isi kit_bool) rfl B.isinstance boot_isinstance (pa_cons (pv 1) (pa_cons (pe_bty rfl B.bool boot_bool) pa_nil))) (nomark _)))))),?_⟩
  obtain ⟨d,hd,h1,h2,h3,h4,h5⟩:∃ d:PyData,(∀ (st:Addr) (H':Hp),Dt st H' d v)/\okSeq d=true/\isSeqD d=false/\SeqAt.shaped d=true/\PyData.eqv d d=true/\isBoolD d=false:=by
    rcases hv with rfl | ⟨i,rfl⟩
    · exact ⟨.none,fun st H'=>Dt.non _ _,rfl,rfl,by decide,by decide,rfl⟩
    · exact ⟨.int i,fun st H'=>Dt.int _ _ _,rfl,rfl,by unfold SeqAt.shaped;simp [PyData.canLay0,PyData.depth],by unfold PyData.eqv;simp,rfl⟩
  refine ⟨_,rfl,(by show 2 <= sizeLine;decide),fun p hp=>⟨v,0,d,p,rfl,hd 0 _,h1,upd_same,_,rfl,?_⟩⟩
  rw [h2]
  refine iteF ⟨_,rfl,_,rfl,0,d,d,hd 0 _,hd 0 _,h3,h3,_,rfl,?_⟩
  rw [h4]
  refine iteT ⟨_,rfl,v,0,d,rfl,hd 0 _,_,rfl,v,0,d,rfl,hd 0 _,rfl,?_⟩
  rw [decide_eq_true rfl]
  exact q _ (Same.new hp)
end
end G
namespace G
open PySem PySem.Spec PyProof.Rows L2 Mt Md
def prods (i:Nat) (cs:List Int) (rs:List (List Int)):List Int:=List.zipWith (fun c r=>c * r.getD i 0) cs rs
theorem comb_prods (rs:List (List Int)) (i:Nat):∀ (cs:List Int) (j:Nat),cs.length + j <= rs.length->comb rs i cs j=(prods i cs (rs.drop j)).sum
  | [],_,_=>by unfold comb prods;simp
  | c :: cs,j,h=>by
    rw [List.length_cons] at h
    have hj:j < rs.length:=by omega
    unfold comb
    rw [comb_prods rs i cs (j + 1) (by omega),List.drop_eq_getElem_cons hj]
    unfold prods
    rw [List.zipWith_cons_cons,List.sum_cons,List.getD_eq_getElem?_getD (l:=rs),List.getElem?_eq_getElem hj];rfl
section
variable {P:Program} {w:World} {K:PySem.W.Frag} {mg:Str->Option Value} {base:Heap} {f:Addr} {fd:FuncData}
def sp_beh:Sp:=fun vs H Q _=>∃ (a c st:Addr) (v:V) (n:Nat) (ns cs:List Int) (rs:List (List Int)),vs=[.ref a,v,.ref c]/\H a=some (.tup (ns.map V.int))/\ns.length=n/\Dt st H (DR rs) v/\Mt.Rul n 5 rs/\n <= 4/\cs.length=n/\(H c=some (.tup (cs.map V.int)) ∨ H c=some (.lst (cs.map V.int)))/\(∀ x ∈ cs,0 <= x/\x <= 100) /\
  ∀ p H',Same H H'->H' p=some (.tup ((beh ns rs cs).map V.int))->Q (.ref p) H'
abbrev s_beh:Stmt:=top 49
theorem sc_beh:FnScope ["_law_urn","_law_rule_here","_law_counts"] ["_law_urn","_law_rule_here","_law_counts"] (defScope s_beh):=⟨rfl,rfl,rfl,by decide +kernel,rfl,by decide +kernel,by decide +kernel⟩
theorem ok_beh (F:Fun K "_law_behind" "_law_behind" s_beh f fd) (B:Bt mg):FnOk P w K mg base CX0 1 f fd ["_law_urn","_law_rule_here","_law_counts"] sp_beh:=by
  refine F.ok sc_beh (fun vs H Q E h=>?_) (fun cdv A outer s H vs Q E hr h=>?_)
  · obtain ⟨a,c,st,v,n,ns,cs,rs,rfl,_⟩:=h
    rfl
  obtain ⟨a,c,st,v,n,ns,cs,rs,rfl,ha,hn,hv,hR,n4,hcl,hc,hcb,q⟩:=h
  refine ⟨_,pss_one (ps_ret (pe_callTy call_tuple_of rfl B.tuple boot_tuple (pa_cons
    (pe_compG (N:=["_law_kind","_law_urn","_law_counts","_law_rule_here"]) (ix:=[none,some 0,some 2,some 1]) (ifs:=[]) (tc:=tTrue) rfl
      (pi_range1 rfl B.range (pa_cons (pe_callB call_len_seq rfl B.len PySem.boot_len (pa_cons (pv 0) pa_nil)) pa_nil))
      (fun s H ex=>pg_c (i:=0) (by decide +kernel) rfl (Or.inr rfl) (.inl rfl)) (fun s H ex=>pifs_nil)
      (fun s H ex=>pe_op op_add (pe_ix (ixK (K:=K) rfl) (pv 1) (pv 0) (fun _ _=>rfl))
        (pe_callB (sumK (K:=K) rfl rfl) rfl B.sum boot_sum (pa_cons
          (pe_compG (N:=["_law_often","_law_row","_law_kind"]) (ix:=[none,none,some 0]) (ifs:=[]) (tc:=tTrue) rfl
            (pi_zip2K (K:=K) rfl rfl B.zip (pa_cons (pv 2) (pa_cons (pv 3) pa_nil)))
            (fun s H ex=>pgtK (K:=K) (n:=2) rfl rfl (pgs_cons (pg_c (i:=0) (by decide +kernel) rfl (Or.inl rfl) (.inr rfl)) (pgs_cons (pg_c (i:=1) (by decide +kernel) rfl (Or.inl rfl) (.inr rfl)) pgs_nil)))
            (fun s H ex=>pifs_nil)
            (fun s H ex=>pe_op op_mul (pv 0) (pe_ix (ixK (K:=K) rfl) (pv 1) (pv 2) (fun _ _=>rfl)))
            rfl (by decide +kernel) (by rfl) (by rfl) (fun _=>rfl)) pa_nil)))
      rfl (by decide +kernel) (by rfl) (by rfl) (fun _=>rfl)) pa_nil))),?_⟩
  obtain ⟨r,xs,er,_,hr2,hds⟩:=hv.untup
  subst er
  have hxl:=hds.len
  rw [List.length_map,hR.len] at hxl
  refine ⟨_,rfl,a,_,rfl,.inr (.of ha),_,rfl,by rw [List.length_map];omega,by rw [List.length_map];omega,?_⟩
  have en:(((ns.map V.int).length:Nat):Int).toNat=n:=by rw [List.length_map];omega
  rw [en]
  have bl:(beh ns rs cs).length=n:=by unfold beh;simp [hn]
  refine blk_range (lo:=0) (n:=n) (sz (by omega)) (fun i ys H2=>Same H H2/\i <= n/\ys=((beh ns rs cs).take i).map V.int) ⟨Same.refl H,Nat.zero_le _,rfl⟩ (fun i ys H2 h=>?_) rfl (fun i ys H2 hi h=>?_) (fun ys H2 h=>?_)
  · obtain ⟨_,hi,rfl⟩:=h
    rw [List.length_map,List.length_take,bl];omega
  · obtain ⟨g2,hin,rfl⟩:=h
    have e0:(0:Int) + (i:Int)=(i:Int):=by omega
    rw [e0]
    have hnsi:(ns.map V.int)[i]?=some (.int (ns.getD i 0)):=by
      rw [List.getElem?_map,List.getElem?_eq_getElem (by omega:i < ns.length),List.getD_eq_getElem?_getD,List.getElem?_eq_getElem (by omega:i < ns.length)];rfl
    refine ⟨_,rfl,_,rfl,a,_,_,_,rfl,rfl,.of (g2 _ _ ha),atI_nat hnsi,_,rfl,_,rfl,c,r,cs.map V.int,xs,rfl,.of (g2 _ _ hr2),?_⟩
    have hpl:(prods i cs rs).length=n:=by unfold prods;rw [List.length_zipWith,hcl,hR.len];omega
    have turn:∀ (j:Nat) (zs:List V) (H3:Hp) (x y:V) (p:Addr),(cs.map V.int)[j]?=some x->xs[j]?=some y->H3 p=none->(Same H H3/\j <= n/\zs=((prods i cs rs).take j).map V.int) ->
        ∀ (σ0:L2.St),σ0=[none,none,some (.int (i:Int))]->tOp (rI CMul fun i j=>.int (i * j)) (tVar 0) (tOp (rIxT K) (tVar 1) (tVar 2)) ((σ0.set 0 (some x)).set 1 (some y)) (upd H3 p (.tup [x,y])) fun z H'=>Same H H'/\j + 1 <= n/\zs ++ [z]=((prods i cs rs).take (j + 1)).map V.int:=by
      intro j zs H3 x y p hx hy hp h σ0 hσ
      subst hσ
      obtain ⟨g3,hjn,rfl⟩:=h
      rw [List.getElem?_map] at hx
      obtain ⟨cj,hcj,ex⟩:=Option.map_eq_some_iff.mp hx
      subst ex
      obtain ⟨d,hd,dt⟩:=hds.get hy
      rw [List.getElem?_map] at hd
      obtain ⟨row,hrow,ed⟩:=Option.map_eq_some_iff.mp hd
      subst ed
      obtain ⟨rb,eb,_,hb⟩:=dt.di
      subst eb
      have hjl:=(List.getElem?_eq_some_iff.mp hcj).1
      have hrl:row.length=n:=(hR.row row (List.mem_of_getElem? hrow)).len
      have g4:=g3.trans (Same.new hp (o:=.tup [.int cj,.ref rb]))
      have hri:(row.map V.int)[i]?=some (.int (row.getD i 0)):=by
        rw [List.getElem?_map,List.getElem?_eq_getElem (by omega:i < row.length),List.getD_eq_getElem?_getD,List.getElem?_eq_getElem (by omega:i < row.length)];rfl
      have hcb':=hcb cj (List.mem_of_getElem? hcj)
      refine ⟨_,rfl,_,rfl,_,rfl,rb,_,_,_,rfl,rfl,.of (g4 _ _ hb),atI_nat hri,_,_,rfl,rfl,.inl ⟨by omega,by omega⟩,g4,by omega,?_⟩
      have e2:(prods i cs rs)[j]?=some (cj * row.getD i 0):=by unfold prods;rw [List.getElem?_zipWith,hcj,hrow]
      rw [List.take_add_one,e2,List.map_append];rfl
    have fin:∀ (zs:List V) (H3:Hp),(Same H H3/\n <= n/\zs=((prods i cs rs).take n).map V.int)->∀ p,H3 p=none ->
        ∃ (p':Addr) (ms:List Int),([.ref p]:List V)=[.ref p']/\(SqL K (upd H3 p (.lst zs)) p' (ms.map V.int) ∨ SqT K (upd H3 p (.lst zs)) p' (ms.map V.int))/\∃ i_1 j,(V.int (ns.getD i 0))=.int i_1/\V.int ms.sum=.int j/\(Same H (upd H3 p (.lst zs))/\i + 1 <= n/\((beh ns rs cs).take i).map V.int ++ [V.int (i_1 + j)]=((beh ns rs cs).take (i + 1)).map V.int):=by
      intro zs H3 h p hp
      obtain ⟨g3,_,rfl⟩:=h
      rw [show (prods i cs rs).take n=prods i cs rs from List.take_of_length_le (by omega)]
      refine ⟨p,prods i cs rs,rfl,.inl (.of upd_same),_,_,rfl,rfl,g3.trans (Same.new hp),hi,?_⟩
      have e3:(beh ns rs cs)[i]?=some (ns.getD i 0 + (prods i cs rs).sum):=by
        unfold beh
        rw [List.getElem?_map,List.getElem?_range (by omega),Option.map_some,comb_prods rs i cs 0 (by rw [hcl,hR.len];omega),List.drop_zero]
      rw [List.take_add_one,e3,List.map_append];rfl
    have lx:(cs.map V.int).length=n:=by rw [List.length_map];exact hcl
    rcases hc with hc | hc
    · refine .inl ⟨.of (g2 _ _ hc),?_⟩
      refine blk_zip (K:=K) (a:=c) (b:=r) (xs:=cs.map V.int) (ys:=xs) (sz (by omega)) (by omega) (fun j zs H3=>Same H H3/\j <= n/\zs=((prods i cs rs).take j).map V.int) ⟨g2,Nat.zero_le _,rfl⟩ (fun j zs H3 h=>?_) (fun j zs H3 _ h=>⟨.of (h.1 _ _ hc),.of (h.1 _ _ hr2)⟩) ⟨rfl,rfl⟩ (fun j zs H3 x y p hx hy hp h=>turn j zs H3 x y p hx hy hp h _ rfl) (fun zs H3 h=>?_)
      · obtain ⟨_,hj,rfl⟩:=h
        rw [List.length_map,List.length_take,hpl];omega
      · rw [lx] at h
        exact fun p hp=>fin zs H3 h p hp
    · refine .inr ⟨.of (g2 _ _ hc),?_⟩
      refine blk_zipL (K:=K) (a:=c) (b:=r) (xs:=cs.map V.int) (ys:=xs) (sz (by omega)) (by omega) (fun j zs H3=>Same H H3/\j <= n/\zs=((prods i cs rs).take j).map V.int) ⟨g2,Nat.zero_le _,rfl⟩ (fun j zs H3 h=>?_) (fun j zs H3 _ h=>⟨.of (h.1 _ _ hc),.of (h.1 _ _ hr2)⟩) ⟨rfl,rfl⟩ (fun j zs H3 x y p hx hy hp h=>turn j zs H3 x y p hx hy hp h _ rfl) (fun zs H3 h=>?_)
      · obtain ⟨_,hj,rfl⟩:=h
        rw [List.length_map,List.length_take,hpl];omega
      · rw [lx] at h
        exact fun p hp=>fin zs H3 h p hp
  · obtain ⟨g2,_,rfl⟩:=h
    intro p hp
    refine ⟨p,_,rfl,.inl ⟨.of upd_same,fun l hl=>?_⟩⟩
    refine q l _ ((g2.trans (Same.new hp)).trans (Same.new hl)) ?_
    rw [upd_same,<- bl,List.take_length]
end
end G
namespace Mq
open PySem PySem.Spec L2 Mt Md
def dd {α:Type} [DecidableEq α]:List α->List α
  | []=>[]
  | a :: l=>if a ∈ dd l then dd l else a :: dd l
end Mq
namespace Mq
open PySem PySem.Spec L2 Mt Md
end Mq
namespace Mq
open PySem PySem.Spec L2 Mt Md
end Mq
namespace Mq
open PySem PySem.Spec L2 Mt Md
end Mq
namespace Mq
open PySem PySem.Spec L2 Mt Md
end Mq
namespace G
open PySem PySem.Spec PyProof.Rows L2 Mt Md Mq
section
variable {P:Program} {w:World} {K:PySem.W.Frag} {mg:Str->Option Value} {base:Heap} {f:Addr} {fd:FuncData} {ec:Nat->Addr} {Bs:Addr}
def sp_cut:Sp:=fun vs H Q _=>∃ t b:Int,vs=[.int t,.int b]/\0 <= t/\0 < b/\b.natAbs.log2 < 9000/\∀ p H',Same H H'->H' p=some (.tup ((fr (cut t b)).map V.int))->Q (.ref p) H'
abbrev s_cut:Stmt:=top 48
theorem sc_cut:FnScope ["_law_top","_law_bottom","_law_one","_law_other"] ["_law_top","_law_bottom"] (defScope s_cut):=⟨rfl,rfl,rfl,by decide +kernel,rfl,by decide +kernel,by decide +kernel⟩
theorem ok_cut (F:Fun K "_law_fraction" "_law_fraction" s_cut f fd) (B:Bt mg):FnOk P w K mg base CX0 1 f fd ["_law_top","_law_bottom"] sp_cut:=by
  refine F.ok sc_cut (fun vs H Q E h=>?_) (fun cdv A outer s H vs Q E hr h=>?_)
  · obtain ⟨x,y,rfl,_⟩:=h
    rfl
  obtain ⟨t,b,rfl,ht,hb,hlog,q⟩:=h
  refine ⟨_,pss_cons (ps_par (i:=2) (j:=3) rfl sc_cut.nd rfl rfl (by decide) rfl rfl (pa_cons (pv 1) (pa_cons (pe_callB call_abs rfl B.abs boot_abs (pa_cons (pv 0) pa_nil)) pa_nil)) rfl)
    (pss_cons (ps_while PassesOwn.never (pt_cmpR op_gt (pv 3) pe_int (nomark _)) (pss_one (ps_par (i:=2) (j:=3) rfl sc_cut.nd rfl rfl (by decide) rfl rfl (pa_cons (pv 3) (pa_cons (pe_op op_mod (pv 2) (pv 3)) pa_nil)) rfl)))
    (pss_one (ps_ret (pe_tup (pa_cons (pe_op op_fdivB (pv 0) (pv 2)) (pa_cons (pe_op op_fdivB (pv 1) (pv 2)) pa_nil)))))),?_⟩
  have g:=gcd_log (t:=t) hb hlog
  refine ⟨_,rfl,_,rfl,t,rfl,_,_,rfl,?_⟩
  rw [if_neg (show ¬ t < 0 by omega)]
  refine ⟨fun m σ H2=>H2=H/\∃ x' y':Int,0 <= x'/\0 <= y'/\σ=[some (.int t),some (.int b),some (.int x'),some (.int y')]/\m=y'.toNat/\Int.gcd x' y'=Int.gcd t b,⟨_,rfl,b,t,by omega,ht,rfl,rfl,Int.gcd_comm b t⟩,?_⟩
  rintro m σ H2 ⟨rfl,x',y',h1,h2,rfl,rfl,e⟩
  refine ⟨_,rfl,_,_,rfl,rfl,_,rfl,?_⟩
  by_cases hz:0 < y'
  · rw [decide_eq_true hz]
    refine iteT ⟨fun σ' H'=>H'=H2/\∃ a c:Int,0 <= a/\0 <= c/\σ'=[some (.int t),some (.int b),some (.int a),some (.int c)]/\c.toNat < y'.toNat/\Int.gcd a c=Int.gcd t b,?_,?_⟩
    · rintro σ' H' ⟨rfl,a,c,ha,hc,rfl,hlt,e2⟩
      exact ⟨_,hlt,rfl,a,c,ha,hc,rfl,rfl,e2⟩
    · have hm:=Int.emod_nonneg x' (show y' ≠ 0 by omega)
      have hm2:=Int.emod_lt_of_pos x' hz
      refine ⟨_,rfl,_,rfl,_,rfl,_,_,rfl,rfl,hz,_,_,rfl,?_⟩
      exact ⟨rfl,y',x' % y',h2,hm,rfl,by omega,by rw [gcd_step h1 hz];exact e⟩
  · rw [decide_eq_false hz]
    have hy:y'=0:=by omega
    subst hy
    have e2:x'=((Int.gcd t b:Nat):Int):=by rw [<- e,Int.gcd_zero_right];omega
    subst e2
    refine iteF ⟨_,rfl,_,rfl,_,_,rfl,rfl,g,_,rfl,_,rfl,_,_,rfl,rfl,g,(by show 2 <= sizeLine;decide),fun p hp=>?_⟩
    refine q p _ (Same.new hp) ?_
    rw [upd_same,fr_cut hb];rfl
end
end G
namespace G
open PySem PySem.Spec PyProof.Rows L2 Mt
section
variable {P:Program} {w:World} {K:PySem.W.Frag} {mg:Str->Option Value} {base:Heap} {f:Addr} {fd:FuncData} {ec:Nat->Addr} {Bs:Addr}
def sp_odd:Sp:=fun vs H Q _=>∃ (l:Addr) (x:Int) (b:Bool),vs=[.ref l]/\H l=some (.lst [.int x,.bl b])/\StOk x b/\∀ (v:V) (H':Hp),Sta l b H H'->Tg l H' v->Q v H'
abbrev s_odd:Stmt:=top 54
theorem sc_odd:FnScope ["_law_state_here","_law_some"] ["_law_state_here"] (defScope s_odd):=⟨rfl,rfl,rfl,by decide +kernel,rfl,by decide +kernel,by decide +kernel⟩
theorem ok_odd (F:Fun K "_law_odd" "_law_odd" s_odd f fd) (c1:Cal P w K mg base 1 "_law_take" ["_law_state_here","_law_many"] sp_take):FnOk P w K mg base CX0 2 f fd ["_law_state_here"] sp_odd:=by
  refine F.ok sc_odd (fun vs H Q E h=>?_) (fun cdv A outer s H vs Q E hr h=>?_)
  · obtain ⟨l,x,b,rfl,_⟩:=h
    rfl
  obtain ⟨l,x,b,rfl,hl,hst,q⟩:=h
  refine ⟨_,@pss_cons _ _ _ _ _ (@ps_set _ _ 1 _ _ _ _ sc_odd.nd rfl (Or.inl rfl) (@pe_lst _ _ _ _ (@pa_pre _ _ _ _ 8 rfl (@pa_t _ _ _ _ _ _ _ (@pe_tup _ _ _ _ _ pa_nil) (@pa_l _ _ _ _ _ _ (@pe_lst _ _ _ _ pa_nil) (@pa_t _ _ _ _ _ _ _ (@pe_tup _ _ _ _ _ (@pa_k _ _ _ _ _ _ _ pe_bl pa_nil)) (@pa_l _ _ _ _ _ _ (@pe_lst _ _ _ _ (@pa_k _ _ _ _ _ _ _ pe_int pa_nil)) (@pa_d _ _ _ _ _ _ _ pe_d1 (@pa_t _ _ _ _ _ _ _ (@pe_tup _ _ _ _ _ (@pa_k _ _ _ _ _ _ _ pe_non pa_nil)) (@pa_t _ _ _ _ _ _ _ (@pe_tup _ _ _ _ _ (@pa_t _ _ _ _ _ _ _ (@pe_tup _ _ _ _ _ (@pa_k _ _ _ _ _ _ _ pe_int pa_nil)) pa_nil)) (@pa_b _ _ _ _ _ _ _ _ (@pe_op _ _ _ _ _ _ _ _ op_pow pe_int pe_int) (@pa_t _ _ _ _ _ _ _ (@pe_tup _ _ _ _ _ (@pa_k _ _ _ _ _ _ _ pe_int pa_nil)) (@pa_t _ _ _ _ _ _ _ (@pe_tup _ _ _ _ _ (@pa_k _ _ _ _ _ _ _ pe_int pa_nil)) pa_nil)))))))))))) rfl (.inl rfl))
    (pss_one (ps_ret (pe_ix ix_list (pe_op op_cat (pv 1) (@pe_lst _ _ _ _ (@pa_t _ _ _ _ _ _ _ (@pe_tup _ _ _ _ _ (@pa_k _ _ _ _ _ _ _ pe_int (@pa_k _ _ _ _ _ _ _ pe_int (@pa_k _ _ _ _ _ _ _ pe_int (@pa_k _ _ _ _ _ _ _ pe_int (@pa_k _ _ _ _ _ _ _ pe_int pa_nil)))))) (@pa_t _ _ _ _ _ _ _ (@pe_tup _ _ _ _ _ (@pa_t _ _ _ _ _ _ _ (@pe_tup _ _ _ _ _ (@pa_k _ _ _ _ _ _ _ pe_int (@pa_k _ _ _ _ _ _ _ pe_int pa_nil))) (@pa_t _ _ _ _ _ _ _ (@pe_tup _ _ _ _ _ (@pa_k _ _ _ _ _ _ _ pe_int (@pa_k _ _ _ _ _ _ _ pe_int pa_nil))) pa_nil))) pa_nil)))) (pe_cal c1 hr rfl (pa_cons (pv 0) (pa_cons pe_int pa_nil))) (fun _ _=>rfl)))),?_⟩
  have sH:Sta l b H H:=Sta.start hl hst
  refine ⟨(by show 0 <= sizeLine;decide),fun a0 hna0=>?_⟩
  have ga0:Same H (upd H a0 (.tup [])):=Same.new hna0
  have ha0:upd H a0 (.tup []) a0=some (.tup []):=upd_same
  have na0:a0 ≠ l:=(sH.ne hna0).symm
  have sJa0:=sH.same ga0
  try dsimp only
  generalize upd H a0 (.tup [])=Ja0 at ga0 ha0 sJa0
  refine ⟨(by show 0 <= sizeLine;decide),fun a1 hna1=>?_⟩
  have ga1:Same Ja0 (upd Ja0 a1 (.lst [])):=Same.new hna1
  have ha1:upd Ja0 a1 (.lst []) a1=some (.lst []):=upd_same
  have na1:a1 ≠ l:=(sJa0.ne hna1).symm
  have sJa1:=sJa0.same ga1
  try dsimp only
  generalize upd Ja0 a1 (.lst [])=Ja1 at ga1 ha1 sJa1
  refine ⟨(by show 1 <= sizeLine;decide),fun a2 hna2=>?_⟩
  have ga2:Same Ja1 (upd Ja1 a2 (.tup [.bl true])):=Same.new hna2
  have ha2:upd Ja1 a2 (.tup [.bl true]) a2=some (.tup [.bl true]):=upd_same
  have na2:a2 ≠ l:=(sJa1.ne hna2).symm
  have sJa2:=sJa1.same ga2
  try dsimp only
  generalize upd Ja1 a2 (.tup [.bl true])=Ja2 at ga2 ha2 sJa2
  refine ⟨(by show 1 <= sizeLine;decide),fun a3 hna3=>?_⟩
  have ga3:Same Ja2 (upd Ja2 a3 (.lst [.int 1])):=Same.new hna3
  have ha3:upd Ja2 a3 (.lst [.int 1]) a3=some (.lst [.int 1]):=upd_same
  have na3:a3 ≠ l:=(sJa2.ne hna3).symm
  have sJa3:=sJa2.same ga3
  try dsimp only
  generalize upd Ja2 a3 (.lst [.int 1])=Ja3 at ga3 ha3 sJa3
  intro a4 hna4
  have ga4:Same Ja3 (upd Ja3 a4 (.dK [(Sum.inl 0,.int 1)])):=Same.new hna4
  have ha4:upd Ja3 a4 (.dK [(Sum.inl 0,.int 1)]) a4=some (.dK [(Sum.inl 0,.int 1)]):=upd_same
  have na4:a4 ≠ l:=(sJa3.ne hna4).symm
  have sJa4:=sJa3.same ga4
  try dsimp only
  generalize upd Ja3 a4 (.dK [(Sum.inl 0,.int 1)])=Ja4 at ga4 ha4 sJa4
  refine ⟨(by show 1 <= sizeLine;decide),fun a5 hna5=>?_⟩
  have ga5:Same Ja4 (upd Ja4 a5 (.tup [.non])):=Same.new hna5
  have ha5:upd Ja4 a5 (.tup [.non]) a5=some (.tup [.non]):=upd_same
  have na5:a5 ≠ l:=(sJa4.ne hna5).symm
  have sJa5:=sJa4.same ga5
  try dsimp only
  generalize upd Ja4 a5 (.tup [.non])=Ja5 at ga5 ha5 sJa5
  refine ⟨(by show 1 <= sizeLine;decide),fun a6 hna6=>?_⟩
  have ga6:Same Ja5 (upd Ja5 a6 (.tup [.int 1])):=Same.new hna6
  have ha6:upd Ja5 a6 (.tup [.int 1]) a6=some (.tup [.int 1]):=upd_same
  have na6:a6 ≠ l:=(sJa5.ne hna6).symm
  have sJa6:=sJa5.same ga6
  try dsimp only
  generalize upd Ja5 a6 (.tup [.int 1])=Ja6 at ga6 ha6 sJa6
  refine ⟨(by show 1 <= sizeLine;decide),fun a7 hna7=>?_⟩
  have ga7:Same Ja6 (upd Ja6 a7 (.tup [.ref a6])):=Same.new hna7
  have ha7:upd Ja6 a7 (.tup [.ref a6]) a7=some (.tup [.ref a6]):=upd_same
  have na7:a7 ≠ l:=(sJa6.ne hna7).symm
  have sJa7:=sJa6.same ga7
  try dsimp only
  generalize upd Ja6 a7 (.tup [.ref a6])=Ja7 at ga7 ha7 sJa7
  refine ⟨_,_,rfl,rfl,⟨by decide,by decide,by decide⟩,?_⟩
  refine ⟨(by show 1 <= sizeLine;decide),fun a8 hna8=>?_⟩
  have ga8:Same Ja7 (upd Ja7 a8 (.tup [.int 0])):=Same.new hna8
  have ha8:upd Ja7 a8 (.tup [.int 0]) a8=some (.tup [.int 0]):=upd_same
  have na8:a8 ≠ l:=(sJa7.ne hna8).symm
  have sJa8:=sJa7.same ga8
  try dsimp only
  generalize upd Ja7 a8 (.tup [.int 0])=Ja8 at ga8 ha8 sJa8
  refine ⟨(by show 1 <= sizeLine;decide),fun a9 hna9=>?_⟩
  have ga9:Same Ja8 (upd Ja8 a9 (.tup [.int 21])):=Same.new hna9
  have ha9:upd Ja8 a9 (.tup [.int 21]) a9=some (.tup [.int 21]):=upd_same
  have na9:a9 ≠ l:=(sJa8.ne hna9).symm
  have sJa9:=sJa8.same ga9
  try dsimp only
  generalize upd Ja8 a9 (.tup [.int 21])=Ja9 at ga9 ha9 sJa9
  have ea0:=(((((((((ga1).trans ga2).trans ga3).trans ga4).trans ga5).trans ga6).trans ga7).trans ga8).trans ga9) _ _ ha0
  have ea1:=((((((((ga2).trans ga3).trans ga4).trans ga5).trans ga6).trans ga7).trans ga8).trans ga9) _ _ ha1
  have ea2:=(((((((ga3).trans ga4).trans ga5).trans ga6).trans ga7).trans ga8).trans ga9) _ _ ha2
  have ea3:=((((((ga4).trans ga5).trans ga6).trans ga7).trans ga8).trans ga9) _ _ ha3
  have ea4:=(((((ga5).trans ga6).trans ga7).trans ga8).trans ga9) _ _ ha4
  have ea5:=((((ga6).trans ga7).trans ga8).trans ga9) _ _ ha5
  have ea6:=(((ga7).trans ga8).trans ga9) _ _ ha6
  have ea7:=((ga8).trans ga9) _ _ ha7
  have ea8:=(ga9) _ _ ha8
  have ea9:=(Same.refl _) _ _ ha9
  refine ⟨(by show 18 <= sizeLine;decide),fun pl hnpl=>?_⟩
  have gL:Same Ja9 (upd Ja9 pl (.lst ([.non,.bl true,.bl false,.int (-1),.int 0,.int 1,.str "",.str "1"] ++ [.ref a0,.ref a1,.ref a2,.ref a3,.ref a4,.ref a5,.ref a7,.int (10 ^ 29),.ref a8,.ref a9]))):=Same.new hnpl
  have hL:upd Ja9 pl (.lst ([.non,.bl true,.bl false,.int (-1),.int 0,.int 1,.str "",.str "1"] ++ [.ref a0,.ref a1,.ref a2,.ref a3,.ref a4,.ref a5,.ref a7,.int (10 ^ 29),.ref a8,.ref a9])) pl=some (.lst ([.non,.bl true,.bl false,.int (-1),.int 0,.int 1,.str "",.str "1"] ++ [.ref a0,.ref a1,.ref a2,.ref a3,.ref a4,.ref a5,.ref a7,.int (10 ^ 29),.ref a8,.ref a9])):=upd_same
  have sHL:=sJa9.same gL
  show tRet _ _ _ (upd Ja9 pl (.lst ([.non,.bl true,.bl false,.int (-1),.int 0,.int 1,.str "",.str "1"] ++ [.ref a0,.ref a1,.ref a2,.ref a3,.ref a4,.ref a5,.ref a7,.int (10 ^ 29),.ref a8,.ref a9])))
  generalize upd Ja9 pl (.lst ([.non,.bl true,.bl false,.int (-1),.int 0,.int 1,.str "",.str "1"] ++ [.ref a0,.ref a1,.ref a2,.ref a3,.ref a4,.ref a5,.ref a7,.int (10 ^ 29),.ref a8,.ref a9]))=HL at gL hL sHL
  refine ⟨_,rfl,?_⟩
  refine ⟨(by show 5 <= sizeLine;decide),fun b0 hnb0=>?_⟩
  have gb0:Same HL (upd HL b0 (.tup [.int 1,.int 1,.int 1,.int 1,.int 1])):=Same.new hnb0
  have hb0:upd HL b0 (.tup [.int 1,.int 1,.int 1,.int 1,.int 1]) b0=some (.tup [.int 1,.int 1,.int 1,.int 1,.int 1]):=upd_same
  have nb0:b0 ≠ l:=(sHL.ne hnb0).symm
  have sJb0:=sHL.same gb0
  try dsimp only
  generalize upd HL b0 (.tup [.int 1,.int 1,.int 1,.int 1,.int 1])=Jb0 at gb0 hb0 sJb0
  refine ⟨(by show 2 <= sizeLine;decide),fun b1 hnb1=>?_⟩
  have gb1:Same Jb0 (upd Jb0 b1 (.tup [.int 0,.int 0])):=Same.new hnb1
  have hb1:upd Jb0 b1 (.tup [.int 0,.int 0]) b1=some (.tup [.int 0,.int 0]):=upd_same
  have nb1:b1 ≠ l:=(sJb0.ne hnb1).symm
  have sJb1:=sJb0.same gb1
  try dsimp only
  generalize upd Jb0 b1 (.tup [.int 0,.int 0])=Jb1 at gb1 hb1 sJb1
  refine ⟨(by show 2 <= sizeLine;decide),fun b2 hnb2=>?_⟩
  have gb2:Same Jb1 (upd Jb1 b2 (.tup [.int 0,.int 0])):=Same.new hnb2
  have hb2:upd Jb1 b2 (.tup [.int 0,.int 0]) b2=some (.tup [.int 0,.int 0]):=upd_same
  have nb2:b2 ≠ l:=(sJb1.ne hnb2).symm
  have sJb2:=sJb1.same gb2
  try dsimp only
  generalize upd Jb1 b2 (.tup [.int 0,.int 0])=Jb2 at gb2 hb2 sJb2
  refine ⟨(by show 2 <= sizeLine;decide),fun b3 hnb3=>?_⟩
  have gb3:Same Jb2 (upd Jb2 b3 (.tup [.ref b1,.ref b2])):=Same.new hnb3
  have hb3:upd Jb2 b3 (.tup [.ref b1,.ref b2]) b3=some (.tup [.ref b1,.ref b2]):=upd_same
  have nb3:b3 ≠ l:=(sJb2.ne hnb3).symm
  have sJb3:=sJb2.same gb3
  try dsimp only
  generalize upd Jb2 b3 (.tup [.ref b1,.ref b2])=Jb3 at gb3 hb3 sJb3
  have eb0:=(((gb1).trans gb2).trans gb3) _ _ hb0
  have eb1:=((gb2).trans gb3) _ _ hb1
  have eb2:=(gb3) _ _ hb2
  have eb3:=(Same.refl _) _ _ hb3
  refine ⟨(by show 2 <= sizeLine;decide),fun ph hnph=>⟨pl,ph,[.non,.bl true,.bl false,.int (-1),.int 0,.int 1,.str "",.str "1"] ++ [.ref a0,.ref a1,.ref a2,.ref a3,.ref a4,.ref a5,.ref a7,.int (10 ^ 29),.ref a8,.ref a9],[.ref b0,.ref b3],rfl,rfl,Same.new hnph _ _ (((((gb0).trans gb1).trans gb2).trans gb3) _ _ hL),upd_same,(by show 18 + 2 <= sizeLine;decide),fun pz hnpz=>?_⟩⟩
  have gZ:Same Jb3 (upd (upd Jb3 ph (.lst [.ref b0,.ref b3])) pz (.lst (([.non,.bl true,.bl false,.int (-1),.int 0,.int 1,.str "",.str "1"] ++ [.ref a0,.ref a1,.ref a2,.ref a3,.ref a4,.ref a5,.ref a7,.int (10 ^ 29),.ref a8,.ref a9]) ++ [.ref b0,.ref b3]))):=(Same.new hnph).trans (Same.new hnpz)
  have hZ:upd (upd Jb3 ph (.lst [.ref b0,.ref b3])) pz (.lst (([.non,.bl true,.bl false,.int (-1),.int 0,.int 1,.str "",.str "1"] ++ [.ref a0,.ref a1,.ref a2,.ref a3,.ref a4,.ref a5,.ref a7,.int (10 ^ 29),.ref a8,.ref a9]) ++ [.ref b0,.ref b3])) pz=some (.lst (([.non,.bl true,.bl false,.int (-1),.int 0,.int 1,.str "",.str "1"] ++ [.ref a0,.ref a1,.ref a2,.ref a3,.ref a4,.ref a5,.ref a7,.int (10 ^ 29),.ref a8,.ref a9]) ++ [.ref b0,.ref b3])):=upd_same
  have nz:pz ≠ l:=((sJb3.new hnph).ne hnpz).symm
  have sZ:=sJb3.same gZ
  try dsimp only
  generalize upd (upd Jb3 ph (.lst [.ref b0,.ref b3])) pz (.lst (([.non,.bl true,.bl false,.int (-1),.int 0,.int 1,.str "",.str "1"] ++ [.ref a0,.ref a1,.ref a2,.ref a3,.ref a4,.ref a5,.ref a7,.int (10 ^ 29),.ref a8,.ref a9]) ++ [.ref b0,.ref b3]))=HZ at gZ hZ sZ
  have gA:Same Ja9 HZ:=(gL.trans ((((gb0).trans gb1).trans gb2).trans gb3)).trans gZ
  have all:∀ y ∈ ((([.non,.bl true,.bl false,.int (-1),.int 0,.int 1,.str "",.str "1"] ++ [.ref a0,.ref a1,.ref a2,.ref a3,.ref a4,.ref a5,.ref a7,.int (10 ^ 29),.ref a8,.ref a9]) ++ [.ref b0,.ref b3]):List V),Tg l HZ y:=fun y hy=>by
    simp only [List.cons_append,List.nil_append,List.mem_cons,List.not_mem_nil,or_false] at hy
    rcases hy with e | e | e | e | e | e | e | e | e | e | e | e | e | e | e | e | e | e | e | e
    · rw [e];exact Tg.non _ _
    · rw [e];exact Tg.bl _ _ _
    · rw [e];exact Tg.bl _ _ _
    · rw [e];exact Tg.int _ _ _
    · rw [e];exact Tg.int _ _ _
    · rw [e];exact Tg.int _ _ _
    · rw [e];exact Tg.str _ _ _
    · rw [e];exact Tg.str _ _ _
    · rw [e];exact Tg.tup (gA _ _ ea0) na0 (by decide) fun z hz=>by cases hz
    · rw [e];exact Tg.lst (gA _ _ ea1) na1 fun z hz=>by cases hz
    · rw [e];exact Tg.tup (gA _ _ ea2) na2 (by decide) fun z hz=>by rw [List.mem_singleton.mp hz];exact (Tg.bl _ _ _).sh
    · rw [e];exact Tg.lst (gA _ _ ea3) na3 fun z hz=>by rw [List.mem_singleton.mp hz];exact (Tg.int _ _ _).sh.da
    · rw [e];exact Tg.dct (gA _ _ ea4) na4
    · rw [e];exact Tg.tup (gA _ _ ea5) na5 (by decide) fun z hz=>by rw [List.mem_singleton.mp hz];exact (Tg.non _ _).sh
    · rw [e];exact Tg.tup (gA _ _ ea7) na7 (by show 1 <= 1000;decide) fun z hz=>by
        rw [List.mem_singleton.mp hz]
        exact Sh.tup (gA _ _ ea6) na6 (by decide) fun z' hz'=>by rw [List.mem_singleton.mp hz'];exact (Tg.int _ _ _).sh.da
    · rw [e];exact Tg.int _ _ _
    · rw [e];exact Tg.tup (gA _ _ ea8) na8 (by decide) fun z hz=>by rw [List.mem_singleton.mp hz];exact (Tg.int _ _ _).sh
    · rw [e];exact Tg.tup (gA _ _ ea9) na9 (by decide) fun z hz=>by rw [List.mem_singleton.mp hz];exact (Tg.int _ _ _).sh
    · rw [e]
      refine Tg.tup (gZ _ _ eb0) nb0 (by decide) fun z hz=>?_
      have:z=.int 1:=by simpa using hz
      rw [this];exact (Tg.int _ _ _).sh
    · rw [e]
      have zz:∀ z ∈ ([.int 0,.int 0]:List V),Da l HZ z:=fun z hz=>by
        have:z=.int 0:=by simpa using hz
        rw [this];exact (Tg.int _ _ _).sh.da
      refine Tg.tup (gZ _ _ eb3) nb3 (by show 2 <= 1000;decide) fun z hz=>?_
      simp only [List.mem_cons,List.not_mem_nil,or_false] at hz
      rcases hz with e | e
      · rw [e];exact Sh.tup (gZ _ _ eb1) nb1 (by decide) zz
      · rw [e];exact Sh.tup (gZ _ _ eb2) nb2 (by decide) zz
  generalize hL20:((([.non,.bl true,.bl false,.int (-1),.int 0,.int 1,.str "",.str "1"] ++ [.ref a0,.ref a1,.ref a2,.ref a3,.ref a4,.ref a5,.ref a7,.int (10 ^ 29),.ref a8,.ref a9]) ++ [.ref b0,.ref b3]):List V)=L20 at hZ all
  have hlen:L20.length=20:=by rw [<- hL20];rfl
  obtain ⟨_,xz,hxz,okz⟩:=id sZ
  refine ⟨_,rfl,l,20,xz,b,rfl,hxz,okz,by decide,by decide,fun y xI hy okI=>?_⟩
  have sI:=sZ.go okI
  have kI':Kp l HZ (upd HZ l (.lst [.int xI,.bl b])):=Kp.at
  exact ⟨pz,_,_,L20[y]'(by omega),rfl,rfl,.of (kI' _ _ nz hZ),atI_nat (List.getElem?_eq_getElem _),q _ _ sI ((all _ (List.getElem_mem _)).kp kI')⟩
end
end G
namespace Mt
theorem cut_mul_cut {a b c d:Int} (hb:0 < b) (hd:0 < d):cut a b * cut c d=cut (a * c) (b * d):=by
  unfold cut
  have e:(b * d).toNat=b.toNat * d.toNat:=by
    have e1:b=((b.toNat:Nat):Int):=by omega
    have e2:d=((d.toNat:Nat):Int):=by omega
    rw [e1,e2,<- Int.natCast_mul,Int.toNat_natCast,Int.toNat_natCast,Int.toNat_natCast]
  rw [e,Rat.mkRat_mul_mkRat]
end Mt
namespace G
open PySem PySem.Spec PyProof.Rows L2 Mt Md Mo
theorem rep_flat (v:V):∀ k:Nat,(List.replicate k [v]).flatten=List.replicate k v
  | 0=>rfl
  | k + 1=>by rw [List.replicate_succ,List.flatten_cons,rep_flat v k];rfl
theorem fol_step {rs:List (List Int)} {u:List Int} {k:Nat} {ks:List Nat} {t b:Int} {x:Rat} (hb:0 < b) (hs:0 < u.sum) (e:cut t b * (fol rs u (k :: ks)).1=x):cut (t * u.getD k 0) (b * u.sum) * (fol rs (addL u (rs.getD k [])) ks).1=x:=by
  rw [fol_cons] at e
  have hp:0 < b * u.sum:=Int.mul_pos hb hs
  by_cases hz:u.getD k 0=0
  · rw [if_pos hz] at e
    have e2:cut t b * 0=x:=e
    rw [Rat.mul_zero] at e2
    rw [hz,Int.mul_zero,cut_zero hp,Rat.zero_mul];exact e2
  · rw [if_neg hz] at e
    have e2:cut t b * (share u k * (fol rs (addL u (rs.getD k [])) ks).1)=x:=e
    rw [<- Rat.mul_assoc] at e2
    unfold Mt.share at e2
    rw [cut_mul_cut hb hs] at e2
    exact e2
section
variable {P:Program} {w:World} {K:PySem.W.Frag} {mg:Str->Option Value} {base:Heap} {f:Addr} {fd:FuncData}
def sp_ch:Sp:=fun vs H Q _=>∃ (st a d:Addr) (v:V) (n k:Nat) (ns:List Int) (rs:List (List Int)) (ks:List Nat),vs=[.ref a,v,.ref d]/\AskO st H n ns rs k a v/\H d=some (.tup ((zI ks).map V.int))/\ks ∈ dr n k /\
  ∀ p H',Same H H'->H' p=some (.tup ((fr (chO rs ns ks)).map V.int))->Q (.ref p) H'
abbrev s_ch:Stmt:=top 50
theorem sc_ch:FnScope ["_law_urn","_law_rule_here","_law_draws","_law_top","_law_bottom","_law_counts","_law_kind","_law_here"] ["_law_urn","_law_rule_here","_law_draws"] (defScope s_ch):=⟨rfl,rfl,rfl,by decide +kernel,rfl,by decide +kernel,by decide +kernel⟩
theorem ok_ch (F:Fun K "_law_chance" "_law_chance" s_ch f fd) (B:Bt mg) (c1:Cal P w K mg base 1 "_law_behind" ["_law_urn","_law_rule_here","_law_counts"] sp_beh) (c2:Cal P w K mg base 1 "_law_fraction" ["_law_top","_law_bottom"] sp_cut):FnOk P w K mg base CX0 2 f fd ["_law_urn","_law_rule_here","_law_draws"] sp_ch:=by
  refine F.ok sc_ch (fun vs H Q E h=>?_) (fun cdv A outer s H vs Q E hr h=>?_)
  · obtain ⟨st,a,d,v,n,k,ns,rs,ks,rfl,_⟩:=h
    rfl
  obtain ⟨st,a,d,v,n,k,ns,rs,ks,rfl,hA,hd,hk,q⟩:=h
  refine ⟨_,(@pss_cons _ _ _ _ _ (ps_asg (pe_tup (pa_cons pe_int (pa_cons pe_int pa_nil))) (pg_tup rfl (pgs_cons (pg_name (i:=3) sc_ch.nd rfl (Or.inl rfl)) (pgs_cons (pg_name (i:=4) sc_ch.nd rfl (Or.inl rfl)) pgs_nil))))
    (@pss_cons _ _ _ _ _ (@ps_set _ _ 5 _ _ _ _ sc_ch.nd rfl (Or.inl rfl) (@pe_op _ _ _ _ _ _ _ _ op_rep (@pe_lst _ _ _ _ (@pa_cons _ _ _ _ _ pe_int pa_nil (by rfl))) (pe_callB call_len_seq rfl B.len PySem.boot_len (@pa_cons _ _ _ _ _ (pv 0) pa_nil (by rfl)))) (by rfl) (by first | exact .inl rfl | exact .inr rfl))
    (@pss_cons _ _ _ _ _ (ps_for PassesOwn.never rfl (pi_tup (pv 2)) (pg_name (i:=6) sc_ch.nd rfl (Or.inl rfl))
    (@pss_cons _ _ _ _ _ (@ps_set _ _ 7 _ _ _ _ sc_ch.nd rfl (Or.inl rfl) (pe_cal (c1.up (by decide)) hr rfl (@pa_cons _ _ _ _ _ (pv 0) (@pa_cons _ _ _ _ _ (pv 1) (@pa_cons _ _ _ _ _ (pv 5) pa_nil (by rfl)) (by rfl)) (by rfl))) (by rfl) (by first | exact .inl rfl | exact .inr rfl))
    (@pss_cons _ _ _ _ _ (ps_par (i:=3) (j:=4) rfl sc_ch.nd rfl rfl (by decide) rfl rfl (@pa_cons _ _ _ _ _ (@pe_op _ _ _ _ _ _ _ _ op_mul (pv 3) (@pe_ix _ _ _ _ _ _ _ ix_tup (pv 7) (pv 6) (fun _ _=>rfl))) (@pa_cons _ _ _ _ _ (@pe_op _ _ _ _ _ _ _ _ op_mul (pv 4) (pe_callB (call_sum_seq rfl) rfl B.sum boot_sum (@pa_cons _ _ _ _ _ (pv 7) pa_nil (by rfl)))) pa_nil (by rfl)) (by rfl)) rfl)
    (@pss_one _ _ _ (ps_asg (@pe_op _ _ _ _ _ _ _ _ op_add (@pe_ix _ _ _ _ _ _ _ ix_list (pv 5) (pv 6) (fun _ _=>rfl)) pe_int) (pg_sub (pv 5) (pv 6) set_list))))))
    (@pss_one _ _ _ (ps_ret (pe_cal (c2.up (by decide)) hr rfl (@pa_cons _ _ _ _ _ (pv 3) (@pa_cons _ _ _ _ _ (pv 4) pa_nil (by rfl)) (by rfl)))))))),?_⟩
  have hU:=hA.uu
  have hR:=hA.ru
  have n4:=hA.n4
  have k4:=hA.k4
  obtain ⟨hkl,hkn⟩:=dr_iff.mp hk
  obtain ⟨a',e,_,ha⟩:=hA.u.di
  cases e
  have eN:((ns.map V.int).length:Int).toNat=n:=by rw [List.length_map,hU.len];rfl
  refine ⟨(by show 2 <= sizeLine;decide),fun pt hpt=>⟨pt,[.int 1,.int 1],rfl,.of upd_same,rfl,_,_,rfl,_,_,rfl,rfl,?_⟩⟩
  have g0:Same H (upd H pt (.tup [.int 1,.int 1])):=Same.new hpt
  try dsimp -proj only
  generalize upd H pt (.tup [.int 1,.int 1])=Hz at g0
  refine ⟨(by show 1 <= sizeLine;decide),fun pz hpz=>⟨_,rfl,a,_,rfl,.inr (.of ((Same.new hpz) _ _ (g0 _ _ ha))),pz,_,_,rfl,rfl,upd_same,by rw [List.length_map,hU.len];omega,by rw [List.length_map,hU.len];omega,(by rw [eN];show 1 * n <= _;exact sz (by omega)),fun lc hlc=>?_⟩⟩
  rw [eN,rep_flat]
  have g1:Same H (upd Hz pz (.lst [.int 0])):=g0.trans (Same.new hpz)
  have hHl:H lc=none:=g1.free hlc
  generalize upd Hz pz (.lst [.int 0])=H0 at g1 hlc
  have g2:Same H0 (upd H0 lc (.lst (List.replicate n (.int 0)))):=Same.new hlc
  have h2:upd H0 lc (.lst (List.replicate n (.int 0))) lc=some (.lst ((List.replicate n (0:Int)).map V.int)):=by rw [upd_same,List.map_replicate]
  try dsimp -proj only
  generalize upd H0 lc (.lst (List.replicate n (.int 0)))=H1 at g2 h2
  have g12:=g1.trans g2
  refine ⟨_,rfl,d,rfl,⟨_,.of (g12 _ _ hd)⟩,?_⟩
  have ndl:d ≠ lc:=ne_of_none hd hHl
  have dl:((zI ks).map V.int).length=ks.length:=by rw [List.length_map,zI_len]
  have nls:∀ xs ys,HO.lst xs ≠ .tup ys:=fun _ _ z=>by cases z
  refine for_tup (K:=K) (a:=d) (xs:=(zI ks).map V.int) (fun i σ H4=>Kp lc H1 H4/\∃ (t b:Int) (c:List Int) (o6 o7:Option V),σ=[some (.ref a),some v,some (.ref d),some (.int t),some (.int b),some (.ref lc),o6,o7]/\H4 lc=some (.lst (c.map V.int))/\(c.length=n/\∀ x ∈ c,0 <= x/\x <= (i:Int))/\Mt.Urn n (20 + 5 * i) (beh ns rs c)/\i <= ks.length/\0 <= t/\0 < b/\b <= 1000 ^ i/\cut t b * (fol rs (beh ns rs c) (ks.drop i)).1=chO rs ns ks)
    ⟨Kp.refl _ _,1,1,List.replicate n 0,none,none,rfl,h2,⟨List.length_replicate,fun x hx=>by rw [List.eq_of_mem_replicate hx];exact ⟨Int.le_refl _,Int.le_refl _⟩⟩,by rw [beh_zero];exact hU,Nat.zero_le _,by decide,by decide,by decide,by rw [beh_zero];show cut 1 1 * _=_;rw [cut_self (by decide),Rat.one_mul];rfl⟩ (fun i σ H4 _ h=>.of (h.1 _ _ ndl (g12 _ _ hd))) (fun i x σ H4 hx h=>?_) (fun σ H4 h=>?_)
  · obtain ⟨k4',t,b,c,o6,o7,rfl,hc4,hcb,hu,hi,ht,hb,hbb,e⟩:=h
    rw [List.getElem?_map] at hx
    unfold zI at hx
    rw [List.getElem?_map] at hx
    obtain ⟨z,hz,ez⟩:=Option.map_eq_some_iff.mp hx
    obtain ⟨j,hj,ej⟩:=Option.map_eq_some_iff.mp hz
    subst ej ez
    have jn:=hkn j (List.mem_of_getElem? hj)
    have il:=(List.getElem?_eq_some_iff.mp hj).1
    have ed:ks.drop i=j :: ks.drop (i + 1):=by rw [List.drop_eq_getElem_cons il];congr 1;exact (List.getElem?_eq_some_iff.mp hj).2
    have gS:Same H H4:=fun b o e=>k4' _ _ (fun z=>by rw [z,hHl] at e;cases e) (g12 _ _ e)
    have A4:=hA.same gS
    have i4:i <= 3:=by omega
    have uj:=hu.getD j
    have ul:(beh ns rs c).length=n:=hu.len
    have us:=Urn.sum_le hu n4
    refine ⟨_,rfl,_,rfl,_,rfl,a,lc,st,v,n,ns,c,rs,rfl,gS _ _ ha,hU.len,A4.r,hR,n4,hcb.1,.inr hc4,(fun x hx=>⟨(hcb.2 x hx).1,by have:=(hcb.2 x hx).2;omega⟩),fun ph H5 g5 hph=>?_⟩
    refine ⟨_,rfl,_,rfl,_,rfl,ph,_,_,_,rfl,rfl,.of hph,atI_int (by rw [ul];exact jn),t,(beh ns rs c).getD j 0,rfl,rfl,.inr ⟨by omega,by omega⟩,?_⟩
    refine ⟨_,rfl,_,rfl,ph,beh ns rs c,rfl,.inr (.of hph),b,(beh ns rs c).sum,rfl,rfl,.inr ⟨by have:=hu.pos;omega,by omega⟩,_,_,rfl,?_⟩
    have hc5:=g5 _ _ hc4
    refine ⟨_,rfl,_,rfl,lc,_,_,_,rfl,rfl,.of hc5,atI_int (by rw [hcb.1];exact jn),_,_,rfl,rfl,_,rfl,_,rfl,lc,_,_,j,rfl,rfl,hc5,ixN_nat (by rw [List.length_map,hcb.1];exact jn),?_⟩
    refine ⟨(k4'.trans (g5.kp lc)).trans Kp.at,_,_,inc c j,_,_,rfl,?_,?_,?_,il,Int.mul_nonneg ht uj.1,Int.mul_pos hb hu.pos,?_,?_⟩
    · rw [upd_same];unfold inc;rw [List.map_set]
    · have:=inc_ok (m:=i) hcb jn
      exact ⟨this.1,fun x hx=>⟨(this.2 x hx).1,by have:=(this.2 x hx).2;omega⟩⟩
    · rw [beh_inc hU.len hcb.1 hR jn,show 20 + 5 * (i + 1)=20 + 5 * i + 5 by omega]
      exact hu.add (hR.at jn)
    · rw [Int.pow_succ]
      exact Int.mul_le_mul hbb (by omega) (by have:=hu.pos;omega) (Int.pow_nonneg (by decide))
    · rw [beh_inc hU.len hcb.1 hR jn]
      rw [ed] at e
      exact fol_step hb hu.pos e
  · obtain ⟨k4',t,b,c,o6,o7,rfl,hc4,hcb,hu,hi,ht,hb,hbb,e⟩:=h
    rw [dl,List.drop_length,fol_nil] at e
    have e2:cut t b * 1=chO rs ns ks:=e
    rw [Rat.mul_one] at e2
    have gS:Same H H4:=fun b o e=>k4' _ _ (fun z=>by rw [z,hHl] at e;cases e) (g12 _ _ e)
    have b12:b <= 1000 ^ 4:=Int.le_trans hbb (by
      rw [dl]
      have hm:ks.length <= 4:=by omega
      generalize ks.length=m at hm
      have:m=0 ∨ m=1 ∨ m=2 ∨ m=3 ∨ m=4:=by omega
      rcases this with rfl | rfl | rfl | rfl | rfl <;> decide)
    refine ⟨_,rfl,_,rfl,t,b,rfl,ht,hb,?_,fun p H5 g5 hp=>q p H5 (gS.trans g5) (by rw [<- e2];exact hp)⟩
    have hth:(1000:Int) ^ 4 < 2 ^ 40:=by decide
    exact (Nat.log2_lt (by omega)).mpr (Nat.lt_of_lt_of_le (show b.natAbs < 2 ^ 40 by omega) (Nat.pow_le_pow_right (by decide) (by decide)))
end
end G
namespace L2
open PySem PySem.Spec PyProof.Rows
theorem eqL_at {H:Hp} {p r:Addr} {a b:List Int} {Q:VK} (hp:H p=some (.lst (a.map V.int))) (hr:H r=some (.lst (b.map V.int))) (q:Q (.bl (decide (a=b))) H):rEqD (.ref p) (.ref r) H Q:=by
  have sh:∀ ns:List Int,SeqAt.shaped (PyData.list (ns.map PyData.int))=true:=fun ns=>by
    unfold SeqAt.shaped
    rw [Bool.and_eq_true]
    refine ⟨?_,decide_eq_true ?_⟩
    · show PyData.canLay0 (.list (ns.map PyData.int))=true
      unfold PyData.canLay0
      exact canLayI' ns
    · have:=depthI' ns
      show PyData.depth (.list (ns.map PyData.int)) <= 64
      unfold PyData.depth
      omega
  refine ⟨p + r + 1,.list (a.map PyData.int),.list (b.map PyData.int),Dt.lst (Nat.ne_of_lt (Nat.lt_succ_of_le (Nat.le_add_right p r))) hp (Dts.ints _ _ _),Dt.lst (Nat.ne_of_lt (Nat.lt_succ_of_le (Nat.le_add_left r p))) hr (Dts.ints _ _ _),sh a,sh b,?_⟩
  have e:PyData.eqv (.list (a.map PyData.int)) (.list (b.map PyData.int))=decide (a=b):=by unfold PyData.eqv;exact eqvI2 a b
  rw [e];exact q
theorem mergeT_out {k:List Key}:∀ {kvs a:List (List Key × V)},¬ k ∈ kvs.map (·.1)->valV (mergeT a kvs) k=valV a k
  | [],_,_=>rfl
  | t :: kvs,a,h=>by
    rw [List.map_cons,List.mem_cons,not_or] at h
    show valV (mergeT (putK a t.1 t.2) kvs) k=_
    rw [mergeT_out h.2,valV_put,if_neg h.1]
theorem mergeT_in {k:List Key} {v:V}:∀ {kvs a:List (List Key × V)},(kvs.map (·.1)).Nodup->(k,v) ∈ kvs->valV (mergeT a kvs) k=some v
  | t :: kvs,a,hn,h=>by
    rw [List.map_cons,List.nodup_cons] at hn
    show valV (mergeT (putK a t.1 t.2) kvs) k=_
    rcases List.mem_cons.mp h with e | e
    · subst e
      rw [mergeT_out hn.1,valV_put,if_pos rfl]
    · exact mergeT_in hn.2 e
theorem TL.app {H:Hp}:∀ {A B:List (List Int)} {xs ys:List V},TL H A xs->TL H B ys->TL H (A ++ B) (xs ++ ys)
  | [],_,[],_,_,h=>h
  | _ :: _,_,_ :: _,_,h,k=>⟨h.1,TL.app h.2 k⟩
  | [],_,_ :: _,_,h,_=>h.elim
  | _ :: _,_,[],_,h,_=>h.elim
theorem PrL.snoc {H:Hp} {p ka:Addr} {k:List Key} {x:V} (h1:H p=some (.tup [.ref ka,x])) (h2:H ka=some (.tup (k.map kV))):∀ {kvs:List (List Key × V)} {ys:List V},PrL H kvs ys->PrL H (kvs ++ [(k,x)]) (ys ++ [.ref p])
  | [],[],_=>⟨⟨p,ka,rfl,h1,h2⟩,trivial⟩
  | _ :: _,_ :: _,h=>⟨h.1,PrL.snoc h1 h2 h.2⟩
  | [],_ :: _,h=>h.elim
  | _ :: _,[],h=>h.elim
end L2
namespace G
open PySem PySem.Spec PyProof.Rows L2 Mt Md Mo Mq
theorem boot_dc:bootBuiltins "dict"=some (.type "dict"):=by decide +kernel
theorem dr_take {n k i:Nat} {a b:List Nat} (ha:(dr n k)[i]?=some a) (hb:b ∈ dr n k) (h:HT.lexLt (zI b) (zI a)=true):b ∈ (dr n k).take i:=by
  obtain ⟨j,hj,rfl⟩:=List.getElem_of_mem hb
  obtain ⟨hi,ea⟩:=List.getElem?_eq_some_iff.mp ha
  by_cases hlt:j < i
  · exact List.mem_take_iff_getElem.mpr ⟨j,by omega,rfl⟩
  · exfalso
    by_cases e:j=i
    · subst e;rw [<- ea,lex_irr] at h;cases h
    · have:=List.pairwise_iff_getElem.mp (dr_pw n k) i j hi hj (by omega)
      rw [ea] at this
      have:=lex_trans this h
      rw [lex_irr] at this;cases this
theorem found_F {c:List Nat->Rat} {n k i j:Nat} {a b:List Nat} (ha:(dr n k)[i]?=some a) (hb:(dr n k)[j]?=some b) (hu:Un c a b) (h1:∀ x ∈ (dr n k).take i,∀ y ∈ dr n k,¬ Un c x y) (h2:∀ y ∈ (dr n k).take j,¬ Un c a y):IsF c (dr n k) (some (a,b)):=by
  refine ⟨List.mem_of_getElem? ha,List.mem_of_getElem? hb,hu,fun x hx y hy hxy=>?_⟩
  cases q:lex2 (zI x,zI y) (zI a,zI b) with
  | false=>rfl
  | true =>
    exfalso
    unfold lex2 at q
    dsimp only at q
    by_cases e:zI x=zI a
    · rw [if_pos e] at q
      have e2:=zI_inj e
      subst e2
      exact h2 y (dr_take hb hy q) hxy
    · rw [if_neg e] at q
      exact h1 x (dr_take ha hx q) y hy hxy
theorem qe_keys {H:Hp}:∀ {T:TabQ} {kvs:List (List Key × V)},QE H T kvs->kvs.map (·.1)=T.map fun p=>Md.kI p.1
  | [],[],_=>rfl
  | p :: T,kv :: kvs,h=>by rw [List.map_cons,List.map_cons,qe_keys h.2.2,h.1]
  | [],_ :: _,h=>h.elim
  | _ :: _,[],h=>h.elim
def tabO (c:List Nat->Rat) (A:List (List Nat)):TabQ:=A.map fun d=>(zI d,c d)
section
variable {P:Program} {w:World} {K:PySem.W.Frag} {mg:Str->Option Value} {base:Heap} {f:Addr} {fd:FuncData}
abbrev s_due:Stmt:=top 60
theorem sc_due:FnScope ["_law_urn","_law_rule_here","_law_draws","_law_rows","_law_turn","_law_longer","_law_row","_law_chances","_law_one","_law_other"] ["_law_urn","_law_rule_here","_law_draws"] (defScope s_due):=⟨rfl,rfl,rfl,by decide +kernel,rfl,by decide +kernel,by decide +kernel⟩
theorem ok_due (F:Fun K "_law_due" "_law_due" s_due f fd) (B:Bt mg) (B3:Bt3 mg) (hDc:mg "dict"=none) (c1:Cal P w K mg base 2 "_law_chance" ["_law_urn","_law_rule_here","_law_draws"] sp_ch):FnOk P w K mg base CX0 3 f fd ["_law_urn","_law_rule_here","_law_draws"] sp_fuV:=by
  refine F.ok sc_due (fun vs H Q E h=>?_) (fun cdv A outer s H vs Q E hr h=>?_)
  · obtain ⟨st,a,v,n,k,ns,rs,rfl,_⟩:=h
    rfl
  obtain ⟨st,a,v,n,k,ns,rs,rfl,hA,q⟩:=h
  refine ⟨_,(@pss_cons _ _ _ _ _ (@ps_set _ _ 3 _ _ _ _ sc_due.nd rfl (Or.inl rfl) (@pe_lst _ _ _ _ (@pa_cons _ _ _ _ _ (@pe_tup _ _ _ _ _ pa_nil) pa_nil (by rfl))) (by rfl) (by first | exact .inl rfl | exact .inr rfl))
    (@pss_cons _ _ _ _ _ (ps_for PassesOwn.never rfl (pi_range1 rfl B.range (@pa_cons _ _ _ _ _ (pv 2) pa_nil (by rfl))) (pg_name (i:=4) sc_due.nd rfl (Or.inl rfl))
    (@pss_cons _ _ _ _ _ (@ps_set _ _ 5 _ _ _ _ sc_due.nd rfl (Or.inl rfl) (@pe_lst _ _ _ _ pa_nil) (by rfl) (by first | exact .inl rfl | exact .inr rfl))
    (@pss_cons _ _ _ _ _ (ps_for PassesOwn.never rfl (pi_list (pv 3)) (pg_name (i:=6) sc_due.nd rfl (Or.inr rfl))
    (@pss_one _ _ _ (ps_expr (pe_bm PySem.F.plainAttrs_list PySem.F.slot_list_extend PySem.F.type_list_extend mt_extend (pv 5) (@pa_cons _ _ _ _ _ (pe_compG (N:=["_law_kind","_law_row"]) (ix:=[none,some 6]) (ifs:=[]) (tc:=tTrue) rfl (pi_range1 rfl B.range (@pa_cons _ _ _ _ _ (pe_callB call_len_seq rfl B.len PySem.boot_len (@pa_cons _ _ _ _ _ (pv 0) pa_nil (by rfl))) pa_nil (by rfl)))
      (fun s H ex=>pg_c (i:=0) (by decide +kernel) rfl (Or.inl rfl) (.inr rfl)) (fun s H ex=>pifs_nil) (fun s H ex=>(@pe_op _ _ _ _ _ _ _ _ catS (pv 1) (@pe_tup _ _ _ _ _ (@pa_cons _ _ _ _ _ (pv 0) pa_nil (by rfl))))) rfl (by decide +kernel) (by rfl) (by rfl) (fun _=>rfl)) pa_nil (by rfl))))))
    (@pss_one _ _ _ (@ps_set _ _ 3 _ _ _ _ sc_due.nd rfl (Or.inl rfl) (pv 5) (by rfl) (by first | exact .inl rfl | exact .inr rfl))))))
    (@pss_cons _ _ _ _ _ (@ps_set _ _ 7 _ _ _ _ sc_due.nd rfl (Or.inl rfl) (pe_callTy (call_dictT rfl hr.units) rfl hDc boot_dc (@pa_cons _ _ _ _ _ (pe_compG (N:=["_law_row","_law_urn","_law_rule_here"]) (ix:=[none,some 0,some 1]) (ifs:=[]) (tc:=tTrue) rfl (pi_list (pv 3))
      (fun s H ex=>pg_c (i:=0) (by decide +kernel) rfl (Or.inl rfl) (.inr rfl)) (fun s H ex=>pifs_nil) (fun s H ex=>(@pe_tup _ _ _ _ _ (@pa_cons _ _ _ _ _ (pv 0) (@pa_cons _ _ _ _ _ (pe_cal c1 hr rfl (@pa_cons _ _ _ _ _ (pv 1) (@pa_cons _ _ _ _ _ (pv 2) (@pa_cons _ _ _ _ _ (pv 0) pa_nil (by rfl)) (by rfl)) (by rfl))) pa_nil (by rfl)) (by rfl)))) rfl (by decide +kernel) (by rfl) (by rfl) (fun _=>rfl)) pa_nil (by rfl))) (by rfl) (by first | exact .inl rfl | exact .inr rfl))
    (@pss_cons _ _ _ _ _ (ps_for PassesOwn.never rfl (pi_list (pv 3)) (pg_name (i:=8) sc_due.nd rfl (Or.inl rfl))
    (@pss_one _ _ _ (ps_for PassesOwn.never rfl (pi_list (pv 3)) (pg_name (i:=9) sc_due.nd rfl (Or.inl rfl))
    (@pss_one _ _ _ (ps_if (PW.pt (pw_and (@pt_cmpR _ _ _ _ _ _ _ _ (op_ltT (Nat.lt_of_le_of_lt (Nat.le_add_right _ 64) hr.units)) (pv 8) (pv 9) (nomark _)) (pw_and (@pt_cmpR _ _ _ _ _ _ _ _ (op_eqD hr.units) (pe_callB call_sortT rfl B3.sorted boot_sorted (@pa_cons _ _ _ _ _ (pv 8) pa_nil (by rfl))) (pe_callB call_sortT rfl B3.sorted boot_sorted (@pa_cons _ _ _ _ _ (pv 9) pa_nil (by rfl))) (nomark _)) (pw_and1 (@pt_cmpR _ _ _ _ _ _ _ _ (op_neD hr.units) (pe_dget (hu_of hr) (pv 7) (pv 8) (fun _ _=>rfl)) (pe_dget (hu_of hr) (pv 7) (pv 9) (fun _ _=>rfl)) (nomark _)))))) (@pss_one _ _ _ (ps_ret (@pe_tup _ _ _ _ _ (@pa_cons _ _ _ _ _ (pv 8) (@pa_cons _ _ _ _ _ (pv 9) pa_nil (by rfl)) (by rfl))))) pss_nil)))))
    (@pss_one _ _ _ (ps_ret pe_non)))))),?_⟩
  have hU:=hA.uu
  have n1:=hA.n1
  have n4:=hA.n4
  have k4:=hA.k4
  obtain ⟨a',e,_,ha⟩:=hA.u.di
  cases e
  have nls:∀ xs ys,HO.lst xs ≠ .tup ys:=fun _ _ z=>by cases z
  have eN:((ns.map V.int).length:Int)=(n:Int):=by rw [List.length_map,hU.len]
  refine ⟨(by show 0 <= sizeLine;decide),fun p0 hp0=>⟨(by show 1 <= sizeLine;decide),fun pl hpl=>?_⟩⟩
  have g0:Same H (upd H p0 (.tup [])):=Same.new hp0
  have h0:upd H p0 (.tup []) p0=some (.tup []):=upd_same
  try dsimp -proj only [gName] at *
  generalize upd H p0 (.tup [])=H0 at g0 h0 hpl
  have g1:Same H0 (upd H0 pl (.lst [.ref p0])):=Same.new hpl
  have h1:upd H0 pl (.lst [.ref p0]) pl=some (.lst [.ref p0]):=upd_same
  generalize upd H0 pl (.lst [.ref p0])=H1 at g1 h1
  refine ⟨_,rfl,(k:Int),rfl,by omega,by omega,?_⟩
  refine for_range (lo:=0) (n:=k) (fun j σ H4=>Same H H4/\j <= k/\∃ p ys o4 o5 o6,σ=[some (.ref a),some v,some (.int k),some (.ref p),o4,o5,o6,none,none,none]/\H4 p=some (.lst ys)/\TL H4 ((dr n j).map zI) ys)
    ⟨g0.trans g1,Nat.zero_le _,pl,_,none,none,none,rfl,h1,⟨p0,rfl,g1 _ _ h0⟩,trivial⟩ (fun j σ H4 hj h=>?_) (fun σ H4 h=>?_)
  · obtain ⟨g4,hjk,p,ys,o4,o5,o6,rfl,hp4,hT⟩:=h
    have e0:(0:Int) + (j:Int)=(j:Int):=by omega
    rw [e0]
    have lA:=dr256 (n:=n) (k:=j) n4 (by omega)
    have lB:=dr256 (n:=n) (k:=j + 1) n4 (by omega)
    have ed:dr n (j + 1)=(dr n j).flatMap fun d=>(List.range n).map fun y=>d ++ [y]:=rfl
    have dm:∀ d ∈ dr n j,d.length=j:=fun d hd=>(dr_iff.mp hd).1
    generalize dr n (j + 1)=A' at ed lB ⊢
    generalize dr n j=A at hT lA ed dm
    refine ⟨(by show 0 <= sizeLine;decide),fun lo hlo=>?_⟩
    have hHlo:H lo=none:=g4.free hlo
    have nplo:p ≠ lo:=ne_of_none hp4 hlo
    have g5:Same H4 (upd H4 lo (.lst [])):=Same.new hlo
    have hlo5:upd H4 lo (.lst []) lo=some (.lst []):=upd_same
    try dsimp -proj only [gName]
    generalize upd H4 lo (.lst [])=H5 at g5 hlo5
    have hT5:=hT.same g5
    have hp5:=g5 _ _ hp4
    have gH5:=g4.trans g5
    have yl:ys.length=A.length:=by rw [<- hT5.len,List.length_map]
    refine ⟨_,rfl,p,rfl,⟨_,.of hp5⟩,?_⟩
    refine for_list (K:=K) (a:=p) (xs:=ys) (fun i σ H6=>Kp lo H5 H6/\(∃ zs,H6 lo=some (.lst zs)/\TL H6 (((A.take i).flatMap fun d=>(List.range n).map fun y=>d ++ [y]).map zI) zs)/\i <= ys.length/\∃ o6,σ=[some (.ref a),some v,some (.int k),some (.ref p),some (.int j),some (.ref lo),o6,none,none,none])
      ⟨Kp.refl _ _,⟨[],hlo5,trivial⟩,Nat.zero_le _,o6,rfl⟩ (fun i σ H6 _ h=>.of (h.1 _ _ nplo hp5)) (fun i t σ H6 ht h=>?_) (fun σ H6 h=>?_)
    · obtain ⟨k6,⟨zs,hlo6,hz6⟩,hi,o6,rfl⟩:=h
      have t56:=kpTup hlo5 (nls _) k6
      obtain ⟨z,d,hz,rfl,hd5⟩:=hT5.get ht
      rw [List.getElem?_map] at hz
      obtain ⟨s0,hs0,ez⟩:=Option.map_eq_some_iff.mp hz
      subst ez
      have sl:=dm s0 (List.mem_of_getElem? hs0)
      have hd6:=t56 _ _ hd5
      have hil:=(List.getElem?_eq_some_iff.mp ht).1
      have ha6:=t56 _ _ (gH5 _ _ ha)
      refine ⟨_,rfl,.inl ⟨rfl,_,.of hlo6⟩,_,rfl,a,_,rfl,.inr (.of ha6),(n:Int),(by show [V.int ((ns.map V.int).length:Int)]=_;rw [eN]),by omega,by omega,?_⟩
      refine blk_range (lo:=0) (n:=n) (sz (by omega)) (fun y cs H7=>Same H6 H7/\y <= n/\TL H7 (((List.range y).map fun y=>s0 ++ [y]).map zI) cs) ⟨Same.refl _,Nat.zero_le _,trivial⟩ (fun y cs H7 h=>?_) rfl (fun y cs H7 hy h=>?_) (fun cs H7 h=>?_)
      · rw [<- h.2.2.len,List.length_map,List.length_map,List.length_range]
      · obtain ⟨g7,hyn,hc⟩:=h
        have e0:(0:Int) + (y:Int)=(y:Int):=by omega
        rw [e0]
        refine ⟨_,rfl,_,rfl,(by show 1 <= sizeLine;decide),fun p1 hp1=>⟨d,p1,(zI s0).map V.int,[.int y],rfl,rfl,(Same.new hp1) _ _ (g7 _ _ hd6),upd_same,(by rw [List.length_map,zI_len];show s0.length + 1 <= _;omega),fun pd Hc gc hpd=>⟨g7.trans ((Same.new hp1).trans gc),by omega,?_⟩⟩⟩
        rw [List.range_succ,List.map_append,List.map_append]
        refine TL.snoc ?_ (hc.same ((Same.new hp1).trans gc))
        rw [hpd]
        show _=some (HO.tup ((zI (s0 ++ [y])).map V.int))
        rw [zI_snoc,List.map_append];rfl
      · obtain ⟨g7,_,hc⟩:=h
        intro pc hpc
        have g8:Same H6 (upd H7 pc (.lst cs)):=g7.trans (Same.new hpc)
        have hpc8:upd H7 pc (.lst cs) pc=some (.lst cs):=upd_same
        have hc8:=hc.same (Same.new (o:=.lst cs) hpc)
        try dsimp -proj only
        generalize upd H7 pc (.lst cs)=H8 at g8 hpc8 hc8
        have hlo8:=g8 _ _ hlo6
        have cl:cs.length=n:=by rw [<- hc8.len,List.length_map,List.length_map,List.length_range]
        have zl:zs.length <= 256:=by
          rw [<- hz6.len,List.length_map]
          have:((A.take i).flatMap fun d=>(List.range n).map fun y=>d ++ [y]).length <= A'.length:=by
            rw [ed]
            conv=>rhs;rw [<- List.take_append_drop i A,List.flatMap_append,List.length_append]
            omega
          omega
        refine ⟨lo,pc,zs,cs,rfl,rfl,hlo8,hpc8,sz (by omega),?_⟩
        have kB:Kp lo H8 (upd H8 lo (.lst (zs ++ cs))):=Kp.at
        refine ⟨(k6.trans (g8.kp lo)).trans kB,⟨_,upd_same,?_⟩,hil,_,rfl⟩
        have tB:=kpTup hlo8 (nls _) kB
        rw [List.take_add_one,hs0,List.flatMap_append,List.map_append]
        refine TL.app ((hz6.same g8).kp hlo8 (nls _) kB) ?_
        simpa using hc8.kp hlo8 (nls _) kB
    · obtain ⟨k6,⟨zs,hlo6,hz6⟩,hi,o6,rfl⟩:=h
      rw [yl,List.take_length,<- ed] at hz6
      refine ⟨_,rfl,fun b o e=>k6 _ _ (fun z=>by rw [z,hHlo] at e;cases e) (gH5 _ _ e),by omega,lo,zs,_,_,_,rfl,hlo6,hz6⟩
  · obtain ⟨g4,_,p,ys,o4,o5,o6,rfl,hp4,hT⟩:=h
    have lA:=dr256 n4 k4
    have yl:ys.length=(dr n k).length:=by rw [<- hT.len,List.length_map]
    have row:∀ {H6:Hp} {i:Nat} {t:V},Same H4 H6->ys[i]?=some t->∃ x d,(dr n k)[i]?=some x/\t=.ref d/\H6 d=some (.tup ((zI x).map V.int)):=fun {H6 i t} g ht=>by
      obtain ⟨z,d,hz,e,hd⟩:=(hT.same g).get ht
      rw [List.getElem?_map] at hz
      obtain ⟨x,hx,ez⟩:=Option.map_eq_some_iff.mp hz
      subst ez
      exact ⟨x,d,hx,e,hd⟩
    refine ⟨_,rfl,p,rfl,⟨_,.of hp4⟩,?_⟩
    refine blk_list (K:=K) (a:=p) (xs:=ys) (sz (by omega)) (fun i cs H7=>Same H4 H7/\cs.length=i/\∃ kvs,QE H7 (tabO (chO rs ns) ((dr n k).take i)) kvs/\PrL H7 kvs cs) ⟨Same.refl _,rfl,[],trivial,trivial⟩ (fun i cs H7 h=>h.2.1) (fun i cs H7 _ h=>.of (h.1 _ _ hp4)) rfl (fun i cs H7 t ht h=>?_) (fun cs H7 h=>?_)
    · obtain ⟨g7,hl,kvs,hQ,hPr⟩:=h
      obtain ⟨x,d,hx,rfl,hd⟩:=row g7 ht
      have A7:=hA.same (g4.trans g7)
      refine ⟨_,rfl,_,rfl,_,rfl,_,rfl,st,a,d,v,n,k,ns,rs,x,rfl,A7,hd,List.mem_of_getElem? hx,fun pq H8 g8 hpq=>⟨(by show 2 <= sizeLine;decide),fun pp hpp=>?_⟩⟩
      have g9:=g8.trans (Same.new (o:=.tup [.ref d,.ref pq]) hpp)
      have nw:=Same.new (o:=.tup [.ref d,.ref pq]) hpp
      refine ⟨g7.trans g9,by rw [List.length_append,hl];rfl,kvs ++ [(Md.kI (zI x),.ref pq)],?_,PrL.snoc upd_same (by rw [Md.kI_kV];exact g9 _ _ hd) (hPr.same g9)⟩
      rw [List.take_add_one,hx]
      unfold tabO
      rw [List.map_append]
      exact QE.snoc ⟨pq,rfl,nw _ _ hpq⟩ (hQ.mono fun a xs e=>g9 _ _ e)
    · obtain ⟨g7,hl,kvs,hQ,hPr⟩:=h
      intro pc hpc
      rw [yl,List.take_length] at hQ
      have g8:Same H4 (upd H7 pc (.lst cs)):=g7.trans (Same.new hpc)
      have hQ8:=hQ.mono (H':=upd H7 pc (.lst cs)) fun a xs e=>(Same.new hpc) _ _ e
      have hPr8:=hPr.same (Same.new (o:=.lst cs) hpc)
      have hpc8:upd H7 pc (.lst cs) pc=some (.lst cs):=upd_same
      try dsimp -proj only
      generalize upd H7 pc (.lst cs)=H8 at g8 hQ8 hPr8 hpc8
      obtain ⟨ras,er⟩:=prl_refs hPr8
      subst er
      have kl:=hPr8.len
      rw [List.length_map] at kl
      have kl2:kvs.length <= 256:=by rw [hQ8.len];unfold tabO;rw [List.length_map];exact lA
      refine ⟨pc,ras,kvs,rfl,hpc8,kl.symm,by omega,fun j r hr=>?_,fun dc hdc=>?_⟩
      · obtain ⟨kk,xx,p',ka,e1,e2,e3,e4⟩:=hPr8.get (i:=j) (y:=.ref r) (by rw [List.getElem?_map,hr];rfl)
        cases e2
        exact ⟨kk,xx,ka,e1,e3,e4⟩
      have g9:Same H4 (upd H8 dc (.dT (mergeT [] kvs))):=g8.trans (Same.new hdc)
      have hQ9:=hQ8.mono (H':=upd H8 dc (.dT (mergeT [] kvs))) fun a xs e=>(Same.new hdc) _ _ e
      have hdc9:upd H8 dc (.dT (mergeT [] kvs)) dc=some (.dT (mergeT [] kvs)):=upd_same
      try dsimp -proj only
      generalize upd H8 dc (.dT (mergeT [] kvs))=H9 at g9 hQ9 hdc9
      have look:∀ {x:List Nat},x ∈ dr n k->∃ pq,valV (mergeT [] kvs) (Md.kI (zI x))=some (.ref pq)/\H9 pq=some (.tup ((fr (chO rs ns x)).map V.int)):=fun {x} hx=>by
        obtain ⟨i,hi,ex⟩:=List.getElem_of_mem hx
        have hi':i < kvs.length:=by rw [hQ9.len];unfold tabO;rw [List.length_map];exact hi
        obtain ⟨kk,vv,ek⟩:∃ kk vv,kvs[i]?=some (kk,vv):=⟨_,_,List.getElem?_eq_getElem hi'⟩
        obtain ⟨pt,e1,e2,q1,e3,e4⟩:=hQ9.get ek
        unfold tabO at e1
        rw [List.getElem?_map,List.getElem?_eq_getElem hi,ex] at e1
        cases e1
        subst e2 e3
        refine ⟨q1,mergeT_in ?_ (List.mem_of_getElem? ek),e4⟩
        rw [qe_keys hQ9]
        unfold tabO
        rw [List.map_map]
        refine List.pairwise_map.mpr ((dr_pw n k).imp fun {a b} h z=>?_)
        have z':Md.kI (zI a)=Md.kI (zI b):=z
        have z2:kz (Md.kI (zI a))=kz (Md.kI (zI b)):=by rw [z']
        unfold Md.kI at z2
        rw [kz_ints,kz_ints] at z2
        rw [z2,lex_irr] at h;cases h
      refine ⟨_,rfl,p,rfl,⟨_,.of (g9 _ _ hp4)⟩,?_⟩
      refine for_list (K:=K) (a:=p) (xs:=ys) (fun i σ H6=>Same H9 H6/\(∀ x ∈ (dr n k).take i,∀ y ∈ dr n k,¬ Un (chO rs ns) x y)/\∃ o4 o5 o6 o8 o9,σ=[some (.ref a),some v,some (.int k),some (.ref p),o4,o5,o6,some (.ref dc),o8,o9])
        ⟨Same.refl _,(fun x hx=>by cases hx),o4,o5,o6,none,none,rfl⟩ (fun i σ H6 _ h=>.of (h.1 _ _ (g9 _ _ hp4))) (fun i t σ H6 ht h=>?_) (fun σ H6 h=>?_)
      · obtain ⟨g6,hno,o4,o5,o6,o8,o9,rfl⟩:=h
        obtain ⟨x,d,hx,rfl,hd⟩:=row (g9.trans g6) ht
        refine ⟨_,rfl,p,rfl,⟨_,.of ((g9.trans g6) _ _ hp4)⟩,?_⟩
        refine for_list (K:=K) (a:=p) (xs:=ys) (fun j σ H7=>Same H6 H7/\(∀ y ∈ (dr n k).take j,¬ Un (chO rs ns) x y)/\∃ o9,σ=[some (.ref a),some v,some (.int k),some (.ref p),o4,o5,o6,some (.ref dc),some (.ref d),o9])
          ⟨Same.refl _,(fun x hx=>by cases hx),o9,rfl⟩ (fun i σ H7 _ h=>.of (((g9.trans g6).trans h.1) _ _ hp4)) (fun j t2 σ H7 ht2 h=>?_) (fun σ H7 h=>?_)
        · obtain ⟨g7',hno2,o9,rfl⟩:=h
          obtain ⟨y,d2,hy,rfl,hd2⟩:=row ((g9.trans g6).trans g7') ht2
          have hd':=g7' _ _ hd
          have hxm:=List.mem_of_getElem? hx
          have hym:=List.mem_of_getElem? hy
          have next:∀ {Hz:Hp},Same H7 Hz->¬ Un (chO rs ns) x y->Same H6 Hz/\(∀ y' ∈ (dr n k).take (j + 1),¬ Un (chO rs ns) x y')/\∃ o9,[some (V.ref a),some v,some (.int k),some (.ref p),o4,o5,o6,some (.ref dc),some (.ref d),some (.ref d2)]=[some (.ref a),some v,some (.int k),some (.ref p),o4,o5,o6,some (.ref dc),some (.ref d),o9]:=fun {Hz} gz hu =>
            ⟨g7'.trans gz,fun y' hy'=>by
              rw [List.take_add_one,hy] at hy'
              rcases List.mem_append.mp hy' with z | z
              · exact hno2 y' z
              · have:y'=y:=by simpa using z
                rw [this];exact hu,_,rfl⟩
          refine ⟨_,rfl,_,rfl,d,d2,zI x,zI y,rfl,rfl,.of hd',.of hd2,_,rfl,?_⟩
          cases h1:HT.lexLt (zI x) (zI y) with
          | false=>exact iteF (next (Same.refl _) fun z=>by rw [z.1] at h1;cases h1)
          | true =>
            refine iteT ?_
            have xl:=(dr_iff.mp hxm).1
            have yl2:=(dr_iff.mp hym).1
            refine ⟨_,rfl,d,zI x,rfl,.of hd',by rw [zI_len];omega,fun D1 m1 Ha pm1 pw1 ga hD1=>?_⟩
            have em1:=srt_of pm1 pw1
            subst em1
            refine ⟨_,rfl,d2,zI y,rfl,.of (ga _ _ hd2),by rw [zI_len];omega,fun D2 m2 Hb pm2 pw2 gb hD2=>?_⟩
            have em2:=srt_of pm2 pw2
            subst em2
            have gB:=ga.trans gb
            refine eqL_at (gb _ _ hD1) hD2 ⟨_,rfl,?_⟩
            by_cases h2:zI (srt x)=zI (srt y)
            · rw [decide_eq_true h2]
              refine iteT ?_
              obtain ⟨q1,v1,f1⟩:=look hxm
              obtain ⟨q2,v2,f2⟩:=look hym
              have gC:=(g6.trans g7').trans gB
              refine ⟨_,rfl,_,rfl,dc,.ref q1,rfl,.inr ⟨_,Md.kI (zI x),d,.inl (gC _ _ hdc9),rfl,by rw [Md.kI_kV];exact gB _ _ hd',v1.symm⟩,?_⟩
              refine ⟨_,rfl,_,rfl,dc,.ref q2,rfl,.inr ⟨_,Md.kI (zI y),d2,.inl (gC _ _ hdc9),rfl,by rw [Md.kI_kV];exact gB _ _ hd2,v2.symm⟩,?_⟩
              refine neD_at (gC _ _ f1) (gC _ _ f2) ?_
              by_cases h3:chO rs ns x=chO rs ns y
              · rw [decide_eq_true (by rw [h3])]
                exact ⟨false,rfl,iteF (next gB fun z=>z.2.2 h3)⟩
              · rw [decide_eq_false fun z=>h3 (fr_inj z)]
                refine ⟨true,rfl,iteT ⟨_,rfl,_,rfl,(by show 2 <= sizeLine;decide),fun pr hpr=>?_⟩⟩
                have nw:=Same.new (o:=.tup [.ref d,.ref d2]) hpr
                refine q (some (x,y)) _ _ ((g4.trans (g9.trans gC)).trans nw) (found_F hx hy ⟨h1,zI_inj h2,h3⟩ hno hno2) ⟨pr,d,d2,rfl,upd_same,nw _ _ (gB _ _ hd'),nw _ _ (gB _ _ hd2)⟩
            · rw [decide_eq_false h2]
              exact iteF (next gB fun z=>h2 (by rw [z.2.1]))
        · obtain ⟨g7',hno2,o9,rfl⟩:=h
          refine ⟨g6.trans g7',fun x' hx' y hy=>?_,_,_,_,_,_,rfl⟩
          rw [List.take_add_one,hx] at hx'
          rcases List.mem_append.mp hx' with z | z
          · exact hno x' z y hy
          · have:x'=x:=by simpa using z
            rw [this]
            exact hno2 y (by rw [yl,List.take_length];exact hy)
      · obtain ⟨g6,hno,o4,o5,o6,o8,o9,rfl⟩:=h
        refine q none _ _ (g4.trans (g9.trans g6)) (fun x hx y hy=>hno x (by rw [yl,List.take_length];exact hx) y hy) rfl
end
end G
namespace G
open PySem PySem.Spec PyProof.Rows L2 Mt Md Mo
section
variable {P:Program} {w:World} {K:PySem.W.Frag} {mg:Str->Option Value} {base:Heap} {f:Addr} {fd:FuncData} {ec:Nat->Addr} {Bs:Addr}
def sp_sameT (A:V->V->Hp->Prop):Sp:=fun vs H Q _=>∃ (d:PyData) (st p r:Addr) (xs ys:List V),vs=[.ref p,.ref r]/\okSeq d=true/\isSeqD d=true/\Dt st H d (.ref p)/\Dt st H d (.ref r)/\H p=some (.tup xs)/\H r=some (.tup ys)/\xs.length=ys.length/\xs.length <= 1000 /\
  (∀ (i:Nat) x y H',xs[i]?=some x->ys[i]?=some y->Same H H'->A x y H')/\∀ H',Same H H'->Q (.bl true) H'
theorem ok_sameT {k:Nat} {sp:Sp} {A:V->V->Hp->Prop} (F:Fun K "_law_same" "_law_same" s_same f fd) (B:Bt mg) (c1:Cal P w K mg base k "_law_same" ["_law_found","_law_due_here"] sp) (hA:∀ x y H (Q:VK) (E:XK),A x y H->(∀ H',Same H H'->Q (.bl true) H')->sp [x,y] H Q E):FnOk P w K mg base CX0 (k + 1) f fd ["_law_found","_law_due_here"] (sp_sameT A):=by
  refine F.ok sc_same (fun vs H Q E h=>?_) (fun cdv A0 outer s H vs Q E hr h=>?_)
  · obtain ⟨d,st,p,r,xs,ys,rfl,_⟩:=h
    rfl
  obtain ⟨d,st,p,r,xs,ys,rfl,hok,hsq,dp0,dr0,hp,hr2,hxy,hlx,hall,q⟩:=h
  refine ⟨_,pss_cons (ps_if (pt_val (pe_callB call_isi3 rfl B.isinstance boot_isinstance (pa_cons (pv 1) (pa_cons (pe_tup (pa_cons (pe_bty rfl B.tuple boot_tuple) (pa_cons (pe_bty rfl B.list boot_list) pa_nil))) pa_nil))))
      (pss_cons (ps_if (PW.pt (pw_or (pt_cmpR op_ne (pe_callB (call_isi kit_tup) rfl B.isinstance boot_isinstance (pa_cons (pv 0) (pa_cons (pe_bty rfl B.tuple boot_tuple) pa_nil))) (pe_callB (call_isi kit_tup) rfl B.isinstance boot_isinstance (pa_cons (pv 1) (pa_cons (pe_bty rfl B.tuple boot_tuple) pa_nil))) (nomark _))
        (pw_or1 (pt_cmpR op_ne (pe_callB (call_isi kit_list) rfl B.isinstance boot_isinstance (pa_cons (pv 0) (pa_cons (pe_bty rfl B.list boot_list) pa_nil))) (pe_callB (call_isi kit_list) rfl B.isinstance boot_isinstance (pa_cons (pv 1) (pa_cons (pe_bty rfl B.list boot_list) pa_nil))) (nomark _))))) (pss_one (ps_ret pe_bl)) pss_nil)
      (pss_one (ps_ret (pe_and (pe_cmpR op_eq (pe_callB call_len_seq rfl B.len PySem.boot_len (pa_cons (pv 0) pa_nil)) (pe_callB call_len_seq rfl B.len PySem.boot_len (pa_cons (pv 1) pa_nil)) (nomark _))
        (pe_one (pe_callB (call_all_seq rfl) rfl B.all boot_all (pa_cons (pe_compG (N:=["_law_one","_law_other"]) (ix:=[none,none]) (ifs:=[]) (tc:=tTrue) rfl (pi_zip rfl B.zip (pa_cons (pv 0) (pa_cons (pv 1) pa_nil)))
          (fun s H ex=>pgtK (K:=K) (n:=2) rfl rfl (pgs_cons (pg_c (i:=0) (by decide +kernel) rfl (Or.inl rfl) (.inr rfl)) (pgs_cons (pg_c (i:=1) (by decide +kernel) rfl (Or.inl rfl) (.inr rfl)) pgs_nil))) (fun s H ex=>pifs_nil)
          (fun s H ex=>pe_cal c1 hr rfl (pa_cons (pv 0) (pa_cons (pv 1) pa_nil))) rfl (by decide +kernel) (by rfl) (by rfl) (fun _=>rfl)) pa_nil))))))) pss_nil) pss_never,?_⟩
  have dp:∀ H',Same H H'->Dt st H' d (.ref p):=fun H' g=>dp0.kp (g.kp st)
  have dr:∀ H',Same H H'->Dt st H' d (.ref r):=fun H' g=>dr0.kp (g.kp st)
  refine ⟨_,rfl,(by show 2 <= sizeLine;decide),fun t ht=>?_⟩
  have g1:Same H (upd H t (.tup [.ty "tuple",.ty "list"])):=Same.new ht
  refine ⟨.ref r,_,_,t,rfl,dr _ g1,hok,upd_same,_,rfl,?_⟩
  rw [hsq]
  refine iteT ?_
  generalize upd H t (.tup [.ty "tuple",.ty "list"])=H1 at g1
  refine ⟨_,rfl,.ref p,_,_,rfl,dp _ g1,_,rfl,.ref r,_,_,rfl,dr _ g1,rfl,_,rfl,?_⟩
  rw [decide_eq_true rfl]
  refine iteF ⟨_,rfl,.ref p,_,_,rfl,dp _ g1,_,rfl,.ref r,_,_,rfl,dr _ g1,rfl,_,rfl,?_⟩
  rw [decide_eq_true rfl]
  refine iteF ⟨_,rfl,p,_,rfl,.inr (.of (g1 _ _ hp)),_,rfl,r,_,rfl,.inr (.of (g1 _ _ hr2)),rfl,_,rfl,?_⟩
  rw [decide_eq_true (by rw [hxy])]
  refine iteT ⟨_,rfl,_,rfl,p,r,_,_,rfl,.of (g1 _ _ hp),.of (g1 _ _ hr2),?_⟩
  refine blk_zip (K:=K) (a:=p) (b:=r) (xs:=xs) (ys:=ys) (sz hlx) hxy
    (fun i zs H2=>Same H H2/\zs=List.replicate i (.bl true)) ⟨g1,rfl⟩ (fun i zs H2 h=>by rw [h.2,List.length_replicate]) (fun i zs H2 _ h=>⟨.of (h.1 _ _ hp),.of (h.1 _ _ hr2)⟩) ⟨rfl,rfl⟩ (fun i zs H2 x y p' hx hy hp' h=>?_) (fun zs H2 h=>?_)
  · obtain ⟨hS,rfl⟩:=h
    have hS':=hS.trans (Same.new (o:=.tup [x,y]) hp')
    refine ⟨_,rfl,_,rfl,hA _ _ _ _ _ (hall i x y _ hx hy hS') fun H3 g3=>⟨hS'.trans g3,?_⟩⟩
    rw [List.replicate_succ']
  · obtain ⟨hS,rfl⟩:=h
    intro pz hpz
    refine ⟨pz,_,rfl,.inl (.of upd_same),?_,?_⟩
    · rw [List.all_replicate];simp [okTru]
    · rw [show ((List.replicate xs.length (V.bl true)).all truV)=true by rw [List.all_replicate];simp [truV]]
      exact q _ (hS.trans (Same.new hpz))
def A0:V->V->Hp->Prop:=fun x y _=>∃ i:Int,x=.int i/\y=.int i
theorem A0_sp {x y:V} {H:Hp} {Q:VK} {E:XK} (h:A0 x y H) (q:∀ H',Same H H'->Q (.bl true) H'):sp_same0 [x,y] H Q E:=by
  obtain ⟨i,rfl,rfl⟩:=h
  exact ⟨.int i,rfl,.inr ⟨i,rfl⟩,q⟩
def A1:V->V->Hp->Prop:=fun x y H=>∃ (st:Addr) (ns:List Int),Dt st H (DI ns) x/\Dt st H (DI ns) y/\ns.length <= 1000
theorem A1_sp {x y:V} {H:Hp} {Q:VK} {E:XK} (h:A1 x y H) (q:∀ H',Same H H'->Q (.bl true) H'):sp_sameT A0 [x,y] H Q E:=by
  obtain ⟨st,ns,dx,dy,hl⟩:=h
  obtain ⟨p,rfl,_,hp⟩:=id dx.di
  obtain ⟨r,rfl,_,hr⟩:=id dy.di
  refine ⟨DI ns,st,p,r,_,_,rfl,rfl,rfl,dx,dy,hp,hr,rfl,by rw [List.length_map];exact hl,fun i x y H' hx hy _=>?_,q⟩
  rw [hx] at hy
  cases hy
  rw [List.getElem?_map] at hx
  obtain ⟨z,_,ez⟩:=Option.map_eq_some_iff.mp hx
  exact ⟨z,ez.symm,ez.symm⟩
theorem sameR {st p r:Addr} {H:Hp} {zs:List (List Int)} {Q:VK} {E:XK} (dp:Dt st H (DR zs) (.ref p)) (dr:Dt st H (DR zs) (.ref r)) (hl:zs.length <= 1000) (hz:∀ z ∈ zs,z.length <= 1000) (q:∀ H',Same H H'->Q (.bl true) H'):sp_sameT A1 [.ref p,.ref r] H Q E:=by
  obtain ⟨p',xs,e,_,hp,hx⟩:=dp.untup
  cases e
  obtain ⟨r',ys,e,_,hr,hy⟩:=dr.untup
  cases e
  have lx:=hx.len
  have ly:=hy.len
  rw [List.length_map] at lx ly
  refine ⟨DR zs,st,p,r,xs,ys,rfl,rfl,rfl,dp,dr,hp,hr,by omega,by omega,fun i x y H' ex ey g=>?_,q⟩
  obtain ⟨d1,e1,h1⟩:=hx.get ex
  obtain ⟨d2,e2,h2⟩:=hy.get ey
  rw [e1] at e2
  cases e2
  rw [List.getElem?_map] at e1
  obtain ⟨z,ez,ed⟩:=Option.map_eq_some_iff.mp e1
  subst ed
  exact ⟨st,z,h1.kp (g.kp st),h2.kp (g.kp st),hz z (List.mem_of_getElem? ez)⟩
def sp_sameO:Sp:=fun vs H Q _=>∃ (o:Option (List Nat × List Nat)) (u v:V),vs=[u,v]/\PairV H o u/\PairV H o v/\(∀ x ∈ o,x.1.length <= 1000/\x.2.length <= 1000)/\∀ H',Same H H'->Q (.bl true) H'
theorem ok_sameO (F:Fun K "_law_same" "_law_same" s_same f fd) (B:Bt mg) (c1:Cal P w K mg base 2 "_law_same" ["_law_found","_law_due_here"] (sp_sameT A0)):FnOk P w K mg base CX0 3 f fd ["_law_found","_law_due_here"] sp_sameO:=by
  have one:∀ {vs:List V} {H:Hp} {Q:VK} {E:XK},sp_sameO vs H Q E->sp_same0 vs H Q E ∨ sp_sameT A1 vs H Q E:=fun {vs H Q E} h=>by
    obtain ⟨o,u,v,rfl,h1,h2,hl,q⟩:=h
    cases o with
    | none=>cases (show u=.non from h1);cases (show v=.non from h2);exact .inl ⟨.non,rfl,.inl rfl,q⟩
    | some x =>
      obtain ⟨a,b⟩:=x
      obtain ⟨p,x1,x2,rfl,e1,e2,e3⟩:=h1
      obtain ⟨r,y1,y2,rfl,f1,f2,f3⟩:=h2
      obtain ⟨l1,l2⟩:=hl _ rfl
      obtain ⟨N,hN⟩:∃ N,N=p + x1 + x2 + (r + y1 + y2) + 1:=⟨_,rfl⟩
      have ne:∀ {z:Addr},z < N->z ≠ N:=fun h=>Nat.ne_of_lt h
      have dz:∀ {t t1 t2:Addr},t < N->t1 < N->t2 < N->H t=some (.tup [.ref t1,.ref t2])->H t1=some (.tup ((zI a).map V.int))->H t2=some (.tup ((zI b).map V.int))->Dt N H (DR [zI a,zI b]) (.ref t):=fun h h1 h2 e e1 e2 =>
        Dt.tup (ne h) e (Dts.cons (Dt.mkI (ne h1) e1) (Dts.cons (Dt.mkI (ne h2) e2) (Dts.nil _ _)))
      have lt6:p < N/\x1 < N/\x2 < N/\r < N/\y1 < N/\y2 < N:=by
        rw [hN]
        refine ⟨?_,?_,?_,?_,?_,?_⟩ <;> simp only [Addr] at * <;> omega
      exact .inr (sameR (dz lt6.1 lt6.2.1 lt6.2.2.1 e1 e2 e3) (dz lt6.2.2.2.1 lt6.2.2.2.2.1 lt6.2.2.2.2.2 f1 f2 f3) (by show 2 <= 1000;decide) (fun z hz=>by
        rcases List.mem_cons.mp hz with e | e
        · rw [e,zI_len];exact l1
        · rw [List.mem_singleton.mp e,zI_len];exact l2) q)
  exact ⟨fun vs H Q E h=>(one (E:=E) h).elim ((ok_same0 (P:=P) (w:=w) (base:=base) F B).len vs H Q E) ((ok_sameT F B c1 (fun _ _ _ _ _ h q=>A1_sp h q)).len vs H Q E),
   fun A outer s H args us vs Q E hr he hb hv h=>(one (E:=E) h).elim (((ok_same0 (P:=P) (w:=w) (base:=base) F B).mono (k:=3) (by decide)).run A outer s H args us vs Q E hr he hb hv) ((ok_sameT F B c1 (fun _ _ _ _ _ h q=>A1_sp h q)).run A outer s H args us vs Q E hr he hb hv)⟩
def sp_right:Sp:=fun vs H Q _=>∃ (st a:Addr) (v:V) (n k:Nat) (ns:List Int) (rs:List (List Int)),vs=[.ref a,v,.int k]/\AskO st H n ns rs k a v/\∀ H',Same H H'->Q (.bl true) H'
abbrev s_right:Stmt:=top 61
theorem sc_right:FnScope ["_law_urn","_law_rule_here","_law_draws","_law_due_here","_law_turn","_law_found"] ["_law_urn","_law_rule_here","_law_draws"] (defScope s_right):=⟨rfl,rfl,rfl,by decide +kernel,rfl,by decide +kernel,by decide +kernel⟩
theorem ok_right (F:Fun K "_law_right" "_law_right" s_right f fd) (B:Bt mg) (c1:CalX P w K mg base 9 "first_unlike" ["urn","rule","draws"] (sp_fu ec)) (c2:CalX P w K mg base 10 "orders_alike" ["urn","rule","draws"] (sp_oa ec)) (c3:Cal P w K mg base 3 "_law_due" ["_law_urn","_law_rule_here","_law_draws"] sp_fuV) (c4:Cal P w K mg base 3 "_law_same" ["_law_found","_law_due_here"] sp_sameO):FnOk P w K mg base CX0 11 f fd ["_law_urn","_law_rule_here","_law_draws"] sp_right:=by
  refine F.ok sc_right (fun vs H Q E h=>?_) (fun cdv A outer s H vs Q E hr h=>?_)
  · obtain ⟨st,a,v,n,k,ns,rs,rfl,_⟩:=h
    rfl
  obtain ⟨st,a,v,n,k,ns,rs,rfl,hA,q⟩:=h
  refine ⟨_,(@pss_cons _ _ _ _ _ (@ps_set _ _ 3 _ _ _ _ sc_right.nd rfl (Or.inl rfl) (pe_cal (c3.up (by decide)) hr rfl (@pa_cons _ _ _ _ _ (pv 0) (@pa_cons _ _ _ _ _ (pv 1) (@pa_cons _ _ _ _ _ (pv 2) pa_nil (by rfl)) (by rfl)) (by rfl))) (by rfl) (by first | exact .inl rfl | exact .inr rfl))
    (@pss_cons _ _ _ _ _ (ps_for PassesOwn.never rfl (pi_range1 rfl B.range (@pa_cons _ _ _ _ _ pe_int pa_nil (by rfl))) (pg_name (i:=4) sc_right.nd rfl (Or.inl rfl))
    (@pss_cons _ _ _ _ _ (@ps_set _ _ 5 _ _ _ _ sc_right.nd rfl (Or.inl rfl) (pe_calx c2 hr rfl pass10 (@pa_cons _ _ _ _ _ (pv 0) (@pa_cons _ _ _ _ _ (pv 1) (@pa_cons _ _ _ _ _ (pv 2) pa_nil (by rfl)) (by rfl)) (by rfl))) (by rfl) (by first | exact .inl rfl | exact .inr rfl))
    (@pss_cons _ _ _ _ _ (ps_if (PW.pt (pw_or (pt_not (pt_val (pe_callB (call_isi kit_bool) rfl B.isinstance boot_isinstance (@pa_cons _ _ _ _ _ (pv 5) (@pa_cons _ _ _ _ _ (pe_bty rfl B.bool boot_bool) pa_nil (by rfl)) (by rfl))))) (pw_or1 (@pt_cmpR _ _ _ _ _ _ _ _ op_ne (pv 5) (pe_cmp (pc_isN (pv 3))) (nomark _))))) (@pss_one _ _ _ (ps_ret pe_bl)) pss_nil)
    (@pss_one _ _ _ (ps_if (pt_not (pt_val (pe_cal (c4.up (by decide)) hr rfl (@pa_cons _ _ _ _ _ (pe_calx (c1.up (by decide)) hr rfl pass10 (@pa_cons _ _ _ _ _ (pv 0) (@pa_cons _ _ _ _ _ (pv 1) (@pa_cons _ _ _ _ _ (pv 2) pa_nil (by rfl)) (by rfl)) (by rfl))) (@pa_cons _ _ _ _ _ (pv 3) pa_nil (by rfl)) (by rfl))))) (@pss_one _ _ _ (ps_ret pe_bl)) pss_nil)))))
    (@pss_one _ _ _ (ps_ret pe_bl)))),?_⟩
  refine ⟨_,rfl,_,rfl,_,rfl,st,a,v,n,k,ns,rs,rfl,hA,fun o u H1 g1 hF hP=>?_⟩
  refine ⟨2,rfl,by decide,by decide,?_⟩
  refine for_range (lo:=0) (n:=2) (fun j σ H4=>Same H1 H4/\∃ o4 o5,σ=[some (.ref a),some v,some (.int k),some u,o4,o5])
    ⟨Same.refl _,none,none,rfl⟩ (fun j σ H4 hj h=>?_) (fun σ H4 h=>?_)
  · obtain ⟨g4,o4,o5,rfl⟩:=h
    refine ⟨_,rfl,_,rfl,_,rfl,.inr ⟨st,a,v,n,k,ns,rs,rfl,hA.same (g1.trans g4),fun o2 H5 g5 hF2=>?_⟩⟩
    have e2:=hF2.uniq hF
    subst e2
    refine ⟨_,rfl,.bl o2.isNone,0,.bool o2.isNone,rfl,Dt.bl _ _ _,_,rfl,?_⟩
    have eu:decide (u=.non)=o2.isNone:=by
      cases o2 with
      | none=>exact decide_eq_true hP
      | some x =>
        obtain ⟨x1,x2⟩:=x
        obtain ⟨pp,y1,y2,rfl,_⟩:=hP
        rfl
    refine iteF ⟨_,rfl,_,rfl,rfl,_,rfl,?_⟩
    rw [eu,decide_eq_true rfl]
    refine iteF ⟨_,rfl,_,rfl,_,rfl,.inr ⟨st,a,v,n,k,ns,rs,rfl,hA.same ((g1.trans g4).trans g5),fun o3 u3 H6 g6 hF3 hP3=>?_⟩⟩
    have e3:=hF3.uniq hF
    subst e3
    refine ⟨_,rfl,o3,u3,u,rfl,hP3,hP.same ((g4.trans g5).trans g6),(fun x hx=>?_),fun H7 g7=>⟨_,rfl,iteF ⟨((g4.trans g5).trans g6).trans g7,_,_,rfl⟩⟩⟩
    cases o3 with
    | none=>cases hx
    | some z =>
      cases hx
      have k4:=hA.k4
      have l1:=(dr_iff.mp hF.1).1
      have l2:=(dr_iff.mp hF.2.1).1
      exact ⟨by omega,by omega⟩
  · obtain ⟨g4,o4,o5,rfl⟩:=h
    exact q _ (g1.trans g4)
end
end G
set_option maxHeartbeats 8000000
namespace G
open PySem PySem.Spec PyProof.Rows L2 Mt Md Mo
mutual
theorem Dt_to {l T:Addr} {H:Hp} {ps:Array Value} (hT:H T=some (.tbl ps)):∀ {d:PyData} {v:V},Dt l H d v->Dt T H d v
  | .none,_,h=>by unfold Dt at h ⊢;exact h
  | .bool _,_,h=>by unfold Dt at h ⊢;exact h
  | .int _,_,h=>by unfold Dt at h ⊢;exact h
  | .str _,_,h=>by unfold Dt at h ⊢;exact h
  | .tuple ds,_,h=>by
    unfold Dt at h ⊢
    obtain ⟨a,xs,e,n,q,r⟩:=h
    exact ⟨a,xs,e,(fun z=>by rw [z,hT] at q;cases q),q,Dts_to hT r⟩
  | .list ds,_,h=>by
    unfold Dt at h ⊢
    obtain ⟨a,xs,e,n,q,r⟩:=h
    exact ⟨a,xs,e,(fun z=>by rw [z,hT] at q;cases q),q,Dts_to hT r⟩
  | .dict kvs,_,h=>by
    unfold Dt at h ⊢
    obtain ⟨z,a,e,n,q⟩:=h
    exact ⟨z,a,e,(fun z=>by rw [z,hT] at q;cases q),q⟩
theorem Dts_to {l T:Addr} {H:Hp} {ps:Array Value} (hT:H T=some (.tbl ps)):∀ {ds:List PyData} {xs:List V},Dts l H ds xs->Dts T H ds xs
  | [],_,h=>by unfold Dts at h ⊢;exact h
  | d :: ds,_,h=>by
    unfold Dts at h ⊢
    obtain ⟨x,r,e,q1,q2⟩:=h
    exact ⟨x,r,e,Dt_to hT q1,Dts_to hT q2⟩
end
theorem SqL_kp {K:PySem.W.Frag} {T a:Addr} {H H':Hp} {xs:List V} {ps:Array Value} (hT:H T=some (.tbl ps)) (k:Kp T H H') (h:SqL K H a xs):SqL K H' a xs:=by
  rcases h with (h | ⟨o,h⟩) | h
  · exact .inl (.inl (k _ _ (fun z=>by rw [z,hT] at h;cases h) h))
  · exact .inl (.inr ⟨o,k _ _ (fun z=>by rw [z,hT] at h;cases h) h⟩)
  · exact .inr h
abbrev lq:Str:=(("law":Str) ++ ".<locals>.") ++ "<lambda>"
mutual
theorem Dt_keep {l T:Addr} {H H':Hp} {ps:Array Value} (hT:H T=some (.tbl ps)) (k:Kp T H H'):∀ {d:PyData} {v:V},Dt l H d v->Dt l H' d v
  | .none,_,h=>by unfold Dt at h ⊢;exact h
  | .bool _,_,h=>by unfold Dt at h ⊢;exact h
  | .int _,_,h=>by unfold Dt at h ⊢;exact h
  | .str _,_,h=>by unfold Dt at h ⊢;exact h
  | .tuple ds,_,h=>by
    unfold Dt at h ⊢
    obtain ⟨a,xs,e,n,q,r⟩:=h
    exact ⟨a,xs,e,n,k _ _ (fun z=>by rw [z,hT] at q;cases q) q,Dts_keep hT k r⟩
  | .list ds,_,h=>by
    unfold Dt at h ⊢
    obtain ⟨a,xs,e,n,q,r⟩:=h
    exact ⟨a,xs,e,n,k _ _ (fun z=>by rw [z,hT] at q;cases q) q,Dts_keep hT k r⟩
  | .dict kvs,_,h=>by
    unfold Dt at h ⊢
    obtain ⟨z,a,e,n,q⟩:=h
    exact ⟨z,a,e,n,k _ _ (fun z=>by rw [z,hT] at q;cases q) q⟩
theorem Dts_keep {l T:Addr} {H H':Hp} {ps:Array Value} (hT:H T=some (.tbl ps)) (k:Kp T H H'):∀ {ds:List PyData} {xs:List V},Dts l H ds xs->Dts l H' ds xs
  | [],_,h=>by unfold Dts at h ⊢;exact h
  | d :: ds,_,h=>by
    unfold Dts at h ⊢
    obtain ⟨x,r,e,q1,q2⟩:=h
    exact ⟨x,r,e,Dt_keep hT k q1,Dts_keep hT k q2⟩
end
def LamAt (X:Cx) (params:Arguments) (body:Expr) (scope:Scope) (H:Hp) (f:Addr):Prop:=∃ c ctv,H f=some (KN (lamO X params body scope c ctv))/\CodeK (lamQ X) H c
section
variable {X:Cx} {params:Arguments} {body:Expr} {scope:Scope} {H H':Hp} {f0 T p:Addr}
theorem lam_out {σ:L2.St} {Hf:Hp} {N:List Str} {ix:List (Option Nat)} {k:Nat} {c:Nat->Addr} {Q:VK} {o:Option Nat}
    (Zc:Clo X) (fz:FrzX X σ H Hf) (hL:LamAt X params body scope H f0) (hfr:okFree scope X.env=true) (k1:scope.kind=.function) (k2:scope.isCoroutine=false) (k3:scope.isGenerator=false) (k4:∀ x ∈ scope.names,x.2 ≠ .cell) (hx:okIx scope X.N N ix=true) (hi:∀ i,o=some i->i < 10)
    (hba:∀ c0 ctv,bindArgs (PySem.W.kla_fn "<lambda>" (lamQ X) params body scope (closL X.env scope.names []) ((X.mg "__name__").getD .none) (.ref c0) ctv) ⟨[],[]⟩=pure [])
    (hrun:∀ (c0:Addr) (A':Around) (outer':List Env) (s':Shared) (E1:XK) (Q1:VK),Room k (A'.deeper (PySem.W.envX (lamQ X) scope s'.heap.objs.size f0 (.ref c0) (closL X.env scope.names [])))->Same H (offC (closL X.env scope.names []) Hf)->Out c (offC (closL X.env scope.names []) Hf) Q1 E1 o ->
      ∃ t,PE (cxLam X.prog X.w X.K X.mg X.base N (lamQ X) scope f0 (.ref c0) (closL X.env scope.names []) A' outer' s' (offC (closL X.env scope.names []) Hf) E1) body t/\t (pick ix σ) (offC (closL X.env scope.names []) Hf) Q1)
    (q:∀ H',Same Hf H'->Q (outV o) H'):sp_refused X.prog X.w X.K X.mg X.base (k + 1) c [.ref f0] Hf Q E0:=by
  obtain ⟨c0,ctv,hf0,oc,ovs,ot,hoc,hod1,hod2⟩:=hL
  refine ⟨f0,spLam X.prog X.w X.K X.mg X.base k f0 c0 _ _ _ _ _ _ _ _ N,_,_,o,rfl,fz.same _ _ hf0,rfl,hba c0 ctv,fnL (Zc.lsc hfr k1 k2 k3 k4) (fun _ _ _ _ h=>h),hi,fun Q' E' ho=>?_,q⟩
  refine ⟨rfl,fz.same _ _ hf0,⟨oc,ovs,ot,fz.same _ _ hoc,hod1,hod2⟩,Zc.celk hfr fz,_,Zc.st hfr fz hx,fun A' outer' s' hr'=>?_⟩
  refine hrun c0 A' outer' s' _ _ hr' (fz.inner Zc hfr) ?_
  cases o with
  | none=>exact fun v H'' g=>ho v _ (on_same g)
  | some i=>exact fun H'' g=>ho _ (on_same g)
end
theorem seq_joinK {t u:TS} {D:Ends} {σ:L2.St} {H:Hp} {T:Addr} {q:Str} (h1:∀ N:L2.St->Hp->Prop,(∀ Hx,Kp T H Hx->CTab q T Hx->N σ Hx)->t { D with nx:=N } σ H) (h2:∀ Hx,Kp T H Hx->CTab q T Hx->u D σ Hx):tSeq t u D σ H:=h1 (u D) h2
theorem seq_joinU {t u:TS} {D:Ends} {σ:L2.St} {H:Hp} (R:L2.St->Hp->Prop) (h1:∀ N:L2.St->Hp->Prop,(∀ σ' Hx,R σ' Hx->N σ' Hx)->t { D with nx:=N } σ H) (h2:∀ σ' Hx,R σ' Hx->u D σ' Hx):tSeq t u D σ H:=h1 (u D) h2
section
variable {P:Program} {w:World} {K:PySem.W.Frag} {mg:Str->Option Value} {base:Heap} {f:Addr} {fd:FuncData}
structure Cals (P:Program) (w:World) (K:PySem.W.Frag) (mg:Str->Option Value) (base:Heap) (c:Nat->Addr):Prop where
  state:Cal P w K mg base 12 "_law_state" ["_law_script","_law_k"] (sp_state K)
  take:Cal P w K mg base 12 "_law_take" ["_law_state_here","_law_many"] sp_take
  urn:Cal P w K mg base 12 "_law_urn_of" ["_law_state_here","_law_kinds"] sp_lurn
  rule:Cal P w K mg base 12 "_law_rule" ["_law_state_here","_law_kinds"] sp_lrule
  right:Cal P w K mg base 12 "_law_right" ["_law_urn","_law_rule_here","_law_draws"] sp_right
  bu:Cal P w K mg base 12 "_law_bent_urn" ["_law_state_here","_law_urn"] sp_bu
  br:Cal P w K mg base 12 "_law_bent_rule" ["_law_state_here","_law_rule_here"] sp_br
  odd:Cal P w K mg base 12 "_law_odd" ["_law_state_here"] sp_odd
  number:Cal P w K mg base 12 "_law_number" ["_law_state_here","_law_most"] sp_number
  lisu:Cal P w K mg base 12 "_law_is_urn" ["_law_thing"] sp_is_urn
  lisr:Cal P w K mg base 12 "_law_is_rule" ["_law_kinds","_law_thing"] sp_lis_rule
  oa:CalX P w K mg base 10 "orders_alike" ["urn","rule","draws"] (sp_oa c)
  fu:CalX P w K mg base 10 "first_unlike" ["urn","rule","draws"] (sp_fu c)
  refused:Cal P w K mg base 12 "_law_refused" ["_law_call"] (sp_refused P w K mg base 11 c)
def Rfs (P:Program) (w:World) (K:PySem.W.Frag) (mg:Str->Option Value) (base:Heap) (c:Nat->Addr) (z:V):Prop:=∃ (fz:Addr) (fdz:FuncData) (sp:Sp),z=.ref fz/\PySem.W.keepIn K (.ref fz)=true/\Binds K fdz ["urn","rule","draws"] []/\FnOk P w K mg base (CX1 P w) 10 fz fdz ["urn","rule","draws"] sp/\∀ vs H Q E,RefO c vs H E->sp vs H Q E
def spLaw (K:PySem.W.Frag) (T:Addr):Sp:=fun vs H Q _=>∃ (a:Addr) (ns:List Int),vs=[.ref a]/\SqL K H a (ns.map V.int)/\ns.length <= 63/\CTab lq T H/\∀ H',Q (.bl true) H'
abbrev s_law:Stmt:=top 62
theorem sc_law:FnScope ["_law_script","_law_k","_law_state_here","_law_kinds","_law_draws","_law_urn","_law_rule_here","_law_bent","_law_bad","_law_none","_law_call"] ["_law_script"] (defScope s_law):=⟨rfl,rfl,rfl,by decide +kernel,rfl,by decide +kernel,by decide +kernel⟩
theorem ok_law {c:Nat->Addr} {T:Addr} (F:Fun K "law" "law" s_law f fd) (B:Bt mg) (C:Cals P w K mg base c) (hcode:∃ cc,fd.code=.ref cc/\PySem.W.codeHdIn K cc T=true) (hKb:K.In base) (hbm:base.BuiltinsAt mg T):FnOk P w K mg base CX0 13 f fd ["_law_script"] (spLaw K T):=by
  obtain ⟨cc,hcc,hcd⟩:=hcode
  obtain ⟨fc,fdc,hmc,hkc,hbc,Fc⟩:=C.oa.ex
  obtain ⟨fu,fdu,hmu,hku,hbu,Fu⟩:=C.fu.ex
  refine F.okC sc_law (fun vs H Q E h=>?_) (fun cdv A outer s H vs Q E hcv hr h=>?_)
  · obtain ⟨a,ns,rfl,_⟩:=h
    rfl
  obtain ⟨a,scr,rfl,hS,h63,hCT,q⟩:=h
  have Z:∀ (X:Cx),X.env.code=cdv->X.base=base->X.mg=mg->LamX X T:=fun X e1 e2 e3=>⟨⟨cc,by rw [e1,<- hcv,hcc],by rw [e2];exact PySem.W.codeHd_of_K hKb hcd⟩,by rw [e2,e3];exact hbm⟩
  refine ⟨_,(@pss_cons _ _ _ _ _ (ps_if (PW.pt (pw_or (pt_not (pt_val (pe_cal C.right hr rfl (@pa_cons _ _ _ _ _ (@pe_tup _ _ _ _ _ (@pa_cons _ _ _ _ _ pe_int (@pa_cons _ _ _ _ _ pe_int pa_nil (by rfl)) (by rfl))) (@pa_cons _ _ _ _ _ (@pe_tup _ _ _ _ _ (@pa_cons _ _ _ _ _ (@pe_tup _ _ _ _ _ (@pa_cons _ _ _ _ _ pe_int (@pa_cons _ _ _ _ _ pe_int pa_nil (by rfl)) (by rfl))) (@pa_cons _ _ _ _ _ (@pe_tup _ _ _ _ _ (@pa_cons _ _ _ _ _ pe_int (@pa_cons _ _ _ _ _ pe_int pa_nil (by rfl)) (by rfl))) pa_nil (by rfl)) (by rfl))) (@pa_cons _ _ _ _ _ pe_int pa_nil (by rfl)) (by rfl)) (by rfl))))) (pw_or1 (pt_not (pt_val (pe_cal C.right hr rfl (@pa_cons _ _ _ _ _ (@pe_tup _ _ _ _ _ (@pa_cons _ _ _ _ _ pe_int (@pa_cons _ _ _ _ _ pe_int pa_nil (by rfl)) (by rfl))) (@pa_cons _ _ _ _ _ (@pe_tup _ _ _ _ _ (@pa_cons _ _ _ _ _ (@pe_tup _ _ _ _ _ (@pa_cons _ _ _ _ _ pe_int (@pa_cons _ _ _ _ _ pe_int pa_nil (by rfl)) (by rfl))) (@pa_cons _ _ _ _ _ (@pe_tup _ _ _ _ _ (@pa_cons _ _ _ _ _ pe_int (@pa_cons _ _ _ _ _ pe_int pa_nil (by rfl)) (by rfl))) pa_nil (by rfl)) (by rfl))) (@pa_cons _ _ _ _ _ pe_int pa_nil (by rfl)) (by rfl)) (by rfl)))))))) (@pss_one _ _ _ (ps_ret pe_bl)) pss_nil)
    (@pss_cons _ _ _ _ _ (ps_for PassesOwn.never rfl (pi_range1 rfl B.range (@pa_cons _ _ _ _ _ (pe_callB (call_max2 rfl) rfl B.max boot_max (@pa_cons _ _ _ _ _ pe_int (@pa_cons _ _ _ _ _ (pe_callB (call_min2 rfl) rfl B.min boot_min (@pa_cons _ _ _ _ _ (pe_callB call_len_seq rfl B.len PySem.boot_len (@pa_cons _ _ _ _ _ (pv 0) pa_nil (by rfl))) (@pa_cons _ _ _ _ _ pe_int pa_nil (by rfl)) (by rfl))) pa_nil (by rfl)) (by rfl))) pa_nil (by rfl))) (pg_name (i:=1) sc_law.nd rfl (Or.inl rfl))
    (@pss_cons _ _ _ _ _ (@ps_set _ _ 2 _ _ _ _ sc_law.nd rfl (Or.inl rfl) (pe_cal C.state hr rfl (@pa_cons _ _ _ _ _ (pv 0) (@pa_cons _ _ _ _ _ (pv 1) pa_nil (by rfl)) (by rfl))) (by rfl) (by first | exact .inl rfl | exact .inr rfl))
    (@pss_cons _ _ _ _ _ (@ps_set _ _ 3 _ _ _ _ sc_law.nd rfl (Or.inl rfl) (@pe_ix _ _ _ _ _ _ _ ix_list (@pe_lst _ _ _ _ (@pa_cons _ _ _ _ _ (@pe_op _ _ _ _ _ _ _ _ op_add pe_int (pe_cal C.take hr rfl (@pa_cons _ _ _ _ _ (pv 2) (@pa_cons _ _ _ _ _ pe_int pa_nil (by rfl)) (by rfl)))) (@pa_cons _ _ _ _ _ pe_int (@pa_cons _ _ _ _ _ pe_int pa_nil (by rfl)) (by rfl)) (by rfl))) (pe_cal C.take hr rfl (@pa_cons _ _ _ _ _ (pv 2) (@pa_cons _ _ _ _ _ pe_int pa_nil (by rfl)) (by rfl))) (fun _ _=>rfl)) (by rfl) (by first | exact .inl rfl | exact .inr rfl))
    (@pss_cons _ _ _ _ _ (@ps_set _ _ 4 _ _ _ _ sc_law.nd rfl (Or.inl rfl) (pe_cal C.take hr rfl (@pa_cons _ _ _ _ _ (pv 2) (@pa_cons _ _ _ _ _ (@pe_ix _ _ _ _ _ _ _ ix_list (@pe_lst _ _ _ _ (@pa_cons _ _ _ _ _ pe_int (@pa_cons _ _ _ _ _ pe_int pa_nil (by rfl)) (by rfl))) (pe_callTy call_int1 rfl B.int boot_int (@pa_cons _ _ _ _ _ (pe_and (pe_cmpR op_gt (pv 3) pe_int (nomark _)) (pe_one (pe_cmpR op_gt (pv 1) pe_int (nomark _)))) pa_nil (by rfl))) (fun _ _=>rfl)) pa_nil (by rfl)) (by rfl))) (by rfl) (by first | exact .inl rfl | exact .inr rfl))
    (@pss_cons _ _ _ _ _ (ps_asg (@pe_tup _ _ _ _ _ (@pa_cons _ _ _ _ _ (pe_cal C.urn hr rfl (@pa_cons _ _ _ _ _ (pv 2) (@pa_cons _ _ _ _ _ (pv 3) pa_nil (by rfl)) (by rfl))) (@pa_cons _ _ _ _ _ (pe_cal C.rule hr rfl (@pa_cons _ _ _ _ _ (pv 2) (@pa_cons _ _ _ _ _ (pv 3) pa_nil (by rfl)) (by rfl))) pa_nil (by rfl)) (by rfl))) (pg_tup rfl (pgs_cons (pg_name (i:=5) sc_law.nd rfl (Or.inr rfl)) (pgs_cons (pg_name (i:=6) sc_law.nd rfl (Or.inr rfl)) pgs_nil))))
    (@pss_cons _ _ _ _ _ (ps_if (pt_not (pt_val (pe_cal C.right hr rfl (@pa_cons _ _ _ _ _ (pv 5) (@pa_cons _ _ _ _ _ (pv 6) (@pa_cons _ _ _ _ _ (pv 4) pa_nil (by rfl)) (by rfl)) (by rfl))))) (@pss_one _ _ _ (ps_ret pe_bl)) pss_nil)
    (@pss_cons _ _ _ _ _ (ps_asg (@pe_tup _ _ _ _ _ (@pa_cons _ _ _ _ _ (@pe_ix _ _ _ _ _ _ _ ix_list (@pe_lst _ _ _ _ (@pa_cons _ _ _ _ _ (pe_cal C.bu hr rfl (@pa_cons _ _ _ _ _ (pv 2) (@pa_cons _ _ _ _ _ (pv 5) pa_nil (by rfl)) (by rfl))) (@pa_cons _ _ _ _ _ (pe_cal C.odd hr rfl (@pa_cons _ _ _ _ _ (pv 2) pa_nil (by rfl))) pa_nil (by rfl)) (by rfl))) (pe_cal C.take hr rfl (@pa_cons _ _ _ _ _ (pv 2) (@pa_cons _ _ _ _ _ pe_int pa_nil (by rfl)) (by rfl))) (fun _ _=>rfl)) (@pa_cons _ _ _ _ _ (pe_cal C.br hr rfl (@pa_cons _ _ _ _ _ (pv 2) (@pa_cons _ _ _ _ _ (pv 6) pa_nil (by rfl)) (by rfl))) pa_nil (by rfl)) (by rfl))) (pg_tup rfl (pgs_cons (pg_name (i:=7) sc_law.nd rfl (Or.inr rfl)) (pgs_cons (pg_name (i:=8) sc_law.nd rfl (Or.inr rfl)) pgs_nil))))
    (@pss_cons _ _ _ _ _ (@ps_set _ _ 9 _ _ _ _ sc_law.nd rfl (Or.inr rfl) (pe_cal C.number hr rfl (@pa_cons _ _ _ _ _ (pv 2) (@pa_cons _ _ _ _ _ pe_int pa_nil (by rfl)) (by rfl))) (by rfl) (by first | exact .inl rfl | exact .inr rfl))
    (@pss_one _ _ _ (ps_for PassesOwn.never rfl (pi_list (@pe_lst _ _ _ _ (@pa_cons _ _ _ _ _ (pe_glob (v:=.ref fc) rfl hmc rfl) (@pa_cons _ _ _ _ _ (pe_glob (v:=.ref fu) rfl hmu rfl) pa_nil (by rfl)) (by rfl)))) (pg_name (i:=10) sc_law.nd rfl (Or.inr rfl))
    (@pss_cons _ _ _ _ _ (ps_if (PW.pt (pw_and (pt_not (pt_val (pe_cal C.lisu hr rfl (@pa_cons _ _ _ _ _ (pv 7) pa_nil (by rfl))))) (pw_and1 (@pt_cmpR _ _ _ _ _ _ _ _ op_ne (pe_callR C.refused hr rfl (@pa_cons _ _ _ _ _ (pe_lambda (Z _ rfl rfl rfl)) pa_nil (by rfl))) pe_str (nomark _))))) (@pss_one _ _ _ (ps_ret pe_bl)) pss_nil)
    (@pss_cons _ _ _ _ _ (ps_if (PW.pt (pw_and (pt_not (pt_val (pe_cal C.lisr hr rfl (@pa_cons _ _ _ _ _ (pv 3) (@pa_cons _ _ _ _ _ (pv 8) pa_nil (by rfl)) (by rfl))))) (pw_and1 (@pt_cmpR _ _ _ _ _ _ _ _ op_ne (pe_callR C.refused hr rfl (@pa_cons _ _ _ _ _ (pe_lambda (Z _ rfl rfl rfl)) pa_nil (by rfl))) pe_str (nomark _))))) (@pss_one _ _ _ (ps_ret pe_bl)) pss_nil)
    (@pss_one _ _ _ (ps_if (@pt_cmpR _ _ _ _ _ _ _ _ op_ne (pe_callR C.refused hr rfl (@pa_cons _ _ _ _ _ (pe_lambda (Z _ rfl rfl rfl)) pa_nil (by rfl))) pe_str (nomark _)) (@pss_one _ _ _ (ps_ret pe_bl)) pss_nil))))))))))))))
    (@pss_one _ _ _ (ps_ret pe_bl)))),?_⟩
  obtain ⟨ps0,hT0,_⟩:=id hCT
  refine ⟨(by show 2 <= sizeLine;decide),fun p1 hnp1=>⟨(by show 2 <= sizeLine;decide),fun p2 hnp2=>⟨(by show 2 <= sizeLine;decide),fun p3 hnp3=>⟨(by show 2 <= sizeLine;decide),fun p4 hnp4=>?_⟩⟩⟩⟩
  have gp1:Same H (upd H p1 (.tup [.int 1,.int 1])):=Same.new hnp1
  have hp1:upd H p1 (.tup [.int 1,.int 1]) p1=some (.tup [.int 1,.int 1]):=upd_same
  generalize upd H p1 (.tup [.int 1,.int 1])=Jp1 at gp1 hp1 hnp2 hnp3 hnp4
  have gp2:Same Jp1 (upd Jp1 p2 (.tup [.int 1,.int 0])):=Same.new hnp2
  have hp2:upd Jp1 p2 (.tup [.int 1,.int 0]) p2=some (.tup [.int 1,.int 0]):=upd_same
  generalize upd Jp1 p2 (.tup [.int 1,.int 0])=Jp2 at gp2 hp2 hnp3 hnp4
  have gp3:Same Jp2 (upd Jp2 p3 (.tup [.int 0,.int 1])):=Same.new hnp3
  have hp3:upd Jp2 p3 (.tup [.int 0,.int 1]) p3=some (.tup [.int 0,.int 1]):=upd_same
  generalize upd Jp2 p3 (.tup [.int 0,.int 1])=Jp3 at gp3 hp3 hnp4
  have gp4:Same Jp3 (upd Jp3 p4 (.tup [.ref p2,.ref p3])):=Same.new hnp4
  have hp4:upd Jp3 p4 (.tup [.ref p2,.ref p3]) p4=some (.tup [.ref p2,.ref p3]):=upd_same
  generalize upd Jp3 p4 (.tup [.ref p2,.ref p3])=Jp4 at gp4 hp4
  have ep1:=(((gp2).trans gp3).trans gp4) _ _ hp1
  have ep2:=((gp3).trans gp4) _ _ hp2
  have ep3:=(gp4) _ _ hp3
  have ep4:=(Same.refl _) _ _ hp4
  have ggp4:Same H Jp4:=(((gp1).trans gp2).trans gp3).trans gp4
  have hTe:=ggp4 _ _ hT0
  have np1:p1 ≠ T:=fun e=>by rw [e] at ep1;rw [hTe] at ep1;cases ep1
  have np2:p2 ≠ T:=fun e=>by rw [e] at ep2;rw [hTe] at ep2;cases ep2
  have np3:p3 ≠ T:=fun e=>by rw [e] at ep3;rw [hTe] at ep3;cases ep3
  have np4:p4 ≠ T:=fun e=>by rw [e] at ep4;rw [hTe] at ep4;cases ep4
  have hRb:Mt.Rul 2 5 [[1,0],[0,1]]:=⟨rfl,fun r hr=>by
    simp only [List.mem_cons,List.not_mem_nil,or_false] at hr
    rcases hr with rfl | rfl
    · exact ⟨rfl,by decide⟩
    · exact ⟨rfl,by decide⟩⟩
  have hUb:Mt.Urn 2 20 [1,1]:=⟨rfl,by decide,by decide⟩
  have nt:∀ (ps:Array Value) xs,HO.tbl ps ≠ .tup xs:=fun _ _ z=>by cases z
  refine ⟨T,p1,.ref p4,2,4,[1,1],[[1,0],[0,1]],rfl,⟨Dt.mkI np1 ep1,hUb,Dt.tup np4 ep4 (Dts.cons (Dt.mkI (ns:=[1,0]) np2 ep2) (Dts.cons (Dt.mkI (ns:=[0,1]) np3 ep3) (Dts.nil _ _))),hRb,by decide,by decide,by decide,⟨_,hTe,nt _⟩⟩,fun Hz gz=>⟨_,rfl,iteF ?_⟩⟩
  have gT1:=ggp4.trans gz
  clear hTe np1 np2 np3 np4 ep1 ep2 ep3 ep4
  refine ⟨(by show 2 <= sizeLine;decide),fun a1 hna1=>⟨(by show 2 <= sizeLine;decide),fun a2 hna2=>⟨(by show 2 <= sizeLine;decide),fun a3 hna3=>⟨(by show 2 <= sizeLine;decide),fun a4 hna4=>?_⟩⟩⟩⟩
  have ga1:Same Hz (upd Hz a1 (.tup [.int 1,.int 1])):=Same.new hna1
  have ha1:upd Hz a1 (.tup [.int 1,.int 1]) a1=some (.tup [.int 1,.int 1]):=upd_same
  generalize upd Hz a1 (.tup [.int 1,.int 1])=Ja1 at ga1 ha1 hna2 hna3 hna4
  have ga2:Same Ja1 (upd Ja1 a2 (.tup [.int 0,.int 1])):=Same.new hna2
  have ha2:upd Ja1 a2 (.tup [.int 0,.int 1]) a2=some (.tup [.int 0,.int 1]):=upd_same
  generalize upd Ja1 a2 (.tup [.int 0,.int 1])=Ja2 at ga2 ha2 hna3 hna4
  have ga3:Same Ja2 (upd Ja2 a3 (.tup [.int 0,.int 0])):=Same.new hna3
  have ha3:upd Ja2 a3 (.tup [.int 0,.int 0]) a3=some (.tup [.int 0,.int 0]):=upd_same
  generalize upd Ja2 a3 (.tup [.int 0,.int 0])=Ja3 at ga3 ha3 hna4
  have ga4:Same Ja3 (upd Ja3 a4 (.tup [.ref a2,.ref a3])):=Same.new hna4
  have ha4:upd Ja3 a4 (.tup [.ref a2,.ref a3]) a4=some (.tup [.ref a2,.ref a3]):=upd_same
  generalize upd Ja3 a4 (.tup [.ref a2,.ref a3])=Ja4 at ga4 ha4
  have ea1:=(((ga2).trans ga3).trans ga4) _ _ ha1
  have ea2:=((ga3).trans ga4) _ _ ha2
  have ea3:=(ga4) _ _ ha3
  have ea4:=(Same.refl _) _ _ ha4
  have gga4:Same Hz Ja4:=(((ga1).trans ga2).trans ga3).trans ga4
  have hTe:=(gT1.trans gga4) _ _ hT0
  have na1:a1 ≠ T:=fun e=>by rw [e] at ea1;rw [hTe] at ea1;cases ea1
  have na2:a2 ≠ T:=fun e=>by rw [e] at ea2;rw [hTe] at ea2;cases ea2
  have na3:a3 ≠ T:=fun e=>by rw [e] at ea3;rw [hTe] at ea3;cases ea3
  have na4:a4 ≠ T:=fun e=>by rw [e] at ea4;rw [hTe] at ea4;cases ea4
  have hRc:Mt.Rul 2 5 [[0,1],[0,0]]:=⟨rfl,fun r hr=>by
    simp only [List.mem_cons,List.not_mem_nil,or_false] at hr
    rcases hr with rfl | rfl
    · exact ⟨rfl,by decide⟩
    · exact ⟨rfl,by decide⟩⟩
  refine ⟨T,a1,.ref a4,2,2,[1,1],[[0,1],[0,0]],rfl,⟨Dt.mkI na1 ea1,hUb,Dt.tup na4 ea4 (Dts.cons (Dt.mkI (ns:=[0,1]) na2 ea2) (Dts.cons (Dt.mkI (ns:=[0,0]) na3 ea3) (Dts.nil _ _))),hRc,by decide,by decide,by decide,⟨_,hTe,nt _⟩⟩,fun Hy gy=>⟨_,rfl,iteF ?_⟩⟩
  have gTot:Same H Hy:=(gT1.trans gga4).trans gy
  clear hTe na1 na2 na3 na4 ea1 ea2 ea3 ea4
  have hS0:SqL K Hy a (scr.map V.int):=by
    rcases hS with (h | ⟨o,h⟩) | h
    · exact .inl (.inl (gTot _ _ h))
    · exact .inl (.inr ⟨o,gTot _ _ h⟩)
    · exact .inr h
  have hCT0:=hCT.same gTot
  show tSeq _ _ _ _ Hy
  refine ⟨_,rfl,a,_,rfl,.inl hS0,_,_,rfl,_,_,rfl,_,rfl,?_,?_,?_⟩
  · split <;> split <;> omega
  · rw [List.length_map];split <;> split <;> omega
  refine for_range (lo:=0) (fun i σ H2=>SqL K H2 a (scr.map V.int)/\CTab lq T H2/\∃ o1 o2 o3 o4 o5 o6 o7 o8 o9 o10,σ=[some (.ref a),o1,o2,o3,o4,o5,o6,o7,o8,o9,o10])
    ⟨hS0,hCT0,none,none,none,none,none,none,none,none,none,none,rfl⟩ (fun i σ H2 hi h=>?_) (fun σ H2 h=>q _)
  clear hS0 hCT0 gTot
  obtain ⟨hS2,hCT2,o1,o2,o3,o4,o5,o6,o7,o8,o9,o10,rfl⟩:=h
  have e0:(0:Int) + (i:Int)=(i:Int):=by omega
  rw [e0]
  refine ⟨_,rfl,_,rfl,a,scr,i,rfl,hS2,fun l x b hl hst=>?_⟩
  have s3:Sta l b (upd H2 l (.lst [.int x,.bl b])) (upd H2 l (.lst [.int x,.bl b])):=Sta.start upd_same hst
  have hCT3:CTab lq T (upd H2 l (.lst [.int x,.bl b])):=hCT2.same (Same.new hl)
  have hA:∀ H',Kp l (upd H2 l (.lst [.int x,.bl b])) H'->SqL K H' a (scr.map V.int):=fun H' k=>by
    rcases hS2 with (h | ⟨o,h⟩) | h
    · exact .inl (.inl (k _ _ (ne_of_none h hl) (Same.new hl _ _ h)))
    · exact .inl (.inr ⟨o,k _ _ (ne_of_none h hl) (Same.new hl _ _ h)⟩)
    · exact .inr h
  show tSeq _ _ _ _ (upd H2 l (.lst [.int x,.bl b]))
  generalize upd H2 l (.lst [.int x,.bl b])=H3 at s3 hCT3 hA
  clear hS2 hCT2 hl hst
  obtain ⟨_,x3,hx3,ok3⟩:=id s3
  refine ⟨_,rfl,l,4,x3,b,rfl,hx3,ok3,by decide,by decide,fun y x1 hy ok1=>⟨_,_,rfl,rfl,(by show 3 <= sizeLine;decide),fun pk hpk=>?_⟩⟩
  have s4:=s3.go ok1
  try dsimp only
  generalize upd H3 l (.lst [.int x1,.bl b])=H4 at s4 hpk
  have s5:=s4.new (o:=.lst [.int (1 + (y:Int)),.int 2,.int 3]) hpk
  have hpk5:upd H4 pk (.lst [.int (1 + (y:Int)),.int 2,.int 3]) pk=some (.lst [.int (1 + (y:Int)),.int 2,.int 3]):=upd_same
  have npk:pk ≠ l:=(s4.ne hpk).symm
  generalize upd H4 pk (.lst [.int (1 + (y:Int)),.int 2,.int 3])=H5 at s5 hpk5
  obtain ⟨_,x5,hx5,ok5⟩:=id s5
  refine ⟨_,rfl,l,3,x5,b,rfl,hx5,ok5,by decide,by decide,fun y2 x2 hy2 okB=>?_⟩
  have s6:=s5.go okB
  have k6:Kp l H5 (upd H5 l (.lst [.int x2,.bl b])):=Kp.at
  try dsimp only
  generalize upd H5 l (.lst [.int x2,.bl b])=H6 at s6 k6
  obtain ⟨n,hn,n1,n4⟩:∃ n:Nat,([.int (1 + (y:Int)),.int 2,.int 3]:List V)[y2]?=some (.int n)/\1 <= n/\n <= 4:=by
    have hy':y2 < 3:=by omega
    match y2,hy' with
    | 0,_=>exact ⟨1 + y,by show some (V.int (1 + (y:Int)))=some (V.int ((1 + y:Nat):Int));congr 2,by omega,by omega⟩
    | 1,_=>exact ⟨2,rfl,by decide,by decide⟩
    | 2,_=>exact ⟨3,rfl,by decide,by decide⟩
  refine ⟨pk,_,_,_,rfl,rfl,.of (k6 _ _ npk hpk5),atI_nat hn,?_⟩
  clear hn hpk5 hpk k6
  refine seq_joinU (fun σ' Hx=>∃ dr:Nat,dr <= 4/\Sta l b H3 Hx/\σ'=[some (.ref a),some (.int i),some (.ref l),some (.int n),some (.int dr),o5,o6,o7,o8,o9,o10]) (fun N hN=>?_) (fun σ' H7 h=>?_)
  · refine ⟨_,rfl,(by show 2 <= sizeLine;decide),fun pd hpd=>⟨_,rfl,_,_,rfl,rfl,_,rfl,?_⟩⟩
    have s7:=s6.new (o:=.lst [.int 5,.int 4]) hpd
    have hpd7:upd H6 pd (.lst [.int 5,.int 4]) pd=some (.lst [.int 5,.int 4]):=upd_same
    try dsimp only
    generalize upd H6 pd (.lst [.int 5,.int 4])=H7 at s7 hpd7
    obtain ⟨_,x7,hx7,ok7⟩:=id s7
    have t5:∀ (m:Int),m=5 ∨ m=4->tCb sp_take (fun σ H Q=>Q [.ref l,.int m] H) [some (.ref a),some (.int i),some (.ref l),some (.int n),o4,o5,o6,o7,o8,o9,o10] H7 fun v H'=>gName 4 v [some (.ref a),some (.int i),some (.ref l),some (.int n),o4,o5,o6,o7,o8,o9,o10] H' N:=fun m hm =>
      ⟨l,m,x7,b,rfl,hx7,ok7,by omega,by omega,fun d x8 hd ok8=>hN _ _ ⟨d,by omega,s7.go ok8,rfl⟩⟩
    cases decide ((3:Int) < (n:Int)) with
    | false=>exact iteF (.inr ⟨_,rfl,pd,_,_,_,rfl,rfl,.of hpd7,(by rfl),t5 5 (.inl rfl)⟩)
    | true =>
      refine iteT ⟨_,rfl,_,_,rfl,rfl,.inr ⟨_,rfl,?_⟩⟩
      cases decide ((0:Int) < (i:Int)) with
      | false=>exact ⟨pd,_,_,_,rfl,rfl,.of hpd7,(by rfl),t5 5 (.inl rfl)⟩
      | true=>exact ⟨pd,_,_,_,rfl,rfl,.of hpd7,(by rfl),t5 4 (.inr rfl)⟩
  obtain ⟨dr',dr4,s7,rfl⟩:=h
  clear s4 s5 s6
  obtain ⟨_,x7,hx7,ok7⟩:=id s7
  refine ⟨_,rfl,_,rfl,l,n,x7,b,rfl,hx7,ok7,n1,n4,fun ua H8 ns s8' hua hU=>?_⟩
  have s8:=s7.trans s8'
  have nua:=s8.neL hua
  obtain ⟨_,x8,hx8,ok8⟩:=id s8
  refine ⟨_,rfl,_,rfl,l,n,x8,b,rfl,hx8,ok8,n1,n4,fun rv H9 rs s9' hrd hR=>⟨(by show 2 <= sizeLine;decide),fun pw hpw=>⟨pw,_,rfl,.of upd_same,rfl,_,_,rfl,_,_,rfl,rfl,?_⟩⟩⟩
  have s9:=s8.trans s9'
  have g10:Same H9 (upd H9 pw (.tup [.ref ua,rv])):=Same.new hpw
  have s10:=s9.same g10
  have hua10:=g10 _ _ (s9'.1 _ _ nua hua)
  have hrd10:=hrd.kp (g10.kp l)
  try dsimp -proj only [gName]
  generalize upd H9 pw (.tup [.ref ua,rv])=H10 at g10 s10 hua10 hrd10
  clear hua hrd g10 s9 s8 s9' s8' s7
  have nl4:ns.length=n:=hU.len
  have rl4:=hR.len
  have okr:ok2 (DR rs):=⟨short_DR (by omega),shorts_DR hR (by omega)⟩
  have shu:short (DI ns):=short_DI (by omega)
  obtain ⟨_,x10,hx10,ok10⟩:=id s10
  refine ⟨_,rfl,_,rfl,_,rfl,l,ua,rv,n,dr',ns,rs,rfl,⟨Dt.mkI nua hua10,hU,hrd10,hR,n1,n4,dr4,⟨_,hx10,fun xs z=>by cases z⟩⟩,fun Hc gc=>⟨_,rfl,iteF ?_⟩⟩
  have s11:=s10.same gc
  have hua11:=gc _ _ hua10
  have hrd11:=hrd10.kp (gc.kp l)
  clear hua10 hrd10 s10
  obtain ⟨_,x11,hx11,ok11⟩:=id s11
  refine ⟨_,rfl,_,rfl,l,ua,x11,b,ns,rfl,hx11,ok11,hua11,by omega,by omega,fun v1 He se tg1=>?_⟩
  have s12:=s11.trans se
  obtain ⟨_,x12,hx12,ok12⟩:=id s12
  refine ⟨_,rfl,l,x12,b,rfl,hx12,ok12,fun v2 Hf sf tg2=>⟨(by show 2 <= sizeLine;decide),fun pb hnpb=>?_⟩⟩
  have s13:=s12.trans sf
  have g14:Same Hf (upd Hf pb (.lst [v1,v2])):=Same.new hnpb
  have hpb:upd Hf pb (.lst [v1,v2]) pb=some (.lst [v1,v2]):=upd_same
  have npb:pb ≠ l:=(s13.ne hnpb).symm
  have s14:=s13.same g14
  try dsimp only
  generalize upd Hf pb (.lst [v1,v2])=Hg at g14 hpb s14
  obtain ⟨_,x14,hx14,ok14⟩:=id s14
  refine ⟨_,rfl,l,2,x14,b,rfl,hx14,ok14,by decide,by decide,fun y3 x15 hy3 ok15=>?_⟩
  have s15:=s14.go ok15
  have k15:Kp l Hg (upd Hg l (.lst [.int x15,.bl b])):=Kp.at
  try dsimp only
  generalize upd Hg l (.lst [.int x15,.bl b])=Hh at s15 k15
  have kf:=(g14.kp l).trans k15
  obtain ⟨vbe,hvbe,tgbe⟩:∃ vbe,([v1,v2]:List V)[y3]?=some vbe/\Tg l Hh vbe:=by
    have hy':y3 < 2:=by omega
    match y3,hy' with
    | 0,_=>exact ⟨v1,rfl,(tg1.kp sf.1).kp kf⟩
    | 1,_=>exact ⟨v2,rfl,tg2.kp kf⟩
  refine ⟨pb,_,_,_,rfl,rfl,.of (k15 _ _ npb hpb),atI_nat hvbe,?_⟩
  have kh:=(se.1.trans sf.1).trans kf
  have hrd12:=hrd11.kp kh
  have hua12:=kh _ _ nua hua11
  obtain ⟨_,x16,hx16,ok16⟩:=id s15
  refine ⟨_,rfl,_,rfl,l,rv,x16,b,n,rs,rfl,hx16,ok16,hrd12,hR,n1,n4,fun vb Hi si tgb=>⟨(by show 2 <= sizeLine;decide),fun pw hpw=>⟨pw,_,rfl,.of upd_same,rfl,_,_,rfl,_,_,rfl,rfl,?_⟩⟩⟩
  have s16:=s15.trans si
  have g17:Same Hi (upd Hi pw (.tup [vbe,vb])):=Same.new hpw
  have s17:=s16.same g17
  have ki:=si.1.trans (g17.kp l)
  have tgbe17:=tgbe.kp ki
  have tgb17:=tgb.kp (g17.kp l)
  have hrd17:=hrd12.kp ki
  have hua17:=ki _ _ nua hua12
  try dsimp -proj only [gName]
  generalize upd Hi pw (.tup [vbe,vb])=Hj at g17 s17 ki tgbe17 tgb17 hrd17 hua17
  obtain ⟨_,x17,hx17,ok17⟩:=id s17
  refine ⟨_,rfl,l,x17,b,rfl,hx17,ok17,fun vno Hk dno sk hdno hwno=>?_⟩
  have s18:=s17.trans sk
  obtain ⟨dbe,hdbe,okbe⟩:=tgbe17.kp sk.1
  obtain ⟨db,hdb,okb⟩:=tgb17.kp sk.1
  have hrd18:=hrd17.kp sk.1
  have hua18:=sk.1 _ _ nua hua17
  clear tgbe17 tgb17 tgbe tgb tg1 tg2 s11 s12 s13 s14 s15 s16 s17 hua11 hua12 hua17 hrd11 hrd12 hrd17 g14 g17 ki kf kh
  try dsimp -proj only [gName]
  refine ⟨(by show 2 <= sizeLine;decide),fun pl hpl=>⟨pl,rfl,⟨_,.of upd_same⟩,?_⟩⟩
  have g19:Same Hk (upd Hk pl (.lst [.ref fc,.ref fu])):=Same.new hpl
  have s19:=s18.same g19
  have hpl19:upd Hk pl (.lst [.ref fc,.ref fu]) pl=some (.lst [.ref fc,.ref fu]):=upd_same
  generalize upd Hk pl (.lst [.ref fc,.ref fu])=Hm at s19 g19 hpl19
  have Dbe:=hdbe.kp (g19.kp l)
  have Db:=hdb.kp (g19.kp l)
  have Dno:=hdno.kp (g19.kp l)
  have Du:Dt l Hm (DI ns) (.ref ua):=Dt.mkI nua (g19 _ _ hua18)
  have Dr:=hrd18.kp (g19.kp l)
  have hSm:=hA Hm s19.1
  have hCTm:CTab lq T Hm:=by
    obtain ⟨_,x3',hx3',_⟩:=id s3
    exact hCT3.kp hx3' s19.1
  obtain ⟨psm,hTm,_⟩:=id hCTm
  have npl:pl ≠ T:=fun e=>by rw [e,hTm] at hpl19;cases hpl19
  clear hdbe hdb hdno hrd18 hua18 g19 s19 s18
  have uok:=urnD_of hU n1 n4
  have rok:ruleD (lenD (DI ns):Int) (DR rs)=true:=by rw [lenD_DI,nl4];exact ruleD_of hR
  have both:∀ z ∈ ([.ref fc,.ref fu]:List V),Rfs P w K mg base c z:=fun z hz=>by
    simp only [List.mem_cons,List.not_mem_nil,or_false] at hz
    rcases hz with e | e
    · exact ⟨fc,fdc,_,e,hkc,hbc,Fc,fun vs H Q E h=>.inl h⟩
    · exact ⟨fu,fdu,_,e,hku,hbu,Fu,fun vs H Q E h=>.inl h⟩
  refine for_list (K:=K) (a:=pl) (xs:=[.ref fc,.ref fu]) (fun j σ Hj=>Kp T Hm Hj/\CTab lq T Hj/\∃ oz,σ=[some (.ref a),some (.int i),some (.ref l),some (.int n),some (.int dr'),some (.ref ua),some rv,some vbe,some vb,some vno,oz])
    ⟨Kp.refl _ _,hCTm,o10,rfl⟩ (fun j σ Hj _ h=>.of (h.1 _ _ npl hpl19)) (fun j z σ Hj hz h=>?_) (fun σ Hz h=>?_)
  rotate_left
  · obtain ⟨kz,hCTz,oz,rfl⟩:=h
    exact ⟨SqL_kp hTm kz hSm,hCTz,_,_,_,_,_,_,_,_,_,_,rfl⟩
  obtain ⟨kj,hCTj,oz,rfl⟩:=h
  obtain ⟨fz,fdz,sp,rfl,hkz,hbz,Fz,hspz⟩:=both z (List.mem_of_getElem? hz)
  obtain ⟨psj,hTj,_⟩:=id hCTj
  have Dbe1:=Dt_keep hTm kj Dbe
  have Db1:=Dt_keep hTm kj Db
  have Dno1:=Dt_keep hTm kj Dno
  have Du1:=Dt_keep hTm kj Du
  have Dr1:=Dt_keep hTm kj Dr
  refine seq_joinK (T:=T) (q:=lq) (fun N hN=>?_) (fun Hn kn hCTn=>?_)
  · refine ⟨_,rfl,vbe,l,dbe,rfl,Dbe1,okbe.1,fun H1 g1=>⟨_,rfl,?_⟩⟩
    cases hu:urnD 20 dbe with
    | true=>exact iteF (iteF (hN H1 (g1.kp T) (hCTj.same g1)))
    | false =>
      refine iteT ?_
      obtain ⟨ps1,hT1,_⟩:=id (hCTj.same g1)
      refine fun Zc=>⟨hCTj.same g1,fun f0 c0 ctv Hl hkl hCTl hfn hf0 hc0 Hf frz=>?_⟩
      refine lam_out (k:=10) (N:=["_law_call","_law_bent","_law_bad","_law_none"]) (ix:=[some 10,some 7,some 8,some 9]) (o:=some 0) Zc frz ⟨c0,ctv,hf0,hc0⟩ rfl rfl rfl rfl (by decide +kernel) rfl (fun i e=>by cases e;decide) (fun _ _=>rfl) (fun c1 A' outer' s' E1 Q1 hr' hin hE=>⟨_,pe_callV (i:=0) Fz hr' hkz hbz passesL (pa_cons (pv 1) (pa_cons (pv 2) (pa_cons (pv 3) pa_nil))),?_⟩) (fun Ho g=>⟨rfl,_,rfl,iteNS rfl ?_⟩)
      · have up:∀ {dd:PyData} {vv:V},Dt l H1 dd vv->Dt l _ dd vv:=fun {dd vv} hh=>(Dt_keep hT1 hkl hh).kp (hin.kp l)
        exact ⟨rfl,_,rfl,_,rfl,_,rfl,hspz _ _ _ _ ⟨l,_,_,_,dbe,db,dno,0,rfl,up (Dbe1.kp (g1.kp l)),okbe.1,up (Db1.kp (g1.kp l)),okb,up (Dno1.kp (g1.kp l)),.inl ⟨rfl,hu⟩,hE⟩⟩
      · exact hN _ ((g1.kp T).trans (Kp.trans (show Kp T H1 Hl from hkl) ((frz.back g).kp T))) (hCTl.same (frz.back g))
  obtain ⟨psn,hTn,_⟩:=id hCTn
  have Db2:=Dt_keep hTj kn Db1
  have Dno2:=Dt_keep hTj kn Dno1
  have Du2:=Dt_keep hTj kn Du1
  have Dr2:=Dt_keep hTj kn Dr1
  have kjn:=kj.trans kn
  refine seq_joinK (T:=T) (q:=lq) (fun N hN=>?_) (fun Ho ko hCTo=>?_)
  · refine ⟨_,rfl,_,rfl,vb,l,db,(n:Int),rfl,Db2,by omega,fun H1 g1=>⟨_,rfl,?_⟩⟩
    cases hu:ruleD (n:Int) db with
    | true=>exact iteF (iteF (hN H1 (g1.kp T) (hCTn.same g1)))
    | false =>
      refine iteT ?_
      obtain ⟨ps1,hT1,_⟩:=id (hCTn.same g1)
      refine fun Zc=>⟨hCTn.same g1,fun f0 c0 ctv Hl hkl hCTl hfn hf0 hc0 Hf frz=>?_⟩
      refine lam_out (k:=10) (N:=["_law_call","_law_urn","_law_bad","_law_none"]) (ix:=[some 10,some 5,some 8,some 9]) (o:=some 1) Zc frz ⟨c0,ctv,hf0,hc0⟩ rfl rfl rfl rfl (by decide +kernel) rfl (fun i e=>by cases e;decide) (fun _ _=>rfl) (fun c1 A' outer' s' E1 Q1 hr' hin hE=>⟨_,pe_callV (i:=0) Fz hr' hkz hbz passesL (pa_cons (pv 1) (pa_cons (pv 2) (pa_cons (pv 3) pa_nil))),?_⟩) (fun Hw g=>⟨rfl,_,rfl,iteNS rfl ?_⟩)
      · have up:∀ {dd:PyData} {vv:V},Dt l H1 dd vv->Dt l _ dd vv:=fun {dd vv} hh=>(Dt_keep hT1 hkl hh).kp (hin.kp l)
        exact ⟨rfl,_,rfl,_,rfl,_,rfl,hspz _ _ _ _ ⟨l,_,_,_,DI ns,db,dno,1,rfl,up (Du2.kp (g1.kp l)),shu,up (Db2.kp (g1.kp l)),okb,up (Dno2.kp (g1.kp l)),.inr (.inl ⟨rfl,uok,by rw [lenD_DI,nl4];exact hu⟩),hE⟩⟩
      · exact hN _ ((g1.kp T).trans (Kp.trans (show Kp T H1 Hl from hkl) ((frz.back g).kp T))) (hCTl.same (frz.back g))
  obtain ⟨pso,hTo,_⟩:=id hCTo
  have Dno3:=Dt_keep hTn ko Dno2
  have Du3:=Dt_keep hTn ko Du2
  have Dr3:=Dt_keep hTn ko Dr2
  refine fun Zc=>⟨hCTo,fun f0 c0 ctv Hl hkl hCTl hfn hf0 hc0 Hf frz=>?_⟩
  refine lam_out (k:=10) (N:=["_law_call","_law_urn","_law_rule_here","_law_none"]) (ix:=[some 10,some 5,some 6,some 9]) (o:=some 5) Zc frz ⟨c0,ctv,hf0,hc0⟩ rfl rfl rfl rfl (by decide +kernel) rfl (fun i e=>by cases e;decide) (fun _ _=>rfl) (fun c1 A' outer' s' E1 Q1 hr' hin hE=>⟨_,pe_callV (i:=0) Fz hr' hkz hbz passesL (pa_cons (pv 1) (pa_cons (pv 2) (pa_cons (pv 3) pa_nil))),?_⟩) (fun Hw g=>⟨rfl,_,rfl,iteNS rfl ?_⟩)
  · have up:∀ {dd:PyData} {vv:V},Dt l Ho dd vv->Dt l _ dd vv:=fun {dd vv} hh=>(Dt_keep hTo hkl hh).kp (hin.kp l)
    exact ⟨rfl,_,rfl,_,rfl,_,rfl,hspz _ _ _ _ ⟨l,_,_,_,DI ns,DR rs,dno,5,rfl,up Du3,shu,up Dr3,okr,up Dno3,.inr (.inr ⟨rfl,uok,rok,hwno⟩),hE⟩⟩
  · exact ⟨(kjn.trans ko).trans (Kp.trans (show Kp T Ho Hl from hkl) ((frz.back g).kp T)),hCTl.same (frz.back g),_,rfl⟩
end
end G
set_option maxHeartbeats 4000000
namespace G
open PySem PySem.Spec PyProof.Rows L2 Mt
def Has (K:PySem.W.Frag) (x:Str) (st:Stmt):Prop:=∃ (f:Addr) (oc:Value) (od:Option Addr) (kV doc pm:Value) (an:Option Addr) (cdv ct:Value) (sl:Array (Option Value)),
  PySem.W.nsIn K mainGlobals x=some (some (.ref f))/\K.lookup f=some ⟨oc,od,.func (PySem.W.fnOf x x (defArgs st) (defBody st) (defScope st) .none kV doc pm an cdv ct),sl⟩/\PySem.W.codeIn K cdv x=true/\PySem.W.keepIn K (.ref f)=true
theorem has_mk {K:PySem.W.Frag} {x:Str} {st:Stmt} {f:Addr} {oc:Value} {od:Option Addr} {kV doc pm:Value} {an:Option Addr} {cdv ct:Value} {sl:Array (Option Value)}
    (a:PySem.W.nsIn K mainGlobals x=some (some (.ref f))) (l:K.lookup f=some ⟨oc,od,.func (PySem.W.fnOf x x (defArgs st) (defBody st) (defScope st) .none kV doc pm an cdv ct),sl⟩) (c:PySem.W.codeIn K cdv x=true) (k:PySem.W.keepIn K (.ref f)=true):Has K x st :=
  ⟨f,oc,od,kV,doc,pm,an,cdv,ct,sl,a,l,c,k⟩
def HasC (K:PySem.W.Frag) (x:Str) (st:Stmt) (T:Addr):Prop:=∃ (f:Addr) (oc:Value) (od:Option Addr) (kV doc pm:Value) (an:Option Addr) (cc:Addr) (ct:Value) (sl:Array (Option Value)),
  PySem.W.nsIn K mainGlobals x=some (some (.ref f))/\K.lookup f=some ⟨oc,od,.func (PySem.W.fnOf x x (defArgs st) (defBody st) (defScope st) .none kV doc pm an (.ref cc) ct),sl⟩/\PySem.W.codeIn K (.ref cc) x=true/\PySem.W.keepIn K (.ref f)=true/\PySem.W.codeHdIn K cc T=true/\K.lookup T=none
theorem hasC_mk {K:PySem.W.Frag} {x:Str} {st:Stmt} {f T:Addr} {oc:Value} {od:Option Addr} {kV doc pm:Value} {an:Option Addr} {cc:Addr} {ct:Value} {sl:Array (Option Value)}
    (a:PySem.W.nsIn K mainGlobals x=some (some (.ref f))) (l:K.lookup f=some ⟨oc,od,.func (PySem.W.fnOf x x (defArgs st) (defBody st) (defScope st) .none kV doc pm an (.ref cc) ct),sl⟩) (c:PySem.W.codeIn K (.ref cc) x=true) (k:PySem.W.keepIn K (.ref f)=true) (t:PySem.W.codeHdIn K cc T=true) (n:K.lookup T=none):HasC K x st T :=
  ⟨f,oc,od,kV,doc,pm,an,cc,ct,sl,a,l,c,k,t,n⟩
theorem cal_mk {P:Program} {w:World} {K:PySem.W.Frag} {mg:Str->Option Value} {base h:Heap} {x:Str} {st:Stmt} {ps:List Str} {k:Nat} {sp:Sp} (X:K.In h) (G:h.Ns mainGlobals mg) (H:Has K x st)
    (hb:∀ (f:Addr) (fd:FuncData),Fun K x x st f fd->Binds K fd ps []) (ok:∀ (f:Addr) (fd:FuncData),Fun K x x st f fd->FnOk P w K mg base CX0 k f fd ps sp):Cal P w K mg base k x ps sp:=by
  obtain ⟨f,oc,od,kV,doc,pm,an,cdv,ct,sl,a,l,c,kp⟩:=H
  have F:=fun_mk (st:=st) l c kp
  exact ⟨f,_,PySem.W.mg_of X G a,kp,hb _ _ F,ok _ _ F⟩
theorem calx_mk {P:Program} {w:World} {K:PySem.W.Frag} {mg:Str->Option Value} {base h:Heap} {x:Str} {st:Stmt} {ps:List Str} {k:Nat} {sp:Sp} (X:K.In h) (G:h.Ns mainGlobals mg) (H:Has K x st)
    (hb:∀ (f:Addr) (fd:FuncData),Fun K x x st f fd->Binds K fd ps []) (ok:∀ (f:Addr) (fd:FuncData),Fun K x x st f fd->FnOk P w K mg base (CX1 P w) k f fd ps sp):CalX P w K mg base k x ps sp:=by
  obtain ⟨f,oc,od,kV,doc,pm,an,cdv,ct,sl,a,l,c,kp⟩:=H
  have F:=fun_mk (st:=st) l c kp
  exact ⟨f,_,PySem.W.mg_of X G a,kp,hb _ _ F,ok _ _ F⟩
def errA (K:PySem.W.Frag) (B:Addr):List Addr->Bool
  | []=>true
  | C :: cs=>PySem.W.excIn K C vE "ValueError.__new__" && PySem.W.findIn K (.ref C) "__getattribute__" == some (some (.builtin "BaseException.__getattribute__")) && PySem.W.findIn K (.ref C) "__getattr__" == some none && PySem.W.subIn K (.ref C) (.type "BaseException") == some true && (PySem.W.clsIn K C).isSome && PySem.W.findIn K (.ref C) "__class__" == some (some (.builtin "object.__class__")) &&
      PySem.W.mroIn K C (.type "object") == some true && PySem.W.kitCls K (.ref C) (.ref B) == some true && PySem.W.kitOne K (.ref C) (.type "ValueError") == some true && errA K B cs
def errB (K:PySem.W.Frag) (B:Addr):Bool:=PySem.W.specialIn K (.builtin "object.__class__") "__get__" == some (some (.builtin "getset_descriptor.__get__")) && PySem.W.takesIn K (.builtin "object.__class__") == some true && PySem.W.subIn K (.ref B) (.type "BaseException") == some true
def errC (K:PySem.W.Frag) (cs:List Addr):Bool:=(List.range 10).all fun i=>(List.range 10).all fun j=>PySem.W.kitOne K (.ref (cs.getD i 0)) (.ref (cs.getD j 0)) == some (decide (i=j))
theorem errA_get {K:PySem.W.Frag} {B:Addr}:∀ {cs:List Addr} {i:Nat},errA K B cs=true->i < cs.length->errA K B [cs.getD i 0]=true
  | C :: cs,0,h,_=>by
    unfold errA at h
    rw [Bool.and_eq_true] at h
    unfold errA
    rw [Bool.and_eq_true]
    exact ⟨h.1,rfl⟩
  | C :: cs,i + 1,h,hi=>by
    unfold errA at h
    rw [Bool.and_eq_true] at h
    have:=errA_get (cs:=cs) (i:=i) h.2 (by simpa using hi)
    simpa using this
theorem errs_mk {K:PySem.W.Frag} {h:Heap} {mg:Str->Option Value} {a0 a1 a2 a3 a4 a5 a6 a7 a8 a9 B:Addr} (X:K.In h) (G:h.Ns mainGlobals mg)
    (e0:PySem.W.nsIn K mainGlobals "NoUrn"=some (some (.ref a0))) (e1:PySem.W.nsIn K mainGlobals "NoRule"=some (some (.ref a1))) (e2:PySem.W.nsIn K mainGlobals "NoKind"=some (some (.ref a2))) (e3:PySem.W.nsIn K mainGlobals "NoBall"=some (some (.ref a3))) (e4:PySem.W.nsIn K mainGlobals "NoDraws"=some (some (.ref a4)))
    (e5:PySem.W.nsIn K mainGlobals "NoNumber"=some (some (.ref a5))) (e6:PySem.W.nsIn K mainGlobals "NotEven"=some (some (.ref a6))) (e7:PySem.W.nsIn K mainGlobals "NoCounts"=some (some (.ref a7))) (e8:PySem.W.nsIn K mainGlobals "NotAlike"=some (some (.ref a8))) (e9:PySem.W.nsIn K mainGlobals "BadNote"=some (some (.ref a9)))
    (eb:PySem.W.nsIn K mainGlobals "UrnError"=some (some (.ref B))) (hA:errA K B [a0,a1,a2,a3,a4,a5,a6,a7,a8,a9]=true) (hB:errB K B=true) (hC:errC K [a0,a1,a2,a3,a4,a5,a6,a7,a8,a9]=true) :
    Errs K mg (fun i=>[a0,a1,a2,a3,a4,a5,a6,a7,a8,a9].getD i 0) B:=by
  unfold errB at hB
  simp only [Bool.and_eq_true,beq_iff_eq] at hB
  obtain ⟨⟨b1,b2⟩,b3⟩:=hB
  have A:∀ i,i < 10->_:=fun i hi=>errA_get (i:=i) hA hi
  have A':∀ i,i < 10->((((((((PySem.W.excIn K ([a0,a1,a2,a3,a4,a5,a6,a7,a8,a9].getD i 0) vE "ValueError.__new__"=true/\PySem.W.findIn K (.ref ([a0,a1,a2,a3,a4,a5,a6,a7,a8,a9].getD i 0)) "__getattribute__"=some (some (.builtin "BaseException.__getattribute__")))/\PySem.W.findIn K (.ref ([a0,a1,a2,a3,a4,a5,a6,a7,a8,a9].getD i 0)) "__getattr__"=some none)/\PySem.W.subIn K (.ref ([a0,a1,a2,a3,a4,a5,a6,a7,a8,a9].getD i 0)) (.type "BaseException")=some true)/\(PySem.W.clsIn K ([a0,a1,a2,a3,a4,a5,a6,a7,a8,a9].getD i 0)).isSome=true) /\
      PySem.W.findIn K (.ref ([a0,a1,a2,a3,a4,a5,a6,a7,a8,a9].getD i 0)) "__class__"=some (some (.builtin "object.__class__")))/\PySem.W.mroIn K ([a0,a1,a2,a3,a4,a5,a6,a7,a8,a9].getD i 0) (.type "object")=some true)/\PySem.W.kitCls K (.ref ([a0,a1,a2,a3,a4,a5,a6,a7,a8,a9].getD i 0)) (.ref B)=some true) /\
      PySem.W.kitOne K (.ref ([a0,a1,a2,a3,a4,a5,a6,a7,a8,a9].getD i 0)) (.type "ValueError")=some true):=fun i hi=>by
    have z:=A i hi
    unfold errA at z
    rw [Bool.and_eq_true] at z
    have z1:=z.1
    simp only [Bool.and_eq_true,beq_iff_eq] at z1
    exact z1
  exact ⟨PySem.W.mg_of X G e0,PySem.W.mg_of X G e1,PySem.W.mg_of X G e2,PySem.W.mg_of X G e3,PySem.W.mg_of X G e4,PySem.W.mg_of X G e5,PySem.W.mg_of X G e6,PySem.W.mg_of X G e7,PySem.W.mg_of X G e8,PySem.W.mg_of X G e9,PySem.W.mg_of X G eb,
    fun i hi=>(A' i hi).1.1.1.1.1.1.1.1,fun i hi=>⟨(A' i hi).1.1.1.1.1.1.1.2,(A' i hi).1.1.1.1.1.1.2,(A' i hi).1.1.1.1.1.2,(A' i hi).1.1.1.1.2,(A' i hi).1.1.1.2,b1,b2,(A' i hi).1.1.2⟩,fun i hi=>(A' i hi).1.2,b3,
    fun i j hi hj=>by
      have z:=List.all_eq_true.mp (List.all_eq_true.mp hC i (List.mem_range.mpr hi)) j (List.mem_range.mpr hj)
      exact beq_iff_eq.mp z,fun i hi=>(A' i hi).2⟩
theorem all_mk {l:PySem.W.OpenLaw} {w:World} {K:PySem.W.Frag} {h:Heap} {mg:Str->Option Value} {fa T Bs:Addr} {c:Nat->Addr} (X:K.In h) (G:h.Ns mainGlobals mg) (hfa:mg "law"=some (.ref fa)) (R:Errs K mg c Bs)
    (h1:Has K "is_number" s_is_number) (h2:Has K "is_whole" s_is_whole) (h3:Has K "are_wholes" s_are_wholes) (h4:Has K "need_number" s_need_number) (h5:Has K "is_urn_up_to" s_is_urn_up_to) (h6:Has K "is_urn" s_is_urn) (h7:Has K "is_rule" s_is_rule) (h8:Has K "need_urn" s_need_urn) (h9:Has K "need_rule" s_need_rule) (h10:Has K "need_urn_and_rule" s_nur) (h11:Has K "greatest_divisor" s_gd) (h12:Has K "fraction" s_fraction) (h13:Has K "times" s_times) (h14:Has K "need_draws" s_need_draws) (h15:Has K "share" s_share) (h16:Has K "put_in" s_put_in) (h17:Has K "own_urn" s_own_urn) (h18:Has K "follow" s_follow) (h19:Has K "chance_of" s_chance_of) (h20:Has K "all_draws" s_ad) (h21:Has K "first_unlike" s_fu) (h22:Has K "orders_alike" s_oa) (h23:Has K "_law_cell_at" s_cell_at) (h24:Has K "_law_state" s_state) (h25:Has K "_law_take" s_take) (h26:Has K "_law_refused" s_refused) (h27:Has K "_law_urn_of" s_lurn) (h28:Has K "_law_rule" s_lrule) (h29:Has K "_law_whole" s_whole) (h30:Has K "_law_is_urn" s_lis_urn) (h31:Has K "_law_is_rule" s_lis_rule) (h32:Has K "_law_bent_urn" s_bu) (h33:Has K "_law_bent_rule" s_br) (h34:Has K "_law_odd" s_odd) (h35:Has K "_law_number" s_number) (h36:Has K "_law_behind" s_beh) (h37:Has K "_law_fraction" s_cut) (h38:Has K "_law_chance" s_ch) (h39:Has K "_law_due" s_due) (h40:Has K "_law_same" s_same) (h41:Has K "_law_same" s_same) (h42:Has K "_law_same" s_same) (h43:Has K "_law_right" s_right)
    (hlaw:HasC K "law" s_law T)
    (z1:PySem.W.nsIn K mainGlobals "isinstance"=some none) (z2:PySem.W.nsIn K mainGlobals "bool"=some none) (z3:PySem.W.nsIn K mainGlobals "int"=some none) (z4:PySem.W.nsIn K mainGlobals "tuple"=some none) (z5:PySem.W.nsIn K mainGlobals "list"=some none) (z6:PySem.W.nsIn K mainGlobals "all"=some none) (z7:PySem.W.nsIn K mainGlobals "sum"=some none) (z8:PySem.W.nsIn K mainGlobals "len"=some none) (z9:PySem.W.nsIn K mainGlobals "range"=some none) (z10:PySem.W.nsIn K mainGlobals "max"=some none) (z11:PySem.W.nsIn K mainGlobals "min"=some none) (z12:PySem.W.nsIn K mainGlobals "abs"=some none) (z13:PySem.W.nsIn K mainGlobals "zip"=some none) (z14:PySem.W.nsIn K mainGlobals "any"=some none) (z15:PySem.W.nsIn K mainGlobals "enumerate"=some none) (z16:PySem.W.nsIn K mainGlobals "sorted"=some none) (z17:PySem.W.nsIn K mainGlobals "dict"=some none) (zV:PySem.W.nsIn K mainGlobals "ValueError"=some none)
    {t1:Tok} (m1:PySem.W.nsIn K mainGlobals "MOST_KINDS"=some (some (.int 4 t1))) {t2:Tok} (m2:PySem.W.nsIn K mainGlobals "MOST_BALLS"=some (some (.int 20 t2))) {t3:Tok} (m3:PySem.W.nsIn K mainGlobals "MOST_PUT_IN"=some (some (.int 5 t3))) {t4:Tok} (m4:PySem.W.nsIn K mainGlobals "MOST_DRAWS"=some (some (.int 20 t4))) {t5:Tok} (m5:PySem.W.nsIn K mainGlobals "MOST_ORDER_DRAWS"=some (some (.int 4 t5))) :
    ∃ fd:FuncData,(∀ (s:Shared) (v:Value),BindsTo s fd ⟨[v],[]⟩ [("_law_script",v)])/\(K.lookup T=none/\∃ cc,PySem.W.codeHdIn K cc T=true)/\∀ base:Heap,K.In base->base.Ns mainGlobals mg->base.BuiltinsAt mg T->FnOk l.prog w K mg base CX0 13 fa fd ["_law_script"] (spLaw K T):=by
  obtain ⟨f,oc,od,kV,doc,pm,an,cc,ct,sl,a,lk,c',kp,hcd,hTn⟩:=hlaw
  have e:=hfa.symm.trans (PySem.W.mg_of X G a)
  cases e
  have F:=fun_mk (st:=s_law) lk c' kp
  have B:Bt mg:=⟨PySem.W.mg_none_of X G z1,PySem.W.mg_none_of X G z2,PySem.W.mg_none_of X G z3,PySem.W.mg_none_of X G z4,PySem.W.mg_none_of X G z5,PySem.W.mg_none_of X G z6,PySem.W.mg_none_of X G z7,PySem.W.mg_none_of X G z8,PySem.W.mg_none_of X G z9,PySem.W.mg_none_of X G z10,PySem.W.mg_none_of X G z11,PySem.W.mg_none_of X G z12,PySem.W.mg_none_of X G z13⟩
  have B2:Bt2 mg:=⟨PySem.W.mg_none_of X G z14⟩
  have B3:Bt3 mg:=⟨PySem.W.mg_none_of X G z15,PySem.W.mg_none_of X G z16⟩
  have C:Ct mg:=⟨⟨_,PySem.W.mg_of X G m1⟩,⟨_,PySem.W.mg_of X G m2⟩,⟨_,PySem.W.mg_of X G m3⟩⟩
  have CD:CtD mg:=⟨⟨_,PySem.W.mg_of X G m4⟩⟩
  have CO:CtO mg:=⟨⟨_,PySem.W.mg_of X G m5⟩⟩
  have hDc:=PySem.W.mg_none_of X G z17
  have hVE:=PySem.W.mg_none_of X G zV
  refine ⟨PySem.W.fnOf "law" "law" (defArgs s_law) (defBody s_law) (defScope s_law) .none kV doc pm an (.ref cc) ct,fun s v=>.of_eq rfl,⟨hTn,cc,hcd⟩,fun base hKb _ hbm=>?_⟩
  have c_is_number:Cal l.prog w K mg base 0 "is_number" ["thing"] sp_is_number:=cal_mk X G h1 (fun f fd F=>F.binds (ps:=["thing"]) fun _ _ _ _ _ _ us hl=>match us,hl with | [_],_=>rfl) (fun f fd F=>ok_is_number F B)
  have c_is_whole:Cal l.prog w K mg base 1 "is_whole" ["thing","low","high"] sp_is_whole:=cal_mk X G h2 (fun f fd F=>F.binds (ps:=["thing","low","high"]) fun _ _ _ _ _ _ us hl=>match us,hl with | [_,_,_],_=>rfl) (fun f fd F=>ok_is_whole F c_is_number)
  have c_are_wholes:Cal l.prog w K mg base 2 "are_wholes" ["thing","low","high"] sp_are_wholes:=cal_mk X G h3 (fun f fd F=>F.binds (ps:=["thing","low","high"]) fun _ _ _ _ _ _ us hl=>match us,hl with | [_,_,_],_=>rfl) (fun f fd F=>ok_are_wholes F B c_is_whole)
  have c_need_number:CalX l.prog w K mg base 2 "need_number" ["thing","low","high"] (sp_need_number c):=calx_mk X G h4 (fun f fd F=>F.binds (ps:=["thing","low","high"]) fun _ _ _ _ _ _ us hl=>match us,hl with | [_,_,_],_=>rfl) (fun f fd F=>ok_need_number F R c_is_whole)
  have c_is_urn_up_to:Cal l.prog w K mg base 3 "is_urn_up_to" ["thing","most"] sp_is_urn_up_to:=cal_mk X G h5 (fun f fd F=>F.binds (ps:=["thing","most"]) fun _ _ _ _ _ _ us hl=>match us,hl with | [_,_],_=>rfl) (fun f fd F=>ok_is_urn_up_to F B C c_are_wholes)
  have c_is_urn:Cal l.prog w K mg base 4 "is_urn" ["thing"] sp_is_urn:=cal_mk X G h6 (fun f fd F=>F.binds (ps:=["thing"]) fun _ _ _ _ _ _ us hl=>match us,hl with | [_],_=>rfl) (fun f fd F=>ok_is_urn F C c_is_urn_up_to)
  have c_is_rule:CalX l.prog w K mg base 3 "is_rule" ["kinds","thing"] (sp_is_rule c):=calx_mk X G h7 (fun f fd F=>F.binds (ps:=["kinds","thing"]) fun _ _ _ _ _ _ us hl=>match us,hl with | [_,_],_=>rfl) (fun f fd F=>ok_is_rule F B C c_are_wholes c_need_number)
  have c_need_urn:CalX l.prog w K mg base 5 "need_urn" ["thing"] (sp_need_urn c):=calx_mk X G h8 (fun f fd F=>F.binds (ps:=["thing"]) fun _ _ _ _ _ _ us hl=>match us,hl with | [_],_=>rfl) (fun f fd F=>ok_need_urn F R c_is_urn)
  have c_need_rule:CalX l.prog w K mg base 4 "need_rule" ["kinds","thing"] (sp_need_rule c):=calx_mk X G h9 (fun f fd F=>F.binds (ps:=["kinds","thing"]) fun _ _ _ _ _ _ us hl=>match us,hl with | [_,_],_=>rfl) (fun f fd F=>ok_need_rule F R c_is_rule)
  have c_need_urn_and_rule:CalX l.prog w K mg base 6 "need_urn_and_rule" ["urn","rule"] (sp_nur c):=calx_mk X G h10 (fun f fd F=>F.binds (ps:=["urn","rule"]) fun _ _ _ _ _ _ us hl=>match us,hl with | [_,_],_=>rfl) (fun f fd F=>ok_nur F B c_need_urn c_need_rule)
  have c_greatest_divisor:Cal l.prog w K mg base 1 "greatest_divisor" ["one","other"] sp_gd:=cal_mk X G h11 (fun f fd F=>F.binds (ps:=["one","other"]) fun _ _ _ _ _ _ us hl=>match us,hl with | [_,_],_=>rfl) (fun f fd F=>ok_gd F B)
  have c_fraction:Cal l.prog w K mg base 2 "fraction" ["top","bottom"] sp_fraction:=cal_mk X G h12 (fun f fd F=>F.binds (ps:=["top","bottom"]) fun _ _ _ _ _ _ us hl=>match us,hl with | [_,_],_=>rfl) (fun f fd F=>ok_fraction F c_greatest_divisor)
  have c_times:Cal l.prog w K mg base 3 "times" ["one","other"] sp_times:=cal_mk X G h13 (fun f fd F=>F.binds (ps:=["one","other"]) fun _ _ _ _ _ _ us hl=>match us,hl with | [_,_],_=>rfl) (fun f fd F=>ok_times F c_fraction)
  have c_need_draws:CalX l.prog w K mg base 3 "need_draws" ["urn","thing"] (sp_need_draws c):=calx_mk X G h14 (fun f fd F=>F.binds (ps:=["urn","thing"]) fun _ _ _ _ _ _ us hl=>match us,hl with | [_,_],_=>rfl) (fun f fd F=>ok_need_draws F B CD R c_are_wholes)
  have c_share:Cal l.prog w K mg base 3 "share" ["urn","kind"] sp_share:=cal_mk X G h15 (fun f fd F=>F.binds (ps:=["urn","kind"]) fun _ _ _ _ _ _ us hl=>match us,hl with | [_,_],_=>rfl) (fun f fd F=>ok_share F B c_fraction)
  have c_put_in:Cal l.prog w K mg base 1 "put_in" ["urn","rule","kind"] sp_put_in:=cal_mk X G h16 (fun f fd F=>F.binds (ps:=["urn","rule","kind"]) fun _ _ _ _ _ _ us hl=>match us,hl with | [_,_,_],_=>rfl) (fun f fd F=>ok_put_in F B)
  have c_own_urn:Cal l.prog w K mg base 1 "own_urn" ["urn"] sp_own_urn:=cal_mk X G h17 (fun f fd F=>F.binds (ps:=["urn"]) fun _ _ _ _ _ _ us hl=>match us,hl with | [_],_=>rfl) (fun f fd F=>ok_own_urn F B)
  have c_follow:CalX l.prog w K mg base 7 "follow" ["urn","rule","draws"] (sp_follow c):=calx_mk X G h18 (fun f fd F=>F.binds (ps:=["urn","rule","draws"]) fun _ _ _ _ _ _ us hl=>match us,hl with | [_,_,_],_=>rfl) (fun f fd F=>ok_follow F B c_need_urn_and_rule c_need_draws c_own_urn c_times c_share c_put_in)
  have c_chance_of:CalX l.prog w K mg base 8 "chance_of" ["urn","rule","draws"] (sp_chance_of c):=calx_mk X G h19 (fun f fd F=>F.binds (ps:=["urn","rule","draws"]) fun _ _ _ _ _ _ us hl=>match us,hl with | [_,_,_],_=>rfl) (fun f fd F=>ok_chance_of F c_follow)
  have c_all_draws:Cal l.prog w K mg base 1 "all_draws" ["kinds","many"] sp_ad:=cal_mk X G h20 (fun f fd F=>F.binds (ps:=["kinds","many"]) fun _ _ _ _ _ _ us hl=>match us,hl with | [_,_],_=>rfl) (fun f fd F=>ok_ad F B)
  have c_first_unlike:CalX l.prog w K mg base 9 "first_unlike" ["urn","rule","draws"] (sp_fu c):=calx_mk X G h21 (fun f fd F=>F.binds (ps:=["urn","rule","draws"]) fun _ _ _ _ _ _ us hl=>match us,hl with | [_,_,_],_=>rfl) (fun f fd F=>ok_fu F B B3 CO c_need_urn_and_rule c_need_number c_all_draws c_chance_of)
  have c_orders_alike:CalX l.prog w K mg base 10 "orders_alike" ["urn","rule","draws"] (sp_oa c):=calx_mk X G h22 (fun f fd F=>F.binds (ps:=["urn","rule","draws"]) fun _ _ _ _ _ _ us hl=>match us,hl with | [_,_,_],_=>rfl) (fun f fd F=>ok_oa F c_first_unlike)
  have c__law_cell_at:Cal l.prog w K mg base 1 "_law_cell_at" ["_law_script","_law_k"] (sp_cell_at K):=cal_mk X G h23 (fun f fd F=>F.binds (ps:=["_law_script","_law_k"]) fun _ _ _ _ _ _ us hl=>match us,hl with | [_,_],_=>rfl) (fun f fd F=>ok_cell_at F B)
  have c__law_state:Cal l.prog w K mg base 2 "_law_state" ["_law_script","_law_k"] (sp_state K):=cal_mk X G h24 (fun f fd F=>F.binds (ps:=["_law_script","_law_k"]) fun _ _ _ _ _ _ us hl=>match us,hl with | [_,_],_=>rfl) (fun f fd F=>ok_state F c__law_cell_at)
  have c__law_take:Cal l.prog w K mg base 1 "_law_take" ["_law_state_here","_law_many"] sp_take:=cal_mk X G h25 (fun f fd F=>F.binds (ps:=["_law_state_here","_law_many"]) fun _ _ _ _ _ _ us hl=>match us,hl with | [_,_],_=>rfl) (fun f fd F=>ok_take F )
  have c__law_refused:Cal l.prog w K mg base 12 "_law_refused" ["_law_call"] (sp_refused l.prog w K mg base 11 c):=cal_mk X G h26 (fun f fd F=>F.binds (ps:=["_law_call"]) fun _ _ _ _ _ _ us hl=>match us,hl with | [_],_=>rfl) (fun f fd F=>ok_refused F B R hVE)
  have c__law_urn_of:Cal l.prog w K mg base 2 "_law_urn_of" ["_law_state_here","_law_kinds"] sp_lurn:=cal_mk X G h27 (fun f fd F=>F.binds (ps:=["_law_state_here","_law_kinds"]) fun _ _ _ _ _ _ us hl=>match us,hl with | [_,_],_=>rfl) (fun f fd F=>ok_lurn F B B2 c__law_take)
  have c__law_rule:Cal l.prog w K mg base 2 "_law_rule" ["_law_state_here","_law_kinds"] sp_lrule:=cal_mk X G h28 (fun f fd F=>F.binds (ps:=["_law_state_here","_law_kinds"]) fun _ _ _ _ _ _ us hl=>match us,hl with | [_,_],_=>rfl) (fun f fd F=>ok_lrule F B c__law_take)
  have c__law_whole:Cal l.prog w K mg base 1 "_law_whole" ["_law_thing"] sp_lwhole:=cal_mk X G h29 (fun f fd F=>F.binds (ps:=["_law_thing"]) fun _ _ _ _ _ _ us hl=>match us,hl with | [_],_=>rfl) (fun f fd F=>ok_whole F B)
  have c__law_is_urn:Cal l.prog w K mg base 2 "_law_is_urn" ["_law_thing"] sp_is_urn:=cal_mk X G h30 (fun f fd F=>F.binds (ps:=["_law_thing"]) fun _ _ _ _ _ _ us hl=>match us,hl with | [_],_=>rfl) (fun f fd F=>ok_lis_urn F B B2 c__law_whole)
  have c__law_is_rule:Cal l.prog w K mg base 2 "_law_is_rule" ["_law_kinds","_law_thing"] sp_lis_rule:=cal_mk X G h31 (fun f fd F=>F.binds (ps:=["_law_kinds","_law_thing"]) fun _ _ _ _ _ _ us hl=>match us,hl with | [_,_],_=>rfl) (fun f fd F=>ok_lis_rule F B c__law_whole)
  have c__law_bent_urn:Cal l.prog w K mg base 2 "_law_bent_urn" ["_law_state_here","_law_urn"] sp_bu:=cal_mk X G h32 (fun f fd F=>F.binds (ps:=["_law_state_here","_law_urn"]) fun _ _ _ _ _ _ us hl=>match us,hl with | [_,_],_=>rfl) (fun f fd F=>ok_bu F B c__law_take)
  have c__law_bent_rule:Cal l.prog w K mg base 2 "_law_bent_rule" ["_law_state_here","_law_rule_here"] sp_br:=cal_mk X G h33 (fun f fd F=>F.binds (ps:=["_law_state_here","_law_rule_here"]) fun _ _ _ _ _ _ us hl=>match us,hl with | [_,_],_=>rfl) (fun f fd F=>ok_br F B c__law_take)
  have c__law_odd:Cal l.prog w K mg base 2 "_law_odd" ["_law_state_here"] sp_odd:=cal_mk X G h34 (fun f fd F=>F.binds (ps:=["_law_state_here"]) fun _ _ _ _ _ _ us hl=>match us,hl with | [_],_=>rfl) (fun f fd F=>ok_odd F c__law_take)
  have c__law_number:Cal l.prog w K mg base 2 "_law_number" ["_law_state_here","_law_most"] sp_number:=cal_mk X G h35 (fun f fd F=>F.binds (ps:=["_law_state_here","_law_most"]) fun _ _ _ _ _ _ us hl=>match us,hl with | [_,_],_=>rfl) (fun f fd F=>ok_number F c__law_take)
  have c__law_behind:Cal l.prog w K mg base 1 "_law_behind" ["_law_urn","_law_rule_here","_law_counts"] sp_beh:=cal_mk X G h36 (fun f fd F=>F.binds (ps:=["_law_urn","_law_rule_here","_law_counts"]) fun _ _ _ _ _ _ us hl=>match us,hl with | [_,_,_],_=>rfl) (fun f fd F=>ok_beh F B)
  have c__law_fraction:Cal l.prog w K mg base 1 "_law_fraction" ["_law_top","_law_bottom"] sp_cut:=cal_mk X G h37 (fun f fd F=>F.binds (ps:=["_law_top","_law_bottom"]) fun _ _ _ _ _ _ us hl=>match us,hl with | [_,_],_=>rfl) (fun f fd F=>ok_cut F B)
  have c__law_chance:Cal l.prog w K mg base 2 "_law_chance" ["_law_urn","_law_rule_here","_law_draws"] sp_ch:=cal_mk X G h38 (fun f fd F=>F.binds (ps:=["_law_urn","_law_rule_here","_law_draws"]) fun _ _ _ _ _ _ us hl=>match us,hl with | [_,_,_],_=>rfl) (fun f fd F=>ok_ch F B c__law_behind c__law_fraction)
  have c__law_due:Cal l.prog w K mg base 3 "_law_due" ["_law_urn","_law_rule_here","_law_draws"] sp_fuV:=cal_mk X G h39 (fun f fd F=>F.binds (ps:=["_law_urn","_law_rule_here","_law_draws"]) fun _ _ _ _ _ _ us hl=>match us,hl with | [_,_,_],_=>rfl) (fun f fd F=>ok_due F B B3 hDc c__law_chance)
  have c__law_same:Cal l.prog w K mg base 1 "_law_same" ["_law_found","_law_due_here"] sp_same0:=cal_mk X G h40 (fun f fd F=>F.binds (ps:=["_law_found","_law_due_here"]) fun _ _ _ _ _ _ us hl=>match us,hl with | [_,_],_=>rfl) (fun f fd F=>ok_same0 F B)
  have c__law_same_0:=c__law_same
  have c__law_same:Cal l.prog w K mg base 2 "_law_same" ["_law_found","_law_due_here"] (sp_sameT A0):=cal_mk X G h41 (fun f fd F=>F.binds (ps:=["_law_found","_law_due_here"]) fun _ _ _ _ _ _ us hl=>match us,hl with | [_,_],_=>rfl) (fun f fd F=>ok_sameT F B c__law_same (fun _ _ _ _ _ h q=>A0_sp h q))
  have c__law_same_1:=c__law_same
  have c__law_same:Cal l.prog w K mg base 3 "_law_same" ["_law_found","_law_due_here"] sp_sameO:=cal_mk X G h42 (fun f fd F=>F.binds (ps:=["_law_found","_law_due_here"]) fun _ _ _ _ _ _ us hl=>match us,hl with | [_,_],_=>rfl) (fun f fd F=>ok_sameO F B c__law_same)
  have c__law_right:Cal l.prog w K mg base 11 "_law_right" ["_law_urn","_law_rule_here","_law_draws"] sp_right:=cal_mk X G h43 (fun f fd F=>F.binds (ps:=["_law_urn","_law_rule_here","_law_draws"]) fun _ _ _ _ _ _ us hl=>match us,hl with | [_,_,_],_=>rfl) (fun f fd F=>ok_right F B c_first_unlike c_orders_alike c__law_due c__law_same)
  exact ok_law F B ⟨(c__law_state.up (by decide)),(c__law_take.up (by decide)),(c__law_urn_of.up (by decide)),(c__law_rule.up (by decide)),(c__law_right.up (by decide)),(c__law_bent_urn.up (by decide)),(c__law_bent_rule.up (by decide)),(c__law_odd.up (by decide)),(c__law_number.up (by decide)),(c__law_is_urn.up (by decide)),(c__law_is_rule.up (by decide)),c_orders_alike,(c_first_unlike.up (by decide)),c__law_refused⟩ ⟨cc,rfl,hcd⟩ hKb hbm
theorem walk {l:PySem.W.OpenLaw} {q:Program} {loose:List Str} {XP:(Str->Option Value)->Heap->Prop} {YP:World->Heap->Prop} {d:DefRec} {K:Params->PySem.W.Frag} {T:Addr} (hn:l.most=some 63) (hdf:d.params.defaults=[])
    (hY:∀ (w:World) (h:Heap),YP w h->(K w.params).In h) (hT:∀ (w:World) (h:Heap),YP w h->∀ t ∈ [T],h.get? t=some (PySem.W.tabObj #[]))
    (F:∀ (w:World) (mg:Str->Option Value) (fa:Addr) (h:Heap),(K w.params).In h->h.Ns mainGlobals mg->mg d.name=some (.ref fa) ->
      ∃ fd:FuncData,(∀ (s:Shared) (u:Value),BindsTo s fd ⟨[u],[]⟩ [("_law_script",u)])/\((K w.params).lookup T=none/\∃ c,PySem.W.codeHdIn (K w.params) c T=true)/\∀ base:Heap,(K w.params).In base->base.Ns mainGlobals mg->base.BuiltinsAt mg T->FnOk l.prog w (K w.params) mg base CX0 13 fa fd ["_law_script"] (spLaw (K w.params) T)) :
    PySem.W.WalkO q loose XP YP l.row.toRowW d [] (fun f vs=>PySem.call f vs) :=
  L2.walk_ofT (n:=63) (k:=13) (x:="_law_script") (ts:=[T]) (sp:=fun w=>spLaw (K w.params) T) hn (by decide) hdf ⟨rfl,by decide,by decide⟩ hY hT
    (fun w mg fa h kx ns hm=>by
      obtain ⟨fd,b1,b2,b3⟩:=F w mg fa h kx ns hm
      exact ⟨fd,b1,fun t ht=>by rw [List.mem_singleton.mp ht];exact b2,fun base k1 k2 k3=>b3 base k1 k2 (k3 T (List.mem_singleton.mpr rfl))⟩)
    (fun _ _ a ns hl hO hS=>⟨a,ns,rfl,hS,hl,⟨#[],hO.2 T (List.mem_singleton.mpr rfl),trivial,fun pos v e=>by cases e⟩,fun _=>rfl⟩)
end G
def PySem.Challenge.cw_growurns_k41_orders_that_matter_holds.tw4858017354146939660 : Unit := ()
def PySem.Challenge.cw_growurns_k41_orders_that_matter_holds.tw7759801480711120907 : Unit := ()
def PySem.Challenge.cw_growurns_k41_orders_that_matter_holds.tw2555858834471279183 : Unit := ()
def PySem.Challenge.cw_growurns_k41_orders_that_matter_holds.tw9468352453155366347 : Unit := ()
def PySem.Challenge.cw_growurns_k41_orders_that_matter_holds.tw993426243254080746 : Unit := ()
def PySem.Challenge.cw_growurns_k41_orders_that_matter_holds.tw7412197596269840405 : Unit := ()
def PySem.Challenge.cw_growurns_k41_orders_that_matter_holds.tw1922647361565553723 : Unit := ()
def PySem.Challenge.cw_growurns_k41_orders_that_matter_holds.tw8957750278180058229 : Unit := ()
def PySem.Challenge.cw_growurns_k41_orders_that_matter_holds.tw928915418864855556 : Unit := ()
def PySem.Challenge.cw_growurns_k41_orders_that_matter_holds.tw1664932508344354102 : Unit := ()
def PySem.Challenge.cw_growurns_k41_orders_that_matter_holds.tw16119973618046522949 : Unit := ()
def PySem.Challenge.cw_growurns_k41_orders_that_matter_holds.tw12105789043693086019 : Unit := ()
def PySem.Challenge.cw_growurns_k41_orders_that_matter_holds.tw11871388782040270747 : Unit := ()
def PySem.Challenge.cw_growurns_k41_orders_that_matter_holds.tw3058509855961311192 : Unit := ()
def PySem.Challenge.cw_growurns_k41_orders_that_matter_holds.tw9684422724021903096 : Unit := ()
def PySem.Challenge.cw_growurns_k41_orders_that_matter_holds.tw3342263294425424146 : Unit := ()
def PySem.Challenge.cw_growurns_k41_orders_that_matter_holds.tw5589980944125911457 : Unit := ()
def PySem.Challenge.cw_growurns_k41_orders_that_matter_holds.tw7578583691110099343 : Unit := ()
def PySem.Challenge.cw_growurns_k41_orders_that_matter_holds.tw2922767613715216277 : Unit := ()
def PySem.Challenge.cw_growurns_k41_orders_that_matter_holds.tw12362739933674217122 : Unit := ()
def PySem.Challenge.cw_growurns_k41_orders_that_matter_holds.tw7100015693695391629 : Unit := ()
def PySem.Challenge.cw_growurns_k41_orders_that_matter_holds.tw6710603101049825947 : Unit := ()
def PySem.Challenge.cw_growurns_k41_orders_that_matter_holds.tw16927098334811618198 : Unit := ()
def PySem.Challenge.cw_growurns_k41_orders_that_matter_holds.tw16777810160528441757 : Unit := ()
def PySem.Challenge.cw_growurns_k41_orders_that_matter_holds.tw12752198741473625657 : Unit := ()
def PySem.Challenge.cw_growurns_k41_orders_that_matter_holds.tw13355592809238779820 : Unit := ()
def PySem.Challenge.cw_growurns_k41_orders_that_matter_holds.tw12992942844428617220 : Unit := ()
def PySem.Challenge.cw_growurns_k41_orders_that_matter_holds.tw17197736990433178351 : Unit := ()
def PySem.Challenge.cw_growurns_k41_orders_that_matter_holds.tw9113996384730595998 : Unit := ()
def PySem.Challenge.cw_growurns_k41_orders_that_matter_holds.tw2810623957949619609 : Unit := ()
def PySem.Challenge.cw_growurns_k41_orders_that_matter_holds.tw4961164115694068264 : Unit := ()
def PySem.Challenge.cw_growurns_k41_orders_that_matter_holds.tw15198310284600409800 : Unit := ()
def PySem.Challenge.cw_growurns_k41_orders_that_matter_holds.tw1816887004298285010 : Unit := ()
def PySem.Challenge.cw_growurns_k41_orders_that_matter_holds.tw2943706262831488917 : Unit := ()
def PySem.Challenge.cw_growurns_k41_orders_that_matter_holds.tw4955728855015158111 : Unit := ()
def PySem.Challenge.cw_growurns_k41_orders_that_matter_holds.tw15327870652551992216 : Unit := ()
def PySem.Challenge.cw_growurns_k41_orders_that_matter_holds.tw15771894607926189763 : Unit := ()
def PySem.Challenge.cw_growurns_k41_orders_that_matter_holds.tw1821219258767366338 : Unit := ()
def PySem.Challenge.cw_growurns_k41_orders_that_matter_holds.tw11423156672589038745 : Unit := ()
def PySem.Challenge.cw_growurns_k41_orders_that_matter_holds.tw8580330915998361186 : Unit := ()
def PySem.Challenge.cw_growurns_k41_orders_that_matter_holds.tw54627497701747735 : Unit := ()
def PySem.Challenge.cw_growurns_k41_orders_that_matter_holds.tw9323146889322408243 : Unit := ()
def PySem.Challenge.cw_growurns_k41_orders_that_matter_holds.tw15743524960161234428 : Unit := ()
def PySem.Challenge.cw_growurns_k41_orders_that_matter_holds.tw15918558396074525057 : Unit := ()
def PySem.Challenge.cw_growurns_k41_orders_that_matter_holds.tw13387808477798922429 : Unit := ()
def PySem.Challenge.cw_growurns_k41_orders_that_matter_holds.tw1075653686034700717 : Unit := ()
def PySem.Challenge.cw_growurns_k41_orders_that_matter_holds.tw6940086843427200062 : Unit := ()
def PySem.Challenge.cw_growurns_k41_orders_that_matter_holds.tw685528544078863788 : Unit := ()
def PySem.Challenge.cw_growurns_k41_orders_that_matter_holds.tw16722127386305739197 : Unit := ()
set_option Elab.async true
open PySem PySem.W PyProof.Rows
set_option maxRecDepth 100000 in
set_option maxHeartbeats 0 in
theorem PySem.Challenge.cw_growurns_k41_orders_that_matter_holds : PySem.Challenge.rw_growurns_k41_orders_that_matter.Holds := by
  w_on; o_law; k_head; (case hw => w_witness2)
  k_fill
  refine G.walk (l := PySem.Challenge.rw_growurns_k41_orders_that_matter) rfl rfl (fun w h Y => PySem.W.km_in_of Y) (fun w h Y => PySem.W.km_tabs_of Y) ?F
  case F =>
    intro w mg fa h KX NS hmg
    refine' G.all_mk KX NS hmg (G.errs_mk KX NS ?e0 ?e1 ?e2 ?e3 ?e4 ?e5 ?e6 ?e7 ?e8 ?e9 ?eb ?eA ?eB ?eC) (G.has_mk ?a1 ?l1 ?c1 ?k1) (G.has_mk ?a2 ?l2 ?c2 ?k2) (G.has_mk ?a3 ?l3 ?c3 ?k3) (G.has_mk ?a4 ?l4 ?c4 ?k4) (G.has_mk ?a5 ?l5 ?c5 ?k5) (G.has_mk ?a6 ?l6 ?c6 ?k6) (G.has_mk ?a7 ?l7 ?c7 ?k7) (G.has_mk ?a8 ?l8 ?c8 ?k8) (G.has_mk ?a9 ?l9 ?c9 ?k9) (G.has_mk ?a10 ?l10 ?c10 ?k10) (G.has_mk ?a11 ?l11 ?c11 ?k11) (G.has_mk ?a12 ?l12 ?c12 ?k12) (G.has_mk ?a13 ?l13 ?c13 ?k13) (G.has_mk ?a14 ?l14 ?c14 ?k14) (G.has_mk ?a15 ?l15 ?c15 ?k15) (G.has_mk ?a16 ?l16 ?c16 ?k16) (G.has_mk ?a17 ?l17 ?c17 ?k17) (G.has_mk ?a18 ?l18 ?c18 ?k18) (G.has_mk ?a19 ?l19 ?c19 ?k19) (G.has_mk ?a20 ?l20 ?c20 ?k20) (G.has_mk ?a21 ?l21 ?c21 ?k21) (G.has_mk ?a22 ?l22 ?c22 ?k22) (G.has_mk ?a23 ?l23 ?c23 ?k23) (G.has_mk ?a24 ?l24 ?c24 ?k24) (G.has_mk ?a25 ?l25 ?c25 ?k25) (G.has_mk ?a26 ?l26 ?c26 ?k26) (G.has_mk ?a27 ?l27 ?c27 ?k27) (G.has_mk ?a28 ?l28 ?c28 ?k28) (G.has_mk ?a29 ?l29 ?c29 ?k29) (G.has_mk ?a30 ?l30 ?c30 ?k30) (G.has_mk ?a31 ?l31 ?c31 ?k31) (G.has_mk ?a32 ?l32 ?c32 ?k32) (G.has_mk ?a33 ?l33 ?c33 ?k33) (G.has_mk ?a34 ?l34 ?c34 ?k34) (G.has_mk ?a35 ?l35 ?c35 ?k35) (G.has_mk ?a36 ?l36 ?c36 ?k36) (G.has_mk ?a37 ?l37 ?c37 ?k37) (G.has_mk ?a38 ?l38 ?c38 ?k38) (G.has_mk ?a39 ?l39 ?c39 ?k39) (G.has_mk ?a40 ?l40 ?c40 ?k40) (G.has_mk ?a41 ?l41 ?c41 ?k41) (G.has_mk ?a42 ?l42 ?c42 ?k42) (G.has_mk ?a43 ?l43 ?c43 ?k43) (G.hasC_mk ?la ?ll ?lc ?lk ?lt ?ln) ?z1 ?z2 ?z3 ?z4 ?z5 ?z6 ?z7 ?z8 ?z9 ?z10 ?z11 ?z12 ?z13 ?z14 ?z15 ?z16 ?z17 ?zV ?m1 ?m2 ?m3 ?m4 ?m5
    (case e0 => k_is); (case e1 => k_is); (case e2 => k_is); (case e3 => k_is); (case e4 => k_is); (case e5 => k_is); (case e6 => k_is); (case e7 => k_is); (case e8 => k_is); (case e9 => k_is); (case eb => k_is)
    (case eA => kernel_rfl)
    (case eB => kernel_rfl)
    (case eC => kernel_rfl)
    (case a1 => k_is); (case l1 => k_is); (case c1 => k_is); (case k1 => k_is)
    (case a2 => k_is); (case l2 => k_is); (case c2 => k_is); (case k2 => k_is)
    (case a3 => k_is); (case l3 => k_is); (case c3 => k_is); (case k3 => k_is)
    (case a4 => k_is); (case l4 => k_is); (case c4 => k_is); (case k4 => k_is)
    (case a5 => k_is); (case l5 => k_is); (case c5 => k_is); (case k5 => k_is)
    (case a6 => k_is); (case l6 => k_is); (case c6 => k_is); (case k6 => k_is)
    (case a7 => k_is); (case l7 => k_is); (case c7 => k_is); (case k7 => k_is)
    (case a8 => k_is); (case l8 => k_is); (case c8 => k_is); (case k8 => k_is)
    (case a9 => k_is); (case l9 => k_is); (case c9 => k_is); (case k9 => k_is)
    (case a10 => k_is); (case l10 => k_is); (case c10 => k_is); (case k10 => k_is)
    (case a11 => k_is); (case l11 => k_is); (case c11 => k_is); (case k11 => k_is)
    (case a12 => k_is); (case l12 => k_is); (case c12 => k_is); (case k12 => k_is)
    (case a13 => k_is); (case l13 => k_is); (case c13 => k_is); (case k13 => k_is)
    (case a14 => k_is); (case l14 => k_is); (case c14 => k_is); (case k14 => k_is)
    (case a15 => k_is); (case l15 => k_is); (case c15 => k_is); (case k15 => k_is)
    (case a16 => k_is); (case l16 => k_is); (case c16 => k_is); (case k16 => k_is)
    (case a17 => k_is); (case l17 => k_is); (case c17 => k_is); (case k17 => k_is)
    (case a18 => k_is); (case l18 => k_is); (case c18 => k_is); (case k18 => k_is)
    (case a19 => k_is); (case l19 => k_is); (case c19 => k_is); (case k19 => k_is)
    (case a20 => k_is); (case l20 => k_is); (case c20 => k_is); (case k20 => k_is)
    (case a21 => k_is); (case l21 => k_is); (case c21 => k_is); (case k21 => k_is)
    (case a22 => k_is); (case l22 => k_is); (case c22 => k_is); (case k22 => k_is)
    (case a23 => k_is); (case l23 => k_is); (case c23 => k_is); (case k23 => k_is)
    (case a24 => k_is); (case l24 => k_is); (case c24 => k_is); (case k24 => k_is)
    (case a25 => k_is); (case l25 => k_is); (case c25 => k_is); (case k25 => k_is)
    (case a26 => k_is); (case l26 => k_is); (case c26 => k_is); (case k26 => k_is)
    (case a27 => k_is); (case l27 => k_is); (case c27 => k_is); (case k27 => k_is)
    (case a28 => k_is); (case l28 => k_is); (case c28 => k_is); (case k28 => k_is)
    (case a29 => k_is); (case l29 => k_is); (case c29 => k_is); (case k29 => k_is)
    (case a30 => k_is); (case l30 => k_is); (case c30 => k_is); (case k30 => k_is)
    (case a31 => k_is); (case l31 => k_is); (case c31 => k_is); (case k31 => k_is)
    (case a32 => k_is); (case l32 => k_is); (case c32 => k_is); (case k32 => k_is)
    (case a33 => k_is); (case l33 => k_is); (case c33 => k_is); (case k33 => k_is)
    (case a34 => k_is); (case l34 => k_is); (case c34 => k_is); (case k34 => k_is)
    (case a35 => k_is); (case l35 => k_is); (case c35 => k_is); (case k35 => k_is)
    (case a36 => k_is); (case l36 => k_is); (case c36 => k_is); (case k36 => k_is)
    (case a37 => k_is); (case l37 => k_is); (case c37 => k_is); (case k37 => k_is)
    (case a38 => k_is); (case l38 => k_is); (case c38 => k_is); (case k38 => k_is)
    (case a39 => k_is); (case l39 => k_is); (case c39 => k_is); (case k39 => k_is)
    (case a40 => k_is); (case l40 => k_is); (case c40 => k_is); (case k40 => k_is)
    (case a41 => k_is); (case l41 => k_is); (case c41 => k_is); (case k41 => k_is)
    (case a42 => k_is); (case l42 => k_is); (case c42 => k_is); (case k42 => k_is)
    (case a43 => k_is); (case l43 => k_is); (case c43 => k_is); (case k43 => k_is)
    (case la => k_is); (case ll => k_is); (case lc => k_is); (case lk => k_is); (case lt => kernel_rfl); (case ln => kernel_rfl)
    (case z1 => k_is); (case z2 => k_is); (case z3 => k_is); (case z4 => k_is); (case z5 => k_is); (case z6 => k_is); (case z7 => k_is); (case z8 => k_is); (case z9 => k_is); (case z10 => k_is); (case z11 => k_is); (case z12 => k_is); (case z13 => k_is); (case z14 => k_is); (case z15 => k_is); (case z16 => k_is); (case z17 => k_is); (case zV => k_is)
    (case m1 => k_is); (case m2 => k_is); (case m3 => k_is); (case m4 => k_is); (case m5 => k_is)
#print axioms PySem.Challenge.cw_growurns_k41_orders_that_matter_holds
