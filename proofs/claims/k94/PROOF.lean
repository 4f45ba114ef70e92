import PyProof.Rows.All
import Wide.All
import OpenK.AllK
import Wide.FinOn
import Lean
import PyProof.EqAt
import PyProof.EqKinds
import PyProof.TupleCall
import KE.KIsAll
import KE.KLam
import KE.KTryDeep
import PyProof.ExcAttrAll.ValueError
import KE.KSortTup
import KE.KItemsList
import PyProof.Rows.SortRuns
import KE.KDictList
import PyProof.StrWalks
import PyProof.FString5
import PyProof.PureStr
import PyProof.CollectIter
import PyProof.StrOps2
import PyProof.FitsReplace
import PyProof.Rows.SortStr
import PySem.Challenge.RW_growurns_k94_desk_refuses
set_option Elab.async false
set_option linter.all false
set_option maxRecDepth 100000
namespace L2
open PySem PySem.Spec PyProof.Rows
noncomputable abbrev Key:=Sum Int Str
noncomputable def keyIs:Key->Value->Bool
  | .inl k,v=>Value.isInt k v
  | .inr x,v=>Value.isStrOf x v
noncomputable def keyH (w:World):Key->Int
  | .inl k=>hashInt k
  | .inr x=>hashStr w x
theorem keyIs_shape:∀ {k:Key} {v:Value},keyIs k v=true->(∃ i t,k=Sum.inl i/\v=Value.int i t) ∨ (∃ x t,k=Sum.inr x/\v=Value.str x t)
  | .inl i,v,h=>by
    obtain ⟨t,e⟩:=Value.isInt_shape (k:=i) (v:=v) h
    exact .inl ⟨i,t,rfl,e⟩
  | .inr x,v,h=>by
    obtain ⟨t,e⟩:=Value.isStrOf_shape (x:=x) (v:=v) h
    exact .inr ⟨x,t,rfl,e⟩
theorem keyIs_int (i:Int) (t:Tok):keyIs (.inl i) (.int i t)=true:=by simp [keyIs,Value.isInt]
theorem keyIs_str (x:Str) (t:Tok):keyIs (.inr x) (.str x t)=true:=by simp [keyIs,Value.isStrOf]
theorem key_ll (a b:Int):decide ((Sum.inl a:Key)=Sum.inl b)=(a == b):=by
  by_cases e:a=b
  · subst e;simp
  · have h:¬ (Sum.inl a:Key)=Sum.inl b:=fun q=>e (Sum.inl.inj q)
    rw [decide_eq_false h]
    exact (beq_eq_false_iff_ne.mpr e).symm
theorem key_rr (a b:Str):decide ((Sum.inr a:Key)=Sum.inr b)=decide (a=b):=by
  by_cases e:a=b
  · subst e;simp
  · have h:¬ (Sum.inr a:Key)=Sum.inr b:=fun q=>e (Sum.inr.inj q)
    rw [decide_eq_false h,decide_eq_false e]
theorem key_lr (a:Int) (b:Str):decide ((Sum.inl a:Key)=Sum.inr b)=false:=decide_eq_false (fun q=>nomatch q)
theorem key_rl (a:Str) (b:Int):decide ((Sum.inr a:Key)=Sum.inl b)=false:=decide_eq_false (fun q=>nomatch q)
noncomputable def mixKind (prog:Program) (w:World):PySem.KeyKind prog w Key where
  is:=keyIs
  hash:=keyH w
  inj:=fun v a b ha hb=>by
    rcases keyIs_shape ha with ⟨i,t,rfl,rfl⟩ | ⟨x,t,rfl,rfl⟩
    · rcases keyIs_shape hb with ⟨j,u,rfl,e⟩ | ⟨y,u,rfl,e⟩
      · injection e with e1 _;rw [e1]
      · exact nomatch e
    · rcases keyIs_shape hb with ⟨j,u,rfl,e⟩ | ⟨y,u,rfl,e⟩
      · exact nomatch e
      · injection e with e1 _;rw [e1]
  byValue:=fun k v h=>by
    rcases keyIs_shape h with ⟨i,t,rfl,rfl⟩ | ⟨x,t,rfl,rfl⟩ <;> rfl
  pyHash:=fun hv h=>by
    rcases keyIs_shape hv with ⟨i,t,rfl,rfl⟩ | ⟨x,t,rfl,rfl⟩
    · exact wpAny_pyHash_int h
    · exact wpAny_pyHash_str h
  eqBool:=fun hu hv h=>by
    rcases keyIs_shape hu with ⟨i,t,rfl,rfl⟩ | ⟨x,t,rfl,rfl⟩
    · rcases keyIs_shape hv with ⟨j,u,rfl,rfl⟩ | ⟨y,u,rfl,rfl⟩
      · rw [key_ll] at h;exact wpAny_eqBool_int h
      · rw [key_lr] at h;exact SeqAt.EqAt.int_str i t y u _ _ _ _ h
    · rcases keyIs_shape hv with ⟨j,u,rfl,rfl⟩ | ⟨y,u,rfl,rfl⟩
      · rw [key_rl] at h;exact SeqAt.EqAt.str_int x t j u _ _ _ _ h
      · rw [key_rr] at h;exact wpAny_eqBool_str h
  «strs»:=fun k x t v h=>by
    rcases keyIs_shape h with ⟨i,u,rfl,e⟩ | ⟨y,u,rfl,e⟩
    · exact nomatch e
    · injection e with e1 _
      subst e1
      cases v <;> rfl
theorem mixKind_int (prog:Program) (w:World) (i:Int) (t:Tok):(mixKind prog w).is (.inl i) (.int i t)=true:=keyIs_int i t
theorem mixKind_str (prog:Program) (w:World) (x:Str) (t:Tok):(mixKind prog w).is (.inr x) (.str x t)=true:=keyIs_str x t
end L2
namespace L2
open PySem PySem.Spec PyProof.Rows
inductive V where
  | non | bl (b:Bool) | int (i:Int) | str (x:Str) | byt (b:Array UInt8) | flt (b:UInt64) | ref (a:Addr) | ty (n:String)
  deriving DecidableEq
noncomputable def RelV:V->Value->Prop
  | .non,u=>u=Value.none
  | .bl b,u=>u=Value.bool b
  | .int i,u=>∃ t,u=Value.int i t
  | .str x,u=>∃ t,u=Value.str x t
  | .byt b,u=>∃ t,u=Value.bytes b t
  | .flt b,u=>∃ t,u=Value.float b t
  | .ref a,u=>u=Value.ref a
  | .ty n,u=>u=Value.type n
noncomputable abbrev Vals:List V->List Value->Prop:=Paired RelV
theorem Vals.length {xs:List V} {us:List Value} (r:Vals xs us):xs.length=us.length:=Paired.length r
theorem Vals.get:∀ {xs:List V} {us:List Value} {i:Nat} {x:V},Vals xs us->xs[i]?=some x->∃ u,us[i]?=some u/\RelV x u
  | _,_,_,_,.nil,e=>by simp at e
  | _,_,0,_,.cons r _,e=>by simp at e;subst e;exact ⟨_,rfl,r⟩
  | _,_,i + 1,x,.cons _ t,e=>by
    obtain ⟨u,h1,h2⟩:=Vals.get (i:=i) (x:=x) t (by simpa using e)
    exact ⟨u,by simpa using h1,h2⟩
theorem Vals.append:∀ {xs ys:List V} {us ws:List Value},Vals xs us->Vals ys ws->Vals (xs ++ ys) (us ++ ws)
  | _,_,_,_,.nil,s=>s
  | _,_,_,_,.cons r t,s=>.cons r (Vals.append t s)
theorem Vals.take:∀ {xs:List V} {us:List Value} (n:Nat),Vals xs us->Vals (xs.take n) (us.take n)
  | _,_,0,_=>.nil
  | _,_,_ + 1,.nil=>.nil
  | _,_,n + 1,.cons r t=>.cons r (Vals.take n t)
theorem Vals.drop:∀ {xs:List V} {us:List Value} (n:Nat),Vals xs us->Vals (xs.drop n) (us.drop n)
  | _,_,0,r=>r
  | _,_,_ + 1,.nil=>.nil
  | _,_,n + 1,.cons _ t=>Vals.drop n t
noncomputable def RelO:Option V->Option Value->Prop
  | some v,some u=>RelV v u
  | none,none=>True
  | _,_=>False
noncomputable def KV {κ:Type}:List (κ × V)->List (κ × Value)->Prop:=Paired fun (p:κ × V) (q:κ × Value)=>p.1=q.1/\RelV p.2 q.2
noncomputable def kV:Key->V
  | .inl i=>.int i
  | .inr x=>.str x
inductive HO where
  | lst (xs:List V)
  | tup (xs:List V)
  | dK (kvs:List (Key × V)) | dT (kvs:List (List Key × V))
  | set (S:Int->Bool) (n:Nat)
  | ins (C dx:Addr) (fs:List (Str × V))
  | own (x:Addr)
  | xd (fs:List (Str × V))
  | met (f x:Addr)
  | rng (lo hi:Int)
  | frz (o:Obj) (u:HO)
  | tbl (ps:Array Value)
  | ext (φ:Heap->Prop)
noncomputable abbrev Hp:=Addr->Option HO
noncomputable def upd (H:Hp) (a:Addr) (o:HO):Hp:=fun b=>if b=a then some o else H b
theorem upd_same {H:Hp} {a:Addr} {o:HO}:upd H a o a=some o:=by unfold upd;rw [if_pos rfl]
theorem upd_ne {H:Hp} {a b:Addr} {o:HO} (h:b ≠ a):upd H a o b=H b:=by unfold upd;rw [if_neg h]
theorem ne_of {H:Hp} {a b:Addr} {o u:HO} (h:H a=some o) (h':H b=some u) (d:o ≠ u):a ≠ b:=by
  intro e;subst e;rw [h] at h';exact d (Option.some.inj h')
theorem ne_of_none {H:Hp} {a b:Addr} {o:HO} (h:H a=some o) (h':H b=none):a ≠ b:=by
  intro e;subst e;rw [h] at h';cases h'
section
variable (P:Program) (w:World)
noncomputable def ObjOk (H:Hp) (h:Heap) (a:Addr):HO->Prop
  | .lst xs=>xs.length <= sizeLine/\∃ (its:List Value) (n:Nat),Vals xs its/\h.get? a=some { cls:=.type "list",data:=.seq its.toArray n }
  | .tup xs=>xs.length <= sizeLine/\∃ its:List Value,Vals xs its/\IsTup h a its.toArray
  | .dK kvs=>kvs.length <= sizeLine/\(a == sysModules)=false/\∃ vs,KV kvs vs/\h.DictOf (mixKind P w) a vs
  | .dT kvs=>kvs.length <= sizeLine/\(a == sysModules)=false/\∃ xs:List (List Key × Addr × Value),
      Paired (fun (p:List Key × V) (q:List Key × Addr × Value)=>p.1=q.1/\H q.2.1=some (.tup (p.1.map kV))/\RelV p.2 q.2.2) kvs xs /\
      ∃ o es ep,h.get? a=some o/\o.ExactDict/\o.data=.dict es ep/\es.toList=xs.map (entryOfKey (tupleKind (mixKind P w)))/\(xs.map (·.1)).Nodup
  | .set S n=>h.SetOf (intKind P w) a S n
  | .ins C dx fs=>H dx=some (.own a)/\fs.length <= 1000/\dx ≠ a/\h.get? a=some (PySem.W.instObj C dx) /\
      ∃ mA,h.Ns1 dx mA/\(∀ f,RelO (fs.lookup f) (mA f))/\PySem.Within mA (fs.map (·.1))
  | .own _=>∃ o,h.get? a=some o
  | .xd fs=>∃ mA,h.Ns1 a mA/\∀ f,RelO (fs.lookup f) (mA f)
  | .rng lo hi=>∃ t u v,h.get? a=some { cls:=.type "range",data:=.fields #[.int lo t,.int hi u,.int 1 v] }
  | .frz o u=>h.get? a=some o/\ObjOk H h a u
  | .tbl ps=>h.get? a=some { cls:=.none,data:=.fields ps }
  | .met f x=>h.get? a=some (PySem.W.methodObj (.ref f) (.ref x))
  | .ext φ=>φ h/\(∃ o,h.get? a=some o)/\∀ h1 h2:Heap,φ h1->(∀ o,h1.get? a=some o->h2.get? a=some o)->φ h2
noncomputable def HOk (H:Hp) (h:Heap):Prop:=∀ a o,H a=some o->ObjOk P w H h a o
end
section
variable {P:Program} {w:World} {H H':Hp} {h h':Heap} {a:Addr} {o:HO}
theorem ObjOk.lt (x:ObjOk P w H h a o):a < h.objs.size:=by
  cases o with
  | lst xs=>obtain ⟨_,_,_,_,e⟩:=x;exact Heap.lt_size e
  | tup xs=>obtain ⟨_,_,_,p⟩:=x;exact p.lt
  | dK kvs=>obtain ⟨_,_,_,_,o,_,_,e,_⟩:=x;exact Heap.lt_size e
  | dT kvs=>obtain ⟨_,_,_,_,o,_,_,e,_⟩:=x;exact Heap.lt_size e
  | set S n=>obtain ⟨o,_,_,_,e,_⟩:=x;exact Heap.lt_size e
  | ins C dx fs=>obtain ⟨_,_,_,e,_⟩:=x;exact Heap.lt_size e
  | own y=>obtain ⟨_,e⟩:=x;exact Heap.lt_size e
  | xd fs=>obtain ⟨_,⟨_,_,_,e,_⟩,_⟩:=x;exact Heap.lt_size e
  | rng lo hi=>obtain ⟨_,_,_,e⟩:=x;exact Heap.lt_size e
  | frz ob u=>obtain ⟨e,_⟩:=x;exact Heap.lt_size e
  | tbl ps=>exact Heap.lt_size (show h.get? a=some _ from x)
  | met f y=>exact Heap.lt_size (show h.get? a=some _ from x)
  | ext φ=>obtain ⟨_,⟨_,e⟩,_⟩:=x;exact Heap.lt_size e
theorem Paired.mapP {α β:Type} {F G:α->β->Prop}:∀ {l₁:List α} {l₂:List β},Paired F l₁ l₂->(∀ a b,F a b->G a b)->Paired G l₁ l₂
  | _,_,.nil,_=>.nil
  | _,_,.cons r t,f=>.cons (f _ _ r) (Paired.mapP t f)
theorem ObjOk.stay (x:ObjOk P w H h a o) (k:∀ b u,(b=a ∨ H b=some (.own a))->h.get? b=some u->h'.get? b=some u)
    (ho:∀ b,H b=some (.own a)->H' b=some (.own a)) (ht:∀ b xs,H b=some (.tup xs)->H' b=some (.tup xs)):ObjOk P w H' h' a o:=by
  induction o with
  | lst xs=>obtain ⟨z,its,n,r,e⟩:=x;exact ⟨z,its,n,r,k _ _ (.inl rfl) e⟩
  | tup xs=>obtain ⟨z,its,r,ob,e,c⟩:=x;exact ⟨z,its,r,ob,k _ _ (.inl rfl) e,c⟩
  | dK kvs=>obtain ⟨z,y,vs,r,ob,es,ep,e,c⟩:=x;exact ⟨z,y,vs,r,ob,es,ep,k _ _ (.inl rfl) e,c⟩
  | dT kvs =>
    obtain ⟨z,y,xs,r,ob,es,ep,e,c⟩:=x
    exact ⟨z,y,xs,Paired.mapP r fun p q z=>⟨z.1,ht _ _ z.2.1,z.2.2⟩,ob,es,ep,k _ _ (.inl rfl) e,c⟩
  | set S n=>obtain ⟨ob,es,ep,t,e,c⟩:=x;exact ⟨ob,es,ep,t,k _ _ (.inl rfl) e,c⟩
  | ins C dx fs =>
    obtain ⟨d,z,ne,e,mA,⟨od,es,ep,e2,c⟩,r⟩:=x
    exact ⟨ho _ d,z,ne,k _ _ (.inl rfl) e,mA,⟨od,es,ep,k _ _ (.inr d) e2,c⟩,r⟩
  | own y=>obtain ⟨ob,e⟩:=x;exact ⟨ob,k _ _ (.inl rfl) e⟩
  | xd fs=>obtain ⟨mA,⟨od,es,ep,e,c⟩,r⟩:=x;exact ⟨mA,⟨od,es,ep,k _ _ (.inl rfl) e,c⟩,r⟩
  | rng lo hi=>obtain ⟨t,u,v,e⟩:=x;exact ⟨t,u,v,k _ _ (.inl rfl) e⟩
  | frz ob u ih=>obtain ⟨e,q⟩:=x;exact ⟨k _ _ (.inl rfl) e,ih q⟩
  | tbl ps =>
    have e:h.get? a=some { cls:=.none,data:=.fields ps }:=x
    show h'.get? a=some { cls:=.none,data:=.fields ps }
    exact k a _ (.inl rfl) e
  | met f y =>
    have e:h.get? a=some (PySem.W.methodObj (.ref f) (.ref y)):=x
    show h'.get? a=some (PySem.W.methodObj (.ref f) (.ref y))
    exact k a _ (.inl rfl) e
  | ext φ=>obtain ⟨p,⟨o,e⟩,st⟩:=x;exact ⟨st _ _ p fun o q=>k _ _ (.inl rfl) q,⟨o,k _ _ (.inl rfl) e⟩,st⟩
theorem HOk.lt (x:HOk P w H h) (e:H a=some o):a < h.objs.size:=(x a o e).lt
theorem HOk.fresh (x:HOk P w H h) (e:h.objs.size <= a):H a=none:=by
  cases q:H a with
  | none=>rfl
  | some u=>exact absurd (Nat.lt_of_lt_of_le (x.lt q) e) (Nat.lt_irrefl _)
theorem HOk.kept (x:HOk P w H h) (k:∀ b u,h.get? b=some u->h'.get? b=some u):HOk P w H h':=fun a o e =>
  (x a o e).stay (fun b u _ q=>k b u q) (fun _ q=>q) fun _ _ q=>q
theorem HOk.laid (x:HOk P w H h) (k:∀ b u,h.get? b=some u->h'.get? b=some u) (hp:h.objs.size <= a) (new:ObjOk P w (upd H a o) h' a o):HOk P w (upd H a o) h':=fun b u e=>by
  have hn:=x.fresh hp
  by_cases hb:b=a
  · subst hb;rw [upd_same] at e;cases e;exact new
  · rw [upd_ne hb] at e
    exact (x b u e).stay (fun c v _ q=>k c v q) (fun c q=>by rw [upd_ne (ne_of_none q hn)];exact q) fun c xs q=>by rw [upd_ne (ne_of_none q hn)];exact q
end
noncomputable def Rd (H:Hp) (a:Addr) (u:HO):Prop:=H a=some u ∨ ∃ o,H a=some (.frz o u)
theorem Rd.ok {P:Program} {w:World} {H:Hp} {h:Heap} {a:Addr} {u:HO} (r:Rd H a u) (x:HOk P w H h):ObjOk P w H h a u:=by
  rcases r with r | ⟨o,r⟩
  · exact x a u r
  · obtain ⟨_,q⟩:=x a _ r
    exact q
noncomputable def Mut:Option HO->Prop
  | some (.lst _)=>True
  | some (.dK _)=>True
  | some (.dT _)=>True
  | some (.set _ _)=>True
  | some (.ins _ _ _)=>True
  | some (.ext _)=>True
  | _=>False
section
variable {P:Program} {w:World} {H:Hp} {h h':Heap} {x e:Addr} {o':HO}
theorem HOk.write (ok:HOk P w H h) (mu:Mut (H x)) (he:e=x ∨ H e=some (.own x)) (k:∀ b u,b ≠ e->h.get? b=some u->h'.get? b=some u) (heo:∃ u,h'.get? e=some u)
    (new:ObjOk P w (upd H x o') h' x o'):HOk P w (upd H x o') h':=fun b u q=>by
  have nown:∀ c y,H c=some (.own y)->c ≠ x:=fun c y r z=>by subst z;rw [r] at mu;exact mu
  have ntup:∀ c xs,H c=some (.tup xs)->c ≠ x:=fun c xs r z=>by subst z;rw [r] at mu;exact mu
  by_cases hb:b=x
  · subst hb;rw [upd_same] at q;cases q;exact new
  · rw [upd_ne hb] at q
    by_cases hbe:b=e
    · have q':H b=some (.own x):=by
        rcases he with z | z
        · exact absurd (hbe.trans z) hb
        · rw [hbe];exact z
      rw [q] at q';cases q'
      obtain ⟨v,hv⟩:=heo
      exact ⟨v,by rw [hbe];exact hv⟩
    · refine (ok b u q).stay (fun c v hc r=>k c v ?_ r) (fun c r=>by rw [upd_ne (nown c b r)];exact r) fun c xs r=>by rw [upd_ne (ntup c xs r)];exact r
      rcases hc with rfl | hc
      · exact hbe
      · rintro rfl
        rcases he with z | z
        · exact nown c b hc z
        · rw [hc] at z;cases z;exact hb rfl
end
structure Un (fs ex:List Addr) (H H':Hp) (h h':Heap):Prop where
  keep:∀ b o,h.get? b=some o->H b=none->b ∉ fs->b ∉ ex->h'.get? b=some o
  slot:∀ b o,h.get? b=some o->H b=none->b ∈ fs->b ∉ ex->∃ sl,h'.get? b=some { o with slots:=sl }
  free:∀ b o,h.get? b=some o->H b=none->b ∉ ex->H' b=none
  there:∀ b o,h.get? b=some o->b ∉ ex->∃ o',h'.get? b=some o'
  tups:∀ b xs,H b=some (.tup xs)->H' b=some (.tup xs)
  frzs:∀ b o u,H b=some (.frz o u)->H' b=some (.frz o u)
  tbls:∀ b ps,H b=some (.tbl ps)->∃ more,H' b=some (.tbl (ps ++ more))
section
variable {fs fs' ex ex':List Addr} {H H1 H2:Hp} {h h1 h2 h':Heap} {a x e:Addr} {o:HO}
theorem Un.any (u:Un fs ex H H1 h h1) {b:Addr} {ob:Obj} (q:h.get? b=some ob) (n:H b=none) (hx:b ∉ ex):∃ sl,h1.get? b=some { ob with slots:=sl }:=by
  by_cases hb:b ∈ fs
  · exact u.slot b ob q n hb hx
  · exact ⟨ob.slots,u.keep b ob q n hb hx⟩
theorem Un.kept (k:∀ b u,h.get? b=some u->h'.get? b=some u):Un fs ex H H h h' :=
  ⟨fun b ob q _ _ _=>k b ob q,fun b ob q _ _ _=>⟨ob.slots,k b ob q⟩,fun _ _ _ n _=>n,fun b ob q _=>⟨ob,k b ob q⟩,fun _ _ q=>q,fun _ _ _ q=>q,fun _ ps q=>⟨#[],by rw [q];simp⟩⟩
theorem Un.refl:Un fs ex H H h h:=Un.kept fun _ _ q=>q
theorem Un.laid (k:∀ b u,h.get? b=some u->h'.get? b=some u) (hp:h.objs.size <= a) (hn:H a=none):Un fs ex H (upd H a o) h h' where
  keep:=fun b u q _ _ _=>k b u q
  slot:=fun b u q _ _ _=>⟨u.slots,k b u q⟩
  free:=fun b u q n _=>by rw [upd_ne (Nat.ne_of_lt (Nat.lt_of_lt_of_le (Heap.lt_size q) hp))];exact n
  there:=fun b u q _=>⟨u,k b u q⟩
  tups:=fun b xs q=>by rw [upd_ne (ne_of_none q hn)];exact q
  frzs:=fun b u xs q=>by rw [upd_ne (ne_of_none q hn)];exact q
  tbls:=fun b ps q=>⟨#[],by rw [upd_ne (ne_of_none q hn),q];simp⟩
theorem Un.write (mu:Mut (H x)) (he:e=x ∨ H e=some (.own x)) (k:∀ b u,b ≠ e->h.get? b=some u->h'.get? b=some u) (heo:∃ u,h'.get? e=some u):Un fs ex H (upd H x o) h h':=by
  have hx:∀ b,H b=none->b ≠ x:=fun b n z=>by subst z;rw [n] at mu;exact mu
  have hb:∀ b,H b=none->b ≠ e:=fun b n z=>by
    subst z
    rcases he with r | r
    · exact hx b n r
    · rw [n] at r;cases r
  have hm:∀ b u,H b=some u->¬ Mut (some u)->b ≠ x:=fun b u q nm z=>by subst z;rw [q] at mu;exact nm mu
  refine ⟨fun b u q n _ _=>k b u (hb b n) q,fun b u q n _ _=>⟨u.slots,k b u (hb b n) q⟩,fun b u q n _=>by rw [upd_ne (hx b n)];exact n,fun b u q _=>?_,
    fun b xs q=>by rw [upd_ne (hm b _ q fun z=>z)];exact q,fun b u xs q=>by rw [upd_ne (hm b _ q fun z=>z)];exact q,fun b ps q=>⟨#[],by rw [upd_ne (hm b _ q fun z=>z),q];simp⟩⟩
  by_cases hbe:b=e
  · subst hbe;exact heo
  · exact ⟨u,k b u hbe q⟩
end
noncomputable def trk (h:Heap) (H:Hp):List Addr:=(List.range h.objs.size).filter fun a=>(H a).isSome
noncomputable def hidT (h:Heap) (H:Hp):Heap:=PySem.W.hideAll h (trk h H)
theorem hidT_size (h:Heap) (H:Hp):(hidT h H).objs.size=h.objs.size:=PySem.W.hideAll_size _ _
theorem hidT_get {h:Heap} {H:Hp} {b:Addr} {o:Obj} (e:h.get? b=some o) (n:H b=none):(hidT h H).get? b=some o :=
  PySem.W.hideAll_get _ e fun hm=>by
    have q:(H b).isSome=true:=(List.mem_filter.mp hm).2
    rw [n] at q;simp at q
theorem of_hidT {h:Heap} {H:Hp} {b:Addr} {o:Obj} (e:(hidT h H).get? b=some o):h.get? b=some o/\H b=none:=by
  have e':h.get? b=some o:=PySem.W.of_hideAll (trk h H) e
  refine ⟨e',?_⟩
  cases q:H b with
  | none=>rfl
  | some x =>
    have hm:b ∈ trk h H:=List.mem_filter.mpr ⟨List.mem_range.mpr (Heap.lt_size e'),by simp [q]⟩
    have z:(hidT h H).get? b=none:=PySem.W.hideAll_none (trk h H) hm
    rw [z] at e;cases e
noncomputable def allNews (g h:Heap) (L:Addr):List (Addr × Obj):=(List.range h.objs.size).filterMap fun a=>if a=L ∨ (g.get? a).isSome=true then none else (h.get? a).map fun o=>(a,o)
noncomputable def rest (g h:Heap) (L d:Addr):List (Addr × Obj):=(allNews g h L).filter fun p=>decide (p.1 ≠ d)
end L2
namespace L2
open PySem PySem.Spec PyProof.Rows
structure Mod (K:PySem.W.Frag) (mg:Str->Option Value) (base:Heap):Prop where
  kin:K.In base
  glob:base.Ns mainGlobals mg
  blt:∃ mb,base.Ns builtinsNs mb/\∀ x:Str,x ≠ "__name__"->mb x=bootBuiltins x
  nolimit:base.NoLimit
structure Cx where
  prog:Program
  w:World
  K:PySem.W.Frag
  mg:Str->Option Value
  base:Heap
  A:Around
  N:List Str
  s₀:Shared
  H₀:Hp
  env:Env
  outer:List Env
  stack:List Env
  ex:List Addr
  fn:Str->Bool
  calm:Bool
  pn:List (Addr × Obj)
  xe:Value->Shared->Prop
noncomputable def frs (l:List Env):List Addr:=l.filterMap (·.frame)
noncomputable abbrev Cx.fs (X:Cx):List Addr:=frs X.outer
noncomputable def Vis (sc:Scope) (x:Str):Prop:=sc.names.lookup x=some .local ∨ sc.names.lookup x=some .cell ∨ sc.names.lookup x=some .free
noncomputable def Loc (sc:Scope) (x:Str):Prop:=sc.names.lookup x=some .local ∨ sc.names.lookup x=some .cell
noncomputable def Look (env:Env) (h:Heap) (m:Str->Option Value) (x:Str) (u:Value):Prop :=
  (env.kindOf x=some .local/\m x=some u) ∨ ((env.kindOf x=some .cell ∨ env.kindOf x=some .free)/\∃ c,env.cells.lookup x=some c/\h.IsCell c (some u))
structure Cx.Ok (X:Cx):Prop where
  mod:Mod X.K X.mg X.base
  kind:X.env.scope.kind=.function
  glob:X.env.globals=mainGlobals
  blt:X.env.builtins=builtinsNs
  above:X.s₀.heap.objs.size <= X.env.locals
  inj:∀ x y c,X.env.cells.lookup x=some c->X.env.cells.lookup y=some c->x=y
  has:∀ x,(X.env.kindOf x=some .cell ∨ X.env.kindOf x=some .free)->∃ c,X.env.cells.lookup x=some c
  cab:∀ x c,X.fn x=true->X.env.cells.lookup x=some c->X.s₀.heap.objs.size <= c
  hd:X.calm=true->X.A.handled=none
  frames:X.A.frames=some X.stack
  stk:X.stack=X.outer ∨ (X.stack=X.env :: X.outer/\X.env.frame=some X.env.locals)
  exf:∀ b ∈ X.ex,b ≠ X.env.locals/\∀ x c,X.env.cells.lookup x=some c->c ≠ b
  bs:∀ b o,X.base.get? b=some o->X.s₀.heap.get? b=some o/\X.H₀ b=none
  bsz:X.base.objs.size <= X.s₀.heap.objs.size
  noex:∀ b o,X.base.get? b=some o->b ∉ X.ex
  exfs:∀ b ∈ X.ex,b ∉ X.fs
  funs:X.s₀.heap.FunFrames X.base X.outer
  frf:∀ b ∈ X.fs,X.H₀ b=none
structure Inv (X:Cx) (pins:List (Addr × Obj)) (σ:List (Option V)) (H:Hp) (s:Shared):Prop where
  ok:X.Ok
  os:s.os=X.s₀.os
  bare:AllBare s.gens
  base:Un X.fs X.ex X.H₀ H X.s₀.heap s.heap
  loc:∃ m,s.heap.Ns X.env.locals m/\∀ (i:Nat) (x:Str) (v:V),X.N[i]?=some x->σ[i]?=some (some v)->Vis X.env.scope x->∃ u,RelV v u/\Look X.env s.heap m x u
  cell:∀ x c,X.env.cells.lookup x=some c->∃ v,s.heap.IsCell c v
  free:H X.env.locals=none
  freeC:∀ x c,X.env.cells.lookup x=some c->H c=none
  pin:∀ p ∈ X.pn ++ pins,s.heap.get? p.1=some p.2/\H p.1=none/\p.1 ≠ X.env.locals/\p.1 ∉ X.fs/\∀ v,p.2.data ≠ .cell v
  hok:HOk X.prog X.w H s.heap
  len:σ.length=X.N.length
section
variable {X:Cx} {pins:List (Addr × Obj)} {σ:List (Option V)} {H H':Hp} {s:Shared} {h':Heap}
theorem Cx.Ok.nofr (ok:X.Ok) {b:Addr} {o:Obj} (e:X.base.get? b=some o):b ∉ X.fs:=fun hb=>by
  have:=(ok.funs.mem hb).1
  rw [e] at this;cases this
theorem Inv.bs (I:Inv X pins σ H s):∀ b o,X.base.get? b=some o->s.heap.get? b=some o/\H b=none:=fun b o e =>
  ⟨I.base.keep b o (I.ok.bs b o e).1 (I.ok.bs b o e).2 (I.ok.nofr e) (I.ok.noex b o e),I.base.free b o (I.ok.bs b o e).1 (I.ok.bs b o e).2 (I.ok.noex b o e)⟩
theorem Inv.bk (I:Inv X pins σ H s):∀ b o,X.base.get? b=some o->s.heap.get? b=some o:=fun b o e=>(I.bs b o e).1
theorem Inv.mod (I:Inv X pins σ H s):Mod X.K X.mg X.base:=I.ok.mod
theorem Inv.kIn (I:Inv X pins σ H s):X.K.In s.heap:=I.ok.mod.kin.keeps I.bk
theorem Inv.nolimit (I:Inv X pins σ H s):s.heap.NoLimit:=I.ok.mod.nolimit.keeps I.bk
theorem Inv.lt (I:Inv X pins σ H s):X.env.locals < s.heap.objs.size:=let ⟨_,hn,_⟩:=I.loc;hn.lt
theorem Inv.sz (I:Inv X pins σ H s):X.s₀.heap.objs.size <= s.heap.objs.size:=Nat.le_trans I.ok.above (Nat.le_of_lt I.lt)
theorem Inv.nofs (I:Inv X pins σ H s) {a:Addr} (h:s.heap.objs.size <= a):a ∉ X.fs:=fun hb=>by
  obtain ⟨_,o,ho,_⟩:=I.ok.funs.mem hb
  exact absurd (Nat.lt_of_lt_of_le (Heap.lt_size ho) (Nat.le_trans I.sz h)) (Nat.lt_irrefl _)
theorem Inv.cne (I:Inv X pins σ H s):∀ x c,X.env.cells.lookup x=some c->c ≠ X.env.locals:=fun x c e z=>by
  obtain ⟨v,o,ho,hd⟩:=I.cell x c e
  obtain ⟨m,⟨o',es,ep,ho',hd',_⟩,_⟩:=I.loc
  rw [z,ho'] at ho;cases ho;rw [hd'] at hd;cases hd
theorem Inv.funs (I:Inv X pins σ H s):s.heap.FunFrames X.base X.outer:=by
  have all:∀ (l:List Env),(∀ b ∈ frs l,b ∈ X.fs)->X.s₀.heap.FunFrames X.base l->s.heap.FunFrames X.base l:=by
    intro l
    induction l with
    | nil=>intro _ _;trivial
    | cons env r ih =>
      intro hs hl
      obtain ⟨hk,⟨L,o,hf,hn,ho,hd⟩,hr⟩:=hl
      have hL:L ∈ X.fs:=hs L (by unfold frs;rw [List.filterMap_cons,hf];exact List.mem_cons_self)
      obtain ⟨sl,e⟩:=I.base.slot L o ho (I.ok.frf L hL) hL fun z=>I.ok.exfs L z hL
      exact ⟨hk,⟨L,_,hf,hn,e,hd⟩,ih (fun b hb=>hs b (by unfold frs;rw [List.filterMap_cons,hf];exact List.mem_cons_of_mem _ hb)) hr⟩
  exact all X.outer (fun _ hb=>hb) I.ok.funs
theorem Inv.stack (I:Inv X pins σ H s):s.heap.FunFrames X.base X.stack:=by
  rcases I.ok.stk with e | ⟨e,hf⟩
  · rw [e];exact I.funs
  · rw [e]
    obtain ⟨m,hn,_⟩:=I.loc
    refine .cons (by rw [I.ok.kind];decide) hf hn ?_ I.funs
    exact Heap.get?_none_of_le (Nat.le_trans I.ok.bsz I.ok.above)
theorem Inv.stkSub (I:Inv X pins σ H s):∀ b ∈ frs X.stack,b ∈ X.env.locals :: X.fs:=fun b hb=>by
  rcases I.ok.stk with e | ⟨e,hf⟩
  · rw [e] at hb;exact List.mem_cons_of_mem _ hb
  · rw [e] at hb
    unfold frs at hb
    rw [List.filterMap_cons,hf] at hb
    exact hb
theorem Inv.stkFree (I:Inv X pins σ H s):∀ b ∈ frs X.stack,H b=none:=fun b hb=>by
  rcases List.mem_cons.mp (I.stkSub b hb) with e | hb
  · rw [e];exact I.free
  · obtain ⟨_,o,ho,_⟩:=I.ok.funs.mem hb
    exact I.base.free b o ho (I.ok.frf b hb) fun z=>I.ok.exfs b z hb
theorem Inv.step {g':Array GenState} {t':Nat} {d':Drawn} {ch:List Addr} (I:Inv X pins σ H s)
    (hch:∀ b ∈ ch,(b ∈ X.ex ∨ X.s₀.heap.objs.size <= b)/\b ≠ X.env.locals/\(∀ x c,X.env.cells.lookup x=some c->c ≠ b)/\∀ p ∈ X.pn ++ pins,p.1 ≠ b)
    (keep:∀ b o,b ≠ X.env.locals->b ∉ X.fs->b ∉ ch->s.heap.get? b=some o->H b=none->h'.get? b=some o)
    (slot:∀ b o,b ≠ X.env.locals->b ∈ X.fs->b ∉ ch->s.heap.get? b=some o->H b=none->∃ sl,h'.get? b=some { o with slots:=sl }) (free:∀ b o,b ∉ ch->s.heap.get? b=some o->H b=none->H' b=none)
    (there:∀ b o,b ∉ ch->s.heap.get? b=some o->∃ o',h'.get? b=some o')
    (tups:∀ b xs,H b=some (.tup xs)->H' b=some (.tup xs)) (frzs:∀ b o u,H b=some (.frz o u)->H' b=some (.frz o u)) (tbls:∀ b ps,H b=some (.tbl ps)->∃ more,H' b=some (.tbl (ps ++ more)))
    (ns:∀ m,s.heap.Ns X.env.locals m->h'.Ns X.env.locals m) (hok:HOk X.prog X.w H' h') (hg:AllBare g') :
    Inv X pins σ H' { s with heap:=h',gens:=g',drawn:=d',toks:=t' }:=by
  have neL:∀ b o,X.s₀.heap.get? b=some o->b ≠ X.env.locals:=fun b o e=>Nat.ne_of_lt (Nat.lt_of_lt_of_le (Heap.lt_size e) I.ok.above)
  have neC:∀ b o,X.s₀.heap.get? b=some o->b ∉ X.ex->b ∉ ch:=fun b o e hx hb=>by
    rcases (hch b hb).1 with z | z
    · exact hx z
    · exact absurd (Nat.lt_of_lt_of_le (Heap.lt_size e) z) (Nat.lt_irrefl _)
  have cellK:∀ x c,X.env.cells.lookup x=some c->∀ v,s.heap.IsCell c v->h'.IsCell c v:=fun x c e v ⟨o,ho,hd⟩=>by
    have nch:c ∉ ch:=fun z=>(hch c z).2.2.1 x c e rfl
    by_cases hc:c ∈ X.fs
    · obtain ⟨sl,q⟩:=slot c o (I.cne x c e) hc nch ho (I.freeC x c e)
      exact ⟨_,q,hd⟩
    · exact ⟨o,keep c o (I.cne x c e) hc nch ho (I.freeC x c e),hd⟩
  refine ⟨I.ok,I.os,hg,⟨fun b o e n hb hx=>?_,fun b o e n hb hx=>?_,fun b o e n hx=>?_,fun b o e hx=>?_,fun b xs e=>tups b xs (I.base.tups b xs e),fun b o xs e=>frzs b o xs (I.base.frzs b o xs e),fun b ps e=>?_⟩,?_,fun x c e=>?_,?_,fun x c e=>?_,fun p hp=>?_,hok,I.len⟩
  · exact keep b o (neL b o e) hb (neC b o e hx) (I.base.keep b o e n hb hx) (I.base.free b o e n hx)
  · obtain ⟨sl,e1⟩:=I.base.slot b o e n hb hx
    obtain ⟨sl',e2⟩:=slot b _ (neL b o e) hb (neC b o e hx) e1 (I.base.free b o e n hx)
    exact ⟨sl',e2⟩
  · obtain ⟨o',e1⟩:=I.base.there b o e hx
    exact free b o' (neC b o e hx) e1 (I.base.free b o e n hx)
  · obtain ⟨o',e1⟩:=I.base.there b o e hx
    exact there b o' (neC b o e hx) e1
  · obtain ⟨m1,e1⟩:=I.base.tbls b ps e
    obtain ⟨m2,e2⟩:=tbls b _ e1
    exact ⟨m1 ++ m2,by rw [e2,Array.append_assoc]⟩
  · obtain ⟨m,hn,hl⟩:=I.loc
    refine ⟨m,ns m hn,fun i x v e1 e2 e3=>?_⟩
    obtain ⟨u,r,l⟩:=hl i x v e1 e2 e3
    refine ⟨u,r,?_⟩
    rcases l with l | ⟨k,c,e,z⟩
    · exact .inl l
    · exact .inr ⟨k,c,e,cellK x c e _ z⟩
  · obtain ⟨v,z⟩:=I.cell x c e
    exact ⟨v,cellK x c e v z⟩
  · obtain ⟨m,⟨o,_,_,ho,_⟩,_⟩:=I.loc
    exact free _ o (fun z=>(hch _ z).2.1 rfl) ho I.free
  · obtain ⟨v,o,ho,hd⟩:=I.cell x c e
    exact free c o (fun z=>(hch c z).2.2.1 x c e rfl) ho (I.freeC x c e)
  · obtain ⟨e,n,ne,nf,d⟩:=I.pin p hp
    have nch:p.1 ∉ ch:=fun z=>(hch p.1 z).2.2.2 p hp rfl
    exact ⟨keep p.1 p.2 ne nf nch e n,free p.1 p.2 nch e n,ne,nf,d⟩
theorem Inv.un {t':Nat} (I:Inv X pins σ H s) (u:Un X.fs [] H H' s.heap h') (hok:HOk X.prog X.w H' h'):Inv X pins σ H' { s with heap:=h',toks:=t' }:=by
  obtain ⟨m,⟨o,es,ep,ho,r⟩,_⟩:=id I.loc
  obtain ⟨sl,hL⟩:=u.any ho I.free (by simp)
  exact I.step (g':=s.gens) (d':=s.drawn) (ch:=[]) (fun _ z=>nomatch z) (fun b o _ hb _ e n=>u.keep b o e n hb (by simp)) (fun b o _ hb _ e n=>u.slot b o e n hb (by simp)) (fun b o _ e n=>u.free b o e n (by simp)) (fun b o _ e=>u.there b o e (by simp)) u.tups u.frzs u.tbls (fun m' hm=>by
    obtain ⟨o',es',ep',ho',r'⟩:=hm
    rw [ho] at ho';cases ho'
    exact ⟨_,es',ep',hL,r'⟩) hok I.bare
theorem Inv.call {g':Array GenState} {t':Nat} {d':Drawn} {ch:List Addr} (I:Inv X pins σ H s) (u:Un (frs X.stack) ch H H' s.heap h') (hok:HOk X.prog X.w H' h') (hg:AllBare g')
    (hch:∀ b ∈ ch,(b ∈ X.ex ∨ X.s₀.heap.objs.size <= b)/\b ≠ X.env.locals/\(∀ x c,X.env.cells.lookup x=some c->c ≠ b)/\∀ p ∈ X.pn ++ pins,p.1 ≠ b) :
    Inv X pins σ H' { s with heap:=h',gens:=g',drawn:=d',toks:=t' }:=by
  obtain ⟨m,⟨o,es,ep,ho,r⟩,_⟩:=id I.loc
  obtain ⟨sl,hL⟩:=u.any ho I.free fun z=>(hch _ z).2.1 rfl
  exact I.step (ch:=ch) hch (fun b o hL hb hc e n=>u.keep b o e n (fun z=>(List.mem_cons.mp (I.stkSub b z)).elim hL hb) hc) (fun b o _ _ hc e n=>u.any e n hc) (fun b o hc e n=>u.free b o e n hc) (fun b o hc e=>u.there b o e hc) u.tups u.frzs u.tbls (fun m' hm=>by
    obtain ⟨o',es',ep',ho',r'⟩:=hm
    rw [ho] at ho';cases ho'
    exact ⟨_,es',ep',hL,r'⟩) hok hg
theorem Inv.turned {t':Nat} {it:Addr} (I:Inv X pins σ H s) (k:∀ b o,b ≠ it->s.heap.get? b=some o->h'.get? b=some o) (hn:H it=none) (hL:it ≠ X.env.locals)
    (h1:it ∈ X.ex ∨ X.s₀.heap.objs.size <= it) (h2:∀ x c,X.env.cells.lookup x=some c->c ≠ it) (h3:∀ p ∈ X.pn ++ pins,p.1 ≠ it):Inv X pins σ H { s with heap:=h',toks:=t' }:=by
  have nit:∀ b u,H b=some u->b ≠ it:=fun b u e z=>by rw [z,hn] at e;cases e
  refine I.step (g':=s.gens) (d':=s.drawn) (ch:=[it]) (fun b hb=>?_) (fun b o _ _ hc e _=>k b o (fun z=>hc (by simp [z])) e) (fun b o _ _ hc e _=>⟨o.slots,k b o (fun z=>hc (by simp [z])) e⟩) (fun _ _ _ _ n=>n)
    (fun b o hc e=>⟨o,k b o (fun z=>hc (by simp [z])) e⟩) (fun _ _ e=>e) (fun _ _ _ e=>e) (fun b ps e=>⟨#[],by rw [e];simp⟩) (fun m hm=>?_) (fun b u e=>?_) I.bare
  · have e:b=it:=by simpa using hb
    subst e
    exact ⟨h1,hL,h2,h3⟩
  · obtain ⟨o,es,ep,ho,r⟩:=hm
    exact ⟨o,es,ep,k _ o (Ne.symm hL) ho,r⟩
  · refine (I.hok b u e).stay (fun c v hc q=>k c v ?_ q) (fun _ q=>q) fun _ _ q=>q
    rcases hc with z | z
    · rw [z];exact nit b u e
    · exact nit c _ z
theorem Inv.tok (I:Inv X pins σ H s) (t:Nat):Inv X pins σ H { s with toks:=t }:=I.un (h':=s.heap) (t':=t) Un.refl I.hok
theorem Inv.kept {t':Nat} (I:Inv X pins σ H s) (k:∀ b u,s.heap.get? b=some u->h'.get? b=some u):Inv X pins σ H { s with heap:=h',toks:=t' }:=I.un (Un.kept k) (I.hok.kept k)
theorem Inv.laid {a:Addr} {o:HO} {t':Nat} (I:Inv X pins σ H s) (k:∀ b u,s.heap.get? b=some u->h'.get? b=some u) (hp:s.heap.objs.size <= a) (new:ObjOk X.prog X.w (upd H a o) h' a o) :
    Inv X pins σ (upd H a o) { s with heap:=h',toks:=t' }:=I.un (Un.laid k hp (I.hok.fresh hp)) (I.hok.laid k hp new)
theorem Inv.write {x e:Addr} {o:HO} {t':Nat} (I:Inv X pins σ H s) (mu:Mut (H x)) (he:e=x ∨ H e=some (.own x)) (k:∀ b u,b ≠ e->s.heap.get? b=some u->h'.get? b=some u) (heo:∃ u,h'.get? e=some u)
    (new:ObjOk X.prog X.w (upd H x o) h' x o):Inv X pins σ (upd H x o) { s with heap:=h',toks:=t' }:=I.un (Un.write mu he k heo) (I.hok.write mu he k heo new)
theorem Inv.weak {σ':List (Option V)} (I:Inv X pins σ H s) (hl:σ'.length=σ.length) (w:∀ (i:Nat) v,σ'[i]?=some (some v)->σ[i]?=some (some v)):Inv X pins σ' H s :=
  ⟨I.ok,I.os,I.bare,I.base,let ⟨m,hn,hl'⟩:=I.loc;⟨m,hn,fun i x v e1 e2 e3=>hl' i x v e1 (w i v e2) e3⟩,I.cell,I.free,I.freeC,I.pin,I.hok,hl.trans I.len⟩
theorem Inv.pins_of {pins':List (Addr × Obj)} (I:Inv X pins σ H s) (h:∀ p ∈ pins',s.heap.get? p.1=some p.2/\H p.1=none/\p.1 ≠ X.env.locals/\p.1 ∉ X.fs/\∀ v,p.2.data ≠ .cell v):Inv X pins' σ H s :=
  ⟨I.ok,I.os,I.bare,I.base,I.loc,I.cell,I.free,I.freeC,fun p hp=>(List.mem_append.mp hp).elim (fun z=>I.pin p (List.mem_append_left _ z)) (h p),I.hok,I.len⟩
theorem nodup_ix {N:List Str} (hN:N.Nodup) {i j:Nat} {x:Str} (a:N[i]?=some x) (b:N[j]?=some x):i=j:=by
  obtain ⟨h1,e1⟩:=List.getElem?_eq_some_iff.mp a
  obtain ⟨h2,e2⟩:=List.getElem?_eq_some_iff.mp b
  exact (List.getElem_inj hN).mp (e1.trans e2.symm)
theorem store_ok2 {M:Model} {A:Around} {E:Value->Shared->Prop} {i:Nat} {x:Str} {v:V} {u:Value} {Q:Unit->Shared->Prop} (I:Inv X pins σ H s) (hN:X.N.Nodup) (hi:X.N[i]?=some x) (hx:Loc X.env.scope x) (r:RelV v u)
    (h:∀ s',Inv X pins (σ.set i (some v)) H s'->(∃ a,Heap.SameBut a s.heap s'.heap/\(a=X.env.locals ∨ X.env.cells.lookup x=some a))->Q () s') (hf:X.fn x=true ∨ X.env.scope.names.lookup x=some .local:=by first | exact .inl rfl | exact .inr rfl | assumption):wpAny M A (storeName X.env x u) Q E s:=by
  obtain ⟨m,hn,hl⟩:=id I.loc
  have hcls:(X.env.scope.kind == .class || (X.env.scope.kind == .module && X.env.locals != X.env.globals))=false:=by rw [I.ok.kind];rfl
  have hiσ:i < σ.length:=by rw [I.len];exact (List.getElem?_eq_some_iff.mp hi).1
  have cne:=I.cne
  have tracked:∀ {a:Addr} {h':Heap},(∃ o,s.heap.get? a=some o/\H a=none)->Heap.SameBut a s.heap h'->HOk X.prog X.w H h':=fun {a h'} ha hs b ob e=>by
    obtain ⟨_,_,hfree⟩:=ha
    refine (I.hok b ob e).stay (fun c w' hc q=>(hs.2 c ?_).trans q) (fun _ q=>q) fun _ _ q=>q
    rintro rfl
    rcases hc with rfl | hc
    · rw [hfree] at e;cases e
    · rw [hfree] at hc;cases hc
  rcases hx with hk | hk
  · refine wpAny_storeName_local hk hn (fun h' hn' hs=>?_) hcls
    obtain ⟨oL,_,_,hoL,_⟩:=id hn
    refine h _ ⟨I.ok,I.os,I.bare,⟨fun b o e n hb hx=>?_,fun b o e n hb hx=>?_,I.base.free,fun b o e hx=>?_,I.base.tups,I.base.frzs,I.base.tbls⟩,⟨_,hn',fun j y v' e1 e2 e3=>?_⟩,fun y c e=>?_,I.free,I.freeC,fun p hp=>?_,tracked ⟨oL,hoL,I.free⟩ hs,by simpa using I.len⟩ ⟨_,hs,.inl rfl⟩
    · exact (hs.2 b (Nat.ne_of_lt (Nat.lt_of_lt_of_le (Heap.lt_size e) I.ok.above))).trans (I.base.keep b o e n hb hx)
    · obtain ⟨sl,e1⟩:=I.base.slot b o e n hb hx
      exact ⟨sl,(hs.2 b (Nat.ne_of_lt (Nat.lt_of_lt_of_le (Heap.lt_size e) I.ok.above))).trans e1⟩
    · obtain ⟨o',e1⟩:=I.base.there b o e hx
      exact ⟨o',(hs.2 b (Nat.ne_of_lt (Nat.lt_of_lt_of_le (Heap.lt_size e) I.ok.above))).trans e1⟩
    · by_cases hj:j=i
      · subst hj
        rw [hi] at e1;cases e1
        rw [List.getElem?_set_self hiσ] at e2
        cases e2
        exact ⟨u,r,.inl ⟨hk,by simp⟩⟩
      · rw [List.getElem?_set_ne (Ne.symm hj)] at e2
        obtain ⟨u',r',q⟩:=hl j y v' e1 e2 e3
        refine ⟨u',r',?_⟩
        rcases q with ⟨k,e⟩ | ⟨k,c,e,z⟩
        · refine .inl ⟨k,?_⟩
          have:y ≠ x:=fun e=>hj (nodup_ix hN e1 (e ▸ hi))
          simp [this,e]
        · exact .inr ⟨k,c,e,z.sameBut hs (cne y c e)⟩
    · obtain ⟨w',z⟩:=I.cell y c e
      exact ⟨w',z.sameBut hs (cne y c e)⟩
    · obtain ⟨e,n,ne,nf,d⟩:=I.pin p hp
      exact ⟨(hs.2 p.1 ne).trans e,n,ne,nf,d⟩
  · have hfn:X.fn x=true:=by
      rcases hf with z | z
      · exact z
      · rw [z] at hk;cases hk
    obtain ⟨c,hc⟩:=I.ok.has x (.inl hk)
    obtain ⟨w',z⟩:=I.cell x c hc
    refine wpAny_storeName_cell I.ok.kind hk hc z (fun h' hc' hs=>?_)
    obtain ⟨oc,hoc,hocd⟩:=id z
    refine h { s with heap:=h' } ⟨I.ok,I.os,I.bare,⟨fun b o e n hb hx=>?_,fun b o e n hb hx=>?_,I.base.free,fun b o e hx=>?_,I.base.tups,I.base.frzs,I.base.tbls⟩,⟨m,hn.sameBut hs (Ne.symm (cne x c hc)),fun j y v' e1 e2 e3=>?_⟩,fun y c' e=>?_,I.free,I.freeC,fun p hp=>?_,tracked ⟨oc,hoc,I.freeC x c hc⟩ hs,by simpa using I.len⟩ ⟨c,hs,.inr hc⟩
    · exact (hs.2 b (Nat.ne_of_lt (Nat.lt_of_lt_of_le (Heap.lt_size e) (I.ok.cab x c hfn hc)))).trans (I.base.keep b o e n hb hx)
    · obtain ⟨sl,e1⟩:=I.base.slot b o e n hb hx
      exact ⟨sl,(hs.2 b (Nat.ne_of_lt (Nat.lt_of_lt_of_le (Heap.lt_size e) (I.ok.cab x c hfn hc)))).trans e1⟩
    · obtain ⟨o',e1⟩:=I.base.there b o e hx
      exact ⟨o',(hs.2 b (Nat.ne_of_lt (Nat.lt_of_lt_of_le (Heap.lt_size e) (I.ok.cab x c hfn hc)))).trans e1⟩
    · by_cases hj:j=i
      · subst hj
        rw [hi] at e1;cases e1
        rw [List.getElem?_set_self hiσ] at e2
        cases e2
        exact ⟨u,r,.inr ⟨.inl hk,c,hc,hc'⟩⟩
      · rw [List.getElem?_set_ne (Ne.symm hj)] at e2
        obtain ⟨u',r',q⟩:=hl j y v' e1 e2 e3
        refine ⟨u',r',?_⟩
        rcases q with q | ⟨k,c',e,z'⟩
        · exact .inl q
        · refine .inr ⟨k,c',e,z'.sameBut hs ?_⟩
          rintro rfl
          exact hj (nodup_ix hN e1 (I.ok.inj _ _ _ e hc ▸ hi))
    · by_cases hcc:c'=c
      · subst hcc;exact ⟨_,hc'⟩
      · obtain ⟨w2,z2⟩:=I.cell y c' e
        exact ⟨w2,z2.sameBut hs hcc⟩
    · obtain ⟨e,n,ne,nf,d⟩:=I.pin p hp
      refine ⟨(hs.2 p.1 ?_).trans e,n,ne,nf,d⟩
      intro q
      rw [q,hoc] at e
      have q':oc=p.2:=Option.some.inj e
      exact d w' (by rw [<- q'];exact hocd)
theorem store_ok {M:Model} {A:Around} {E:Value->Shared->Prop} {i:Nat} {x:Str} {v:V} {u:Value} {Q:Unit->Shared->Prop} (I:Inv X pins σ H s) (hN:X.N.Nodup) (hi:X.N[i]?=some x) (hx:Loc X.env.scope x) (r:RelV v u)
    (h:∀ s',Inv X pins (σ.set i (some v)) H s'->Q () s') (hf:X.fn x=true ∨ X.env.scope.names.lookup x=some .local:=by first | exact .inl rfl | exact .inr rfl | assumption):wpAny M A (storeName X.env x u) Q E s :=
  store_ok2 I hN hi hx r (fun s' I' _=>h s' I') hf
theorem Inv.call' {s':Shared} {ch:List Addr} (I:Inv X pins σ H s) (ho:s'.os=s.os) (u:Un (frs X.stack) ch H H' s.heap s'.heap) (hok:HOk X.prog X.w H' s'.heap) (hg:AllBare s'.gens)
    (hch:∀ b ∈ ch,(b ∈ X.ex ∨ X.s₀.heap.objs.size <= b)/\b ≠ X.env.locals/\(∀ x c,X.env.cells.lookup x=some c->c ≠ b)/\∀ p ∈ X.pn ++ pins,p.1 ≠ b):Inv X pins σ H' s':=by
  obtain ⟨h',g',d',t',o'⟩:=s'
  have e:o'=s.os:=ho
  subst e
  exact I.call (g':=g') (t':=t') (d':=d') u hok hg hch
end
noncomputable abbrev XK:=Value->Option Addr->Hp->Prop
noncomputable abbrev St:=List (Option V)
noncomputable abbrev VK:=V->Hp->Prop
noncomputable abbrev TE:=St->Hp->VK->Prop
noncomputable abbrev TT:=St->Hp->(Bool->Hp->Prop)->Prop
noncomputable abbrev TA:=St->Hp->(List V->Hp->Prop)->Prop
structure Ends where
  nx:St->Hp->Prop
  rt:VK
  bk:St->Hp->Prop:=fun _ _=>False
  ct:St->Hp->Prop:=fun _ _=>False
noncomputable abbrev TS:=Ends->St->Hp->Prop
noncomputable def EP (X:Cx) (pins:List (Addr × Obj)) (σ:St) (Q:VK) (u:Value) (s':Shared):Prop:=∃ v H',Inv X pins σ H' s'/\RelV v u/\Q v H'
noncomputable def TP (X:Cx) (pins:List (Addr × Obj)) (σ:St) (Q:Bool->Hp->Prop) (b:Bool) (s':Shared):Prop:=∃ H',Inv X pins σ H' s'/\Q b H'
noncomputable def AP (X:Cx) (pins:List (Addr × Obj)) (σ:St) (Q:List V->Hp->Prop) (us:List Value) (s':Shared):Prop:=∃ vs H',Inv X pins σ H' s'/\Vals vs us/\Q vs H'
noncomputable def SP (X:Cx) (pins:List (Addr × Obj)) (D:Ends) (f:Flow) (s':Shared):Prop :=
  match f with
  | .next=>∃ σ' H',Inv X pins σ' H' s'/\D.nx σ' H'
  | .brk=>∃ σ' H',Inv X pins σ' H' s'/\D.bk σ' H'
  | .cont=>∃ σ' H',Inv X pins σ' H' s'/\D.ct σ' H'
  | .ret u=>∃ v σ' H',Inv X pins σ' H' s'/\RelV v u/\D.rt v H'
noncomputable def PE (X:Cx) (e:Expr) (t:TE):Prop :=
  ∀ (pins:List (Addr × Obj)) (s:Shared) (σ:St) (H:Hp) (Q:VK),Inv X pins σ H s->t σ H Q->wpAny (model X.prog X.w) X.A (eval e X.env) (EP X pins σ Q) X.xe s
noncomputable def PT (X:Cx) (e:Expr) (t:TT):Prop :=
  ∀ (pins:List (Addr × Obj)) (s:Shared) (σ:St) (H:Hp) (Q:Bool->Hp->Prop),Inv X pins σ H s->t σ H Q->wpAny (model X.prog X.w) X.A (isTrue e X.env (eval e X.env)) (TP X pins σ Q) X.xe s
noncomputable def PW (X:Cx) (e:Expr) (t:TT):Prop :=
  ∀ (whole:Sem Value) (pins:List (Addr × Obj)) (s:Shared) (σ:St) (H:Hp) (Q:Bool->Hp->Prop),Inv X pins σ H s->t σ H Q->wpAny (model X.prog X.w) X.A (isTrue e X.env whole) (TP X pins σ Q) X.xe s
theorem PW.pt {X:Cx} {e:Expr} {t:TT} (h:PW X e t):PT X e t:=h _
noncomputable def PA (X:Cx) (es:List Expr) (t:TA):Prop :=
  ∀ (pos:Pos) (pins:List (Addr × Obj)) (s:Shared) (σ:St) (H:Hp) (Q:List V->Hp->Prop),Inv X pins σ H s->t σ H Q->wpAny (model X.prog X.w) X.A (spliced (backTo pos (starEach es X.env))) (AP X pins σ Q) X.xe s
noncomputable def PS (X:Cx) (st:Stmt) (t:TS):Prop :=
  ∀ (pins:List (Addr × Obj)) (s:Shared) (σ:St) (H:Hp) (D:Ends),Inv X pins σ H s->t D σ H->wpAny (model X.prog X.w) X.A (exec st X.env) (SP X pins D) X.xe s
noncomputable def PSs (X:Cx) (st:List Stmt) (t:TS):Prop :=
  ∀ (pins:List (Addr × Obj)) (s:Shared) (σ:St) (H:Hp) (D:Ends),Inv X pins σ H s->t D σ H->wpAny (model X.prog X.w) X.A (execs st X.env) (SP X pins D) X.xe s
theorem thn {α:Type} {t:Sem α} {Q Q':α->Shared->Prop} {M:Model} {A:Around} {E:Value->Shared->Prop} {s:Shared} (h:wpAny M A t Q E s) (hQ:∀ a s,Q a s->Q' a s):wpAny M A t Q' E s:=wpAny_mono h hQ fun _ _ x=>x
end L2
namespace L2
open PySem PySem.Spec PyProof.Rows
section
variable {X:Cx}
noncomputable def tVar (i:Nat):TE:=fun σ H Q=>∃ v,σ[i]?=some (some v)/\Q v H
noncomputable def tC (v:V):TE:=fun _ H Q=>Q v H
theorem pe_var {i:Nat} {x:Str} {pos:Pos} (hN:X.N[i]?=some x) (hv:Vis X.env.scope x) (hd:(x == ("__debug__":Str))=false:=by decide) (hcd:(x == ("__classdict__":Str))=false:=by decide):PE X (.Name x pos) (tVar i):=by
  intro pins s σ H Q I h
  obtain ⟨v,e,h⟩:=h
  obtain ⟨m,hn,hl⟩:=I.loc
  obtain ⟨u,r,l⟩:=hl i x v hN e hv
  have fin:EP X pins σ Q u s:=⟨v,H,I,r,h⟩
  rcases l with ⟨hk,hm⟩ | ⟨hk,c,hc,hcell⟩
  · exact wpAny_Name (wpAny_loadName_local I.ok.kind hk hn hm fin) hd
  · rcases hk with hk | hk
    · exact wpAny_Name (wpAny_loadName_cell I.ok.kind hk hc hcell fin) hd
    · exact wpAny_Name (wpAny_loadName_free I.ok.kind hk hc hcell fin hcd) hd
theorem pe_int {i j pos}:PE X (.Constant (.int i) j pos) (tC (.int i)):=fun _ _ _ H _ I h=>wpAny_Constant_int ⟨.int i,H,I.tok _,⟨_,rfl⟩,h⟩
theorem pe_bl {b j pos}:PE X (.Constant (.bool b) j pos) (tC (.bl b)):=fun _ _ _ H _ I h=>Constant_bool ⟨.bl b,H,I,rfl,h⟩
theorem pe_non {j pos}:PE X (.Constant .none j pos) (tC .non):=fun _ _ _ H _ I h=>Constant_none ⟨.non,H,I,rfl,h⟩
theorem pe_str {x j pos}:PE X (.Constant (.str x) j pos) (tC (.str x)):=fun _ _ _ H _ I h=>Calls.Constant_str ⟨.str x,H,I.tok _,⟨_,rfl⟩,h⟩
noncomputable def Gl (X:Cx) (x:Str):Prop:=X.env.kindOf x=some .globalImplicit
theorem ld_glob {E:Value->Shared->Prop} {pins:List (Addr × Obj)} {s:Shared} {σ:St} {H:Hp} {x:Str} {u:Value} {pos:Pos} {Q:Value->Shared->Prop} (I:Inv X pins σ H s) (hg:Gl X x) (hm:X.mg x=some u) (h:Q u s)
    (hd:(x == ("__debug__":Str))=false:=by decide):wpAny (model X.prog X.w) X.A (eval (.Name x pos) X.env) Q E s :=
  Calls.Name_function_global I.ok.kind hg (Calls.loadGlobal_global (by rw [I.ok.glob];exact I.mod.glob.keeps I.bk) hm h) hd
theorem ld_blt {E:Value->Shared->Prop} {pins:List (Addr × Obj)} {s:Shared} {σ:St} {H:Hp} {x:Str} {u:Value} {pos:Pos} {Q:Value->Shared->Prop} (I:Inv X pins σ H s) (hg:Gl X x) (hm:X.mg x=none) (hv:bootBuiltins x=some u) (h:Q u s)
    (hn:x ≠ "__name__":=by decide) (hd:(x == ("__debug__":Str))=false:=by decide):wpAny (model X.prog X.w) X.A (eval (.Name x pos) X.env) Q E s:=by
  obtain ⟨mb,h1,h2⟩:=I.mod.blt
  exact Calls.Name_function_global I.ok.kind hg (Calls.loadGlobal_builtin (by rw [I.ok.glob];exact I.mod.glob.keeps I.bk) hm (by rw [I.ok.blt];exact h1.keeps I.bk) ((h2 x hn).trans hv) h) hd
theorem pe_glob {x:Str} {v:V} {u:Value} {pos:Pos} (hg:Gl X x) (hm:X.mg x=some u) (r:RelV v u) (hd:(x == ("__debug__":Str))=false:=by decide):PE X (.Name x pos) (tC v) :=
  fun _ _ _ H _ I h=>ld_glob I hg hm ⟨v,H,I,r,h⟩ hd
theorem pe_bltn {x:Str} {v:V} {u:Value} {pos:Pos} (hg:Gl X x) (hm:X.mg x=none) (hv:bootBuiltins x=some u) (r:RelV v u) (hn:x ≠ "__name__":=by decide) (hd:(x == ("__debug__":Str))=false:=by decide):PE X (.Name x pos) (tC v) :=
  fun _ _ _ H _ I h=>ld_blt I hg hm hv ⟨v,H,I,r,h⟩ hn hd
variable {a b:Expr} {ta tb:TE} {pos:Pos}
noncomputable def PC (X:Cx) (op:CmpOp) (a b:Expr) (t:TE):Prop :=
  ∀ (pins:List (Addr × Obj)) (s:Shared) (σ:St) (H:Hp) (Q:VK),Inv X pins σ H s->t σ H Q ->
    wpAny (model X.prog X.w) X.A (eval a X.env) (fun v s₁=>wpAny (model X.prog X.w) X.A (eval b X.env) (fun u s₂=>wpAny (model X.prog X.w) X.A (compareOp op v u) (EP X pins σ Q) X.xe s₂) X.xe s₁) X.xe s
theorem nobehind (b:Expr) {op:CmpOp} (h:op ≠ .In) (h2:op ≠ .NotIn):behindInMarks op b=false:=by
  have e1:(op == CmpOp.In)=false:=by cases op <;> first | rfl | exact absurd rfl h
  have e2:(op == CmpOp.NotIn)=false:=by cases op <;> first | rfl | exact absurd rfl h2
  cases b <;> simp [behindInMarks,e1,e2]
noncomputable def tIsN (ta:TE):TE:=fun σ H Q=>ta σ H fun x H1=>Q (.bl (decide (x=.non))) H1
theorem RelV.none_iff {x:V} {v:Value} (r:RelV x v):(v == Value.none)=decide (x=.non):=by
  cases x with
  | non=>cases r;rfl
  | bl _=>cases r;rfl
  | int _=>obtain ⟨t,rfl⟩:=r;rfl
  | str _=>obtain ⟨t,rfl⟩:=r;rfl
  | byt _=>obtain ⟨t,rfl⟩:=r;rfl
  | flt _=>obtain ⟨t,rfl⟩:=r;rfl
  | ref _=>cases r;rfl
  | ty _=>cases r;rfl
theorem pc_isN {j pos'} (ha:PE X a ta):PC X .Is a (.Constant .none j pos') (tIsN ta):=by
  intro pins s σ H Q I h
  refine thn (ha pins s σ H _ I h) fun v s1 ⟨x,H1,I1,r1,q1⟩=>?_
  exact Constant_none (is_none_gen ⟨.bl _,H1,I1,by rw [r1.none_iff];rfl,q1⟩)
noncomputable def tB (t:TE):TT:=fun σ H Q=>t σ H fun x H1=>∃ c,x=.bl c/\Q c H1
theorem pt_cmp {op:CmpOp} {t:TE} (h:PC X op a b t) (h1:behindInMarks op b=false:=by first | exact nobehind _ (by decide) (by decide) | rfl):PT X (.Compare a [op] [b] pos) (tB t):=by
  intro pins s σ H Q I hw
  refine wpAny_isTrue_Compare1 (thn (h pins s σ H _ I hw) fun v s1 h1=>thn h1 fun u s2 h2=>thn h2 fun c s3 ⟨x,H1,I1,r1,q1⟩=>?_) h1
  obtain ⟨d,rfl,q⟩:=q1
  cases r1
  exact wpAny_truthy_bool ⟨H1,I1,q⟩
theorem pt_val {e:Expr} {t:TE} (h:PE X e t) (he:∀ whole,isTrue e X.env whole=(do let v <- whole;standAt e.pos;holding [v] (truthy v)):=by intro _;rfl):PT X e (tB t):=by
  intro pins s σ H Q I hw
  refine isTrue_plain (thn (h pins s σ H _ I hw) fun v s1 ⟨x,H1,I1,r1,q1⟩=>?_) (he _)
  obtain ⟨d,rfl,q⟩:=q1
  cases r1
  exact wpAny_truthy_bool ⟨H1,I1,q⟩
variable {tA tB':TT} {rest:List Expr}
noncomputable def tOr (t u:TT):TT:=fun σ H Q=>t σ H fun c H1=>if c=true then Q true H1 else u σ H1 Q
noncomputable def tNot (t:TT):TT:=fun σ H Q=>t σ H fun c H1=>Q (!c) H1
theorem pw_or1 (ha:PT X a tA):PW X (.BoolOp .Or [a] pos) tA:=by
  intro wh pins s σ H Q I h
  refine isTrue_or (thn (ha pins s σ H Q I h) fun c s1 e=>?_)
  cases c with
  | false=>exact isTrue_or_nil e
  | true=>exact e
theorem pw_or (ha:PT X a tA) (hb:PW X (.BoolOp .Or (b :: rest) pos) tB'):PW X (.BoolOp .Or (a :: b :: rest) pos) (tOr tA tB'):=by
  intro wh pins s σ H Q I h
  refine isTrue_or (thn (ha pins s σ H _ I h) fun c s1 ⟨H1,I1,q1⟩=>?_)
  cases c with
  | true=>exact ⟨H1,I1,q1⟩
  | false=>exact hb wh pins s1 σ H1 Q I1 q1
theorem pt_not (ha:PT X a tA):PT X (.UnaryOp .Not a pos) (tNot tA):=by
  intro pins s σ H Q I h
  exact isTrue_not (ha pins s σ H (fun c H1=>Q (!c) H1) I h)
noncomputable def tAndV (ta tb:TE):TE:=fun σ H Q=>ta σ H fun x H1=>∃ c,x=.bl c/\if c=true then tb σ H1 Q else Q (.bl false) H1
noncomputable def tNotV (ta:TE):TE:=fun σ H Q=>ta σ H fun x H1=>∃ c,x=.bl c/\Q (.bl (!c)) H1
theorem pe_one {op} {t:TE} (h:PE X a t):PE X (.BoolOp op [a] pos) t:=fun pins s σ H Q I hw=>BoolOp_one (h pins s σ H Q I hw)
theorem pe_and (ha:PE X a ta) (hb:PE X (.BoolOp .And (b :: rest) pos) tb):PE X (.BoolOp .And (a :: b :: rest) pos) (tAndV ta tb):=by
  intro pins s σ H Q I h
  refine BoolOp_and (thn (ha pins s σ H _ I h) fun v s1 ⟨x,H1,I1,r1,q1⟩=>?_)
  obtain ⟨c,rfl,q1⟩:=q1
  cases r1
  refine wpAny_truthy_bool ?_
  cases c with
  | true=>exact hb pins s1 σ H1 Q I1 q1
  | false=>exact ⟨.bl false,H1,I1,rfl,q1⟩
theorem pe_not (ha:PE X a ta):PE X (.UnaryOp .Not a pos) (tNotV ta):=by
  intro pins s σ H Q I h
  refine UnaryOp_ (thn (ha pins s σ H _ I h) fun v s1 ⟨x,H1,I1,r1,q1⟩=>?_)
  obtain ⟨c,rfl,q1⟩:=q1
  cases r1
  exact not_of (wpAny_truthy_bool ⟨.bl (!c),H1,I1,rfl,q1⟩)
noncomputable def tIf (t:TT) (ta tb:TE):TE:=fun σ H Q=>t σ H fun c H1=>if c=true then ta σ H1 Q else tb σ H1 Q
theorem pe_ifExp {c:Expr} (hc:PT X c tA) (ha:PE X a ta) (hb:PE X b tb):PE X (.IfExp c a b pos) (tIf tA ta tb):=by
  intro pins s σ H Q I h
  refine wpAny_IfExp (thn (hc pins s σ H _ I h) fun d s1 ⟨H1,I1,q1⟩=>?_)
  cases d with
  | true=>exact ha pins s1 σ H1 Q I1 q1
  | false=>exact hb pins s1 σ H1 Q I1 q1
end
end L2
namespace L2
open PySem PySem.Spec PyProof.Rows
noncomputable def SqL (K:PySem.W.Frag) (H:Hp) (a:Addr) (xs:List V):Prop :=
  Rd H a (.lst xs) ∨
    ∃ (o:Obj) (its:Array Value) (n:Nat),K.lookup a=some o/\o.cls=.type "list"/\o.dict=none/\o.data=.seq its n/\its.size <= sizeLine/\Vals xs its.toList
noncomputable def SqT (K:PySem.W.Frag) (H:Hp) (a:Addr) (xs:List V):Prop :=
  Rd H a (.tup xs) ∨
    ∃ (o:Obj) (its:Array Value) (n:Nat),K.lookup a=some o/\o.cls=.type "tuple"/\o.data=.seq its n/\its.size <= sizeLine/\Vals xs its.toList
noncomputable def absV:Value->Option V
  | .none=>some .non
  | .bool b=>some (.bl b)
  | .int i _=>some (.int i)
  | .str x _=>some (.str x)
  | .bytes b _=>some (.byt b)
  | .float b _=>some (.flt b)
  | .ref a=>some (.ref a)
  | .type n=>some (.ty n)
  | _=>none
theorem RelV.abs {x:V} {u:Value} (r:RelV x u):absV u=some x:=by
  cases x with
  | non=>cases r;rfl
  | bl _=>cases r;rfl
  | int _=>obtain ⟨t,rfl⟩:=r;rfl
  | str _=>obtain ⟨t,rfl⟩:=r;rfl
  | byt _=>obtain ⟨t,rfl⟩:=r;rfl
  | flt _=>obtain ⟨t,rfl⟩:=r;rfl
  | ref _=>cases r;rfl
  | ty _=>cases r;rfl
theorem RelV.inj {x y:V} {u:Value} (r:RelV x u) (q:RelV y u):x=y:=Option.some.inj (r.abs.symm.trans q.abs)
theorem Vals.inj:∀ {xs ys:List V} {us:List Value},Vals xs us->Vals ys us->xs=ys
  | _,_,_,.nil,.nil=>rfl
  | _,_,_,.cons r t,.cons r' t'=>by rw [r.inj r',Vals.inj t t']
section
variable {X:Cx} {pins:List (Addr × Obj)} {σ:St} {H:Hp} {s:Shared} {a:Addr} {xs ys:List V}
theorem SqL.of {K:PySem.W.Frag} (h:H a=some (.lst xs)):SqL K H a xs:=.inl (.inl h)
theorem SqT.of {K:PySem.W.Frag} (h:H a=some (.tup xs)):SqT K H a xs:=.inl (.inl h)
theorem Inv.list (I:Inv X pins σ H s) (h:SqL X.K H a xs):∃ its:List Value,Vals xs its/\PlainL s.heap a its.toArray/\xs.length <= sizeLine:=by
  rcases h with h | ⟨o,its,n,hk,hc,hd,hs,hz,r⟩
  · obtain ⟨z,its,n,r,e⟩:=h.ok I.hok
    exact ⟨its,r,⟨_,n,e,rfl,rfl,rfl⟩,z⟩
  · refine ⟨its.toList,r,⟨o,n,I.kIn a o hk,hc,hd,by simpa using hs⟩,?_⟩
    have e:=r.length
    simp only [Array.length_toList] at e
    lia
theorem Inv.tuple (I:Inv X pins σ H s) (h:SqT X.K H a xs):∃ its:List Value,Vals xs its/\IsTup s.heap a its.toArray/\xs.length <= sizeLine:=by
  rcases h with h | ⟨o,its,n,hk,hc,hs,hz,r⟩
  · obtain ⟨z,its,r,p⟩:=h.ok I.hok
    exact ⟨its,r,p,z⟩
  · refine ⟨its.toList,r,⟨o,I.kIn a o hk,hc,n,by simpa using hs⟩,?_⟩
    have e:=r.length
    simp only [Array.length_toList] at e
    lia
theorem Inv.list_inj (I:Inv X pins σ H s) (h:SqL X.K H a xs) (h':SqL X.K H a ys):xs=ys:=by
  obtain ⟨its,r,⟨o,n,e,_,_,d⟩,_⟩:=I.list h
  obtain ⟨its',r',⟨o',n',e',_,_,d'⟩,_⟩:=I.list h'
  rw [e] at e';cases e'
  rw [d] at d'
  injection d' with d1 _
  have:its=its':=by simpa using congrArg Array.toList d1
  subst this
  exact r.inj r'
theorem Inv.tuple_inj (I:Inv X pins σ H s) (h:SqT X.K H a xs) (h':SqT X.K H a ys):xs=ys:=by
  obtain ⟨its,r,⟨o,e,_,n,d⟩,_⟩:=I.tuple h
  obtain ⟨its',r',⟨o',e',_,n',d'⟩,_⟩:=I.tuple h'
  rw [e] at e';cases e'
  rw [d] at d'
  injection d' with d1 _
  have:its=its':=by simpa using congrArg Array.toList d1
  subst this
  exact r.inj r'
end
noncomputable abbrev Cx.wish (X:Cx) (E:Value->Shared->Prop):Cx:={ X with xe:=E }
noncomputable abbrev Cx.nox (X:Cx):Cx:=X.wish fun _ _=>False
theorem Cx.Ok.wish {X:Cx} (ok:X.Ok) (E:Value->Shared->Prop):(X.wish E).Ok :=
  ⟨ok.mod,ok.kind,ok.glob,ok.blt,ok.above,ok.inj,ok.has,ok.cab,ok.hd,ok.frames,ok.stk,ok.exf,ok.bs,ok.bsz,ok.noex,ok.exfs,ok.funs,ok.frf⟩
theorem Cx.Ok.unwish {X:Cx} {E:Value->Shared->Prop} (ok:(X.wish E).Ok):X.Ok :=
  ⟨ok.mod,ok.kind,ok.glob,ok.blt,ok.above,ok.inj,ok.has,ok.cab,ok.hd,ok.frames,ok.stk,ok.exf,ok.bs,ok.bsz,ok.noex,ok.exfs,ok.funs,ok.frf⟩
section
variable {X:Cx} {pins:List (Addr × Obj)} {σ:St} {H:Hp} {s:Shared} {E:Value->Shared->Prop}
theorem Inv.wish (I:Inv X pins σ H s) (E:Value->Shared->Prop):Inv (X.wish E) pins σ H s:=⟨I.ok.wish E,I.os,I.bare,I.base,I.loc,I.cell,I.free,I.freeC,I.pin,I.hok,I.len⟩
theorem Inv.unwish (I:Inv (X.wish E) pins σ H s):Inv X pins σ H s:=⟨I.ok.unwish,I.os,I.bare,I.base,I.loc,I.cell,I.free,I.freeC,I.pin,I.hok,I.len⟩
theorem SP.unwish {D:Ends} {f:Flow} {s':Shared} (h:SP (X.wish E) pins D f s'):SP X pins D f s':=by
  cases f with
  | next=>obtain ⟨σ',H',I,q⟩:=h;exact ⟨σ',H',I.unwish,q⟩
  | brk=>obtain ⟨σ',H',I,q⟩:=h;exact ⟨σ',H',I.unwish,q⟩
  | cont=>obtain ⟨σ',H',I,q⟩:=h;exact ⟨σ',H',I.unwish,q⟩
  | ret u=>obtain ⟨v,σ',H',I,r,q⟩:=h;exact ⟨v,σ',H',I.unwish,r,q⟩
theorem PSs.nox {st:List Stmt} {t:TS} (h:PSs X.nox st t):PSs X st t:=fun pins s σ H D I hw =>
  wpAny_mono (h pins s σ H D (I.wish _) hw) (fun _ _ q=>q.unwish) fun _ _ z=>False.elim z
end
section
variable {X:Cx} {st:Stmt} {rest:List Stmt} {t u:TS} {e:Expr} {te:TE} {pos:Pos}
noncomputable def tNext:TS:=fun D σ H=>D.nx σ H
noncomputable def tSeq (t u:TS):TS:=fun D σ H=>t { D with nx:=u D } σ H
theorem pss_nil:PSs X [] tNext:=fun _ _ σ H _ I h=>wpAny_execs_nil ⟨σ,H,I,h⟩
theorem pss_cons (h1:PS X st t) (h2:PSs X rest u):PSs X (st :: rest) (tSeq t u):=by
  intro pins s σ H D I h
  refine wpAny_execs_cons (thn (h1 pins s σ H { D with nx:=u D } I h) fun f s1 q=>?_)
  cases f with
  | next =>
    obtain ⟨σ',H',I',q⟩:=q
    exact h2 pins s1 σ' H' D I' q
  | ret v=>exact q
  | brk=>exact q
  | cont=>exact q
theorem pss_one (h1:PS X st t):PSs X [st] t:=by
  intro pins s σ H D I h
  refine wpAny_execs_cons (thn (h1 pins s σ H D I h) fun f s1 q=>?_)
  cases f with
  | next=>exact wpAny_execs_nil q
  | ret v=>exact q
  | brk=>exact q
  | cont=>exact q
theorem Inv.quiet {pins:List (Addr × Obj)} {σ:St} {H:Hp} {s:Shared} (I:Inv X pins σ H s):interactive X.env=false:=by simp [interactive,I.ok.kind]
noncomputable def tDrop (te:TE):TS:=fun D σ H=>te σ H fun _ H1=>D.nx σ H1
theorem ps_expr (he:PE X e te) (hs:swapsWith e none pos.line X.env=pure false:=by rfl):PS X (.Expr e pos) (tDrop te):=by
  intro pins s σ H D I h
  exact wpAny_Expr_any (thn (he pins s σ H _ I h) fun v s1 ⟨x,H1,I1,r1,q1⟩=>⟨σ,H1,I1,q1⟩) I.quiet hs
noncomputable def tRet (te:TE):TS:=fun D σ H=>te σ H D.rt
theorem ps_ret (he:PE X e te):PS X (.Return (some e) pos) (tRet te):=by
  intro pins s σ H D I h
  exact wpAny_Return_some (thn (he pins s σ H _ I h) fun v s1 ⟨x,H1,I1,r1,q1⟩=>⟨x,σ,H1,I1,r1,q1⟩)
noncomputable def tIfS (c:TT) (t u:TS):TS:=fun D σ H=>c σ H fun b H1=>if b=true then t D σ H1 else u D σ H1
theorem ps_if {c:Expr} {a b:List Stmt} {tc:TT} (hc:PT X c tc) (ha:PSs X a t) (hb:PSs X b u):PS X (.If c a b pos) (tIfS tc t u):=by
  intro pins s σ H D I h
  refine wpAny_If (thn (hc pins s σ H _ I h) fun d s1 ⟨H1,I1,q1⟩=>?_)
  cases d with
  | true=>exact ha pins s1 σ H1 D I1 q1
  | false=>exact hb pins s1 σ H1 D I1 q1
noncomputable def tNever:TS:=fun _ _ _=>False
theorem pss_never {sts:List Stmt}:PSs X sts tNever:=fun _ _ _ _ _ _ h=>h.elim
end
noncomputable abbrev TG:=V->St->Hp->(St->Hp->Prop)->Prop
noncomputable abbrev TGs:=List V->St->Hp->(St->Hp->Prop)->Prop
noncomputable def PG (X:Cx) (target:Expr) (t:TG):Prop :=
  ∀ (pins:List (Addr × Obj)) (s:Shared) (σ:St) (H:Hp) (v:V) (u:Value) (Q:St->Hp->Prop),Inv X pins σ H s->RelV v u->t v σ H Q ->
    wpAny (model X.prog X.w) X.A (assign target X.env u) (fun _ s'=>∃ σ' H',Inv X pins σ' H' s'/\Q σ' H') X.xe s
noncomputable def PGs (X:Cx) (ts:List Expr) (t:TGs):Prop :=
  ∀ (pins:List (Addr × Obj)) (s:Shared) (σ:St) (H:Hp) (vs:List V) (us:List Value) (Q:St->Hp->Prop),Inv X pins σ H s->Vals vs us->t vs σ H Q ->
    wpAny (model X.prog X.w) X.A (assignInOrder ((assignEach ts X.env).map (·.2)) us) (fun _ s'=>∃ σ' H',Inv X pins σ' H' s'/\Q σ' H') X.xe s
section
variable {X:Cx} {pos:Pos}
noncomputable def gName (i:Nat):TG:=fun v σ H Q=>Q (σ.set i (some v)) H
theorem pg_name {i:Nat} {x:Str} (hN:X.N.Nodup) (hi:X.N[i]?=some x) (hx:Loc X.env.scope x) (hf:X.fn x=true ∨ X.env.scope.names.lookup x=some .local:=by first | exact .inl rfl | exact .inr rfl | assumption):PG X (.Name x pos) (gName i):=by
  intro pins s σ H v u Q I r h
  exact wpAny_assign_Name (store_ok I hN hi hx r (fun s' I'=>⟨_,H,I',h⟩) hf)
noncomputable def gNil:TGs:=fun vs σ H Q=>vs=[]/\Q σ H
noncomputable def gCons (t:TG) (u:TGs):TGs:=fun vs σ H Q=>∃ v r,vs=v :: r/\t v σ H fun σ' H'=>u r σ' H' Q
theorem pgs_nil:PGs X [] gNil:=by
  intro pins s σ H vs us Q I r h
  obtain ⟨e,h⟩:=h
  subst e
  cases r
  exact assignInOrder_nil ⟨σ,H,I,h⟩
theorem pgs_cons {e:Expr} {es:List Expr} {t:TG} {u:TGs} (h1:PG X e t) (h2:PGs X es u)
    (hs:(assignEach (e :: es) X.env).map (·.2)=assign e X.env :: (assignEach es X.env).map (·.2):=by rfl):PGs X (e :: es) (gCons t u):=by
  intro pins s σ H vs us Q I r h
  obtain ⟨v,vr,e1,h⟩:=h
  subst e1
  cases r with
  | cons r rr =>
    rw [hs]
    refine assignInOrder_cons (thn (h1 pins s σ H _ _ _ I r h) fun _ s1 ⟨σ1,H1,I1,q1⟩=>?_)
    exact h2 pins s1 σ1 H1 _ _ Q I1 rr q1
noncomputable def gTup (K:PySem.W.Frag) (n:Nat) (t:TGs):TG:=fun v σ H Q=>∃ a xs,v=.ref a/\SqT K H a xs/\xs.length=n/\t xs σ H Q
theorem pg_tup {es:List Expr} {k:Nat} {t:TGs} {n:Nat} (hc:X.calm=true) (h:PGs X es t)
    (hn:(assignEach es X.env).length=n:=by rfl) (hst:(assignEach es X.env).findIdx? (·.1)=none:=by rfl):PG X (.Tuple es k pos) (gTup X.K n t):=by
  intro pins s σ H v u Q I r hw
  obtain ⟨a,xs,e1,hq,hl,hw⟩:=hw
  subst e1
  cases r
  obtain ⟨its,rv,ht,hz⟩:=I.tuple hq
  refine assign_Tuple_tuple (I.ok.hd hc) ht (by simp [hn,<- hl,rv.length]) hst fun h' hx=>?_
  have I1:Inv X pins σ H { s with heap:=h' }:=I.kept (t':=s.toks) fun b o e=>hx b o (Nat.ne_of_lt (Heap.lt_size e)) e
  exact h pins _ σ H xs _ Q I1 (by simpa using rv) hw
noncomputable def tAsg (te:TE) (g:TG):TS:=fun D σ H=>te σ H fun x H1=>g x σ H1 D.nx
theorem ps_asg {tg e:Expr} {te:TE} {g:TG} (he:PE X e te) (hg:PG X tg g) (hs:swapsWithSole [tg] e pos.line X.env=pure false:=by rfl) (hw:swappedStores [tg] e X.env=pure none:=by rfl)
    (h1:(assignEach [tg] X.env).map (·.2)=[assign tg X.env]:=by rfl):PS X (.Assign [tg] e pos) (tAsg te g):=by
  intro pins s σ H D I h
  refine wpAny_Assign_stores (thn (he pins s σ H _ I h) fun v s1 ⟨x,H1,I1,r1,q1⟩=>?_) hs hw
  rw [h1]
  exact thn (hg pins s1 σ H1 x v _ I1 r1 q1) fun _ s2 q=>q
theorem ps_set {i:Nat} {x:Str} {e:Expr} {te:TE} {pos':Pos} (hN:X.N.Nodup) (hi:X.N[i]?=some x) (hx:Loc X.env.scope x) (he:PE X e te) (hs:swapsWith e (some (.Name x pos')) pos.line X.env=pure false:=by rfl) (hf:X.fn x=true ∨ X.env.scope.names.lookup x=some .local:=by first | exact .inl rfl | exact .inr rfl | assumption) :
    PS X (.Assign [.Name x pos'] e pos) (tAsg te (gName i)):=by
  intro pins s σ H D I h
  refine wpAny_Assign_Name (thn (he pins s σ H _ I h) fun v s1 ⟨y,H1,I1,r1,q1⟩=>?_) hs
  exact store_ok I1 hN hi hx r1 (fun s2 I2=>⟨_,H1,I2,q1⟩) hf
noncomputable def tPar (i j:Nat) (ta:TA):TS:=fun D σ H=>ta σ H fun vs H1=>∃ v w,vs=[v,w]/\D.nx ((σ.set i (some v)).set j (some w)) H1
theorem ps_par {i j:Nat} {x y:Str} {a b:Expr} {ta:TA} {px py pt:Pos} {kt k2 pt2} (hc:X.calm=true) (hN:X.N.Nodup) (hi:X.N[i]?=some x) (hj:X.N[j]?=some y) (hij:i ≠ j)
    (hx:X.env.scope.names.lookup x=some .local) (hy:X.env.scope.names.lookup y=some .local) (ha:PA X [a,b] ta)
    (hw:swappedStores [.Tuple [.Name x px,.Name y py] kt pt] (.Tuple [a,b] k2 pt2) X.env=pure (some [x,y]))
    (hs:swapsWithSole [.Tuple [.Name x px,.Name y py] kt pt] (.Tuple [a,b] k2 pt2) pos.line X.env=pure false:=by rfl) :
    PS X (.Assign [.Tuple [.Name x px,.Name y py] kt pt] (.Tuple [a,b] k2 pt2) pos) (tPar i j ta):=by
  intro pins s σ H D I h
  rw [exec_Assign_arm]
  refine wpAny_bind (wpAny_standAt ?_)
  rw [hs]
  refine wpAny_bind (wpAny_pure ?_)
  rw [if_neg (by decide)]
  refine wpAny_bind (Tuple_ (thn (ha _ pins s σ H _ I h) fun us s1 ⟨vs,H1,I1,r1,q1⟩=>?_))
  obtain ⟨v,w,e1,q1⟩:=q1
  subst e1
  obtain ⟨u1,u2,rfl,rv,rw'⟩:∃ u1 u2,us=[u1,u2]/\RelV v u1/\RelV w u2:=by
    cases r1 with
    | cons p q =>
      cases q with
      | cons p' q' =>
        cases q'
        exact ⟨_,_,rfl,p,p'⟩
  refine wpAny_newObj_type ?_ (by show 2 <= sizeLine;decide)
  have I2:Inv X pins σ H1 { s1 with heap:=s1.heap.push { cls:=.type "tuple",data:=.seq [u1,u2].toArray } }:=I1.kept (t':=s1.toks) fun b o e=>Heap.get?_push_of_some _ e
  rw [hw]
  refine wpAny_bind (wpAny_pure ?_)
  show wpAny (model X.prog X.w) X.A (do rule "assign.swapped-stores";let items <- unpackItems (.ref s1.heap.objs.size) 2 none;assignInOrder [fun v=>bindName X.env y v,fun v=>bindName X.env x v] items.reverse;pure Flow.next) _ _ _
  refine wpAny_bind (wpAny_rule (wpAny_bind (unpackItems_tuple (items:=#[u1,u2]) (I.ok.hd hc) (IsTup.new s1.heap _) fun h' hx'=>?_)))
  have I3:=I2.kept (h':=h') (t':=s1.toks) fun b o e=>hx' b o (Nat.ne_of_lt (Heap.lt_size e)) e
  show wpAny _ _ (assignInOrder [fun v=>bindName X.env y v,fun v=>bindName X.env x v] [u2,u1] >>= fun _=>pure Flow.next) _ _ _
  refine wpAny_bind (assignInOrder_cons (wpAny_bindName (store_ok I3 hN hj (.inl hy) rw' (fun s2 I4=>?_) (.inr hy))))
  refine assignInOrder_cons (wpAny_bindName (store_ok I4 hN hi (.inl hx) rv (fun s3 I5=>assignInOrder_nil (wpAny_pure ?_)) (.inr hx)))
  rw [List.set_comm _ _ (Ne.symm hij)] at I5
  exact ⟨_,H1,I5,q1⟩
end
section
variable {X:Cx} {pos:Pos}
noncomputable def tWhile (c:TT) (tb:TS):TS:=fun D σ H=>∃ W:Nat->St->Hp->Prop,(∃ m,W m σ H)/\∀ m σ H,W m σ H ->
  c σ H fun b H1=>if b=true then ∃ N:St->Hp->Prop,(∀ σ' H',N σ' H'->∃ m',m' < m/\W m' σ' H')/\tb { D with nx:=N,ct:=N,bk:=D.nx } σ H1 else D.nx σ H1
theorem ps_while {c:Expr} {body:List Stmt} {tc:TT} {tb:TS} (hp:PassesOwn (model X.prog X.w) X.A X.env X.xe) (hc:PT X c tc) (hb:PSs X body tb):PS X (.While c body [] pos) (tWhile tc tb):=by
  intro pins s σ H D I h
  obtain ⟨W,⟨m0,w0⟩,turn⟩:=h
  refine wpAny_While (codeAny_whileLoop (fun n s'=>∃ σ' H',Inv X pins σ' H' s'/\W n σ' H') ?_ m0 ⟨σ,H,I,w0⟩)
  rintro n s1 ⟨σ1,H1,I1,w1⟩
  refine wpAny_passesOwn hp (thn (hc pins s1 σ1 H1 _ I1 (turn n σ1 H1 w1)) fun b s2 ⟨H2,I2,q2⟩=>?_)
  cases b with
  | true =>
    obtain ⟨N,hN,q2⟩:=q2
    rw [if_pos rfl]
    refine wpAny_passesOwn hp (thn (hb pins s2 σ1 H2 _ I2 q2) fun f s3 q3=>?_)
    cases f with
    | next =>
      obtain ⟨σ3,H3,I3,n3⟩:=q3
      obtain ⟨m',hm,w3⟩:=hN σ3 H3 n3
      exact ⟨m',hm,σ3,H3,I3,w3⟩
    | cont =>
      obtain ⟨σ3,H3,I3,n3⟩:=q3
      obtain ⟨m',hm,w3⟩:=hN σ3 H3 n3
      exact ⟨m',hm,σ3,H3,I3,w3⟩
    | brk=>exact q3
    | ret v=>exact q3
  | false =>
    rw [if_neg Bool.false_ne_true]
    exact wpAny_execs_nil ⟨σ1,H2,I2,q2⟩
end
structure It where
  go:Nat->Hp->Prop
  yld:Nat->Hp->V->Hp->Prop
  stop:Nat->Hp->Prop
noncomputable def FpOk (X:Cx) (pins:List (Addr × Obj)) (H:Hp) (b:Addr):Prop :=
  H b=none/\b ≠ X.env.locals/\b ∉ X.fs/\(b ∈ X.ex ∨ X.s₀.heap.objs.size <= b)/\(∀ x c,X.env.cells.lookup x=some c->c ≠ b)/\∀ p ∈ X.pn ++ pins,p.1 ≠ b
theorem Inv.fpOk {X:Cx} {pins:List (Addr × Obj)} {σ:St} {H H':Hp} {s:Shared} {b:Addr} (I:Inv X pins σ H s) (hb:s.heap.objs.size <= b) (hn:H' b=none):FpOk X pins H' b:=by
  refine ⟨hn,Nat.ne_of_gt (Nat.lt_of_lt_of_le I.lt hb),I.nofs hb,.inr (Nat.le_trans I.sz hb),fun x c e z=>?_,fun p hp z=>?_⟩
  · obtain ⟨v,q⟩:=I.cell x c e
    exact absurd (Nat.lt_of_lt_of_le q.lt (by rw [z];exact hb)) (Nat.lt_irrefl _)
  · exact absurd (Nat.lt_of_lt_of_le (Heap.lt_size (I.pin p hp).1) (by rw [z];exact hb)) (Nat.lt_irrefl _)
structure Turn (P:Program) (w:World) (K:PySem.W.Frag) (tg:Expr) (J:It) (fp:List Addr) (it:Addr) (tn:Nat->Heap->Prop):Prop where
  mem:it ∈ fp
  obj:∀ i h,tn i h->∀ b ∈ fp,∃ o,h.get? b=some o/\∀ v,o.data ≠ .cell v
  keep:∀ i h h',tn i h->(∀ b ∈ fp,∀ o,h.get? b=some o->h'.get? b=some o)->tn i h'
  item:∀ (X:Cx),X.prog=P->X.w=w->X.K=K->X.calm=true->∀ (i:Nat) (pins:List (Addr × Obj)) (s:Shared) (σ:St) (H:Hp) (E:Value->Shared->Prop),Inv X pins σ H s->(∀ b ∈ fp,FpOk X pins H b)->tn i s.heap->J.go i H ->
    wpAny (model P w) X.A (pyNext (.ref it)) (fun r s1=>∃ u,r=some u /\
      wpAny (model P w) X.A (letOwnedTupleGo tg (.ref it) u) (fun _ s2=>∃ x H',Inv X pins σ H' s2/\RelV x u/\J.yld i H x H'/\tn (i + 1) s2.heap/\∀ b ∈ fp,H' b=none) E s1) E s
  done:∀ (X:Cx),X.prog=P->X.w=w->X.K=K->X.calm=true->∀ (i:Nat) (pins:List (Addr × Obj)) (s:Shared) (σ:St) (H:Hp) (E:Value->Shared->Prop),Inv X pins σ H s->(∀ b ∈ fp,FpOk X pins H b)->tn i s.heap->J.stop i H ->
    wpAny (model P w) X.A (pyNext (.ref it)) (fun r s1=>r=none/\Inv X pins σ H s1) E s
  self:∀ (A:Around) (i:Nat) (s:Shared) (Q:Value->Shared->Prop) (E:Value->Shared->Prop),tn i s.heap->Q (.ref it) s->wpAny (model P w) A (pyIter (.ref it)) Q E s
noncomputable abbrev TI:=St->Hp->(It->Hp->Prop)->Prop
noncomputable def PIE (X:Cx) (pins:List (Addr × Obj)) (σ:St) (tg:Expr) (R:It->Hp->Prop) (itv:Value) (s2:Shared):Prop :=
  ∃ (it:Addr) (fp:List Addr) (tn:Nat->Heap->Prop) (J:It) (H':Hp),itv=.ref it/\Inv X pins σ H' s2/\Turn X.prog X.w X.K tg J fp it tn/\tn 0 s2.heap/\(∀ b ∈ fp,FpOk X pins H' b)/\R J H'
noncomputable def PI (X:Cx) (tg iter:Expr) (wi:TI):Prop :=
  ∀ (pins:List (Addr × Obj)) (s:Shared) (σ:St) (H:Hp) (R:It->Hp->Prop),Inv X pins σ H s->wi σ H R ->
    wpAny (model X.prog X.w) X.A (eval iter X.env) (fun v s1=>wpAny (model X.prog X.w) X.A (pyIter v) (PIE X pins σ tg R) X.xe s1) X.xe s
theorem go_of {M:Model} {A:Around} {E:Value->Shared->Prop} {s:Shared} {tg:Expr} {it:Addr} {u:Value} {o:Obj} {n:String} {vs:Array Value} {Q:Unit->Shared->Prop} (ho:s.heap.get? it=some o) (hc:o.cls=.type n) (hd:o.data=.fields vs)
    (hn:["enumerate","zip","dict_itemiterator","dict_reverseitemiterator","odict_iterator","itertools.zip_longest","itertools.pairwise"].contains n=false) (hQ:Q () s):wpAny M A (letOwnedTupleGo tg (.ref it) u) Q E s:=by
  unfold letOwnedTupleGo
  cases tg <;> first
    | exact wpAny_pure hQ
    | (cases u <;> first
        | exact wpAny_pure hQ
        | (refine wpAny_bind (wpAny_load ho ?_)
           rw [hc,hd]
           show wpAny M A (if (["enumerate","zip","dict_itemiterator","dict_reverseitemiterator","odict_iterator","itertools.zip_longest","itertools.pairwise"].contains n && vs[0]? == some (rawInt _))=true then _ else _) Q E s
           rw [if_neg (by intro h;rw [hn,Bool.false_and] at h;cases h)]
           exact wpAny_pure hQ))
noncomputable def Itl (K:PySem.W.Frag) (a:Addr):It :=
  ⟨fun i H=>∃ xs x,SqL K H a xs/\xs[i]?=some x,fun i H x H'=>H'=H/\∀ xs,SqL K H a xs->xs[i]?=some x,fun i H=>∃ xs,SqL K H a xs/\xs.length <= i⟩
noncomputable def Itt (K:PySem.W.Frag) (a:Addr):It :=
  ⟨fun i H=>∃ xs x,SqT K H a xs/\xs[i]?=some x,fun i H x H'=>H'=H/\∀ xs,SqT K H a xs->xs[i]?=some x,fun i H=>∃ xs,SqT K H a xs/\xs.length <= i⟩
noncomputable def Itr (lo:Int) (n:Nat):It:=⟨fun i _=>i < n,fun i H x H'=>H'=H/\x=.int (lo + i),fun i _=>n <= i⟩
theorem turn_list {P:Program} {w:World} {K:PySem.W.Frag} {tg:Expr} (a it:Addr):Turn P w K tg (Itl K a) [it] it (fun i h=>h.IsListIter it a i) where
  mem:=by simp
  obj:=fun i h st b hb=>by
    have e:b=it:=by simpa using hb
    subst e
    obtain ⟨o,e,c,d⟩:=st
    exact ⟨o,e,fun v z=>by rw [d] at z;cases z⟩
  keep:=fun i h h' st k=>st.at fun o e=>k it (by simp) o e
  item:=by
    intro X hP hw hK hc i pins s σ H E I hf st hg
    subst hP hw hK
    obtain ⟨xs,x,hq,hx⟩:=hg
    obtain ⟨its,rv,p,hz⟩:=I.list hq
    obtain ⟨u,hu,ru⟩:=rv.get hx
    obtain ⟨f0,f1,f2,f3,f4,f5⟩:=hf it (by simp)
    refine wpAny_pyNext_list_item st p.isList (x:=u) (by simpa using hu) fun h' st' sb=>?_
    have I1:Inv X pins σ H { s with heap:=h' }:=I.turned (t':=s.toks) (fun b o hb e=>(sb.2 b hb).trans e) f0 f1 f3 f4 f5
    obtain ⟨o,e,c,d⟩:=id st'
    exact ⟨u,rfl,go_of (s:={ s with heap:=h' }) e c d (by decide) ⟨x,H,I1,ru,⟨rfl,fun ys hy=>by rw [I.list_inj hy hq];exact hx⟩,st',fun b hb=>(hf b hb).1⟩⟩
  done:=by
    intro X hP hw hK hc i pins s σ H E I hf st hg
    subst hP hw hK
    obtain ⟨xs,hq,hx⟩:=hg
    obtain ⟨its,rv,p,hz⟩:=I.list hq
    obtain ⟨f0,f1,f2,f3,f4,f5⟩:=hf it (by simp)
    have hl:=rv.length
    exact wpAny_pyNext_list_end (I.ok.hd hc) st p.isList (by simp;lia) fun h' eb=>⟨rfl,I.turned (t':=s.toks) (fun b o hb e=>eb b o hb e) f0 f1 f3 f4 f5⟩
  self:=fun _ _ _ _ _ st h=>wpAny_pyIter_listiter st h
theorem turn_tuple {P:Program} {w:World} {K:PySem.W.Frag} {tg:Expr} (a it:Addr):Turn P w K tg (Itt K a) [it] it (fun i h=>h.IsTupleIter it a i) where
  mem:=by simp
  obj:=fun i h st b hb=>by
    have e:b=it:=by simpa using hb
    subst e
    obtain ⟨o,e,c,d⟩:=st
    exact ⟨o,e,fun v z=>by rw [d] at z;cases z⟩
  keep:=fun i h h' st k=>st.at fun o e=>k it (by simp) o e
  item:=by
    intro X hP hw hK hc i pins s σ H E I hf st hg
    subst hP hw hK
    obtain ⟨xs,x,hq,hx⟩:=hg
    obtain ⟨its,rv,p,hz⟩:=I.tuple hq
    obtain ⟨u,hu,ru⟩:=rv.get hx
    obtain ⟨f0,f1,f2,f3,f4,f5⟩:=hf it (by simp)
    refine wpAny_pyNext_tuple_item st (show s.heap.IsTuple a its.toArray from p) (x:=u) (by simpa using hu) fun h' st' sb=>?_
    have I1:Inv X pins σ H { s with heap:=h' }:=I.turned (t':=s.toks) (fun b o hb e=>(sb.2 b hb).trans e) f0 f1 f3 f4 f5
    obtain ⟨o,e,c,d⟩:=id st'
    exact ⟨u,rfl,go_of (s:={ s with heap:=h' }) e c d (by decide) ⟨x,H,I1,ru,⟨rfl,fun ys hy=>by rw [I.tuple_inj hy hq];exact hx⟩,st',fun b hb=>(hf b hb).1⟩⟩
  done:=by
    intro X hP hw hK hc i pins s σ H E I hf st hg
    subst hP hw hK
    obtain ⟨xs,hq,hx⟩:=hg
    obtain ⟨its,rv,p,hz⟩:=I.tuple hq
    obtain ⟨f0,f1,f2,f3,f4,f5⟩:=hf it (by simp)
    have hl:=rv.length
    exact wpAny_pyNext_tuple_end (I.ok.hd hc) st (show s.heap.IsTuple a its.toArray from p) (by simp;lia) fun h' eb=>⟨rfl,I.turned (t':=s.toks) (fun b o hb e=>eb b o hb e) f0 f1 f3 f4 f5⟩
  self:=fun _ _ _ _ _ st h=>wpAny_pyIter_tupleiter st h
theorem turn_range {P:Program} {w:World} {K:PySem.W.Frag} {tg:Expr} (it:Addr) (lo:Int) (n:Nat):Turn P w K tg (Itr lo n) [it] it (fun i h=>IsRangeIter h it (lo + (i:Nat) * 1) ((n:Int) - (i:Nat)) 1) where
  mem:=by simp
  obj:=fun i h st b hb=>by
    have e:b=it:=by simpa using hb
    subst e
    exact ⟨_,st,fun v z=>by
      have z':Data.fields _=Data.cell v:=z
      cases z'⟩
  keep:=fun i h h' st k=>k it (by simp) _ st
  item:=by
    intro X hP hw hK hc i pins s σ H E I hf st hg
    subst hP hw hK
    obtain ⟨f0,f1,f2,f3,f4,f5⟩:=hf it (by simp)
    have W:=Walks.range (prog:=X.prog) (w:=X.w) (I.ok.hd hc) it lo 1 n
    refine W.item i s _ _ hg st fun v h' tk hv st' kk=>?_
    obtain ⟨t,rfl⟩:=hv
    have I1:Inv X pins σ H { s with heap:=h',toks:=tk }:=I.turned (fun b o hb e=>kk b o (by simpa using hb) e) f0 f1 f3 f4 f5
    refine ⟨_,rfl,go_of (s:={ s with heap:=h',toks:=tk }) (n:="range_iterator") st' rfl rfl (by decide) ⟨.int (lo + i),H,I1,⟨t,?_⟩,⟨rfl,rfl⟩,st',fun b hb=>(hf b hb).1⟩⟩
    rw [Int.mul_one]
  done:=by
    intro X hP hw hK hc i pins s σ H E I hf st hg
    subst hP hw hK
    obtain ⟨f0,f1,f2,f3,f4,f5⟩:=hf it (by simp)
    exact wpAny_pyNext_range_end (I.ok.hd hc) st (by have:n <= i:=hg;lia) fun h' eb=>⟨rfl,I.turned (t':=s.toks) (fun b o hb e=>eb b o hb e) f0 f1 f3 f4 f5⟩
  self:=fun _ _ _ _ _ st h=>wpAny_pyIter_rangeiter st h
end L2
namespace L2
open PySem PySem.Spec PyProof.Rows
section
variable {X:Cx} {tg:Expr}
noncomputable def iList (K:PySem.W.Frag) (tl:TE):TI:=fun σ H R=>tl σ H fun x H1=>∃ a,x=.ref a/\(∃ xs,SqL K H1 a xs)/\R (Itl K a) H1
noncomputable def iTup (K:PySem.W.Frag) (tl:TE):TI:=fun σ H R=>tl σ H fun x H1=>∃ a,x=.ref a/\(∃ xs,SqT K H1 a xs)/\R (Itt K a) H1
theorem pi_list {l:Expr} {tl:TE} (hl:PE X l tl):PI X tg l (iList X.K tl):=by
  intro pins s σ H R I h
  refine thn (hl pins s σ H _ I h) fun v s1 ⟨x,H1,I1,r1,q1⟩=>?_
  obtain ⟨a,e,⟨xs,hq⟩,q⟩:=q1
  subst e
  cases r1
  obtain ⟨its,rv,p,hz⟩:=I1.list hq
  refine wpAny_pyIter_list p.isList ?_
  refine ⟨s1.heap.objs.size,[s1.heap.objs.size],_,_,H1,rfl,I1.kept (t':=s1.toks) fun b o e=>Heap.get?_push_of_some _ e,turn_list a _,⟨_,Heap.get?_push_size _ rfl,rfl,rfl⟩,fun b hb=>?_,q⟩
  have e:b=s1.heap.objs.size:=by simpa using hb
  subst e
  exact I1.fpOk (Nat.le_refl _) (I1.hok.fresh (Nat.le_refl _))
theorem pi_tup {l:Expr} {tl:TE} (hl:PE X l tl):PI X tg l (iTup X.K tl):=by
  intro pins s σ H R I h
  refine thn (hl pins s σ H _ I h) fun v s1 ⟨x,H1,I1,r1,q1⟩=>?_
  obtain ⟨a,e,⟨xs,hq⟩,q⟩:=q1
  subst e
  cases r1
  obtain ⟨its,rv,p,hz⟩:=I1.tuple hq
  refine wpAny_pyIter_tuple (show s1.heap.IsTuple a its.toArray from p) ?_
  refine ⟨s1.heap.objs.size,[s1.heap.objs.size],_,_,H1,rfl,I1.kept (t':=s1.toks) fun b o e=>Heap.get?_push_of_some _ e,turn_tuple a _,⟨_,Heap.get?_push_size _ rfl,rfl,rfl⟩,fun b hb=>?_,q⟩
  have e:b=s1.heap.objs.size:=by simpa using hb
  subst e
  exact I1.fpOk (Nat.le_refl _) (I1.hok.fresh (Nat.le_refl _))
theorem range_it {pins:List (Addr × Obj)} {σ:St} {H:Hp} {s:Shared} {R:It->Hp->Prop} {E:Value->Shared->Prop} {lo hi:Int} {t u v:Tok} {tk:Nat} (I:Inv X pins σ H s) (h1:-(2 ^ 62) <= lo) (h2:lo < 2 ^ 62) (h3:-(2 ^ 62) <= hi) (h4:hi < 2 ^ 62)
    (q:R (Itr lo (hi - lo).toNat) H):wpAny (model X.prog X.w) X.A (pyIter (.ref s.heap.objs.size)) (PIE X pins σ tg R) E { s with heap:=s.heap.push { cls:=.type "range",data:=.fields #[.int lo t,.int hi u,.int 1 v] },toks:=tk }:=by
  refine wpAny_pyIter_range (IsRange.new ..) (small_one h1 h2 h3 h4) ?_
  have I1:Inv X pins σ H { s with heap:=s.heap.push { cls:=.type "range",data:=.fields #[.int lo t,.int hi u,.int 1 v] },toks:=tk }:=I.kept fun b o e=>Heap.get?_push_of_some _ e
  refine ⟨(s.heap.push { cls:=.type "range",data:=.fields #[.int lo t,.int hi u,.int 1 v] }).objs.size,[(s.heap.push { cls:=.type "range",data:=.fields #[.int lo t,.int hi u,.int 1 v] }).objs.size],_,_,H,rfl,
    I1.kept (t':=tk) fun b o e=>Heap.get?_push_of_some _ e,turn_range _ lo (hi - lo).toNat,?_,fun b hb=>?_,q⟩
  · have e1:lo + ((0:Nat):Int) * 1=lo:=by simp
    have e2:(((hi - lo).toNat:Nat):Int) - ((0:Nat):Int)=Builtin.Range.rangeSize lo hi 1:=by rw [rangeSize_one];split <;> lia
    show IsRangeIter _ _ (lo + ((0:Nat):Int) * 1) ((((hi - lo).toNat:Nat):Int) - ((0:Nat):Int)) 1
    rw [e1,e2]
    exact Heap.get?_push_size _ rfl
  · have e:b=(s.heap.push { cls:=.type "range",data:=.fields #[.int lo t,.int hi u,.int 1 v] }).objs.size:=by simpa using hb
    subst e
    exact I1.fpOk (Nat.le_refl _) (I1.hok.fresh (Nat.le_refl _))
noncomputable def iRng1 (ta:TA):TI:=fun σ H R=>ta σ H fun vs H1=>∃ j:Int,vs=[.int j]/\-(2 ^ 62) <= j/\j < 2 ^ 62/\R (Itr 0 j.toNat) H1
theorem pi_range1 {a:Expr} {ta:TA} {p pos:Pos} (hg:Gl X "range") (hm:X.mg "range"=none) (ha:PA X [a] ta) (hs:starEach [a] X.env=[(false,eval a X.env)]:=by rfl):PI X tg (.Call (.Name "range" p) [a] [] pos) (iRng1 ta):=by
  intro pins s σ H R I h
  refine Call_ (ld_blt I hg hm boot_range (PyProof.Rows.callWith_type1 (thn (ha pos pins s σ H _ I h) fun us s1 ⟨vs,H1,I1,r1,q1⟩=>?_) hs rfl))
  obtain ⟨j,e,q1,q2,q⟩:=q1
  subst e
  cases r1 with
  | cons r rr =>
    cases rr
    obtain ⟨t,rfl⟩:=r
    exact call_range_1 (range_it I1 (by lia) (by lia) q1 q2 (by simpa using q))
noncomputable def tFor (wi:TI) (g:TG) (tb:TS):TS:=fun D σ H=>wi σ H fun J H1=>∃ W:Nat->Nat->St->Hp->Prop,(∃ m,W 0 m σ H1)/\∀ i m σ H,W i m σ H ->
  (J.stop i H/\D.nx σ H) ∨ (J.go i H/\∃ N:St->Hp->Prop,(∀ σ' H',N σ' H'->∃ m',m' < m/\W (i + 1) m' σ' H')/\∀ x H',J.yld i H x H'->g x σ H' fun σ2 H2=>tb { D with nx:=N,ct:=N,bk:=D.nx } σ2 H2)
noncomputable def pinsAt (fp:List Addr) (h:Heap):List (Addr × Obj):=fp.filterMap fun b=>(h.get? b).map fun o=>(b,o)
theorem mem_pinsAt {fp:List Addr} {h:Heap} {b:Addr} {o:Obj} (hb:b ∈ fp) (e:h.get? b=some o):(b,o) ∈ pinsAt fp h:=List.mem_filterMap.mpr ⟨b,hb,by rw [e];rfl⟩
theorem of_pinsAt {fp:List Addr} {h:Heap} {p:Addr × Obj} (hp:p ∈ pinsAt fp h):p.1 ∈ fp/\h.get? p.1=some p.2:=by
  obtain ⟨b,hb,e⟩:=List.mem_filterMap.mp hp
  cases q:h.get? b with
  | none=>rw [q] at e;cases e
  | some o =>
    rw [q] at e
    have e':(b,o)=p:=Option.some.inj e
    subst e'
    exact ⟨hb,q⟩
theorem Inv.pinned {pins:List (Addr × Obj)} {σ:St} {H:Hp} {s:Shared} {fp:List Addr} (I:Inv X pins σ H s) (hf:∀ b ∈ fp,FpOk X pins H b) (ho:∀ b ∈ fp,∃ o,s.heap.get? b=some o/\∀ v,o.data ≠ .cell v):Inv X (pins ++ pinsAt fp s.heap) σ H s :=
  I.pins_of fun p hp=>(List.mem_append.mp hp).elim (fun z=>I.pin p (List.mem_append_right _ z)) fun z=>by
    obtain ⟨hb,e⟩:=of_pinsAt z
    obtain ⟨f0,f1,f2,_⟩:=hf p.1 hb
    obtain ⟨o,e',d⟩:=ho p.1 hb
    rw [e] at e';cases e'
    exact ⟨e,f0,f1,f2,d⟩
theorem Inv.unpinned {pins pl:List (Addr × Obj)} {σ:St} {H:Hp} {s:Shared} (I:Inv X (pins ++ pl) σ H s):Inv X pins σ H s:=I.pins_of fun p hp=>I.pin p (List.mem_append_right _ (List.mem_append_left _ hp))
theorem ps_for {iter:Expr} {body:List Stmt} {wi:TI} {g:TG} {tb:TS} {pos:Pos} (hp:PassesOwn (model X.prog X.w) X.A X.env X.xe) (hc:X.calm=true) (hi:PI X tg iter wi) (hg:PG X tg g) (hb:PSs X body tb)
    (hs:∀ x,foldedSetIterable iter X.env x=pure x:=by intro _;rfl):PS X (.For tg iter body [] pos) (tFor wi g tb):=by
  intro pins s σ H D I h
  refine wpAny_For (thn (hi pins s σ H _ I h) fun v s1 h1=>thn h1 fun itv s2 h2=>?_) hs
  obtain ⟨it,fp,tn,J,H2,e,I2,T,st2,f2,W,⟨m0,w0⟩,turn⟩:=h2
  subst e
  have stat:∀ {H':Hp},(∀ b ∈ fp,H' b=none)->∀ b ∈ fp,FpOk X pins H' b:=fun hn b hb=>⟨hn b hb,(f2 b hb).2⟩
  refine codeAny_forLoop_any (fun n s'=>∃ i σ' H',Inv X pins σ' H' s'/\tn i s'.heap/\(∀ b ∈ fp,H' b=none)/\W i n σ' H') ?_ m0 ⟨0,σ,H2,I2,st2,fun b hb=>(f2 b hb).1,w0⟩
  rintro n s3 ⟨i,σ3,H3,I3,st3,fr3,w3⟩
  rcases turn i n σ3 H3 w3 with ⟨stop,qn⟩ | ⟨go,N,hN,step⟩
  · refine wpAny_passesOwn hp (thn (T.done X rfl rfl rfl hc i pins s3 σ3 H3 X.xe I3 (stat fr3) st3 stop) fun r s4 ⟨hr,I4⟩=>?_)
    subst hr
    exact wpAny_execs_nil ⟨σ3,H3,I4,qn⟩
  · refine wpAny_passesOwn hp (thn (T.item X rfl rfl rfl hc i pins s3 σ3 H3 X.xe I3 (stat fr3) st3 go) fun r s4 ⟨u,hr,h4⟩=>?_)
    subst hr
    refine wpAny_passesOwn hp (thn h4 fun _ s5 ⟨x,H5,I5,r5,y5,st5,fr5⟩=>?_)
    have I5':=I5.pinned (stat fr5) (T.obj _ _ st5)
    refine wpAny_passesOwn hp (thn (hg _ s5 σ3 H5 x u _ I5' r5 (step x H5 y5)) fun _ s6 ⟨σ6,H6,I6,q6⟩=>?_)
    refine wpAny_passesOwn hp (thn (hb _ s6 σ6 H6 _ I6 q6) fun f s7 q7=>?_)
    have again:∀ {σ7:St} {H7:Hp},Inv X (pins ++ pinsAt fp s5.heap) σ7 H7 s7->N σ7 H7->∃ m,m < n/\∃ i σ' H',Inv X pins σ' H' s7/\tn i s7.heap/\(∀ b ∈ fp,H' b=none)/\W i m σ' H':=fun {σ7 H7} I7 n7=>by
      obtain ⟨m',hm,w7⟩:=hN σ7 H7 n7
      refine ⟨m',hm,i + 1,σ7,H7,I7.unpinned,T.keep _ _ _ st5 fun b hb o e=>(I7.pin (b,o) (List.mem_append_right _ (List.mem_append_right _ (mem_pinsAt hb e)))).1,fun b hb=>?_,w7⟩
      obtain ⟨o,e,d⟩:=T.obj _ _ st5 b hb
      exact (I7.pin (b,o) (List.mem_append_right _ (List.mem_append_right _ (mem_pinsAt hb e)))).2.1
    cases f with
    | next=>obtain ⟨σ7,H7,I7,n7⟩:=q7;exact again I7 n7
    | cont=>obtain ⟨σ7,H7,I7,n7⟩:=q7;exact again I7 n7
    | brk=>obtain ⟨σ7,H7,I7,q7⟩:=q7;exact ⟨σ7,H7,I7.unpinned,q7⟩
    | ret v=>obtain ⟨x7,σ7,H7,I7,r7,q7⟩:=q7;exact ⟨x7,σ7,H7,I7.unpinned,r7,q7⟩
end
theorem for_list {K:PySem.W.Frag} {a:Addr} {xs:List V} {g:TG} {tb:TS} {D:Ends} {σ:St} {H:Hp} (Pv:Nat->St->Hp->Prop) (h0:Pv 0 σ H) (hl:∀ i σ H,i <= xs.length->Pv i σ H->SqL K H a xs)
    (hs:∀ i x σ H,xs[i]?=some x->Pv i σ H->g x σ H fun σ2 H2=>tb { D with nx:=Pv (i + 1),ct:=Pv (i + 1),bk:=D.nx } σ2 H2) (hd:∀ σ H,Pv xs.length σ H->D.nx σ H) :
    ∃ W:Nat->Nat->St->Hp->Prop,(∃ m,W 0 m σ H)/\∀ i m σ H,W i m σ H ->
      ((Itl K a).stop i H/\D.nx σ H) ∨ ((Itl K a).go i H/\∃ N:St->Hp->Prop,(∀ σ' H',N σ' H'->∃ m',m' < m/\W (i + 1) m' σ' H')/\∀ x H',(Itl K a).yld i H x H'->g x σ H' fun σ2 H2=>tb { D with nx:=N,ct:=N,bk:=D.nx } σ2 H2):=by
  refine ⟨fun i m σ H=>m=xs.length - i/\i <= xs.length/\Pv i σ H,⟨xs.length,by simp,Nat.zero_le _,h0⟩,?_⟩
  rintro i m σ H ⟨rfl,hi,p⟩
  have q:=hl i σ H hi p
  by_cases hlt:i < xs.length
  · refine .inr ⟨⟨xs,xs[i],q,by simp [hlt]⟩,Pv (i + 1),fun σ' H' p'=>⟨xs.length - (i + 1),by lia,rfl,hlt,p'⟩,fun x H' y=>?_⟩
    obtain ⟨e,y⟩:=y
    subst e
    exact hs i x σ _ (y xs q) p
  · have e:i=xs.length:=by lia
    subst e
    exact .inl ⟨⟨xs,q,Nat.le_refl _⟩,hd σ H p⟩
end L2
namespace L2
open PySem PySem.Spec PyProof.Rows
noncomputable abbrev R2:=V->V->Hp->VK->Prop
noncomputable def OpR (X:Cx) (f:Value->Value->Sem Value) (r:R2):Prop :=
  ∀ (pins:List (Addr × Obj)) (s:Shared) (σ:St) (H:Hp) (x y:V) (v u:Value) (Q:VK),Inv X pins σ H s->RelV x v->RelV y u->r x y H Q ->
    wpAny (model X.prog X.w) X.A (f v u) (EP X pins σ Q) X.xe s
noncomputable def UnR (X:Cx) (f:Value->Sem Value) (r:V->Hp->VK->Prop):Prop :=
  ∀ (pins:List (Addr × Obj)) (s:Shared) (σ:St) (H:Hp) (x:V) (v:Value) (Q:VK),Inv X pins σ H s->RelV x v->r x H Q ->
    wpAny (model X.prog X.w) X.A (f v) (EP X pins σ Q) X.xe s
noncomputable def CallR (X:Cx) (f:Value) (r:List V->Hp->VK->Prop):Prop :=
  ∀ (pins:List (Addr × Obj)) (s:Shared) (σ:St) (H:Hp) (xs:List V) (us:List Value) (Q:VK),Inv X pins σ H s->Vals xs us->r xs H Q ->
    wpAny (model X.prog X.w) X.A (call f us) (EP X pins σ Q) X.xe s
noncomputable def tOp (r:R2) (ta tb:TE):TE:=fun σ H Q=>ta σ H fun x H1=>tb σ H1 fun y H2=>r x y H2 Q
noncomputable def tUn (r:V->Hp->VK->Prop) (ta:TE):TE:=fun σ H Q=>ta σ H fun x H1=>r x H1 Q
noncomputable def rI (C:Int->Int->Prop) (g:Int->Int->V):R2:=fun x y H Q=>∃ i j,x=.int i/\y=.int j/\C i j/\Q (g i j) H
noncomputable def rI0 (g:Int->Int->V):R2:=fun x y H Q=>∃ i j,x=.int i/\y=.int j/\Q (g i j) H
noncomputable def rU (g:Int->V):V->Hp->VK->Prop:=fun x H Q=>∃ i,x=.int i/\Q (g i) H
section
variable {X:Cx} {a b c:Expr} {ta tb tc:TE} {pos:Pos}
theorem binT (ha:PE X a ta) (hb:PE X b tb) {pins:List (Addr × Obj)} {s:Shared} {σ:St} {H:Hp} {R:V->V->Hp->Prop} (I:Inv X pins σ H s)
    (h:ta σ H fun x H1=>tb σ H1 fun y H2=>R x y H2) {Q:Value->Shared->Prop} {f:Value->Value->Sem Value}
    (hf:∀ v u s2 x y H2,Inv X pins σ H2 s2->RelV x v->RelV y u->R x y H2->wpAny (model X.prog X.w) X.A (f v u) Q X.xe s2) :
    wpAny (model X.prog X.w) X.A (eval a X.env) (fun v s₁=>wpAny (model X.prog X.w) X.A (eval b X.env) (fun u s₂=>wpAny (model X.prog X.w) X.A (f v u) Q X.xe s₂) X.xe s₁) X.xe s:=by
  refine thn (ha pins s σ H _ I h) fun v s1 ⟨x,H1,I1,r1,q1⟩=>?_
  refine thn (hb pins s1 σ H1 _ I1 q1) fun u s2 ⟨y,H2,I2,r2,q2⟩=>?_
  exact hf v u s2 x y H2 I2 r1 r2 q2
theorem pe_op {op:Operator} {r:R2} (ho:OpR X (binaryOp op) r) (ha:PE X a ta) (hb:PE X b tb):PE X (.BinOp a op b pos) (tOp r ta tb):=by
  intro pins s σ H Q I h
  exact wpAny_BinOp (binT ha hb I h fun v u s2 x y H2 I2 rx ry q=>ho pins s2 σ H2 x y v u Q I2 rx ry q)
theorem pe_un {op:UnaryOp} {r:V->Hp->VK->Prop} (ho:UnR X (unaryOp op) r) (ha:PE X a ta):PE X (.UnaryOp op a pos) (tUn r ta):=by
  intro pins s σ H Q I h
  exact UnaryOp_ (thn (ha pins s σ H _ I h) fun v s1 ⟨x,H1,I1,r1,q1⟩=>ho pins s1 σ H1 x v Q I1 r1 q1)
theorem opI {f:Value->Value->Sem Value} {C:Int->Int->Prop} {g:Int->Int->Int}
    (rule:∀ (i j:Int) (t u:Tok) (s:Shared) (Q:Value->Shared->Prop) (E:Value->Shared->Prop),C i j->Q (.int (g i j) s.toks) { s with toks:=s.toks + 1 }->wpAny (model X.prog X.w) X.A (f (.int i t) (.int j u)) Q E s) :
    OpR X f (rI C fun i j=>.int (g i j)):=by
  intro pins s σ H x y v u Q I rx ry h
  obtain ⟨i,j,rfl,rfl,hc,q⟩:=h
  obtain ⟨t,rfl⟩:=rx
  obtain ⟨t',rfl⟩:=ry
  exact rule i j t t' s _ _ hc ⟨.int (g i j),H,I.tok _,⟨_,rfl⟩,q⟩
theorem opI0 {f:Value->Value->Sem Value} {g:Int->Int->Int}
    (rule:∀ (i j:Int) (t u:Tok) (s:Shared) (Q:Value->Shared->Prop) (E:Value->Shared->Prop),Q (.int (g i j) s.toks) { s with toks:=s.toks + 1 }->wpAny (model X.prog X.w) X.A (f (.int i t) (.int j u)) Q E s) :
    OpR X f (rI0 fun i j=>.int (g i j)):=by
  intro pins s σ H x y v u Q I rx ry h
  obtain ⟨i,j,rfl,rfl,q⟩:=h
  obtain ⟨t,rfl⟩:=rx
  obtain ⟨t',rfl⟩:=ry
  exact rule i j t t' s _ _ ⟨.int (g i j),H,I.tok _,⟨_,rfl⟩,q⟩
theorem opB0 {f:Value->Value->Sem Value} {g:Int->Int->Bool}
    (rule:∀ (i j:Int) (t u:Tok) (s:Shared) (Q:Value->Shared->Prop) (E:Value->Shared->Prop),Q (.bool (g i j)) s->wpAny (model X.prog X.w) X.A (f (.int i t) (.int j u)) Q E s) :
    OpR X f (rI0 fun i j=>.bl (g i j)):=by
  intro pins s σ H x y v u Q I rx ry h
  obtain ⟨i,j,rfl,rfl,q⟩:=h
  obtain ⟨t,rfl⟩:=rx
  obtain ⟨t',rfl⟩:=ry
  exact rule i j t t' s _ _ ⟨.bl (g i j),H,I,rfl,q⟩
noncomputable def CDiv (i j:Int):Prop:=0 < j/\j < 1073741824
theorem op_add:OpR X (binaryOp .Add) (rI0 fun i j=>.int (i + j)):=opI0 fun _ _ _ _ _ _ _ q=>add_int q
theorem op_sub:OpR X (binaryOp .Sub) (rI0 fun i j=>.int (i - j)):=opI0 fun _ _ _ _ _ _ _ q=>sub_int q
theorem op_fdiv:OpR X (binaryOp .FloorDiv) (rI CDiv fun i j=>.int (i / j)):=opI fun i j _ _ _ _ _ hc q=>by
  have h1:(0:Int) < j:=hc.1
  have h2:j < 1073741824:=hc.2
  exact floordiv_int (by lia) (by rw [Int.fdiv_eq_ediv_of_nonneg i (by lia)];exact q) (.inl (PyProof.noPylong_small (by lia)))
theorem op_mod:OpR X (binaryOp .Mod) (rI (fun _ j=>0 < j) fun i j=>.int (i % j)):=opI fun i j _ _ _ _ _ hc q=>by
  have h1:(0:Int) < j:=hc
  exact mod_int' (by lia) (by rw [Int.fmod_eq_emod_of_nonneg i (by lia)];exact q)
theorem unI {f:Value->Sem Value} {g:Int->Int}
    (rule:∀ (i:Int) (t:Tok) (s:Shared) (Q:Value->Shared->Prop) (E:Value->Shared->Prop),Q (.int (g i) s.toks) { s with toks:=s.toks + 1 }->wpAny (model X.prog X.w) X.A (f (.int i t)) Q E s) :
    UnR X f (rU fun i=>.int (g i)):=by
  intro pins s σ H x v Q I rx h
  obtain ⟨i,rfl,q⟩:=h
  obtain ⟨t,rfl⟩:=rx
  exact rule i t s _ _ ⟨.int (g i),H,I.tok _,⟨_,rfl⟩,q⟩
theorem un_neg:UnR X (unaryOp .USub) (rU fun i=>.int (-i)):=unI fun _ _ _ _ _ q=>neg_int q
end
noncomputable def scal:V->V->Bool
  | .non,.non=>true | .non,.int _=>true | .int _,.non=>true | .non,.bl _=>true | .bl _,.non=>true | .non,.str _=>true | .str _,.non=>true
  | .int _,.int _=>true | .bl _,.bl _=>true | .str _,.str _=>true | .byt _,.byt _=>true
  | .int _,.str _=>true | .str _,.int _=>true | .bl _,.str _=>true | .str _,.bl _=>true
  | _,_=>false
noncomputable def rEq:R2:=fun x y H Q=>scal x y=true/\Q (.bl (decide (x=y))) H
noncomputable def rNe:R2:=fun x y H Q=>scal x y=true/\Q (.bl (!decide (x=y))) H
theorem dec_int {i j:Int}:decide (V.int i=V.int j)=(i == j):=by
  rw [Bool.eq_iff_iff]
  simp
theorem dec_bl {i j:Bool}:decide (V.bl i=V.bl j)=(i == j):=by
  rw [Bool.eq_iff_iff]
  simp
theorem dec_str {i j:Str}:decide (V.str i=V.str j)=(i == j):=by
  rw [Bool.eq_iff_iff]
  simp
theorem dec_byt {i j:Array UInt8}:decide (V.byt i=V.byt j)=(i.toList == j.toList):=by
  rw [Bool.eq_iff_iff]
  cases i
  cases j
  simp
section
variable {X:Cx} {a b c:Expr} {ta tb tc:TE} {pos:Pos}
theorem fin_bl {pins:List (Addr × Obj)} {σ:St} {H:Hp} {s:Shared} {Q:VK} {k k':Bool} (I:Inv X pins σ H s) (q:Q (.bl k) H) (e:k=k'):EP X pins σ Q (.bool k') s:=by
  subst e
  exact ⟨.bl k,H,I,rfl,q⟩
theorem op_eq:OpR X (compareOp .Eq) rEq:=by
  intro pins s σ H x y v u Q I rx ry h
  obtain ⟨hs,q⟩:=h
  cases x with
  | non =>
    cases rx
    cases y with
    | non=>cases ry;exact PySem.EqNone.eq_none_none (fin_bl I q (by simp))
    | bl j=>cases ry;exact PySem.EqNone.eq_none_bool (fin_bl I q (by simp))
    | int j=>obtain ⟨t',rfl⟩:=ry;exact PySem.EqNone.eq_none_int (fin_bl I q (by simp))
    | str j=>obtain ⟨t',rfl⟩:=ry;exact PySem.EqNone.eq_none_str (fin_bl I q (by simp))
    | _=>exact absurd (show false=true from hs) Bool.false_ne_true
  | bl i =>
    cases rx
    cases y with
    | non=>cases ry;exact PySem.EqNone.eq_bool_none (fin_bl I q (by simp))
    | bl j=>cases ry;exact eq_bool (fin_bl I q dec_bl)
    | str j=>obtain ⟨t',rfl⟩:=ry;exact PySem.EqMixed.eq_bool_str (fin_bl I q (by simp))
    | _=>exact absurd (show false=true from hs) Bool.false_ne_true
  | int i =>
    obtain ⟨t,rfl⟩:=rx
    cases y with
    | non=>cases ry;exact PySem.EqNone.eq_int_none (fin_bl I q (by simp))
    | int j=>obtain ⟨t',rfl⟩:=ry;exact eq_int (fin_bl I q dec_int)
    | str j=>obtain ⟨t',rfl⟩:=ry;exact PySem.EqMixed.eq_int_str (fin_bl I q (by simp))
    | _=>exact absurd (show false=true from hs) Bool.false_ne_true
  | str i =>
    obtain ⟨t,rfl⟩:=rx
    cases y with
    | non=>cases ry;exact PySem.EqNone.eq_str_none (fin_bl I q (by simp))
    | bl j=>cases ry;exact PySem.EqMixed.eq_str_bool (fin_bl I q (by simp))
    | int j=>obtain ⟨t',rfl⟩:=ry;exact PySem.EqMixed.eq_str_int (fin_bl I q (by simp))
    | str j=>obtain ⟨t',rfl⟩:=ry;exact eq_str (fin_bl I q dec_str)
    | _=>exact absurd (show false=true from hs) Bool.false_ne_true
  | byt i =>
    obtain ⟨t,rfl⟩:=rx
    cases y with
    | byt j=>obtain ⟨t',rfl⟩:=ry;exact PySem.W.eq_bytes (fin_bl I q dec_byt)
    | _=>exact absurd (show false=true from hs) Bool.false_ne_true
  | _=>cases y <;> exact absurd (show false=true from hs) Bool.false_ne_true
theorem op_ne:OpR X (compareOp .NotEq) rNe:=by
  intro pins s σ H x y v u Q I rx ry h
  obtain ⟨hs,q⟩:=h
  cases x with
  | non =>
    cases rx
    cases y with
    | non=>cases ry;exact PySem.EqNone.ne_none_none (fin_bl I q (by simp))
    | bl j=>cases ry;exact PySem.EqNone.ne_none_bool (fin_bl I q (by simp))
    | int j=>obtain ⟨t',rfl⟩:=ry;exact PySem.EqNone.ne_none_int (fin_bl I q (by simp))
    | str j=>obtain ⟨t',rfl⟩:=ry;exact PySem.EqNone.ne_none_str (fin_bl I q (by simp))
    | _=>exact absurd (show false=true from hs) Bool.false_ne_true
  | bl i =>
    cases rx
    cases y with
    | non=>cases ry;exact PySem.EqNone.ne_bool_none (fin_bl I q (by simp))
    | bl j=>cases ry;exact ne_bool (fin_bl I q (congrArg not dec_bl))
    | str j=>obtain ⟨t',rfl⟩:=ry;exact PySem.EqMixed.ne_bool_str (fin_bl I q (by simp))
    | _=>exact absurd (show false=true from hs) Bool.false_ne_true
  | int i =>
    obtain ⟨t,rfl⟩:=rx
    cases y with
    | non=>cases ry;exact PySem.EqNone.ne_int_none (fin_bl I q (by simp))
    | int j=>obtain ⟨t',rfl⟩:=ry;exact ne_int (fin_bl I q (congrArg not dec_int))
    | str j=>obtain ⟨t',rfl⟩:=ry;exact PySem.EqMixed.ne_int_str (fin_bl I q (by simp))
    | _=>exact absurd (show false=true from hs) Bool.false_ne_true
  | str i =>
    obtain ⟨t,rfl⟩:=rx
    cases y with
    | non=>cases ry;exact PySem.EqNone.ne_str_none (fin_bl I q (by simp))
    | bl j=>cases ry;exact PySem.EqMixed.ne_str_bool (fin_bl I q (by simp))
    | int j=>obtain ⟨t',rfl⟩:=ry;exact PySem.EqMixed.ne_str_int (fin_bl I q (by simp))
    | str j=>obtain ⟨t',rfl⟩:=ry;exact ne_str (fin_bl I q (congrArg not dec_str))
    | _=>exact absurd (show false=true from hs) Bool.false_ne_true
  | byt i =>
    obtain ⟨t,rfl⟩:=rx
    cases y with
    | byt j=>obtain ⟨t',rfl⟩:=ry;exact PySem.W.ne_bytes (fin_bl I q (congrArg not dec_byt))
    | _=>exact absurd (show false=true from hs) Bool.false_ne_true
  | _=>cases y <;> exact absurd (show false=true from hs) Bool.false_ne_true
theorem op_le:OpR X (compareOp .LtE) (rI0 fun i j=>.bl (decide (i <= j))):=opB0 fun _ _ _ _ _ _ _ q=>le_int q
theorem op_gt:OpR X (compareOp .Gt) (rI0 fun i j=>.bl (decide (j < i))):=opB0 fun _ _ _ _ _ _ _ q=>gt_int q
theorem nomark (b:Expr) {op:CmpOp} (h:op ≠ .In:=by decide) (h2:op ≠ .NotIn:=by decide):behindInMarks op b=false:=by
  have e1:(op == CmpOp.In)=false:=by cases op <;> first | rfl | exact absurd rfl h
  have e2:(op == CmpOp.NotIn)=false:=by cases op <;> first | rfl | exact absurd rfl h2
  cases b <;> simp [behindInMarks,e1,e2]
theorem pe_cmpR {op:CmpOp} {r:R2} (ho:OpR X (compareOp op) r) (ha:PE X a ta) (hb:PE X b tb) (hm:behindInMarks op b=false):PE X (.Compare a [op] [b] pos) (tOp r ta tb):=by
  intro pins s σ H Q I h
  exact wpAny_Compare1 (binT ha hb I h fun v u s2 x y H2 I2 rx ry q=>ho pins s2 σ H2 x y v u Q I2 rx ry q) hm
noncomputable def tTest (t:TE):TT:=fun σ H Q=>t σ H fun x H'=>∃ k,x=.bl k/\Q k H'
theorem pt_cmpR {op:CmpOp} {r:R2} (ho:OpR X (compareOp op) r) (ha:PE X a ta) (hb:PE X b tb) (hm:behindInMarks op b=false):PT X (.Compare a [op] [b] pos) (tTest (tOp r ta tb)):=by
  intro pins s σ H Q I h
  refine wpAny_isTrue_Compare1 (thn (ha pins s σ H _ I h) fun v s1 ⟨x,H1,I1,r1,q1⟩=>thn (hb pins s1 σ H1 _ I1 q1) fun u s2 ⟨y,H2,I2,r2,q2⟩ =>
    thn (ho pins s2 σ H2 x y v u _ I2 r1 r2 q2) fun c s3 ⟨z,H3,I3,r3,k,e,q3⟩=>?_) hm
  subst e
  cases r3
  exact wpAny_truthy_bool ⟨H3,I3,q3⟩
noncomputable def tChain (r r':R2) (ta tb tc:TE):TE:=fun σ H Q=>ta σ H fun x H1=>tb σ H1 fun y H2=>r x y H2 fun z H3=>∃ k,z=.bl k /\
  (if k=true then tc σ H3 fun w' H4=>r' y w' H4 Q else Q (.bl false) H3)
theorem pe_chain {op op':CmpOp} {r r':R2} (ho:OpR X (compareOp op) r) (ho':OpR X (compareOp op') r') (ha:PE X a ta) (hb:PE X b tb) (hc:PE X c tc)
    (hm:lastMarks [op,op'] [b,c]=false:=by with_unfolding_all rfl):PE X (.Compare a [op,op'] [b,c] pos) (tChain r r' ta tb tc):=by
  intro pins s σ H Q I h
  refine Compare_chain (thn (ha pins s σ H _ I h) fun v s1 ⟨x,H1,I1,r1,q1⟩=>chain_link (thn (hb pins s1 σ H1 _ I1 q1) fun u s2 ⟨y,H2,I2,r2,q2⟩ =>
    thn (ho pins s2 σ H2 x y v u _ I2 r1 r2 q2) fun d s3 ⟨z,H3,I3,r3,k,e,q3⟩=>?_)) hm
  subst e
  cases r3
  refine wpAny_truthy_bool ?_
  cases k with
  | false=>exact ite_ff ⟨.bl false,H3,I3,rfl,q3⟩
  | true=>exact ite_tt (chain_last (thn (hc pins s3 σ H3 _ I3 q3) fun w' s4 ⟨z',H4,I4,r4,q4⟩=>ho' pins s4 σ H4 y z' u w' Q I4 r2 r4 q4))
theorem pt_chain {op op':CmpOp} {r r':R2} (ho:OpR X (compareOp op) r) (ho':OpR X (compareOp op') r') (ha:PE X a ta) (hb:PE X b tb) (hc:PE X c tc)
    (hm:lastMarks [op,op'] [b,c]=false:=by with_unfolding_all rfl):PT X (.Compare a [op,op'] [b,c] pos) (tTest (tChain r r' ta tb tc)):=by
  intro pins s σ H Q I h
  refine isTrue_chain (thn (ha pins s σ H _ I h) fun v s1 ⟨x,H1,I1,r1,q1⟩=>test_link (thn (hb pins s1 σ H1 _ I1 q1) fun u s2 ⟨y,H2,I2,r2,q2⟩ =>
    thn (ho pins s2 σ H2 x y v u _ I2 r1 r2 q2) fun d s3 ⟨z,H3,I3,r3,k,e,q3⟩=>?_)) hm
  subst e
  cases r3
  refine wpAny_truthy_bool ?_
  cases k with
  | false =>
    obtain ⟨k',e',q'⟩:=q3
    cases e'
    exact ite_ff ⟨H3,I3,q'⟩
  | true =>
    refine ite_tt (test_last (thn (hc pins s3 σ H3 _ I3 q3) fun w' s4 ⟨z',H4,I4,r4,q4⟩=>thn (ho' pins s4 σ H4 y z' u w' _ I4 r2 r4 q4) fun d' s5 ⟨z2,H5,I5,r5,k2,e2,q5⟩=>?_))
    subst e2
    cases r5
    exact wpAny_truthy_bool ⟨H5,I5,q5⟩
theorem line63:(sizeLine:Nat) < 2 ^ 63:=by rw [sizeLine_eq];decide
theorem vals1 {x:V} {us:List Value} (r:Vals [x] us):∃ u,us=[u]/\RelV x u:=by
  cases r with
  | cons r1 r2=>cases r2;exact ⟨_,rfl,r1⟩
theorem call_abs:CallR X (.builtin "abs") (fun xs H Q=>∃ i,xs=[.int i]/\Q (.int (if i < 0 then -i else i)) H):=by
  intro pins s σ H xs us Q I r h
  obtain ⟨i,rfl,q⟩:=h
  obtain ⟨u,rfl,t,rfl⟩:=vals1 r
  exact call_abs_int fun u tk=>⟨.int (if i < 0 then -i else i),H,I.tok _,⟨_,rfl⟩,q⟩
theorem call_int1:CallR X (.type "int") (fun xs H Q=>(∃ i,xs=[.int i]/\Q (.int i) H) ∨ ∃ k,xs=[.bl k]/\Q (.int (if k then 1 else 0)) H):=by
  intro pins s σ H xs us Q I r h
  rcases h with ⟨i,rfl,q⟩ | ⟨k,rfl,q⟩
  · obtain ⟨u,rfl,t,rfl⟩:=vals1 r
    exact call_int_int ⟨.int i,H,I,⟨_,rfl⟩,q⟩
  · obtain ⟨u,rfl,r1⟩:=vals1 r
    cases r1
    exact call_int_bool ⟨.int (if k then 1 else 0),H,I.tok _,⟨_,rfl⟩,q⟩
theorem call_str_int:CallR X (.type "str") (fun xs H Q=>∃ i,xs=[.int i]/\i.natAbs.log2 < 1920/\Q (.str (toString i)) H):=by
  intro pins s σ H xs us Q I r h
  obtain ⟨i,rfl,hz,q⟩:=h
  obtain ⟨u,rfl,t,rfl⟩:=vals1 r
  exact PySem.P.str_of_int hz ⟨.str _,H,I.tok _,⟨_,rfl⟩,q⟩
end
end L2
namespace L2
open PySem PySem.Spec PyProof.Rows
structure ObjM (h:Heap) (x dx C:Addr) (mA:Str->Option Value):Prop where
  obj:h.get? x=some (PySem.W.instObj C dx)
  ns:h.Ns1 dx mA
  ne:dx ≠ x
theorem lookIn_ns {h:Heap} {dx:Addr} {mA:Str->Option Value} (n:h.Ns1 dx mA):∃ od,h.get? dx=some od/\∀ name,PySem.W.lookIn name od=some (mA name):=by
  obtain ⟨o,es,ep,ho,hd,hk,_,hm⟩:=n
  refine ⟨o,ho,fun name=>?_⟩
  have e:=hm name
  unfold nsFind findBy at e
  rw [<- Array.find?_toList] at e
  unfold PySem.W.lookIn
  rw [hd]
  dsimp only
  split
  · rename_i y q
    rw [q] at e
    exact congrArg some e
  · rename_i q
    rw [q] at e
    have a:es.toList.any (·.refKey)=false:=by
      rw [List.any_eq_false]
      intro y hy
      obtain ⟨z,t,hkey⟩:=hk y (Array.mem_toList_iff.mp hy)
      simp [DictEntry.refKey,hkey]
    have a':¬ es.toList.any (·.refKey)=true:=by rw [a];exact Bool.false_ne_true
    rw [if_neg a']
    exact congrArg some e
theorem ObjM.look {h:Heap} {x dx C:Addr} {mA:Str->Option Value} (I:ObjM h x dx C mA):∃ od,PySem.W.InstAt h x (PySem.W.instObj C dx) C (some od)/\∀ name,PySem.W.lookIn name od=some (mA name) :=
  let ⟨od,ho,hl⟩:=lookIn_ns I.ns
  ⟨od,⟨I.obj,rfl,rfl,ho⟩,hl⟩
section
variable {prog:Program} {w:World} {A:Around} {E:Value->Shared->Prop} {s:Shared} {K:PySem.W.Frag} {x dx C f:Addr} {mA:Str->Option Value} {name:Str} {v:Value}
theorem get_map {expr:Bool} {Q:Value->Shared->Prop} (X:K.In s.heap) (I:ObjM s.heap x dx C mA) (hg:PySem.W.plainGet K C name=true) (hh:PySem.W.hasDictIn K C=true)
    (ha:PySem.W.findIn K (.ref C) name=some none) (hv:mA name=some v) (hv':PySem.W.handedIn v=true) (h:Q v { s with toks:=s.toks + 1 }) :
    wpAny (model prog w) A (getAttr (.ref x) name expr) Q E s:=by
  obtain ⟨od,J,hl⟩:=I.look
  exact PySem.W.get_value X J (PySem.W.plainGet_of hg).1 (PySem.W.findObj_own hh ha rfl (by rw [hl,hv])) hv' h
theorem get_meth {pl:Sem Bool} {Q:Value × List Value->Shared->Prop} (X:K.In s.heap) (I:ObjM s.heap x dx C mA) (hg:PySem.W.plainGet K C name=true)
    (hf:PySem.W.findIn K (.ref C) name=some (some (.ref f))) (ht:PySem.W.isFn K (.ref f)=true) (hv:mA name=none) (h:Q (.ref f,[.ref x]) s) :
    wpAny (model prog w) A (getMethod (.ref x) name pl) Q E s:=by
  obtain ⟨od,J,hl⟩:=I.look
  exact PySem.W.method_fn X J (PySem.W.plainGet_of hg).1 (PySem.W.plainGet_of hg).2 hf (beq_iff_eq.mp ht) (by show (PySem.W.lookIn name od).map (·.isSome)=some false;rw [hl,hv];rfl) h
theorem set_map {ns:List Str} {Q:Unit->Shared->Prop} (X:K.In s.heap) (I:ObjM s.heap x dx C mA)
    (hs:PySem.W.findIn K (.ref C) "__setattr__"=some (some (.builtin "object.__setattr__"))) (hp:PySem.W.plainOver K C=true) (ht:PySem.W.takerIn K C name=some none) (hh:PySem.W.hasDictIn K C=true)
    (hw:PySem.Within mA ns) (hsz:ns.length <= sizeLine)
    (h:∀ h',ObjM h' x dx C (fun y=>if y=name then some v else mA y)->Heap.SameBut dx s.heap h'->Q () { s with heap:=h',toks:=s.toks + 2 }) :
    wpAny (model prog w) A (setAttr (.ref x) name v) Q E s:=by
  obtain ⟨od,J,hl⟩:=I.look
  refine PySem.W.set_plain X J hs (PySem.W.osa_open (s:={ s with toks:=s.toks + 1 }) (r:=none) X J hp ht fun b=>?_)
  obtain ⟨cd,hc,hd'⟩:=PySem.W.any_some hh
  have hx:s.heap.get? x=some ⟨.ref C,some dx,.plain,#[]⟩:=I.obj
  refine wpAny_bind (wpAny_pure (wpAny_bind (wpAny_bind (wpAny_loadPart hx (wpAny_bind (PySem.W.Looks.here (s:={ s with toks:=s.toks + 1 }) (PySem.W.looks_clsIn X hc) ?_))))))
  rw [hd']
  refine wpAny_pure (a:=some dx) (wpAny_bind (wpAny_pure (wpAny_bind ?_)))
  refine wpAny_nsSet1 (s:={ s with toks:=s.toks + 1 }) I.ns fun h' hn2 hs2=>?_
  obtain ⟨oD,esD,epD,hoD,hdD,hcD⟩:=hn2.count (PySem.Within.cons name v hw)
  refine wpAny_bind (wpAny_lookBehind hoD (by rw [hdD];exact pastItsLine_dict (Nat.le_trans hcD (by rw [List.length_cons];lia))) ?_)
  exact wpAny_pure (h _ ⟨(hs2.2 _ (Ne.symm I.ne)).trans I.obj,hn2,I.ne⟩ hs2)
theorem make_map {R:Result->Shared->Prop} {vs:List Value} {kw:List (Str × Value)} (X:K.In s.heap) (hm:PySem.W.makesIn K C=true)
    (hi:PySem.W.findIn K (.ref C) "__init__"=some (some (.ref f))) (hf:PySem.W.typeIn K (.ref f)=some (.type "function"))
    (h:codeAny (model prog w) (A.under (.builtin "type.__call__" ⟨.ref C :: vs,kw⟩)) (.call (.ref f) ⟨.ref (s.heap.objs.size + 1) :: vs,kw⟩) (PySem.W.InitBack (s.heap.objs.size + 1) R)
      { s with heap:=(s.heap.push PySem.W.emptyDict).push (PySem.W.instObj C s.heap.objs.size) }) :
    codeAny (model prog w) A (.call (.ref C) ⟨vs,kw⟩) R s:=by
  obtain ⟨hh,g,d,t,os⟩:=s
  exact PySem.W.make_core (PySem.W.makes_of X hm) (PySem.W.looks_findIn X hi) (fun self=>PySem.W.bind_fn X self hf) (.inl rfl) h
end
noncomputable def putF (f:Str) (v:V):List (Str × V)->List (Str × V)
  | []=>[(f,v)]
  | (g,x) :: r=>if g=f then (g,v) :: r else (g,x) :: putF f v r
theorem lookup_putF (f g:Str) (v:V):∀ fs:List (Str × V),(putF f v fs).lookup g=if g=f then some v else fs.lookup g
  | []=>by
    show List.lookup g [(f,v)]=_
    by_cases h:g=f
    · have hb:(g == f)=true:=beq_iff_eq.mpr h
      simp only [List.lookup,hb,if_pos h]
    · have hb:(g == f)=false:=beq_eq_false_iff_ne.mpr h
      simp only [List.lookup,hb,if_neg h]
  | (k,x) :: r=>by
    have ih:=lookup_putF f g v r
    rw [show putF f v ((k,x) :: r)=(if k=f then (k,v) :: r else (k,x) :: putF f v r) from rfl]
    by_cases hk:k=f
    · rw [if_pos hk]
      by_cases h:g=k
      · have hb:(g == k)=true:=beq_iff_eq.mpr h
        simp only [List.lookup,hb,if_pos (h.trans hk)]
      · have hb:(g == k)=false:=beq_eq_false_iff_ne.mpr h
        simp only [List.lookup,hb,if_neg (fun e:g=f=>h (e.trans hk.symm))]
    · rw [if_neg hk]
      by_cases h:g=k
      · have hb:(g == k)=true:=beq_iff_eq.mpr h
        simp only [List.lookup,hb,if_neg (fun e:g=f=>hk (h.symm.trans e))]
      · have hb:(g == k)=false:=beq_eq_false_iff_ne.mpr h
        simp only [List.lookup,hb]
        exact ih
theorem keys_putF (f:Str) (v:V):∀ fs:List (Str × V),f ∈ (putF f v fs).map (·.1)/\∀ g,g ∈ fs.map (·.1)->g ∈ (putF f v fs).map (·.1)
  | []=>⟨by simp [putF],fun g h=>by simp at h⟩
  | (k,x) :: r=>by
    obtain ⟨i1,i2⟩:=keys_putF f v r
    rw [show putF f v ((k,x) :: r)=(if k=f then (k,v) :: r else (k,x) :: putF f v r) from rfl]
    by_cases hk:k=f
    · rw [if_pos hk]
      subst hk
      exact ⟨by simp,fun g h=>by simpa using h⟩
    · rw [if_neg hk]
      refine ⟨?_,fun g h=>?_⟩
      · rw [List.map_cons]
        exact List.mem_cons_of_mem _ i1
      · rw [List.map_cons] at h ⊢
        rcases List.mem_cons.mp h with e | e
        · exact List.mem_cons.mpr (.inl e)
        · exact List.mem_cons_of_mem _ (i2 g e)
theorem length_putF (f:Str) (v:V):∀ fs:List (Str × V),(putF f v fs).length <= fs.length + 1
  | []=>by simp [putF]
  | (k,x) :: r=>by
    have ih:=length_putF f v r
    rw [show putF f v ((k,x) :: r)=(if k=f then (k,v) :: r else (k,x) :: putF f v r) from rfl]
    by_cases hk:k=f
    · rw [if_pos hk,List.length_cons,List.length_cons];lia
    · rw [if_neg hk,List.length_cons,List.length_cons];lia
theorem RelO.some_of {v:V} {o:Option Value} (r:RelO (some v) o):∃ u,o=some u/\RelV v u:=by
  cases o with
  | none=>exact (show False from r).elim
  | some u=>exact ⟨u,rfl,r⟩
theorem RelO.none_of {o:Option Value} (r:RelO none o):o=none:=by
  cases o with
  | none=>rfl
  | some u=>exact (show False from r).elim
theorem handed_of {v:V} {u:Value} (r:RelV v u):PySem.W.handedIn u=true:=by
  cases v with
  | non=>cases (show u=Value.none from r);rfl
  | bl b=>cases (show u=Value.bool b from r);rfl
  | int i=>obtain ⟨t,e⟩:=(show ∃ t,u=Value.int i t from r);cases e;rfl
  | str x=>obtain ⟨t,e⟩:=(show ∃ t,u=Value.str x t from r);cases e;rfl
  | byt b=>obtain ⟨t,e⟩:=(show ∃ t,u=Value.bytes b t from r);cases e;rfl
  | flt b=>obtain ⟨t,e⟩:=(show ∃ t,u=Value.float b t from r);cases e;rfl
  | ref a=>cases (show u=Value.ref a from r);rfl
  | ty n=>cases (show u=Value.type n from r);rfl
section
variable {P:Program} {w:World} {H H':Hp} {h h':Heap} {a C dx:Addr} {fs fs':List (Str × V)}
theorem ins_get (hok:HOk P w H h) (e:H a=some (.ins C dx fs)):∃ mA,ObjM h a dx C mA/\(∀ f,RelO (fs.lookup f) (mA f))/\PySem.Within mA (fs.map (·.1))/\fs.length <= 1000/\H dx=some (.own a):=by
  obtain ⟨d,z,ne,ob,mA,n,r,q⟩:=(show ObjOk P w H h a (.ins C dx fs) from hok a _ e)
  exact ⟨mA,⟨ob,n,ne⟩,r,q,z,d⟩
end
structure Cls (K:PySem.W.Frag) (C:Addr):Prop where
  pg:PySem.W.plainGet K C Str.empty=true
  hd:PySem.W.hasDictIn K C=true
  po:PySem.W.plainOver K C=true
  sa:PySem.W.findIn K (.ref C) "__setattr__"=some (some (.builtin "object.__setattr__"))
theorem Cls.get {K:PySem.W.Frag} {C:Addr} (c:Cls K C) (f:Str):PySem.W.plainGet K C f=true:=c.pg
noncomputable def NoAttr (K:PySem.W.Frag) (C:Addr) (f:Str):Prop:=PySem.W.findIn K (.ref C) f=some none
theorem NoAttr.taker {K:PySem.W.Frag} {C:Addr} {f:Str} (n:NoAttr K C f):PySem.W.takerIn K C f=some none:=by
  unfold PySem.W.takerIn
  rw [show PySem.W.findIn K (.ref C) f=some none from n]
  rfl
structure Con (K:PySem.W.Frag) (C:Addr) (f:Str) (v:V) (u:Value):Prop where
  at_:PySem.W.findIn K (.ref C) f=some (some u)
  rel:RelV v u
  get:PySem.W.specialIn K u "__get__"=some none
  cp:PySem.W.copiedNames.contains f=false
structure Meth (K:PySem.W.Frag) (C:Addr) (m:Str) (f:Addr):Prop where
  at_:PySem.W.findIn K (.ref C) m=some (some (.ref f))
  fn:PySem.W.isFn K (.ref f)=true
  kp:PySem.W.keepIn K (.ref f)=true
section
variable {X:Cx} {pins:List (Addr × Obj)} {σ:St} {H:Hp} {s:Shared} {a C dx:Addr} {fs:List (Str × V)} {f:Str} {v:V} {A:Around} {E:Value->Shared->Prop}
theorem getattr_ok {b:Bool} {Q:Value->Shared->Prop} (I:Inv X pins σ H s) (e:H a=some (.ins C dx fs)) (c:Cls X.K C) (n:NoAttr X.K C f) (l:fs.lookup f=some v)
    (h:∀ u s',Inv X pins σ H s'->RelV v u->Q u s'):wpAny (model X.prog X.w) A (getAttr (.ref a) f b) Q E s:=by
  obtain ⟨mA,O,r,_,_,_⟩:=ins_get I.hok e
  obtain ⟨u,hu,ru⟩:=RelO.some_of (v:=v) (o:=mA f) (by rw [<- l];exact r f)
  exact get_map I.kIn O (c.get f) c.hd n hu (handed_of ru) (h u _ (I.tok _) ru)
theorem getmeth_ok {m:Str} {g:Addr} {pl:Sem Bool} {Q:Value × List Value->Shared->Prop} (I:Inv X pins σ H s) (e:H a=some (.ins C dx fs)) (c:Cls X.K C) (k:Meth X.K C m g) (l:fs.lookup m=none)
    (h:Q (.ref g,[.ref a]) s):wpAny (model X.prog X.w) A (getMethod (.ref a) m pl) Q E s:=by
  obtain ⟨mA,O,r,_,_,_⟩:=ins_get I.hok e
  have hn:mA m=none:=RelO.none_of (by rw [<- l];exact r m)
  exact get_meth I.kIn O (c.get m) k.at_ k.fn hn h
theorem setattr_ok {y:V} {u:Value} {Q:Unit->Shared->Prop} (I:Inv X pins σ H s) (e:H a=some (.ins C dx fs)) (c:Cls X.K C) (n:NoAttr X.K C f) (hl:fs.length < 1000) (ry:RelV y u)
    (h:∀ s',Inv X pins σ (upd H a (.ins C dx (putF f y fs))) s'->Q () s'):wpAny (model X.prog X.w) A (setAttr (.ref a) f u) Q E s:=by
  obtain ⟨mA,O,r,wi,_,ho⟩:=ins_get I.hok e
  have hz:(fs.map (·.1)).length <= sizeLine:=by rw [List.length_map,sizeLine_eq];lia
  refine set_map I.kIn O c.sa c.po n.taker c.hd wi hz fun h' O' sb=>h _ ?_
  have hd:∃ o,h'.get? dx=some o:=let ⟨o,_,_,e',_⟩:=O'.ns;⟨o,e'⟩
  refine I.write (x:=a) (e:=dx) (by rw [e];exact True.intro) (.inr ho) (fun b q hb z=>(sb.2 b hb).trans z) hd ?_
  refine ⟨by rw [upd_ne O.ne];exact ho,?_,O.ne,O'.obj,_,O'.ns,fun g=>?_,fun g hg=>?_⟩
  · have:=length_putF f y fs;lia
  · show RelO ((putF f y fs).lookup g) (if g=f then some u else mA g)
    rw [lookup_putF]
    by_cases q:g=f
    · rw [if_pos q,if_pos q];exact ry
    · rw [if_neg q,if_neg q];exact r g
  · by_cases q:g=f
    · rw [q];exact (keys_putF f y fs).1
    · refine (keys_putF f y fs).2 g (wi g fun z=>hg ?_)
      show (if g=f then some u else mA g)=none
      rw [if_neg q];exact z
theorem Inv.made (I:Inv X pins σ H s):Inv X pins σ (upd (upd H s.heap.objs.size (.own (s.heap.objs.size + 1))) (s.heap.objs.size + 1) (.ins C s.heap.objs.size []))
    { s with heap:=(s.heap.push PySem.W.emptyDict).push (PySem.W.instObj C s.heap.objs.size) }:=by
  have e1:(s.heap.push PySem.W.emptyDict).get? s.heap.objs.size=some PySem.W.emptyDict:=Heap.get?_push_size s.heap rfl
  have e2:((s.heap.push PySem.W.emptyDict).push (PySem.W.instObj C s.heap.objs.size)).get? (s.heap.objs.size + 1)=some (PySem.W.instObj C s.heap.objs.size):=by
    have:=Heap.get?_push_size (s.heap.push PySem.W.emptyDict) (o:=PySem.W.instObj C s.heap.objs.size) rfl
    rwa [Heap.size_push] at this
  have e3:(s.heap.push PySem.W.emptyDict).Ns s.heap.objs.size (fun _=>none):=⟨PySem.W.emptyDict,#[],_,e1,rfl,(fun e he=>absurd he (by simp)),fun _=>rfl⟩
  have I1:=I.laid (a:=s.heap.objs.size) (o:=.own (s.heap.objs.size + 1)) (h':=s.heap.push PySem.W.emptyDict) (t':=s.toks) (fun b u q=>Heap.get?_push_of_some _ q) (Nat.le_refl _) ⟨_,e1⟩
  refine I1.laid (a:=s.heap.objs.size + 1) (o:=.ins C s.heap.objs.size []) (t':=s.toks) (fun b u q=>Heap.get?_push_of_some _ q) (Nat.le_of_eq (Heap.size_push _ _)) ?_
  have ne:s.heap.objs.size ≠ s.heap.objs.size + 1:=Nat.ne_of_lt (Nat.lt_succ_self _)
  refine ⟨by rw [upd_ne ne,upd_same],Nat.zero_le _,ne,e2,fun _=>none,(Heap.Ns1.of_empty e3).at fun o q=>Heap.get?_push_of_some _ q,fun _=>True.intro,fun y hy=>absurd rfl hy⟩
theorem attr_of {prog:Program} {w:World} {env:Env} {e:Expr} {f:Str} {pos:Pos} {s:Shared} {Q:Value->Shared->Prop} (hb:attributeBase e f env (eval e env)=eval e env)
    (h:wpAny (model prog w) A (eval e env) (fun o s₁=>wpAny (model prog w) A (getAttr o f true) Q E s₁) E s):wpAny (model prog w) A (eval (.Attribute e f pos) env) Q E s :=
  Attribute_any_ h (by rw [arm_eval_Attribute,hb])
end
noncomputable def tFld (K:PySem.W.Frag) (ta:TE) (f:Str):TE:=fun σ H Q=>ta σ H fun x H1=>∃ a C dx fs v,x=.ref a/\H1 a=some (.ins C dx fs)/\Cls K C/\NoAttr K C f/\fs.lookup f=some v/\Q v H1
noncomputable def sFld (K:PySem.W.Frag) (ta tv:TE) (f:Str):TS:=fun D σ H=>tv σ H fun y H1=>ta σ H1 fun x H2=>∃ a C dx fs,x=.ref a/\H2 a=some (.ins C dx fs)/\Cls K C/\NoAttr K C f/\fs.length < 1000 /\
  D.nx σ (upd H2 a (.ins C dx (putF f y fs)))
section
variable {X:Cx} {o e value:Expr} {f:Str} {pos pos' tpos:Pos} {ta tv:TE}
theorem pe_fld (he:PE X e ta) (hb:attributeBase e f X.env (eval e X.env)=eval e X.env):PE X (.Attribute e f pos) (tFld X.K ta f):=by
  intro pins s σ H Q I h
  refine attr_of hb (thn (he pins s σ H _ I h) fun u s1 ⟨x,H1,I1,rx,a,C,dx,fs,v,ex,ea,c,n,l,q⟩=>?_)
  subst ex
  obtain rfl:u=Value.ref a:=rx
  exact getattr_ok I1 ea c n l fun u' s2 I2 ru=>⟨v,H1,I2,ru,q⟩
theorem ps_fld (ha:PE X o ta) (hv:PE X value tv) (hs:swapsWith value (some (.Attribute o f pos')) pos.line X.env=pure false):PS X (.Assign [.Attribute o f pos'] value pos) (sFld X.K ta tv f):=by
  intro pins s σ H D I h
  refine plainObj_wpAny_Assign_Attribute (thn (hv pins s σ H _ I h) fun u s1 ⟨y,H1,I1,ry,q⟩=>thn (ha pins s1 σ H1 _ I1 q) fun ov s2 ⟨x,H2,I2,rx,a,C,dx,fs,ex,ea,c,n,l,q2⟩=>?_) hs
  subst ex
  obtain rfl:ov=Value.ref a:=rx
  exact setattr_ok I2 ea c n l ry fun s3 I3=>⟨σ,_,I3,q2⟩
end
section
variable {X:Cx} {pins:List (Addr × Obj)} {σ:St} {H:Hp} {s:Shared} {A:Around} {E:Value->Shared->Prop} {Q:Value->Shared->Prop} {c:Value} {b:Bool}
inductive TyOf (K:PySem.W.Frag) (H:Hp):V->Value->Prop where
  | non:TyOf K H .non (.type "NoneType")
  | bl (x:Bool):TyOf K H (.bl x) (.type "bool")
  | int (i:Int):TyOf K H (.int i) (.type "int")
  | str (x:Str):TyOf K H (.str x) (.type "str")
  | flt (x:UInt64):TyOf K H (.flt x) (.type "float")
  | lst {a:Addr} {xs:List V} (e:H a=some (.lst xs)):TyOf K H (.ref a) (.type "list")
  | frz {a:Addr} {o:Obj} {xs:List V} (e:H a=some (.frz o (.lst xs))):TyOf K H (.ref a) (.type "list")
  | tup {a:Addr} {xs:List V} (e:H a=some (.tup xs)):TyOf K H (.ref a) (.type "tuple")
  | dK {a:Addr} {kvs:List (Key × V)} (e:H a=some (.dK kvs)):TyOf K H (.ref a) (.type "dict")
  | dT {a:Addr} {kvs:List (List Key × V)} (e:H a=some (.dT kvs)):TyOf K H (.ref a) (.type "dict")
  | ins {a C dx:Addr} {fs:List (Str × V)} (e:H a=some (.ins C dx fs)) (cl:Cls K C) (ha:PySem.W.findIn K (.ref C) "__class__"=some (some (.builtin "object.__class__")))
      (hn:PySem.W.specialIn K (.builtin "object.__class__") "__get__"=some (some (.builtin "getset_descriptor.__get__"))) (htk:PySem.W.takesIn K (.builtin "object.__class__")=some true)
      (hm:PySem.W.mroIn K C (.type "object")=some true):TyOf K H (.ref a) (.ref C)
theorem isinst_ok {x:V} {u t:Value} (I:Inv X pins σ H s) (rx:RelV x u) (ty:TyOf X.K H x t) (e:PySem.W.kitOne X.K t c=some b) (h:∀ tk,Q (.bool b) { s with toks:=tk }) :
    wpAny (model X.prog X.w) A (call (.builtin "isinstance") [u,c]) Q E s:=by
  cases ty with
  | non=>cases (show u=Value.none from rx);exact PySem.W.kia_one PySem.W.kitx_none I.kIn True.intro e (fun z=>nomatch z) h
  | bl y=>cases (show u=Value.bool y from rx);exact PySem.W.kia_one PySem.W.kitx_bool I.kIn True.intro e (fun z=>nomatch z) h
  | int i=>obtain ⟨t,q⟩:=(show ∃ t,u=Value.int i t from rx);cases q;exact PySem.W.kia_one PySem.W.kitx_int I.kIn True.intro e (fun z=>nomatch z) h
  | str y=>obtain ⟨t,q⟩:=(show ∃ t,u=Value.str y t from rx);cases q;exact PySem.W.kia_one PySem.W.kitx_str I.kIn True.intro e (fun z=>nomatch z) h
  | flt y=>obtain ⟨t,q⟩:=(show ∃ t,u=Value.float y t from rx);cases q;exact PySem.W.kia_one PySem.W.kitx_float I.kIn True.intro e (fun z=>nomatch z) h
  | @lst a xs ea =>
    cases (show u=Value.ref a from rx)
    obtain ⟨_,_,n,_,h1⟩:=(show ObjOk X.prog X.w H s.heap a (.lst xs) from I.hok a _ ea)
    exact PySem.W.kia_one PySem.W.kitx_list I.kIn ⟨_,h1,rfl⟩ e (fun z=>nomatch z) h
  | @frz a ob xs ea =>
    cases (show u=Value.ref a from rx)
    obtain ⟨_,_,_,n,_,h1⟩:=(show ObjOk X.prog X.w H s.heap a (.frz ob (.lst xs)) from I.hok a _ ea)
    exact PySem.W.kia_one PySem.W.kitx_list I.kIn ⟨_,h1,rfl⟩ e (fun z=>nomatch z) h
  | @tup a xs ea =>
    cases (show u=Value.ref a from rx)
    obtain ⟨_,_,_,p⟩:=(show ObjOk X.prog X.w H s.heap a (.tup xs) from I.hok a _ ea)
    obtain ⟨o,h1,h2,_⟩:=p
    exact PySem.W.kia_one PySem.W.kitx_tuple I.kIn ⟨o,h1,h2⟩ e (fun z=>nomatch z) h
  | @dK a kvs ea =>
    cases (show u=Value.ref a from rx)
    obtain ⟨_,_,vs,_,p⟩:=(show ObjOk X.prog X.w H s.heap a (.dK kvs) from I.hok a _ ea)
    obtain ⟨o,es,ep,h1,h2,_⟩:=p
    exact PySem.W.kia_one PySem.W.kitx_dict I.kIn ⟨o,h1,h2.1⟩ e (fun z=>nomatch z) h
  | @dT a kvs ea =>
    cases (show u=Value.ref a from rx)
    obtain ⟨_,_,xs,_,o,es,ep,h1,h2,_⟩:=(show ObjOk X.prog X.w H s.heap a (.dT kvs) from I.hok a _ ea)
    exact PySem.W.kia_one PySem.W.kitx_dict I.kIn ⟨o,h1,h2.1⟩ e (fun z=>nomatch z) h
  | @ins a C dx fs ea cl ha hn htk hm =>
    cases (show u=Value.ref a from rx)
    obtain ⟨mA,O,_⟩:=ins_get I.hok ea
    obtain ⟨od,J,_⟩:=O.look
    exact PySem.W.kia_one (PySem.W.kitx_own (cl.get _) cl.hd ha hn htk hm) I.kIn J e (fun z=>nomatch z) h
end
end L2
namespace L2
open PySem PySem.Spec PyProof.Rows
structure Room (k:Nat) (A:Around):Prop where
  hd:A.handled=none
  dp:A.depth + 3 * k + 5 < recursionLimit
  un:A.units + 16 * k + 200 < cLine
theorem Room.mono {j k:Nat} {A:Around} (r:Room k A) (h:j <= k):Room j A:=⟨r.hd,by have:=r.dp;lia,by have:=r.un;lia⟩
theorem Room.deeper {k:Nat} {A:Around} (r:Room (k + 1) A) (env:Env):Room k (A.deeper env) :=
  ⟨r.hd,by have:=r.dp;show A.depth + 1 + 3 * k + 5 < _;lia,by have:=r.un;show A.units + 3 + 16 * k + 200 < _;lia⟩
theorem make_depth {A:Around} {C:Addr} {us:List Value} {kw:List (Str × Value)}:(A.under (.builtin "type.__call__" ⟨.ref C :: us,kw⟩)).depth=A.depth + 1:=by
  first | rfl | simp [Around.under,Code.weight,Code.isCreation,Code.isGuard,Code.isCaller,Code.frames,Code.isFrame,guardIds]
theorem make_units {A:Around} {C:Addr} {us:List Value} {kw:List (Str × Value)}:(A.under (.builtin "type.__call__" ⟨.ref C :: us,kw⟩)).units=A.units + 1:=by
  first | rfl | simp [Around.under,Code.cUnits,Code.frames,Code.isFrame]
theorem Room.make {k:Nat} {A:Around} (r:Room (k + 1) A) (C:Addr) (us:List Value) (kw:List (Str × Value)):Room k (A.under (.builtin "type.__call__" ⟨.ref C :: us,kw⟩)) :=
  ⟨r.hd,by have:=r.dp;rw [make_depth];lia,by have:=r.un;rw [make_units];lia⟩
theorem Room.depth {k:Nat} {A:Around} (r:Room k A):A.depth < recursionLimit:=by have:=r.dp;lia
theorem Room.units {k:Nat} {A:Around} (r:Room k A):A.units + 64 < cLine:=by have:=r.un;lia
noncomputable def tNil:TA:=fun _ H Q=>Q [] H
noncomputable def tCons (ta:TE) (tr:TA):TA:=fun σ H Q=>ta σ H fun x H1=>tr σ H1 fun xs H2=>Q (x :: xs) H2
section
variable {X:Cx} {e:Expr} {es:List Expr} {te:TE} {t:TA} {pos:Pos}
theorem pa_nil:PA X [] tNil:=fun _ _ _ _ H Q I h=>Calls.spliced_nil ⟨[],H,I,.nil,h⟩
theorem pa_cons (ha:PE X e te) (hr:PA X es t) (hs:starEach (e :: es) X.env=(false,eval e X.env) :: starEach es X.env:=by rfl):PA X (e :: es) (tCons te t):=by
  intro pos pins s σ H Q I h
  rw [hs]
  show wpAny _ _ (spliced ((false,eval e X.env) :: backTo pos (starEach es X.env))) _ _ s
  refine Calls.spliced_cons (thn (ha pins s σ H _ I h) fun u s1 ⟨x,H1,I1,r1,q1⟩=>?_)
  exact thn (hr pos pins s1 σ H1 _ I1 q1) fun us s2 ⟨xs,H2,I2,r2,q2⟩=>⟨x :: xs,H2,I2,.cons r1 r2,q2⟩
noncomputable def tTup (t:TA):TE:=fun σ H Q=>t σ H fun xs H1=>xs.length <= sizeLine/\∀ p,H1 p=none->Q (.ref p) (upd H1 p (.tup xs))
noncomputable def tLst (t:TA):TE:=fun σ H Q=>t σ H fun xs H1=>xs.length <= sizeLine/\∀ p,H1 p=none->Q (.ref p) (upd H1 p (.lst xs))
theorem pe_tup {x1} (h:PA X es t):PE X (.Tuple es x1 pos) (tTup t):=by
  intro pins s σ H Q I hq
  refine wpAny_Tuple_spliced (thn (h pos pins s σ H _ I hq) fun us s1 ⟨xs,H1,I1,r,z,q⟩=>⟨by rw [<- r.length];exact z,?_⟩)
  have hf:H1 s1.heap.objs.size=none:=I1.hok.fresh (Nat.le_refl _)
  refine ⟨.ref s1.heap.objs.size,upd H1 s1.heap.objs.size (.tup xs),I1.laid (t':=s1.toks) (fun b u e=>Heap.get?_push_of_some _ e) (Nat.le_refl _) ?_,rfl,q _ hf⟩
  exact ⟨z,us,r,⟨_,Heap.get?_push_size _ rfl,rfl,_,rfl⟩⟩
theorem pe_lst (h:PA X es t):PE X (.List es pos) (tLst t):=by
  intro pins s σ H Q I hq
  refine wpAny_List_spliced (thn (h pos pins s σ H _ I hq) fun us s1 ⟨xs,H1,I1,r,z,q⟩=>⟨by rw [<- r.length];exact z,?_⟩)
  have hf:H1 s1.heap.objs.size=none:=I1.hok.fresh (Nat.le_refl _)
  refine ⟨.ref s1.heap.objs.size,upd H1 s1.heap.objs.size (.lst xs),I1.laid (t':=s1.toks) (fun b u e=>Heap.get?_push_of_some _ e) (Nat.le_refl _) ?_,rfl,q _ hf⟩
  exact ⟨z,us,0,r,Heap.get?_push_size _ rfl⟩
end
noncomputable abbrev Sp:=List V->Hp->VK->XK->Prop
noncomputable abbrev CXT:=List Env->Hp->Shared->XK->Value->Shared->Prop
structure Env0 (P:Program) (w:World) (K:PySem.W.Frag) (mg:Str->Option Value) (base:Heap) (A:Around) (outer:List Env) (s:Shared) (H:Hp):Prop where
  frames:A.frames=some outer
  mod:Mod K mg base
  bs:∀ b o,base.get? b=some o->s.heap.get? b=some o/\H b=none
  bsz:base.objs.size <= s.heap.objs.size
  funs:s.heap.FunFrames base outer
  frf:∀ b ∈ frs outer,H b=none
  hok:HOk P w H s.heap
  bare:AllBare s.gens
noncomputable def CE (outer:List Env) (P:Program) (w:World) (H:Hp) (s:Shared) (Q:VK) (u:Value) (s':Shared):Prop :=
  ∃ v H',s'.os=s.os/\AllBare s'.gens/\Un (frs outer) [] H H' s.heap s'.heap/\HOk P w H' s'.heap/\RelV v u/\Q v H'
noncomputable def CR (CX:CXT) (outer:List Env) (P:Program) (w:World) (H:Hp) (s:Shared) (Q:VK) (E:XK) (r:Result) (s':Shared):Prop :=
  match r with
  | .ok (.ret u)=>CE outer P w H s Q u s'
  | .ok _=>False
  | .error e=>CX outer H s E e s'
structure FnOk (P:Program) (w:World) (K:PySem.W.Frag) (mg:Str->Option Value) (base:Heap) (CX:CXT) (k:Nat) (f:Addr) (fd:FuncData) (ps:List Str) (sp:Sp):Prop where
  len:∀ vs H Q E,sp vs H Q E->vs.length=ps.length
  run:∀ (A:Around) (outer:List Env) (s:Shared) (H:Hp) (args:Args) (us:List Value) (vs:List V) (Q:VK) (E:XK),Room k A->Env0 P w K mg base A outer s H->BindsTo s fd args (ps.zip us)->Vals vs us->sp vs H Q E ->
    codeAny (model P w) A (.call (.ref f) args) (CR CX outer P w H s Q E) s
theorem FnOk.mono {P:Program} {w:World} {K:PySem.W.Frag} {mg:Str->Option Value} {base:Heap} {CX:CXT} {j k:Nat} {f:Addr} {fd:FuncData} {ps:List Str} {sp:Sp} (F:FnOk P w K mg base CX j f fd ps sp) (h:j <= k) :
    FnOk P w K mg base CX k f fd ps sp:=⟨F.len,fun A outer s H args us vs Q E hr=>F.run A outer s H args us vs Q E (hr.mono h)⟩
theorem Env0.make {P:Program} {w:World} {K:PySem.W.Frag} {mg:Str->Option Value} {base:Heap} {A:Around} {outer:List Env} {s:Shared} {H:Hp} (e:Env0 P w K mg base A outer s H) (C:Addr) (us:List Value) (kw:List (Str × Value)) :
    Env0 P w K mg base (A.under (.builtin "type.__call__" ⟨.ref C :: us,kw⟩)) outer s H:=⟨by first | exact e.frames | (simpa [Around.under,Code.envs,Code.isFrame,pushEnvs] using e.frames),e.mod,e.bs,e.bsz,e.funs,e.frf,e.hok,e.bare⟩
section
variable {X:Cx} {pins:List (Addr × Obj)} {σ:St} {H:Hp} {s s':Shared}
theorem Inv.env0 (I:Inv X pins σ H s):Env0 X.prog X.w X.K X.mg X.base X.A X.stack s H :=
  ⟨I.ok.frames,I.ok.mod,I.bs,Nat.le_trans I.ok.bsz I.sz,I.stack,I.stkFree,I.hok,I.bare⟩
theorem Inv.after {Q:VK} {u:Value} (I:Inv X pins σ H s) (h:CE X.stack X.prog X.w H s Q u s'):EP X pins σ Q u s':=by
  obtain ⟨v,H',os,bare,un,hok,r,q⟩:=h
  obtain ⟨hh,g,d,t,os'⟩:=s'
  obtain rfl:os'=s.os:=os
  exact ⟨v,H',I.call (h':=hh) (g':=g) (d':=d) (t':=t) (ch:=[]) un hok bare (fun b z=>absurd z (by simp)),r,q⟩
end
noncomputable def tCall (sp:Sp) (dvs:List V) (E:XK) (t:TA):TE:=fun σ H Q=>t σ H fun vs H1=>sp (vs ++ dvs) H1 Q E
noncomputable def tMeth (C:Addr) (m:Str) (sp:Sp) (dvs:List V) (E:XK) (ta:TE) (t:TA):TE:=fun σ H Q=>ta σ H fun x H1=>∃ a dx fs,x=.ref a/\H1 a=some (.ins C dx fs)/\fs.lookup m=none /\
  t σ H1 fun vs H2=>sp (x :: (vs ++ dvs)) H2 Q E
noncomputable def tMake (C:Addr) (sp:Sp) (dvs:List V) (E:XK) (t:TA):TE:=fun σ H Q=>t σ H fun vs H1=>∀ x dx,H1 x=none->H1 dx=none->dx ≠ x ->
  sp (.ref x :: (vs ++ dvs)) (upd (upd H1 dx (.own x)) x (.ins C dx [])) (fun v H2=>v=.non/\Q (.ref x) H2) E
noncomputable def Binds (K:PySem.W.Frag) (fd:FuncData) (ps:List Str) (ds:List Value):Prop :=
  ∀ (s:Shared) (us:List Value),K.In s.heap->(us ++ ds).length=ps.length->BindsTo s fd ⟨us,[]⟩ (ps.zip (us ++ ds))
theorem Binds.all {K:PySem.W.Frag} {fd:FuncData} {ps:List Str} (h:∀ us:List Value,us.length=ps.length->bindArgs fd ⟨us,[]⟩=pure (ps.zip us)):Binds K fd ps []:=fun s us _ hl=>by
  rw [List.append_nil] at hl ⊢
  exact .of_eq (h us hl)
noncomputable def Passes (CX:CXT) (X:Cx) (E:XK):Prop:=∀ (pins:List (Addr × Obj)) (σ:St) (H:Hp) (s:Shared) (e:Value) (s':Shared),Inv X pins σ H s->CX X.stack H s E e s'->X.xe e s'
section
variable {X:Cx} {CX:CXT} {k:Nat} {f C:Addr} {fd:FuncData} {ps:List Str} {sp:Sp} {dvs:List V} {ds:List Value} {E:XK} {x m:Str} {p pos apos:Pos} {e o:Expr} {es:List Expr} {ta:TE} {t:TA}
theorem run_fn {pins:List (Addr × Obj)} {σ:St} {H:Hp} {s:Shared} {Q:VK} {us:List Value} {vs:List V} (F:FnOk X.prog X.w X.K X.mg X.base CX k f fd ps sp) (hr:Room k X.A) (hb:Binds X.K fd ps ds) (hd:Vals dvs ds) (hx:Passes CX X E)
    (I:Inv X pins σ H s) (r:Vals vs us) (h:sp (vs ++ dvs) H Q E):wpAny (model X.prog X.w) X.A (call (.ref f) us) (EP X pins σ Q) X.xe s:=by
  have r2:Vals (vs ++ dvs) (us ++ ds):=r.append hd
  have hl:(us ++ ds).length=ps.length:=by rw [<- r2.length];exact F.len _ _ _ _ h
  refine wpAny_call (codeAny_mono (F.run X.A X.stack s H ⟨us,[]⟩ (us ++ ds) (vs ++ dvs) Q E hr I.env0 (hb s us I.kIn hl) r2 h) fun r s' hq=>?_)
  cases r with
  | error e=>exact hx pins σ H s e s' I hq
  | ok fl =>
    cases fl with
    | ret u=>exact I.after hq
    | next=>exact False.elim hq
    | brk=>exact False.elim hq
    | cont=>exact False.elim hq
theorem pe_call (F:FnOk X.prog X.w X.K X.mg X.base CX k f fd ps sp) (hr:Room k X.A) (hg:Gl X x) (hm:X.mg x=some (.ref f)) (hk:PySem.W.keepIn X.K (.ref f)=true) (hb:Binds X.K fd ps ds) (hd:Vals dvs ds) (hx:Passes CX X E)
    (ha:PA X (e :: es) t) (hdb:(x == ("__debug__":Str))=false:=by decide) (he:starEach (e :: es) X.env=(false,eval e X.env) :: starEach es X.env:=by rfl) (hpl:(backTo pos (starEach es X.env)).any (·.1)=false:=by rfl) :
    PE X (.Call (.Name x p) (e :: es) [] pos) (tCall sp dvs E t):=by
  intro pins s σ H Q I h
  refine wpAny_Call_Name_kw (ld_glob I hg hm ?_ hdb)
  refine PySem.W.callWith_K (h₀:=X.base) I.ok.mod.kin hk (thn (ha pos pins s σ H _ I h) fun us s1 ⟨vs,H1,I1,r,q⟩=>⟨I1.kIn,?_⟩) he hpl
  exact run_fn F hr hb hd hx I1 r q
theorem pe_meth {pl:Sem Bool} (he:PE X o ta) (c:Cls X.K C) (hm:Meth X.K C m f) (F:FnOk X.prog X.w X.K X.mg X.base CX k f fd ps sp) (hr:Room k X.A) (hb:Binds X.K fd ps ds) (hd:Vals dvs ds) (hx:Passes CX X E) (ha:PA X (e :: es) t)
    (hst:starEach (e :: es) X.env=(false,eval e X.env) :: starEach es X.env:=by rfl) (hpl:(backTo pos (starEach es X.env)).any (·.1)=false:=by rfl)
    (ht:eval (.Call (.Attribute o m apos) (e :: es) [] pos) X.env=(do
      let ov <- eval o X.env
      standAt apos.atName
      let (f,first) <- holding [ov] (getMethod ov m pl)
      callWith pos f first (backTo pos (starEach (e :: es) X.env)) (backToKw pos (keywordEach [] X.env))):=by rfl) :
    PE X (.Call (.Attribute o m apos) (e :: es) [] pos) (tMeth C m sp dvs E ta t):=by
  intro pins s σ H Q I h
  refine PySem.W.methodCall_KW (pl:=pl) (thn (he pins s σ H _ I h) fun u s1 ⟨x,H1,I1,rx,a,dx,fs,ex,ea,l,q⟩=>?_) ht
  subst ex
  obtain rfl:u=Value.ref a:=rx
  refine getmeth_ok I1 ea c hm l ?_
  refine PySem.W.callWith_K (first:=[.ref a]) (h₀:=X.base) I.ok.mod.kin hm.kp (thn (ha pos pins s1 σ H1 _ I1 q) fun us s2 ⟨vs,H2,I2,r,q2⟩=>⟨I2.kIn,?_⟩) hst hpl
  exact run_fn (us:=.ref a :: us) (vs:=.ref a :: vs) F hr hb hd hx I2 (.cons rfl r) q2
structure Mk (K:PySem.W.Frag) (C f:Addr):Prop where
  makes:PySem.W.makesIn K C=true
  init:PySem.W.findIn K (.ref C) "__init__"=some (some (.ref f))
  fn:PySem.W.isFn K (.ref f)=true
  kp:PySem.W.keepIn K (.ref C)=true
theorem run_make {pins:List (Addr × Obj)} {σ:St} {H:Hp} {s:Shared} {Q:VK} {us:List Value} {vs:List V} (M:Mk X.K C f) (F:FnOk X.prog X.w X.K X.mg X.base CX k f fd ps sp) (hr:Room (k + 1) X.A) (hb:Binds X.K fd ps ds) (hd:Vals dvs ds)
    (hx:Passes CX X E) (I:Inv X pins σ H s) (r:Vals vs us)
    (h:∀ x dx,H x=none->H dx=none->dx ≠ x->sp (.ref x :: (vs ++ dvs)) (upd (upd H dx (.own x)) x (.ins C dx [])) (fun v H2=>v=.non/\Q (.ref x) H2) E) :
    wpAny (model X.prog X.w) X.A (call (.ref C) us) (EP X pins σ Q) X.xe s:=by
  have hq:=h (s.heap.objs.size + 1) s.heap.objs.size (I.hok.fresh (Nat.le_succ _)) (I.hok.fresh (Nat.le_refl _)) (Nat.ne_of_lt (Nat.lt_succ_self _))
  have I2:=Inv.made (C:=C) I
  have r2:Vals (V.ref (s.heap.objs.size + 1) :: (vs ++ dvs)) (Value.ref (s.heap.objs.size + 1) :: (us ++ ds)):=.cons rfl (r.append hd)
  have hl:(Value.ref (s.heap.objs.size + 1) :: us ++ ds).length=ps.length:=by
    have e:=r2.length
    rw [F.len _ _ _ _ hq] at e
    exact e.symm
  refine wpAny_call (make_map (f:=f) I.kIn M.makes M.init (beq_iff_eq.mp M.fn) (codeAny_mono (F.run _ X.stack _ _ ⟨Value.ref (s.heap.objs.size + 1) :: us,[]⟩ (Value.ref (s.heap.objs.size + 1) :: (us ++ ds)) _ _ E (hr.make C us [])
    (I2.env0.make C us []) (hb _ (Value.ref (s.heap.objs.size + 1) :: us) I2.kIn hl) r2 hq) fun r s' hq'=>?_))
  cases r with
  | error e=>exact hx pins σ _ _ e s' I2 hq'
  | ok fl =>
    cases fl with
    | ret u =>
      obtain ⟨v,H',I3,rv,ev,q3⟩:=I2.after hq'
      subst ev
      exact ⟨rv,⟨V.ref (s.heap.objs.size + 1),H',I3,rfl,q3⟩⟩
    | next=>exact False.elim hq'
    | brk=>exact False.elim hq'
    | cont=>exact False.elim hq'
theorem pe_make0 (M:Mk X.K C f) (F:FnOk X.prog X.w X.K X.mg X.base CX k f fd ps sp) (hr:Room (k + 1) X.A) (hg:Gl X x) (hm:X.mg x=some (.ref C)) (hb:Binds X.K fd ps ds) (hd:Vals dvs ds) (hx:Passes CX X E)
    (hdb:(x == ("__debug__":Str))=false:=by decide):PE X (.Call (.Name x p) [] [] pos) (tMake C sp dvs E tNil):=by
  intro pins s σ H Q I h
  refine wpAny_Call_Name_kw (ld_glob I hg hm ?_ hdb)
  exact PySem.W.callWith_K0 I.kIn M.kp (run_make (us:=[]) M F hr hb hd hx I .nil h)
end
section
variable {X:Cx} {CX:CXT} {k:Nat} {f C:Addr} {fd:FuncData} {ps ks:List Str} {sp:Sp} {E:XK} {x m:Str} {p pos apos kpos:Pos} {e o:Expr} {es:List Expr} {kws:List Keyword} {te ta:TE} {t tk:TA} {nm:Option Str}
structure KBinds (K:PySem.W.Frag) (fd:FuncData) (ps ks:List Str) (g:List Value->List Value->List Value) (gV:List V->List V->List V):Prop where
  to:∀ (s:Shared) (us ws:List Value),K.In s.heap->(g us ws).length=ps.length->BindsTo s fd ⟨us,ks.zip ws⟩ (ps.zip (g us ws))
  rel:∀ {vs:List V} {us:List Value} {zs:List V} {ws:List Value},Vals vs us->Vals zs ws->Vals (gV vs zs) (g us ws)
variable {g:List Value->List Value->List Value} {gV:List V->List V->List V}
end
structure FnScope (N P:List Str) (sc:Scope):Prop where
  kind:sc.kind=.function
  co:sc.isCoroutine=false
  gen:sc.isGenerator=false
  nd:N.Nodup
  pre:N.take P.length=P
  par:∀ x ∈ P,sc.names.lookup x=some .local ∨ sc.names.lookup x=some .cell
  nofree:∀ y ∈ sc.names,y.2 ≠ .free
theorem bindL_out {kindOf:Str->Option NameKind} {x:Str}:∀ {binds:List (Str × Value)} {m:Str->Option Value},(∀ v,(x,v) ∉ binds)->bindL kindOf binds m x=m x
  | [],_,_=>rfl
  | (n,v) :: r,m,h=>by
    unfold bindL
    rw [bindL_out fun w hw=>h w (List.mem_cons_of_mem _ hw)]
    split
    · have:x ≠ n:=by rintro rfl;exact h v List.mem_cons_self
      simp [this]
    · rfl
theorem bindC_out {kindOf:Str->Option NameKind} {x:Str}:∀ {binds:List (Str × Value)} {m:Str->Option Value},(∀ v,(x,v) ∉ binds)->bindC kindOf binds m x=m x
  | [],_,_=>rfl
  | (n,v) :: r,m,h=>by
    unfold bindC
    rw [bindC_out fun w hw=>h w (List.mem_cons_of_mem _ hw)]
    split
    · rfl
    · have:x ≠ n:=by rintro rfl;exact h v List.mem_cons_self
      simp [this]
theorem bindL_get {kindOf:Str->Option NameKind} {x:Str} {v:Value}:∀ {P:List Str} {vs:List Value} {i:Nat} {m:Str->Option Value},P.Nodup->P[i]?=some x->vs[i]?=some v->kindOf x=some .local ->
    bindL kindOf (P.zip vs) m x=some v
  | [],_,_,_,_,h,_,_=>by simp at h
  | _ :: _,[],_,_,_,_,h,_=>by simp at h
  | p :: P,w :: vs,0,m,nd,h1,h2,hk=>by
    simp at h1 h2;subst h1;subst h2
    show bindL kindOf ((p,w) :: P.zip vs) m p=_
    unfold bindL
    rw [bindL_out fun v hv=>(List.nodup_cons.mp nd).1 (List.of_mem_zip hv).1,if_pos hk]
    simp
  | p :: P,w :: vs,i + 1,m,nd,h1,h2,hk=>by
    show bindL kindOf ((p,w) :: P.zip vs) m x=_
    unfold bindL
    exact bindL_get (i:=i) (List.nodup_cons.mp nd).2 (by simpa using h1) (by simpa using h2) hk
theorem bindC_get {kindOf:Str->Option NameKind} {x:Str} {v:Value}:∀ {P:List Str} {vs:List Value} {i:Nat} {m:Str->Option Value},P.Nodup->P[i]?=some x->vs[i]?=some v->kindOf x ≠ some .local ->
    bindC kindOf (P.zip vs) m x=some v
  | [],_,_,_,_,h,_,_=>by simp at h
  | _ :: _,[],_,_,_,_,h,_=>by simp at h
  | p :: P,w :: vs,0,m,nd,h1,h2,hk=>by
    simp at h1 h2;subst h1;subst h2
    show bindC kindOf ((p,w) :: P.zip vs) m p=_
    unfold bindC
    rw [bindC_out fun v hv=>(List.nodup_cons.mp nd).1 (List.of_mem_zip hv).1,if_neg hk]
    simp
  | p :: P,w :: vs,i + 1,m,nd,h1,h2,hk=>by
    show bindC kindOf ((p,w) :: P.zip vs) m x=_
    unfold bindC
    exact bindC_get (i:=i) (List.nodup_cons.mp nd).2 (by simpa using h1) (by simpa using h2) hk
noncomputable def start (N:List Str) (vs:List V):St:=vs.map some ++ List.replicate (N.length - vs.length) none
noncomputable def cxOf (CX:CXT) (P:Program) (w:World) (K:PySem.W.Frag) (mg:Str->Option Value) (base:Heap) (N:List Str) (qual:Str) (scope:Scope) (f:Addr) (cd:Value) (A:Around) (outer:List Env) (s:Shared) (H:Hp) (E:XK):Cx where
  prog:=P
  w:=w
  K:=K
  mg:=mg
  base:=base
  A:=A.deeper (envOfC qual scope s.heap.objs.size f cd)
  N:=N
  s₀:=s
  H₀:=H
  env:=envOfC qual scope s.heap.objs.size f cd
  outer:=outer
  stack:=envOfC qual scope s.heap.objs.size f cd :: outer
  ex:=[]
  calm:=true
  fn:=fun _=>true
  pn:=[]
  xe:=fun e s'=>wpAny (model P w) (A.deeper (envOfC qual scope s.heap.objs.size f cd)) (leaving (envOfC qual scope s.heap.objs.size f cd) e) (fun _ s''=>CX outer H s E e s'') (fun e' s''=>CX outer H s E e' s'') s'
theorem cell_has {sc:Scope} {n:Nat} {x:Str} (h:sc.names.lookup x=some .cell):∃ c,(cellsFrom n sc.names []).lookup x=some c:=by
  have q:=PySem.W.cellsFrom_some sc.names n [] (.inl h)
  exact Option.isSome_iff_exists.mp q
theorem inv_start {CX:CXT} {P:Program} {w:World} {K:PySem.W.Frag} {mg:Str->Option Value} {base:Heap} {N ps:List Str} {qual:Str} {scope:Scope} {f:Addr} {cd:Value} {A:Around} {outer:List Env} {s s1:Shared} {H:Hp} {E:XK} {us:List Value} {vs:List V}
    (S:FnScope N ps scope) (hd:A.handled=none) (e0:Env0 P w K mg base A outer s H) (hl:vs.length=ps.length) (r:Vals vs us)
    (x:InCallC s s.heap.objs.size (bindL (envOfC qual scope s.heap.objs.size f cd).kindOf (ps.zip us) fun _=>none) (cellsFrom (s.heap.objs.size + 1) scope.names []) (bindC (envOfC qual scope s.heap.objs.size f cd).kindOf (ps.zip us) fun _=>none) s1) :
    Inv (cxOf CX P w K mg base N qual scope f cd A outer s H E) [] (start N vs) H s1:=by
  have hpl:ps.length <= N.length:=by have:=congrArg List.length S.pre;rw [List.length_take] at this;lia
  obtain ⟨h1,tk,rfl,hk⟩:=x.done
  have noA:∀ b:Addr,b ∉ (cxOf CX P w K mg base N qual scope f cd A outer s H E).ex:=fun b z=>absurd (show b ∈ ([]:List Addr) from z) (by simp)
  refine ⟨⟨e0.mod,S.kind,rfl,rfl,Nat.le_refl _,fun y z c h1 h2=>?_,fun y hy=>?_,fun y c _ h=>?_,fun _=>hd,Around.frames_deeper e0.frames,.inr ⟨rfl,rfl⟩,fun b z=>absurd z (noA b),e0.bs,e0.bsz,fun b _ _=>noA b,fun b z=>absurd z (noA b),e0.funs,e0.frf⟩,
    rfl,e0.bare,Un.kept hk,⟨_,x.toInCall.ns,fun i y v h1 h2 h3=>?_⟩,fun y c h=>⟨_,x.cell y c h⟩,e0.hok.fresh (Nat.le_refl _),fun y c h=>?_,fun p hp=>absurd (show p ∈ ([]:List (Addr × Obj)) from hp) (by simp),e0.hok.kept hk,?_⟩
  · exact name_of_addr x.apart (PySem.mem_of_lookup h1) (PySem.mem_of_lookup h2)
  · have hy:scope.names.lookup y=some .cell ∨ scope.names.lookup y=some .free:=hy
    rcases hy with hy | hy
    · exact cell_has hy
    · exact absurd rfl (S.nofree _ (PySem.mem_of_lookup hy))
  · exact Nat.le_of_lt (x.above y c (PySem.mem_of_lookup h))
  · have hi:i < vs.length:=by
      unfold start at h2
      by_cases hi:i < vs.length
      · exact hi
      · rw [List.getElem?_append_right (by simpa using hi)] at h2
        rw [List.getElem?_replicate] at h2
        split at h2 <;> cases h2
    have ha:vs[i]?=some v:=by
      unfold start at h2
      rw [List.getElem?_append_left (by simpa using hi),List.getElem?_map] at h2
      cases e:vs[i]? with
      | none=>rw [e] at h2;cases h2
      | some a=>rw [e] at h2;cases h2;rfl
    obtain ⟨u,hu,rv⟩:=r.get ha
    have hp:ps[i]?=some y:=by
      rw [<- S.pre,List.getElem?_take_of_lt (by lia)];exact h1
    have ndP:ps.Nodup:=by rw [<- S.pre];exact S.nd.sublist (List.take_sublist _ _)
    refine ⟨u,rv,?_⟩
    rcases S.par y (List.mem_of_getElem? hp) with k | k
    · exact .inl ⟨k,bindL_get ndP hp hu k⟩
    · obtain ⟨c,e⟩:=cell_has (n:=s.heap.objs.size + 1) k
      refine .inr ⟨.inl k,c,e,?_⟩
      have q:=x.cell y c e
      rw [bindC_get ndP hp hu (by show scope.names.lookup y ≠ _;rw [k];decide)] at q
      exact q
  · exact e0.hok.fresh (Nat.le_of_lt (x.above y c (PySem.mem_of_lookup h)))
  · unfold start
    show _=N.length
    rw [List.length_append,List.length_map,List.length_replicate]
    lia
theorem fn_of {CX:CXT} {P:Program} {w:World} {K:PySem.W.Frag} {mg:Str->Option Value} {base:Heap} {k:Nat} {f:Addr} {name qual:Str} {params:Arguments} {body:List Stmt} {scope:Scope} {dV kV doc pm cdv ct oc:Value} {an od:Option Addr}
    {osl:Array (Option Value)} {N ps:List Str} {sp:Sp} (lk:K.lookup f=some ⟨oc,od,.func (PySem.W.fnOf name qual params body scope dV kV doc pm an cdv ct),osl⟩) (hcd:PySem.W.codeIn K cdv qual=true) (S:FnScope N ps scope)
    (len:∀ vs H Q E,sp vs H Q E->vs.length=ps.length)
    (hbody:∀ (A:Around) (outer:List Env) (s:Shared) (H:Hp) (vs:List V) (Q:VK) (E:XK),Room k (A.deeper (envOfC qual scope s.heap.objs.size f cdv))->sp vs H Q E ->
      ∃ t,PSs (cxOf CX P w K mg base N qual scope f cdv A outer s H E) body t/\t { nx:=fun _ H'=>Q .non H',rt:=Q } (start N vs) H) :
    FnOk P w K mg base CX (k + 1) f (PySem.W.fnOf name qual params body scope dV kV doc pm an cdv ct) ps sp:=by
  refine ⟨len,fun A outer s H args us vs Q E hr e0 hb r hsp=>?_⟩
  have hl:=len _ _ _ _ hsp
  have KX:K.In s.heap:=e0.mod.kin.keeps fun b o e=>(e0.bs b o e).1
  have lim:s.heap.NoLimit:=e0.mod.nolimit.keeps fun b o e=>(e0.bs b o e).1
  have hkind:∀ y ∈ ps.zip us,scope.names.lookup y.1=some .local ∨ (scope.names.lookup y.1=some .cell/\((cellsFrom (s.heap.objs.size + 1) scope.names []).lookup y.1).isSome=true):=fun ⟨n,v⟩ hy=>by
    rcases S.par n (List.of_mem_zip hy).1 with q | q
    · exact .inl q
    · exact .inr ⟨q,PySem.W.cellsFrom_some _ _ _ (.inl q)⟩
  refine codeAny_call_function hr.depth (KX _ _ lk) rfl S.co S.gen rfl (PySem.W.codeRec_of KX hcd) (hb _ _ _ _ ?_)
  refine wpAny_newFunctionEnv_cells S.kind hkind fun env he s1 x=>?_
  subst he
  refine ⟨lim.keeps x.toInCall.keep,codeAny_func ?_⟩
  obtain ⟨t,ht,hq⟩:=hbody A outer s H vs Q E (hr.deeper _) hsp
  have I:Inv (cxOf CX P w K mg base N qual scope f cdv A outer s H E) [] (start N vs) H s1:=inv_start S hr.hd e0 hl r x
  refine wpAny_mono (ht [] s1 (start N vs) H _ I hq) (fun fl s' hs=>?_) fun e s' hs=>hs
  have fin:∀ {σ':St} {H':Hp} {v:V} {u:Value},Inv (cxOf CX P w K mg base N qual scope f cdv A outer s H E) [] σ' H' s'->RelV v u->Q v H'->CE outer P w H s Q u s' :=
    fun {σ' H' v u} J rv q=>⟨v,H',J.os,J.bare,J.base,J.hok,rv,q⟩
  cases fl with
  | ret u =>
    obtain ⟨v,σ',H',J,rv,q⟩:=hs
    exact fin J rv q
  | next =>
    obtain ⟨σ',H',J,q⟩:=hs
    exact fin (v:=V.non) (u:=Value.none) J rfl q
  | brk =>
    obtain ⟨_,_,_,q⟩:=hs
    exact False.elim q
  | cont =>
    obtain ⟨_,_,_,q⟩:=hs
    exact False.elim q
end L2
namespace L2
open PySem PySem.Spec PyProof.Rows
section
variable {X:Cx} {x:Str} {p pos:Pos} {e:Expr} {es:List Expr} {t:TA} {id T:String} {r:List V->Hp->VK->Prop}
noncomputable def tCB (r:List V->Hp->VK->Prop) (t:TA):TE:=fun σ H Q=>t σ H fun vs H1=>r vs H1 Q
theorem pe_callB (hc:CallR X (.builtin id) r) (hg:Gl X x) (hm:X.mg x=none) (hv:bootBuiltins x=some (.builtin id)) (ha:PA X (e :: es) t) (hn:x ≠ "__name__":=by decide) (hdb:(x == ("__debug__":Str))=false:=by decide)
    (he:starEach (e :: es) X.env=(false,eval e X.env) :: starEach es X.env:=by rfl) (hpl:(backTo pos (starEach es X.env)).any (·.1)=false:=by rfl):PE X (.Call (.Name x p) (e :: es) [] pos) (tCB r t):=by
  intro pins s σ H Q I h
  refine wpAny_Call_Name_kw (ld_blt I hg hm hv ?_ hn hdb)
  exact PyProof.Rows.callWith_builtin1 (thn (ha pos pins s σ H _ I h) fun us s1 ⟨vs,H1,I1,r1,q1⟩=>hc pins s1 σ H1 vs us Q I1 r1 q1) he hpl
theorem pe_callTy (hc:CallR X (.type T) r) (hg:Gl X x) (hm:X.mg x=none) (hv:bootBuiltins x=some (.type T)) (ha:PA X (e :: es) t) (hn:x ≠ "__name__":=by decide) (hdb:(x == ("__debug__":Str))=false:=by decide)
    (he:starEach (e :: es) X.env=(false,eval e X.env) :: starEach es X.env:=by rfl) (hpl:(backTo pos (starEach es X.env)).any (·.1)=false:=by rfl):PE X (.Call (.Name x p) (e :: es) [] pos) (tCB r t):=by
  intro pins s σ H Q I h
  refine wpAny_Call_Name_kw (ld_blt I hg hm hv ?_ hn hdb)
  exact PyProof.Rows.callWith_type1 (thn (ha pos pins s σ H _ I h) fun us s1 ⟨vs,H1,I1,r1,q1⟩=>hc pins s1 σ H1 vs us Q I1 r1 q1) he hpl
end
end L2
namespace HT
open PySem PyProof.Rows
section
open PySem.SeqAt
open PySem.AutoSeq1 (wpAny_loadPart')
open PySem.MeetsSeq PySem.MeetsSeq2 PySem.MeetsSeq3
end
section
variable {prog:Program} {w:World} {A:Around} {E:Value->Shared->Prop} {s:Shared}
noncomputable def sIx (n d:Nat):Option Int->Nat
  | none=>d
  | some v=>if v < 0 then (v + (n:Int)).toNat else min v.toNat n
theorem sIx_none (n d:Nat):sIx n d none=d:=rfl
theorem sIx_nat (n d k:Nat):sIx n d (some (k:Int))=min k n:=by
  show (if (k:Int) < 0 then ((k:Int) + (n:Int)).toNat else min (k:Int).toNat n)=min k n
  rw [if_neg (by lia),Int.toNat_natCast]
end
end HT
namespace L2
open PySem PySem.Spec PyProof.Rows
noncomputable abbrev TO:=St->Hp->(Option Int->Hp->Prop)->Prop
noncomputable def PO (X:Cx) (e:Option Expr) (t:TO):Prop :=
  ∀ (pins:List (Addr × Obj)) (s:Shared) (σ:St) (H:Hp) (Q:Option Int->Hp->Prop),Inv X pins σ H s->t σ H Q ->
    wpAny (model X.prog X.w) X.A (evalPart e X.env) (fun u s'=>∃ o H',Inv X pins σ H' s'/\IsPart u o/\Q o H') X.xe s
noncomputable def tNoPart:TO:=fun _ H Q=>Q none H
noncomputable def tPart (t:TE):TO:=fun σ H Q=>t σ H fun x H1=>∃ i,x=.int i/\Q (some i) H1
section
variable {X:Cx} {e:Expr} {te:TE} {lo hi:Option Expr} {tl th:TO} {pos p2:Pos}
theorem po_none:PO X none tNoPart:=by
  intro pins s σ H Q I h
  rw [evalPart_none]
  exact wpAny_pure ⟨none,H,I,.none,h⟩
theorem po_some (h:PE X e te):PO X (some e) (tPart te):=by
  intro pins s σ H Q I hw
  rw [evalPart_some]
  refine thn (h pins s σ H _ I hw) fun u s1 ⟨x,H1,I1,r1,q1⟩=>?_
  obtain ⟨i,rfl,q⟩:=q1
  obtain ⟨t,rfl⟩:=r1
  exact ⟨some i,H1,I1,.int i t,q⟩
noncomputable def SlR (X:Cx) (r:V->Option Int->Option Int->Hp->VK->Prop):Prop :=
  ∀ (pins:List (Addr × Obj)) (s:Shared) (σ:St) (H:Hp) (x:V) (v vl vu:Value) (lo hi:Option Int) (sl:Addr) (Q:VK),Inv X pins σ H s->RelV x v->s.heap.IsSliceOf sl vl vu .none->IsPart vl lo->IsPart vu hi->r x lo hi H Q ->
    ∃ T id,typeLookup (.type T) "__getitem__"=pure (some (.builtin id))/\s.TypeIs v T/\wpAny (model X.prog X.w) X.A (getItem v (.ref sl)) (EP X pins σ Q) X.xe s
noncomputable def tSl (r:V->Option Int->Option Int->Hp->VK->Prop) (te:TE) (tl th:TO):TE:=fun σ H Q=>te σ H fun x H1=>tl σ H1 fun l H2=>th σ H2 fun u H3=>r x l u H3 Q
theorem pe_slice {r:V->Option Int->Option Int->Hp->VK->Prop} (hr:SlR X r) (he:PE X e te) (hl:PO X lo tl) (hu:PO X hi th):PE X (.Subscript e (.Slice lo hi none p2) pos) (tSl r te tl th):=by
  intro pins s σ H Q I h
  refine Subscript_ (thn (he pins s σ H _ I h) fun v s1 ⟨x,H1,I1,r1,q1⟩=>?_)
  refine wpAny_Slice (thn (hl pins s1 σ H1 _ I1 q1) fun vl s2 ⟨l,H2,I2,pl,q2⟩=>thn (hu pins s2 σ H2 _ I2 q2) fun vu s3 ⟨u,H3,I3,pu,q3⟩=>?_)
  rw [evalPart_none]
  refine wpAny_pure ?_
  have I4:Inv X pins σ H3 { s3 with heap:=s3.heap.push { cls:=.type "slice",data:=.fields #[vl,vu,.none] } }:=I3.kept (t':=s3.toks) fun b ob q=>Heap.get?_push_of_some _ q
  obtain ⟨T,id,hT,ht,hg⟩:=hr pins { s3 with heap:=s3.heap.push { cls:=.type "slice",data:=.fields #[vl,vu,.none] } } σ H3 x v vl vu l u s3.heap.objs.size Q I4 r1 (Heap.IsSliceOf.new ..) pl pu q3
  show wpAny (model X.prog X.w) X.A (subscriptTail e (.Slice lo hi none p2) v (.ref s3.heap.objs.size)) (EP X pins σ Q) X.xe { s3 with heap:=s3.heap.push { cls:=.type "slice",data:=.fields #[vl,vu,.none] } }
  exact tail_any (ops:=[.ref s3.heap.objs.size,v]) ht hT hg (by with_unfolding_all rfl)
noncomputable def cutV (xs:List V) (lo hi:Option Int):List V:=(xs.drop (HT.sIx xs.length 0 lo)).take (HT.sIx xs.length xs.length hi - HT.sIx xs.length 0 lo)
theorem cutV_length (xs:List V) (lo hi:Option Int):(cutV xs lo hi).length <= xs.length:=by
  unfold cutV
  rw [List.length_take,List.length_drop]
  lia
end
end L2
namespace L2
open PySem PySem.Spec PyProof.Rows
noncomputable def ixN (n:Nat) (i:Int):Option Nat:=if 0 <= i then (if i < n then some i.toNat else none) else if -(n:Int) <= i then some (i + n).toNat else none
noncomputable def atI {α:Type} (xs:List α) (i:Int):Option α:=(ixN xs.length i).bind fun j=>xs[j]?
theorem ixN_seq {n:Nat} {i:Int} {j:Nat} (h:ixN n i=some j):seqIndex? i n=some j/\j < n/\-(n:Int) <= i/\i < n:=by
  unfold ixN at h
  by_cases h0:0 <= i
  · rw [if_pos h0] at h
    by_cases h1:i < n
    · rw [if_pos h1] at h
      have e:i.toNat=j:=Option.some.inj h
      exact ⟨by rw [seqIndex_of h0 h1,e],by lia,by lia,h1⟩
    · rw [if_neg h1] at h;cases h
  · rw [if_neg h0] at h
    by_cases h1:-(n:Int) <= i
    · rw [if_pos h1] at h
      have e:(i + n).toNat=j:=Option.some.inj h
      exact ⟨by rw [seqIndex_neg (by lia) h1,e],by lia,h1,by lia⟩
    · rw [if_neg h1] at h;cases h
theorem atI_get {α:Type} {xs:List α} {i:Int} {v:α} (h:atI xs i=some v):∃ j,seqIndex? i xs.length=some j/\xs[j]?=some v/\j < xs.length/\-(xs.length:Int) <= i/\i < xs.length:=by
  unfold atI at h
  cases e:ixN xs.length i with
  | none=>rw [e] at h;cases h
  | some j =>
    rw [e] at h
    obtain ⟨h1,h2,h3,h4⟩:=ixN_seq e
    exact ⟨j,h1,h,h2,h3,h4⟩
theorem atI_nat {α:Type} {xs:List α} {j:Nat} {v:α} (h:xs[j]?=some v):atI xs (j:Int)=some v:=by
  have hj:j < xs.length:=(List.getElem?_eq_some_iff.mp h).1
  have e:ixN xs.length (j:Int)=some j:=by
    unfold ixN
    rw [if_pos (by lia),if_pos (by lia)];simp
  unfold atI;rw [e];exact h
noncomputable def PlainIx (b:Expr):Prop:=∀ o i,subscripted b false o i=operate [o,i] (getItem o i)
noncomputable def IxR (X:Cx) (r:R2):Prop :=
  ∀ (value slice:Expr) (pins:List (Addr × Obj)) (s:Shared) (σ:St) (H:Hp) (x y:V) (v u:Value) (Q:VK),Inv X pins σ H s->RelV x v->RelV y u->r x y H Q ->
    subscripted slice false v u=operate [v,u] (getItem v u)->wpAny (model X.prog X.w) X.A (subscriptTail value slice v u) (EP X pins σ Q) X.xe s
noncomputable def MtR (X:Cx) (id:String) (r:V->List V->Hp->VK->Prop):Prop :=
  ∀ (pins:List (Addr × Obj)) (s:Shared) (σ:St) (H:Hp) (x:V) (xs:List V) (v:Value) (us:List Value) (Q:VK),Inv X pins σ H s->RelV x v->Vals xs us->r x xs H Q ->
    wpAny (model X.prog X.w) X.A (call (.builtin id) (v :: us)) (EP X pins σ Q) X.xe s
section
variable {X:Cx} {a b:Expr} {ta tb:TE} {pos:Pos}
theorem pe_ix {r:R2} (hr:IxR X r) (ha:PE X a ta) (hb:PE X b tb) (hs:PlainIx b):PE X (.Subscript a b pos) (tOp r ta tb):=by
  intro pins s σ H Q I h
  exact Subscript_ (binT ha hb I h fun v u s2 x y H2 I2 rx ry q=>hr a b pins s2 σ H2 x y v u Q I2 rx ry q (hs _ _))
noncomputable def rIxL (K:PySem.W.Frag):R2:=fun x y H Q=>∃ p xs i v,x=.ref p/\y=.int i/\SqL K H p xs/\atI xs i=some v/\Q v H
noncomputable def rIxT (K:PySem.W.Frag):R2:=fun x y H Q=>∃ p xs i v,x=.ref p/\y=.int i/\SqT K H p xs/\atI xs i=some v/\Q v H
theorem ix_list:IxR X (rIxL X.K):=by
  intro value slice pins s σ H x y v u Q I rx ry h hs
  obtain ⟨p,xs,i,z,rfl,rfl,hq,he,q⟩:=h
  cases rx
  obtain ⟨t,rfl⟩:=ry
  obtain ⟨its,r,pl,hz⟩:=I.list hq
  obtain ⟨j,h1,h2,h3,h4,h5⟩:=atI_get he
  obtain ⟨w,ew,rw'⟩:=r.get h2
  have hl:=r.length
  have hn:=line63
  have fin:EP X pins σ Q w s:=⟨z,H,I,rw',q⟩
  by_cases h0:0 <= i
  · have hj:i.toNat=j:=by
      rw [seqIndex_of h0 h5] at h1
      exact Option.some.inj h1
    exact item_listR pl.isList h0 (by lia) (by rw [hj];simpa using ew) fin hs
  · have hj:(i + (its.toArray.size:Int)).toNat=j:=by
      rw [seqIndex_neg (by lia) h4] at h1
      rw [List.size_toArray,<- hl]
      exact Option.some.inj h1
    exact subscriptTail_builtinR (x:=w) pl.isList.typeIs slot_list_getitem.lookup
      (wpAny_getItem_list_neg (Q:=fun r s'=>r=w/\EP X pins σ Q r s') pl.isList (by lia) (by rw [List.size_toArray] <;> lia) (by lia) (by rw [hj];simpa using ew) ⟨rfl,fin⟩) hs
theorem ix_tup:IxR X (rIxT X.K):=by
  intro value slice pins s σ H x y v u Q I rx ry h hs
  obtain ⟨p,xs,i,z,rfl,rfl,hq,he,q⟩:=h
  cases rx
  obtain ⟨t,rfl⟩:=ry
  obtain ⟨its,r,pl,hz⟩:=I.tuple hq
  obtain ⟨j,h1,h2,h3,h4,h5⟩:=atI_get he
  obtain ⟨w,ew,rw'⟩:=r.get h2
  have hl:=r.length
  have hn:=line63
  have fin:EP X pins σ Q w s:=⟨z,H,I,rw',q⟩
  exact subscriptTail_builtinR (x:=w) pl.typeIs slot_tuple_getitem.lookup
    (getItem_tuple (j:=j) (Q:=fun r s'=>r=w/\EP X pins σ Q r s') pl (by lia) (by lia) (by rw [List.size_toArray,<- hl];exact h1) (by simpa using ew) ⟨rfl,fin⟩) hs
theorem slice_bounds (lo hi:Option Int) (n:Nat):(sliceBounds lo hi none n).1=((HT.sIx n 0 lo:Nat):Int)/\(sliceBounds lo hi none n).2.1=((HT.sIx n n hi:Nat):Int)/\(sliceBounds lo hi none n).2.2=1:=by
  refine ⟨?_,?_,rfl⟩
  · cases lo with
    | none=>simp [sliceBounds,HT.sIx]
    | some i =>
      simp only [sliceBounds,HT.sIx,Option.getD_none,show (1:Int) > 0 by decide,if_true]
      by_cases h:i < 0
      · simp only [h,if_true] <;> lia
      · simp only [h,if_false] <;> lia
  · cases hi with
    | none=>simp [sliceBounds,HT.sIx]
    | some i =>
      simp only [sliceBounds,HT.sIx,Option.getD_none,show (1:Int) > 0 by decide,if_true]
      by_cases h:i < 0
      · simp only [h,if_true] <;> lia
      · simp only [h,if_false] <;> lia
theorem slicePick_cut (its:List Value) (lo hi:Option Int):slicePick its.toArray lo hi none=((its.drop (HT.sIx its.length 0 lo)).take (HT.sIx its.length its.length hi - HT.sIx its.length 0 lo)).toArray:=by
  obtain ⟨h1,h2,h3⟩:=slice_bounds lo hi its.toArray.size
  unfold slicePick
  rw [h1,h2,h3]
  simp only [sliceRange_one,pick_run,List.size_toArray] <;> rfl
noncomputable def rSlL (K:PySem.W.Frag):V->Option Int->Option Int->Hp->VK->Prop:=fun x lo hi H Q=>∃ a xs,x=.ref a/\SqL K H a xs/\∀ p,H p=none->Q (.ref p) (upd H p (.lst (cutV xs lo hi)))
theorem sl_list:SlR X (rSlL X.K):=by
  intro pins s σ H x v vl vu lo hi sl Q I rx hs pl pu h
  obtain ⟨a,xs,rfl,hx,q⟩:=h
  cases rx
  obtain ⟨its,r,ht,hz⟩:=I.list hx
  have hlen:=r.length
  refine ⟨"list",_,slot_list_getitem.lookup,ht.isList.typeIs,?_⟩
  refine wpAny_getItem_list_slice ht.isList hs pl pu .none (by simp) ?_ (by rw [List.size_toArray] <;> lia)
  rw [slicePick_cut,<- hlen]
  refine ⟨.ref s.heap.objs.size,_,I.laid (t':=s.toks) (o:=.lst (cutV xs lo hi)) (fun b ob q=>Heap.get?_push_of_some _ q) (Nat.le_refl _) ?_,rfl,q _ (I.hok.fresh (Nat.le_refl _))⟩
  exact ⟨Nat.le_trans (cutV_length xs lo hi) hz,_,0,(r.drop (HT.sIx xs.length 0 lo)).take (HT.sIx xs.length xs.length hi - HT.sIx xs.length 0 lo),Heap.get?_push_size _ rfl⟩
noncomputable def flatV:V->Bool
  | .non=>true
  | .bl _=>true
  | .int _=>true
  | .str _=>true
  | _=>false
noncomputable def eqV:V->V->Bool
  | .non,.non=>true
  | .bl a,.bl b=>a == b
  | .bl a,.int b=>(if a then 1 else 0) == b
  | .int a,.bl b=>a == (if b then 1 else 0)
  | .int a,.int b=>a == b
  | .str a,.str b=>a == b
  | _,_=>false
theorem eqAt_V {A:Around} {s:Shared} {y x:V} {u v:Value} (ry:RelV y u) (rx:RelV x v) (fy:flatV y=true) (fx:flatV x=true):SeqAt.EqAt A s u v (eqV y x):=by
  cases y with
  | non =>
    cases ry
    cases x with
    | non=>cases rx;exact SeqAt.EqAt.same _
    | bl b=>cases rx;exact SeqAt.EqAt.none_bool b
    | int b=>obtain ⟨t,rfl⟩:=rx;exact SeqAt.EqAt.none_int b t
    | str b=>obtain ⟨t,rfl⟩:=rx;exact SeqAt.EqAt.none_str b t
    | _=>exact absurd (show false=true from fx) Bool.false_ne_true
  | bl a =>
    cases ry
    cases x with
    | non=>cases rx;exact SeqAt.EqAt.bool_none a
    | bl b=>cases rx;exact SeqAt.EqAt.bool_bool a b
    | int b=>obtain ⟨t,rfl⟩:=rx;exact SeqAt.EqAt.bool_int a b t
    | str b=>obtain ⟨t,rfl⟩:=rx;exact SeqAt.EqAt.bool_str a b t
    | _=>exact absurd (show false=true from fx) Bool.false_ne_true
  | int a =>
    obtain ⟨t',rfl⟩:=ry
    cases x with
    | non=>cases rx;exact SeqAt.EqAt.int_none a t'
    | bl b=>cases rx;exact SeqAt.EqAt.int_bool a t' b
    | int b=>obtain ⟨t,rfl⟩:=rx;exact SeqAt.EqAt.int_int a t' b t
    | str b=>obtain ⟨t,rfl⟩:=rx;exact SeqAt.EqAt.int_str a t' b t
    | _=>exact absurd (show false=true from fx) Bool.false_ne_true
  | str a =>
    obtain ⟨t',rfl⟩:=ry
    cases x with
    | non=>cases rx;exact SeqAt.EqAt.str_none a t'
    | bl b=>cases rx;exact SeqAt.EqAt.str_bool a t' b
    | int b=>obtain ⟨t,rfl⟩:=rx;exact SeqAt.EqAt.str_int a t' b t
    | str b=>obtain ⟨t,rfl⟩:=rx;exact SeqAt.EqAt.str_str a t' b t
    | _=>exact absurd (show false=true from fx) Bool.false_ne_true
  | _=>exact absurd (show false=true from fy) Bool.false_ne_true
noncomputable def eqU (x:V) (u:Value):Bool:=match u with
  | .none=>eqV .non x
  | .bool b=>eqV (.bl b) x
  | .int i _=>eqV (.int i) x
  | .str z _=>eqV (.str z) x
  | _=>false
theorem eqU_of {x y:V} {u:Value} (r:RelV y u) (f:flatV y=true):eqU x u=eqV y x:=by
  cases y with
  | non=>cases r;rfl
  | bl b=>cases r;rfl
  | int i=>obtain ⟨t,rfl⟩:=r;rfl
  | str z=>obtain ⟨t,rfl⟩:=r;rfl
  | _=>exact absurd (show false=true from f) Bool.false_ne_true
theorem any_eqU {x:V}:∀ {xs:List V} {us:List Value},Vals xs us->xs.all flatV=true->us.any (eqU x)=xs.any fun y=>eqV y x
  | _,_,.nil,_=>rfl
  | y :: xs,u :: us,.cons r t,f=>by
    rw [List.all_cons,Bool.and_eq_true] at f
    rw [List.any_cons,List.any_cons,eqU_of r f.1,any_eqU t f.2]
theorem mem_eqAt {A:Around} {s:Shared} {x:V} {v:Value} (rx:RelV x v) (fx:flatV x=true):∀ {xs:List V} {us:List Value},Vals xs us->xs.all flatV=true->∀ u ∈ us,SeqAt.EqAt A s u v (eqU x u)
  | _,_,.nil,_=>fun u hu=>by cases hu
  | y :: xs,u :: us,.cons r t,f=>fun u' hu=>by
    rw [List.all_cons,Bool.and_eq_true] at f
    rcases List.mem_cons.mp hu with rfl | hu
    · rw [eqU_of r f.1];exact eqAt_V r rx f.1 fx
    · exact mem_eqAt rx fx t f.2 u' hu
noncomputable def inV (x:V) (xs:List V):Bool:=xs.any fun y=>eqV y x
noncomputable def rIn (K:PySem.W.Frag) (neg:Bool):R2:=fun x y H Q=>∃ p xs,y=.ref p/\(SqL K H p xs ∨ SqT K H p xs)/\flatV x=true/\xs.all flatV=true/\Q (.bl (if neg then !inV x xs else inV x xs)) H
theorem op_in_seq:OpR X (compareOp .In) (rIn X.K false):=by
  intro pins s σ H x y v u Q I rx ry h
  obtain ⟨p,xs,rfl,hq,fx,fs,q⟩:=h
  cases ry
  rcases hq with hq | hq
  · obtain ⟨its,r,pl,hz⟩:=I.list hq
    refine SeqAt.in_listAt (eqU x) pl.isList (fun w hw=>mem_eqAt rx fx r fs w (by simpa using hw)) ⟨.bl _,H,I,rfl,?_⟩
    rw [show its.toArray.any (eqU x)=its.any (eqU x) by simp,any_eqU r fs]
    exact q
  · obtain ⟨its,r,pl,hz⟩:=I.tuple hq
    refine SeqAt.in_tupleAt (eqU x) pl (fun w hw=>mem_eqAt rx fx r fs w (by simpa using hw)) ⟨.bl _,H,I,rfl,?_⟩
    rw [show its.toArray.any (eqU x)=its.any (eqU x) by simp,any_eqU r fs]
    exact q
theorem call_len_seq:CallR X (.builtin "len") (fun xs H Q=>∃ p ys,xs=[.ref p]/\(SqL X.K H p ys ∨ SqT X.K H p ys)/\Q (.int ys.length) H):=by
  intro pins s σ H xs us Q I r h
  obtain ⟨p,ys,rfl,hq,q⟩:=h
  obtain ⟨u,rfl,rx⟩:=vals1 r
  cases rx
  have hn:=line63
  rcases hq with hq | hq
  · obtain ⟨its,r',pl,hz⟩:=I.list hq
    have hlen:=r'.length
    exact Calls.call_len_list pl.isList (by simp only [List.size_toArray] <;> lia) ⟨.int ys.length,H,I.tok _,⟨s.toks + 1,by rw [List.size_toArray,hlen]⟩,q⟩
  · obtain ⟨its,r',pl,hz⟩:=I.tuple hq
    have hlen:=r'.length
    exact len_tuple pl (by simp only [List.size_toArray] <;> lia) ⟨.int ys.length,H,I.tok _,⟨s.toks + 1,by rw [List.size_toArray,hlen]⟩,q⟩
theorem call_len_str:CallR X (.builtin "len") (fun xs H Q=>∃ z,xs=[.str z]/\z.length <= sizeLine/\Q (.int z.length) H):=by
  intro pins s σ H xs us Q I r h
  obtain ⟨z,rfl,hz,q⟩:=h
  obtain ⟨u,rfl,t,rfl⟩:=vals1 r
  have hn:=line63
  exact len_str (by lia) ⟨.int z.length,H,I.tok _,⟨_,rfl⟩,q⟩
theorem call_tuple_of:CallR X (.type "tuple") (fun xs H Q=>∃ p ys,xs=[.ref p]/\((SqL X.K H p ys/\∀ l,H l=none->Q (.ref l) (upd H l (.tup ys))) ∨ (SqT X.K H p ys/\Q (.ref p) H))):=by
  intro pins s σ H xs us Q I r h
  obtain ⟨p,ys,rfl,h⟩:=h
  obtain ⟨u,rfl,rx⟩:=vals1 r
  cases rx
  rcases h with ⟨hq,q⟩ | ⟨hq,q⟩
  · obtain ⟨its,r',pl,hz⟩:=I.list hq
    have hlen:=r'.length
    refine call_tuple_list pl.isList (fun h' kp=>?_) (by simp only [List.size_toArray] <;> lia)
    have I1:Inv X pins σ H { s with heap:=h' }:=I.kept (t':=s.toks) kp
    have I2:Inv X pins σ (upd H h'.objs.size (.tup ys)) { s with heap:=h'.push { cls:=.type "tuple",data:=.seq its.toArray } } :=
      I1.laid (t':=s.toks) (fun b o e=>Heap.get?_push_of_some _ e) (Nat.le_refl _) (show ObjOk X.prog X.w _ _ _ (.tup ys) from ⟨hz,its,r',IsTup.new _ _⟩)
    exact ⟨.ref h'.objs.size,_,I2,rfl,q _ (I1.hok.fresh (Nat.le_refl _))⟩
  · obtain ⟨its,r',pl,hz⟩:=I.tuple hq
    exact call_tuple_same pl ⟨.ref p,H,I,rfl,q⟩
noncomputable def tyV (K:PySem.W.Frag) (T:String) (x:V) (H:Hp):Prop:=match x with
  | .str _=>T="str"
  | .int _=>T="int"
  | .ref p=>(T="list"/\∃ xs,SqL K H p xs) ∨ (T="tuple"/\∃ o,K.lookup p=some o/\o.cls=.type "tuple"/\o.dict=none) ∨
      (T="dict"/\((∃ kvs,H p=some (.dK kvs)) ∨ ∃ kvs,H p=some (.dT kvs))) ∨ (T="set"/\∃ S n,H p=some (.set S n))
  | _=>False
theorem tyV_is {pins:List (Addr × Obj)} {σ:St} {H:Hp} {s:Shared} {T:String} {x:V} {v:Value} (I:Inv X pins σ H s) (r:RelV x v) (ty:tyV X.K T x H) :
    s.TypeIs v T/\∀ a,v=.ref a->∃ ob,s.heap.get? a=some ob/\ob.dict=none:=by
  cases x with
  | str z =>
    obtain ⟨t,rfl⟩:=r
    cases (show T="str" from ty)
    exact ⟨typeIs_str s z t,fun _ e=>nomatch e⟩
  | int i =>
    obtain ⟨t,rfl⟩:=r
    cases (show T="int" from ty)
    exact ⟨typeIs_int s i t,fun _ e=>nomatch e⟩
  | ref p =>
    cases r
    rcases ty with ⟨rfl,xs,hq⟩ | ⟨rfl,o,hk,hc,hd⟩ | ⟨rfl,hk⟩ | ⟨rfl,S,n,hk⟩
    · obtain ⟨its,_,pl,_⟩:=I.list hq
      refine ⟨pl.isList.typeIs,fun a e=>?_⟩
      cases e
      obtain ⟨o,n,e,c,hd,_⟩:=pl
      exact ⟨o,e,hd⟩
    · refine ⟨⟨o,I.kIn p o hk,hc⟩,fun a e=>?_⟩
      cases e
      exact ⟨o,I.kIn _ o hk,hd⟩
    · have z:∃ o,s.heap.get? p=some o/\o.ExactDict:=by
        rcases hk with ⟨kvs,hk⟩ | ⟨kvs,hk⟩
        · obtain ⟨_,_,_,_,o,_,_,e,ex,_⟩:=I.hok p _ hk
          exact ⟨o,e,ex⟩
        · obtain ⟨_,_,_,_,o,_,_,e,ex,_⟩:=I.hok p _ hk
          exact ⟨o,e,ex⟩
      obtain ⟨o,e,ex⟩:=z
      refine ⟨⟨o,e,ex.1⟩,fun a e2=>?_⟩
      cases e2
      exact ⟨o,e,ex.2.1⟩
    · obtain ⟨o,_,_,_,e,ex,_⟩:=I.hok p _ hk
      refine ⟨⟨o,e,ex.1⟩,fun a e2=>?_⟩
      cases e2
      exact ⟨o,e,ex.2.1⟩
  | _=>exact False.elim ty
noncomputable def tBM (K:PySem.W.Frag) (T:String) (r:V->List V->Hp->VK->Prop) (to:TE) (t:TA):TE:=fun σ H Q=>to σ H fun x H1=>tyV K T x H1/\t σ H1 fun xs H2=>r x xs H2 Q
variable {o e:Expr} {es:List Expr} {to:TE} {t:TA} {name:Str} {apos cpos:Pos} {T id:String} {r:V->List V->Hp->VK->Prop}
theorem pe_bm (pa:PlainAttrs T) (slot:Slot T name id) (hty:typeOf (.builtin id)=pure (.type "method_descriptor")) (hm:MtR X id r) (ho:PE X o to) (ha:PA X (e :: es) t)
    (hbase:attributeBase o name X.env (eval o X.env)=eval o X.env:=by rfl)
    (hfew:((backTo cpos (starEach (e :: es) X.env)).all (fun x=>!x.1) && (backToKw cpos (keywordEach [] X.env)).all (fun x=>x.1.isSome)
      && decide ((e :: es).length + ([]:List Keyword).length + (if ([]:List Keyword).isEmpty then 0 else 1) < 30))=true:=by rfl)
    (hline:(apos.endLine == cpos.line)=true:=by rfl) (hs:starEach (e :: es) X.env=(false,eval e X.env) :: starEach es X.env:=by rfl) (hplain:(backTo cpos (starEach es X.env)).any (·.1)=false:=by rfl) :
    PE X (.Call (.Attribute o name apos) (e :: es) [] cpos) (tBM X.K T r to t):=by
  intro pins s σ H Q I h
  refine wpAny_Call_method_late hbase hfew hline rfl (thn (ho pins s σ H _ I h) fun v s1 ⟨x,H1,I1,r1,ty,q1⟩=>?_)
  obtain ⟨h1,h2⟩:=tyV_is I1 r1 ty
  refine ⟨T,id,pa,slot,hty,h1,h2,?_⟩
  have hA:=ha cpos pins s1 σ H1 _ I1 q1
  rw [hs] at hA ⊢
  refine Calls.callWith_builtin (by show (false || (backTo cpos (starEach es X.env)).any (·.1))=false;rw [hplain] <;> rfl) (Calls.evalArgs_plain ?_)
  exact thn hA fun us s2 ⟨vs,H2,I2,r2,q2⟩=>hm pins s2 σ H2 x vs v us Q I2 r1 r2 q2
/- xs.append(e),list.index on a module's tuple .. are MtR facts of 06m -/
end
end L2
namespace L2
open PySem PySem.Spec PyProof.Rows
noncomputable def MtM (X:Cx) (id:String) (r:V->List V->Hp->VK->Prop):Prop :=
  ∀ (pins:List (Addr × Obj)) (s:Shared) (σ:St) (H:Hp) (x:V) (xs:List V) (v:Value) (us:List Value) (Q:VK),Inv X pins σ H s->RelV x v->Vals xs us->r x xs H Q ->
    wpAny (model X.prog X.w) X.A (call (.builtin id) (v :: us)) (EP X pins σ Q) X.xe s
theorem Vals.one:∀ {x:V} {us:List Value},Vals [x] us->∃ u,us=[u]/\RelV x u
  | _,_,.cons r .nil=>⟨_,rfl,r⟩
section
variable {X:Cx} {pins:List (Addr × Obj)} {σ:St} {H:Hp} {s:Shared} {l b:Addr} {xs ys zs:List V}
theorem Inv.lset {its its':List Value} {n:Nat} {f:Array Value->Array Value} {t':Nat} (I:Inv X pins σ H s) (hH:H l=some (.lst xs))
    (e:s.heap.get? l=some { cls:=.type "list",data:=.seq its.toArray n }) (hf:f its.toArray=its'.toArray) (hv:Vals ys its') (hz:ys.length <= sizeLine) :
    Inv X pins σ (upd H l (.lst ys)) { s with heap:=s.heap.update l (Obj.mapSeq f),toks:=t' }:=by
  have q:=PySem.IsL.update e f
  rw [hf] at q
  refine I.write (x:=l) (e:=l) (by rw [hH];exact trivial) (.inl rfl) (fun b' u hb hu=>(Heap.get?_update_other s.heap (Obj.mapSeq f) (Ne.symm hb)).trans hu) ⟨_,q⟩ ?_
  exact ⟨hz,its',_,hv,q⟩
theorem Inv.lnew {its:List Value} {t':Nat} (I:Inv X pins σ H s) (hv:Vals ys its) (hz:ys.length <= sizeLine) :
    Inv X pins σ (upd H s.heap.objs.size (.lst ys)) { s with heap:=s.heap.push { cls:=.type "list",data:=.seq its.toArray },toks:=t' } :=
  I.laid (fun _ _ q=>Heap.get?_push_of_some _ q) (Nat.le_refl _) ⟨hz,its,0,hv,Heap.get?_push_size _ rfl⟩
theorem Inv.fresh (I:Inv X pins σ H s):H s.heap.objs.size=none:=I.hok.fresh (Nat.le_refl _)
theorem Inv.lstM (I:Inv X pins σ H s) (hH:H l=some (.lst xs)):xs.length <= sizeLine/\∃ (its:List Value) (n:Nat),Vals xs its/\xs.length=its.length/\s.heap.get? l=some { cls:=.type "list",data:=.seq its.toArray n }:=by
  obtain ⟨z,its,n,r,e⟩:=I.hok l _ hH
  exact ⟨z,its,n,r,r.length,e⟩
end
section
variable {X:Cx}
noncomputable def rAppend:V->List V->Hp->VK->Prop:=fun x vs H Q=>∃ l xs y,x=.ref l/\vs=[y]/\H l=some (.lst xs)/\xs.length < sizeLine/\Q .non (upd H l (.lst (xs ++ [y])))
theorem mt_append:MtM X "list.append" rAppend:=by
  intro pins s σ H x vs v us Q I rx rv h
  obtain ⟨l,xs,y,rfl,rfl,hH,hz,q⟩:=h
  cases rx
  obtain ⟨u,rfl,ru⟩:=rv.one
  obtain ⟨z,its,n,r,hl,e⟩:=I.lstM hH
  refine call_meets F.slot_list_append ⟨_,e,rfl⟩ F.entry_list_append (F.args_list_append_2 _ _) (PySem.list_append l its.toArray n u (by rw [List.size_toArray];lia)) ⟨e,?_⟩
  refine ⟨.non,_,I.lset (its':=its ++ [u]) hH e (by simp) (r.append (.cons ru .nil)) ?_,rfl,q⟩
  rw [List.length_append,List.length_singleton]
  lia
noncomputable def rCat:R2:=fun x y H Q=>∃ l b xs zs,x=.ref l/\y=.ref b/\H l=some (.lst xs)/\H b=some (.lst zs)/\xs.length + zs.length <= sizeLine/\∀ p,H p=none->Q (.ref p) (upd H p (.lst (xs ++ zs)))
theorem op_cat:OpR X (binaryOp .Add) rCat:=by
  intro pins s σ H x y v u Q I rx ry h
  obtain ⟨l,b,xs,zs,rfl,rfl,hH,hB,hz,q⟩:=h
  cases rx
  cases ry
  obtain ⟨z,its,n,r,hl,e⟩:=I.lstM hH
  obtain ⟨z2,its2,n2,r2,hl2,e2⟩:=I.lstM hB
  refine PySem.P.add_list e e2 ?_ (by rw [List.size_toArray,List.size_toArray];lia)
  have ea:its.toArray ++ its2.toArray=(its ++ its2).toArray:=by simp
  rw [ea]
  exact ⟨.ref _,_,I.lnew (t':=s.toks) (r.append r2) (by rw [List.length_append];lia),rfl,q _ I.fresh⟩
end
section
variable {prog:Program} {w:World} {A:Around} {E:Value->Shared->Prop} {s:Shared}
set_option maxRecDepth 100000 in
end
section
variable {X:Cx}
end
end L2
namespace Att
open PySem PySem.W PySem.Calls PyProof.Rows
theorem ints_of_wellAll {P:Params} {h:Heap}:∀ (ns:List Int) (vs:List Value),WellAll P h vs (ns.map WData.int)->IntsAre vs ns:=by
  intro ns
  induction ns with
  | nil =>
    intro vs w
    rw [List.map_nil] at w
    cases w
    exact .nil
  | cons n ns ih =>
    intro vs w
    rw [List.map_cons] at w
    cases w with
    | cons a b =>
      cases a
      exact .cons _ _ (ih _ b)
theorem script_of {l:OpenLaw} {n:Nat} (hn:l.most=some n) {P:Params} {h:Heap} {args:List WData} {vals:List Value}
    (hpre:l.row.toRowW.claim.pre args=true) (hwl:WellAll P h vals args) :
    ∃ a vs ns,vals=[Value.ref a]/\args=[WData.list (ns.map WData.int)]/\h.get? a=some { cls:=.type "list",data:=.seq vs.toArray }/\IntsAre vs ns/\ns.length <= n:=by
  have hsh:WShape.hasAll [] args [.list .int]=true:=(pre_splitW hpre).1
  have hc:l.pre.holds [] { args:=args }=true:=(pre_splitW hpre).2
  obtain ⟨d,r,rfl,h1,h2⟩:=hasAllW_cons hsh
  obtain rfl:=hasAllW_nil h2
  obtain ⟨xs,rfl,h3⟩:=hasW_list h1
  obtain ⟨ns,rfl⟩:=items_int h3
  have hlen:ns.length <= n:=by
    unfold OpenLaw.pre at hc
    have h4:(WTm.not (.lt (.lit (.int (n:Int))) (.len (.arg 0)))).holds [] { args:=[.list (ns.map .int)] }=true:=by
      have h4:=(holds_andW hc).1
      rw [hn] at h4
      exact h4
    have h5:=condW_of h4 (w_not (w_lt w_lit (w_len_list (w_arg rfl))))
    rw [List.length_map] at h5
    refine Nat.le_of_not_lt fun q=>?_
    have q':(n:Int) < ((ns.length:Nat):Int):=by lia
    first
      | (rw [decide_eq_true q'] at h5;exact absurd h5 (by decide))
      | (simp at h5;lia)
  cases hwl with
  | cons w1 w2 =>
    cases w2
    cases w1 with
    | list ho hall=>exact ⟨_,_,ns,rfl,rfl,ho,ints_of_wellAll ns _ hall,hlen⟩
theorem post_true (l:OpenLaw) (args:List WData):l.row.toRowW.claim.post args (.bool true) args=true :=
  postW_of (r:=l.row.toRowW) (X:=(true == true))
    (show WShape.has [] (.bool true) .bool=true by first | rfl | decide | simp [WShape.has,WShape.arms,WShape.armsAll])
    (show (WTm.eq .res (.lit (.bool true))).value [] { args:=args,res:=some (.bool true),after:=args }=some (.bool (true == true)) from w_eq_bool (w_res rfl) w_lit) rfl
theorem attach_call {l:OpenLaw} {n:Nat} {q:Program} {loose:List Str} {XP:(Str->Option Value)->Heap->Prop} {YP:World->Heap->Prop} {d:DefRec}
    (hn:l.most=some n) (hdf:d.params.defaults=[])
    (call:∀ (w:World) (s₀ s₁:Shared) (mg mb:Str->Option Value) (fa:Addr) (o:Obj) (pm cd doc:Value) (a:Addr) (vs:List Value) (ns:List Int),
      Ground q loose [] XP w s₀ mg mb s₁.heap->YP w s₁.heap ->
      s₁.heap.get? fa=some o->o.data=.func (docDef d.name d.params d.body d.scope pm cd doc)->s₁.heap.CodeRec cd d.name->mg d.name=some (.ref fa) ->
      s₁.heap.get? a=some { cls:=.type "list",data:=.seq vs.toArray }->IntsAre vs ns->ns.length <= n->s₁.gens=#[] ->
      codeAny (model l.prog w) callerA (.call (.ref fa) ⟨[.ref a],[]⟩) (fun r s'=>r=.ok (.ret (.bool true))/\OldK s₁.heap s'.heap/\s'.os=s₁.os/\AllBare s'.gens) s₁) :
    WalkO q loose XP YP l.row.toRowW d [] (fun f vs=>PySem.call f vs):=by
  intro w s₀ s₁ mg mb G Y fa o pm cd doc dV kV ho hd hcd hD hmg hg args vals as hpre hlay hrd hwl hlo
  obtain rfl:dV=.none:=Dflts.none hD hdf
  obtain rfl:kV=.none:=Dflts.noKw hD
  obtain ⟨a,vs,ns,rfl,rfl,hobj,hints,hlen⟩:=script_of hn hpre hwl
  refine enter_call (codeAny_mono (call w s₀ s₁ mg mb fa o pm cd doc a vs ns G Y ho (fd_plain hd) hcd hmg hobj hints hlen hg) fun r s' hq=>?_)
  obtain ⟨rfl,h2,h3,h4⟩:=hq
  exact ⟨.inl ⟨.bool true,.bool true,[],rfl,fun _=>rfl,.bool true,post_true l _,fun _=>⟨List.Pairwise.nil,fun _ hm=>(nomatch hm)⟩⟩,h2,h3,h4⟩
section
variable {prog:Program} {w:World} {A:Around} {E:Value->Shared->Prop} {s:Shared} {K:Frag}
end
end Att
namespace L2
open PySem PySem.Spec PyProof.Rows
theorem vals_ints:∀ {vs:List Value} {ns:List Int},IntsAre vs ns->Vals (ns.map V.int) vs
  | _,_,.nil=>.nil
  | _,_,.cons n t h=>.cons ⟨t,rfl⟩ (vals_ints h)
end L2
namespace L2
open PySem PySem.Spec PyProof.Rows
noncomputable abbrev KOf {K:PySem.W.Frag} {h:Heap} (_:K.In h):PySem.W.Frag:=K
end L2
/- THE LAST THEOREM (shape;LID,My.* are yours):
   My.Adr: a structure of the addresses that your layer names (classes,functions);My.Txt K t: a structure (Prop) of the equations over K;
   My.txt_mk:{K} {implicit addresses ..} (e1:nsIn K mainGlobals "law"=some (some (.ref f))) (e2:K.lookup f=some ⟨oc,od,.func (fnOf "law" "law" params body scope dV kV doc pm an cdv ct),sl⟩) (e3:codeIn K cdv "law"=true) ..:∃ t,My.Txt K t
set_option maxRecDepth 100000 in
set_option maxHeartbeats 0 in
theorem PySem.Challenge.cw_LID_holds:PySem.Challenge.rw_LID.Holds:=by
  w_on;o_law;k_head;(case hw=>w_witness2)
  k_fill
  refine L2.walk_of (l:=PySem.Challenge.rw_LID) (n:=63) (k:=40) (x:="script") (CX:=fun w=>..) (sp:=fun _=>My.sp_law) rfl (by decide) rfl ⟨rfl,by decide,by decide⟩ (fun w h Y=>PySem.W.kIn_of Y) ?F ?S ?C
  case F =>
    intro w mg fa h KX G hmg
    have T:∃ t,My.Txt (L2.KOf KX) t:=by
      dsimp only [L2.KOf]                          -- K must stand as «<heap const> w.params» for k_is
      refine' My.txt_mk ?e1 ?e2 ?e3 ..
      (case e1=>PySem.W.k_is)                    -- in the order: a name->its address->its object->its parts
      (case e2=>PySem.W.k_is)
      ..
    obtain ⟨t,T⟩:=T
    have e0:=hmg.symm.trans (PySem.W.mg_of KX G T.law)
    cases e0                                       -- fa is the law's own address
    exact ⟨_,fun s u=>.of_eq rfl,fun base kb nb=>My.law_fn T kb nb⟩     -- if «.of_eq rfl» comes too early: refine' ⟨_,?b,fun base kb nb=>My.law_fn T kb nb⟩;exact fun s u=>.of_eq rfl
  case S=>exact fun w H a ns hl hO hS=>..
  case C=>exact ..
(the tactic k_is has no namespace: write k_is) -/
namespace L2
open PySem PySem.Spec PyProof.Rows
noncomputable def defArgs (s:Stmt):Arguments:=match s with
  | .FunctionDef _ a _ _ _ _ _ _ _ _=>a
  | _=>{ posonlyargs:=[],args:=[],vararg:=none,kwonlyargs:=[],kw_defaults:=[],kwarg:=none,defaults:=[] }
noncomputable def defBody (s:Stmt):List Stmt:=match s with
  | .FunctionDef _ _ b _ _ _ _ _ _ _=>b
  | _=>[]
noncomputable def defScope (s:Stmt):Scope:=match s with
  | .FunctionDef _ _ _ _ _ _ sc _ _ _=>sc
  | _=>{ kind:=.function,names:=[],isGenerator:=false,isCoroutine:=false }
noncomputable abbrev CX0:CXT:=fun _ _ _ _ _ _=>False
noncomputable abbrev E0:XK:=fun _ _ _=>False
theorem pass0 {X:Cx}:Passes CX0 X E0:=fun _ _ _ _ _ _ _ h=>h.elim
structure Fun (K:PySem.W.Frag) (x qual:Str) (st:Stmt) (f:Addr) (fd:FuncData):Prop where
  ex:∃ (oc:Value) (od:Option Addr) (kV doc pm:Value) (an:Option Addr) (cdv ct:Value) (osl:Array (Option Value)),
    fd=PySem.W.fnOf x qual (defArgs st) (defBody st) (defScope st) .none kV doc pm an cdv ct/\K.lookup f=some ⟨oc,od,.func fd,osl⟩/\PySem.W.codeIn K cdv qual=true
  kp:PySem.W.keepIn K (.ref f)=true
section
variable {P:Program} {w:World} {K:PySem.W.Frag} {mg:Str->Option Value} {base:Heap}
theorem Fun.ok {x qual:Str} {st:Stmt} {f:Addr} {fd:FuncData} {N ps:List Str} {k:Nat} {sp:Sp} (F:Fun K x qual st f fd) (S:FnScope N ps (defScope st)) (len:∀ vs H Q E,sp vs H Q E->vs.length=ps.length)
    (hbody:∀ (cdv:Value) (A:Around) (outer:List Env) (s:Shared) (H:Hp) (vs:List V) (Q:VK) (E:XK),Room k (A.deeper (envOfC qual (defScope st) s.heap.objs.size f cdv))->sp vs H Q E ->
      ∃ t,PSs (cxOf CX0 P w K mg base N qual (defScope st) f cdv A outer s H E).nox (defBody st) t/\t { nx:=fun _ H'=>Q .non H',rt:=Q } (start N vs) H):FnOk P w K mg base CX0 (k + 1) f fd ps sp:=by
  obtain ⟨oc,od,kV,doc,pm,an,cdv,ct,osl,rfl,lk,hcd⟩:=F.ex
  refine fn_of lk hcd S len fun A outer s H vs Q E hr hsp=>?_
  obtain ⟨t,h,q⟩:=hbody cdv A outer s H vs Q E hr hsp
  exact ⟨t,h.nox,q⟩
theorem Fun.binds {x qual:Str} {st:Stmt} {f:Addr} {fd:FuncData} {ps:List Str} (F:Fun K x qual st f fd)
    (h:∀ (kV doc pm:Value) (an:Option Addr) (cdv ct:Value) (us:List Value),us.length=ps.length->bindArgs (PySem.W.fnOf x qual (defArgs st) (defBody st) (defScope st) .none kV doc pm an cdv ct) ⟨us,[]⟩=pure (ps.zip us)):Binds K fd ps []:=by
  obtain ⟨oc,od,kV,doc,pm,an,cdv,ct,osl,rfl,lk,hcd⟩:=F.ex
  exact .all (h kV doc pm an cdv ct)
theorem fun_mk {x qual:Str} {st:Stmt} {f:Addr} {oc:Value} {od an:Option Addr} {osl:Array (Option Value)} {kV doc pm cdv ct:Value} (l:K.lookup f=some ⟨oc,od,.func (PySem.W.fnOf x qual (defArgs st) (defBody st) (defScope st) .none kV doc pm an cdv ct),osl⟩)
    (c:PySem.W.codeIn K cdv qual=true) (k:PySem.W.keepIn K (.ref f)=true):Fun K x qual st f (PySem.W.fnOf x qual (defArgs st) (defBody st) (defScope st) .none kV doc pm an cdv ct):=⟨⟨oc,od,kV,doc,pm,an,cdv,ct,osl,rfl,l,c⟩,k⟩
end
theorem hu_of {A:Around} {k:Nat} (hr:Room k A):A.units + 1 < cLine:=Nat.lt_of_le_of_lt (Nat.add_le_add_left (by decide:1 <= 64) _) hr.units
theorem small1000 {n:Nat} (h:n <= 1000):n < sizeLine:=Nat.lt_of_le_of_lt h (by decide)
section
variable {X:Cx}
theorem pv (i:Nat) {x:Str} {pos:Pos} (hN:X.N[i]?=some x:=by rfl) (hv:Vis X.env.scope x:=by first | exact Or.inl rfl | exact Or.inr (Or.inl rfl) | exact Or.inr (Or.inr rfl)) (hd:(x == ("__debug__":Str))=false:=by decide)
    (hcd:(x == ("__classdict__":Str))=false:=by decide):PE X (.Name x pos) (tVar i):=pe_var hN hv hd hcd
end
theorem iteF {A B:Prop} (h:B):if false=true then A else B:=by
  rw [if_neg Bool.false_ne_true]
  exact h
theorem iteT {A B:Prop} (h:A):if true=true then A else B:=by
  rw [if_pos rfl]
  exact h
noncomputable def Same (H H':Hp):Prop:=∀ b o,H b=some o->H' b=some o
theorem Same.refl (H:Hp):Same H H:=fun _ _ h=>h
theorem Same.trans {H H1 H2:Hp} (a:Same H H1) (b:Same H1 H2):Same H H2:=fun c o h=>b c o (a c o h)
theorem Same.free {H H':Hp} (e:Same H H') {l:Addr} (h:H' l=Option.none):H l=Option.none:=by
  cases q:H l with
  | none=>rfl
  | some o =>
    rw [e l o q] at h
    cases h
end L2
set_option maxHeartbeats 4000000
namespace L2
open PySem PySem.Spec PyProof.Rows
theorem cellsFrom_app:∀ (names:List (Str × NameKind)) (n:Nat) (acc:List (Str × Addr)),cellsFrom n names acc=cellsFrom n names [] ++ acc
  | [],n,acc=>rfl
  | (x,k) :: r,n,acc=>by
    unfold cellsFrom
    split
    · rw [cellsFrom_app r (n + 1) ((x,n) :: acc),cellsFrom_app r (n + 1) [(x,n)],List.append_assoc]
      rfl
    · exact cellsFrom_app r n acc
noncomputable def closL (env:Env):List (Str × NameKind)->List (Str × Addr)->List (Str × Addr)
  | [],acc=>acc
  | (x,k) :: r,acc=>if k == .free then closL env r ((x,(env.cells.lookup x).getD 0) :: acc) else closL env r acc
theorem closL_eq {env:Env} (f:Str × NameKind->List (Str × Addr)->Sem (ForInStep (List (Str × Addr))))
    (hf:∀ name kind cs,f (name,kind) cs=if kind == .free then (do let a <- cellOf env name;pure (.yield ((name,a) :: cs))) else pure (.yield cs)) :
    ∀ (names:List (Str × NameKind)) (acc:List (Str × Addr)),(∀ x ∈ names,x.2=.free->∃ c,env.cells.lookup x.1=some c)->forIn names acc f=pure (closL env names acc)
  | [],acc,_=>by rw [List.forIn_nil];rfl
  | (x,k) :: r,acc,h=>by
    have ih:=fun acc=>closL_eq f hf r acc fun y hy=>h y (List.mem_cons_of_mem _ hy)
    rw [List.forIn_cons,hf]
    unfold closL
    by_cases hk:(k == NameKind.free)=true
    · rw [if_pos hk,if_pos hk]
      obtain ⟨c,hc⟩:=h (x,k) List.mem_cons_self (beq_iff_eq.mp hk)
      have hc':env.cells.lookup x=some c:=hc
      have:cellOf env x=pure c:=by unfold cellOf;rw [hc']
      rw [this,hc']
      simp only [pure_bind,Option.getD_some]
      exact ih _
    · rw [if_neg hk,if_neg hk]
      simp only [pure_bind]
      exact ih _
theorem closureFor_eq {scope:Scope} {env:Env} (h:∀ x ∈ scope.names,x.2=.free->∃ c,env.cells.lookup x.1=some c):closureFor scope env=pure (closL env scope.names []):=by
  simp only [closureFor]
  rw [closL_eq (env:=env) _ (fun name kind cs=>by cases hk:kind == NameKind.free <;> simp [hk]) scope.names [] h]
  rfl
theorem closL_mem {env:Env}:∀ {names:List (Str × NameKind)} {acc:List (Str × Addr)} {x:Str} {c:Addr},(∀ x ∈ names,x.2=.free->∃ c,env.cells.lookup x.1=some c) ->
    (x,c) ∈ closL env names acc->(x,c) ∈ acc ∨ env.cells.lookup x=some c
  | [],acc,x,c,_,hm=>.inl hm
  | (y,k) :: r,acc,x,c,h,hm=>by
    have hr:∀ x ∈ r,x.2=.free->∃ c,env.cells.lookup x.1=some c:=fun z hz=>h z (List.mem_cons_of_mem _ hz)
    unfold closL at hm
    by_cases hk:(k == NameKind.free)=true
    · rw [if_pos hk] at hm
      obtain ⟨d,hd⟩:=h (y,k) List.mem_cons_self (beq_iff_eq.mp hk)
      have hd':env.cells.lookup y=some d:=hd
      rcases closL_mem hr hm with q | q
      · rcases List.mem_cons.mp q with e | q
        · cases e
          right;rw [hd'];rfl
        · exact .inl q
      · exact .inr q
    · rw [if_neg hk] at hm
      exact closL_mem hr hm
theorem closL_acc {env:Env}:∀ {names:List (Str × NameKind)} {acc:List (Str × Addr)} {p:Str × Addr},p ∈ acc->p ∈ closL env names acc
  | [],_,_,h=>h
  | (y,k) :: r,acc,p,h=>by
    unfold closL
    split
    · exact closL_acc (List.mem_cons_of_mem _ h)
    · exact closL_acc h
theorem closL_has {env:Env}:∀ {names:List (Str × NameKind)} {acc:List (Str × Addr)} {x:Str},(x,NameKind.free) ∈ names->∃ c,(x,c) ∈ closL env names acc
  | [],_,_,h=>by cases h
  | (y,k) :: r,acc,x,h=>by
    unfold closL
    rcases List.mem_cons.mp h with e | h
    · cases e
      rw [if_pos (by rfl)]
      exact ⟨_,closL_acc List.mem_cons_self⟩
    · split
      · exact closL_has h
      · exact closL_has h
theorem lookup_of_mem {α:Type}:∀ {l:List (Str × α)} {x:Str} {c:α},(x,c) ∈ l->∃ d,l.lookup x=some d
  | (k,v) :: r,x,c,h=>by
    rw [List.lookup_cons]
    cases hb:x == k with
    | true=>exact ⟨v,rfl⟩
    | false =>
      rcases List.mem_cons.mp h with e | h
      · cases e;simp at hb
      · exact lookup_of_mem h
theorem lookup_append_some {α:Type}:∀ {l l':List (Str × α)} {x:Str} {c:α},(l ++ l').lookup x=some c->l.lookup x=some c ∨ (l.lookup x=none/\l'.lookup x=some c)
  | [],l',x,c,h=>.inr ⟨rfl,h⟩
  | (k,v) :: r,l',x,c,h=>by
    rw [List.cons_append,List.lookup_cons] at h
    rw [List.lookup_cons]
    cases hb:x == k with
    | true=>rw [hb] at h;exact .inl h
    | false=>rw [hb] at h;exact lookup_append_some h
theorem lookup_append_left {α:Type}:∀ {l l':List (Str × α)} {x:Str} {c:α},l.lookup x=some c->(l ++ l').lookup x=some c
  | [],l',x,c,h=>by cases h
  | (k,v) :: r,l',x,c,h=>by
    rw [List.cons_append,List.lookup_cons]
    rw [List.lookup_cons] at h
    cases hb:x == k with
    | true=>rw [hb] at h;exact h
    | false=>rw [hb] at h;exact lookup_append_left h
theorem lookup_append_right {α:Type}:∀ {l l':List (Str × α)} {x:Str},l.lookup x=none->(l ++ l').lookup x=l'.lookup x
  | [],l',x,h=>rfl
  | (k,v) :: r,l',x,h=>by
    rw [List.cons_append,List.lookup_cons]
    rw [List.lookup_cons] at h
    cases hb:x == k with
    | true=>rw [hb] at h;cases h
    | false=>rw [hb] at h;exact lookup_append_right h
theorem lookup_relabel {env:Env}:∀ (names:List (Str × NameKind)) (x:Str),
    (names.map fun (n,k)=>if (k == NameKind.free && env.scope.kind == .function && env.kindOf n == some .cell) then (n,NameKind.cell) else (n,k)).lookup x
     =(names.lookup x).map fun k=>if (k == NameKind.free && env.scope.kind == .function && env.kindOf x == some .cell)=true then NameKind.cell else k
  | [],x=>rfl
  | (n,k) :: r,x=>by
    have ih:=lookup_relabel (env:=env) r x
    rw [List.map_cons]
    cases hx:x == n with
    | true =>
      have e:x=n:=beq_iff_eq.mp hx
      subst e
      by_cases hc:(k == NameKind.free && env.scope.kind == .function && env.kindOf x == some .cell)=true
      · simp only [hc,if_true,List.lookup_cons,hx,Option.map_some]
      · simp only [hc,List.lookup_cons,hx,Option.map_some]
        simp
    | false =>
      show List.lookup x ((if (k == NameKind.free && env.scope.kind == .function && env.kindOf n == some .cell)=true then (n,NameKind.cell) else (n,k)) :: _)=_
      by_cases hc:(k == NameKind.free && env.scope.kind == .function && env.kindOf n == some .cell)=true
      · rw [if_pos hc]
        simp only [List.lookup_cons,hx]
        exact ih
      · rw [if_neg hc]
        simp only [List.lookup_cons,hx]
        exact ih
theorem cellsFrom_in:∀ {names:List (Str × NameKind)} {n:Nat} {acc:List (Str × Addr)} {x:Str} {d:Addr},(x,d) ∈ cellsFrom n names acc->(x,d) ∈ acc ∨ (x,NameKind.cell) ∈ names
  | [],_,_,_,_,h=>.inl h
  | (y,k) :: r,n,acc,x,d,h=>by
    unfold cellsFrom at h
    by_cases hk:(k == NameKind.cell)=true
    · rw [if_pos hk] at h
      have e:k=.cell:=beq_iff_eq.mp hk
      subst e
      rcases cellsFrom_in h with q | q
      · rcases List.mem_cons.mp q with z | z
        · cases z;exact .inr List.mem_cons_self
        · exact .inl z
      · exact .inr (List.mem_cons_of_mem _ q)
    · rw [if_neg hk] at h
      rcases cellsFrom_in h with q | q
      · exact .inl q
      · exact .inr (List.mem_cons_of_mem _ q)
noncomputable def okNames (scope:Scope):Bool:=scope.names.all fun x=>scope.names.lookup x.1 == some x.2
theorem okNames_get {scope:Scope} (h:okNames scope=true) {x:Str × NameKind} (hx:x ∈ scope.names):scope.names.lookup x.1=some x.2:=beq_iff_eq.mp (List.all_eq_true.mp h x hx)
theorem relabel_kind {scope:Scope} {env:Env} {x:Str} (h:(relabel scope env).names.lookup x=some .cell ∨ (relabel scope env).names.lookup x=some .free) :
    scope.names.lookup x=some .cell ∨ scope.names.lookup x=some .free:=by
  unfold relabel at h
  rw [lookup_relabel] at h
  cases e:scope.names.lookup x with
  | none=>rw [e] at h;rcases h with h | h <;> cases h
  | some k =>
    rw [e,Option.map_some] at h
    by_cases hc:(k == NameKind.free && env.scope.kind == .function && env.kindOf x == some .cell)=true
    · rw [Bool.and_eq_true,Bool.and_eq_true] at hc
      exact .inr (by rw [beq_iff_eq.mp hc.1.1])
    · simp only [hc] at h
      simpa using h
theorem newEnv_comp {M:Model} {A:Around} {E:Value->Shared->Prop} {s:Shared} {scope:Scope} {globals:Addr} {cl:List (Str × Addr)} {qual:Str} {env:Env} {Q:Env->Shared->Prop}
    (h:Q (newEnv scope s.heap.objs.size globals (cellsFrom (s.heap.objs.size + 1) scope.names [] ++ cl) qual none .none (some env) builtinsNs)
      { s with heap:=pushCells (s.heap.push { cls:=.type "dict",data:=.dict #[] }) scope.names }) :
    wpAny M A (newFunctionEnv scope globals cl [] qual none .none (some env)) Q E s:=by
  simp only [newFunctionEnv,Option.isSome_some,if_true]
  refine wpAny_bind (wpAny_alloc ?_)
  refine wpAny_bind (wpAny_layCells _ (fun name kind cells=>by cases hkc:kind == NameKind.cell <;> simp [hkc]) _ _ _ _ ?_)
  rw [show ({ s with heap:=s.heap.push { cls:=.type "dict",data:=.dict #[] } }:Shared).heap.objs.size=s.heap.objs.size + 1 from Heap.size_push ..,cellsFrom_app]
  exact wpAny_bind (wpAny_pure (wpAny_pure h))
noncomputable def Cx.comp (X:Cx) (scope:Scope) (N:List Str) (s:Shared) (H:Hp) (ex:List Addr):Cx where
  prog:=X.prog
  w:=X.w
  K:=X.K
  mg:=X.mg
  base:=X.base
  A:=X.A
  N:=N
  s₀:=s
  H₀:=H
  env:=compEnvC scope (cellsFrom (s.heap.objs.size + 1) scope.names [] ++ closL X.env scope.names []) s.heap.objs.size X.env
  outer:=X.stack
  stack:=X.stack
  ex:=ex
  fn:=fun x=>scope.names.lookup x == some .cell
  calm:=X.calm
  pn:=[]
  xe:=fun _ _=>False
noncomputable def pick (ix:List (Option Nat)) (σ:St):St:=ix.map fun o=>o.bind fun i=>(σ[i]?).join
noncomputable def okIx (scope:Scope) (N:List Str):List Str->List (Option Nat)->Bool
  | [],[]=>true
  | _ :: N',none :: ix=>okIx scope N N' ix
  | x :: N',some i :: ix=>N[i]? == some x && scope.names.lookup x == some .free && okIx scope N N' ix
  | _,_=>false
theorem okIx_len {scope:Scope} {N:List Str}:∀ {N':List Str} {ix:List (Option Nat)},okIx scope N N' ix=true->ix.length=N'.length
  | [],[],_=>rfl
  | _ :: N',none :: ix,h=>by simp [okIx_len (N':=N') (ix:=ix) h]
  | x :: N',some i :: ix,h=>by
    unfold okIx at h
    rw [Bool.and_eq_true] at h
    simp [okIx_len (N':=N') (ix:=ix) h.2]
  | [],_ :: _,h=>by simp [okIx] at h
  | _ :: _,[],h=>by simp [okIx] at h
theorem okIx_get {scope:Scope} {N:List Str}:∀ {N':List Str} {ix:List (Option Nat)} {j i:Nat},okIx scope N N' ix=true->ix[j]?=some (some i) ->
    ∃ x,N'[j]?=some x/\N[i]?=some x/\scope.names.lookup x=some .free
  | [],[],j,i,_,e=>by simp at e
  | y :: N',none :: ix,0,i,h,e=>by simp at e
  | y :: N',none :: ix,j + 1,i,h,e=>by
    obtain ⟨x,h1,h2⟩:=okIx_get (N':=N') (ix:=ix) (j:=j) (i:=i) h (by simpa using e)
    exact ⟨x,by simpa using h1,h2⟩
  | y :: N',some k :: ix,0,i,h,e=>by
    unfold okIx at h
    rw [Bool.and_eq_true,Bool.and_eq_true] at h
    simp at e
    subst e
    exact ⟨y,rfl,beq_iff_eq.mp h.1.1,beq_iff_eq.mp h.1.2⟩
  | y :: N',some k :: ix,j + 1,i,h,e=>by
    unfold okIx at h
    rw [Bool.and_eq_true] at h
    obtain ⟨x,h1,h2⟩:=okIx_get (N':=N') (ix:=ix) (j:=j) (i:=i) h.2 (by simpa using e)
    exact ⟨x,by simpa using h1,h2⟩
  | [],_ :: _,_,_,h,_=>by simp [okIx] at h
  | _ :: _,[],_,_,h,_=>by simp [okIx] at h
noncomputable def okFree (scope:Scope) (env:Env):Bool:=scope.names.all fun x=>!(x.2 == .free) || env.kindOf x.1 == some .cell || env.kindOf x.1 == some .free
theorem okFree_get {scope:Scope} {env:Env} (h:okFree scope env=true) {x:Str × NameKind} (hx:x ∈ scope.names) (hk:x.2=.free):env.kindOf x.1=some .cell ∨ env.kindOf x.1=some .free:=by
  have:=List.all_eq_true.mp h x hx
  rw [hk] at this
  simpa using this
section
variable {X:Cx} {pins:List (Addr × Obj)} {σ:St} {H:Hp} {s:Shared} {scope:Scope} {N:List Str} {ix:List (Option Nat)} {ex:List Addr}
theorem Inv.closed (I:Inv X pins σ H s) (hf:okFree scope X.env=true):∀ x ∈ scope.names,x.2=.free->∃ c,X.env.cells.lookup x.1=some c :=
  fun x hx hk=>I.ok.has x.1 (okFree_get hf hx hk)
theorem pick_get {j:Nat} {v:V} (h:(pick ix σ)[j]?=some (some v)):∃ i,ix[j]?=some (some i)/\σ[i]?=some (some v):=by
  unfold pick at h
  rw [List.getElem?_map] at h
  cases e:ix[j]? with
  | none=>rw [e] at h;cases h
  | some o =>
    rw [e] at h
    cases o with
    | none=>cases h
    | some i =>
      refine ⟨i,rfl,?_⟩
      have h':(σ[i]?).join=some v:=Option.some.inj h
      cases q:σ[i]? with
      | none=>rw [q] at h';cases h'
      | some z=>rw [q] at h';exact congrArg some h'
theorem Inv.comp (I:Inv X pins σ H s) (hk:scope.kind=.function) (hnm:okNames scope=true) (hf:okFree scope X.env=true) (hx:okIx scope X.N N ix=true)
    (hex:∀ b ∈ ex,H b=none/\b ≠ X.env.locals/\b ∉ X.fs/\(b ∈ X.ex ∨ X.s₀.heap.objs.size <= b)/\(∀ x c,X.env.cells.lookup x=some c->c ≠ b)/\b < s.heap.objs.size) :
    Inv (X.comp scope N s H ex) [] (pick ix σ) H { s with heap:=pushCells (s.heap.push { cls:=.type "dict",data:=.dict #[] }) scope.names }:=by
  have hcl:=I.closed hf
  have hkeep:∀ b o,s.heap.get? b=some o->(pushCells (s.heap.push { cls:=.type "dict",data:=.dict #[] }) scope.names).get? b=some o:=fun b o e=>pushCells_keeps _ _ b o (Heap.get?_push_of_some _ e)
  have ok:=cellsFrom_ok scope.names (s.heap.push { cls:=.type "dict",data:=.dict #[] }) (s.heap.objs.size + 1) [] ⟨fun _ _ hm=>(nomatch hm),List.Pairwise.nil⟩ (by rw [Heap.size_push];exact Nat.le_refl _)
  rw [Heap.size_push] at ok
  have hns:(pushCells (s.heap.push { cls:=.type "dict",data:=.dict #[] }) scope.names).Ns s.heap.objs.size (fun _=>none):=(Heap.Ns.new s.heap (.type "dict")).keeps (pushCells_keeps _ _)
  have cells:∀ x c,(X.comp scope N s H ex).env.cells.lookup x=some c->(x,c) ∈ cellsFrom (s.heap.objs.size + 1) scope.names [] ∨ X.env.cells.lookup x=some c:=fun x c e=>by
    have e':(cellsFrom (s.heap.objs.size + 1) scope.names [] ++ closL X.env scope.names []).lookup x=some c:=e
    rcases lookup_append_some e' with q | ⟨_,q⟩
    · exact .inl (mem_of_lookup q)
    · rcases closL_mem hcl (mem_of_lookup q) with z | z
      · cases z
      · exact .inr z
  have old:∀ x c,X.env.cells.lookup x=some c->c + 1 <= s.heap.objs.size:=fun x c e=>let ⟨v,q⟩:=I.cell x c e;q.lt
  have own:∀ x c,(x,c) ∈ cellsFrom (s.heap.objs.size + 1) scope.names []->s.heap.objs.size + 1 <= c:=fun x c e=>(ok.empty x c e).2
  refine ⟨⟨I.ok.mod,hk,I.ok.glob,I.ok.blt,Nat.le_refl _,fun x y c h1 h2=>?_,fun x h1=>?_,fun x c h1 h2=>?_,I.ok.hd,I.ok.frames,.inl rfl,fun b hb=>⟨?_,fun x c e=>?_⟩,I.bs,Nat.le_trans I.ok.bsz I.sz,fun b o e hb=>?_,fun b hb hb'=>?_,I.stack,I.stkFree⟩,
    rfl,I.bare,Un.kept hkeep,⟨_,hns,fun j x v h1 h2 h3=>?_⟩,fun x c e=>?_,I.hok.fresh (Nat.le_refl _),fun x c e=>?_,fun p hp=>absurd (show p ∈ ([]:List (Addr × Obj)) from hp) (by simp),I.hok.kept hkeep,?_⟩
  · rcases cells x c h1 with q1 | q1 <;> rcases cells y c h2 with q2 | q2
    · exact name_of_addr ok.apart q1 q2
    · exact absurd (Nat.le_trans (own _ _ q1) (Nat.le_trans (Nat.le_succ _) (old _ _ q2))) (Nat.not_succ_le_self _)
    · exact absurd (Nat.le_trans (own _ _ q2) (Nat.le_trans (Nat.le_succ _) (old _ _ q1))) (Nat.not_succ_le_self _)
    · exact I.ok.inj x y c q1 q2
  · have h1':scope.names.lookup x=some .cell ∨ scope.names.lookup x=some .free:=relabel_kind h1
    rcases h1' with q | q
    · obtain ⟨c,e⟩:=cell_has (n:=s.heap.objs.size + 1) (sc:=scope) q
      exact ⟨c,lookup_append_left e⟩
    · obtain ⟨c,e⟩:=closL_has (env:=X.env) (acc:=[]) (mem_of_lookup q)
      cases z:(cellsFrom (s.heap.objs.size + 1) scope.names []).lookup x with
      | some d=>exact ⟨d,lookup_append_left z⟩
      | none =>
        obtain ⟨d,e'⟩:=lookup_of_mem e
        exact ⟨d,(lookup_append_right z).trans e'⟩
  · have h1':scope.names.lookup x=some .cell:=beq_iff_eq.mp h1
    obtain ⟨d,e⟩:=cell_has (n:=s.heap.objs.size + 1) (sc:=scope) h1'
    have e':(cellsFrom (s.heap.objs.size + 1) scope.names [] ++ closL X.env scope.names []).lookup x=some c:=h2
    rw [lookup_append_left e] at e'
    cases e'
    exact Nat.le_trans (Nat.le_succ _) (own _ _ (mem_of_lookup e))
  · exact Nat.ne_of_lt (hex b hb).2.2.2.2.2
  · rcases cells x c e with q | q
    · exact Nat.ne_of_gt (Nat.lt_of_lt_of_le (hex b hb).2.2.2.2.2 (Nat.le_trans (Nat.le_succ _) (own _ _ q)))
    · exact (hex b hb).2.2.2.2.1 x c q
  · rcases (hex b hb).2.2.2.1 with z | z
    · exact I.ok.noex b o e z
    · exact absurd (Nat.lt_of_lt_of_le (Heap.lt_size e) (Nat.le_trans I.ok.bsz z)) (Nat.lt_irrefl _)
  · rcases List.mem_cons.mp (I.stkSub b hb') with z | z
    · exact (hex b hb).2.1 z
    · exact (hex b hb).2.2.1 z
  · obtain ⟨i,e1,e2⟩:=pick_get h2
    obtain ⟨y,f1,f2,f3⟩:=okIx_get hx e1
    have exy:x=y:=by
      have h1':N[j]?=some x:=h1
      rw [f1] at h1';exact (Option.some.inj h1').symm
    subst exy
    obtain ⟨m,hm,hl⟩:=I.loc
    have kx:=okFree_get hf (mem_of_lookup f3) rfl
    have vis:Vis X.env.scope x:=by
      rcases kx with k | k
      · exact .inr (.inl k)
      · exact .inr (.inr k)
    obtain ⟨u,ru,l⟩:=hl i x v f2 e2 vis
    refine ⟨u,ru,.inr ?_⟩
    have hv:(relabel scope X.env).names.lookup x=some .cell ∨ (relabel scope X.env).names.lookup x=some .free:=by
      unfold relabel
      rw [lookup_relabel,f3,Option.map_some]
      split
      · exact .inl rfl
      · exact .inr rfl
    refine ⟨hv,?_⟩
    rcases l with ⟨k,_⟩ | ⟨k,c,ec,z⟩
    · have k':X.env.kindOf x=some .local:=k
      rcases kx with q | q <;> rw [q] at k' <;> cases k'
    · obtain ⟨d,ed⟩:=closL_has (env:=X.env) (acc:=[]) (mem_of_lookup f3)
      have nocell:(cellsFrom (s.heap.objs.size + 1) scope.names []).lookup x=none ∨ ∃ d,(cellsFrom (s.heap.objs.size + 1) scope.names []).lookup x=some d:=by
        cases (cellsFrom (s.heap.objs.size + 1) scope.names []).lookup x with
        | none=>exact .inl rfl
        | some d=>exact .inr ⟨d,rfl⟩
      rcases nocell with q | ⟨d',q⟩
      · obtain ⟨d2,ed2⟩:=lookup_of_mem ed
        have hd2:X.env.cells.lookup x=some d2:=by
          rcases closL_mem hcl (mem_of_lookup ed2) with z | z
          · cases z
          · exact z
        rw [ec] at hd2
        cases hd2
        exact ⟨c,(lookup_append_right q).trans ed2,z.keeps hkeep⟩
      · -- a name is not both free and a cell of the block
        exfalso
        rcases cellsFrom_in (mem_of_lookup q) with z | z
        · cases z
        · have z':=okNames_get hnm z
          rw [f3] at z'
          cases z'
  · rcases cells x c e with q | q
    · exact ⟨none,(ok.empty x c q).1⟩
    · obtain ⟨v,z⟩:=I.cell x c q
      exact ⟨v,z.keeps hkeep⟩
  · rcases cells x c e with q | q
    · exact I.hok.fresh (Nat.le_trans (Nat.le_succ _) (own x c q))
    · exact I.freeC x c q
  · show (pick ix σ).length=N.length
    unfold pick
    rw [List.length_map]
    exact okIx_len hx
end
end L2
namespace L2
open PySem PySem.Spec PyProof.Rows
section
variable {prog:Program} {w:World} {A:Around} {R:Result->Shared->Prop} {s:Shared}
theorem compLoop_any {elt target iter:Expr} {ifs:List Expr} {scope:Scope} {pos:Pos} {it acc:Value} {env:Env} (I:Nat->Shared->Prop)
    (turn:∀ n s,I n s->wpAny (model prog w) A (pyNext it) (fun r s₁=>match r with
      | none=>R (.ok .next) s₁
      | some v=>wpAny (model prog w) A (letOwnedTupleGo target it v) (fun _ s₁'=>wpAny (model prog w) A (assign target env v) (fun _ s₂ =>
          wpAny (model prog w) A (forIn ifs true fun c r=>if r=true then do let ok <- isTrue c env (eval c env);pure (ForInStep.yield ok) else pure (ForInStep.yield r)) (fun ok s₃ =>
            if ok=true then wpAny (model prog w) A (eval elt env) (fun x s₄ =>
              wpAny (model prog w) A (call (.builtin "list.append") [acc,x]) (fun _ s₅=>∃ m,m < n/\I m s₅) (fun _ _=>False) s₄) (fun _ _=>False) s₃
            else ∃ m,m < n/\I m s₃) (fun _ _=>False) s₂) (fun _ _=>False) s₁') (fun _ _=>False) s₁) (fun _ _=>False) s)
    (n:Nat) (h:I n s) :
    codeAny (model prog w) A (.compLoop (.ListComp elt [⟨target,iter,ifs,0⟩] scope pos) 0 it acc env) R s:=by
  refine codeAny_loop rfl I (fun n s hI=>?_) n h
  show wpAny _ A ((compTurn (.ListComp elt [⟨target,iter,ifs,0⟩] scope pos) 0 it acc env).onRaise (fun x=>do noteFrame x env;theTreesLotGoes x)) _ _ s
  refine wpAny_noted ?_
  rw [compTurn_list]
  refine wpAny_bind (wpAny_standAt (wpAny_bind (wpAny_mono (turn n s hI) (fun r s₁ h₁=>?_) fun _ _ h'=>h'.elim)))
  cases r with
  | none=>exact wpAny_pure h₁
  | some v =>
    refine wpAny_bind (wpAny_mono h₁ (fun _ s₁' h₁'=>?_) fun _ _ h'=>h'.elim)
    refine wpAny_bind (wpAny_mono h₁' (fun _ s₂ h₂=>wpAny_bind (wpAny_mono h₂ (fun ok s₃ h₃=>?_) fun _ _ h'=>h'.elim)) fun _ _ h'=>h'.elim)
    cases ok with
    | false=>exact wpAny_pure ⟨rfl,h₃⟩
    | true =>
      exact wpAny_bind (wpAny_bind (wpAny_mono h₃ (fun x s₄ h₄=>wpAny_bind (wpAny_mono h₄ (fun _ s₅ h₅=>wpAny_pure (wpAny_pure ⟨rfl,h₅⟩)) fun _ _ h'=>h'.elim)) fun _ _ h'=>h'.elim))
end
noncomputable def Wk (σ σ2:St):Prop:=σ.length=σ2.length/\∀ (i:Nat) v,σ[i]?=some (some v)->σ2[i]?=some (some v)
theorem Wk.set {σ:St} {i:Nat} {v:V} (h:σ[i]?=some none ∨ σ[i]?=none):Wk σ (σ.set i (some v)):=by
  refine ⟨by simp,fun j u e=>?_⟩
  by_cases hj:j=i
  · subst hj
    rcases h with h | h <;> rw [h] at e <;> cases e
  · rw [List.getElem?_set_ne (Ne.symm hj)]
    exact e
section
variable {X:Cx} {pins:List (Addr × Obj)} {σ:St} {H H':Hp} {s s':Shared} {scope:Scope} {N:List Str} {ix:List (Option Nat)} {fp:List Addr}
noncomputable abbrev accS (s:Shared):Shared:={ s with heap:=s.heap.push { cls:=.type "list",dict:=none,data:=.seq ([]:List Value).toArray } }
theorem acc_size (s:Shared):(accS s).heap.objs.size=s.heap.objs.size + 1:=Heap.size_push ..
theorem Inv.comp_end {pins':List (Addr × Obj)} {σ':St} {ys:List V} {its:List Value} {n:Nat} {h':Heap} (I:Inv X pins σ H s) (J:Inv (X.comp scope N (accS s) H (s.heap.objs.size :: fp)) pins' σ' H' s') (hfp:∀ b ∈ fp,FpOk X pins H b)
    (hD:H' s.heap.objs.size=none) (hl:s'.heap.get? s.heap.objs.size=some { cls:=.type "list",data:=.seq its.toArray n }) (hv:Vals ys its) (hz:ys.length <= sizeLine)
    (hs:Heap.SameBut (accS s).heap.objs.size s'.heap h'):Inv X pins σ (upd H' s.heap.objs.size (.lst ys)) { s' with heap:=h' }:=by
  have oldC:∀ b,b < s.heap.objs.size->b ≠ (accS s).heap.objs.size:=fun b hb=>by rw [acc_size];exact Nat.ne_of_lt (Nat.lt_succ_of_lt hb)
  have DC:s.heap.objs.size ≠ (accS s).heap.objs.size:=by rw [acc_size];exact Nat.ne_of_lt (Nat.lt_succ_self _)
  have pushed:∀ b o,s.heap.get? b=some o->(accS s).heap.get? b=some o:=fun b o e=>Heap.get?_push_of_some _ e
  have nex:∀ b o,s.heap.get? b=some o->b ∉ fp->b ∉ (X.comp scope N (accS s) H (s.heap.objs.size :: fp)).ex:=fun b o e hb z=>by
    rcases List.mem_cons.mp (show b ∈ s.heap.objs.size :: fp from z) with z | z
    · rw [z] at e;exact absurd (Heap.lt_size e) (Nat.lt_irrefl _)
    · exact hb z
  have U:=J.base
  have un:Un (frs X.stack) fp H (upd H' s.heap.objs.size (.lst ys)) s.heap h':=by
    refine ⟨fun b o e n hb hx=>?_,fun b o e n hb hx=>?_,fun b o e n hx=>?_,fun b o e hx=>?_,fun b xs e=>?_,fun b o u e=>?_,fun b ps e=>?_⟩
    · exact (hs.2 b (oldC b (Heap.lt_size e))).trans (U.keep b o (pushed b o e) n hb (nex b o e hx))
    · obtain ⟨sl,q⟩:=U.slot b o (pushed b o e) n hb (nex b o e hx)
      exact ⟨sl,(hs.2 b (oldC b (Heap.lt_size e))).trans q⟩
    · rw [upd_ne (Nat.ne_of_lt (Heap.lt_size e))]
      exact U.free b o (pushed b o e) n (nex b o e hx)
    · obtain ⟨o',q⟩:=U.there b o (pushed b o e) (nex b o e hx)
      exact ⟨o',(hs.2 b (oldC b (Heap.lt_size e))).trans q⟩
    · have q:=U.tups b xs e
      rw [upd_ne (ne_of_none q hD)];exact q
    · have q:=U.frzs b o u e
      rw [upd_ne (ne_of_none q hD)];exact q
    · obtain ⟨m,q⟩:=U.tbls b ps e
      exact ⟨m,by rw [upd_ne (ne_of_none q hD)];exact q⟩
  have hC:H' (accS s).heap.objs.size=none:=J.free
  have hok:HOk X.prog X.w (upd H' s.heap.objs.size (.lst ys)) h':=fun b u e=>by
    by_cases hb:b=s.heap.objs.size
    · subst hb
      rw [upd_same] at e;cases e
      exact ⟨hz,its,n,hv,(hs.2 _ DC).trans hl⟩
    · rw [upd_ne hb] at e
      refine (J.hok b u e).stay (fun c v hc q=>(hs.2 c ?_).trans q) (fun c q=>by rw [upd_ne (ne_of_none q hD)];exact q) fun c xs q=>by rw [upd_ne (ne_of_none q hD)];exact q
      rintro rfl
      rcases hc with z | z
      · rw [<- z,hC] at e;cases e
      · rw [hC] at z;cases z
  exact I.call' (s':={ s' with heap:=h' }) (ch:=fp) J.os un hok J.bare fun b hb=>⟨(hfp b hb).2.2.2.1,(hfp b hb).2.1,(hfp b hb).2.2.2.2.1,(hfp b hb).2.2.2.2.2⟩
end
section
variable {X:Cx} {scope:Scope} {N:List Str} {ix:List (Option Nat)} {elt target iter:Expr} {ifs:List Expr} {pos:Pos} {wi:TI} {g:TG} {te:TE} {tc:TT}
noncomputable def PIfs (X:Cx) (ifs:List Expr) (t:TT):Prop :=
  ∀ (pins:List (Addr × Obj)) (s:Shared) (σ:St) (H:Hp) (Q:Bool->Hp->Prop),Inv X pins σ H s->t σ H Q ->
    wpAny (model X.prog X.w) X.A (forIn ifs true fun c r=>if r=true then do let ok <- isTrue c X.env (eval c X.env);pure (ForInStep.yield ok) else pure (ForInStep.yield r)) (TP X pins σ Q) X.xe s
noncomputable def tTrue:TT:=fun _ H Q=>Q true H
theorem pifs_nil:PIfs X [] tTrue:=fun _ _ _ H _ I h=>wpAny_tests_nil ⟨H,I,h⟩
noncomputable def Blk (J:It) (σ0:St) (g:TG) (tc:TT) (te:TE) (H1:Hp) (F:List V->Hp->Prop):Prop:=∃ W:Nat->Nat->List V->Hp->Prop,(∃ m,W 0 m [] H1)/\∀ i m ys H2,W i m ys H2->ys.length <= sizeLine /\
  ((J.stop i H2/\F ys H2) ∨
   (J.go i H2/\∃ (Ny:V->Hp->Prop) (Nn:Hp->Prop),(∀ y H,Ny y H->∃ m',m' < m/\W (i + 1) m' (ys ++ [y]) H)/\(∀ H,Nn H->∃ m',m' < m/\W (i + 1) m' ys H) /\
     ∀ x H3,J.yld i H2 x H3->g x σ0 H3 fun σ2 H4=>Wk σ0 σ2/\tc σ2 H4 fun b H5=>if b=true then te σ2 H5 Ny else Nn H5))
theorem comp_run {pins:List (Addr × Obj)} {σ:St} {H:Hp} {s:Shared} {it:Addr} {fp:List Addr} {tn:Nat->Heap->Prop} {J:It} {F:List V->Hp->Prop} {E:Value->Shared->Prop} {RR:Value->Addr->Result->Shared->Prop}
    (hc:X.calm=true) (hk:scope.kind=.function) (hnm:okNames scope=true) (hf:okFree scope X.env=true) (hx:okIx scope X.N N ix=true)
    (hg:∀ s H ex,PG (X.comp scope N s H ex) target g) (ht:∀ s H ex,PIfs (X.comp scope N s H ex) ifs tc) (he:PE (X.comp scope N (accS s) H (s.heap.objs.size :: fp)) elt te)
    (I:Inv X pins σ H s) (T:Turn X.prog X.w X.K target J fp it tn) (st:tn 0 s.heap) (hfp:∀ b ∈ fp,FpOk X pins H b) (B:Blk J (pick ix σ) g tc te H F)
    (fin:∀ (ys:List V) (H':Hp) (s':Shared) (σ':St) (its:List Value) (n:Nat),Inv (X.comp scope N (accS s) H (s.heap.objs.size :: fp)) [] σ' H' s'->H' s.heap.objs.size=none ->
      s'.heap.get? s.heap.objs.size=some { cls:=.type "list",data:=.seq its.toArray n }->Vals ys its->ys.length <= sizeLine->F ys H'->RR (.ref s.heap.objs.size) (accS s).heap.objs.size (.ok .next) s') :
    wpAny (model X.prog X.w) X.A (newList []) (fun acc s₃=>wpAny (model X.prog X.w) X.A (newFunctionEnv scope X.env.globals (closL X.env scope.names []) [] X.env.qual none .none (some X.env)) (fun cenv s₄ =>
      codeAny (model X.prog X.w) X.A (.compStart (.ListComp elt [⟨target,iter,ifs,0⟩] scope pos) 0 (.ref it) acc { cenv with scope:=relabel scope X.env }) (RR acc cenv.locals) s₄) E s₃) E s:=by
  refine wpAny_newObj_type (newEnv_comp ?_) (by show ([]:List Value).toArray.size <= sizeLine;exact Nat.zero_le _)
  obtain ⟨W,⟨m0,w0⟩,turn⟩:=B
  have I1:Inv X pins σ H (accS s):=I.kept (t':=s.toks) fun b o e=>Heap.get?_push_of_some _ e
  have fpLt:∀ b ∈ fp,b < s.heap.objs.size:=fun b hb=>let ⟨o,e,_⟩:=T.obj 0 _ st b hb;Heap.lt_size e
  have accE:(accS s).heap.get? s.heap.objs.size=some { cls:=.type "list",dict:=none,data:=.seq ([]:List Value).toArray }:=Heap.get?_push_size _ rfl
  have fD:FpOk X pins H s.heap.objs.size:=I.fpOk (Nat.le_refl _) (I.hok.fresh (Nat.le_refl _))
  have J0:Inv (X.comp scope N (accS s) H (s.heap.objs.size :: fp)) [] (pick ix σ) H _:=I1.comp (N:=N) (ix:=ix) (ex:=s.heap.objs.size :: fp) hk hnm hf hx fun b hb=>by
    rcases List.mem_cons.mp hb with z | z
    · subst z
      exact ⟨fD.1,fD.2.1,fD.2.2.1,fD.2.2.2.1,fD.2.2.2.2.1,by rw [acc_size];exact Nat.lt_succ_self _⟩
    · obtain ⟨f0,f1,f2,f3,f4,_⟩:=hfp b z
      exact ⟨f0,f1,f2,f3,f4,by rw [acc_size];exact Nat.lt_succ_of_lt (fpLt b z)⟩
  have keep0:∀ b o,(accS s).heap.get? b=some o->(pushCells ((accS s).heap.push { cls:=.type "dict",data:=.dict #[] }) scope.names).get? b=some o:=fun b o e=>pushCells_keeps _ _ b o (Heap.get?_push_of_some _ e)
  have st0:tn 0 (pushCells ((accS s).heap.push { cls:=.type "dict",data:=.dict #[] }) scope.names):=T.keep 0 _ _ st fun b hb o e=>keep0 b o (Heap.get?_push_of_some _ e)
  have exOk:∀ b ∈ s.heap.objs.size :: fp,b ≠ (X.comp scope N (accS s) H (s.heap.objs.size :: fp)).env.locals/\b ∉ (X.comp scope N (accS s) H (s.heap.objs.size :: fp)).fs /\
      ∀ x c,(X.comp scope N (accS s) H (s.heap.objs.size :: fp)).env.cells.lookup x=some c->c ≠ b:=fun b hb=>⟨(J0.ok.exf b hb).1,J0.ok.exfs b hb,(J0.ok.exf b hb).2⟩
  have stat:∀ {H':Hp} {o:Obj},(∀ b ∈ fp,H' b=none)->∀ b ∈ fp,FpOk (X.comp scope N (accS s) H (s.heap.objs.size :: fp)) [(s.heap.objs.size,o)] H' b:=fun {H' o} hn b hb=>by
    obtain ⟨e1,e2,e3⟩:=exOk b (List.mem_cons_of_mem _ hb)
    refine ⟨hn b hb,e1,e2,.inl (List.mem_cons_of_mem _ hb),e3,fun p hp=>?_⟩
    have hp':p ∈ [(s.heap.objs.size,o)]:=(List.mem_append.mp hp).elim (fun z=>absurd (show p ∈ ([]:List (Addr × Obj)) from z) (by simp)) id
    rw [List.mem_singleton.mp hp']
    exact Nat.ne_of_gt (fpLt b hb)
  have loop:codeAny (model X.prog X.w) X.A (.compLoop (.ListComp elt [⟨target,iter,ifs,0⟩] scope pos) 0 (.ref it) (.ref s.heap.objs.size) (X.comp scope N (accS s) H (s.heap.objs.size :: fp)).env) (RR (.ref s.heap.objs.size) (accS s).heap.objs.size)
      { accS s with heap:=pushCells ((accS s).heap.push { cls:=.type "dict",data:=.dict #[] }) scope.names }:=by
    refine compLoop_any (fun n s'=>∃ i ys its k H',Inv (X.comp scope N (accS s) H (s.heap.objs.size :: fp)) [] (pick ix σ) H' s'/\tn i s'.heap/\(∀ b ∈ fp,H' b=none)/\H' s.heap.objs.size=none /\
      s'.heap.get? s.heap.objs.size=some { cls:=.type "list",data:=.seq (its:List Value).toArray k }/\Vals ys its/\W i n ys H') ?_ m0
      ⟨0,[],[],0,H,J0,st0,fun b hb=>(hfp b hb).1,fD.1,keep0 _ _ accE,.nil,w0⟩
    rintro n s3 ⟨i,ys,its,k,H3,I3,st3,fr3,d3,l3,v3,w3⟩
    obtain ⟨hz,hw⟩:=turn i n ys H3 w3
    have pinD:Inv (X.comp scope N (accS s) H (s.heap.objs.size :: fp)) [(s.heap.objs.size,{ cls:=.type "list",data:=.seq its.toArray k })] (pick ix σ) H3 s3:=I3.pins_of fun p hp=>by
      rw [List.mem_singleton.mp hp]
      exact ⟨l3,d3,(exOk _ List.mem_cons_self).1,(exOk _ List.mem_cons_self).2.1,fun v z=>by cases z⟩
    rcases hw with ⟨stop,fy⟩ | ⟨go,Ny,Nn,hNy,hNn,step⟩
    · refine thn (T.done (X.comp scope N (accS s) H (s.heap.objs.size :: fp)) rfl rfl rfl hc i _ s3 (pick ix σ) H3 (fun _ _=>False) pinD (stat fr3) st3 stop) fun r s4 ⟨hr,I4⟩=>?_
      subst hr
      have q:=(I4.pin (s.heap.objs.size,_) (List.mem_append_right _ List.mem_cons_self)).1
      exact fin ys H3 s4 _ its k (I4.pins_of fun p hp=>by cases hp) d3 q v3 hz fy
    · refine thn (T.item (X.comp scope N (accS s) H (s.heap.objs.size :: fp)) rfl rfl rfl hc i _ s3 (pick ix σ) H3 (fun _ _=>False) pinD (stat fr3) st3 go) fun r s4 ⟨u,hr,h4⟩=>?_
      subst hr
      refine thn h4 fun _ s5 ⟨x,H5,I5,r5,y5,st5,fr5⟩=>?_
      have I5':=I5.pinned (stat fr5) (T.obj _ _ st5)
      refine thn (hg (accS s) H (s.heap.objs.size :: fp) _ s5 (pick ix σ) H5 x u _ I5' r5 (step x H5 y5)) fun _ s6 ⟨σ6,H6,I6,wk6,q6⟩=>?_
      refine thn (ht (accS s) H (s.heap.objs.size :: fp) _ s6 σ6 H6 _ I6 q6) fun ok s7 ⟨H7,I7,q7⟩=>?_
      cases ok with
      | false =>
        obtain ⟨m',hm,w7⟩:=hNn H7 q7
        refine ⟨m',hm,i + 1,ys,its,k,H7,(I7.weak wk6.1 wk6.2).pins_of (fun p hp=>by cases hp),?_,fun b hb=>?_,?_,?_,v3,w7⟩
        · exact T.keep _ _ _ st5 fun b hb o e=>(I7.pin (b,o) (List.mem_append_right _ (List.mem_append_right _ (mem_pinsAt hb e)))).1
        · obtain ⟨o,e,d⟩:=T.obj _ _ st5 b hb
          exact (I7.pin (b,o) (List.mem_append_right _ (List.mem_append_right _ (mem_pinsAt hb e)))).2.1
        · exact (I7.pin (s.heap.objs.size,_) (List.mem_append_right _ (List.mem_append_left _ List.mem_cons_self))).2.1
        · exact (I7.pin (s.heap.objs.size,_) (List.mem_append_right _ (List.mem_append_left _ List.mem_cons_self))).1
      | true =>
        show wpAny _ _ _ _ _ _
        refine thn (he _ s7 σ6 H7 _ I7 q7) fun yv s8 ⟨y,H8,I8,r8,q8'⟩=>?_
        obtain ⟨m',hm,w8⟩:=hNy y H8 q8'
        have q8:=I8.pin (s.heap.objs.size,_) (List.mem_append_right _ (List.mem_append_left _ List.mem_cons_self))
        refine wpAny_list_append_plain (l:=s.heap.objs.size) (items:=its.toArray) ⟨k,q8.1⟩ (fun h' hl' sb=>?_) (by rw [List.size_toArray,<- v3.length];exact hz)
        obtain ⟨k',hl'⟩:=hl'
        have I9:Inv (X.comp scope N (accS s) H (s.heap.objs.size :: fp)) [] (pick ix σ) H8 { s8 with heap:=h' }:=((I8.weak wk6.1 wk6.2).pins_of (pins':=[]) (fun p hp=>by cases hp)).turned (t':=s8.toks) (it:=s.heap.objs.size)
          (fun b o hb e=>(sb.2 b hb).trans e) q8.2.1 (exOk _ List.mem_cons_self).1 (.inl List.mem_cons_self) (exOk _ List.mem_cons_self).2.2 (fun p hp=>absurd (show p ∈ ([]:List (Addr × Obj)) from hp) (by simp))
        refine ⟨m',hm,i + 1,ys ++ [y],its ++ [yv],k',H8,I9,?_,fun b hb=>?_,q8.2.1,?_,v3.append (.cons r8 .nil),w8⟩
        · refine T.keep _ _ _ st5 fun b hb o e=>(sb.2 b (Nat.ne_of_lt (fpLt b hb))).trans (I8.pin (b,o) (List.mem_append_right _ (List.mem_append_right _ (mem_pinsAt hb e)))).1
        · obtain ⟨o,e,d⟩:=T.obj _ _ st5 b hb
          exact (I8.pin (b,o) (List.mem_append_right _ (List.mem_append_right _ (mem_pinsAt hb e)))).2.1
        · have e:its.toArray.push yv=(its ++ [yv]).toArray:=by simp
          rw [<- e];exact hl'
  exact codeAny_compStart_list loop (T.self _ 0 _ _ _ st0 loop)
theorem pe_compG (hc:X.calm=true) (hi:PI X target iter wi) (hg:∀ s H ex,PG (X.comp scope N s H ex) target g) (ht:∀ s H ex,PIfs (X.comp scope N s H ex) ifs tc) (he:∀ s H ex,PE (X.comp scope N s H ex) elt te)
    (hk:scope.kind=.function) (hnm:okNames scope=true) (hf:okFree scope X.env=true) (hx:okIx scope X.N N ix=true) (hs:∀ x,foldedSetIterable iter X.env x=pure x) :
    PE X (.ListComp elt [⟨target,iter,ifs,0⟩] scope pos) (fun σ H Q=>wi σ H fun J H1=>Blk J (pick ix σ) g tc te H1 fun ys H2=>∀ p,H2 p=none->Q (.ref p) (upd H2 p (.lst ys))):=by
  intro pins s σ H Q I h
  rw [eval_ListComp]
  refine wpAny_comprehension_free (use:=none) rfl hs (closureFor_eq (I.closed hf)) hk (fun x hx hl=>(okNames_get hnm hx).trans (by rw [hl])) ?_
  refine thn (hi pins s σ H _ I h) fun v s1 h1=>thn h1 fun itv s2 h2=>?_
  obtain ⟨it,fp,tn,J,H2,e,I2,T,st2,f2,B⟩:=h2
  subst e
  refine comp_run (RR:=fun acc C=>compPost (model X.prog X.w) X.A X.xe none (EP X pins σ Q) acc C) hc hk hnm hf hx hg ht (he _ _ _) I2 T st2 f2 B ?_
  intro ys H' s' σ' its n J' hD hl hv hz hF
  obtain ⟨m,hm,_⟩:=J'.loc
  exact ⟨m,hm,fun h' hs'=>⟨.ref s2.heap.objs.size,_,I2.comp_end J' f2 hD hl hv hz hs',rfl,hF _ hD⟩⟩
theorem ps_setcompG {i:Nat} {y:Str} {py spos:Pos} (hc:X.calm=true) (hN:X.N.Nodup) (hn:X.N[i]?=some y) (hy:X.env.scope.names.lookup y=some .local)
    (hi:PI X target iter wi) (hg:∀ s H ex,PG (X.comp scope N s H ex) target g) (ht:∀ s H ex,PIfs (X.comp scope N s H ex) ifs tc) (he:∀ s H ex,PE (X.comp scope N s H ex) elt te)
    (hk:scope.kind=.function) (hnm:okNames scope=true) (hf:okFree scope X.env=true) (hx:okIx scope X.N N ix=true) (hs:∀ x,foldedSetIterable iter X.env x=pure x)
    (hsw:swapsWith (.ListComp elt [⟨target,iter,ifs,0⟩] scope pos) (some (.Name y py)) spos.line X.env=pure true) :
    PS X (.Assign [.Name y py] (.ListComp elt [⟨target,iter,ifs,0⟩] scope pos) spos) (fun D σ H=>wi σ H fun J H1=>Blk J (pick ix σ) g tc te H1 fun ys H2=>∀ p,H2 p=none->D.nx (σ.set i (some (.ref p))) (upd H2 p (.lst ys))):=by
  intro pins s σ H D I h
  rw [exec_Assign_Name_used _ _ _ _ hsw]
  refine wpAny_bind (wpAny_standAt (wpAny_bind ?_))
  show wpAny _ X.A (do let _ <- comprehension (.ListComp elt [⟨target,iter,ifs,0⟩] scope pos) scope X.env _ (newList []) false (eval iter X.env) (some (assign (.Name y py) X.env))) _ _ s
  refine wpAny_bind (thn (wpAny_comprehension_free (use:=some (assign (.Name y py) X.env)) (Q:=fun _ s'=>SP X pins D .next s') rfl hs (closureFor_eq (I.closed hf)) hk (fun x hx hl=>(okNames_get hnm hx).trans (by rw [hl])) ?_) fun _ s' hq=>wpAny_pure (wpAny_pure hq))
  refine thn (hi pins s σ H _ I h) fun v s1 h1=>thn h1 fun itv s2 h2=>?_
  obtain ⟨it,fp,tn,J,H2,e,I2,T,st2,f2,B⟩:=h2
  subst e
  refine comp_run (RR:=fun acc C=>compPost (model X.prog X.w) X.A X.xe (some (assign (.Name y py) X.env)) (fun _ s'=>SP X pins D .next s') acc C) hc hk hnm hf hx hg ht (he _ _ _) I2 T st2 f2 B ?_
  intro ys H' s' σ' its n J' hD hl hv hz hF
  obtain ⟨m,hm,_⟩:=J'.loc
  have I3:=I2.comp_end (h':=s'.heap) J' f2 hD hl hv hz (.refl ..)
  show wpAny _ X.A (assign (.Name y py) X.env (.ref s2.heap.objs.size)) _ _ _
  refine wpAny_assign_Name (store_ok2 (v:=.ref s2.heap.objs.size) I3 hN hn (.inl hy) rfl (fun s'' I4 hsb=>?_) (.inr hy))
  obtain ⟨a,sb,ha⟩:=hsb
  have hCa:(accS s2).heap.objs.size ≠ a:=by
    rw [acc_size]
    rcases ha with z | z
    · rw [z];exact Nat.ne_of_gt (Nat.lt_succ_of_lt I2.lt)
    · obtain ⟨v,q⟩:=I2.cell y a z
      exact Nat.ne_of_gt (Nat.lt_succ_of_lt q.lt)
  have hC2:(upd H' s2.heap.objs.size (.lst ys)) (accS s2).heap.objs.size=none:=by
    rw [upd_ne (by rw [acc_size];exact Nat.ne_of_gt (Nat.lt_succ_self _))]
    exact J'.free
  refine ⟨m,hm.sameBut sb hCa,fun h' hs'=>?_⟩
  refine ⟨_,_,?_,hF _ hD⟩
  obtain ⟨m2,n2,_⟩:=id I4.loc
  refine I4.turned (t':=s''.toks) (it:=(accS s2).heap.objs.size) (fun b o hb e=>(hs'.2 b hb).trans e) hC2 ?_ ?_ ?_ ?_
  · rw [acc_size];exact Nat.ne_of_gt (Nat.lt_succ_of_lt I2.lt)
  · rw [acc_size];exact .inr (Nat.le_trans I2.sz (Nat.le_succ _))
  · intro x c e
    obtain ⟨v,q⟩:=I2.cell x c e
    rw [acc_size];exact Nat.ne_of_lt (Nat.lt_succ_of_lt q.lt)
  · intro p hp
    rw [acc_size];exact Nat.ne_of_lt (Nat.lt_succ_of_lt (Heap.lt_size (I2.pin p hp).1))
end
end L2
namespace L2
open PySem PySem.Spec PyProof.Rows
section
variable {X:Cx} {pins:List (Addr × Obj)} {σ:St} {H:Hp} {s:Shared} {p:Addr} {xs:List V}
theorem seq_walk {A:Around} {E:Value->Shared->Prop} {Q:Value->Shared->Prop} (I:Inv X pins σ H s) (hh:A.handled=none) (hs:SqL X.K H p xs ∨ SqT X.K H p xs)
    (h:∀ (its:List Value) (it:Addr) (fp wr:List Addr) (St:Nat->Heap->Prop) (h2:Heap),Vals xs its->Walks X.prog X.w A it fp wr its.length (fun i v=>its[i]?=some v) St->St 0 h2->(∀ b ∈ fp,b < h2.objs.size) ->
      (∀ h':Heap,(∀ b o,b ∉ wr->h2.get? b=some o->h'.get? b=some o)->∀ b o,s.heap.get? b=some o->h'.get? b=some o)->Q (.ref it) { s with heap:=h2 }) :
    wpAny (model X.prog X.w) A (pyIter (.ref p)) Q E s:=by
  have keep:∀ (o:Obj) (h':Heap),(∀ b u,b ∉ [s.heap.objs.size]->(s.heap.push o).get? b=some u->h'.get? b=some u)->∀ b u,s.heap.get? b=some u->h'.get? b=some u:=fun o h' hk b u e =>
    hk b u (fun hm=>by rw [List.mem_singleton.mp hm] at e;exact Nat.lt_irrefl _ (Heap.lt_size e)) (Heap.get?_push_of_some _ e)
  rcases hs with hs | hs
  · obtain ⟨its,rv,pl,hz⟩:=I.list hs
    have hlt:p < s.heap.objs.size:=by obtain ⟨_,e,_⟩:=pl.isList;exact Heap.lt_size e
    refine wpAny_pyIter_list pl.isList ?_
    have W:=Walks.list (prog:=X.prog) (w:=X.w) (A:=A) hh s.heap.objs.size p (Nat.ne_of_lt hlt) its.toArray
    refine h its s.heap.objs.size [s.heap.objs.size,p] [s.heap.objs.size] (fun i h=>h.IsListIter s.heap.objs.size p i/\h.IsList p its.toArray) _ rv (by simpa using W) ⟨⟨_,Heap.get?_push_size _ rfl,rfl,rfl⟩,pl.isList.push _⟩ (fun b hb=>?_) (keep _)
    rw [Heap.size_push]
    rcases List.mem_cons.mp hb with rfl | hb
    · exact Nat.lt_succ_self _
    · rw [List.mem_singleton.mp hb];exact Nat.lt_succ_of_lt hlt
  · obtain ⟨its,rv,pl,hz⟩:=I.tuple hs
    have pl':s.heap.IsTuple p its.toArray:=pl
    have hlt:p < s.heap.objs.size:=pl.lt
    refine wpAny_pyIter_tuple pl' ?_
    have W:=Walks.tuple (prog:=X.prog) (w:=X.w) (A:=A) hh s.heap.objs.size p (Nat.ne_of_lt hlt) its.toArray
    refine h its s.heap.objs.size [s.heap.objs.size,p] [s.heap.objs.size] (fun i h=>h.IsTupleIter s.heap.objs.size p i/\h.IsTuple p its.toArray) _ rv (by simpa using W) ⟨⟨_,Heap.get?_push_size _ rfl,rfl,rfl⟩,pl'.push _⟩ (fun b hb=>?_) (keep _)
    rw [Heap.size_push]
    rcases List.mem_cons.mp hb with rfl | hb
    · exact Nat.lt_succ_self _
    · rw [List.mem_singleton.mp hb];exact Nat.lt_succ_of_lt hlt
noncomputable def nth (ns:List Int) (i:Nat):Int:=(ns[i]?).getD 0
theorem preSum_nth (ns:List Int):∀ k,preSum (nth ns) k=(ns.take k).sum
  | 0=>by simp [preSum]
  | k + 1=>by
    rw [preSum,preSum_nth ns k,List.take_add_one,List.sum_append]
    unfold nth
    cases ns[k]? <;> simp
theorem vals_int {ns:List Int} {its:List Value} (r:Vals (ns.map V.int) its) {i:Nat} {v:Value} (e:its[i]?=some v):∃ t,v=.int (nth ns i) t:=by
  have hl:=r.length
  rw [List.length_map] at hl
  have hi:i < ns.length:=by rw [hl];exact (List.getElem?_eq_some_iff.mp e).1
  obtain ⟨u,hu,ru⟩:=r.get (i:=i) (x:=.int ns[i]) (by rw [List.getElem?_map,List.getElem?_eq_getElem hi];rfl)
  rw [e] at hu;cases hu
  obtain ⟨t,rfl⟩:=ru
  exact ⟨t,by unfold nth;rw [List.getElem?_eq_getElem hi];rfl⟩
theorem call_sum_seq (hc:X.calm=true):CallR X (.builtin "sum") (fun xs H Q=>∃ (p:Addr) (ns:List Int),xs=[.ref p]/\(SqL X.K H p (ns.map V.int) ∨ SqT X.K H p (ns.map V.int))/\Q (.int ns.sum) H):=by
  intro pins s σ H xs us Q I r h
  obtain ⟨p,ns,rfl,hs,q⟩:=h
  obtain ⟨u,rfl,ru⟩:=vals1 r
  cases ru
  refine call_sum_walkG (seq_walk (A:=X.A.in1) I (I.ok.hd hc) hs fun its it fp wr St h2 rv W st hfp keep=>?_)
  refine ⟨it,fp,wr,its.length,_,St,nth ns,rfl,W,st,hfp,fun i v e=>vals_int rv e,fun h' tk t' hk=>?_⟩
  have e:preSum (nth ns) its.length=ns.sum:=by
    rw [preSum_nth,<- rv.length,List.length_map,List.take_length]
  rw [e]
  exact ⟨.int ns.sum,H,I.kept (keep h' hk),⟨_,rfl⟩,q⟩
noncomputable def truV:V->Bool
  | .bl b=>b
  | .int i=>i != 0
  | .non=>false
  | _=>true
noncomputable def okTru:V->Bool
  | .bl _=>true
  | .int _=>true
  | .non=>true
  | _=>false
theorem truth_V {A:Around} {E:Value->Shared->Prop} {x:V} {v:Value} {s:Shared} {Q:Bool->Shared->Prop} (r:RelV x v) (ok:okTru x=true) (h:Q (truV x) s):wpAny (model X.prog X.w) A (truthy v) Q E s:=by
  cases x with
  | bl b=>cases r;exact wpAny_truthy_bool h
  | int i=>obtain ⟨t,rfl⟩:=r;exact PyProof.Rows.truthy_int h
  | non=>cases r;exact PyProof.Rows.truthy_none h
  | _=>exact absurd (show false=true from ok) Bool.false_ne_true
noncomputable def tnth (d:Bool) (xs:List V) (i:Nat):Bool:=((xs[i]?).map truV).getD d
theorem all_nth (xs:List V):(List.range xs.length).all (tnth true xs)=xs.all truV:=by
  rw [Bool.eq_iff_iff,List.all_eq_true,List.all_eq_true]
  constructor
  · intro h b hb
    obtain ⟨i,hi,e⟩:=List.getElem_of_mem hb
    have:=h i (List.mem_range.mpr hi)
    unfold tnth at this
    rw [List.getElem?_eq_getElem hi,e] at this
    exact this
  · intro h i hi
    have hi':=List.mem_range.mp hi
    unfold tnth
    rw [List.getElem?_eq_getElem hi']
    exact h _ (List.getElem_mem hi')
theorem truthOf_nth {A:Around} {its:List Value} (d:Bool) (rv:Vals xs its) (ok:xs.all okTru=true):TruthOf X.prog X.w A (fun i v=>its[i]?=some v) (tnth d xs):=by
  intro i v s Q E e hQ
  have hi:i < xs.length:=by rw [rv.length];exact (List.getElem?_eq_some_iff.mp e).1
  obtain ⟨u,hu,ru⟩:=rv.get (i:=i) (x:=xs[i]) (by rw [List.getElem?_eq_getElem hi])
  rw [e] at hu;cases hu
  refine truth_V (X:=X) ru (List.all_eq_true.mp ok _ (List.getElem_mem hi)) ?_
  unfold tnth at hQ
  rw [List.getElem?_eq_getElem hi] at hQ
  exact hQ
theorem call_all_seq (hc:X.calm=true):CallR X (.builtin "all") (fun xs H Q=>∃ (p:Addr) (ys:List V),xs=[.ref p]/\(SqL X.K H p ys ∨ SqT X.K H p ys)/\ys.all okTru=true/\Q (.bl (ys.all truV)) H):=by
  intro pins s σ H xs us Q I r h
  obtain ⟨p,ys,rfl,hs,ok,q⟩:=h
  obtain ⟨u,rfl,ru⟩:=vals1 r
  cases ru
  refine call_all_walk (seq_walk (A:=X.A.in1) I (I.ok.hd hc) hs fun its it fp wr St h2 rv W st hfp keep=>?_)
  refine ⟨it,fp,wr,its.length,_,St,tnth true ys,rfl,W,st,truthOf_nth true rv ok,fun h' tk hk=>?_⟩
  rw [<- rv.length,all_nth]
  exact ⟨.bl _,H,I.kept (keep h' hk),rfl,q⟩
end
end L2
namespace L2
open PySem PySem.Spec PyProof.Rows
section
variable {prog:Program} {w:World} {A:Around} {E:Value->Shared->Prop} {s:Shared}
theorem nextT_item {it t:Addr} {i:Nat} {its:Array Value} {x:Value} {Q:Value->Shared->Prop} (hit:s.heap.IsTupleIter it t i) (ht:s.heap.IsTuple t its) (hx:its[i]?=some x)
    (hQ:∀ h',h'.IsTupleIter it t (i + 1)->Heap.SameBut it s.heap h'->Q x { s with heap:=h' }):wpAny (model prog w) A (Builtin.SmallTypes.nextOf (.ref it)) Q E s:=by
  obtain ⟨o,ho,hc,hd⟩:=id hit
  obtain ⟨ol,hol,_,nl,hdl⟩:=ht
  unfold Builtin.SmallTypes.nextOf
  refine wpAny_bind (wpAny_callSpecial?_slot (name:=Str.ofString "__next__") hit.typeIs F.slot_tuple_iterator_next
    (wpAny_call_entry F.slot_tuple_iterator_next hit.typeIs F.entry_tuple_iterator_next ?_ (F.args_tuple_iterator_next_1 _)))
  show wpAny _ _ (field (.ref it) 0 >>= _) _ _ s
  refine wpAny_bind (wpAny_field ho hd (x:=.ref t) rfl ?_)
  show wpAny _ _ (if (Value.ref t == Value.none)=true then _ else _) _ _ s
  rw [if_neg (show ¬ ((Value.ref t == Value.none)=true) from Bool.false_ne_true)]
  show wpAny _ _ (field (.ref it) 1 >>= _) _ _ s
  refine wpAny_bind (wpAny_field ho hd (x:=.int i 0) rfl ?_)
  show wpAny _ _ (seqItems? (.ref t) >>= _) _ _ s
  refine wpAny_bind (wpAny_seqItems hol hdl ?_)
  simp only [Int.toNat_natCast,hx]
  refine wpAny_bind (wpAny_setField ho hd (by simp) (wpAny_pure ⟨x,rfl,wpAny_pure (hQ _ ?_ (Heap.SameBut.update ..))⟩))
  exact ⟨_,Heap.get?_update_self _ ho (Obj.isFreed_of_fields (Obj.data_mapFields hd _)),(Obj.cls_mapFields ..).trans hc,by
    rw [Obj.data_mapFields hd];simp [rawInt]⟩
end
end L2
namespace L2
open PySem PySem.Spec PyProof.Rows
section
variable {prog:Program} {w:World} {A:Around} {E:Value->Shared->Prop} {s:Shared}
theorem nextT_end {it t:Addr} {i:Nat} {its:Array Value} {Q:Value->Shared->Prop} (hh:A.handled=none) (hit:s.heap.IsTupleIter it t i) (ht:s.heap.IsTuple t its) (hx:its[i]?=none)
    (hE:∀ h' e,Heap.ExtBut it s.heap h'->(∃ o,h'.get? e=some o/\o.cls=.type "StopIteration")->E (.ref e) { s with heap:=h' }):wpAny (model prog w) A (Builtin.SmallTypes.nextOf (.ref it)) Q E s:=by
  obtain ⟨o,ho,hc,hd⟩:=id hit
  obtain ⟨ol,hol,_,nl,hdl⟩:=ht
  unfold Builtin.SmallTypes.nextOf
  refine wpAny_bind (wpAny_callSpecial?_slot (name:=Str.ofString "__next__") hit.typeIs F.slot_tuple_iterator_next
    (wpAny_call_entry F.slot_tuple_iterator_next hit.typeIs F.entry_tuple_iterator_next ?_ (F.args_tuple_iterator_next_1 _)))
  show wpAny _ _ (field (.ref it) 0 >>= _) _ _ s
  refine wpAny_bind (wpAny_field ho hd (x:=.ref t) rfl ?_)
  show wpAny _ _ (if (Value.ref t == Value.none)=true then _ else _) _ _ s
  rw [if_neg (show ¬ ((Value.ref t == Value.none)=true) from Bool.false_ne_true)]
  show wpAny _ _ (field (.ref it) 1 >>= _) _ _ s
  refine wpAny_bind (wpAny_field ho hd (x:=.int i 0) rfl ?_)
  show wpAny _ _ (seqItems? (.ref t) >>= _) _ _ s
  refine wpAny_bind (wpAny_seqItems hol hdl ?_)
  simp only [Int.toNat_natCast,hx]
  refine wpAny_bind (wpAny_rule (wpAny_bind (wpAny_setField ho hd (by simp) ?_)))
  show wpAny _ _ (newExc (.type "StopIteration") [] >>= _) _ _ _
  refine wpAny_bind ?_
  simp only [newExc,newTuple]
  refine wpAny_bind (wpAny_newObj_type ?_ (by size_fits))
  refine wpAny_bind (m:=firstArgMember _ _) (wpAny_of_eq (a:=Value.none) (by first | rfl | (simp only [firstArgMember];rfl)) ?_)
  refine wpAny_newObj_type ?_ (by size_fits)
  simp only [raiseNew]
  refine wpAny_bind (wpAny_handled ?_)
  first | rw [show A.in1.handled=none from hh] | rw [hh]
  exact wpAny_bind (wpAny_pure (wpAny_throw (hE _ _ (((Heap.SameBut.update ..).extBut.push _).push _) ⟨_,Heap.get?_push_size _ rfl,rfl⟩)))
structure ZipT (h:Heap) (z TI TO i1 i2 t1 t2:Addr) (k:Nat):Prop where
  zz:IsZip h z TI TO .none
  ti:IsPair h TI (.ref i1) (.ref i2)
  tO:∃ a b,IsPair h TO a b
  it1:h.IsTupleIter i1 t1 k
  it2:h.IsTupleIter i2 t2 k
structure ZipD (z TI TO i1 i2 t1 t2:Addr):Prop where
  a1:TI ≠ z
  a2:TO ≠ z
  a3:i1 ≠ z
  a4:i2 ≠ z
  b1:TI ≠ TO
  b2:TI ≠ i1
  b3:TI ≠ i2
  c1:TO ≠ i1
  c2:TO ≠ i2
  d1:i1 ≠ i2
  e1:t1 ≠ z
  e2:t1 ≠ TO
  e3:t1 ≠ i1
  e4:t1 ≠ i2
  f1:t2 ≠ z
  f2:t2 ≠ TO
  f3:t2 ≠ i1
  f4:t2 ≠ i2
theorem ne_add {n a b:Nat} (h:a ≠ b):n + a ≠ n + b:=by lia
theorem ne_lo {n a t:Nat} (h:t < n):t ≠ n + a:=by lia
theorem ZipD.new {n t1 t2:Nat} (h1:t1 < n) (h2:t2 < n):ZipD (n + 4) (n + 2) (n + 3) n (n + 1) t1 t2 where
  a1:=ne_add (by decide)
  a2:=ne_add (by decide)
  a3:=ne_add (n:=n) (a:=0) (by decide)
  a4:=ne_add (by decide)
  b1:=ne_add (by decide)
  b2:=ne_add (n:=n) (b:=0) (by decide)
  b3:=ne_add (by decide)
  c1:=ne_add (n:=n) (b:=0) (by decide)
  c2:=ne_add (by decide)
  d1:=ne_add (n:=n) (a:=0) (by decide)
  e1:=ne_lo h1
  e2:=ne_lo h1
  e3:=ne_lo (a:=0) h1
  e4:=ne_lo h1
  f1:=ne_lo h2
  f2:=ne_lo h2
  f3:=ne_lo (a:=0) h2
  f4:=ne_lo h2
theorem zipT_item {z TI TO i1 i2 t1 t2:Addr} {xs ys:Array Value} {k:Nat} {x y:Value} {Q:Option Value->Shared->Prop} (D:ZipD z TI TO i1 i2 t1 t2) (Z:ZipT s.heap z TI TO i1 i2 t1 t2 k) (hl1:s.heap.IsTuple t1 xs) (hl2:s.heap.IsTuple t2 ys)
    (hx:xs[k]?=some x) (hy:ys[k]?=some y)
    (hQ:∀ h',IsZip h' z TI TO (rawInt s.heap.objs.size)->IsPair h' TO x y->h'.IsTupleIter i1 t1 (k + 1)->h'.IsTupleIter i2 t2 (k + 1)->IsPair h' s.heap.objs.size x y->h'.objs.size=s.heap.objs.size + 1 ->
      (∀ c o,c ∉ [z,TO,i1,i2]->s.heap.get? c=some o->h'.get? c=some o)->Q (some (.ref s.heap.objs.size)) { s with heap:=h' }) :
    wpAny (model prog w) A (pyNext (.ref z)) Q E s:=by
  obtain ⟨hz,hTI,⟨a,b,hTO⟩,h1,h2⟩:=Z
  have hT:s.TypeIs (.ref z) "zip":=⟨_,hz,rfl⟩
  unfold pyNext
  refine wpAny_bind (wpAny_attempt (wpAny_callSpecial?_slot (name:=Str.ofString "__next__") hT F.slot_zip_next (wpAny_call_entry F.slot_zip_next hT F.entry_zip_next ?_ (F.args_zip_next_1 _))))
  show wpAny _ _ (field (.ref z) 2 >>= _) _ _ _
  refine wpAny_bind (wpAny_field hz rfl (x:=.bool false) rfl ?_)
  show wpAny _ _ (field (.ref z) 3 >>= _) _ _ _
  refine wpAny_bind (wpAny_field hz rfl (x:=.ref TI) rfl (wpAny_bind (wpAny_seqItems hTI rfl ?_)))
  show wpAny _ _ (Builtin.SmallTypes.ownedTupleIsFree (.ref z) >>= _) _ _ _
  refine wpAny_bind ?_
  unfold Builtin.SmallTypes.ownedTupleIsFree
  refine wpAny_bind (wpAny_field hz rfl (x:=.none) rfl (wpAny_pure ?_))
  simp only [if_true]
  refine wpAny_bind (wpAny_rule (wpAny_bind (wpAny_field hz rfl (x:=.ref TO) rfl (wpAny_bind (wpAny_setField_rec hz (by simp) fun g1 z1 s1=>?_)))))
  replace z1:IsZip g1 z TI TO .ellipsis:=z1
  refine wpAny_bind ?_
  simp only [List.zipIdx_cons,List.zipIdx_nil,List.forIn_cons,List.forIn_nil]
  refine wpAny_bind (wpAny_bind (wpAny_onRaise ?_))
  show wpAny _ _ (Builtin.SmallTypes.nextOf (.ref i1) >>= _) _ _ _
  refine wpAny_bind (nextT_item (h1.at fun o e=>s1.extBut _ o D.a3 e) (hl1.at fun o e=>s1.extBut _ o D.e1 e) hx fun g2 j1 s2=>wpAny_pure ?_)
  have o2:IsPair g2 TO a b:=s2.extBut _ _ D.c1 (s1.extBut _ _ D.a2 hTO)
  refine wpAny_bind (wpAny_seqItems o2 rfl (wpAny_bind (wpAny_updateSeq_pair o2 fun g3 o3 s3=>?_)))
  replace o3:IsPair g3 TO x b:=o3
  refine wpAny_bind (wpAny_letGo (wpAny_pure (wpAny_bind (wpAny_bind (wpAny_onRaise ?_)))))
  show wpAny _ _ (Builtin.SmallTypes.nextOf (.ref i2) >>= _) _ _ _
  refine wpAny_bind (nextT_item (h2.at fun o e=>s3.extBut _ o D.c2.symm (s2.extBut _ o D.d1.symm (s1.extBut _ o D.a4 e))) (hl2.at fun o e=>s3.extBut _ o D.f2 (s2.extBut _ o D.f3 (s1.extBut _ o D.f1 e))) hy fun g4 j2 s4=>wpAny_pure ?_)
  have o4:IsPair g4 TO x b:=s4.extBut _ _ D.c2 o3
  refine wpAny_bind (wpAny_seqItems o4 rfl (wpAny_bind (wpAny_updateSeq_pair o4 fun g5 o5 s5=>?_)))
  replace o5:IsPair g5 TO x y:=o5
  refine wpAny_bind (wpAny_letGo (wpAny_pure (wpAny_pure ?_)))
  refine wpAny_bind (wpAny_seqItems o5 rfl (wpAny_bind (wpAny_newTuple ?_)))
  have hsz:g5.objs.size=s.heap.objs.size:=by rw [s5.1,s4.1,s3.1,s2.1,s1.1]
  have z5:IsZip g5 z TI TO .ellipsis:=s5.extBut _ _ D.a2.symm (s4.extBut _ _ D.a4.symm (s3.extBut _ _ D.a2.symm (s2.extBut _ _ D.a3.symm z1)))
  have k5:∀ c o,c ∉ [z,TO,i1,i2]->s.heap.get? c=some o->g5.get? c=some o:=fun c o hc e=>by
    simp only [List.mem_cons,List.not_mem_nil,or_false,not_or] at hc
    exact s5.extBut _ _ hc.2.1 (s4.extBut _ _ hc.2.2.2 (s3.extBut _ _ hc.2.1 (s2.extBut _ _ hc.2.2.1 (s1.extBut _ _ hc.1 e))))
  have m1:g5.IsTupleIter i1 t1 (k + 1):=j1.at fun o e=>s5.extBut _ o D.c1.symm (s4.extBut _ o D.d1 (s3.extBut _ o D.c1.symm e))
  have m2:g5.IsTupleIter i2 t2 (k + 1):=j2.at fun o e=>s5.extBut _ o D.c2.symm e
  show wpAny _ _ (Builtin.SmallTypes.ownedTupleHandOut (.ref z) (.ref g5.objs.size) >>= _) _ _ _
  refine wpAny_bind ?_
  unfold Builtin.SmallTypes.ownedTupleHandOut
  have z6:IsZip (g5.push { cls:=.type "tuple",data:=.seq #[x,y] }) z TI TO .ellipsis:=Heap.get?_push_of_some _ z5
  refine wpAny_bind (wpAny_setField_rec z6 (by simp) fun g7 z7 s7=>?_)
  replace z7:IsZip g7 z TI TO (rawInt g5.objs.size):=z7
  refine wpAny_setField_rec z7 (by simp) fun g8 z8 s8=>?_
  replace z8:IsZip g8 z TI TO (rawInt g5.objs.size):=z8
  have up:∀ c o,c ≠ z->g5.get? c=some o->g8.get? c=some o:=fun c o hc e=>s8.extBut _ _ hc (s7.extBut _ _ hc (Heap.get?_push_of_some _ e))
  have new8:IsPair g8 g5.objs.size x y:=s8.extBut _ _ (Nat.ne_of_gt (Heap.lt_size z5)) (s7.extBut _ _ (Nat.ne_of_gt (Heap.lt_size z5)) (Heap.get?_push_size _ rfl))
  have size8:g8.objs.size=g5.objs.size + 1:=by rw [s8.1,s7.1,Heap.size_push]
  rw [hsz] at z8 new8 size8
  refine wpAny_pure ⟨_,rfl,wpAny_pure ?_⟩
  show Q (some (.ref g5.objs.size)) _
  rw [hsz]
  exact hQ g8 z8 (up _ _ D.a2 o5) (m1.at fun o e=>up _ o D.a3 e) (m2.at fun o e=>up _ o D.a4 e) new8 size8 fun c o hc e=>up c o (fun q=>hc (by simp [q])) (k5 c o hc e)
theorem zipT_end {z TI TO i1 i2 t1 t2:Addr} {xs:Array Value} {k:Nat} {Q:Option Value->Shared->Prop} (hh:A.handled=none) (D:ZipD z TI TO i1 i2 t1 t2) (Z:ZipT s.heap z TI TO i1 i2 t1 t2 k) (hl1:s.heap.IsTuple t1 xs)
    (hx:xs[k]?=none) (hQ:∀ h',(∀ c o,c ∉ [z,TO,i1,i2]->s.heap.get? c=some o->h'.get? c=some o)->Q none { s with heap:=h' }):wpAny (model prog w) A (pyNext (.ref z)) Q E s:=by
  obtain ⟨hz,hTI,⟨a,b,hTO⟩,h1,h2⟩:=Z
  have hT:s.TypeIs (.ref z) "zip":=⟨_,hz,rfl⟩
  unfold pyNext
  refine wpAny_bind (wpAny_attempt (wpAny_callSpecial?_slot (name:=Str.ofString "__next__") hT F.slot_zip_next (wpAny_call_entry F.slot_zip_next hT F.entry_zip_next ?_ (F.args_zip_next_1 _))))
  show wpAny _ _ (field (.ref z) 2 >>= _) _ _ _
  refine wpAny_bind (wpAny_field hz rfl (x:=.bool false) rfl ?_)
  show wpAny _ _ (field (.ref z) 3 >>= _) _ _ _
  refine wpAny_bind (wpAny_field hz rfl (x:=.ref TI) rfl (wpAny_bind (wpAny_seqItems hTI rfl ?_)))
  show wpAny _ _ (Builtin.SmallTypes.ownedTupleIsFree (.ref z) >>= _) _ _ _
  refine wpAny_bind ?_
  unfold Builtin.SmallTypes.ownedTupleIsFree
  refine wpAny_bind (wpAny_field hz rfl (x:=.none) rfl (wpAny_pure ?_))
  simp only [if_true]
  refine wpAny_bind (wpAny_rule (wpAny_bind (wpAny_field hz rfl (x:=.ref TO) rfl (wpAny_bind (wpAny_setField_rec hz (by simp) fun g1 z1 s1=>?_)))))
  replace z1:IsZip g1 z TI TO .ellipsis:=z1
  refine wpAny_bind ?_
  simp only [List.zipIdx_cons,List.zipIdx_nil,List.forIn_cons,List.forIn_nil]
  refine wpAny_bind (wpAny_bind (wpAny_onRaise ?_))
  show wpAny _ _ (Builtin.SmallTypes.nextOf (.ref i1) >>= _) _ _ _
  refine wpAny_bind (nextT_end hh (h1.at fun o e=>s1.extBut _ o D.a3 e) (hl1.at fun o e=>s1.extBut _ o D.e1 e) hx fun g2 e s2 he=>?_)
  obtain ⟨oe,hoe,hce⟩:=he
  have z2:IsZip g2 z TI TO .ellipsis:=s2 _ _ D.a3.symm z1
  have hez:e ≠ z:=fun q=>by subst q;rw [z2] at hoe;cases hoe;simp at hce
  refine wpAny_setField_rec z2 (by simp) fun g3 _ s3=>?_
  refine wpAny_bind (wpAny_isInstance (T:="StopIteration") (b:=true) ⟨oe,s3.extBut _ _ hez hoe,hce⟩ isSubtype_stop (wpAny_pure (hQ g3 fun c o hc q=>?_)))
  simp only [List.mem_cons,List.not_mem_nil,or_false,not_or] at hc
  exact s3.extBut _ _ hc.1 (s2 _ _ hc.2.2.1 (s1.extBut _ _ hc.1 q))
noncomputable abbrev tit (t:Addr):Obj:={ cls:=.type "tuple_iterator",data:=.fields #[.ref t,.int 0 0] }
noncomputable abbrev tpr (a b:Value):Obj:={ cls:=.type "tuple",data:=.seq #[a,b] }
noncomputable abbrev zob (a b:Addr):Obj:={ cls:=.type "zip",data:=.fields #[.none,.bool false,.bool false,.ref a,.ref b] }
noncomputable abbrev zipHp (h:Heap) (t1 t2:Addr):Heap:=((((h.push (tit t1)).push (tit t2)).push (tpr (.ref h.objs.size) (.ref (h.objs.size + 1)))).push (tpr .none .none)).push (zob (h.objs.size + 2) (h.objs.size + 3))
theorem zip_newT (t1 t2:Addr) (xs ys:Array Value) :
    Meets (Builtin.«zip.__new__» ⟨[.type "zip",.ref t1,.ref t2],[]⟩) (fun _ R s=>s.heap.IsTuple t1 xs/\s.heap.IsTuple t2 ys/\R (.ok (.ret (.ref (s.heap.objs.size + 4)))) { s with heap:=zipHp s.heap t1 t2 }) :=
  .of_wp fun prog w A R s h=>by
    obtain ⟨hp,g,d,tk,os⟩:=s;obtain ⟨hl1,hl2,h⟩:=h
    have hsub:=sub_zip
    have hL1:Heap.IsTuple (Shared.heap ⟨hp,g,d,tk,os⟩) t1 xs:=hl1
    have hL2:Heap.IsTuple (Shared.heap ⟨hp.push (tit t1),g,d,tk,os⟩) t2 ys:=Heap.IsTuple.push hl2 _
    wp_walk using wpAny_pyIter_tuple hL1,wpAny_pyIter_tuple hL2
    simp only [Heap.size_push]
    exact ⟨_,rfl,h⟩
theorem call_zipT {t1 t2:Addr} {xs ys:Array Value} {Q:Value->Shared->Prop} (hl1:s.heap.IsTuple t1 xs) (hl2:s.heap.IsTuple t2 ys)
    (h:∀ h',ZipT h' (s.heap.objs.size + 4) (s.heap.objs.size + 2) (s.heap.objs.size + 3) s.heap.objs.size (s.heap.objs.size + 1) t1 t2 0->(∀ c o,s.heap.get? c=some o->h'.get? c=some o)->h'.objs.size=s.heap.objs.size + 5 ->
      Q (.ref (s.heap.objs.size + 4)) { s with heap:=h' }):wpAny (model prog w) A (call (.type "zip") [.ref t1,.ref t2]) Q E s:=by
  refine callType_new F.called_zip (by decide) (F.typeCall_zip_2 _ _) (F.newCall_zip_2 _ _) (fun obj=>F.args_object_init_3 obj _ _) F.entry_zip_new (zip_newT t1 t2 xs ys) ⟨hl1,hl2,?_⟩
  have up:∀ {b:Addr} {o:Obj} (h0:Heap) (x:Obj),h0.get? b=some o->(h0.push x).get? b=some o:=fun _ _ e=>Heap.get?_push_of_some _ e
  have here:∀ (h0:Heap) (x:Obj) (n:Nat),x.isFreed=false->h0.objs.size=n->(h0.push x).get? n=some x:=fun h0 x n hf e=>by subst e;exact Heap.get?_push_size _ hf
  have Z:ZipT (zipHp s.heap t1 t2) (s.heap.objs.size + 4) (s.heap.objs.size + 2) (s.heap.objs.size + 3) s.heap.objs.size (s.heap.objs.size + 1) t1 t2 0 :=
    ⟨here _ _ _ rfl (by simp only [Heap.size_push]),up _ _ (up _ _ (here _ _ _ rfl (by simp only [Heap.size_push]))),⟨_,_,up _ _ (here _ _ _ rfl (by simp only [Heap.size_push]))⟩,
      ⟨_,up _ _ (up _ _ (up _ _ (up _ _ (here _ _ _ rfl rfl)))),rfl,rfl⟩,⟨_,up _ _ (up _ _ (up _ _ (here _ _ _ rfl (by simp only [Heap.size_push])))),rfl,rfl⟩⟩
  exact ⟨⟨_,Z.zz,rfl⟩,h _ Z (fun c o e=>up _ _ (up _ _ (up _ _ (up _ _ (up _ _ e))))) (by simp only [Heap.size_push])⟩
end
section
variable {X:Cx} {pins:List (Addr × Obj)} {σ:St} {H:Hp} {s:Shared}
theorem Inv.turnedL {h':Heap} {t':Nat} {ch:List Addr} (I:Inv X pins σ H s) (k:∀ b o,b ∉ ch->s.heap.get? b=some o->h'.get? b=some o) (hf:∀ b ∈ ch,FpOk X pins H b):Inv X pins σ H { s with heap:=h',toks:=t' }:=by
  have nit:∀ b u,H b=some u->b ∉ ch:=fun b u e z=>by rw [(hf b z).1] at e;cases e
  refine I.step (g':=s.gens) (d':=s.drawn) (ch:=ch) (fun b hb=>⟨(hf b hb).2.2.2.1,(hf b hb).2.1,(hf b hb).2.2.2.2.1,(hf b hb).2.2.2.2.2⟩) (fun b o _ _ hc e _=>k b o hc e) (fun b o _ _ hc e _=>⟨o.slots,k b o hc e⟩) (fun _ _ _ _ n=>n)
    (fun b o hc e=>⟨o,k b o hc e⟩) (fun _ _ e=>e) (fun _ _ _ e=>e) (fun b ps e=>⟨#[],by rw [e];simp⟩) (fun m hm=>?_) (fun b u e=>?_) I.bare
  · obtain ⟨o,es,ep,ho,r⟩:=hm
    exact ⟨o,es,ep,k _ o (fun z=>(hf _ z).2.1 rfl) ho,r⟩
  · refine (I.hok b u e).stay (fun c v hc q=>k c v ?_ q) (fun _ q=>q) fun _ _ q=>q
    rcases hc with z | z
    · rw [z];exact nit b u e
    · exact nit c _ z
noncomputable def Itz (K:PySem.W.Frag) (a b:Addr):It :=
  ⟨fun i H=>∃ xs ys x y,SqT K H a xs/\SqT K H b ys/\xs[i]?=some x/\ys[i]?=some y,fun i H v H'=>∃ p x y,H p=none/\v=.ref p/\H'=upd H p (.tup [x,y])/\(∀ xs,SqT K H a xs->xs[i]?=some x)/\∀ ys,SqT K H b ys->ys[i]?=some y,
    fun i H=>∃ xs,SqT K H a xs/\xs.length <= i⟩
theorem turn_zip {P:Program} {w:World} {K:PySem.W.Frag} {es:List Expr} {kk:Nat} {pos:Pos} {a b z TI TO i1 i2:Addr} (D:ZipD z TI TO i1 i2 a b) :
    Turn P w K (.Tuple es kk pos) (Itz K a b) [z,TI,TO,i1,i2] z (fun i h=>ZipT h z TI TO i1 i2 a b i) where
  mem:=by simp
  obj:=fun i h st c hc=>by
    obtain ⟨hz,hTI,⟨_,_,hTO⟩,⟨_,h1,_,d1⟩,⟨_,h2,_,d2⟩⟩:=st
    simp only [List.mem_cons,List.not_mem_nil,or_false] at hc
    rcases hc with rfl | rfl | rfl | rfl | rfl
    · exact ⟨_,hz,fun v q=>by cases q⟩
    · exact ⟨_,hTI,fun v q=>by cases q⟩
    · exact ⟨_,hTO,fun v q=>by cases q⟩
    · exact ⟨_,h1,fun v q=>by rw [d1] at q;cases q⟩
    · exact ⟨_,h2,fun v q=>by rw [d2] at q;cases q⟩
  keep:=fun i h h' st k=>by
    obtain ⟨hz,hTI,⟨_,_,hTO⟩,h1,h2⟩:=st
    exact ⟨k _ (by simp) _ hz,k _ (by simp) _ hTI,⟨_,_,k _ (by simp) _ hTO⟩,h1.at fun o e=>k _ (by simp) o e,h2.at fun o e=>k _ (by simp) o e⟩
  item:=by
    intro X hP hw hK hc i pins s σ H E I hf st hg
    subst hP hw hK
    obtain ⟨xs,ys,x,y,ha,hb,hx,hy⟩:=hg
    obtain ⟨its,r1,p1,_⟩:=I.tuple ha
    obtain ⟨its2,r2,p2,_⟩:=I.tuple hb
    obtain ⟨u,hu,ru⟩:=r1.get hx
    obtain ⟨v,hv,rv⟩:=r2.get hy
    refine zipT_item D st (show s.heap.IsTuple a its.toArray from p1) (show s.heap.IsTuple b its2.toArray from p2) (x:=u) (y:=v) (by simpa using hu) (by simpa using hv) fun h' z1 o1 j1 j2 new sz keep=>?_
    refine ⟨_,rfl,wpAny_letOwnedTupleGo_zip (s:={ s with heap:=h' }) z1 fun h2 z2 sb=>?_⟩
    have hn:H s.heap.objs.size=none:=I.hok.fresh (Nat.le_refl _)
    have zlt:z < s.heap.objs.size:=Heap.lt_size st.zz
    have k2:∀ c o,c ∉ [z,TI,TO,i1,i2]->s.heap.get? c=some o->h2.get? c=some o:=fun c o hc e=>by
      simp only [List.mem_cons,List.not_mem_nil,or_false,not_or] at hc
      exact sb.extBut _ _ hc.1 (keep c o (by simp only [List.mem_cons,List.not_mem_nil,or_false,not_or];exact ⟨hc.1,hc.2.2.1,hc.2.2.2.1,hc.2.2.2.2⟩) e)
    have e0:h2.get? s.heap.objs.size=some { cls:=.type "tuple",data:=.seq #[u,v] }:=sb.extBut _ _ (Nat.ne_of_gt zlt) new
    have pne:∀ c o,s.heap.get? c=some o->c ≠ s.heap.objs.size:=fun c o e=>Nat.ne_of_lt (Heap.lt_size e)
    have nit:∀ c u,H c=some u->c ∉ [z,TI,TO,i1,i2]:=fun c u e q=>by rw [(hf c q).1] at e;cases e
    have hok:HOk X.prog X.w (upd H s.heap.objs.size (.tup [x,y])) h2:=fun c ob e=>by
      by_cases hq:c=s.heap.objs.size
      · subst hq
        rw [upd_same] at e;cases e
        exact ⟨by show 2 <= sizeLine;decide,[u,v],.cons ru (.cons rv .nil),⟨_,e0,rfl,_,rfl⟩⟩
      · rw [upd_ne hq] at e
        refine (I.hok c ob e).stay (fun d w' hd q=>k2 d w' ?_ q) (fun d q=>by rw [upd_ne (ne_of_none q hn)];exact q) fun d xs q=>by rw [upd_ne (ne_of_none q hn)];exact q
        rcases hd with rfl | hd
        · exact nit d ob e
        · exact nit d _ hd
    have I2:Inv X pins σ (upd H s.heap.objs.size (.tup [x,y])) { s with heap:=h2 }:=by
      refine I.step (g':=s.gens) (d':=s.drawn) (t':=s.toks) (ch:=[z,TI,TO,i1,i2]) (fun c hc=>⟨(hf c hc).2.2.2.1,(hf c hc).2.1,(hf c hc).2.2.2.2.1,(hf c hc).2.2.2.2.2⟩) (fun c o _ _ hc e _=>k2 c o hc e) (fun c o _ _ hc e _=>⟨o.slots,k2 c o hc e⟩)
        (fun c o _ e n=>by rw [upd_ne (pne c o e)];exact n) (fun c o hc e=>⟨o,k2 c o hc e⟩) (fun c xs e=>by rw [upd_ne (ne_of_none e hn)];exact e) (fun c o u e=>by rw [upd_ne (ne_of_none e hn)];exact e) (fun c ps e=>⟨#[],by rw [upd_ne (ne_of_none e hn),e];simp⟩) (fun m hm=>?_) hok I.bare
      obtain ⟨o,es,ep,ho,r⟩:=hm
      exact ⟨o,es,ep,k2 _ o (fun q=>(hf _ q).2.1 rfl) ho,r⟩
    refine ⟨.ref s.heap.objs.size,_,I2,rfl,⟨_,x,y,hn,rfl,rfl,fun xs' h'=>by rw [I.tuple_inj h' ha];exact hx,fun ys' h'=>by rw [I.tuple_inj h' hb];exact hy⟩,?_,fun c hc=>?_⟩
    · exact ⟨z2,sb.extBut _ _ D.a1 (keep _ _ (by simp only [List.mem_cons,List.not_mem_nil,or_false,not_or];exact ⟨D.a1,D.b1,D.b2,D.b3⟩) st.ti),⟨_,_,sb.extBut _ _ D.a2 o1⟩,j1.at fun o e=>sb.extBut _ o D.a3 e,j2.at fun o e=>sb.extBut _ o D.a4 e⟩
    · have hlt:c < s.heap.objs.size:=by
        obtain ⟨hz,hTI,⟨_,_,hTO⟩,⟨_,h1,_⟩,⟨_,h2,_⟩⟩:=st
        simp only [List.mem_cons,List.not_mem_nil,or_false] at hc
        rcases hc with rfl | rfl | rfl | rfl | rfl
        · exact Heap.lt_size hz
        · exact Heap.lt_size hTI
        · exact Heap.lt_size hTO
        · exact Heap.lt_size h1
        · exact Heap.lt_size h2
      rw [upd_ne (Nat.ne_of_lt hlt)]
      exact (hf c hc).1
  done:=by
    intro X hP hw hK hc i pins s σ H E I hf st hg
    subst hP hw hK
    obtain ⟨xs,ha,hx⟩:=hg
    obtain ⟨its,r1,p1,_⟩:=I.tuple ha
    have hl:=r1.length
    refine zipT_end (I.ok.hd hc) D st (show s.heap.IsTuple a its.toArray from p1) (by simp;lia) fun h' keep=>⟨rfl,I.turnedL (t':=s.toks) (ch:=[z,TI,TO,i1,i2]) (fun c o hc e=>keep c o (fun q=>hc ?_) e) hf⟩
    simp only [List.mem_cons,List.not_mem_nil,or_false] at q ⊢
    rcases q with q | q | q | q
    · exact .inl q
    · exact .inr (.inr (.inl q))
    · exact .inr (.inr (.inr (.inl q)))
    · exact .inr (.inr (.inr (.inr q)))
  self:=fun _ _ _ _ _ st h=>wpAny_pyIter_zip st.zz h
noncomputable def iZip (K:PySem.W.Frag) (ta:TA):TI:=fun σ H R=>ta σ H fun vs H1=>∃ a b xs ys,vs=[.ref a,.ref b]/\SqT K H1 a xs/\SqT K H1 b ys/\R (Itz K a b) H1
theorem pi_zip {e1 e2:Expr} {es:List Expr} {kk:Nat} {pt p pos:Pos} {ta:TA} (hg:Gl X "zip") (hm:X.mg "zip"=none) (ha:PA X [e1,e2] ta) (hs:starEach [e1,e2] X.env=[(false,eval e1 X.env),(false,eval e2 X.env)]:=by rfl) (hs2:starEach [e2] X.env=[(false,eval e2 X.env)]:=by rfl) :
    PI X (.Tuple es kk pt) (.Call (.Name "zip" p) [e1,e2] [] pos) (iZip X.K ta):=by
  intro pins s σ H R I h
  refine Call_ (ld_blt I hg hm boot_zip (PyProof.Rows.callWith_type1 (thn (ha pos pins s σ H _ I h) fun us s1 ⟨vs,H1,I1,r1,q1⟩=>?_) (by rw [hs,hs2]) (by rw [hs2];rfl)))
  obtain ⟨a,b,xs,ys,rfl,hx,hy,q⟩:=q1
  cases r1 with
  | cons ra rr =>
    cases rr with
    | cons rb rr =>
      cases rr
      cases ra
      cases rb
      obtain ⟨its,r1,p1,_⟩:=I1.tuple hx
      obtain ⟨its2,r2,p2,_⟩:=I1.tuple hy
      refine call_zipT (show s1.heap.IsTuple a its.toArray from p1) (show s1.heap.IsTuple b its2.toArray from p2) fun h' Z keep sz=>?_
      refine wpAny_pyIter_zip (s:={ s1 with heap:=h' }) Z.zz ?_
      have I2:Inv X pins σ H1 { s1 with heap:=h' }:=I1.kept (t':=s1.toks) keep
      refine ⟨s1.heap.objs.size + 4,[s1.heap.objs.size + 4,s1.heap.objs.size + 2,s1.heap.objs.size + 3,s1.heap.objs.size,s1.heap.objs.size + 1],_,_,H1,rfl,I2,turn_zip (ZipD.new p1.lt p2.lt),Z,fun c hc=>?_,q⟩
      have hge:s1.heap.objs.size <= c:=by
        simp only [List.mem_cons,List.not_mem_nil,or_false] at hc
        rcases hc with rfl | rfl | rfl | rfl | rfl <;> first | exact Nat.le_add_right _ _ | exact Nat.le_refl _
      exact I1.fpOk hge (I1.hok.fresh hge)
end
end L2
namespace L2
open PySem PySem.Spec PyProof.Rows
mutual
noncomputable def Dt (st:Addr) (H:Hp):PyData->V->Prop
  | .none,v=>v=.non
  | .bool b,v=>v=.bl b
  | .int i,v=>v=.int i
  | .str x,v=>v=.str x
  | .tuple ds,v=>∃ a xs,v=.ref a/\a ≠ st/\H a=some (.tup xs)/\Dts st H ds xs
  | .list ds,v=>∃ a xs,v=.ref a/\a ≠ st/\H a=some (.lst xs)/\Dts st H ds xs
  | .dict _,v=>∃ a ks,v=.ref a/\a ≠ st/\H a=some (.dK ks)
noncomputable def Dts (st:Addr) (H:Hp):List PyData->List V->Prop
  | [],xs=>xs=[]
  | d :: ds,xs=>∃ x r,xs=x :: r/\Dt st H d x/\Dts st H ds r
end
noncomputable def Kp (st:Addr) (H H':Hp):Prop:=∀ b o,b ≠ st->H b=some o->H' b=some o
theorem Same.kp {H H':Hp} (a:Same H H') (st:Addr):Kp st H H':=fun b o _ e=>a b o e
theorem Same.new {H:Hp} {p:Addr} {o:HO} (h:H p=none):Same H (upd H p o):=fun b u q=>by rw [upd_ne (ne_of_none q h)];exact q
theorem Kp.at {st:Addr} {H:Hp} {o:HO}:Kp st H (upd H st o):=fun b u n q=>by rw [upd_ne n];exact q
mutual
theorem Dt.kp {st:Addr} {H H':Hp} (k:Kp st H H'):∀ {d:PyData} {v:V},Dt st H d v->Dt st H' d v
  | .none,_,h=>by unfold Dt at h ⊢;exact h
  | .bool _,_,h=>by unfold Dt at h ⊢;exact h
  | .int _,_,h=>by unfold Dt at h ⊢;exact h
  | .str _,_,h=>by unfold Dt at h ⊢;exact h
  | .tuple ds,_,h=>by
    unfold Dt at h ⊢
    obtain ⟨a,xs,e,n,q,r⟩:=h
    exact ⟨a,xs,e,n,k a _ n q,Dts.kp k r⟩
  | .list ds,_,h=>by
    unfold Dt at h ⊢
    obtain ⟨a,xs,e,n,q,r⟩:=h
    exact ⟨a,xs,e,n,k a _ n q,Dts.kp k r⟩
  | .dict kvs,_,h=>by
    unfold Dt at h ⊢
    obtain ⟨a,ks,e,n,q⟩:=h
    exact ⟨a,ks,e,n,k a _ n q⟩
theorem Dts.kp {st:Addr} {H H':Hp} (k:Kp st H H'):∀ {ds:List PyData} {xs:List V},Dts st H ds xs->Dts st H' ds xs
  | [],_,h=>by unfold Dts at h ⊢;exact h
  | d :: ds,_,h=>by
    unfold Dts at h ⊢
    obtain ⟨x,r,e,q1,q2⟩:=h
    exact ⟨x,r,e,Dt.kp k q1,Dts.kp k q2⟩
end
theorem Dt.int (st:Addr) (H:Hp) (i:Int):Dt st H (.int i) (.int i):=by unfold Dt;rfl
theorem Dt.non (st:Addr) (H:Hp):Dt st H .none .non:=by unfold Dt;rfl
theorem Dt.str (st:Addr) (H:Hp) (x:Str):Dt st H (.str x) (.str x):=by unfold Dt;rfl
theorem Dt.tup {st:Addr} {H:Hp} {a:Addr} {xs:List V} {ds:List PyData} (n:a ≠ st) (h:H a=some (.tup xs)) (r:Dts st H ds xs):Dt st H (.tuple ds) (.ref a):=by unfold Dt;exact ⟨a,xs,rfl,n,h,r⟩
theorem Dt.lst {st:Addr} {H:Hp} {a:Addr} {xs:List V} {ds:List PyData} (n:a ≠ st) (h:H a=some (.lst xs)) (r:Dts st H ds xs):Dt st H (.list ds) (.ref a):=by unfold Dt;exact ⟨a,xs,rfl,n,h,r⟩
theorem Dts.nil (st:Addr) (H:Hp):Dts st H [] []:=by unfold Dts;rfl
theorem Dts.cons {st:Addr} {H:Hp} {d:PyData} {ds:List PyData} {x:V} {xs:List V} (h:Dt st H d x) (r:Dts st H ds xs):Dts st H (d :: ds) (x :: xs):=by unfold Dts;exact ⟨x,xs,rfl,h,r⟩
theorem Dts.uncons {st:Addr} {H:Hp} {d:PyData} {ds:List PyData} {xs:List V} (h:Dts st H (d :: ds) xs):∃ x r,xs=x :: r/\Dt st H d x/\Dts st H ds r:=by unfold Dts at h;exact h
theorem Dts.len {st:Addr} {H:Hp}:∀ {ds:List PyData} {xs:List V},Dts st H ds xs->ds.length=xs.length
  | [],_,h=>by unfold Dts at h;subst h;rfl
  | d :: ds,_,h=>by
    obtain ⟨x,r,e,_,q⟩:=h.uncons
    subst e
    rw [List.length_cons,List.length_cons,Dts.len q]
theorem Dts.append {st:Addr} {H:Hp}:∀ {ds es:List PyData} {xs ys:List V},Dts st H ds xs->Dts st H es ys->Dts st H (ds ++ es) (xs ++ ys)
  | [],_,_,_,h,q=>by unfold Dts at h;subst h;exact q
  | d :: ds,_,_,_,h,q=>by
    obtain ⟨x,r,e,h1,h2⟩:=h.uncons
    subst e
    exact Dts.cons h1 (Dts.append h2 q)
theorem Dts.get {st:Addr} {H:Hp}:∀ {ds:List PyData} {xs:List V} {i:Nat} {x:V},Dts st H ds xs->xs[i]?=some x->∃ d,ds[i]?=some d/\Dt st H d x
  | [],_,i,x,h,e=>by unfold Dts at h;subst h;simp at e
  | d :: ds,_,0,x,h,e=>by
    obtain ⟨y,r,e1,h1,h2⟩:=h.uncons
    subst e1
    simp at e;subst e
    exact ⟨d,rfl,h1⟩
  | d :: ds,_,i + 1,x,h,e=>by
    obtain ⟨y,r,e1,h1,h2⟩:=h.uncons
    subst e1
    obtain ⟨d',e2,h3⟩:=Dts.get (i:=i) (x:=x) h2 (by simpa using e)
    exact ⟨d',by simpa using e2,h3⟩
theorem Dts.ints (st:Addr) (H:Hp):∀ ns:List Int,Dts st H (ns.map PyData.int) (ns.map V.int)
  | []=>Dts.nil st H
  | n :: ns=>Dts.cons (Dt.int st H n) (Dts.ints st H ns)
theorem Dts.ints_eq {st:Addr} {H:Hp}:∀ {ns:List Int} {xs:List V},Dts st H (ns.map PyData.int) xs->xs=ns.map V.int
  | [],_,h=>by unfold Dts at h;exact h
  | n :: ns,_,h=>by
    rw [List.map_cons] at h
    obtain ⟨x,r,e,h1,h2⟩:=h.uncons
    unfold Dt at h1
    rw [e,h1,Dts.ints_eq h2,List.map_cons]
noncomputable abbrev DI (ns:List Int):PyData:=.tuple (ns.map .int)
theorem Dt.di {st:Addr} {H:Hp} {ns:List Int} {v:V} (h:Dt st H (DI ns) v):∃ a,v=.ref a/\a ≠ st/\H a=some (.tup (ns.map V.int)):=by
  unfold DI Dt at h
  obtain ⟨a,xs,e,n,q,r⟩:=h
  exact ⟨a,e,n,by rw [q,r.ints_eq]⟩
theorem Dt.mkI {st:Addr} {H:Hp} {ns:List Int} {a:Addr} (n:a ≠ st) (h:H a=some (.tup (ns.map V.int))):Dt st H (DI ns) (.ref a):=Dt.tup n h (Dts.ints st H ns)
mutual
theorem Dt.reads {P:Program} {w:World} {st:Addr} {H:Hp} {h:Heap} (ok:HOk P w H h):∀ {d:PyData} {v:V} {u:Value},d.canLay0=true->Dt st H d v->RelV v u->∃ as,Reads h u d as
  | .none,_,u,_,q,r=>by unfold Dt at q;subst q;cases r;exact ⟨[],.none⟩
  | .bool b,_,u,_,q,r=>by unfold Dt at q;subst q;cases r;exact ⟨[],.bool b⟩
  | .int i,_,u,_,q,r=>by unfold Dt at q;subst q;obtain ⟨t,rfl⟩:=r;exact ⟨[],.int i t⟩
  | .str x,_,u,_,q,r=>by unfold Dt at q;subst q;obtain ⟨t,rfl⟩:=r;exact ⟨[],.str x t⟩
  | .tuple ds,_,u,cl,q,r=>by
    unfold PyData.canLay0 at cl
    unfold Dt at q
    obtain ⟨a,xs,e,n,hq,rs⟩:=q
    subst e
    cases r
    obtain ⟨_,its,rv,o,ho,hc,m,hd⟩:=ok a _ hq
    obtain ⟨as,ra⟩:=Dts.reads ok cl rs rv
    exact ⟨as,.tuple ho hc hd (by simpa using ra)⟩
  | .list ds,_,u,cl,q,r=>by
    unfold PyData.canLay0 at cl
    unfold Dt at q
    obtain ⟨a,xs,e,n,hq,rs⟩:=q
    subst e
    cases r
    obtain ⟨_,its,m,rv,ho⟩:=ok a _ hq
    obtain ⟨as,ra⟩:=Dts.reads ok cl rs rv
    exact ⟨a :: as,.list ho rfl rfl (by simpa using ra)⟩
  | .dict kvs,_,u,cl,q,r=>by unfold PyData.canLay0 at cl;cases cl
theorem Dts.reads {P:Program} {w:World} {st:Addr} {H:Hp} {h:Heap} (ok:HOk P w H h):∀ {ds:List PyData} {xs:List V} {us:List Value},PyData.canLayAll0 ds=true->Dts st H ds xs->Vals xs us->∃ as,ReadsAll h us ds as
  | [],_,us,_,q,r=>by unfold Dts at q;subst q;cases r;exact ⟨[],.nil⟩
  | d :: ds,_,us,cl,q,r=>by
    unfold PyData.canLayAll0 at cl
    rw [Bool.and_eq_true] at cl
    obtain ⟨x,rr,e,h1,h2⟩:=q.uncons
    subst e
    cases r with
    | cons r1 r2 =>
      obtain ⟨as,ra⟩:=Dt.reads ok cl.1 h1 r1
      obtain ⟨bs,rb⟩:=Dts.reads ok cl.2 h2 r2
      exact ⟨as ++ bs,.cons ra rb⟩
end
section
variable {X:Cx}
noncomputable def tyN:PyData->String
  | .none=>"NoneType"
  | .bool _=>"bool"
  | .int _=>"int"
  | .str _=>"str"
  | .list _=>"list"
  | .tuple _=>"tuple"
  | .dict _=>"dict"
theorem Dt.ty {K:PySem.W.Frag} {st:Addr} {H:Hp} {d:PyData} {v:V} (h:Dt st H d v):TyOf K H v (.type (tyN d)):=by
  cases d with
  | none=>unfold Dt at h;subst h;exact .non
  | bool b=>unfold Dt at h;subst h;exact .bl b
  | int i=>unfold Dt at h;subst h;exact .int i
  | str x=>unfold Dt at h;subst h;exact .str x
  | list ds=>unfold Dt at h;obtain ⟨a,xs,e,_,q,_⟩:=h;subst e;exact .lst q
  | tuple ds=>unfold Dt at h;obtain ⟨a,xs,e,_,q,_⟩:=h;subst e;exact .tup q
  | dict kvs=>unfold Dt at h;obtain ⟨a,ks,e,_,q⟩:=h;subst e;exact .dK q
noncomputable def isBoolD:PyData->Bool
  | .bool _=>true
  | _=>false
noncomputable def isIntD:PyData->Bool
  | .bool _=>true
  | .int _=>true
  | _=>false
noncomputable def isTupD:PyData->Bool
  | .tuple _=>true
  | _=>false
theorem kit_bool (K:PySem.W.Frag) (d:PyData):PySem.W.kitOne K (.type (tyN d)) (.type "bool")=some (isBoolD d):=by cases d <;> kernel_rfl
theorem kit_int (K:PySem.W.Frag) (d:PyData):PySem.W.kitOne K (.type (tyN d)) (.type "int")=some (isIntD d):=by cases d <;> kernel_rfl
theorem kit_tup (K:PySem.W.Frag) (d:PyData):PySem.W.kitOne K (.type (tyN d)) (.type "tuple")=some (isTupD d):=by cases d <;> kernel_rfl
theorem call_isi {T:String} {f:PyData->Bool} (hk:∀ K d,PySem.W.kitOne K (.type (tyN d)) (.type T)=some (f d)) :
    CallR X (.builtin "isinstance") (fun xs H Q=>∃ x st d,xs=[x,.ty T]/\Dt st H d x/\Q (.bl (f d)) H):=by
  intro pins s σ H xs us Q I r h
  obtain ⟨x,st,d,rfl,hd,q⟩:=h
  cases r with
  | cons r1 rr =>
    cases rr with
    | cons r2 rr =>
      cases rr
      cases r2
      exact isinst_ok I r1 (hd.ty (K:=X.K)) (hk X.K d) fun tk=>⟨.bl (f d),H,I.tok tk,rfl,q⟩
theorem op_fdivB:OpR X (binaryOp .FloorDiv) (rI (fun _ j=>0 < j/\j.natAbs.log2 < 9000) fun i j=>.int (i / j)):=opI fun i j _ _ _ _ _ hc q =>
  floordiv_int (by have:=hc.1;lia) (by rw [Int.fdiv_eq_ediv_of_nonneg i (by have:=hc.1;lia)];exact q) (.inl (PyProof.noPylong_of_log2 hc.2))
end
end L2
namespace L2
open PySem PySem.Spec PyProof.Rows
section
variable {prog:Program} {w:World} {A:Around} {E:Value->Shared->Prop} {s:Shared}
end
section
variable {X:Cx}
end
end L2
namespace L2
open PySem PySem.Spec PyProof.Rows
structure Cal (P:Program) (w:World) (K:PySem.W.Frag) (mg:Str->Option Value) (base:Heap) (k:Nat) (x:Str) (ps:List Str) (sp:Sp):Prop where
  ex:∃ f fd,mg x=some (.ref f)/\PySem.W.keepIn K (.ref f)=true/\Binds K fd ps []/\FnOk P w K mg base CX0 k f fd ps sp
theorem Cal.up {P:Program} {w:World} {K:PySem.W.Frag} {mg:Str->Option Value} {base:Heap} {j k:Nat} {x:Str} {ps:List Str} {sp:Sp} (C:Cal P w K mg base j x ps sp) (h:j <= k):Cal P w K mg base k x ps sp :=
  let ⟨f,fd,a,b,c,d⟩:=C.ex;⟨f,fd,a,b,c,d.mono h⟩
noncomputable def tCb (sp:Sp) (t:TA):TE:=fun σ H Q=>t σ H fun vs H1=>sp vs H1 Q E0
section
variable {X:Cx} {k:Nat} {x:Str} {ps:List Str} {sp:Sp} {p pos:Pos} {e:Expr} {es:List Expr} {t:TA}
theorem pe_cal (C:Cal X.prog X.w X.K X.mg X.base k x ps sp) (hr:Room k X.A) (hg:Gl X x) (ha:PA X (e :: es) t)
    (hdb:(x == ("__debug__":Str))=false:=by decide) (he:starEach (e :: es) X.env=(false,eval e X.env) :: starEach es X.env:=by rfl) (hpl:(backTo pos (starEach es X.env)).any (·.1)=false:=by rfl) :
    PE X (.Call (.Name x p) (e :: es) [] pos) (tCb sp t):=by
  obtain ⟨f,fd,hm,hk,hb,F⟩:=C.ex
  have h:=pe_call (x:=x) (p:=p) (pos:=pos) F hr hg hm hk hb .nil pass0 ha hdb he hpl
  have e:tCall sp [] E0 t=tCb sp t:=by
    funext σ H Q
    show t σ H (fun vs H1=>sp (vs ++ []) H1 Q E0)=t σ H (fun vs H1=>sp vs H1 Q E0)
    congr 1
    funext vs H1
    rw [List.append_nil]
  rw [<- e];exact h
end
section
variable {K:PySem.W.Frag} {σ0:St} {te:TE} {H:Hp} {F:List V->Hp->Prop}
theorem blk_tup {a:Addr} {xs:List V} (hn:xs.length <= sizeLine) (Pv:Nat->List V->Hp->Prop) (h0:Pv 0 [] H) (hl:∀ i ys H,Pv i ys H->ys.length=i) (hq:∀ i ys H,i <= xs.length->Pv i ys H->SqT K H a xs) (hσ:σ0[0]?=some none)
    (hs:∀ i ys H x,xs[i]?=some x->Pv i ys H->te (σ0.set 0 (some x)) H fun y H'=>Pv (i + 1) (ys ++ [y]) H') (hd:∀ ys H,Pv xs.length ys H->F ys H):Blk (Itt K a) σ0 (gName 0) tTrue te H F:=by
  refine ⟨fun i m ys H=>m=xs.length - i/\i <= xs.length/\Pv i ys H,⟨xs.length,by simp,Nat.zero_le _,h0⟩,?_⟩
  rintro i m ys H2 ⟨rfl,hi,p⟩
  have q:=hq i ys H2 hi p
  refine ⟨by rw [hl i ys H2 p];lia,?_⟩
  by_cases hlt:i < xs.length
  · refine .inr ⟨⟨xs,xs[i],q,by simp [hlt]⟩,fun y H'=>Pv (i + 1) (ys ++ [y]) H',fun _=>False,fun y H' q=>⟨xs.length - (i + 1),by lia,rfl,hlt,q⟩,fun _ q=>q.elim,fun x H3 y=>?_⟩
    obtain ⟨rfl,y⟩:=y
    exact ⟨Wk.set (.inl hσ),hs i ys _ x (y xs q) p⟩
  · have e:i=xs.length:=by lia
    subst e
    exact .inl ⟨⟨xs,q,Nat.le_refl _⟩,hd ys H2 p⟩
theorem blk_zip {a b:Addr} {xs ys:List V} (hn:xs.length <= sizeLine) (hxy:xs.length=ys.length) (Pv:Nat->List V->Hp->Prop) (h0:Pv 0 [] H) (hl:∀ i zs H,Pv i zs H->zs.length=i)
    (hq:∀ i zs H,i <= xs.length->Pv i zs H->SqT K H a xs/\SqT K H b ys) (hσ:σ0[0]?=some none/\σ0[1]?=some none)
    (hs:∀ i zs H x y p,xs[i]?=some x->ys[i]?=some y->H p=none->Pv i zs H->te ((σ0.set 0 (some x)).set 1 (some y)) (upd H p (.tup [x,y])) fun z H'=>Pv (i + 1) (zs ++ [z]) H') (hd:∀ zs H,Pv xs.length zs H->F zs H) :
    Blk (Itz K a b) σ0 (gTup K 2 (gCons (gName 0) (gCons (gName 1) gNil))) tTrue te H F:=by
  refine ⟨fun i m zs H=>m=xs.length - i/\i <= xs.length/\Pv i zs H,⟨xs.length,by simp,Nat.zero_le _,h0⟩,?_⟩
  rintro i m zs H2 ⟨rfl,hi,p⟩
  obtain ⟨q1,q2⟩:=hq i zs H2 hi p
  refine ⟨by rw [hl i zs H2 p];lia,?_⟩
  by_cases hlt:i < xs.length
  · refine .inr ⟨⟨xs,ys,xs[i],ys[i]'(by lia),q1,q2,by simp [hlt],by rw [List.getElem?_eq_getElem (by lia)]⟩,fun y H'=>Pv (i + 1) (zs ++ [y]) H',fun _=>False,fun y H' q=>⟨xs.length - (i + 1),by lia,rfl,hlt,q⟩,fun _ q=>q.elim,fun v H3 yld=>?_⟩
    obtain ⟨r,x,y,hr,rfl,rfl,hx,hy⟩:=yld
    refine ⟨r,[x,y],rfl,.of upd_same,rfl,x,[y],rfl,y,[],rfl,rfl,?_,?_⟩
    · refine ⟨by simp,fun j u e=>?_⟩
      by_cases h1:j=1
      · subst h1;rw [hσ.2] at e;cases e
      · rw [List.getElem?_set_ne (Ne.symm h1)]
        by_cases h2:j=0
        · subst h2;rw [hσ.1] at e;cases e
        · rw [List.getElem?_set_ne (Ne.symm h2)];exact e
    · exact hs i zs _ x y r (hx xs q1) (hy ys q2) hr p
  · have e:i=xs.length:=by lia
    subst e
    exact .inl ⟨⟨xs,q1,Nat.le_refl _⟩,hd zs H2 p⟩
end
section
variable {X:Cx}
theorem pe_bty {x:Str} {T:String} {pos:Pos} (hg:Gl X x) (hm:X.mg x=none) (hv:bootBuiltins x=some (.type T)) (hn:x ≠ "__name__":=by decide) (hd:(x == ("__debug__":Str))=false:=by decide):PE X (.Name x pos) (tC (.ty T)):=pe_bltn hg hm hv (v:=.ty T) rfl hn hd
theorem pg_c {scope:Scope} {N:List Str} {s:Shared} {H:Hp} {ex:List Addr} {i:Nat} {x:Str} {pos:Pos} (hN:N.Nodup) (hi:N[i]?=some x) (hx:Loc (X.comp scope N s H ex).env.scope x)
    (hf:(X.comp scope N s H ex).fn x=true ∨ (X.comp scope N s H ex).env.scope.names.lookup x=some .local):PG (X.comp scope N s H ex) (.Name x pos) (gName i):=pg_name hN hi hx hf
end
theorem sz {n:Nat} (h:n <= 1000):n <= sizeLine:=Nat.le_of_lt (small1000 h)
end L2
namespace L2
open PySem PySem.Spec PyProof.Rows
section
variable {X:Cx} {K:PySem.W.Frag}
theorem lenK (h:X.K=K):CallR X (.builtin "len") (fun xs H Q=>∃ p ys,xs=[.ref p]/\(SqL K H p ys ∨ SqT K H p ys)/\Q (.int ys.length) H):=by subst h;exact call_len_seq
theorem pgtK (h:X.K=K) {es:List Expr} {k:Nat} {t:TGs} {n:Nat} {pos:Pos} (hc:X.calm=true) (hp:PGs X es t)
    (hn:(assignEach es X.env).length=n:=by rfl) (hst:(assignEach es X.env).findIdx? (·.1)=none:=by rfl):PG X (.Tuple es k pos) (gTup K n t):=by subst h;exact pg_tup hc hp hn hst
end
end L2
namespace L2
open PySem PySem.Spec PyProof.Rows
noncomputable def Hd (h:Heap) (a C:Addr):Option Addr->Prop
  | none=>∃ oe vs,h.get? a=some oe/\oe.cls=.ref C/\oe.dict=none/\oe.data=.fields vs/\vs[1]?=some .none
  | some T=>∃ oe vs oT ts,h.get? a=some oe/\oe.cls=.ref C/\oe.dict=none/\oe.data=.fields vs/\vs[1]?=some (.ref T)/\T ≠ a/\h.get? T=some oT/\oT.data=.fields ts/\ts[3]?=some .none
theorem Hd.at {h:Heap} {a C:Addr} {x:Option Addr} (q:Hd h a C x):∃ oe vs,h.get? a=some oe/\oe.cls=.ref C/\oe.dict=none/\oe.data=.fields vs:=by
  cases x with
  | none=>obtain ⟨oe,vs,e1,e2,e3,e4,_⟩:=q;exact ⟨oe,vs,e1,e2,e3,e4⟩
  | some T=>obtain ⟨oe,vs,_,_,e1,e2,e3,e4,_⟩:=q;exact ⟨oe,vs,e1,e2,e3,e4⟩
theorem dict_mapFields (f:Array Value->Array Value) (o:Obj):(Obj.mapFields f o).dict=o.dict:=by
  obtain ⟨c,d,dt,sl⟩:=o
  cases dt <;> rfl
theorem entry_x {M:Model} {A:Around} {E:Value->Shared->Prop} {s:Shared} {bs:Heap} {ev:Env} {out:List Env} {L a C:Addr} {ob:Obj} {us:Array Value} {hdv:Value} {hn:Bool} {Q:Unit->Shared->Prop}
    (fr:A.frames=some (ev :: out)) (ff:s.heap.FunFrames bs (ev :: out)) (fl:ev.frame=some L) (ga:s.heap.get? a=some ob) (gc:ob.cls=.ref C) (gd:ob.dict=none) (gf:ob.data=.fields us) (sz:1 < us.size)
    (k:∀ h' T,Hd h' a C (some T)->s.heap.objs.size <= T->(∀ b o,b ≠ a->b ∉ frs (ev :: out)->s.heap.get? b=some o->h'.get? b=some o) ->
      (∀ b o,b ≠ a->s.heap.get? b=some o->∃ sl,h'.get? b=some { o with slots:=sl })->Q () { s with heap:=h' }) :
    wpAny M A (do let x <- frameOf ev;let pl <- entryPlaceOf L hn;let b <- EntryCells.newEntry hdv x .none (rawInt L) .none pl;setField (.ref a) 1 b) (fun _ s'=>wpAny M A (setFlight (.ref a) none) Q E s') E s:=by
  have na:a ∉ (ev :: out).filterMap (·.frame):=fun hm=>by
    obtain ⟨_,o,ho,hnf⟩:=ff.mem hm
    rw [ga] at ho
    cases ho
    exact hnf us gf
  refine wpAny_bind (wpAny_frameOf_fun fr ff fl fun g1 hs=>?_)
  refine wpAny_bind (wpAny_entryPlaceOf fun pl hpl=>?_)
  unfold EntryCells.newEntry newFields
  refine wpAny_bind (wpAny_newObj_type ?_ (hpl.sizeOk5 _ _ _ _ _))
  have ga1:g1.get? a=some ob:=(hs.2.1 a na).trans ga
  generalize hnew:({ cls:=.type "traceback",dict:=none,data:=.fields ([hdv,.ref L,.none,rawInt L,.none] ++ (if pl.isEmpty then List.replicate 6 Value.none else pl)).toArray }:Obj)=ot
  have ga2:(g1.push ot).get? a=some ob:=Heap.get?_push_of_some (h:=g1) ot ga1
  have gt2:(g1.push ot).get? g1.objs.size=some ot:=Heap.get?_push_size g1 (by rw [<- hnew];rfl)
  have otd:∃ ts,ot.data=.fields ts/\3 < ts.size:=by
    refine ⟨_,by rw [<- hnew],?_⟩
    simp only [List.size_toArray,List.length_append,List.length_cons,List.length_nil]
    lia
  obtain ⟨ts,otd,tsz⟩:=otd
  refine wpAny_setField ga2 gf sz ?_
  have neT:g1.objs.size ≠ a:=Nat.ne_of_gt (Heap.lt_size ga1)
  have d3:=Obj.data_mapFields gf (·.setIfInBounds 1 (Value.ref g1.objs.size))
  have ga3:=Heap.get?_update_self (Obj.mapFields (·.setIfInBounds 1 (Value.ref g1.objs.size))) ga2 (Obj.isFreed_of_fields d3)
  have gt3:((g1.push ot).update a (Obj.mapFields (·.setIfInBounds 1 (Value.ref g1.objs.size)))).get? g1.objs.size=some ot :=
    (Heap.get?_update_other (g1.push ot) (Obj.mapFields (·.setIfInBounds 1 (Value.ref g1.objs.size))) (Ne.symm neT)).trans gt2
  unfold setFlight
  refine wpAny_bind (wpAny_field ga3 d3 (x:=.ref g1.objs.size) (by simp [sz]) ?_)
  rw [if_pos (show (Value.ref g1.objs.size != Value.none)=true from by simp)]
  refine wpAny_setField gt3 otd tsz ?_
  have kp:∀ b o,b ≠ a->g1.get? b=some o ->
      (((g1.push ot).update a (Obj.mapFields (·.setIfInBounds 1 (Value.ref g1.objs.size)))).update g1.objs.size (Obj.mapFields (·.setIfInBounds 3 ((none:Option Addr).elim Value.none fun f=>rawInt f)))).get? b=some o:=by
    intro b o hb e
    have hbT:g1.objs.size ≠ b:=Nat.ne_of_gt (Heap.lt_size e)
    rw [Heap.get?_update_other _ _ hbT,Heap.get?_update_other _ _ (Ne.symm hb)]
    exact Heap.get?_push_of_some _ e
  refine k _ g1.objs.size ⟨_,_,_,_,(Heap.get?_update_other _ _ neT).trans ga3,?_,?_,d3,by simp [sz],neT,Heap.get?_update_self _ gt3 (Obj.isFreed_of_fields (Obj.data_mapFields otd _)),Obj.data_mapFields otd _,?_⟩ (by rw [hs.1];exact Nat.le_refl _) (fun b o hb hf e=>?_) (fun b o hb e=>?_)
  · rw [Obj.cls_mapFields]
    exact gc
  · rw [dict_mapFields]
    exact gd
  · rw [Array.getElem?_setIfInBounds_self_of_lt tsz]
    rfl
  · exact kp b o hb ((hs.2.1 b hf).trans e)
  · obtain ⟨sl,e1⟩:=hs.2.2 b o e
    exact ⟨sl,kp b _ hb e1⟩
theorem note_x {M:Model} {A:Around} {E:Value->Shared->Prop} {s:Shared} {bs:Heap} {ev:Env} {out:List Env} {L a C:Addr} {hd:Option Addr} {Q:Unit->Shared->Prop}
    (fr:A.frames=some (ev :: out)) (ff:s.heap.FunFrames bs (ev :: out)) (fl:ev.frame=some L) (x:Hd s.heap a C hd)
    (k:∀ h' T,Hd h' a C (some T)->s.heap.objs.size <= T->(∀ b o,b ≠ a->hd ≠ some b->b ∉ frs (ev :: out)->s.heap.get? b=some o->h'.get? b=some o) ->
      (∀ b o,b ≠ a->hd ≠ some b->s.heap.get? b=some o->∃ sl,h'.get? b=some { o with slots:=sl })->Q () { s with heap:=h' }) :
    wpAny M A (noteFrame (.ref a) ev) (fun _ s'=>wpAny M A (setFlight (.ref a) none) Q E s') E s:=by
  unfold noteFrame
  simp only [fl]
  cases hd with
  | none =>
    obtain ⟨oe,vs,e1,e2,e3,e4,e5⟩:=x
    refine wpAny_bind (wpAny_field e1 e4 e5 ?_)
    rw [if_neg (by decide)]
    exact entry_x fr ff fl e1 e2 e3 e4 (Array.getElem?_eq_some_iff.mp e5).1 fun h' T q1 q2 q3 q4=>k h' T q1 q2 (fun b o hb _=>q3 b o hb) (fun b o hb _=>q4 b o hb)
  | some T0 =>
    obtain ⟨oe,vs,oT,ts,e1,e2,e3,e4,e5,ne,t1,t2,t3⟩:=x
    refine wpAny_bind (wpAny_field e1 e4 e5 ?_)
    rw [if_pos (show (Value.ref T0 != Value.none)=true from by simp)]
    refine wpAny_bind (wpAny_field t1 t2 t3 ?_)
    rw [if_neg (show ¬ ((Value.none == rawInt L)=true) from by simp [rawInt])]
    refine wpAny_bind (wpAny_setField t1 t2 (Array.getElem?_eq_some_iff.mp t3).1 ?_)
    have ot:∀ b,b ≠ T0->(s.heap.update T0 (Obj.mapFields (·.setIfInBounds 3 Value.none))).get? b=s.heap.get? b:=fun b hb=>Heap.get?_update_other _ _ (Ne.symm hb)
    have nr:∀ b o,s.heap.get? b=some o->(∀ vs,o.data ≠ .fields vs)->b ≠ T0:=fun b o hb hnf q=>by
      rw [q,t1] at hb
      cases hb
      exact hnf ts t2
    refine entry_x fr (ff.of_keeps fun b o hb hnf=>⟨o,(ot b (nr b o hb hnf)).trans hb,rfl⟩) fl ((ot a (Ne.symm ne)).trans e1) e2 e3 e4 (Array.getElem?_eq_some_iff.mp e5).1 fun h' T q1 q2 q3 q4=>?_
    have q2':s.heap.objs.size <= T:=by
      have z:=Heap.size_after_update s.heap T0 (Obj.mapFields (·.setIfInBounds 3 Value.none))
      rw [<- z];exact q2
    exact k h' T q1 q2' (fun b o hb hx hf e=>q3 b o hb hf ((ot b fun z=>hx (by rw [z])).trans e)) (fun b o hb hx e=>q4 b o hb ((ot b fun z=>hx (by rw [z])).trans e))
theorem leave_x {M:Model} {A:Around} {E:Value->Shared->Prop} {s:Shared} {bs:Heap} {ev:Env} {out:List Env} {L a C:Addr} {hd:Option Addr} {Q:Unit->Shared->Prop}
    (fr:A.frames=some (ev :: out)) (ff:s.heap.FunFrames bs (ev :: out)) (fl:ev.frame=some L) (x:Hd s.heap a C hd)
    (k:∀ h' T,Hd h' a C (some T)->s.heap.objs.size <= T->(∀ b o,b ≠ a->hd ≠ some b->b ∉ frs (ev :: out)->s.heap.get? b=some o->h'.get? b=some o) ->
      (∀ b o,b ≠ a->hd ≠ some b->s.heap.get? b=some o->∃ sl,h'.get? b=some { o with slots:=sl })->Q () { s with heap:=h' }) :
    wpAny M A (leaving ev (.ref a)) Q E s:=by
  unfold leaving
  exact wpAny_bind (note_x fr ff fl x k)
end L2
namespace L2
open PySem PySem.Spec PyProof.Rows
theorem ObjOk.there {P:Program} {w:World} {H:Hp} {h:Heap} {a:Addr} {o:HO} (x:ObjOk P w H h a o):∃ u,h.get? a=some u:=by
  cases o with
  | lst xs=>obtain ⟨_,_,_,_,e⟩:=x;exact ⟨_,e⟩
  | tup xs=>obtain ⟨_,_,_,ob,e,_⟩:=x;exact ⟨_,e⟩
  | dK kvs=>obtain ⟨_,_,_,_,ob,_,_,e,_⟩:=x;exact ⟨_,e⟩
  | dT kvs=>obtain ⟨_,_,_,_,ob,_,_,e,_⟩:=x;exact ⟨_,e⟩
  | set S n=>obtain ⟨ob,_,_,_,e,_⟩:=x;exact ⟨_,e⟩
  | ins C dx fs=>obtain ⟨_,_,_,e,_⟩:=x;exact ⟨_,e⟩
  | own y=>exact x
  | xd fs=>obtain ⟨_,⟨_,_,_,e,_⟩,_⟩:=x;exact ⟨_,e⟩
  | rng lo hi=>obtain ⟨_,_,_,e⟩:=x;exact ⟨_,e⟩
  | frz ob u=>obtain ⟨e,_⟩:=x;exact ⟨_,e⟩
  | tbl ps=>exact ⟨_,(show h.get? a=some _ from x)⟩
  | met f y=>exact ⟨_,(show h.get? a=some _ from x)⟩
  | ext φ=>obtain ⟨_,e,_⟩:=x;exact e
theorem HOk.none_of {P:Program} {w:World} {H:Hp} {h:Heap} {a:Addr} (x:HOk P w H h) (e:h.get? a=none):H a=none:=by
  cases z:H a with
  | none=>rfl
  | some u =>
    obtain ⟨o,eo⟩:=(x a u z).there
    rw [e] at eo
    cases eo
structure Fly (P:Program) (w:World) (fs:List Addr) (H:Hp) (s:Shared) (a C:Addr) (H':Hp) (s':Shared):Prop where
  os:s'.os=s.os
  bare:AllBare s'.gens
  un:Un fs [] H H' s.heap s'.heap
  hok:HOk P w H' s'.heap
  exc:∃ T,Hd s'.heap a C (some T)/\s.heap.get? a=none/\s.heap.get? T=none/\H' a=none/\H' T=none
noncomputable def CX1 (P:Program) (w:World):CXT:=fun outer H s E e s'=>∃ a C H',e=.ref a/\Fly P w (frs outer) H s a C H' s'/\E (.ref C) none H'
theorem un_x {fs:List Addr} {H:Hp} {h h':Heap} {a:Addr} {hd:Option Addr} (ha:H a=none) (ht:∀ T,hd=some T->H T=none) (hf:∀ b ∈ fs,H b=none)
    (k1:∀ b o,b ≠ a->hd ≠ some b->b ∉ fs->h.get? b=some o->h'.get? b=some o) {P:Program} {w:World} (ok:HOk P w H h):HOk P w H h':=fun b o e=>by
  have nt:∀ c u,H c=some u->c ≠ a/\hd ≠ some c/\c ∉ fs:=fun c u q=>by
    refine ⟨fun z=>?_,fun z=>?_,fun z=>?_⟩
    · rw [z,ha] at q;cases q
    · rw [ht c z] at q;cases q
    · rw [hf c z] at q;cases q
  refine (ok b o e).stay (fun c u hc q=>?_) (fun _ q=>q) fun _ _ q=>q
  rcases hc with z | z
  · subst z
    obtain ⟨n1,n2,n3⟩:=nt _ _ e
    exact k1 _ u n1 n2 n3 q
  · obtain ⟨n1,n2,n3⟩:=nt _ _ z
    exact k1 _ u n1 n2 n3 q
theorem fly_out {X:Cx} {pins:List (Addr × Obj)} {σ:St} {H:Hp} {s:Shared} {a C:Addr} {hd:Option Addr} {M:Model} {Q:Unit->Shared->Prop} {E:Value->Shared->Prop} (I:Inv X pins σ H s) (hs:X.stack=X.env :: X.outer) (hf:X.env.frame=some X.env.locals) (hex:X.ex=[])
    (x:Hd s.heap a C hd) (na:X.s₀.heap.get? a=none) (nT:∀ T,hd=some T->X.s₀.heap.get? T=none) (ha:H a=none) (ht:∀ T,hd=some T->H T=none)
    (q:∀ s',Fly X.prog X.w X.fs X.H₀ X.s₀ a C H s'->Q () s'):wpAny M X.A (leaving X.env (.ref a)) Q E s:=by
  have fr:X.A.frames=some (X.env :: X.outer):=by rw [I.ok.frames,hs]
  have ff:s.heap.FunFrames X.base (X.env :: X.outer):=by rw [<- hs];exact I.stack
  have hfs:frs (X.env :: X.outer)=X.env.locals :: X.fs:=by
    unfold frs
    rw [List.filterMap_cons,hf]
    rfl
  refine leave_x fr ff hf x fun h' T k0 k00 k1 k2=>q _ ?_
  have exN:∀ b,b ∉ X.ex:=fun b z=>by rw [hex] at z;cases z
  have neA:∀ b o,X.s₀.heap.get? b=some o->b ≠ a/\hd ≠ some b/\b ≠ X.env.locals:=fun b o e=>by
    refine ⟨fun z=>?_,fun z=>?_,Nat.ne_of_lt (Nat.lt_of_lt_of_le (Heap.lt_size e) I.ok.above)⟩
    · rw [z,na] at e;cases e
    · rw [nT b z] at e;cases e
  refine ⟨I.os,I.bare,⟨fun b o e n hb _=>?_,fun b o e n hb _=>?_,fun b o e n _=>I.base.free b o e n (exN b),fun b o e _=>?_,I.base.tups,I.base.frzs,I.base.tbls⟩,un_x (fs:=frs (X.env :: X.outer)) ha ht (fun b hb=>I.stkFree b (by rw [hs];exact hb)) k1 I.hok,T,k0,na,?_,ha,I.hok.fresh k00⟩
  · obtain ⟨n1,n2,n3⟩:=neA b o e
    exact k1 b o n1 n2 (by rw [hfs];intro z;rcases List.mem_cons.mp z with z | z;exact n3 z;exact hb z) (I.base.keep b o e n hb (exN b))
  · obtain ⟨n1,n2,n3⟩:=neA b o e
    obtain ⟨sl,e1⟩:=I.base.slot b o e n hb (exN b)
    obtain ⟨sl',e2⟩:=k2 b _ n1 n2 e1
    exact ⟨sl',e2⟩
  · obtain ⟨n1,n2,n3⟩:=neA b o e
    obtain ⟨o',e1⟩:=I.base.there b o e (exN b)
    obtain ⟨sl',e2⟩:=k2 b _ n1 n2 e1
    exact ⟨_,e2⟩
  · exact Heap.get?_none_of_le (Nat.le_trans I.sz k00)
theorem none_back {fs:List Addr} {H H':Hp} {h h':Heap} (u:Un fs [] H H' h h') {b:Addr} (e:h'.get? b=none):h.get? b=none:=by
  cases q:h.get? b with
  | none=>rfl
  | some o =>
    obtain ⟨o',e'⟩:=u.there b o q (by simp)
    rw [e'] at e
    cases e
section
variable {P:Program} {w:World} {K:PySem.W.Frag} {mg:Str->Option Value} {base:Heap} {N:List Str} {qual:Str} {scope:Scope} {f:Addr} {cd:Value} {A:Around} {outer:List Env} {s₀:Shared} {H₀:Hp} {E:XK}
theorem passes1:Passes (CX1 P w) (cxOf (CX1 P w) P w K mg base N qual scope f cd A outer s₀ H₀ E) E:=by
  intro pins σ H s e s' I h
  obtain ⟨a,C,H',rfl,F,hE⟩:=h
  obtain ⟨T,x,n1,n2,n3,n4⟩:=F.exc
  have I':=I.call' (ch:=[]) F.os F.un F.hok F.bare (fun b z=>absurd z (by simp))
  exact fly_out I' rfl rfl rfl x (none_back I.base n1) (fun T' z=>by cases z;exact none_back I.base n2) n3 (fun T' z=>by cases z;exact n4) fun s'' F'=>⟨a,C,H',rfl,F',hE⟩
noncomputable def vE:List Value:=[.type "ValueError",.type "Exception",.type "BaseException",.type "object"]
noncomputable def XC (K:PySem.W.Frag) (C:Addr):Prop:=PySem.W.excIn K C vE "ValueError.__new__"=true
theorem exc_obj {K:PySem.W.Frag} {h:Heap} {C:Addr} (X:K.In h) (q:XC K C) :
    ∃ bm N nm q bs hdct sn sub ab col dd k0 k1 k2 k3 k5 mN,h.get? C=some (excClassObj nm q C N bs bm hdct sn sub ab col dd k0 k1 k2 k3 k5 "ValueError.__new__")/\h.Ns N mN/\mN "__init__"=none/\OwnTail h vE bm:=by
  unfold XC PySem.W.excIn at q
  split at q
  case h_2=>cases q
  case h_1 dd cd sl ho =>
    split at q
    case h_2=>cases q
    case h_1 C' bm k0 k1 k2 k3 n k5 hm hs =>
      simp only [Bool.and_eq_true,beq_iff_eq,Bool.not_eq_true'] at q
      obtain ⟨⟨⟨⟨⟨z1,z2⟩,hdel⟩,ht⟩,hok⟩,hni⟩:=q
      subst z1
      subst z2
      obtain ⟨nm,bs,mro,ns,qn,hd,sn,sub,ab,col,del⟩:=cd
      dsimp only at hm hdel hok hni
      subst hm hdel
      have hsl:sl=#[k0,k1,k2,k3,some (.builtin "ValueError.__new__"),k5]:=by
        obtain ⟨l⟩:=sl
        simp only at hs
        rw [hs]
      subst hsl
      exact ⟨bm,ns,nm,qn,bs,hd,sn,sub,ab,col,dd,k0,k1,k2,k3,k5,_,X _ _ ho,.of_isNs (PySem.W.isNs_of_in X hok),PySem.W.nsMap_none_of_in X hok hni,PySem.W.tail_of_in X ht⟩
noncomputable def tRaise (C:Addr) (E:XK) (t:TA):TS:=fun _ σ H=>t σ H fun _ H1=>E (.ref C) none H1
theorem ps_raise {x:Str} {C:Addr} {e:Expr} {es:List Expr} {t:TA} {np cpos pos:Pos} (hg:Gl (cxOf (CX1 P w) P w K mg base N qual scope f cd A outer s₀ H₀ E) x) (hm:mg x=some (.ref C)) (hc:XC K C)
    (ha:PA (cxOf (CX1 P w) P w K mg base N qual scope f cd A outer s₀ H₀ E) (e :: es) t) (hl:(e :: es).length <= 1:=by decide)
    (hdb:(x == ("__debug__":Str))=false:=by decide)
    (he:starEach (e :: es) (envOfC qual scope s₀.heap.objs.size f cd)=(false,eval e (envOfC qual scope s₀.heap.objs.size f cd)) :: starEach es (envOfC qual scope s₀.heap.objs.size f cd):=by rfl)
    (hpl:(backTo cpos (starEach es (envOfC qual scope s₀.heap.objs.size f cd))).any (·.1)=false:=by rfl)
    (hvl:∀ σ H Q,t σ H Q->t σ H fun vs H1=>vs.length <= sizeLine/\Q vs H1) :
    PS (cxOf (CX1 P w) P w K mg base N qual scope f cd A outer s₀ H₀ E) (.Raise (some (.Call (.Name x np) (e :: es) [] cpos)) none pos) (tRaise C E t):=by
  intro pins s σ H D I h
  obtain ⟨bm,NN,nm,q,bs,hdct,sn,sub,ab,col,dd,k0,k1,k2,k3,k5,mN,hC,hN,hni,T⟩:=exc_obj I.ok.mod.kin hc
  have FB:=PySem.F.excBase_ValueError
  refine wpAny_Raise_call_subT (C:=C) (nm:=nm) (q:=q) (N:=NN) (bs:=bs) (bm:=bm) (hdct:=hdct) (sn:=sn) (sub:=sub) (ab:=ab) (col:=col) (dd:=dd) (k0:=k0) (k1:=k1) (k2:=k2) (k3:=k3) (k5:=k5)
    FB (mN:=mN) (T.hasType FB.hasBase) (I.ok.hd rfl) ?_ hni (ld_glob I hg hm ⟨rfl,?_⟩ hdb)
  · show (backTo cpos (starEach (e :: es) (envOfC qual scope s₀.heap.objs.size f cd))).any (·.1)=false
    rw [he]
    show (false || (backTo cpos (starEach es (envOfC qual scope s₀.heap.objs.size f cd))).any (·.1))=false
    rw [hpl]
    rfl
  · have hq:=ha cpos pins s σ H _ I (hvl _ _ _ h)
    show wpAny _ _ (evalArgs (.ref C) true (backTo cpos (starEach (e :: es) (envOfC qual scope s₀.heap.objs.size f cd))) []) _ _ s
    have hq':wpAny (model P w) (A.deeper (envOfC qual scope s₀.heap.objs.size f cd)) (spliced (backTo cpos (starEach (e :: es) (envOfC qual scope s₀.heap.objs.size f cd)))) _ _ s:=hq
    rw [he] at hq' ⊢
    refine Calls.evalArgs_plain (wpAny_mono hq' (fun us s2 ⟨vs,H2,I2,r,lv,hE⟩=>⟨rfl,?_,I2.bk _ _ hC,hN.keeps I2.bk,T.keeps I2.bk,fun h' a mk=>?_⟩) fun _ _ y=>y)
    · show us.length <= sizeLine
      rw [<- r.length]
      exact lv
    · obtain ⟨t,ea,tn,et⟩:=mk.there
      have ha:H2 a=none:=I2.hok.none_of mk.new
      have I3:Inv (cxOf (CX1 P w) P w K mg base N qual scope f cd A outer s₀ H₀ E) pins σ H2 { s2 with heap:=h' }:=I2.kept mk.keeps
      exact fly_out (hd:=none) I3 rfl rfl rfl ⟨_,_,ea,rfl,rfl,rfl,rfl⟩ (none_back I2.base mk.new) (fun T' z=>by cases z) ha (fun T' z=>by cases z) fun s'' F'=>⟨a,C,H2,rfl,F',hE⟩
end
end L2
namespace L2
open PySem PySem.Spec PyProof.Rows
noncomputable abbrev KN (o:Obj):HO:=.frz o (.ext fun _=>True)
theorem kn_ok {P:Program} {w:World} {H:Hp} {h:Heap} {a:Addr} {o:Obj} (e:h.get? a=some o):ObjOk P w H h a (KN o):=⟨e,trivial,⟨o,e⟩,fun _ _ _ _=>trivial⟩
theorem HOk.kn {P:Program} {w:World} {H:Hp} {h:Heap} {a:Addr} {o:Obj} (x:HOk P w H h) (e:H a=some (KN o)):h.get? a=some o:=(x a _ e).1
theorem HOk.know {P:Program} {w:World} {H:Hp} {h:Heap} {a:Addr} {o:Obj} (x:HOk P w H h) (n:H a=none) (e:h.get? a=some o):HOk P w (upd H a (KN o)) h:=fun b u q=>by
  by_cases hb:b=a
  · subst hb
    rw [upd_same] at q
    cases q
    exact kn_ok e
  · rw [upd_ne hb] at q
    exact (x b u q).stay (fun _ _ _ z=>z) (fun c z=>by rw [upd_ne (ne_of_none z n)];exact z) fun c xs z=>by rw [upd_ne (ne_of_none z n)];exact z
theorem Un.know {fs ex:List Addr} {H H':Hp} {h h':Heap} {a:Addr} {o:HO} (u:Un fs ex H H' h h') (n:H' a=none) (na:h.get? a=none):Un fs ex H (upd H' a o) h h' where
  keep:=u.keep
  slot:=u.slot
  free:=fun b ob q m hx=>by
    rw [upd_ne (fun z=>by rw [z,na] at q;cases q)]
    exact u.free b ob q m hx
  there:=u.there
  tups:=fun b xs q=>by
    rw [upd_ne (ne_of_none (u.tups b xs q) n)]
    exact u.tups b xs q
  frzs:=fun b ob xs q=>by
    rw [upd_ne (ne_of_none (u.frzs b ob xs q) n)]
    exact u.frzs b ob xs q
  tbls:=fun b ps q=>by
    obtain ⟨m,e⟩:=u.tbls b ps q
    exact ⟨m,by rw [upd_ne (ne_of_none e n)];exact e⟩
section
variable {P:Program} {w:World} {fs:List Addr} {H H':Hp} {s s':Shared} {a C:Addr} {M:Model} {A:Around} {E:Value->Shared->Prop} {Q:Unit->Shared->Prop}
theorem Fly.noteW {bs:Heap} {ev:Env} {out:List Env} {L:Addr} (F:Fly P w (frs (ev :: out)) H s a C H' s') (fr:A.frames=some (ev :: out)) (ff:s'.heap.FunFrames bs (ev :: out)) (fl:ev.frame=some L) (hfs:∀ b ∈ frs (ev :: out),H' b=none)
    (q:∀ s'',Fly P w (frs (ev :: out)) H s a C H' s''->Q () s''):wpAny M A (noteFrame (.ref a) ev) (fun _ s2=>wpAny M A (setFlight (.ref a) none) Q E s2) E s':=by
  obtain ⟨T0,x,n1,n2,n3,n4⟩:=F.exc
  refine note_x fr ff fl x fun h' T k0 k00 k1 k2=>q _ ?_
  have neA:∀ b o,s.heap.get? b=some o->b ≠ a/\some T0 ≠ some b:=fun b o e=>by
    refine ⟨fun z=>?_,fun z=>?_⟩
    · rw [z,n1] at e;cases e
    · have z':=Option.some.inj z
      rw [<- z',n2] at e;cases e
  refine ⟨F.os,F.bare,⟨fun b o e n hb hx=>?_,fun b o e n hb hx=>?_,F.un.free,fun b o e hx=>?_,F.un.tups,F.un.frzs,F.un.tbls⟩,un_x (hd:=some T0) n3 (fun T' z=>by cases z;exact n4) hfs k1 F.hok,T,k0,n1,?_,n3,F.hok.fresh k00⟩
  · obtain ⟨m1,m2⟩:=neA b o e
    exact k1 b o m1 m2 hb (F.un.keep b o e n hb hx)
  · obtain ⟨m1,m2⟩:=neA b o e
    obtain ⟨sl,e1⟩:=F.un.slot b o e n hb hx
    obtain ⟨sl',e2⟩:=k2 b _ m1 m2 e1
    exact ⟨sl',e2⟩
  · obtain ⟨m1,m2⟩:=neA b o e
    obtain ⟨o',e1⟩:=F.un.there b o e hx
    obtain ⟨sl',e2⟩:=k2 b _ m1 m2 e1
    exact ⟨_,e2⟩
  · exact none_back F.un (Heap.get?_none_of_le k00)
theorem Fly.landW (F:Fly P w fs H s a C H' s') (hfs:∀ b ∈ fs,H' b=none) (q:∀ s'',Fly P w fs H s a C H' s''->Q () s''):wpAny M A (setFlight (.ref a) none) Q E s':=by
  obtain ⟨T,⟨oe,vs,oT,ts,e1,e2,e3,e4,e5,ne,t1,t2,t3⟩,n1,n2,n3,n4⟩:=F.exc
  refine wpAny_setFlight_none e1 e4 e5 t1 t2 (Array.getElem?_eq_some_iff.mp t3).1 (q _ ?_)
  have ot:∀ b,b ≠ T->(s'.heap.update T (Obj.mapFields (·.setIfInBounds 3 Value.none))).get? b=s'.heap.get? b:=fun b hb=>Heap.get?_update_other _ _ (Ne.symm hb)
  have nT:∀ b o,s.heap.get? b=some o->b ≠ T:=fun b o e z=>by rw [z,n2] at e;cases e
  refine ⟨F.os,F.bare,⟨fun b o e n hb hx=>(ot b (nT b o e)).trans (F.un.keep b o e n hb hx),fun b o e n hb hx=>?_,F.un.free,fun b o e hx=>?_,F.un.tups,F.un.frzs,F.un.tbls⟩,?_,T,?_,n1,n2,n3,n4⟩
  · obtain ⟨sl,z⟩:=F.un.slot b o e n hb hx
    exact ⟨sl,(ot b (nT b o e)).trans z⟩
  · obtain ⟨o',z⟩:=F.un.there b o e hx
    exact ⟨o',(ot b (nT b o e)).trans z⟩
  · exact un_x (fs:=fs) (hd:=some T) n3 (fun T' z=>by cases z;exact n4) hfs (fun b o _ hb _ e=>(ot b fun z=>hb (by rw [z])).trans e) F.hok
  · exact ⟨oe,vs,_,_,(ot a (Ne.symm ne)).trans e1,e2,e3,e4,e5,ne,Heap.get?_update_self _ t1 (Obj.isFreed_of_fields (Obj.data_mapFields t2 _)),Obj.data_mapFields t2 _,by
      rw [Array.getElem?_setIfInBounds_self_of_lt (Array.getElem?_eq_some_iff.mp t3).1]⟩
end
theorem exc_match {K:PySem.W.Frag} {M:Model} {A:Around} {E:Value->Shared->Prop} {s:Shared} {a C D:Addr} {oe:Obj} {Q:Bool->Shared->Prop} (X:K.In s.heap) (he:s.heap.get? a=some oe) (hc:oe.cls=.ref C)
    (h1:PySem.W.kitCls K (.ref C) (.ref D)=some true) (h2:PySem.W.subIn K (.ref D) (.type "BaseException")=some true) (q:Q true s):wpAny M A (excMatches (.ref a) (.ref D)) Q E s:=by
  obtain ⟨l1,l2,l3⟩:=PySem.W.kit_cls (M:=M) X h1
  have l4:=PySem.W.looks_subIn (M:=M) X h2
  have l5:PySem.W.Looks M s.heap (typeOf (.ref a)) (.ref C):=hc ▸ (PySem.W.Looks.ld he).andThen .now
  have l6:PySem.W.Looks M s.heap (isInstance (.ref D) (.type "tuple")) false:=l1.andThen (PySem.W.Looks.of_pure tc_notTuple)
  have l7:PySem.W.Looks M s.heap (isExcClass (.ref D)) true:=l2.andThen (by simpa using l4)
  unfold excMatches
  refine wpAny_bind (l6.here ?_)
  simp only [Bool.false_eq_true,if_false]
  refine wpAny_bind (wpAny_pure ?_)
  simp only [List.forIn_cons,List.forIn_nil]
  refine wpAny_bind (wpAny_bind (wpAny_bind (l7.here ?_)))
  simp only [Bool.not_true,Bool.false_eq_true,if_false]
  refine wpAny_pure (wpAny_pure (wpAny_bind (l5.here (wpAny_bind (wpAny_bind (wpAny_bind (l3.here ?_)))))))
  simp only [if_true]
  exact wpAny_pure (wpAny_pure (wpAny_pure q))
end L2
namespace L2
open PySem PySem.Spec PyProof.Rows
noncomputable abbrev Cx.marked (X:Cx) (v:Value):Cx:={ X with A:=X.A.mark (some v),calm:=false,xe:=fun _ _=>False }
theorem Inv.marked {X:Cx} {pins:List (Addr × Obj)} {σ:St} {H:Hp} {s:Shared} (I:Inv X pins σ H s) (v:Value):Inv (X.marked v) pins σ H s :=
  ⟨⟨I.ok.mod,I.ok.kind,I.ok.glob,I.ok.blt,I.ok.above,I.ok.inj,I.ok.has,I.ok.cab,(fun z=>absurd z (by simp)),I.ok.frames,I.ok.stk,I.ok.exf,I.ok.bs,I.ok.bsz,I.ok.noex,I.ok.exfs,I.ok.funs,I.ok.frf⟩,
    I.os,I.bare,I.base,I.loc,I.cell,I.free,I.freeC,I.pin,I.hok,I.len⟩
theorem Inv.unmarked {X:Cx} {pins:List (Addr × Obj)} {σ:St} {H:Hp} {s:Shared} {v:Value} (ok:X.Ok) (I:Inv (X.marked v) pins σ H s):Inv X pins σ H s :=
  ⟨ok,I.os,I.bare,I.base,I.loc,I.cell,I.free,I.freeC,I.pin,I.hok,I.len⟩
theorem unbind_ok {X:Cx} {pins:List (Addr × Obj)} {σ:St} {H:Hp} {s:Shared} {i:Nat} {n:Str} {pos:Pos} {M:Model} {A:Around} {E:Value->Shared->Prop} {Q:Unit->Shared->Prop} (I:Inv X pins σ H s) (hN:X.N.Nodup) (hi:X.N[i]?=some n) (hl:X.env.scope.names.lookup n=some .local)
    (q:∀ s',Inv X pins (σ.set i none) H s'->Q () s'):wpAny M A (do bindName X.env n .none;unbindBehindTheSuite X.env n pos) Q E s:=by
  refine wpAny_bind (wpAny_bindName (store_ok I hN hi (.inl hl) (v:=.non) rfl (fun s1 I1=>?_) (.inr hl)))
  unfold unbindBehindTheSuite
  refine wpAny_onRaise ?_
  obtain ⟨m,hn,hlk⟩:=id I1.loc
  have hcls:(X.env.scope.kind == .class || (X.env.scope.kind == .module && X.env.locals != X.env.globals))=false:=by rw [I.ok.kind];rfl
  have hiσ:i < σ.length:=by rw [I.len];exact (List.getElem?_eq_some_iff.mp hi).1
  obtain ⟨u0,_,lk0⟩:=hlk i n .non hi (List.getElem?_set_self hiσ) (.inl hl)
  have hv:m n=some u0:=by
    rcases lk0 with ⟨_,z⟩ | ⟨z,_⟩
    · exact z
    · have z':X.env.scope.names.lookup n=some .cell ∨ X.env.scope.names.lookup n=some .free:=z
      rw [hl] at z'
      rcases z' with z' | z' <;> cases z'
  have cne:=I1.cne
  obtain ⟨oL,_,_,hoL,_⟩:=id hn
  refine wpAny_unbindName_local (show X.env.kindOf n=some .local from hl) hn hv hcls fun h' u hn' hs=>q _ ?_
  have neL:∀ b o,X.s₀.heap.get? b=some o->b ≠ X.env.locals:=fun b o e=>Nat.ne_of_lt (Nat.lt_of_lt_of_le (Heap.lt_size e) I.ok.above)
  refine ⟨I.ok,I1.os,I1.bare,⟨fun b o e n hb hx=>(hs.2 b (neL b o e)).trans (I1.base.keep b o e n hb hx),fun b o e n hb hx=>?_,I1.base.free,fun b o e hx=>?_,I1.base.tups,I1.base.frzs,I1.base.tbls⟩,⟨_,hn',fun j y v' e1 e2 e3=>?_⟩,fun y c e=>?_,I1.free,I1.freeC,fun p hp=>?_,fun b ob e=>?_,by simpa using I.len⟩
  · obtain ⟨sl,z⟩:=I1.base.slot b o e n hb hx
    exact ⟨sl,(hs.2 b (neL b o e)).trans z⟩
  · obtain ⟨o',z⟩:=I1.base.there b o e hx
    exact ⟨o',(hs.2 b (neL b o e)).trans z⟩
  · by_cases hj:j=i
    · subst hj
      rw [List.getElem?_set_self hiσ] at e2
      cases e2
    · rw [List.getElem?_set_ne (Ne.symm hj)] at e2
      have e2':(σ.set i (some V.non))[j]?=some (some v'):=by rw [List.getElem?_set_ne (Ne.symm hj)];exact e2
      obtain ⟨u',r',z⟩:=hlk j y v' e1 e2' e3
      refine ⟨u',r',?_⟩
      rcases z with ⟨k,e⟩ | ⟨k,c,e,z⟩
      · refine .inl ⟨k,?_⟩
        have ny:y ≠ n:=fun e=>hj (nodup_ix hN e1 (e ▸ hi))
        simp [ny,e]
      · exact .inr ⟨k,c,e,z.sameBut hs (cne y c e)⟩
  · obtain ⟨w',z⟩:=I1.cell y c e
    exact ⟨w',z.sameBut hs (cne y c e)⟩
  · obtain ⟨e,n,ne,nf,d⟩:=I1.pin p hp
    exact ⟨(hs.2 p.1 ne).trans e,n,ne,nf,d⟩
  · refine (I1.hok b ob e).stay (fun c w' hc z=>(hs.2 c ?_).trans z) (fun _ z=>z) fun _ _ z=>z
    rintro rfl
    have fr:=I1.free
    rcases hc with rfl | hc
    · rw [fr] at e;cases e
    · rw [fr] at hc;cases hc
noncomputable def Callee (X:Cx) (k:Nat) (fa:Addr) (sp:Sp) (H:Hp):Prop :=
  ∃ fo fd,H fa=some (KN fo)/\fo.data=.func fd/\bindArgs fd ⟨[],[]⟩=pure []/\FnOk X.prog X.w X.K X.mg X.base (CX1 X.prog X.w) k fa fd [] sp
noncomputable def ExcObj (oe:Obj) (C:Addr):Prop:=oe.cls=.ref C/\oe.dict=none/\∃ vs,oe.data=.fields vs
noncomputable def tTry (X:Cx) (k iC iE iR:Nat) (B:Addr):TS:=fun D σ H=>∃ fa sp,σ[iC]?=some (some (.ref fa))/\Callee X k fa sp H /\
  sp [] H (fun _ H1=>D.nx σ H1) (fun c _ H1=>∃ C,c=.ref C/\PySem.W.kitCls X.K (.ref C) (.ref B)=some true/\∀ a oe,ExcObj oe C->H1 a=none->D.nx ((σ.set iR (some (.ref a))).set iE none) (upd H1 a (KN oe)))
theorem ps_tryX {X:Cx} {k iC iE iR:Nat} {xc xT n xr:Str} {B:Addr} {p1 p2 p3 p4 p5 p6 p7 p8 p9:Pos} (hs:X.stack=X.env :: X.outer) (hfl:X.env.frame=some X.env.locals) (hr:Room k X.A) (hN:X.N.Nodup)
    (hC:X.N[iC]?=some xc) (hCv:Vis X.env.scope xc) (hE:X.N[iE]?=some n) (hEl:X.env.scope.names.lookup n=some .local) (hR:X.N[iR]?=some xr) (hRl:X.env.scope.names.lookup xr=some .local) (hne:iE ≠ iR)
    (hg:Gl X xT) (hm:X.mg xT=some (.ref B)) (hB:PySem.W.subIn X.K (.ref B) (.type "BaseException")=some true)
    (d1:(xc == ("__debug__":Str))=false:=by decide) (d2:(xc == ("__classdict__":Str))=false:=by decide) (d3:(xT == ("__debug__":Str))=false:=by decide) (d4:(n == ("__debug__":Str))=false:=by decide) (d5:(n == ("__classdict__":Str))=false:=by decide)
    (w1:swapsWith (.Call (.Name xc p1) [] [] p2) none p3.line X.env=pure false:=by rfl) (w2:swapsWith (.Name n p6) (some (.Name xr p5)) p7.line X.env=pure false:=by rfl)
    (w3:swappedStores [.Name xr p5] (.Name n p6) X.env=pure none:=by rfl) :
    PS X (.Try [.Expr (.Call (.Name xc p1) [] [] p2) p3] [.ExceptHandler (some (.Name xT p4)) (some n) [.Assign [.Name xr p5] (.Name n p6) p7] p8] [] [] p9) (tTry X k iC iE iR B):=by
  intro pins s σ H D I h
  obtain ⟨fa,sp,e0,⟨fo,fd,kn,hfd,bnd,F⟩,hsp⟩:=h
  refine wpAny_Try_except (wpAny_execs_cons (wpAny_Expr_any (wpAny_Call_Name_kw ?_) I.quiet w1))
  have hv:=pe_var (X:=X.nox) (i:=iC) (x:=xc) (pos:=p1) hC hCv d1 d2 pins s σ H (fun v H1=>v=.ref fa/\H1=H) (I.wish _) ⟨_,e0,rfl,rfl⟩
  refine wpAny_mono hv (fun u s1 ⟨v,H1,I1,r,ev,eH⟩=>?_) fun _ _ z=>False.elim z
  subst ev
  subst eH
  obtain rfl:u=Value.ref fa:=r
  have I2:Inv X pins σ H1 s1:=I1.unwish
  have hfa:PySem.W.FnAt fa s1.heap:=by
    have z:=I2.hok.kn kn
    obtain ⟨c,d,dt,sl⟩:=fo
    dsimp only at hfd
    subst hfd
    exact ⟨c,d,fd,sl,z⟩
  refine PySem.W.callWith_F0 hfa (wpAny_call (codeAny_mono (F.run X.A X.stack s1 H1 ⟨[],[]⟩ [] [] _ _ hr I2.env0 (.of_eq bnd) .nil hsp) fun res s' hq=>?_))
  cases res with
  | ok fl =>
    cases fl with
    | ret u =>
      obtain ⟨v,H',I3,rv,q3⟩:=I2.after hq
      exact wpAny_execs_nil (wpAny_execs_nil ⟨σ,H',I3,q3⟩)
    | next=>exact False.elim hq
    | brk=>exact False.elim hq
    | cont=>exact False.elim hq
  | error e =>
    obtain ⟨a,C,H',rfl,F1,C',ec,hk,hnx⟩:=hq
    cases ec
    have hfr:frs X.stack=frs (X.env :: X.outer):=by rw [hs]
    have I3:Inv X pins σ H' s':=I2.call' (ch:=[]) F1.os F1.un F1.hok F1.bare (fun b z=>absurd z (by simp))
    have F1':Fly X.prog X.w (frs (X.env :: X.outer)) H1 s1 a C H' s':=by rw [<- hfr];exact F1
    have fr0:∀ b ∈ frs (X.env :: X.outer),H' b=none:=fun b hb=>I3.stkFree b (by rw [hfr];exact hb)
    refine F1'.noteW (bs:=X.base) (by rw [I.ok.frames,hs]) (by rw [<- hs];exact I3.stack) hfl fr0 fun s3 F3=>?_
    have inv:∀ s4,Fly X.prog X.w (frs (X.env :: X.outer)) H1 s1 a C H' s4->Inv X pins σ H' s4:=fun s4 F4=>I2.call' (ch:=[]) F4.os (by rw [hfr];exact F4.un) F4.hok F4.bare (fun b z=>absurd z (by simp))
    refine wpAny_handleBy_cons (codeAny_handlers_test (ld_glob (X:=X.marked (.ref a)) ((inv s3 F3).marked _) hg hm ?_ d3)) (by intro q;cases q)
    obtain ⟨T3,x3,n1,n2,n3,n4⟩:=F3.exc
    obtain ⟨oe3,vs3,e31,e32,e33,e34⟩:=x3.at
    refine exc_match (inv s3 F3).kIn e31 e32 hk hB ?_
    show codeAny _ _ _ _ s3
    refine codeAny_handlers_suite_as (F3.landW fr0 fun s4 F4=>?_)
    obtain ⟨T4,x4,m1,m2,m3,m4⟩:=F4.exc
    obtain ⟨oe,vs,e41,e42,e43,e44⟩:=x4.at
    have I4:Inv X pins σ (upd H' a (KN oe)) s4:=I2.call' (ch:=[]) F4.os (by rw [hfr];exact F4.un.know m3 m1) (F4.hok.know m3 e41) F4.bare (fun b z=>absurd z (by simp))
    refine store_ok (X:=X.marked (.ref a)) (I4.marked _) hN hE (.inl hEl) (v:=.ref a) rfl (fun s5 I5=>?_) (.inr hEl)
    have hst:PSs (X.marked (.ref a)) [.Assign [.Name xr p5] (.Name n p6) p7] (tAsg (tVar iE) (gName iR)):=pss_one (ps_set hN hR (.inl hRl) (pe_var hE (.inl hEl) d4 d5) w2 (.inr hRl))
    have hlen:iE < σ.length:=by rw [I.len];exact (List.getElem?_eq_some_iff.mp hE).1
    refine wpAny_mono (hst pins s5 _ _ { nx:=fun σ' H2=>σ'=(σ.set iE (some (.ref a))).set iR (some (.ref a))/\H2=upd H' a (KN oe),rt:=fun _ _=>False } I5 ⟨.ref a,List.getElem?_set_self hlen,rfl,rfl⟩) (fun f s6 q=>?_) fun _ _ z=>False.elim z
    cases f with
    | ret v=>obtain ⟨_,_,_,_,_,z⟩:=q;exact False.elim z
    | brk=>obtain ⟨_,_,_,z⟩:=q;exact False.elim z
    | cont=>obtain ⟨_,_,_,z⟩:=q;exact False.elim z
    | next =>
      obtain ⟨σ6,H6,I6,eσ,eH⟩:=q
      subst eσ
      subst eH
      refine unbind_ok (I6.unmarked I.ok) hN hE hEl fun s7 I7=>⟨_,_,I7,?_⟩
      have z:=hnx a oe ⟨e42,e43,vs,e44⟩ m3
      have hσ:((σ.set iE (some (V.ref a))).set iR (some (V.ref a))).set iE none=(σ.set iR (some (V.ref a))).set iE none:=by
        apply List.ext_getElem?
        intro j
        simp only [List.getElem?_set,List.length_set]
        by_cases z1:iE=j <;> by_cases z2:iR=j <;> simp [z1,z2]
      rw [hσ]
      exact z
end L2
namespace L2
open PySem PySem.Spec PyProof.Rows
structure XI (K:PySem.W.Frag) (C:Addr):Prop where
  ga:PySem.W.findIn K (.ref C) "__getattribute__"=some (some (.builtin "BaseException.__getattribute__"))
  gt:PySem.W.findIn K (.ref C) "__getattr__"=some none
  sb:PySem.W.subIn K (.ref C) (.type "BaseException")=some true
  hc:(PySem.W.clsIn K C).isSome=true
  ha:PySem.W.findIn K (.ref C) "__class__"=some (some (.builtin "object.__class__"))
  hn:PySem.W.specialIn K (.builtin "object.__class__") "__get__"=some (some (.builtin "getset_descriptor.__get__"))
  tk:PySem.W.takesIn K (.builtin "object.__class__")=some true
  hm:PySem.W.mroIn K C (.type "object")=some true
theorem findObj_none {K:PySem.W.Frag} {C:Addr} {name:Str} {a g:Value} (hc:(PySem.W.clsIn K C).isSome=true) (ha:PySem.W.findIn K (.ref C) name=some (some a)) (hg:PySem.W.specialIn K a "__get__"=some (some g)) (ht:PySem.W.takesIn K a=some true) :
    PySem.W.findObj K C none name=some (.bind g a):=by
  obtain ⟨cd,hc⟩:=Option.isSome_iff_exists.mp hc
  unfold PySem.W.findObj
  rw [hc,Option.bind_some,ha,Option.bind_some]
  simp [hg,ht]
theorem kin_openX {prog:Program} {w:World} {A:Around} {E:Value->Shared->Prop} {s:Shared} {K:PySem.W.Frag} {a C:Addr} {oe:Obj} {g d:Value} {name:Str} (X:K.In s.heap) (I:PySem.W.InstAt s.heap a oe C none)
    (hga:PySem.W.findIn K (.ref C) "__getattribute__"=some (some (.builtin "BaseException.__getattribute__"))) (hgt:PySem.W.findIn K (.ref C) "__getattr__"=some none) (hs:PySem.W.subIn K (.ref C) (.type "BaseException")=some true)
    (hf:PySem.W.findObj K C none name=some (.bind g d)) {Q:Option Value->Shared->Prop}
    (h:wpAny (model prog w) A.in1 (call g [d,.ref a,.ref C]) (fun v s'=>wpAny (model prog w) A (handedOut v) (fun v s''=>Q (some v) s'') (fun _ _=>False) s') (fun _ _=>False) { s with toks:=s.toks + 1 }) :
    wpAny (model prog w) A (getAttr? (.ref a) name) Q E s:=by
  obtain ⟨hh,gg,dr,t,os⟩:=s
  have L0:=I.type (M:=model prog w)
  have L1:=PySem.W.looks_findIn (M:=model prog w) X hga
  have L2:=PySem.W.looks_findIn (M:=model prog w) X hgt
  have L3:=PySem.W.looks_find (M:=model prog w) X I hf
  have L4:PySem.W.Looks (model prog w) hh (isInstance (.ref a) (.type "BaseException")) true:=L0.andThen (PySem.W.looks_subIn X hs)
  have f3:=PySem.F.excAttr_ValueError.ga.bind (.ref a)
  unfold getAttr? getAttrBy? getAttrBy
  refine wpAny_bind (wpAny_mkText (wpAny_bind (wpAny_attempt (wpAny_holding (wpAny_bind (L0.at (wpAny_bind (L1.at ?_))))))))
  have hx2:(Value.builtin "BaseException.__getattribute__" == Value.builtin "object.__getattribute__")=false:=by decide +kernel
  have hx3:(onTheHeap (Value.ref C) && Value.builtin "BaseException.__getattribute__" == Value.builtin "object.__getattribute__")=false:=by rw [hx2];rfl
  show wpAny _ _ (if (onTheHeap (Value.ref C) && Value.builtin "BaseException.__getattribute__" == Value.builtin "object.__getattribute__")=true then _ else getAttrByItsOwn _ _ _ _ _ _) _ _ _
  rw [hx3,if_neg (by decide)]
  unfold getAttrByItsOwn hookBefore
  simp only [onTheHeap,if_true]
  refine wpAny_bind (L2.at (wpAny_bind (wpAny_attempt (wpAny_holding ?_))))
  unfold callGetattribute
  rw [if_neg (by decide)]
  unfold boundAndCalled
  refine wpAny_bind (wpAny_of_eq f3 (wpAny_call ?_))
  refine codeAny_call_builtin PySem.F.excAttr_ValueError.ga.plain PySem.F.entry_bexc_ga ?_
  have hk:builtinKind "BaseException.__getattribute__"=some .slot:=by decide +kernel
  have hsplit:splitId "BaseException.__getattribute__"=some ("BaseException","__getattribute__"):=by decide +kernel
  have ha:=PySem.F.args_bexc_ga (.ref a) (.str name t)
  simp only [checkBuiltinCall,hk,hsplit]
  refine wpAny_bind (L4.at ?_)
  repeat (first | wp_step)
  refine wpAny_loadPart I.at_ (wpAny_pure ?_)
  rw [I.cls]
  refine wpAny_bind (L3.at ?_)
  show wpAny _ _ (Builtin.ObjectAttr.bindTo g d (.ref a) (.ref C)) _ _ _
  unfold Builtin.ObjectAttr.bindTo
  dsimp only
  exact wpAny_bind (wpAny_holding (wpAny_mono h (fun v s' z=>wpAny_pure (wpAny_mono z (fun v s'' q=>wpAny_pure q) (fun _ _ z=>z.elim))) (fun _ _ z=>z.elim)))
theorem ExcObj.inst {h:Heap} {a C:Addr} {oe:Obj} (x:ExcObj oe C) (e:h.get? a=some oe):PySem.W.InstAt h a oe C none:=by
  obtain ⟨c,d,vs,hv⟩:=x
  refine ⟨e,c,?_,?_⟩
  · obtain ⟨c0,d0,dt,sl⟩:=oe
    dsimp only at hv
    subst hv
    rfl
  · rw [d]
    trivial
theorem kitx_exc {K:PySem.W.Frag} {a C:Addr} {oe:Obj} (Z:XI K C) (x:ExcObj oe C):PySem.W.KitX K (.ref a) (.ref C) (fun h=>h.get? a=some oe) where
  ty:=fun _ _ _ e=>(x.inst e).type
  it:=fun _ _ X _=>by
    obtain ⟨cd,hcD⟩:=Option.isSome_iff_exists.mp Z.hc
    unfold PySem.W.clsIn at hcD
    split at hcD
    case h_2=>cases hcD
    case h_1 c' d' cd' sl' ho =>
      intro A' Q' E' s' k q
      unfold isType loadHead
      exact wpAny_bind (wpAny_loadPart (k _ _ (X _ _ ho)) (wpAny_pure q))
  ne:=fun h tp dd its n sl X htp=>by
    obtain ⟨cd,hcD⟩:=Option.isSome_iff_exists.mp Z.hc
    refine Bool.eq_false_iff.mpr fun q=>?_
    have e:C=tp:=Value.ref.inj (beq_iff_eq.mp q)
    subst e
    unfold PySem.W.clsIn at hcD
    split at hcD
    case h_2=>cases hcD
    case h_1 c' d' cd' sl' ho =>
      have z:=(X _ _ ho).symm.trans htp
      cases z
  ca:=fun {_ _ _ _ _ s} X e k=>by
    have hf:=findObj_none Z.hc Z.ha Z.hn Z.tk
    have I:=x.inst e
    exact kin_openX X I Z.ga Z.gt Z.sb hf (wpAny_call (PySem.W.class_get (s:={ s with toks:=s.toks + 1 }) (ox:=oe) (od:=none) X I Z.hm (PySem.W.handed_on rfl k)))
noncomputable def clV:V->Option Value
  | .ref D=>some (.ref D)
  | .ty T=>some (.type T)
  | _=>none
noncomputable def rIsX (K:PySem.W.Frag):List V->Hp->VK->Prop:=fun xs H Q=>∃ a oe C c cv b,xs=[.ref a,c]/\H a=some (KN oe)/\ExcObj oe C/\XI K C/\clV c=some cv/\PySem.W.kitOne K (.ref C) cv=some b/\Q (.bl b) H
theorem call_isx {X:Cx}:CallR X (.builtin "isinstance") (rIsX X.K):=by
  intro pins s σ H xs us Q I r h
  obtain ⟨a,oe,C,c,cv,b,rfl,ha,x,Z,hcv,hk,q⟩:=h
  cases r with
  | cons r1 rr =>
    cases rr with
    | cons r2 rr =>
      cases rr
      cases r1
      have ec:∀ u,RelV c u->u=cv:=fun u ru=>by
        cases c with
        | ref D=>cases hcv;exact ru
        | ty T=>cases hcv;exact ru
        | _=>cases hcv
      have eu:=ec _ r2
      subst eu
      exact PySem.W.kia_one (kitx_exc Z x) I.kIn (I.hok.kn ha) hk (by intro z;cases z) fun tk=>⟨.bl b,H,I.tok tk,rfl,q⟩
theorem vals_bl:∀ {bs:List Bool} {us:List Value},Vals (bs.map V.bl) us->us=bs.map Value.bool
  | [],_,.nil=>rfl
  | _ :: _,_,.cons r t=>by rw [vals_bl t];cases r;rfl
noncomputable def rIdxB:V->List V->Hp->VK->Prop:=fun x vs H Q=>∃ (l:Addr) (bs:List Bool) (j:Nat),x=.ref l/\vs=[.bl true]/\H l=some (.lst (bs.map V.bl))/\bs[j]?=some true/\(∀ m,m < j->bs[m]?=some false)/\Q (.int j) H
theorem mt_indexB {X:Cx}:MtR X "list.index" rIdxB:=by
  intro pins s σ H x vs v us Q I rx rv h
  obtain ⟨l,bs,j,rfl,rfl,hH,hj,hno,q⟩:=h
  cases rx
  obtain ⟨u,rfl,ru⟩:=rv.one
  cases ru
  obtain ⟨z,its,n,r,hl,e⟩:=I.lstM hH
  have ei:=vals_bl r
  subst ei
  obtain ⟨j1,j2⟩:=List.getElem?_eq_some_iff.mp hj
  have z':bs.length <= sizeLine:=by simpa using z
  have hsz:sizeLine < 2 ^ 63 - 1:=by decide
  refine call_meets F.slot_list_index ⟨_,e,rfl⟩ F.entry_list_index (F.args_list_index_2 _ _)
    (SeqAt.list_indexAt l (bs.map Value.bool).toArray n none #[] (.bool true) (fun y=>y == Value.bool true) j (by simpa using j1) (by lia) ?_ ?_) ⟨e,fun y hy=>?_,?_⟩
  · simp [j2]
  · intro m hm hlt
    have:=hno m hlt
    obtain ⟨m1,m2⟩:=List.getElem?_eq_some_iff.mp this
    simp [m2]
  · obtain ⟨b,hb,rfl⟩:∃ b,b ∈ bs/\Value.bool b=y:=by simpa using hy
    have eb:(Value.bool b == Value.bool true)=(b == true):=by cases b <;> rfl
    show SeqAt.EqAt _ _ _ _ (Value.bool b == Value.bool true)
    rw [eb]
    exact SeqAt.EqAt.bool_bool b true
  · exact ⟨.int j,H,I.tok _,⟨_,rfl⟩,q⟩
end L2
namespace L2
open PySem PySem.Spec PyProof.Rows
noncomputable def Cel (cl:List (Str × Addr)) (b:Addr):Prop:=∃ x,cl.lookup x=some b
open Classical in
noncomputable def offC (cl:List (Str × Addr)) (H:Hp):Hp:=fun b=>if Cel cl b then none else H b
open Classical in
noncomputable def onC (cl:List (Str × Addr)) (H H':Hp):Hp:=fun b=>if Cel cl b then H b else H' b
theorem offC_in {cl:List (Str × Addr)} {H:Hp} {b:Addr} (h:Cel cl b):offC cl H b=none:=by unfold offC;rw [if_pos h]
theorem offC_out {cl:List (Str × Addr)} {H:Hp} {b:Addr} (h:¬ Cel cl b):offC cl H b=H b:=by unfold offC;rw [if_neg h]
theorem onC_in {cl:List (Str × Addr)} {H H':Hp} {b:Addr} (h:Cel cl b):onC cl H H' b=H b:=by unfold onC;rw [if_pos h]
theorem onC_out {cl:List (Str × Addr)} {H H':Hp} {b:Addr} (h:¬ Cel cl b):onC cl H H' b=H' b:=by unfold onC;rw [if_neg h]
noncomputable def CelK (cl:List (Str × Addr)) (H:Hp):Prop:=∀ x c,cl.lookup x=some c->∃ oc v,H c=some (KN oc)/\oc.data=.cell v
section
variable {P:Program} {w:World} {fs:List Addr} {cl:List (Str × Addr)} {H H':Hp} {h h':Heap}
theorem offC_hok (ok:HOk P w H h) (ck:CelK cl H):HOk P w (offC cl H) h:=fun b o e=>by
  have nb:¬ Cel cl b:=fun z=>by rw [offC_in z] at e;cases e
  rw [offC_out nb] at e
  have nk:∀ c u,H c=some u->(∀ oc,u ≠ KN oc)->¬ Cel cl c:=fun c u q n ⟨x,z⟩=>by
    obtain ⟨oc,v,q',_⟩:=ck x c z
    rw [q] at q'
    exact n oc (Option.some.inj q')
  refine (ok b o e).stay (fun _ _ _ q=>q) (fun c q=>?_) fun c xs q=>?_
  · rw [offC_out (nk c _ q (by intro oc z;cases z))];exact q
  · rw [offC_out (nk c _ q (by intro oc z;cases z))];exact q
theorem un_on (u:Un fs [] (offC cl H) H' h h') (ok:HOk P w H h) (ck:CelK cl H) (hfs:∀ b ∈ fs,H b=none):Un fs [] H (onC cl H H') h h':=by
  have nc:∀ b,H b=none->¬ Cel cl b:=fun b n ⟨x,z⟩=>by
    obtain ⟨oc,v,q,_⟩:=ck x b z
    rw [n] at q;cases q
  have nk:∀ c u,H c=some u->(∀ oc,u ≠ KN oc)->¬ Cel cl c:=fun c u q n ⟨x,z⟩=>by
    obtain ⟨oc,v,q',_⟩:=ck x c z
    rw [q] at q'
    exact n oc (Option.some.inj q')
  refine ⟨fun b o e n hb hx=>u.keep b o e (by rw [offC_out (nc b n)];exact n) hb hx,fun b o e n hb hx=>u.slot b o e (by rw [offC_out (nc b n)];exact n) hb hx,fun b o e n hx=>?_,u.there,fun b xs q=>?_,fun b o xs q=>?_,fun b ps q=>?_⟩
  · rw [onC_out (nc b n)]
    exact u.free b o e (by rw [offC_out (nc b n)];exact n) hx
  · have z:=nk b _ q (by intro oc z;cases z)
    rw [onC_out z]
    exact u.tups b xs (by rw [offC_out z];exact q)
  · by_cases z:Cel cl b
    · rw [onC_in z];exact q
    · rw [onC_out z]
      exact u.frzs b o xs (by rw [offC_out z];exact q)
  · have z:=nk b _ q (by intro oc z;cases z)
    obtain ⟨m,e⟩:=u.tbls b ps (by rw [offC_out z];exact q)
    exact ⟨m,by rw [onC_out z];exact e⟩
theorem hok_on (u:Un fs [] (offC cl H) H' h h') (ok:HOk P w H h) (ok':HOk P w H' h') (ck:CelK cl H) (hfs:∀ b ∈ fs,H b=none):HOk P w (onC cl H H') h':=fun b o e=>by
  have hn:∀ c,Cel cl c->H' c=none/\∃ oc v,H c=some (KN oc)/\oc.data=.cell v/\h'.get? c=some oc:=fun c z=>by
    obtain ⟨x,zx⟩:=z
    obtain ⟨oc,v,q,d⟩:=ck x c zx
    have g:=ok.kn q
    exact ⟨u.free c oc g (offC_in ⟨x,zx⟩) (by simp),oc,v,q,d,u.keep c oc g (offC_in ⟨x,zx⟩) (fun hb=>by rw [hfs c hb] at q;cases q) (by simp)⟩
  by_cases z:Cel cl b
  · rw [onC_in z] at e
    obtain ⟨_,oc,v,q,d,g⟩:=hn b z
    rw [q] at e
    cases e
    exact kn_ok g
  · rw [onC_out z] at e
    refine (ok' b o e).stay (fun _ _ _ q=>q) (fun c q=>?_) fun c xs q=>?_
    · rw [onC_out (fun zc=>by rw [(hn c zc).1] at q;cases q)];exact q
    · rw [onC_out (fun zc=>by rw [(hn c zc).1] at q;cases q)];exact q
theorem un_off {Hf:Hp} (u:Un fs [] Hf H' h h') (ok:HOk P w Hf h) (ok':HOk P w H' h') (ck:CelK cl Hf) (hc:∀ b,Cel cl b->H b=none) (ho:∀ b,¬ Cel cl b->Hf b=H b):Un fs [] H (offC cl H') h h'/\HOk P w (offC cl H') h':=by
  have hk:∀ b,Cel cl b->∃ oc v,H' b=some (KN oc)/\oc.data=.cell v/\h.get? b=some oc/\h'.get? b=some oc:=fun b z=>by
    obtain ⟨x,zx⟩:=z
    obtain ⟨oc,v,q,d⟩:=ck x b zx
    have q':=u.frzs b _ _ q
    exact ⟨oc,v,q',d,ok.kn q,ok'.kn q'⟩
  have nk:∀ c u,H' c=some u->(∀ oc,u ≠ KN oc)->¬ Cel cl c:=fun c u q n z=>by
    obtain ⟨oc,v,q',_⟩:=hk c z
    rw [q] at q'
    exact n oc (Option.some.inj q')
  have nh:∀ c u,H c=some u->¬ Cel cl c:=fun c u q z=>by rw [hc c z] at q;cases q
  refine ⟨⟨fun b o e n hb hx=>?_,fun b o e n hb hx=>?_,fun b o e n hx=>?_,u.there,fun b xs q=>?_,fun b o xs q=>?_,fun b ps q=>?_⟩,fun b o e=>?_⟩
  · by_cases z:Cel cl b
    · obtain ⟨oc,v,_,_,g,g'⟩:=hk b z
      rw [e] at g;cases g
      exact g'
    · exact u.keep b o e (by rw [ho b z];exact n) hb hx
  · by_cases z:Cel cl b
    · obtain ⟨oc,v,_,_,g,g'⟩:=hk b z
      rw [e] at g;cases g
      exact ⟨o.slots,g'⟩
    · exact u.slot b o e (by rw [ho b z];exact n) hb hx
  · by_cases z:Cel cl b
    · exact offC_in z
    · rw [offC_out z]
      exact u.free b o e (by rw [ho b z];exact n) hx
  · have z:=nh b _ q
    rw [offC_out z]
    exact u.tups b xs (by rw [ho b z];exact q)
  · have z:=nh b _ q
    rw [offC_out z]
    exact u.frzs b o xs (by rw [ho b z];exact q)
  · have z:=nh b _ q
    obtain ⟨m,e⟩:=u.tbls b ps (by rw [ho b z];exact q)
    exact ⟨m,by rw [offC_out z];exact e⟩
  · have z:¬ Cel cl b:=fun z=>by rw [offC_in z] at e;cases e
    rw [offC_out z] at e
    refine (ok' b o e).stay (fun _ _ _ q=>q) (fun c q=>?_) fun c xs q=>?_
    · rw [offC_out (nk c _ q (by intro oc z;cases z))];exact q
    · rw [offC_out (nk c _ q (by intro oc z;cases z))];exact q
end
noncomputable def CTab (q:Str) (T:Addr) (H:Hp):Prop:=∃ ps,H T=some (.tbl ps)/\TriplesOk ps.toList /\
  ∀ pos v,codeAmong pos ps.toList=some v->∃ c oc vs t,v=.ref c/\H c=some (KN oc)/\oc.data=.fields vs/\vs[1]?=some (.str q t)
theorem triples_inv {l:List Value} (h:TriplesOk l):l=[] ∨ ∃ i t j u c r,l=.int i t :: .int j u :: c :: r/\TriplesOk r:=by
  unfold TriplesOk at h
  split at h
  · exact .inl rfl
  · exact .inr ⟨_,_,_,_,_,_,rfl,h⟩
  · exact h.elim
theorem triples_app {l:List Value} {i j:Int} {t u:Tok} {c:Value} (h:TriplesOk l):TriplesOk (l ++ [.int i t,.int j u,c]):=by
  generalize hn:l.length=n
  induction n using Nat.strongRecOn generalizing l with
  | _ n ih =>
    rcases triples_inv h with e | ⟨a,ta,b,tb,x,r,e,hr⟩
    · subst e;trivial
    · subst e
      have z:TriplesOk (r ++ [.int i t,.int j u,c]):=ih r.length (by rw [<- hn];simp only [List.length_cons];lia) hr rfl
      exact z
theorem among_app {pos:Pos} {l:List Value} {i j:Int} {t u:Tok} {c v:Value} (h:TriplesOk l) (e:codeAmong pos (l ++ [.int i t,.int j u,c])=some v):codeAmong pos l=some v ∨ v=c:=by
  generalize hn:l.length=n
  induction n using Nat.strongRecOn generalizing l with
  | _ n ih =>
    rcases triples_inv h with q | ⟨a,ta,b,tb,x,r,q,hr⟩
    · subst q
      have e':(if (i == (pos.line:Int) && j == (pos.col:Int))=true then some c else codeAmong pos [])=some v:=e
      by_cases z:(i == (pos.line:Int) && j == (pos.col:Int))=true
      · rw [if_pos z] at e';exact .inr (Option.some.inj e').symm
      · rw [if_neg z] at e';cases e'
    · subst q
      have e':(if (a == (pos.line:Int) && b == (pos.col:Int))=true then some x else codeAmong pos (r ++ [.int i t,.int j u,c]))=some v:=e
      show (if (a == (pos.line:Int) && b == (pos.col:Int))=true then some x else codeAmong pos r)=some v ∨ v=c
      by_cases z:(a == (pos.line:Int) && b == (pos.col:Int))=true
      · rw [if_pos z] at e'
        rw [if_pos z]
        exact .inl e'
      · rw [if_neg z] at e'
        rw [if_neg z]
        exact ih r.length (by rw [<- hn];simp only [List.length_cons];lia) hr e' rfl
structure LamX (X:Cx) (T:Addr):Prop where
  code:∃ c,X.env.code=.ref c/\PySem.W.CodeHd X.base c T
  blt:X.base.BuiltinsAt X.mg T
noncomputable abbrev lamQ (X:Cx):Str:=X.env.qual ++ "<lambda>"
noncomputable abbrev lamO (X:Cx) (params:Arguments) (body:Expr) (scope:Scope) (c:Addr) (ctv:Value):Obj:=PySem.W.kla_obj "<lambda>" (lamQ X) params body scope (closL X.env scope.names []) ((X.mg "__name__").getD .none) c ctv
noncomputable def CodeK (q:Str) (H:Hp) (c:Addr):Prop:=∃ oc vs t,H c=some (KN oc)/\oc.data=.fields vs/\vs[1]?=some (.str q t)
noncomputable def tLam (X:Cx) (T:Addr) (params:Arguments) (body:Expr) (scope:Scope):TE:=fun σ H Q=>CTab (lamQ X) T H /\
  ∀ f c ctv H',(∀ b o,b ≠ T->H b=some o->H' b=some o)->CTab (lamQ X) T H'->H f=none->H' f=some (KN (lamO X params body scope c ctv))->CodeK (lamQ X) H' c->Q (.ref f) H'
theorem pe_lambda {X:Cx} {T:Addr} {params:Arguments} {body:Expr} {scope:Scope} {pos:Pos} (Z:LamX X T) (hdef:defaultsOf params X.env=([],[]):=by rfl) (hf:okFree scope X.env=true:=by rfl) :
    PE X (.Lambda params body scope pos) (tLam X T params body scope):=by
  intro pins s σ H Q I h
  obtain ⟨⟨ps,hP,ht,hk⟩,q⟩:=h
  obtain ⟨c,hc,C⟩:=Z.code
  obtain ⟨bm,ob,b1,b2,b3,b4,b5,b6⟩:=Z.blt
  have hcl:=closureFor_eq (I.closed hf)
  have hg:=I.mod.glob.keeps I.bk
  have gP:s.heap.get? T=some (PySem.W.tabObj ps):=I.hok T _ hP
  have hgT:mainGlobals ≠ T:=fun z=>by
    obtain ⟨o,es,ep,e,hd,_⟩:=hg
    rw [z,gP] at e;cases e;cases hd
  have hB:s.heap.BuiltinsAt X.mg T:=⟨bm,ob,b1,b2,b3,b4,I.bk _ _ b5,b6⟩
  refine PySem.W.kla_eval hdef ?_
  cases e:codeAmong pos ps.toList with
  | none =>
    refine PySem.W.kla_makeFunction (mg:=X.mg) hcl I.ok.glob hg hc (C.keeps I.bk) gP ht e hgT hB fun c' ctv h' tk hx hge hlt hrec htb=>?_
    obtain ⟨c2,oc,vs,t,e2,hoc,hd,hv⟩:=hrec
    cases e2
    have nT:T < s.heap.objs.size:=Heap.lt_size gP
    have cT:c' ≠ T:=fun z=>absurd hge (by rw [z];exact Nat.not_le_of_lt nT)
    have fT:h'.objs.size ≠ T:=fun z=>absurd (Nat.lt_of_le_of_lt hge hlt) (by rw [z];exact Nat.lt_asymm nT)
    have fc:c' ≠ h'.objs.size:=Nat.ne_of_lt hlt
    have sz:s.heap.objs.size <= h'.objs.size:=Nat.le_trans hge (Nat.le_of_lt hlt)
    have nc:H c'=none:=I.hok.fresh hge
    have nf:H h'.objs.size=none:=I.hok.fresh sz
    generalize hfo:PySem.W.kla_obj "<lambda>" (X.env.qual ++ "<lambda>") params body scope (closL X.env scope.names []) ((X.mg "__name__").getD .none) c' ctv=fo
    generalize hps:ps ++ #[rawInt pos.line,rawInt pos.col,.ref c']=ps' at htb
    have hfree:fo.isFreed=false:=by rw [<- hfo];rfl
    have kp:∀ b o,b ≠ T->s.heap.get? b=some o->(h'.push fo).get? b=some o:=fun b o hb eb=>Heap.get?_push_of_some _ (hx b o hb eb)
    let H1:Hp:=upd (upd (upd H T (.tbl ps')) c' (KN oc)) h'.objs.size (KN fo)
    have hT1:H1 T=some (.tbl ps'):=by
      show upd (upd (upd H T (.tbl ps')) c' (KN oc)) h'.objs.size (KN fo) T=_
      rw [upd_ne (Ne.symm fT),upd_ne (Ne.symm cT),upd_same]
    have hc1:H1 c'=some (KN oc):=by
      show upd (upd (upd H T (.tbl ps')) c' (KN oc)) h'.objs.size (KN fo) c'=_
      rw [upd_ne fc,upd_same]
    have hf1:H1 h'.objs.size=some (KN fo):=upd_same
    have ho1:∀ b,b ≠ T->b ≠ c'->b ≠ h'.objs.size->H1 b=H b:=fun b z1 z2 z3=>by
      show upd (upd (upd H T (.tbl ps')) c' (KN oc)) h'.objs.size (KN fo) b=_
      rw [upd_ne z3,upd_ne z2,upd_ne z1]
    have hs1:∀ b o,b ≠ T->H b=some o->H1 b=some o:=fun b o z eb=>by
      rw [ho1 b z (ne_of_none eb nc) (ne_of_none eb nf)];exact eb
    have old:∀ b o,s.heap.get? b=some o->b ≠ c'/\b ≠ h'.objs.size:=fun b o eb=>⟨Nat.ne_of_lt (Nat.lt_of_lt_of_le (Heap.lt_size eb) hge),Nat.ne_of_lt (Nat.lt_of_lt_of_le (Heap.lt_size eb) sz)⟩
    have uT:∀ b,H b=none->b ≠ T:=fun b n z=>by rw [z,hP] at n;cases n
    have U:Un X.fs [] H H1 s.heap (h'.push fo):=by
      refine ⟨fun b o eb n _ _=>kp b o (uT b n) eb,fun b o eb n _ _=>⟨o.slots,kp b o (uT b n) eb⟩,fun b o eb n _=>?_,fun b o eb _=>?_,fun b xs eb=>?_,fun b o u eb=>?_,fun b qs eb=>?_⟩
      · rw [ho1 b (uT b n) (old b o eb).1 (old b o eb).2];exact n
      · by_cases z:b=T
        · subst z;exact ⟨_,Heap.get?_push_of_some _ htb⟩
        · exact ⟨o,kp b o z eb⟩
      · exact hs1 b _ (fun z=>by rw [z,hP] at eb;cases eb) eb
      · exact hs1 b _ (fun z=>by rw [z,hP] at eb;cases eb) eb
      · by_cases z:b=T
        · subst z
          rw [hP] at eb;cases eb
          exact ⟨_,by rw [hT1,<- hps]⟩
        · exact ⟨#[],by rw [hs1 b _ z eb];simp⟩
    have OK:HOk X.prog X.w H1 (h'.push fo):=fun b o eb=>by
      by_cases z1:b=T
      · subst z1
        rw [hT1] at eb;cases eb
        exact Heap.get?_push_of_some _ htb
      · by_cases z2:b=c'
        · subst z2
          rw [hc1] at eb;cases eb
          exact kn_ok (Heap.get?_push_of_some _ hoc)
        · by_cases z3:b=h'.objs.size
          · subst z3
            rw [hf1] at eb;cases eb
            exact kn_ok (Heap.get?_push_size _ hfree)
          · rw [ho1 b z1 z2 z3] at eb
            refine (I.hok b o eb).stay (fun d v hd qd=>kp d v ?_ qd) (fun d qd=>hs1 d _ (fun z=>by rw [z,hP] at qd;cases qd) qd) fun d xs qd=>hs1 d _ (fun z=>by rw [z,hP] at qd;cases qd) qd
            rcases hd with hd | hd
            · rw [hd];exact z1
            · intro z;rw [z,hP] at hd;cases hd
    have I1:=I.un (t':=tk) U OK
    have fin:=q h'.objs.size c' ctv H1 hs1 ⟨ps',hT1,?_,fun pos' v ev=>?_⟩ nf (by rw [hf1,<- hfo]) ⟨oc,vs,t,hc1,hd,hv⟩
    · exact ⟨.ref h'.objs.size,H1,I1,rfl,fin⟩
    · rw [<- hps]
      have z:=triples_app (i:=pos.line) (j:=pos.col) (t:=0) (u:=0) (c:=.ref c') ht
      simpa [rawInt] using z
    · rw [<- hps] at ev
      have ev':codeAmong pos' (ps.toList ++ [.int pos.line 0,.int pos.col 0,.ref c'])=some v:=by simpa [rawInt] using ev
      rcases among_app ht ev' with z | z
      · obtain ⟨c3,oc3,vs3,t3,y1,y2,y3,y4⟩:=hk pos' v z
        exact ⟨c3,oc3,vs3,t3,y1,hs1 c3 _ (fun z=>by rw [z,hP] at y2;cases y2) y2,y3,y4⟩
      · exact ⟨c',oc,vs,t,z,hc1,hd,hv⟩
  | some cv =>
    obtain ⟨c3,oc3,vs3,t3,y1,y2,y3,y4⟩:=hk pos cv e
    subst y1
    refine PySem.W.kla_makeFunctionHit (mg:=X.mg) hcl I.ok.glob hg hc (C.keeps I.bk) gP ht e hB fun ctv h' tk hkp sz=>?_
    have nf:H h'.objs.size=none:=I.hok.fresh sz
    have kp:∀ b o,s.heap.get? b=some o->(h'.push (lamO X params body scope c3 ctv)).get? b=some o:=fun b o eb=>Heap.get?_push_of_some _ (hkp b o eb)
    have I1:=I.laid (t':=tk) (o:=KN (lamO X params body scope c3 ctv)) kp sz (kn_ok (Heap.get?_push_size _ rfl))
    have hs1:∀ b o,H b=some o->upd H h'.objs.size (KN (lamO X params body scope c3 ctv)) b=some o:=fun b o eb=>by rw [upd_ne (ne_of_none eb nf)];exact eb
    refine ⟨.ref h'.objs.size,_,I1,rfl,q h'.objs.size c3 ctv _ (fun b o _ eb=>hs1 b o eb) ⟨ps,hs1 _ _ hP,ht,fun pos' v ev=>?_⟩ nf upd_same ⟨oc3,vs3,t3,hs1 _ _ y2,y3,y4⟩⟩
    obtain ⟨c4,oc4,vs4,t4,x1,x2,x3,x4⟩:=hk pos' v ev
    exact ⟨c4,oc4,vs4,t4,x1,hs1 _ _ x2,x3,x4⟩
end L2
namespace L2
open PySem PySem.Spec PyProof.Rows
noncomputable def cxLam (P:Program) (w:World) (K:PySem.W.Frag) (mg:Str->Option Value) (base:Heap) (N:List Str) (qual:Str) (scope:Scope) (f:Addr) (cd:Value) (cl:List (Str × Addr)) (A:Around) (outer:List Env) (s:Shared) (H:Hp) (E:XK):Cx where
  prog:=P
  w:=w
  K:=K
  mg:=mg
  base:=base
  A:=A.deeper (PySem.W.envX qual scope s.heap.objs.size f cd cl)
  N:=N
  s₀:=s
  H₀:=H
  env:=PySem.W.envX qual scope s.heap.objs.size f cd cl
  outer:=outer
  stack:=PySem.W.envX qual scope s.heap.objs.size f cd cl :: outer
  ex:=[]
  calm:=true
  fn:=fun _=>false
  pn:=[]
  xe:=fun e s'=>wpAny (model P w) (A.deeper (PySem.W.envX qual scope s.heap.objs.size f cd cl)) (leaving (PySem.W.envX qual scope s.heap.objs.size f cd cl) e) (fun _ s''=>CX1 P w outer H s E e s'') (fun e' s''=>CX1 P w outer H s E e' s'') s'
section
variable {P:Program} {w:World} {K:PySem.W.Frag} {mg:Str->Option Value} {base:Heap} {N:List Str} {qual:Str} {scope:Scope} {f:Addr} {cd:Value} {cl:List (Str × Addr)} {A:Around} {outer:List Env} {s₀:Shared} {H₀:Hp} {E:XK}
theorem passesL:Passes (CX1 P w) (cxLam P w K mg base N qual scope f cd cl A outer s₀ H₀ E) E:=by
  intro pins σ H s e s' I h
  obtain ⟨a,C,H',rfl,F,hE⟩:=h
  obtain ⟨T,x,n1,n2,n3,n4⟩:=F.exc
  have I':=I.call' (ch:=[]) F.os F.un F.hok F.bare (fun b z=>absurd z (by simp))
  exact fly_out I' rfl rfl rfl x (none_back I.base n1) (fun T' z=>by cases z;exact none_back I.base n2) n3 (fun T' z=>by cases z;exact n4) fun s'' F'=>⟨a,C,H',rfl,F',hE⟩
end
noncomputable def LamSt (cl:List (Str × Addr)) (scope:Scope) (N:List Str) (H:Hp) (σ:St):Prop:=σ.length=N.length /\
  ∀ (i:Nat) (x:Str) (v:V),N[i]?=some x->σ[i]?=some (some v)->scope.names.lookup x=some .free/\∃ c oc u,cl.lookup x=some c/\H c=some (KN oc)/\oc.data=.cell (some u)/\RelV v u
structure LamScope (cl:List (Str × Addr)) (scope:Scope):Prop where
  kind:scope.kind=.function
  co:scope.isCoroutine=false
  gen:scope.isGenerator=false
  nocell:∀ x ∈ scope.names,x.2 ≠ .cell
  inj:∀ x y c,cl.lookup x=some c->cl.lookup y=some c->x=y
  has:∀ x,scope.names.lookup x=some .free->∃ c,cl.lookup x=some c
theorem lookup_mem' {α:Type}:∀ {l:List (Str × α)} {x:Str} {c:α},l.lookup x=some c->∃ y,(y,c) ∈ l/\y=x
  | [],_,_,h=>by cases h
  | (y,d) :: r,x,c,h=>by
    by_cases z:(x == y)=true
    · rw [List.lookup_cons,z] at h
      cases h
      exact ⟨y,List.mem_cons_self,(beq_iff_eq.mp z).symm⟩
    · rw [List.lookup_cons,Bool.eq_false_iff.mpr z] at h
      obtain ⟨y',m,e⟩:=lookup_mem' h
      exact ⟨y',List.mem_cons_of_mem _ m,e⟩
theorem LamScope.nc {cl:List (Str × Addr)} {scope:Scope} (S:LamScope cl scope) {x:Str} (h:scope.names.lookup x=some .cell):False:=by
  obtain ⟨y,m,_⟩:=lookup_mem' h
  exact S.nocell _ m rfl
theorem fnL {P:Program} {w:World} {K:PySem.W.Frag} {mg:Str->Option Value} {base:Heap} {k:Nat} {f c:Addr} {name qual:Str} {params:Arguments} {body:Expr} {scope:Scope} {cl:List (Str × Addr)} {pm ct:Value} {N:List Str} {sp:Sp}
    (S:LamScope cl scope)
    (hsp:∀ vs H Q E,sp vs H Q E->vs=[]/\H f=some (KN (PySem.W.kla_obj name qual params body scope cl pm c ct))/\CodeK qual H c/\CelK cl H/\∃ σ,LamSt cl scope N H σ /\
      ∀ (A:Around) (outer:List Env) (s:Shared),Room k (A.deeper (PySem.W.envX qual scope s.heap.objs.size f (.ref c) cl))->∃ t,PE (cxLam P w K mg base N qual scope f (.ref c) cl A outer s (offC cl H) (fun C d H'=>E C d (onC cl H H'))) body t/\t σ (offC cl H) (fun v H'=>Q v (onC cl H H'))) :
    FnOk P w K mg base (CX1 P w) (k + 1) f (PySem.W.kla_fn name qual params body scope cl pm (.ref c) ct) [] sp:=by
  refine ⟨fun vs H Q E q=>by rw [(hsp vs H Q E q).1];rfl,fun A outer s H args us vs Q E hr e0 hb r hq=>?_⟩
  obtain ⟨rfl,hf,⟨oc,cvs,t,hc,hcd,hcv⟩,ck,σ,hσ,hrun⟩:=hsp _ _ _ _ hq
  have lim:s.heap.NoLimit:=e0.mod.nolimit.keeps fun b o e=>(e0.bs b o e).1
  have gf:=e0.hok.kn hf
  have gc:=e0.hok.kn hc
  refine PySem.W.kla_callFunE hr.depth gf rfl S.co S.gen rfl ⟨c,oc,cvs,t,rfl,gc,hcd,hcv⟩ (hb _ _ _ _ ?_)
  refine wpAny_newFunctionEnv S.nocell (fun x hx=>absurd hx (by simp)) (fun h1 hns hsb=>⟨lim.fresh _ hsb,?_⟩) S.kind
  show codeAny _ _ (.expr body (PySem.W.envX qual scope s.heap.objs.size f (.ref c) cl)) _ _
  have hk1:∀ b o,s.heap.get? b=some o->h1.get? b=some o:=fun b o e=>hsb.extBut b o (Nat.ne_of_lt (Heap.lt_size e)) (Heap.get?_push_of_some _ e)
  obtain ⟨tt,hbody,ht⟩:=hrun A outer s (hr.deeper _)
  have hfs:∀ b ∈ frs outer,H b=none:=e0.frf
  have ok0:=offC_hok e0.hok ck
  have noff:∀ b,H b=none->offC cl H b=none:=fun b n=>by
    by_cases z:Cel cl b
    · exact offC_in z
    · rw [offC_out z];exact n
  have nL:∀ x d,cl.lookup x=some d->d < s.heap.objs.size/\∃ oc v,s.heap.get? d=some oc/\oc.data=.cell v:=fun x d e=>by
    obtain ⟨oc,v,q,dd⟩:=ck x d e
    have g:=e0.hok.kn q
    exact ⟨Heap.lt_size g,oc,v,g,dd⟩
  have I:Inv (cxLam P w K mg base N qual scope f (.ref c) cl A outer s (offC cl H) (fun C d H'=>E C d (onC cl H H'))) [] σ (offC cl H) { s with heap:=h1,toks:=s.toks + ([]:List (Str × Value)).length }:=by
    have noA:∀ b:Addr,b ∉ (cxLam P w K mg base N qual scope f (.ref c) cl A outer s (offC cl H) (fun C d H'=>E C d (onC cl H H'))).ex:=fun b z=>absurd (show b ∈ ([]:List Addr) from z) (by simp)
    refine ⟨⟨e0.mod,S.kind,rfl,rfl,Nat.le_refl _,S.inj,fun y hy=>?_,fun y d hy _=>absurd (show false=true from hy) (by simp),fun _=>hr.hd,Around.frames_deeper e0.frames,.inr ⟨rfl,rfl⟩,fun b z=>absurd z (noA b),fun b o e=>⟨(e0.bs b o e).1,noff b (e0.bs b o e).2⟩,e0.bsz,fun b _ _=>noA b,fun b z=>absurd z (noA b),e0.funs,fun b hb=>noff b (e0.frf b hb)⟩,
      rfl,e0.bare,Un.kept hk1,⟨_,hns,fun i y v h1' h2 h3=>?_⟩,fun y d h=>?_,noff _ (e0.hok.fresh (Nat.le_refl _)),fun y d h=>offC_in ⟨y,h⟩,fun p hp=>absurd (show p ∈ ([]:List (Addr × Obj)) from hp) (by simp),ok0.kept hk1,hσ.1⟩
    · have hy':scope.names.lookup y=some .cell ∨ scope.names.lookup y=some .free:=hy
      rcases hy' with hy' | hy'
      · exact (S.nc hy').elim
      · exact S.has y hy'
    · obtain ⟨kf,d,oc',u,e1,e2,e3,rv⟩:=hσ.2 i y v h1' h2
      exact ⟨u,rv,.inr ⟨.inr kf,d,e1,oc',hk1 _ _ (e0.hok.kn e2),e3⟩⟩
    · obtain ⟨_,oc',v,g,dd⟩:=nL y d h
      exact ⟨v,oc',hk1 _ _ g,dd⟩
  refine PySem.W.kla_codeExpr (wpAny_mono (hbody [] _ σ (offC cl H) _ I ht) (fun u s' ⟨v,H',J,rv,q⟩=>?_) fun e s' hx=>?_)
  · exact ⟨v,onC cl H H',J.os,J.bare,un_on J.base e0.hok ck hfs,hok_on J.base e0.hok J.hok ck hfs,rv,q⟩
  · have conv:∀ e s'',CX1 P w outer (offC cl H) s (fun C d H'=>E C d (onC cl H H')) e s''->CX1 P w outer H s E e s'':=fun e s'' h=>by
      obtain ⟨a,C,H',rfl,F,hE⟩:=h
      obtain ⟨T,x,n1,n2,n3,n4⟩:=F.exc
      have nC:∀ b,s.heap.get? b=none->¬ Cel cl b:=fun b n ⟨x,z⟩=>by
        obtain ⟨_,oc',v,g,_⟩:=nL x b z
        rw [n] at g;cases g
      exact ⟨a,C,onC cl H H',rfl,⟨F.os,F.bare,un_on F.un e0.hok ck hfs,hok_on F.un e0.hok F.hok ck hfs,T,x,n1,n2,by rw [onC_out (nC a n1)];exact n3,by rw [onC_out (nC T n2)];exact n4⟩,hE⟩
    exact wpAny_mono hx (fun _ s'' h=>conv e s'' h) fun e' s'' h=>conv e' s'' h
structure FrzX (X:Cx) (σ:St) (H Hf:Hp):Prop where
  out:∀ b,¬ Cel X.env.cells b->Hf b=H b
  none:∀ b,Cel X.env.cells b->H b=none
  cell:CelK X.env.cells Hf
  val:∀ (i:Nat) (x:Str) (v:V),X.N[i]?=some x->σ[i]?=some (some v)->(X.env.kindOf x=some .cell ∨ X.env.kindOf x=some .free)->∃ c oc u,X.env.cells.lookup x=some c/\Hf c=some (KN oc)/\oc.data=.cell (some u)/\RelV v u
open Classical in
noncomputable def frzAll (cl:List (Str × Addr)) (h:Heap) (H:Hp):Hp:=fun b=>if Cel cl b then (h.get? b).map (fun o=>KN o) else H b
theorem Inv.frz {X:Cx} {pins:List (Addr × Obj)} {σ:St} {H:Hp} {s:Shared} (I:Inv X pins σ H s):FrzX X σ H (frzAll X.env.cells s.heap H)/\HOk X.prog X.w (frzAll X.env.cells s.heap H) s.heap:=by
  have hin:∀ b,Cel X.env.cells b->∃ o v,s.heap.get? b=some o/\o.data=.cell v/\frzAll X.env.cells s.heap H b=some (KN o):=fun b z=>by
    obtain ⟨x,zx⟩:=z
    obtain ⟨v,o,e,d⟩:=I.cell x b zx
    refine ⟨o,v,e,d,?_⟩
    unfold frzAll
    rw [if_pos ⟨x,zx⟩,e]
    rfl
  have hout:∀ b,¬ Cel X.env.cells b->frzAll X.env.cells s.heap H b=H b:=fun b z=>by unfold frzAll;rw [if_neg z]
  have hno:∀ b,Cel X.env.cells b->H b=none:=fun b ⟨x,z⟩=>I.freeC x b z
  refine ⟨⟨hout,hno,fun x c z=>?_,fun i x v h1 h2 h3=>?_⟩,fun b o e=>?_⟩
  · obtain ⟨o,v,_,d,q⟩:=hin c ⟨x,z⟩
    exact ⟨o,v,q,d⟩
  · obtain ⟨m,hn,hl⟩:=I.loc
    obtain ⟨u,r,lk⟩:=hl i x v h1 h2 (by rcases h3 with h3 | h3;exact .inr (.inl h3);exact .inr (.inr h3))
    rcases lk with ⟨z,_⟩ | ⟨_,c,e,oc,g,d⟩
    · rw [z] at h3
      rcases h3 with h3 | h3 <;> cases h3
    · obtain ⟨o,v',g',d',q⟩:=hin c ⟨x,e⟩
      rw [g] at g';cases g'
      exact ⟨c,oc,u,e,q,d,r⟩
  · by_cases z:Cel X.env.cells b
    · obtain ⟨o',v,g,d,q⟩:=hin b z
      rw [q] at e;cases e
      exact kn_ok g
    · rw [hout b z] at e
      refine (I.hok b o e).stay (fun _ _ _ q=>q) (fun c q=>?_) fun c xs q=>?_
      · rw [hout c (fun zc=>by rw [hno c zc] at q;cases q)];exact q
      · rw [hout c (fun zc=>by rw [hno c zc] at q;cases q)];exact q
noncomputable def tCallF (X:Cx) (sp:Sp) (t:TA):TE:=fun σ H Q=>t σ H fun vs H1=>∀ Hf,FrzX X σ H1 Hf->sp vs Hf (fun v H'=>Q v (offC X.env.cells H')) E0
theorem pe_callF {X:Cx} {k:Nat} {f:Addr} {fd:FuncData} {ps:List Str} {sp:Sp} {x:Str} {p pos:Pos} {e:Expr} {es:List Expr} {t:TA} (F:FnOk X.prog X.w X.K X.mg X.base CX0 k f fd ps sp) (hr:Room k X.A) (hg:Gl X x) (hm:X.mg x=some (.ref f)) (hk:PySem.W.keepIn X.K (.ref f)=true) (hb:Binds X.K fd ps [])
    (hfn:∀ y,X.fn y=true:=by intro y;rfl)
    (ha:PA X (e :: es) t) (hdb:(x == ("__debug__":Str))=false:=by decide) (he:starEach (e :: es) X.env=(false,eval e X.env) :: starEach es X.env:=by rfl) (hpl:(backTo pos (starEach es X.env)).any (·.1)=false:=by rfl) :
    PE X (.Call (.Name x p) (e :: es) [] pos) (tCallF X sp t):=by
  intro pins s σ H Q I h
  refine wpAny_Call_Name_kw (ld_glob I hg hm ?_ hdb)
  refine PySem.W.callWith_K (h₀:=X.base) I.ok.mod.kin hk (thn (ha pos pins s σ H _ I h) fun us s1 ⟨vs,H1,I1,r,q⟩=>⟨I1.kIn,?_⟩) he hpl
  obtain ⟨fz,hokf⟩:=I1.frz
  have q':=q _ fz
  have r2:Vals (vs ++ []) (us ++ []):=r.append .nil
  have hl:(us ++ []).length=ps.length:=by rw [<- r2.length,List.append_nil];exact F.len _ _ _ _ q'
  have e0:=I1.env0
  have nof:∀ b o,X.base.get? b=some o->¬ Cel X.env.cells b:=fun b o eb ⟨y,z⟩=>absurd (Nat.lt_of_lt_of_le (Heap.lt_size eb) I.ok.bsz) (Nat.not_lt_of_le (I.ok.cab y b (hfn y) z))
  have hfr:∀ b ∈ frs X.stack,¬ Cel X.env.cells b:=fun b hb ⟨y,z⟩=>by
    rcases List.mem_cons.mp (I1.stkSub b hb) with e | hb
    · exact I1.cne y b z e
    · obtain ⟨_,o,ho,_⟩:=I1.ok.funs.mem hb
      exact absurd (Heap.lt_size ho) (Nat.not_lt_of_le (I.ok.cab y b (hfn y) z))
  have e1:Env0 X.prog X.w X.K X.mg X.base X.A X.stack s1 (frzAll X.env.cells s1.heap H1):=⟨e0.frames,e0.mod,fun b o eb=>⟨(e0.bs b o eb).1,by rw [fz.out b (nof b o eb)];exact (e0.bs b o eb).2⟩,e0.bsz,e0.funs,fun b hb=>by rw [fz.out b (hfr b hb)];exact e0.frf b hb,hokf,e0.bare⟩
  refine wpAny_call (codeAny_mono (F.run X.A X.stack s1 _ ⟨us,[]⟩ us vs _ E0 hr e1 (by have z:=hb s1 us I1.kIn hl;rw [List.append_nil] at z;exact z) r q') fun res s' hq=>?_)
  cases res with
  | error e=>exact False.elim hq
  | ok fl =>
    cases fl with
    | ret u =>
      obtain ⟨v,H',os,bare,un,hok,rv,qq⟩:=hq
      obtain ⟨un',hok'⟩:=un_off (H:=H1) un hokf hok fz.cell fz.none fz.out
      exact I1.after ⟨v,_,os,bare,un',hok',rv,qq⟩
    | next=>exact False.elim hq
    | brk=>exact False.elim hq
    | cont=>exact False.elim hq
end L2
namespace L2
open PySem PySem.Spec PyProof.Rows
noncomputable abbrev TJ:=St->Hp->(Hp->Prop)->Prop
noncomputable def PJ (X:Cx) (es:List Expr) (n:Nat) (t:TJ):Prop :=
  ∀ (acc:Str),acc.length <= n->∀ (pins:List (Addr × Obj)) (s:Shared) (σ:St) (H:Hp) (Q:Hp->Prop),Inv X pins σ H s->t σ H Q ->
    wpAny (model X.prog X.w) X.A (joinParts acc (evalEach es X.env)) (fun u s'=>∃ z H',Inv X pins σ H' s'/\RelV (.str z) u/\Q H') X.xe s
section
variable {X:Cx} {es:List Expr} {n:Nat} {t:TJ}
theorem pj_nil (h:n <= sizeLine:=by decide):PJ X [] n (fun _ H Q=>Q H):=by
  intro acc ha pins s σ H Q I q
  exact joinParts_nil (s:=s) ⟨acc,H,I.tok _,⟨_,rfl⟩,q⟩ (Nat.le_trans ha h)
theorem pj_str {x:Str} {j:Nat} {pos:Pos} (h:PJ X es (n + x.length) t) (hz:n + x.length <= sizeLine:=by decide):PJ X (.Constant (.str x) j pos :: es) n t:=by
  intro acc ha pins s σ H Q I q
  show wpAny _ _ (joinParts acc (eval (.Constant (.str x) j pos) X.env :: evalEach es X.env)) _ _ _
  refine joinParts_cons (Calls.Constant_str ⟨?_,?_⟩)
  · rw [strLen_append];lia
  · exact h (acc ++ x) (by rw [strLen_append];lia) pins _ σ H Q (I.tok _) q
theorem pj_fmt {e:Expr} {te:TE} {pos:Pos} (he:PE X e te) (h:PJ X es (n + 100) t) (hz:n + 100 <= sizeLine:=by decide) :
    PJ X (.FormattedValue e (-1) none pos :: es) n (fun σ H Q=>te σ H fun v H1=>∃ i:Int,v=.int i/\i.natAbs.log2 < 1920/\(toString i:Str).length <= 100/\t σ H1 Q):=by
  intro acc ha pins s σ H Q I q
  show wpAny _ _ (joinParts acc (eval (.FormattedValue e (-1) none pos) X.env :: evalEach es X.env)) _ _ _
  refine joinParts_cons (FormattedValue_plain (thn (he pins s σ H _ I q) fun u s1 ⟨v,H1,I1,r,i,ev,hl,hz',q1⟩=>?_))
  subst ev
  obtain ⟨tk,rfl⟩:=r
  refine formatField_int_small hl ⟨?_,?_⟩
  · rw [strLen_append];lia
  · exact h _ (by rw [strLen_append];lia) pins _ σ H1 Q (I1.tok _) q1
theorem pe_fstr {v1 v2:Expr} {rest:List Expr} {pos:Pos} (h:PJ X (v1 :: v2 :: rest) 0 t):PE X (.JoinedStr (v1 :: v2 :: rest) pos) (fun σ H Q=>t σ H fun H1=>∀ z,Q (.str z) H1):=by
  intro pins s σ H Q I q
  exact JoinedStr_many (thn (h Str.empty (Nat.le_refl _) pins s σ H _ I q) fun u s1 ⟨z,H1,I1,r,q1⟩=>⟨.str z,H1,I1,r,q1 z⟩)
end
theorem pass10 {P:Program} {w:World} {X:Cx}:Passes (CX1 P w) X E0:=fun _ _ _ _ _ _ _ h=>by
  obtain ⟨_,_,_,_,_,z⟩:=h
  exact z.elim
section
variable {P:Program} {w:World} {K:PySem.W.Frag} {mg:Str->Option Value} {base:Heap}
theorem Fun.okX {x qual:Str} {st:Stmt} {f:Addr} {fd:FuncData} {N ps:List Str} {k:Nat} {sp:Sp} (F:Fun K x qual st f fd) (S:FnScope N ps (defScope st)) (len:∀ vs H Q E,sp vs H Q E->vs.length=ps.length)
    (hbody:∀ (cdv:Value) (A:Around) (outer:List Env) (s:Shared) (H:Hp) (vs:List V) (Q:VK) (E:XK),Room k (A.deeper (envOfC qual (defScope st) s.heap.objs.size f cdv))->sp vs H Q E ->
      ∃ t,PSs (cxOf (CX1 P w) P w K mg base N qual (defScope st) f cdv A outer s H E) (defBody st) t/\t { nx:=fun _ H'=>Q .non H',rt:=Q } (start N vs) H):FnOk P w K mg base (CX1 P w) (k + 1) f fd ps sp:=by
  obtain ⟨oc,od,kV,doc,pm,an,cdv,ct,osl,rfl,lk,hcd⟩:=F.ex
  exact fn_of lk hcd S len fun A outer s H vs Q E hr hsp=>hbody cdv A outer s H vs Q E hr hsp
theorem Fun.okC {x qual:Str} {st:Stmt} {f:Addr} {fd:FuncData} {N ps:List Str} {k:Nat} {sp:Sp} (F:Fun K x qual st f fd) (S:FnScope N ps (defScope st)) (len:∀ vs H Q E,sp vs H Q E->vs.length=ps.length)
    (hbody:∀ (cdv:Value) (A:Around) (outer:List Env) (s:Shared) (H:Hp) (vs:List V) (Q:VK) (E:XK),fd.code=cdv->Room k (A.deeper (envOfC qual (defScope st) s.heap.objs.size f cdv))->sp vs H Q E ->
      ∃ t,PSs (cxOf CX0 P w K mg base N qual (defScope st) f cdv A outer s H E).nox (defBody st) t/\t { nx:=fun _ H'=>Q .non H',rt:=Q } (start N vs) H):FnOk P w K mg base CX0 (k + 1) f fd ps sp:=by
  obtain ⟨oc,od,kV,doc,pm,an,cdv,ct,osl,rfl,lk,hcd⟩:=F.ex
  refine fn_of lk hcd S len fun A outer s H vs Q E hr hsp=>?_
  obtain ⟨t,h,q⟩:=hbody cdv A outer s H vs Q E rfl hr hsp
  exact ⟨t,h.nox,q⟩
end
section
variable {P:Program} {w:World} {K:PySem.W.Frag} {mg:Str->Option Value} {base:Heap} {N:List Str} {qual:Str} {scope:Scope} {f:Addr} {cd:Value} {A:Around} {outer:List Env} {s₀:Shared} {H₀:Hp} {E:XK}
theorem ps_raise1 {x:Str} {C:Addr} {e:Expr} {te:TE} {np cpos pos:Pos} (hm:mg x=some (.ref C)) (hc:XC K C) (he:PE (cxOf (CX1 P w) P w K mg base N qual scope f cd A outer s₀ H₀ E) e te)
    (hmono:∀ σ H (Q Q':VK),(∀ v H1,Q v H1->Q' v H1)->te σ H Q->te σ H Q')
    (hg:Gl (cxOf (CX1 P w) P w K mg base N qual scope f cd A outer s₀ H₀ E) x:=by rfl)
    (hdb:(x == ("__debug__":Str))=false:=by decide)
    (hst:starEach [e] (envOfC qual scope s₀.heap.objs.size f cd)=(false,eval e (envOfC qual scope s₀.heap.objs.size f cd)) :: starEach [] (envOfC qual scope s₀.heap.objs.size f cd):=by rfl) :
    PS (cxOf (CX1 P w) P w K mg base N qual scope f cd A outer s₀ H₀ E) (.Raise (some (.Call (.Name x np) [e] [] cpos)) none pos) (fun _ σ H=>te σ H fun _ H1=>E (.ref C) none H1):=by
  have h:=ps_raise (E:=E) (pos:=pos) (np:=np) (cpos:=cpos) (t:=tCons te tNil) hg hm hc (pa_cons he pa_nil (hs:=hst)) (Nat.le_refl _) hdb hst rfl (fun σ H Q q=>hmono _ _ _ _ (fun v H1 z=>⟨by show 1 <= sizeLine;decide,z⟩) q)
  exact h
end
end L2
namespace L2
open PySem PySem.Spec PyProof.Rows
noncomputable def OnlyT (ts:List Addr) (H:Hp):Prop:=(∀ b,H b=none ∨ (∃ o xs,H b=some (.frz o (.lst xs))) ∨ (b ∈ ts/\H b=some (.tbl #[])))/\∀ T ∈ ts,H T=some (.tbl #[])
theorem law_callT {P:Program} {w:World} {K:PySem.W.Frag} {mg mb:Str->Option Value} {k:Nat} {fa a:Addr} {fd:FuncData} {x:Str} {sp:Sp} {s1:Shared} {vs:List Value} {ns:List Int} {ts:List Addr}
    (KX:K.In s1.heap) (hns:s1.heap.Ns mainGlobals mg) (hb:s1.heap.Ns builtinsNs mb) (hbb:∀ x:Str,x ≠ "__name__"->mb x=bootBuiltins x) (hlim:s1.heap.NoLimit) (hg:s1.gens=#[])
    (hbm:∃ bm ob,mg "__builtins__"=some (.ref bm)/\bm ≠ builtinsNs/\s1.heap.get? bm=some ob/\ob.cls=.type "module"/\ob.dict=some builtinsNs/\ob.data=.plain)
    (ha:s1.heap.get? a=some { cls:=.type "list",data:=.seq vs.toArray }) (hi:IntsAre vs ns) (hl:ns.length <= sizeLine) (hr:Room k callerA)
    (tabs:∀ T ∈ ts,s1.heap.get? T=some (PySem.W.tabObj #[])/\isCodeTable s1.heap T/\K.lookup T=none)
    (F:∀ base:Heap,K.In base->base.Ns mainGlobals mg->(∀ T ∈ ts,base.BuiltinsAt mg T)->FnOk P w K mg base CX0 k fa fd [x] sp) (hbind:∀ (s:Shared) (u:Value),BindsTo s fd ⟨[u],[]⟩ [(x,u)])
    (hsp:∀ H:Hp,OnlyT ts H->SqL K H a (ns.map V.int)->sp [.ref a] H (fun v _=>v=.bl true) fun _ _ _=>False) :
    codeAny (model P w) callerA (.call (.ref fa) ⟨[.ref a],[]⟩) (fun r s'=>r=.ok (.ret (.bool true))/\OldK s1.heap s'.heap/\s'.os=s1.os/\AllBare s'.gens) s1:=by
  have rv:=vals_ints hi
  have lenV:=hi.length
  have aT:a ∉ ts:=fun z=>by
    have e:=(tabs a z).1
    rw [ha] at e;cases e
  have core:∀ H:Hp,OnlyT ts H->SqL K H a (ns.map V.int)->HOk P w H s1.heap->(∀ b,H b ≠ none->b=a ∨ b ∈ ts)->(H a ≠ none->K.lookup a=none) ->
      codeAny (model P w) callerA (.call (.ref fa) ⟨[.ref a],[]⟩) (fun r s'=>r=.ok (.ret (.bool true))/\OldK s1.heap s'.heap/\s'.os=s1.os/\AllBare s'.gens) s1:=by
    intro H hO hS hok hA hK
    have base_of:∀ {b:Addr} {o:Obj},s1.heap.get? b=some o->H b=none->(hidT s1.heap H).get? b=some o:=fun e n=>hidT_get e n
    have noB:∀ {b:Addr} {o:Obj},s1.heap.get? b=some o->(∀ xs n,o.data ≠ .seq xs n)->(∀ xs,o.data ≠ .fields xs)->H b=none:=fun {b o} e d1 d2=>by
      cases q:H b with
      | none=>rfl
      | some u =>
        rcases hA b (by rw [q];simp) with e' | e'
        · subst e'
          rw [ha] at e;cases e
          exact absurd rfl (d1 _ _)
        · rw [(tabs b e').1] at e;cases e
          exact absurd rfl (d2 _)
    have noA:∀ {b:Addr} {o:Obj} {es:Array DictEntry} {ep:Nat},s1.heap.get? b=some o->o.data=.dict es ep->H b=none:=fun {b o es ep} e d =>
      noB e (fun xs n z=>by rw [d] at z;cases z) (fun xs z=>by rw [d] at z;cases z)
    have nsK:∀ {b:Addr} {m:Str->Option Value},s1.heap.Ns b m->(hidT s1.heap H).Ns b m:=fun {b m} ⟨o,es,ep,e,d,r⟩=>⟨o,es,ep,base_of e (noA e d),d,r⟩
    have hKb:K.In (hidT s1.heap H):=fun b o e=>base_of (KX b o e) (by
      cases q:H b with
      | none=>rfl
      | some u =>
        rcases hA b (by rw [q];simp) with e' | e'
        · subst e'
          rw [hK (by rw [q];simp)] at e;cases e
        · rw [(tabs b e').2.2] at e;cases e)
    have hM:Mod K mg (hidT s1.heap H):=⟨hKb,nsK hns,⟨mb,nsK hb,hbb⟩,let ⟨mc,h1,h2⟩:=hlim;⟨mc,nsK h1,h2⟩⟩
    have hBM:∀ T ∈ ts,(hidT s1.heap H).BuiltinsAt mg T:=fun T hT=>by
      obtain ⟨bm,ob,b1,b2,b3,b4,b5,b6⟩:=hbm
      refine ⟨bm,ob,b1,b2,fun z=>?_,fun z=>?_,base_of b3 (noB b3 (fun xs n z=>by rw [b6] at z;cases z) (fun xs z=>by rw [b6] at z;cases z)),b4,b5,b6⟩
      · obtain ⟨o,es,ep,e,d,_⟩:=hns
        rw [<- z,b3] at e;cases e
        rw [b6] at d;cases d
      · rw [z,(tabs T hT).1] at b3;cases b3;cases b4
    have e0:Env0 P w K mg (hidT s1.heap H) callerA [] s1 H:=⟨rfl,hM,fun b o e=>of_hidT e,Nat.le_of_eq (hidT_size _ _),trivial,fun b hb=>absurd (show b ∈ ([]:List Addr) from hb) (by simp),hok,.of_eq hg⟩
    refine codeAny_mono ((F _ hKb (nsK hns) hBM).run callerA [] s1 H ⟨[.ref a],[]⟩ [.ref a] [.ref a] _ _ hr e0 (hbind s1 (.ref a)) (.cons rfl .nil) (hsp H hO hS)) fun r s' h=>?_
    cases r with
    | error e=>exact False.elim h
    | ok fl =>
      cases fl with
      | next=>exact False.elim h
      | brk=>exact False.elim h
      | cont=>exact False.elim h
      | ret u =>
        obtain ⟨v,H',os,bare,un,hok',r',q⟩:=h
        have q':v=.bl true:=q
        subst q'
        obtain rfl:u=Value.bool true:=r'
        refine ⟨rfl,⟨fun b o e=>?_,fun b o e=>un.there b o e (by simp)⟩,os,bare⟩
        cases q:H b with
        | none=>exact .inl (un.keep b o e q (by intro z;exact absurd (show b ∈ ([]:List Addr) from z) (by simp)) (by simp))
        | some u =>
          rcases hO.1 b with z | ⟨ob,xs,z⟩ | ⟨hT,z⟩
          · rw [q] at z;cases z
          · have z2:=un.frzs b ob _ z
            obtain ⟨e1,_⟩:=hok b _ z
            obtain ⟨e2,_⟩:=hok' b _ z2
            rw [e] at e1;cases e1
            exact .inl e2
          · obtain ⟨more,z2⟩:=un.tbls b _ z
            have e1:s1.heap.get? b=some { cls:=.none,data:=.fields #[] }:=hok b _ z
            have e2:s'.heap.get? b=some { cls:=.none,data:=.fields (#[] ++ more) }:=hok' b _ z2
            rw [e] at e1;cases e1
            exact .inr (.inl ⟨(tabs b hT).2.1,rfl,#[],more,rfl,e2⟩)
  have tabOk:∀ (H:Hp) (T:Addr),T ∈ ts->ObjOk P w H s1.heap T (.tbl #[]):=fun H T hT=>(tabs T hT).1
  cases hk:K.lookup a with
  | some o =>
    have e:=KX a o hk
    rw [ha] at e
    cases e
    refine core (fun b=>if b ∈ ts then some (.tbl #[]) else none) ⟨fun b=>?_,fun T hT=>if_pos hT⟩ (.inr ⟨_,vs.toArray,_,hk,rfl,rfl,rfl,by rw [List.size_toArray,lenV];exact hl,by simpa using rv⟩) (fun b u z=>?_) (fun b z=>?_) fun z=>absurd (if_neg aT) z
    · by_cases hb:b ∈ ts
      · exact .inr (.inr ⟨hb,if_pos hb⟩)
      · exact .inl (if_neg hb)
    · by_cases hb:b ∈ ts
      · have z':=(if_pos hb).symm.trans z
        cases z'
        exact tabOk _ b hb
      · have z':=(if_neg hb).symm.trans z
        cases z'
    · by_cases hb:b ∈ ts
      · exact .inr hb
      · exact absurd (if_neg hb) z
  | none =>
    refine core (fun b=>if b=a then some (.frz { cls:=.type "list",data:=.seq vs.toArray } (.lst (ns.map V.int))) else if b ∈ ts then some (.tbl #[]) else none) ⟨fun b=>?_,fun T hT=>?_⟩ (.inl (.inr ⟨{ cls:=.type "list",data:=.seq vs.toArray },if_pos rfl⟩)) (fun b u z=>?_) (fun b z=>?_) fun _=>hk
    · by_cases hb:b=a
      · exact .inr (.inl ⟨_,_,if_pos hb⟩)
      · by_cases hc:b ∈ ts
        · exact .inr (.inr ⟨hc,(if_neg hb).trans (if_pos hc)⟩)
        · exact .inl ((if_neg hb).trans (if_neg hc))
    · exact (if_neg (fun z=>aT (by rw [<- z];exact hT))).trans (if_pos hT)
    · by_cases hb:b=a
      · have z':=(if_pos hb).symm.trans z
        cases z'
        subst hb
        exact ⟨ha,by rw [List.length_map];exact hl,vs,_,rv,ha⟩
      · have z':=(if_neg hb).symm.trans z
        by_cases hc:b ∈ ts
        · have z2:=(if_pos hc).symm.trans z'
          cases z2
          exact tabOk _ b hc
        · have z2:=(if_neg hc).symm.trans z'
          cases z2
    · by_cases hb:b=a
      · exact .inl hb
      · by_cases hc:b ∈ ts
        · exact .inr hc
        · exact absurd ((if_neg hb).trans (if_neg hc)) z
theorem walk_ofT {l:PySem.W.OpenLaw} {n k:Nat} {q:Program} {loose:List Str} {XP:(Str->Option Value)->Heap->Prop} {YP:World->Heap->Prop} {d:DefRec} {K:Params->PySem.W.Frag} {sp:World->Sp} {x:Str} {ts:List Addr}
    (hn:l.most=some n) (hn2:n <= sizeLine) (hdf:d.params.defaults=[]) (hr:Room k callerA)
    (hY:∀ (w:World) (h:Heap),YP w h->(K w.params).In h) (hT:∀ (w:World) (h:Heap),YP w h->∀ T ∈ ts,h.get? T=some (PySem.W.tabObj #[]))
    (F:∀ (w:World) (mg:Str->Option Value) (fa:Addr) (h:Heap),(K w.params).In h->h.Ns mainGlobals mg->mg d.name=some (.ref fa) ->
      ∃ fd:FuncData,(∀ (s:Shared) (u:Value),BindsTo s fd ⟨[u],[]⟩ [(x,u)])/\(∀ T ∈ ts,(K w.params).lookup T=none/\∃ c,PySem.W.codeHdIn (K w.params) c T=true) /\
        ∀ base:Heap,(K w.params).In base->base.Ns mainGlobals mg->(∀ T ∈ ts,base.BuiltinsAt mg T)->FnOk l.prog w (K w.params) mg base CX0 k fa fd [x] (sp w))
    (hsp:∀ (w:World) (H:Hp) (a:Addr) (ns:List Int),ns.length <= n->OnlyT ts H->SqL (K w.params) H a (ns.map V.int)->sp w [.ref a] H (fun v _=>v=.bl true) fun _ _ _=>False) :
    PySem.W.WalkO q loose XP YP l.row.toRowW d [] (fun f vs=>PySem.call f vs):=by
  refine Att.attach_call hn hdf fun w s₀ s₁ mg mb fa o pm cd doc a vs ns G Y ho hd hcd hmg hobj hints hlen hg=>?_
  have KX:=hY w _ Y
  obtain ⟨fd,hb,ht,hF⟩:=F w mg fa _ KX G.T.g hmg
  refine law_callT KX G.T.g G.T.b G.T.builtins G.T.nolimit hg G.T.bmain hobj hints (Nat.le_trans hlen hn2) hr (fun T hm=>?_) hF hb (fun H hO hS=>hsp w H a ns hlen hO hS)
  obtain ⟨h1,c,h2⟩:=ht T hm
  have hP:=hT w _ Y T hm
  exact ⟨hP,((PySem.W.codeHd_of_K KX h2).tab hP).isCodeTable,h1⟩
end L2
namespace L2
open PySem PySem.Spec PyProof.Rows
structure CalX (P:Program) (w:World) (K:PySem.W.Frag) (mg:Str->Option Value) (base:Heap) (k:Nat) (x:Str) (ps:List Str) (sp:Sp):Prop where
  ex:∃ f fd,mg x=some (.ref f)/\PySem.W.keepIn K (.ref f)=true/\Binds K fd ps []/\FnOk P w K mg base (CX1 P w) k f fd ps sp
theorem CalX.up {P:Program} {w:World} {K:PySem.W.Frag} {mg:Str->Option Value} {base:Heap} {j k:Nat} {x:Str} {ps:List Str} {sp:Sp} (C:CalX P w K mg base j x ps sp) (h:j <= k):CalX P w K mg base k x ps sp :=
  let ⟨f,fd,a,b,c,d⟩:=C.ex;⟨f,fd,a,b,c,d.mono h⟩
noncomputable def tCx (sp:Sp) (E:XK) (t:TA):TE:=fun σ H Q=>t σ H fun vs H1=>sp vs H1 Q E
section
variable {X:Cx} {k:Nat} {x:Str} {ps:List Str} {sp:Sp} {p pos:Pos} {e:Expr} {es:List Expr} {t:TA} {E:XK}
theorem pe_calx (C:CalX X.prog X.w X.K X.mg X.base k x ps sp) (hr:Room k X.A) (hg:Gl X x) (hx:Passes (CX1 X.prog X.w) X E) (ha:PA X (e :: es) t)
    (hdb:(x == ("__debug__":Str))=false:=by decide) (he:starEach (e :: es) X.env=(false,eval e X.env) :: starEach es X.env:=by rfl) (hpl:(backTo pos (starEach es X.env)).any (·.1)=false:=by rfl) :
    PE X (.Call (.Name x p) (e :: es) [] pos) (tCx sp E t):=by
  obtain ⟨f,fd,hm,hk,hb,F⟩:=C.ex
  have h:=pe_call (x:=x) (p:=p) (pos:=pos) F hr hg hm hk hb .nil hx ha hdb he hpl
  have e:tCall sp [] E t=tCx sp E t:=by
    funext σ H Q
    show t σ H (fun vs H1=>sp (vs ++ []) H1 Q E)=t σ H (fun vs H1=>sp vs H1 Q E)
    congr 1
    funext vs H1
    rw [List.append_nil]
  rw [<- e];exact h
end
structure Errs (K:PySem.W.Frag) (mg:Str->Option Value) (c:Nat->Addr) (B:Addr):Prop where
  e0:mg "NoUrn"=some (.ref (c 0))
  e1:mg "NoRule"=some (.ref (c 1))
  e2:mg "NoKind"=some (.ref (c 2))
  e3:mg "NoBall"=some (.ref (c 3))
  e4:mg "NoDraws"=some (.ref (c 4))
  e5:mg "NoNumber"=some (.ref (c 5))
  e6:mg "NotEven"=some (.ref (c 6))
  e7:mg "NoCounts"=some (.ref (c 7))
  e8:mg "NotAlike"=some (.ref (c 8))
  e9:mg "BadNote"=some (.ref (c 9))
  eb:mg "UrnError"=some (.ref B)
  xc:∀ i,i < 10->XC K (c i)
  xi:∀ i,i < 10->XI K (c i)
  sub:∀ i,i < 10->PySem.W.kitCls K (.ref (c i)) (.ref B)=some true
  bb:PySem.W.subIn K (.ref B) (.type "BaseException")=some true
  one:∀ i j,i < 10->j < 10->PySem.W.kitOne K (.ref (c i)) (.ref (c j))=some (decide (i=j))
  val:∀ i,i < 10->PySem.W.kitOne K (.ref (c i)) (.type "ValueError")=some true
noncomputable def Sm (i:Int):Prop:=i.natAbs.log2 < 1920/\(toString i:Str).length <= 100
end L2
namespace L2
open PySem PySem.Spec PyProof.Rows
section
variable {X:Cx} {pins:List (Addr × Obj)} {σ:St} {H:Hp} {s:Shared}
theorem Inv.bigger (I:Inv X pins σ H s):sysModules < s.heap.objs.size:=by
  obtain ⟨mc,⟨o,es,ep,e,_⟩,_⟩:=I.nolimit
  exact Nat.lt_of_le_of_lt (by decide) (Heap.lt_size e)
noncomputable def tDNew:TE:=fun _ H Q=>∀ p,H p=none->Q (.ref p) (upd H p (.dK []))
theorem pe_dnew {pos:Pos}:PE X (.Dict [] [] pos) tDNew:=fun pins s σ H Q I h =>
  wpAny_Dict_empty ⟨.ref s.heap.objs.size,_,I.laid (a:=s.heap.objs.size) (o:=.dK []) (t':=s.toks) (fun _ _ q=>Heap.get?_push_of_some _ q) (Nat.le_refl _)
    ⟨Nat.zero_le _,beq_eq_false_iff_ne.mpr (Ne.symm (Nat.ne_of_lt I.bigger)),[],.nil,Heap.DictOf.new s.heap⟩,rfl,h _ (I.hok.fresh (Nat.le_refl _))⟩
end
section
variable {K:PySem.W.Frag} {σ0:St} {te:TE} {H:Hp} {F:List V->Hp->Prop}
theorem blk_list {a:Addr} {xs:List V} (hn:xs.length <= sizeLine) (Pv:Nat->List V->Hp->Prop) (h0:Pv 0 [] H) (hl:∀ i ys H,Pv i ys H->ys.length=i) (hq:∀ i ys H,i <= xs.length->Pv i ys H->SqL K H a xs) (hσ:σ0[0]?=some none)
    (hs:∀ i ys H x,xs[i]?=some x->Pv i ys H->te (σ0.set 0 (some x)) H fun y H'=>Pv (i + 1) (ys ++ [y]) H') (hd:∀ ys H,Pv xs.length ys H->F ys H):Blk (Itl K a) σ0 (gName 0) tTrue te H F:=by
  refine ⟨fun i m ys H=>m=xs.length - i/\i <= xs.length/\Pv i ys H,⟨xs.length,by simp,Nat.zero_le _,h0⟩,?_⟩
  rintro i m ys H2 ⟨rfl,hi,p⟩
  have q:=hq i ys H2 hi p
  refine ⟨by rw [hl i ys H2 p];lia,?_⟩
  by_cases hlt:i < xs.length
  · refine .inr ⟨⟨xs,xs[i],q,by simp [hlt]⟩,fun y H'=>Pv (i + 1) (ys ++ [y]) H',fun _=>False,fun y H' q=>⟨xs.length - (i + 1),by lia,rfl,hlt,q⟩,fun _ q=>q.elim,fun x H3 y=>?_⟩
    obtain ⟨rfl,y⟩:=y
    exact ⟨Wk.set (.inl hσ),hs i ys _ x (y xs q) p⟩
  · have e:i=xs.length:=by lia
    subst e
    exact .inl ⟨⟨xs,q,Nat.le_refl _⟩,hd ys H2 p⟩
end
end L2
namespace L2
open PySem PySem.Spec PyProof.Rows
section
variable {X:Cx} {es:List Expr} {te:TE} {t:TA}
end
end L2
namespace L2
open PySem PySem.Spec PyProof.Rows
end L2
namespace L2
open PySem PySem.Spec PyProof.Rows
structure Clo (X:Cx):Prop where
  inj:∀ x y c,X.env.cells.lookup x=some c->X.env.cells.lookup y=some c->x=y
  has:∀ x,(X.env.kindOf x=some .cell ∨ X.env.kindOf x=some .free)->∃ c,X.env.cells.lookup x=some c
theorem pe_clo {X:Cx} {e:Expr} {t:TE} (h:PE X e t):PE X e (fun σ H Q=>Clo X->t σ H Q):=fun pins s σ H Q I q=>h pins s σ H Q I (q ⟨I.ok.inj,I.ok.has⟩)
section
variable {X:Cx} {σ:L2.St} {H Hf:Hp} {scope:Scope}
theorem Clo.closed (Z:Clo X) (hf:okFree scope X.env=true):∀ x ∈ scope.names,x.2=.free->∃ c,X.env.cells.lookup x.1=some c:=fun x hx hk=>Z.has x.1 (okFree_get hf hx hk)
theorem Clo.sub (Z:Clo X) (hf:okFree scope X.env=true) {x:Str} {c:Addr} (h:(closL X.env scope.names []).lookup x=some c):X.env.cells.lookup x=some c:=by
  obtain ⟨y,hm,e⟩:=lookup_mem' h
  subst e
  rcases closL_mem (Z.closed hf) hm with q | q
  · cases q
  · exact q
theorem Clo.cel (Z:Clo X) (hf:okFree scope X.env=true) {b:Addr} (h:Cel (closL X.env scope.names []) b):Cel X.env.cells b:=let ⟨x,e⟩:=h;⟨x,Z.sub hf e⟩
theorem Clo.lsc (Z:Clo X) (hf:okFree scope X.env=true) (k1:scope.kind=.function) (k2:scope.isCoroutine=false) (k3:scope.isGenerator=false) (k4:∀ x ∈ scope.names,x.2 ≠ .cell):LamScope (closL X.env scope.names []) scope :=
  ⟨k1,k2,k3,k4,fun x y c h1 h2=>Z.inj x y c (Z.sub hf h1) (Z.sub hf h2),fun x h=>by
    obtain ⟨y,hm,e⟩:=lookup_mem' h
    subst e
    obtain ⟨c,hc⟩:=closL_has (env:=X.env) (acc:=[]) hm
    exact lookup_of_mem hc⟩
theorem Clo.celk (Z:Clo X) (hf:okFree scope X.env=true) (fz:FrzX X σ H Hf):CelK (closL X.env scope.names []) Hf:=fun x c h=>fz.cell x c (Z.sub hf h)
theorem Clo.st (Z:Clo X) (hf:okFree scope X.env=true) (fz:FrzX X σ H Hf) {N:List Str} {ix:List (Option Nat)} (hx:okIx scope X.N N ix=true):LamSt (closL X.env scope.names []) scope N Hf (pick ix σ):=by
  refine ⟨by unfold pick;rw [List.length_map];exact okIx_len hx,fun j x v h1 h2=>?_⟩
  obtain ⟨i,h3,h4⟩:=pick_get h2
  obtain ⟨y,e1,e2,e3⟩:=okIx_get hx h3
  rw [h1] at e1
  cases e1
  obtain ⟨y,hm,e⟩:=lookup_mem' e3
  subst e
  obtain ⟨c,oc,u,c1,c2,c3,c4⟩:=fz.val i y v e2 h4 (okFree_get hf hm rfl)
  obtain ⟨d,hd⟩:=closL_has (env:=X.env) (acc:=[]) hm
  obtain ⟨d',hd'⟩:=lookup_of_mem hd
  have z:=Z.sub hf hd'
  rw [c1] at z
  cases z
  exact ⟨e3,c,oc,u,hd',c2,c3,c4⟩
theorem FrzX.same (fz:FrzX X σ H Hf):Same H Hf:=fun b o e=>by rw [fz.out b (fun z=>by rw [fz.none b z] at e;cases e)];exact e
theorem FrzX.inner (fz:FrzX X σ H Hf) (Z:Clo X) (hf:okFree scope X.env=true):Same H (offC (closL X.env scope.names []) Hf):=fun b o e=>by
  have nc:¬ Cel X.env.cells b:=fun z=>by rw [fz.none b z] at e;cases e
  rw [offC_out fun z=>nc (Z.cel hf z)]
  exact fz.same b o e
theorem FrzX.back (fz:FrzX X σ H Hf) {H':Hp} (g:Same Hf H'):Same H (offC X.env.cells H'):=fun b o e=>by
  have nc:¬ Cel X.env.cells b:=fun z=>by rw [fz.none b z] at e;cases e
  rw [offC_out nc]
  exact g b o (fz.same b o e)
end
theorem on_same {cl:List (Str × Addr)} {H H':Hp} (g:Same (offC cl H) H'):Same H (onC cl H H'):=fun b o e=>by
  by_cases z:Cel cl b
  · rw [onC_in z];exact e
  · rw [onC_out z];exact g b o (by rw [offC_out z];exact e)
noncomputable def spLam (P:Program) (w:World) (K:PySem.W.Frag) (mg:Str->Option Value) (base:Heap) (k:Nat) (f c:Addr) (name qual:Str) (params:Arguments) (body:Expr) (scope:Scope) (cl:List (Str × Addr)) (pm ct:Value) (N:List Str):Sp:=fun vs H Q E =>
  vs=[]/\H f=some (KN (PySem.W.kla_obj name qual params body scope cl pm c ct))/\CodeK qual H c/\CelK cl H/\∃ σ,LamSt cl scope N H σ /\
    ∀ (A:Around) (outer:List Env) (s:Shared),Room k (A.deeper (PySem.W.envX qual scope s.heap.objs.size f (.ref c) cl))->∃ t,PE (cxLam P w K mg base N qual scope f (.ref c) cl A outer s (offC cl H) (fun C d H'=>E C d (onC cl H H'))) body t/\t σ (offC cl H) (fun v H'=>Q v (onC cl H H'))
theorem CTab.same {q:Str} {T:Addr} {H H':Hp} (h:CTab q T H) (g:Same H H'):CTab q T H':=by
  obtain ⟨ps,h1,h2,h3⟩:=h
  refine ⟨ps,g _ _ h1,h2,fun pos v e=>?_⟩
  obtain ⟨c,oc,vs,t,e1,e2,e3,e4⟩:=h3 pos v e
  exact ⟨c,oc,vs,t,e1,g _ _ e2,e3,e4⟩
theorem pe_callR {X:Cx} {k:Nat} {ps:List Str} {sp:Sp} {x:Str} {p pos:Pos} {e:Expr} {es:List Expr} {t:TA} (C:Cal X.prog X.w X.K X.mg X.base k x ps sp) (hr:Room k X.A) (hg:Gl X x) (ha:PA X (e :: es) t)
    (hfn:∀ y,X.fn y=true:=by intro y;rfl) (hdb:(x == ("__debug__":Str))=false:=by decide) (he:starEach (e :: es) X.env=(false,eval e X.env) :: starEach es X.env:=by rfl) (hpl:(backTo pos (starEach es X.env)).any (·.1)=false:=by rfl) :
    PE X (.Call (.Name x p) (e :: es) [] pos) (fun σ H Q=>Clo X->tCallF X sp t σ H Q):=by
  obtain ⟨f,fd,hm,hk,hb,F⟩:=C.ex
  exact pe_clo (pe_callF F hr hg hm hk hb hfn ha hdb he hpl)
end L2
namespace L2
open PySem PySem.Spec PyProof.Rows
section
variable {X:Cx}
end
end L2
namespace L2
open PySem PySem.Spec PyProof.Rows
section
variable {X:Cx} {scope:Scope} {N:List Str} {ix:List (Option Nat)} {elt target iter:Expr} {ifs:List Expr} {pos:Pos} {wi:TI} {g:TG} {tc:TT}
end
end L2
namespace L2
open PySem PySem.Spec PyProof.Rows
section
variable {X:Cx}
end
end L2
namespace L2
open PySem PySem.Spec PyProof.Rows
end L2
namespace L2
open PySem PySem.Spec PyProof.Rows
section
variable (P:Program) (w:World)
end
section
variable {P:Program} {w:World} {H H':Hp} {h h':Heap} {a:Addr} {o:HO}
end
section
variable {P:Program} {w:World} {H:Hp} {h h':Heap} {x e:Addr} {o':HO}
end
section
variable {fs fs' ex ex':List Addr} {H H1 H2:Hp} {h h1 h2 h':Heap} {a x e:Addr} {o:HO}
end
end L2
namespace L2
open PySem PySem.Spec PyProof.Rows
section
variable {X:Cx} {pins:List (Addr × Obj)} {σ:List (Option V)} {H H':Hp} {s:Shared} {h':Heap}
end
end L2
namespace L2
open PySem PySem.Spec PyProof.Rows
section
variable {X:Cx}
variable {a b:Expr} {ta tb:TE} {pos:Pos}
variable {tA tB':TT} {rest:List Expr}
end
end L2
namespace L2
open PySem PySem.Spec PyProof.Rows
section
variable {X:Cx} {pins:List (Addr × Obj)} {σ:St} {H:Hp} {s:Shared} {a:Addr} {xs ys:List V}
end
section
variable {X:Cx} {pins:List (Addr × Obj)} {σ:St} {H:Hp} {s:Shared} {E:Value->Shared->Prop}
end
section
variable {X:Cx} {st:Stmt} {rest:List Stmt} {t u:TS} {e:Expr} {te:TE} {pos:Pos}
end
section
variable {X:Cx} {pos:Pos}
end
section
variable {X:Cx} {pos:Pos}
end
end L2
namespace L2
open PySem PySem.Spec PyProof.Rows
section
variable {X:Cx} {tg:Expr}
end
end L2
namespace L2
open PySem PySem.Spec PyProof.Rows
section
variable {X:Cx} {a b c:Expr} {ta tb tc:TE} {pos:Pos}
end
section
variable {X:Cx} {a b c:Expr} {ta tb tc:TE} {pos:Pos}
end
end L2
namespace L2
open PySem PySem.Spec PyProof.Rows
section
variable {prog:Program} {w:World} {A:Around} {E:Value->Shared->Prop} {s:Shared} {K:PySem.W.Frag} {x dx C f:Addr} {mA:Str->Option Value} {name:Str} {v:Value}
end
section
variable {P:Program} {w:World} {H H':Hp} {h h':Heap} {a C dx:Addr} {fs fs':List (Str × V)}
end
section
variable {X:Cx} {pins:List (Addr × Obj)} {σ:St} {H:Hp} {s:Shared} {a C dx:Addr} {fs:List (Str × V)} {f:Str} {v:V} {A:Around} {E:Value->Shared->Prop}
end
section
variable {X:Cx} {o e value:Expr} {f:Str} {pos pos' tpos:Pos} {ta tv:TE}
end
section
variable {X:Cx} {pins:List (Addr × Obj)} {σ:St} {H:Hp} {s:Shared} {A:Around} {E:Value->Shared->Prop} {Q:Value->Shared->Prop} {c:Value} {b:Bool}
end
end L2
namespace L2
open PySem PySem.Spec PyProof.Rows
section
variable {X:Cx} {e:Expr} {es:List Expr} {te:TE} {t:TA} {pos:Pos}
end
section
variable {X:Cx} {pins:List (Addr × Obj)} {σ:St} {H:Hp} {s s':Shared}
end
section
variable {X:Cx} {CX:CXT} {k:Nat} {f C:Addr} {fd:FuncData} {ps:List Str} {sp:Sp} {dvs:List V} {ds:List Value} {E:XK} {x m:Str} {p pos apos:Pos} {e o:Expr} {es:List Expr} {ta:TE} {t:TA}
end
section
variable {X:Cx} {CX:CXT} {k:Nat} {f C:Addr} {fd:FuncData} {ps ks:List Str} {sp:Sp} {E:XK} {x m:Str} {p pos apos kpos:Pos} {e o:Expr} {es:List Expr} {kws:List Keyword} {te ta:TE} {t tk:TA} {nm:Option Str}
variable {g:List Value->List Value->List Value} {gV:List V->List V->List V}
end
end L2
namespace L2
open PySem PySem.Spec PyProof.Rows
section
variable {X:Cx} {x:Str} {p pos:Pos} {e:Expr} {es:List Expr} {t:TA} {id T:String} {r:List V->Hp->VK->Prop}
end
end L2
namespace L2
open PySem PySem.Spec PyProof.Rows
section
variable {κ:Type} [DecidableEq κ]
noncomputable def valV (kvs:List (κ × V)) (k:κ):Option V:=(kvs.find? fun kv=>decide (kv.1=k)).map (·.2)
noncomputable def putK (kvs:List (κ × V)) (k:κ) (v:V):List (κ × V) :=
  if (kvs.any fun kv=>decide (kv.1=k))=true then kvs.map (fun kv=>if kv.1=k then (kv.1,v) else kv) else kvs ++ [(k,v)]
theorem valV_pos {p:κ × V} {r:List (κ × V)} {k:κ} (e:p.1=k):valV (p :: r) k=some p.2:=by simp [valV,List.find?_cons,e]
theorem valV_neg {p:κ × V} {r:List (κ × V)} {k:κ} (e:¬ p.1=k):valV (p :: r) k=valV r k:=by simp [valV,List.find?_cons,e]
theorem valV_any (k:κ):∀ kvs:List (κ × V),(kvs.any fun kv=>decide (kv.1=k))=(valV kvs k).isSome
  | []=>rfl
  | p :: r=>by
    rw [List.any_cons]
    by_cases e:p.1=k
    · simp only [valV_pos e,decide_eq_true e,Bool.true_or,Option.isSome_some]
    · rw [valV_neg e,decide_eq_false e,Bool.false_or];exact valV_any k r
theorem length_putK (kvs:List (κ × V)) (k:κ) (v:V):(putK kvs k v).length <= kvs.length + 1:=by
  unfold putK
  split
  · rw [List.length_map];lia
  · rw [List.length_append,List.length_cons,List.length_nil];lia
theorem putK_new {kvs:List (κ × V)} {k:κ} (v:V) (h:valV kvs k=none):putK kvs k v=kvs ++ [(k,v)]:=by
  unfold putK
  rw [valV_any,h]
  exact if_neg (by decide)
theorem RelO.isSome_eq {o:Option V} {u:Option Value} (r:RelO o u):o.isSome=u.isSome:=by
  cases o with
  | none=>cases u with
    | none=>rfl
    | some _=>exact (show False from r).elim
  | some _=>cases u with
    | none=>exact (show False from r).elim
    | some _=>rfl
theorem RelO.getD {o:Option V} {u:Option Value} {d:V} {d':Value} (r:RelO o u) (rd:RelV d d'):RelV (o.getD d) (u.getD d'):=by
  cases o with
  | none=>cases u with
    | none=>exact rd
    | some _=>exact (show False from r).elim
  | some _=>cases u with
    | none=>exact (show False from r).elim
    | some _=>exact r
theorem KV.val {kvs:List (κ × V)} {vs:List (κ × Value)} (r:KV kvs vs) (k:κ):RelO (valV kvs k) (valueAt vs k):=by
  unfold KV at r
  induction r with
  | nil=>exact True.intro
  | @cons p q ps qs h t ih =>
    obtain ⟨h1,h2⟩:=h
    by_cases e:p.1=k
    · have e':q.1=k:=h1.symm.trans e
      have b:valueAt (q :: qs) k=some q.2:=by simp [valueAt,List.find?_cons,e']
      rw [valV_pos e,b];exact h2
    · have e':¬ q.1=k:=fun z=>e (h1.trans z)
      have b:valueAt (q :: qs) k=valueAt qs k:=by simp [valueAt,List.find?_cons,e']
      rw [valV_neg e,b];exact ih
theorem KV.any {kvs:List (κ × V)} {vs:List (κ × Value)} (r:KV kvs vs) (k:κ):(kvs.any fun kv=>decide (kv.1=k))=vs.any fun kv=>decide (kv.1=k):=by
  unfold KV at r
  induction r with
  | nil=>rfl
  | cons h t ih=>rw [List.any_cons,List.any_cons,ih,h.1]
theorem KV.repl {kvs:List (κ × V)} {vs:List (κ × Value)} (r:KV kvs vs) (k:κ) {y:V} {u:Value} (ry:RelV y u) :
    KV (kvs.map fun kv=>if kv.1=k then (kv.1,y) else kv) (vs.map fun kv=>if kv.1=k then (kv.1,u) else kv):=by
  unfold KV at r ⊢
  induction r with
  | nil=>exact .nil
  | @cons p q ps qs h t ih =>
    rw [List.map_cons,List.map_cons]
    refine .cons ?_ ih
    obtain ⟨h1,h2⟩:=h
    by_cases e:p.1=k
    · rw [if_pos e,if_pos (h1.symm.trans e)];exact ⟨h1,ry⟩
    · rw [if_neg e,if_neg (fun z=>e (h1.trans z))];exact ⟨h1,h2⟩
theorem KV.put {kvs:List (κ × V)} {vs:List (κ × Value)} (r:KV kvs vs) (k:κ) {y:V} {u:Value} (ry:RelV y u):KV (putK kvs k y) (stored vs k u):=by
  unfold putK stored
  rw [r.any k]
  by_cases e:(vs.any fun kv=>decide (kv.1=k))=true
  · rw [if_pos e,if_pos e];exact r.repl k ry
  · rw [if_neg e,if_neg e];exact Paired.snoc r ⟨rfl,ry⟩
theorem KV.length {kvs:List (κ × V)} {vs:List (κ × Value)} (r:KV kvs vs):kvs.length=vs.length:=Paired.length r
end
theorem kV_is {P:Program} {w:World} {k:Key} {u:Value} (r:RelV (kV k) u):(mixKind P w).is k u=true:=by
  cases k with
  | inl i=>obtain ⟨t,e⟩:=(show ∃ t,u=Value.int i t from r);subst e;exact mixKind_int P w i t
  | inr x=>obtain ⟨t,e⟩:=(show ∃ t,u=Value.str x t from r);subst e;exact mixKind_str P w x t
theorem items_are {P:Program} {w:World}:∀ {ks:List Key} {us:List Value},Vals (ks.map kV) us->ItemsAre (mixKind P w) ks us
  | [],_,r=>by rw [List.map_nil] at r;cases r;exact .nil
  | k :: ks,_,r=>by
    rw [List.map_cons] at r
    cases r with
    | cons h t=>exact .cons (kV_is h) (items_are t)
noncomputable abbrev KT (H:Hp):List (List Key × V)->List (List Key × Addr × Value)->Prop:=Paired fun p q=>p.1=q.1/\H q.2.1=some (.tup (p.1.map kV))/\RelV p.2 q.2.2
theorem KT.val {H:Hp} {kvs:List (List Key × V)} {xs:List (List Key × Addr × Value)} (r:KT H kvs xs) (k:List Key):RelO (valV kvs k) ((atKey xs k).map (·.2)):=by
  induction r with
  | nil=>exact True.intro
  | @cons p q ps qs h t ih =>
    obtain ⟨h1,_,h2⟩:=h
    by_cases e:p.1=k
    · have e':q.1=k:=h1.symm.trans e
      have b:atKey (q :: qs) k=some q.2:=by simp [atKey,List.find?_cons,e']
      rw [valV_pos e,b];exact h2
    · have e':¬ q.1=k:=fun z=>e (h1.trans z)
      have b:atKey (q :: qs) k=atKey qs k:=by simp [atKey,List.find?_cons,e']
      rw [valV_neg e,b];exact ih
theorem KT.repl {H:Hp} {kvs:List (List Key × V)} {xs:List (List Key × Addr × Value)} (r:KT H kvs xs) (k:List Key) {y:V} {u:Value} (ry:RelV y u) :
    KT H (kvs.map fun kv=>if kv.1=k then (kv.1,y) else kv) (xs.map (putAt k u)):=by
  induction r with
  | nil=>exact .nil
  | @cons p q ps qs h t ih =>
    rw [List.map_cons,List.map_cons]
    refine .cons ?_ ih
    obtain ⟨h1,h2,h3⟩:=h
    unfold putAt
    by_cases e:p.1=k
    · rw [if_pos e,if_pos (h1.symm.trans e)];exact ⟨h1,h2,ry⟩
    · rw [if_neg e,if_neg (fun z=>e (h1.trans z))];exact ⟨h1,h2,h3⟩
theorem KT.put {H:Hp} {kvs:List (List Key × V)} {xs:List (List Key × Addr × Value)} (r:KT H kvs xs) (k:List Key) {b:Addr} {y:V} {u:Value} (hb:H b=some (.tup (k.map kV))) (ry:RelV y u) :
    KT H (putK kvs k y) (storedH xs k b u):=by
  have e:(kvs.any fun kv=>decide (kv.1=k))=(atKey xs k).isSome:=by
    rw [valV_any,(r.val k).isSome_eq,Option.isSome_map]
  unfold putK storedH
  rw [e]
  by_cases q:(atKey xs k).isSome=true
  · rw [if_pos q,if_pos q];exact r.repl k ry
  · rw [if_neg q,if_neg q];exact Paired.snoc r ⟨rfl,hb,ry⟩
theorem KT.keeps {H H':Hp} {kvs:List (List Key × V)} {xs:List (List Key × Addr × Value)} (r:KT H kvs xs) (ht:∀ b ys,H b=some (.tup ys)->H' b=some (.tup ys)):KT H' kvs xs :=
  Paired.mapP r fun _ _ z=>⟨z.1,ht _ _ z.2.1,z.2.2⟩
section
variable {P:Program} {w:World} {H:Hp} {h:Heap} {a:Addr}
theorem rd_of {u:HO} (ok:HOk P w H h) (e:Rd H a u):ObjOk P w H h a u:=e.ok ok
theorem dk_rd {kvs:List (Key × V)} (ok:HOk P w H h) (e:Rd H a (.dK kvs)):kvs.length <= sizeLine/\(a == sysModules)=false/\∃ vs,KV kvs vs/\h.DictOf (mixKind P w) a vs :=
  show ObjOk P w H h a (.dK kvs) from rd_of ok e
theorem dk_of {kvs:List (Key × V)} (ok:HOk P w H h) (e:H a=some (.dK kvs)):kvs.length <= sizeLine/\(a == sysModules)=false/\∃ vs,KV kvs vs/\h.DictOf (mixKind P w) a vs:=dk_rd ok (.inl e)
theorem key_of {ks:List Key} (ok:HOk P w H h) (e:H a=some (.tup (ks.map kV))):(tupleKind (mixKind P w)).is h ks a:=by
  obtain ⟨_,its,r,o,h1,h2,n,h3⟩:=(show ObjOk P w H h a (.tup (ks.map kV)) from ok a _ e)
  exact ⟨o,its.toArray,n,h1,h2,h3,by simpa using items_are r⟩
theorem dt_rd {kvs:List (List Key × V)} (ok:HOk P w H h) (e:Rd H a (.dT kvs)):kvs.length <= sizeLine/\(a == sysModules)=false /\
    ∃ xs,KT H kvs xs/\h.DictOfH (tupleKind (mixKind P w)) a xs:=by
  obtain ⟨z,y,xs,r,o,es,ep,h1,h2,h3,h4,h5⟩:=(show ObjOk P w H h a (.dT kvs) from rd_of ok e)
  refine ⟨z,y,xs,r,o,es,ep,h1,h2,h3,h4,fun x hx=>?_,h5⟩
  have all:∀ {l:List (List Key × V)} {m:List (List Key × Addr × Value)},KT H l m->∀ x ∈ m,(tupleKind (mixKind P w)).is h x.1 x.2.1:=by
    intro l m q
    induction q with
    | nil=>intro x hx;exact nomatch hx
    | @cons p q ps qs hq t ih =>
      intro x hx
      rcases List.mem_cons.mp hx with e | hx
      · subst e
        exact key_of ok (by rw [<- hq.1];exact hq.2.1)
      · exact ih x hx
  exact all r x hx
theorem dt_of {kvs:List (List Key × V)} (ok:HOk P w H h) (e:H a=some (.dT kvs)):kvs.length <= sizeLine/\(a == sysModules)=false /\
    ∃ xs,KT H kvs xs/\h.DictOfH (tupleKind (mixKind P w)) a xs:=dt_rd ok (.inl e)
end
noncomputable def DGet (H:Hp) (a:Addr) (y:V) (r:Option V):Prop :=
  (∃ kvs k,Rd H a (.dK kvs)/\y=kV k/\r=valV kvs k) ∨ ∃ kvs k b,Rd H a (.dT kvs)/\y=.ref b/\H b=some (.tup (k.map kV))/\r=valV kvs k
noncomputable def DPut (H:Hp) (a:Addr) (y v:V) (H':Hp):Prop :=
  (∃ kvs k,H a=some (.dK kvs)/\y=kV k/\kvs.length < sizeLine/\H'=upd H a (.dK (putK kvs k v))) ∨
  ∃ kvs k b,H a=some (.dT kvs)/\y=.ref b/\H b=some (.tup (k.map kV))/\kvs.length < sizeLine/\H'=upd H a (.dT (putK kvs k v))
theorem DGet.k {H:Hp} {a:Addr} {kvs:List (Key × V)} {k:Key} (e:H a=some (.dK kvs)):DGet H a (kV k) (valV kvs k):=.inl ⟨kvs,k,.inl e,rfl,rfl⟩
theorem DPut.k {H:Hp} {a:Addr} {kvs:List (Key × V)} {k:Key} {v:V} (e:H a=some (.dK kvs)) (hl:kvs.length < sizeLine):DPut H a (kV k) v (upd H a (.dK (putK kvs k v))):=.inl ⟨kvs,k,e,rfl,hl,rfl⟩
section
variable {X:Cx} {pins:List (Addr × Obj)} {σ:St} {H:Hp} {s:Shared} {a:Addr} {y v:V} {u r:Value} {o:Option V} {A:Around} {E:Value->Shared->Prop}
theorem Inv.big (I:Inv X pins σ H s):sysModules < s.heap.objs.size:=by
  have h:mainGlobals < s.heap.objs.size:=(I.mod.glob.keeps I.bk).lt
  exact Nat.lt_trans (by decide) h
theorem d_getItem {Q:Value->Shared->Prop} (hu:A.units + 1 < cLine) (I:Inv X pins σ H s) (g:DGet H a y (some v)) (ry:RelV y u) (h:∀ w' s',Inv X pins σ H s'->RelV v w'->Q w' s') :
    wpAny (model X.prog X.w) A (getItem (.ref a) u) Q E s:=by
  rcases g with ⟨kvs,k,e,ey,l⟩ | ⟨kvs,k,b,e,ey,eb,l⟩
  · subst ey
    obtain ⟨z,hd,vs,rel,dd⟩:=dk_rd I.hok e
    obtain ⟨w',hw,rw'⟩:=RelO.some_of (v:=v) (o:=valueAt vs k) (by rw [l];exact rel.val k)
    exact wpAny_getItem_of (kV_is ry) dd.mapOf hw (h w' _ (I.tok _) rw')
  · subst ey
    cases (show u=Value.ref b from ry)
    obtain ⟨z,hd,xs,rel,dd⟩:=dt_rd I.hok e
    obtain ⟨w',hw,rw'⟩:=RelO.some_of (v:=v) (o:=(atKey xs k).map (·.2)) (by rw [l];exact rel.val k)
    obtain ⟨p,hp,hp2⟩:=Option.map_eq_some_iff.mp hw
    refine wpAny_getItem_heap (tupleKind_room_in1 hu) (key_of I.hok eb) dd hp ?_
    rw [hp2]
    exact h w' _ (I.tok _) rw'
theorem d_notIn {Q:Value->Shared->Prop} (hu:A.units + 1 < cLine) (I:Inv X pins σ H s) (g:DGet H a y o) (ry:RelV y u) (h:∀ s',Inv X pins σ H s'->Q (.bool (!o.isSome)) s') :
    wpAny (model X.prog X.w) A (compareOp .NotIn u (.ref a)) Q E s:=by
  rcases g with ⟨kvs,k,e,ey,l⟩ | ⟨kvs,k,b,e,ey,eb,l⟩
  · subst ey
    obtain ⟨z,hd,vs,rel,dd⟩:=dk_rd I.hok e
    refine wpAny_notIn_of (kV_is ry) hd dd.mapOf ?_
    rw [<- (rel.val k).isSome_eq,<- l]
    exact h _ (I.tok _)
  · subst ey
    cases (show u=Value.ref b from ry)
    obtain ⟨z,hd,xs,rel,dd⟩:=dt_rd I.hok e
    refine wpAny_notIn_heap (tupleKind_room_in1 hu) (key_of I.hok eb) hd dd ?_
    have q:=(rel.val k).isSome_eq
    rw [Option.isSome_map] at q
    rw [<- q,<- l]
    exact h _ (I.tok _)
theorem d_write {h':Heap} {t':Nat} {ob:HO} (I:Inv X pins σ H s) (mu:Mut (H a)) (hs:Heap.SameBut a s.heap h') (he:∃ q,h'.get? a=some q) (new:ObjOk X.prog X.w (upd H a ob) h' a ob) :
    Inv X pins σ (upd H a ob) { s with heap:=h',toks:=t' } :=
  I.write (x:=a) (e:=a) mu (.inl rfl) (fun b q hb z=>(hs.2 b hb).trans z) he new
theorem dk_new {P:Program} {w:World} {H':Hp} {h':Heap} {kvs:List (Key × V)} {vs:List (Key × Value)} (z:kvs.length <= sizeLine) (hd:(a == sysModules)=false) (rel:KV kvs vs) (dd:h'.DictOf (mixKind P w) a vs) :
    ObjOk P w H' h' a (.dK kvs):=⟨z,hd,vs,rel,dd⟩
theorem d_setItem {H':Hp} {Q:Unit->Shared->Prop} (hu:A.units + 1 < cLine) (I:Inv X pins σ H s) (g:DPut H a y v H') (ry:RelV y u) (rv:RelV v r) (h:∀ s',Inv X pins σ H' s'->Q () s') :
    wpAny (model X.prog X.w) A (setItem (.ref a) u r) Q E s:=by
  rcases g with ⟨kvs,k,e,ey,l,eH⟩ | ⟨kvs,k,b,e,ey,eb,l,eH⟩
  · subst ey eH
    obtain ⟨z,hd,vs,rel,dd⟩:=dk_of I.hok e
    have hz:vs.length <= sizeLine:=by rw [<- rel.length];exact z
    have hl:(putK kvs k v).length <= sizeLine:=by have:=length_putK kvs k v;lia
    refine wpAny_setItem_pairs (hsz:=hz) (kV_is ry) dd fun h' dd' hs=>h _ ?_
    have he:∃ q,h'.get? a=some q:=let ⟨q,_,_,hq,_⟩:=dd';⟨q,hq⟩
    exact d_write I (by rw [e];exact True.intro) hs he (dk_new hl hd (rel.put k rv) dd')
  · subst ey eH
    cases (show u=Value.ref b from ry)
    obtain ⟨z,hd,xs,rel,dd⟩:=dt_of I.hok e
    have hz:xs.length <= sizeLine:=by rw [<- Paired.length rel];exact z
    have hl:(putK kvs k v).length <= sizeLine:=by have:=length_putK kvs k v;lia
    refine wpAny_setItem_heap (hsz:=hz) (tupleKind_room_in1 hu) (key_of I.hok eb) dd fun h' dd' hs=>h _ ?_
    obtain ⟨q,es,ep,hq,h2,h3,h4,_,h5⟩:=dd'
    refine d_write I (by rw [e];exact True.intro) hs ⟨q,hq⟩ ⟨hl,hd,_,(rel.put k eb rv).keeps fun c ys ec=>?_,q,es,ep,hq,h2,h3,h4,h5⟩
    rw [upd_ne (ne_of ec e (fun z=>nomatch z))]
    exact ec
end
section
variable {X:Cx} {pins:List (Addr × Obj)} {σ:St} {H:Hp} {s:Shared} {a:Addr} {kvs:List (Key × V)} {k:Key} {u:Value} {A:Around} {E:Value->Shared->Prop}
end
noncomputable def NoSl (i:Expr):Prop:=∀ ov iv,subscripted i false ov iv=operate [ov,iv] (getItem ov iv)
theorem subD_of {prog:Program} {w:World} {A:Around} {E:Value->Shared->Prop} {s:Shared} {env:Env} {value slice:Expr} {pos:Pos} {T id:String} {Q:Value->Shared->Prop}
    (hl:typeLookup (.type T) "__getitem__"=pure (some (.builtin id))) (hs:NoSl slice)
    (h:wpAny (model prog w) A (eval value env) (fun o s₁=>wpAny (model prog w) A (eval slice env) (fun i s₂=>s₂.TypeIs o T/\wpAny (model prog w) A (getItem o i) Q E s₂) E s₁) E s) :
    wpAny (model prog w) A (eval (.Subscript value slice pos) env) Q E s:=by
  refine Subscript_ (wpAny_mono h (fun o s₁ h₁=>wpAny_mono h₁ (fun i s₂ h₂=>?_) fun _ _ x=>x) fun _ _ x=>x)
  obtain ⟨hT,h₂⟩:=h₂
  unfold subscriptTail
  refine wpAny_bind ?_
  rw [getitemInPython_of_ne hT.not_modules]
  refine wpAny_bind (wpAny_specialOf hT hl ?_)
  have fin:wpAny (model prog w) A (subscripted slice false o i) (fun r s₃=>wpAny (model prog w) A (letTemporaryGo value o r >>= fun _=>pure r) Q E s₃) E s₂:=by
    rw [hs o i]
    exact wpAny_operating (wpAny_mono h₂ (fun r s₃ h₃=>wpAny_bind (wpAny_letTemporaryGo (wpAny_pure h₃))) fun _ _ x=>x)
  first
    | exact wpAny_pure (wpAny_bind fin)
    | exact wpAny_bind (wpAny_pure (wpAny_bind fin))
    | exact wpAny_bind fin
theorem dict_typeIs {X:Cx} {pins:List (Addr × Obj)} {σ:St} {H:Hp} {s:Shared} {a:Addr} {y:V} {o:Option V} (I:Inv X pins σ H s) (g:DGet H a y o):s.TypeIs (.ref a) "dict":=by
  rcases g with ⟨kvs,k,e,_,_⟩ | ⟨kvs,k,b,e,_,_,_⟩
  · obtain ⟨_,_,vs,_,dd⟩:=dk_rd I.hok e
    exact dd.typeIs
  · obtain ⟨_,_,xs,_,dd⟩:=dt_rd I.hok e
    exact dd.typeIs
noncomputable def tDGet (td ty:TE):TE:=fun σ H Q=>td σ H fun x H1=>ty σ H1 fun y H2=>∃ a v,x=.ref a/\DGet H2 a y (some v)/\Q v H2
noncomputable def tDNotIn (ty td:TE):TE:=fun σ H Q=>ty σ H fun y H1=>td σ H1 fun x H2=>∃ a o,x=.ref a/\DGet H2 a y o/\Q (.bl (!o.isSome)) H2
noncomputable def sDPut (td ty tv:TE):TS:=fun D σ H=>tv σ H fun v H1=>td σ H1 fun x H2=>ty σ H2 fun y H3=>∃ a H4,x=.ref a/\DPut H3 a y v H4/\D.nx σ H4
section
variable {X:Cx} {o i e value:Expr} {pos pos' tpos:Pos} {td ty tv:TE}
theorem pe_dget (hu:X.A.units + 1 < cLine) (ho:PE X o td) (hi:PE X i ty) (hs:NoSl i):PE X (.Subscript o i pos) (tDGet td ty):=by
  intro pins s σ H Q I h
  refine subD_of PySem.F.slot_dict_getitem.lookup hs (thn (ho pins s σ H _ I h) fun u s1 ⟨x,H1,I1,rx,q1⟩=>thn (hi pins s1 σ H1 _ I1 q1) fun iv s2 ⟨y,H2,I2,ry,a,v,ex,g,q2⟩=>?_)
  subst ex
  obtain rfl:u=Value.ref a:=rx
  exact ⟨dict_typeIs I2 g,d_getItem hu I2 g ry fun w' s3 I3 rw'=>⟨v,H2,I3,rw',q2⟩⟩
theorem pc_dnotin (hu:X.A.units + 1 < cLine) (hi:PE X i ty) (ho:PE X o td):PC X .NotIn i o (tDNotIn ty td):=by
  intro pins s σ H Q I h
  refine thn (hi pins s σ H _ I h) fun iv s1 ⟨y,H1,I1,ry,q1⟩=>thn (ho pins s1 σ H1 _ I1 q1) fun u s2 ⟨x,H2,I2,rx,a,ov,ex,g,q2⟩=>?_
  subst ex
  obtain rfl:u=Value.ref a:=rx
  exact d_notIn hu I2 g ry fun s3 I3=>⟨.bl (!ov.isSome),H2,I3,rfl,q2⟩
theorem ps_dput (hu:X.A.units + 1 < cLine) (ho:PE X o td) (hi:PE X i ty) (hv:PE X value tv) (hs:swapsWith value (some (.Subscript o i pos')) pos.line X.env=pure false) :
    PS X (.Assign [.Subscript o i pos'] value pos) (sDPut td ty tv):=by
  intro pins s σ H D I h
  refine wpAny_Assign_Subscript (thn (hv pins s σ H _ I h) fun r s1 ⟨v,H1,I1,rv,q1⟩=>thn (ho pins s1 σ H1 _ I1 q1) fun u s2 ⟨x,H2,I2,rx,q2⟩=>thn (hi pins s2 σ H2 _ I2 q2) fun iv s3 ⟨y,H3,I3,ry,a,H4,ex,g,q3⟩=>?_) hs
  subst ex
  obtain rfl:u=Value.ref a:=rx
  exact d_setItem hu I3 g ry rv fun s4 I4=>⟨σ,H4,I4,q3⟩
end
theorem dk_empty {P:Program} {w:World} {H:Hp} (h:Heap) (hb:sysModules < h.objs.size):ObjOk P w H (h.push { cls:=.type "dict",data:=.dict #[] }) h.objs.size (.dK []) :=
  ⟨Nat.zero_le _,beq_eq_false_iff_ne.mpr (Ne.symm (Nat.ne_of_lt hb)),[],.nil,Heap.DictOf.new h⟩
section
variable {X:Cx} {pos:Pos}
end
structure M1 (X:Cx) (o:Expr) (m:Str) (apos:Pos) (e:Expr) (cpos:Pos):Prop where
  base:attributeBase o m X.env (eval o X.env)=eval o X.env
  few:((backTo cpos (starEach [e] X.env)).all (fun x=>!x.1) && (backToKw cpos (keywordEach [] X.env)).all (fun x=>x.1.isSome)
    && decide (([e]:List Expr).length + ([]:List Keyword).length + (if ([]:List Keyword).isEmpty then 0 else 1) < 30))=true
  line:(apos.endLine == cpos.line)=true
  trees:backTo cpos (starEach [e] X.env)=[(false,eval e X.env)]
structure M2 (X:Cx) (o:Expr) (m:Str) (apos:Pos) (e f:Expr) (cpos:Pos):Prop where
  base:attributeBase o m X.env (eval o X.env)=eval o X.env
  few:((backTo cpos (starEach [e,f] X.env)).all (fun x=>!x.1) && (backToKw cpos (keywordEach [] X.env)).all (fun x=>x.1.isSome)
    && decide (([e,f]:List Expr).length + ([]:List Keyword).length + (if ([]:List Keyword).isEmpty then 0 else 1) < 30))=true
  line:(apos.endLine == cpos.line)=true
  trees:backTo cpos (starEach [e,f] X.env)=[(false,eval e X.env),(false,eval f X.env)]
noncomputable def IsD (H:Hp) (a:Addr):Prop:=(∃ kvs,Rd H a (.dK kvs)) ∨ ∃ kvs,Rd H a (.dT kvs)
theorem isD_at {X:Cx} {pins:List (Addr × Obj)} {σ:St} {H:Hp} {s:Shared} {a:Addr} (I:Inv X pins σ H s) (d:IsD H a) :
    s.TypeIs (.ref a) "dict"/\(∀ b,Value.ref a=.ref b->∃ ob,s.heap.get? b=some ob/\ob.dict=none)/\(a == sysModules)=false:=by
  rcases d with ⟨kvs,e⟩ | ⟨kvs,e⟩
  · obtain ⟨_,hd,vs,_,dd⟩:=dk_rd I.hok e
    refine ⟨dd.typeIs,fun b q=>?_,hd⟩
    cases q
    obtain ⟨ob,_,_,h1,h2,_⟩:=dd
    exact ⟨ob,h1,h2.2.1⟩
  · obtain ⟨_,hd,xs,_,dd⟩:=dt_rd I.hok e
    refine ⟨dd.typeIs,fun b q=>?_,hd⟩
    cases q
    obtain ⟨ob,_,_,h1,h2,_⟩:=dd
    exact ⟨ob,h1,h2.2.1⟩
section
variable {X:Cx} {pins:List (Addr × Obj)} {σ:St} {H:Hp} {s:Shared} {a:Addr} {y d:V} {u r:Value} {o:Option V} {A:Around} {E:Value->Shared->Prop}
theorem d_get1 {Q:Value->Shared->Prop} (hu:A.units + 1 < cLine) (I:Inv X pins σ H s) (g:DGet H a y o) (ry:RelV y u) (h:∀ w' s',Inv X pins σ H s'->RelV (o.getD .non) w'->Q w' s') :
    wpAny (model X.prog X.w) A (call (.builtin "dict.get") [.ref a,u]) Q E s:=by
  rcases g with ⟨kvs,k,e,ey,l⟩ | ⟨kvs,k,b,e,ey,eb,l⟩
  · subst ey
    obtain ⟨z,hd,vs,rel,dd⟩:=dk_rd I.hok e
    refine call_meetsIn PySem.F.slot_dict_get dd.typeIs PySem.F.entry_dict_get (PySem.F.args_dict_get_2 _ _) (meets_dict_get (mixKind X.prog X.w) a (kV_is ry) hd) ⟨_,dd.mapOf,h _ _ (I.tok _) ?_⟩
    rw [l]
    exact (rel.val k).getD rfl
  · subst ey
    cases (show u=Value.ref b from ry)
    obtain ⟨z,hd,xs,rel,dd⟩:=dt_rd I.hok e
    refine call_meetsIn PySem.F.slot_dict_get dd.typeIs PySem.F.entry_dict_get (PySem.F.args_dict_get_2 _ _) (meetsH_dict_get (tupleKind (mixKind X.prog X.w)) a b hd) ⟨tupleKind_room_in1 hu,k,xs,key_of I.hok eb,dd,h _ _ (I.tok _) ?_⟩
    rw [l]
    exact (rel.val k).getD rfl
end
noncomputable def tDGet1 (td ty:TE):TE:=fun σ H Q=>td σ H fun x H1=>∃ a,x=.ref a/\IsD H1 a/\ty σ H1 fun y H2=>∃ o,DGet H2 a y o/\Q (o.getD .non) H2
section
variable {X:Cx} {o e f:Expr} {apos cpos:Pos} {td ty tx:TE}
theorem pe_dget1 (hu:X.A.units + 1 < cLine) (ho:PE X o td) (he:PE X e ty) (m:M1 X o "get" apos e cpos):PE X (.Call (.Attribute o "get" apos) [e] [] cpos) (tDGet1 td ty):=by
  intro pins s σ H Q I h
  refine wpAny_Call_method m.base m.few m.line PySem.F.plainAttrs_dict PySem.F.slot_dict_get PySem.F.type_dict_get (thn (ho pins s σ H _ I h) fun u s1 ⟨x,H1,I1,rx,a,ex,d,q1⟩=>?_)
  subst ex
  obtain rfl:u=Value.ref a:=rx
  obtain ⟨t1,t2,_⟩:=isD_at I1 d
  refine ⟨t1,t2,?_⟩
  rw [m.trees]
  refine Calls.callWith_builtin rfl (Calls.evalArgs_plain (Calls.spliced_cons (thn (he pins s1 σ H1 _ I1 q1) fun iv s2 ⟨y,H2,I2,ry,ov,g,q2⟩=>Calls.spliced_nil ?_)))
  exact d_get1 hu I2 g ry fun w' s3 I3 rw'=>⟨_,H2,I3,rw',q2⟩
end
section
variable {X:Cx} {pins:List (Addr × Obj)} {σ:St} {H:Hp} {s:Shared} {a:Addr} {kvs:List (Key × V)} {A:Around} {E:Value->Shared->Prop}
end
section
variable {X:Cx} {pins:List (Addr × Obj)} {σ:St} {H:Hp} {s:Shared} {a:Addr} {y:V} {u:Value} {A:Around} {E:Value->Shared->Prop}
end
end L2
namespace Att
open PySem PySem.W PySem.Calls PyProof.Rows
section
variable {prog:Program} {w:World} {A:Around} {E:Value->Shared->Prop} {s:Shared} {K:Frag}
end
end Att
namespace L2
open PySem PySem.Spec PyProof.Rows
end L2
namespace L2
open PySem PySem.Spec PyProof.Rows
end L2
namespace L2
open PySem PySem.Spec PyProof.Rows
section
variable {P:Program} {w:World} {K:PySem.W.Frag} {mg:Str->Option Value} {base:Heap}
end
section
variable {X:Cx}
end
section
variable {κ:Type} [DecidableEq κ]
end
end L2
namespace L2
open PySem PySem.Spec PyProof.Rows
section
variable {prog:Program} {w:World} {A:Around} {E:Value->Shared->Prop} {s:Shared}
structure EnT (h:Heap) (e it t:Addr) (k:Nat):Prop where
  en:∃ old,IsEnum h e it k old
  it:h.IsTupleIter it t k
end
section
variable {X:Cx} {pins:List (Addr × Obj)} {σ:St} {H:Hp} {s:Shared}
end
end L2
namespace L2
open PySem PySem.Spec PyProof.Rows
section
variable {prog:Program} {w:World} {A:Around} {E:Value->Shared->Prop} {s:Shared}
end
section
variable {X:Cx} {pins:List (Addr × Obj)} {σ:St} {H:Hp} {s:Shared}
end
end L2
namespace L2
open PySem PySem.Spec PyProof.Rows
section
variable {X:Cx}
end
section
theorem wk2 {σ0:St} (hσ:σ0[0]?=some none/\σ0[1]?=some none) (x y:V):Wk σ0 ((σ0.set 0 (some x)).set 1 (some y)):=by
  refine ⟨by simp,fun j u e=>?_⟩
  by_cases h1:j=1
  · subst h1;rw [hσ.2] at e;cases e
  · rw [List.getElem?_set_ne (Ne.symm h1)]
    by_cases h2:j=0
    · subst h2;rw [hσ.1] at e;cases e
    · rw [List.getElem?_set_ne (Ne.symm h2)];exact e
end
end L2
namespace Mt
noncomputable def fr (q:Rat):List Int:=[q.num,(q.den:Int)]
noncomputable def cut (t b:Int):Rat:=mkRat t b.toNat
theorem cut_num {t b:Int} (hb:0 < b):(cut t b).num=t / (Int.gcd t b:Int):=by
  have h:b.toNat ≠ 0:=by lia
  unfold cut
  rw [Rat.mkRat_def,dif_neg h,Rat.num_normalize]
  have e:b.toNat=b.natAbs:=by lia
  rw [e];rfl
theorem cut_den {t b:Int} (hb:0 < b):((cut t b).den:Int)=b / (Int.gcd t b:Int):=by
  have h:b.toNat ≠ 0:=by lia
  unfold cut
  rw [Rat.mkRat_def,dif_neg h,Rat.den_normalize]
  have e:b.toNat=b.natAbs:=by lia
  rw [e,Int.natCast_ediv]
  have e2:((b.natAbs:Nat):Int)=b:=by lia
  rw [e2];rfl
theorem fr_cut {t b:Int} (hb:0 < b):fr (cut t b)=[t / (Int.gcd t b:Int),b / (Int.gcd t b:Int)]:=by
  unfold fr;rw [cut_num hb,cut_den hb]
structure Bd (n:Nat) (q:Rat):Prop where
  num:q.num.natAbs <= 2 ^ n
  den:q.den <= 2 ^ n
noncomputable def addL:List Int->List Int->List Int:=List.zipWith (· + ·)
noncomputable def share (ns:List Int) (k:Nat):Rat:=cut (ns.getD k 0) ns.sum
structure Urn (n m:Nat) (ns:List Int):Prop where
  len:ns.length=n
  nn:∀ x ∈ ns,0 <= x/\x <= m
  pos:0 < ns.sum
structure Row (n m:Nat) (r:List Int):Prop where
  len:r.length=n
  nn:∀ x ∈ r,0 <= x/\x <= m
structure Rul (n m:Nat) (rs:List (List Int)):Prop where
  len:rs.length=n
  row:∀ r ∈ rs,Row n m r
theorem Rul.at {n m:Nat} {rs:List (List Int)} (h:Rul n m rs) {k:Nat} (hk:k < n):Row n m (rs.getD k []):=by
  have hk':k < rs.length:=by rw [h.len];exact hk
  have:rs.getD k []=rs[k]:=by rw [List.getD_eq_getElem?_getD,List.getElem?_eq_getElem hk'];rfl
  rw [this];exact h.row _ (List.getElem_mem hk')
theorem sum_le {m:Int}:∀ {l:List Int},(∀ x ∈ l,x <= m)->l.sum <= m * (l.length:Int)
  | [],_=>by simp
  | a :: l,h=>by
    rw [List.sum_cons,List.length_cons]
    have h1:=h a List.mem_cons_self
    have h2:=sum_le fun x hx=>h x (List.mem_cons_of_mem _ hx)
    have e:m * ((l.length + 1:Nat):Int)=m * (l.length:Int) + m:=by rw [Int.natCast_add,Int.mul_add];simp
    lia
theorem Urn.getD {n m:Nat} {ns:List Int} (h:Urn n m ns) (k:Nat):0 <= ns.getD k 0/\ns.getD k 0 <= m:=by
  rw [List.getD_eq_getElem?_getD]
  cases e:ns[k]? with
  | none=>simp
  | some x=>exact h.nn x (List.mem_of_getElem? e)
end Mt
namespace Md
open PySem PySem.Spec L2 Mt
noncomputable def dl (k:List Int):List Int->Int:=fun k'=>if k'=k then 1 else 0
end Md
namespace L2
open PySem PySem.Spec PyProof.Rows
theorem _root_.PySem.Heap.IsList.at' {h h':Heap} {a:Addr} {items:Array Value} (x:h.IsList a items) (e:∀ o,h.get? a=some o->h'.get? a=some o):h'.IsList a items:=let ⟨o,ho,r⟩:=x;⟨o,e _ ho,r⟩
section
variable {prog:Program} {w:World} {A:Around} {E:Value->Shared->Prop} {s:Shared}
theorem _root_.PySem.Heap.IsList.lt' {h:Heap} {a:Addr} {items:Array Value} (x:h.IsList a items):a < h.objs.size:=let ⟨_,ho,_⟩:=x;Heap.lt_size ho
structure ZipL (h:Heap) (z TI TO i1 i2 t1 t2:Addr) (k:Nat):Prop where
  zz:IsZip h z TI TO .none
  ti:IsPair h TI (.ref i1) (.ref i2)
  tO:∃ a b,IsPair h TO a b
  it1:h.IsListIter i1 t1 k
  it2:h.IsTupleIter i2 t2 k
noncomputable abbrev lit (t:Addr):Obj:={ cls:=.type "list_iterator",data:=.fields #[.ref t,.int 0 0] }
end
section
variable {X:Cx} {pins:List (Addr × Obj)} {σ:St} {H:Hp} {s:Shared}
end
end L2
namespace L2
open PySem PySem.Spec PyProof.Rows
section
variable {X:Cx} {K:PySem.W.Frag}
end
section
variable {prog:Program} {w:World} {A:Around} {E:Value->Shared->Prop} {s:Shared}
end
section
variable {X:Cx}
end
end L2
namespace L2
open PySem PySem.Spec PyProof.Rows
theorem fn_of0 {CX:CXT} {P:Program} {w:World} {K:PySem.W.Frag} {mg:Str->Option Value} {base:Heap} {f:Addr} {name qual:Str} {params:Arguments} {body:List Stmt} {scope:Scope} {dV kV doc pm cdv ct oc:Value} {an od:Option Addr}
    {osl:Array (Option Value)} {N ps:List Str} {sp:Sp} (lk:K.lookup f=some ⟨oc,od,.func (PySem.W.fnOf name qual params body scope dV kV doc pm an cdv ct),osl⟩) (hcd:PySem.W.codeIn K cdv qual=true) (S:FnScope N ps scope)
    (len:∀ vs H Q E,sp vs H Q E->vs.length=ps.length)
    (hbody:∀ (A:Around) (outer:List Env) (s:Shared) (H:Hp) (vs:List V) (Q:VK) (E:XK),sp vs H Q E ->
      ∃ t,PSs (cxOf CX P w K mg base N qual scope f cdv A outer s H E) body t/\t { nx:=fun _ H'=>Q .non H',rt:=Q } (start N vs) H) :
    FnOk P w K mg base CX 0 f (PySem.W.fnOf name qual params body scope dV kV doc pm an cdv ct) ps sp:=by
  refine ⟨len,fun A outer s H args us vs Q E hr e0 hb r hsp=>?_⟩
  have hl:=len _ _ _ _ hsp
  have KX:K.In s.heap:=e0.mod.kin.keeps fun b o e=>(e0.bs b o e).1
  have lim:s.heap.NoLimit:=e0.mod.nolimit.keeps fun b o e=>(e0.bs b o e).1
  have hkind:∀ y ∈ ps.zip us,scope.names.lookup y.1=some .local ∨ (scope.names.lookup y.1=some .cell/\((cellsFrom (s.heap.objs.size + 1) scope.names []).lookup y.1).isSome=true):=fun ⟨n,v⟩ hy=>by
    rcases S.par n (List.of_mem_zip hy).1 with q | q
    · exact .inl q
    · exact .inr ⟨q,PySem.W.cellsFrom_some _ _ _ (.inl q)⟩
  refine codeAny_call_function hr.depth (KX _ _ lk) rfl S.co S.gen rfl (PySem.W.codeRec_of KX hcd) (hb _ _ _ _ ?_)
  refine wpAny_newFunctionEnv_cells S.kind hkind fun env he s1 x=>?_
  subst he
  refine ⟨lim.keeps x.toInCall.keep,codeAny_func ?_⟩
  obtain ⟨t,ht,hq⟩:=hbody A outer s H vs Q E hsp
  have I:Inv (cxOf CX P w K mg base N qual scope f cdv A outer s H E) [] (start N vs) H s1:=inv_start S hr.hd e0 hl r x
  refine wpAny_mono (ht [] s1 (start N vs) H _ I hq) (fun fl s' hs=>?_) fun e s' hs=>hs
  have fin:∀ {σ':St} {H':Hp} {v:V} {u:Value},Inv (cxOf CX P w K mg base N qual scope f cdv A outer s H E) [] σ' H' s'->RelV v u->Q v H'->CE outer P w H s Q u s' :=
    fun {σ' H' v u} J rv q=>⟨v,H',J.os,J.bare,J.base,J.hok,rv,q⟩
  cases fl with
  | ret u =>
    obtain ⟨v,σ',H',J,rv,q⟩:=hs
    exact fin J rv q
  | next =>
    obtain ⟨σ',H',J,q⟩:=hs
    exact fin (v:=V.non) (u:=Value.none) J rfl q
  | brk =>
    obtain ⟨_,_,_,q⟩:=hs
    exact False.elim q
  | cont =>
    obtain ⟨_,_,_,q⟩:=hs
    exact False.elim q
theorem Fun.ok0 {P:Program} {w:World} {K:PySem.W.Frag} {mg:Str->Option Value} {base:Heap} {x qual:Str} {st:Stmt} {f:Addr} {fd:FuncData} {N ps:List Str} {sp:Sp} (F:Fun K x qual st f fd) (S:FnScope N ps (defScope st)) (len:∀ vs H Q E,sp vs H Q E->vs.length=ps.length)
    (hbody:∀ (cdv:Value) (A:Around) (outer:List Env) (s:Shared) (H:Hp) (vs:List V) (Q:VK) (E:XK),sp vs H Q E ->
      ∃ t,PSs (cxOf CX0 P w K mg base N qual (defScope st) f cdv A outer s H E).nox (defBody st) t/\t { nx:=fun _ H'=>Q .non H',rt:=Q } (start N vs) H):FnOk P w K mg base CX0 0 f fd ps sp:=by
  obtain ⟨oc,od,kV,doc,pm,an,cdv,ct,osl,rfl,lk,hcd⟩:=F.ex
  refine fn_of0 lk hcd S len fun A outer s H vs Q E hsp=>?_
  obtain ⟨t,h,q⟩:=hbody cdv A outer s H vs Q E hsp
  exact ⟨t,h.nox,q⟩
section
variable {X:Cx}
end
end L2
namespace G
open PySem PySem.Spec PyProof.Rows L2 Mt
noncomputable def top (i:Nat):Stmt:=PySem.Challenge.pw_growurns_k94_desk_refuses.main.body.getD i (.Pass ⟨0,0,0,0⟩)
structure Bt (mg:Str->Option Value):Prop where
  isinstance:mg "isinstance"=none
  bool:mg "bool"=none
  int:mg "int"=none
  tuple:mg "tuple"=none
  list:mg "list"=none
  all:mg "all"=none
  sum:mg "sum"=none
  len:mg "len"=none
  range:mg "range"=none
  max:mg "max"=none
  min:mg "min"=none
  abs:mg "abs"=none
  zip:mg "zip"=none
noncomputable def wholeD (lo hi:Int):PyData->Bool
  | .int i=>decide (lo <= i) && decide (i <= hi)
  | _=>false
section
variable {P:Program} {w:World} {K:PySem.W.Frag} {mg:Str->Option Value} {base:Heap} {f:Addr} {fd:FuncData}
noncomputable def numD:PyData->Bool
  | .int _=>true
  | _=>false
noncomputable def sp_is_number:Sp:=fun vs H Q _=>∃ (v:V) (st:Addr) (d:PyData),vs=[v]/\Dt st H d v/\Q (.bl (numD d)) H
noncomputable abbrev s_is_number:Stmt:=top 13
theorem sc_is_number:FnScope ["thing"] ["thing"] (defScope s_is_number):=⟨rfl,rfl,rfl,by decide +kernel,rfl,by decide +kernel,by decide +kernel⟩
theorem ok_is_number (F:Fun K "is_number" "is_number" s_is_number f fd) (B:Bt mg):FnOk P w K mg base CX0 0 f fd ["thing"] sp_is_number:=by
  refine F.ok0 sc_is_number (fun vs H Q E h=>?_) (fun cdv A outer s H vs Q E h=>?_)
  · obtain ⟨v,st,d,rfl,_⟩:=h
    rfl
  obtain ⟨v,st,d,rfl,hd,q⟩:=h
  refine ⟨_,pss_one (ps_ret (pe_and (pe_callB (call_isi kit_int) rfl B.isinstance boot_isinstance (pa_cons (pv 0) (pa_cons (pe_bty rfl B.int boot_int) pa_nil)))
    (pe_one (pe_not (pe_callB (call_isi kit_bool) rfl B.isinstance boot_isinstance (pa_cons (pv 0) (pa_cons (pe_bty rfl B.bool boot_bool) pa_nil))))))),?_⟩
  refine ⟨_,rfl,v,st,d,rfl,hd,_,rfl,?_⟩
  cases d with
  | bool b=>exact ⟨_,rfl,v,st,_,rfl,hd,_,rfl,q⟩
  | int i=>exact ⟨_,rfl,v,st,_,rfl,hd,_,rfl,q⟩
  | none=>exact q
  | str x=>exact q
  | list ds=>exact q
  | tuple ds=>exact q
  | dict kvs=>exact q
noncomputable def sp_is_whole:Sp:=fun vs H Q _=>∃ (v:V) (st:Addr) (d:PyData) (lo hi:Int),vs=[v,.int lo,.int hi]/\Dt st H d v/\Q (.bl (wholeD lo hi d)) H
noncomputable abbrev s_is_whole:Stmt:=top 14
theorem sc_is_whole:FnScope ["thing","low","high"] ["thing","low","high"] (defScope s_is_whole):=⟨rfl,rfl,rfl,by decide +kernel,rfl,by decide +kernel,by decide +kernel⟩
theorem ok_is_whole (F:Fun K "is_whole" "is_whole" s_is_whole f fd) (c1:Cal P w K mg base 0 "is_number" ["thing"] sp_is_number):FnOk P w K mg base CX0 1 f fd ["thing","low","high"] sp_is_whole:=by
  refine F.ok sc_is_whole (fun vs H Q E h=>?_) (fun cdv A outer s H vs Q E hr h=>?_)
  · obtain ⟨v,st,d,lo,hi,rfl,_⟩:=h
    rfl
  obtain ⟨v,st,d,lo,hi,rfl,hd,q⟩:=h
  refine ⟨_,pss_one (ps_ret (pe_and (pe_cal c1 hr rfl (pa_cons (pv 0) pa_nil)) (pe_one (pe_chain op_le op_le (pv 1) (pv 0) (pv 2))))),?_⟩
  refine ⟨_,rfl,v,st,d,rfl,hd,_,rfl,?_⟩
  cases d with
  | int i =>
    refine iteT ?_
    unfold Dt at hd
    subst hd
    refine ⟨_,rfl,_,rfl,lo,i,rfl,rfl,_,rfl,?_⟩
    have q':Q (.bl (decide (lo <= i) && decide (i <= hi))) H:=q
    by_cases h1:lo <= i
    · rw [decide_eq_true h1,Bool.true_and] at q'
      rw [decide_eq_true h1]
      exact iteT ⟨_,rfl,i,hi,rfl,rfl,q'⟩
    · rw [decide_eq_false h1,Bool.false_and] at q'
      rw [decide_eq_false h1]
      exact iteF q'
  | bool b=>exact q
  | none=>exact q
  | str x=>exact q
  | list ds=>exact q
  | tuple ds=>exact q
  | dict kvs=>exact q
noncomputable def wholesD (lo hi:Int):PyData->Bool
  | .tuple ds=>ds.all (wholeD lo hi)
  | _=>false
noncomputable def sp_are_wholes:Sp:=fun vs H Q _=>∃ (v:V) (st:Addr) (d:PyData) (lo hi:Int),vs=[v,.int lo,.int hi]/\Dt st H d v/\(∀ ds,d=.tuple ds->ds.length <= 1000)/\∀ H',Same H H'->Q (.bl (wholesD lo hi d)) H'
noncomputable abbrev s_are_wholes:Stmt:=top 15
theorem sc_are_wholes:FnScope ["thing","low","high"] ["thing","low","high"] (defScope s_are_wholes):=⟨rfl,rfl,rfl,by decide +kernel,rfl,by decide +kernel,by decide +kernel⟩
theorem ok_are_wholes (F:Fun K "are_wholes" "are_wholes" s_are_wholes f fd) (B:Bt mg) (c1:Cal P w K mg base 1 "is_whole" ["thing","low","high"] sp_is_whole):FnOk P w K mg base CX0 2 f fd ["thing","low","high"] sp_are_wholes:=by
  refine F.ok sc_are_wholes (fun vs H Q E h=>?_) (fun cdv A outer s H vs Q E hr h=>?_)
  · obtain ⟨v,st,d,lo,hi,rfl,_⟩:=h
    rfl
  obtain ⟨v,st,d,lo,hi,rfl,hd,hl,q⟩:=h
  refine ⟨_,pss_one (ps_ret (pe_and (pe_callB (call_isi kit_tup) rfl B.isinstance boot_isinstance (pa_cons (pv 0) (pa_cons (pe_bty rfl B.tuple boot_tuple) pa_nil)))
    (pe_one (pe_callB (call_all_seq rfl) rfl B.all boot_all (pa_cons (pe_compG (N:=["part","low","high"]) (ix:=[none,some 1,some 2]) (ifs:=[]) (tc:=tTrue) rfl (pi_tup (pv 0))
      (fun s H ex=>pg_c (i:=0) (by decide +kernel) rfl (Or.inl rfl) (.inr rfl)) (fun s H ex=>pifs_nil) (fun s H ex=>pe_cal c1 hr rfl (pa_cons (pv 0) (pa_cons (pv 1) (pa_cons (pv 2) pa_nil)))) rfl (by decide +kernel) (by rfl) (by rfl) (fun _=>rfl)) pa_nil))))),?_⟩
  refine ⟨_,rfl,v,st,d,rfl,hd,_,rfl,?_⟩
  cases d with
  | tuple ds =>
    refine iteT ?_
    obtain ⟨a,xs,rfl,ne,ha,hds⟩:∃ a xs,v=.ref a/\a ≠ st/\H a=some (.tup xs)/\Dts st H ds xs:=by unfold Dt at hd;exact hd
    have hlen:=hds.len
    have hl':=hl ds rfl
    refine ⟨_,rfl,a,rfl,⟨xs,.of ha⟩,blk_tup (K:=K) (a:=a) (xs:=xs) (sz (by lia)) (fun i ys H2=>Same H H2/\i <= ds.length/\ys=(ds.take i).map fun d=>V.bl (wholeD lo hi d)) ⟨Same.refl H,Nat.zero_le _,rfl⟩ (fun i ys H2 h=>?_) (fun i ys H2 _ h=>.of (h.1 _ _ ha)) rfl (fun i ys H2 x hx h=>?_) (fun ys H2 h=>?_)⟩
    · obtain ⟨_,hi,rfl⟩:=h
      rw [List.length_map,List.length_take];lia
    · obtain ⟨hS,hil,rfl⟩:=h
      obtain ⟨d,hd',dt⟩:=hds.get hx
      refine ⟨_,rfl,_,rfl,_,rfl,x,st,d,lo,hi,rfl,dt.kp (hS.kp st),hS,(List.getElem?_eq_some_iff.mp hd').1,?_⟩
      rw [List.take_add_one,hd',List.map_append];rfl
    · obtain ⟨hS,hil,rfl⟩:=h
      intro p hp
      refine ⟨p,_,rfl,.inl (.of upd_same),?_,?_⟩
      · rw [List.all_map];exact List.all_eq_true.mpr fun _ _=>rfl
      · have e:(((ds.take xs.length).map fun d=>V.bl (wholeD lo hi d)).all truV)=wholesD lo hi (.tuple ds):=by
          rw [<- hlen,List.take_length,List.all_map];rfl
        rw [e]
        exact q _ (hS.trans (Same.new hp))
  | _=>exact q H (Same.refl H)
end
end G
namespace G
open PySem PySem.Spec PyProof.Rows L2 Mt
structure Ct (mg:Str->Option Value):Prop where
  kinds:∃ t,mg "MOST_KINDS"=some (.int 4 t)
  balls:∃ t,mg "MOST_BALLS"=some (.int 20 t)
  puts:∃ t,mg "MOST_PUT_IN"=some (.int 5 t)
theorem _root_.L2.Dt.untup {st:Addr} {H:Hp} {ds:List PyData} {v:V} (h:Dt st H (.tuple ds) v):∃ a xs,v=.ref a/\a ≠ st/\H a=some (.tup xs)/\Dts st H ds xs:=by unfold Dt at h;exact h
theorem _root_.L2.Dt.unint {st:Addr} {H:Hp} {i:Int} {v:V} (h:Dt st H (.int i) v):v=.int i:=by unfold Dt at h;exact h
theorem wholeD_int {lo hi:Int} {d:PyData} (h:wholeD lo hi d=true):∃ i,d=.int i/\lo <= i/\i <= hi:=by
  cases d with
  | int i =>
    have h':(decide (lo <= i) && decide (i <= hi))=true:=h
    rw [Bool.and_eq_true] at h'
    exact ⟨i,rfl,of_decide_eq_true h'.1,of_decide_eq_true h'.2⟩
  | _=>cases (show false=true from h)
theorem all_ints {lo hi:Int}:∀ {ds:List PyData},ds.all (wholeD lo hi)=true->∃ ns:List Int,ds=ns.map .int/\∀ x ∈ ns,lo <= x/\x <= hi
  | [],_=>⟨[],rfl,by simp⟩
  | d :: ds,h=>by
    rw [List.all_cons,Bool.and_eq_true] at h
    obtain ⟨i,e,h1,h2⟩:=wholeD_int h.1
    obtain ⟨ns,e2,h3⟩:=all_ints h.2
    subst e e2
    exact ⟨i :: ns,rfl,fun x hx=>by
      rcases List.mem_cons.mp hx with z | z
      · subst z;exact ⟨h1,h2⟩
      · exact h3 x z⟩
theorem wholesD_ints {lo hi:Int} {d:PyData} (h:wholesD lo hi d=true):∃ ns:List Int,d=DI ns/\∀ x ∈ ns,lo <= x/\x <= hi:=by
  cases d with
  | tuple ds =>
    obtain ⟨ns,e,h2⟩:=all_ints (ds:=ds) h
    subst e
    exact ⟨ns,rfl,h2⟩
  | _=>cases (show false=true from h)
noncomputable def intD:PyData->Int
  | .int i=>i
  | _=>0
noncomputable def lenD:PyData->Nat
  | .tuple ds=>ds.length
  | _=>0
noncomputable def sumD:PyData->Int
  | .tuple ds=>(ds.map intD).sum
  | _=>0
theorem sumD_DI (ns:List Int):sumD (DI ns)=ns.sum:=by
  show ((ns.map PyData.int).map intD).sum=ns.sum
  rw [List.map_map]
  have e:(intD ∘ PyData.int)=id:=by funext i;rfl
  rw [e,List.map_id]
theorem lenD_DI (ns:List Int):lenD (DI ns)=ns.length:=by show (ns.map PyData.int).length=_;rw [List.length_map]
noncomputable def urnD (m:Int) (d:PyData):Bool:=wholesD 0 m d && ((decide ((1:Int) <= lenD d) && decide ((lenD d:Int) <= 4)) && decide ((0:Int) < sumD d))
noncomputable def ruleD (k:Int) (d:PyData):Bool:=match d with
  | .tuple ds=>decide ((ds.length:Int)=k) && ds.all (fun r=>wholesD 0 5 r && decide ((lenD r:Int)=k))
  | _=>false
noncomputable def short (d:PyData):Prop:=∀ ds,d=.tuple ds->ds.length <= 1000
section
variable {P:Program} {w:World} {K:PySem.W.Frag} {mg:Str->Option Value} {base:Heap} {f:Addr} {fd:FuncData}
noncomputable def sp_is_urn_up_to:Sp:=fun vs H Q _=>∃ (v:V) (st:Addr) (d:PyData) (m:Int),vs=[v,.int m]/\Dt st H d v/\short d/\∀ H',Same H H'->Q (.bl (urnD m d)) H'
noncomputable abbrev s_is_urn_up_to:Stmt:=top 27
theorem sc_is_urn_up_to:FnScope ["thing","most"] ["thing","most"] (defScope s_is_urn_up_to):=⟨rfl,rfl,rfl,by decide +kernel,rfl,by decide +kernel,by decide +kernel⟩
theorem ok_is_urn_up_to (F:Fun K "is_urn_up_to" "is_urn_up_to" s_is_urn_up_to f fd) (B:Bt mg) (C:Ct mg) (c1:Cal P w K mg base 2 "are_wholes" ["thing","low","high"] sp_are_wholes):FnOk P w K mg base CX0 3 f fd ["thing","most"] sp_is_urn_up_to:=by
  refine F.ok sc_is_urn_up_to (fun vs H Q E h=>?_) (fun cdv A outer s H vs Q E hr h=>?_)
  · obtain ⟨v,st,d,m,rfl,_⟩:=h
    rfl
  obtain ⟨v,st,d,m,rfl,hd,hl,q⟩:=h
  obtain ⟨tk,hk⟩:=C.kinds
  refine ⟨_,pss_cons (ps_if (pt_not (pt_val (pe_cal c1 hr rfl (pa_cons (pv 0) (pa_cons pe_int (pa_cons (pv 1) pa_nil)))))) (pss_one (ps_ret pe_bl)) pss_nil)
    (pss_one (ps_ret (pe_and (pe_chain op_le op_le pe_int (pe_callB call_len_seq rfl B.len PySem.boot_len (pa_cons (pv 0) pa_nil)) (pe_glob (v:=.int 4) rfl hk ⟨tk,rfl⟩))
      (pe_one (pe_cmpR op_gt (pe_callB (call_sum_seq rfl) rfl B.sum boot_sum (pa_cons (pv 0) pa_nil)) pe_int (nomark _)))))),?_⟩
  refine ⟨_,rfl,_,rfl,v,st,d,0,m,rfl,hd,hl,fun H1 g1=>⟨_,rfl,?_⟩⟩
  have q1:=q H1 g1
  unfold urnD at q1
  cases hw:wholesD 0 m d with
  | false =>
    rw [hw,Bool.false_and] at q1
    exact iteT q1
  | true =>
    rw [hw,Bool.true_and] at q1
    refine iteF ?_
    obtain ⟨ns,e,hns⟩:=wholesD_ints hw
    subst e
    obtain ⟨a,e,ne,ha⟩:=hd.di
    subst e
    rw [lenD_DI,sumD_DI] at q1
    have ha1:=g1 _ _ ha
    refine ⟨_,rfl,a,_,rfl,.inr (.of ha1),_,_,rfl,rfl,_,rfl,?_⟩
    rw [List.length_map]
    by_cases h1:(1:Int) <= (ns.length:Int)
    · rw [decide_eq_true h1,Bool.true_and] at q1
      rw [decide_eq_true h1]
      refine iteT ⟨_,_,rfl,rfl,_,rfl,?_⟩
      by_cases h2:(ns.length:Int) <= 4
      · rw [decide_eq_true h2,Bool.true_and] at q1
        rw [decide_eq_true h2]
        exact iteT ⟨_,rfl,a,ns,rfl,.inr (.of ha1),_,_,rfl,rfl,q1⟩
      · rw [decide_eq_false h2,Bool.false_and] at q1
        rw [decide_eq_false h2]
        exact iteF q1
    · rw [decide_eq_false h1,Bool.false_and,Bool.false_and] at q1
      rw [decide_eq_false h1]
      exact iteF ⟨_,rfl,iteF q1⟩
noncomputable def sp_is_urn:Sp:=fun vs H Q _=>∃ (v:V) (st:Addr) (d:PyData),vs=[v]/\Dt st H d v/\short d/\∀ H',Same H H'->Q (.bl (urnD 20 d)) H'
noncomputable abbrev s_is_urn:Stmt:=top 26
theorem sc_is_urn:FnScope ["thing"] ["thing"] (defScope s_is_urn):=⟨rfl,rfl,rfl,by decide +kernel,rfl,by decide +kernel,by decide +kernel⟩
theorem ok_is_urn (F:Fun K "is_urn" "is_urn" s_is_urn f fd) (C:Ct mg) (c1:Cal P w K mg base 3 "is_urn_up_to" ["thing","most"] sp_is_urn_up_to):FnOk P w K mg base CX0 4 f fd ["thing"] sp_is_urn:=by
  refine F.ok sc_is_urn (fun vs H Q E h=>?_) (fun cdv A outer s H vs Q E hr h=>?_)
  · obtain ⟨v,st,d,rfl,_⟩:=h
    rfl
  obtain ⟨v,st,d,rfl,hd,hl,q⟩:=h
  obtain ⟨tk,hk⟩:=C.balls
  refine ⟨_,pss_one (ps_ret (pe_cal c1 hr rfl (pa_cons (pv 0) (pa_cons (pe_glob (v:=.int 20) rfl hk ⟨tk,rfl⟩) pa_nil)))),?_⟩
  exact ⟨_,rfl,v,st,d,20,rfl,hd,hl,q⟩
noncomputable def sp_need_number (c:Nat->Addr):Sp:=fun vs H Q E=>∃ (v:V) (st:Addr) (d:PyData) (lo hi:Int),vs=[v,.int lo,.int hi]/\Dt st H d v/\Sm lo/\Sm hi/\(wholeD lo hi d=true->Q .non H)/\(wholeD lo hi d=false->E (.ref (c 5)) none H)
noncomputable abbrev s_need_number:Stmt:=top 16
theorem sc_need_number:FnScope ["thing","low","high"] ["thing","low","high"] (defScope s_need_number):=⟨rfl,rfl,rfl,by decide +kernel,rfl,by decide +kernel,by decide +kernel⟩
theorem ok_need_number {c:Nat->Addr} {B:Addr} (F:Fun K "need_number" "need_number" s_need_number f fd) (R:Errs K mg c B) (c1:Cal P w K mg base 1 "is_whole" ["thing","low","high"] sp_is_whole):FnOk P w K mg base (CX1 P w) 2 f fd ["thing","low","high"] (sp_need_number c):=by
  refine F.okX sc_need_number (fun vs H Q E h=>?_) (fun cdv A outer s H vs Q E hr h=>?_)
  · obtain ⟨v,st,d,lo,hi,rfl,_⟩:=h
    rfl
  obtain ⟨v,st,d,lo,hi,rfl,hd,slo,shi,q1,q2⟩:=h
  refine ⟨_,pss_one (ps_if (pt_not (pt_val (pe_cal c1 hr rfl (pa_cons (pv 0) (pa_cons (pv 1) (pa_cons (pv 2) pa_nil)))))) (pss_one (ps_raise1 R.e5 (R.xc 5 (by decide)) (pe_fstr (pj_str (pj_fmt (pv 1) (pj_str (pj_fmt (pv 2) pj_nil))))) (fun σ H Q Q' m q=>?_))) pss_nil),?_⟩
  · obtain ⟨v1,z1,i1,z2,z3,z4,v2,z5,i2,z6,z7,z8,z9⟩:=q
    exact ⟨v1,z1,i1,z2,z3,z4,v2,z5,i2,z6,z7,z8,fun z=>m _ _ (z9 z)⟩
  refine ⟨_,rfl,_,rfl,_,rfl,v,st,d,lo,hi,rfl,hd,_,rfl,?_⟩
  cases hw:wholeD lo hi d with
  | true=>exact iteF (q1 hw)
  | false=>exact iteT ⟨_,rfl,lo,rfl,slo.1,slo.2,_,rfl,hi,rfl,shi.1,shi.2,fun z=>q2 hw⟩
noncomputable def sp_is_rule (c:Nat->Addr):Sp:=fun vs H Q E=>∃ (u v:V) (st:Addr) (dk d:PyData),vs=[u,v]/\Dt st H dk u/\(wholeD 1 4 dk=false->E (.ref (c 5)) none H) /\
  (∀ k,dk=.int k->1 <= k->k <= 4->Dt st H d v/\short d/\(∀ ds,d=.tuple ds->∀ r ∈ ds,short r)/\∀ H',Same H H'->Q (.bl (ruleD k d)) H')
noncomputable abbrev s_is_rule:Stmt:=top 28
theorem sc_is_rule:FnScope ["kinds","thing"] ["kinds","thing"] (defScope s_is_rule):=⟨rfl,rfl,rfl,by decide +kernel,rfl,by decide +kernel,by decide +kernel⟩
theorem sm1:Sm 1:=by unfold Sm;decide +kernel
theorem sm4:Sm 4:=by unfold Sm;decide +kernel
theorem ok_is_rule {c:Nat->Addr} (F:Fun K "is_rule" "is_rule" s_is_rule f fd) (B:Bt mg) (C:Ct mg) (c1:Cal P w K mg base 2 "are_wholes" ["thing","low","high"] sp_are_wholes) (c2:CalX P w K mg base 2 "need_number" ["thing","low","high"] (sp_need_number c)):FnOk P w K mg base (CX1 P w) 3 f fd ["kinds","thing"] (sp_is_rule c):=by
  refine F.okX sc_is_rule (fun vs H Q E h=>?_) (fun cdv A outer s H vs Q E hr h=>?_)
  · obtain ⟨u,v,st,dk,d,rfl,_⟩:=h
    rfl
  obtain ⟨u,v,st,dk,d,rfl,hu,qE,qQ⟩:=h
  obtain ⟨tk,hk⟩:=C.kinds
  obtain ⟨tp,hp⟩:=C.puts
  refine ⟨_,pss_cons (ps_expr (pe_calx c2 hr rfl passes1 (pa_cons (pv 0) (pa_cons pe_int (pa_cons (pe_glob (v:=.int 4) rfl hk ⟨tk,rfl⟩) pa_nil)))))
    (PSs.nox (pss_cons (ps_if (PW.pt (pw_or (pt_not (pt_val (pe_callB (call_isi kit_tup) rfl B.isinstance boot_isinstance (pa_cons (pv 1) (pa_cons (pe_bty rfl B.tuple boot_tuple) pa_nil)))))
      (pw_or1 (pt_cmpR op_ne (pe_callB call_len_seq rfl B.len PySem.boot_len (pa_cons (pv 1) pa_nil)) (pv 0) (nomark _))))) (pss_one (ps_ret pe_bl)) pss_nil)
    (pss_one (ps_ret (pe_callB (call_all_seq rfl) rfl B.all boot_all (pa_cons (pe_compG (N:=["row","kinds"]) (ix:=[none,some 0]) (ifs:=[]) (tc:=tTrue) rfl (pi_tup (pv 1))
      (fun s H ex=>pg_c (i:=0) (by decide +kernel) rfl (Or.inl rfl) (.inr rfl)) (fun s H ex=>pifs_nil)
      (fun s H ex=>pe_and (pe_cal c1 hr rfl (pa_cons (pv 0) (pa_cons pe_int (pa_cons (pe_glob (v:=.int 5) rfl hp ⟨tp,rfl⟩) pa_nil)))) (pe_one (pe_cmpR op_eq (pe_callB (lenK (K:=K) rfl) rfl B.len PySem.boot_len (pa_cons (pv 0) pa_nil)) (pv 1) (nomark _)))) rfl (by decide +kernel) (by rfl) (by rfl) (fun _=>rfl)) pa_nil)))))),?_⟩
  refine ⟨_,rfl,u,st,dk,1,4,rfl,hu,sm1,sm4,fun hw=>?_,qE⟩
  obtain ⟨k,e,k1,k4⟩:=wholeD_int hw
  subst e
  obtain rfl:=hu.unint
  obtain ⟨hd,hl,hl2,q⟩:=qQ k rfl k1 k4
  refine ⟨_,rfl,v,st,d,rfl,hd,_,rfl,?_⟩
  cases d with
  | tuple ds =>
    obtain ⟨a,xs,e,ne,ha,hds⟩:=hd.untup
    subst e
    have hlen:=hds.len
    have hl':=hl ds rfl
    refine iteF ⟨_,rfl,a,xs,rfl,.inr (.of ha),_,rfl,rfl,_,rfl,?_⟩
    have q0:=fun H' g=>q H' g
    unfold ruleD at q0
    by_cases hk':(ds.length:Int)=k
    · have e1:V.int (xs.length:Int)=V.int k:=by rw [<- hlen,hk']
      rw [decide_eq_true e1]
      refine iteF ?_
      have q1:∀ H',Same H H'->Q (.bl (ds.all (fun r=>wholesD 0 5 r && decide ((lenD r:Int)=k)))) H':=fun H' g=>by
        have:=q0 H' g
        simp only [decide_eq_true hk',Bool.true_and] at this
        exact this
      refine ⟨_,rfl,a,rfl,⟨xs,.of ha⟩,blk_tup (K:=K) (a:=a) (xs:=xs) (sz (by lia)) (fun i ys H2=>Same H H2/\i <= ds.length/\ys=(ds.take i).map fun r=>V.bl (wholesD 0 5 r && decide ((lenD r:Int)=k))) ⟨Same.refl H,Nat.zero_le _,rfl⟩ (fun i ys H2 h=>?_) (fun i ys H2 _ h=>.of (h.1 _ _ ha)) rfl (fun i ys H2 x hx h=>?_) (fun ys H2 h=>?_)⟩
      · obtain ⟨_,hil,rfl⟩:=h
        rw [List.length_map,List.length_take];lia
      · obtain ⟨hS,hil,rfl⟩:=h
        obtain ⟨d,hd',dt⟩:=hds.get hx
        have dt2:=dt.kp (hS.kp st)
        refine ⟨_,rfl,x,st,d,0,5,rfl,dt2,hl2 ds rfl d (List.mem_of_getElem? hd'),fun H3 g3=>⟨_,rfl,?_⟩⟩
        have fin:∀ b:Bool,b=(wholesD 0 5 d && decide ((lenD d:Int)=k))->Same H H3/\i + 1 <= ds.length/\((ds.take i).map fun r=>V.bl (wholesD 0 5 r && decide ((lenD r:Int)=k))) ++ [V.bl b]=(ds.take (i + 1)).map fun r=>V.bl (wholesD 0 5 r && decide ((lenD r:Int)=k)):=fun b e=>by
          subst e
          refine ⟨hS.trans g3,(List.getElem?_eq_some_iff.mp hd').1,?_⟩
          rw [List.take_add_one,hd',List.map_append];rfl
        cases hw:wholesD 0 5 d with
        | false=>exact iteF (fin false (by rw [hw];rfl))
        | true =>
          obtain ⟨ns,e,_⟩:=wholesD_ints hw
          subst e
          obtain ⟨b,e,_,hb⟩:=dt2.di
          subst e
          refine iteT ⟨_,rfl,b,_,rfl,.inr (.of (g3 _ _ hb)),_,rfl,rfl,?_⟩
          refine fin _ ?_
          rw [hw,Bool.true_and,lenD_DI,List.length_map]
          rw [decide_eq_decide]
          constructor
          · intro e;injection e
          · intro e;rw [e]
      · obtain ⟨hS,hil,rfl⟩:=h
        intro p hp
        refine ⟨p,_,rfl,.inl (.of upd_same),?_,?_⟩
        · rw [List.all_map];exact List.all_eq_true.mpr fun _ _=>rfl
        · have e:(((ds.take xs.length).map fun r=>V.bl (wholesD 0 5 r && decide ((lenD r:Int)=k))).all truV)=ds.all (fun r=>wholesD 0 5 r && decide ((lenD r:Int)=k)):=by
            rw [<- hlen,List.take_length,List.all_map];rfl
          rw [e]
          exact q1 _ (hS.trans (Same.new hp))
    · have e1:¬ V.int (xs.length:Int)=V.int k:=fun e=>hk' (by rw [hlen];injection e)
      rw [decide_eq_false e1]
      refine iteT ?_
      have:=q0 H (Same.refl H)
      simp only [decide_eq_false hk',Bool.false_and] at this
      exact this
  | _=>exact iteT (iteT (q H (Same.refl H)))
end
end G
namespace G
open PySem PySem.Spec PyProof.Rows L2 Mt
theorem boot_VE:bootBuiltins "ValueError"=some (.type "ValueError"):=by decide +kernel
noncomputable def bsL (i:Nat):List Bool:=[decide (i=0),decide (i=1),decide (i=2),decide (i=3),decide (i=4),decide (i=5),decide (i=6),decide (i=7),decide (i=8),decide (i=9)]
theorem bsL_len (i:Nat):(bsL i).length=10:=rfl
theorem bs_len (i:Nat):(bsL i).length <= sizeLine:=by rw [bsL_len];decide
theorem bs_sum:∀ i:Nat,i < 10->((bsL i).map (fun b=>if b then (1:Int) else 0)).sum=1:=by decide
theorem bs_at:∀ i:Nat,i < 10->(bsL i)[i]?=some true/\∀ m,m < i->(bsL i)[m]?=some false:=by decide
section
variable {P:Program} {w:World} {K:PySem.W.Frag} {mg:Str->Option Value} {base:Heap} {f:Addr} {fd:FuncData}
noncomputable def outV:Option Nat->V
  | none=>.non
  | some i=>.int i
noncomputable def Out (c:Nat->Addr) (H:Hp) (Q:VK) (E:XK):Option Nat->Prop
  | none=>∀ v H1,Same H H1->Q v H1
  | some i=>∀ H1,Same H H1->E (.ref (c i)) none H1
noncomputable def sp_refused (P:Program) (w:World) (K:PySem.W.Frag) (mg:Str->Option Value) (base:Heap) (k:Nat) (c:Nat->Addr):Sp:=fun vs H Q _=>∃ (fa:Addr) (spL:Sp) (fo:Obj) (fd:FuncData) (o:Option Nat),vs=[.ref fa]/\H fa=some (KN fo)/\fo.data=.func fd /\
  bindArgs fd ⟨[],[]⟩=pure []/\FnOk P w K mg base (CX1 P w) k fa fd [] spL/\(∀ i,o=some i->i < 10)/\(∀ Q' E',Out c H Q' E' o->spL [] H Q' E')/\∀ H',Same H H'->Q (outV o) H'
noncomputable abbrev s_refused:Stmt:=top 72
theorem sc_refused:FnScope ["_law_call","_law_error","e","_law_sorts"] ["_law_call"] (defScope s_refused):=⟨rfl,rfl,rfl,by decide +kernel,rfl,by decide +kernel,by decide +kernel⟩
theorem ok_refused {c:Nat->Addr} {Bs:Addr} {k:Nat} (FF:Fun K "_law_refused" "_law_refused" s_refused f fd) (B:Bt mg) (R:Errs K mg c Bs) (hVE:mg "ValueError"=none):FnOk P w K mg base CX0 (k + 1) f fd ["_law_call"] (sp_refused P w K mg base k c):=by
  refine FF.ok sc_refused (fun vs H Q E h=>?_) (fun cdv A outer s H vs Q E hr h=>?_)
  · obtain ⟨fa,spL,fo,fd,o,rfl,_⟩:=h
    rfl
  obtain ⟨fa,spL,fo,fd',o,rfl,kn,hfd,bnd,FL,ho,hsp,q⟩:=h
  refine ⟨_,pss_cons (ps_set (i:=1) sc_refused.nd rfl (Or.inl rfl) pe_non)
    (pss_cons (ps_tryX (k:=k) (iC:=0) (iE:=2) (iR:=1) rfl rfl hr sc_refused.nd rfl (Or.inl rfl) rfl rfl rfl rfl (by decide) rfl R.eb R.bb)
    (pss_cons (ps_if (pt_cmp (pc_isN (pv 1))) (pss_one (ps_ret pe_non)) pss_nil)
    (pss_cons (ps_set (i:=3) sc_refused.nd rfl (Or.inl rfl) (pe_lst (pa_cons (pe_callB call_isx rfl B.isinstance boot_isinstance (pa_cons (pv 1) (pa_cons (pe_glob (v:=.ref (c 0)) rfl R.e0 rfl) pa_nil)))
      (pa_cons (pe_callB call_isx rfl B.isinstance boot_isinstance (pa_cons (pv 1) (pa_cons (pe_glob (v:=.ref (c 1)) rfl R.e1 rfl) pa_nil))) (pa_cons (pe_callB call_isx rfl B.isinstance boot_isinstance (pa_cons (pv 1) (pa_cons (pe_glob (v:=.ref (c 2)) rfl R.e2 rfl) pa_nil))) pa_nil)))))
    (pss_cons (ps_set (i:=3) sc_refused.nd rfl (Or.inl rfl) (pe_op op_cat (pv 3) (pe_lst (pa_cons (pe_callB call_isx rfl B.isinstance boot_isinstance (pa_cons (pv 1) (pa_cons (pe_glob (v:=.ref (c 3)) rfl R.e3 rfl) pa_nil)))
      (pa_cons (pe_callB call_isx rfl B.isinstance boot_isinstance (pa_cons (pv 1) (pa_cons (pe_glob (v:=.ref (c 4)) rfl R.e4 rfl) pa_nil))) (pa_cons (pe_callB call_isx rfl B.isinstance boot_isinstance (pa_cons (pv 1) (pa_cons (pe_glob (v:=.ref (c 5)) rfl R.e5 rfl) pa_nil))) pa_nil))))))
    (pss_cons (ps_set (i:=3) sc_refused.nd rfl (Or.inl rfl) (pe_op op_cat (pv 3) (pe_lst (pa_cons (pe_callB call_isx rfl B.isinstance boot_isinstance (pa_cons (pv 1) (pa_cons (pe_glob (v:=.ref (c 6)) rfl R.e6 rfl) pa_nil)))
      (pa_cons (pe_callB call_isx rfl B.isinstance boot_isinstance (pa_cons (pv 1) (pa_cons (pe_glob (v:=.ref (c 7)) rfl R.e7 rfl) pa_nil))) (pa_cons (pe_callB call_isx rfl B.isinstance boot_isinstance (pa_cons (pv 1) (pa_cons (pe_glob (v:=.ref (c 8)) rfl R.e8 rfl) pa_nil))) pa_nil))))))
    (pss_cons (ps_expr (pe_bm PySem.F.plainAttrs_list PySem.F.slot_list_append PySem.F.type_list_append mt_append (pv 3) (pa_cons (pe_callB call_isx rfl B.isinstance boot_isinstance (pa_cons (pv 1) (pa_cons (pe_glob (v:=.ref (c 9)) rfl R.e9 rfl) pa_nil))) pa_nil)))
    (pss_cons (ps_if (PW.pt (pw_or (pt_not (pt_val (pe_callB call_isx rfl B.isinstance boot_isinstance (pa_cons (pv 1) (pa_cons (pe_bty rfl hVE boot_VE) pa_nil)))))
      (pw_or1 (pt_cmpR op_ne (pe_callB (call_sum_seq rfl) rfl B.sum boot_sum (pa_cons (pe_compG (N:=["_law_one"]) (ix:=[none]) (ifs:=[]) (tc:=tTrue) rfl (pi_list (pv 3))
        (fun s H ex=>pg_c (i:=0) (by decide +kernel) rfl (Or.inl rfl) (.inr rfl)) (fun s H ex=>pifs_nil) (fun s H ex=>pe_callTy call_int1 rfl B.int boot_int (pa_cons (pv 0) pa_nil)) rfl (by decide +kernel) (by rfl) (by rfl) (fun _=>rfl)) pa_nil)) pe_int (nomark _)))))
      (pss_one (ps_ret (pe_un un_neg pe_int))) pss_nil)
    (pss_one (ps_ret (pe_bm PySem.F.plainAttrs_list PySem.F.slot_list_index PySem.F.type_list_index mt_indexB (pv 3) (pa_cons pe_bl pa_nil))))))))))),?_⟩
  refine ⟨fa,spL,rfl,⟨fo,fd',kn,hfd,bnd,FL⟩,hsp _ _ ?_⟩
  cases o with
  | none=>exact fun v H1 g1=>⟨_,rfl,_,rfl,iteT (q H1 g1)⟩
  | some i =>
    have hi:=ho i rfl
    intro H1 g1
    refine ⟨c i,rfl,R.sub i hi,fun a oe x na=>?_⟩
    have g2:Same H (upd H1 a (KN oe)):=g1.trans (Same.new na)
    have ha2:upd H1 a (KN oe) a=some (KN oe):=upd_same
    generalize upd H1 a (KN oe)=H2 at g2 ha2
    refine ⟨_,rfl,_,rfl,iteF ?_⟩
    refine ⟨_,rfl,a,oe,c i,_,_,_,rfl,ha2,x,R.xi i hi,rfl,R.one i 0 hi (by decide),_,rfl,a,oe,c i,_,_,_,rfl,ha2,x,R.xi i hi,rfl,R.one i 1 hi (by decide),_,rfl,a,oe,c i,_,_,_,rfl,ha2,x,R.xi i hi,rfl,R.one i 2 hi (by decide),(by show 3 <= sizeLine;decide),fun p hp=>?_⟩
    have ap:a ≠ p:=ne_of_none ha2 hp
    have g3:Same H (upd H2 p (.lst [.bl (decide (i=0)),.bl (decide (i=1)),.bl (decide (i=2))])):=g2.trans (Same.new hp)
    have ha3:upd H2 p (.lst [.bl (decide (i=0)),.bl (decide (i=1)),.bl (decide (i=2))]) a=some (KN oe):=by rw [upd_ne ap];exact ha2
    have hp3:upd H2 p (.lst [.bl (decide (i=0)),.bl (decide (i=1)),.bl (decide (i=2))]) p=some (.lst [.bl (decide (i=0)),.bl (decide (i=1)),.bl (decide (i=2))]):=upd_same
    generalize upd H2 p (.lst [.bl (decide (i=0)),.bl (decide (i=1)),.bl (decide (i=2))])=H3 at g3 ha3 hp3
    refine ⟨_,rfl,_,rfl,a,oe,c i,_,_,_,rfl,ha3,x,R.xi i hi,rfl,R.one i 3 hi (by decide),_,rfl,a,oe,c i,_,_,_,rfl,ha3,x,R.xi i hi,rfl,R.one i 4 hi (by decide),_,rfl,a,oe,c i,_,_,_,rfl,ha3,x,R.xi i hi,rfl,R.one i 5 hi (by decide),(by show 3 <= sizeLine;decide),fun p2 hp2=>⟨p,p2,_,_,rfl,rfl,(by rw [upd_ne (ne_of_none hp3 hp2)];exact hp3),upd_same,(by show 3 + 3 <= sizeLine;decide),fun p4 hp4=>?_⟩⟩
    obtain ⟨H5,g5,ha5,hp5,e5⟩:∃ H5,Same H H5/\H5 a=some (KN oe)/\H5 p4=some (.lst [.bl (decide (i=0)),.bl (decide (i=1)),.bl (decide (i=2)),.bl (decide (i=3)),.bl (decide (i=4)),.bl (decide (i=5))])/\H5=upd (upd H3 p2 (.lst [.bl (decide (i=3)),.bl (decide (i=4)),.bl (decide (i=5))])) p4 (.lst [.bl (decide (i=0)),.bl (decide (i=1)),.bl (decide (i=2)),.bl (decide (i=3)),.bl (decide (i=4)),.bl (decide (i=5))]) :=
      ⟨_,(g3.trans (Same.new hp2)).trans (Same.new hp4),(by rw [upd_ne (ne_of_none (by rw [upd_ne (ne_of_none ha3 hp2)];exact ha3) hp4),upd_ne (ne_of_none ha3 hp2)];exact ha3),upd_same,rfl⟩
    show tSeq _ _ _ _ (upd (upd H3 p2 (.lst [.bl (decide (i=3)),.bl (decide (i=4)),.bl (decide (i=5))])) p4 (.lst [.bl (decide (i=0)),.bl (decide (i=1)),.bl (decide (i=2)),.bl (decide (i=3)),.bl (decide (i=4)),.bl (decide (i=5))]))
    rw [<- e5]
    clear e5
    refine ⟨_,rfl,_,rfl,a,oe,c i,_,_,_,rfl,ha5,x,R.xi i hi,rfl,R.one i 6 hi (by decide),_,rfl,a,oe,c i,_,_,_,rfl,ha5,x,R.xi i hi,rfl,R.one i 7 hi (by decide),_,rfl,a,oe,c i,_,_,_,rfl,ha5,x,R.xi i hi,rfl,R.one i 8 hi (by decide),(by show 3 <= sizeLine;decide),fun p5 hp5'=>⟨p4,p5,_,_,rfl,rfl,(by rw [upd_ne (ne_of_none hp5 hp5')];exact hp5),upd_same,(by show 6 + 3 <= sizeLine;decide),fun p6 hp6=>?_⟩⟩
    have h6n:H p6=none:=(g5.trans (Same.new hp5')).free hp6
    obtain ⟨H6,g6,ha6,hl6,e6⟩:∃ H6,Same H H6/\H6 a=some (KN oe)/\H6 p6=some (.lst [.bl (decide (i=0)),.bl (decide (i=1)),.bl (decide (i=2)),.bl (decide (i=3)),.bl (decide (i=4)),.bl (decide (i=5)),.bl (decide (i=6)),.bl (decide (i=7)),.bl (decide (i=8))])/\H6=upd (upd H5 p5 (.lst [.bl (decide (i=6)),.bl (decide (i=7)),.bl (decide (i=8))])) p6 (.lst [.bl (decide (i=0)),.bl (decide (i=1)),.bl (decide (i=2)),.bl (decide (i=3)),.bl (decide (i=4)),.bl (decide (i=5)),.bl (decide (i=6)),.bl (decide (i=7)),.bl (decide (i=8))]) :=
      ⟨_,(g5.trans (Same.new hp5')).trans (Same.new hp6),(by rw [upd_ne (ne_of_none (by rw [upd_ne (ne_of_none ha5 hp5')];exact ha5) hp6),upd_ne (ne_of_none ha5 hp5')];exact ha5),upd_same,rfl⟩
    show tSeq _ _ _ _ (upd (upd H5 p5 (.lst [.bl (decide (i=6)),.bl (decide (i=7)),.bl (decide (i=8))])) p6 (.lst [.bl (decide (i=0)),.bl (decide (i=1)),.bl (decide (i=2)),.bl (decide (i=3)),.bl (decide (i=4)),.bl (decide (i=5)),.bl (decide (i=6)),.bl (decide (i=7)),.bl (decide (i=8))]))
    rw [<- e6]
    clear e6
    refine ⟨_,rfl,.inl ⟨rfl,_,.of hl6⟩,_,rfl,a,oe,c i,_,_,_,rfl,ha6,x,R.xi i hi,rfl,R.one i 9 hi (by decide),p6,_,_,rfl,rfl,hl6,(by show 9 < sizeLine;decide),?_⟩
    have hbs:([.bl (decide (i=0)),.bl (decide (i=1)),.bl (decide (i=2)),.bl (decide (i=3)),.bl (decide (i=4)),.bl (decide (i=5)),.bl (decide (i=6)),.bl (decide (i=7)),.bl (decide (i=8))] ++ [.bl (decide (i=9))]:List V)=(bsL i).map V.bl:=rfl
    show tSeq _ _ _ _ (upd H6 p6 (.lst ([.bl (decide (i=0)),.bl (decide (i=1)),.bl (decide (i=2)),.bl (decide (i=3)),.bl (decide (i=4)),.bl (decide (i=5)),.bl (decide (i=6)),.bl (decide (i=7)),.bl (decide (i=8))] ++ [.bl (decide (i=9))])))
    rw [hbs]
    have hap:a ≠ p6:=fun z=>by rw [z,hl6] at ha6;cases ha6
    obtain ⟨H7,g7,ha7,hl7,e7⟩:∃ H7,Same H H7/\H7 a=some (KN oe)/\H7 p6=some (.lst ((bsL i).map V.bl))/\H7=upd H6 p6 (.lst ((bsL i).map V.bl)) :=
      ⟨_,fun b u hb=>by rw [upd_ne (fun z=>by rw [z,h6n] at hb;cases hb)];exact g6 b u hb,by rw [upd_ne hap];exact ha6,upd_same,rfl⟩
    rw [<- e7]
    clear e7
    refine ⟨_,rfl,a,oe,c i,_,_,_,rfl,ha7,x,R.xi i hi,rfl,R.val i hi,_,rfl,iteF ?_⟩
    refine ⟨_,rfl,p6,rfl,⟨_,.of hl7⟩,blk_list (K:=K) (a:=p6) (xs:=(bsL i).map V.bl) (by rw [List.length_map];exact bs_len i) (fun j ys H2=>Same H7 H2/\j <= 10/\ys=((bsL i).take j).map fun b=>V.int (if b then 1 else 0)) ⟨Same.refl _,Nat.zero_le _,rfl⟩ (fun j ys H2 h=>?_) (fun j ys H2 _ h=>.of (h.1 _ _ hl7)) rfl (fun j ys H2 v hv h=>?_) (fun ys H2 h=>?_)⟩
    · obtain ⟨_,hj,rfl⟩:=h
      rw [List.length_map,List.length_take,bsL_len];lia
    · obtain ⟨hS,hj,rfl⟩:=h
      rw [List.getElem?_map] at hv
      obtain ⟨b,hb,ev⟩:=Option.map_eq_some_iff.mp hv
      subst ev
      refine ⟨_,rfl,.inr ⟨b,rfl,hS,?_,?_⟩⟩
      · have:=(List.getElem?_eq_some_iff.mp hb).1
        rw [bsL_len] at this
        exact this
      · rw [List.take_add_one,hb,List.map_append];rfl
    · obtain ⟨hS,hj,rfl⟩:=h
      intro pz hpz
      refine ⟨pz,((bsL i).take ((bsL i).map V.bl).length).map (fun b=>if b then 1 else 0),rfl,.inl (.of (by rw [upd_same,List.map_map];rfl)),rfl,_,rfl,?_⟩
      rw [List.length_map,List.take_length,bs_sum i hi]
      refine iteF ⟨_,rfl,.inl ⟨rfl,_,.of (by rw [upd_ne (ne_of_none (hS _ _ hl7) hpz)];exact hS _ _ hl7)⟩,p6,bsL i,i,rfl,rfl,(by rw [upd_ne (ne_of_none (hS _ _ hl7) hpz)];exact hS _ _ hl7),(bs_at i hi).1,(bs_at i hi).2,q _ ((g7.trans hS).trans (Same.new hpz))⟩
end
end G
namespace G
open PySem PySem.Spec PyProof.Rows L2 Mt
theorem atI_int {ns:List Int} {k:Nat} (h:k < ns.length):atI (ns.map V.int) (k:Int)=some (.int (ns.getD k 0)):=by
  refine atI_nat ?_
  rw [List.getElem?_map,List.getElem?_eq_getElem h,List.getD_eq_getElem?_getD,List.getElem?_eq_getElem h];rfl
section
variable {P:Program} {w:World} {K:PySem.W.Frag} {mg:Str->Option Value} {base:Heap} {f:Addr} {fd:FuncData}
end
end G
namespace G
open PySem PySem.Spec PyProof.Rows L2 Mt
noncomputable abbrev DR (rs:List (List Int)):PyData:=.tuple (rs.map DI)
theorem short_DI {ns:List Int} (h:ns.length <= 1000):short (DI ns):=fun ds e=>by
  injection e with e
  rw [<- e,List.length_map];exact h
theorem short_DR {rs:List (List Int)} (h:rs.length <= 1000):short (DR rs):=fun ds e=>by
  injection e with e
  rw [<- e,List.length_map];exact h
theorem shorts_DR {n:Nat} {rs:List (List Int)} (h:Rul n 5 rs) (hn:n <= 1000):∀ ds,DR rs=.tuple ds->∀ r ∈ ds,short r:=fun ds e r hr=>by
  injection e with e
  rw [<- e] at hr
  obtain ⟨row,hrow,e2⟩:=List.mem_map.mp hr
  rw [<- e2]
  exact short_DI (by rw [(h.row row hrow).len];exact hn)
theorem dr_row {st:Addr} {H:Hp} {rs:List (List Int)} {v:V} {k:Nat} (h:Dt st H (DR rs) v) (hk:k < rs.length) :
    ∃ r xs b,v=.ref r/\H r=some (.tup xs)/\xs[k]?=some (.ref b)/\H b=some (.tup ((rs.getD k []).map V.int)):=by
  obtain ⟨r,xs,e,_,hr,hds⟩:=h.untup
  have hl:=hds.len
  rw [List.length_map] at hl
  have hkx:k < xs.length:=by lia
  obtain ⟨d,hd,dt⟩:=hds.get (i:=k) (x:=xs[k]) (List.getElem?_eq_getElem hkx)
  rw [List.getElem?_map,List.getElem?_eq_getElem hk] at hd
  have e2:rs.getD k []=rs[k]:=by rw [List.getD_eq_getElem?_getD,List.getElem?_eq_getElem hk];rfl
  have e3:d=DI rs[k]:=(Option.some.inj hd).symm
  subst e3
  obtain ⟨b,eb,_,hb⟩:=dt.di
  exact ⟨r,xs,b,e,hr,by rw [List.getElem?_eq_getElem hkx,eb],by rw [e2];exact hb⟩
theorem urnD_of {n:Nat} {ns:List Int} (h:Urn n 20 ns) (h1:1 <= n) (h4:n <= 4):urnD 20 (DI ns)=true:=by
  unfold urnD
  rw [lenD_DI,sumD_DI,h.len,decide_eq_true (show (1:Int) <= (n:Int) by lia),decide_eq_true (show (n:Int) <= 4 by lia),decide_eq_true h.pos]
  have:wholesD 0 20 (DI ns)=true:=by
    show (ns.map PyData.int).all (wholeD 0 20)=true
    rw [List.all_map]
    refine List.all_eq_true.mpr fun x hx=>?_
    have:=h.nn x hx
    show (decide ((0:Int) <= x) && decide (x <= 20))=true
    rw [decide_eq_true this.1,decide_eq_true (show x <= 20 by lia)];rfl
  rw [this];rfl
theorem ruleD_of {n:Nat} {rs:List (List Int)} (h:Rul n 5 rs):ruleD n (DR rs)=true:=by
  show (decide (((rs.map DI).length:Int)=n) && (rs.map DI).all (fun r=>wholesD 0 5 r && decide ((lenD r:Int)=n)))=true
  rw [List.length_map,h.len,decide_eq_true rfl,Bool.true_and,List.all_map]
  refine List.all_eq_true.mpr fun r hr=>?_
  have hw:=h.row r hr
  show (wholesD 0 5 (DI r) && decide ((lenD (DI r):Int)=n))=true
  rw [lenD_DI,hw.len,decide_eq_true rfl,Bool.and_true]
  show (r.map PyData.int).all (wholeD 0 5)=true
  rw [List.all_map]
  refine List.all_eq_true.mpr fun x hx=>?_
  have:=hw.nn x hx
  show (decide ((0:Int) <= x) && decide (x <= 5))=true
  rw [decide_eq_true this.1,decide_eq_true (show x <= 5 by lia)];rfl
section
variable {X:Cx}
noncomputable def rSlS:V->Option Int->Option Int->Hp->VK->Prop:=fun x lo hi H Q=>∃ (a:Addr) (xs:List V),x=.ref a/\H a=some (.tup xs)/\∀ p H',Same H H'->H' p=some (.tup (cutV xs lo hi))->Q (.ref p) H'
end
section
variable {P:Program} {w:World} {K:PySem.W.Frag} {mg:Str->Option Value} {base:Heap} {f:Addr} {fd:FuncData}
end
end G
namespace G
open PySem PySem.Spec PyProof.Rows L2 Mt
noncomputable def ok2 (d:PyData):Prop:=short d/\∀ ds,d=.tuple ds->∀ r ∈ ds,short r
section
variable {Pr:Hp->V->Prop} {m m1 m2:Nat} {ta tb te:TE} {σ:L2.St} {H:Hp}
theorem mem_cutV {xs:List V} {lo hi:Option Int} {x:V} (h:x ∈ cutV xs lo hi):x ∈ xs:=List.mem_of_mem_drop (List.mem_of_mem_take h)
end
end G
namespace G
open PySem PySem.Spec PyProof.Rows L2 Mt
theorem sm_k {k:Int} (h1:1 <= k) (h4:k <= 4):Sm k:=by
  have h:k=1 ∨ k=2 ∨ k=3 ∨ k=4:=by lia
  rcases h with rfl | rfl | rfl | rfl <;> (unfold Sm;decide +kernel)
theorem urnD_true {m:Int} {d:PyData} (h:urnD m d=true):∃ ns:List Int,d=DI ns/\1 <= ns.length/\ns.length <= 4/\(∀ x ∈ ns,0 <= x/\x <= m)/\0 < ns.sum:=by
  unfold urnD at h
  rw [Bool.and_eq_true,Bool.and_eq_true,Bool.and_eq_true] at h
  obtain ⟨hw,⟨h1,h4⟩,hs⟩:=h
  obtain ⟨ns,e,hn⟩:=wholesD_ints hw
  subst e
  rw [lenD_DI] at h1 h4
  rw [sumD_DI] at hs
  have h1':=of_decide_eq_true h1
  have h4':=of_decide_eq_true h4
  exact ⟨ns,rfl,by lia,by lia,hn,of_decide_eq_true hs⟩
theorem log_of {i:Int} {n:Nat} (h0:0 < i) (h:i.natAbs <= 2 ^ n) (hn:n < 8999):i.natAbs.log2 < 9000:=by
  rw [Nat.log2_lt (by lia)]
  exact Nat.lt_of_le_of_lt h (Nat.pow_lt_pow_right (by decide) (by lia))
theorem gcd_step {x y:Int} (hx:0 <= x) (hy:0 < y):Int.gcd y (x % y)=Int.gcd x y:=by
  have h1:(x % y).natAbs=x.natAbs % y.natAbs:=by
    rw [Int.natAbs_emod_of_nonneg hx]
  unfold Int.gcd
  rw [h1,Nat.gcd_comm x.natAbs,Nat.gcd_rec y.natAbs x.natAbs,Nat.gcd_comm]
theorem cut_nn {t b:Int} (ht:0 <= t) (hb:0 < b):0 <= (cut t b).num:=by
  rw [cut_num hb];exact Int.ediv_nonneg ht (by lia)
theorem Urn.sum_le {n m:Nat} {ns:List Int} (h:Mt.Urn n m ns) (hn:n <= 4):ns.sum <= (m:Int) * 4:=by
  have:=Mt.sum_le (m:=(m:Int)) (l:=ns) fun x hx=>(h.nn x hx).2
  rw [h.len] at this
  refine Int.le_trans this (Int.mul_le_mul_of_nonneg_left (by lia) (by lia))
section
variable {P:Program} {w:World} {K:PySem.W.Frag} {mg:Str->Option Value} {base:Heap} {f:Addr} {fd:FuncData} {ec:Nat->Addr} {Bs:Addr}
noncomputable def sp_need_urn (ec:Nat->Addr):Sp:=fun vs H Q E=>∃ (v:V) (st:Addr) (d:PyData),vs=[v]/\Dt st H d v/\short d/\(urnD 20 d=true->∀ H',Same H H'->Q .non H')/\(urnD 20 d=false->∀ H',Same H H'->E (.ref (ec 0)) none H')
noncomputable abbrev s_need_urn:Stmt:=top 29
theorem sc_need_urn:FnScope ["thing"] ["thing"] (defScope s_need_urn):=⟨rfl,rfl,rfl,by decide +kernel,rfl,by decide +kernel,by decide +kernel⟩
theorem ok_need_urn (F:Fun K "need_urn" "need_urn" s_need_urn f fd) (R:Errs K mg ec Bs) (c1:Cal P w K mg base 4 "is_urn" ["thing"] sp_is_urn):FnOk P w K mg base (CX1 P w) 5 f fd ["thing"] (sp_need_urn ec):=by
  refine F.okX sc_need_urn (fun vs H Q E h=>?_) (fun cdv A outer s H vs Q E hr h=>?_)
  · obtain ⟨v,st,d,rfl,_⟩:=h
    rfl
  obtain ⟨v,st,d,rfl,hd,hs,q1,q2⟩:=h
  refine ⟨_,pss_one (ps_if (pt_not (pt_val (pe_cal c1 hr rfl (pa_cons (pv 0) pa_nil)))) (pss_one (ps_raise1 R.e0 (R.xc 0 (by decide)) pe_str (fun σ H Q Q' m q=>m _ _ q))) pss_nil),?_⟩
  refine ⟨_,rfl,v,st,d,rfl,hd,hs,fun H1 g1=>⟨_,rfl,?_⟩⟩
  cases hw:urnD 20 d with
  | true=>exact iteF (q1 hw H1 g1)
  | false=>exact iteT (q2 hw H1 g1)
noncomputable def sp_need_rule (ec:Nat->Addr):Sp:=fun vs H Q E=>∃ (v:V) (st:Addr) (d:PyData) (k:Int),vs=[.int k,v]/\1 <= k/\k <= 4/\Dt st H d v/\ok2 d/\(ruleD k d=true->∀ H',Same H H'->Q .non H')/\(ruleD k d=false->∀ H',Same H H'->E (.ref (ec 1)) none H')
noncomputable abbrev s_need_rule:Stmt:=top 30
theorem sc_need_rule:FnScope ["kinds","thing"] ["kinds","thing"] (defScope s_need_rule):=⟨rfl,rfl,rfl,by decide +kernel,rfl,by decide +kernel,by decide +kernel⟩
theorem ok_need_rule (F:Fun K "need_rule" "need_rule" s_need_rule f fd) (R:Errs K mg ec Bs) (c1:CalX P w K mg base 3 "is_rule" ["kinds","thing"] (sp_is_rule ec)):FnOk P w K mg base (CX1 P w) 4 f fd ["kinds","thing"] (sp_need_rule ec):=by
  refine F.okX sc_need_rule (fun vs H Q E h=>?_) (fun cdv A outer s H vs Q E hr h=>?_)
  · obtain ⟨v,st,d,k,rfl,_⟩:=h
    rfl
  obtain ⟨v,st,d,k,rfl,k1,k4,hd,ok,q1,q2⟩:=h
  refine ⟨_,pss_one (ps_if (pt_not (pt_val (pe_calx c1 hr rfl passes1 (pa_cons (pv 0) (pa_cons (pv 1) pa_nil))))) (pss_one (ps_raise1 R.e1 (R.xc 1 (by decide)) (pe_fstr (pj_str (pj_fmt (pv 0) (pj_str pj_nil)))) (fun σ H Q Q' m q=>?_))) pss_nil),?_⟩
  · obtain ⟨v1,z1,i1,z2,z3,z4,z5⟩:=q
    exact ⟨v1,z1,i1,z2,z3,z4,fun z=>m _ _ (z5 z)⟩
  refine ⟨_,rfl,_,rfl,.int k,v,st,.int k,d,rfl,Dt.int _ _ _,(fun hw=>?_),fun k' e _ _=>?_⟩
  · have hw':(decide ((1:Int) <= k) && decide (k <= 4))=false:=hw
    rw [decide_eq_true k1,decide_eq_true k4] at hw'
    cases hw'
  cases e
  refine ⟨hd,ok.1,ok.2,fun H1 g1=>⟨_,rfl,?_⟩⟩
  cases hw:ruleD k d with
  | true=>exact iteF (q1 hw H1 g1)
  | false=>exact iteT ⟨_,rfl,k,rfl,(sm_k k1 k4).1,(sm_k k1 k4).2,fun z=>q2 hw H1 g1⟩
noncomputable def sp_nur (ec:Nat->Addr):Sp:=fun vs H Q E=>∃ (u v:V) (st:Addr) (d e:PyData),vs=[u,v]/\Dt st H d u/\short d/\Dt st H e v/\ok2 e/\(urnD 20 d=false->∀ H',Same H H'->E (.ref (ec 0)) none H') /\
  (urnD 20 d=true->ruleD (lenD d) e=false->∀ H',Same H H'->E (.ref (ec 1)) none H')/\(urnD 20 d=true->ruleD (lenD d) e=true->∀ H',Same H H'->Q .non H')
noncomputable abbrev s_nur:Stmt:=top 31
theorem sc_nur:FnScope ["urn","rule"] ["urn","rule"] (defScope s_nur):=⟨rfl,rfl,rfl,by decide +kernel,rfl,by decide +kernel,by decide +kernel⟩
theorem ok_nur (F:Fun K "need_urn_and_rule" "need_urn_and_rule" s_nur f fd) (B:Bt mg) (c1:CalX P w K mg base 5 "need_urn" ["thing"] (sp_need_urn ec)) (c2:CalX P w K mg base 4 "need_rule" ["kinds","thing"] (sp_need_rule ec)):FnOk P w K mg base (CX1 P w) 6 f fd ["urn","rule"] (sp_nur ec):=by
  refine F.okX sc_nur (fun vs H Q E h=>?_) (fun cdv A outer s H vs Q E hr h=>?_)
  · obtain ⟨u,v,st,d,e,rfl,_⟩:=h
    rfl
  obtain ⟨u,v,st,d,e,rfl,hu,hus,hv,hvo,q0,q1,q2⟩:=h
  refine ⟨_,pss_cons (ps_expr (pe_calx c1 hr rfl passes1 (pa_cons (pv 0) pa_nil))) (pss_one (ps_expr (pe_calx (c2.up (by decide)) hr rfl passes1 (pa_cons (pe_callB call_len_seq rfl B.len PySem.boot_len (pa_cons (pv 0) pa_nil)) (pa_cons (pv 1) pa_nil))))),?_⟩
  refine ⟨_,rfl,u,st,d,rfl,hu,hus,fun hw H1 g1=>?_,q0⟩
  obtain ⟨ns,e1,l1,l4,_⟩:=urnD_true hw
  subst e1
  obtain ⟨a,e2,_,ha⟩:=hu.di
  subst e2
  have q1':=q1 hw
  have q2':=q2 hw
  rw [lenD_DI] at q1' q2'
  refine ⟨_,rfl,a,_,rfl,.inr (.of (g1 _ _ ha)),_,rfl,v,st,e,(ns.length:Int),?_,by lia,by lia,hv.kp (g1.kp st),hvo,fun hr2 H2 g2=>q2' hr2 H2 (g1.trans g2),fun hr2 H2 g2=>q1' hr2 H2 (g1.trans g2)⟩
  rw [List.length_map]
noncomputable def sp_gd:Sp:=fun vs H Q _=>∃ x y:Int,vs=[.int x,.int y]/\0 <= x/\0 <= y/\Q (.int (Int.gcd x y:Nat)) H
noncomputable abbrev s_gd:Stmt:=top 17
theorem sc_gd:FnScope ["one","other"] ["one","other"] (defScope s_gd):=⟨rfl,rfl,rfl,by decide +kernel,rfl,by decide +kernel,by decide +kernel⟩
theorem ok_gd (F:Fun K "greatest_divisor" "greatest_divisor" s_gd f fd) (B:Bt mg):FnOk P w K mg base CX0 1 f fd ["one","other"] sp_gd:=by
  refine F.ok sc_gd (fun vs H Q E h=>?_) (fun cdv A outer s H vs Q E hr h=>?_)
  · obtain ⟨x,y,rfl,_⟩:=h
    rfl
  obtain ⟨x,y,rfl,hx,hy,q⟩:=h
  refine ⟨_,pss_cons (ps_while PassesOwn.never (pt_cmpR op_ne (pv 1) pe_int (nomark _)) (pss_one (ps_par (i:=0) (j:=1) rfl sc_gd.nd rfl rfl (by decide) rfl rfl (pa_cons (pv 1) (pa_cons (pe_op op_mod (pv 0) (pv 1)) pa_nil)) rfl)))
    (pss_one (ps_ret (pe_callB call_abs rfl B.abs boot_abs (pa_cons (pv 0) pa_nil)))),?_⟩
  refine ⟨fun m σ H2=>H2=H/\∃ x' y':Int,0 <= x'/\0 <= y'/\σ=[some (.int x'),some (.int y')]/\m=y'.toNat/\Int.gcd x' y'=Int.gcd x y,⟨_,rfl,x,y,hx,hy,rfl,rfl,rfl⟩,?_⟩
  rintro m σ H2 ⟨rfl,x',y',h1,h2,rfl,rfl,e⟩
  refine ⟨_,rfl,rfl,_,rfl,?_⟩
  by_cases hz:y'=0
  · subst hz
    rw [decide_eq_true rfl]
    refine iteF ⟨_,rfl,x',rfl,?_⟩
    have e2:(if x' < 0 then -x' else x')=((Int.gcd x y:Nat):Int):=by
      rw [<- e,Int.gcd_zero_right]
      split <;> lia
    rw [e2];exact q
  · rw [decide_eq_false (show ¬ V.int y'=V.int 0 from fun z=>hz (by injection z))]
    refine iteT ⟨fun σ' H'=>H'=H2/\∃ a b:Int,0 <= a/\0 <= b/\σ'=[some (.int a),some (.int b)]/\b.toNat < y'.toNat/\Int.gcd a b=Int.gcd x y,?_,?_⟩
    · rintro σ' H' ⟨rfl,a,b,ha,hb,rfl,hlt,e2⟩
      exact ⟨_,hlt,rfl,a,b,ha,hb,rfl,rfl,e2⟩
    · have hm:=Int.emod_nonneg x' (show y' ≠ 0 from hz)
      have hm2:=Int.emod_lt_of_pos x' (show 0 < y' by lia)
      refine ⟨_,rfl,_,rfl,_,rfl,_,_,rfl,rfl,(by lia),_,_,rfl,?_⟩
      exact ⟨rfl,y',x' % y',h2,hm,rfl,by lia,by rw [gcd_step h1 (by lia)];exact e⟩
noncomputable def sp_fraction:Sp:=fun vs H Q _=>∃ t b:Int,vs=[.int t,.int b]/\0 <= t/\0 < b/\b.natAbs.log2 < 9000/\∀ p H',Same H H'->H' p=some (.tup ((fr (cut t b)).map V.int))->Q (.ref p) H'
noncomputable abbrev s_fraction:Stmt:=top 18
theorem sc_fraction:FnScope ["top","bottom","divisor"] ["top","bottom"] (defScope s_fraction):=⟨rfl,rfl,rfl,by decide +kernel,rfl,by decide +kernel,by decide +kernel⟩
theorem gcd_log {t b:Int} (hb:0 < b) (h:b.natAbs.log2 < 9000):0 < ((Int.gcd t b:Nat):Int)/\((Int.gcd t b:Nat):Int).natAbs.log2 < 9000:=by
  have h0:0 < Int.gcd t b:=Int.gcd_pos_of_ne_zero_right _ (by lia)
  refine ⟨by lia,?_⟩
  rw [Int.natAbs_natCast]
  have l:Int.gcd t b <= b.natAbs:=Nat.le_of_dvd (by lia) (Nat.gcd_dvd_right _ _)
  rw [Nat.log2_lt (by lia)] at h ⊢
  lia
theorem ok_fraction (F:Fun K "fraction" "fraction" s_fraction f fd) (c1:Cal P w K mg base 1 "greatest_divisor" ["one","other"] sp_gd):FnOk P w K mg base CX0 2 f fd ["top","bottom"] sp_fraction:=by
  refine F.ok sc_fraction (fun vs H Q E h=>?_) (fun cdv A outer s H vs Q E hr h=>?_)
  · obtain ⟨x,y,rfl,_⟩:=h
    rfl
  obtain ⟨t,b,rfl,ht,hb,hlog,q⟩:=h
  refine ⟨_,pss_cons (ps_set (i:=2) sc_fraction.nd rfl (Or.inl rfl) (pe_cal c1 hr rfl (pa_cons (pv 0) (pa_cons (pv 1) pa_nil))))
    (pss_one (ps_ret (pe_tup (pa_cons (pe_op op_fdivB (pv 0) (pv 2)) (pa_cons (pe_op op_fdivB (pv 1) (pv 2)) pa_nil))))),?_⟩
  have g:=gcd_log (t:=t) hb hlog
  refine ⟨_,rfl,_,rfl,t,b,rfl,ht,by lia,?_⟩
  refine ⟨_,rfl,_,rfl,_,_,rfl,rfl,g,_,rfl,_,rfl,_,_,rfl,rfl,g,(by show 2 <= sizeLine;decide),fun p hp=>?_⟩
  refine q p _ (Same.new hp) ?_
  rw [upd_same,fr_cut hb];rfl
noncomputable def sp_share:Sp:=fun vs H Q _=>∃ (a:Addr) (n m:Nat) (ns:List Int) (k:Nat),vs=[.ref a,.int k]/\H a=some (.tup (ns.map V.int))/\Mt.Urn n m ns/\n <= 4/\m <= 1000/\k < n/\∀ p H',Same H H'->H' p=some (.tup ((fr (Mt.share ns k)).map V.int))->Q (.ref p) H'
noncomputable abbrev s_share:Stmt:=top 33
theorem sc_share:FnScope ["urn","kind"] ["urn","kind"] (defScope s_share):=⟨rfl,rfl,rfl,by decide +kernel,rfl,by decide +kernel,by decide +kernel⟩
theorem ok_share (F:Fun K "share" "share" s_share f fd) (B:Bt mg) (c1:Cal P w K mg base 2 "fraction" ["top","bottom"] sp_fraction):FnOk P w K mg base CX0 3 f fd ["urn","kind"] sp_share:=by
  refine F.ok sc_share (fun vs H Q E h=>?_) (fun cdv A outer s H vs Q E hr h=>?_)
  · obtain ⟨a,n,m,ns,k,rfl,_⟩:=h
    rfl
  obtain ⟨a,n,m,ns,k,rfl,ha,hu,h4,hm,hk,q⟩:=h
  refine ⟨_,pss_one (ps_ret (pe_cal c1 hr rfl (pa_cons (pe_ix ix_tup (pv 0) (pv 1) (fun _ _=>rfl)) (pa_cons (pe_callB (call_sum_seq rfl) rfl B.sum boot_sum (pa_cons (pv 0) pa_nil)) pa_nil)))),?_⟩
  have h2:=Urn.sum_le hu h4
  have h3:=hu.pos
  refine ⟨_,rfl,_,rfl,a,_,_,_,rfl,rfl,.of ha,atI_int (by rw [hu.len];exact hk),_,rfl,a,ns,rfl,.inr (.of ha),_,_,rfl,(hu.getD k).1,h3,log_of (n:=12) h3 (by show _ <= 4096;lia) (by lia),q⟩
noncomputable def sp_put_in:Sp:=fun vs H Q _=>∃ (a st:Addr) (v:V) (n j:Nat) (ns:List Int) (rs:List (List Int)) (k:Nat),vs=[.ref a,v,.int k]/\H a=some (.tup (ns.map V.int))/\ns.length=n/\Dt st H (DR rs) v/\Mt.Rul n j rs/\n <= 4/\k < n /\
  ∀ p H',Same H H'->H' p=some (.tup ((addL ns (rs.getD k [])).map V.int))->Q (.ref p) H'
noncomputable abbrev s_put_in:Stmt:=top 34
theorem sc_put_in:FnScope ["urn","rule","kind"] ["urn","rule","kind"] (defScope s_put_in):=⟨rfl,rfl,rfl,by decide +kernel,rfl,by decide +kernel,by decide +kernel⟩
theorem ok_put_in (F:Fun K "put_in" "put_in" s_put_in f fd) (B:Bt mg):FnOk P w K mg base CX0 1 f fd ["urn","rule","kind"] sp_put_in:=by
  refine F.ok sc_put_in (fun vs H Q E h=>?_) (fun cdv A outer s H vs Q E hr h=>?_)
  · obtain ⟨a,st,v,n,j,ns,rs,k,rfl,_⟩:=h
    rfl
  obtain ⟨a,st,v,n,j,ns,rs,k,rfl,ha,hn,hd,hru,h4,hk,q⟩:=h
  refine ⟨_,pss_one (ps_ret (pe_callTy call_tuple_of rfl B.tuple boot_tuple (pa_cons (pe_compG (N:=["balls","more"]) (ix:=[none,none]) (ifs:=[]) (tc:=tTrue) rfl
      (pi_zip rfl B.zip (pa_cons (pv 0) (pa_cons (pe_ix ix_tup (pv 1) (pv 2) (fun _ _=>rfl)) pa_nil)))
      (fun s H ex=>pgtK (K:=K) (n:=2) rfl rfl (pgs_cons (pg_c (i:=0) (by decide +kernel) rfl (Or.inl rfl) (.inr rfl)) (pgs_cons (pg_c (i:=1) (by decide +kernel) rfl (Or.inl rfl) (.inr rfl)) pgs_nil))) (fun s H ex=>pifs_nil)
      (fun s H ex=>pe_op op_add (pv 0) (pv 1)) rfl (by decide +kernel) (by rfl) (by rfl) (fun _=>rfl)) pa_nil))),?_⟩
  obtain ⟨r,xs,b,e,hr2,hx,hb⟩:=dr_row hd (by rw [hru.len];exact hk)
  subst e
  have hrow:=hru.at hk
  generalize hrw:rs.getD k []=row at *
  refine ⟨_,rfl,_,rfl,_,rfl,r,_,_,_,rfl,rfl,.of hr2,atI_nat hx,a,b,_,_,rfl,.of ha,.of hb,?_⟩
  have l1:ns.length=row.length:=by rw [hn,hrow.len]
  refine blk_zip (K:=K) (a:=a) (b:=b) (xs:=ns.map V.int) (ys:=row.map V.int) (sz (by rw [List.length_map];lia)) (by rw [List.length_map,List.length_map];exact l1)
    (fun i zs H2=>Same H H2/\i <= n/\zs=((addL ns row).take i).map V.int) ⟨Same.refl H,Nat.zero_le _,rfl⟩ (fun i zs H2 h=>?_) (fun i zs H2 _ h=>⟨.of (h.1 _ _ ha),.of (h.1 _ _ hb)⟩) ⟨rfl,rfl⟩ (fun i zs H2 x y p hx hy hp h=>?_) (fun zs H2 h=>?_)
  · obtain ⟨_,hil,rfl⟩:=h
    have:(addL ns row).length=n:=by unfold addL;rw [List.length_zipWith,<- l1,hn];lia
    rw [List.length_map,List.length_take,this];lia
  · obtain ⟨hS,hil,rfl⟩:=h
    have hi:i < ns.length:=by have:=(List.getElem?_eq_some_iff.mp hx).1;rwa [List.length_map] at this
    have hi2:i < row.length:=by lia
    rw [List.getElem?_map,List.getElem?_eq_getElem hi] at hx
    rw [List.getElem?_map,List.getElem?_eq_getElem hi2] at hy
    cases hx
    cases hy
    refine ⟨_,rfl,_,rfl,_,_,rfl,rfl,hS.trans (Same.new hp),by lia,?_⟩
    have e:(addL ns row)[i]?=some (ns[i] + row[i]):=by
      unfold addL;rw [List.getElem?_zipWith,List.getElem?_eq_getElem hi,List.getElem?_eq_getElem hi2]
    rw [List.take_add_one,e,List.map_append];rfl
  · obtain ⟨hS,hil,rfl⟩:=h
    intro p hp
    refine ⟨p,_,rfl,.inl ⟨.of upd_same,fun l hl=>?_⟩⟩
    refine q l _ ((hS.trans (Same.new hp)).trans (Same.new hl)) ?_
    rw [upd_same,List.length_map]
    have:(addL ns row).length=ns.length:=by unfold addL;rw [List.length_zipWith,<- l1];lia
    rw [<- this,List.take_length]
noncomputable def kindD (n:Nat) (d:PyData):Bool:=wholeD 0 ((n:Int) - 1) d
theorem kindD_of {n k:Nat} (h:k < n):kindD n (.int (k:Int))=true:=by
  show (decide ((0:Int) <= (k:Int)) && decide ((k:Int) <= (n:Int) - 1))=true
  rw [decide_eq_true (by lia),decide_eq_true (by lia)];rfl
noncomputable def sp_need_kind (ec:Nat->Addr):Sp:=fun vs H Q E=>∃ (a st:Addr) (xs:List V) (v:V) (d:PyData),vs=[.ref a,v]/\H a=some (.tup xs)/\Dt st H d v/\(kindD xs.length d=true->Q .non H)/\(kindD xs.length d=false->E (.ref (ec 2)) none H)
noncomputable abbrev s_need_kind:Stmt:=top 32
theorem sc_need_kind:FnScope ["urn","thing"] ["urn","thing"] (defScope s_need_kind):=⟨rfl,rfl,rfl,by decide +kernel,rfl,by decide +kernel,by decide +kernel⟩
theorem ok_need_kind (F:Fun K "need_kind" "need_kind" s_need_kind f fd) (B:Bt mg) (R:Errs K mg ec Bs) (c1:Cal P w K mg base 1 "is_whole" ["thing","low","high"] sp_is_whole):FnOk P w K mg base (CX1 P w) 2 f fd ["urn","thing"] (sp_need_kind ec):=by
  refine F.okX sc_need_kind (fun vs H Q E h=>?_) (fun cdv A outer s H vs Q E hr h=>?_)
  · obtain ⟨a,st,xs,v,d,rfl,_⟩:=h
    rfl
  obtain ⟨a,st,xs,v,d,rfl,ha,hd,q1,q2⟩:=h
  refine ⟨_,pss_one (ps_if (pt_not (pt_val (pe_cal c1 hr rfl (pa_cons (pv 1) (pa_cons pe_int (pa_cons (pe_op op_sub (pe_callB call_len_seq rfl B.len PySem.boot_len (pa_cons (pv 0) pa_nil)) pe_int) pa_nil)))))) (pss_one (ps_raise1 R.e2 (R.xc 2 (by decide)) pe_str (fun σ H Q Q' m q=>m _ _ q))) pss_nil),?_⟩
  refine ⟨_,rfl,_,rfl,a,_,rfl,.inr (.of ha),_,_,rfl,rfl,_,st,d,0,_,rfl,hd,_,rfl,?_⟩
  unfold kindD at q1 q2
  cases hw:wholeD 0 ((xs.length:Int) - 1) d with
  | true=>exact iteF (q1 hw)
  | false=>exact iteT (q2 hw)
noncomputable def sp_chanceV:Sp:=fun vs H Q _=>∃ (st a:Addr) (n k:Nat) (ns:List Int),vs=[.ref a,.int k]/\Dt st H (DI ns) (.ref a)/\Mt.Urn n 20 ns/\1 <= n/\n <= 4/\k < n/\∀ p H',Same H H'->H' p=some (.tup ((fr (Mt.share ns k)).map V.int))->Q (.ref p) H'
noncomputable def RefC (ec:Nat->Addr) (vs:List V) (H:Hp) (E:XK):Prop:=∃ (st:Addr) (u x:V) (d g:PyData) (i:Nat),vs=[u,x]/\Dt st H d u/\short d/\Dt st H g x/\((i=0/\urnD 20 d=false) ∨ (i=2/\urnD 20 d=true/\kindD (lenD d) g=false))/\∀ H',Same H H'->E (.ref (ec i)) none H'
noncomputable def sp_chance (ec:Nat->Addr):Sp:=fun vs H Q E=>RefC ec vs H E ∨ sp_chanceV vs H Q E
noncomputable abbrev s_chance:Stmt:=top 36
theorem sc_chance:FnScope ["urn","kind"] ["urn","kind"] (defScope s_chance):=⟨rfl,rfl,rfl,by decide +kernel,rfl,by decide +kernel,by decide +kernel⟩
theorem ok_chance (F:Fun K "chance" "chance" s_chance f fd) (c1:CalX P w K mg base 5 "need_urn" ["thing"] (sp_need_urn ec)) (c2:CalX P w K mg base 2 "need_kind" ["urn","thing"] (sp_need_kind ec)) (c3:Cal P w K mg base 3 "share" ["urn","kind"] sp_share):FnOk P w K mg base (CX1 P w) 6 f fd ["urn","kind"] (sp_chance ec):=by
  refine F.okX sc_chance (fun vs H Q E h=>?_) (fun cdv A outer s H vs Q E hr h=>?_)
  · rcases h with ⟨st,u,x,d,g,i,rfl,_⟩ | ⟨st,a,n,k,ns,rfl,_⟩
    · rfl
    · rfl
  refine ⟨_,pss_cons (ps_expr (pe_calx c1 hr rfl passes1 (pa_cons (pv 0) pa_nil))) (pss_cons (ps_expr (pe_calx (c2.up (by decide)) hr rfl passes1 (pa_cons (pv 0) (pa_cons (pv 1) pa_nil)))) (pss_one (ps_ret (pe_cal (c3.up (by decide)) hr rfl (pa_cons (pv 0) (pa_cons (pv 1) pa_nil)))))),?_⟩
  rcases h with ⟨st,u,x,d,g,i,rfl,hu,hus,hx,due,q⟩ | ⟨st,a,n,k,ns,rfl,hu,hU,n1,n4,hk,q⟩
  · refine ⟨_,rfl,u,st,d,rfl,hu,hus,fun hw H1 g1=>?_,fun hw H1 g1=>?_⟩
    · rcases due with ⟨_,z⟩ | ⟨rfl,_,z⟩
      · rw [hw] at z;cases z
      obtain ⟨ns,e1,l1,l4,_⟩:=urnD_true hw
      subst e1
      obtain ⟨a,e2,_,ha⟩:=hu.di
      subst e2
      rw [lenD_DI] at z
      refine ⟨_,rfl,_,rfl,a,st,_,x,g,rfl,g1 _ _ ha,hx.kp (g1.kp st),fun zt=>?_,fun _=>q H1 g1⟩
      rw [List.length_map,z] at zt
      cases zt
    · rcases due with ⟨rfl,_⟩ | ⟨_,z,_⟩
      · exact q H1 g1
      · rw [hw] at z;cases z
  · obtain ⟨a',e,_,ha⟩:=hu.di
    cases e
    have uok:=urnD_of hU n1 n4
    refine ⟨_,rfl,_,st,DI ns,rfl,hu,short_DI (by rw [hU.len];lia),fun _ H1 g1=>?_,(fun z=>by rw [uok] at z;cases z)⟩
    refine ⟨_,rfl,_,rfl,a,st,_,_,.int k,rfl,g1 _ _ ha,Dt.int _ _ _,fun _=>?_,fun z=>?_⟩
    · exact ⟨_,rfl,_,rfl,a,n,20,ns,k,rfl,g1 _ _ ha,hU,n4,(by lia),hk,fun p H2 g2 hp=>q p H2 (g1.trans g2) hp⟩
    · rw [List.length_map,hU.len,kindD_of hk] at z;cases z
noncomputable def sp_afterV (ec:Nat->Addr):Sp:=fun vs H Q E=>∃ (st a:Addr) (v:V) (n k:Nat) (ns:List Int) (rs:List (List Int)),vs=[.ref a,v,.int k]/\Dt st H (DI ns) (.ref a)/\Mt.Urn n 20 ns/\Dt st H (DR rs) v/\Mt.Rul n 5 rs/\1 <= n/\n <= 4/\k < n /\
  (ns.getD k 0=0->∀ H',Same H H'->E (.ref (ec 3)) none H')/\(ns.getD k 0 ≠ 0->∀ p H',Same H H'->H' p=some (.tup ((addL ns (rs.getD k [])).map V.int))->Q (.ref p) H')
noncomputable def RefA (ec:Nat->Addr) (vs:List V) (H:Hp) (E:XK):Prop:=∃ (st:Addr) (u v x:V) (d e g:PyData) (i:Nat),vs=[u,v,x]/\Dt st H d u/\short d/\Dt st H e v/\ok2 e/\Dt st H g x /\
  ((i=0/\urnD 20 d=false) ∨ (i=1/\urnD 20 d=true/\ruleD (lenD d) e=false) ∨ (i=2/\urnD 20 d=true/\ruleD (lenD d) e=true/\kindD (lenD d) g=false))/\∀ H',Same H H'->E (.ref (ec i)) none H'
noncomputable def sp_after (ec:Nat->Addr):Sp:=fun vs H Q E=>RefA ec vs H E ∨ sp_afterV ec vs H Q E
noncomputable abbrev s_after:Stmt:=top 37
theorem sc_after:FnScope ["urn","rule","kind"] ["urn","rule","kind"] (defScope s_after):=⟨rfl,rfl,rfl,by decide +kernel,rfl,by decide +kernel,by decide +kernel⟩
theorem ok_after (F:Fun K "after" "after" s_after f fd) (R:Errs K mg ec Bs) (c1:CalX P w K mg base 6 "need_urn_and_rule" ["urn","rule"] (sp_nur ec)) (c2:CalX P w K mg base 2 "need_kind" ["urn","thing"] (sp_need_kind ec)) (c3:Cal P w K mg base 1 "put_in" ["urn","rule","kind"] sp_put_in):FnOk P w K mg base (CX1 P w) 7 f fd ["urn","rule","kind"] (sp_after ec):=by
  refine F.okX sc_after (fun vs H Q E h=>?_) (fun cdv A outer s H vs Q E hr h=>?_)
  · rcases h with ⟨st,u,v,x,d,e,g,i,rfl,_⟩ | ⟨st,a,v,n,k,ns,rs,rfl,_⟩
    · rfl
    · rfl
  refine ⟨_,pss_cons (ps_expr (pe_calx c1 hr rfl passes1 (pa_cons (pv 0) (pa_cons (pv 1) pa_nil)))) (pss_cons (ps_expr (pe_calx (c2.up (by decide)) hr rfl passes1 (pa_cons (pv 0) (pa_cons (pv 2) pa_nil))))
    (pss_cons (ps_if (pt_cmpR op_eq (pe_ix ix_tup (pv 0) (pv 2) (fun _ _=>rfl)) pe_int (nomark _)) (pss_one (ps_raise1 R.e3 (R.xc 3 (by decide)) pe_str (fun σ H Q Q' m q=>m _ _ q))) pss_nil)
    (pss_one (ps_ret (pe_cal (c3.up (by decide)) hr rfl (pa_cons (pv 0) (pa_cons (pv 1) (pa_cons (pv 2) pa_nil)))))))),?_⟩
  rcases h with ⟨st,u,v,x,d,e,g,i,rfl,hu,hus,hv,hvo,hx,due,q⟩ | ⟨st,a,v,n,k,ns,rs,rfl,hu,hU,hv,hR,n1,n4,hk,q1,q2⟩
  · refine ⟨_,rfl,_,rfl,u,v,st,d,e,rfl,hu,hus,hv,hvo,fun hw H1 g1=>?_,fun hw hw2 H1 g1=>?_,fun hw hw2 H1 g1=>?_⟩
    · rcases due with ⟨rfl,_⟩ | ⟨_,z,_⟩ | ⟨_,z,_⟩
      · exact q H1 g1
      · rw [hw] at z;cases z
      · rw [hw] at z;cases z
    · rcases due with ⟨_,z⟩ | ⟨rfl,_⟩ | ⟨_,_,z,_⟩
      · rw [hw] at z;cases z
      · exact q H1 g1
      · rw [hw2] at z;cases z
    · rcases due with ⟨_,z⟩ | ⟨_,_,z⟩ | ⟨rfl,_,_,z⟩
      · rw [hw] at z;cases z
      · rw [hw2] at z;cases z
      obtain ⟨ns,e1,l1,l4,_⟩:=urnD_true hw
      subst e1
      obtain ⟨a,e2,_,ha⟩:=hu.di
      subst e2
      rw [lenD_DI] at z
      refine ⟨_,rfl,_,rfl,a,st,_,x,g,rfl,g1 _ _ ha,hx.kp (g1.kp st),fun zt=>?_,fun _=>q H1 g1⟩
      rw [List.length_map,z] at zt
      cases zt
  · obtain ⟨a',e,_,ha⟩:=hu.di
    cases e
    have uok:=urnD_of hU n1 n4
    have rok:ruleD (lenD (DI ns):Int) (DR rs)=true:=by rw [lenD_DI,hU.len];exact ruleD_of hR
    refine ⟨_,rfl,_,rfl,_,_,st,DI ns,DR rs,rfl,hu,short_DI (by rw [hU.len];lia),hv,⟨short_DR (by rw [hR.len];lia),shorts_DR hR (by lia)⟩,(fun z=>by rw [uok] at z;cases z),(fun _ z=>by rw [rok] at z;cases z),fun _ _ H1 g1=>?_⟩
    refine ⟨_,rfl,_,rfl,a,st,_,_,.int k,rfl,g1 _ _ ha,Dt.int _ _ _,(fun _=>?_),(fun z=>by rw [List.length_map,hU.len,kindD_of hk] at z;cases z)⟩
    refine ⟨_,rfl,_,rfl,a,_,_,_,rfl,rfl,.of (g1 _ _ ha),atI_int (by rw [hU.len];exact hk),rfl,_,rfl,?_⟩
    by_cases hz:ns.getD k 0=0
    · rw [hz,decide_eq_true rfl]
      exact iteT (q1 hz H1 g1)
    · rw [decide_eq_false (show ¬ V.int (ns.getD k 0)=V.int 0 from fun z=>hz (by injection z))]
      exact iteF ⟨_,rfl,_,rfl,_,rfl,a,st,v,n,5,ns,rs,k,rfl,g1 _ _ ha,hU.len,hv.kp (g1.kp st),hR,n4,hk,fun p H2 g2 hp=>q2 hz p H2 (g1.trans g2) hp⟩
end
end G
namespace L2
open PySem PySem.Spec PyProof.Rows
end L2
namespace L2
open PySem PySem.Spec PyProof.Rows
open PySem.W (KasT)
section
variable {n:Nat} (hn:0 < n)
include hn
end
end L2
namespace L2
open PySem PySem.Spec PyProof.Rows
section
variable {prog:Program} {w:World} {A:Around} {E:Value->Shared->Prop} {s:Shared}
end
end L2
namespace L2
open PySem PySem.Spec PyProof.Rows
section
variable {prog:Program} {w:World} {A:Around} {E:Value->Shared->Prop} {s:Shared} {v d:Addr} {od:Obj} {es:Array DictEntry} {ep:Nat}
end
section
variable {prog:Program} {w:World} {A:Around} {E:Value->Shared->Prop} {s:Shared}
end
end L2
namespace L2
open PySem PySem.Spec PyProof.Rows
section
variable {prog:Program} {w:World} {A:Around} {E:Value->Shared->Prop} {s:Shared}
end
end L2
namespace L2
open PySem PySem.Spec PyProof.Rows
section
variable {X:Cx} {pins:List (Addr × Obj)} {σ:St} {H:Hp} {s:Shared}
theorem Inv.lays {N:Hp} {h':Heap} {t':Nat} (I:Inv X pins σ H s) (k:∀ b u,s.heap.get? b=some u->h'.get? b=some u)
    (ok:∀ b o,s.heap.objs.size <= b->N b=some o->ObjOk X.prog X.w (fun b=>if b < s.heap.objs.size then H b else N b) h' b o) :
    Inv X pins σ (fun b=>if b < s.heap.objs.size then H b else N b) { s with heap:=h',toks:=t' }:=by
  have lo:∀ b o,H b=some o->(fun b=>if b < s.heap.objs.size then H b else N b) b=some o:=fun b o e=>by
    show (if b < s.heap.objs.size then H b else N b)=some o
    rw [if_pos (I.hok.lt e)];exact e
  refine I.un ⟨fun b o q _ _ _=>k b o q,fun b o q _ _ _=>⟨o.slots,k b o q⟩,fun b o q n _=>?_,fun b o q _=>⟨o,k b o q⟩,fun b xs q=>lo b _ q,fun b o u q=>lo b _ q,fun b ps q=>⟨#[],(lo b _ q).trans (by simp)⟩⟩ fun b o e=>?_
  · show (if b < s.heap.objs.size then H b else N b)=none
    rw [if_pos (Heap.lt_size q)];exact n
  · by_cases hb:b < s.heap.objs.size
    · have e':H b=some o:=by
        have:(if b < s.heap.objs.size then H b else N b)=some o:=e
        rwa [if_pos hb] at this
      exact (I.hok b o e').stay (fun c v _ q=>k c v q) (fun c q=>lo c _ q) fun c xs q=>lo c _ q
    · have e':N b=some o:=by
        have:(if b < s.heap.objs.size then H b else N b)=some o:=e
        rwa [if_neg hb] at this
      exact ok b o (Nat.le_of_not_lt hb) e'
end
end L2
set_option maxHeartbeats 1000000
namespace So
open PySem PyProof.Rows
section
variable {prog:Program} {w:World} {A:Around} {E:Value->Shared->Prop} {s:Shared} {rk:Keyed->Int} {M:Keyed->Prop} {κ:SortKind}
noncomputable def Ask (prog:Program) (w:World) (A:Around) (s:Shared) (rk:Keyed->Int) (M:Keyed->Prop) (κ:SortKind):Prop:=∀ x y:Keyed,M x->M y->∀ Q:Bool->Shared->Prop,Q (decide (rk x < rk y)) s->wpAny (model prog w) A (keyLt' κ x.1 y.1) Q (fun _ _=>False) s
theorem wpS_lt {x y:Keyed} {st:SortSt} {Q:Option Bool->SortSt->Prop} (hA:Ask prog w A s rk M κ) (hk:kindOf st=κ) (hx:M x) (hy:M y) (h:Q (some (decide (rk x < rk y))) st):wpS (model prog w) A E s (lt' x y) Q st:=by
  rw [lt'_eq]
  refine wpS_bind (wpS_get ?_)
  rw [hk]
  refine wpS_bind (wpS_lift (wpAny_attempt (wpAny_mono (hA x y hx hy (fun b s'=>s'=s/\b=decide (rk x < rk y)) ⟨rfl,rfl⟩) (fun b s' hb=>⟨hb.1,?_⟩) fun _ _ z=>z.elim)))
  obtain ⟨_,rfl⟩:=hb
  exact wpS_pure h
theorem wpS_elem {arr:Array Keyed} {i:Nat} {x:Keyed} {st:SortSt} {Q:Keyed->SortSt->Prop} (h:arr[i]?=some x) (q:Q x st):wpS (model prog w) A E s (elem' arr i) Q st:=by
  rw [elem'_eq,h]
  exact wpS_pure q
end
end So
namespace So
open PySem PyProof.Rows
noncomputable def Up (rk:Keyed->Int) (l:List Keyed):Prop:=l.Pairwise fun x y=>rk x <= rk y
structure Mg (rk:Keyed->Int) (la lb O:List Keyed) (ia ib:Nat):Prop where
  perm:O.Perm (la.take ia ++ lb.take ib)
  up:Up rk O
  low:∀ x ∈ O,∀ y ∈ la.drop ia ++ lb.drop ib,rk x <= rk y
end So
set_option maxHeartbeats 4000000
namespace So
open PySem PyProof.Rows
noncomputable def Gl (st st':SortSt):Prop:=kindOf st'=kindOf st/\arrOf st'=arrOf st/\pendingOf st'=pendingOf st/\failedOf st'=failedOf st
section
variable {rk:Keyed->Int} {a b out:Array Keyed} {ia ib:Nat}
theorem get_of {i:Nat} (h:i < a.size):∃ x,a[i]?=some x/\x ∈ a.toList:=⟨a[i],Array.getElem?_eq_getElem h,Array.getElem_mem_toList h⟩
end
section
variable {prog:Program} {w:World} {A:Around} {E:Value->Shared->Prop} {s:Shared} {rk:Keyed->Int} {M:Keyed->Prop} {κ:SortKind}
end
end So
namespace So
open PySem PyProof.Rows
section
variable {prog:Program} {w:World} {A:Around} {E:Value->Shared->Prop} {s:Shared} {rk:Keyed->Int} {M:Keyed->Prop} {κ:SortKind}
end
end So
namespace So
open PySem PyProof.Rows
structure Mh (rk:Keyed->Int) (la lb O:List Keyed) (na nb:Nat):Prop where
  perm:O.Perm (la.drop na ++ lb.drop nb)
  up:Up rk O
  hi:∀ x ∈ la.take na ++ lb.take nb,∀ y ∈ O,rk x <= rk y
section
variable {rk:Keyed->Int} {a b out:Array Keyed} {na nb:Nat}
end
section
variable {prog:Program} {w:World} {A:Around} {E:Value->Shared->Prop} {s:Shared} {rk:Keyed->Int} {M:Keyed->Prop} {κ:SortKind}
end
end So
namespace So
open PySem PyProof.Rows
section
variable {prog:Program} {w:World} {A:Around} {E:Value->Shared->Prop} {s:Shared} {rk:Keyed->Int} {M:Keyed->Prop} {κ:SortKind}
end
end So
namespace So
open PySem PyProof.Rows
section
variable {prog:Program} {w:World} {A:Around} {E:Value->Shared->Prop} {s:Shared} {rk:Keyed->Int} {M:Keyed->Prop} {κ:SortKind}
end
end So
namespace So
open PySem PyProof.Rows
noncomputable def Kv (rk:Keyed->Int) (arr:Array Keyed) (i:Nat):Int:=rk ((arr[i]?).getD (Value.none,Value.none))
theorem Kv.congr {rk:Keyed->Int} {a b:Array Keyed} {i j:Nat} (h:a[i]?=b[j]?):Kv rk a i=Kv rk b j:=by unfold Kv;rw [h]
noncomputable def Srt (rk:Keyed->Int) (arr:Array Keyed) (lo n:Nat):Prop:=∀ i j,lo <= i->i <= j->j < lo + n->Kv rk arr i <= Kv rk arr j
noncomputable def Dcr (rk:Keyed->Int) (arr:Array Keyed) (lo n:Nat):Prop:=∀ i j,lo <= i->i <= j->j < lo + n->Kv rk arr j <= Kv rk arr i
structure Kpt (lo:Nat) (a b:Array Keyed):Prop where
  perm:b.toList.Perm a.toList
  low:∀ i,i < lo->b[i]?=a[i]?
theorem Kpt.refl (lo:Nat) (a:Array Keyed):Kpt lo a a:=⟨List.Perm.refl _,fun _ _=>rfl⟩
theorem Kpt.trans {lo:Nat} {a b c:Array Keyed} (h:Kpt lo a b) (k:Kpt lo b c):Kpt lo a c:=⟨k.perm.trans h.perm,fun i hi=>(k.low i hi).trans (h.low i hi)⟩
theorem Kpt.size {lo:Nat} {a b:Array Keyed} (h:Kpt lo a b):b.size=a.size:=by have:=h.perm.length_eq;simpa using this
theorem Kpt.mirror {lo i j:Nat} {a:Array Keyed} (hi:lo <= i) (hj:j <= a.size):Kpt lo a (mirror a i j ((j - i) / 2)) :=
  ⟨Array.perm_iff_toList_perm.mp (mirror_perm a i j _),fun k hk=>by rw [getElem?_mirror_all hj,if_neg (by lia)]⟩
theorem Kv.mirror {rk:Keyed->Int} {a:Array Keyed} {i j:Nat} (hj:j <= a.size) (k:Nat):Kv rk (mirror a i j ((j - i) / 2)) k=if i <= k/\k < j then Kv rk a (i + j - 1 - k) else Kv rk a k:=by
  have e:=getElem?_mirror_all (i:=i) hj k
  by_cases h1:i <= k/\k < j
  · rw [if_pos h1] at e ⊢;exact Kv.congr e
  · rw [if_neg h1] at e ⊢;exact Kv.congr e
theorem mirror_eq {rk:Keyed->Int} {a:Array Keyed} {i j:Nat} (hj:j <= a.size) (heq:∀ k,i <= k->k < j->Kv rk a k=Kv rk a (j - 1)) (k:Nat):Kv rk (mirror a i j ((j - i) / 2)) k=Kv rk a k:=by
  rw [Kv.mirror hj]
  split
  · rw [heq _ (by lia) (by lia),heq k (by lia) (by lia)]
  · rfl
theorem Dcr.more' {rk:Keyed->Int} {a:Array Keyed} {lo x:Nat} (h:Dcr rk a lo x) (hlt:Kv rk a (lo + x) <= Kv rk a (lo + x - 1)):Dcr rk a lo (x + 1):=fun i j hi hij hj=>by
  by_cases hjx:j < lo + x
  · exact h i j hi hij hjx
  · have:j=lo + x:=by lia
    subst this
    by_cases hix:i=lo + x
    · subst hix;exact Int.le_refl _
    · exact Int.le_trans hlt (h i (lo + x - 1) hi (by lia) (by lia))
theorem Dcr.more {rk:Keyed->Int} {a:Array Keyed} {lo x:Nat} (h:Dcr rk a lo x) (hlt:Kv rk a (lo + x) < Kv rk a (lo + x - 1)):Dcr rk a lo (x + 1):=h.more' (Int.le_of_lt hlt)
section
variable {prog:Program} {w:World} {A:Around} {E:Value->Shared->Prop} {s:Shared} {rk:Keyed->Int} {M:Keyed->Prop} {κ:SortKind} {pd:Array (Nat × Nat × Nat)} {mg:Nat}
theorem ltAt_ok {arr:Array Keyed} {i j:Nat} {Q:Option Bool->SortSt->Prop} (hA:Ask prog w A s rk M κ) (m:∀ x ∈ arr.toList,M x) (hi:i < arr.size) (hj:j < arr.size) (h:Q (some (decide (Kv rk arr i < Kv rk arr j))) (SortSt.mk' κ arr pd mg none)):wpS (model prog w) A E s (ltAt' i j) Q (SortSt.mk' κ arr pd mg none):=by
  obtain ⟨x,hx,mx⟩:=get_of (a:=arr) hi
  obtain ⟨y,hy,my⟩:=get_of (a:=arr) hj
  have e1:Kv rk arr i=rk x:=by unfold Kv;rw [hx];rfl
  have e2:Kv rk arr j=rk y:=by unfold Kv;rw [hy];rfl
  rw [e1,e2] at h
  rw [ltAt'_eq]
  refine wpS_bind (wpS_get ?_)
  exact wpS_bind (wpS_elem hx (wpS_bind (wpS_elem hy (wpS_lt hA rfl (m x mx) (m y my) h))))
theorem asc_loop {arr:Array Keyed} {st:SortSt} {lo a nrem:Nat} {f:Nat->Option (Option Nat) × Nat->StateT SortSt Sem (ForInStep (Option (Option Nat) × Nat))} {Q:Option (Option Nat) × Nat->SortSt->Prop}
    (hstep:∀ (x n:Nat) (R:ForInStep (Option (Option Nat) × Nat)->SortSt->Prop),1 <= n->n < nrem->(Kv rk arr (lo + n) < Kv rk arr (lo + n - 1)->R (.done (none,n)) st)->(¬ Kv rk arr (lo + n) < Kv rk arr (lo + n - 1)->R (.yield (none,n + 1)) st)->wpS (model prog w) A E s (f x (none,n)) R st)
    (ha:1 <= a) (han:a <= nrem) (hs:Srt rk arr lo a) (h:∀ n,a <= n->n <= nrem->Srt rk arr lo n->(n=nrem ∨ Kv rk arr (lo + n) < Kv rk arr (lo + n - 1))->Q (none,n) st):wpS (model prog w) A E s (forIn [a:nrem] (none,a) f) Q st:=by
  refine wpS_forRange (I:=fun x c st'=>st'=st/\c=(none,x)/\Srt rk arr lo x) ?_ ?_ ⟨rfl,rfl,hs⟩
  · rintro x c st' hax hxn ⟨rfl,rfl,hs'⟩
    refine hstep x x _ (by lia) hxn (fun hlt=>h x hax (by lia) hs' (.inr hlt)) (fun hlt=>⟨rfl,rfl,fun i j hi hij hj=>?_⟩)
    by_cases hjx:j < lo + x
    · exact hs' i j hi hij hjx
    · have hj':j=lo + x:=by lia
      subst hj'
      by_cases hi':i=lo + x
      · subst hi';exact Int.le_refl _
      · exact Int.le_trans (hs' i (lo + x - 1) hi (by lia) (by lia)) (Int.not_lt.mp hlt)
  · rintro c st' ⟨rfl,rfl,hs'⟩
    rw [show max a nrem=nrem by lia] at hs' ⊢
    exact h nrem han (Nat.le_refl _) hs' (.inl rfl)
theorem countRun_ok {arr:Array Keyed} {lo nrem:Nat} {Q:Option Nat->SortSt->Prop} (hA:Ask prog w A s rk M κ) (m:∀ x ∈ arr.toList,M x) (h1:1 <= nrem) (hN:lo + nrem <= arr.size)
    (h:∀ (arr':Array Keyed) (n:Nat),1 <= n->n <= nrem->Kpt lo arr arr'->Srt rk arr' lo n->Q (some n) (SortSt.mk' κ arr' pd mg none)):wpS (model prog w) A E s (countRun' lo nrem) Q (SortSt.mk' κ arr pd mg none):=by
  have one:Srt rk arr lo 1:=fun i j hi hij hj=>by
    have:i=j:=by lia
    subst this;exact Int.le_refl _
  refine wpS_bind (asc_loop (arr:=arr) (lo:=lo) ?_ (Nat.le_refl 1) h1 one fun n hn1 hn2 hs hend=>?_)
  · intro x n R hn hnn r1 r2
    dsimp only
    refine wpS_bind (ltAt_ok hA m (by lia) (by lia) ?_)
    by_cases hlt:Kv rk arr (lo + n) < Kv rk arr (lo + n - 1)
    · rw [decide_eq_true hlt];exact wpS_pure (r1 hlt)
    · rw [decide_eq_false hlt];exact wpS_pure (r2 hlt)
  dsimp only
  by_cases e1:(n == nrem)=true
  · rw [if_pos e1]
    exact wpS_pure (h arr n hn1 hn2 (Kpt.refl lo arr) hs)
  rw [if_neg e1]
  have e1':n ≠ nrem:=by simpa using e1
  have hlt:=hend.resolve_left e1'
  by_cases hn:n > 1
  · rw [if_pos hn]
    refine wpS_bind (ltAt_ok hA m (by lia) (by lia) ?_)
    by_cases hrose:Kv rk arr lo < Kv rk arr (lo + n - 1)
    · rw [decide_eq_true hrose]
      exact wpS_pure (h arr n hn1 hn2 (Kpt.refl lo arr) hs)
    rw [decide_eq_false hrose]
    dsimp only
    rw [if_neg (by decide)]
    refine wpS_bind (wpS_modify ?_)
    have alleq:∀ k,lo <= k->k < lo + n->Kv rk arr k=Kv rk arr (lo + n - 1):=fun k hk1 hk2=>by
      have a1:=hs lo k (Nat.le_refl _) hk1 hk2
      have a2:=hs k (lo + n - 1) hk1 (by lia) (by lia)
      lia
    have eqv:=mirror_eq (rk:=rk) (a:=arr) (i:=lo) (j:=lo + n) (by lia) alleq
    have k1:Kpt lo arr (mirror arr lo (lo + n) ((lo + n - lo) / 2)):=Kpt.mirror (Nat.le_refl _) (by lia)
    have d1:Dcr rk (mirror arr lo (lo + n) ((lo + n - lo) / 2)) lo (n + 1):=by
      refine Dcr.more (fun i j hi hij hj=>?_) (by rw [eqv,eqv];exact hlt)
      rw [eqv,eqv,alleq i hi (by lia),alleq j (by lia) (by lia)]
      exact Int.le_refl _
    show wpS _ _ _ _ _ _ (SortSt.mk' κ (mirror arr lo (lo + n) ((lo + n - lo) / 2)) pd mg none)
    generalize mirror arr lo (lo + n) ((lo + n - lo) / 2)=arr1 at k1 d1
    refine wpS_bind (wpS_lift (wpAny_rule ⟨rfl,?_⟩))
    refine wpS_bind (wpS_mono (wpS_forRange (I:=fun x c st'=>∃ arr2 neq,c=(none,x,neq)/\st'=SortSt.mk' κ arr2 pd mg none/\Kpt lo arr arr2/\Dcr rk arr2 lo x/\neq + 1 <= x/\(∀ i,lo + x - (neq + 1) <= i->i < lo + x->Kv rk arr2 i=Kv rk arr2 (lo + x - 1)))
      (Q:=fun c st'=>∃ arr2 n2 neq,c=(none,n2,neq)/\st'=SortSt.mk' κ arr2 pd mg none/\Kpt lo arr arr2/\Dcr rk arr2 lo n2/\neq + 1 <= n2/\(∀ i,lo + n2 - (neq + 1) <= i->i < lo + n2->Kv rk arr2 i=Kv rk arr2 (lo + n2 - 1))/\n + 1 <= n2/\n2 <= nrem) ?_ ?_ ⟨_,0,rfl,rfl,k1,d1,by lia,fun i hi hi2=>by congr 1;lia⟩) ?_)
    · rintro x c st' hnx hx ⟨arr2,neq,rfl,rfl,k2,d2,q1,q2⟩
      have m2:∀ x ∈ arr2.toList,M x:=fun x hx=>m x (k2.perm.mem_iff.mp hx)
      have z2:=k2.size
      dsimp only
      refine wpS_bind (ltAt_ok hA m2 (by lia) (by lia) ?_)
      by_cases hlt:Kv rk arr2 (lo + x) < Kv rk arr2 (lo + x - 1)
      · rw [decide_eq_true hlt]
        dsimp only
        rw [if_pos rfl]
        by_cases hq:neq > 0
        · rw [if_pos hq]
          refine wpS_bind (wpS_modify (wpS_pure ⟨_,0,rfl,rfl,k2.trans (Kpt.mirror (by lia) (by lia)),?_,by lia,fun i hi hi2=>by congr 1;lia⟩))
          have eqv:=mirror_eq (rk:=rk) (a:=arr2) (i:=lo + x - (neq + 1)) (j:=lo + x) (by lia) q2
          intro i j hi hij hj
          show Kv rk (mirror arr2 _ _ _) j <= Kv rk (mirror arr2 _ _ _) i
          rw [eqv,eqv]
          exact d2.more hlt i j hi hij (by lia)
        · rw [if_neg hq]
          exact wpS_pure ⟨arr2,0,rfl,rfl,k2,fun i j hi hij hj=>d2.more hlt i j hi hij (by lia),by lia,fun i hi hi2=>by congr 1;lia⟩
      · rw [decide_eq_false hlt]
        dsimp only
        rw [if_neg (by decide)]
        refine wpS_bind (ltAt_ok hA m2 (by lia) (by lia) ?_)
        by_cases hgt:Kv rk arr2 (lo + x - 1) < Kv rk arr2 (lo + x)
        · rw [decide_eq_true hgt]
          dsimp only
          rw [if_pos rfl]
          exact wpS_pure ⟨arr2,x,neq,rfl,rfl,k2,d2,q1,q2,hnx,by lia⟩
        · rw [decide_eq_false hgt]
          dsimp only
          rw [if_neg (by decide)]
          have heq:Kv rk arr2 (lo + x)=Kv rk arr2 (lo + x - 1):=by lia
          refine wpS_pure ⟨arr2,neq + 1,rfl,rfl,k2,fun i j hi hij hj=>?_,by lia,fun i hi hi2=>?_⟩
          · exact d2.more' (by lia) i j hi hij (by lia)
          · rw [show lo + (x + 1) - 1=lo + x by lia,heq]
            by_cases hix:i=lo + x
            · rw [hix,heq]
            · exact q2 i (by lia) (by lia)
    · rintro c st' ⟨arr2,neq,rfl,rfl,k2,d2,q1,q2⟩
      rw [show max (n + 1) nrem=nrem by lia] at d2 q1 q2 ⊢
      exact ⟨arr2,nrem,neq,rfl,rfl,k2,d2,q1,q2,by lia,Nat.le_refl _⟩
    · rintro c st' ⟨arr2,n2,neq,rfl,rfl,k2,d2,q1,q2,hn2a,hn2b⟩
      have z2:=k2.size
      dsimp only
      by_cases hq:neq > 0
      · rw [if_pos hq]
        refine wpS_bind (wpS_modify ?_)
        have eqv:=mirror_eq (rk:=rk) (a:=arr2) (i:=lo + n2 - (neq + 1)) (j:=lo + n2) (by lia) q2
        have k4:Kpt lo arr (mirror arr2 (lo + n2 - (neq + 1)) (lo + n2) ((lo + n2 - (lo + n2 - (neq + 1))) / 2)):=k2.trans (Kpt.mirror (by lia) (by lia))
        have d4:Dcr rk (mirror arr2 (lo + n2 - (neq + 1)) (lo + n2) ((lo + n2 - (lo + n2 - (neq + 1))) / 2)) lo n2:=fun i j hi hij hj=>by rw [eqv,eqv];exact d2 i j hi hij hj
        show wpS _ _ _ _ _ _ (SortSt.mk' κ (mirror arr2 (lo + n2 - (neq + 1)) (lo + n2) ((lo + n2 - (lo + n2 - (neq + 1))) / 2)) pd mg none)
        generalize mirror arr2 (lo + n2 - (neq + 1)) (lo + n2) ((lo + n2 - (lo + n2 - (neq + 1))) / 2)=arr4 at k4 d4
        refine wpS_bind (wpS_modify ?_)
        have k5:Kpt lo arr (mirror arr4 lo (lo + n2) ((lo + n2 - lo) / 2)):=k4.trans (Kpt.mirror (Nat.le_refl _) (by rw [k4.size];lia))
        have s5:Srt rk (mirror arr4 lo (lo + n2) ((lo + n2 - lo) / 2)) lo n2:=fun i j hi hij hj=>by
          rw [Kv.mirror (by rw [k4.size];lia),Kv.mirror (by rw [k4.size];lia),if_pos (by lia),if_pos (by lia)]
          exact d4 _ _ (by lia) (by lia) (by lia)
        have m5:∀ x ∈ (mirror arr4 lo (lo + n2) ((lo + n2 - lo) / 2)).toList,M x:=fun x hx=>m x (k5.perm.mem_iff.mp hx)
        have z5:=k5.size
        show wpS _ _ _ _ _ _ (SortSt.mk' κ (mirror arr4 lo (lo + n2) ((lo + n2 - lo) / 2)) pd mg none)
        generalize mirror arr4 lo (lo + n2) ((lo + n2 - lo) / 2)=arr5 at k5 s5 m5 z5
        refine wpS_bind (asc_loop (arr:=arr5) (lo:=lo) ?_ (by lia) (by lia) s5 fun n3 hn31 hn32 hs3 _=>wpS_pure (h arr5 n3 (by lia) hn32 k5 hs3))
        intro x n R hn hnn r1 r2
        dsimp only
        refine wpS_bind (ltAt_ok hA m5 (by lia) (by lia) ?_)
        by_cases hlt:Kv rk arr5 (lo + n) < Kv rk arr5 (lo + n - 1)
        · rw [decide_eq_true hlt];exact wpS_pure (r1 hlt)
        · rw [decide_eq_false hlt];exact wpS_pure (r2 hlt)
      · rw [if_neg hq]
        have k4:=k2
        have d4:=d2
        generalize arr2=arr4 at k4 d4
        refine wpS_bind (wpS_modify ?_)
        have k5:Kpt lo arr (mirror arr4 lo (lo + n2) ((lo + n2 - lo) / 2)):=k4.trans (Kpt.mirror (Nat.le_refl _) (by rw [k4.size];lia))
        have s5:Srt rk (mirror arr4 lo (lo + n2) ((lo + n2 - lo) / 2)) lo n2:=fun i j hi hij hj=>by
          rw [Kv.mirror (by rw [k4.size];lia),Kv.mirror (by rw [k4.size];lia),if_pos (by lia),if_pos (by lia)]
          exact d4 _ _ (by lia) (by lia) (by lia)
        have m5:∀ x ∈ (mirror arr4 lo (lo + n2) ((lo + n2 - lo) / 2)).toList,M x:=fun x hx=>m x (k5.perm.mem_iff.mp hx)
        have z5:=k5.size
        show wpS _ _ _ _ _ _ (SortSt.mk' κ (mirror arr4 lo (lo + n2) ((lo + n2 - lo) / 2)) pd mg none)
        generalize mirror arr4 lo (lo + n2) ((lo + n2 - lo) / 2)=arr5 at k5 s5 m5 z5
        refine wpS_bind (asc_loop (arr:=arr5) (lo:=lo) ?_ (by lia) (by lia) s5 fun n3 hn31 hn32 hs3 _=>wpS_pure (h arr5 n3 (by lia) hn32 k5 hs3))
        intro x n R hn hnn r1 r2
        dsimp only
        refine wpS_bind (ltAt_ok hA m5 (by lia) (by lia) ?_)
        by_cases hlt:Kv rk arr5 (lo + n) < Kv rk arr5 (lo + n - 1)
        · rw [decide_eq_true hlt];exact wpS_pure (r1 hlt)
        · rw [decide_eq_false hlt];exact wpS_pure (r2 hlt)
  rw [if_neg hn]
  have k1:Kpt lo arr arr:=Kpt.refl lo arr
  have en:n=1:=by lia
  have d1:Dcr rk arr lo (n + 1):=by
    refine Dcr.more (fun i j hi hij hj=>?_) hlt
    have:i=j:=by lia
    subst this;exact Int.le_refl _
  refine wpS_bind (wpS_lift (wpAny_rule ⟨rfl,?_⟩))
  refine wpS_bind (wpS_mono (wpS_forRange (I:=fun x c st'=>∃ arr2 neq,c=(none,x,neq)/\st'=SortSt.mk' κ arr2 pd mg none/\Kpt lo arr arr2/\Dcr rk arr2 lo x/\neq + 1 <= x/\(∀ i,lo + x - (neq + 1) <= i->i < lo + x->Kv rk arr2 i=Kv rk arr2 (lo + x - 1)))
    (Q:=fun c st'=>∃ arr2 n2 neq,c=(none,n2,neq)/\st'=SortSt.mk' κ arr2 pd mg none/\Kpt lo arr arr2/\Dcr rk arr2 lo n2/\neq + 1 <= n2/\(∀ i,lo + n2 - (neq + 1) <= i->i < lo + n2->Kv rk arr2 i=Kv rk arr2 (lo + n2 - 1))/\n + 1 <= n2/\n2 <= nrem) ?_ ?_ ⟨_,0,rfl,rfl,k1,d1,by lia,fun i hi hi2=>by congr 1;lia⟩) ?_)
  · rintro x c st' hnx hx ⟨arr2,neq,rfl,rfl,k2,d2,q1,q2⟩
    have m2:∀ x ∈ arr2.toList,M x:=fun x hx=>m x (k2.perm.mem_iff.mp hx)
    have z2:=k2.size
    dsimp only
    refine wpS_bind (ltAt_ok hA m2 (by lia) (by lia) ?_)
    by_cases hlt:Kv rk arr2 (lo + x) < Kv rk arr2 (lo + x - 1)
    · rw [decide_eq_true hlt]
      dsimp only
      rw [if_pos rfl]
      by_cases hq:neq > 0
      · rw [if_pos hq]
        refine wpS_bind (wpS_modify (wpS_pure ⟨_,0,rfl,rfl,k2.trans (Kpt.mirror (by lia) (by lia)),?_,by lia,fun i hi hi2=>by congr 1;lia⟩))
        have eqv:=mirror_eq (rk:=rk) (a:=arr2) (i:=lo + x - (neq + 1)) (j:=lo + x) (by lia) q2
        intro i j hi hij hj
        show Kv rk (mirror arr2 _ _ _) j <= Kv rk (mirror arr2 _ _ _) i
        rw [eqv,eqv]
        exact d2.more hlt i j hi hij (by lia)
      · rw [if_neg hq]
        exact wpS_pure ⟨arr2,0,rfl,rfl,k2,fun i j hi hij hj=>d2.more hlt i j hi hij (by lia),by lia,fun i hi hi2=>by congr 1;lia⟩
    · rw [decide_eq_false hlt]
      dsimp only
      rw [if_neg (by decide)]
      refine wpS_bind (ltAt_ok hA m2 (by lia) (by lia) ?_)
      by_cases hgt:Kv rk arr2 (lo + x - 1) < Kv rk arr2 (lo + x)
      · rw [decide_eq_true hgt]
        dsimp only
        rw [if_pos rfl]
        exact wpS_pure ⟨arr2,x,neq,rfl,rfl,k2,d2,q1,q2,hnx,by lia⟩
      · rw [decide_eq_false hgt]
        dsimp only
        rw [if_neg (by decide)]
        have heq:Kv rk arr2 (lo + x)=Kv rk arr2 (lo + x - 1):=by lia
        refine wpS_pure ⟨arr2,neq + 1,rfl,rfl,k2,fun i j hi hij hj=>?_,by lia,fun i hi hi2=>?_⟩
        · exact d2.more' (by lia) i j hi hij (by lia)
        · rw [show lo + (x + 1) - 1=lo + x by lia,heq]
          by_cases hix:i=lo + x
          · rw [hix,heq]
          · exact q2 i (by lia) (by lia)
  · rintro c st' ⟨arr2,neq,rfl,rfl,k2,d2,q1,q2⟩
    rw [show max (n + 1) nrem=nrem by lia] at d2 q1 q2 ⊢
    exact ⟨arr2,nrem,neq,rfl,rfl,k2,d2,q1,q2,by lia,Nat.le_refl _⟩
  · rintro c st' ⟨arr2,n2,neq,rfl,rfl,k2,d2,q1,q2,hn2a,hn2b⟩
    have z2:=k2.size
    dsimp only
    by_cases hq:neq > 0
    · rw [if_pos hq]
      refine wpS_bind (wpS_modify ?_)
      have eqv:=mirror_eq (rk:=rk) (a:=arr2) (i:=lo + n2 - (neq + 1)) (j:=lo + n2) (by lia) q2
      have k4:Kpt lo arr (mirror arr2 (lo + n2 - (neq + 1)) (lo + n2) ((lo + n2 - (lo + n2 - (neq + 1))) / 2)):=k2.trans (Kpt.mirror (by lia) (by lia))
      have d4:Dcr rk (mirror arr2 (lo + n2 - (neq + 1)) (lo + n2) ((lo + n2 - (lo + n2 - (neq + 1))) / 2)) lo n2:=fun i j hi hij hj=>by rw [eqv,eqv];exact d2 i j hi hij hj
      show wpS _ _ _ _ _ _ (SortSt.mk' κ (mirror arr2 (lo + n2 - (neq + 1)) (lo + n2) ((lo + n2 - (lo + n2 - (neq + 1))) / 2)) pd mg none)
      generalize mirror arr2 (lo + n2 - (neq + 1)) (lo + n2) ((lo + n2 - (lo + n2 - (neq + 1))) / 2)=arr4 at k4 d4
      refine wpS_bind (wpS_modify ?_)
      have k5:Kpt lo arr (mirror arr4 lo (lo + n2) ((lo + n2 - lo) / 2)):=k4.trans (Kpt.mirror (Nat.le_refl _) (by rw [k4.size];lia))
      have s5:Srt rk (mirror arr4 lo (lo + n2) ((lo + n2 - lo) / 2)) lo n2:=fun i j hi hij hj=>by
        rw [Kv.mirror (by rw [k4.size];lia),Kv.mirror (by rw [k4.size];lia),if_pos (by lia),if_pos (by lia)]
        exact d4 _ _ (by lia) (by lia) (by lia)
      have m5:∀ x ∈ (mirror arr4 lo (lo + n2) ((lo + n2 - lo) / 2)).toList,M x:=fun x hx=>m x (k5.perm.mem_iff.mp hx)
      have z5:=k5.size
      show wpS _ _ _ _ _ _ (SortSt.mk' κ (mirror arr4 lo (lo + n2) ((lo + n2 - lo) / 2)) pd mg none)
      generalize mirror arr4 lo (lo + n2) ((lo + n2 - lo) / 2)=arr5 at k5 s5 m5 z5
      refine wpS_bind (asc_loop (arr:=arr5) (lo:=lo) ?_ (by lia) (by lia) s5 fun n3 hn31 hn32 hs3 _=>wpS_pure (h arr5 n3 (by lia) hn32 k5 hs3))
      intro x n R hn hnn r1 r2
      dsimp only
      refine wpS_bind (ltAt_ok hA m5 (by lia) (by lia) ?_)
      by_cases hlt:Kv rk arr5 (lo + n) < Kv rk arr5 (lo + n - 1)
      · rw [decide_eq_true hlt];exact wpS_pure (r1 hlt)
      · rw [decide_eq_false hlt];exact wpS_pure (r2 hlt)
    · rw [if_neg hq]
      have k4:=k2
      have d4:=d2
      generalize arr2=arr4 at k4 d4
      refine wpS_bind (wpS_modify ?_)
      have k5:Kpt lo arr (mirror arr4 lo (lo + n2) ((lo + n2 - lo) / 2)):=k4.trans (Kpt.mirror (Nat.le_refl _) (by rw [k4.size];lia))
      have s5:Srt rk (mirror arr4 lo (lo + n2) ((lo + n2 - lo) / 2)) lo n2:=fun i j hi hij hj=>by
        rw [Kv.mirror (by rw [k4.size];lia),Kv.mirror (by rw [k4.size];lia),if_pos (by lia),if_pos (by lia)]
        exact d4 _ _ (by lia) (by lia) (by lia)
      have m5:∀ x ∈ (mirror arr4 lo (lo + n2) ((lo + n2 - lo) / 2)).toList,M x:=fun x hx=>m x (k5.perm.mem_iff.mp hx)
      have z5:=k5.size
      show wpS _ _ _ _ _ _ (SortSt.mk' κ (mirror arr4 lo (lo + n2) ((lo + n2 - lo) / 2)) pd mg none)
      generalize mirror arr4 lo (lo + n2) ((lo + n2 - lo) / 2)=arr5 at k5 s5 m5 z5
      refine wpS_bind (asc_loop (arr:=arr5) (lo:=lo) ?_ (by lia) (by lia) s5 fun n3 hn31 hn32 hs3 _=>wpS_pure (h arr5 n3 (by lia) hn32 k5 hs3))
      intro x n R hn hnn r1 r2
      dsimp only
      refine wpS_bind (ltAt_ok hA m5 (by lia) (by lia) ?_)
      by_cases hlt:Kv rk arr5 (lo + n) < Kv rk arr5 (lo + n - 1)
      · rw [decide_eq_true hlt];exact wpS_pure (r1 hlt)
      · rw [decide_eq_false hlt];exact wpS_pure (r2 hlt)
end
end So
namespace So
open PySem PyProof.Rows
theorem Kpt.bubble {lo src d:Nat} {a:Array Keyed} (hs:src < a.size) (hd:lo + d <= src):Kpt lo a (bubble a src d) :=
  ⟨Array.perm_iff_toList_perm.mp (bubble_perm a src d),fun k hk=>by rw [getElem?_bubble hs d (by lia),if_neg (by lia),if_neg (by lia)]⟩
theorem Kv.bubble {rk:Keyed->Int} {a:Array Keyed} {src d:Nat} (hs:src < a.size) (hd:d <= src) (k:Nat):Kv rk (bubble a src d) k=if k=src - d then Kv rk a src else if src - d < k/\k <= src then Kv rk a (k - 1) else Kv rk a k:=by
  have e:=getElem?_bubble hs d hd k
  by_cases h1:k=src - d
  · rw [if_pos h1] at e ⊢;exact Kv.congr e
  · rw [if_neg h1] at e ⊢
    by_cases h2:src - d < k/\k <= src
    · rw [if_pos h2] at e ⊢;exact Kv.congr e
    · rw [if_neg h2] at e ⊢;exact Kv.congr e
section
variable {prog:Program} {w:World} {A:Around} {E:Value->Shared->Prop} {s:Shared} {rk:Keyed->Int} {M:Keyed->Prop} {κ:SortKind} {pd:Array (Nat × Nat × Nat)} {mg:Nat}
theorem binarySort_ok {arr:Array Keyed} {lo n ok:Nat} {Q:Bool->SortSt->Prop} (hA:Ask prog w A s rk M κ) (m:∀ x ∈ arr.toList,M x) (h1:1 <= ok) (h2:ok <= n) (hN:lo + n <= arr.size) (hs:Srt rk arr lo ok)
    (h:∀ (arr':Array Keyed),Kpt lo arr arr'->Srt rk arr' lo n->Q true (SortSt.mk' κ arr' pd mg none)):wpS (model prog w) A E s (binarySort' lo n ok) Q (SortSt.mk' κ arr pd mg none):=by
  refine wpS_bind (wpS_mono (wpS_forRange (I:=fun k c st'=>c=(none,())/\∃ arr2,st'=SortSt.mk' κ arr2 pd mg none/\Kpt lo arr arr2/\Srt rk arr2 lo k) (Q:=fun c st'=>c=(none,())/\∃ arr2,st'=SortSt.mk' κ arr2 pd mg none/\Kpt lo arr arr2/\Srt rk arr2 lo n) ?_ ?_ ⟨rfl,arr,rfl,Kpt.refl lo arr,by rw [Nat.max_eq_left h1];exact hs⟩) ?_)
  · rintro k c st' hk1 hk2 ⟨rfl,arr2,rfl,k2,s2⟩
    have z2:=k2.size
    have m2:∀ x ∈ arr2.toList,M x:=fun x hx=>m x (k2.perm.mem_iff.mp hx)
    rw [Nat.max_eq_left h1] at hk1
    dsimp only
    refine wpS_bind (wpS_mono (wpS_forRange (I:=fun x c st'=>st'=SortSt.mk' κ arr2 pd mg none/\∃ l r,c=(none,l,r)/\l <= r/\r <= k/\r - l <= k - x/\(∀ i,i < l->Kv rk arr2 (lo + i) <= Kv rk arr2 (lo + k))/\(∀ i,r <= i->i < k->Kv rk arr2 (lo + k) <= Kv rk arr2 (lo + i)))
      (Q:=fun c st'=>st'=SortSt.mk' κ arr2 pd mg none/\∃ l,c=(none,l,l)/\l <= k/\(∀ i,i < l->Kv rk arr2 (lo + i) <= Kv rk arr2 (lo + k))/\(∀ i,l <= i->i < k->Kv rk arr2 (lo + k) <= Kv rk arr2 (lo + i))) ?_ ?_ ⟨rfl,0,k,rfl,Nat.zero_le _,Nat.le_refl _,by lia,fun i hi=>by lia,fun i hi hi2=>by lia⟩) ?_)
    · rintro x c st' _ hx ⟨rfl,l,r,rfl,a1,a2,a3,a4,a5⟩
      dsimp only
      by_cases hge:l ≥ r
      · rw [if_pos hge]
        have e:l=r:=by lia
        subst e
        exact wpS_pure ⟨rfl,l,rfl,a2,a4,a5⟩
      rw [if_neg hge]
      refine wpS_bind (ltAt_ok hA m2 (by lia) (by lia) ?_)
      by_cases hlt:Kv rk arr2 (lo + k) < Kv rk arr2 (lo + (l + r) / 2)
      · rw [decide_eq_true hlt]
        refine wpS_pure ⟨rfl,l,(l + r) / 2,rfl,by lia,by lia,by lia,a4,fun i hi hi2=>?_⟩
        exact Int.le_trans (Int.le_of_lt hlt) (s2 _ _ (by lia) (by lia) (by lia))
      · rw [decide_eq_false hlt]
        refine wpS_pure ⟨rfl,(l + r) / 2 + 1,r,rfl,by lia,a2,by lia,fun i hi=>?_,a5⟩
        exact Int.le_trans (s2 _ (lo + (l + r) / 2) (by lia) (by lia) (by lia)) (Int.not_lt.mp hlt)
    · rintro c st' ⟨rfl,l,r,rfl,a1,a2,a3,a4,a5⟩
      have e:l=r:=by lia
      subst e
      exact ⟨rfl,l,rfl,a2,a4,a5⟩
    · rintro c st' ⟨rfl,l,rfl,a2,a4,a5⟩
      dsimp only
      refine wpS_bind (wpS_modify (wpS_pure ⟨rfl,_,rfl,k2.trans (Kpt.bubble (src:=lo + k) (d:=lo + k - (lo + l)) (by lia) (by lia)),?_⟩))
      intro i j hi hij hj
      show Kv rk (bubble arr2 (lo + k) (lo + k - (lo + l))) i <= Kv rk (bubble arr2 (lo + k) (lo + k - (lo + l))) j
      rw [Kv.bubble (by lia) (by lia),Kv.bubble (by lia) (by lia),show lo + k - (lo + k - (lo + l))=lo + l by lia]
      by_cases c1:i=lo + l
      · rw [if_pos c1]
        by_cases c2:j=lo + l
        · rw [if_pos c2];exact Int.le_refl _
        · rw [if_neg c2,if_pos (by lia)]
          have:=a5 (j - 1 - lo) (by lia) (by lia)
          rw [show lo + (j - 1 - lo)=j - 1 by lia] at this
          exact this
      · rw [if_neg c1]
        by_cases c3:lo + l < i/\i <= lo + k
        · rw [if_pos c3,if_neg (by lia),if_pos (by lia)]
          exact s2 _ _ (by lia) (by lia) (by lia)
        · rw [if_neg c3]
          by_cases c2:j=lo + l
          · rw [if_pos c2]
            have:=a4 (i - lo) (by lia)
            rw [show lo + (i - lo)=i by lia] at this
            exact this
          · rw [if_neg c2]
            by_cases c4:lo + l < j/\j <= lo + k
            · rw [if_pos c4]
              exact s2 _ _ hi (by lia) (by lia)
            · rw [if_neg c4]
              exact s2 _ _ hi hij (by lia)
  · rintro c st' ⟨rfl,arr2,rfl,k2,s2⟩
    rw [show max (max ok 1) n=n by lia] at s2
    exact ⟨rfl,arr2,rfl,k2,s2⟩
  · rintro c st' ⟨rfl,arr2,rfl,k2,s2⟩
    exact wpS_pure (h arr2 k2 s2)
end
end So
namespace So
open PySem PyProof.Rows
theorem srt_up {rk:Keyed->Int} {arr:Array Keyed} {lo n:Nat} (h:Srt rk arr lo n) (hN:lo + n <= arr.size):Up rk ((arr.toList.drop lo).take n):=by
  refine List.pairwise_iff_getElem.mpr fun i j hi hj hij=>?_
  have hj':j < n:=by rw [List.length_take] at hj;lia
  have e:∀ k (hk:k < ((arr.toList.drop lo).take n).length),rk (((arr.toList.drop lo).take n)[k])=Kv rk arr (lo + k):=fun k hk=>by
    have hk':k < n:=by rw [List.length_take] at hk;lia
    have e1:((arr.toList.drop lo).take n)[k]?=arr[lo + k]?:=by rw [List.getElem?_take,if_pos hk',List.getElem?_drop];simp
    unfold Kv
    rw [<- e1,List.getElem?_eq_getElem hk];rfl
  rw [e i hi,e j hj]
  exact h _ _ (by lia) (by lia) (by lia)
section
variable {prog:Program} {w:World} {A:Around} {E:Value->Shared->Prop} {s:Shared} {rk:Keyed->Int} {M:Keyed->Prop} {κ:SortKind}
end
end So
namespace So
open PySem PyProof.Rows PySem.Spec L2
section
variable {prog:Program} {w:World} {A:Around} {E:Value->Shared->Prop} {s:Shared} {rk:Keyed->Int} {M:Keyed->Prop} {κ:SortKind}
theorem sortRuns_small {arr:Array Keyed} {Q:Unit->SortSt->Prop} (hA:Ask prog w A s rk M κ) (m:∀ x ∈ arr.toList,M x) (h2:2 <= arr.size) (h64:arr.size < 64)
    (h:∀ st',(arrOf st').toList.Perm arr.toList->failedOf st'=none->Up rk (arrOf st').toList->Q () st'):wpS (model prog w) A E s sortRuns' Q (SortSt.mk' κ arr #[] 7 none):=by
  rw [sortRuns'_eq]
  refine wpS_bind (wpS_get ?_)
  dsimp only
  obtain ⟨N,eN⟩:∃ N,N=arr.size:=⟨_,rfl⟩
  have hmr:minRun' N N 0=N:=by
    obtain ⟨f,hf⟩:∃ f,N=f + 1:=⟨N - 1,by lia⟩
    have:minRun' (f + 1) N 0=N:=by rw [minRun'_succ,if_pos (by lia)];rfl
    rw [<- hf] at this
    exact this
  simp only [<- eN,hmr]
  refine wpS_bind (wpS_mono (wpS_forRange
    (I:=fun x c st'=>(x=0/\c=(none,0)/\st'=SortSt.mk' κ arr #[] 7 none) ∨ (1 <= x/\∃ arr2,c=(none,N)/\st'=SortSt.mk' κ arr2 #[(0,N,0)] 7 none/\Kpt 0 arr arr2/\Srt rk arr2 0 N))
    (Q:=fun c st'=>c.1=none/\∃ arr2,st'=SortSt.mk' κ arr2 #[(0,N,0)] 7 none/\Kpt 0 arr arr2/\Srt rk arr2 0 N) ?_ ?_ (.inl ⟨rfl,rfl,rfl⟩)) ?_)
  · rintro x c st' _ hx (⟨rfl,rfl,rfl⟩ | ⟨hx1,arr2,rfl,rfl,k2,s2⟩)
    · dsimp only
      rw [if_neg (by lia)]
      simp only [Nat.sub_zero,Nat.zero_add,Nat.min_self]
      refine wpS_bind (countRun_ok hA m (by lia) (by lia) fun arr2 n hn1 hn2 k2 s2=>?_)
      have m2:∀ x ∈ arr2.toList,M x:=fun x hx=>m x (k2.perm.mem_iff.mp hx)
      have z2:=k2.size
      dsimp only
      by_cases hlt:n < N
      · rw [if_pos hlt]
        refine wpS_bind (wpS_lift (wpAny_rule ⟨rfl,?_⟩))
        refine wpS_bind (binarySort_ok hA m2 hn1 (by lia) (by lia) s2 fun arr3 k3 s3=>?_)
        simp only [Bool.not_true,Bool.false_eq_true,if_false]
        refine wpS_bind (wpS_get ?_)
        have hb:(pendingOf (SortSt.mk' κ arr3 #[] 7 none)).back?=none:=rfl
        rw [hb]
        dsimp only
        exact wpS_bind (wpS_modify (wpS_pure (.inr ⟨by lia,arr3,rfl,rfl,k2.trans k3,s3⟩)))
      · rw [if_neg hlt]
        have e:n=N:=by lia
        subst e
        refine wpS_bind (wpS_get ?_)
        have hb:(pendingOf (SortSt.mk' κ arr2 #[] 7 none)).back?=none:=rfl
        rw [hb]
        dsimp only
        exact wpS_bind (wpS_modify (wpS_pure (.inr ⟨by lia,arr2,rfl,rfl,k2,s2⟩)))
    · dsimp only
      rw [if_pos (Nat.le_refl _)]
      exact wpS_pure ⟨rfl,arr2,rfl,k2,s2⟩
  · rintro c st' (⟨hx,rfl,rfl⟩ | ⟨hx1,arr2,rfl,rfl,k2,s2⟩)
    · lia
    · exact ⟨rfl,arr2,rfl,k2,s2⟩
  · rintro ⟨c1,c2⟩ st' ⟨hc,arr2,rfl,k2,s2⟩
    dsimp only at hc
    subst hc
    dsimp only
    refine wpS_bind (wpS_mono (wpS_forRange (I:=fun _ c st'=>c=(none,())/\st'=SortSt.mk' κ arr2 #[(0,N,0)] 7 none) (Q:=fun c st'=>c=(none,())/\st'=SortSt.mk' κ arr2 #[(0,N,0)] 7 none) ?_ (fun _ _ z=>z) ⟨rfl,rfl⟩) ?_)
    · rintro x c st' _ _ ⟨rfl,rfl⟩
      refine wpS_bind (wpS_get ?_)
      rw [if_pos (by show (1:Nat) <= 1;exact Nat.le_refl 1)]
      exact wpS_pure ⟨rfl,rfl⟩
    · rintro c st' ⟨rfl,rfl⟩
      have z2:=k2.size
      refine wpS_pure (h _ k2.perm rfl ?_)
      have:=srt_up s2 (by lia)
      rw [List.drop_zero,List.take_of_length_le (by rw [Array.length_toList];lia)] at this
      exact this
end
end So
namespace L2
open PySem PySem.Spec PyProof.Rows HT
section
variable {prog:Program} {w:World} {A:Around} {E:Value->Shared->Prop} {s:Shared}
end
end L2
namespace L2
open PySem PySem.Spec PyProof.Rows HT
section
variable {X:Cx} {H:Hp}
end
end L2
namespace L2
open PySem PySem.Spec PyProof.Rows HT
section
variable {X:Cx} {H:Hp}
end
end L2
namespace L2
open PySem PySem.Spec PyProof.Rows
section
variable {K:PySem.W.Frag} {σ0:St} {te:TE} {H:Hp} {F:List V->Hp->Prop}
end
end L2
namespace L2
open PySem PySem.Spec PyProof.Rows
section
variable {K:PySem.W.Frag} {σ0:St} {te:TE} {H:Hp} {F:List V->Hp->Prop}
end
end L2
namespace L2
open PySem PySem.Spec PyProof.Rows
section
variable {prog:Program} {w:World} {A:Around} {E:Value->Shared->Prop} {s:Shared}
structure ZipTL (h:Heap) (z TI TO i1 i2 t1 t2:Addr) (k:Nat):Prop where
  zz:IsZip h z TI TO .none
  ti:IsPair h TI (.ref i1) (.ref i2)
  tO:∃ a b,IsPair h TO a b
  it1:h.IsTupleIter i1 t1 k
  it2:h.IsListIter i2 t2 k
theorem zipTL_item {z TI TO i1 i2 t1 t2:Addr} {xs ys:Array Value} {k:Nat} {x y:Value} {Q:Option Value->Shared->Prop} (D:ZipD z TI TO i1 i2 t1 t2) (Z:ZipTL s.heap z TI TO i1 i2 t1 t2 k) (hl1:s.heap.IsTuple t1 xs) (hl2:s.heap.IsList t2 ys)
    (hx:xs[k]?=some x) (hy:ys[k]?=some y)
    (hQ:∀ h',IsZip h' z TI TO (rawInt s.heap.objs.size)->IsPair h' TO x y->h'.IsTupleIter i1 t1 (k + 1)->h'.IsListIter i2 t2 (k + 1)->IsPair h' s.heap.objs.size x y->h'.objs.size=s.heap.objs.size + 1 ->
      (∀ c o,c ∉ [z,TO,i1,i2]->s.heap.get? c=some o->h'.get? c=some o)->Q (some (.ref s.heap.objs.size)) { s with heap:=h' }) :
    wpAny (model prog w) A (pyNext (.ref z)) Q E s:=by
  obtain ⟨hz,hTI,⟨a,b,hTO⟩,h1,h2⟩:=Z
  have hT:s.TypeIs (.ref z) "zip":=⟨_,hz,rfl⟩
  unfold pyNext
  refine wpAny_bind (wpAny_attempt (wpAny_callSpecial?_slot (name:=Str.ofString "__next__") hT F.slot_zip_next (wpAny_call_entry F.slot_zip_next hT F.entry_zip_next ?_ (F.args_zip_next_1 _))))
  show wpAny _ _ (field (.ref z) 2 >>= _) _ _ _
  refine wpAny_bind (wpAny_field hz rfl (x:=.bool false) rfl ?_)
  show wpAny _ _ (field (.ref z) 3 >>= _) _ _ _
  refine wpAny_bind (wpAny_field hz rfl (x:=.ref TI) rfl (wpAny_bind (wpAny_seqItems hTI rfl ?_)))
  show wpAny _ _ (Builtin.SmallTypes.ownedTupleIsFree (.ref z) >>= _) _ _ _
  refine wpAny_bind ?_
  unfold Builtin.SmallTypes.ownedTupleIsFree
  refine wpAny_bind (wpAny_field hz rfl (x:=.none) rfl (wpAny_pure ?_))
  simp only [if_true]
  refine wpAny_bind (wpAny_rule (wpAny_bind (wpAny_field hz rfl (x:=.ref TO) rfl (wpAny_bind (wpAny_setField_rec hz (by simp) fun g1 z1 s1=>?_)))))
  replace z1:IsZip g1 z TI TO .ellipsis:=z1
  refine wpAny_bind ?_
  simp only [List.zipIdx_cons,List.zipIdx_nil,List.forIn_cons,List.forIn_nil]
  refine wpAny_bind (wpAny_bind (wpAny_onRaise ?_))
  show wpAny _ _ (Builtin.SmallTypes.nextOf (.ref i1) >>= _) _ _ _
  refine wpAny_bind (nextT_item (h1.at fun o e=>s1.extBut _ o D.a3 e) (hl1.at fun o e=>s1.extBut _ o D.e1 e) hx fun g2 j1 s2=>wpAny_pure ?_)
  have o2:IsPair g2 TO a b:=s2.extBut _ _ D.c1 (s1.extBut _ _ D.a2 hTO)
  refine wpAny_bind (wpAny_seqItems o2 rfl (wpAny_bind (wpAny_updateSeq_pair o2 fun g3 o3 s3=>?_)))
  replace o3:IsPair g3 TO x b:=o3
  refine wpAny_bind (wpAny_letGo (wpAny_pure (wpAny_bind (wpAny_bind (wpAny_onRaise ?_)))))
  show wpAny _ _ (Builtin.SmallTypes.nextOf (.ref i2) >>= _) _ _ _
  refine wpAny_bind (wpAny_nextOf_list_item (h2.at fun o e=>s3.extBut _ o D.c2.symm (s2.extBut _ o D.d1.symm (s1.extBut _ o D.a4 e))) (hl2.at' fun o e=>s3.extBut _ o D.f2 (s2.extBut _ o D.f3 (s1.extBut _ o D.f1 e))) hy fun g4 j2 s4=>wpAny_pure ?_)
  have o4:IsPair g4 TO x b:=s4.extBut _ _ D.c2 o3
  refine wpAny_bind (wpAny_seqItems o4 rfl (wpAny_bind (wpAny_updateSeq_pair o4 fun g5 o5 s5=>?_)))
  replace o5:IsPair g5 TO x y:=o5
  refine wpAny_bind (wpAny_letGo (wpAny_pure (wpAny_pure ?_)))
  refine wpAny_bind (wpAny_seqItems o5 rfl (wpAny_bind (wpAny_newTuple ?_)))
  have hsz:g5.objs.size=s.heap.objs.size:=by rw [s5.1,s4.1,s3.1,s2.1,s1.1]
  have z5:IsZip g5 z TI TO .ellipsis:=s5.extBut _ _ D.a2.symm (s4.extBut _ _ D.a4.symm (s3.extBut _ _ D.a2.symm (s2.extBut _ _ D.a3.symm z1)))
  have k5:∀ c o,c ∉ [z,TO,i1,i2]->s.heap.get? c=some o->g5.get? c=some o:=fun c o hc e=>by
    simp only [List.mem_cons,List.not_mem_nil,or_false,not_or] at hc
    exact s5.extBut _ _ hc.2.1 (s4.extBut _ _ hc.2.2.2 (s3.extBut _ _ hc.2.1 (s2.extBut _ _ hc.2.2.1 (s1.extBut _ _ hc.1 e))))
  have m1:g5.IsTupleIter i1 t1 (k + 1):=j1.at fun o e=>s5.extBut _ o D.c1.symm (s4.extBut _ o D.d1 (s3.extBut _ o D.c1.symm e))
  have m2:g5.IsListIter i2 t2 (k + 1):=j2.at fun o e=>s5.extBut _ o D.c2.symm e
  show wpAny _ _ (Builtin.SmallTypes.ownedTupleHandOut (.ref z) (.ref g5.objs.size) >>= _) _ _ _
  refine wpAny_bind ?_
  unfold Builtin.SmallTypes.ownedTupleHandOut
  have z6:IsZip (g5.push { cls:=.type "tuple",data:=.seq #[x,y] }) z TI TO .ellipsis:=Heap.get?_push_of_some _ z5
  refine wpAny_bind (wpAny_setField_rec z6 (by simp) fun g7 z7 s7=>?_)
  replace z7:IsZip g7 z TI TO (rawInt g5.objs.size):=z7
  refine wpAny_setField_rec z7 (by simp) fun g8 z8 s8=>?_
  replace z8:IsZip g8 z TI TO (rawInt g5.objs.size):=z8
  have up:∀ c o,c ≠ z->g5.get? c=some o->g8.get? c=some o:=fun c o hc e=>s8.extBut _ _ hc (s7.extBut _ _ hc (Heap.get?_push_of_some _ e))
  have new8:IsPair g8 g5.objs.size x y:=s8.extBut _ _ (Nat.ne_of_gt (Heap.lt_size z5)) (s7.extBut _ _ (Nat.ne_of_gt (Heap.lt_size z5)) (Heap.get?_push_size _ rfl))
  have size8:g8.objs.size=g5.objs.size + 1:=by rw [s8.1,s7.1,Heap.size_push]
  rw [hsz] at z8 new8 size8
  refine wpAny_pure ⟨_,rfl,wpAny_pure ?_⟩
  show Q (some (.ref g5.objs.size)) _
  rw [hsz]
  exact hQ g8 z8 (up _ _ D.a2 o5) (m1.at fun o e=>up _ o D.a3 e) (m2.at fun o e=>up _ o D.a4 e) new8 size8 fun c o hc e=>up c o (fun q=>hc (by simp [q])) (k5 c o hc e)
theorem zipTL_end {z TI TO i1 i2 t1 t2:Addr} {xs:Array Value} {k:Nat} {Q:Option Value->Shared->Prop} (hh:A.handled=none) (D:ZipD z TI TO i1 i2 t1 t2) (Z:ZipTL s.heap z TI TO i1 i2 t1 t2 k) (hl1:s.heap.IsTuple t1 xs)
    (hx:xs[k]?=none) (hQ:∀ h',(∀ c o,c ∉ [z,TO,i1,i2]->s.heap.get? c=some o->h'.get? c=some o)->Q none { s with heap:=h' }):wpAny (model prog w) A (pyNext (.ref z)) Q E s:=by
  obtain ⟨hz,hTI,⟨a,b,hTO⟩,h1,h2⟩:=Z
  have hT:s.TypeIs (.ref z) "zip":=⟨_,hz,rfl⟩
  unfold pyNext
  refine wpAny_bind (wpAny_attempt (wpAny_callSpecial?_slot (name:=Str.ofString "__next__") hT F.slot_zip_next (wpAny_call_entry F.slot_zip_next hT F.entry_zip_next ?_ (F.args_zip_next_1 _))))
  show wpAny _ _ (field (.ref z) 2 >>= _) _ _ _
  refine wpAny_bind (wpAny_field hz rfl (x:=.bool false) rfl ?_)
  show wpAny _ _ (field (.ref z) 3 >>= _) _ _ _
  refine wpAny_bind (wpAny_field hz rfl (x:=.ref TI) rfl (wpAny_bind (wpAny_seqItems hTI rfl ?_)))
  show wpAny _ _ (Builtin.SmallTypes.ownedTupleIsFree (.ref z) >>= _) _ _ _
  refine wpAny_bind ?_
  unfold Builtin.SmallTypes.ownedTupleIsFree
  refine wpAny_bind (wpAny_field hz rfl (x:=.none) rfl (wpAny_pure ?_))
  simp only [if_true]
  refine wpAny_bind (wpAny_rule (wpAny_bind (wpAny_field hz rfl (x:=.ref TO) rfl (wpAny_bind (wpAny_setField_rec hz (by simp) fun g1 z1 s1=>?_)))))
  replace z1:IsZip g1 z TI TO .ellipsis:=z1
  refine wpAny_bind ?_
  simp only [List.zipIdx_cons,List.zipIdx_nil,List.forIn_cons,List.forIn_nil]
  refine wpAny_bind (wpAny_bind (wpAny_onRaise ?_))
  show wpAny _ _ (Builtin.SmallTypes.nextOf (.ref i1) >>= _) _ _ _
  refine wpAny_bind (nextT_end hh (h1.at fun o e=>s1.extBut _ o D.a3 e) (hl1.at fun o e=>s1.extBut _ o D.e1 e) hx fun g2 e s2 he=>?_)
  obtain ⟨oe,hoe,hce⟩:=he
  have z2:IsZip g2 z TI TO .ellipsis:=s2 _ _ D.a3.symm z1
  have hez:e ≠ z:=fun q=>by subst q;rw [z2] at hoe;cases hoe;simp at hce
  refine wpAny_setField_rec z2 (by simp) fun g3 _ s3=>?_
  refine wpAny_bind (wpAny_isInstance (T:="StopIteration") (b:=true) ⟨oe,s3.extBut _ _ hez hoe,hce⟩ isSubtype_stop (wpAny_pure (hQ g3 fun c o hc q=>?_)))
  simp only [List.mem_cons,List.not_mem_nil,or_false,not_or] at hc
  exact s3.extBut _ _ hc.1 (s2 _ _ hc.2.2.1 (s1.extBut _ _ hc.1 q))
noncomputable abbrev zipHpTL (h:Heap) (t1 t2:Addr):Heap:=((((h.push (tit t1)).push (lit t2)).push (tpr (.ref h.objs.size) (.ref (h.objs.size + 1)))).push (tpr .none .none)).push (zob (h.objs.size + 2) (h.objs.size + 3))
theorem zip_newTL (t1 t2:Addr) (xs ys:Array Value) :
    Meets (Builtin.«zip.__new__» ⟨[.type "zip",.ref t1,.ref t2],[]⟩) (fun _ R s=>s.heap.IsTuple t1 xs/\s.heap.IsList t2 ys/\R (.ok (.ret (.ref (s.heap.objs.size + 4)))) { s with heap:=zipHpTL s.heap t1 t2 }) :=
  .of_wp fun prog w A R s h=>by
    obtain ⟨hp,g,d,tk,os⟩:=s;obtain ⟨hl1,hl2,h⟩:=h
    have hsub:=sub_zip
    have hL1:Heap.IsTuple (Shared.heap ⟨hp,g,d,tk,os⟩) t1 xs:=hl1
    have hL2:Heap.IsList (Shared.heap ⟨hp.push (tit t1),g,d,tk,os⟩) t2 ys:=Heap.IsList.push hl2 _
    wp_walk using wpAny_pyIter_tuple hL1,wpAny_pyIter_list hL2
    simp only [Heap.size_push]
    exact ⟨_,rfl,h⟩
theorem call_zipTL {t1 t2:Addr} {xs ys:Array Value} {Q:Value->Shared->Prop} (hl1:s.heap.IsTuple t1 xs) (hl2:s.heap.IsList t2 ys)
    (h:∀ h',ZipTL h' (s.heap.objs.size + 4) (s.heap.objs.size + 2) (s.heap.objs.size + 3) s.heap.objs.size (s.heap.objs.size + 1) t1 t2 0->(∀ c o,s.heap.get? c=some o->h'.get? c=some o)->h'.objs.size=s.heap.objs.size + 5 ->
      Q (.ref (s.heap.objs.size + 4)) { s with heap:=h' }):wpAny (model prog w) A (call (.type "zip") [.ref t1,.ref t2]) Q E s:=by
  refine callType_new F.called_zip (by decide) (F.typeCall_zip_2 _ _) (F.newCall_zip_2 _ _) (fun obj=>F.args_object_init_3 obj _ _) F.entry_zip_new (zip_newTL t1 t2 xs ys) ⟨hl1,hl2,?_⟩
  have up:∀ {b:Addr} {o:Obj} (h0:Heap) (x:Obj),h0.get? b=some o->(h0.push x).get? b=some o:=fun _ _ e=>Heap.get?_push_of_some _ e
  have here:∀ (h0:Heap) (x:Obj) (n:Nat),x.isFreed=false->h0.objs.size=n->(h0.push x).get? n=some x:=fun h0 x n hf e=>by subst e;exact Heap.get?_push_size _ hf
  have Z:ZipTL (zipHpTL s.heap t1 t2) (s.heap.objs.size + 4) (s.heap.objs.size + 2) (s.heap.objs.size + 3) s.heap.objs.size (s.heap.objs.size + 1) t1 t2 0 :=
    ⟨here _ _ _ rfl (by simp only [Heap.size_push]),up _ _ (up _ _ (here _ _ _ rfl (by simp only [Heap.size_push]))),⟨_,_,up _ _ (here _ _ _ rfl (by simp only [Heap.size_push]))⟩,
      ⟨_,up _ _ (up _ _ (up _ _ (up _ _ (here _ _ _ rfl rfl)))),rfl,rfl⟩,⟨_,up _ _ (up _ _ (up _ _ (here _ _ _ rfl (by simp only [Heap.size_push])))),rfl,rfl⟩⟩
  exact ⟨⟨_,Z.zz,rfl⟩,h _ Z (fun c o e=>up _ _ (up _ _ (up _ _ (up _ _ (up _ _ e))))) (by simp only [Heap.size_push])⟩
end
section
variable {X:Cx} {pins:List (Addr × Obj)} {σ:St} {H:Hp} {s:Shared}
noncomputable def ItzTL (K:PySem.W.Frag) (a b:Addr):It :=
  ⟨fun i H=>∃ xs ys x y,SqT K H a xs/\SqL K H b ys/\xs[i]?=some x/\ys[i]?=some y,fun i H v H'=>∃ p x y,H p=none/\v=.ref p/\H'=upd H p (.tup [x,y])/\(∀ xs,SqT K H a xs->xs[i]?=some x)/\∀ ys,SqL K H b ys->ys[i]?=some y,
    fun i H=>∃ xs,SqT K H a xs/\xs.length <= i⟩
theorem turn_zipTL {P:Program} {w:World} {K:PySem.W.Frag} {es:List Expr} {kk:Nat} {pos:Pos} {a b z TI TO i1 i2:Addr} (D:ZipD z TI TO i1 i2 a b) :
    Turn P w K (.Tuple es kk pos) (ItzTL K a b) [z,TI,TO,i1,i2] z (fun i h=>ZipTL h z TI TO i1 i2 a b i) where
  mem:=by simp
  obj:=fun i h st c hc=>by
    obtain ⟨hz,hTI,⟨_,_,hTO⟩,⟨_,h1,_,d1⟩,⟨_,h2,_,d2⟩⟩:=st
    simp only [List.mem_cons,List.not_mem_nil,or_false] at hc
    rcases hc with rfl | rfl | rfl | rfl | rfl
    · exact ⟨_,hz,fun v q=>by cases q⟩
    · exact ⟨_,hTI,fun v q=>by cases q⟩
    · exact ⟨_,hTO,fun v q=>by cases q⟩
    · exact ⟨_,h1,fun v q=>by rw [d1] at q;cases q⟩
    · exact ⟨_,h2,fun v q=>by rw [d2] at q;cases q⟩
  keep:=fun i h h' st k=>by
    obtain ⟨hz,hTI,⟨_,_,hTO⟩,h1,h2⟩:=st
    exact ⟨k _ (by simp) _ hz,k _ (by simp) _ hTI,⟨_,_,k _ (by simp) _ hTO⟩,h1.at fun o e=>k _ (by simp) o e,h2.at fun o e=>k _ (by simp) o e⟩
  item:=by
    intro X hP hw hK hc i pins s σ H E I hf st hg
    subst hP hw hK
    obtain ⟨xs,ys,x,y,ha,hb,hx,hy⟩:=hg
    obtain ⟨its,r1,p1,_⟩:=I.tuple ha
    obtain ⟨its2,r2,p2,_⟩:=I.list hb
    obtain ⟨u,hu,ru⟩:=r1.get hx
    obtain ⟨v,hv,rv⟩:=r2.get hy
    refine zipTL_item D st (show s.heap.IsTuple a its.toArray from p1) (show s.heap.IsList b its2.toArray from p2.isList) (x:=u) (y:=v) (by simpa using hu) (by simpa using hv) fun h' z1 o1 j1 j2 new sz keep=>?_
    refine ⟨_,rfl,wpAny_letOwnedTupleGo_zip (s:={ s with heap:=h' }) z1 fun h2 z2 sb=>?_⟩
    have hn:H s.heap.objs.size=none:=I.hok.fresh (Nat.le_refl _)
    have zlt:z < s.heap.objs.size:=Heap.lt_size st.zz
    have k2:∀ c o,c ∉ [z,TI,TO,i1,i2]->s.heap.get? c=some o->h2.get? c=some o:=fun c o hc e=>by
      simp only [List.mem_cons,List.not_mem_nil,or_false,not_or] at hc
      exact sb.extBut _ _ hc.1 (keep c o (by simp only [List.mem_cons,List.not_mem_nil,or_false,not_or];exact ⟨hc.1,hc.2.2.1,hc.2.2.2.1,hc.2.2.2.2⟩) e)
    have e0:h2.get? s.heap.objs.size=some { cls:=.type "tuple",data:=.seq #[u,v] }:=sb.extBut _ _ (Nat.ne_of_gt zlt) new
    have pne:∀ c o,s.heap.get? c=some o->c ≠ s.heap.objs.size:=fun c o e=>Nat.ne_of_lt (Heap.lt_size e)
    have nit:∀ c u,H c=some u->c ∉ [z,TI,TO,i1,i2]:=fun c u e q=>by rw [(hf c q).1] at e;cases e
    have hok:HOk X.prog X.w (upd H s.heap.objs.size (.tup [x,y])) h2:=fun c ob e=>by
      by_cases hq:c=s.heap.objs.size
      · subst hq
        rw [upd_same] at e;cases e
        exact ⟨by show 2 <= sizeLine;decide,[u,v],.cons ru (.cons rv .nil),⟨_,e0,rfl,_,rfl⟩⟩
      · rw [upd_ne hq] at e
        refine (I.hok c ob e).stay (fun d w' hd q=>k2 d w' ?_ q) (fun d q=>by rw [upd_ne (ne_of_none q hn)];exact q) fun d xs q=>by rw [upd_ne (ne_of_none q hn)];exact q
        rcases hd with rfl | hd
        · exact nit d ob e
        · exact nit d _ hd
    have I2:Inv X pins σ (upd H s.heap.objs.size (.tup [x,y])) { s with heap:=h2 }:=by
      refine I.step (g':=s.gens) (d':=s.drawn) (t':=s.toks) (ch:=[z,TI,TO,i1,i2]) (fun c hc=>⟨(hf c hc).2.2.2.1,(hf c hc).2.1,(hf c hc).2.2.2.2.1,(hf c hc).2.2.2.2.2⟩) (fun c o _ _ hc e _=>k2 c o hc e) (fun c o _ _ hc e _=>⟨o.slots,k2 c o hc e⟩)
        (fun c o _ e n=>by rw [upd_ne (pne c o e)];exact n) (fun c o hc e=>⟨o,k2 c o hc e⟩) (fun c xs e=>by rw [upd_ne (ne_of_none e hn)];exact e) (fun c o u e=>by rw [upd_ne (ne_of_none e hn)];exact e) (fun c ps e=>⟨#[],by rw [upd_ne (ne_of_none e hn),e];simp⟩) (fun m hm=>?_) hok I.bare
      obtain ⟨o,es,ep,ho,r⟩:=hm
      exact ⟨o,es,ep,k2 _ o (fun q=>(hf _ q).2.1 rfl) ho,r⟩
    refine ⟨.ref s.heap.objs.size,_,I2,rfl,⟨_,x,y,hn,rfl,rfl,fun xs' h'=>by rw [I.tuple_inj h' ha];exact hx,fun ys' h'=>by rw [I.list_inj h' hb];exact hy⟩,?_,fun c hc=>?_⟩
    · exact ⟨z2,sb.extBut _ _ D.a1 (keep _ _ (by simp only [List.mem_cons,List.not_mem_nil,or_false,not_or];exact ⟨D.a1,D.b1,D.b2,D.b3⟩) st.ti),⟨_,_,sb.extBut _ _ D.a2 o1⟩,j1.at fun o e=>sb.extBut _ o D.a3 e,j2.at fun o e=>sb.extBut _ o D.a4 e⟩
    · have hlt:c < s.heap.objs.size:=by
        obtain ⟨hz,hTI,⟨_,_,hTO⟩,⟨_,h1,_⟩,⟨_,h2,_⟩⟩:=st
        simp only [List.mem_cons,List.not_mem_nil,or_false] at hc
        rcases hc with rfl | rfl | rfl | rfl | rfl
        · exact Heap.lt_size hz
        · exact Heap.lt_size hTI
        · exact Heap.lt_size hTO
        · exact Heap.lt_size h1
        · exact Heap.lt_size h2
      rw [upd_ne (Nat.ne_of_lt hlt)]
      exact (hf c hc).1
  done:=by
    intro X hP hw hK hc i pins s σ H E I hf st hg
    subst hP hw hK
    obtain ⟨xs,ha,hx⟩:=hg
    obtain ⟨its,r1,p1,_⟩:=I.tuple ha
    have hl:=r1.length
    refine zipTL_end (I.ok.hd hc) D st (show s.heap.IsTuple a its.toArray from p1) (by simp;lia) fun h' keep=>⟨rfl,I.turnedL (t':=s.toks) (ch:=[z,TI,TO,i1,i2]) (fun c o hc e=>keep c o (fun q=>hc ?_) e) hf⟩
    simp only [List.mem_cons,List.not_mem_nil,or_false] at q ⊢
    rcases q with q | q | q | q
    · exact .inl q
    · exact .inr (.inr (.inl q))
    · exact .inr (.inr (.inr (.inl q)))
    · exact .inr (.inr (.inr (.inr q)))
  self:=fun _ _ _ _ _ st h=>wpAny_pyIter_zip st.zz h
noncomputable def iZipTL (K:PySem.W.Frag) (ta:TA):TI:=fun σ H R=>ta σ H fun vs H1=>∃ a b xs ys,vs=[.ref a,.ref b]/\SqT K H1 a xs/\SqL K H1 b ys/\R (ItzTL K a b) H1
theorem pi_zipTL {e1 e2:Expr} {es:List Expr} {kk:Nat} {pt p pos:Pos} {ta:TA} (hg:Gl X "zip") (hm:X.mg "zip"=none) (ha:PA X [e1,e2] ta) (hs:starEach [e1,e2] X.env=[(false,eval e1 X.env),(false,eval e2 X.env)]:=by rfl) (hs2:starEach [e2] X.env=[(false,eval e2 X.env)]:=by rfl) :
    PI X (.Tuple es kk pt) (.Call (.Name "zip" p) [e1,e2] [] pos) (iZipTL X.K ta):=by
  intro pins s σ H R I h
  refine Call_ (ld_blt I hg hm boot_zip (PyProof.Rows.callWith_type1 (thn (ha pos pins s σ H _ I h) fun us s1 ⟨vs,H1,I1,r1,q1⟩=>?_) (by rw [hs,hs2]) (by rw [hs2];rfl)))
  obtain ⟨a,b,xs,ys,rfl,hx,hy,q⟩:=q1
  cases r1 with
  | cons ra rr =>
    cases rr with
    | cons rb rr =>
      cases rr
      cases ra
      cases rb
      obtain ⟨its,r1,p1,_⟩:=I1.tuple hx
      obtain ⟨its2,r2,p2,_⟩:=I1.list hy
      refine call_zipTL (show s1.heap.IsTuple a its.toArray from p1) (show s1.heap.IsList b its2.toArray from p2.isList) fun h' Z keep sz=>?_
      refine wpAny_pyIter_zip (s:={ s1 with heap:=h' }) Z.zz ?_
      have I2:Inv X pins σ H1 { s1 with heap:=h' }:=I1.kept (t':=s1.toks) keep
      refine ⟨s1.heap.objs.size + 4,[s1.heap.objs.size + 4,s1.heap.objs.size + 2,s1.heap.objs.size + 3,s1.heap.objs.size,s1.heap.objs.size + 1],_,_,H1,rfl,I2,turn_zipTL (ZipD.new p1.lt p2.isList.lt'),Z,fun c hc=>?_,q⟩
      have hge:s1.heap.objs.size <= c:=by
        simp only [List.mem_cons,List.not_mem_nil,or_false] at hc
        rcases hc with rfl | rfl | rfl | rfl | rfl <;> first | exact Nat.le_add_right _ _ | exact Nat.le_refl _
      exact I1.fpOk hge (I1.hok.fresh hge)
end
section
variable {X:Cx} {K:PySem.W.Frag}
theorem blk_zipTL {a b:Addr} {xs ys:List V} {σ0:St} {te:TE} {H:Hp} {F:List V->Hp->Prop} (hn:xs.length <= sizeLine) (hxy:xs.length=ys.length) (Pv:Nat->List V->Hp->Prop) (h0:Pv 0 [] H) (hl:∀ i zs H,Pv i zs H->zs.length=i)
    (hq:∀ i zs H,i <= xs.length->Pv i zs H->SqT K H a xs/\SqL K H b ys) (hσ:σ0[0]?=some none/\σ0[1]?=some none)
    (hs:∀ i zs H x y p,xs[i]?=some x->ys[i]?=some y->H p=none->Pv i zs H->te ((σ0.set 0 (some x)).set 1 (some y)) (upd H p (.tup [x,y])) fun z H'=>Pv (i + 1) (zs ++ [z]) H') (hd:∀ zs H,Pv xs.length zs H->F zs H) :
    Blk (ItzTL K a b) σ0 (gTup K 2 (gCons (gName 0) (gCons (gName 1) gNil))) tTrue te H F:=by
  refine ⟨fun i m zs H=>m=xs.length - i/\i <= xs.length/\Pv i zs H,⟨xs.length,by simp,Nat.zero_le _,h0⟩,?_⟩
  rintro i m zs H2 ⟨rfl,hi,p⟩
  obtain ⟨q1,q2⟩:=hq i zs H2 hi p
  refine ⟨by rw [hl i zs H2 p];lia,?_⟩
  by_cases hlt:i < xs.length
  · refine .inr ⟨⟨xs,ys,xs[i],ys[i]'(by lia),q1,q2,by simp [hlt],by rw [List.getElem?_eq_getElem (by lia)]⟩,fun y H'=>Pv (i + 1) (zs ++ [y]) H',fun _=>False,fun y H' q=>⟨xs.length - (i + 1),by lia,rfl,hlt,q⟩,fun _ q=>q.elim,fun v H3 yld=>?_⟩
    obtain ⟨r,x,y,hr,rfl,rfl,hx,hy⟩:=yld
    exact ⟨r,[x,y],rfl,.of upd_same,rfl,x,[y],rfl,y,[],rfl,rfl,wk2 hσ _ _,hs i zs _ x y r (hx xs q1) (hy ys q2) hr p⟩
  · have e:i=xs.length:=by lia
    subst e
    exact .inl ⟨⟨xs,q1,Nat.le_refl _⟩,hd zs H2 p⟩
end
section
variable {X:Cx} {K:PySem.W.Frag}
end
section
variable {prog:Program} {w:World} {A:Around} {E:Value->Shared->Prop} {s:Shared}
structure ZipLM (h:Heap) (z TI TO i1 i2 t1 t2:Addr) (k:Nat):Prop where
  zz:IsZip h z TI TO .none
  ti:IsPair h TI (.ref i1) (.ref i2)
  tO:∃ a b,IsPair h TO a b
  it1:h.IsListIter i1 t1 k
  it2:h.IsListIter i2 t2 k
end
section
variable {X:Cx} {pins:List (Addr × Obj)} {σ:St} {H:Hp} {s:Shared}
end
section
variable {X:Cx} {K:PySem.W.Frag}
end
end L2
namespace L2
open PySem PySem.Spec PyProof.Rows
section
variable {prog:Program} {w:World} {A:Around} {E:Value->Shared->Prop} {s:Shared}
end
section
variable {X:Cx} {pins:List (Addr × Obj)} {σ:St} {H:Hp} {s:Shared}
end
end L2
namespace L2
open PySem PySem.Spec PyProof.Rows
section
variable {prog:Program} {w:World} {A:Around} {E:Value->Shared->Prop} {s:Shared}
end
section
variable {X:Cx} {pins:List (Addr × Obj)} {σ:St} {H:Hp} {s:Shared}
end
section
variable {X:Cx}
open Classical in
end
end L2
namespace So
open PySem PyProof.Rows PySem.Spec L2
section
variable {prog:Program} {w:World} {A:Around} {E:Value->Shared->Prop} {s:Shared} {rk:Keyed->Int} {M:Keyed->Prop} {κ:SortKind}
theorem sort_raw64 {rv:Value->Int} {B:Addr} {vs:List Value} {c:Nat} {P:PySem.Fin->Shared->Prop} (hB:s.heap.get? B=some (seqObj "list" vs.toArray c)) (h64:vs.length < 64)
    (hk:2 <= vs.length->∀ h1,(∀ b o,b ≠ B->s.heap.get? b=some o->h1.get? b=some o) ->
      wpAny (model prog w) A (keyKind' vs.toArray) (fun κ s'=>s'={ s with heap:=h1 }/\Ask prog w A { s with heap:=h1 } (fun x=>rv x.1) (fun x=>x.1 ∈ vs) κ) (fun _ _=>False) { s with heap:=h1 })
    (hP:∀ h' vs' c',vs'.Perm vs->vs'.Pairwise (fun x y=>rv x <= rv y)->(∀ b o,b ≠ B->s.heap.get? b=some o->h'.get? b=some o)->h'.get? B=some (seqObj "list" (List.toArray vs') c')->P (.done (.ret .none)) { s with heap:=h' }):wpAny (model prog w) A (Builtin.«list.sort» ⟨[.ref B],[]⟩) P E s:=by
  obtain ⟨e1,hB1⟩:∃ e1,(s.heap.update B (Obj.mapSeq fun _=>(#[]:Array Value))).get? B=some (seqObj "list" #[] e1):=⟨_,get?_update_seq hB fun _=>#[]⟩
  have b1:=Heap.SameBut.update s.heap B (Obj.mapSeq fun _=>(#[]:Array Value))
  obtain ⟨h3,eh3⟩:∃ h3,h3=((s.heap.update B (Obj.mapSeq fun _=>(#[]:Array Value))).push (seqObj "tuple" vs.toArray 0)).push (seqObj "list" #[] 0):=⟨_,rfl⟩
  have hB3:h3.get? B=some (seqObj "list" #[] e1):=by rw [eh3];exact Heap.get?_push_of_some _ (Heap.get?_push_of_some _ hB1)
  have k3:∀ b o,b ≠ B->s.heap.get? b=some o->h3.get? b=some o:=fun b o hb q=>by rw [eh3];exact Heap.get?_push_of_some _ (Heap.get?_push_of_some _ (b1.extBut b o hb q))
  rw [list_sort_plain]
  refine wpAny_bind (listItems_at hB rfl (wpAny_bind (listUpdate_at hB rfl ?_ (by rw [List.size_toArray,sizeLine_eq];lia) (Nat.zero_le _))))
  refine wpAny_bind (seqEpoch_at hB1 rfl (wpAny_bind (wpAny_newTuple ?_ (by show vs.length <= _;rw [sizeLine_eq];lia))))
  refine wpAny_bind (wpAny_newList (wpAny_holding ?_) (Nat.zero_le _))
  show wpAny (model prog w) A _ P E { s with heap:=((s.heap.update B (Obj.mapSeq fun _=>(#[]:Array Value))).push (seqObj "tuple" vs.toArray 0)).push (seqObj "list" #[] 0) }
  rw [<- eh3]
  dsimp only
  have fin:∀ (st:SortSt) (out:List Value),(arrOf st).map (·.2)=List.toArray out->out.length=vs.length->failedOf st=none->out.Perm vs->out.Pairwise (fun x y=>rv x <= rv y) ->
      wpAny (model prog w) A (do
        let sorted:=(arrOf st).map (·.2)
        let touched:=(<- seqEpoch B) != e1
        Builtin.List.listUpdate (.ref B) fun _=>sorted
        if let some e:=failedOf st then rule "list.sort.comparison-raised";throw e
        if touched then rule "list.sort.modified";raiseError "ValueError" "list modified during sort"
        ret .none) P E { s with heap:=h3 }:=fun st out ho hl hf hp hu=>by
    rw [ho]
    have sz:(List.toArray out).size <= sizeLine:=by rw [List.size_toArray,hl,sizeLine_eq];lia
    obtain ⟨c2,hc2⟩:∃ c2,(h3.update B (Obj.mapSeq fun _=>List.toArray out)).get? B=some (seqObj "list" (List.toArray out) c2):=⟨_,get?_update_seq hB3 fun _=>List.toArray out⟩
    refine wpAny_bind (seqEpoch_at hB3 rfl (wpAny_bind (listUpdate_at hB3 rfl ?_ (Nat.zero_le _) (Nat.le_trans sz (Nat.le_succ _)))))
    rw [hf]
    simp only [bne_self_eq_false,Bool.false_eq_true,if_false]
    exact wpAny_pure (hP _ out c2 hp hu (fun b o hb q=>(Heap.SameBut.update h3 B _).extBut b o hb (k3 b o hb q)) hc2)
  by_cases h2:2 <= vs.length
  · have hn2:¬ vs.toArray.size < 2:=by rw [List.size_toArray];lia
    rw [if_neg hn2,if_neg hn2]
    refine wpAny_bind (wpAny_mono (hk h2 h3 k3) (fun κ s0 hh=>?_) fun _ _ x=>x.elim)
    obtain ⟨rfl,ask⟩:=hh
    have ez:(vs.toArray.zip vs.toArray).toList=vs.map fun v=>(v,v):=by
      rw [Array.toList_zip]
      show vs.zip vs=_
      clear hk hP hB h64 h2 hn2 ask fin hB1 b1 eh3 hB3 k3
      induction vs with
      | nil=>rfl
      | cons v vs ih=>rw [List.zip_cons_cons,ih];rfl
    refine wpAny_bind (wpAny_mono (sortRuns_small (rk:=fun x=>rv x.1) (M:=fun x=>x.1 ∈ vs) (s:={ s with heap:=h3 }) (Q:=fun _ st'=>(arrOf st').toList.Perm (vs.map fun v=>(v,v))/\failedOf st'=none/\Up (fun x=>rv x.1) (arrOf st').toList) ask (fun x hx=>?_) ?_ ?_ (fun st' a1 a2 a3=>⟨by rw [ez] at a1;exact a1,a2,a3⟩)) ?_ fun _ _ e=>e)
    · rw [ez] at hx
      obtain ⟨v,hv,rfl⟩:=List.mem_map.mp hx
      exact hv
    · have:=congrArg List.length ez
      simp at this ⊢
      lia
    · have:=congrArg List.length ez
      simp at this ⊢
      lia
    rintro ⟨⟨⟩,st'⟩ s' ⟨rfl,hp,hf,hu⟩
    dsimp only at hp hf hu ⊢
    have twin:∀ x ∈ (arrOf st').toList,x.1=x.2:=fun x hx=>by
      obtain ⟨v,_,rfl⟩:=List.mem_map.mp (hp.mem_iff.mp hx)
      rfl
    have hp2:((arrOf st').toList.map (·.2)).Perm vs:=by
      have:=hp.map (·.2)
      rw [List.map_map] at this
      have e:vs.map ((fun x:Keyed=>x.2) ∘ fun v=>(v,v))=vs:=by
        have:((fun x:Keyed=>x.2) ∘ fun v=>(v,v))=id:=rfl
        rw [this,List.map_id]
      rw [e] at this
      exact this
    refine fin st' ((arrOf st').toList.map (·.2)) ?_ hp2.length_eq hf hp2 ?_
    · apply Array.toList_inj.mp
      simp
    · rw [List.pairwise_map]
      refine List.Pairwise.imp_of_mem ?_ hu
      intro x y hx hy hxy
      rw [<- twin x hx,<- twin y hy]
      exact hxy
  · have hn2:vs.toArray.size < 2:=by rw [List.size_toArray];lia
    rw [if_pos hn2,if_pos hn2]
    refine wpAny_bind (wpAny_pure (wpAny_bind ?_))
    rw [StateT.run_pure]
    refine wpAny_pure ?_
    refine fin _ vs (by
      show ((vs.toArray.zip vs.toArray).map (·.2))=vs.toArray
      apply Array.toList_inj.mp
      simp [List.map_snd_zip]) rfl rfl (List.Perm.refl _) ?_
    match vs,h2 with
    | [],_=>exact List.Pairwise.nil
    | [v],_=>exact List.pairwise_singleton _ _
    | a :: b :: l,h2=>exact absurd (by simp:2 <= (a :: b :: l).length) h2
end
end So
namespace L2
open PySem PySem.Spec PyProof.Rows HT
section
variable {X:Cx} {H:Hp}
end
end L2
namespace L2
open PySem PySem.Spec PyProof.Rows
section
variable {X:Cx}
open Classical in
end
end L2
namespace L2
open PySem PySem.Spec PyProof.Rows
section
variable {X:Cx}
end
end L2
namespace L2
open PySem PySem.Spec PyProof.Rows
section
variable {prog:Program} {w:World} {A:Around} {R:Result->Shared->Prop} {s:Shared}
theorem compLoop_anyD {kx vx target iter:Expr} {scope:Scope} {pos:Pos} {it:Value} {D:Addr} {env:Env} (I:Nat->Shared->Prop)
    (turn:∀ n s,I n s->wpAny (model prog w) A (pyNext it) (fun r s₁=>match r with
      | none=>R (.ok .next) s₁
      | some v=>wpAny (model prog w) A (letOwnedTupleGo target it v) (fun _ s₁'=>wpAny (model prog w) A (assign target env v) (fun _ s₃ =>
            wpAny (model prog w) A (eval kx env) (fun kv s₄=>wpAny (model prog w) A (eval vx env) (fun vv s₅ =>
              wpAny (model prog w) A (dictSet D kv vv) (fun _ s₆=>∃ m,m < n/\I m s₆) (fun _ _=>False) s₅) (fun _ _=>False) s₄) (fun _ _=>False) s₃) (fun _ _=>False) s₁') (fun _ _=>False) s₁) (fun _ _=>False) s)
    (n:Nat) (h:I n s) :
    codeAny (model prog w) A (.compLoop (.DictComp kx vx [⟨target,iter,[],0⟩] scope pos) 0 it (.ref D) env) R s:=by
  refine codeAny_loop rfl I (fun n s hI=>?_) n h
  show wpAny _ A ((compTurn (.DictComp kx vx [⟨target,iter,[],0⟩] scope pos) 0 it (.ref D) env).onRaise (fun x=>do noteFrame x env;theTreesLotGoes x)) _ _ s
  refine wpAny_noted ?_
  rw [compTurn_dict]
  refine wpAny_bind (wpAny_standAt (wpAny_bind (wpAny_mono (turn n s hI) (fun r s₁ h₁=>?_) fun _ _ h'=>h'.elim)))
  cases r with
  | none=>exact wpAny_pure h₁
  | some v =>
    refine wpAny_bind (wpAny_mono h₁ (fun _ s₁' h₁'=>?_) fun _ _ h'=>h'.elim)
    refine wpAny_bind (wpAny_mono h₁' (fun _ s₂ h₂=>?_) fun _ _ h'=>h'.elim)
    simp only [List.forIn_nil]
    refine wpAny_bind (wpAny_pure ?_)
    simp only [if_true]
    refine wpAny_bind (wpAny_bind (wpAny_mono h₂ (fun kv s₄ h₄=>wpAny_bind (wpAny_holding (wpAny_mono h₄ (fun vv s₅ h₅=>wpAny_bind (wpAny_standAt (wpAny_holding (wpAny_mono h₅ (fun _ s₆ h₆=>wpAny_pure ⟨rfl,h₆⟩) fun _ _ h'=>h'.elim)))) fun _ _ h'=>h'.elim))) fun _ _ h'=>h'.elim))
end
section
variable {X:Cx} {pins:List (Addr × Obj)} {σ:St} {H H':Hp} {s s':Shared} {scope:Scope} {N:List Str} {ix:List (Option Nat)} {fp:List Addr}
theorem Inv.comp_endD {pins':List (Addr × Obj)} {σ':St} {h':Heap} (I:Inv X pins σ H s) (J:Inv (X.comp scope N s H fp) pins' σ' H' s') (hfp:∀ b ∈ fp,FpOk X pins H b)
    (hs:Heap.SameBut s.heap.objs.size s'.heap h'):Inv X pins σ H' { s' with heap:=h' }:=by
  have oldC:∀ b,b < s.heap.objs.size->b ≠ s.heap.objs.size:=fun b hb=>Nat.ne_of_lt hb
  have U:=J.base
  have un:Un (frs X.stack) fp H H' s.heap h':=by
    refine ⟨fun b o e n hb hx=>?_,fun b o e n hb hx=>?_,fun b o e n hx=>?_,fun b o e hx=>?_,fun b xs e=>?_,fun b o u e=>?_,fun b ps e=>?_⟩
    · exact (hs.2 b (oldC b (Heap.lt_size e))).trans (U.keep b o e n hb hx)
    · obtain ⟨sl,q⟩:=U.slot b o e n hb hx
      exact ⟨sl,(hs.2 b (oldC b (Heap.lt_size e))).trans q⟩
    · exact U.free b o e n hx
    · obtain ⟨o',q⟩:=U.there b o e hx
      exact ⟨o',(hs.2 b (oldC b (Heap.lt_size e))).trans q⟩
    · exact U.tups b xs e
    · exact U.frzs b o u e
    · exact U.tbls b ps e
  have hC:H' s.heap.objs.size=none:=J.free
  have hok:HOk X.prog X.w H' h':=fun b u e=>by
    refine (J.hok b u e).stay (fun c v hc q=>(hs.2 c ?_).trans q) (fun c q=>q) fun c xs q=>q
    rintro rfl
    rcases hc with z | z
    · rw [<- z,hC] at e;cases e
    · rw [hC] at z;cases z
  exact I.call' (s':={ s' with heap:=h' }) (ch:=fp) J.os un hok J.bare fun b hb=>⟨(hfp b hb).2.2.2.1,(hfp b hb).2.1,(hfp b hb).2.2.2.2.1,(hfp b hb).2.2.2.2.2⟩
end
section
variable {X:Cx} {scope:Scope} {N:List Str} {ix:List (Option Nat)} {kx vx target iter:Expr} {pos:Pos} {wi:TI} {g:TG} {tk tv:TE}
noncomputable def BlkD (J:It) (σ0:St) (g:TG) (tk tv:TE) (p:Addr) (H1:Hp) (F:Hp->Prop):Prop:=∃ W:Nat->Nat->Hp->Prop,(∃ m,W 0 m H1)/\∀ i m H2,W i m H2 ->
  ((J.stop i H2/\F H2) ∨
   (J.go i H2/\∃ Ny:Hp->Prop,(∀ H,Ny H->∃ m',m' < m/\W (i + 1) m' H) /\
     ∀ x H3,J.yld i H2 x H3->g x σ0 H3 fun σ2 H4=>Wk σ0 σ2/\tk σ2 H4 fun y H5=>tv σ2 H5 fun v H6=>∃ H7,(∃ kvs k,H6 p=some (.dK kvs)/\y=kV k/\kvs.length < sizeLine/\H7=upd H6 p (.dK (putK kvs k v)))/\Ny H7))
noncomputable abbrev accD (s:Shared):Shared:={ s with heap:=s.heap.push { cls:=.type "dict",data:=.dict #[] } }
theorem accD_size (s:Shared):(accD s).heap.objs.size=s.heap.objs.size + 1:=Heap.size_push ..
theorem dset_at {pins:List (Addr × Obj)} {σ:St} {H:Hp} {s:Shared} {a:Addr} {kvs:List (Key × V)} {k:Key} {v:V} {u r:Value} {E:Value->Shared->Prop} {Q:Unit->Shared->Prop} {A:Around} (I:Inv X pins σ H s) (e:H a=some (.dK kvs)) (l:kvs.length < sizeLine) (ry:RelV (kV k) u) (rv:RelV v r) (h:∀ s',Inv X pins σ (upd H a (.dK (putK kvs k v))) s'->(∀ b q,b ≠ a->s.heap.get? b=some q->s'.heap.get? b=some q)->Q () s') :
    wpAny (model X.prog X.w) A (dictSet a u r) Q E s:=by
  obtain ⟨z,hd,vs,rel,dd⟩:=dk_of I.hok e
  have hz:vs.length <= sizeLine:=by rw [<- rel.length];exact z
  have hl:(putK kvs k v).length <= sizeLine:=by have:=length_putK kvs k v;lia
  refine wpAny_dictSet_pairs (hsz:=hz) (kV_is ry) dd fun h' dd' hs=>h _ ?_ (fun b q hb hq=>(hs.2 b hb).trans hq)
  have he:∃ q,h'.get? a=some q:=let ⟨q,_,_,hq,_⟩:=dd';⟨q,hq⟩
  exact d_write I (by rw [e];exact True.intro) hs he (dk_new hl hd (rel.put k rv) dd')
theorem comp_runD {pins:List (Addr × Obj)} {σ:St} {H:Hp} {s:Shared} {it:Addr} {fp:List Addr} {tn:Nat->Heap->Prop} {J:It} {F:Hp->Prop} {E:Value->Shared->Prop} {RR:Value->Addr->Result->Shared->Prop}
    (hc:X.calm=true) (hk:scope.kind=.function) (hnm:okNames scope=true) (hf:okFree scope X.env=true) (hx:okIx scope X.N N ix=true)
    (hg:∀ s H ex,PG (X.comp scope N s H ex) target g) (hkx:∀ s H ex,PE (X.comp scope N s H ex) kx tk) (hvx:∀ s H ex,PE (X.comp scope N s H ex) vx tv)
    (I:Inv X pins σ H s) (T:Turn X.prog X.w X.K target J fp it tn) (st:tn 0 s.heap) (hfp:∀ b ∈ fp,FpOk X pins H b) (B:BlkD J (pick ix σ) g tk tv s.heap.objs.size (upd H s.heap.objs.size (.dK [])) F)
    (fin:∀ (H':Hp) (s':Shared) (σ':St),Inv X pins σ (upd H s.heap.objs.size (.dK [])) (accD s)->(∀ b ∈ fp,FpOk X pins (upd H s.heap.objs.size (.dK [])) b)->Inv (X.comp scope N (accD s) (upd H s.heap.objs.size (.dK [])) fp) [] σ' H' s'->F H'->RR (.ref s.heap.objs.size) (accD s).heap.objs.size (.ok .next) s') :
    wpAny (model X.prog X.w) X.A newDict (fun acc s₃=>wpAny (model X.prog X.w) X.A (newFunctionEnv scope X.env.globals (closL X.env scope.names []) [] X.env.qual none .none (some X.env)) (fun cenv s₄ =>
      codeAny (model X.prog X.w) X.A (.compStart (.DictComp kx vx [⟨target,iter,[],0⟩] scope pos) 0 (.ref it) acc { cenv with scope:=relabel scope X.env }) (RR acc cenv.locals) s₄) E s₃) E s:=by
  obtain ⟨W,⟨m0,w0⟩,turn⟩:=B
  have I1:Inv X pins σ (upd H s.heap.objs.size (.dK [])) (accD s):=I.laid (a:=s.heap.objs.size) (o:=.dK []) (h':=s.heap.push { cls:=.type "dict",data:=.dict #[] }) (t':=s.toks) (fun _ _ q=>Heap.get?_push_of_some _ q) (Nat.le_refl _) (dk_empty s.heap I.big)
  refine wpAny_newObj_type (newEnv_comp ?_) (by show (#[]:Array DictEntry).size <= _;exact Nat.zero_le _)
  have fpLt:∀ b ∈ fp,b < s.heap.objs.size:=fun b hb=>let ⟨o,e,_⟩:=T.obj 0 _ st b hb;Heap.lt_size e
  generalize hH0:upd H s.heap.objs.size (.dK [])=H0 at *
  have hfp1:∀ b ∈ fp,FpOk X pins H0 b:=fun b hb=>by
    obtain ⟨f0,f1,f2,f3,f4,f5⟩:=hfp b hb
    refine ⟨?_,f1,f2,f3,f4,f5⟩
    rw [<- hH0,upd_ne (Nat.ne_of_lt (fpLt b hb))];exact f0
  have J0:Inv (X.comp scope N (accD s) H0 fp) [] (pick ix σ) H0 _:=I1.comp (N:=N) (ix:=ix) (ex:=fp) hk hnm hf hx fun b hb=>by
    obtain ⟨f0,f1,f2,f3,f4,_⟩:=hfp1 b hb
    exact ⟨f0,f1,f2,f3,f4,by rw [accD_size];exact Nat.lt_succ_of_lt (fpLt b hb)⟩
  have keep0:∀ b o,(accD s).heap.get? b=some o->(pushCells ((accD s).heap.push { cls:=.type "dict",data:=.dict #[] }) scope.names).get? b=some o:=fun b o e=>pushCells_keeps _ _ b o (Heap.get?_push_of_some _ e)
  have st0:tn 0 (pushCells ((accD s).heap.push { cls:=.type "dict",data:=.dict #[] }) scope.names):=T.keep 0 _ _ st fun b hb o e=>keep0 b o (Heap.get?_push_of_some _ e)
  have exOk:∀ b ∈ fp,b ≠ (X.comp scope N (accD s) H0 fp).env.locals/\b ∉ (X.comp scope N (accD s) H0 fp).fs /\
      ∀ x c,(X.comp scope N (accD s) H0 fp).env.cells.lookup x=some c->c ≠ b:=fun b hb=>⟨(J0.ok.exf b hb).1,J0.ok.exfs b hb,(J0.ok.exf b hb).2⟩
  have stat:∀ {H':Hp},(∀ b ∈ fp,H' b=none)->∀ b ∈ fp,FpOk (X.comp scope N (accD s) H0 fp) [] H' b:=fun {H'} hn b hb=>by
    obtain ⟨e1,e2,e3⟩:=exOk b hb
    exact ⟨hn b hb,e1,e2,.inl hb,e3,fun p hp=>absurd (show p ∈ ([]:List (Addr × Obj)) from (List.mem_append.mp hp).elim (fun z=>z) id) (by simp)⟩
  have loop:codeAny (model X.prog X.w) X.A (.compLoop (.DictComp kx vx [⟨target,iter,[],0⟩] scope pos) 0 (.ref it) (.ref s.heap.objs.size) (X.comp scope N (accD s) H0 fp).env) (RR (.ref s.heap.objs.size) (accD s).heap.objs.size)
      { accD s with heap:=pushCells ((accD s).heap.push { cls:=.type "dict",data:=.dict #[] }) scope.names }:=by
    refine compLoop_anyD (fun n s'=>∃ i H',Inv (X.comp scope N (accD s) H0 fp) [] (pick ix σ) H' s'/\tn i s'.heap/\(∀ b ∈ fp,H' b=none)/\W i n H') ?_ m0
      ⟨0,H0,J0,st0,fun b hb=>(hfp1 b hb).1,w0⟩
    rintro n s3 ⟨i,H3,I3,st3,fr3,w3⟩
    rcases turn i n H3 w3 with ⟨stop,fy⟩ | ⟨go,Ny,hNy,step⟩
    · refine thn (T.done (X.comp scope N (accD s) H0 fp) rfl rfl rfl hc i _ s3 (pick ix σ) H3 (fun _ _=>False) I3 (stat fr3) st3 stop) fun r s4 ⟨hr,I4⟩=>?_
      subst hr
      exact fin H3 s4 _ I1 hfp1 I4 fy
    · refine thn (T.item (X.comp scope N (accD s) H0 fp) rfl rfl rfl hc i _ s3 (pick ix σ) H3 (fun _ _=>False) I3 (stat fr3) st3 go) fun r s4 ⟨u,hr,h4⟩=>?_
      subst hr
      refine thn h4 fun _ s5 ⟨x,H5,I5,r5,y5,st5,fr5⟩=>?_
      have I5':=I5.pinned (stat fr5) (T.obj _ _ st5)
      refine thn (hg (accD s) H0 fp _ s5 (pick ix σ) H5 x u _ I5' r5 (step x H5 y5)) fun _ s6 ⟨σ6,H6,I6,wk6,q6⟩=>?_
      refine thn (hkx (accD s) H0 fp _ s6 σ6 H6 _ I6 q6) fun kv s7 ⟨y,H7,I7,r7,q7⟩=>?_
      refine thn (hvx (accD s) H0 fp _ s7 σ6 H7 _ I7 q7) fun vv s8 ⟨v,H8,I8,r8,q8⟩=>?_
      obtain ⟨H9,⟨kvs,k,hD,ey,hl,e9⟩,hN9⟩:=q8
      subst ey e9
      refine dset_at (X:=X.comp scope N (accD s) H0 fp) (A:=X.A) I8 hD hl r7 r8 fun s9 I9 kp9=>?_
      obtain ⟨m',hm,w9⟩:=hNy _ hN9
      refine ⟨m',hm,i + 1,_,(I9.weak wk6.1 wk6.2).pins_of (fun p hp=>by cases hp),?_,fun b hb=>?_,w9⟩
      · exact T.keep _ _ _ st5 fun b hb o e=>(I9.pin (b,o) (List.mem_append_right _ (List.mem_append_right _ (mem_pinsAt hb e)))).1
      · obtain ⟨o,e,d⟩:=T.obj _ _ st5 b hb
        exact (I9.pin (b,o) (List.mem_append_right _ (List.mem_append_right _ (mem_pinsAt hb e)))).2.1
  exact codeAny_compStart_dict loop (T.self _ 0 _ _ _ st0 loop)
theorem eval_DictComp1 {env:Env}:eval (.DictComp kx vx [⟨target,iter,[],0⟩] scope pos) env=comprehension (.DictComp kx vx [⟨target,iter,[],0⟩] scope pos) scope env (firstIterPos [⟨target,iter,[],0⟩] pos) newDict (firstAsync [⟨target,iter,[],0⟩]) (firstIter [⟨target,iter,[],0⟩] env):=arm_eval_DictComp ..
theorem pe_dcomp (hc:X.calm=true) (hi:PI X target iter wi) (hg:∀ s H ex,PG (X.comp scope N s H ex) target g) (hkx:∀ s H ex,PE (X.comp scope N s H ex) kx tk) (hvx:∀ s H ex,PE (X.comp scope N s H ex) vx tv)
    (hk:scope.kind=.function) (hnm:okNames scope=true) (hf:okFree scope X.env=true) (hx:okIx scope X.N N ix=true) (hs:∀ x,foldedSetIterable iter X.env x=pure x) :
    PE X (.DictComp kx vx [⟨target,iter,[],0⟩] scope pos) (fun σ H Q=>wi σ H fun J H1=>∀ p,H1 p=none->BlkD J (pick ix σ) g tk tv p (upd H1 p (.dK [])) fun H2=>Q (.ref p) H2):=by
  intro pins s σ H Q I h
  rw [eval_DictComp1]
  refine wpAny_comprehension_free (use:=none) rfl hs (closureFor_eq (I.closed hf)) hk (fun x hx hl=>(okNames_get hnm hx).trans (by rw [hl])) ?_
  refine thn (hi pins s σ H _ I h) fun v s1 h1=>thn h1 fun itv s2 h2=>?_
  obtain ⟨it,fp,tn,J,H2,e,I2,T,st2,f2,B⟩:=h2
  subst e
  have hn2:=I2.hok.fresh (Nat.le_refl s2.heap.objs.size)
  refine comp_runD (RR:=fun acc C=>compPost (model X.prog X.w) X.A X.xe none (EP X pins σ Q) acc C) hc hk hnm hf hx hg hkx hvx I2 T st2 f2 (B _ hn2) ?_
  intro H' s' σ' I1 hfp1 J' hF
  obtain ⟨m,hm,_⟩:=J'.loc
  exact ⟨m,hm,fun h' hs'=>⟨.ref s2.heap.objs.size,_,I1.comp_endD J' hfp1 hs',rfl,hF⟩⟩
theorem blkD_range {lo:Int} {n:Nat} {σ0:St} {p:Addr} {H:Hp} {F:Hp->Prop} (Pv:Nat->Hp->Prop) (h0:Pv 0 H) (hσ:σ0[0]?=some none)
    (hs:∀ i H,i < n->Pv i H->tk (σ0.set 0 (some (.int (lo + i)))) H fun y H5=>tv (σ0.set 0 (some (.int (lo + i)))) H5 fun v H6=>∃ H7,(∃ kvs k,H6 p=some (.dK kvs)/\y=kV k/\kvs.length < sizeLine/\H7=upd H6 p (.dK (putK kvs k v)))/\Pv (i + 1) H7) (hd:∀ H,Pv n H->F H):BlkD (Itr lo n) σ0 (gName 0) tk tv p H F:=by
  refine ⟨fun i m H=>m=n - i/\i <= n/\Pv i H,⟨n,by simp,Nat.zero_le _,h0⟩,?_⟩
  rintro i m H2 ⟨rfl,hi,q⟩
  by_cases hlt:i < n
  · refine .inr ⟨hlt,fun H'=>Pv (i + 1) H',fun H' q=>⟨n - (i + 1),by lia,rfl,hlt,q⟩,fun x H3 y=>?_⟩
    obtain ⟨rfl,rfl⟩:=y
    exact ⟨Wk.set (.inl hσ),hs i _ hlt q⟩
  · have e:i=n:=by lia
    subst e
    exact .inl ⟨Nat.le_refl _,hd H2 q⟩
end
end L2
namespace L2
open PySem PySem.Spec PyProof.Rows
section
variable {X:Cx}
theorem strs_are:∀ {ys:List Str} {us:List Value},Vals (ys.map V.str) us->StrsAre us ys
  | [],_,h=>by cases h;exact .nil
  | y :: ys,_,h=>by
    cases h with
    | cons r rs =>
      obtain ⟨t,rfl⟩:=r
      exact .cons y t (strs_are rs)
theorem strs_vals:∀ (k:Nat) (ys:List Str),Vals (ys.map V.str) (strsFrom k ys)
  | _,[]=>.nil
  | k,y :: ys=>.cons ⟨_,rfl⟩ (strs_vals (k + 1) ys)
noncomputable def rJoin (K:PySem.W.Frag):V->List V->Hp->VK->Prop:=fun x vs H Q=>∃ (sep:Str) (p:Addr) (ys:List Str),x=.str sep/\vs=[.ref p]/\SqL K H p (ys.map V.str)/\(ys.map fun y=>y.length).sum + ys.length * sep.length <= 16777216/\Q (.str (Txt.join sep ys)) H
theorem mt_join:MtR X "str.join" (rJoin X.K):=by
  intro pins s σ H x vs v us Q I rx rv h
  obtain ⟨sep,p,ys,rfl,rfl,hp,hz,q⟩:=h
  obtain ⟨t,rfl⟩:=rx
  obtain ⟨u,rfl,ru⟩:=rv.one
  cases ru
  obtain ⟨its,r,pl,_⟩:=I.list hp
  exact join_list pl.isList (by simpa using strs_are r) hz fun t' k=>⟨.str _,H,I.tok k,⟨_,rfl⟩,q⟩
noncomputable def rSplit:V->List V->Hp->VK->Prop:=fun x vs H Q=>∃ (a sep:Str),x=.str a/\vs=[.str sep]/\(sep.length == 0)=false/\a.length <= 900/\∀ p,H p=none->Q (.ref p) (upd H p (.lst ((Txt.split a sep).map V.str)))
theorem mt_split:MtR X "str.split" rSplit:=by
  intro pins s σ H x vs v us Q I rx rv h
  obtain ⟨a,sep,rfl,rfl,h0,hl,q⟩:=h
  obtain ⟨t,rfl⟩:=rx
  obtain ⟨u,rfl,ru⟩:=rv.one
  obtain ⟨t2,rfl⟩:=ru
  have hn:=I.hok.fresh (Nat.le_refl s.heap.objs.size)
  have big:=sz (show 1000 <= 1000 by decide)
  have lay:∀ (its:List Value) (k:Nat),Vals ((Txt.split a sep).map V.str) its->(Txt.split a sep).length <= sizeLine->EP X pins σ Q (.ref s.heap.objs.size) { s with heap:=s.heap.push { cls:=.type "list",data:=.seq its.toArray },toks:=k }:=fun its k hv hz =>
    ⟨.ref s.heap.objs.size,_,I.laid (a:=s.heap.objs.size) (o:=.lst ((Txt.split a sep).map V.str)) (t':=k) (fun _ _ q=>Heap.get?_push_of_some _ q) (Nat.le_refl _) ⟨by rw [List.length_map];exact hz,its,0,hv,Heap.get?_push_size _ rfl⟩,rfl,q _ hn⟩
  have one:∀ k,Txt.split a sep=[a]->EP X pins σ Q (.ref s.heap.objs.size) { s with heap:=s.heap.push { cls:=.type "list",data:=.seq #[Value.str a t] },toks:=k }:=fun k e=>by
    have:=lay [Value.str a t] k (by rw [e];exact .cons ⟨t,rfl⟩ .nil) (by rw [e];exact Nat.le_trans (show 1 <= 1000 by decide) big)
    exact this
  by_cases hc:(decide (a.length < sep.length) || decide (Builtin.Str.strKind a < Builtin.Str.strKind sep))=true
  · have e:Txt.split a sep=[a]:=by unfold Txt.split;rw [if_pos hc]
    refine call_meets PySem.F.slot_str_split (typeIs_str s a t) PySem.F.entry_str_split (PySem.F.args_str_split_2 _ _) (meets_str_split_cannot_occur a sep t t2 hc) (one _ e)
  · have hc':=Bool.eq_false_iff.mpr hc
    by_cases ho:(Builtin.Str.occurrences a sep 0 a.length (a.length + 1)).isEmpty=true
    · have e:Txt.split a sep=[a]:=by unfold Txt.split;rw [if_neg hc,if_pos ho]
      refine call_meets PySem.F.slot_str_split (typeIs_str s a t) PySem.F.entry_str_split (PySem.F.args_str_split_2 _ _) (meets_str_split_not_found a sep t t2 hc' h0 ho) (one _ e)
    · have e:Txt.split a sep=Builtin.Str.partsBetween a (Builtin.Str.occurrences a sep 0 a.length (a.length + 1)) sep.length:=by unfold Txt.split;rw [if_neg hc,if_neg ho]
      have hz:(Builtin.Str.partsBetween a (Builtin.Str.occurrences a sep 0 a.length (a.length + 1)) sep.length).length <= sizeLine:=by
        have h1:=split_weight a sep (by have:=bne_iff_ne.mp (show (sep.length != 0)=true by unfold bne;rw [h0];rfl);lia)
        rw [e] at h1
        exact Nat.le_trans (show _ <= 1000 by lia) big
      refine call_meets PySem.F.slot_str_split (typeIs_str s a t) PySem.F.entry_str_split (PySem.F.args_str_split_2 _ _) (meets_str_split_sep a sep t t2 hc' h0 (Bool.eq_false_iff.mpr ho) (Nat.le_trans hl (Nat.le_trans (by decide) big)) hz) ?_
      rw [<- e]
      exact lay _ _ (strs_vals _ _) (by rw [e];exact hz)
noncomputable abbrev TJx:=St->Hp->(Str->Hp->Prop)->Prop
theorem str_assoc (a b c:Str):a ++ b ++ c=a ++ (b ++ c):=congrArg Str.mk Array.append_assoc
theorem str_nil (a:Str):a ++ Str.empty=a:=congrArg Str.mk Array.append_empty
noncomputable def PJx (X:Cx) (es:List Expr) (n:Nat) (t:TJx):Prop :=
  ∀ (acc:Str),acc.length <= n->∀ (pins:List (Addr × Obj)) (s:Shared) (σ:St) (H:Hp) (Q:Str->Hp->Prop),Inv X pins σ H s->t σ H Q ->
    wpAny (model X.prog X.w) X.A (joinParts acc (evalEach es X.env)) (fun u s'=>∃ z H',Inv X pins σ H' s'/\RelV (.str (acc ++ z)) u/\Q z H') X.xe s
section
variable {es:List Expr} {n:Nat} {t:TJx}
theorem pjx_nil (h:n <= sizeLine:=by decide):PJx X [] n (fun _ H Q=>Q Str.empty H):=by
  intro acc ha pins s σ H Q I q
  exact joinParts_nil (s:=s) ⟨Str.empty,H,I.tok _,by rw [str_nil];exact ⟨_,rfl⟩,q⟩ (Nat.le_trans ha h)
theorem pjx_str {x:Str} {j:Nat} {pos:Pos} (h:PJx X es (n + x.length) t) (hz:n + x.length <= sizeLine:=by decide):PJx X (.Constant (.str x) j pos :: es) n (fun σ H Q=>t σ H fun z H1=>Q (x ++ z) H1):=by
  intro acc ha pins s σ H Q I q
  show wpAny _ _ (joinParts acc (eval (.Constant (.str x) j pos) X.env :: evalEach es X.env)) _ _ _
  refine joinParts_cons (Calls.Constant_str ⟨?_,?_⟩)
  · rw [strLen_append];lia
  · exact thn (h (acc ++ x) (by rw [strLen_append];lia) pins _ σ H _ (I.tok _) q) fun u s1 ⟨z,H1,I1,r,q1⟩=>⟨x ++ z,H1,I1,by rw [<- str_assoc];exact r,q1⟩
theorem pjx_fmt {e:Expr} {te:TE} {pos:Pos} (he:PE X e te) (h:PJx X es (n + 100) t) (hz:n + 100 <= sizeLine:=by decide) :
    PJx X (.FormattedValue e (-1) none pos :: es) n (fun σ H Q=>te σ H fun v H1=>∃ i:Int,v=.int i/\i.natAbs.log2 < 1920/\(Str.ofString (toString i)).length <= 100/\t σ H1 fun z H2=>Q (Str.ofString (toString i) ++ z) H2):=by
  intro acc ha pins s σ H Q I q
  show wpAny _ _ (joinParts acc (eval (.FormattedValue e (-1) none pos) X.env :: evalEach es X.env)) _ _ _
  refine joinParts_cons (FormattedValue_plain (thn (he pins s σ H _ I q) fun u s1 ⟨v,H1,I1,r,i,ev,hl,hz',q1⟩=>?_))
  subst ev
  obtain ⟨tk,rfl⟩:=r
  refine formatField_int_small hl ⟨?_,?_⟩
  · rw [strLen_append]
    have:(toString i:Str).length <= 100:=hz'
    lia
  · exact thn (h _ (by
      rw [strLen_append]
      have:(toString i:Str).length <= 100:=hz'
      lia) pins _ σ H1 _ (I1.tok _) q1) fun u s1 ⟨z,H1,I1,r,q1⟩=>⟨_,H1,I1,by rw [<- str_assoc];exact r,q1⟩
theorem pe_fstrX {v1 v2:Expr} {rest:List Expr} {pos:Pos} (h:PJx X (v1 :: v2 :: rest) 0 t):PE X (.JoinedStr (v1 :: v2 :: rest) pos) (fun σ H Q=>t σ H fun z H1=>Q (.str z) H1):=by
  intro pins s σ H Q I q
  refine JoinedStr_many (thn (h Str.empty (Nat.le_refl _) pins s σ H _ I q) fun u s1 ⟨z,H1,I1,r,q1⟩=>⟨.str z,H1,I1,?_,q1⟩)
  have e:Str.empty ++ z=z:=congrArg Str.mk Array.empty_append
  rw [e] at r
  exact r
end
end
theorem str_ext {a b:Str} (h:a.cps.toList=b.cps.toList):a=b:=by
  cases a with
  | mk x=>cases b with
    | mk y=>exact congrArg Str.mk (Array.toList_inj.mp h)
end L2
namespace L2
open PySem PySem.Spec PyProof.Rows
noncomputable def isStrD:PyData->Bool
  | .str _=>true
  | _=>false
theorem kit_str (K:PySem.W.Frag) (d:PyData):PySem.W.kitOne K (.type (tyN d)) (.type "str")=some (isStrD d):=by cases d <;> kernel_rfl
end L2
namespace G
open PySem PySem.Spec PyProof.Rows L2 Mt
structure Bt2 (mg:Str->Option Value):Prop where
  str:mg "str"=none
noncomputable def tx (i:Int):Str:=Str.ofString (toString i)
theorem tx_okF:∀ i:Fin 41,(tx (i.1:Int)).cps.toList.contains 44=false/\(tx (i.1:Int)).cps.toList.contains 47=false/\(tx (i.1:Int)).length <= 2:=by decide +kernel
theorem tx_injF:∀ i j:Fin 21,tx (i.1:Int)=tx (j.1:Int)->i=j:=by decide +kernel
theorem tx_ok {i:Int} (h0:0 <= i) (h:i <= 40):44 ∉ (tx i).cps.toList/\47 ∉ (tx i).cps.toList/\(tx i).length <= 2:=by
  have e:((i.toNat:Nat):Int)=i:=Int.toNat_of_nonneg h0
  have:=tx_okF ⟨i.toNat,by lia⟩
  dsimp only at this
  rw [e] at this
  obtain ⟨h1,h2,h3⟩:=this
  exact ⟨fun z=>(by rw [List.contains_iff_mem.mpr z] at h1;cases h1),fun z=>(by rw [List.contains_iff_mem.mpr z] at h2;cases h2),h3⟩
theorem tx_inj {i j:Nat} (hi:i <= 20) (hj:j <= 20) (h:tx (i:Int)=tx (j:Int)):i=j:=by
  have:=tx_injF ⟨i,by lia⟩ ⟨j,by lia⟩ h
  exact congrArg Fin.val this
theorem log_s {i:Int} (h0:0 <= i) (h:i <= 1000):i.natAbs.log2 < 1920:=by
  rcases Nat.eq_zero_or_pos i.natAbs with e | e
  · rw [e];decide
  · exact Nat.lt_of_lt_of_le ((Nat.log2_lt (by lia)).mpr (show i.natAbs < 2 ^ 10 by lia)) (by decide)
noncomputable def nT (ns:List Int):Str:=Txt.join "," (ns.map tx)
theorem comma:(",":Str)=⟨#[44]⟩:=by decide +kernel
theorem len_comma:(",":Str).length=1:=by rw [comma];rfl
theorem sum_lens {m:Nat}:∀ {ys:List Str},(∀ y ∈ ys,y.length <= m)->(ys.map fun y=>y.length).sum <= m * ys.length
  | [],_=>by simp
  | y :: ys,h=>by
    have h1:=h y List.mem_cons_self
    have h2:=sum_lens (ys:=ys) fun x hx=>h x (List.mem_cons_of_mem _ hx)
    rw [List.map_cons,List.sum_cons,List.length_cons,Nat.mul_add]
    lia
section
variable {P:Program} {w:World} {K:PySem.W.Frag} {mg:Str->Option Value} {base:Heap} {f:Addr} {fd:FuncData} {ec:Nat->Addr} {Bs:Addr}
noncomputable def sp_nt:Sp:=fun vs H Q _=>∃ (a:Addr) (ns:List Int),vs=[.ref a]/\H a=some (.tup (ns.map V.int))/\ns.length <= 4/\(∀ x ∈ ns,0 <= x/\x <= 20)/\∀ H',Same H H'->Q (.str (nT ns)) H'
noncomputable abbrev s_nt:Stmt:=top 50
theorem sc_nt:FnScope ["numbers"] ["numbers"] (defScope s_nt):=⟨rfl,rfl,rfl,by decide +kernel,rfl,by decide +kernel,by decide +kernel⟩
theorem ok_nt (F:Fun K "numbers_text" "numbers_text" s_nt f fd) (B2:Bt2 mg):FnOk P w K mg base CX0 1 f fd ["numbers"] sp_nt:=by
  refine F.ok sc_nt (fun vs H Q E h=>?_) (fun cdv A outer s H vs Q E hr h=>?_)
  · obtain ⟨a,ns,rfl,_⟩:=h
    rfl
  obtain ⟨a,ns,rfl,ha,hl,hb,q⟩:=h
  refine ⟨_,(@pss_one _ _ _ (ps_ret (pe_bm PySem.F.plainAttrs_str PySem.F.slot_str_join PySem.F.type_str_join mt_join pe_str (@pa_cons _ _ _ _ _ (pe_compG (N:=["number"]) (ix:=[none]) (ifs:=[]) (tc:=tTrue) rfl (pi_tup (pv 0))
      (fun s H ex=>pg_c (i:=0) (by decide +kernel) rfl (Or.inl rfl) (.inr rfl)) (fun s H ex=>pifs_nil) (fun s H ex=>(pe_callTy call_str_int rfl B2.str boot_str (@pa_cons _ _ _ _ _ (pv 0) pa_nil (by rfl)))) rfl (by decide +kernel) (by rfl) (by rfl) (fun _=>rfl)) pa_nil (by rfl))))),?_⟩
  refine ⟨rfl,_,rfl,a,rfl,⟨_,.of ha⟩,?_⟩
  refine blk_tup (K:=K) (a:=a) (xs:=ns.map V.int) (sz (by rw [List.length_map];lia)) (fun i ys H2=>Same H H2/\ys=((ns.take i).map tx).map V.str/\ys.length=i)
    ⟨Same.refl _,rfl,rfl⟩ (fun i ys H2 h=>h.2.2) (fun i ys H2 _ h=>.of (h.1 _ _ ha)) rfl (fun i ys H2 v hv h=>?_) (fun ys H2 h=>?_)
  · obtain ⟨g2,hy,hyl⟩:=h
    rw [List.getElem?_map] at hv
    obtain ⟨x,hx,ex⟩:=Option.map_eq_some_iff.mp hv
    subst ex
    have hxb:=hb x (List.mem_of_getElem? hx)
    refine ⟨_,rfl,x,rfl,log_s hxb.1 (by lia),g2,?_,by rw [List.length_append,hyl];rfl⟩
    rw [hy,List.take_add_one,hx,List.map_append,List.map_append]
    rfl
  · obtain ⟨g2,hy,hyl⟩:=h
    rw [List.length_map,List.take_of_length_le (Nat.le_refl _)] at hy
    subst hy
    intro p hp
    have hsl:=sum_lens (m:=2) (ys:=ns.map tx) fun y hy=>by
      obtain ⟨x,hx,e⟩:=List.mem_map.mp hy
      have:=hb x hx
      rw [<- e];exact (tx_ok this.1 (by lia)).2.2
    rw [List.length_map] at hsl
    refine ⟨_,p,ns.map tx,rfl,rfl,.of upd_same,?_,q _ (g2.trans (Same.new hp))⟩
    rw [List.length_map,len_comma]
    lia
end
end G
namespace G
open PySem PySem.Spec PyProof.Rows L2 Mt
section
variable {P:Program} {w:World} {K:PySem.W.Frag} {mg:Str->Option Value} {base:Heap} {f:Addr} {fd:FuncData} {ec:Nat->Addr} {Bs:Addr}
noncomputable def sp_ut:Sp:=fun vs H Q _=>∃ (st a:Addr) (ns:List Int) (n:Nat),vs=[.ref a]/\Dt st H (DI ns) (.ref a)/\Mt.Urn n 20 ns/\1 <= n/\n <= 4/\∀ H',Same H H'->Q (.str (nT ns)) H'
noncomputable abbrev s_ut:Stmt:=top 51
theorem sc_ut:FnScope ["urn"] ["urn"] (defScope s_ut):=⟨rfl,rfl,rfl,by decide +kernel,rfl,by decide +kernel,by decide +kernel⟩
theorem ok_ut (F:Fun K "urn_text" "urn_text" s_ut f fd) (c1:CalX P w K mg base 5 "need_urn" ["thing"] (sp_need_urn ec)) (c2:Cal P w K mg base 5 "numbers_text" ["numbers"] sp_nt):FnOk P w K mg base CX0 6 f fd ["urn"] sp_ut:=by
  refine F.ok sc_ut (fun vs H Q E h=>?_) (fun cdv A outer s H vs Q E hr h=>?_)
  · obtain ⟨st,a,ns,n,rfl,_⟩:=h
    rfl
  obtain ⟨st,a,ns,n,rfl,hd,hU,n1,n4,q⟩:=h
  refine ⟨_,(@pss_cons _ _ _ _ _ (ps_expr (pe_calx c1 hr rfl pass10 (@pa_cons _ _ _ _ _ (pv 0) pa_nil (by rfl))))
    (@pss_one _ _ _ (ps_ret (pe_cal c2 hr rfl (@pa_cons _ _ _ _ _ (pv 0) pa_nil (by rfl)))))),?_⟩
  have hl:=hU.len
  obtain ⟨a',ea,_,ha⟩:=hd.di
  cases ea
  refine ⟨_,rfl,_,st,_,rfl,hd,short_DI (by lia),fun _ H1 g1=>⟨_,rfl,a,ns,rfl,g1 _ _ ha,by lia,hU.nn,fun H2 g2=>q _ (g1.trans g2)⟩,fun e=>?_⟩
  rw [urnD_of hU n1 n4] at e
  cases e
noncomputable def fT (t b:Int):Str:=if b=1 then tx t else tx t ++ ("/" ++ tx b)
noncomputable abbrev s_ft:Stmt:=top 52
theorem sc_ft:FnScope ["fraction","top","bottom"] ["fraction"] (defScope s_ft):=⟨rfl,rfl,rfl,by decide +kernel,rfl,by decide +kernel,by decide +kernel⟩
end
end G
namespace G
open PySem PySem.Spec PyProof.Rows L2 Mt
noncomputable def knw (n:Nat):List (Key × V):=(List.range n).map fun j:Nat=>((Sum.inr (tx (j:Int)):Key),V.int (j:Int))
theorem valV_mapN {α:Type} [DecidableEq α] {f:Nat->α} {g:Nat->V} {k:α}:∀ {l:List Nat},(∀ i ∈ l,f i ≠ k)->valV (l.map fun i=>(f i,g i)) k=none
  | [],_=>rfl
  | a :: l,h=>by
    rw [List.map_cons,valV_neg (h a List.mem_cons_self)]
    exact valV_mapN fun i hi=>h i (List.mem_cons_of_mem _ hi)
theorem knw_new {n:Nat} (hn:n <= 20):putK (knw n) (Sum.inr (tx (n:Int))) (.int (n:Int))=knw (n + 1):=by
  rw [putK_new]
  · unfold knw;rw [List.range_succ,List.map_append];rfl
  · exact valV_mapN (f:=fun j:Nat=>(Sum.inr (tx (j:Int)):Key)) (g:=fun j:Nat=>V.int (j:Int)) fun i hi e=>by
      have h1:=List.mem_range.mp hi
      have:=tx_inj (by lia) (by lia) (Sum.inr.inj e)
      lia
noncomputable def rdO (n:Nat) (x:Str):Option Nat:=(List.range n).find? fun j:Nat=>decide ((Sum.inr (tx (j:Int)):Key)=Sum.inr x)
noncomputable def rdV (n:Nat) (x:Str):V:=match rdO n x with
  | none=>.non
  | some j=>.int (j:Int)
noncomputable def rdL (n:Nat):List Str->Option (List Int)
  | []=>some []
  | x :: xs=>match rdO n x,rdL n xs with
    | some j,some ns=>some ((j:Int) :: ns)
    | _,_=>none
theorem knw_val (n:Nat) (x:Str):(valV (knw n) (Sum.inr x)).getD .non=rdV n x:=by
  unfold valV knw rdV rdO
  rw [List.find?_map,Option.map_map]
  generalize hq:(List.find? ((fun kv:Key × V=>decide (kv.1=Sum.inr x)) ∘ fun j:Nat=>((Sum.inr (tx (j:Int)):Key),V.int (j:Int))) (List.range n))=r
  have hq':(List.range n).find? (fun j:Nat=>decide ((Sum.inr (tx (j:Int)):Key)=Sum.inr x))=r:=hq
  rw [hq']
  cases r <;> rfl
theorem rdO_lt {n j:Nat} {x:Str} (h:rdO n x=some j):j < n:=List.mem_range.mp (List.mem_of_find?_eq_some h)
theorem rdL_some {n:Nat}:∀ {xs:List Str} {ns:List Int},rdL n xs=some ns->xs.map (rdV n)=ns.map V.int/\ns.length=xs.length/\∀ z ∈ ns,0 <= z/\z < (n:Int)
  | [],ns,h=>by
    cases h
    exact ⟨rfl,rfl,by simp⟩
  | x :: xs,ns,h=>by
    unfold rdL at h
    cases h1:rdO n x with
    | none=>rw [h1] at h;cases h
    | some j =>
      cases h2:rdL n xs with
      | none=>rw [h1,h2] at h;cases h
      | some ms =>
        rw [h1,h2] at h
        cases h
        obtain ⟨e1,e2,e3⟩:=rdL_some h2
        refine ⟨?_,by rw [List.length_cons,List.length_cons,e2],fun z hz=>?_⟩
        · rw [List.map_cons,List.map_cons,e1]
          unfold rdV
          rw [h1]
        · have:=rdO_lt h1
          rcases List.mem_cons.mp hz with e | e
          · rw [e];lia
          · exact e3 z e
theorem rdV_flat (n:Nat) (x:Str):flatV (rdV n x)=true:=by
  unfold rdV
  cases rdO n x <;> rfl
theorem rdL_in {n:Nat}:∀ xs:List Str,inV .non (xs.map (rdV n))=(rdL n xs).isNone
  | []=>rfl
  | x :: xs=>by
    have ih:=rdL_in (n:=n) xs
    unfold inV at ih ⊢
    rw [List.map_cons,List.any_cons,ih]
    have e:rdL n (x :: xs)=(match rdO n x,rdL n xs with
      | some j,some ns=>some ((j:Int) :: ns)
      | _,_=>none):=rfl
    rw [e]
    unfold rdV
    generalize rdL n xs=r
    cases rdO n x with
    | none=>simp [eqV]
    | some j=>cases r <;> simp [eqV]
theorem split_len (t:Str):(Txt.split t ",").length <= t.length + 1:=by
  have:=split_weight t "," (by decide +kernel)
  lia
section
variable {P:Program} {w:World} {K:PySem.W.Frag} {mg:Str->Option Value} {base:Heap} {f:Addr} {fd:FuncData} {ec:Nat->Addr} {Bs:Addr}
noncomputable def sp_ntx (ec:Nat->Addr):Sp:=fun vs H Q E=>∃ (st:Addr) (d:PyData) (v:V),vs=[v]/\Dt st H d v/\(isStrD d=true->Q .non H)/\(isStrD d=false->E (.ref (ec 9)) none H)
noncomputable abbrev s_ntx:Stmt:=top 54
theorem sc_ntx:FnScope ["thing"] ["thing"] (defScope s_ntx):=⟨rfl,rfl,rfl,by decide +kernel,rfl,by decide +kernel,by decide +kernel⟩
theorem ok_ntx (F:Fun K "need_text" "need_text" s_ntx f fd) (B:Bt mg) (B2:Bt2 mg) (R:Errs K mg ec Bs):FnOk P w K mg base (CX1 P w) 1 f fd ["thing"] (sp_ntx ec):=by
  refine F.okX sc_ntx (fun vs H Q E h=>?_) (fun cdv A outer s H vs Q E hr h=>?_)
  · obtain ⟨st,d,v,rfl,_⟩:=h
    rfl
  obtain ⟨st,d,v,rfl,hd,q1,q2⟩:=h
  refine ⟨_,(@pss_one _ _ _ (ps_if (pt_not (pt_val (pe_callB (call_isi kit_str) rfl B.isinstance boot_isinstance (@pa_cons _ _ _ _ _ (pv 0) (@pa_cons _ _ _ _ _ (pe_bty rfl B2.str boot_str) pa_nil (by rfl)) (by rfl))))) (@pss_one _ _ _ (ps_raise1 R.e9 (R.xc 9 (by decide)) pe_str (fun σ H Q Q' m q=>m _ _ q))) pss_nil)),?_⟩
  refine ⟨_,rfl,v,st,d,rfl,hd,_,rfl,?_⟩
  cases hs:isStrD d with
  | true=>exact iteF (q1 hs)
  | false=>exact iteT (q2 hs)
noncomputable def sp_nr:Sp:=fun vs H Q _=>∃ (t:Str) (m:Nat),vs=[.str t,.int m]/\m <= 20/\t.length <= 900/\(rdL (m + 1) (Txt.split t ",")=none->∀ H',Same H H'->Q .non H') /\
  ∀ ns,rdL (m + 1) (Txt.split t ",")=some ns->∀ p H',Same H H'->(∀ b o,H b=some o->b ≠ p)->H' p=some (.tup (ns.map V.int))->Q (.ref p) H'
noncomputable abbrev s_nr:Stmt:=top 53
theorem sc_nr:FnScope ["text","most","known","numbers"] ["text","most"] (defScope s_nr):=⟨rfl,rfl,rfl,by decide +kernel,rfl,by decide +kernel,by decide +kernel⟩
theorem ok_nr (F:Fun K "numbers_read" "numbers_read" s_nr f fd) (B:Bt mg) (B2:Bt2 mg):FnOk P w K mg base CX0 1 f fd ["text","most"] sp_nr:=by
  refine F.ok sc_nr (fun vs H Q E h=>?_) (fun cdv A outer s H vs Q E hr h=>?_)
  · obtain ⟨t,m,rfl,_⟩:=h
    rfl
  obtain ⟨t,m,rfl,hm,hl,q0,q⟩:=h
  refine ⟨_,(@pss_cons _ _ _ _ _ (@ps_set _ _ 2 _ _ _ _ sc_nr.nd rfl (Or.inr rfl) (pe_dcomp (N:=["number"]) (ix:=[none]) rfl (pi_range1 rfl B.range (@pa_cons _ _ _ _ _ (@pe_op _ _ _ _ _ _ _ _ op_add (pv 1) pe_int) pa_nil (by rfl)))
      (fun s H ex=>pg_c (i:=0) (by decide +kernel) rfl (Or.inl rfl) (.inr rfl)) (fun s H ex=>(pe_callTy call_str_int rfl B2.str boot_str (@pa_cons _ _ _ _ _ (pv 0) pa_nil (by rfl)))) (fun s H ex=>(pv 0)) rfl (by decide +kernel) (by rfl) (by rfl) (fun _=>rfl)) (by rfl) (by first | exact .inl rfl | exact .inr rfl))
    (@pss_cons _ _ _ _ _ (ps_setcompG (N:=["word","known"]) (ix:=[none,some 2]) (ifs:=[]) (tc:=tTrue) (i:=3) rfl sc_nr.nd rfl rfl  (pi_list (pe_bm PySem.F.plainAttrs_str PySem.F.slot_str_split PySem.F.type_str_split mt_split (pv 0) (@pa_cons _ _ _ _ _ pe_str pa_nil (by rfl))))
      (fun s H ex=>pg_c (i:=0) (by decide +kernel) rfl (Or.inl rfl) (.inr rfl)) (fun s H ex=>pifs_nil) (fun s H ex=>(pe_dget1 (hu_of hr) (pv 1) (pv 0) ⟨rfl,rfl,rfl,rfl⟩)) rfl (by decide +kernel) (by rfl) (by rfl) (fun _=>rfl) (by rfl))
    (@pss_one _ _ _ (ps_ret (pe_ifExp (@pt_cmpR _ _ _ _ _ _ _ _ op_in_seq pe_non (pv 3) (by rfl)) pe_non (pe_callTy call_tuple_of rfl B.tuple boot_tuple (@pa_cons _ _ _ _ _ (pv 3) pa_nil (by rfl)))))))),?_⟩
  refine ⟨_,rfl,_,_,rfl,rfl,((m + 1:Nat):Int),rfl,by lia,by lia,fun pk hpk=>?_⟩
  rw [Int.toNat_natCast]
  refine blkD_range (lo:=0) (n:=m + 1) (fun i Hi=>Same H Hi/\Hi pk=some (.dK (knw i))) ⟨Same.new hpk,upd_same⟩ rfl (fun i Hi hi h=>?_) (fun H2 h=>?_)
  · obtain ⟨gi,hpi⟩:=h
    have ei:(0:Int) + (i:Int)=(i:Int):=by lia
    rw [ei]
    refine ⟨_,rfl,(i:Int),rfl,log_s (by lia) (by lia),_,rfl,_,⟨knw i,Sum.inr (tx (i:Int)),hpi,rfl,?_,rfl⟩,?_,?_⟩
    · have:(knw i).length=i:=by unfold knw;rw [List.length_map,List.length_range]
      rw [this]
      have:=sz (show i + 1 <= 1000 by lia)
      lia
    · exact fun b o e=>Kp.at _ _ (fun z=>by rw [z,hpk] at e;cases e) (gi _ _ e)
    · rw [upd_same,knw_new (by lia)]
  obtain ⟨g2,hpk2⟩:=h
  have hsl:=split_len t
  refine ⟨_,rfl,rfl,t,_,rfl,rfl,by decide +kernel,hl,fun ps hps=>?_⟩
  generalize Txt.split t ","=wds at hsl q0 q
  have g3:Same H2 (upd H2 ps (.lst (wds.map V.str))):=Same.new hps
  have hps3:upd H2 ps (.lst (wds.map V.str)) ps=some (.lst (wds.map V.str)):=upd_same
  try dsimp -proj only
  generalize upd H2 ps (.lst (wds.map V.str))=H3 at g3 hps3
  have hpk3:=g3 _ _ hpk2
  refine ⟨ps,rfl,⟨_,.of hps3⟩,?_⟩
  refine blk_list (K:=K) (a:=ps) (xs:=wds.map V.str) (sz (by rw [List.length_map];lia)) (fun j ys Hj=>Same H3 Hj/\ys=(wds.take j).map (rdV (m + 1))/\ys.length=j)
    ⟨Same.refl _,rfl,rfl⟩ (fun j ys Hj h=>h.2.2) (fun j ys Hj _ h=>.of (h.1 _ _ hps3)) rfl (fun j ys Hj v hv h=>?_) (fun ys Hj h=>?_)
  · obtain ⟨gj,hy,hyl⟩:=h
    rw [List.getElem?_map] at hv
    obtain ⟨x,hx,ex⟩:=Option.map_eq_some_iff.mp hv
    subst ex
    have hD:=DGet.k (k:=Sum.inr x) (gj _ _ hpk3)
    refine ⟨_,rfl,pk,rfl,.inl ⟨_,.inl (gj _ _ hpk3)⟩,_,rfl,_,hD,gj,?_,by rw [List.length_append,hyl];rfl⟩
    rw [hy,List.take_add_one,hx,List.map_append,knw_val]
    rfl
  obtain ⟨gj,hy,hyl⟩:=h
  rw [List.length_map,List.take_of_length_le (Nat.le_refl _)] at hy
  subst hy
  intro pn hpn
  have g4:Same Hj (upd Hj pn (.lst (wds.map (rdV (m + 1))))):=Same.new hpn
  have hpn4:upd Hj pn (.lst (wds.map (rdV (m + 1)))) pn=some (.lst (wds.map (rdV (m + 1)))):=upd_same
  try dsimp -proj only
  generalize upd Hj pn (.lst (wds.map (rdV (m + 1))))=H4 at g4 hpn4
  have gT:Same H H4:=(g2.trans g3).trans (gj.trans g4)
  refine ⟨_,rfl,pn,_,rfl,.inl (.of hpn4),rfl,?_,_,rfl,?_⟩
  · rw [List.all_map]
    exact List.all_eq_true.mpr fun x _=>rdV_flat _ x
  rw [rdL_in]
  cases hr':rdL (m + 1) wds with
  | none=>exact iteT (q0 hr' _ gT)
  | some ns =>
    refine iteF ⟨_,rfl,pn,_,rfl,.inl ⟨.of hpn4,fun t' ht=>?_⟩⟩
    have e:=(rdL_some hr').1
    refine q ns hr' t' _ (gT.trans (Same.new ht)) (fun b o e=>ne_of_none (gT _ _ e) ht) ?_
    rw [upd_same,e]
end
end G
namespace G
open PySem PySem.Spec PyProof.Rows L2 Mt
theorem sm_k' {k:Int} (h1:1 <= k) (h4:k <= 4):Sm k:=by
  have h:k=1 ∨ k=2 ∨ k=3 ∨ k=4:=by lia
  rcases h with rfl | rfl | rfl | rfl <;> (unfold Sm;decide +kernel)
noncomputable def urT (t:Str):Option (List Int):=match rdL 21 (Txt.split t ",") with
  | none=>none
  | some ns=>if urnD 20 (DI ns)=true then some ns else none
noncomputable def rsL:List Str->Option (List (List Int))
  | []=>some []
  | x :: xs=>match rdL 6 (Txt.split x ","),rsL xs with
    | some r,some rs=>some (r :: rs)
    | _,_=>none
noncomputable def ruT (n:Int) (t:Str):Option (List (List Int)):=match rsL (Txt.split t "/") with
  | none=>none
  | some rs=>if ruleD n (DR rs)=true then some rs else none
noncomputable def rwD (x:Str):PyData:=match rdL 6 (Txt.split x ",") with
  | none=>.none
  | some ns=>DI ns
theorem rwD_some:∀ {xs:List Str} {rs:List (List Int)},rsL xs=some rs->xs.map rwD=rs.map DI
  | [],rs,h=>by cases h;rfl
  | x :: xs,rs,h=>by
    have e:rsL (x :: xs)=(match rdL 6 (Txt.split x ","),rsL xs with
      | some r,some rs=>some (r :: rs)
      | _,_=>none):=rfl
    rw [e] at h
    cases h1:rdL 6 (Txt.split x ",") with
    | none=>rw [h1] at h;cases h
    | some r =>
      cases h2:rsL xs with
      | none=>rw [h1,h2] at h;cases h
      | some ms =>
        rw [h1,h2] at h
        cases h
        rw [List.map_cons,List.map_cons,rwD_some h2]
        unfold rwD
        rw [h1]
theorem rwD_none:∀ {xs:List Str},rsL xs=none->PyData.none ∈ xs.map rwD
  | [],h=>by cases h
  | x :: xs,h=>by
    have e:rsL (x :: xs)=(match rdL 6 (Txt.split x ","),rsL xs with
      | some r,some rs=>some (r :: rs)
      | _,_=>none):=rfl
    rw [e] at h
    cases h1:rdL 6 (Txt.split x ",") with
    | none =>
      rw [List.map_cons]
      have:rwD x=.none:=by unfold rwD;rw [h1]
      rw [this];exact List.mem_cons_self
    | some r =>
      cases h2:rsL xs with
      | none=>exact List.mem_cons_of_mem _ (rwD_none h2)
      | some ms=>rw [h1,h2] at h;cases h
theorem ruT_not {n:Int} {t:Str} (h:ruT n t=none):ruleD n (.tuple ((Txt.split t "/").map rwD))=false:=by
  unfold ruT at h
  cases h1:rsL (Txt.split t "/") with
  | none =>
    cases h2:ruleD n (.tuple ((Txt.split t "/").map rwD)) with
    | false=>rfl
    | true =>
      have h3:(decide ((((Txt.split t "/").map rwD).length:Int)=n) && ((Txt.split t "/").map rwD).all (fun r=>wholesD 0 5 r && decide ((lenD r:Int)=n)))=true:=h2
      rw [Bool.and_eq_true] at h3
      have:=List.all_eq_true.mp h3.2 _ (rwD_none h1)
      cases this
  | some rs =>
    rw [h1] at h
    dsimp only at h
    rw [rwD_some h1]
    show ruleD n (DR rs)=false
    by_cases h2:ruleD n (DR rs)=true
    · rw [if_pos h2] at h;cases h
    · exact Bool.eq_false_iff.mpr h2
theorem ruT_is {n:Int} {t:Str} {rs:List (List Int)} (h:ruT n t=some rs):(Txt.split t "/").map rwD=rs.map DI/\ruleD n (DR rs)=true:=by
  unfold ruT at h
  cases h1:rsL (Txt.split t "/") with
  | none=>rw [h1] at h;cases h
  | some rs' =>
    rw [h1] at h
    dsimp only at h
    by_cases h2:ruleD n (DR rs')=true
    · rw [if_pos h2] at h
      cases h
      exact ⟨rwD_some h1,h2⟩
    · rw [if_neg h2] at h;cases h
theorem rdO_sz {t:Str}:∀ x ∈ Txt.split t "/",x.length <= t.length:=fun x hx=>by
  have h:=split_weight t "/" (by decide +kernel)
  have:∀ (l:List Str),x ∈ l->x.length <= (l.map fun y=>y.length).sum:=fun l=>by
    induction l with
    | nil=>intro h;cases h
    | cons a l ih =>
      intro h
      rw [List.map_cons,List.sum_cons]
      rcases List.mem_cons.mp h with e | e
      · rw [e];lia
      · have:=ih e;lia
  have h1:=this _ hx
  have h2:=List.length_pos_of_mem hx
  lia
theorem split_lenS (t:Str):(Txt.split t "/").length <= t.length + 1:=by
  have:=split_weight t "/" (by decide +kernel)
  lia
section
variable {P:Program} {w:World} {K:PySem.W.Frag} {mg:Str->Option Value} {base:Heap} {f:Addr} {fd:FuncData} {ec:Nat->Addr} {Bs:Addr}
noncomputable def sp_ur (ec:Nat->Addr):Sp:=fun vs H Q E=>∃ (st:Addr) (d:PyData) (v:V),vs=[v]/\Dt st H d v/\(isStrD d=false->∀ H',Same H H'->E (.ref (ec 9)) none H') /\
  ∀ t,d=.str t->t.length <= 900/\(urT t=none->∀ H',Same H H'->E (.ref (ec 9)) none H')/\∀ ns,urT t=some ns->∀ p H',Same H H'->(∀ b o,H b=some o->b ≠ p)->H' p=some (.tup (ns.map V.int))->Q (.ref p) H'
noncomputable abbrev s_ur:Stmt:=top 55
theorem sc_ur:FnScope ["text","urn"] ["text"] (defScope s_ur):=⟨rfl,rfl,rfl,by decide +kernel,rfl,by decide +kernel,by decide +kernel⟩
theorem ok_ur (F:Fun K "urn_read" "urn_read" s_ur f fd) (C:Ct mg) (R:Errs K mg ec Bs) (c1:CalX P w K mg base 5 "need_text" ["thing"] (sp_ntx ec)) (c2:Cal P w K mg base 5 "numbers_read" ["text","most"] sp_nr) (c3:Cal P w K mg base 5 "is_urn" ["thing"] sp_is_urn):FnOk P w K mg base (CX1 P w) 6 f fd ["text"] (sp_ur ec):=by
  refine F.okX sc_ur (fun vs H Q E h=>?_) (fun cdv A outer s H vs Q E hr h=>?_)
  · obtain ⟨st,d,v,rfl,_⟩:=h
    rfl
  obtain ⟨st,d,v,rfl,hd,q1,q2⟩:=h
  obtain ⟨tbl,hbl⟩:=C.balls
  refine ⟨_,(@pss_cons _ _ _ _ _ (ps_expr (pe_calx c1 hr rfl passes1 (@pa_cons _ _ _ _ _ (pv 0) pa_nil (by rfl))))
    (@pss_cons _ _ _ _ _ (@ps_set _ _ 1 _ _ _ _ sc_ur.nd rfl (Or.inl rfl) (pe_cal c2 hr rfl (@pa_cons _ _ _ _ _ (pv 0) (@pa_cons _ _ _ _ _ (pe_glob (v:=.int 20) rfl hbl ⟨tbl,rfl⟩) pa_nil (by rfl)) (by rfl))) (by rfl) (by first | exact .inl rfl | exact .inr rfl))
    (@pss_cons _ _ _ _ _ (ps_if (pt_not (pt_val (pe_cal c3 hr rfl (@pa_cons _ _ _ _ _ (pv 1) pa_nil (by rfl))))) (@pss_one _ _ _ (ps_raise1 R.e9 (R.xc 9 (by decide)) pe_str (fun σ H Q Q' m q=>m _ _ q))) pss_nil)
    (@pss_one _ _ _ (ps_ret (pv 1)))))),?_⟩
  refine ⟨_,rfl,st,d,v,rfl,hd,fun hs=>?_,fun hs=>q1 hs H (Same.refl H)⟩
  obtain ⟨t,ed⟩:∃ t,d=.str t:=by
    cases d with
    | str x=>exact ⟨x,rfl⟩
    | _=>cases hs
  subst ed
  have ev:v=.str t:=by unfold Dt at hd;exact hd
  subst ev
  obtain ⟨hl,qn,qs⟩:=q2 t rfl
  unfold urT at qn qs
  refine ⟨_,rfl,t,20,rfl,by decide,hl,fun e H1 g1=>?_,fun ns e p H1 g1 fr hp=>?_⟩
  · refine ⟨_,rfl,_,0,.none,rfl,by unfold Dt;rfl,(fun ds z=>by cases z),fun H2 g2=>⟨_,rfl,iteT ?_⟩⟩
    refine qn ?_ H2 (g1.trans g2)
    rw [e]
  · obtain ⟨e1,e2,e3⟩:=rdL_some e
    have hsl:=split_len t
    refine ⟨_,rfl,_,p + 1,DI ns,rfl,Dt.mkI (Nat.ne_of_lt (Nat.lt_succ_self p)) hp,short_DI (by lia),fun H2 g2=>⟨_,rfl,?_⟩⟩
    cases hu:urnD 20 (DI ns) with
    | true =>
      refine iteF ⟨_,rfl,qs ns ?_ p H2 (g1.trans g2) fr (g2 _ _ hp)⟩
      rw [e]
      show (if urnD 20 (DI ns)=true then some ns else none)=_
      rw [hu];rfl
    | false =>
      refine iteT (qn ?_ H2 (g1.trans g2))
      rw [e]
      show (if urnD 20 (DI ns)=true then some ns else none)=_
      rw [hu];rfl
noncomputable def sp_rr (ec:Nat->Addr):Sp:=fun vs H Q E=>∃ (l:Addr) (o:HO) (dk d:PyData) (u v:V),vs=[u,v]/\H l=some o/\Dt l H dk u/\Dt l H d v/\(wholeD 1 4 dk=false->∀ H',Same H H'->E (.ref (ec 5)) none H') /\
  ∀ n:Int,dk=.int n->1 <= n->n <= 4->(isStrD d=false->∀ H',Same H H'->E (.ref (ec 9)) none H') /\
    ∀ t,d=.str t->t.length <= 900/\(ruT n t=none->∀ H',Same H H'->E (.ref (ec 9)) none H')/\∀ rs,ruT n t=some rs->∀ p H',Same H H'->Dt l H' (DR rs) (.ref p)->Q (.ref p) H'
noncomputable abbrev s_rr:Stmt:=top 56
theorem sc_rr:FnScope ["kinds","text","rule"] ["kinds","text"] (defScope s_rr):=⟨rfl,rfl,rfl,by decide +kernel,rfl,by decide +kernel,by decide +kernel⟩
theorem ok_rr (F:Fun K "rule_read" "rule_read" s_rr f fd) (B:Bt mg) (C:Ct mg) (R:Errs K mg ec Bs) (c1:CalX P w K mg base 5 "need_number" ["thing","low","high"] (sp_need_number ec)) (c2:CalX P w K mg base 5 "need_text" ["thing"] (sp_ntx ec)) (c3:Cal P w K mg base 5 "numbers_read" ["text","most"] sp_nr) (c4:CalX P w K mg base 5 "is_rule" ["kinds","thing"] (sp_is_rule ec)):FnOk P w K mg base (CX1 P w) 6 f fd ["kinds","text"] (sp_rr ec):=by
  refine F.okX sc_rr (fun vs H Q E h=>?_) (fun cdv A outer s H vs Q E hr h=>?_)
  · obtain ⟨l,o,dk,d,u,v,rfl,_⟩:=h
    rfl
  obtain ⟨l,o,dk,d,u,v,rfl,hlo,hdk,hd,q5,q9⟩:=h
  obtain ⟨tkd,hkd⟩:=C.kinds
  obtain ⟨tpt,hpt⟩:=C.puts
  refine ⟨_,(@pss_cons _ _ _ _ _ (ps_expr (pe_calx c1 hr rfl passes1 (@pa_cons _ _ _ _ _ (pv 0) (@pa_cons _ _ _ _ _ pe_int (@pa_cons _ _ _ _ _ (pe_glob (v:=.int 4) rfl hkd ⟨tkd,rfl⟩) pa_nil (by rfl)) (by rfl)) (by rfl))))
    (@pss_cons _ _ _ _ _ (ps_expr (pe_calx c2 hr rfl passes1 (@pa_cons _ _ _ _ _ (pv 1) pa_nil (by rfl))))
    (@pss_cons _ _ _ _ _ (@ps_set _ _ 2 _ _ _ _ sc_rr.nd rfl (Or.inl rfl) (pe_callTy call_tuple_of rfl B.tuple boot_tuple (@pa_cons _ _ _ _ _ (pe_compG (N:=["row"]) (ix:=[none]) (ifs:=[]) (tc:=tTrue) rfl (pi_list (pe_bm PySem.F.plainAttrs_str PySem.F.slot_str_split PySem.F.type_str_split mt_split (pv 1) (@pa_cons _ _ _ _ _ pe_str pa_nil (by rfl))))
      (fun s H ex=>pg_c (i:=0) (by decide +kernel) rfl (Or.inl rfl) (.inr rfl)) (fun s H ex=>pifs_nil) (fun s H ex=>(pe_cal c3 hr rfl (@pa_cons _ _ _ _ _ (pv 0) (@pa_cons _ _ _ _ _ (pe_glob (v:=.int 5) rfl hpt ⟨tpt,rfl⟩) pa_nil (by rfl)) (by rfl)))) rfl (by decide +kernel) (by rfl) (by rfl) (fun _=>rfl)) pa_nil (by rfl))) (by rfl) (by first | exact .inl rfl | exact .inr rfl))
    (@pss_cons _ _ _ _ _ (ps_if (pt_not (pt_val (pe_calx c4 hr rfl passes1 (@pa_cons _ _ _ _ _ (pv 0) (@pa_cons _ _ _ _ _ (pv 2) pa_nil (by rfl)) (by rfl))))) (@pss_one _ _ _ (ps_raise1 R.e9 (R.xc 9 (by decide)) (pe_fstr (pj_str (pj_fmt (pv 0) (pj_str pj_nil)))) (fun σ H Q Q' m q=>?_))) pss_nil)
    (@pss_one _ _ _ (ps_ret (pv 2))))))),?_⟩
  · obtain ⟨v1,z1,i1,z2,z3,z4,z5⟩:=q
    exact ⟨v1,z1,i1,z2,z3,z4,fun z=>m _ _ (z5 z)⟩
  refine ⟨_,rfl,u,l,dk,1,4,rfl,hdk,sm_k' (by decide) (by decide),sm_k' (by decide) (by decide),fun hw=>?_,fun hw=>q5 hw H (Same.refl H)⟩
  obtain ⟨n,ed,n1,n4⟩:=wholeD_int hw
  subst ed
  have eu:u=.int n:=hdk.unint
  subst eu
  obtain ⟨qb,qt⟩:=q9 n rfl n1 n4
  refine ⟨_,rfl,l,d,v,rfl,hd,fun hs=>?_,fun hs=>qb hs H (Same.refl H)⟩
  obtain ⟨t,ed⟩:∃ t,d=.str t:=by
    cases d with
    | str x=>exact ⟨x,rfl⟩
    | _=>cases hs
  subst ed
  have ev:v=.str t:=by unfold Dt at hd;exact hd
  subst ev
  obtain ⟨hl,qn,qs⟩:=qt t rfl
  have hsl:=split_lenS t
  have hsz:∀ x ∈ Txt.split t "/",x.length <= 900:=fun x hx=>Nat.le_trans (rdO_sz x hx) hl
  refine ⟨_,rfl,rfl,t,_,rfl,rfl,by decide +kernel,hl,fun ps hps=>?_⟩
  have hrn:=ruT_not (n:=n) (t:=t)
  have hri:=fun rs=>ruT_is (n:=n) (t:=t) (rs:=rs)
  generalize Txt.split t "/"=wds at hsl hsz hrn hri
  have g3:Same H (upd H ps (.lst (wds.map V.str))):=Same.new hps
  have hps3:upd H ps (.lst (wds.map V.str)) ps=some (.lst (wds.map V.str)):=upd_same
  try dsimp -proj only
  generalize upd H ps (.lst (wds.map V.str))=H3 at g3 hps3
  refine ⟨ps,rfl,⟨_,.of hps3⟩,?_⟩
  refine blk_list (K:=K) (a:=ps) (xs:=wds.map V.str) (sz (by rw [List.length_map];lia)) (fun j ys Hj=>Same H3 Hj/\Dts l Hj ((wds.take j).map rwD) ys/\ys.length=j)
    ⟨Same.refl _,Dts.nil _ _,rfl⟩ (fun j ys Hj h=>h.2.2) (fun j ys Hj _ h=>.of (h.1 _ _ hps3)) rfl (fun j ys Hj v hv h=>?_) (fun ys Hj h=>?_)
  · obtain ⟨gj,hD,hyl⟩:=h
    rw [List.getElem?_map] at hv
    obtain ⟨x,hx,ex⟩:=Option.map_eq_some_iff.mp hv
    subst ex
    have step:∀ (z:V) (Hk:Hp),Same Hj Hk->Dt l Hk (rwD x) z->Same H3 Hk/\Dts l Hk ((wds.take (j + 1)).map rwD) (ys ++ [z])/\(ys ++ [z]).length=j + 1:=fun z Hk gk hz=>by
      refine ⟨gj.trans gk,?_,by rw [List.length_append,hyl];rfl⟩
      rw [List.take_add_one,hx,List.map_append]
      exact (hD.kp (gk.kp l)).append (Dts.cons hz (Dts.nil _ _))
    refine ⟨_,rfl,x,5,rfl,by decide,hsz x (List.mem_of_getElem? hx),fun e Hk gk=>step _ Hk gk ?_,fun ns e p1 Hk gk fr hp1=>step _ Hk gk ?_⟩
    · have:rwD x=.none:=by unfold rwD;rw [e]
      rw [this];unfold Dt;rfl
    · have:rwD x=DI ns:=by unfold rwD;rw [e]
      rw [this];exact Dt.mkI (fr l o ((g3.trans gj) _ _ hlo)).symm hp1
  obtain ⟨gj,hD,hyl⟩:=h
  rw [List.length_map,List.take_of_length_le (Nat.le_refl _)] at hD
  intro p2 hp2
  have g4:Same Hj (upd Hj p2 (.lst ys)):=Same.new hp2
  have hp2':upd Hj p2 (.lst ys) p2=some (.lst ys):=upd_same
  try dsimp -proj only
  generalize upd Hj p2 (.lst ys)=Ha at g4 hp2'
  refine ⟨p2,_,rfl,.inl ⟨.of hp2',fun t' ht=>?_⟩⟩
  have g5:Same Ha (upd Ha t' (.tup ys)):=Same.new ht
  have gA:=(g3.trans gj).trans g4
  have hdt:Dt l (upd Ha t' (.tup ys)) (.tuple (wds.map rwD)) (.ref t'):=Dt.tup (ne_of_none (gA _ _ hlo) ht).symm upd_same (hD.kp ((g4.trans g5).kp l))
  try dsimp -proj only
  generalize upd Ha t' (.tup ys)=Hb at g5 hdt
  refine ⟨_,rfl,_,rfl,.int n,.ref t',l,.int n,_,rfl,Dt.int _ _ _,fun e=>?_,fun k ek k1 k4=>⟨hdt,?_,?_,fun Hc gc=>⟨_,rfl,?_⟩⟩⟩
  · exfalso
    rw [hw] at e;cases e
  · intro ds e
    cases e
    rw [List.length_map];lia
  · intro ds e r hr'
    cases e
    obtain ⟨x,hx,ex⟩:=List.mem_map.mp hr'
    subst ex
    intro ds e
    unfold rwD at e
    cases h6:rdL 6 (Txt.split x ",") with
    | none=>rw [h6] at e;cases e
    | some ns =>
      rw [h6] at e
      cases e
      have:=(rdL_some h6).2.1
      have h7:=split_len x
      have h8:=hsz x hx
      rw [List.length_map];lia
  · cases ek
    cases hu:ruT n t with
    | none =>
      rw [hrn hu]
      exact iteT ⟨_,rfl,n,rfl,(sm_k' n1 n4).1,(sm_k' n1 n4).2,fun z=>qn hu Hc ((gA.trans g5).trans gc)⟩
    | some rs =>
      obtain ⟨e1,e2⟩:=hri rs hu
      rw [e1]
      rw [show ruleD n (.tuple (rs.map DI))=true from e2]
      refine iteF ⟨_,rfl,qs rs hu t' Hc ((gA.trans g5).trans gc) ?_⟩
      have:=hdt.kp (gc.kp l)
      rw [e1] at this
      exact this
end
end G
namespace L2
open PySem PySem.Spec PyProof.Rows
section
variable {prog:Program} {w:World} {A:Around} {E:Value->Shared->Prop} {s:Shared}
end
end L2
namespace L2
open PySem PySem.Spec PyProof.Rows
section
variable {X:Cx} {pins:List (Addr × Obj)} {σ:St} {H:Hp} {p d it:Addr} {rs:List Addr} {kvs:List (Key × V)} {A:Around} {R:Result->Shared->Prop}
end
end L2
namespace L2
open PySem PySem.Spec PyProof.Rows
section
variable {X:Cx} {pins:List (Addr × Obj)} {σ:St} {H:Hp} {s:Shared}
end
end L2
namespace L2
open PySem PySem.Spec PyProof.Rows
section
variable {X:Cx}
noncomputable def rSlS:V->Option Int->Option Int->Hp->VK->Prop:=fun x lo hi H Q=>∃ a,x=.str a/\a.length <= sizeLine/\Q (.str (Txt.slice a lo hi)) H
end
end L2
namespace L2
open PySem PySem.Spec PyProof.Rows
end L2
namespace L2
open PySem PySem.Spec PyProof.Rows
section
variable {prog:Program} {w:World} {A:Around} {E:Value->Shared->Prop} {s:Shared}
theorem draw_list {it t:Addr} {items:Array Value} (hne:t ≠ it):∀ (n i:Nat) (s:Shared) (Q:List Value->Shared->Prop),s.heap.IsListIter it t i->s.heap.IsList t items->i + n <= items.size ->
    (∀ h',h'.IsListIter it t (i + n)->Heap.SameBut it s.heap h'->Q ((items.toList.drop i).take n) { s with heap:=h' })->wpAny (model prog w) A (draw (.ref it) n) Q E s
  | 0,i,s,Q,hit,_,_,hQ=>by
    show wpAny _ _ (pure []) Q E s
    exact wpAny_pure (by simpa using hQ s.heap hit (Heap.SameBut.refl ..))
  | n + 1,i,s,Q,hit,ht,hle,hQ=>by
    have hlt:i < items.size:=by lia
    show wpAny _ _ (pyNext (.ref it) >>= _) Q E s
    refine wpAny_bind (wpAny_pyNext_list_item hit ht (x:=items[i]) (by simp [hlt]) fun h₁ hit₁ hs₁=>?_)
    refine wpAny_bind (wpAny_holding (draw_list hne n (i + 1) _ _ hit₁ (ht.at fun o e=>hs₁.extBut _ _ hne e) (by lia) fun h₂ hit₂ hs₂=>wpAny_pure ?_))
    have hd:items.toList.drop i=items[i] :: items.toList.drop (i + 1):=by simp [List.drop_eq_getElem_cons,hlt]
    have:=hQ h₂ (by rw [show i + (n + 1)=i + 1 + n by lia];exact hit₂) (hs₁.trans hs₂)
    rw [hd,List.take_succ_cons] at this
    exact this
end
section
variable {X:Cx} {pos:Pos}
end
end L2
namespace L2
open PySem PySem.Spec PyProof.Rows
end L2
namespace L2
open PySem PySem.Spec PyProof.Rows
noncomputable def oneS (c:Nat):Str:=⟨#[c]⟩
noncomputable def Its (x:Str):It:=⟨fun i _=>i < x.cps.size,fun i H v H'=>H'=H/\∃ c,x.cps[i]?=some c/\v=.str (oneS c),fun i _=>x.cps.size <= i⟩
theorem turn_str {P:Program} {w:World} {K:PySem.W.Frag} {tg:Expr} (x:Str) (t:Tok) (it:Addr) (ty:String) (hty:ty="str_ascii_iterator" ∨ ty="str_iterator"):Turn P w K tg (Its x) [it] it (fun i h=>h.IsStrIter it ty x t i) where
  mem:=by simp
  obj:=fun i h st b hb=>by
    have e:b=it:=by simpa using hb
    subst e
    obtain ⟨o,e,c,d⟩:=st
    exact ⟨o,e,fun v z=>by rw [d] at z;cases z⟩
  keep:=fun i h h' st k=>let ⟨o,e,c⟩:=st;⟨o,k it (by simp) o e,c⟩
  item:=by
    intro X hP hw hK hc i pins s σ H E I hf st hg
    subst hP hw hK
    have hg:i < x.cps.size:=hg
    obtain ⟨f0,f1,f2,f3,f4,f5⟩:=hf it (by simp)
    have fin:∀ h',h'.IsStrIter it ty x t (i + 1)->Heap.SameBut it s.heap h'->∃ u,some (Value.str ⟨#[x.cps[i]]⟩ s.toks)=some u/\wpAny (model X.prog X.w) X.A (letOwnedTupleGo tg (.ref it) u) (fun _ s2=>∃ v H',Inv X pins σ H' s2/\RelV v u/\(Its x).yld i H v H'/\s2.heap.IsStrIter it ty x t (i + 1)/\∀ b ∈ [it],H' b=none) E { s with heap:=h',toks:=s.toks + 1 }:=fun h' st' sb=>by
      have I1:Inv X pins σ H { s with heap:=h',toks:=s.toks + 1 }:=I.turned (t':=s.toks + 1) (fun b o hb e=>(sb.2 b hb).trans e) f0 f1 f3 f4 f5
      obtain ⟨o,e,c,d⟩:=id st'
      refine ⟨_,rfl,go_of (s:={ s with heap:=h',toks:=s.toks + 1 }) e c d ?_ ⟨.str (oneS x.cps[i]),H,I1,⟨_,rfl⟩,⟨rfl,_,by simp [hg],rfl⟩,st',fun b hb=>(hf b hb).1⟩⟩
      rcases hty with e | e <;> rw [e] <;> decide
    rcases hty with e | e
    · subst e;exact wpAny_pyNext_ascii_item st (c:=x.cps[i]) (by simp [hg]) fin
    · subst e;exact wpAny_pyNext_wide_item st (c:=x.cps[i]) (by simp [hg]) fin
  done:=by
    intro X hP hw hK hc i pins s σ H E I hf st hg
    subst hP hw hK
    have hg:x.cps.size <= i:=hg
    obtain ⟨f0,f1,f2,f3,f4,f5⟩:=hf it (by simp)
    rcases hty with e | e
    · subst e;exact wpAny_pyNext_ascii_end (I.ok.hd hc) st (by simp [hg]) fun h' eb=>⟨rfl,I.turned (t':=s.toks) (fun b o hb e=>eb b o hb e) f0 f1 f3 f4 f5⟩
    · subst e;exact wpAny_pyNext_wide_end (I.ok.hd hc) st (by simp [hg]) fun h' eb=>⟨rfl,I.turned (t':=s.toks) (fun b o hb e=>eb b o hb e) f0 f1 f3 f4 f5⟩
  self:=fun A i s Q E st q=>by
    rcases hty with e | e
    · subst e;exact wpAny_pyIter_striter_ascii st q
    · subst e;exact wpAny_pyIter_striter_wide st q
section
variable {X:Cx}
noncomputable def iStr (tl:TE):TI:=fun σ H R=>tl σ H fun v H1=>∃ x,v=.str x/\R (Its x) H1
theorem pi_str {tg l:Expr} {tl:TE} (hl:PE X l tl):PI X tg l (iStr tl):=by
  intro pins s σ H R I h
  refine thn (hl pins s σ H _ I h) fun v s1 ⟨u,H1,I1,r1,x,e,q⟩=>?_
  subst e
  obtain ⟨t,rfl⟩:=r1
  have fin:∀ (ty:String) (hty:ty="str_ascii_iterator" ∨ ty="str_iterator"),PIE X pins σ tg R (.ref s1.heap.objs.size) { s1 with heap:=s1.heap.push { cls:=.type ty,data:=.fields #[.str x t,.int 0 0] } }:=fun ty hty=>by
    have I2:Inv X pins σ H1 { s1 with heap:=s1.heap.push { cls:=.type ty,data:=.fields #[.str x t,.int 0 0] } }:=I1.kept (t':=s1.toks) fun b o e=>Heap.get?_push_of_some _ e
    refine ⟨s1.heap.objs.size,[s1.heap.objs.size],_,_,H1,rfl,I2,turn_str x t s1.heap.objs.size ty hty,⟨_,Heap.get?_push_size _ rfl,rfl,rfl⟩,fun b hb=>?_,q⟩
    rw [List.mem_singleton.mp hb]
    exact I1.fpOk (Nat.le_refl _) (I1.hok.fresh (Nat.le_refl _))
  cases ha:x.cps.all (· < 128)
  · exact wpAny_pyIter_wide ha (fin _ (.inr rfl))
  · exact wpAny_pyIter_ascii ha (fin _ (.inl rfl))
theorem blk_str {x:Str} {σ0:St} {te:TE} {H:Hp} {F:List V->Hp->Prop} (hn:x.cps.size <= sizeLine) (Pv:Nat->List V->Hp->Prop) (h0:Pv 0 [] H) (hl:∀ i ys H,Pv i ys H->ys.length=i) (hσ:σ0[0]?=some none)
    (hs:∀ i c ys H,x.cps[i]?=some c->Pv i ys H->te (σ0.set 0 (some (.str (oneS c)))) H fun y H'=>Pv (i + 1) (ys ++ [y]) H') (hd:∀ ys H,Pv x.cps.size ys H->F ys H):Blk (Its x) σ0 (gName 0) tTrue te H F:=by
  refine ⟨fun i m ys H=>m=x.cps.size - i/\i <= x.cps.size/\Pv i ys H,⟨x.cps.size,by simp,Nat.zero_le _,h0⟩,?_⟩
  rintro i m ys H2 ⟨rfl,hi,p⟩
  refine ⟨by rw [hl i ys H2 p];lia,?_⟩
  by_cases hlt:i < x.cps.size
  · refine .inr ⟨hlt,fun y H'=>Pv (i + 1) (ys ++ [y]) H',fun _=>False,fun y H' q=>⟨x.cps.size - (i + 1),by lia,rfl,hlt,q⟩,fun _ q=>q.elim,fun v H3 y=>?_⟩
    obtain ⟨rfl,c,hc,rfl⟩:=y
    exact ⟨Wk.set (.inl hσ),hs i c ys _ hc p⟩
  · have e:i=x.cps.size:=by lia
    subst e
    exact .inl ⟨Nat.le_refl _,hd ys H2 p⟩
theorem op_le_str:OpR X (compareOp .LtE) (fun x y H Q=>∃ i j,x=.str i/\y=.str j/\Q (.bl (!decide (j.cps.toList < i.cps.toList))) H):=by
  intro pins s σ H x y v u Q I rx ry h
  obtain ⟨i,j,rfl,rfl,q⟩:=h
  obtain ⟨t,rfl⟩:=rx
  obtain ⟨t',rfl⟩:=ry
  exact PySem.P.le_str (fin_bl I q rfl)
theorem op_nin_str:OpR X (compareOp .NotIn) (fun x y H Q=>∃ i j,x=.str i/\y=.str j/\Q (.bl (Builtin.Str.occurrences j i 0 j.length 1).isEmpty) H):=by
  intro pins s σ H x y v u Q I rx ry h
  obtain ⟨i,j,rfl,rfl,q⟩:=h
  obtain ⟨t,rfl⟩:=rx
  obtain ⟨t',rfl⟩:=ry
  exact PyProof.Rows.notIn_str (fin_bl I q (by simp))
end
end L2
namespace L2
open PySem PySem.Spec PyProof.Rows
theorem walks_shift {prog:Program} {w:World} {A:Around} {I:Addr} {fp wr:List Addr} {n:Nat} {P:Nat->Value->Prop} {St:Nat->Heap->Prop} (W:Walks prog w A I fp wr (n + 1) P St):Walks prog w A I fp wr n (fun i=>P (i + 1)) (fun i=>St (i + 1)) where
  sub:=W.sub
  frame:=fun i h h' st k=>W.frame (i + 1) h h' st k
  item:=fun i s Q E hi st hQ=>W.item (i + 1) s Q E (by lia) st hQ
  done:=fun s Q E st hQ=>W.done s Q E st hQ
  self:=fun i s Q E st hQ=>W.self (i + 1) s Q E st hQ
section
variable {prog:Program} {w:World} {A:Around} {E:Value->Shared->Prop} {s:Shared}
theorem unpackItems_star {t:Addr} {x:Value} {its:List Value} {Q:List Value->Shared->Prop} (hh:A.handled=none) (ht:s.heap.IsList t (x :: its).toArray) (hz:(x :: its).length <= sizeLine)
    (hQ:∀ (h':Heap) (tk:Nat),(∀ b o,s.heap.get? b=some o->h'.get? b=some o)->Q [x,.ref h'.objs.size] { s with heap:=h'.push { cls:=.type "list",data:=.seq its.toArray },toks:=tk }):wpAny (model prog w) A (unpackItems (.ref t) 2 (some 1)) Q E s:=by
  have hlt:t ≠ s.heap.objs.size:=by obtain ⟨o,ho,_⟩:=ht;exact Nat.ne_of_lt (Heap.lt_size ho)
  unfold unpackItems
  refine wpAny_bind ?_
  unfold notIterableAtAll
  refine wpAny_bind (wpAny_specialOf ht.typeIs PySem.F.slot_list_iter.lookup ?_)
  refine wpAny_pure ?_
  simp only [Bool.false_eq_true,if_false]
  refine wpAny_bind (wpAny_holding (wpAny_pyIter_list ht ?_))
  refine wpAny_bind (wpAny_holding (draw_list hlt 1 0 _ _ ⟨_,Heap.get?_push_size _ rfl,rfl,rfl⟩ (ht.push _) (by simp) fun h₁ hit₁ hs₁=>?_))
  have ht₁:h₁.IsList t (x :: its).toArray:=(ht.push _).at fun o e=>hs₁.extBut _ _ hlt e
  have e1:List.take 1 (List.drop 0 (x :: its).toArray.toList)=[x]:=by simp
  rw [e1]
  rw [if_neg (by simp)]
  have W:=walks_shift (n:=its.length) (by
    have:=Walks.list (prog:=prog) (w:=w) (A:=A.in1) hh s.heap.objs.size t hlt (x :: its).toArray
    rw [show (x :: its).toArray.size=its.length + 1 by simp] at this
    exact this)
  have lit:s.heap.objs.size < h₁.objs.size:=by obtain ⟨o,ho,_⟩:=hit₁;exact Heap.lt_size ho
  refine wpAny_bind (wpAny_holding (wpAny_collect_iter (T:="list_iterator") (.inr (.inr (.inl rfl))) W.toS (fun i s' st=>?_) ⟨hit₁,ht₁⟩ (fun b hb=>?_) (by simp) (fun s' acc hm hi=>?_) (by rw [List.length_cons] at hz;lia)))
  · obtain ⟨⟨o,ho,hc,_⟩,_⟩:=st
    exact ⟨o,ho,hc⟩
  · rcases List.mem_cons.mp hb with e | e
    · rw [e];exact lit
    · rw [List.mem_singleton.mp e];obtain ⟨o,ho,_⟩:=ht₁;exact Heap.lt_size ho
  have ea:acc.toList=its:=by
    refine List.ext_getElem? fun j=>?_
    by_cases hj:j < its.length
    · have h1:j < acc.size:=by rw [hi.1];exact hj
      have:=hi.2 j acc[j] (by simp [h1])
      have e2:(x :: its).toArray[j + 1]?=some acc[j]:=this
      rw [List.getElem?_toArray,List.getElem?_cons_succ] at e2
      rw [e2,Array.getElem?_toList];simp [h1]
    · rw [List.getElem?_eq_none (by rw [Array.length_toList,hi.1];lia),List.getElem?_eq_none (by lia)]
  rw [ea,if_neg (by simp)]
  refine wpAny_bind (wpAny_newList ?_ (by rw [List.length_cons] at hz;simp;lia))
  have et:List.take (its.length - (2 - 1 - 1)) its=its:=List.take_of_length_le (by simp)
  rw [et]
  refine wpAny_pure ?_
  have ed:[x] ++ [Value.ref s'.heap.objs.size] ++ List.drop (its.length - (2 - 1 - 1)) its=[x,.ref s'.heap.objs.size]:=by simp
  rw [ed]
  have k1:∀ b o,s.heap.get? b=some o->s'.heap.get? b=some o:=fun b o e=>hm.heap b o (fun z=>by rw [List.mem_singleton.mp z] at e;exact Nat.lt_irrefl _ (Heap.lt_size e)) (hs₁.extBut b o (Nat.ne_of_lt (Heap.lt_size e)) (Heap.get?_push_of_some _ e))
  obtain ⟨h2,g2,d2,t2,os2⟩:=s'
  obtain ⟨_,m1,m2,m3,_⟩:=hm
  cases m1
  cases m2
  cases m3
  exact hQ h2 t2 k1
end
section
variable {X:Cx} {pos:Pos}
noncomputable def gStar (K:PySem.W.Frag) (g1 g2:TG):TG:=fun v σ H Q=>∃ a x xs,v=.ref a/\SqL K H a (x :: xs)/\∀ p,H p=none->g1 x σ (upd H p (.lst xs)) fun σ1 H1=>g2 (.ref p) σ1 H1 Q
theorem pg_star {t1 t2:Expr} {p1:Pos} {k:Nat} {g1 g2:TG} (hc:X.calm=true) (h1:PG X t1 g1) (h2:PG X t2 g2) (hn:assignEach [t1,.Starred t2 p1] X.env=[(false,assign t1 X.env),(true,assign t2 X.env)]:=by rfl):PG X (.Tuple [t1,.Starred t2 p1] k pos) (gStar X.K g1 g2):=by
  intro pins s σ H v u Q I r hw
  obtain ⟨a,x,xs,e1,hq,hw⟩:=hw
  subst e1
  cases r
  obtain ⟨its,rv,pl,hz⟩:=I.list hq
  cases rv with
  | @cons _ u1 _ its r1 rr =>
    rw [arm_assign_Tuple]
    refine wpAny_bind (wpAny_standAt ?_)
    unfold unpack
    rw [hn]
    refine wpAny_bind (wpAny_holding (unpackItems_star (I.ok.hd hc) pl.isList (by have h1:=rr.length;have h2:=hz;simp only [List.length_cons] at h2 ⊢;lia) fun h' tk kp=>?_))
    have I1:Inv X pins σ H { s with heap:=h',toks:=tk }:=I.kept (t':=tk) kp
    have hp:=I1.hok.fresh (Nat.le_refl h'.objs.size)
    have I2:Inv X pins σ (upd H h'.objs.size (.lst xs)) { s with heap:=h'.push { cls:=.type "list",data:=.seq its.toArray },toks:=tk }:=I1.laid (a:=h'.objs.size) (o:=.lst xs) (t':=tk) (fun _ _ q=>Heap.get?_push_of_some _ q) (Nat.le_refl _) ⟨by have h1:=rr.length;have h2:=hz;simp only [List.length_cons] at h2 ⊢;lia,its,0,rr,Heap.get?_push_size _ rfl⟩
    show wpAny _ _ (holding [Value.ref h'.objs.size] (assign t1 X.env u1) >>= fun _=>assignInOrder [assign t2 X.env] [Value.ref h'.objs.size]) _ _ _
    refine wpAny_bind (wpAny_holding (thn (h1 pins _ σ _ x u1 _ I2 r1 (hw _ hp)) fun _ s2 ⟨σ2,H2,I3,q2⟩=>?_))
    show wpAny _ _ (holding [] (assign t2 X.env (.ref h'.objs.size)) >>= fun _=>assignInOrder [] []) _ _ _
    refine wpAny_bind (wpAny_holding (thn (h2 pins _ σ2 H2 (.ref h'.objs.size) (.ref h'.objs.size) _ I3 rfl q2) fun _ s3 h3=>wpAny_pure h3))
end
end L2
namespace L2
open PySem PySem.Spec PyProof.Rows
section
variable {X:Cx}
theorem mt_sindex:MtR X "str.index" (fun x vs H Q=>∃ (a b:Str) (i:Nat) (rest:List Nat),x=.str a/\vs=[.str b]/\Builtin.Str.occurrences a b 0 a.length 1=i :: rest/\Q (.int i) H):=by
  intro pins s σ H x vs v us Q I rx rv h
  obtain ⟨a,b,i,rest,rfl,rfl,ho,q⟩:=h
  obtain ⟨t,rfl⟩:=rx
  obtain ⟨u,rfl,ru⟩:=rv.one
  obtain ⟨t2,rfl⟩:=ru
  exact call_gives PySem.F.slot_str_index (typeIs_str s _ _) PySem.F.entry_str_index (PySem.F.args_str_index_2 _ _) (gives_str_index a b t t2 i rest ho) ⟨.int i,H,I.tok _,⟨_,rfl⟩,q⟩
end
end L2
namespace L2
open PySem PySem.Spec PyProof.Rows
structure TopD (K:PySem.W.Frag) (w:World) (dl:Addr) (f:Str->Option Value):Prop where
  sys:(dl == sysModules)=false
  ex:∃ es n,K.lookup dl=some ⟨.type "dict",none,.dict es n,#[]⟩/\PySem.W.KeysLit w.params es.toList/\∀ x,findBy Value.isStrOf es x=f x
section
variable {X:Cx} {dl:Addr} {f:Str->Option Value}
theorem TopD.map (T:TopD X.K X.w dl f) {pins:List (Addr × Obj)} {σ:St} {H:Hp} {s:Shared} (I:Inv X pins σ H s):s.heap.MapOf (strKind X.prog X.w) dl f:=by
  obtain ⟨es,n,h1,h2,h3⟩:=T.ex
  have:=PySem.W.mapOf_K (prog:=X.prog) (w:=X.w) I.kIn h1 h2
  have e:(fun k=>findBy Value.isStrOf es k)=f:=funext h3
  rw [e] at this
  exact this
noncomputable def tTopGet (dl:Addr) (f:Str->Option Value) (td ty:TE):TE:=fun σ H Q=>td σ H fun x H1=>ty σ H1 fun y H2=>∃ k v u,x=.ref dl/\y=.str k/\f k=some u/\RelV v u/\Q v H2
theorem pe_topget {o i:Expr} {td ty:TE} {pos:Pos} (T:TopD X.K X.w dl f) (ho:PE X o td) (hi:PE X i ty) (hs:NoSl i):PE X (.Subscript o i pos) (tTopGet dl f td ty):=by
  intro pins s σ H Q I h
  refine subD_of PySem.F.slot_dict_getitem.lookup hs (thn (ho pins s σ H _ I h) fun u s1 ⟨x,H1,I1,rx,q1⟩=>thn (hi pins s1 σ H1 _ I1 q1) fun iv s2 ⟨y,H2,I2,ry,k,v,w',ex,ey,ef,rv,q2⟩=>?_)
  subst ex ey
  cases rx
  obtain ⟨t,rfl⟩:=ry
  exact ⟨(T.map I2).typeIs,wpAny_getItem_of (strKind_is X.prog X.w k t) (T.map I2) ef ⟨v,H2,I2.tok _,rv,q2⟩⟩
theorem op_topnin (T:TopD X.K X.w dl f):OpR X (compareOp .NotIn) (fun x y H Q=>∃ k,x=.str k/\y=.ref dl/\Q (.bl (f k).isNone) H):=by
  intro pins s σ H x y v u Q I rx ry h
  obtain ⟨k,rfl,rfl,q⟩:=h
  obtain ⟨t,rfl⟩:=rx
  cases ry
  refine wpAny_notIn_of (strKind_is X.prog X.w k t) T.sys (T.map I) ⟨.bl (f k).isNone,H,I.tok _,?_,q⟩
  cases f k <;> rfl
end
end L2
namespace G
open PySem PySem.Spec PyProof.Rows L2 Mt
structure Ct2 (mg:Str->Option Value):Prop where
  stand:∃ t,mg "MOST_STAND_DRAWS"=some (.int 6 t)
structure Bt3 (mg:Str->Option Value):Prop where
  sorted:mg "sorted"=none
theorem sm_06:Sm 0/\Sm 6:=by unfold Sm;decide +kernel
theorem log_b {i:Int} (h0:0 <= i) (h:i < 10 ^ 62):i.natAbs.log2 < 1920:=by
  rcases Nat.eq_zero_or_pos i.natAbs with e | e
  · rw [e];decide
  · have h1:i.natAbs < 10 ^ 62:=by
      have:((i.natAbs:Nat):Int) < ((10 ^ 62:Nat):Int):=by rw [Int.natAbs_of_nonneg h0];exact h
      exact Int.ofNat_lt.mp this
    exact Nat.lt_of_lt_of_le ((Nat.log2_lt (by lia)).mpr (Nat.lt_of_lt_of_le h1 (show 10 ^ 62 <= 2 ^ 250 by decide))) (by decide)
theorem tx_len {i:Int} (h0:0 <= i) (h:i < 10 ^ 62):(tx i).length <= 62:=by
  obtain ⟨n,rfl⟩:=Int.eq_ofNat_of_zero_le h0
  have h1:n < 10 ^ 62:=by
    have:(n:Int) < ((10 ^ 62:Nat):Int):=h
    exact Int.ofNat_lt.mp this
  have e:(tx (n:Int)).length=(Nat.repr n).length:=PySem.ofString_length _
  rw [e]
  exact (Nat.length_repr_le_iff (by decide)).mpr h1
section
variable {P:Program} {w:World} {K:PySem.W.Frag} {mg:Str->Option Value} {base:Heap} {f:Addr} {fd:FuncData} {ec:Nat->Addr} {Bs:Addr}
noncomputable def sp_ftB:Sp:=fun vs H Q _=>∃ (a:Addr) (t b:Int),vs=[.ref a]/\H a=some (.tup [.int t,.int b])/\0 <= t/\t < 10 ^ 62/\0 <= b/\b < 10 ^ 62/\∀ H',Same H H'->Q (.str (fT t b)) H'
theorem ok_ftB (F:Fun K "fraction_text" "fraction_text" s_ft f fd) (B2:Bt2 mg):FnOk P w K mg base CX0 1 f fd ["fraction"] sp_ftB:=by
  refine F.ok sc_ft (fun vs H Q E h=>?_) (fun cdv A outer s H vs Q E hr h=>?_)
  · obtain ⟨a,t,b,rfl,_⟩:=h
    rfl
  obtain ⟨a,t,b,rfl,ha,t0,t4,b0,b4,q⟩:=h
  refine ⟨_,(@pss_cons _ _ _ _ _ (ps_asg (pv 0) (pg_tup rfl (pgs_cons (pg_name (i:=1) sc_ft.nd rfl (Or.inl rfl)) (pgs_cons (pg_name (i:=2) sc_ft.nd rfl (Or.inl rfl)) pgs_nil))))
    (@pss_one _ _ _ (ps_ret (pe_ifExp (@pt_cmpR _ _ _ _ _ _ _ _ op_eq (pv 2) pe_int (nomark _)) (pe_callTy call_str_int rfl B2.str boot_str (@pa_cons _ _ _ _ _ (pv 1) pa_nil (by rfl))) (pe_fstrX (pjx_fmt (pv 1) (pjx_str (pjx_fmt (pv 2) pjx_nil)))))))),?_⟩
  refine ⟨_,rfl,a,_,rfl,.of ha,rfl,_,_,rfl,_,_,rfl,rfl,?_⟩
  refine ⟨_,rfl,rfl,_,rfl,?_⟩
  have hlt:=tx_len t0 t4
  have hlb:=tx_len b0 b4
  by_cases e:b=1
  · have ef:fT t b=tx t:=if_pos e
    rw [decide_eq_true (congrArg V.int e)]
    refine iteT ⟨_,rfl,t,rfl,log_b t0 t4,?_⟩
    have:=q _ (Same.refl H)
    rw [ef] at this
    exact this
  · have ef:fT t b=tx t ++ ("/" ++ tx b):=if_neg e
    rw [decide_eq_false (fun z=>e (V.int.inj z))]
    refine iteF ⟨_,rfl,t,rfl,log_b t0 t4,Nat.le_trans hlt (by decide),_,rfl,b,rfl,log_b b0 b4,Nat.le_trans hlb (by decide),?_⟩
    have:=q _ (Same.refl H)
    rw [ef,<- str_nil (tx b)] at this
    exact this
noncomputable def DueS (d e g:PyData) (i:Nat):Prop:=(i=0/\urnD 20 d=false) ∨ (i=1/\urnD 20 d=true/\ruleD (lenD d) e=false) ∨ (i=5/\urnD 20 d=true/\ruleD (lenD d) e=true/\wholeD 0 6 g=false)
noncomputable def RefS (ec:Nat->Addr):Sp:=fun vs H _ E=>∃ (st:Addr) (u v x:V) (d e g:PyData) (i:Nat),vs=[u,v,x]/\Dt st H d u/\short d/\Dt st H e v/\ok2 e/\Dt st H g x/\DueS d e g i/\∀ H',Same H H'->E (.ref (ec i)) none H'
noncomputable abbrev s_st:Stmt:=top 42
theorem sc_st:FnScope ["urn","rule","draws","chances","turn"] ["urn","rule","draws"] (defScope s_st):=⟨rfl,rfl,rfl,by decide +kernel,rfl,by decide +kernel,by decide +kernel⟩
theorem ok_st (F:Fun K "stands" "stands" s_st f fd) (C2:Ct2 mg) (c1:CalX P w K mg base 6 "need_urn_and_rule" ["urn","rule"] (sp_nur ec)) (c2:CalX P w K mg base 2 "need_number" ["thing","low","high"] (sp_need_number ec)):FnOk P w K mg base (CX1 P w) 7 f fd ["urn","rule","draws"] (RefS ec):=by
  refine F.okX sc_st (fun vs H Q E h=>?_) (fun cdv A outer s H vs Q E hr h=>?_)
  · obtain ⟨st,u,v,x,d,e,g,i,rfl,_⟩:=h
    rfl
  obtain ⟨tw,hW⟩:=C2.stand
  refine ⟨_,pss_cons (ps_expr (pe_calx c1 hr rfl passes1 (pa_cons (pv 0) (pa_cons (pv 1) pa_nil)))) (pss_cons (ps_expr (pe_calx (c2.up (by decide)) hr rfl passes1 (pa_cons (pv 2) (pa_cons pe_int (pa_cons (pe_glob (v:=.int 6) rfl hW ⟨tw,rfl⟩) pa_nil))))) pss_never),?_⟩
  obtain ⟨st,u,v,x,d,e,g,i,rfl,hu,hus,hv,hvo,hx,due,q⟩:=h
  unfold DueS at due
  refine ⟨_,rfl,_,rfl,u,v,st,d,e,rfl,hu,hus,hv,hvo,fun hw H1 g1=>?_,fun hw hw2 H1 g1=>?_,fun hw hw2 H1 g1=>?_⟩
  · rcases due with ⟨rfl,_⟩ | ⟨_,z,_⟩ | ⟨_,z,_⟩
    · exact q H1 g1
    all_goals (rw [hw] at z;cases z)
  · rcases due with ⟨_,z⟩ | ⟨rfl,_⟩ | ⟨_,_,z,_⟩
    · rw [hw] at z;cases z
    · exact q H1 g1
    · rw [hw2] at z;cases z
  · rcases due with ⟨_,z⟩ | ⟨_,_,z⟩ | ⟨rfl,_,_,z⟩
    · rw [hw] at z;cases z
    · rw [hw2] at z;cases z
    · exact ⟨_,rfl,x,st,g,0,6,rfl,hx.kp (g1.kp st),sm_06.1,sm_06.2,(fun zt=>by rw [z] at zt;cases zt),fun _=>q H1 g1⟩
noncomputable abbrev s_mn:Stmt:=top 46
theorem sc_mn:FnScope ["urn","rule","draws","behind"] ["urn","rule","draws"] (defScope s_mn):=⟨rfl,rfl,rfl,by decide +kernel,rfl,by decide +kernel,by decide +kernel⟩
theorem ok_mn (F:Fun K "mean" "mean" s_mn f fd) (c1:CalX P w K mg base 7 "stands" ["urn","rule","draws"] (RefS ec)):FnOk P w K mg base (CX1 P w) 8 f fd ["urn","rule","draws"] (RefS ec):=by
  refine F.okX sc_mn (fun vs H Q E h=>?_) (fun cdv A outer s H vs Q E hr h=>?_)
  · obtain ⟨st,u,v,x,d,e,g,i,rfl,_⟩:=h
    rfl
  refine ⟨_,pss_cons (ps_set (i:=3) sc_mn.nd rfl (Or.inr rfl) (pe_calx c1 hr rfl passes1 (pa_cons (pv 0) (pa_cons (pv 1) (pa_cons (pv 2) pa_nil))))) pss_never,?_⟩
  obtain ⟨st,u,v,x,d,e,g,i,rfl,hr'⟩:=h
  exact ⟨_,rfl,_,rfl,_,rfl,st,u,v,x,d,e,g,i,rfl,hr'⟩
noncomputable abbrev s_mss:Stmt:=top 47
theorem sc_mss:FnScope ["urn","rule","draws","behind"] ["urn","rule","draws"] (defScope s_mss):=⟨rfl,rfl,rfl,by decide +kernel,rfl,by decide +kernel,by decide +kernel⟩
theorem ok_mss (F:Fun K "mean_shares" "mean_shares" s_mss f fd) (c1:CalX P w K mg base 7 "stands" ["urn","rule","draws"] (RefS ec)):FnOk P w K mg base (CX1 P w) 8 f fd ["urn","rule","draws"] (RefS ec):=by
  refine F.okX sc_mss (fun vs H Q E h=>?_) (fun cdv A outer s H vs Q E hr h=>?_)
  · obtain ⟨st,u,v,x,d,e,g,i,rfl,_⟩:=h
    rfl
  refine ⟨_,pss_cons (ps_set (i:=3) sc_mss.nd rfl (Or.inr rfl) (pe_calx c1 hr rfl passes1 (pa_cons (pv 0) (pa_cons (pv 1) (pa_cons (pv 2) pa_nil))))) pss_never,?_⟩
  obtain ⟨st,u,v,x,d,e,g,i,rfl,hr'⟩:=h
  exact ⟨_,rfl,_,rfl,_,rfl,st,u,v,x,d,e,g,i,rfl,hr'⟩
noncomputable def RefF (ec:Nat->Addr):Sp:=fun vs H _ E=>∃ (st:Addr) (u v:V) (d e:PyData),vs=[u,v]/\Dt st H d u/\short d/\Dt st H e v/\ok2 e/\urnD 20 d=true/\ruleD (lenD d) e=false/\∀ H',Same H H'->E (.ref (ec 1)) none H'
noncomputable abbrev s_fair:Stmt:=top 48
theorem sc_fair:FnScope ["urn","rule"] ["urn","rule"] (defScope s_fair):=⟨rfl,rfl,rfl,by decide +kernel,rfl,by decide +kernel,by decide +kernel⟩
theorem ok_fair (F:Fun K "is_fair" "is_fair" s_fair f fd) (c1:CalX P w K mg base 8 "mean_shares" ["urn","rule","draws"] (RefS ec)):FnOk P w K mg base (CX1 P w) 9 f fd ["urn","rule"] (RefF ec):=by
  refine F.okX sc_fair (fun vs H Q E h=>?_) (fun cdv A outer s H vs Q E hr h=>?_)
  · obtain ⟨st,u,v,d,e,rfl,_⟩:=h
    rfl
  refine ⟨_,pss_one (ps_ret (pe_cmpR op_eq (pe_calx c1 hr rfl passes1 (pa_cons (pv 0) (pa_cons (pv 1) (pa_cons pe_int pa_nil)))) (pe_calx c1 hr rfl passes1 (pa_cons (pv 0) (pa_cons (pv 1) (pa_cons pe_int pa_nil)))) (nomark _))),?_⟩
  obtain ⟨st,u,v,d,e,rfl,hu,hus,hv,hvo,d1,d2,q⟩:=h
  exact ⟨_,rfl,_,rfl,st,u,v,.int 1,d,e,.int 1,1,rfl,hu,hus,hv,hvo,Dt.int _ _ _,.inr (.inl ⟨rfl,d1,d2⟩),q⟩
end
end G
namespace L2
open PySem PySem.Spec PyProof.Rows
structure CalM (P:Program) (w:World) (K:PySem.W.Frag) (mg:Str->Option Value) (base:Heap) (C:Addr) (k:Nat) (m:Str) (ps:List Str) (sp:Sp):Prop where
  ex:∃ f fd,Meth K C m f/\Binds K fd ps []/\FnOk P w K mg base CX0 k f fd ps sp
theorem CalM.up {P:Program} {w:World} {K:PySem.W.Frag} {mg:Str->Option Value} {base:Heap} {C:Addr} {j k:Nat} {m:Str} {ps:List Str} {sp:Sp} (c:CalM P w K mg base C j m ps sp) (h:j <= k):CalM P w K mg base C k m ps sp :=
  let ⟨f,fd,a,b,d⟩:=c.ex;⟨f,fd,a,b,d.mono h⟩
structure CalK (P:Program) (w:World) (K:PySem.W.Frag) (mg:Str->Option Value) (base:Heap) (C:Addr) (k:Nat) (x:Str) (ps:List Str) (sp:Sp):Prop where
  ex:∃ f fd,Mk K C f/\mg x=some (.ref C)/\Binds K fd ps []/\FnOk P w K mg base CX0 k f fd ps sp
theorem CalK.up {P:Program} {w:World} {K:PySem.W.Frag} {mg:Str->Option Value} {base:Heap} {C:Addr} {j k:Nat} {x:Str} {ps:List Str} {sp:Sp} (c:CalK P w K mg base C j x ps sp) (h:j <= k):CalK P w K mg base C k x ps sp :=
  let ⟨f,fd,a,e,b,d⟩:=c.ex;⟨f,fd,a,e,b,d.mono h⟩
noncomputable def tMb (C:Addr) (m:Str) (sp:Sp) (ta:TE) (t:TA):TE:=fun σ H Q=>ta σ H fun x H1=>∃ a dx fs,x=.ref a/\H1 a=some (.ins C dx fs)/\fs.lookup m=none /\
  t σ H1 fun vs H2=>sp (x :: vs) H2 Q E0
noncomputable def tMk0 (C:Addr) (sp:Sp):TE:=fun σ H Q=>∀ x dx,H x=none->H dx=none->dx ≠ x ->
  sp [.ref x] (upd (upd H dx (.own x)) x (.ins C dx [])) (fun v H2=>v=.non/\Q (.ref x) H2) E0
section
variable {X:Cx} {k:Nat} {C:Addr} {ps:List Str} {sp:Sp} {x m:Str} {p pos apos:Pos} {e o:Expr} {es:List Expr} {ta:TE} {t:TA}
theorem pe_calm {pl:Sem Bool} (he:PE X o ta) (c:Cls X.K C) (M:CalM X.prog X.w X.K X.mg X.base C k m ps sp) (hr:Room k X.A) (ha:PA X (e :: es) t)
    (hst:starEach (e :: es) X.env=(false,eval e X.env) :: starEach es X.env:=by rfl) (hpl:(backTo pos (starEach es X.env)).any (·.1)=false:=by rfl)
    (ht:eval (.Call (.Attribute o m apos) (e :: es) [] pos) X.env=(do
      let ov <- eval o X.env
      standAt apos.atName
      let (f,first) <- holding [ov] (getMethod ov m pl)
      callWith pos f first (backTo pos (starEach (e :: es) X.env)) (backToKw pos (keywordEach [] X.env))):=by rfl) :
    PE X (.Call (.Attribute o m apos) (e :: es) [] pos) (tMb C m sp ta t):=by
  obtain ⟨f,fd,hm,hb,F⟩:=M.ex
  have h:=pe_meth (pl:=pl) he c hm F hr hb .nil pass0 ha hst hpl ht
  have e:tMeth C m sp [] E0 ta t=tMb C m sp ta t:=by
    funext σ H Q
    unfold tMeth tMb
    simp only [List.append_nil]
  rw [<- e];exact h
theorem pe_mk0 (M:CalK X.prog X.w X.K X.mg X.base C k x ps sp) (hr:Room (k + 1) X.A) (hg:Gl X x) (hdb:(x == ("__debug__":Str))=false:=by decide):PE X (.Call (.Name x p) [] [] pos) (tMk0 C sp):=by
  obtain ⟨f,fd,mk,hm,hb,F⟩:=M.ex
  exact pe_make0 mk F hr hg hm hb .nil pass0 hdb
end
end L2
namespace L2
open PySem PySem.Spec PyProof.Rows
section
variable {X:Cx}
theorem mt_scount:MtR X "str.count" (fun x vs H Q=>∃ (a b:Str),x=.str a/\vs=[.str b]/\Q (.int ((Builtin.Str.occurrences a b 0 a.length (a.length + 1)).length:Nat)) H):=by
  intro pins s σ H x vs v us Q I rx rv h
  obtain ⟨a,b,rfl,rfl,q⟩:=h
  obtain ⟨t,rfl⟩:=rx
  obtain ⟨u,rfl,ru⟩:=rv.one
  obtain ⟨t2,rfl⟩:=ru
  exact call_gives PySem.F.slot_str_count (typeIs_str s _ _) PySem.F.entry_str_count (PySem.F.args_str_count_2 _ _) (gives_str_count a b t t2) ⟨.int _,H,I.tok _,⟨_,rfl⟩,q⟩
end
end L2
namespace L2
open PySem PySem.Spec PyProof.Rows
noncomputable def HdA (h:Heap) (a C T:Addr) (v:Value):Prop:=∃ oe vs oT ts,h.get? a=some oe/\oe.cls=.ref C/\oe.dict=none/\oe.data=.fields vs/\vs[1]?=some (.ref T)/\T ≠ a/\h.get? T=some oT/\oT.data=.fields ts/\ts[3]?=some v
structure Dif (fs:List Addr) (S:Addr->Prop) (h h':Heap):Prop where
  keep:∀ b o,¬ S b->b ∉ fs->h.get? b=some o->h'.get? b=some o
  slot:∀ b o,¬ S b->h.get? b=some o->∃ sl,h'.get? b=some { o with slots:=sl }
theorem Dif.trans {fs:List Addr} {S:Addr->Prop} {h1 h2 h3:Heap} (a:Dif fs S h1 h2) (b:Dif fs S h2 h3):Dif fs S h1 h3 :=
  ⟨fun c o n m e=>b.keep c o n m (a.keep c o n m e),fun c o n e=>by
    obtain ⟨sl,e1⟩:=a.slot c o n e
    obtain ⟨sl2,e2⟩:=b.slot c _ n e1
    exact ⟨sl2,e2⟩⟩
theorem Dif.of {fs:List Addr} {S:Addr->Prop} {h h':Heap} (k:∀ b o,¬ S b->h.get? b=some o->h'.get? b=some o):Dif fs S h h':=⟨fun b o n _ e=>k b o n e,fun b o n e=>⟨o.slots,k b o n e⟩⟩
section
variable {M:Model} {A:Around} {E:Value->Shared->Prop} {s:Shared} {bs:Heap} {ev:Env} {out:List Env} {L a C:Addr} {S:Addr->Prop}
theorem entry_y {ob:Obj} {us:Array Value} {hdv:Value} {hn:Bool} {Q:Unit->Shared->Prop}
    (fr:A.frames=some (ev :: out)) (ff:s.heap.FunFrames bs (ev :: out)) (fl:ev.frame=some L) (ga:s.heap.get? a=some ob) (gc:ob.cls=.ref C) (gd:ob.dict=none) (gf:ob.data=.fields us) (sz:1 < us.size) (sa:S a)
    (k:∀ h' T,HdA h' a C T (rawInt L)->s.heap.objs.size <= T->Dif (frs (ev :: out)) S s.heap h'->Q () { s with heap:=h' }) :
    wpAny M A (do let x <- frameOf ev;let pl <- entryPlaceOf L hn;let b <- EntryCells.newEntry hdv x .none (rawInt L) .none pl;setField (.ref a) 1 b) Q E s:=by
  have na:a ∉ (ev :: out).filterMap (·.frame):=fun hm=>by
    obtain ⟨_,o,ho,hnf⟩:=ff.mem hm
    rw [ga] at ho
    cases ho
    exact hnf us gf
  refine wpAny_bind (wpAny_frameOf_fun fr ff fl fun g1 hs=>?_)
  refine wpAny_bind (wpAny_entryPlaceOf fun pl hpl=>?_)
  unfold EntryCells.newEntry newFields
  refine wpAny_bind (wpAny_newObj_type ?_ (hpl.sizeOk5 _ _ _ _ _))
  have ga1:g1.get? a=some ob:=(hs.2.1 a na).trans ga
  generalize hnew:({ cls:=.type "traceback",dict:=none,data:=.fields ([hdv,.ref L,.none,rawInt L,.none] ++ (if pl.isEmpty then List.replicate 6 Value.none else pl)).toArray }:Obj)=ot
  have ga2:(g1.push ot).get? a=some ob:=Heap.get?_push_of_some (h:=g1) ot ga1
  have gt2:(g1.push ot).get? g1.objs.size=some ot:=Heap.get?_push_size g1 (by rw [<- hnew];rfl)
  have otd:∃ ts,ot.data=.fields ts/\ts[3]?=some (rawInt L):=⟨_,by rw [<- hnew],by simp⟩
  obtain ⟨ts,otd,t3⟩:=otd
  refine wpAny_setField ga2 gf sz ?_
  have neT:g1.objs.size ≠ a:=Nat.ne_of_gt (Heap.lt_size ga1)
  have d3:=Obj.data_mapFields gf (·.setIfInBounds 1 (Value.ref g1.objs.size))
  have ga3:=Heap.get?_update_self (Obj.mapFields (·.setIfInBounds 1 (Value.ref g1.objs.size))) ga2 (Obj.isFreed_of_fields d3)
  have gt3:((g1.push ot).update a (Obj.mapFields (·.setIfInBounds 1 (Value.ref g1.objs.size)))).get? g1.objs.size=some ot :=
    (Heap.get?_update_other (g1.push ot) (Obj.mapFields (·.setIfInBounds 1 (Value.ref g1.objs.size))) (Ne.symm neT)).trans gt2
  have kp:∀ b o,b ≠ a->g1.get? b=some o->((g1.push ot).update a (Obj.mapFields (·.setIfInBounds 1 (Value.ref g1.objs.size)))).get? b=some o:=by
    intro b o hb e
    rw [Heap.get?_update_other _ _ (Ne.symm hb)]
    exact Heap.get?_push_of_some _ e
  refine k _ g1.objs.size ⟨_,_,_,_,ga3,?_,?_,d3,by simp [sz],neT,gt3,otd,t3⟩ (by rw [hs.1];exact Nat.le_refl _) ⟨fun b o hb hf e=>?_,fun b o hb e=>?_⟩
  · rw [Obj.cls_mapFields]
    exact gc
  · rw [dict_mapFields]
    exact gd
  · exact kp b o (fun z=>hb (z ▸ sa)) ((hs.2.1 b hf).trans e)
  · obtain ⟨sl,e1⟩:=hs.2.2 b o e
    exact ⟨sl,kp b _ (fun z=>hb (z ▸ sa)) e1⟩
theorem note_y {T0:Addr} {v:Value} {Q:Unit->Shared->Prop} (fr:A.frames=some (ev :: out)) (ff:s.heap.FunFrames bs (ev :: out)) (fl:ev.frame=some L) (x:HdA s.heap a C T0 v) (hv:(v == rawInt L)=false) (sa:S a) (sT:S T0)
    (k:∀ h' T,HdA h' a C T (rawInt L)->s.heap.objs.size <= T->Dif (frs (ev :: out)) S s.heap h'->Q () { s with heap:=h' }) :
    wpAny M A (noteFrame (.ref a) ev) Q E s:=by
  unfold noteFrame
  simp only [fl]
  obtain ⟨oe,vs,oT,ts,e1,e2,e3,e4,e5,ne,t1,t2,t3⟩:=x
  refine wpAny_bind (wpAny_field e1 e4 e5 ?_)
  rw [if_pos (show (Value.ref T0 != Value.none)=true from by simp)]
  refine wpAny_bind (wpAny_field t1 t2 t3 ?_)
  rw [if_neg (show ¬ ((v == rawInt L)=true) from by rw [hv];decide)]
  refine wpAny_bind (wpAny_setField t1 t2 (Array.getElem?_eq_some_iff.mp t3).1 ?_)
  have ot:∀ b,b ≠ T0->(s.heap.update T0 (Obj.mapFields (·.setIfInBounds 3 Value.none))).get? b=s.heap.get? b:=fun b hb=>Heap.get?_update_other _ _ (Ne.symm hb)
  have nr:∀ b o,s.heap.get? b=some o->(∀ vs,o.data ≠ .fields vs)->b ≠ T0:=fun b o hb hnf q=>by
    rw [q,t1] at hb
    cases hb
    exact hnf ts t2
  refine entry_y (S:=S) fr (ff.of_keeps fun b o hb hnf=>⟨o,(ot b (nr b o hb hnf)).trans hb,rfl⟩) fl ((ot a (Ne.symm ne)).trans e1) e2 e3 e4 (Array.getElem?_eq_some_iff.mp e5).1 sa fun h' T q1 q2 q3=>?_
  have q2':s.heap.objs.size <= T:=by
    have z:=Heap.size_after_update s.heap T0 (Obj.mapFields (·.setIfInBounds 3 Value.none))
    rw [<- z];exact q2
  exact k h' T q1 q2' ((Dif.of fun b o hb e=>(ot b fun z=>hb (z ▸ sT)).trans e).trans q3)
theorem flight_y {T:Addr} {v:Value} {fo:Option Addr} {Q:Unit->Shared->Prop} (x:HdA s.heap a C T v) (sT:S T) (fs:List Addr)
    (k:∀ h',HdA h' a C T (fo.elim .none fun f=>rawInt f)->h'.objs.size=s.heap.objs.size->Dif fs S s.heap h'->Q () { s with heap:=h' }):wpAny M A (setFlight (.ref a) fo) Q E s:=by
  obtain ⟨oe,vs,oT,ts,e1,e2,e3,e4,e5,ne,t1,t2,t3⟩:=x
  unfold setFlight
  refine wpAny_bind (wpAny_field e1 e4 e5 ?_)
  rw [if_pos (show (Value.ref T != Value.none)=true from by simp)]
  refine wpAny_setField t1 t2 (Array.getElem?_eq_some_iff.mp t3).1 ?_
  have ot:∀ b,b ≠ T->(s.heap.update T (Obj.mapFields (·.setIfInBounds 3 (fo.elim Value.none fun f=>rawInt f)))).get? b=s.heap.get? b:=fun b hb=>Heap.get?_update_other _ _ (Ne.symm hb)
  exact k _ ⟨oe,vs,_,_,(ot a (Ne.symm ne)).trans e1,e2,e3,e4,e5,ne,Heap.get?_update_self _ t1 (Obj.isFreed_of_fields (Obj.data_mapFields t2 _)),Obj.data_mapFields t2 _,by
      rw [Array.getElem?_setIfInBounds_self_of_lt (Array.getElem?_eq_some_iff.mp t3).1]⟩ (Heap.size_after_update ..) (Dif.of fun b o hb e=>(ot b fun z=>hb (z ▸ sT)).trans e)
theorem leave_y {T0:Addr} {v:Value} {Q:Unit->Shared->Prop} (fr:A.frames=some (ev :: out)) (ff:s.heap.FunFrames bs (ev :: out)) (fl:ev.frame=some L) (x:HdA s.heap a C T0 v) (sa:S a) (sT:S T0) (sN:∀ b,s.heap.objs.size <= b->S b)
    (k:∀ h' T,Hd h' a C (some T)->S T->Dif (frs (ev :: out)) S s.heap h'->Q () { s with heap:=h' }):wpAny M A (leaving ev (.ref a)) Q E s:=by
  unfold leaving
  cases hv:v == rawInt L with
  | false=>exact wpAny_bind (note_y fr ff fl x hv sa sT fun h' T q1 q2 q3=>flight_y (S:=S) q1 (sN T q2) (frs (ev :: out)) fun h2 z1 _ z2=>k h2 T z1 (sN T q2) (q3.trans z2))
  | true =>
    refine wpAny_bind ?_
    unfold noteFrame
    simp only [fl]
    have x':=x
    obtain ⟨oe,vs,oT,ts,e1,e2,e3,e4,e5,ne,t1,t2,t3⟩:=x'
    refine wpAny_bind (wpAny_field e1 e4 e5 ?_)
    rw [if_pos (show (Value.ref T0 != Value.none)=true from by simp)]
    refine wpAny_bind (wpAny_field t1 t2 t3 ?_)
    rw [if_pos hv]
    exact wpAny_pure (flight_y (S:=S) x sT (frs (ev :: out)) fun h2 z1 _ z2=>k h2 T0 z1 sT z2)
end
end L2
namespace L2
open PySem PySem.Spec PyProof.Rows
theorem thnF {α:Type} {M:Model} {A:Around} {m:Sem α} {Q1 Q:α->Shared->Prop} {E:Value->Shared->Prop} {s:Shared} (h:wpAny M A m Q1 (fun _ _=>False) s) (k:∀ a s',Q1 a s'->Q a s'):wpAny M A m Q E s:=wpAny_mono h k fun _ _ f=>f.elim
section
variable {prog:Program} {w:World} {A:Around} {R:Result->Shared->Prop} {s:Shared}
theorem compLoop_anyX {elt target iter:Expr} {ifs:List Expr} {scope:Scope} {pos:Pos} {it acc:Value} {env:Env} (I:Nat->Shared->Prop)
    (turn:∀ n s,I n s->wpAny (model prog w) A (pyNext it) (fun r s₁=>match r with
      | none=>R (.ok .next) s₁
      | some v=>wpAny (model prog w) A (letOwnedTupleGo target it v) (fun _ s₁'=>wpAny (model prog w) A (assign target env v) (fun _ s₂ =>
          wpAny (model prog w) A (forIn ifs true fun c r=>if r=true then do let ok <- isTrue c env (eval c env);pure (ForInStep.yield ok) else pure (ForInStep.yield r)) (fun ok s₃ =>
            if ok=true then wpAny (model prog w) A (eval elt env) (fun x s₄ =>
              wpAny (model prog w) A (call (.builtin "list.append") [acc,x]) (fun _ s₅=>∃ m,m < n/\I m s₅) (notedBy (model prog w) A env fun e s'=>R (.error e) s') s₄) (notedBy (model prog w) A env fun e s'=>R (.error e) s') s₃
            else ∃ m,m < n/\I m s₃) (notedBy (model prog w) A env fun e s'=>R (.error e) s') s₂) (notedBy (model prog w) A env fun e s'=>R (.error e) s') s₁') (notedBy (model prog w) A env fun e s'=>R (.error e) s') s₁) (notedBy (model prog w) A env fun e s'=>R (.error e) s') s)
    (n:Nat) (h:I n s) :
    codeAny (model prog w) A (.compLoop (.ListComp elt [⟨target,iter,ifs,0⟩] scope pos) 0 it acc env) R s:=by
  refine codeAny_loop rfl I (fun n s hI=>?_) n h
  show wpAny _ A ((compTurn (.ListComp elt [⟨target,iter,ifs,0⟩] scope pos) 0 it acc env).onRaise (fun x=>do noteFrame x env;theTreesLotGoes x)) _ _ s
  refine wpAny_noted ?_
  rw [compTurn_list]
  refine wpAny_bind (wpAny_standAt (wpAny_bind (wpAny_mono (turn n s hI) (fun r s₁ h₁=>?_) fun _ _ h'=>h')))
  cases r with
  | none=>exact wpAny_pure h₁
  | some v =>
    refine wpAny_bind (wpAny_mono h₁ (fun _ s₁' h₁'=>?_) fun _ _ h'=>h')
    refine wpAny_bind (wpAny_mono h₁' (fun _ s₂ h₂=>wpAny_bind (wpAny_mono h₂ (fun ok s₃ h₃=>?_) fun _ _ h'=>h')) fun _ _ h'=>h')
    cases ok with
    | false=>exact wpAny_pure ⟨rfl,h₃⟩
    | true =>
      exact wpAny_bind (wpAny_bind (wpAny_mono h₃ (fun x s₄ h₄=>wpAny_bind (wpAny_mono h₄ (fun _ s₅ h₅=>wpAny_pure (wpAny_pure ⟨rfl,h₅⟩)) fun _ _ h'=>h')) fun _ _ h'=>h'))
end
noncomputable def xeC (X:Cx) (C:Addr) (ev:Env):Value->Shared->Prop:=notedBy (model X.prog X.w) X.A ev fun x s'=>compPost (model X.prog X.w) X.A X.xe none (fun _ _=>False) .none C (.error x) s'
noncomputable def Cx.compE (X:Cx) (scope:Scope) (N:List Str) (s:Shared) (H:Hp) (ex:List Addr):Cx:={ X.comp scope N s H ex with xe:=xeC X s.heap.objs.size (X.comp scope N s H ex).env }
section
variable {X:Cx} {pins:List (Addr × Obj)} {σ:St} {H H1:Hp} {s s1:Shared} {scope:Scope} {N:List Str} {ex:List Addr}
theorem Inv.toE (I:Inv (X.comp scope N s H ex) pins σ H1 s1):Inv (X.compE scope N s H ex) pins σ H1 s1 :=
  ⟨⟨I.ok.mod,I.ok.kind,I.ok.glob,I.ok.blt,I.ok.above,I.ok.inj,I.ok.has,I.ok.cab,I.ok.hd,I.ok.frames,I.ok.stk,I.ok.exf,I.ok.bs,I.ok.bsz,I.ok.noex,I.ok.exfs,I.ok.funs,I.ok.frf⟩,I.os,I.bare,I.base,I.loc,I.cell,I.free,I.freeC,I.pin,I.hok,I.len⟩
theorem Inv.ofE (I:Inv (X.compE scope N s H ex) pins σ H1 s1):Inv (X.comp scope N s H ex) pins σ H1 s1 :=
  ⟨⟨I.ok.mod,I.ok.kind,I.ok.glob,I.ok.blt,I.ok.above,I.ok.inj,I.ok.has,I.ok.cab,I.ok.hd,I.ok.frames,I.ok.stk,I.ok.exf,I.ok.bs,I.ok.bsz,I.ok.noex,I.ok.exfs,I.ok.funs,I.ok.frf⟩,I.os,I.bare,I.base,I.loc,I.cell,I.free,I.freeC,I.pin,I.hok,I.len⟩
end
section
variable {X:Cx} {scope:Scope} {N:List Str} {ix:List (Option Nat)} {elt target iter:Expr} {ifs:List Expr} {pos:Pos} {wi:TI} {g:TG} {te:TE} {tc:TT}
theorem comp_runX {pins:List (Addr × Obj)} {σ:St} {H:Hp} {s:Shared} {it:Addr} {fp:List Addr} {tn:Nat->Heap->Prop} {J:It} {F:List V->Hp->Prop} {E:Value->Shared->Prop} {RR:Value->Addr->Result->Shared->Prop}
    (hc:X.calm=true) (hk:scope.kind=.function) (hnm:okNames scope=true) (hf:okFree scope X.env=true) (hx:okIx scope X.N N ix=true)
    (hg:∀ s H ex,PG (X.comp scope N s H ex) target g) (ht:∀ s H ex,PIfs (X.comp scope N s H ex) ifs tc) (he:PE (X.compE scope N (accS s) H (s.heap.objs.size :: fp)) elt te) (hxe:∀ e s',(X.compE scope N (accS s) H (s.heap.objs.size :: fp)).xe e s'->notedBy (model X.prog X.w) X.A (X.comp scope N (accS s) H (s.heap.objs.size :: fp)).env (fun x s2=>RR (.ref s.heap.objs.size) (accS s).heap.objs.size (.error x) s2) e s')
    (I:Inv X pins σ H s) (T:Turn X.prog X.w X.K target J fp it tn) (st:tn 0 s.heap) (hfp:∀ b ∈ fp,FpOk X pins H b) (B:Blk J (pick ix σ) g tc te H F)
    (fin:∀ (ys:List V) (H':Hp) (s':Shared) (σ':St) (its:List Value) (n:Nat),Inv (X.comp scope N (accS s) H (s.heap.objs.size :: fp)) [] σ' H' s'->H' s.heap.objs.size=none ->
      s'.heap.get? s.heap.objs.size=some { cls:=.type "list",data:=.seq its.toArray n }->Vals ys its->ys.length <= sizeLine->F ys H'->RR (.ref s.heap.objs.size) (accS s).heap.objs.size (.ok .next) s') :
    wpAny (model X.prog X.w) X.A (newList []) (fun acc s₃=>wpAny (model X.prog X.w) X.A (newFunctionEnv scope X.env.globals (closL X.env scope.names []) [] X.env.qual none .none (some X.env)) (fun cenv s₄ =>
      codeAny (model X.prog X.w) X.A (.compStart (.ListComp elt [⟨target,iter,ifs,0⟩] scope pos) 0 (.ref it) acc { cenv with scope:=relabel scope X.env }) (RR acc cenv.locals) s₄) E s₃) E s:=by
  refine wpAny_newObj_type (newEnv_comp ?_) (by show ([]:List Value).toArray.size <= sizeLine;exact Nat.zero_le _)
  obtain ⟨W,⟨m0,w0⟩,turn⟩:=B
  have I1:Inv X pins σ H (accS s):=I.kept (t':=s.toks) fun b o e=>Heap.get?_push_of_some _ e
  have fpLt:∀ b ∈ fp,b < s.heap.objs.size:=fun b hb=>let ⟨o,e,_⟩:=T.obj 0 _ st b hb;Heap.lt_size e
  have accE:(accS s).heap.get? s.heap.objs.size=some { cls:=.type "list",dict:=none,data:=.seq ([]:List Value).toArray }:=Heap.get?_push_size _ rfl
  have fD:FpOk X pins H s.heap.objs.size:=I.fpOk (Nat.le_refl _) (I.hok.fresh (Nat.le_refl _))
  have J0:Inv (X.comp scope N (accS s) H (s.heap.objs.size :: fp)) [] (pick ix σ) H _:=I1.comp (N:=N) (ix:=ix) (ex:=s.heap.objs.size :: fp) hk hnm hf hx fun b hb=>by
    rcases List.mem_cons.mp hb with z | z
    · subst z
      exact ⟨fD.1,fD.2.1,fD.2.2.1,fD.2.2.2.1,fD.2.2.2.2.1,by rw [acc_size];exact Nat.lt_succ_self _⟩
    · obtain ⟨f0,f1,f2,f3,f4,_⟩:=hfp b z
      exact ⟨f0,f1,f2,f3,f4,by rw [acc_size];exact Nat.lt_succ_of_lt (fpLt b z)⟩
  have keep0:∀ b o,(accS s).heap.get? b=some o->(pushCells ((accS s).heap.push { cls:=.type "dict",data:=.dict #[] }) scope.names).get? b=some o:=fun b o e=>pushCells_keeps _ _ b o (Heap.get?_push_of_some _ e)
  have st0:tn 0 (pushCells ((accS s).heap.push { cls:=.type "dict",data:=.dict #[] }) scope.names):=T.keep 0 _ _ st fun b hb o e=>keep0 b o (Heap.get?_push_of_some _ e)
  have exOk:∀ b ∈ s.heap.objs.size :: fp,b ≠ (X.comp scope N (accS s) H (s.heap.objs.size :: fp)).env.locals/\b ∉ (X.comp scope N (accS s) H (s.heap.objs.size :: fp)).fs /\
      ∀ x c,(X.comp scope N (accS s) H (s.heap.objs.size :: fp)).env.cells.lookup x=some c->c ≠ b:=fun b hb=>⟨(J0.ok.exf b hb).1,J0.ok.exfs b hb,(J0.ok.exf b hb).2⟩
  have stat:∀ {H':Hp} {o:Obj},(∀ b ∈ fp,H' b=none)->∀ b ∈ fp,FpOk (X.comp scope N (accS s) H (s.heap.objs.size :: fp)) [(s.heap.objs.size,o)] H' b:=fun {H' o} hn b hb=>by
    obtain ⟨e1,e2,e3⟩:=exOk b (List.mem_cons_of_mem _ hb)
    refine ⟨hn b hb,e1,e2,.inl (List.mem_cons_of_mem _ hb),e3,fun p hp=>?_⟩
    have hp':p ∈ [(s.heap.objs.size,o)]:=(List.mem_append.mp hp).elim (fun z=>absurd (show p ∈ ([]:List (Addr × Obj)) from z) (by simp)) id
    rw [List.mem_singleton.mp hp']
    exact Nat.ne_of_gt (fpLt b hb)
  have loop:codeAny (model X.prog X.w) X.A (.compLoop (.ListComp elt [⟨target,iter,ifs,0⟩] scope pos) 0 (.ref it) (.ref s.heap.objs.size) (X.comp scope N (accS s) H (s.heap.objs.size :: fp)).env) (RR (.ref s.heap.objs.size) (accS s).heap.objs.size)
      { accS s with heap:=pushCells ((accS s).heap.push { cls:=.type "dict",data:=.dict #[] }) scope.names }:=by
    refine compLoop_anyX (fun n s'=>∃ i ys its k H',Inv (X.comp scope N (accS s) H (s.heap.objs.size :: fp)) [] (pick ix σ) H' s'/\tn i s'.heap/\(∀ b ∈ fp,H' b=none)/\H' s.heap.objs.size=none /\
      s'.heap.get? s.heap.objs.size=some { cls:=.type "list",data:=.seq (its:List Value).toArray k }/\Vals ys its/\W i n ys H') ?_ m0
      ⟨0,[],[],0,H,J0,st0,fun b hb=>(hfp b hb).1,fD.1,keep0 _ _ accE,.nil,w0⟩
    rintro n s3 ⟨i,ys,its,k,H3,I3,st3,fr3,d3,l3,v3,w3⟩
    obtain ⟨hz,hw⟩:=turn i n ys H3 w3
    have pinD:Inv (X.comp scope N (accS s) H (s.heap.objs.size :: fp)) [(s.heap.objs.size,{ cls:=.type "list",data:=.seq its.toArray k })] (pick ix σ) H3 s3:=I3.pins_of fun p hp=>by
      rw [List.mem_singleton.mp hp]
      exact ⟨l3,d3,(exOk _ List.mem_cons_self).1,(exOk _ List.mem_cons_self).2.1,fun v z=>by cases z⟩
    rcases hw with ⟨stop,fy⟩ | ⟨go,Ny,Nn,hNy,hNn,step⟩
    · refine thnF (T.done (X.comp scope N (accS s) H (s.heap.objs.size :: fp)) rfl rfl rfl hc i _ s3 (pick ix σ) H3 (fun _ _=>False) pinD (stat fr3) st3 stop) fun r s4 ⟨hr,I4⟩=>?_
      subst hr
      have q:=(I4.pin (s.heap.objs.size,_) (List.mem_append_right _ List.mem_cons_self)).1
      exact fin ys H3 s4 _ its k (I4.pins_of fun p hp=>by cases hp) d3 q v3 hz fy
    · refine thnF (T.item (X.comp scope N (accS s) H (s.heap.objs.size :: fp)) rfl rfl rfl hc i _ s3 (pick ix σ) H3 (fun _ _=>False) pinD (stat fr3) st3 go) fun r s4 ⟨u,hr,h4⟩=>?_
      subst hr
      refine thnF h4 fun _ s5 ⟨x,H5,I5,r5,y5,st5,fr5⟩=>?_
      have I5':=I5.pinned (stat fr5) (T.obj _ _ st5)
      refine thnF (hg (accS s) H (s.heap.objs.size :: fp) _ s5 (pick ix σ) H5 x u _ I5' r5 (step x H5 y5)) fun _ s6 ⟨σ6,H6,I6,wk6,q6⟩=>?_
      refine thnF (ht (accS s) H (s.heap.objs.size :: fp) _ s6 σ6 H6 _ I6 q6) fun ok s7 ⟨H7,I7,q7⟩=>?_
      cases ok with
      | false =>
        obtain ⟨m',hm,w7⟩:=hNn H7 q7
        refine ⟨m',hm,i + 1,ys,its,k,H7,(I7.weak wk6.1 wk6.2).pins_of (fun p hp=>by cases hp),?_,fun b hb=>?_,?_,?_,v3,w7⟩
        · exact T.keep _ _ _ st5 fun b hb o e=>(I7.pin (b,o) (List.mem_append_right _ (List.mem_append_right _ (mem_pinsAt hb e)))).1
        · obtain ⟨o,e,d⟩:=T.obj _ _ st5 b hb
          exact (I7.pin (b,o) (List.mem_append_right _ (List.mem_append_right _ (mem_pinsAt hb e)))).2.1
        · exact (I7.pin (s.heap.objs.size,_) (List.mem_append_right _ (List.mem_append_left _ List.mem_cons_self))).2.1
        · exact (I7.pin (s.heap.objs.size,_) (List.mem_append_right _ (List.mem_append_left _ List.mem_cons_self))).1
      | true =>
        show wpAny _ _ _ _ _ _
        refine wpAny_mono (he _ s7 σ6 H7 _ I7.toE q7) (fun yv s8 hz8=>?_) hxe
        obtain ⟨y,H8,I8e,r8,q8'⟩:=hz8
        have I8:=I8e.ofE
        obtain ⟨m',hm,w8⟩:=hNy y H8 q8'
        have q8:=I8.pin (s.heap.objs.size,_) (List.mem_append_right _ (List.mem_append_left _ List.mem_cons_self))
        refine wpAny_list_append_plain (l:=s.heap.objs.size) (items:=its.toArray) ⟨k,q8.1⟩ (fun h' hl' sb=>?_) (by rw [List.size_toArray,<- v3.length];exact hz)
        obtain ⟨k',hl'⟩:=hl'
        have I9:Inv (X.comp scope N (accS s) H (s.heap.objs.size :: fp)) [] (pick ix σ) H8 { s8 with heap:=h' }:=((I8.weak wk6.1 wk6.2).pins_of (pins':=[]) (fun p hp=>by cases hp)).turned (t':=s8.toks) (it:=s.heap.objs.size)
          (fun b o hb e=>(sb.2 b hb).trans e) q8.2.1 (exOk _ List.mem_cons_self).1 (.inl List.mem_cons_self) (exOk _ List.mem_cons_self).2.2 (fun p hp=>absurd (show p ∈ ([]:List (Addr × Obj)) from hp) (by simp))
        refine ⟨m',hm,i + 1,ys ++ [y],its ++ [yv],k',H8,I9,?_,fun b hb=>?_,q8.2.1,?_,v3.append (.cons r8 .nil),w8⟩
        · refine T.keep _ _ _ st5 fun b hb o e=>(sb.2 b (Nat.ne_of_lt (fpLt b hb))).trans (I8.pin (b,o) (List.mem_append_right _ (List.mem_append_right _ (mem_pinsAt hb e)))).1
        · obtain ⟨o,e,d⟩:=T.obj _ _ st5 b hb
          exact (I8.pin (b,o) (List.mem_append_right _ (List.mem_append_right _ (mem_pinsAt hb e)))).2.1
        · have e:its.toArray.push yv=(its ++ [yv]).toArray:=by simp
          rw [<- e];exact hl'
  exact codeAny_compStart_list loop (T.self _ 0 _ _ _ st0 loop)
theorem pe_compX (hc:X.calm=true) (hi:PI X target iter wi) (hg:∀ s H ex,PG (X.comp scope N s H ex) target g) (ht:∀ s H ex,PIfs (X.comp scope N s H ex) ifs tc)
    (he:∀ pins σ H s fp,Inv X pins σ H s->(∀ b ∈ fp,FpOk X pins H b)->PE (X.compE scope N (accS s) H (s.heap.objs.size :: fp)) elt te)
    (hk:scope.kind=.function) (hnm:okNames scope=true) (hf:okFree scope X.env=true) (hx:okIx scope X.N N ix=true) (hs:∀ x,foldedSetIterable iter X.env x=pure x) :
    PE X (.ListComp elt [⟨target,iter,ifs,0⟩] scope pos) (fun σ H Q=>wi σ H fun J H1=>Blk J (pick ix σ) g tc te H1 fun ys H2=>∀ p,H2 p=none->Q (.ref p) (upd H2 p (.lst ys))):=by
  intro pins s σ H Q I h
  rw [eval_ListComp]
  refine wpAny_comprehension_free (use:=none) rfl hs (closureFor_eq (I.closed hf)) hk (fun x hx hl=>(okNames_get hnm hx).trans (by rw [hl])) ?_
  refine thn (hi pins s σ H _ I h) fun v s1 h1=>thn h1 fun itv s2 h2=>?_
  obtain ⟨it,fp,tn,J,H2,e,I2,T,st2,f2,B⟩:=h2
  subst e
  refine comp_runX (RR:=fun acc C=>compPost (model X.prog X.w) X.A X.xe none (EP X pins σ Q) acc C) hc hk hnm hf hx hg ht (he _ _ _ _ _ I2 f2) (fun _ _ z=>z) I2 T st2 f2 B ?_
  intro ys H' s' σ' its n J' hD hl hv hz hF
  obtain ⟨m,hm,_⟩:=J'.loc
  exact ⟨m,hm,fun h' hs'=>⟨.ref s2.heap.objs.size,_,I2.comp_end J' f2 hD hl hv hz hs',rfl,hF _ hD⟩⟩
end
theorem Dif.mono {fs:List Addr} {S S':Addr->Prop} {h h':Heap} (d:Dif fs S h h') (k:∀ b,S b->S' b):Dif fs S' h h':=⟨fun b o n=>d.keep b o fun z=>n (k b z),fun b o n=>d.slot b o fun z=>n (k b z)⟩
theorem Dif.frames {fs:List Addr} {S:Addr->Prop} {h h' bs:Heap} (d:Dif fs S h h'):∀ {l:List Env},(∀ b ∈ frs l,¬ S b)->h.FunFrames bs l->h'.FunFrames bs l
  | [],_,_=>trivial
  | env :: rest,n,⟨hk,⟨L,o,hf,hn,ho,hd⟩,hr⟩=>by
    have m:∀ b ∈ frs rest,b ∈ frs (env :: rest):=fun b hb=>by
      unfold frs
      rw [List.filterMap_cons,hf]
      exact List.mem_cons_of_mem _ hb
    obtain ⟨sl,e⟩:=d.slot L o (n L (by unfold frs;rw [List.filterMap_cons,hf];exact List.mem_cons_self)) ho
    exact ⟨hk,⟨L,_,hf,hn,e,hd⟩,d.frames (fun b hb=>n b (m b hb)) hr⟩
theorem HdA.same {h h':Heap} {a C T:Addr} {v:Value} (x:HdA h a C T v) (e1:h'.get? a=h.get? a) (e2:h'.get? T=h.get? T):HdA h' a C T v:=by
  obtain ⟨oe,vs,oT,ts,q1,q2,q3,q4,q5,ne,t1,t2,t3⟩:=x
  exact ⟨oe,vs,oT,ts,e1.trans q1,q2,q3,q4,q5,ne,e2.trans t1,t2,t3⟩
section
variable {P:Program} {w:World} {K:PySem.W.Frag} {mg:Str->Option Value} {base:Heap} {N N':List Str} {qual:Str} {scope scope':Scope} {f:Addr} {cd:Value} {A:Around} {outer:List Env} {s₀:Shared} {H₀:Hp} {E:XK}
theorem passesC {pins:List (Addr × Obj)} {σ:St} {H:Hp} {s:Shared} {fp:List Addr} (I0:Inv (cxOf (CX1 P w) P w K mg base N qual scope f cd A outer s₀ H₀ E) pins σ H s) (hfp:∀ b ∈ fp,FpOk (cxOf (CX1 P w) P w K mg base N qual scope f cd A outer s₀ H₀ E) pins H b) :
    Passes (CX1 P w) ((cxOf (CX1 P w) P w K mg base N qual scope f cd A outer s₀ H₀ E).compE scope' N' (accS s) H (s.heap.objs.size :: fp)) E:=by
  generalize hX:cxOf (CX1 P w) P w K mg base N qual scope f cd A outer s₀ H₀ E=X at I0 hfp ⊢
  have hs:X.stack=X.env :: X.outer:=by rw [<- hX];rfl
  have hfr:X.env.frame=some X.env.locals:=by rw [<- hX];rfl
  have hex:X.ex=[]:=by rw [<- hX];rfl
  have hpn:X.pn=[]:=by rw [<- hX];rfl
  have hp:X.prog=P:=by rw [<- hX];rfl
  have hw:X.w=w:=by rw [<- hX];rfl
  have hxe:∀ e s',wpAny (model P w) X.A (leaving X.env e) (fun _ s''=>CX1 P w X.outer X.H₀ X.s₀ E e s'') (fun e' s''=>CX1 P w X.outer X.H₀ X.s₀ E e' s'') s'->X.xe e s':=by rw [<- hX];exact fun _ _ h=>h
  clear hX
  intro pins1 σ1 H1 s1 e s' I h
  obtain ⟨a,C,H',rfl,F,hE⟩:=h
  obtain ⟨T0,x,n1,n2,n3,n4⟩:=F.exc
  rw [<- hp,<- hw] at F
  have I':=I.call' (ch:=[]) F.os F.un F.hok F.bare (fun b z=>absurd z (by simp))
  have Ia:Inv X [] σ H (accS s):=(I0.pins_of (pins':=[]) fun p hp=>by cases hp).kept (t':=s.toks) fun b o e=>Heap.get?_push_of_some _ e
  have I1:Inv X [] σ H s:=I0.pins_of (pins':=[]) fun p hp=>by cases hp
  have fD:FpOk X [] H s.heap.objs.size:=I1.fpOk (Nat.le_refl _) (I1.hok.fresh (Nat.le_refl _))
  have JX:Inv X [] σ H' s':=Ia.call' (ch:=s.heap.objs.size :: fp) I'.os I'.base I'.hok I'.bare fun b hb=>by
    rcases List.mem_cons.mp hb with z | z
    · rw [z];exact ⟨fD.2.2.2.1,fD.2.1,fD.2.2.2.2.1,fD.2.2.2.2.2⟩
    · obtain ⟨_,f1,_,f3,f4,_⟩:=hfp b z
      exact ⟨f3,f1,f4,fun p hp=>absurd (show p ∈ X.pn ++ [] from hp) (by rw [hpn];simp)⟩
  have hL:(accS s).heap.objs.size=s.heap.objs.size + 1:=acc_size s
  obtain ⟨m,hns,_⟩:=I'.loc
  have hCf:H' (accS s).heap.objs.size=none:=I'.free
  obtain ⟨oC,es,ep,gC,dC,rC⟩:=hns
  have gC':s'.heap.get? (accS s).heap.objs.size=some oC:=gC
  have xx:=x
  obtain ⟨oe,vs,oT,ts,e1,e2,e3,e4,e5,ne,t1,t2,t3⟩:=xx
  have frd:∀ b ∈ frs X.stack,∃ o,s'.heap.get? b=some o/\∀ vs,o.data ≠ .fields vs:=fun b hb=>(JX.stack.mem hb).2
  have neC:∀ b o,s'.heap.get? b=some o->(∃ vs,o.data=.fields vs)->b ≠ (accS s).heap.objs.size:=fun b o q ⟨vs,d⟩ z=>by
    rw [z,gC'] at q;cases q;rw [dC] at d;cases d
  have frC:(accS s).heap.objs.size ∉ frs X.stack:=fun z=>by
    obtain ⟨_,o,ho,_⟩:=Ia.stack.mem z
    exact absurd (Heap.lt_size ho) (Nat.lt_irrefl _)
  have frF:∀ b ∈ frs X.stack,b ≠ a/\b ≠ T0:=fun b hb=>by
    obtain ⟨o,ho,hd⟩:=frd b hb
    exact ⟨fun z=>by rw [z,e1] at ho;cases ho;exact hd _ e4,fun z=>by rw [z,t1] at ho;cases ho;exact hd _ t2⟩
  let S:Addr->Prop:=fun b=>b=a ∨ b=T0 ∨ b=(accS s).heap.objs.size ∨ s'.heap.objs.size <= b
  have nS:∀ b ∈ frs X.stack,¬ S b:=fun b hb z=>by
    obtain ⟨o,ho,_⟩:=frd b hb
    rcases z with z | z | z | z
    · exact (frF b hb).1 z
    · exact (frF b hb).2 z
    · exact frC (z ▸ hb)
    · exact absurd (Heap.lt_size ho) (Nat.not_lt.mpr z)
  have nex:∀ b o,X.s₀.heap.get? b=some o->b ∉ s.heap.objs.size :: fp:=fun b o q z=>by
    have lt:=Heap.lt_size q
    rcases List.mem_cons.mp z with z | z
    · have:=I1.sz
      rw [z] at lt
      exact absurd (Nat.lt_of_lt_of_le lt this) (Nat.lt_irrefl _)
    · rcases (hfp b z).2.2.2.1 with z | z
      · rw [hex] at z;cases z
      · exact absurd lt (Nat.not_lt.mpr z)
  have exN:∀ b,b ∉ X.ex:=fun b z=>by rw [hex] at z;cases z
  have back:∀ b,s1.heap.get? b=none->X.s₀.heap.get? b=none:=fun b z=>by
    cases q:X.s₀.heap.get? b with
    | none=>rfl
    | some o =>
      obtain ⟨o1,g1⟩:=Ia.base.there b o q (exN b)
      obtain ⟨o2,g2⟩:=I.base.there b o1 g1 (nex b o q)
      rw [z] at g2;cases g2
  have Sn:∀ b,S b->X.s₀.heap.get? b=none/\H' b=none:=fun b z=>by
    rcases z with z | z | z | z
    · rw [z];exact ⟨back a n1,n3⟩
    · rw [z];exact ⟨back T0 n2,n4⟩
    · rw [z];exact ⟨Heap.get?_none_of_le Ia.sz,hCf⟩
    · exact ⟨Heap.get?_none_of_le (Nat.le_trans JX.sz z),JX.hok.fresh z⟩
  have fr:X.A.frames=some (X.env :: X.outer):=by rw [JX.ok.frames,hs]
  have ff:s'.heap.FunFrames X.base (X.env :: X.outer):=by rw [<- hs];exact JX.stack
  rw [hs] at nS frC
  show wpAny (model X.prog X.w) X.A (noteFrame (.ref a) X.env) _ _ s'
  refine note_y (S:=fun b=>b=a ∨ b=T0) fr ff hfr x (by simp [rawInt]) (.inl rfl) (.inr rfl) fun h1 T q1 q2 q3=>?_
  have d1:Dif (frs (X.env :: X.outer)) S s'.heap h1:=q3.mono fun b z=>z.elim .inl fun z=>.inr (.inl z)
  have nCa:a ≠ (accS s).heap.objs.size:=neC a oe e1 ⟨vs,e4⟩
  have nCT:T ≠ (accS s).heap.objs.size:=fun z=>by
    rw [z] at q2;exact absurd (Heap.lt_size gC') (Nat.not_lt.mpr q2)
  have gC1:h1.get? (accS s).heap.objs.size=some oC:=q3.keep _ _ (fun z=>z.elim (fun z=>nCa z.symm) fun z=>neC T0 oT t1 ⟨ts,t2⟩ z.symm) frC gC'
  have sz1:s'.heap.objs.size <= h1.objs.size:=by
    obtain ⟨_,_,_,_,_,_,_,_,_,_,tt,_⟩:=q1
    exact Nat.le_of_lt (Nat.lt_of_le_of_lt q2 (Heap.lt_size tt))
  refine ⟨m,⟨oC,es,ep,gC1,dC,rC⟩,fun h2 hs2 cenv hc=>?_⟩
  have d2:Dif (frs (X.env :: X.outer)) S h1 h2:=Dif.of fun b o hb e=>(hs2.2 b (fun z=>hb (.inr (.inr (.inl z))))).trans e
  have x2:HdA h2 a C T (rawInt X.env.locals):=q1.same (hs2.2 a nCa) (hs2.2 T nCT)
  have x3:=x2
  obtain ⟨oe2,vs2,oT2,ts2,u1,u2,u3,u4,u5,_⟩:=x3
  unfold PySem.passOn
  refine wpAny_bind (wpAny_field (s:={ s' with heap:=h2 }) u1 u4 u5 ?_)
  rw [if_neg (show ¬ ((Value.ref T == Value.none)=true) from by simp)]
  refine wpAny_bind (flight_y (s:={ s' with heap:=h2 }) (S:=S) x2 (.inr (.inr (.inr q2))) (frs (X.env :: X.outer)) fun h3 q4 sz3 d3=>?_)
  refine wpAny_throw (hxe _ _ ?_)
  have dA:=(d1.trans d2).trans d3
  refine leave_y (s:={ s' with heap:=h3 }) (S:=S) fr (dA.frames nS ff) hfr q4 (.inl rfl) (.inr (.inr (.inr q2))) (fun b hb=>.inr (.inr (.inr (Nat.le_trans sz1 (by rw [<- hs2.1];rw [<- sz3];exact hb))))) fun h4 T2 q5 sT2 d4=>?_
  have dF:=dA.trans d4
  have hfs:frs (X.env :: X.outer)=X.env.locals :: X.fs:=by
    unfold frs
    rw [List.filterMap_cons,hfr]
    rfl
  have nn:∀ b o,X.s₀.heap.get? b=some o->¬ S b:=fun b o e z=>by rw [(Sn b z).1] at e;cases e
  have nl:∀ b o,X.s₀.heap.get? b=some o->b ∉ X.fs->b ∉ frs (X.env :: X.outer):=fun b o e hb z=>by
    rw [hfs] at z
    rcases List.mem_cons.mp z with z | z
    · exact absurd (Nat.lt_of_lt_of_le (Heap.lt_size e) (z ▸ JX.ok.above)) (Nat.lt_irrefl _)
    · exact hb z
  refine ⟨a,C,H',rfl,⟨JX.os,JX.bare,⟨fun b o e n hb _=>dF.keep b o (nn b o e) (nl b o e hb) (JX.base.keep b o e n hb (exN b)),fun b o e n hb _=>?_,fun b o e n _=>JX.base.free b o e n (exN b),fun b o e _=>?_,JX.base.tups,JX.base.frzs,JX.base.tbls⟩,fun b o e=>?_,T2,q5,back a n1,(Sn T2 sT2).1,n3,(Sn T2 sT2).2⟩,hE⟩
  · obtain ⟨sl,g1⟩:=JX.base.slot b o e n hb (exN b)
    obtain ⟨sl2,g2⟩:=dF.slot b _ (nn b o e) g1
    exact ⟨sl2,g2⟩
  · obtain ⟨o1,g1⟩:=JX.base.there b o e (exN b)
    obtain ⟨sl,g2⟩:=dF.slot b _ (nn b o e) g1
    exact ⟨_,g2⟩
  · rw [<- hp,<- hw]
    have tr:∀ c u q,H' c=some u->s'.heap.get? c=some q->h4.get? c=some q:=fun c u q hc e=>dF.keep c q (fun z=>by rw [(Sn c z).2] at hc;cases hc) (fun z=>by rw [JX.stkFree c (by rw [hs];exact z)] at hc;cases hc) e
    refine (JX.hok b o e).stay (fun c u hc q=>?_) (fun _ q=>q) fun _ _ q=>q
    rcases hc with z | z
    · subst z;exact tr _ _ u e q
    · exact tr _ _ u z q
end
end L2
namespace G
open PySem PySem.Spec PyProof.Rows L2 Mt
structure CtK (mg:Str->Option Value):Prop where
  letters:∃ t,mg "MOST_LETTERS"=some (.int 8 t)
  figures:∃ t,mg "FIGURES"=some (.str "0123456789" t)
noncomputable def letP (c:Nat):Bool:=decide (97 <= c) && decide (c <= 122)
noncomputable def nameP (x:Str):Bool:=decide (1 <= x.length) && decide (x.length <= 8) && x.cps.toList.all letP
noncomputable def fgP (x:Str):Option Nat:=if x.length=1 then (Builtin.Str.occurrences "0123456789" x 0 ("0123456789":Str).length 1).head? else none
noncomputable def arP (x:Str):Option (List (List Int)):=if 4 < (Builtin.Str.occurrences x "/" 0 x.length (x.length + 1)).length + 1 then none else ruT (((Builtin.Str.occurrences x "/" 0 x.length (x.length + 1)).length + 1:Nat):Int) x
theorem ruleD_true {k:Int} {d:PyData} (h:ruleD k d=true):∃ (rs:List (List Int)) (n:Nat),d=DR rs/\k=n/\Mt.Rul n 5 rs:=by
  cases d with
  | tuple ds =>
    have h':(decide ((ds.length:Int)=k) && ds.all (fun r=>wholesD 0 5 r && decide ((lenD r:Int)=k)))=true:=h
    rw [Bool.and_eq_true] at h'
    obtain ⟨h1,h2⟩:=h'
    have h1':=of_decide_eq_true h1
    have:∀ (es:List PyData),es.all (fun r=>wholesD 0 5 r && decide ((lenD r:Int)=k))=true->∃ rs:List (List Int),es=rs.map DI/\∀ r ∈ rs,(r.length:Int)=k/\∀ x ∈ r,0 <= x/\x <= 5:=by
      intro es
      induction es with
      | nil=>exact fun _=>⟨[],rfl,by simp⟩
      | cons e es ih =>
        intro ha
        rw [List.all_cons,Bool.and_eq_true,Bool.and_eq_true] at ha
        obtain ⟨⟨hw,hl⟩,hr⟩:=ha
        obtain ⟨rs,e1,e2⟩:=ih hr
        obtain ⟨ns,e3,hn⟩:=wholesD_ints hw
        subst e3
        rw [lenD_DI] at hl
        refine ⟨ns :: rs,by rw [e1];rfl,fun r hr'=>?_⟩
        rcases List.mem_cons.mp hr' with z | z
        · subst z;exact ⟨of_decide_eq_true hl,hn⟩
        · exact e2 r z
    obtain ⟨rs,e1,e2⟩:=this ds h2
    refine ⟨rs,ds.length,by rw [e1],h1'.symm,⟨by rw [e1,List.length_map],fun r hr=>⟨?_,fun x hx=>?_⟩⟩⟩
    · have:=(e2 r hr).1;lia
    · have:=(e2 r hr).2 x hx;lia
  | _=>cases (show false=true from h)
theorem map_inj' {α β:Type} {f:α->β} (hf:∀ a b,f a=f b->a=b):∀ (l m:List α),l.map f=m.map f->l=m
  | [],[],_=>rfl
  | [],b :: m,h=>by cases h
  | a :: l,[],h=>by cases h
  | a :: l,b :: m,h=>by
    rw [List.map_cons,List.map_cons] at h
    injection h with h1 h2
    rw [hf a b h1,map_inj' hf l m h2]
theorem DR_inj {rs rs':List (List Int)} (h:DR rs=DR rs'):rs=rs':=by
  injection h with h
  refine map_inj' (fun a b e=>?_) _ _ h
  injection e with e
  exact map_inj' (fun x y z=>by injection z) _ _ e
theorem ruleD_rul {n:Nat} {rs:List (List Int)} (h:ruleD (n:Int) (DR rs)=true):Mt.Rul n 5 rs:=by
  obtain ⟨rs',n',e,en,hR⟩:=ruleD_true h
  have:n'=n:=by lia
  subst this
  rw [DR_inj e];exact hR
theorem arP_ok2 {x:Str} {rs:List (List Int)} (h:arP x=some rs):ok2 (DR rs):=by
  unfold arP at h
  generalize (Builtin.Str.occurrences x "/" 0 x.length (x.length + 1)).length + 1=n at h
  by_cases h4:4 < n
  · rw [if_pos h4] at h;cases h
  · rw [if_neg h4] at h
    have hR:=ruleD_rul (ruT_is h).2
    exact ⟨short_DR (by rw [hR.len];lia),shorts_DR hR (by lia)⟩
section
variable {P:Program} {w:World} {K:PySem.W.Frag} {mg:Str->Option Value} {base:Heap} {f:Addr} {fd:FuncData} {ec:Nat->Addr} {Bs:Addr}
noncomputable def sp_nmr (ec:Nat->Addr):Sp:=fun vs H Q E=>∃ x:Str,vs=[.str x]/\x.length <= 900/\(nameP x=true->∀ H',Same H H'->Q (.str x) H')/\(nameP x=false->∀ H',Same H H'->E (.ref (ec 9)) none H')
noncomputable abbrev s_nmr:Stmt:=top 61
theorem sc_nmr:FnScope ["word"] ["word"] (defScope s_nmr):=⟨rfl,rfl,rfl,by decide +kernel,rfl,by decide +kernel,by decide +kernel⟩
theorem let_a (c:Nat):decide ((oneS c).cps.toList < ("a":Str).cps.toList)=decide (c < 97):=by
  have ea:("a":Str).cps.toList=[97]:=by decide +kernel
  rw [ea]
  refine decide_eq_decide.mpr ?_
  show [c] < [97] ↔ _
  rw [List.cons_lt_cons_iff]
  exact ⟨fun h=>h.elim id (fun z=>by cases z.2),Or.inl⟩
theorem let_z (c:Nat):decide (("z":Str).cps.toList < (oneS c).cps.toList)=decide (122 < c):=by
  have ea:("z":Str).cps.toList=[122]:=by decide +kernel
  rw [ea]
  refine decide_eq_decide.mpr ?_
  show [122] < [c] ↔ _
  rw [List.cons_lt_cons_iff]
  exact ⟨fun h=>h.elim id (fun z=>by cases z.2),Or.inl⟩
theorem ok_nmr (F:Fun K "name_read" "name_read" s_nmr f fd) (B:Bt mg) (C:CtK mg) (R:Errs K mg ec Bs):FnOk P w K mg base (CX1 P w) 1 f fd ["word"] (sp_nmr ec):=by
  refine F.okX sc_nmr (fun vs H Q E h=>?_) (fun cdv A outer s H vs Q E hr h=>?_)
  · obtain ⟨x,rfl,_⟩:=h
    rfl
  obtain ⟨x,rfl,h9,q1,q0⟩:=h
  obtain ⟨tl,hL⟩:=C.letters
  refine ⟨_,pss_cons (ps_if (PW.pt (pw_or (pt_not (pt_chain op_le op_le pe_int (pe_callB call_len_str rfl B.len PySem.boot_len (pa_cons (pv 0) pa_nil)) (pe_glob (v:=.int 8) rfl hL ⟨tl,rfl⟩)))
      (pw_or1 (pt_not (pt_val (pe_callB (call_all_seq rfl) rfl B.all boot_all (pa_cons (pe_compG (N:=["letter"]) (ix:=[none]) (ifs:=[]) (tc:=tTrue) rfl (pi_str (pv 0)) (fun s H ex=>pg_c (i:=0) (by decide +kernel) rfl (Or.inl rfl) (.inr rfl)) (fun s H ex=>pifs_nil)
        (fun s H ex=>pe_chain op_le_str op_le_str pe_str (pv 0) pe_str) rfl (by decide +kernel) (by rfl) (by rfl) (fun _=>rfl)) pa_nil))))))) (pss_one (ps_raise1 R.e9 (R.xc 9 (by decide)) pe_str (fun σ H Q Q' m q=>m _ _ q))) pss_nil)
    (pss_one (ps_ret (pv 0))),?_⟩
  refine ⟨_,rfl,x,rfl,sz (by lia),_,_,rfl,rfl,_,rfl,?_⟩
  unfold nameP at q1 q0
  by_cases h1:1 <= x.length
  rotate_left
  · rw [decide_eq_false (show ¬ (1:Int) <= (x.length:Int) by lia)]
    refine iteF ⟨_,rfl,iteT (q0 ?_ _ (Same.refl H))⟩
    rw [decide_eq_false h1];rfl
  rw [decide_eq_true (show (1:Int) <= (x.length:Int) by lia)]
  refine iteT ⟨_,_,rfl,rfl,_,rfl,?_⟩
  by_cases h8:x.length <= 8
  rotate_left
  · rw [decide_eq_false (show ¬ (x.length:Int) <= 8 by lia)]
    refine iteT (q0 ?_ _ (Same.refl H))
    rw [decide_eq_false h8,Bool.and_false];rfl
  rw [decide_eq_true (show (x.length:Int) <= 8 by lia)]
  rw [decide_eq_true h1,decide_eq_true h8,Bool.true_and,Bool.true_and] at q1 q0
  refine iteF ⟨_,rfl,x,rfl,?_⟩
  refine blk_str (sz (show x.cps.size <= 1000 from Nat.le_trans h8 (by decide))) (fun i ys H2=>H2=H/\ys=((x.cps.toList.take i).map letP).map V.bl/\i <= x.cps.size) ⟨rfl,rfl,Nat.zero_le _⟩ (fun i ys H2 h=>by rw [h.2.1,List.length_map,List.length_map,List.length_take,Array.length_toList];exact Nat.min_eq_left h.2.2) rfl (fun i c ys H2 hi h=>?_) (fun ys H2 h=>?_)
  · obtain ⟨rfl,rfl,hle⟩:=h
    have hlt:i < x.cps.size:=(Array.getElem?_eq_some_iff.mp hi).1
    have hi':x.cps.toList[i]?=some c:=by rw [Array.getElem?_toList];exact hi
    have step:(x.cps.toList.take (i + 1)).map letP=(x.cps.toList.take i).map letP ++ [letP c]:=by
      rw [List.take_add_one,hi',List.map_append];rfl
    refine ⟨_,rfl,"a",oneS c,rfl,rfl,_,rfl,?_⟩
    rw [let_a]
    unfold letP at step ⊢
    by_cases c1:97 <= c
    · rw [decide_eq_false (show ¬ c < 97 by lia)]
      refine iteT ⟨oneS c,"z",rfl,rfl,?_⟩
      rw [let_z]
      refine ⟨rfl,?_,hlt⟩
      rw [step,List.map_append,decide_eq_true c1,Bool.true_and]
      by_cases c2:c <= 122
      · rw [decide_eq_true c2,decide_eq_false (show ¬ 122 < c by lia)];rfl
      · rw [decide_eq_false c2,decide_eq_true (show 122 < c by lia)];rfl
    · rw [decide_eq_true (show c < 97 by lia)]
      refine iteF ⟨rfl,?_,hlt⟩
      rw [step,List.map_append,decide_eq_false c1,Bool.false_and];rfl
  · obtain ⟨rfl,rfl,_⟩:=h
    rw [List.take_of_length_le (by rw [Array.length_toList];exact Nat.le_refl _)]
    intro p hp
    refine ⟨p,_,rfl,.inl (.of upd_same),?_,_,rfl,?_⟩
    · rw [List.all_map]
      exact List.all_eq_true.mpr fun b _=>by cases b <;> rfl
    · have e:(((x.cps.toList.map letP).map V.bl).all truV)=x.cps.toList.all letP:=by
        rw [List.all_map,List.all_map]
        rfl
      rw [e]
      cases ha:x.cps.toList.all letP with
      | true=>exact iteF ⟨_,rfl,q1 ha _ (Same.new hp)⟩
      | false=>exact iteT (q0 ha _ (Same.new hp))
noncomputable def sp_fgr (ec:Nat->Addr):Sp:=fun vs H Q E=>∃ x:Str,vs=[.str x]/\x.length <= 900/\(∀ k,fgP x=some k->Q (.int k) H)/\(fgP x=none->∀ H',Same H H'->E (.ref (ec 9)) none H')
noncomputable abbrev s_fgr:Stmt:=top 62
theorem sc_fgr:FnScope ["word"] ["word"] (defScope s_fgr):=⟨rfl,rfl,rfl,by decide +kernel,rfl,by decide +kernel,by decide +kernel⟩
theorem ok_fgr (F:Fun K "figure_read" "figure_read" s_fgr f fd) (B:Bt mg) (C:CtK mg) (R:Errs K mg ec Bs):FnOk P w K mg base (CX1 P w) 1 f fd ["word"] (sp_fgr ec):=by
  refine F.okX sc_fgr (fun vs H Q E h=>?_) (fun cdv A outer s H vs Q E hr h=>?_)
  · obtain ⟨k,rfl,_⟩:=h
    rfl
  obtain ⟨x,rfl,h9,q1,q0⟩:=h
  obtain ⟨tf,hF⟩:=C.figures
  refine ⟨_,pss_cons (ps_if (PW.pt (pw_or (pt_cmpR op_ne (pe_callB call_len_str rfl B.len PySem.boot_len (pa_cons (pv 0) pa_nil)) pe_int (nomark _)) (pw_or1 (pt_cmpR op_nin_str (pv 0) (pe_glob (v:=.str "0123456789") rfl hF ⟨tf,rfl⟩) (by rfl))))) (pss_one (ps_raise1 R.e9 (R.xc 9 (by decide)) pe_str (fun σ H Q Q' m q=>m _ _ q))) pss_nil)
    (pss_one (ps_ret (pe_bm PySem.F.plainAttrs_str PySem.F.slot_str_index PySem.F.type_str_index mt_sindex (pe_glob (v:=.str "0123456789") rfl hF ⟨tf,rfl⟩) (pa_cons (pv 0) pa_nil)))),?_⟩
  refine ⟨_,rfl,_,rfl,sz (by lia),rfl,_,rfl,?_⟩
  unfold fgP at q1 q0
  by_cases h1:x.length=1
  rotate_left
  · rw [decide_eq_false (show ¬ V.int (x.length:Int)=V.int 1 from fun z=>h1 (by injection z with z;lia))]
    rw [if_neg h1] at q0
    exact iteT (q0 rfl H (Same.refl H))
  rw [decide_eq_true (show V.int (x.length:Int)=V.int 1 by rw [h1];rfl)]
  rw [if_pos h1] at q1 q0
  refine iteF ⟨_,rfl,x,"0123456789",rfl,rfl,_,rfl,?_⟩
  cases ho:Builtin.Str.occurrences "0123456789" x 0 ("0123456789":Str).length 1 with
  | nil =>
    rw [ho] at q0
    exact iteT (q0 rfl H (Same.refl H))
  | cons k rest =>
    rw [ho] at q1
    refine iteF ?_
    exact ⟨rfl,_,rfl,_,_,k,rest,rfl,rfl,ho,q1 k rfl⟩
noncomputable def sp_arr (ec:Nat->Addr):Sp:=fun vs H Q E=>∃ (x:Str) (l:Addr) (o:HO),vs=[.str x]/\x.length <= 900/\H l=some o/\(arP x=none->∀ H',Same H H'->E (.ref (ec 9)) none H')/\∀ rs,arP x=some rs->∀ p H',Same H H'->Dt l H' (DR rs) (.ref p)->Q (.ref p) H'
noncomputable abbrev s_arr:Stmt:=top 63
theorem sc_arr:FnScope ["word","rows"] ["word"] (defScope s_arr):=⟨rfl,rfl,rfl,by decide +kernel,rfl,by decide +kernel,by decide +kernel⟩
theorem ok_arr (F:Fun K "any_rule_read" "any_rule_read" s_arr f fd) (C:Ct mg) (R:Errs K mg ec Bs) (c1:CalX P w K mg base 6 "rule_read" ["kinds","text"] (sp_rr ec)):FnOk P w K mg base (CX1 P w) 7 f fd ["word"] (sp_arr ec):=by
  refine F.okX sc_arr (fun vs H Q E h=>?_) (fun cdv A outer s H vs Q E hr h=>?_)
  · obtain ⟨x,l,o,rfl,_⟩:=h
    rfl
  obtain ⟨tkd,hkd⟩:=C.kinds
  refine ⟨_,(@pss_cons _ _ _ _ _ (@ps_set _ _ 1 _ _ _ _ sc_arr.nd rfl (Or.inl rfl) (@pe_op _ _ _ _ _ _ _ _ op_add (pe_bm PySem.F.plainAttrs_str PySem.F.slot_str_count PySem.F.type_str_count mt_scount (pv 0) (@pa_cons _ _ _ _ _ pe_str pa_nil (by rfl))) pe_int) (by rfl) (by first | exact .inl rfl | exact .inr rfl))
    (@pss_cons _ _ _ _ _ (ps_if (@pt_cmpR _ _ _ _ _ _ _ _ op_gt (pv 1) (pe_glob (v:=.int 4) rfl hkd ⟨tkd,rfl⟩) (nomark _)) (pss_one (ps_raise1 R.e9 (R.xc 9 (by decide)) pe_str (fun σ H Q Q' m q=>m _ _ q))) pss_nil)
    (@pss_one _ _ _ (ps_ret (pe_calx c1 hr rfl passes1 (@pa_cons _ _ _ _ _ (pv 1) (@pa_cons _ _ _ _ _ (pv 0) pa_nil (by rfl)) (by rfl))))))),?_⟩
  obtain ⟨x,l,o,rfl,h9,hl,q0,q1⟩:=h
  unfold arP at q0 q1
  refine ⟨_,rfl,rfl,_,_,rfl,rfl,_,_,rfl,rfl,?_⟩
  try dsimp only
  generalize (Builtin.Str.occurrences x "/" 0 x.length (x.length + 1)).length=m at q0 q1
  refine ⟨_,rfl,_,_,rfl,rfl,_,rfl,?_⟩
  by_cases h4:4 < m + 1
  · rw [if_pos h4] at q0
    rw [decide_eq_true (show ((m:Nat):Int) + 1 > 4 by lia)]
    exact iteT (q0 rfl H (Same.refl H))
  · rw [if_neg h4] at q0 q1
    rw [decide_eq_false (show ¬ ((m:Nat):Int) + 1 > 4 by lia)]
    refine iteF ⟨_,rfl,_,rfl,l,o,.int ((m:Int) + 1),.str x,_,_,rfl,hl,Dt.int _ _ _,Dt.str _ _ _,fun z=>?_,fun n e n1 n4=>⟨(fun z=>by cases z),fun t e2=>?_⟩⟩
    · have:wholeD 1 4 (.int ((m:Int) + 1))=(decide (1 <= (m:Int) + 1) && decide ((m:Int) + 1 <= 4)):=rfl
      rw [this,decide_eq_true (by lia),decide_eq_true (by lia)] at z
      cases z
    · cases e
      cases e2
      exact ⟨h9,q0,q1⟩
inductive Wd where
  | name (x:Str)
  | urn (ns:List Int)
  | rule (rs:List (List Int))
  | fig (k:Nat)
deriving DecidableEq
noncomputable def wordP (fo x:Str):Option Wd:=if fo="name" then (if nameP x=true then some (.name x) else none) else if fo="urn" then (urT x).map .urn else if fo="rule" then (arP x).map .rule else (fgP x).map .fig
noncomputable def WdV (z:Addr) (H:Hp):Wd->V->Prop
  | .name x,v=>v=.str x
  | .urn ns,v=>∃ a,v=.ref a/\H a=some (.tup (ns.map V.int))
  | .rule rs,v=>Dt z H (DR rs) v/\ok2 (DR rs)
  | .fig k,v=>v=.int k
theorem WdV.same {z:Addr} {H H':Hp} {v:V}:∀ {d:Wd},WdV z H d v->Same H H'->WdV z H' d v
  | .name _,h,_=>h
  | .urn _,⟨a,e,h⟩,g=>⟨a,e,g _ _ h⟩
  | .rule rs,h,g=>⟨h.1.kp (g.kp z),h.2⟩
  | .fig _,h,_=>h
noncomputable def sp_wr (ec:Nat->Addr):Sp:=fun vs H Q E=>∃ (fo x:Str) (z:Addr) (oz:HO),vs=[.str fo,.str x]/\x.length <= 900/\H z=some oz/\(wordP fo x=none->∀ H',Same H H'->E (.ref (ec 9)) none H')/\∀ d,wordP fo x=some d->∀ v H',Same H H'->WdV z H' d v->Q v H'
noncomputable abbrev s_wr:Stmt:=top 64
theorem sc_wr:FnScope ["form","word"] ["form","word"] (defScope s_wr):=⟨rfl,rfl,rfl,by decide +kernel,rfl,by decide +kernel,by decide +kernel⟩
theorem ok_wr (F:Fun K "word_read" "word_read" s_wr f fd) (c1:CalX P w K mg base 1 "name_read" ["word"] (sp_nmr ec)) (c2:CalX P w K mg base 6 "urn_read" ["text"] (sp_ur ec)) (c3:CalX P w K mg base 1 "figure_read" ["word"] (sp_fgr ec)) (c4:CalX P w K mg base 7 "any_rule_read" ["word"] (sp_arr ec)):FnOk P w K mg base (CX1 P w) 8 f fd ["form","word"] (sp_wr ec):=by
  refine F.okX sc_wr (fun vs H Q E h=>?_) (fun cdv A outer s H vs Q E hr h=>?_)
  · obtain ⟨fo,x,z,oz,rfl,_⟩:=h
    rfl
  obtain ⟨fo,x,z,oz,rfl,h9,hz,q0,q1⟩:=h
  refine ⟨_,pss_cons (ps_if (pt_cmpR op_eq (pv 0) pe_str (nomark _)) (pss_one (ps_ret (pe_calx (c1.up (by decide)) hr rfl passes1 (pa_cons (pv 1) pa_nil)))) pss_nil)
    (pss_cons (ps_if (pt_cmpR op_eq (pv 0) pe_str (nomark _)) (pss_one (ps_ret (pe_calx (c2.up (by decide)) hr rfl passes1 (pa_cons (pv 1) pa_nil)))) pss_nil)
    (pss_cons (ps_if (pt_cmpR op_eq (pv 0) pe_str (nomark _)) (pss_one (ps_ret (pe_calx c4 hr rfl passes1 (pa_cons (pv 1) pa_nil)))) pss_nil)
    (pss_one (ps_ret (pe_calx (c3.up (by decide)) hr rfl passes1 (pa_cons (pv 1) pa_nil)))))),?_⟩
  have eqS:∀ {a b:Str},decide (V.str a=V.str b)=decide (a=b):=fun {a b}=>decide_eq_decide.mpr ⟨fun z=>by injection z,fun z=>by rw [z]⟩
  unfold wordP at q0 q1
  refine ⟨_,rfl,rfl,_,rfl,?_⟩
  rw [eqS]
  by_cases e1:fo="name"
  · rw [if_pos e1] at q0 q1
    rw [decide_eq_true e1]
    refine iteT ⟨_,rfl,x,rfl,h9,fun hn H' g=>?_,fun hn H' g=>?_⟩
    · rw [if_pos hn] at q1
      exact q1 _ rfl _ H' g rfl
    · rw [if_neg (by rw [hn];decide)] at q0
      exact q0 rfl H' g
  rw [if_neg e1] at q0 q1
  rw [decide_eq_false e1]
  refine iteF ⟨_,rfl,rfl,_,rfl,?_⟩
  rw [eqS]
  by_cases e2:fo="urn"
  · rw [if_pos e2] at q0 q1
    rw [decide_eq_true e2]
    refine iteT ⟨_,rfl,z,.str x,.str x,rfl,Dt.str _ _ _,(fun z=>by cases z),fun t et=>?_⟩
    cases et
    refine ⟨h9,fun hn H' g=>?_,fun ns hn p H' g _ hp=>?_⟩
    · rw [hn] at q0;exact q0 rfl H' g
    · rw [hn] at q1;exact q1 _ rfl _ H' g ⟨p,rfl,hp⟩
  rw [if_neg e2] at q0 q1
  rw [decide_eq_false e2]
  refine iteF ⟨_,rfl,rfl,_,rfl,?_⟩
  rw [eqS]
  by_cases e3:fo="rule"
  · rw [if_pos e3] at q0 q1
    rw [decide_eq_true e3]
    refine iteT ⟨_,rfl,x,z,oz,rfl,h9,hz,fun hn H' g=>?_,fun rs hn p H' g hp=>?_⟩
    · rw [hn] at q0;exact q0 rfl H' g
    · have ho:=arP_ok2 hn
      rw [hn] at q1;exact q1 _ rfl _ H' g ⟨hp,ho⟩
  rw [if_neg e3] at q0 q1
  rw [decide_eq_false e3]
  refine iteF ⟨_,rfl,x,rfl,h9,fun k hn=>?_,fun hn H' g=>?_⟩
  · rw [hn] at q1;exact q1 _ rfl _ H (Same.refl H) rfl
  · rw [hn] at q0;exact q0 rfl H' g
end
end G
namespace G
open PySem PySem.Spec PyProof.Rows L2 Mt
structure LinesK (K:PySem.W.Frag) (w:World) (mg:Str->Option Value) (dl:Addr) (f:Str->Option Value):Prop where
  m:mg "LINES"=some (.ref dl)
  top:TopD K w dl f
noncomputable def Forms (K:PySem.W.Frag) (f:Str->Option Value) (a:Str) (fos:List Str):Prop:=∃ t:Addr,f a=some (.ref t)/\∀ H,SqT K H t (fos.map V.str)
noncomputable def rowsP:List (Str × List Str):=[("urn",["name","urn"]),("draw",["name","rule","figure","name"]),("kept",[]),("show",["name"]),("chance",["name","figure"]),("stands",["name","rule","figure"]),("mean",["name","rule","figure"]),("fair",["name","rule"])]
noncomputable def fosP (a:Str):Option (List Str):=(rowsP.find? fun r=>decide (r.1=a)).map (·.2)
structure LineT (K:PySem.W.Frag) (f:Str->Option Value):Prop where
  no:∀ a,fosP a=none->f a=none
  yes:∀ a fos,fosP a=some fos->Forms K f a fos
noncomputable def wordsP:List Str->List Str->Option (List Wd)
  | fo :: fos,x :: xs=>match wordP fo x,wordsP fos xs with
    | some d,some ds=>some (d :: ds)
    | _,_=>none
  | _,_=>some []
noncomputable def linP (t:Str):Option (Str × List Wd):=match Txt.split t " " with
  | []=>none
  | a :: ws=>match fosP a with
    | none=>none
    | some fos=>if fos.length=ws.length then (wordsP fos ws).map fun ds=>(a,ds) else none
theorem fosP_len {a:Str} {fos:List Str} (h:fosP a=some fos):fos.length <= 4:=by
  unfold fosP at h
  obtain ⟨r,hr,rfl⟩:=Option.map_eq_some_iff.mp h
  have hm:=List.mem_of_find?_eq_some hr
  have:∀ r ∈ rowsP,r.2.length <= 4:=by decide +kernel
  exact this r hm
noncomputable def WdL (z:Addr) (H:Hp):List Wd->List V->Prop
  | [],ys=>ys=[]
  | d :: ds,ys=>∃ v vs,ys=v :: vs/\WdV z H d v/\WdL z H ds vs
theorem WdL.same {z:Addr} {H H':Hp}:∀ {ds:List Wd} {ys:List V},WdL z H ds ys->Same H H'->WdL z H' ds ys
  | [],_,h,_=>h
  | _ :: _,_,⟨v,vs,e,h1,h2⟩,g=>⟨v,vs,e,h1.same g,WdL.same h2 g⟩
theorem WdL.snoc {z:Addr} {H:Hp} {d:Wd} {v:V} (hv:WdV z H d v):∀ {ds:List Wd} {ys:List V},WdL z H ds ys->WdL z H (ds ++ [d]) (ys ++ [v])
  | [],ys,h=>by rw [show ys=[] from h];exact ⟨v,[],rfl,hv,rfl⟩
  | e :: ds,_,⟨u,us,rfl,h1,h2⟩=>⟨u,us ++ [v],rfl,h1,WdL.snoc hv h2⟩
theorem WdL.len {z:Addr} {H:Hp}:∀ {ds:List Wd} {ys:List V},WdL z H ds ys->ys.length=ds.length
  | [],ys,h=>by rw [show ys=[] from h];rfl
  | _ :: ds,_,⟨u,us,rfl,_,h2⟩=>by rw [List.length_cons,List.length_cons,WdL.len h2]
theorem words_at {fo x:Str}:∀ {fos ws:List Str} {i:Nat},fos[i]?=some fo->ws[i]?=some x->wordP fo x=none->wordsP fos ws=none
  | f :: fos,y :: ws,0,h1,h2,h=>by
    cases h1;cases h2
    unfold wordsP
    rw [h]
  | f :: fos,y :: ws,i + 1,h1,h2,h=>by
    have:=words_at (fos:=fos) (ws:=ws) (i:=i) (by simpa using h1) (by simpa using h2) h
    unfold wordsP
    rw [this]
    cases wordP f y <;> rfl
  | [],_,_,h1,_,_=>by simp at h1
  | _ :: _,[],_,_,h2,_=>by simp at h2
theorem words_all:∀ {fos ws:List Str} {ds:List Wd},fos.length=ws.length->ds.length=ws.length->(∀ (i:Nat) fo x d,fos[i]?=some fo->ws[i]?=some x->ds[i]?=some d->wordP fo x=some d)->wordsP fos ws=some ds
  | [],[],[],_,_,_=>rfl
  | fo :: fos,x :: ws,d :: ds,h1,h2,h=>by
    unfold wordsP
    rw [h 0 fo x d rfl rfl rfl,words_all (by simpa using h1) (by simpa using h2) fun i fo x d a b c=>h (i + 1) fo x d (by simpa using a) (by simpa using b) (by simpa using c)]
  | [],_ :: _,_,h1,_,_=>by simp at h1
  | _ :: _,[],_,h1,_,_=>by simp at h1
  | [],[],_ :: _,_,h2,_=>by simp at h2
  | _ :: _,_ :: _,[],_,h2,_=>by simp at h2
section
variable {P:Program} {w:World} {K:PySem.W.Frag} {mg:Str->Option Value} {base:Heap} {f:Addr} {fd:FuncData} {ec:Nat->Addr} {Bs dl:Addr} {fL:Str->Option Value}
noncomputable def sp_lr (ec:Nat->Addr):Sp:=fun vs H Q E=>∃ (st:Addr) (oz:HO) (d:PyData) (v:V),vs=[v]/\H st=some oz/\Dt st H d v/\(isStrD d=false->∀ H',Same H H'->E (.ref (ec 9)) none H') /\
  ∀ t,d=.str t->t.length <= 900/\(linP t=none->∀ H',Same H H'->E (.ref (ec 9)) none H')/\∀ a ds,linP t=some (a,ds)->∀ p l ys H',Same H H'->H' p=some (.tup [.str a,.ref l])->H' l=some (.lst ys)->WdL st H' ds ys->Q (.ref p) H'
noncomputable abbrev s_lr:Stmt:=top 65
theorem sc_lr:FnScope ["line","first","others"] ["line"] (defScope s_lr):=⟨rfl,rfl,rfl,by decide +kernel,rfl,by decide +kernel,by decide +kernel⟩
theorem ok_lr (F:Fun K "line_read" "line_read" s_lr f fd) (B:Bt mg) (R:Errs K mg ec Bs) (L:LinesK K w mg dl fL) (LT:LineT K fL) (c1:CalX P w K mg base 1 "need_text" ["thing"] (sp_ntx ec)) (c2:CalX P w K mg base 8 "word_read" ["form","word"] (sp_wr ec)):FnOk P w K mg base (CX1 P w) 9 f fd ["line"] (sp_lr ec):=by
  refine F.okX sc_lr (fun vs H Q E h=>?_) (fun cdv A outer s H vs Q E hr h=>?_)
  · obtain ⟨st,oz,d,v,rfl,_⟩:=h
    rfl
  obtain ⟨z,oz,d,v,rfl,hz,hd,q0,q1⟩:=h
  refine ⟨_,pss_cons (ps_expr (pe_calx (c1.up (by decide)) hr rfl passes1 (pa_cons (pv 0) pa_nil)))
    (pss_cons (ps_asg (pe_bm PySem.F.plainAttrs_str PySem.F.slot_str_split PySem.F.type_str_split mt_split (pv 0) (pa_cons pe_str pa_nil)) (pg_star rfl (pg_name (i:=1) sc_lr.nd rfl (Or.inl rfl)) (pg_name (i:=2) sc_lr.nd rfl (Or.inl rfl))))
    (pss_cons (ps_if (PW.pt (pw_or (pt_cmpR (op_topnin L.top) (pv 1) (pe_glob (v:=.ref dl) rfl L.m rfl) (by rfl)) (pw_or1 (pt_cmpR op_ne (pe_callB call_len_seq rfl B.len PySem.boot_len (pa_cons (pv 2) pa_nil)) (pe_callB call_len_seq rfl B.len PySem.boot_len (pa_cons (pe_topget L.top (pe_glob (v:=.ref dl) rfl L.m rfl) (pv 1) (fun _ _=>rfl)) pa_nil)) (nomark _))))) (pss_one (ps_raise1 R.e9 (R.xc 9 (by decide)) pe_str (fun σ H Q Q' m q=>m _ _ q))) pss_nil)
    (pss_one (ps_ret (pe_tup (pa_cons (pv 1) (pa_cons (pe_compX (N:=["form","word"]) (ix:=[none,none]) (ifs:=[]) (tc:=tTrue) rfl (pi_zipTL rfl B.zip (pa_cons (pe_topget L.top (pe_glob (v:=.ref dl) rfl L.m rfl) (pv 1) (fun _ _=>rfl)) (pa_cons (pv 2) pa_nil)))
      (fun s H ex=>pgtK (K:=K) (n:=2) rfl rfl (pgs_cons (pg_c (i:=0) (by decide +kernel) rfl (Or.inl rfl) (.inr rfl)) (pgs_cons (pg_c (i:=1) (by decide +kernel) rfl (Or.inl rfl) (.inr rfl)) pgs_nil))) (fun s H ex=>pifs_nil)
      (fun pins σ H s fp I0 hfp=>pe_calx c2 hr rfl (passesC I0 hfp) (pa_cons (pv 0) (pa_cons (pv 1) pa_nil))) rfl (by decide +kernel) (by rfl) (by rfl) (fun _=>rfl)) pa_nil))))))),?_⟩
  refine ⟨_,rfl,z,d,v,rfl,hd,fun hs=>?_,fun hs=>q0 hs H (Same.refl H)⟩
  obtain ⟨t,rfl⟩:∃ t,d=.str t:=by
    cases d with
    | str t=>exact ⟨t,rfl⟩
    | _=>cases hs
  have ev:v=.str t:=by unfold Dt at hd;exact hd
  subst ev
  obtain ⟨h9,qn,qs⟩:=q1 t rfl
  refine ⟨_,rfl,rfl,_,_,rfl,rfl,by decide +kernel,h9,fun ps hps=>?_⟩
  have hsz:∀ x ∈ Txt.split t " ",x.length <= 900:=fun x hx=>by
    have hw:=split_weight t " " (by decide +kernel)
    have:x.length <= ((Txt.split t " ").map fun y=>y.length).sum:=by
      generalize Txt.split t " "=l at hx
      clear hw hps
      induction l with
      | nil=>cases hx
      | cons a l ih =>
        rw [List.map_cons,List.sum_cons]
        rcases List.mem_cons.mp hx with e | e
        · rw [e];lia
        · have:=ih e;lia
    have hp:=List.length_pos_of_mem hx
    lia
  unfold linP at qn qs
  cases hsp:Txt.split t " " with
  | nil =>
    have:=split_pos t " "
    rw [hsp] at this
    exact absurd this (by decide)
  | cons a ws =>
  rw [hsp] at hsz
  have g1:Same H (upd H ps (.lst ((a :: ws).map V.str))):=Same.new hps
  have h1:upd H ps (.lst ((a :: ws).map V.str)) ps=some (.lst (.str a :: ws.map V.str)):=upd_same
  generalize upd H ps (.lst ((a :: ws).map V.str))=H1 at g1 h1
  refine ⟨ps,.str a,ws.map V.str,rfl,.of h1,fun pl hpl=>?_⟩
  have g2:Same H1 (upd H1 pl (.lst (ws.map V.str))):=Same.new hpl
  have h2:upd H1 pl (.lst (ws.map V.str)) pl=some (.lst (ws.map V.str)):=upd_same
  try dsimp -proj only [gName]
  generalize upd H1 pl (.lst (ws.map V.str))=H2 at g2 h2
  rw [hsp] at qn qs
  dsimp only at qn qs
  refine ⟨_,rfl,a,rfl,rfl,_,rfl,?_⟩
  cases hf:fosP a with
  | none =>
    rw [LT.no a hf]
    rw [hf] at qn
    exact iteT (qn rfl H2 (g1.trans g2))
  | some fos =>
  rw [hf] at qn qs
  dsimp only at qn qs
  have hf4:=fosP_len hf
  obtain ⟨tt,hft,ht⟩:=LT.yes a fos hf
  rw [hft]
  refine iteF ⟨_,rfl,pl,_,rfl,.inl (.of h2),_,rfl,a,.ref tt,_,rfl,rfl,hft,rfl,tt,_,rfl,.inr (ht H2),rfl,_,rfl,?_⟩
  rw [List.length_map,List.length_map]
  by_cases hfl:fos.length=ws.length
  rotate_left
  · rw [decide_eq_false (fun e=>hfl (by injection e with e;lia))]
    rw [if_neg hfl] at qn
    exact iteT (qn rfl H2 (g1.trans g2))
  rw [decide_eq_true (by rw [hfl])]
  rw [if_pos hfl] at qn qs
  refine iteF ?_
  refine ⟨_,rfl,_,rfl,a,.ref tt,_,rfl,rfl,hft,rfl,_,rfl,tt,pl,_,_,rfl,ht H2,.of h2,?_⟩
  refine blk_zipTL (sz (by rw [List.length_map];lia)) (by rw [List.length_map,List.length_map,hfl]) (fun i ys H3=>Same H2 H3/\∃ ds,WdL z H3 ds ys/\ds.length=i/\∀ (j:Nat) fo x d,fos[j]?=some fo->ws[j]?=some x->ds[j]?=some d->wordP fo x=some d) ⟨Same.refl _,[],rfl,rfl,fun j fo x y _ _ hy=>by simp at hy⟩ (fun i ys H3 h=>by obtain ⟨_,ds,h1,h2,_⟩:=h;rw [h1.len,h2]) (fun i ys H3 _ h=>⟨ht H3,.of (h.1 _ _ h2)⟩) ⟨rfl,rfl⟩ (fun i ys H3 vx vy p hx hy hp h=>?_) (fun ys H3 h=>?_)
  · obtain ⟨h4,ds,h5,h6,h7⟩:=h
    rw [List.getElem?_map] at hx hy
    obtain ⟨fo,hfo,rfl⟩:=Option.map_eq_some_iff.mp hx
    obtain ⟨x,hxx,rfl⟩:=Option.map_eq_some_iff.mp hy
    refine ⟨_,rfl,_,rfl,fo,x,z,oz,rfl,hsz x (List.mem_cons_of_mem _ (List.mem_of_getElem? hxx)),Same.new hp _ _ (h4 _ _ (g2 _ _ (g1 _ _ hz))),fun hn H4 g=>?_,fun d hdd v H4 g hv=>?_⟩
    · refine qn ?_ H4 (((g1.trans g2).trans h4).trans ((Same.new hp).trans g))
      rw [words_at hfo hxx hn];rfl
    · refine ⟨h4.trans ((Same.new hp).trans g),ds ++ [d],(h5.same ((Same.new hp).trans g)).snoc hv,by rw [List.length_append,h6];rfl,fun j fo' x' d' e1 e2 e3=>?_⟩
      rcases Nat.lt_or_ge j i with hj | hj
      · rw [List.getElem?_append_left (by lia)] at e3
        exact h7 j fo' x' d' e1 e2 e3
      · have hji:j=i:=by
          have:j < (ds ++ [d]).length:=(List.getElem?_eq_some_iff.mp e3).1
          rw [List.length_append,h6] at this
          simp at this
          lia
        subst hji
        rw [List.getElem?_append_right (by lia),h6,Nat.sub_self] at e3
        rw [hfo] at e1;rw [hxx] at e2
        cases e1;cases e2;cases e3
        exact hdd
  · obtain ⟨h4,ds,h5,h6,h7⟩:=h
    rw [List.length_map] at h6
    intro p hp
    have hall:=words_all hfl (by lia) h7
    rw [hall] at qs
    refine ⟨sz (Nat.le_of_ble_eq_true rfl),fun r hr'=>qs a ds rfl r p ys _ (((g1.trans g2).trans h4).trans ((Same.new hp).trans (Same.new hr'))) upd_same (Same.new hr' _ _ upd_same) (h5.same ((Same.new hp).trans (Same.new hr')))⟩
end
end G
namespace L2
open PySem PySem.Spec PyProof.Rows
section
variable {prog:Program} {w:World} {A:Around} {R:Result->Shared->Prop} {s:Shared} {elt t0 i0 t1 i1:Expr} {fs:List Expr} {scope:Scope} {pos:Pos} {it acc:Value} {env:Env}
end
end L2
namespace L2
open PySem PySem.Spec PyProof.Rows
section
variable {X:Cx} {scope:Scope} {N:List Str} {ix:List (Option Nat)} {elt t0 i0 t1 i1:Expr} {fs:List Expr} {pos:Pos} {wi wj:TI} {g g1:TG} {te:TE} {tc:TT}
end
end L2
namespace L2
open PySem PySem.Spec PyProof.Rows HT
section
open PySem.SeqAt
open PySem.AutoSeq1 (wpAny_loadPart')
open PySem.MeetsSeq PySem.MeetsSeq2 PySem.MeetsSeq3
end
section
variable {prog:Program} {w:World} {A:Around} {s:Shared}
end
end L2
namespace L2
open PySem PySem.Spec PyProof.Rows HT
section
variable {X:Cx}
end
end L2
namespace L2
open PySem PySem.Spec PyProof.Rows
section
variable {X:Cx} {pins:List (Addr × Obj)} {σ:St} {H:Hp} {p d it:Addr} {rs:List Addr} {kvs:List (List Key × V)} {A:Around} {R:Result->Shared->Prop}
end
end L2
namespace L2
open PySem PySem.Spec PyProof.Rows HT
section
variable {prog:Program} {w:World} {A:Around} {E:Value->Shared->Prop} {s:Shared}
end
section
variable {X:Cx} {H:Hp}
end
end L2
namespace L2
open PySem PySem.Spec PyProof.Rows HT
noncomputable def ltS (a b:Str):Bool:=decide (a.cps.toList < b.cps.toList)
theorem ltS_irr (a:Str):ltS a a=false:=decide_eq_false (List.lt_irrefl _)
theorem ltS_tr {a b c:Str} (h1:ltS a b=true) (h2:ltS b c=true):ltS a c=true:=decide_eq_true (List.lt_trans (of_decide_eq_true h1) (of_decide_eq_true h2))
noncomputable def rvS (vs:List Value) (v:Value):Int:=((vs.countP fun z=>ltS (strOf z) (strOf v):Nat):Int)
theorem rvS_lt {vs:List Value} {a b:Value} (ha:a ∈ vs) (h:ltS (strOf a) (strOf b)=true):rvS vs a < rvS vs b:=by
  unfold rvS
  have:∀ l:List Value,a ∈ l->l.countP (fun z=>ltS (strOf z) (strOf a)) < l.countP (fun z=>ltS (strOf z) (strOf b)):=fun l=>by
    have mono:∀ l:List Value,l.countP (fun z=>ltS (strOf z) (strOf a)) <= l.countP (fun z=>ltS (strOf z) (strOf b)):=fun l=>List.countP_mono_left fun z _ hz=>ltS_tr hz h
    induction l with
    | nil=>intro h;cases h
    | cons x l ih =>
      intro hm
      rw [List.countP_cons,List.countP_cons]
      rcases List.mem_cons.mp hm with e | e
      · subst e
        have:=mono l
        rw [ltS_irr,h]
        simp only [if_true,Bool.false_eq_true,if_false]
        lia
      · have i:=ih e
        cases hx:ltS (strOf x) (strOf a) with
        | true =>
          rw [ltS_tr hx h]
          simp only [if_true]
          lia
        | false =>
          cases ltS (strOf x) (strOf b) <;> simp only [if_true,Bool.false_eq_true,if_false] <;> lia
  have:=this vs ha
  lia
theorem rvS_iff {vs:List Value} {a b:Value} (ha:a ∈ vs) (hb:b ∈ vs):decide (rvS vs a < rvS vs b)=ltS (strOf a) (strOf b):=by
  cases h:ltS (strOf a) (strOf b) with
  | true=>exact decide_eq_true (rvS_lt ha h)
  | false =>
    refine decide_eq_false fun z=>?_
    cases h2:ltS (strOf b) (strOf a) with
    | true=>have:=rvS_lt hb h2;lia
    | false =>
      have e:(strOf a).cps.toList=(strOf b).cps.toList:=List.le_antisymm (List.not_lt.mp (of_decide_eq_false h2)) (List.not_lt.mp (of_decide_eq_false h))
      have e2:∀ z,ltS (strOf z) (strOf a)=ltS (strOf z) (strOf b):=fun z=>by unfold ltS;rw [e]
      unfold rvS at z
      simp only [e2] at z
      lia
section
variable {prog:Program} {w:World} {A:Around} {E:Value->Shared->Prop} {s:Shared}
theorem collect_dkk {d:Addr} {kvs:List (Key × Value)} {ep:Nat} {Q:List Value->Shared->Prop} (hh:A.handled=none) (lo:(d == sysModules)=false) (hd:s.heap.DictAt (mixKind prog w) d kvs ep) (hsz:kvs.length <= sizeLine)
    (h:∀ vs h' tk,vs.length=kvs.length->(∀ (j:Nat) v,vs[j]?=some v->∃ k x,kvs[j]?=some (k,x)/\keyIs k v=true)->s.heap.objs.size < h'.objs.size->(∀ b o,s.heap.get? b=some o->h'.get? b=some o)->Q vs { s with heap:=h',toks:=tk }):wpAny (model prog w) A (collect (.ref d)) Q E s:=by
  have lt:=hd.lt_size
  unfold collect
  refine wpAny_bind (wpAny_runValue (codeAny_builtin F.entry_proto_collect ?_))
  rw [Around.under_plainId F.plain_proto_collect _]
  show wpAny _ A.in1 (newList [] >>= fun l=>again (.builtin "list.__iadd__" ⟨[l,.ref d],[]⟩)) _ _ s
  refine wpAny_bind (wpAny_newObj_type (wpAny_pure ⟨plainId_quiet F.plain_list_iadd _,codeAny_builtin F.entry_list_iadd ?_⟩))
  rw [Around.under_plainId F.plain_list_iadd _]
  have hS1:(s.heap.push { cls:=.type "list",data:=.seq ([]:List Value).toArray }).get? s.heap.objs.size=some { cls:=.type "list",data:=.seq #[] }:=Heap.get?_push_size _ rfl
  show wpAny _ A.in1 (Builtin.List.listExtendWith (.ref s.heap.objs.size) (.ref d) (.ref s.heap.objs.size)) _ _ _
  have key:=PySem.W.kdl_extend (A:=A) (s:={ s with heap:=s.heap.push { cls:=.type "list",data:=.seq ([]:List Value).toArray } }) (PySem.W.kdl_dict (prog:=prog) (w:=w) (knd:=mixKind prog w) (kvs:=kvs) (ep:=ep) lo)
    (R:=fun (q:Result) (s':Shared)=>∃ (h':Heap) (tk:Nat) (acc':Array Value) (c':Nat),q=.ok (.ret (.ref s.heap.objs.size))/\s'={ s with heap:=h',toks:=tk } /\
      (∀ b o,s.heap.get? b=some o->h'.get? b=some o)/\h'.get? s.heap.objs.size=some { cls:=.type "list",dict:=none,data:=.seq acc' c',slots:=#[] }/\ItemsOf (fun i v=>∃ k x,kvs[i]?=some (k,x)/\(mixKind prog w).is k v=true) acc' kvs.length)
    hh (hd.push _) s.heap.objs.size (Nat.ne_of_gt lt) (Nat.ne_of_gt lt) (.ref s.heap.objs.size) 0 hS1
    (fun h' tk acc' c' hk hS' hacc=>⟨h',tk,acc',c',rfl,rfl,fun b o e=>hk b o (Nat.ne_of_lt (Heap.lt_size e)) (Heap.get?_push_of_some _ e),hS',hacc⟩) hsz
  have out:∀ (h':Heap) (tk:Nat) (acc':Array Value) (c':Nat),(∀ b o,s.heap.get? b=some o->h'.get? b=some o)->h'.get? s.heap.objs.size=some { cls:=.type "list",dict:=none,data:=.seq acc' c',slots:=#[] }->ItemsOf (fun i v=>∃ k x,kvs[i]?=some (k,x)/\(mixKind prog w).is k v=true) acc' kvs.length ->
      wpAny (model prog w) A (do
        let o <- load s.heap.objs.size
        match o.data with
        | .seq xs _=>pure xs.toList
        | _=>unsupported "internal:collect") Q E { s with heap:=h',toks:=tk }:=fun h' tk acc' c' k1 k2 k3=>by
    refine wpAny_bind (wpAny_load k2 (wpAny_pure ?_))
    show Q acc'.toList _
    exact h acc'.toList h' tk (by rw [Array.length_toList];exact k3.1) (fun j v e=>k3.2 j v (by rw [<- Array.getElem?_toList];exact e)) (Heap.lt_size k2) k1
  refine wpAny_mono key (fun fin s' x=>?_) fun e s' x=>?_
  · cases fin with
    | done f =>
      obtain ⟨h',tk,acc',c',e,rfl,k1,k2,k3⟩:=x
      cases e
      exact out h' tk acc' c' k1 k2 k3
    | again c1 =>
      refine ⟨x.1,codeAny_mono x.2 fun r s2 y=>?_⟩
      obtain ⟨h',tk,acc',c',e,rfl,k1,k2,k3⟩:=y
      subst e
      exact out h' tk acc' c' k1 k2 k3
  · obtain ⟨_,_,_,_,z,_⟩:=x
    cases z
end
theorem kv_len {κ:Type} {kvs:List (κ × V)} {vs:List (κ × Value)} (h:KV kvs vs):kvs.length=vs.length:=by
  unfold KV at h
  induction h with
  | nil=>rfl
  | cons _ _ ih=>rw [List.length_cons,List.length_cons,ih]
theorem kv_fst {κ:Type} {kvs:List (κ × V)} {vs:List (κ × Value)} (h:KV kvs vs):kvs.map (·.1)=vs.map (·.1):=by
  unfold KV at h
  induction h with
  | nil=>rfl
  | cons e _ ih=>rw [List.map_cons,List.map_cons,ih,e.1]
theorem vals_strs:∀ {its:List Value},(∀ v ∈ its,∃ x t,v=Value.str x t)->Vals ((its.map strOf).map V.str) its
  | [],_=>.nil
  | v :: its,h=>by
    obtain ⟨i,t,e⟩:=h v List.mem_cons_self
    subst e
    exact .cons ⟨t,rfl⟩ (vals_strs fun v hv=>h v (List.mem_cons_of_mem _ hv))
section
variable {X:Cx} {H:Hp}
noncomputable def rSortS:List V->Hp->VK->Prop:=fun xs H Q=>∃ (p:Addr) (kvs:List (Key × V)) (ks:List Str),xs=[.ref p]/\H p=some (.dK kvs)/\kvs.map (·.1)=ks.map Sum.inr/\ks.length < 64 /\
  ∀ (D:Addr) (ms:List Str) (H':Hp),ms.Perm ks->ms.Pairwise (fun a b=>ltS b a=false)->Same H H'->H' D=some (.lst (ms.map V.str))->Q (.ref D) H'
theorem call_sortS (hc:X.calm=true):CallR X (.builtin "sorted") rSortS:=by
  intro pins s σ H xs us Q I rr h
  obtain ⟨p,kvs,ks,rfl,hp,hks,h64,q⟩:=h
  cases rr with
  | cons r1 rr =>
    cases rr
    cases r1
    obtain ⟨hz,lo,vs,kv,hm⟩:=(show ObjOk X.prog X.w H s.heap p (.dK kvs) from I.hok p _ hp)
    obtain ⟨ep,hm⟩:=hm.dictAt
    have hvl:=kv_len kv
    have hf:=kv_fst kv
    have hkl:kvs.length=ks.length:=by have:=congrArg List.length hks;rwa [List.length_map,List.length_map] at this
    refine Calls.call_function_entry kind_sorted plain_sorted entry_sorted (args_sorted1 _) ?_
    unfold Builtin.«sorted»
    refine wpAny_bind (m:=checkCount "sorted" 1 1 _) (wpAny_pure ?_)
    refine wpAny_bind (collect_dkk (by exact I.ok.hd hc) lo hm (by lia) fun its h' tk hil hit hsz k1=>?_)
    have hstr:∀ v ∈ its,∃ x t,v=Value.str x t:=fun v hv=>by
      obtain ⟨j,hj⟩:=List.getElem?_of_mem hv
      obtain ⟨k,x,e1,e2⟩:=hit j v hj
      have e3:(ks.map (Sum.inr:Str->Key))[j]?=some k:=by rw [<- hks,hf,List.getElem?_map,e1];rfl
      rw [List.getElem?_map] at e3
      obtain ⟨y,_,ey⟩:=Option.map_eq_some_iff.mp e3
      rw [<- ey] at e2
      obtain ⟨t,e⟩:=Value.isStrOf_shape (x:=y) (v:=v) e2
      exact ⟨y,t,e⟩
    have hsm:its.map strOf=ks:=by
      refine List.ext_getElem? fun j=>?_
      rw [List.getElem?_map]
      cases hj:its[j]? with
      | none =>
        have:its.length <= j:=List.getElem?_eq_none_iff.mp hj
        rw [List.getElem?_eq_none (by lia)];rfl
      | some v =>
        obtain ⟨k,x,e1,e2⟩:=hit j v hj
        have e3:(ks.map (Sum.inr:Str->Key))[j]?=some k:=by rw [<- hks,hf,List.getElem?_map,e1];rfl
        rw [List.getElem?_map] at e3
        obtain ⟨y,hy,ey⟩:=Option.map_eq_some_iff.mp e3
        rw [<- ey] at e2
        obtain ⟨t,e⟩:=Value.isStrOf_shape (x:=y) (v:=v) e2
        rw [hy,e];rfl
    refine wpAny_bind (wpAny_newList ?_ (by rw [sizeLine_eq];lia))
    have hB:(h'.push (seqObj "list" its.toArray 0)).get? h'.objs.size=some (seqObj "list" its.toArray 0):=Heap.get?_push_size _ rfl
    have k2:∀ b o,s.heap.get? b=some o->(h'.push (seqObj "list" its.toArray 0)).get? b=some o:=fun b o e=>Heap.get?_push_of_some _ (k1 b o e)
    have lt1:∀ b o,s.heap.get? b=some o->b ≠ h'.objs.size:=fun b o e=>Nat.ne_of_lt (Heap.lt_size (k1 b o e))
    show wpAny _ _ _ _ _ { s with heap:=h'.push (seqObj "list" its.toArray 0),toks:=tk }
    refine wpAny_bind (wpAny_holding (wpAny_call_entry slot_list_sort ⟨_,hB,rfl⟩ entry_list_sort ?body (args_list_sort _)))
    refine So.sort_raw64 (rv:=rvS its) (s:={ s with heap:=h'.push (seqObj "list" its.toArray 0),toks:=tk }) (vs:=its) hB (by lia) (fun h2 h1 kp=>?_) (fun h5 vs' c' hpm hup kp hB5=>?_)
    · obtain ⟨v1,v2,rest,e⟩:∃ v1 v2 rest,its=v1 :: v2 :: rest:=by
        match its,h2 with
        | v1 :: v2 :: rest,_=>exact ⟨v1,v2,rest,rfl⟩
        | [_],h=>simp at h
        | [],h=>simp at h
      have hk:=keyKind_strs (v₁:=v1) (v₂:=v2) (vs:=rest) (ss:=(v1 :: v2 :: rest).map strOf) (strsAre_map _ (by rw [<- e];exact hstr))
      rw [<- e] at hk
      rw [hk]
      refine wpAny_pure ⟨rfl,fun x y hx hy Q hQ=>?_⟩
      obtain ⟨x1,x2⟩:=x
      obtain ⟨y1,y2⟩:=y
      dsimp only at hx hy hQ ⊢
      rw [rvS_iff hx hy] at hQ
      obtain ⟨i,t,rfl⟩:=hstr x1 hx
      obtain ⟨j,u,rfl⟩:=hstr y1 hy
      rw [keyLt'_oneType]
      exact oneLt_str hQ
    · refine ⟨_,rfl,wpAny_pure ⟨_,rfl,?_⟩⟩
      have hstr':∀ v ∈ vs',∃ i t,v=Value.str i t:=fun v hv=>hstr v (hpm.mem_iff.mp hv)
      have k5:∀ b o,s.heap.get? b=some o->h5.get? b=some o:=fun b o e=>kp b o (lt1 b o e) (k2 b o e)
      have J:=I.lays (N:=fun b=>if b=h'.objs.size then some (.lst ((vs'.map strOf).map V.str)) else none) (h':=h5) (t':=tk) k5 (fun b o hb e=>?_)
      · refine ⟨.ref h'.objs.size,_,J,rfl,q _ (vs'.map strOf) _ ?_ ?_ (fun b o e=>?_) ?_⟩
        · rw [<- hsm];exact hpm.map _
        · rw [List.pairwise_map]
          refine List.Pairwise.imp_of_mem ?_ hup
          intro a b ha hb hab
          rw [<- rvS_iff (hpm.mem_iff.mp hb) (hpm.mem_iff.mp ha)]
          exact decide_eq_false (by lia)
        · show (if b < s.heap.objs.size then H b else _)=some o
          rw [if_pos (I.hok.lt e)];exact e
        · show (if h'.objs.size < s.heap.objs.size then H h'.objs.size else (if h'.objs.size=h'.objs.size then _ else _))=_
          rw [if_neg (Nat.not_lt_of_lt hsz),if_pos rfl]
      · by_cases hbB:b=h'.objs.size
        · rw [if_pos hbB] at e
          cases e
          refine ⟨?_,vs',c',vals_strs hstr',?_⟩
          · rw [List.length_map,List.length_map,hpm.length_eq,sizeLine_eq];lia
          · rw [hbB,hB5]
        · rw [if_neg hbB] at e
          cases e
end
end L2
namespace L2
open PySem PySem.Spec PyProof.Rows
structure CalMX (P:Program) (w:World) (K:PySem.W.Frag) (mg:Str->Option Value) (base:Heap) (C:Addr) (k:Nat) (m:Str) (ps:List Str) (sp:Sp):Prop where
  ex:∃ f fd,Meth K C m f/\Binds K fd ps []/\FnOk P w K mg base (CX1 P w) k f fd ps sp
theorem CalMX.up {P:Program} {w:World} {K:PySem.W.Frag} {mg:Str->Option Value} {base:Heap} {C:Addr} {j k:Nat} {m:Str} {ps:List Str} {sp:Sp} (c:CalMX P w K mg base C j m ps sp) (h:j <= k):CalMX P w K mg base C k m ps sp :=
  let ⟨f,fd,a,b,d⟩:=c.ex;⟨f,fd,a,b,d.mono h⟩
noncomputable def tMx (C:Addr) (m:Str) (sp:Sp) (E:XK) (ta:TE) (t:TA):TE:=fun σ H Q=>ta σ H fun x H1=>∃ a dx fs,x=.ref a/\H1 a=some (.ins C dx fs)/\fs.lookup m=none /\
  t σ H1 fun vs H2=>sp (x :: vs) H2 Q E
section
variable {X:Cx} {k:Nat} {C:Addr} {ps:List Str} {sp:Sp} {m:Str} {pos apos:Pos} {e o:Expr} {es:List Expr} {ta:TE} {t:TA} {E:XK}
theorem pe_calmx {pl:Sem Bool} (he:PE X o ta) (c:Cls X.K C) (M:CalMX X.prog X.w X.K X.mg X.base C k m ps sp) (hr:Room k X.A) (hx:Passes (CX1 X.prog X.w) X E) (ha:PA X (e :: es) t)
    (hst:starEach (e :: es) X.env=(false,eval e X.env) :: starEach es X.env:=by rfl) (hpl:(backTo pos (starEach es X.env)).any (·.1)=false:=by rfl)
    (ht:eval (.Call (.Attribute o m apos) (e :: es) [] pos) X.env=(do
      let ov <- eval o X.env
      standAt apos.atName
      let (f,first) <- holding [ov] (getMethod ov m pl)
      callWith pos f first (backTo pos (starEach (e :: es) X.env)) (backToKw pos (keywordEach [] X.env))):=by rfl) :
    PE X (.Call (.Attribute o m apos) (e :: es) [] pos) (tMx C m sp E ta t):=by
  obtain ⟨f,fd,hm,hb,F⟩:=M.ex
  have h:=pe_meth (pl:=pl) he c hm F hr hb .nil hx ha hst hpl ht
  have e:tMeth C m sp [] E ta t=tMx C m sp E ta t:=by
    funext σ H Q
    unfold tMeth tMx
    simp only [List.append_nil]
  rw [<- e];exact h
end
end L2
namespace G
open PySem PySem.Spec PyProof.Rows L2 Mt
noncomputable def mth (j:Nat):Stmt:=match top 67 with
  | .ClassDef _ _ _ b _ _ _ _ _ _ _=>b.getD j (.Pass ⟨0,0,0,0⟩)
  | s=>s
theorem cut_lt {t b N:Int} (ht:0 <= t) (hb:0 < b) (h1:t < N) (h2:b < N):0 <= (cut t b).num/\(cut t b).num < N/\(0:Int) <= (cut t b).den/\((cut t b).den:Int) < N:=by
  refine ⟨cut_nn ht hb,?_,Int.natCast_nonneg _,?_⟩
  · rw [cut_num hb]
    exact Int.lt_of_le_of_lt (Int.ediv_le_self _ ht) h1
  · rw [cut_den hb]
    exact Int.lt_of_le_of_lt (Int.ediv_le_self _ (Int.le_of_lt hb)) h2
noncomputable def fS (q:Rat):Str:=fT q.num (q.den:Int)
theorem urnD_urn {ns:List Int} (h:urnD 20 (DI ns)=true):Mt.Urn ns.length 20 ns/\1 <= ns.length/\ns.length <= 4:=by
  obtain ⟨ms,e,h1,h4,hb,hs⟩:=urnD_true h
  have:ns=ms:=by
    injection e with e
    exact map_inj' (fun x y z=>by injection z) _ _ e
  subst this
  exact ⟨⟨rfl,hb,hs⟩,h1,h4⟩
structure DeskK (K:PySem.W.Frag) (C:Addr):Prop where
  cls:Cls K C
  na:NoAttr K C "urns_by_name"
noncomputable def DeskO (C:Addr) (H:Hp) (d m:Addr) (kvs:List (Key × V)):Prop:=∃ dx,H d=some (.ins C dx [("urns_by_name",.ref m)])/\H m=some (.dK kvs)
inductive SayR where
  | no (i:Nat)
  | tx (t:Str)
  | put (x:Str) (ns:List Int)
  | any
deriving DecidableEq
noncomputable def figA:List Wd->Option Nat
  | [.fig k]=>some k
  | _=>none
noncomputable def rufA:List Wd->Option (List (List Int) × Nat)
  | [.rule rs,.fig k]=>some (rs,k)
  | _=>none
noncomputable def rulA:List Wd->Option (List (List Int))
  | [.rule rs]=>some rs
  | _=>none
section
variable {z:Addr} {H:Hp} {ds:List Wd} {ys:List V}
theorem figA_v {k:Nat} (h:figA ds=some k) (hw:WdL z H ds ys):ys=[.int (k:Int)]:=by
  unfold figA at h
  split at h
  · cases h
    obtain ⟨v,vs,ey,hv,hvs⟩:=hw
    rw [ey,show vs=[] from hvs,show v=.int _ from hv]
  · cases h
theorem rufA_v {rs:List (List Int)} {k:Nat} (h:rufA ds=some (rs,k)) (hw:WdL z H ds ys):∃ v,ys=[v,.int (k:Int)]/\Dt z H (DR rs) v/\ok2 (DR rs):=by
  unfold rufA at h
  split at h
  · cases h
    obtain ⟨v,vs,ey,⟨hv,ho⟩,x,xs,ex,hx,hxs⟩:=hw
    exact ⟨v,by rw [ey,ex,show xs=[] from hxs,show x=.int _ from hx],hv,ho⟩
  · cases h
theorem rulA_v {rs:List (List Int)} (h:rulA ds=some rs) (hw:WdL z H ds ys):∃ v,ys=[v]/\Dt z H (DR rs) v/\ok2 (DR rs):=by
  unfold rulA at h
  split at h
  · cases h
    obtain ⟨v,vs,ey,⟨hv,ho⟩,hvs⟩:=hw
    exact ⟨v,by rw [ey,show vs=[] from hvs],hv,ho⟩
  · cases h
end
noncomputable def ansP (ns:List Int) (a:Str) (ds:List Wd):SayR :=
  if a="show" then .tx (nT ns)
  else if a="chance" then (match figA ds with
    | some k=>if k < ns.length then .tx (fS (Mt.share ns k)) else .no 2
    | none=>.any)
  else if a="stands" ∨ a="mean" then (match rufA ds with
    | some (rs,k)=>if ruleD (ns.length:Int) (DR rs)=false then .no 1 else if 6 < k then .no 5 else .any
    | none=>.any)
  else (match rulA ds with
    | some rs=>if ruleD (ns.length:Int) (DR rs)=false then .no 1 else .any
    | none=>.any)
noncomputable def Res (ec:Nat->Addr) (H:Hp) (Q:VK) (E:XK) (B:Str->List Int->Prop):SayR->Prop
  | .no i=>∀ H',Same H H'->E (.ref (ec i)) none H'
  | .tx t=>∀ H',Same H H'->Q (.str t) H'
  | .put x ns=>B x ns
  | .any=>False
theorem neS {a b:Str} (h:a ≠ b):decide (V.str a=V.str b)=false:=decide_eq_false fun z=>h (by injection z)
theorem yeS {a b:Str} (h:a=b):decide (V.str a=V.str b)=true:=decide_eq_true (by rw [h])
section
variable {P:Program} {w:World} {K:PySem.W.Frag} {mg:Str->Option Value} {base:Heap} {f:Addr} {fd:FuncData} {ec:Nat->Addr} {Bs dl C:Addr} {fL:Str->Option Value}
noncomputable def sp_ans (ec:Nat->Addr):Sp:=fun vs H Q E=>∃ (st u pl:Addr) (ns:List Int) (a:Str) (ys:List V) (ds:List Wd),vs=[.str a,.ref u,.ref pl]/\H pl=some (.lst ys)/\WdL st H ds ys/\Dt st H (DI ns) (.ref u)/\urnD 20 (DI ns)=true/\Res ec H Q E (fun _ _=>False) (ansP ns a ds)
noncomputable abbrev s_ans:Stmt:=top 66
theorem sc_ans:FnScope ["asked","urn","others"] ["asked","urn","others"] (defScope s_ans):=⟨rfl,rfl,rfl,by decide +kernel,rfl,by decide +kernel,by decide +kernel⟩
theorem ok_ans (F:Fun K "answer" "answer" s_ans f fd) (B:Bt mg) (B2:Bt2 mg) (c1:Cal P w K mg base 6 "urn_text" ["urn"] sp_ut) (c2:Cal P w K mg base 1 "fraction_text" ["fraction"] sp_ftB) (c3:CalX P w K mg base 6 "chance" ["urn","kind"] (sp_chance ec))
    (c4:CalX P w K mg base 7 "stands" ["urn","rule","draws"] (RefS ec)) (c5:CalX P w K mg base 8 "mean" ["urn","rule","draws"] (RefS ec)) (c6:CalX P w K mg base 9 "is_fair" ["urn","rule"] (RefF ec)):FnOk P w K mg base (CX1 P w) 10 f fd ["asked","urn","others"] (sp_ans ec):=by
  refine F.okX sc_ans (fun vs H Q E h=>?_) (fun cdv A outer s H vs Q E hr h=>?_)
  · obtain ⟨st,u,pl,ns,a,ys,ds,rfl,_⟩:=h
    rfl
  refine ⟨_,(@pss_cons _ _ _ _ _ (ps_if (@pt_cmpR _ _ _ _ _ _ _ _ op_eq (pv 0) pe_str (nomark _)) (@pss_one _ _ _ (ps_ret (pe_cal (c1.up (by decide)) hr rfl (@pa_cons _ _ _ _ _ (pv 1) pa_nil (by rfl))))) pss_nil)
    (@pss_cons _ _ _ _ _ (ps_if (@pt_cmpR _ _ _ _ _ _ _ _ op_eq (pv 0) pe_str (nomark _)) (@pss_one _ _ _ (ps_ret (pe_cal (c2.up (by decide)) hr rfl (@pa_cons _ _ _ _ _ (pe_calx (c3.up (by decide)) hr rfl passes1 (@pa_cons _ _ _ _ _ (pv 1) (@pa_cons _ _ _ _ _ (@pe_ix _ _ _ _ _ _ _ ix_list (pv 2) pe_int (fun _ _=>rfl)) pa_nil (by rfl)) (by rfl))) pa_nil (by rfl))))) pss_nil)
    (@pss_cons _ _ _ _ _ (ps_if (@pt_cmpR _ _ _ _ _ _ _ _ op_eq (pv 0) pe_str (nomark _)) (@pss_one _ _ _ (ps_ret (pe_callTy call_str_int rfl B2.str boot_str (@pa_cons _ _ _ _ _ (pe_callB call_len_seq rfl B.len PySem.boot_len (@pa_cons _ _ _ _ _ (pe_calx (c4.up (by decide)) hr rfl passes1 (@pa_cons _ _ _ _ _ (pv 1) (@pa_cons _ _ _ _ _ (@pe_ix _ _ _ _ _ _ _ ix_list (pv 2) pe_int (fun _ _=>rfl)) (@pa_cons _ _ _ _ _ (@pe_ix _ _ _ _ _ _ _ ix_list (pv 2) pe_int (fun _ _=>rfl)) pa_nil (by rfl)) (by rfl)) (by rfl))) pa_nil (by rfl))) pa_nil (by rfl))))) pss_nil)
    (@pss_cons _ _ _ _ _ (ps_if (@pt_cmpR _ _ _ _ _ _ _ _ op_eq (pv 0) pe_str (nomark _)) (@pss_one _ _ _ (ps_ret (pe_bm PySem.F.plainAttrs_str PySem.F.slot_str_join PySem.F.type_str_join mt_join pe_str (@pa_cons _ _ _ _ _ (pe_compG (N:=["middle"]) (ix:=[none]) (ifs:=[]) (tc:=tTrue) rfl (pi_tup (pe_calx (c5.up (by decide)) hr rfl passes1 (@pa_cons _ _ _ _ _ (pv 1) (@pa_cons _ _ _ _ _ (@pe_ix _ _ _ _ _ _ _ ix_list (pv 2) pe_int (fun _ _=>rfl)) (@pa_cons _ _ _ _ _ (@pe_ix _ _ _ _ _ _ _ ix_list (pv 2) pe_int (fun _ _=>rfl)) pa_nil (by rfl)) (by rfl)) (by rfl))))
      (fun s H ex=>pg_c (i:=0) (by decide +kernel) rfl (Or.inl rfl) (.inr rfl)) (fun s H ex=>pifs_nil) (fun s H ex=>(pe_cal (c2.up (by decide)) hr rfl (@pa_cons _ _ _ _ _ (pv 0) pa_nil (by rfl)))) rfl (by decide +kernel) (by rfl) (by rfl) (fun _=>rfl)) pa_nil (by rfl))))) pss_nil)
    (@pss_one _ _ _ (ps_ret (pe_ifExp (pt_val (pe_calx c6 hr rfl passes1 (@pa_cons _ _ _ _ _ (pv 1) (@pa_cons _ _ _ _ _ (@pe_ix _ _ _ _ _ _ _ ix_list (pv 2) pe_int (fun _ _=>rfl)) pa_nil (by rfl)) (by rfl)))) pe_str pe_str))))))),?_⟩
  obtain ⟨st,u,pl,ns,a,ys,ds,rfl,hp,hw,hd,hu,q⟩:=h
  obtain ⟨hU,n1,n4⟩:=urnD_urn hu
  have i0:∀ (v:V) r,atI (v :: r) 0=some v:=fun v r=>atI_nat (j:=0) rfl
  have i1:∀ (v x:V) r,atI (v :: x :: r) 1=some x:=fun v x r=>atI_nat (j:=1) rfl
  have hl:lenD (DI ns)=ns.length:=lenD_DI ns
  have hsh:short (DI ns):=short_DI (by lia)
  unfold ansP at q
  refine ⟨_,rfl,rfl,_,rfl,?_⟩
  by_cases e1:a="show"
  · rw [if_pos e1] at q
    rw [yeS e1]
    exact iteT ⟨_,rfl,st,u,ns,ns.length,rfl,hd,hU,n1,n4,q⟩
  rw [if_neg e1] at q
  rw [neS e1]
  refine iteF ⟨_,rfl,rfl,_,rfl,?_⟩
  by_cases e2:a="chance"
  · rw [if_pos e2] at q
    rw [yeS e2]
    cases hf:figA ds with
    | none=>rw [hf] at q;exact q.elim
    | some k =>
      have ey:=figA_v hf hw
      subst ey
      rw [hf] at q
      dsimp only at q
      by_cases hk:k < ns.length
      · rw [if_pos hk] at q
        have hs:ns.sum < 10 ^ 62:=by
          have:=Mt.sum_le (m:=20) (fun x hx=>(hU.nn x hx).2)
          rw [hU.len] at this
          lia
        have hb:=cut_lt (N:=10 ^ 62) (hU.getD k).1 hU.pos (Int.lt_of_le_of_lt (hU.getD k).2 (by decide)) hs
        exact iteT ⟨_,rfl,_,rfl,pl,_,0,_,rfl,rfl,.of hp,i0 _ _,.inr ⟨st,u,ns.length,k,ns,rfl,hd,hU,n1,n4,hk,fun p H1 g1 h1=>⟨p,_,_,rfl,h1,hb.1,hb.2.1,hb.2.2.1,hb.2.2.2,fun H2 g2=>q H2 (g1.trans g2)⟩⟩⟩
      · rw [if_neg hk] at q
        refine iteT ⟨_,rfl,_,rfl,pl,_,0,_,rfl,rfl,.of hp,i0 _ _,.inl ⟨st,_,_,DI ns,.int k,2,rfl,hd,hsh,Dt.int _ _ _,.inr ⟨rfl,hu,?_⟩,q⟩⟩
        rw [hl]
        show (decide ((0:Int) <= k) && decide ((k:Int) <= (ns.length:Int) - 1))=false
        rw [decide_eq_false (p:=(k:Int) <= (ns.length:Int) - 1) (by lia),Bool.and_false]
  rw [if_neg e2] at q
  rw [neS e2]
  refine iteF ⟨_,rfl,rfl,_,rfl,?_⟩
  have ref:(ds':List Wd)->(a="stands" ∨ a="mean")->Res ec H Q E (fun _ _=>False) (match rufA ds' with
      | some (rs,k)=>if ruleD (ns.length:Int) (DR rs)=false then .no 1 else if 6 < k then .no 5 else .any
      | none=>.any)->WdL st H ds' ys->∃ (rs:List (List Int)) (k:Nat) (v:V),ys=[v,.int (k:Int)]/\Dt st H (DR rs) v/\ok2 (DR rs)/\∃ i,DueS (DI ns) (DR rs) (.int (k:Nat)) i/\∀ H',Same H H'->E (.ref (ec i)) none H':=fun ds' _ q hw=>by
    cases hf:rufA ds' with
    | none=>rw [hf] at q;exact q.elim
    | some rk =>
      obtain ⟨rs,k⟩:=rk
      obtain ⟨v,ey,hv,ho⟩:=rufA_v hf hw
      refine ⟨rs,k,v,ey,hv,ho,?_⟩
      rw [hf] at q
      dsimp only at q
      by_cases hr:ruleD (ns.length:Int) (DR rs)=false
      · rw [if_pos hr] at q
        exact ⟨1,.inr (.inl ⟨rfl,hu,by rw [hl];exact hr⟩),q⟩
      · rw [if_neg hr] at q
        by_cases h6:6 < k
        · rw [if_pos h6] at q
          refine ⟨5,.inr (.inr ⟨rfl,hu,by rw [hl];simpa using hr,?_⟩),q⟩
          show (decide ((0:Int) <= k) && decide ((k:Int) <= 6))=false
          rw [decide_eq_false (p:=(k:Int) <= 6) (by lia),Bool.and_false]
        · rw [if_neg h6] at q
          exact q.elim
  by_cases e3:a="stands"
  · rw [if_pos (.inl e3)] at q
    rw [yeS e3]
    obtain ⟨rs,k,v,rfl,hv,ho,i,due,q⟩:=ref ds (.inl e3) q hw
    exact iteT ⟨_,rfl,_,rfl,pl,_,0,_,rfl,rfl,.of hp,i0 _ _,_,rfl,pl,_,1,_,rfl,rfl,.of hp,i1 _ _ _,st,_,_,_,DI ns,DR rs,.int k,i,rfl,hd,hsh,hv,ho,Dt.int _ _ _,due,q⟩
  rw [neS e3]
  refine iteF ⟨_,rfl,rfl,_,rfl,?_⟩
  by_cases e4:a="mean"
  · rw [if_pos (.inr e4)] at q
    rw [yeS e4]
    obtain ⟨rs,k,v,rfl,hv,ho,i,due,q⟩:=ref ds (.inr e4) q hw
    exact iteT ⟨rfl,_,rfl,_,rfl,pl,_,0,_,rfl,rfl,.of hp,i0 _ _,_,rfl,pl,_,1,_,rfl,rfl,.of hp,i1 _ _ _,st,_,_,_,DI ns,DR rs,.int k,i,rfl,hd,hsh,hv,ho,Dt.int _ _ _,due,q⟩
  rw [if_neg (fun z=>z.elim e3 e4)] at q
  rw [neS e4]
  refine iteF ?_
  cases hf:rulA ds with
  | none=>rw [hf] at q;exact q.elim
  | some rs =>
    obtain ⟨v,ey,hv,ho⟩:=rulA_v hf hw
    subst ey
    rw [hf] at q
    dsimp only at q
    by_cases hr:ruleD (ns.length:Int) (DR rs)=false
    · rw [if_pos hr] at q
      exact ⟨_,rfl,_,rfl,pl,_,0,_,rfl,rfl,.of hp,i0 _ _,st,_,_,DI ns,DR rs,rfl,hd,hsh,hv,ho,hu,by rw [hl];exact hr,q⟩
    · rw [if_neg hr] at q
      exact q.elim
noncomputable def sp_init (C:Addr):Sp:=fun vs H Q _=>∃ d dx,vs=[.ref d]/\H d=some (.ins C dx [])/\∀ m,H m=none->Q .non (upd (upd H m (.dK [])) d (.ins C dx [("urns_by_name",.ref m)]))
noncomputable abbrev s_init:Stmt:=mth 0
theorem sc_init:FnScope ["self"] ["self"] (defScope s_init):=⟨rfl,rfl,rfl,by decide +kernel,rfl,by decide +kernel,by decide +kernel⟩
theorem ok_init (F:Fun K "__init__" "Desk.__init__" s_init f fd) (D:DeskK K C):FnOk P w K mg base CX0 1 f fd ["self"] (sp_init C):=by
  refine F.ok sc_init (fun vs H Q E h=>?_) (fun cdv A outer s H vs Q E hr h=>?_)
  · obtain ⟨d,dx,rfl,_⟩:=h
    rfl
  obtain ⟨d,dx,rfl,hd,q⟩:=h
  refine ⟨_,pss_one (ps_fld (pv 0) pe_dnew rfl),?_⟩
  intro m hm
  refine ⟨_,rfl,d,C,dx,[],rfl,?_,D.cls,D.na,by decide,q m hm⟩
  rw [upd_ne (ne_of_none hd hm)];exact hd
noncomputable def sp_ubn (C:Addr) (ec:Nat->Addr):Sp:=fun vs H Q E=>∃ d m kvs x,vs=[.ref d,.str x]/\DeskO C H d m kvs/\(∀ v,valV kvs (Sum.inr x)=some v->Q v H)/\(valV kvs (Sum.inr x)=none->∀ H',Same H H'->E (.ref (ec 0)) none H')
noncomputable abbrev s_ubn:Stmt:=mth 2
theorem sc_ubn:FnScope ["self","name"] ["self","name"] (defScope s_ubn):=⟨rfl,rfl,rfl,by decide +kernel,rfl,by decide +kernel,by decide +kernel⟩
theorem ok_ubn (F:Fun K "urn_by_name" "Desk.urn_by_name" s_ubn f fd) (D:DeskK K C) (R:Errs K mg ec Bs):FnOk P w K mg base (CX1 P w) 1 f fd ["self","name"] (sp_ubn C ec):=by
  refine F.okX sc_ubn (fun vs H Q E h=>?_) (fun cdv A outer s H vs Q E hr h=>?_)
  · obtain ⟨d,m,kvs,x,rfl,_⟩:=h
    rfl
  obtain ⟨d,m,kvs,x,rfl,⟨dx,hd,hm⟩,q1,q0⟩:=h
  refine ⟨_,pss_cons (ps_if (pt_cmp (pc_dnotin (hu_of hr) (pv 1) (pe_fld (pv 0) rfl)) (by rfl)) (pss_one (ps_raise1 R.e0 (R.xc 0 (by decide)) pe_str (fun σ H Q Q' m q=>m _ _ q))) pss_nil)
    (pss_one (ps_ret (pe_dget (hu_of hr) (pe_fld (pv 0) rfl) (pv 1) (fun _ _=>rfl)))),?_⟩
  have hg:DGet H m (.str x) (valV kvs (Sum.inr x)):=DGet.k (k:=Sum.inr x) hm
  cases hv:valV kvs (Sum.inr x) with
  | some v =>
    rw [hv] at hg
    refine ⟨_,rfl,_,rfl,d,C,dx,_,_,rfl,hd,D.cls,D.na,rfl,m,_,rfl,hg,_,rfl,?_⟩
    exact iteF ⟨_,rfl,d,C,dx,_,_,rfl,hd,D.cls,D.na,rfl,_,rfl,m,v,rfl,hg,q1 v hv⟩
  | none =>
    rw [hv] at hg
    refine ⟨_,rfl,_,rfl,d,C,dx,_,_,rfl,hd,D.cls,D.na,rfl,m,_,rfl,hg,_,rfl,?_⟩
    exact iteT (q0 hv H (Same.refl H))
noncomputable def sp_keep (C:Addr):Sp:=fun vs H Q _=>∃ (d m:Addr) (kvs:List (Key × V)) (x:Str) (a st:Addr) (ns:List Int),vs=[.ref d,.str x,.ref a]/\DeskO C H d m kvs/\kvs.length <= 100/\Dt st H (DI ns) (.ref a)/\ns.length <= 4 /\
  (urnD 20 (DI ns)=true->∀ H',Same H H'->Q (.str "ok") (upd H' m (.dK (putK kvs (Sum.inr x) (.ref a)))))/\(urnD 20 (DI ns)=false->∀ H',Same H H'->Q (.str "full") H')
noncomputable abbrev s_keep:Stmt:=mth 3
theorem sc_keep:FnScope ["self","name","urn"] ["self","name","urn"] (defScope s_keep):=⟨rfl,rfl,rfl,by decide +kernel,rfl,by decide +kernel,by decide +kernel⟩
theorem ok_keep (F:Fun K "keep" "Desk.keep" s_keep f fd) (D:DeskK K C) (c1:Cal P w K mg base 4 "is_urn" ["thing"] sp_is_urn):FnOk P w K mg base CX0 5 f fd ["self","name","urn"] (sp_keep C):=by
  refine F.ok sc_keep (fun vs H Q E h=>?_) (fun cdv A outer s H vs Q E hr h=>?_)
  · obtain ⟨d,m,kvs,x,a,st,ns,rfl,_⟩:=h
    rfl
  obtain ⟨d,m,kvs,x,a,st,ns,rfl,⟨dx,hd,hm⟩,hk,ha,hl,q1,q0⟩:=h
  refine ⟨_,pss_cons (ps_if (pt_not (pt_val (pe_cal c1 hr rfl (pa_cons (pv 2) pa_nil)))) (pss_one (ps_ret pe_str)) pss_nil)
    (pss_cons (ps_dput (hu_of hr) (pe_fld (pv 0) rfl) (pv 1) (pv 2) rfl) (pss_one (ps_ret pe_str))),?_⟩
  refine ⟨_,rfl,_,st,_,rfl,ha,short_DI (by lia),fun H1 g1=>⟨_,rfl,?_⟩⟩
  cases hu:urnD 20 (DI ns) with
  | true=>exact iteF ⟨_,rfl,_,rfl,d,C,dx,_,_,rfl,g1 _ _ hd,D.cls,D.na,rfl,_,rfl,m,_,rfl,DPut.k (k:=Sum.inr x) (g1 _ _ hm) (small1000 (by lia)),q1 hu H1 g1⟩
  | false=>exact iteT (q0 hu H1 g1)
end
end G
namespace G
open PySem PySem.Spec PyProof.Rows L2 Mt
noncomputable def insS (x:Str):List Str->List Str
  | []=>[x]
  | y :: l=>if ltS y x=true then y :: insS x l else x :: y :: l
noncomputable def srtS:List Str->List Str
  | []=>[]
  | x :: l=>insS x (srtS l)
theorem insS_perm (x:Str):∀ l,(insS x l).Perm (x :: l)
  | []=>List.Perm.refl _
  | y :: l=>by
    unfold insS
    by_cases h:ltS y x=true
    · rw [if_pos h]
      exact ((insS_perm x l).cons y).trans (List.Perm.swap x y l)
    · rw [if_neg h]
theorem srtS_perm:∀ l,(srtS l).Perm l
  | []=>List.Perm.refl _
  | x :: l=>(insS_perm x (srtS l)).trans ((srtS_perm l).cons x)
noncomputable def leS (a b:Str):Prop:=ltS b a=false
theorem leS_tr {a b c:Str} (h1:leS a b) (h2:leS b c):leS a c:=by
  unfold leS ltS at *
  exact decide_eq_false (List.not_lt.mpr (List.le_trans (List.not_lt.mp (of_decide_eq_false h1)) (List.not_lt.mp (of_decide_eq_false h2))))
theorem leS_as {a b:Str} (h1:leS a b) (h2:leS b a):a=b:=by
  unfold leS ltS at *
  exact str_ext (List.le_antisymm (List.not_lt.mp (of_decide_eq_false h1)) (List.not_lt.mp (of_decide_eq_false h2)))
theorem leS_of {a b:Str} (h:ltS a b=true):leS a b:=by
  unfold leS
  cases e:ltS b a with
  | false=>rfl
  | true=>have:=ltS_tr h e;rw [ltS_irr] at this;cases this
theorem insS_pw (x:Str):∀ {l:List Str},l.Pairwise leS->(insS x l).Pairwise leS
  | [],_=>List.pairwise_singleton ..
  | y :: l,h=>by
    unfold insS
    obtain ⟨h1,h2⟩:=List.pairwise_cons.mp h
    by_cases e:ltS y x=true
    · rw [if_pos e]
      refine List.pairwise_cons.mpr ⟨fun z hz=>?_,insS_pw x h2⟩
      rcases List.mem_cons.mp ((insS_perm x l).mem_iff.mp hz) with q | q
      · rw [q];exact leS_of e
      · exact h1 z q
    · rw [if_neg e]
      have hxy:leS x y:=Bool.eq_false_iff.mpr e
      refine List.pairwise_cons.mpr ⟨fun z hz=>?_,h⟩
      rcases List.mem_cons.mp hz with q | q
      · rw [q];exact hxy
      · exact leS_tr hxy (h1 z q)
theorem srtS_pw:∀ l:List Str,(srtS l).Pairwise leS
  | []=>List.Pairwise.nil
  | x :: l=>insS_pw x (srtS_pw l)
theorem srtS_of {ms ks:List Str} (h:ms.Perm ks) (hp:ms.Pairwise leS):ms=srtS ks :=
  (h.trans (srtS_perm ks).symm).eq_of_pairwise (fun a b _ _ x y=>leS_as x y) hp (srtS_pw ks)
theorem cut_drop {xs:List V} {y:Nat} (h:y <= xs.length):cutV xs (some (y:Int)) none=xs.drop y:=by
  unfold cutV
  have e1:HT.sIx xs.length 0 (some (y:Int))=y:=by rw [HT.sIx_nat];lia
  rw [e1,HT.sIx_none]
  exact List.take_of_length_le (by rw [List.length_drop];lia)
noncomputable def lkU (U:List (Str × List Int)) (x:Str):Option (List Int):=(U.find? fun r=>decide (r.1=x)).map (·.2)
noncomputable def nameA:List Wd->Option (Str × List Wd)
  | .name x :: r=>some (x,r)
  | _=>none
noncomputable def urnA:List Wd->Option (List Int)
  | [.urn ns]=>some ns
  | _=>none
noncomputable def drawA:List Wd->Option (List (List Int) × Nat × Str)
  | [.rule rs,.fig k,.name y]=>some (rs,k,y)
  | _=>none
section
variable {z:Addr} {H:Hp} {ds:List Wd} {ys:List V}
theorem nameA_v {x:Str} {r:List Wd} (h:nameA ds=some (x,r)) (hw:WdL z H ds ys):∃ vs,ys=.str x :: vs/\WdL z H r vs:=by
  unfold nameA at h
  split at h
  · cases h
    obtain ⟨v,vs,ey,hv,hvs⟩:=hw
    exact ⟨vs,by rw [ey,show v=.str _ from hv],hvs⟩
  · cases h
theorem urnA_v {ns:List Int} (h:urnA ds=some ns) (hw:WdL z H ds ys):∃ b,ys=[.ref b]/\H b=some (.tup (ns.map V.int)):=by
  unfold urnA at h
  split at h
  · cases h
    obtain ⟨v,vs,ey,⟨b,eb,hb⟩,hvs⟩:=hw
    exact ⟨b,by rw [ey,show vs=[] from hvs,eb],hb⟩
  · cases h
theorem drawA_v {rs:List (List Int)} {k:Nat} {y:Str} (h:drawA ds=some (rs,k,y)) (hw:WdL z H ds ys):∃ v,ys=[v,.int (k:Int),.str y]/\Dt z H (DR rs) v/\ok2 (DR rs):=by
  unfold drawA at h
  split at h
  · cases h
    obtain ⟨v,_,e2,⟨hv,ho⟩,v3,_,e3,hv3,v4,us,e4,hv4,hus⟩:=hw
    exact ⟨v,by rw [e2,e3,e4,show us=[] from hus,show v4=.str _ from hv4,show v3=.int _ from hv3],hv,ho⟩
  · cases h
end
noncomputable def sayW (U:List (Str × List Int)) (a:Str) (ds:List Wd):SayR :=
  if a="kept" then .tx (Txt.join " " (srtS (U.map (·.1))))
  else match nameA ds with
    | some (x,r) =>
      if a="urn" then (match urnA r with
        | some ns=>if urnD 20 (DI ns)=true then .put x ns else .any
        | none=>.any)
      else match lkU U x with
        | none=>.no 0
        | some ns =>
          if a="draw" then (match drawA r with
            | some (rs,k,y) =>
              if ruleD (ns.length:Int) (DR rs)=false then .no 1
              else if k < ns.length then (if ns.getD k 0=0 then .no 3 else if urnD 20 (DI (addL ns (rs.getD k [])))=true then .put y (addL ns (rs.getD k [])) else .tx "full")
              else .no 2
            | none=>.any)
          else ansP ns a r
    | none=>.any
noncomputable def sayP (U:List (Str × List Int)):PyData->SayR
  | .str t=>match linP t with
    | none=>.no 9
    | some (a,ds)=>sayW U a ds
  | _=>.no 9
noncomputable def KU (H:Hp):List (Str × List Int)->List (Key × V)->Prop
  | [],kvs=>kvs=[]
  | (x,ns) :: U,kvs=>∃ a r,kvs=(Sum.inr x,.ref a) :: r/\H a=some (.tup (ns.map V.int))/\urnD 20 (DI ns)=true/\KU H U r
theorem KU.same {H H':Hp} (g:Same H H'):∀ {U:List (Str × List Int)} {kvs:List (Key × V)},KU H U kvs->KU H' U kvs
  | [],_,h=>h
  | (_,_) :: _,_,⟨a,r,e,h1,h2,h3⟩=>⟨a,r,e,g _ _ h1,h2,KU.same g h3⟩
theorem KU.keys {H:Hp}:∀ {U:List (Str × List Int)} {kvs:List (Key × V)},KU H U kvs->kvs.map (·.1)=(U.map (·.1)).map Sum.inr
  | [],_,h=>by rw [show _=[] from h];rfl
  | (x,ns) :: U,_,⟨a,r,e,_,_,h3⟩=>by rw [e,List.map_cons,List.map_cons,List.map_cons,KU.keys h3]
theorem KU.len {H:Hp} {U:List (Str × List Int)} {kvs:List (Key × V)} (h:KU H U kvs):kvs.length=U.length:=by
  have:=congrArg List.length h.keys
  rwa [List.length_map,List.length_map,List.length_map] at this
theorem KU.val {H:Hp} {x:Str}:∀ {U:List (Str × List Int)} {kvs:List (Key × V)},KU H U kvs->(lkU U x=none/\valV kvs (Sum.inr x)=none) ∨ ∃ ns a,lkU U x=some ns/\valV kvs (Sum.inr x)=some (.ref a)/\H a=some (.tup (ns.map V.int))/\urnD 20 (DI ns)=true
  | [],kvs,h=>by rw [show kvs=[] from h];exact .inl ⟨rfl,rfl⟩
  | (y,ns) :: U,_,⟨a,r,e,h1,h2,h3⟩=>by
    rw [e]
    unfold lkU
    by_cases hy:y=x
    · rw [List.find?_cons_of_pos (by simp [hy]),valV_pos (by rw [hy])]
      exact .inr ⟨ns,a,rfl,rfl,h1,h2⟩
    · rw [List.find?_cons_of_neg (by simp [hy]),valV_neg (fun z=>hy (by injection z))]
      exact KU.val h3
section
variable {P:Program} {w:World} {K:PySem.W.Frag} {mg:Str->Option Value} {base:Heap} {f:Addr} {fd:FuncData} {ec:Nat->Addr} {Bs dl C:Addr} {fL:Str->Option Value}
noncomputable def sp_say (C:Addr) (ec:Nat->Addr):Sp:=fun vs H Q E=>∃ (d m:Addr) (kvs:List (Key × V)) (U:List (Str × List Int)) (g:PyData) (v:V),vs=[.ref d,v]/\DeskO C H d m kvs/\KU H U kvs/\U.length <= 50/\(∀ r ∈ U,r.1.length <= 8)/\Dt d H g v/\(∀ t,g=.str t->t.length <= 900) /\
  Res ec H Q E (fun x ns=>∀ a H',Same H H'->H' a=some (.tup (ns.map V.int))->Q (.str "ok") (upd H' m (.dK (putK kvs (Sum.inr x) (.ref a))))) (sayP U g)
noncomputable abbrev s_say:Stmt:=mth 1
theorem sc_say:FnScope ["self","line","asked","others","urn"] ["self","line"] (defScope s_say):=⟨rfl,rfl,rfl,by decide +kernel,rfl,by decide +kernel,by decide +kernel⟩
theorem ok_say (F:Fun K "say" "Desk.say" s_say f fd) (D:DeskK K C) (B3:Bt3 mg) (c1:CalX P w K mg base 9 "line_read" ["line"] (sp_lr ec)) (c2:CalM P w K mg base C 5 "keep" ["self","name","urn"] (sp_keep C)) (c3:CalMX P w K mg base C 1 "urn_by_name" ["self","name"] (sp_ubn C ec)) (c4:CalX P w K mg base 10 "answer" ["asked","urn","others"] (sp_ans ec))
    (c5:CalX P w K mg base 7 "after" ["urn","rule","kind"] (sp_after ec)):FnOk P w K mg base (CX1 P w) 11 f fd ["self","line"] (sp_say C ec):=by
  refine F.okX sc_say (fun vs H Q E h=>?_) (fun cdv A outer s H vs Q E hr h=>?_)
  · obtain ⟨d,m,kvs,U,g,v,rfl,_⟩:=h
    rfl
  refine ⟨_,pss_cons (ps_asg (pe_calx (c1.up (by decide)) hr rfl passes1 (pa_cons (pv 1) pa_nil)) (pg_tup rfl (pgs_cons (pg_name (i:=2) sc_say.nd rfl (Or.inl rfl)) (pgs_cons (pg_name (i:=3) sc_say.nd rfl (Or.inl rfl)) pgs_nil))))
    (pss_cons (ps_if (pt_cmpR op_eq (pv 2) pe_str (nomark _)) (pss_one (ps_ret (pe_bm PySem.F.plainAttrs_str PySem.F.slot_str_join PySem.F.type_str_join mt_join pe_str (pa_cons (pe_callB (call_sortS rfl) rfl B3.sorted boot_sorted (pa_cons (pe_fld (pv 0) rfl) pa_nil)) pa_nil)))) pss_nil)
    (pss_cons (ps_if (pt_cmpR op_eq (pv 2) pe_str (nomark _)) (pss_one (ps_ret (pe_calm (pv 0) D.cls (c2.up (by decide)) hr (pa_cons (pe_ix ix_list (pv 3) pe_int (fun _ _=>rfl)) (pa_cons (pe_ix ix_list (pv 3) pe_int (fun _ _=>rfl)) pa_nil))))) pss_nil)
    (pss_cons (@ps_set _ _ 4 _ _ _ _ sc_say.nd rfl (Or.inl rfl) (pe_calmx (pv 0) D.cls (c3.up (by decide)) hr passes1 (pa_cons (pe_ix ix_list (pv 3) pe_int (fun _ _=>rfl)) pa_nil)) (by rfl) (by first | exact .inl rfl | exact .inr rfl))
    (pss_cons (ps_if (pt_cmpR op_eq (pv 2) pe_str (nomark _)) (pss_one (ps_ret (pe_calm (pv 0) D.cls (c2.up (by decide)) hr (pa_cons (pe_ix ix_list (pv 3) pe_int (fun _ _=>rfl)) (pa_cons (pe_calx (c5.up (by decide)) hr rfl passes1 (pa_cons (pv 4) (pa_cons (pe_ix ix_list (pv 3) pe_int (fun _ _=>rfl)) (pa_cons (pe_ix ix_list (pv 3) pe_int (fun _ _=>rfl)) pa_nil)))) pa_nil))))) pss_nil)
    (pss_one (ps_ret (pe_calx c4 hr rfl passes1 (pa_cons (pv 2) (pa_cons (pv 4) (pa_cons (pe_slice sl_list (pv 3) (po_some pe_int) po_none) pa_nil)))))))))),?_⟩
  obtain ⟨d,m,kvs,U,g,v,rfl,⟨dx,hd,hm⟩,hK,hU50,hN,hg,h9,q⟩:=h
  refine ⟨_,rfl,d,_,g,v,rfl,hd,hg,fun hs H' g1=>?_,fun t et=>?_⟩
  · have:sayP U g=.no 9:=by
      cases g with
      | str t=>cases hs
      | _=>rfl
    rw [this] at q
    exact q H' g1
  subst et
  refine ⟨h9 t rfl,fun hn H' g1=>?_,fun a ds hl p l ys H1 g1 hp hl1 hw=>?_⟩
  · have:sayP U (.str t)=.no 9:=by
      show (match linP t with | none=>SayR.no 9 | some (a,ds)=>sayW U a ds)=_
      rw [hn]
    rw [this] at q
    exact q H' g1
  have e0:sayP U (.str t)=sayW U a ds:=by
    show (match linP t with | none=>SayR.no 9 | some (a,ds)=>sayW U a ds)=_
    rw [hl]
  rw [e0] at q
  clear e0
  have hd1:=g1 _ _ hd
  have hm1:=g1 _ _ hm
  have hK1:=hK.same g1
  have hkl:=hK.len
  have i0:∀ (v:V) r,atI (v :: r) 0=some v:=fun v r=>atI_nat (j:=0) rfl
  have i1:∀ (v x:V) r,atI (v :: x :: r) 1=some x:=fun v x r=>atI_nat (j:=1) rfl
  have i2:∀ (v x y:V) r,atI (v :: x :: y :: r) 2=some y:=fun v x y r=>atI_nat (j:=2) rfl
  have i3:∀ (v x y z:V) r,atI (v :: x :: y :: z :: r) 3=some z:=fun v x y z r=>atI_nat (j:=3) rfl
  unfold sayW at q
  refine ⟨p,_,rfl,.of hp,rfl,_,_,rfl,_,_,rfl,rfl,_,rfl,rfl,_,rfl,?_⟩
  by_cases ek:a="kept"
  · rw [if_pos ek] at q
    rw [yeS ek]
    refine iteT ⟨rfl,_,rfl,d,C,dx,_,_,rfl,hd1,D.cls,D.na,rfl,m,kvs,U.map (·.1),rfl,hm1,hK.keys,by rw [List.length_map];lia,fun Dd ms H2 hpm hpw g2 hD=>?_⟩
    refine ⟨_,Dd,ms,rfl,rfl,.of hD,?_,?_⟩
    · have hs:(ms.map fun y=>y.length).sum <= 8 * ms.length:=sum_lens fun y hy=>by
        obtain ⟨r,hr',rfl⟩:=List.mem_map.mp (hpm.mem_iff.mp hy)
        exact hN r hr'
      have hml:ms.length=U.length:=by rw [hpm.length_eq,List.length_map]
      have:(" ":Str).length=1:=by decide +kernel
      rw [this]
      lia
    · rw [srtS_of hpm hpw]
      exact q H2 (g1.trans g2)
  rw [if_neg ek] at q
  rw [neS ek]
  refine iteF ⟨_,rfl,rfl,_,rfl,?_⟩
  cases hna:nameA ds with
  | none=>rw [hna] at q;exact q.elim
  | some xr =>
  obtain ⟨x,r⟩:=xr
  obtain ⟨vs,ey,hvs⟩:=nameA_v hna hw
  subst ey
  rw [hna] at q
  dsimp only at q
  by_cases eu:a="urn"
  · rw [if_pos eu] at q
    rw [yeS eu]
    cases hua:urnA r with
    | none=>rw [hua] at q;exact q.elim
    | some ns =>
      obtain ⟨b,ey,hb⟩:=urnA_v hua hvs
      subst ey
      rw [hua] at q
      dsimp only at q
      cases hu:urnD 20 (DI ns) with
      | true =>
        rw [if_pos hu] at q
        obtain ⟨hUr,n1,n4⟩:=urnD_urn hu
        refine iteT ⟨_,rfl,d,dx,_,rfl,hd1,rfl,_,rfl,l,_,0,_,rfl,rfl,.of hl1,i0 _ _,_,rfl,l,_,1,_,rfl,rfl,.of hl1,i1 _ _ _,?_⟩
        exact ⟨d,m,kvs,x,b,b + 1,ns,rfl,⟨dx,hd1,hm1⟩,by lia,Dt.mkI (Nat.ne_of_lt (Nat.lt_succ_self b)) hb,n4,fun _ H2 g2=>q b H2 (g1.trans g2) (g2 _ _ hb),fun z=>by rw [hu] at z;cases z⟩
      | false =>
        rw [if_neg (by rw [hu];decide)] at q
        exact q.elim
  rw [if_neg eu] at q
  rw [neS eu]
  refine iteF ⟨_,rfl,d,dx,_,rfl,hd1,rfl,_,rfl,l,_,0,_,rfl,rfl,.of hl1,i0 _ _,d,m,kvs,x,rfl,⟨dx,hd1,hm1⟩,fun u hu=>?_,fun hn H2 g2=>?_⟩
  rotate_left
  · rcases hK.val (x:=x) with ⟨z1,_⟩ | ⟨ns,b,_,z2,_⟩
    · rw [z1] at q
      exact q H2 (g1.trans g2)
    · rw [z2] at hn;cases hn
  rcases hK1.val (x:=x) with ⟨_,z2⟩ | ⟨ns,b,z1,z2,hb,hur⟩
  · rw [z2] at hu;cases hu
  rw [z2] at hu
  cases hu
  rw [z1] at q
  dsimp only at q
  obtain ⟨hUr,n1,n4⟩:=urnD_urn hur
  have hbd:b ≠ d:=fun z=>by rw [z,hd1] at hb;cases hb
  have hdt:Dt d H1 (DI ns) (.ref b):=Dt.mkI hbd hb
  refine ⟨_,rfl,rfl,_,rfl,?_⟩
  by_cases ed:a="draw"
  · rw [if_pos ed] at q
    rw [yeS ed]
    cases hda:drawA r with
    | none=>rw [hda] at q;exact q.elim
    | some rky =>
      obtain ⟨rs,k,y⟩:=rky
      obtain ⟨v2,e2,hv2,ho⟩:=drawA_v hda hvs
      subst e2
      rw [hda] at q
      dsimp only at q
      refine iteT ⟨_,rfl,d,dx,_,rfl,hd1,rfl,_,rfl,l,_,3,_,rfl,rfl,.of hl1,i3 _ _ _ _ _,_,rfl,_,rfl,l,_,1,_,rfl,rfl,.of hl1,i1 _ _ _,_,rfl,l,_,2,_,rfl,rfl,.of hl1,i2 _ _ _ _,?_⟩
      have hlD:lenD (DI ns)=ns.length:=lenD_DI ns
      have hsh:short (DI ns):=short_DI (by lia)
      by_cases hr':ruleD (ns.length:Int) (DR rs)=false
      · rw [if_pos hr'] at q
        exact .inl ⟨d,_,_,_,DI ns,DR rs,.int k,1,rfl,hdt,hsh,hv2,ho,Dt.int _ _ _,.inr (.inl ⟨rfl,hur,by rw [hlD];exact hr'⟩),fun H2 g2=>q H2 (g1.trans g2)⟩
      rw [if_neg hr'] at q
      have hr2:ruleD (ns.length:Int) (DR rs)=true:=by simpa using hr'
      by_cases hk:k < ns.length
      rotate_left
      · rw [if_neg hk] at q
        refine .inl ⟨d,_,_,_,DI ns,DR rs,.int k,2,rfl,hdt,hsh,hv2,ho,Dt.int _ _ _,.inr (.inr ⟨rfl,hur,by rw [hlD];exact hr2,?_⟩),fun H2 g2=>q H2 (g1.trans g2)⟩
        rw [hlD]
        show (decide ((0:Int) <= k) && decide ((k:Int) <= (ns.length:Int) - 1))=false
        rw [decide_eq_false (p:=(k:Int) <= (ns.length:Int) - 1) (by lia),Bool.and_false]
      rw [if_pos hk] at q
      have hR:=ruleD_rul hr2
      refine .inr ⟨d,b,v2,ns.length,k,ns,rs,rfl,hdt,hUr,hv2,hR,n1,n4,hk,fun hz H2 g2=>?_,fun hz b2 H2 g2 hb2=>?_⟩
      · rw [if_pos hz] at q
        exact q H2 (g1.trans g2)
      · rw [if_neg hz] at q
        have hla:(addL ns (rs.getD k [])).length <= 4:=by
          have:=(hR.at hk).len
          unfold addL
          rw [List.length_zipWith]
          lia
        refine ⟨d,m,kvs,y,b2,b2 + 1,_,rfl,⟨dx,g2 _ _ hd1,g2 _ _ hm1⟩,by lia,Dt.mkI (Nat.ne_of_lt (Nat.lt_succ_self b2)) hb2,hla,fun hu H3 g3=>?_,fun hu H3 g3=>?_⟩
        · rw [if_pos hu] at q
          exact q b2 H3 ((g1.trans g2).trans g3) (g3 _ _ hb2)
        · rw [if_neg (by rw [hu];decide)] at q
          exact q H3 ((g1.trans g2).trans g3)
  rw [if_neg ed] at q
  rw [neS ed]
  refine iteF ⟨_,rfl,_,rfl,_,rfl,1,rfl,l,_,rfl,.of hl1,fun pr hpr=>?_⟩
  refine ⟨d,b,pr,ns,a,_,r,rfl,upd_same,?_,(hdt.kp ((Same.new hpr).kp d)),hur,?_⟩
  · have:WdL d H1 r vs:=hvs
    have e:cutV (V.str x :: vs) (some 1) none=vs:=by
      have:=cut_drop (xs:=V.str x :: vs) (y:=1) (by simp)
      exact this
    rw [e]
    exact this.same (Same.new hpr)
  · cases hA:ansP ns a r with
    | no i=>rw [hA] at q;exact fun H2 g2=>q H2 (g1.trans ((Same.new hpr).trans g2))
    | tx t=>rw [hA] at q;exact fun H2 g2=>q H2 (g1.trans ((Same.new hpr).trans g2))
    | put x ns' =>
      exfalso
      unfold ansP at hA
      repeat' split at hA
      all_goals cases hA
    | any=>rw [hA] at q;exact q
end
end G
namespace G
open PySem PySem.Spec PyProof.Rows L2 Mt
noncomputable def U0:List (Str × List Int):=[("a",[3,1]),("b",[0,2]),("o",[20])]
noncomputable def badP:PyData->Bool
  | .str t=>decide (sayP U0 (.str t)=.no 9) && decide (t.length <= 900)
  | _=>true
noncomputable def dueP (t:Str) (i:Nat):Bool:=decide (sayP U0 (.str t)=.no i) && decide (t.length <= 900) && decide (i < 10)
noncomputable def Elg (d:Addr) (Pr:Hp->V->Prop) (te:TE):Prop:=∀ σ (H:Hp) (Q:VK),H d ≠ none->(∀ v H',Same H H'->Pr H' v->Q v H')->te σ H Q
noncomputable def Elgs (d:Addr) (Pr:Hp->V->Prop) (n:Nat) (ta:TA):Prop:=∀ σ (H:Hp) (Q:List V->Hp->Prop),H d ≠ none->(∀ vs H',Same H H'->vs.length=n->(∀ v ∈ vs,Pr H' v)->Q vs H')->ta σ H Q
theorem sameS {H H':Hp} {d:Addr} (g:Same H H') (h:H d ≠ none):H' d ≠ none:=by
  cases e:H d with
  | none=>exact absurd e h
  | some o=>rw [g _ _ e];simp
section
variable {d:Addr} {Pr:Hp->V->Prop} {n k:Nat} {te:TE} {ta:TA} {rest:TS} {D:Ends} {σ:L2.St} {H:Hp}
theorem Elgs.nil:Elgs d Pr 0 tNil:=fun σ H Q _ q=>q [] H (Same.refl H) rfl (by simp)
theorem Elgs.cons (mo:∀ H H' v,Same H H'->Pr H v->Pr H' v) (h1:Elg d Pr te) (h2:Elgs d Pr n ta):Elgs d Pr (n + 1) (tCons te ta):=fun σ H Q hd q =>
  h1 σ H _ hd fun v H1 g1 p1=>h2 σ H1 _ (sameS g1 hd) fun vs H2 g2 l2 p2=>q (v :: vs) H2 (g1.trans g2) (by rw [List.length_cons,l2]) fun x hx=>by
    rcases List.mem_cons.mp hx with e | e
    · rw [e];exact mo _ _ _ g2 p1
    · exact p2 x e
theorem grow0 (hE:Elgs d Pr n ta) (mo:∀ H H' v,Same H H'->Pr H v->Pr H' v) (hd:H d ≠ none) (hn:n <= 1000) (q:∀ p vs H',Same H H'->H' p=some (.lst vs)->(∀ v ∈ vs,Pr H' v)->vs.length=n->rest D (σ.set 1 (some (.ref p))) H'):tSeq (tAsg (tLst ta) (gName 1)) rest D σ H :=
  hE σ H _ hd fun vs H1 g1 l1 p1=>⟨by rw [l1];exact sz hn,fun p hp=>q p vs _ (g1.trans (Same.new hp)) upd_same (fun v hv=>mo _ _ _ (Same.new hp) (p1 v hv)) l1⟩
theorem grow {p:Addr} {vs:List V} (hE:Elgs d Pr n ta) (mo:∀ H H' v,Same H H'->Pr H v->Pr H' v) (hd:H d ≠ none) (hσ:σ[1]?=some (some (.ref p))) (hp:H p=some (.lst vs)) (hv:∀ v ∈ vs,Pr H v) (hl:vs.length=k) (hn:k + n <= 1000)
    (q:∀ p' vs' H',Same H H'->H' p'=some (.lst vs')->(∀ v ∈ vs',Pr H' v)->vs'.length=k + n->rest D (σ.set 1 (some (.ref p'))) H'):tSeq (tAsg (tOp rCat (tVar 1) (tLst ta)) (gName 1)) rest D σ H :=
  ⟨_,hσ,hE σ H _ hd fun ws H1 g1 l1 p1=>⟨by rw [l1];exact sz (by lia),fun r hr=>⟨p,r,vs,ws,rfl,rfl,Same.new hr _ _ (g1 _ _ hp),upd_same,by rw [hl,l1];exact sz hn,fun r2 hr2=>q r2 (vs ++ ws) _ ((g1.trans (Same.new hr)).trans (Same.new hr2)) upd_same (fun v hm=>by
    rcases List.mem_append.mp hm with e | e
    · exact mo _ _ _ ((g1.trans (Same.new hr)).trans (Same.new hr2)) (hv v e)
    · exact mo _ _ _ ((Same.new hr).trans (Same.new hr2)) (p1 v e)) (by rw [List.length_append,hl,l1])⟩⟩⟩
end
noncomputable def BadV (d:Addr) (H:Hp) (v:V):Prop:=∃ g,Dt d H g v/\badP g=true
theorem BadV.mo {d:Addr}:∀ H H' v,Same H H'->BadV d H v->BadV d H' v:=fun H H' v g ⟨x,h,e⟩=>⟨x,h.kp (g.kp d),e⟩
theorem bad_s {d:Addr} {x:Str} (h:badP (.str x)=true):Elg d (BadV d) (tC (.str x)):=fun σ H Q _ q=>q _ H (Same.refl H) ⟨.str x,Dt.str _ _ _,h⟩
theorem bad_n {d:Addr}:Elg d (BadV d) (tC .non):=fun σ H Q _ q=>q _ H (Same.refl H) ⟨.none,Dt.non _ _,rfl⟩
theorem bad_i {d:Addr} {i:Int}:Elg d (BadV d) (tC (.int i)):=fun σ H Q _ q=>q _ H (Same.refl H) ⟨.int i,Dt.int _ _ _,rfl⟩
theorem bad_t {d:Addr} {x:Str}:Elg d (BadV d) (tTup (tCons (tC (.str x)) tNil)):=fun σ H Q hd q=>⟨by show 1 <= sizeLine;decide,fun p hp=>q _ _ (Same.new hp) ⟨.tuple [.str x],Dt.tup (fun z=>hd (z ▸ hp)) upd_same (Dts.cons (Dt.str _ _ _) (Dts.nil _ _)),rfl⟩⟩
theorem bad_l {d:Addr} {x:Str}:Elg d (BadV d) (tLst (tCons (tC (.str x)) tNil)):=fun σ H Q hd q=>⟨by show 1 <= sizeLine;decide,fun p hp=>q _ _ (Same.new hp) ⟨.list [.str x],Dt.lst (fun z=>hd (z ▸ hp)) upd_same (Dts.cons (Dt.str _ _ _) (Dts.nil _ _)),rfl⟩⟩
noncomputable def DueV (H:Hp) (v:V):Prop:=∃ (p:Addr) (t:Str) (i:Nat),v=.ref p/\H p=some (.tup [.str t,.int (i:Int)])/\dueP t i=true
theorem DueV.mo:∀ H H' v,Same H H'->DueV H v->DueV H' v:=fun H H' v g ⟨p,t,i,e,h,z⟩=>⟨p,t,i,e,g _ _ h,z⟩
theorem due_t {d:Addr} {t:Str} {j:Int} (i:Nat) (e:j=(i:Int)) (h:dueP t i=true):Elg d DueV (tTup (tCons (tC (.str t)) (tCons (tC (.int j)) tNil))):=fun σ H Q hd q=>⟨by show 2 <= sizeLine;decide,fun p hp=>q _ _ (Same.new hp) ⟨p,t,i,rfl,by rw [upd_same,e],h⟩⟩
section
variable {P:Program} {w:World} {K:PySem.W.Frag} {mg:Str->Option Value} {base:Heap} {f:Addr} {fd:FuncData} {ec:Nat->Addr} {Bs dl C:Addr} {fL:Str->Option Value}
noncomputable def sp_bad:Sp:=fun vs H Q _=>∃ (d:Addr) (k:Nat),vs=[.int (k:Int)]/\H d ≠ none/\∀ v H',Same H H'->BadV d H' v->Q v H'
noncomputable abbrev s_bad:Stmt:=top 73
theorem sc_bad:FnScope ["_law_k","_law_some"] ["_law_k"] (defScope s_bad):=⟨rfl,rfl,rfl,by decide +kernel,rfl,by decide +kernel,by decide +kernel⟩
theorem ok_bad (F:Fun K "_law_bad" "_law_bad" s_bad f fd) (B:Bt mg):FnOk P w K mg base CX0 1 f fd ["_law_k"] sp_bad:=by
  refine F.ok sc_bad (fun vs H Q E h=>?_) (fun cdv A outer s H vs Q E hr h=>?_)
  · obtain ⟨d,k,rfl,_⟩:=h
    rfl
  obtain ⟨d,k,rfl,hd,q⟩:=h
  refine ⟨_,(@pss_cons _ _ _ _ _ (@ps_set _ _ 1 _ _ _ _ sc_bad.nd rfl (Or.inl rfl) (@pe_lst _ _ _ _ (@pa_cons _ _ _ _ _ pe_str (@pa_cons _ _ _ _ _ pe_str (@pa_cons _ _ _ _ _ pe_str (@pa_cons _ _ _ _ _ pe_str (@pa_cons _ _ _ _ _ pe_str (@pa_cons _ _ _ _ _ pe_str (@pa_cons _ _ _ _ _ pe_str (@pa_cons _ _ _ _ _ pe_str (@pa_cons _ _ _ _ _ pe_str (@pa_cons _ _ _ _ _ pe_str (@pa_cons _ _ _ _ _ pe_str pa_nil (by rfl)) (by rfl)) (by rfl)) (by rfl)) (by rfl)) (by rfl)) (by rfl)) (by rfl)) (by rfl)) (by rfl)) (by rfl))) (by rfl) (by first | exact .inl rfl | exact .inr rfl))
    (@pss_cons _ _ _ _ _ (@ps_set _ _ 1 _ _ _ _ sc_bad.nd rfl (Or.inl rfl) (@pe_op _ _ _ _ _ _ _ _ op_cat (pv 1) (@pe_lst _ _ _ _ (@pa_cons _ _ _ _ _ pe_str (@pa_cons _ _ _ _ _ pe_str (@pa_cons _ _ _ _ _ pe_str (@pa_cons _ _ _ _ _ pe_str (@pa_cons _ _ _ _ _ pe_str (@pa_cons _ _ _ _ _ pe_str (@pa_cons _ _ _ _ _ pe_str (@pa_cons _ _ _ _ _ pe_str (@pa_cons _ _ _ _ _ pe_str pa_nil (by rfl)) (by rfl)) (by rfl)) (by rfl)) (by rfl)) (by rfl)) (by rfl)) (by rfl)) (by rfl)))) (by rfl) (by first | exact .inl rfl | exact .inr rfl))
    (@pss_cons _ _ _ _ _ (@ps_set _ _ 1 _ _ _ _ sc_bad.nd rfl (Or.inl rfl) (@pe_op _ _ _ _ _ _ _ _ op_cat (pv 1) (@pe_lst _ _ _ _ (@pa_cons _ _ _ _ _ pe_str (@pa_cons _ _ _ _ _ pe_str (@pa_cons _ _ _ _ _ pe_str (@pa_cons _ _ _ _ _ pe_str (@pa_cons _ _ _ _ _ pe_str (@pa_cons _ _ _ _ _ pe_str (@pa_cons _ _ _ _ _ pe_str pa_nil (by rfl)) (by rfl)) (by rfl)) (by rfl)) (by rfl)) (by rfl)) (by rfl)))) (by rfl) (by first | exact .inl rfl | exact .inr rfl))
    (@pss_cons _ _ _ _ _ (@ps_set _ _ 1 _ _ _ _ sc_bad.nd rfl (Or.inl rfl) (@pe_op _ _ _ _ _ _ _ _ op_cat (pv 1) (@pe_lst _ _ _ _ (@pa_cons _ _ _ _ _ pe_str (@pa_cons _ _ _ _ _ pe_str (@pa_cons _ _ _ _ _ pe_str (@pa_cons _ _ _ _ _ pe_str pa_nil (by rfl)) (by rfl)) (by rfl)) (by rfl)))) (by rfl) (by first | exact .inl rfl | exact .inr rfl))
    (@pss_cons _ _ _ _ _ (@ps_set _ _ 1 _ _ _ _ sc_bad.nd rfl (Or.inl rfl) (@pe_op _ _ _ _ _ _ _ _ op_cat (pv 1) (@pe_lst _ _ _ _ (@pa_cons _ _ _ _ _ pe_str (@pa_cons _ _ _ _ _ pe_str (@pa_cons _ _ _ _ _ pe_str (@pa_cons _ _ _ _ _ pe_str (@pa_cons _ _ _ _ _ pe_str pa_nil (by rfl)) (by rfl)) (by rfl)) (by rfl)) (by rfl)))) (by rfl) (by first | exact .inl rfl | exact .inr rfl))
    (@pss_cons _ _ _ _ _ (@ps_set _ _ 1 _ _ _ _ sc_bad.nd rfl (Or.inl rfl) (@pe_op _ _ _ _ _ _ _ _ op_cat (pv 1) (@pe_lst _ _ _ _ (@pa_cons _ _ _ _ _ pe_str (@pa_cons _ _ _ _ _ pe_str (@pa_cons _ _ _ _ _ pe_str (@pa_cons _ _ _ _ _ pe_str (@pa_cons _ _ _ _ _ pe_str pa_nil (by rfl)) (by rfl)) (by rfl)) (by rfl)) (by rfl)))) (by rfl) (by first | exact .inl rfl | exact .inr rfl))
    (@pss_cons _ _ _ _ _ (@ps_set _ _ 1 _ _ _ _ sc_bad.nd rfl (Or.inl rfl) (@pe_op _ _ _ _ _ _ _ _ op_cat (pv 1) (@pe_lst _ _ _ _ (@pa_cons _ _ _ _ _ pe_str (@pa_cons _ _ _ _ _ pe_str (@pa_cons _ _ _ _ _ pe_str (@pa_cons _ _ _ _ _ pe_str (@pa_cons _ _ _ _ _ pe_str (@pa_cons _ _ _ _ _ pe_str pa_nil (by rfl)) (by rfl)) (by rfl)) (by rfl)) (by rfl)) (by rfl)))) (by rfl) (by first | exact .inl rfl | exact .inr rfl))
    (@pss_cons _ _ _ _ _ (@ps_set _ _ 1 _ _ _ _ sc_bad.nd rfl (Or.inl rfl) (@pe_op _ _ _ _ _ _ _ _ op_cat (pv 1) (@pe_lst _ _ _ _ (@pa_cons _ _ _ _ _ pe_str (@pa_cons _ _ _ _ _ pe_str (@pa_cons _ _ _ _ _ pe_str (@pa_cons _ _ _ _ _ pe_str (@pa_cons _ _ _ _ _ pe_str pa_nil (by rfl)) (by rfl)) (by rfl)) (by rfl)) (by rfl)))) (by rfl) (by first | exact .inl rfl | exact .inr rfl))
    (@pss_cons _ _ _ _ _ (@ps_set _ _ 1 _ _ _ _ sc_bad.nd rfl (Or.inl rfl) (@pe_op _ _ _ _ _ _ _ _ op_cat (pv 1) (@pe_lst _ _ _ _ (@pa_cons _ _ _ _ _ pe_str (@pa_cons _ _ _ _ _ pe_str (@pa_cons _ _ _ _ _ pe_str (@pa_cons _ _ _ _ _ pe_str (@pa_cons _ _ _ _ _ pe_str (@pa_cons _ _ _ _ _ pe_non (@pa_cons _ _ _ _ _ pe_int (@pa_cons _ _ _ _ _ (@pe_tup _ _ _ _ _ (@pa_cons _ _ _ _ _ pe_str pa_nil (by rfl))) (@pa_cons _ _ _ _ _ (@pe_lst _ _ _ _ (@pa_cons _ _ _ _ _ pe_str pa_nil (by rfl))) pa_nil (by rfl)) (by rfl)) (by rfl)) (by rfl)) (by rfl)) (by rfl)) (by rfl)) (by rfl)) (by rfl)))) (by rfl) (by first | exact .inl rfl | exact .inr rfl))
    (@pss_one _ _ _ (ps_ret (@pe_ix _ _ _ _ _ _ _ ix_list (pv 1) (@pe_op _ _ _ _ _ _ _ _ op_mod (pv 0) (pe_callB call_len_seq rfl B.len PySem.boot_len (@pa_cons _ _ _ _ _ (pv 1) pa_nil (by rfl)))) (fun _ _=>rfl))))))))))))),?_⟩
  refine grow0 (d:=d) (n:=11) (Pr:=BadV d) (Elgs.cons BadV.mo (bad_s (by decide +kernel)) (Elgs.cons BadV.mo (bad_s (by decide +kernel)) (Elgs.cons BadV.mo (bad_s (by decide +kernel)) (Elgs.cons BadV.mo (bad_s (by decide +kernel)) (Elgs.cons BadV.mo (bad_s (by decide +kernel)) (Elgs.cons BadV.mo (bad_s (by decide +kernel)) (Elgs.cons BadV.mo (bad_s (by decide +kernel)) (Elgs.cons BadV.mo (bad_s (by decide +kernel)) (Elgs.cons BadV.mo (bad_s (by decide +kernel)) (Elgs.cons BadV.mo (bad_s (by decide +kernel)) (Elgs.cons BadV.mo (bad_s (by decide +kernel)) Elgs.nil))))))))))) BadV.mo hd (by decide) fun p0 v0 H0 g0 h0 b0 l0=>?_
  have G0:=g0
  refine grow (d:=d) (n:=9) (k:=11) (Pr:=BadV d) (Elgs.cons BadV.mo (bad_s (by decide +kernel)) (Elgs.cons BadV.mo (bad_s (by decide +kernel)) (Elgs.cons BadV.mo (bad_s (by decide +kernel)) (Elgs.cons BadV.mo (bad_s (by decide +kernel)) (Elgs.cons BadV.mo (bad_s (by decide +kernel)) (Elgs.cons BadV.mo (bad_s (by decide +kernel)) (Elgs.cons BadV.mo (bad_s (by decide +kernel)) (Elgs.cons BadV.mo (bad_s (by decide +kernel)) (Elgs.cons BadV.mo (bad_s (by decide +kernel)) Elgs.nil))))))))) BadV.mo (sameS G0 hd) rfl h0 b0 l0 (by decide) fun p1 v1 H1 g1 h1 b1 l1=>?_
  have G1:=G0.trans g1
  refine grow (d:=d) (n:=7) (k:=20) (Pr:=BadV d) (Elgs.cons BadV.mo (bad_s (by decide +kernel)) (Elgs.cons BadV.mo (bad_s (by decide +kernel)) (Elgs.cons BadV.mo (bad_s (by decide +kernel)) (Elgs.cons BadV.mo (bad_s (by decide +kernel)) (Elgs.cons BadV.mo (bad_s (by decide +kernel)) (Elgs.cons BadV.mo (bad_s (by decide +kernel)) (Elgs.cons BadV.mo (bad_s (by decide +kernel)) Elgs.nil))))))) BadV.mo (sameS G1 hd) rfl h1 b1 l1 (by decide) fun p2 v2 H2 g2 h2 b2 l2=>?_
  have G2:=G1.trans g2
  refine grow (d:=d) (n:=4) (k:=27) (Pr:=BadV d) (Elgs.cons BadV.mo (bad_s (by decide +kernel)) (Elgs.cons BadV.mo (bad_s (by decide +kernel)) (Elgs.cons BadV.mo (bad_s (by decide +kernel)) (Elgs.cons BadV.mo (bad_s (by decide +kernel)) Elgs.nil)))) BadV.mo (sameS G2 hd) rfl h2 b2 l2 (by decide) fun p3 v3 H3 g3 h3 b3 l3=>?_
  have G3:=G2.trans g3
  refine grow (d:=d) (n:=5) (k:=31) (Pr:=BadV d) (Elgs.cons BadV.mo (bad_s (by decide +kernel)) (Elgs.cons BadV.mo (bad_s (by decide +kernel)) (Elgs.cons BadV.mo (bad_s (by decide +kernel)) (Elgs.cons BadV.mo (bad_s (by decide +kernel)) (Elgs.cons BadV.mo (bad_s (by decide +kernel)) Elgs.nil))))) BadV.mo (sameS G3 hd) rfl h3 b3 l3 (by decide) fun p4 v4 H4 g4 h4 b4 l4=>?_
  have G4:=G3.trans g4
  refine grow (d:=d) (n:=5) (k:=36) (Pr:=BadV d) (Elgs.cons BadV.mo (bad_s (by decide +kernel)) (Elgs.cons BadV.mo (bad_s (by decide +kernel)) (Elgs.cons BadV.mo (bad_s (by decide +kernel)) (Elgs.cons BadV.mo (bad_s (by decide +kernel)) (Elgs.cons BadV.mo (bad_s (by decide +kernel)) Elgs.nil))))) BadV.mo (sameS G4 hd) rfl h4 b4 l4 (by decide) fun p5 v5 H5 g5 h5 b5 l5=>?_
  have G5:=G4.trans g5
  refine grow (d:=d) (n:=6) (k:=41) (Pr:=BadV d) (Elgs.cons BadV.mo (bad_s (by decide +kernel)) (Elgs.cons BadV.mo (bad_s (by decide +kernel)) (Elgs.cons BadV.mo (bad_s (by decide +kernel)) (Elgs.cons BadV.mo (bad_s (by decide +kernel)) (Elgs.cons BadV.mo (bad_s (by decide +kernel)) (Elgs.cons BadV.mo (bad_s (by decide +kernel)) Elgs.nil)))))) BadV.mo (sameS G5 hd) rfl h5 b5 l5 (by decide) fun p6 v6 H6 g6 h6 b6 l6=>?_
  have G6:=G5.trans g6
  refine grow (d:=d) (n:=5) (k:=47) (Pr:=BadV d) (Elgs.cons BadV.mo (bad_s (by decide +kernel)) (Elgs.cons BadV.mo (bad_s (by decide +kernel)) (Elgs.cons BadV.mo (bad_s (by decide +kernel)) (Elgs.cons BadV.mo (bad_s (by decide +kernel)) (Elgs.cons BadV.mo (bad_s (by decide +kernel)) Elgs.nil))))) BadV.mo (sameS G6 hd) rfl h6 b6 l6 (by decide) fun p7 v7 H7 g7 h7 b7 l7=>?_
  have G7:=G6.trans g7
  refine grow (d:=d) (n:=9) (k:=52) (Pr:=BadV d) (Elgs.cons BadV.mo (bad_s (by decide +kernel)) (Elgs.cons BadV.mo (bad_s (by decide +kernel)) (Elgs.cons BadV.mo (bad_s (by decide +kernel)) (Elgs.cons BadV.mo (bad_s (by decide +kernel)) (Elgs.cons BadV.mo (bad_s (by decide +kernel)) (Elgs.cons BadV.mo bad_n (Elgs.cons BadV.mo bad_i (Elgs.cons BadV.mo bad_t (Elgs.cons BadV.mo bad_l Elgs.nil))))))))) BadV.mo (sameS G7 hd) rfl h7 b7 l7 (by decide) fun p8 v8 H8 g8 h8 b8 l8=>?_
  have G8:=G7.trans g8
  have hix:((k:Int) % (v8.length:Int))=((k % v8.length:Nat):Int):=by lia
  have hlt:k % v8.length < v8.length:=Nat.mod_lt _ (by rw [l8];decide)
  obtain ⟨x,hx⟩:∃ x,v8[k % v8.length]?=some x:=⟨_,List.getElem?_eq_getElem hlt⟩
  refine ⟨_,rfl,_,rfl,_,rfl,p8,_,rfl,.inl (.of h8),_,_,rfl,rfl,(by show (0:Int) < (v8.length:Int);rw [l8];decide),?_⟩
  exact ⟨p8,v8,_,x,rfl,rfl,.of h8,by rw [hix];exact atI_nat hx,q x _ G8 (b8 x (List.mem_of_getElem? hx))⟩
noncomputable def sp_due:Sp:=fun vs H Q _=>∃ (d:Addr) (k:Nat),vs=[.int (k:Int)]/\H d ≠ none/\∀ v H',Same H H'->DueV H' v->Q v H'
noncomputable abbrev s_due:Stmt:=top 74
theorem sc_due:FnScope ["_law_k","_law_some"] ["_law_k"] (defScope s_due):=⟨rfl,rfl,rfl,by decide +kernel,rfl,by decide +kernel,by decide +kernel⟩
theorem ok_due (F:Fun K "_law_due" "_law_due" s_due f fd) (B:Bt mg):FnOk P w K mg base CX0 1 f fd ["_law_k"] sp_due:=by
  refine F.ok sc_due (fun vs H Q E h=>?_) (fun cdv A outer s H vs Q E hr h=>?_)
  · obtain ⟨d,k,rfl,_⟩:=h
    rfl
  obtain ⟨d,k,rfl,hd,q⟩:=h
  refine ⟨_,(@pss_cons _ _ _ _ _ (@ps_set _ _ 1 _ _ _ _ sc_due.nd rfl (Or.inl rfl) (@pe_lst _ _ _ _ (@pa_cons _ _ _ _ _ (@pe_tup _ _ _ _ _ (@pa_cons _ _ _ _ _ pe_str (@pa_cons _ _ _ _ _ pe_int pa_nil (by rfl)) (by rfl))) (@pa_cons _ _ _ _ _ (@pe_tup _ _ _ _ _ (@pa_cons _ _ _ _ _ pe_str (@pa_cons _ _ _ _ _ pe_int pa_nil (by rfl)) (by rfl))) (@pa_cons _ _ _ _ _ (@pe_tup _ _ _ _ _ (@pa_cons _ _ _ _ _ pe_str (@pa_cons _ _ _ _ _ pe_int pa_nil (by rfl)) (by rfl))) (@pa_cons _ _ _ _ _ (@pe_tup _ _ _ _ _ (@pa_cons _ _ _ _ _ pe_str (@pa_cons _ _ _ _ _ pe_int pa_nil (by rfl)) (by rfl))) (@pa_cons _ _ _ _ _ (@pe_tup _ _ _ _ _ (@pa_cons _ _ _ _ _ pe_str (@pa_cons _ _ _ _ _ pe_int pa_nil (by rfl)) (by rfl))) pa_nil (by rfl)) (by rfl)) (by rfl)) (by rfl)) (by rfl))) (by rfl) (by first | exact .inl rfl | exact .inr rfl))
    (@pss_cons _ _ _ _ _ (@ps_set _ _ 1 _ _ _ _ sc_due.nd rfl (Or.inl rfl) (@pe_op _ _ _ _ _ _ _ _ op_cat (pv 1) (@pe_lst _ _ _ _ (@pa_cons _ _ _ _ _ (@pe_tup _ _ _ _ _ (@pa_cons _ _ _ _ _ pe_str (@pa_cons _ _ _ _ _ pe_int pa_nil (by rfl)) (by rfl))) (@pa_cons _ _ _ _ _ (@pe_tup _ _ _ _ _ (@pa_cons _ _ _ _ _ pe_str (@pa_cons _ _ _ _ _ pe_int pa_nil (by rfl)) (by rfl))) (@pa_cons _ _ _ _ _ (@pe_tup _ _ _ _ _ (@pa_cons _ _ _ _ _ pe_str (@pa_cons _ _ _ _ _ pe_int pa_nil (by rfl)) (by rfl))) (@pa_cons _ _ _ _ _ (@pe_tup _ _ _ _ _ (@pa_cons _ _ _ _ _ pe_str (@pa_cons _ _ _ _ _ pe_int pa_nil (by rfl)) (by rfl))) (@pa_cons _ _ _ _ _ (@pe_tup _ _ _ _ _ (@pa_cons _ _ _ _ _ pe_str (@pa_cons _ _ _ _ _ pe_int pa_nil (by rfl)) (by rfl))) pa_nil (by rfl)) (by rfl)) (by rfl)) (by rfl)) (by rfl)))) (by rfl) (by first | exact .inl rfl | exact .inr rfl))
    (@pss_cons _ _ _ _ _ (@ps_set _ _ 1 _ _ _ _ sc_due.nd rfl (Or.inl rfl) (@pe_op _ _ _ _ _ _ _ _ op_cat (pv 1) (@pe_lst _ _ _ _ (@pa_cons _ _ _ _ _ (@pe_tup _ _ _ _ _ (@pa_cons _ _ _ _ _ pe_str (@pa_cons _ _ _ _ _ pe_int pa_nil (by rfl)) (by rfl))) (@pa_cons _ _ _ _ _ (@pe_tup _ _ _ _ _ (@pa_cons _ _ _ _ _ pe_str (@pa_cons _ _ _ _ _ pe_int pa_nil (by rfl)) (by rfl))) (@pa_cons _ _ _ _ _ (@pe_tup _ _ _ _ _ (@pa_cons _ _ _ _ _ pe_str (@pa_cons _ _ _ _ _ pe_int pa_nil (by rfl)) (by rfl))) (@pa_cons _ _ _ _ _ (@pe_tup _ _ _ _ _ (@pa_cons _ _ _ _ _ pe_str (@pa_cons _ _ _ _ _ pe_int pa_nil (by rfl)) (by rfl))) pa_nil (by rfl)) (by rfl)) (by rfl)) (by rfl)))) (by rfl) (by first | exact .inl rfl | exact .inr rfl))
    (@pss_cons _ _ _ _ _ (@ps_set _ _ 1 _ _ _ _ sc_due.nd rfl (Or.inl rfl) (@pe_op _ _ _ _ _ _ _ _ op_cat (pv 1) (@pe_lst _ _ _ _ (@pa_cons _ _ _ _ _ (@pe_tup _ _ _ _ _ (@pa_cons _ _ _ _ _ pe_str (@pa_cons _ _ _ _ _ pe_int pa_nil (by rfl)) (by rfl))) (@pa_cons _ _ _ _ _ (@pe_tup _ _ _ _ _ (@pa_cons _ _ _ _ _ pe_str (@pa_cons _ _ _ _ _ pe_int pa_nil (by rfl)) (by rfl))) (@pa_cons _ _ _ _ _ (@pe_tup _ _ _ _ _ (@pa_cons _ _ _ _ _ pe_str (@pa_cons _ _ _ _ _ pe_int pa_nil (by rfl)) (by rfl))) (@pa_cons _ _ _ _ _ (@pe_tup _ _ _ _ _ (@pa_cons _ _ _ _ _ pe_str (@pa_cons _ _ _ _ _ pe_int pa_nil (by rfl)) (by rfl))) pa_nil (by rfl)) (by rfl)) (by rfl)) (by rfl)))) (by rfl) (by first | exact .inl rfl | exact .inr rfl))
    (@pss_cons _ _ _ _ _ (@ps_set _ _ 1 _ _ _ _ sc_due.nd rfl (Or.inl rfl) (@pe_op _ _ _ _ _ _ _ _ op_cat (pv 1) (@pe_lst _ _ _ _ (@pa_cons _ _ _ _ _ (@pe_tup _ _ _ _ _ (@pa_cons _ _ _ _ _ pe_str (@pa_cons _ _ _ _ _ pe_int pa_nil (by rfl)) (by rfl))) (@pa_cons _ _ _ _ _ (@pe_tup _ _ _ _ _ (@pa_cons _ _ _ _ _ pe_str (@pa_cons _ _ _ _ _ pe_int pa_nil (by rfl)) (by rfl))) (@pa_cons _ _ _ _ _ (@pe_tup _ _ _ _ _ (@pa_cons _ _ _ _ _ pe_str (@pa_cons _ _ _ _ _ pe_int pa_nil (by rfl)) (by rfl))) pa_nil (by rfl)) (by rfl)) (by rfl)))) (by rfl) (by first | exact .inl rfl | exact .inr rfl))
    (@pss_one _ _ _ (ps_ret (@pe_ix _ _ _ _ _ _ _ ix_list (pv 1) (@pe_op _ _ _ _ _ _ _ _ op_mod (pv 0) (pe_callB call_len_seq rfl B.len PySem.boot_len (@pa_cons _ _ _ _ _ (pv 1) pa_nil (by rfl)))) (fun _ _=>rfl))))))))),?_⟩
  refine grow0 (d:=d) (n:=5) (Pr:=DueV) (Elgs.cons DueV.mo (due_t 0 rfl (by decide +kernel)) (Elgs.cons DueV.mo (due_t 0 rfl (by decide +kernel)) (Elgs.cons DueV.mo (due_t 0 rfl (by decide +kernel)) (Elgs.cons DueV.mo (due_t 0 rfl (by decide +kernel)) (Elgs.cons DueV.mo (due_t 0 rfl (by decide +kernel)) Elgs.nil))))) DueV.mo hd (by decide) fun p0 v0 H0 g0 h0 b0 l0=>?_
  have G0:=g0
  refine grow (d:=d) (n:=5) (k:=5) (Pr:=DueV) (Elgs.cons DueV.mo (due_t 0 rfl (by decide +kernel)) (Elgs.cons DueV.mo (due_t 0 rfl (by decide +kernel)) (Elgs.cons DueV.mo (due_t 1 rfl (by decide +kernel)) (Elgs.cons DueV.mo (due_t 1 rfl (by decide +kernel)) (Elgs.cons DueV.mo (due_t 1 rfl (by decide +kernel)) Elgs.nil))))) DueV.mo (sameS G0 hd) rfl h0 b0 l0 (by decide) fun p1 v1 H1 g1 h1 b1 l1=>?_
  have G1:=G0.trans g1
  refine grow (d:=d) (n:=4) (k:=10) (Pr:=DueV) (Elgs.cons DueV.mo (due_t 1 rfl (by decide +kernel)) (Elgs.cons DueV.mo (due_t 1 rfl (by decide +kernel)) (Elgs.cons DueV.mo (due_t 1 rfl (by decide +kernel)) (Elgs.cons DueV.mo (due_t 2 rfl (by decide +kernel)) Elgs.nil)))) DueV.mo (sameS G1 hd) rfl h1 b1 l1 (by decide) fun p2 v2 H2 g2 h2 b2 l2=>?_
  have G2:=G1.trans g2
  refine grow (d:=d) (n:=4) (k:=14) (Pr:=DueV) (Elgs.cons DueV.mo (due_t 2 rfl (by decide +kernel)) (Elgs.cons DueV.mo (due_t 2 rfl (by decide +kernel)) (Elgs.cons DueV.mo (due_t 2 rfl (by decide +kernel)) (Elgs.cons DueV.mo (due_t 3 rfl (by decide +kernel)) Elgs.nil)))) DueV.mo (sameS G2 hd) rfl h2 b2 l2 (by decide) fun p3 v3 H3 g3 h3 b3 l3=>?_
  have G3:=G2.trans g3
  refine grow (d:=d) (n:=3) (k:=18) (Pr:=DueV) (Elgs.cons DueV.mo (due_t 5 rfl (by decide +kernel)) (Elgs.cons DueV.mo (due_t 5 rfl (by decide +kernel)) (Elgs.cons DueV.mo (due_t 5 rfl (by decide +kernel)) Elgs.nil))) DueV.mo (sameS G3 hd) rfl h3 b3 l3 (by decide) fun p4 v4 H4 g4 h4 b4 l4=>?_
  have G4:=G3.trans g4
  have hix:((k:Int) % (v4.length:Int))=((k % v4.length:Nat):Int):=by lia
  have hlt:k % v4.length < v4.length:=Nat.mod_lt _ (by rw [l4];decide)
  obtain ⟨x,hx⟩:∃ x,v4[k % v4.length]?=some x:=⟨_,List.getElem?_eq_getElem hlt⟩
  refine ⟨_,rfl,_,rfl,_,rfl,p4,_,rfl,.inl (.of h4),_,_,rfl,rfl,(by show (0:Int) < (v4.length:Int);rw [l4];decide),?_⟩
  exact ⟨p4,v4,_,x,rfl,rfl,.of h4,by rw [hix];exact atI_nat hx,q x _ G4 (b4 x (List.mem_of_getElem? hx))⟩
end
end G
set_option maxHeartbeats 8000000
namespace G
open PySem PySem.Spec PyProof.Rows L2 Mt
noncomputable abbrev lq:Str:=(("law":Str) ++ ".<locals>.") ++ "<lambda>"
noncomputable def LamAt (X:Cx) (params:Arguments) (body:Expr) (scope:Scope) (H:Hp) (f:Addr):Prop:=∃ c ctv,H f=some (KN (lamO X params body scope c ctv))/\CodeK (lamQ X) H c
section
variable {X:Cx} {params:Arguments} {body:Expr} {scope:Scope} {H H':Hp} {f0 T p:Addr}
theorem lam_ref {σ:L2.St} {Hf:Hp} {N:List Str} {ix:List (Option Nat)} {k i0:Nat} {c:Nat->Addr} {Q:VK}
    (Zc:Clo X) (fz:FrzX X σ H Hf) (hL:LamAt X params body scope H f0) (hfr:okFree scope X.env=true) (k1:scope.kind=.function) (k2:scope.isCoroutine=false) (k3:scope.isGenerator=false) (k4:∀ x ∈ scope.names,x.2 ≠ .cell) (hx:okIx scope X.N N ix=true) (hi:i0 < 10)
    (hba:∀ c0 ctv,bindArgs (PySem.W.kla_fn "<lambda>" (lamQ X) params body scope (closL X.env scope.names []) ((X.mg "__name__").getD .none) (.ref c0) ctv) ⟨[],[]⟩=pure [])
    (hrun:∀ (c0:Addr) (A':Around) (outer':List Env) (s':Shared) (E1:XK) (Q1:VK),Room k (A'.deeper (PySem.W.envX (lamQ X) scope s'.heap.objs.size f0 (.ref c0) (closL X.env scope.names [])))->Same H (offC (closL X.env scope.names []) Hf)->(∀ H'',Same (offC (closL X.env scope.names []) Hf) H''->E1 (.ref (c i0)) none H'') ->
      ∃ t,PE (cxLam X.prog X.w X.K X.mg X.base N (lamQ X) scope f0 (.ref c0) (closL X.env scope.names []) A' outer' s' (offC (closL X.env scope.names []) Hf) E1) body t/\t (pick ix σ) (offC (closL X.env scope.names []) Hf) Q1)
    (q:∀ H',Same Hf H'->Q (.int i0) H'):sp_refused X.prog X.w X.K X.mg X.base (k + 1) c [.ref f0] Hf Q E0:=by
  obtain ⟨c0,ctv,hf0,oc,ovs,ot,hoc,hod1,hod2⟩:=hL
  refine ⟨f0,spLam X.prog X.w X.K X.mg X.base k f0 c0 _ _ _ _ _ _ _ _ N,_,_,some i0,rfl,fz.same _ _ hf0,rfl,hba c0 ctv,fnL (Zc.lsc hfr k1 k2 k3 k4) (fun _ _ _ _ h=>h),(fun i' e=>by cases e;exact hi),fun Q' E' ho=>?_,q⟩
  refine ⟨rfl,fz.same _ _ hf0,⟨oc,ovs,ot,fz.same _ _ hoc,hod1,hod2⟩,Zc.celk hfr fz,_,Zc.st hfr fz hx,fun A' outer' s' hr'=>?_⟩
  exact hrun c0 A' outer' s' _ _ hr' (fz.inner Zc hfr) fun H'' g=>ho _ (on_same g)
end
mutual
theorem Dt_keep {l T:Addr} {H H':Hp} {ps:Array Value} (hT:H T=some (.tbl ps)) (k:Kp T H H'):∀ {d:PyData} {v:V},Dt l H d v->Dt l H' d v
  | .none,_,h=>by unfold Dt at h ⊢;exact h
  | .bool _,_,h=>by unfold Dt at h ⊢;exact h
  | .int _,_,h=>by unfold Dt at h ⊢;exact h
  | .str _,_,h=>by unfold Dt at h ⊢;exact h
  | .tuple ds,_,h=>by
    unfold Dt at h ⊢
    obtain ⟨a,xs,e,n,q,r⟩:=h
    exact ⟨a,xs,e,n,k _ _ (fun z=>by rw [z,hT] at q;cases q) q,Dts_keep hT k r⟩
  | .list ds,_,h=>by
    unfold Dt at h ⊢
    obtain ⟨a,xs,e,n,q,r⟩:=h
    exact ⟨a,xs,e,n,k _ _ (fun z=>by rw [z,hT] at q;cases q) q,Dts_keep hT k r⟩
  | .dict kvs,_,h=>by
    unfold Dt at h ⊢
    obtain ⟨z,a,e,n,q⟩:=h
    exact ⟨z,a,e,n,k _ _ (fun z=>by rw [z,hT] at q;cases q) q⟩
theorem Dts_keep {l T:Addr} {H H':Hp} {ps:Array Value} (hT:H T=some (.tbl ps)) (k:Kp T H H'):∀ {ds:List PyData} {xs:List V},Dts l H ds xs->Dts l H' ds xs
  | [],_,h=>by unfold Dts at h ⊢;exact h
  | d :: ds,_,h=>by
    unfold Dts at h ⊢
    obtain ⟨x,r,e,q1,q2⟩:=h
    exact ⟨x,r,e,Dt_keep hT k q1,Dts_keep hT k q2⟩
end
theorem KU.any {H:Hp} {x:Str}:∀ {U:List (Str × List Int)} {kvs:List (Key × V)},KU H U kvs->(kvs.any fun kv=>decide (kv.1=Sum.inr x))=U.any fun r=>decide (r.1=x)
  | [],kvs,h=>by rw [show kvs=[] from h];rfl
  | (y,ns) :: U,_,⟨a,r,e,_,_,h3⟩=>by
    rw [e,List.any_cons,List.any_cons,KU.any h3]
    congr 1
    exact decide_eq_decide.mpr ⟨fun z=>by injection z,fun z=>by rw [show y=x from z]⟩
theorem KU.snoc {H:Hp} {x:Str} {a:Addr} {ns:List Int} (ha:H a=some (.tup (ns.map V.int))) (hu:urnD 20 (DI ns)=true):∀ {U:List (Str × List Int)} {kvs:List (Key × V)},KU H U kvs->KU H (U ++ [(x,ns)]) (kvs ++ [(Sum.inr x,.ref a)])
  | [],kvs,h=>by rw [show kvs=[] from h];exact ⟨a,[],rfl,ha,hu,rfl⟩
  | (y,ms) :: U,_,⟨b,r,e,h1,h2,h3⟩=>by rw [e];exact ⟨b,_,rfl,h1,h2,KU.snoc ha hu h3⟩
theorem KU.put {H:Hp} {x:Str} {a:Addr} {ns:List Int} {U:List (Str × List Int)} {kvs:List (Key × V)} (h:KU H U kvs) (hn:(U.any fun r=>decide (r.1=x))=false) (ha:H a=some (.tup (ns.map V.int))) (hu:urnD 20 (DI ns)=true):KU H (U ++ [(x,ns)]) (putK kvs (Sum.inr x) (.ref a)):=by
  unfold putK
  rw [h.any,hn]
  exact h.snoc ha hu
theorem KU.but {H:Hp} {m:Addr} {o:HO} (hm:∀ xs,H m ≠ some (.tup xs)):∀ {U:List (Str × List Int)} {kvs:List (Key × V)},KU H U kvs->KU (upd H m o) U kvs
  | [],_,h=>h
  | (_,_) :: _,_,⟨a,r,e,h1,h2,h3⟩=>⟨a,r,e,by rw [upd_ne (fun z=>hm _ (z ▸ h1))];exact h1,h2,KU.but hm h3⟩
theorem KU.kpT {H H':Hp} {T:Addr} {ps:Array Value} (hT:H T=some (.tbl ps)) (k:Kp T H H'):∀ {U:List (Str × List Int)} {kvs:List (Key × V)},KU H U kvs->KU H' U kvs
  | [],_,h=>h
  | (_,_) :: _,_,⟨a,r,e,h1,h2,h3⟩=>⟨a,r,e,k _ _ (fun z=>by rw [z,hT] at h1;cases h1) h1,h2,KU.kpT hT k h3⟩
theorem ctab_upd {q:Str} {T m:Addr} {H:Hp} {k:List (Key × V)} {o:HO} (h:CTab q T H) (hm:H m=some (.dK k)):CTab q T (upd H m o):=by
  obtain ⟨qs,h1,h2,h3⟩:=h
  refine ⟨qs,by rw [upd_ne (fun z=>by rw [z,hm] at h1;cases h1)];exact h1,h2,fun pos v e=>?_⟩
  obtain ⟨c,oc,vs,t,e1,e2,e3,e4⟩:=h3 pos v e
  exact ⟨c,oc,vs,t,e1,by rw [upd_ne (fun z=>by rw [z,hm] at e2;cases e2)];exact e2,e3,e4⟩
theorem SqL_upd {K:PySem.W.Frag} {m a:Addr} {H:Hp} {xs:List V} {k:List (Key × V)} {o:HO} (hm:H m=some (.dK k)) (h:SqL K H a xs):SqL K (upd H m o) a xs:=by
  rcases h with (h | ⟨o',h⟩) | h
  · exact .inl (.inl (by rw [upd_ne (fun z=>by rw [z,hm] at h;cases h)];exact h))
  · exact .inl (.inr ⟨o',by rw [upd_ne (fun z=>by rw [z,hm] at h;cases h)];exact h⟩)
  · exact .inr h
theorem SqL_same {K:PySem.W.Frag} {a:Addr} {H H':Hp} {xs:List V} (g:Same H H') (h:SqL K H a xs):SqL K H' a xs:=by
  rcases h with (h | ⟨o',h⟩) | h
  · exact .inl (.inl (g _ _ h))
  · exact .inl (.inr ⟨o',g _ _ h⟩)
  · exact .inr h
structure Wk (C:Addr) (d m:Addr) (kvs:List (Key × V)) (T p:Addr) (xs:List V) (H:Hp):Prop where
  ct:CTab lq T H
  dk:∃ dx,H d=some (.ins C dx [("urns_by_name",.ref m)])
  mm:H m=some (.dK kvs)
  ku:KU H U0 kvs
  lst:H p=some (.lst xs)
section
variable {C d m T p:Addr} {kvs:List (Key × V)} {xs:List V} {H H':Hp}
theorem Wk.same (h:Wk C d m kvs T p xs H) (g:Same H H'):Wk C d m kvs T p xs H':=by
  obtain ⟨dx,hd⟩:=h.dk
  exact ⟨h.ct.same g,⟨dx,g _ _ hd⟩,g _ _ h.mm,h.ku.same g,g _ _ h.lst⟩
theorem Wk.kpT (h:Wk C d m kvs T p xs H) (k:Kp T H H') (c:CTab lq T H'):Wk C d m kvs T p xs H':=by
  obtain ⟨dx,hd⟩:=h.dk
  obtain ⟨ps,hT,_⟩:=id h.ct
  have ne:∀ {a o},H a=some o->o ≠ .tbl ps->H' a=some o:=fun {a o} e n=>k _ _ (fun z=>by rw [z,hT] at e;exact n (by injection e with e;exact e.symm)) e
  exact ⟨c,⟨dx,ne hd (by intro z;cases z)⟩,ne h.mm (by intro z;cases z),h.ku.kpT hT k,ne h.lst (by intro z;cases z)⟩
theorem Wk.dne (h:Wk C d m kvs T p xs H):H d ≠ none:=by
  obtain ⟨dx,hd⟩:=h.dk
  rw [hd];simp
end
noncomputable def LineNo (d:Addr) (H:Hp) (v:V) (i:Nat):Prop:=∃ g,Dt d H g v/\(∀ t,g=.str t->t.length <= 900)/\sayP U0 g=.no i/\i < 10
theorem BadV.line {d:Addr} {H:Hp} {v:V} (h:BadV d H v):LineNo d H v 9:=by
  obtain ⟨g,hg,hb⟩:=h
  cases g with
  | str t =>
    have hb':(decide (sayP U0 (.str t)=.no 9) && decide (t.length <= 900))=true:=hb
    rw [Bool.and_eq_true] at hb'
    exact ⟨_,hg,fun t' e=>by cases e;exact of_decide_eq_true hb'.2,of_decide_eq_true hb'.1,by decide⟩
  | _=>exact ⟨_,hg,(fun t' e=>by cases e),rfl,by decide⟩
theorem due_line {d:Addr} {H:Hp} {t:Str} {i:Nat} (h:dueP t i=true):LineNo d H (.str t) i:=by
  unfold dueP at h
  rw [Bool.and_eq_true,Bool.and_eq_true] at h
  exact ⟨.str t,Dt.str _ _ _,fun t' e=>by cases e;exact of_decide_eq_true h.1.2,of_decide_eq_true h.1.1,of_decide_eq_true h.2⟩
theorem u0_ok:U0.length <= 50/\∀ r ∈ U0,r.1.length <= 8:=by decide +kernel
theorem say_kept:sayP U0 (.str "kept")=.tx "a b o":=by decide +kernel
theorem say_showa:sayP U0 (.str "show a")=.tx "3,1":=by decide +kernel
theorem say_full:sayP U0 (.str "draw o 1 0 o")=.tx "full":=by decide +kernel
theorem say_showo:sayP U0 (.str "show o")=.tx "20":=by decide +kernel
theorem say_chance:sayP U0 (.str "chance a 0")=.tx "3/4":=by decide +kernel
theorem say_l1:sayP [] (.str "urn a 3,1")=.put "a" [3,1]:=by decide +kernel
theorem say_l2:sayP [("a",[3,1])] (.str "urn b 0,2")=.put "b" [0,2]:=by decide +kernel
theorem say_l3:sayP [("a",[3,1]),("b",[0,2])] (.str "urn o 20")=.put "o" [20]:=by decide +kernel
theorem next_nx {N:L2.St->Hp->Prop} {D:Ends} {σ:L2.St} {H:Hp} (h:N σ H):tNext { D with nx:=N } σ H:=h
theorem nx_in {N:L2.St->Hp->Prop} {D:Ends} {σ:L2.St} {H:Hp} (h:N σ H):({ D with nx:=N }:Ends).nx σ H:=h
theorem seq_joinU {t u:TS} {D:Ends} {σ:L2.St} {H:Hp} (R:L2.St->Hp->Prop) (h1:∀ N:L2.St->Hp->Prop,(∀ σ' Hx,R σ' Hx->N σ' Hx)->t { D with nx:=N } σ H) (h2:∀ σ' Hx,R σ' Hx->u D σ' Hx):tSeq t u D σ H:=h1 (u D) h2
theorem say_tx {ec:Nat->Addr} {C d m T p:Addr} {kvs:List (Key × V)} {xs:List V} {H:Hp} {Q:VK} {E:XK} {l t:Str} (W:Wk C d m kvs T p xs H) (hs:sayP U0 (.str l)=.tx t) (hl:l.length <= 900) (q:∀ H',Same H H'->Q (.str t) H'):sp_say C ec [.ref d,.str l] H Q E:=by
  obtain ⟨dx,hd⟩:=W.dk
  refine ⟨d,m,kvs,U0,.str l,.str l,rfl,⟨dx,hd,W.mm⟩,W.ku,u0_ok.1,u0_ok.2,Dt.str _ _ _,fun t' e=>by cases e;exact hl,?_⟩
  rw [hs];exact q
section
variable {P:Program} {w:World} {K:PySem.W.Frag} {mg:Str->Option Value} {base:Heap} {f:Addr} {fd:FuncData} {CD:Addr}
structure Cals (P:Program) (w:World) (K:PySem.W.Frag) (mg:Str->Option Value) (base:Heap) (c:Nat->Addr) (CD:Addr):Prop where
  bad:Cal P w K mg base 13 "_law_bad" ["_law_k"] sp_bad
  due:Cal P w K mg base 13 "_law_due" ["_law_k"] sp_due
  refused:Cal P w K mg base 13 "_law_refused" ["_law_call"] (sp_refused P w K mg base 12 c)
  desk:CalK P w K mg base CD 12 "Desk" ["self"] (sp_init CD)
  say:CalMX P w K mg base CD 13 "say" ["self","line"] (sp_say CD c)
  say11:CalMX P w K mg base CD 11 "say" ["self","line"] (sp_say CD c)
noncomputable def spLaw (K:PySem.W.Frag) (T:Addr):Sp:=fun vs H Q _=>∃ (a:Addr) (ns:List Int),vs=[.ref a]/\SqL K H a (ns.map V.int)/\ns.length <= 63/\CTab lq T H/\∀ H',Q (.bl true) H'
noncomputable abbrev s_law:Stmt:=top 75
theorem sc_law:FnScope ["_law_script","_law_desk","_law_line","_law_cell","_law_number","_law_due_here"] ["_law_script"] (defScope s_law):=⟨rfl,rfl,rfl,by decide +kernel,rfl,by decide +kernel,by decide +kernel⟩
theorem ok_law {c:Nat->Addr} {T:Addr} (F:Fun K "law" "law" s_law f fd) (B:Bt mg) (D:DeskK K CD) (C:Cals P w K mg base c CD) (hcode:∃ cc,fd.code=.ref cc/\PySem.W.codeHdIn K cc T=true) (hKb:K.In base) (hbm:base.BuiltinsAt mg T):FnOk P w K mg base CX0 14 f fd ["_law_script"] (spLaw K T):=by
  obtain ⟨cc,hcc,hcd⟩:=hcode
  refine F.okC sc_law (fun vs H Q E h=>?_) (fun cdv A outer s H vs Q E hcv hr h=>?_)
  · obtain ⟨a,ns,rfl,_⟩:=h
    rfl
  obtain ⟨a,scr,rfl,hS,h63,hCT,q⟩:=h
  have Z:∀ (X:Cx),X.env.code=cdv->X.base=base->X.mg=mg->LamX X T:=fun X e1 e2 e3=>⟨⟨cc,by rw [e1,<- hcv,hcc],by rw [e2];exact PySem.W.codeHd_of_K hKb hcd⟩,by rw [e2,e3];exact hbm⟩
  refine ⟨_,(@pss_cons _ _ _ _ _ (@ps_set _ _ 1 _ _ _ _ sc_law.nd rfl (Or.inr rfl) (pe_mk0 C.desk hr rfl) (by rfl) (by first | exact .inl rfl | exact .inr rfl))
    (@pss_cons _ _ _ _ _ (ps_for PassesOwn.never rfl (pi_list (@pe_lst _ _ _ _ (@pa_cons _ _ _ _ _ pe_str (@pa_cons _ _ _ _ _ pe_str (@pa_cons _ _ _ _ _ pe_str pa_nil (by rfl)) (by rfl)) (by rfl)))) (pg_name (i:=2) sc_law.nd rfl (Or.inr rfl))
    (@pss_one _ _ _ (ps_expr (pe_calmx (pv 1) D.cls C.say hr pass10 (@pa_cons _ _ _ _ _ (pv 2) pa_nil (by rfl))))))
    (@pss_cons _ _ _ _ _ (ps_for PassesOwn.never rfl (pi_list (@pe_op _ _ _ _ _ _ _ _ op_cat (@pe_slice _ _ _ _ _ _ _ _ _ _ sl_list (pv 0) po_none (po_some pe_int)) (@pe_lst _ _ _ _ (@pa_cons _ _ _ _ _ pe_int pa_nil (by rfl))))) (pg_name (i:=3) sc_law.nd rfl (Or.inl rfl))
    (@pss_cons _ _ _ _ _ (@ps_set _ _ 4 _ _ _ _ sc_law.nd rfl (Or.inl rfl) (@pe_op _ _ _ _ _ _ _ _ op_mod (pv 3) pe_int) (by rfl) (by first | exact .inl rfl | exact .inr rfl))
    (@pss_cons _ _ _ _ _ (@ps_set _ _ 2 _ _ _ _ sc_law.nd rfl (Or.inr rfl) (pe_cal C.bad hr rfl (@pa_cons _ _ _ _ _ (@pe_op _ _ _ _ _ _ _ _ op_fdiv (pv 4) pe_int) pa_nil (by rfl))) (by rfl) (by first | exact .inl rfl | exact .inr rfl))
    (@pss_cons _ _ _ _ _ (@ps_set _ _ 5 _ _ _ _ sc_law.nd rfl (Or.inl rfl) pe_int (by rfl) (by first | exact .inl rfl | exact .inr rfl))
    (@pss_cons _ _ _ _ _ (ps_if (@pt_cmpR _ _ _ _ _ _ _ _ op_eq (@pe_op _ _ _ _ _ _ _ _ op_mod (pv 4) pe_int) pe_int (nomark _)) (@pss_one _ _ _ (ps_asg (pe_cal C.due hr rfl (@pa_cons _ _ _ _ _ (@pe_op _ _ _ _ _ _ _ _ op_fdiv (pv 4) pe_int) pa_nil (by rfl))) (pg_tup rfl (pgs_cons (pg_name (i:=2) sc_law.nd rfl (Or.inr rfl)) (pgs_cons (pg_name (i:=5) sc_law.nd rfl (Or.inl rfl)) pgs_nil))))) pss_nil)
    (@pss_cons _ _ _ _ _ (ps_if (@pt_cmpR _ _ _ _ _ _ _ _ op_ne (pe_callR C.refused hr rfl (@pa_cons _ _ _ _ _ (pe_lambda (Z _ rfl rfl rfl)) pa_nil (by rfl))) (pv 5) (nomark _)) (@pss_one _ _ _ (ps_ret pe_bl)) pss_nil)
    (@pss_one _ _ _ (ps_if (PW.pt (pw_or (@pt_cmpR _ _ _ _ _ _ _ _ op_ne (pe_calmx (pv 1) D.cls C.say hr pass10 (@pa_cons _ _ _ _ _ pe_str pa_nil (by rfl))) pe_str (nomark _)) (pw_or1 (@pt_cmpR _ _ _ _ _ _ _ _ op_ne (pe_calmx (pv 1) D.cls C.say hr pass10 (@pa_cons _ _ _ _ _ pe_str pa_nil (by rfl))) pe_str (nomark _))))) (@pss_one _ _ _ (ps_ret pe_bl)) pss_nil))))))))
    (@pss_one _ _ _ (ps_ret (pe_and (pe_cmpR op_eq (pe_calmx (pv 1) D.cls C.say hr pass10 (@pa_cons _ _ _ _ _ pe_str pa_nil (by rfl))) pe_str (nomark _)) (pe_and (pe_cmpR op_eq (pe_calmx (pv 1) D.cls C.say hr pass10 (@pa_cons _ _ _ _ _ pe_str pa_nil (by rfl))) pe_str (nomark _)) (pe_one (pe_cmpR op_eq (pe_calmx (pv 1) D.cls C.say hr pass10 (@pa_cons _ _ _ _ _ pe_str pa_nil (by rfl))) pe_str (nomark _)))))))))),?_⟩
  intro d dx hd0 hdx0 hne
  refine ⟨d,dx,rfl,upd_same,fun m hm=>⟨rfl,?_⟩⟩
  have m1:m ≠ d:=fun z=>by rw [z,upd_same] at hm;cases hm
  have m2:m ≠ dx:=fun z=>by rw [upd_ne m1,z,upd_same] at hm;cases hm
  have hm0:H m=none:=by rwa [upd_ne m1,upd_ne m2] at hm
  obtain ⟨H1,g1,hd1,hm1,e1⟩:∃ H1,Same H H1/\H1 d=some (.ins CD dx [("urns_by_name",.ref m)])/\H1 m=some (.dK [])/\H1=upd (upd (upd (upd H dx (.own d)) d (.ins CD dx [])) m (.dK [])) d (.ins CD dx [("urns_by_name",.ref m)]):=by
    refine ⟨_,fun b o e=>?_,upd_same,by rw [upd_ne m1,upd_same],rfl⟩
    rw [upd_ne (ne_of_none e hd0),upd_ne (ne_of_none e hm0),upd_ne (ne_of_none e hd0),upd_ne (ne_of_none e hdx0)]
    exact e
  show tSeq _ _ _ _ (upd (upd (upd (upd H dx (.own d)) d (.ins CD dx [])) m (.dK [])) d (.ins CD dx [("urns_by_name",.ref m)]))
  rw [<- e1]
  clear e1 hd0 hdx0 hne hm m1 m2 hm0
  have hCT1:=hCT.same g1
  have hS1:=SqL_same g1 hS
  clear g1 hS hCT
  refine ⟨by show 3 <= sizeLine;decide,fun pl hpl=>⟨pl,rfl,⟨_,.of upd_same⟩,?_⟩⟩
  have hCT2:=hCT1.same (Same.new (o:=.lst [.str "urn a 3,1",.str "urn b 0,2",.str "urn o 20"]) hpl)
  have hS2:=SqL_same (Same.new (o:=.lst [.str "urn a 3,1",.str "urn b 0,2",.str "urn o 20"]) hpl) hS1
  have hd2:=Same.new (o:=.lst [.str "urn a 3,1",.str "urn b 0,2",.str "urn o 20"]) hpl _ _ hd1
  have hm2:=Same.new (o:=.lst [.str "urn a 3,1",.str "urn b 0,2",.str "urn o 20"]) hpl _ _ hm1
  have hl2:upd H1 pl (.lst [.str "urn a 3,1",.str "urn b 0,2",.str "urn o 20"]) pl=some (.lst [.str "urn a 3,1",.str "urn b 0,2",.str "urn o 20"]):=upd_same
  try dsimp -proj only
  generalize upd H1 pl (.lst [.str "urn a 3,1",.str "urn b 0,2",.str "urn o 20"])=H2 at hCT2 hS2 hd2 hm2 hl2
  clear hCT1 hS1 hd1 hm1 hpl
  refine for_list (K:=K) (a:=pl) (xs:=[.str "urn a 3,1",.str "urn b 0,2",.str "urn o 20"]) (fun i σ H2=>CTab lq T H2/\SqL K H2 a (scr.map V.int)/\H2 pl=some (.lst [.str "urn a 3,1",.str "urn b 0,2",.str "urn o 20"])/\(∃ dx,H2 d=some (.ins CD dx [("urns_by_name",.ref m)]))/\(∃ kvs,H2 m=some (.dK kvs)/\KU H2 (U0.take i) kvs)/\∃ o2,σ=[some (.ref a),some (.ref d),o2,none,none,none])
    ⟨hCT2,hS2,hl2,⟨dx,hd2⟩,⟨[],hm2,rfl⟩,none,rfl⟩ (fun i σ H2 _ h=>.of h.2.2.1) (fun i x σ H2 hx h=>?_) (fun σ H2 h=>?_)
  · clear hCT2 hS2 hd2 hm2 hl2
    obtain ⟨hCT,hS,hl,⟨dx,hd⟩,⟨kvs,hm,hK⟩,o2,rfl⟩:=h
    obtain ⟨t,y,ns,ex,hs,ht,hU,hn,hlen⟩:∃ (t y:Str) (ns:List Int),x=.str t/\sayP (U0.take i) (.str t)=.put y ns/\t.length <= 900/\U0.take (i + 1)=U0.take i ++ [(y,ns)]/\((U0.take i).any fun r=>decide (r.1=y))=false/\urnD 20 (DI ns)=true:=by
      match i,hx with
      | 0,hx=>cases hx;exact ⟨_,"a",[3,1],rfl,say_l1,by decide +kernel,rfl,rfl,by decide +kernel⟩
      | 1,hx=>cases hx;exact ⟨_,"b",[0,2],rfl,say_l2,by decide +kernel,rfl,by decide +kernel,by decide +kernel⟩
      | 2,hx=>cases hx;exact ⟨_,"o",[20],rfl,say_l3,by decide +kernel,rfl,by decide +kernel,by decide +kernel⟩
      | i + 3,hx=>simp at hx
    subst ex
    refine ⟨_,rfl,d,dx,_,rfl,hd,rfl,_,rfl,d,m,kvs,U0.take i,.str t,.str t,rfl,⟨dx,hd,hm⟩,hK,?_,?_,Dt.str _ _ _,(fun t' e=>by cases e;exact ht),?_⟩
    · rw [List.length_take];have:=u0_ok.1;lia
    · exact fun r hr'=>u0_ok.2 r (List.mem_of_mem_take hr')
    rw [hs]
    intro b H3 g3 hb
    have hm3:=g3 _ _ hm
    have nt:∀ xs,H3 m ≠ some (.tup xs):=fun xs z=>by rw [hm3] at z;cases z
    refine ⟨ctab_upd (hCT.same g3) hm3,SqL_upd hm3 (SqL_same g3 hS),by rw [upd_ne (fun z=>by rw [z,hm] at hl;cases hl)];exact g3 _ _ hl,⟨dx,by rw [upd_ne (fun z=>by rw [z,hm] at hd;cases hd)];exact g3 _ _ hd⟩,⟨_,upd_same,?_⟩,some (.str t),rfl⟩
    rw [hU]
    exact ((hK.same g3).put hn hb hlen).but nt
  clear hCT2 hS2 hd2 hm2 hl2
  obtain ⟨hCT,hS,hl,hd,⟨kvs,hm,hK⟩,o2,rfl⟩:=h
  have hK':KU H2 U0 kvs:=hK
  clear hK hl
  refine ⟨_,rfl,30,rfl,a,_,rfl,hS,fun ps hps=>⟨by show 1 <= sizeLine;decide,fun p7 hp7=>⟨ps,p7,_,_,rfl,rfl,Same.new hp7 _ _ upd_same,upd_same,?_,fun pc hpc=>⟨pc,rfl,⟨_,.of upd_same⟩,?_⟩⟩⟩⟩
  · have:(cutV (scr.map V.int) none (some 30)).length <= 63:=by
      unfold cutV
      rw [List.length_take,List.length_drop,List.length_map]
      lia
    show _ + 1 <= sizeLine
    exact sz (by lia)
  have hints:∀ v ∈ cutV (scr.map V.int) none (some 30) ++ [.int 7],∃ z:Int,v=.int z:=fun v hv=>by
    rcases List.mem_append.mp hv with e | e
    · obtain ⟨z,_,ez⟩:=List.mem_map.mp (mem_cutV e)
      exact ⟨z,ez.symm⟩
    · exact ⟨7,List.mem_singleton.mp e⟩
  obtain ⟨H3,W,e3⟩:∃ H3,Wk CD d m kvs T pc (cutV (scr.map V.int) none (some 30) ++ [.int 7]) H3/\H3=upd (upd (upd H2 ps (.lst (cutV (scr.map V.int) none (some 30)))) p7 (.lst [.int 7])) pc (.lst (cutV (scr.map V.int) none (some 30) ++ [.int 7])):=by
    have g:Same H2 (upd (upd (upd H2 ps (.lst (cutV (scr.map V.int) none (some 30)))) p7 (.lst [.int 7])) pc (.lst (cutV (scr.map V.int) none (some 30) ++ [.int 7]))):=(Same.new hps).trans ((Same.new hp7).trans (Same.new hpc))
    obtain ⟨dx,hd⟩:=hd
    exact ⟨_,⟨hCT.same g,⟨dx,g _ _ hd⟩,g _ _ hm,hK'.same g,upd_same⟩,rfl⟩
  rw [<- e3]
  clear e3 hps hp7 hpc hCT hS hd hm hK'
  generalize cutV (scr.map V.int) none (some 30) ++ [.int 7]=xs at W hints
  refine for_list (K:=K) (a:=pc) (xs:=xs) (fun i σ H=>Wk CD d m kvs T pc xs H/\∃ o2 o3 o4 o5,σ=[some (.ref a),some (.ref d),o2,o3,o4,o5])
    ⟨W,o2,none,none,none,rfl⟩ (fun i σ H _ h=>.of h.1.lst) (fun i x σ H hx h=>?_) (fun σ H h=>?_)
  · clear W
    obtain ⟨W,o2,o3,o4,o5,rfl⟩:=h
    obtain ⟨z,rfl⟩:=hints x (List.mem_of_getElem? hx)
    refine ⟨_,rfl,_,_,rfl,rfl,(by show (0:Int) < 2147483647;decide),?_⟩
    show gName 4 (.int (z % 2147483647)) _ _ _
    obtain ⟨nn,hnn⟩:∃ nn:Nat,z % 2147483647=(nn:Int):=Int.eq_ofNat_of_zero_le (Int.emod_nonneg _ (by decide))
    rw [hnn]
    have h2:((nn:Int) / 2)=((nn / 2:Nat):Int):=by lia
    refine ⟨_,rfl,_,_,rfl,rfl,⟨by decide,by decide⟩,d,nn / 2,(by show [V.int ((nn:Int) / 2)]=_;rw [h2]),W.dne,fun v H1 g1 hb=>?_⟩
    have W1:=W.same g1
    clear W g1
    show tSeq (tAsg (tC (.int 9)) (gName 5)) _ _ [some (.ref a),some (.ref d),some v,some (.int z),some (.int (nn:Int)),o5] H1
    refine seq_joinU (fun σ' Hx=>σ'=[some (.ref a),some (.ref d),some v,some (.int z),some (.int (nn:Int)),some (.int 9)]/\Hx=H1) (fun N hN=>hN _ _ ⟨rfl,rfl⟩) (fun σ' Hx h=>?_)
    obtain ⟨e1,e2⟩:=h
    rw [e1,e2]
    clear e1 e2
    refine nx_in ?_
    refine seq_joinU (fun σ' Hx=>Wk CD d m kvs T pc xs Hx/\∃ (v:V) (i:Nat),LineNo d Hx v i/\σ'=[some (.ref a),some (.ref d),some v,some (.int z),some (.int (nn:Int)),some (.int (i:Int))]) (fun N hN=>?_) (fun σ' Hx h=>?_)
    · refine ⟨_,rfl,_,_,rfl,rfl,(by show (0:Int) < 2;decide),rfl,_,rfl,?_⟩
      by_cases hz:(nn:Int) % 2=0
      · rw [decide_eq_true (show V.int ((nn:Int) % 2)=V.int 0 by rw [hz])]
        refine iteT ⟨_,rfl,_,_,rfl,rfl,⟨by decide,by decide⟩,d,nn / 2,(by show [V.int ((nn:Int) / 2)]=_;rw [h2]),W1.dne,fun v2 H2 g2 hv2=>?_⟩
        obtain ⟨p2,t,i,rfl,hp2,hdp⟩:=hv2
        exact ⟨p2,_,rfl,.of hp2,rfl,_,_,rfl,_,_,rfl,rfl,hN _ _ ⟨W1.same g2,.str t,i,due_line hdp,rfl⟩⟩
      · rw [decide_eq_false (show ¬ V.int ((nn:Int) % 2)=V.int 0 from fun e=>hz (by injection e))]
        exact iteF (next_nx (hN _ _ ⟨W1,v,9,hb.line,rfl⟩))
    clear W1 hb
    obtain ⟨W,v,i,⟨g,hg,hg9,hs,hi⟩,rfl⟩:=h
    refine fun Zc=>⟨W.ct,fun f0 c0 ctv Hl hkl hCTl hfn hf0 hc0 Hf frz=>?_⟩
    have Wl:=W.kpT hkl hCTl
    obtain ⟨ps0,hT0,_⟩:=id W.ct
    have hgl:=Dt_keep hT0 hkl hg
    refine lam_ref (k:=11) (N:=["_law_desk","_law_line"]) (ix:=[some 1,some 2]) (i0:=i) Zc frz ⟨c0,ctv,hf0,hc0⟩ rfl rfl rfl rfl (by decide +kernel) rfl hi (fun _ _=>rfl) (fun c1 A' outer' s' E1 Q1 hr' hin hE=>⟨_,pe_calmx (pv 0) D.cls C.say11 hr' passesL (pa_cons (pv 1) pa_nil),?_⟩) (fun Ho gO=>?_)
    · have Wi:=Wl.same hin
      obtain ⟨dx,hd⟩:=Wi.dk
      refine ⟨_,rfl,d,dx,_,rfl,hd,rfl,_,rfl,d,m,kvs,U0,g,v,rfl,⟨dx,hd,Wi.mm⟩,Wi.ku,u0_ok.1,u0_ok.2,hgl.kp (hin.kp d),hg9,?_⟩
      rw [hs];exact hE
    have Wo:=Wl.same (frz.back gO)
    refine ⟨_,rfl,rfl,_,rfl,?_⟩
    rw [show decide (V.int (i:Int)=V.int (i:Int))=true from decide_eq_true rfl]
    refine iteF ?_
    obtain ⟨dx,hd⟩:=Wo.dk
    refine ⟨_,rfl,d,dx,_,rfl,hd,rfl,say_tx Wo say_kept (by decide +kernel) fun H4 g4=>⟨rfl,_,rfl,?_⟩⟩
    rw [show decide (V.str "a b o"=V.str "a b o")=true from decide_eq_true rfl]
    have W4:=Wo.same g4
    obtain ⟨dx4,hd4⟩:=W4.dk
    refine iteF ⟨_,rfl,d,dx4,_,rfl,hd4,rfl,say_tx W4 say_showa (by decide +kernel) fun H5 g5=>⟨rfl,_,rfl,?_⟩⟩
    rw [show decide (V.str "3,1"=V.str "3,1")=true from decide_eq_true rfl]
    refine iteF ?_
    exact ⟨W4.same g5,_,_,_,_,rfl⟩
  · obtain ⟨W,o2,o3,o4,o5,rfl⟩:=h
    obtain ⟨dx,hd⟩:=W.dk
    refine ⟨_,rfl,d,dx,_,rfl,hd,rfl,say_tx W say_full (by decide +kernel) fun H4 g4=>⟨rfl,_,rfl,?_⟩⟩
    rw [show decide (V.str "full"=V.str "full")=true from decide_eq_true rfl]
    have W4:=W.same g4
    obtain ⟨dx4,hd4⟩:=W4.dk
    refine iteT ⟨_,rfl,d,dx4,_,rfl,hd4,rfl,say_tx W4 say_showo (by decide +kernel) fun H5 g5=>⟨rfl,_,rfl,?_⟩⟩
    rw [show decide (V.str "20"=V.str "20")=true from decide_eq_true rfl]
    have W5:=W4.same g5
    obtain ⟨dx5,hd5⟩:=W5.dk
    refine iteT ⟨_,rfl,d,dx5,_,rfl,hd5,rfl,say_tx W5 say_chance (by decide +kernel) fun H6 g6=>⟨rfl,?_⟩⟩
    rw [show decide (V.str "3/4"=V.str "3/4")=true from decide_eq_true rfl]
    exact q H6
end
end G
set_option maxHeartbeats 4000000
namespace G
open PySem PySem.Spec PyProof.Rows L2 Mt
noncomputable def Has (K:PySem.W.Frag) (x:Str) (st:Stmt):Prop:=∃ (f:Addr) (oc:Value) (od:Option Addr) (kV doc pm:Value) (an:Option Addr) (cdv ct:Value) (sl:Array (Option Value)),
  PySem.W.nsIn K mainGlobals x=some (some (.ref f))/\K.lookup f=some ⟨oc,od,.func (PySem.W.fnOf x x (defArgs st) (defBody st) (defScope st) .none kV doc pm an cdv ct),sl⟩/\PySem.W.codeIn K cdv x=true/\PySem.W.keepIn K (.ref f)=true
theorem has_mk {K:PySem.W.Frag} {x:Str} {st:Stmt} {f:Addr} {oc:Value} {od:Option Addr} {kV doc pm:Value} {an:Option Addr} {cdv ct:Value} {sl:Array (Option Value)}
    (a:PySem.W.nsIn K mainGlobals x=some (some (.ref f))) (l:K.lookup f=some ⟨oc,od,.func (PySem.W.fnOf x x (defArgs st) (defBody st) (defScope st) .none kV doc pm an cdv ct),sl⟩) (c:PySem.W.codeIn K cdv x=true) (k:PySem.W.keepIn K (.ref f)=true):Has K x st :=
  ⟨f,oc,od,kV,doc,pm,an,cdv,ct,sl,a,l,c,k⟩
noncomputable def HasC (K:PySem.W.Frag) (x:Str) (st:Stmt) (T:Addr):Prop:=∃ (f:Addr) (oc:Value) (od:Option Addr) (kV doc pm:Value) (an:Option Addr) (cc:Addr) (ct:Value) (sl:Array (Option Value)),
  PySem.W.nsIn K mainGlobals x=some (some (.ref f))/\K.lookup f=some ⟨oc,od,.func (PySem.W.fnOf x x (defArgs st) (defBody st) (defScope st) .none kV doc pm an (.ref cc) ct),sl⟩/\PySem.W.codeIn K (.ref cc) x=true/\PySem.W.keepIn K (.ref f)=true/\PySem.W.codeHdIn K cc T=true/\K.lookup T=none
theorem hasC_mk {K:PySem.W.Frag} {x:Str} {st:Stmt} {f T:Addr} {oc:Value} {od:Option Addr} {kV doc pm:Value} {an:Option Addr} {cc:Addr} {ct:Value} {sl:Array (Option Value)}
    (a:PySem.W.nsIn K mainGlobals x=some (some (.ref f))) (l:K.lookup f=some ⟨oc,od,.func (PySem.W.fnOf x x (defArgs st) (defBody st) (defScope st) .none kV doc pm an (.ref cc) ct),sl⟩) (c:PySem.W.codeIn K (.ref cc) x=true) (k:PySem.W.keepIn K (.ref f)=true) (t:PySem.W.codeHdIn K cc T=true) (n:K.lookup T=none):HasC K x st T :=
  ⟨f,oc,od,kV,doc,pm,an,cc,ct,sl,a,l,c,k,t,n⟩
theorem cal_mk {P:Program} {w:World} {K:PySem.W.Frag} {mg:Str->Option Value} {base h:Heap} {x:Str} {st:Stmt} {ps:List Str} {k:Nat} {sp:Sp} (X:K.In h) (G:h.Ns mainGlobals mg) (H:Has K x st)
    (hb:∀ (f:Addr) (fd:FuncData),Fun K x x st f fd->Binds K fd ps []) (ok:∀ (f:Addr) (fd:FuncData),Fun K x x st f fd->FnOk P w K mg base CX0 k f fd ps sp):Cal P w K mg base k x ps sp:=by
  obtain ⟨f,oc,od,kV,doc,pm,an,cdv,ct,sl,a,l,c,kp⟩:=H
  have F:=fun_mk (st:=st) l c kp
  exact ⟨f,_,PySem.W.mg_of X G a,kp,hb _ _ F,ok _ _ F⟩
theorem calx_mk {P:Program} {w:World} {K:PySem.W.Frag} {mg:Str->Option Value} {base h:Heap} {x:Str} {st:Stmt} {ps:List Str} {k:Nat} {sp:Sp} (X:K.In h) (G:h.Ns mainGlobals mg) (H:Has K x st)
    (hb:∀ (f:Addr) (fd:FuncData),Fun K x x st f fd->Binds K fd ps []) (ok:∀ (f:Addr) (fd:FuncData),Fun K x x st f fd->FnOk P w K mg base (CX1 P w) k f fd ps sp):CalX P w K mg base k x ps sp:=by
  obtain ⟨f,oc,od,kV,doc,pm,an,cdv,ct,sl,a,l,c,kp⟩:=H
  have F:=fun_mk (st:=st) l c kp
  exact ⟨f,_,PySem.W.mg_of X G a,kp,hb _ _ F,ok _ _ F⟩
noncomputable def errA (K:PySem.W.Frag) (B:Addr):List Addr->Bool
  | []=>true
  | C :: cs=>PySem.W.excIn K C vE "ValueError.__new__" && PySem.W.findIn K (.ref C) "__getattribute__" == some (some (.builtin "BaseException.__getattribute__")) && PySem.W.findIn K (.ref C) "__getattr__" == some none && PySem.W.subIn K (.ref C) (.type "BaseException") == some true && (PySem.W.clsIn K C).isSome && PySem.W.findIn K (.ref C) "__class__" == some (some (.builtin "object.__class__")) &&
      PySem.W.mroIn K C (.type "object") == some true && PySem.W.kitCls K (.ref C) (.ref B) == some true && PySem.W.kitOne K (.ref C) (.type "ValueError") == some true && errA K B cs
noncomputable def errB (K:PySem.W.Frag) (B:Addr):Bool:=PySem.W.specialIn K (.builtin "object.__class__") "__get__" == some (some (.builtin "getset_descriptor.__get__")) && PySem.W.takesIn K (.builtin "object.__class__") == some true && PySem.W.subIn K (.ref B) (.type "BaseException") == some true
noncomputable def errC (K:PySem.W.Frag) (cs:List Addr):Bool:=(List.range 10).all fun i=>(List.range 10).all fun j=>PySem.W.kitOne K (.ref (cs.getD i 0)) (.ref (cs.getD j 0)) == some (decide (i=j))
theorem errA_get {K:PySem.W.Frag} {B:Addr}:∀ {cs:List Addr} {i:Nat},errA K B cs=true->i < cs.length->errA K B [cs.getD i 0]=true
  | C :: cs,0,h,_=>by
    unfold errA at h
    rw [Bool.and_eq_true] at h
    unfold errA
    rw [Bool.and_eq_true]
    exact ⟨h.1,rfl⟩
  | C :: cs,i + 1,h,hi=>by
    unfold errA at h
    rw [Bool.and_eq_true] at h
    have:=errA_get (cs:=cs) (i:=i) h.2 (by simpa using hi)
    simpa using this
theorem errs_mk {K:PySem.W.Frag} {h:Heap} {mg:Str->Option Value} {a0 a1 a2 a3 a4 a5 a6 a7 a8 a9 B:Addr} (X:K.In h) (G:h.Ns mainGlobals mg)
    (e0:PySem.W.nsIn K mainGlobals "NoUrn"=some (some (.ref a0))) (e1:PySem.W.nsIn K mainGlobals "NoRule"=some (some (.ref a1))) (e2:PySem.W.nsIn K mainGlobals "NoKind"=some (some (.ref a2))) (e3:PySem.W.nsIn K mainGlobals "NoBall"=some (some (.ref a3))) (e4:PySem.W.nsIn K mainGlobals "NoDraws"=some (some (.ref a4)))
    (e5:PySem.W.nsIn K mainGlobals "NoNumber"=some (some (.ref a5))) (e6:PySem.W.nsIn K mainGlobals "NotEven"=some (some (.ref a6))) (e7:PySem.W.nsIn K mainGlobals "NoCounts"=some (some (.ref a7))) (e8:PySem.W.nsIn K mainGlobals "NotAlike"=some (some (.ref a8))) (e9:PySem.W.nsIn K mainGlobals "BadNote"=some (some (.ref a9)))
    (eb:PySem.W.nsIn K mainGlobals "UrnError"=some (some (.ref B))) (hA:errA K B [a0,a1,a2,a3,a4,a5,a6,a7,a8,a9]=true) (hB:errB K B=true) (hC:errC K [a0,a1,a2,a3,a4,a5,a6,a7,a8,a9]=true) :
    Errs K mg (fun i=>[a0,a1,a2,a3,a4,a5,a6,a7,a8,a9].getD i 0) B:=by
  unfold errB at hB
  simp only [Bool.and_eq_true,beq_iff_eq] at hB
  obtain ⟨⟨b1,b2⟩,b3⟩:=hB
  have A:∀ i,i < 10->_:=fun i hi=>errA_get (i:=i) hA hi
  have A':∀ i,i < 10->((((((((PySem.W.excIn K ([a0,a1,a2,a3,a4,a5,a6,a7,a8,a9].getD i 0) vE "ValueError.__new__"=true/\PySem.W.findIn K (.ref ([a0,a1,a2,a3,a4,a5,a6,a7,a8,a9].getD i 0)) "__getattribute__"=some (some (.builtin "BaseException.__getattribute__")))/\PySem.W.findIn K (.ref ([a0,a1,a2,a3,a4,a5,a6,a7,a8,a9].getD i 0)) "__getattr__"=some none)/\PySem.W.subIn K (.ref ([a0,a1,a2,a3,a4,a5,a6,a7,a8,a9].getD i 0)) (.type "BaseException")=some true)/\(PySem.W.clsIn K ([a0,a1,a2,a3,a4,a5,a6,a7,a8,a9].getD i 0)).isSome=true) /\
      PySem.W.findIn K (.ref ([a0,a1,a2,a3,a4,a5,a6,a7,a8,a9].getD i 0)) "__class__"=some (some (.builtin "object.__class__")))/\PySem.W.mroIn K ([a0,a1,a2,a3,a4,a5,a6,a7,a8,a9].getD i 0) (.type "object")=some true)/\PySem.W.kitCls K (.ref ([a0,a1,a2,a3,a4,a5,a6,a7,a8,a9].getD i 0)) (.ref B)=some true) /\
      PySem.W.kitOne K (.ref ([a0,a1,a2,a3,a4,a5,a6,a7,a8,a9].getD i 0)) (.type "ValueError")=some true):=fun i hi=>by
    have z:=A i hi
    unfold errA at z
    rw [Bool.and_eq_true] at z
    have z1:=z.1
    simp only [Bool.and_eq_true,beq_iff_eq] at z1
    exact z1
  exact ⟨PySem.W.mg_of X G e0,PySem.W.mg_of X G e1,PySem.W.mg_of X G e2,PySem.W.mg_of X G e3,PySem.W.mg_of X G e4,PySem.W.mg_of X G e5,PySem.W.mg_of X G e6,PySem.W.mg_of X G e7,PySem.W.mg_of X G e8,PySem.W.mg_of X G e9,PySem.W.mg_of X G eb,
    fun i hi=>(A' i hi).1.1.1.1.1.1.1.1,fun i hi=>⟨(A' i hi).1.1.1.1.1.1.1.2,(A' i hi).1.1.1.1.1.1.2,(A' i hi).1.1.1.1.1.2,(A' i hi).1.1.1.1.2,(A' i hi).1.1.1.2,b1,b2,(A' i hi).1.1.2⟩,fun i hi=>(A' i hi).1.2,b3,
    fun i j hi hj=>by
      have z:=List.all_eq_true.mp (List.all_eq_true.mp hC i (List.mem_range.mpr hi)) j (List.mem_range.mpr hj)
      exact beq_iff_eq.mp z,fun i hi=>(A' i hi).2⟩
theorem lines_mk {K:PySem.W.Frag} {w:World} {h:Heap} {mg:Str->Option Value} {dl:Addr} {es:Array DictEntry} {n:Nat} (X:K.In h) (G:h.Ns mainGlobals mg) (a:PySem.W.nsIn K mainGlobals "LINES"=some (some (.ref dl)))
    (l:K.lookup dl=some ⟨.type "dict",none,.dict es n,#[]⟩) (s:(dl == sysModules)=false) (k:PySem.W.KeysLit w.params es.toList):LinesK K w mg dl (fun x=>findBy Value.isStrOf es x) :=
  ⟨PySem.W.mg_of X G a,⟨s,es,n,l,k,fun _=>rfl⟩⟩
theorem form_mk {K:PySem.W.Frag} {dl t:Addr} {es:Array DictEntry} {n m:Nat} {a:Str} {fos:List Str} {od:Option Addr} {its:Array Value} {sl:Array (Option Value)} (l:K.lookup dl=some ⟨.type "dict",none,.dict es n,#[]⟩)
    (e:PySem.W.nsIn K dl a=some (some (.ref t))) (lt:K.lookup t=some ⟨.type "tuple",od,.seq its m,sl⟩) (z:its.size <= sizeLine) (v:Vals (fos.map V.str) its.toList):Forms K (fun x=>findBy Value.isStrOf es x) a fos :=
  ⟨t,PySem.W.find_K l e,fun H=>.inr ⟨_,its,m,lt,rfl,rfl,z,v⟩⟩
theorem find_no {es:Array DictEntry} (h:es.toList.all (fun e=>rowsP.any fun r=>Value.isStrOf r.1 e.key)=true) {a:Str} (ha:fosP a=none):findBy Value.isStrOf es a=none:=by
  unfold findBy
  rw [Option.map_eq_none_iff,<- Array.find?_toList,List.find?_eq_none]
  intro e he hs
  obtain ⟨r,hr,hq⟩:=List.any_eq_true.mp (List.all_eq_true.mp h e he)
  obtain ⟨t,e1⟩:=Value.isStrOf_shape (x:=r.1) (v:=e.key) hq
  obtain ⟨u,e2⟩:=Value.isStrOf_shape (x:=a) (v:=e.key) hs
  rw [e1] at e2
  injection e2 with e3 _
  unfold fosP at ha
  rw [Option.map_eq_none_iff,List.find?_eq_none] at ha
  exact ha r hr (by rw [e3];exact decide_eq_true rfl)
theorem find_yes {K:PySem.W.Frag} {f:Str->Option Value} (h:∀ r ∈ rowsP,Forms K f r.1 r.2) {a:Str} {fos:List Str} (ha:fosP a=some fos):Forms K f a fos:=by
  unfold fosP at ha
  obtain ⟨r,hr,e⟩:=Option.map_eq_some_iff.mp ha
  have hm:=List.mem_of_find?_eq_some hr
  have hd':=List.find?_some (p:=fun r:Str × List Str=>decide (r.1=a)) hr
  have hd:=of_decide_eq_true hd'
  rw [<- hd,<- e]
  exact h r hm
theorem lines_both {K:PySem.W.Frag} {w:World} {h:Heap} {mg:Str->Option Value} {dl t0 t1 t2 t3 t4 t5 t6 t7:Addr} {es:Array DictEntry} {n m0 m1 m2 m3 m4 m5 m6 m7:Nat} {od0 od1 od2 od3 od4 od5 od6 od7:Option Addr} {its0 its1 its2 its3 its4 its5 its6 its7:Array Value} {sl0 sl1 sl2 sl3 sl4 sl5 sl6 sl7:Array (Option Value)} (X:K.In h) (G:h.Ns mainGlobals mg) (a:PySem.W.nsIn K mainGlobals "LINES"=some (some (.ref dl)))
    (l:K.lookup dl=some ⟨.type "dict",none,.dict es n,#[]⟩) (s:(dl == sysModules)=false) (k:PySem.W.KeysLit w.params es.toList) (kw:es.toList.all (fun e=>rowsP.any fun r=>Value.isStrOf r.1 e.key)=true)
    (e0:PySem.W.nsIn K dl "urn"=some (some (.ref t0))) (lt0:K.lookup t0=some ⟨.type "tuple",od0,.seq its0 m0,sl0⟩) (z0:its0.size <= sizeLine) (v0:Vals [.str "name",.str "urn"] its0.toList)
    (e1:PySem.W.nsIn K dl "draw"=some (some (.ref t1))) (lt1:K.lookup t1=some ⟨.type "tuple",od1,.seq its1 m1,sl1⟩) (z1:its1.size <= sizeLine) (v1:Vals [.str "name",.str "rule",.str "figure",.str "name"] its1.toList)
    (e2:PySem.W.nsIn K dl "kept"=some (some (.ref t2))) (lt2:K.lookup t2=some ⟨.type "tuple",od2,.seq its2 m2,sl2⟩) (z2:its2.size <= sizeLine) (v2:Vals [] its2.toList)
    (e3:PySem.W.nsIn K dl "show"=some (some (.ref t3))) (lt3:K.lookup t3=some ⟨.type "tuple",od3,.seq its3 m3,sl3⟩) (z3:its3.size <= sizeLine) (v3:Vals [.str "name"] its3.toList)
    (e4:PySem.W.nsIn K dl "chance"=some (some (.ref t4))) (lt4:K.lookup t4=some ⟨.type "tuple",od4,.seq its4 m4,sl4⟩) (z4:its4.size <= sizeLine) (v4:Vals [.str "name",.str "figure"] its4.toList)
    (e5:PySem.W.nsIn K dl "stands"=some (some (.ref t5))) (lt5:K.lookup t5=some ⟨.type "tuple",od5,.seq its5 m5,sl5⟩) (z5:its5.size <= sizeLine) (v5:Vals [.str "name",.str "rule",.str "figure"] its5.toList)
    (e6:PySem.W.nsIn K dl "mean"=some (some (.ref t6))) (lt6:K.lookup t6=some ⟨.type "tuple",od6,.seq its6 m6,sl6⟩) (z6:its6.size <= sizeLine) (v6:Vals [.str "name",.str "rule",.str "figure"] its6.toList)
    (e7:PySem.W.nsIn K dl "fair"=some (some (.ref t7))) (lt7:K.lookup t7=some ⟨.type "tuple",od7,.seq its7 m7,sl7⟩) (z7:its7.size <= sizeLine) (v7:Vals [.str "name",.str "rule"] its7.toList) :
    LinesK K w mg dl (fun x=>findBy Value.isStrOf es x)/\LineT K (fun x=>findBy Value.isStrOf es x):=⟨lines_mk X G a l s k,fun b hb=>find_no kw hb,fun b fos hb=>find_yes (fun r hr=>by
    simp only [rowsP,List.mem_cons,List.not_mem_nil,or_false] at hr
    rcases hr with rfl | rfl | rfl | rfl | rfl | rfl | rfl | rfl
    · exact form_mk (fos:=["name","urn"]) l e0 lt0 z0 v0
    · exact form_mk (fos:=["name","rule","figure","name"]) l e1 lt1 z1 v1
    · exact form_mk (fos:=[]) l e2 lt2 z2 v2
    · exact form_mk (fos:=["name"]) l e3 lt3 z3 v3
    · exact form_mk (fos:=["name","figure"]) l e4 lt4 z4 v4
    · exact form_mk (fos:=["name","rule","figure"]) l e5 lt5 z5 v5
    · exact form_mk (fos:=["name","rule","figure"]) l e6 lt6 z6 v6
    · exact form_mk (fos:=["name","rule"]) l e7 lt7 z7 v7) hb⟩
noncomputable def HasM (K:PySem.W.Frag) (C:Addr) (x qual:Str) (st:Stmt):Prop:=∃ (f:Addr) (oc:Value) (od:Option Addr) (kV doc pm:Value) (an:Option Addr) (cdv ct:Value) (sl:Array (Option Value)),
  PySem.W.findIn K (.ref C) x=some (some (.ref f))/\PySem.W.isFn K (.ref f)=true/\K.lookup f=some ⟨oc,od,.func (PySem.W.fnOf x qual (defArgs st) (defBody st) (defScope st) .none kV doc pm an cdv ct),sl⟩/\PySem.W.codeIn K cdv qual=true/\PySem.W.keepIn K (.ref f)=true
theorem hasM_mk {K:PySem.W.Frag} {C:Addr} {x qual:Str} {st:Stmt} {f:Addr} {oc:Value} {od:Option Addr} {kV doc pm:Value} {an:Option Addr} {cdv ct:Value} {sl:Array (Option Value)}
    (a:PySem.W.findIn K (.ref C) x=some (some (.ref f))) (fn:PySem.W.isFn K (.ref f)=true) (l:K.lookup f=some ⟨oc,od,.func (PySem.W.fnOf x qual (defArgs st) (defBody st) (defScope st) .none kV doc pm an cdv ct),sl⟩) (c:PySem.W.codeIn K cdv qual=true) (k:PySem.W.keepIn K (.ref f)=true):HasM K C x qual st :=
  ⟨f,oc,od,kV,doc,pm,an,cdv,ct,sl,a,fn,l,c,k⟩
theorem calm_mk {P:Program} {w:World} {K:PySem.W.Frag} {mg:Str->Option Value} {base:Heap} {C:Addr} {x qual:Str} {st:Stmt} {ps:List Str} {k:Nat} {sp:Sp} (H:HasM K C x qual st)
    (hb:∀ (f:Addr) (fd:FuncData),Fun K x qual st f fd->Binds K fd ps []) (ok:∀ (f:Addr) (fd:FuncData),Fun K x qual st f fd->FnOk P w K mg base CX0 k f fd ps sp):CalM P w K mg base C k x ps sp:=by
  obtain ⟨f,oc,od,kV,doc,pm,an,cdv,ct,sl,a,fn,l,c,kp⟩:=H
  have F:=fun_mk (st:=st) l c kp
  exact ⟨f,_,⟨a,fn,kp⟩,hb _ _ F,ok _ _ F⟩
theorem calk_mk {P:Program} {w:World} {K:PySem.W.Frag} {mg:Str->Option Value} {base:Heap} {C:Addr} {x:Str} {k:Nat} {ps:List Str} {sp:Sp} (hm:mg x=some (.ref C)) (mk:PySem.W.makesIn K C=true) (kp:PySem.W.keepIn K (.ref C)=true) (M:CalM P w K mg base C k "__init__" ps sp):CalK P w K mg base C k x ps sp:=by
  obtain ⟨f,fd,me,hb,F⟩:=M.ex
  exact ⟨f,fd,⟨mk,me.at_,me.fn,kp⟩,hm,hb,F⟩
theorem calmx_mk {P:Program} {w:World} {K:PySem.W.Frag} {mg:Str->Option Value} {base:Heap} {C:Addr} {x qual:Str} {st:Stmt} {ps:List Str} {k:Nat} {sp:Sp} (H:HasM K C x qual st)
    (hb:∀ (f:Addr) (fd:FuncData),Fun K x qual st f fd->Binds K fd ps []) (ok:∀ (f:Addr) (fd:FuncData),Fun K x qual st f fd->FnOk P w K mg base (CX1 P w) k f fd ps sp):CalMX P w K mg base C k x ps sp:=by
  obtain ⟨f,oc,od,kV,doc,pm,an,cdv,ct,sl,a,fn,l,c,kp⟩:=H
  have F:=fun_mk (st:=st) l c kp
  exact ⟨f,_,⟨a,fn,kp⟩,hb _ _ F,ok _ _ F⟩
theorem all_mk {l:PySem.W.OpenLaw} {w:World} {K:PySem.W.Frag} {h:Heap} {mg:Str->Option Value} {fa T Bs dl CD:Addr} {c:Nat->Addr} {fL:Str->Option Value} (X:K.In h) (G:h.Ns mainGlobals mg) (hfa:mg "law"=some (.ref fa)) (R:Errs K mg c Bs) (LL:LinesK K w mg dl fL/\LineT K fL)
    (hcd':PySem.W.nsIn K mainGlobals "Desk"=some (some (.ref CD))) (D:DeskK K CD) (hmk:PySem.W.makesIn K CD=true) (hkp:PySem.W.keepIn K (.ref CD)=true)
    (h1:Has K "is_number" s_is_number) (h2:Has K "is_whole" s_is_whole) (h3:Has K "are_wholes" s_are_wholes) (h4:Has K "need_number" s_need_number) (h5:Has K "is_urn_up_to" s_is_urn_up_to) (h6:Has K "is_urn" s_is_urn) (h7:Has K "is_rule" s_is_rule) (h8:Has K "need_urn" s_need_urn) (h9:Has K "need_rule" s_need_rule) (h10:Has K "need_urn_and_rule" s_nur) (h11:Has K "greatest_divisor" s_gd) (h12:Has K "fraction" s_fraction) (h13:Has K "share" s_share) (h14:Has K "put_in" s_put_in) (h15:Has K "need_kind" s_need_kind) (h16:Has K "chance" s_chance) (h17:Has K "after" s_after) (h18:Has K "numbers_text" s_nt) (h19:Has K "urn_text" s_ut) (h20:Has K "fraction_text" s_ft) (h21:Has K "need_text" s_ntx) (h22:Has K "numbers_read" s_nr) (h23:Has K "urn_read" s_ur) (h24:Has K "rule_read" s_rr) (h25:Has K "stands" s_st) (h26:Has K "mean" s_mn) (h27:Has K "mean_shares" s_mss) (h28:Has K "is_fair" s_fair) (h29:Has K "name_read" s_nmr) (h30:Has K "figure_read" s_fgr) (h31:Has K "any_rule_read" s_arr) (h32:Has K "word_read" s_wr) (h33:Has K "line_read" s_lr) (h34:Has K "answer" s_ans) (h35:Has K "_law_refused" s_refused) (h36:Has K "_law_bad" s_bad) (h37:Has K "_law_due" s_due)
    (hm1:HasM K CD "__init__" "Desk.__init__" s_init) (hm2:HasM K CD "urn_by_name" "Desk.urn_by_name" s_ubn) (hm3:HasM K CD "keep" "Desk.keep" s_keep) (hm4:HasM K CD "say" "Desk.say" s_say)
    (hlaw:HasC K "law" s_law T)
    (z1:PySem.W.nsIn K mainGlobals "isinstance"=some none) (z2:PySem.W.nsIn K mainGlobals "bool"=some none) (z3:PySem.W.nsIn K mainGlobals "int"=some none) (z4:PySem.W.nsIn K mainGlobals "tuple"=some none) (z5:PySem.W.nsIn K mainGlobals "list"=some none) (z6:PySem.W.nsIn K mainGlobals "all"=some none) (z7:PySem.W.nsIn K mainGlobals "sum"=some none) (z8:PySem.W.nsIn K mainGlobals "len"=some none) (z9:PySem.W.nsIn K mainGlobals "range"=some none) (z10:PySem.W.nsIn K mainGlobals "max"=some none) (z11:PySem.W.nsIn K mainGlobals "min"=some none) (z12:PySem.W.nsIn K mainGlobals "abs"=some none) (z13:PySem.W.nsIn K mainGlobals "zip"=some none) (z14:PySem.W.nsIn K mainGlobals "str"=some none) (z15:PySem.W.nsIn K mainGlobals "sorted"=some none) (zV:PySem.W.nsIn K mainGlobals "ValueError"=some none)
    {t1:Tok} (m1:PySem.W.nsIn K mainGlobals "MOST_KINDS"=some (some (.int 4 t1))) {t2:Tok} (m2:PySem.W.nsIn K mainGlobals "MOST_BALLS"=some (some (.int 20 t2))) {t3:Tok} (m3:PySem.W.nsIn K mainGlobals "MOST_PUT_IN"=some (some (.int 5 t3))) {t4:Tok} (m4:PySem.W.nsIn K mainGlobals "MOST_STAND_DRAWS"=some (some (.int 6 t4))) {tl:Tok} (ml:PySem.W.nsIn K mainGlobals "MOST_LETTERS"=some (some (.int 8 tl))) {tf:Tok} (mf:PySem.W.nsIn K mainGlobals "FIGURES"=some (some (.str "0123456789" tf))) :
    ∃ fd:FuncData,(∀ (s:Shared) (v:Value),BindsTo s fd ⟨[v],[]⟩ [("_law_script",v)])/\(K.lookup T=none/\∃ cc,PySem.W.codeHdIn K cc T=true)/\∀ base:Heap,K.In base->base.Ns mainGlobals mg->base.BuiltinsAt mg T->FnOk l.prog w K mg base CX0 14 fa fd ["_law_script"] (spLaw K T):=by
  obtain ⟨L,LT⟩:=LL
  obtain ⟨f,oc,od,kV,doc,pm,an,cc,ct,sl,a,lk,c',kp,hcd,hTn⟩:=hlaw
  have e:=hfa.symm.trans (PySem.W.mg_of X G a)
  cases e
  have F:=fun_mk (st:=s_law) lk c' kp
  have B:Bt mg:=⟨PySem.W.mg_none_of X G z1,PySem.W.mg_none_of X G z2,PySem.W.mg_none_of X G z3,PySem.W.mg_none_of X G z4,PySem.W.mg_none_of X G z5,PySem.W.mg_none_of X G z6,PySem.W.mg_none_of X G z7,PySem.W.mg_none_of X G z8,PySem.W.mg_none_of X G z9,PySem.W.mg_none_of X G z10,PySem.W.mg_none_of X G z11,PySem.W.mg_none_of X G z12,PySem.W.mg_none_of X G z13⟩
  have B2:Bt2 mg:=⟨PySem.W.mg_none_of X G z14⟩
  have B3:Bt3 mg:=⟨PySem.W.mg_none_of X G z15⟩
  have C:Ct mg:=⟨⟨_,PySem.W.mg_of X G m1⟩,⟨_,PySem.W.mg_of X G m2⟩,⟨_,PySem.W.mg_of X G m3⟩⟩
  have C2:Ct2 mg:=⟨⟨_,PySem.W.mg_of X G m4⟩⟩
  have CK:CtK mg:=⟨⟨_,PySem.W.mg_of X G ml⟩,⟨_,PySem.W.mg_of X G mf⟩⟩
  have hVE:=PySem.W.mg_none_of X G zV
  refine ⟨PySem.W.fnOf "law" "law" (defArgs s_law) (defBody s_law) (defScope s_law) .none kV doc pm an (.ref cc) ct,fun s v=>.of_eq rfl,⟨hTn,cc,hcd⟩,fun base hKb _ hbm=>?_⟩
  have c_is_number:Cal l.prog w K mg base 0 "is_number" ["thing"] sp_is_number:=cal_mk X G h1 (fun f fd F=>F.binds (ps:=["thing"]) fun _ _ _ _ _ _ us hl=>match us,hl with | [_],_=>rfl) (fun f fd F=>ok_is_number F B)
  have c_is_whole:Cal l.prog w K mg base 1 "is_whole" ["thing","low","high"] sp_is_whole:=cal_mk X G h2 (fun f fd F=>F.binds (ps:=["thing","low","high"]) fun _ _ _ _ _ _ us hl=>match us,hl with | [_,_,_],_=>rfl) (fun f fd F=>ok_is_whole F c_is_number)
  have c_are_wholes:Cal l.prog w K mg base 2 "are_wholes" ["thing","low","high"] sp_are_wholes:=cal_mk X G h3 (fun f fd F=>F.binds (ps:=["thing","low","high"]) fun _ _ _ _ _ _ us hl=>match us,hl with | [_,_,_],_=>rfl) (fun f fd F=>ok_are_wholes F B c_is_whole)
  have c_need_number:CalX l.prog w K mg base 2 "need_number" ["thing","low","high"] (sp_need_number c):=calx_mk X G h4 (fun f fd F=>F.binds (ps:=["thing","low","high"]) fun _ _ _ _ _ _ us hl=>match us,hl with | [_,_,_],_=>rfl) (fun f fd F=>ok_need_number F R c_is_whole)
  have c_is_urn_up_to:Cal l.prog w K mg base 3 "is_urn_up_to" ["thing","most"] sp_is_urn_up_to:=cal_mk X G h5 (fun f fd F=>F.binds (ps:=["thing","most"]) fun _ _ _ _ _ _ us hl=>match us,hl with | [_,_],_=>rfl) (fun f fd F=>ok_is_urn_up_to F B C c_are_wholes)
  have c_is_urn:Cal l.prog w K mg base 4 "is_urn" ["thing"] sp_is_urn:=cal_mk X G h6 (fun f fd F=>F.binds (ps:=["thing"]) fun _ _ _ _ _ _ us hl=>match us,hl with | [_],_=>rfl) (fun f fd F=>ok_is_urn F C c_is_urn_up_to)
  have c_is_rule:CalX l.prog w K mg base 3 "is_rule" ["kinds","thing"] (sp_is_rule c):=calx_mk X G h7 (fun f fd F=>F.binds (ps:=["kinds","thing"]) fun _ _ _ _ _ _ us hl=>match us,hl with | [_,_],_=>rfl) (fun f fd F=>ok_is_rule F B C c_are_wholes c_need_number)
  have c_need_urn:CalX l.prog w K mg base 5 "need_urn" ["thing"] (sp_need_urn c):=calx_mk X G h8 (fun f fd F=>F.binds (ps:=["thing"]) fun _ _ _ _ _ _ us hl=>match us,hl with | [_],_=>rfl) (fun f fd F=>ok_need_urn F R c_is_urn)
  have c_need_rule:CalX l.prog w K mg base 4 "need_rule" ["kinds","thing"] (sp_need_rule c):=calx_mk X G h9 (fun f fd F=>F.binds (ps:=["kinds","thing"]) fun _ _ _ _ _ _ us hl=>match us,hl with | [_,_],_=>rfl) (fun f fd F=>ok_need_rule F R c_is_rule)
  have c_need_urn_and_rule:CalX l.prog w K mg base 6 "need_urn_and_rule" ["urn","rule"] (sp_nur c):=calx_mk X G h10 (fun f fd F=>F.binds (ps:=["urn","rule"]) fun _ _ _ _ _ _ us hl=>match us,hl with | [_,_],_=>rfl) (fun f fd F=>ok_nur F B c_need_urn c_need_rule)
  have c_greatest_divisor:Cal l.prog w K mg base 1 "greatest_divisor" ["one","other"] sp_gd:=cal_mk X G h11 (fun f fd F=>F.binds (ps:=["one","other"]) fun _ _ _ _ _ _ us hl=>match us,hl with | [_,_],_=>rfl) (fun f fd F=>ok_gd F B)
  have c_fraction:Cal l.prog w K mg base 2 "fraction" ["top","bottom"] sp_fraction:=cal_mk X G h12 (fun f fd F=>F.binds (ps:=["top","bottom"]) fun _ _ _ _ _ _ us hl=>match us,hl with | [_,_],_=>rfl) (fun f fd F=>ok_fraction F c_greatest_divisor)
  have c_share:Cal l.prog w K mg base 3 "share" ["urn","kind"] sp_share:=cal_mk X G h13 (fun f fd F=>F.binds (ps:=["urn","kind"]) fun _ _ _ _ _ _ us hl=>match us,hl with | [_,_],_=>rfl) (fun f fd F=>ok_share F B c_fraction)
  have c_put_in:Cal l.prog w K mg base 1 "put_in" ["urn","rule","kind"] sp_put_in:=cal_mk X G h14 (fun f fd F=>F.binds (ps:=["urn","rule","kind"]) fun _ _ _ _ _ _ us hl=>match us,hl with | [_,_,_],_=>rfl) (fun f fd F=>ok_put_in F B)
  have c_need_kind:CalX l.prog w K mg base 2 "need_kind" ["urn","thing"] (sp_need_kind c):=calx_mk X G h15 (fun f fd F=>F.binds (ps:=["urn","thing"]) fun _ _ _ _ _ _ us hl=>match us,hl with | [_,_],_=>rfl) (fun f fd F=>ok_need_kind F B R c_is_whole)
  have c_chance:CalX l.prog w K mg base 6 "chance" ["urn","kind"] (sp_chance c):=calx_mk X G h16 (fun f fd F=>F.binds (ps:=["urn","kind"]) fun _ _ _ _ _ _ us hl=>match us,hl with | [_,_],_=>rfl) (fun f fd F=>ok_chance F c_need_urn c_need_kind c_share)
  have c_after:CalX l.prog w K mg base 7 "after" ["urn","rule","kind"] (sp_after c):=calx_mk X G h17 (fun f fd F=>F.binds (ps:=["urn","rule","kind"]) fun _ _ _ _ _ _ us hl=>match us,hl with | [_,_,_],_=>rfl) (fun f fd F=>ok_after F R c_need_urn_and_rule c_need_kind c_put_in)
  have c_numbers_text:Cal l.prog w K mg base 1 "numbers_text" ["numbers"] sp_nt:=cal_mk X G h18 (fun f fd F=>F.binds (ps:=["numbers"]) fun _ _ _ _ _ _ us hl=>match us,hl with | [_],_=>rfl) (fun f fd F=>ok_nt F B2)
  have c_urn_text:Cal l.prog w K mg base 6 "urn_text" ["urn"] sp_ut:=cal_mk X G h19 (fun f fd F=>F.binds (ps:=["urn"]) fun _ _ _ _ _ _ us hl=>match us,hl with | [_],_=>rfl) (fun f fd F=>ok_ut F (c_need_urn.up (by decide)) (c_numbers_text.up (by decide)))
  have c_fraction_text:Cal l.prog w K mg base 1 "fraction_text" ["fraction"] sp_ftB:=cal_mk X G h20 (fun f fd F=>F.binds (ps:=["fraction"]) fun _ _ _ _ _ _ us hl=>match us,hl with | [_],_=>rfl) (fun f fd F=>ok_ftB F B2)
  have c_need_text:CalX l.prog w K mg base 1 "need_text" ["thing"] (sp_ntx c):=calx_mk X G h21 (fun f fd F=>F.binds (ps:=["thing"]) fun _ _ _ _ _ _ us hl=>match us,hl with | [_],_=>rfl) (fun f fd F=>ok_ntx F B B2 R)
  have c_numbers_read:Cal l.prog w K mg base 1 "numbers_read" ["text","most"] sp_nr:=cal_mk X G h22 (fun f fd F=>F.binds (ps:=["text","most"]) fun _ _ _ _ _ _ us hl=>match us,hl with | [_,_],_=>rfl) (fun f fd F=>ok_nr F B B2)
  have c_urn_read:CalX l.prog w K mg base 6 "urn_read" ["text"] (sp_ur c):=calx_mk X G h23 (fun f fd F=>F.binds (ps:=["text"]) fun _ _ _ _ _ _ us hl=>match us,hl with | [_],_=>rfl) (fun f fd F=>ok_ur F C R (c_need_text.up (by decide)) (c_numbers_read.up (by decide)) (c_is_urn.up (by decide)))
  have c_rule_read:CalX l.prog w K mg base 6 "rule_read" ["kinds","text"] (sp_rr c):=calx_mk X G h24 (fun f fd F=>F.binds (ps:=["kinds","text"]) fun _ _ _ _ _ _ us hl=>match us,hl with | [_,_],_=>rfl) (fun f fd F=>ok_rr F B C R (c_need_number.up (by decide)) (c_need_text.up (by decide)) (c_numbers_read.up (by decide)) (c_is_rule.up (by decide)))
  have c_stands:CalX l.prog w K mg base 7 "stands" ["urn","rule","draws"] (RefS c):=calx_mk X G h25 (fun f fd F=>F.binds (ps:=["urn","rule","draws"]) fun _ _ _ _ _ _ us hl=>match us,hl with | [_,_,_],_=>rfl) (fun f fd F=>ok_st F C2 c_need_urn_and_rule c_need_number)
  have c_mean:CalX l.prog w K mg base 8 "mean" ["urn","rule","draws"] (RefS c):=calx_mk X G h26 (fun f fd F=>F.binds (ps:=["urn","rule","draws"]) fun _ _ _ _ _ _ us hl=>match us,hl with | [_,_,_],_=>rfl) (fun f fd F=>ok_mn F c_stands)
  have c_mean_shares:CalX l.prog w K mg base 8 "mean_shares" ["urn","rule","draws"] (RefS c):=calx_mk X G h27 (fun f fd F=>F.binds (ps:=["urn","rule","draws"]) fun _ _ _ _ _ _ us hl=>match us,hl with | [_,_,_],_=>rfl) (fun f fd F=>ok_mss F c_stands)
  have c_is_fair:CalX l.prog w K mg base 9 "is_fair" ["urn","rule"] (RefF c):=calx_mk X G h28 (fun f fd F=>F.binds (ps:=["urn","rule"]) fun _ _ _ _ _ _ us hl=>match us,hl with | [_,_],_=>rfl) (fun f fd F=>ok_fair F c_mean_shares)
  have c_name_read:CalX l.prog w K mg base 1 "name_read" ["word"] (sp_nmr c):=calx_mk X G h29 (fun f fd F=>F.binds (ps:=["word"]) fun _ _ _ _ _ _ us hl=>match us,hl with | [_],_=>rfl) (fun f fd F=>ok_nmr F B CK R)
  have c_figure_read:CalX l.prog w K mg base 1 "figure_read" ["word"] (sp_fgr c):=calx_mk X G h30 (fun f fd F=>F.binds (ps:=["word"]) fun _ _ _ _ _ _ us hl=>match us,hl with | [_],_=>rfl) (fun f fd F=>ok_fgr F B CK R)
  have c_any_rule_read:CalX l.prog w K mg base 7 "any_rule_read" ["word"] (sp_arr c):=calx_mk X G h31 (fun f fd F=>F.binds (ps:=["word"]) fun _ _ _ _ _ _ us hl=>match us,hl with | [_],_=>rfl) (fun f fd F=>ok_arr F C R c_rule_read)
  have c_word_read:CalX l.prog w K mg base 8 "word_read" ["form","word"] (sp_wr c):=calx_mk X G h32 (fun f fd F=>F.binds (ps:=["form","word"]) fun _ _ _ _ _ _ us hl=>match us,hl with | [_,_],_=>rfl) (fun f fd F=>ok_wr F c_name_read c_urn_read c_figure_read c_any_rule_read)
  have c_line_read:CalX l.prog w K mg base 9 "line_read" ["line"] (sp_lr c):=calx_mk X G h33 (fun f fd F=>F.binds (ps:=["line"]) fun _ _ _ _ _ _ us hl=>match us,hl with | [_],_=>rfl) (fun f fd F=>ok_lr F B R L LT c_need_text c_word_read)
  have c_answer:CalX l.prog w K mg base 10 "answer" ["asked","urn","others"] (sp_ans c):=calx_mk X G h34 (fun f fd F=>F.binds (ps:=["asked","urn","others"]) fun _ _ _ _ _ _ us hl=>match us,hl with | [_,_,_],_=>rfl) (fun f fd F=>ok_ans F B B2 c_urn_text c_fraction_text c_chance c_stands c_mean c_is_fair)
  have c__law_refused:Cal l.prog w K mg base 13 "_law_refused" ["_law_call"] (sp_refused l.prog w K mg base 12 c):=cal_mk X G h35 (fun f fd F=>F.binds (ps:=["_law_call"]) fun _ _ _ _ _ _ us hl=>match us,hl with | [_],_=>rfl) (fun f fd F=>ok_refused F B R hVE)
  have c__law_bad:Cal l.prog w K mg base 1 "_law_bad" ["_law_k"] sp_bad:=cal_mk X G h36 (fun f fd F=>F.binds (ps:=["_law_k"]) fun _ _ _ _ _ _ us hl=>match us,hl with | [_],_=>rfl) (fun f fd F=>ok_bad F B)
  have c__law_due:Cal l.prog w K mg base 1 "_law_due" ["_law_k"] sp_due:=cal_mk X G h37 (fun f fd F=>F.binds (ps:=["_law_k"]) fun _ _ _ _ _ _ us hl=>match us,hl with | [_],_=>rfl) (fun f fd F=>ok_due F B)
  have m___init__:CalM l.prog w K mg base CD 1 "__init__" ["self"] (sp_init CD):=calm_mk hm1 (fun f fd F=>F.binds (ps:=["self"]) fun _ _ _ _ _ _ us hl=>match us,hl with | [_],_=>rfl) (fun f fd F=>ok_init F D)
  have m_urn_by_name:CalMX l.prog w K mg base CD 1 "urn_by_name" ["self","name"] (sp_ubn CD c):=calmx_mk hm2 (fun f fd F=>F.binds (ps:=["self","name"]) fun _ _ _ _ _ _ us hl=>match us,hl with | [_,_],_=>rfl) (fun f fd F=>ok_ubn F D R)
  have m_keep:CalM l.prog w K mg base CD 5 "keep" ["self","name","urn"] (sp_keep CD):=calm_mk hm3 (fun f fd F=>F.binds (ps:=["self","name","urn"]) fun _ _ _ _ _ _ us hl=>match us,hl with | [_,_,_],_=>rfl) (fun f fd F=>ok_keep F D c_is_urn)
  have m_say:CalMX l.prog w K mg base CD 11 "say" ["self","line"] (sp_say CD c):=calmx_mk hm4 (fun f fd F=>F.binds (ps:=["self","line"]) fun _ _ _ _ _ _ us hl=>match us,hl with | [_,_],_=>rfl) (fun f fd F=>ok_say F D B3 c_line_read m_keep m_urn_by_name c_answer c_after)
  exact ok_law F B D ⟨(c__law_bad.up (by decide)),(c__law_due.up (by decide)),c__law_refused,(calk_mk (PySem.W.mg_of X G hcd') hmk hkp m___init__).up (by decide),m_say.up (by decide),m_say⟩ ⟨cc,rfl,hcd⟩ hKb hbm
theorem walk {l:PySem.W.OpenLaw} {q:Program} {loose:List Str} {XP:(Str->Option Value)->Heap->Prop} {YP:World->Heap->Prop} {d:DefRec} {K:Params->PySem.W.Frag} {T:Addr} (hn:l.most=some 63) (hdf:d.params.defaults=[])
    (hY:∀ (w:World) (h:Heap),YP w h->(K w.params).In h) (hT:∀ (w:World) (h:Heap),YP w h->∀ t ∈ [T],h.get? t=some (PySem.W.tabObj #[]))
    (F:∀ (w:World) (mg:Str->Option Value) (fa:Addr) (h:Heap),(K w.params).In h->h.Ns mainGlobals mg->mg d.name=some (.ref fa) ->
      ∃ fd:FuncData,(∀ (s:Shared) (u:Value),BindsTo s fd ⟨[u],[]⟩ [("_law_script",u)])/\((K w.params).lookup T=none/\∃ c,PySem.W.codeHdIn (K w.params) c T=true)/\∀ base:Heap,(K w.params).In base->base.Ns mainGlobals mg->base.BuiltinsAt mg T->FnOk l.prog w (K w.params) mg base CX0 14 fa fd ["_law_script"] (spLaw (K w.params) T)) :
    PySem.W.WalkO q loose XP YP l.row.toRowW d [] (fun f vs=>PySem.call f vs) :=
  L2.walk_ofT (n:=63) (k:=14) (x:="_law_script") (ts:=[T]) (sp:=fun w=>spLaw (K w.params) T) hn (by decide) hdf ⟨rfl,by decide,by decide⟩ hY hT
    (fun w mg fa h kx ns hm=>by
      obtain ⟨fd,b1,b2,b3⟩:=F w mg fa h kx ns hm
      exact ⟨fd,b1,fun t ht=>by rw [List.mem_singleton.mp ht];exact b2,fun base k1 k2 k3=>b3 base k1 k2 (k3 T (List.mem_singleton.mpr rfl))⟩)
    (fun _ _ a ns hl hO hS=>⟨a,ns,rfl,hS,hl,⟨#[],hO.2 T (List.mem_singleton.mpr rfl),trivial,fun pos v e=>by cases e⟩,fun _=>rfl⟩)
end G
noncomputable def PySem.Challenge.cw_growurns_k94_desk_refuses_holds.tw1368515847026644118 : Unit := ()
noncomputable def PySem.Challenge.cw_growurns_k94_desk_refuses_holds.tw8439618481036007737 : Unit := ()
noncomputable def PySem.Challenge.cw_growurns_k94_desk_refuses_holds.tw2154601492993245190 : Unit := ()
noncomputable def PySem.Challenge.cw_growurns_k94_desk_refuses_holds.tw16629079563952558539 : Unit := ()
noncomputable def PySem.Challenge.cw_growurns_k94_desk_refuses_holds.tw3127887561265302265 : Unit := ()
noncomputable def PySem.Challenge.cw_growurns_k94_desk_refuses_holds.tw8798399949621382003 : Unit := ()
noncomputable def PySem.Challenge.cw_growurns_k94_desk_refuses_holds.tw2224145795916973306 : Unit := ()
noncomputable def PySem.Challenge.cw_growurns_k94_desk_refuses_holds.tw13668462175245525763 : Unit := ()
noncomputable def PySem.Challenge.cw_growurns_k94_desk_refuses_holds.tw8062141360180999911 : Unit := ()
noncomputable def PySem.Challenge.cw_growurns_k94_desk_refuses_holds.tw6454139215450956512 : Unit := ()
noncomputable def PySem.Challenge.cw_growurns_k94_desk_refuses_holds.tw6067927409861748039 : Unit := ()
noncomputable def PySem.Challenge.cw_growurns_k94_desk_refuses_holds.tw16677716189629351961 : Unit := ()
noncomputable def PySem.Challenge.cw_growurns_k94_desk_refuses_holds.tw10938526913381072996 : Unit := ()
noncomputable def PySem.Challenge.cw_growurns_k94_desk_refuses_holds.tw4568529968586643670 : Unit := ()
noncomputable def PySem.Challenge.cw_growurns_k94_desk_refuses_holds.tw15064802069792704398 : Unit := ()
noncomputable def PySem.Challenge.cw_growurns_k94_desk_refuses_holds.tw11921332240656485250 : Unit := ()
noncomputable def PySem.Challenge.cw_growurns_k94_desk_refuses_holds.tw6226812946693454667 : Unit := ()
noncomputable def PySem.Challenge.cw_growurns_k94_desk_refuses_holds.tw2997572422771956503 : Unit := ()
noncomputable def PySem.Challenge.cw_growurns_k94_desk_refuses_holds.tw9768533877905262513 : Unit := ()
noncomputable def PySem.Challenge.cw_growurns_k94_desk_refuses_holds.tw17568054689217033929 : Unit := ()
noncomputable def PySem.Challenge.cw_growurns_k94_desk_refuses_holds.tw14546461582960555504 : Unit := ()
noncomputable def PySem.Challenge.cw_growurns_k94_desk_refuses_holds.tw17412025301115185498 : Unit := ()
noncomputable def PySem.Challenge.cw_growurns_k94_desk_refuses_holds.tw6285080236085667640 : Unit := ()
noncomputable def PySem.Challenge.cw_growurns_k94_desk_refuses_holds.tw5309157275400450966 : Unit := ()
noncomputable def PySem.Challenge.cw_growurns_k94_desk_refuses_holds.tw3493070711451429498 : Unit := ()
noncomputable def PySem.Challenge.cw_growurns_k94_desk_refuses_holds.tw9779838285751552013 : Unit := ()
noncomputable def PySem.Challenge.cw_growurns_k94_desk_refuses_holds.tw1159955274150186960 : Unit := ()
noncomputable def PySem.Challenge.cw_growurns_k94_desk_refuses_holds.tw5294106286601201165 : Unit := ()
noncomputable def PySem.Challenge.cw_growurns_k94_desk_refuses_holds.tw5313178230892723145 : Unit := ()
noncomputable def PySem.Challenge.cw_growurns_k94_desk_refuses_holds.tw3612673702017403659 : Unit := ()
noncomputable def PySem.Challenge.cw_growurns_k94_desk_refuses_holds.tw12486452692537687985 : Unit := ()
noncomputable def PySem.Challenge.cw_growurns_k94_desk_refuses_holds.tw5183851341445940014 : Unit := ()
noncomputable def PySem.Challenge.cw_growurns_k94_desk_refuses_holds.tw16294800525123042239 : Unit := ()
noncomputable def PySem.Challenge.cw_growurns_k94_desk_refuses_holds.tw12988798710647692129 : Unit := ()
noncomputable def PySem.Challenge.cw_growurns_k94_desk_refuses_holds.tw3362060069533760855 : Unit := ()
noncomputable def PySem.Challenge.cw_growurns_k94_desk_refuses_holds.tw16038717279998090431 : Unit := ()
noncomputable def PySem.Challenge.cw_growurns_k94_desk_refuses_holds.tw13634520903240872214 : Unit := ()
noncomputable def PySem.Challenge.cw_growurns_k94_desk_refuses_holds.tw13043014476119560224 : Unit := ()
noncomputable def PySem.Challenge.cw_growurns_k94_desk_refuses_holds.tw17505227704543287722 : Unit := ()
noncomputable def PySem.Challenge.cw_growurns_k94_desk_refuses_holds.tw10671887269226692657 : Unit := ()
noncomputable def PySem.Challenge.cw_growurns_k94_desk_refuses_holds.tw11664879855033506781 : Unit := ()
noncomputable def PySem.Challenge.cw_growurns_k94_desk_refuses_holds.tw18276354863378176615 : Unit := ()
noncomputable def PySem.Challenge.cw_growurns_k94_desk_refuses_holds.tw1677277535900987727 : Unit := ()
noncomputable def PySem.Challenge.cw_growurns_k94_desk_refuses_holds.tw11823492996257229020 : Unit := ()
noncomputable def PySem.Challenge.cw_growurns_k94_desk_refuses_holds.tw15818928299137328579 : Unit := ()
noncomputable def PySem.Challenge.cw_growurns_k94_desk_refuses_holds.tw18057050312583490188 : Unit := ()
noncomputable def PySem.Challenge.cw_growurns_k94_desk_refuses_holds.tw5107739591985876017 : Unit := ()
noncomputable def PySem.Challenge.cw_growurns_k94_desk_refuses_holds.tw10791233338500175250 : Unit := ()
noncomputable def PySem.Challenge.cw_growurns_k94_desk_refuses_holds.tw4240297967333918156 : Unit := ()
noncomputable def PySem.Challenge.cw_growurns_k94_desk_refuses_holds.tw6345368945135539996 : Unit := ()
noncomputable def PySem.Challenge.cw_growurns_k94_desk_refuses_holds.tw1607609074645730623 : Unit := ()
set_option Elab.async true
open PySem PySem.W PyProof.Rows
set_option maxRecDepth 100000 in
set_option maxHeartbeats 0 in
theorem PySem.Challenge.cw_growurns_k94_desk_refuses_holds : PySem.Challenge.rw_growurns_k94_desk_refuses.Holds := by
  w_on; o_law; k_head; (case hw => w_witness2)
  k_fill
  refine G.walk (l := PySem.Challenge.rw_growurns_k94_desk_refuses) rfl rfl (fun w h Y => PySem.W.km_in_of Y) (fun w h Y => PySem.W.km_tabs_of Y) ?F
  case F =>
    intro w mg fa h KX NS hmg
    refine' G.all_mk KX NS hmg (G.errs_mk KX NS ?e0 ?e1 ?e2 ?e3 ?e4 ?e5 ?e6 ?e7 ?e8 ?e9 ?eb ?eA ?eB ?eC) (G.lines_both KX NS ?la0 ?ll0 ?ls0 ?lk0 ?lw0 ?re0 ?rl0 ?rz0 ?rv0 ?re1 ?rl1 ?rz1 ?rv1 ?re2 ?rl2 ?rz2 ?rv2 ?re3 ?rl3 ?rz3 ?rv3 ?re4 ?rl4 ?rz4 ?rv4 ?re5 ?rl5 ?rz5 ?rv5 ?re6 ?rl6 ?rz6 ?rv6 ?re7 ?rl7 ?rz7 ?rv7) ?cd ⟨⟨?d1, ?d2, ?d3, ?d4⟩, ?d5⟩ ?d6 ?d7 (G.has_mk ?a1 ?l1 ?c1 ?k1) (G.has_mk ?a2 ?l2 ?c2 ?k2) (G.has_mk ?a3 ?l3 ?c3 ?k3) (G.has_mk ?a4 ?l4 ?c4 ?k4) (G.has_mk ?a5 ?l5 ?c5 ?k5) (G.has_mk ?a6 ?l6 ?c6 ?k6) (G.has_mk ?a7 ?l7 ?c7 ?k7) (G.has_mk ?a8 ?l8 ?c8 ?k8) (G.has_mk ?a9 ?l9 ?c9 ?k9) (G.has_mk ?a10 ?l10 ?c10 ?k10) (G.has_mk ?a11 ?l11 ?c11 ?k11) (G.has_mk ?a12 ?l12 ?c12 ?k12) (G.has_mk ?a13 ?l13 ?c13 ?k13) (G.has_mk ?a14 ?l14 ?c14 ?k14) (G.has_mk ?a15 ?l15 ?c15 ?k15) (G.has_mk ?a16 ?l16 ?c16 ?k16) (G.has_mk ?a17 ?l17 ?c17 ?k17) (G.has_mk ?a18 ?l18 ?c18 ?k18) (G.has_mk ?a19 ?l19 ?c19 ?k19) (G.has_mk ?a20 ?l20 ?c20 ?k20) (G.has_mk ?a21 ?l21 ?c21 ?k21) (G.has_mk ?a22 ?l22 ?c22 ?k22) (G.has_mk ?a23 ?l23 ?c23 ?k23) (G.has_mk ?a24 ?l24 ?c24 ?k24) (G.has_mk ?a25 ?l25 ?c25 ?k25) (G.has_mk ?a26 ?l26 ?c26 ?k26) (G.has_mk ?a27 ?l27 ?c27 ?k27) (G.has_mk ?a28 ?l28 ?c28 ?k28) (G.has_mk ?a29 ?l29 ?c29 ?k29) (G.has_mk ?a30 ?l30 ?c30 ?k30) (G.has_mk ?a31 ?l31 ?c31 ?k31) (G.has_mk ?a32 ?l32 ?c32 ?k32) (G.has_mk ?a33 ?l33 ?c33 ?k33) (G.has_mk ?a34 ?l34 ?c34 ?k34) (G.has_mk ?a35 ?l35 ?c35 ?k35) (G.has_mk ?a36 ?l36 ?c36 ?k36) (G.has_mk ?a37 ?l37 ?c37 ?k37) (G.hasM_mk ?ma1 ?mf1 ?ml1 ?mc1 ?mk1) (G.hasM_mk ?ma2 ?mf2 ?ml2 ?mc2 ?mk2) (G.hasM_mk ?ma3 ?mf3 ?ml3 ?mc3 ?mk3) (G.hasM_mk ?ma4 ?mf4 ?ml4 ?mc4 ?mk4) (G.hasC_mk ?la ?ll ?lc ?lk ?lt ?ln) ?z1 ?z2 ?z3 ?z4 ?z5 ?z6 ?z7 ?z8 ?z9 ?z10 ?z11 ?z12 ?z13 ?z14 ?z15 ?zV ?m1 ?m2 ?m3 ?m4 ?mL ?mF
    (case e0 => k_is); (case e1 => k_is); (case e2 => k_is); (case e3 => k_is); (case e4 => k_is); (case e5 => k_is); (case e6 => k_is); (case e7 => k_is); (case e8 => k_is); (case e9 => k_is); (case eb => k_is)
    (case eA => kernel_rfl)
    (case eB => kernel_rfl)
    (case eC => kernel_rfl)
    (case la0 => k_is); (case ll0 => k_is); (case ls0 => decide); (case lk0 => k_keys); (case lw0 => kernel_rfl)
    (case re0 => k_is); (case rl0 => k_is); (case rz0 => decide); (case rv0 => exact (.cons ⟨_, rfl⟩ (.cons ⟨_, rfl⟩ .nil)))
    (case re1 => k_is); (case rl1 => k_is); (case rz1 => decide); (case rv1 => exact (.cons ⟨_, rfl⟩ (.cons ⟨_, rfl⟩ (.cons ⟨_, rfl⟩ (.cons ⟨_, rfl⟩ .nil)))))
    (case re2 => k_is); (case rl2 => k_is); (case rz2 => decide); (case rv2 => exact .nil)
    (case re3 => k_is); (case rl3 => k_is); (case rz3 => decide); (case rv3 => exact (.cons ⟨_, rfl⟩ .nil))
    (case re4 => k_is); (case rl4 => k_is); (case rz4 => decide); (case rv4 => exact (.cons ⟨_, rfl⟩ (.cons ⟨_, rfl⟩ .nil)))
    (case re5 => k_is); (case rl5 => k_is); (case rz5 => decide); (case rv5 => exact (.cons ⟨_, rfl⟩ (.cons ⟨_, rfl⟩ (.cons ⟨_, rfl⟩ .nil))))
    (case re6 => k_is); (case rl6 => k_is); (case rz6 => decide); (case rv6 => exact (.cons ⟨_, rfl⟩ (.cons ⟨_, rfl⟩ (.cons ⟨_, rfl⟩ .nil))))
    (case re7 => k_is); (case rl7 => k_is); (case rz7 => decide); (case rv7 => exact (.cons ⟨_, rfl⟩ (.cons ⟨_, rfl⟩ .nil)))
    (case cd => k_is); (case d1 => kernel_rfl); (case d2 => kernel_rfl); (case d3 => kernel_rfl); (case d4 => kernel_rfl); (case d5 => (show PySem.W.findIn _ _ _ = _; kernel_rfl)); (case d6 => kernel_rfl); (case d7 => kernel_rfl)
    (case a1 => k_is); (case l1 => k_is); (case c1 => k_is); (case k1 => k_is)
    (case a2 => k_is); (case l2 => k_is); (case c2 => k_is); (case k2 => k_is)
    (case a3 => k_is); (case l3 => k_is); (case c3 => k_is); (case k3 => k_is)
    (case a4 => k_is); (case l4 => k_is); (case c4 => k_is); (case k4 => k_is)
    (case a5 => k_is); (case l5 => k_is); (case c5 => k_is); (case k5 => k_is)
    (case a6 => k_is); (case l6 => k_is); (case c6 => k_is); (case k6 => k_is)
    (case a7 => k_is); (case l7 => k_is); (case c7 => k_is); (case k7 => k_is)
    (case a8 => k_is); (case l8 => k_is); (case c8 => k_is); (case k8 => k_is)
    (case a9 => k_is); (case l9 => k_is); (case c9 => k_is); (case k9 => k_is)
    (case a10 => k_is); (case l10 => k_is); (case c10 => k_is); (case k10 => k_is)
    (case a11 => k_is); (case l11 => k_is); (case c11 => k_is); (case k11 => k_is)
    (case a12 => k_is); (case l12 => k_is); (case c12 => k_is); (case k12 => k_is)
    (case a13 => k_is); (case l13 => k_is); (case c13 => k_is); (case k13 => k_is)
    (case a14 => k_is); (case l14 => k_is); (case c14 => k_is); (case k14 => k_is)
    (case a15 => k_is); (case l15 => k_is); (case c15 => k_is); (case k15 => k_is)
    (case a16 => k_is); (case l16 => k_is); (case c16 => k_is); (case k16 => k_is)
    (case a17 => k_is); (case l17 => k_is); (case c17 => k_is); (case k17 => k_is)
    (case a18 => k_is); (case l18 => k_is); (case c18 => k_is); (case k18 => k_is)
    (case a19 => k_is); (case l19 => k_is); (case c19 => k_is); (case k19 => k_is)
    (case a20 => k_is); (case l20 => k_is); (case c20 => k_is); (case k20 => k_is)
    (case a21 => k_is); (case l21 => k_is); (case c21 => k_is); (case k21 => k_is)
    (case a22 => k_is); (case l22 => k_is); (case c22 => k_is); (case k22 => k_is)
    (case a23 => k_is); (case l23 => k_is); (case c23 => k_is); (case k23 => k_is)
    (case a24 => k_is); (case l24 => k_is); (case c24 => k_is); (case k24 => k_is)
    (case a25 => k_is); (case l25 => k_is); (case c25 => k_is); (case k25 => k_is)
    (case a26 => k_is); (case l26 => k_is); (case c26 => k_is); (case k26 => k_is)
    (case a27 => k_is); (case l27 => k_is); (case c27 => k_is); (case k27 => k_is)
    (case a28 => k_is); (case l28 => k_is); (case c28 => k_is); (case k28 => k_is)
    (case a29 => k_is); (case l29 => k_is); (case c29 => k_is); (case k29 => k_is)
    (case a30 => k_is); (case l30 => k_is); (case c30 => k_is); (case k30 => k_is)
    (case a31 => k_is); (case l31 => k_is); (case c31 => k_is); (case k31 => k_is)
    (case a32 => k_is); (case l32 => k_is); (case c32 => k_is); (case k32 => k_is)
    (case a33 => k_is); (case l33 => k_is); (case c33 => k_is); (case k33 => k_is)
    (case a34 => k_is); (case l34 => k_is); (case c34 => k_is); (case k34 => k_is)
    (case a35 => k_is); (case l35 => k_is); (case c35 => k_is); (case k35 => k_is)
    (case a36 => k_is); (case l36 => k_is); (case c36 => k_is); (case k36 => k_is)
    (case a37 => k_is); (case l37 => k_is); (case c37 => k_is); (case k37 => k_is)
    (case ma1 => k_is); (case mf1 => k_is); (case ml1 => k_is); (case mc1 => k_is); (case mk1 => k_is)
    (case ma2 => k_is); (case mf2 => k_is); (case ml2 => k_is); (case mc2 => k_is); (case mk2 => k_is)
    (case ma3 => k_is); (case mf3 => k_is); (case ml3 => k_is); (case mc3 => k_is); (case mk3 => k_is)
    (case ma4 => k_is); (case mf4 => k_is); (case ml4 => k_is); (case mc4 => k_is); (case mk4 => k_is)
    (case la => k_is); (case ll => k_is); (case lc => k_is); (case lk => k_is); (case lt => kernel_rfl); (case ln => kernel_rfl)
    (case z1 => k_is); (case z2 => k_is); (case z3 => k_is); (case z4 => k_is); (case z5 => k_is); (case z6 => k_is); (case z7 => k_is); (case z8 => k_is); (case z9 => k_is); (case z10 => k_is); (case z11 => k_is); (case z12 => k_is); (case z13 => k_is); (case z14 => k_is); (case z15 => k_is); (case zV => k_is)
    (case m1 => k_is); (case m2 => k_is); (case m3 => k_is); (case m4 => k_is); (case mL => k_is); (case mF => k_is)
#print axioms PySem.Challenge.cw_growurns_k94_desk_refuses_holds
