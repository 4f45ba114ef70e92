import PyProof.Rows.All
import Wide.All
import OpenK.AllK
import Wide.FinOn
import Lean
import PyProof.EqAt
import PyProof.EqKinds
import PyProof.TupleCall
import KE.KIsAll
import KE.KLam
import KE.KTryDeep
import PyProof.ExcAttrAll.ValueError
import KE.KSortTup
import KE.KItemsList
import PyProof.Rows.SortRuns
import KE.KDictList
import PyProof.StrWalks
import PyProof.FString5
import PyProof.PureStr
import PyProof.CollectIter
import PyProof.StrOps2
import PyProof.FitsReplace
import PySem.Challenge.RW_growurns_k95_whole_desk
set_option Elab.async false
set_option linter.all false
set_option maxRecDepth 100000
namespace L2
open PySem PySem.Spec PyProof.Rows
abbrev Key:=Sum Int Str
def keyIs:Key->Value->Bool
  | .inl k,v=>Value.isInt k v
  | .inr x,v=>Value.isStrOf x v
def keyH (w:World):Key->Int
  | .inl k=>hashInt k
  | .inr x=>hashStr w x
theorem keyIs_shape:∀ {k:Key} {v:Value},keyIs k v=true->(∃ i t,k=Sum.inl i/\v=Value.int i t) ∨ (∃ x t,k=Sum.inr x/\v=Value.str x t)
  | .inl i,v,h=>by
    obtain ⟨t,e⟩:=Value.isInt_shape (k:=i) (v:=v) h
    exact .inl ⟨i,t,rfl,e⟩
  | .inr x,v,h=>by
    obtain ⟨t,e⟩:=Value.isStrOf_shape (x:=x) (v:=v) h
    exact .inr ⟨x,t,rfl,e⟩
theorem keyIs_int (i:Int) (t:Tok):keyIs (.inl i) (.int i t)=true:=by simp [keyIs,Value.isInt]
theorem keyIs_str (x:Str) (t:Tok):keyIs (.inr x) (.str x t)=true:=by simp [keyIs,Value.isStrOf]
theorem key_ll (a b:Int):decide ((Sum.inl a:Key)=Sum.inl b)=(a == b):=by
  by_cases e:a=b
  · subst e;simp
  · have h:¬ (Sum.inl a:Key)=Sum.inl b:=fun q=>e (Sum.inl.inj q)
    rw [decide_eq_false h]
    exact (beq_eq_false_iff_ne.mpr e).symm
theorem key_rr (a b:Str):decide ((Sum.inr a:Key)=Sum.inr b)=decide (a=b):=by
  by_cases e:a=b
  · subst e;simp
  · have h:¬ (Sum.inr a:Key)=Sum.inr b:=fun q=>e (Sum.inr.inj q)
    rw [decide_eq_false h,decide_eq_false e]
theorem key_lr (a:Int) (b:Str):decide ((Sum.inl a:Key)=Sum.inr b)=false:=decide_eq_false (fun q=>nomatch q)
theorem key_rl (a:Str) (b:Int):decide ((Sum.inr a:Key)=Sum.inl b)=false:=decide_eq_false (fun q=>nomatch q)
def mixKind (prog:Program) (w:World):PySem.KeyKind prog w Key where
  is:=keyIs
  hash:=keyH w
  inj:=fun v a b ha hb=>by
    rcases keyIs_shape ha with ⟨i,t,rfl,rfl⟩ | ⟨x,t,rfl,rfl⟩
    · rcases keyIs_shape hb with ⟨j,u,rfl,e⟩ | ⟨y,u,rfl,e⟩
      · injection e with e1 _;rw [e1]
      · exact nomatch e
    · rcases keyIs_shape hb with ⟨j,u,rfl,e⟩ | ⟨y,u,rfl,e⟩
      · exact nomatch e
      · injection e with e1 _;rw [e1]
  byValue:=fun k v h=>by
    rcases keyIs_shape h with ⟨i,t,rfl,rfl⟩ | ⟨x,t,rfl,rfl⟩ <;> rfl
  pyHash:=fun hv h=>by
    rcases keyIs_shape hv with ⟨i,t,rfl,rfl⟩ | ⟨x,t,rfl,rfl⟩
    · exact wpAny_pyHash_int h
    · exact wpAny_pyHash_str h
  eqBool:=fun hu hv h=>by
    rcases keyIs_shape hu with ⟨i,t,rfl,rfl⟩ | ⟨x,t,rfl,rfl⟩
    · rcases keyIs_shape hv with ⟨j,u,rfl,rfl⟩ | ⟨y,u,rfl,rfl⟩
      · rw [key_ll] at h;exact wpAny_eqBool_int h
      · rw [key_lr] at h;exact SeqAt.EqAt.int_str i t y u _ _ _ _ h
    · rcases keyIs_shape hv with ⟨j,u,rfl,rfl⟩ | ⟨y,u,rfl,rfl⟩
      · rw [key_rl] at h;exact SeqAt.EqAt.str_int x t j u _ _ _ _ h
      · rw [key_rr] at h;exact wpAny_eqBool_str h
  «strs»:=fun k x t v h=>by
    rcases keyIs_shape h with ⟨i,u,rfl,e⟩ | ⟨y,u,rfl,e⟩
    · exact nomatch e
    · injection e with e1 _
      subst e1
      cases v <;> rfl
theorem mixKind_int (prog:Program) (w:World) (i:Int) (t:Tok):(mixKind prog w).is (.inl i) (.int i t)=true:=keyIs_int i t
theorem mixKind_str (prog:Program) (w:World) (x:Str) (t:Tok):(mixKind prog w).is (.inr x) (.str x t)=true:=keyIs_str x t
end L2
namespace L2
open PySem PySem.Spec PyProof.Rows
inductive V where
  | non | bl (b:Bool) | int (i:Int) | str (x:Str) | byt (b:Array UInt8) | flt (b:UInt64) | ref (a:Addr) | ty (n:String)
  deriving DecidableEq
def RelV:V->Value->Prop
  | .non,u=>u=Value.none
  | .bl b,u=>u=Value.bool b
  | .int i,u=>∃ t,u=Value.int i t
  | .str x,u=>∃ t,u=Value.str x t
  | .byt b,u=>∃ t,u=Value.bytes b t
  | .flt b,u=>∃ t,u=Value.float b t
  | .ref a,u=>u=Value.ref a
  | .ty n,u=>u=Value.type n
abbrev Vals:List V->List Value->Prop:=Paired RelV
theorem Vals.length {xs:List V} {us:List Value} (r:Vals xs us):xs.length=us.length:=Paired.length r
theorem Vals.get:∀ {xs:List V} {us:List Value} {i:Nat} {x:V},Vals xs us->xs[i]?=some x->∃ u,us[i]?=some u/\RelV x u
  | _,_,_,_,.nil,e=>by simp at e
  | _,_,0,_,.cons r _,e=>by simp at e;subst e;exact ⟨_,rfl,r⟩
  | _,_,i + 1,x,.cons _ t,e=>by
    obtain ⟨u,h1,h2⟩:=Vals.get (i:=i) (x:=x) t (by simpa using e)
    exact ⟨u,by simpa using h1,h2⟩
theorem Vals.set {x:V} {u:Value} (r:RelV x u):∀ {xs:List V} {us:List Value} (i:Nat),Vals xs us->Vals (xs.set i x) (us.set i u)
  | _,_,_,.nil=>.nil
  | _,_,0,.cons _ t=>.cons r t
  | _,_,i + 1,.cons q t=>.cons q (Vals.set r i t)
theorem Vals.append:∀ {xs ys:List V} {us ws:List Value},Vals xs us->Vals ys ws->Vals (xs ++ ys) (us ++ ws)
  | _,_,_,_,.nil,s=>s
  | _,_,_,_,.cons r t,s=>.cons r (Vals.append t s)
theorem Vals.take:∀ {xs:List V} {us:List Value} (n:Nat),Vals xs us->Vals (xs.take n) (us.take n)
  | _,_,0,_=>.nil
  | _,_,_ + 1,.nil=>.nil
  | _,_,n + 1,.cons r t=>.cons r (Vals.take n t)
theorem Vals.drop:∀ {xs:List V} {us:List Value} (n:Nat),Vals xs us->Vals (xs.drop n) (us.drop n)
  | _,_,0,r=>r
  | _,_,_ + 1,.nil=>.nil
  | _,_,n + 1,.cons _ t=>Vals.drop n t
def RelO:Option V->Option Value->Prop
  | some v,some u=>RelV v u
  | none,none=>True
  | _,_=>False
def KV {κ:Type}:List (κ × V)->List (κ × Value)->Prop:=Paired fun (p:κ × V) (q:κ × Value)=>p.1=q.1/\RelV p.2 q.2
def kV:Key->V
  | .inl i=>.int i
  | .inr x=>.str x
inductive HO where
  | lst (xs:List V)
  | tup (xs:List V)
  | dK (kvs:List (Key × V)) | dT (kvs:List (List Key × V))
  | set (S:Int->Bool) (n:Nat)
  | ins (C dx:Addr) (fs:List (Str × V))
  | own (x:Addr)
  | xd (fs:List (Str × V))
  | met (f x:Addr)
  | rng (lo hi:Int)
  | frz (o:Obj) (u:HO)
  | tbl (ps:Array Value)
  | ext (φ:Heap->Prop)
abbrev Hp:=Addr->Option HO
def upd (H:Hp) (a:Addr) (o:HO):Hp:=fun b=>if b=a then some o else H b
theorem upd_same {H:Hp} {a:Addr} {o:HO}:upd H a o a=some o:=by unfold upd;rw [if_pos rfl]
theorem upd_ne {H:Hp} {a b:Addr} {o:HO} (h:b ≠ a):upd H a o b=H b:=by unfold upd;rw [if_neg h]
theorem ne_of {H:Hp} {a b:Addr} {o u:HO} (h:H a=some o) (h':H b=some u) (d:o ≠ u):a ≠ b:=by
  intro e;subst e;rw [h] at h';exact d (Option.some.inj h')
theorem ne_of_none {H:Hp} {a b:Addr} {o:HO} (h:H a=some o) (h':H b=none):a ≠ b:=by
  intro e;subst e;rw [h] at h';cases h'
section
variable (P:Program) (w:World)
def ObjOk (H:Hp) (h:Heap) (a:Addr):HO->Prop
  | .lst xs=>xs.length <= sizeLine/\∃ (its:List Value) (n:Nat),Vals xs its/\h.get? a=some { cls:=.type "list",data:=.seq its.toArray n }
  | .tup xs=>xs.length <= sizeLine/\∃ its:List Value,Vals xs its/\IsTup h a its.toArray
  | .dK kvs=>kvs.length <= sizeLine/\(a == sysModules)=false/\∃ vs,KV kvs vs/\h.DictOf (mixKind P w) a vs
  | .dT kvs=>kvs.length <= sizeLine/\(a == sysModules)=false/\∃ xs:List (List Key × Addr × Value),
      Paired (fun (p:List Key × V) (q:List Key × Addr × Value)=>p.1=q.1/\H q.2.1=some (.tup (p.1.map kV))/\RelV p.2 q.2.2) kvs xs /\
      ∃ o es ep,h.get? a=some o/\o.ExactDict/\o.data=.dict es ep/\es.toList=xs.map (entryOfKey (tupleKind (mixKind P w)))/\(xs.map (·.1)).Nodup
  | .set S n=>h.SetOf (intKind P w) a S n
  | .ins C dx fs=>H dx=some (.own a)/\fs.length <= 1000/\dx ≠ a/\h.get? a=some (PySem.W.instObj C dx) /\
      ∃ mA,h.Ns1 dx mA/\(∀ f,RelO (fs.lookup f) (mA f))/\PySem.Within mA (fs.map (·.1))
  | .own _=>∃ o,h.get? a=some o
  | .xd fs=>∃ mA,h.Ns1 a mA/\∀ f,RelO (fs.lookup f) (mA f)
  | .rng lo hi=>∃ t u v,h.get? a=some { cls:=.type "range",data:=.fields #[.int lo t,.int hi u,.int 1 v] }
  | .frz o u=>h.get? a=some o/\ObjOk H h a u
  | .tbl ps=>h.get? a=some { cls:=.none,data:=.fields ps }
  | .met f x=>h.get? a=some (PySem.W.methodObj (.ref f) (.ref x))
  | .ext φ=>φ h/\(∃ o,h.get? a=some o)/\∀ h1 h2:Heap,φ h1->(∀ o,h1.get? a=some o->h2.get? a=some o)->φ h2
def HOk (H:Hp) (h:Heap):Prop:=∀ a o,H a=some o->ObjOk P w H h a o
end
section
variable {P:Program} {w:World} {H H':Hp} {h h':Heap} {a:Addr} {o:HO}
theorem ObjOk.lt (x:ObjOk P w H h a o):a < h.objs.size:=by
  cases o with
  | lst xs=>obtain ⟨_,_,_,_,e⟩:=x;exact Heap.lt_size e
  | tup xs=>obtain ⟨_,_,_,p⟩:=x;exact p.lt
  | dK kvs=>obtain ⟨_,_,_,_,o,_,_,e,_⟩:=x;exact Heap.lt_size e
  | dT kvs=>obtain ⟨_,_,_,_,o,_,_,e,_⟩:=x;exact Heap.lt_size e
  | set S n=>obtain ⟨o,_,_,_,e,_⟩:=x;exact Heap.lt_size e
  | ins C dx fs=>obtain ⟨_,_,_,e,_⟩:=x;exact Heap.lt_size e
  | own y=>obtain ⟨_,e⟩:=x;exact Heap.lt_size e
  | xd fs=>obtain ⟨_,⟨_,_,_,e,_⟩,_⟩:=x;exact Heap.lt_size e
  | rng lo hi=>obtain ⟨_,_,_,e⟩:=x;exact Heap.lt_size e
  | frz ob u=>obtain ⟨e,_⟩:=x;exact Heap.lt_size e
  | tbl ps=>exact Heap.lt_size (show h.get? a=some _ from x)
  | met f y=>exact Heap.lt_size (show h.get? a=some _ from x)
  | ext φ=>obtain ⟨_,⟨_,e⟩,_⟩:=x;exact Heap.lt_size e
theorem Paired.mapP {α β:Type} {F G:α->β->Prop}:∀ {l₁:List α} {l₂:List β},Paired F l₁ l₂->(∀ a b,F a b->G a b)->Paired G l₁ l₂
  | _,_,.nil,_=>.nil
  | _,_,.cons r t,f=>.cons (f _ _ r) (Paired.mapP t f)
theorem ObjOk.stay (x:ObjOk P w H h a o) (k:∀ b u,(b=a ∨ H b=some (.own a))->h.get? b=some u->h'.get? b=some u)
    (ho:∀ b,H b=some (.own a)->H' b=some (.own a)) (ht:∀ b xs,H b=some (.tup xs)->H' b=some (.tup xs)):ObjOk P w H' h' a o:=by
  induction o with
  | lst xs=>obtain ⟨z,its,n,r,e⟩:=x;exact ⟨z,its,n,r,k _ _ (.inl rfl) e⟩
  | tup xs=>obtain ⟨z,its,r,ob,e,c⟩:=x;exact ⟨z,its,r,ob,k _ _ (.inl rfl) e,c⟩
  | dK kvs=>obtain ⟨z,y,vs,r,ob,es,ep,e,c⟩:=x;exact ⟨z,y,vs,r,ob,es,ep,k _ _ (.inl rfl) e,c⟩
  | dT kvs =>
    obtain ⟨z,y,xs,r,ob,es,ep,e,c⟩:=x
    exact ⟨z,y,xs,Paired.mapP r fun p q z=>⟨z.1,ht _ _ z.2.1,z.2.2⟩,ob,es,ep,k _ _ (.inl rfl) e,c⟩
  | set S n=>obtain ⟨ob,es,ep,t,e,c⟩:=x;exact ⟨ob,es,ep,t,k _ _ (.inl rfl) e,c⟩
  | ins C dx fs =>
    obtain ⟨d,z,ne,e,mA,⟨od,es,ep,e2,c⟩,r⟩:=x
    exact ⟨ho _ d,z,ne,k _ _ (.inl rfl) e,mA,⟨od,es,ep,k _ _ (.inr d) e2,c⟩,r⟩
  | own y=>obtain ⟨ob,e⟩:=x;exact ⟨ob,k _ _ (.inl rfl) e⟩
  | xd fs=>obtain ⟨mA,⟨od,es,ep,e,c⟩,r⟩:=x;exact ⟨mA,⟨od,es,ep,k _ _ (.inl rfl) e,c⟩,r⟩
  | rng lo hi=>obtain ⟨t,u,v,e⟩:=x;exact ⟨t,u,v,k _ _ (.inl rfl) e⟩
  | frz ob u ih=>obtain ⟨e,q⟩:=x;exact ⟨k _ _ (.inl rfl) e,ih q⟩
  | tbl ps =>
    have e:h.get? a=some { cls:=.none,data:=.fields ps }:=x
    show h'.get? a=some { cls:=.none,data:=.fields ps }
    exact k a _ (.inl rfl) e
  | met f y =>
    have e:h.get? a=some (PySem.W.methodObj (.ref f) (.ref y)):=x
    show h'.get? a=some (PySem.W.methodObj (.ref f) (.ref y))
    exact k a _ (.inl rfl) e
  | ext φ=>obtain ⟨p,⟨o,e⟩,st⟩:=x;exact ⟨st _ _ p fun o q=>k _ _ (.inl rfl) q,⟨o,k _ _ (.inl rfl) e⟩,st⟩
theorem HOk.lt (x:HOk P w H h) (e:H a=some o):a < h.objs.size:=(x a o e).lt
theorem HOk.fresh (x:HOk P w H h) (e:h.objs.size <= a):H a=none:=by
  cases q:H a with
  | none=>rfl
  | some u=>exact absurd (Nat.lt_of_lt_of_le (x.lt q) e) (Nat.lt_irrefl _)
theorem HOk.kept (x:HOk P w H h) (k:∀ b u,h.get? b=some u->h'.get? b=some u):HOk P w H h':=fun a o e =>
  (x a o e).stay (fun b u _ q=>k b u q) (fun _ q=>q) fun _ _ q=>q
theorem HOk.laid (x:HOk P w H h) (k:∀ b u,h.get? b=some u->h'.get? b=some u) (hp:h.objs.size <= a) (new:ObjOk P w (upd H a o) h' a o):HOk P w (upd H a o) h':=fun b u e=>by
  have hn:=x.fresh hp
  by_cases hb:b=a
  · subst hb;rw [upd_same] at e;cases e;exact new
  · rw [upd_ne hb] at e
    exact (x b u e).stay (fun c v _ q=>k c v q) (fun c q=>by rw [upd_ne (ne_of_none q hn)];exact q) fun c xs q=>by rw [upd_ne (ne_of_none q hn)];exact q
end
def Rd (H:Hp) (a:Addr) (u:HO):Prop:=H a=some u ∨ ∃ o,H a=some (.frz o u)
theorem Rd.ok {P:Program} {w:World} {H:Hp} {h:Heap} {a:Addr} {u:HO} (r:Rd H a u) (x:HOk P w H h):ObjOk P w H h a u:=by
  rcases r with r | ⟨o,r⟩
  · exact x a u r
  · obtain ⟨_,q⟩:=x a _ r
    exact q
def Mut:Option HO->Prop
  | some (.lst _)=>True
  | some (.dK _)=>True
  | some (.dT _)=>True
  | some (.set _ _)=>True
  | some (.ins _ _ _)=>True
  | some (.ext _)=>True
  | _=>False
section
variable {P:Program} {w:World} {H:Hp} {h h':Heap} {x e:Addr} {o':HO}
theorem HOk.write (ok:HOk P w H h) (mu:Mut (H x)) (he:e=x ∨ H e=some (.own x)) (k:∀ b u,b ≠ e->h.get? b=some u->h'.get? b=some u) (heo:∃ u,h'.get? e=some u)
    (new:ObjOk P w (upd H x o') h' x o'):HOk P w (upd H x o') h':=fun b u q=>by
  have nown:∀ c y,H c=some (.own y)->c ≠ x:=fun c y r z=>by subst z;rw [r] at mu;exact mu
  have ntup:∀ c xs,H c=some (.tup xs)->c ≠ x:=fun c xs r z=>by subst z;rw [r] at mu;exact mu
  by_cases hb:b=x
  · subst hb;rw [upd_same] at q;cases q;exact new
  · rw [upd_ne hb] at q
    by_cases hbe:b=e
    · have q':H b=some (.own x):=by
        rcases he with z | z
        · exact absurd (hbe.trans z) hb
        · rw [hbe];exact z
      rw [q] at q';cases q'
      obtain ⟨v,hv⟩:=heo
      exact ⟨v,by rw [hbe];exact hv⟩
    · refine (ok b u q).stay (fun c v hc r=>k c v ?_ r) (fun c r=>by rw [upd_ne (nown c b r)];exact r) fun c xs r=>by rw [upd_ne (ntup c xs r)];exact r
      rcases hc with rfl | hc
      · exact hbe
      · rintro rfl
        rcases he with z | z
        · exact nown c b hc z
        · rw [hc] at z;cases z;exact hb rfl
end
structure Un (fs ex:List Addr) (H H':Hp) (h h':Heap):Prop where
  keep:∀ b o,h.get? b=some o->H b=none->b ∉ fs->b ∉ ex->h'.get? b=some o
  slot:∀ b o,h.get? b=some o->H b=none->b ∈ fs->b ∉ ex->∃ sl,h'.get? b=some { o with slots:=sl }
  free:∀ b o,h.get? b=some o->H b=none->b ∉ ex->H' b=none
  there:∀ b o,h.get? b=some o->b ∉ ex->∃ o',h'.get? b=some o'
  tups:∀ b xs,H b=some (.tup xs)->H' b=some (.tup xs)
  frzs:∀ b o u,H b=some (.frz o u)->H' b=some (.frz o u)
  tbls:∀ b ps,H b=some (.tbl ps)->∃ more,H' b=some (.tbl (ps ++ more))
section
variable {fs fs' ex ex':List Addr} {H H1 H2:Hp} {h h1 h2 h':Heap} {a x e:Addr} {o:HO}
theorem Un.any (u:Un fs ex H H1 h h1) {b:Addr} {ob:Obj} (q:h.get? b=some ob) (n:H b=none) (hx:b ∉ ex):∃ sl,h1.get? b=some { ob with slots:=sl }:=by
  by_cases hb:b ∈ fs
  · exact u.slot b ob q n hb hx
  · exact ⟨ob.slots,u.keep b ob q n hb hx⟩
theorem Un.kept (k:∀ b u,h.get? b=some u->h'.get? b=some u):Un fs ex H H h h' :=
  ⟨fun b ob q _ _ _=>k b ob q,fun b ob q _ _ _=>⟨ob.slots,k b ob q⟩,fun _ _ _ n _=>n,fun b ob q _=>⟨ob,k b ob q⟩,fun _ _ q=>q,fun _ _ _ q=>q,fun _ ps q=>⟨#[],by rw [q];simp⟩⟩
theorem Un.refl:Un fs ex H H h h:=Un.kept fun _ _ q=>q
theorem Un.laid (k:∀ b u,h.get? b=some u->h'.get? b=some u) (hp:h.objs.size <= a) (hn:H a=none):Un fs ex H (upd H a o) h h' where
  keep:=fun b u q _ _ _=>k b u q
  slot:=fun b u q _ _ _=>⟨u.slots,k b u q⟩
  free:=fun b u q n _=>by rw [upd_ne (Nat.ne_of_lt (Nat.lt_of_lt_of_le (Heap.lt_size q) hp))];exact n
  there:=fun b u q _=>⟨u,k b u q⟩
  tups:=fun b xs q=>by rw [upd_ne (ne_of_none q hn)];exact q
  frzs:=fun b u xs q=>by rw [upd_ne (ne_of_none q hn)];exact q
  tbls:=fun b ps q=>⟨#[],by rw [upd_ne (ne_of_none q hn),q];simp⟩
theorem Un.write (mu:Mut (H x)) (he:e=x ∨ H e=some (.own x)) (k:∀ b u,b ≠ e->h.get? b=some u->h'.get? b=some u) (heo:∃ u,h'.get? e=some u):Un fs ex H (upd H x o) h h':=by
  have hx:∀ b,H b=none->b ≠ x:=fun b n z=>by subst z;rw [n] at mu;exact mu
  have hb:∀ b,H b=none->b ≠ e:=fun b n z=>by
    subst z
    rcases he with r | r
    · exact hx b n r
    · rw [n] at r;cases r
  have hm:∀ b u,H b=some u->¬ Mut (some u)->b ≠ x:=fun b u q nm z=>by subst z;rw [q] at mu;exact nm mu
  refine ⟨fun b u q n _ _=>k b u (hb b n) q,fun b u q n _ _=>⟨u.slots,k b u (hb b n) q⟩,fun b u q n _=>by rw [upd_ne (hx b n)];exact n,fun b u q _=>?_,
    fun b xs q=>by rw [upd_ne (hm b _ q fun z=>z)];exact q,fun b u xs q=>by rw [upd_ne (hm b _ q fun z=>z)];exact q,fun b ps q=>⟨#[],by rw [upd_ne (hm b _ q fun z=>z),q];simp⟩⟩
  by_cases hbe:b=e
  · subst hbe;exact heo
  · exact ⟨u,k b u hbe q⟩
end
def trk (h:Heap) (H:Hp):List Addr:=(List.range h.objs.size).filter fun a=>(H a).isSome
def hidT (h:Heap) (H:Hp):Heap:=PySem.W.hideAll h (trk h H)
theorem hidT_size (h:Heap) (H:Hp):(hidT h H).objs.size=h.objs.size:=PySem.W.hideAll_size _ _
theorem hidT_get {h:Heap} {H:Hp} {b:Addr} {o:Obj} (e:h.get? b=some o) (n:H b=none):(hidT h H).get? b=some o :=
  PySem.W.hideAll_get _ e fun hm=>by
    have q:(H b).isSome=true:=(List.mem_filter.mp hm).2
    rw [n] at q;simp at q
theorem of_hidT {h:Heap} {H:Hp} {b:Addr} {o:Obj} (e:(hidT h H).get? b=some o):h.get? b=some o/\H b=none:=by
  have e':h.get? b=some o:=PySem.W.of_hideAll (trk h H) e
  refine ⟨e',?_⟩
  cases q:H b with
  | none=>rfl
  | some x =>
    have hm:b ∈ trk h H:=List.mem_filter.mpr ⟨List.mem_range.mpr (Heap.lt_size e'),by simp [q]⟩
    have z:(hidT h H).get? b=none:=PySem.W.hideAll_none (trk h H) hm
    rw [z] at e;cases e
def allNews (g h:Heap) (L:Addr):List (Addr × Obj):=(List.range h.objs.size).filterMap fun a=>if a=L ∨ (g.get? a).isSome=true then none else (h.get? a).map fun o=>(a,o)
def rest (g h:Heap) (L d:Addr):List (Addr × Obj):=(allNews g h L).filter fun p=>decide (p.1 ≠ d)
end L2
namespace L2
open PySem PySem.Spec PyProof.Rows
structure Mod (K:PySem.W.Frag) (mg:Str->Option Value) (base:Heap):Prop where
  kin:K.In base
  glob:base.Ns mainGlobals mg
  blt:∃ mb,base.Ns builtinsNs mb/\∀ x:Str,x ≠ "__name__"->mb x=bootBuiltins x
  nolimit:base.NoLimit
structure Cx where
  prog:Program
  w:World
  K:PySem.W.Frag
  mg:Str->Option Value
  base:Heap
  A:Around
  N:List Str
  s₀:Shared
  H₀:Hp
  env:Env
  outer:List Env
  stack:List Env
  ex:List Addr
  fn:Str->Bool
  calm:Bool
  pn:List (Addr × Obj)
  xe:Value->Shared->Prop
def frs (l:List Env):List Addr:=l.filterMap (·.frame)
abbrev Cx.fs (X:Cx):List Addr:=frs X.outer
def Vis (sc:Scope) (x:Str):Prop:=sc.names.lookup x=some .local ∨ sc.names.lookup x=some .cell ∨ sc.names.lookup x=some .free
def Loc (sc:Scope) (x:Str):Prop:=sc.names.lookup x=some .local ∨ sc.names.lookup x=some .cell
def Look (env:Env) (h:Heap) (m:Str->Option Value) (x:Str) (u:Value):Prop :=
  (env.kindOf x=some .local/\m x=some u) ∨ ((env.kindOf x=some .cell ∨ env.kindOf x=some .free)/\∃ c,env.cells.lookup x=some c/\h.IsCell c (some u))
structure Cx.Ok (X:Cx):Prop where
  mod:Mod X.K X.mg X.base
  kind:X.env.scope.kind=.function
  glob:X.env.globals=mainGlobals
  blt:X.env.builtins=builtinsNs
  above:X.s₀.heap.objs.size <= X.env.locals
  inj:∀ x y c,X.env.cells.lookup x=some c->X.env.cells.lookup y=some c->x=y
  has:∀ x,(X.env.kindOf x=some .cell ∨ X.env.kindOf x=some .free)->∃ c,X.env.cells.lookup x=some c
  cab:∀ x c,X.fn x=true->X.env.cells.lookup x=some c->X.s₀.heap.objs.size <= c
  hd:X.calm=true->X.A.handled=none
  frames:X.A.frames=some X.stack
  stk:X.stack=X.outer ∨ (X.stack=X.env :: X.outer/\X.env.frame=some X.env.locals)
  exf:∀ b ∈ X.ex,b ≠ X.env.locals/\∀ x c,X.env.cells.lookup x=some c->c ≠ b
  bs:∀ b o,X.base.get? b=some o->X.s₀.heap.get? b=some o/\X.H₀ b=none
  bsz:X.base.objs.size <= X.s₀.heap.objs.size
  noex:∀ b o,X.base.get? b=some o->b ∉ X.ex
  exfs:∀ b ∈ X.ex,b ∉ X.fs
  funs:X.s₀.heap.FunFrames X.base X.outer
  frf:∀ b ∈ X.fs,X.H₀ b=none
structure Inv (X:Cx) (pins:List (Addr × Obj)) (σ:List (Option V)) (H:Hp) (s:Shared):Prop where
  ok:X.Ok
  os:s.os=X.s₀.os
  bare:AllBare s.gens
  base:Un X.fs X.ex X.H₀ H X.s₀.heap s.heap
  loc:∃ m,s.heap.Ns X.env.locals m/\∀ (i:Nat) (x:Str) (v:V),X.N[i]?=some x->σ[i]?=some (some v)->Vis X.env.scope x->∃ u,RelV v u/\Look X.env s.heap m x u
  cell:∀ x c,X.env.cells.lookup x=some c->∃ v,s.heap.IsCell c v
  free:H X.env.locals=none
  freeC:∀ x c,X.env.cells.lookup x=some c->H c=none
  pin:∀ p ∈ X.pn ++ pins,s.heap.get? p.1=some p.2/\H p.1=none/\p.1 ≠ X.env.locals/\p.1 ∉ X.fs/\∀ v,p.2.data ≠ .cell v
  hok:HOk X.prog X.w H s.heap
  len:σ.length=X.N.length
section
variable {X:Cx} {pins:List (Addr × Obj)} {σ:List (Option V)} {H H':Hp} {s:Shared} {h':Heap}
theorem Cx.Ok.nofr (ok:X.Ok) {b:Addr} {o:Obj} (e:X.base.get? b=some o):b ∉ X.fs:=fun hb=>by
  have:=(ok.funs.mem hb).1
  rw [e] at this;cases this
theorem Inv.bs (I:Inv X pins σ H s):∀ b o,X.base.get? b=some o->s.heap.get? b=some o/\H b=none:=fun b o e =>
  ⟨I.base.keep b o (I.ok.bs b o e).1 (I.ok.bs b o e).2 (I.ok.nofr e) (I.ok.noex b o e),I.base.free b o (I.ok.bs b o e).1 (I.ok.bs b o e).2 (I.ok.noex b o e)⟩
theorem Inv.bk (I:Inv X pins σ H s):∀ b o,X.base.get? b=some o->s.heap.get? b=some o:=fun b o e=>(I.bs b o e).1
theorem Inv.mod (I:Inv X pins σ H s):Mod X.K X.mg X.base:=I.ok.mod
theorem Inv.kIn (I:Inv X pins σ H s):X.K.In s.heap:=I.ok.mod.kin.keeps I.bk
theorem Inv.nolimit (I:Inv X pins σ H s):s.heap.NoLimit:=I.ok.mod.nolimit.keeps I.bk
theorem Inv.lt (I:Inv X pins σ H s):X.env.locals < s.heap.objs.size:=let ⟨_,hn,_⟩:=I.loc;hn.lt
theorem Inv.sz (I:Inv X pins σ H s):X.s₀.heap.objs.size <= s.heap.objs.size:=Nat.le_trans I.ok.above (Nat.le_of_lt I.lt)
theorem Inv.nofs (I:Inv X pins σ H s) {a:Addr} (h:s.heap.objs.size <= a):a ∉ X.fs:=fun hb=>by
  obtain ⟨_,o,ho,_⟩:=I.ok.funs.mem hb
  exact absurd (Nat.lt_of_lt_of_le (Heap.lt_size ho) (Nat.le_trans I.sz h)) (Nat.lt_irrefl _)
theorem Inv.cne (I:Inv X pins σ H s):∀ x c,X.env.cells.lookup x=some c->c ≠ X.env.locals:=fun x c e z=>by
  obtain ⟨v,o,ho,hd⟩:=I.cell x c e
  obtain ⟨m,⟨o',es,ep,ho',hd',_⟩,_⟩:=I.loc
  rw [z,ho'] at ho;cases ho;rw [hd'] at hd;cases hd
theorem Inv.funs (I:Inv X pins σ H s):s.heap.FunFrames X.base X.outer:=by
  have all:∀ (l:List Env),(∀ b ∈ frs l,b ∈ X.fs)->X.s₀.heap.FunFrames X.base l->s.heap.FunFrames X.base l:=by
    intro l
    induction l with
    | nil=>intro _ _;trivial
    | cons env r ih =>
      intro hs hl
      obtain ⟨hk,⟨L,o,hf,hn,ho,hd⟩,hr⟩:=hl
      have hL:L ∈ X.fs:=hs L (by unfold frs;rw [List.filterMap_cons,hf];exact List.mem_cons_self)
      obtain ⟨sl,e⟩:=I.base.slot L o ho (I.ok.frf L hL) hL fun z=>I.ok.exfs L z hL
      exact ⟨hk,⟨L,_,hf,hn,e,hd⟩,ih (fun b hb=>hs b (by unfold frs;rw [List.filterMap_cons,hf];exact List.mem_cons_of_mem _ hb)) hr⟩
  exact all X.outer (fun _ hb=>hb) I.ok.funs
theorem Inv.stack (I:Inv X pins σ H s):s.heap.FunFrames X.base X.stack:=by
  rcases I.ok.stk with e | ⟨e,hf⟩
  · rw [e];exact I.funs
  · rw [e]
    obtain ⟨m,hn,_⟩:=I.loc
    refine .cons (by rw [I.ok.kind];decide) hf hn ?_ I.funs
    exact Heap.get?_none_of_le (Nat.le_trans I.ok.bsz I.ok.above)
theorem Inv.stkSub (I:Inv X pins σ H s):∀ b ∈ frs X.stack,b ∈ X.env.locals :: X.fs:=fun b hb=>by
  rcases I.ok.stk with e | ⟨e,hf⟩
  · rw [e] at hb;exact List.mem_cons_of_mem _ hb
  · rw [e] at hb
    unfold frs at hb
    rw [List.filterMap_cons,hf] at hb
    exact hb
theorem Inv.stkFree (I:Inv X pins σ H s):∀ b ∈ frs X.stack,H b=none:=fun b hb=>by
  rcases List.mem_cons.mp (I.stkSub b hb) with e | hb
  · rw [e];exact I.free
  · obtain ⟨_,o,ho,_⟩:=I.ok.funs.mem hb
    exact I.base.free b o ho (I.ok.frf b hb) fun z=>I.ok.exfs b z hb
theorem Inv.step {g':Array GenState} {t':Nat} {d':Drawn} {ch:List Addr} (I:Inv X pins σ H s)
    (hch:∀ b ∈ ch,(b ∈ X.ex ∨ X.s₀.heap.objs.size <= b)/\b ≠ X.env.locals/\(∀ x c,X.env.cells.lookup x=some c->c ≠ b)/\∀ p ∈ X.pn ++ pins,p.1 ≠ b)
    (keep:∀ b o,b ≠ X.env.locals->b ∉ X.fs->b ∉ ch->s.heap.get? b=some o->H b=none->h'.get? b=some o)
    (slot:∀ b o,b ≠ X.env.locals->b ∈ X.fs->b ∉ ch->s.heap.get? b=some o->H b=none->∃ sl,h'.get? b=some { o with slots:=sl }) (free:∀ b o,b ∉ ch->s.heap.get? b=some o->H b=none->H' b=none)
    (there:∀ b o,b ∉ ch->s.heap.get? b=some o->∃ o',h'.get? b=some o')
    (tups:∀ b xs,H b=some (.tup xs)->H' b=some (.tup xs)) (frzs:∀ b o u,H b=some (.frz o u)->H' b=some (.frz o u)) (tbls:∀ b ps,H b=some (.tbl ps)->∃ more,H' b=some (.tbl (ps ++ more)))
    (ns:∀ m,s.heap.Ns X.env.locals m->h'.Ns X.env.locals m) (hok:HOk X.prog X.w H' h') (hg:AllBare g') :
    Inv X pins σ H' { s with heap:=h',gens:=g',drawn:=d',toks:=t' }:=by
  have neL:∀ b o,X.s₀.heap.get? b=some o->b ≠ X.env.locals:=fun b o e=>Nat.ne_of_lt (Nat.lt_of_lt_of_le (Heap.lt_size e) I.ok.above)
  have neC:∀ b o,X.s₀.heap.get? b=some o->b ∉ X.ex->b ∉ ch:=fun b o e hx hb=>by
    rcases (hch b hb).1 with z | z
    · exact hx z
    · exact absurd (Nat.lt_of_lt_of_le (Heap.lt_size e) z) (Nat.lt_irrefl _)
  have cellK:∀ x c,X.env.cells.lookup x=some c->∀ v,s.heap.IsCell c v->h'.IsCell c v:=fun x c e v ⟨o,ho,hd⟩=>by
    have nch:c ∉ ch:=fun z=>(hch c z).2.2.1 x c e rfl
    by_cases hc:c ∈ X.fs
    · obtain ⟨sl,q⟩:=slot c o (I.cne x c e) hc nch ho (I.freeC x c e)
      exact ⟨_,q,hd⟩
    · exact ⟨o,keep c o (I.cne x c e) hc nch ho (I.freeC x c e),hd⟩
  refine ⟨I.ok,I.os,hg,⟨fun b o e n hb hx=>?_,fun b o e n hb hx=>?_,fun b o e n hx=>?_,fun b o e hx=>?_,fun b xs e=>tups b xs (I.base.tups b xs e),fun b o xs e=>frzs b o xs (I.base.frzs b o xs e),fun b ps e=>?_⟩,?_,fun x c e=>?_,?_,fun x c e=>?_,fun p hp=>?_,hok,I.len⟩
  · exact keep b o (neL b o e) hb (neC b o e hx) (I.base.keep b o e n hb hx) (I.base.free b o e n hx)
  · obtain ⟨sl,e1⟩:=I.base.slot b o e n hb hx
    obtain ⟨sl',e2⟩:=slot b _ (neL b o e) hb (neC b o e hx) e1 (I.base.free b o e n hx)
    exact ⟨sl',e2⟩
  · obtain ⟨o',e1⟩:=I.base.there b o e hx
    exact free b o' (neC b o e hx) e1 (I.base.free b o e n hx)
  · obtain ⟨o',e1⟩:=I.base.there b o e hx
    exact there b o' (neC b o e hx) e1
  · obtain ⟨m1,e1⟩:=I.base.tbls b ps e
    obtain ⟨m2,e2⟩:=tbls b _ e1
    exact ⟨m1 ++ m2,by rw [e2,Array.append_assoc]⟩
  · obtain ⟨m,hn,hl⟩:=I.loc
    refine ⟨m,ns m hn,fun i x v e1 e2 e3=>?_⟩
    obtain ⟨u,r,l⟩:=hl i x v e1 e2 e3
    refine ⟨u,r,?_⟩
    rcases l with l | ⟨k,c,e,z⟩
    · exact .inl l
    · exact .inr ⟨k,c,e,cellK x c e _ z⟩
  · obtain ⟨v,z⟩:=I.cell x c e
    exact ⟨v,cellK x c e v z⟩
  · obtain ⟨m,⟨o,_,_,ho,_⟩,_⟩:=I.loc
    exact free _ o (fun z=>(hch _ z).2.1 rfl) ho I.free
  · obtain ⟨v,o,ho,hd⟩:=I.cell x c e
    exact free c o (fun z=>(hch c z).2.2.1 x c e rfl) ho (I.freeC x c e)
  · obtain ⟨e,n,ne,nf,d⟩:=I.pin p hp
    have nch:p.1 ∉ ch:=fun z=>(hch p.1 z).2.2.2 p hp rfl
    exact ⟨keep p.1 p.2 ne nf nch e n,free p.1 p.2 nch e n,ne,nf,d⟩
theorem Inv.un {t':Nat} (I:Inv X pins σ H s) (u:Un X.fs [] H H' s.heap h') (hok:HOk X.prog X.w H' h'):Inv X pins σ H' { s with heap:=h',toks:=t' }:=by
  obtain ⟨m,⟨o,es,ep,ho,r⟩,_⟩:=id I.loc
  obtain ⟨sl,hL⟩:=u.any ho I.free (by simp)
  exact I.step (g':=s.gens) (d':=s.drawn) (ch:=[]) (fun _ z=>nomatch z) (fun b o _ hb _ e n=>u.keep b o e n hb (by simp)) (fun b o _ hb _ e n=>u.slot b o e n hb (by simp)) (fun b o _ e n=>u.free b o e n (by simp)) (fun b o _ e=>u.there b o e (by simp)) u.tups u.frzs u.tbls (fun m' hm=>by
    obtain ⟨o',es',ep',ho',r'⟩:=hm
    rw [ho] at ho';cases ho'
    exact ⟨_,es',ep',hL,r'⟩) hok I.bare
theorem Inv.call {g':Array GenState} {t':Nat} {d':Drawn} {ch:List Addr} (I:Inv X pins σ H s) (u:Un (frs X.stack) ch H H' s.heap h') (hok:HOk X.prog X.w H' h') (hg:AllBare g')
    (hch:∀ b ∈ ch,(b ∈ X.ex ∨ X.s₀.heap.objs.size <= b)/\b ≠ X.env.locals/\(∀ x c,X.env.cells.lookup x=some c->c ≠ b)/\∀ p ∈ X.pn ++ pins,p.1 ≠ b) :
    Inv X pins σ H' { s with heap:=h',gens:=g',drawn:=d',toks:=t' }:=by
  obtain ⟨m,⟨o,es,ep,ho,r⟩,_⟩:=id I.loc
  obtain ⟨sl,hL⟩:=u.any ho I.free fun z=>(hch _ z).2.1 rfl
  exact I.step (ch:=ch) hch (fun b o hL hb hc e n=>u.keep b o e n (fun z=>(List.mem_cons.mp (I.stkSub b z)).elim hL hb) hc) (fun b o _ _ hc e n=>u.any e n hc) (fun b o hc e n=>u.free b o e n hc) (fun b o hc e=>u.there b o e hc) u.tups u.frzs u.tbls (fun m' hm=>by
    obtain ⟨o',es',ep',ho',r'⟩:=hm
    rw [ho] at ho';cases ho'
    exact ⟨_,es',ep',hL,r'⟩) hok hg
theorem Inv.turned {t':Nat} {it:Addr} (I:Inv X pins σ H s) (k:∀ b o,b ≠ it->s.heap.get? b=some o->h'.get? b=some o) (hn:H it=none) (hL:it ≠ X.env.locals)
    (h1:it ∈ X.ex ∨ X.s₀.heap.objs.size <= it) (h2:∀ x c,X.env.cells.lookup x=some c->c ≠ it) (h3:∀ p ∈ X.pn ++ pins,p.1 ≠ it):Inv X pins σ H { s with heap:=h',toks:=t' }:=by
  have nit:∀ b u,H b=some u->b ≠ it:=fun b u e z=>by rw [z,hn] at e;cases e
  refine I.step (g':=s.gens) (d':=s.drawn) (ch:=[it]) (fun b hb=>?_) (fun b o _ _ hc e _=>k b o (fun z=>hc (by simp [z])) e) (fun b o _ _ hc e _=>⟨o.slots,k b o (fun z=>hc (by simp [z])) e⟩) (fun _ _ _ _ n=>n)
    (fun b o hc e=>⟨o,k b o (fun z=>hc (by simp [z])) e⟩) (fun _ _ e=>e) (fun _ _ _ e=>e) (fun b ps e=>⟨#[],by rw [e];simp⟩) (fun m hm=>?_) (fun b u e=>?_) I.bare
  · have e:b=it:=by simpa using hb
    subst e
    exact ⟨h1,hL,h2,h3⟩
  · obtain ⟨o,es,ep,ho,r⟩:=hm
    exact ⟨o,es,ep,k _ o (Ne.symm hL) ho,r⟩
  · refine (I.hok b u e).stay (fun c v hc q=>k c v ?_ q) (fun _ q=>q) fun _ _ q=>q
    rcases hc with z | z
    · rw [z];exact nit b u e
    · exact nit c _ z
theorem Inv.tok (I:Inv X pins σ H s) (t:Nat):Inv X pins σ H { s with toks:=t }:=I.un (h':=s.heap) (t':=t) Un.refl I.hok
theorem Inv.kept {t':Nat} (I:Inv X pins σ H s) (k:∀ b u,s.heap.get? b=some u->h'.get? b=some u):Inv X pins σ H { s with heap:=h',toks:=t' }:=I.un (Un.kept k) (I.hok.kept k)
theorem Inv.laid {a:Addr} {o:HO} {t':Nat} (I:Inv X pins σ H s) (k:∀ b u,s.heap.get? b=some u->h'.get? b=some u) (hp:s.heap.objs.size <= a) (new:ObjOk X.prog X.w (upd H a o) h' a o) :
    Inv X pins σ (upd H a o) { s with heap:=h',toks:=t' }:=I.un (Un.laid k hp (I.hok.fresh hp)) (I.hok.laid k hp new)
theorem Inv.write {x e:Addr} {o:HO} {t':Nat} (I:Inv X pins σ H s) (mu:Mut (H x)) (he:e=x ∨ H e=some (.own x)) (k:∀ b u,b ≠ e->s.heap.get? b=some u->h'.get? b=some u) (heo:∃ u,h'.get? e=some u)
    (new:ObjOk X.prog X.w (upd H x o) h' x o):Inv X pins σ (upd H x o) { s with heap:=h',toks:=t' }:=I.un (Un.write mu he k heo) (I.hok.write mu he k heo new)
theorem Inv.weak {σ':List (Option V)} (I:Inv X pins σ H s) (hl:σ'.length=σ.length) (w:∀ (i:Nat) v,σ'[i]?=some (some v)->σ[i]?=some (some v)):Inv X pins σ' H s :=
  ⟨I.ok,I.os,I.bare,I.base,let ⟨m,hn,hl'⟩:=I.loc;⟨m,hn,fun i x v e1 e2 e3=>hl' i x v e1 (w i v e2) e3⟩,I.cell,I.free,I.freeC,I.pin,I.hok,hl.trans I.len⟩
theorem Inv.pins_of {pins':List (Addr × Obj)} (I:Inv X pins σ H s) (h:∀ p ∈ pins',s.heap.get? p.1=some p.2/\H p.1=none/\p.1 ≠ X.env.locals/\p.1 ∉ X.fs/\∀ v,p.2.data ≠ .cell v):Inv X pins' σ H s :=
  ⟨I.ok,I.os,I.bare,I.base,I.loc,I.cell,I.free,I.freeC,fun p hp=>(List.mem_append.mp hp).elim (fun z=>I.pin p (List.mem_append_left _ z)) (h p),I.hok,I.len⟩
theorem nodup_ix {N:List Str} (hN:N.Nodup) {i j:Nat} {x:Str} (a:N[i]?=some x) (b:N[j]?=some x):i=j:=by
  obtain ⟨h1,e1⟩:=List.getElem?_eq_some_iff.mp a
  obtain ⟨h2,e2⟩:=List.getElem?_eq_some_iff.mp b
  exact (List.getElem_inj hN).mp (e1.trans e2.symm)
theorem store_ok2 {M:Model} {A:Around} {E:Value->Shared->Prop} {i:Nat} {x:Str} {v:V} {u:Value} {Q:Unit->Shared->Prop} (I:Inv X pins σ H s) (hN:X.N.Nodup) (hi:X.N[i]?=some x) (hx:Loc X.env.scope x) (r:RelV v u)
    (h:∀ s',Inv X pins (σ.set i (some v)) H s'->(∃ a,Heap.SameBut a s.heap s'.heap/\(a=X.env.locals ∨ X.env.cells.lookup x=some a))->Q () s') (hf:X.fn x=true ∨ X.env.scope.names.lookup x=some .local:=by first | exact .inl rfl | exact .inr rfl | assumption):wpAny M A (storeName X.env x u) Q E s:=by
  obtain ⟨m,hn,hl⟩:=id I.loc
  have hcls:(X.env.scope.kind == .class || (X.env.scope.kind == .module && X.env.locals != X.env.globals))=false:=by rw [I.ok.kind];rfl
  have hiσ:i < σ.length:=by rw [I.len];exact (List.getElem?_eq_some_iff.mp hi).1
  have cne:=I.cne
  have tracked:∀ {a:Addr} {h':Heap},(∃ o,s.heap.get? a=some o/\H a=none)->Heap.SameBut a s.heap h'->HOk X.prog X.w H h':=fun {a h'} ha hs b ob e=>by
    obtain ⟨_,_,hfree⟩:=ha
    refine (I.hok b ob e).stay (fun c w' hc q=>(hs.2 c ?_).trans q) (fun _ q=>q) fun _ _ q=>q
    rintro rfl
    rcases hc with rfl | hc
    · rw [hfree] at e;cases e
    · rw [hfree] at hc;cases hc
  rcases hx with hk | hk
  · refine wpAny_storeName_local hk hn (fun h' hn' hs=>?_) hcls
    obtain ⟨oL,_,_,hoL,_⟩:=id hn
    refine h _ ⟨I.ok,I.os,I.bare,⟨fun b o e n hb hx=>?_,fun b o e n hb hx=>?_,I.base.free,fun b o e hx=>?_,I.base.tups,I.base.frzs,I.base.tbls⟩,⟨_,hn',fun j y v' e1 e2 e3=>?_⟩,fun y c e=>?_,I.free,I.freeC,fun p hp=>?_,tracked ⟨oL,hoL,I.free⟩ hs,by simpa using I.len⟩ ⟨_,hs,.inl rfl⟩
    · exact (hs.2 b (Nat.ne_of_lt (Nat.lt_of_lt_of_le (Heap.lt_size e) I.ok.above))).trans (I.base.keep b o e n hb hx)
    · obtain ⟨sl,e1⟩:=I.base.slot b o e n hb hx
      exact ⟨sl,(hs.2 b (Nat.ne_of_lt (Nat.lt_of_lt_of_le (Heap.lt_size e) I.ok.above))).trans e1⟩
    · obtain ⟨o',e1⟩:=I.base.there b o e hx
      exact ⟨o',(hs.2 b (Nat.ne_of_lt (Nat.lt_of_lt_of_le (Heap.lt_size e) I.ok.above))).trans e1⟩
    · by_cases hj:j=i
      · subst hj
        rw [hi] at e1;cases e1
        rw [List.getElem?_set_self hiσ] at e2
        cases e2
        exact ⟨u,r,.inl ⟨hk,by simp⟩⟩
      · rw [List.getElem?_set_ne (Ne.symm hj)] at e2
        obtain ⟨u',r',q⟩:=hl j y v' e1 e2 e3
        refine ⟨u',r',?_⟩
        rcases q with ⟨k,e⟩ | ⟨k,c,e,z⟩
        · refine .inl ⟨k,?_⟩
          have:y ≠ x:=fun e=>hj (nodup_ix hN e1 (e ▸ hi))
          simp [this,e]
        · exact .inr ⟨k,c,e,z.sameBut hs (cne y c e)⟩
    · obtain ⟨w',z⟩:=I.cell y c e
      exact ⟨w',z.sameBut hs (cne y c e)⟩
    · obtain ⟨e,n,ne,nf,d⟩:=I.pin p hp
      exact ⟨(hs.2 p.1 ne).trans e,n,ne,nf,d⟩
  · have hfn:X.fn x=true:=by
      rcases hf with z | z
      · exact z
      · rw [z] at hk;cases hk
    obtain ⟨c,hc⟩:=I.ok.has x (.inl hk)
    obtain ⟨w',z⟩:=I.cell x c hc
    refine wpAny_storeName_cell I.ok.kind hk hc z (fun h' hc' hs=>?_)
    obtain ⟨oc,hoc,hocd⟩:=id z
    refine h { s with heap:=h' } ⟨I.ok,I.os,I.bare,⟨fun b o e n hb hx=>?_,fun b o e n hb hx=>?_,I.base.free,fun b o e hx=>?_,I.base.tups,I.base.frzs,I.base.tbls⟩,⟨m,hn.sameBut hs (Ne.symm (cne x c hc)),fun j y v' e1 e2 e3=>?_⟩,fun y c' e=>?_,I.free,I.freeC,fun p hp=>?_,tracked ⟨oc,hoc,I.freeC x c hc⟩ hs,by simpa using I.len⟩ ⟨c,hs,.inr hc⟩
    · exact (hs.2 b (Nat.ne_of_lt (Nat.lt_of_lt_of_le (Heap.lt_size e) (I.ok.cab x c hfn hc)))).trans (I.base.keep b o e n hb hx)
    · obtain ⟨sl,e1⟩:=I.base.slot b o e n hb hx
      exact ⟨sl,(hs.2 b (Nat.ne_of_lt (Nat.lt_of_lt_of_le (Heap.lt_size e) (I.ok.cab x c hfn hc)))).trans e1⟩
    · obtain ⟨o',e1⟩:=I.base.there b o e hx
      exact ⟨o',(hs.2 b (Nat.ne_of_lt (Nat.lt_of_lt_of_le (Heap.lt_size e) (I.ok.cab x c hfn hc)))).trans e1⟩
    · by_cases hj:j=i
      · subst hj
        rw [hi] at e1;cases e1
        rw [List.getElem?_set_self hiσ] at e2
        cases e2
        exact ⟨u,r,.inr ⟨.inl hk,c,hc,hc'⟩⟩
      · rw [List.getElem?_set_ne (Ne.symm hj)] at e2
        obtain ⟨u',r',q⟩:=hl j y v' e1 e2 e3
        refine ⟨u',r',?_⟩
        rcases q with q | ⟨k,c',e,z'⟩
        · exact .inl q
        · refine .inr ⟨k,c',e,z'.sameBut hs ?_⟩
          rintro rfl
          exact hj (nodup_ix hN e1 (I.ok.inj _ _ _ e hc ▸ hi))
    · by_cases hcc:c'=c
      · subst hcc;exact ⟨_,hc'⟩
      · obtain ⟨w2,z2⟩:=I.cell y c' e
        exact ⟨w2,z2.sameBut hs hcc⟩
    · obtain ⟨e,n,ne,nf,d⟩:=I.pin p hp
      refine ⟨(hs.2 p.1 ?_).trans e,n,ne,nf,d⟩
      intro q
      rw [q,hoc] at e
      have q':oc=p.2:=Option.some.inj e
      exact d w' (by rw [<- q'];exact hocd)
theorem store_ok {M:Model} {A:Around} {E:Value->Shared->Prop} {i:Nat} {x:Str} {v:V} {u:Value} {Q:Unit->Shared->Prop} (I:Inv X pins σ H s) (hN:X.N.Nodup) (hi:X.N[i]?=some x) (hx:Loc X.env.scope x) (r:RelV v u)
    (h:∀ s',Inv X pins (σ.set i (some v)) H s'->Q () s') (hf:X.fn x=true ∨ X.env.scope.names.lookup x=some .local:=by first | exact .inl rfl | exact .inr rfl | assumption):wpAny M A (storeName X.env x u) Q E s :=
  store_ok2 I hN hi hx r (fun s' I' _=>h s' I') hf
theorem Inv.call' {s':Shared} {ch:List Addr} (I:Inv X pins σ H s) (ho:s'.os=s.os) (u:Un (frs X.stack) ch H H' s.heap s'.heap) (hok:HOk X.prog X.w H' s'.heap) (hg:AllBare s'.gens)
    (hch:∀ b ∈ ch,(b ∈ X.ex ∨ X.s₀.heap.objs.size <= b)/\b ≠ X.env.locals/\(∀ x c,X.env.cells.lookup x=some c->c ≠ b)/\∀ p ∈ X.pn ++ pins,p.1 ≠ b):Inv X pins σ H' s':=by
  obtain ⟨h',g',d',t',o'⟩:=s'
  have e:o'=s.os:=ho
  subst e
  exact I.call (g':=g') (t':=t') (d':=d') u hok hg hch
end
abbrev XK:=Value->Option Addr->Hp->Prop
abbrev St:=List (Option V)
abbrev VK:=V->Hp->Prop
abbrev TE:=St->Hp->VK->Prop
abbrev TT:=St->Hp->(Bool->Hp->Prop)->Prop
abbrev TA:=St->Hp->(List V->Hp->Prop)->Prop
structure Ends where
  nx:St->Hp->Prop
  rt:VK
  bk:St->Hp->Prop:=fun _ _=>False
  ct:St->Hp->Prop:=fun _ _=>False
abbrev TS:=Ends->St->Hp->Prop
def EP (X:Cx) (pins:List (Addr × Obj)) (σ:St) (Q:VK) (u:Value) (s':Shared):Prop:=∃ v H',Inv X pins σ H' s'/\RelV v u/\Q v H'
def TP (X:Cx) (pins:List (Addr × Obj)) (σ:St) (Q:Bool->Hp->Prop) (b:Bool) (s':Shared):Prop:=∃ H',Inv X pins σ H' s'/\Q b H'
def AP (X:Cx) (pins:List (Addr × Obj)) (σ:St) (Q:List V->Hp->Prop) (us:List Value) (s':Shared):Prop:=∃ vs H',Inv X pins σ H' s'/\Vals vs us/\Q vs H'
def SP (X:Cx) (pins:List (Addr × Obj)) (D:Ends) (f:Flow) (s':Shared):Prop :=
  match f with
  | .next=>∃ σ' H',Inv X pins σ' H' s'/\D.nx σ' H'
  | .brk=>∃ σ' H',Inv X pins σ' H' s'/\D.bk σ' H'
  | .cont=>∃ σ' H',Inv X pins σ' H' s'/\D.ct σ' H'
  | .ret u=>∃ v σ' H',Inv X pins σ' H' s'/\RelV v u/\D.rt v H'
def PE (X:Cx) (e:Expr) (t:TE):Prop :=
  ∀ (pins:List (Addr × Obj)) (s:Shared) (σ:St) (H:Hp) (Q:VK),Inv X pins σ H s->t σ H Q->wpAny (model X.prog X.w) X.A (eval e X.env) (EP X pins σ Q) X.xe s
def PT (X:Cx) (e:Expr) (t:TT):Prop :=
  ∀ (pins:List (Addr × Obj)) (s:Shared) (σ:St) (H:Hp) (Q:Bool->Hp->Prop),Inv X pins σ H s->t σ H Q->wpAny (model X.prog X.w) X.A (isTrue e X.env (eval e X.env)) (TP X pins σ Q) X.xe s
def PW (X:Cx) (e:Expr) (t:TT):Prop :=
  ∀ (whole:Sem Value) (pins:List (Addr × Obj)) (s:Shared) (σ:St) (H:Hp) (Q:Bool->Hp->Prop),Inv X pins σ H s->t σ H Q->wpAny (model X.prog X.w) X.A (isTrue e X.env whole) (TP X pins σ Q) X.xe s
theorem PW.pt {X:Cx} {e:Expr} {t:TT} (h:PW X e t):PT X e t:=h _
def PA (X:Cx) (es:List Expr) (t:TA):Prop :=
  ∀ (pos:Pos) (pins:List (Addr × Obj)) (s:Shared) (σ:St) (H:Hp) (Q:List V->Hp->Prop),Inv X pins σ H s->t σ H Q->wpAny (model X.prog X.w) X.A (spliced (backTo pos (starEach es X.env))) (AP X pins σ Q) X.xe s
def PS (X:Cx) (st:Stmt) (t:TS):Prop :=
  ∀ (pins:List (Addr × Obj)) (s:Shared) (σ:St) (H:Hp) (D:Ends),Inv X pins σ H s->t D σ H->wpAny (model X.prog X.w) X.A (exec st X.env) (SP X pins D) X.xe s
def PSs (X:Cx) (st:List Stmt) (t:TS):Prop :=
  ∀ (pins:List (Addr × Obj)) (s:Shared) (σ:St) (H:Hp) (D:Ends),Inv X pins σ H s->t D σ H->wpAny (model X.prog X.w) X.A (execs st X.env) (SP X pins D) X.xe s
theorem thn {α:Type} {t:Sem α} {Q Q':α->Shared->Prop} {M:Model} {A:Around} {E:Value->Shared->Prop} {s:Shared} (h:wpAny M A t Q E s) (hQ:∀ a s,Q a s->Q' a s):wpAny M A t Q' E s:=wpAny_mono h hQ fun _ _ x=>x
end L2
namespace L2
open PySem PySem.Spec PyProof.Rows
section
variable {X:Cx}
def tVar (i:Nat):TE:=fun σ H Q=>∃ v,σ[i]?=some (some v)/\Q v H
def tC (v:V):TE:=fun _ H Q=>Q v H
theorem pe_var {i:Nat} {x:Str} {pos:Pos} (hN:X.N[i]?=some x) (hv:Vis X.env.scope x) (hd:(x == ("__debug__":Str))=false:=by decide) (hcd:(x == ("__classdict__":Str))=false:=by decide):PE X (.Name x pos) (tVar i):=by
  intro pins s σ H Q I h
  obtain ⟨v,e,h⟩:=h
  obtain ⟨m,hn,hl⟩:=I.loc
  obtain ⟨u,r,l⟩:=hl i x v hN e hv
  have fin:EP X pins σ Q u s:=⟨v,H,I,r,h⟩
  rcases l with ⟨hk,hm⟩ | ⟨hk,c,hc,hcell⟩
  · exact wpAny_Name (wpAny_loadName_local I.ok.kind hk hn hm fin) hd
  · rcases hk with hk | hk
    · exact wpAny_Name (wpAny_loadName_cell I.ok.kind hk hc hcell fin) hd
    · exact wpAny_Name (wpAny_loadName_free I.ok.kind hk hc hcell fin hcd) hd
theorem pe_int {i j pos}:PE X (.Constant (.int i) j pos) (tC (.int i)):=fun _ _ _ H _ I h=>wpAny_Constant_int ⟨.int i,H,I.tok _,⟨_,rfl⟩,h⟩
theorem pe_bl {b j pos}:PE X (.Constant (.bool b) j pos) (tC (.bl b)):=fun _ _ _ H _ I h=>Constant_bool ⟨.bl b,H,I,rfl,h⟩
theorem pe_non {j pos}:PE X (.Constant .none j pos) (tC .non):=fun _ _ _ H _ I h=>Constant_none ⟨.non,H,I,rfl,h⟩
theorem pe_str {x j pos}:PE X (.Constant (.str x) j pos) (tC (.str x)):=fun _ _ _ H _ I h=>Calls.Constant_str ⟨.str x,H,I.tok _,⟨_,rfl⟩,h⟩
def Gl (X:Cx) (x:Str):Prop:=X.env.kindOf x=some .globalImplicit
theorem ld_glob {E:Value->Shared->Prop} {pins:List (Addr × Obj)} {s:Shared} {σ:St} {H:Hp} {x:Str} {u:Value} {pos:Pos} {Q:Value->Shared->Prop} (I:Inv X pins σ H s) (hg:Gl X x) (hm:X.mg x=some u) (h:Q u s)
    (hd:(x == ("__debug__":Str))=false:=by decide):wpAny (model X.prog X.w) X.A (eval (.Name x pos) X.env) Q E s :=
  Calls.Name_function_global I.ok.kind hg (Calls.loadGlobal_global (by rw [I.ok.glob];exact I.mod.glob.keeps I.bk) hm h) hd
theorem ld_blt {E:Value->Shared->Prop} {pins:List (Addr × Obj)} {s:Shared} {σ:St} {H:Hp} {x:Str} {u:Value} {pos:Pos} {Q:Value->Shared->Prop} (I:Inv X pins σ H s) (hg:Gl X x) (hm:X.mg x=none) (hv:bootBuiltins x=some u) (h:Q u s)
    (hn:x ≠ "__name__":=by decide) (hd:(x == ("__debug__":Str))=false:=by decide):wpAny (model X.prog X.w) X.A (eval (.Name x pos) X.env) Q E s:=by
  obtain ⟨mb,h1,h2⟩:=I.mod.blt
  exact Calls.Name_function_global I.ok.kind hg (Calls.loadGlobal_builtin (by rw [I.ok.glob];exact I.mod.glob.keeps I.bk) hm (by rw [I.ok.blt];exact h1.keeps I.bk) ((h2 x hn).trans hv) h) hd
theorem pe_glob {x:Str} {v:V} {u:Value} {pos:Pos} (hg:Gl X x) (hm:X.mg x=some u) (r:RelV v u) (hd:(x == ("__debug__":Str))=false:=by decide):PE X (.Name x pos) (tC v) :=
  fun _ _ _ H _ I h=>ld_glob I hg hm ⟨v,H,I,r,h⟩ hd
theorem pe_bltn {x:Str} {v:V} {u:Value} {pos:Pos} (hg:Gl X x) (hm:X.mg x=none) (hv:bootBuiltins x=some u) (r:RelV v u) (hn:x ≠ "__name__":=by decide) (hd:(x == ("__debug__":Str))=false:=by decide):PE X (.Name x pos) (tC v) :=
  fun _ _ _ H _ I h=>ld_blt I hg hm hv ⟨v,H,I,r,h⟩ hn hd
variable {a b:Expr} {ta tb:TE} {pos:Pos}
def PC (X:Cx) (op:CmpOp) (a b:Expr) (t:TE):Prop :=
  ∀ (pins:List (Addr × Obj)) (s:Shared) (σ:St) (H:Hp) (Q:VK),Inv X pins σ H s->t σ H Q ->
    wpAny (model X.prog X.w) X.A (eval a X.env) (fun v s₁=>wpAny (model X.prog X.w) X.A (eval b X.env) (fun u s₂=>wpAny (model X.prog X.w) X.A (compareOp op v u) (EP X pins σ Q) X.xe s₂) X.xe s₁) X.xe s
def tB (t:TE):TT:=fun σ H Q=>t σ H fun x H1=>∃ c,x=.bl c/\Q c H1
theorem pt_cmp {op:CmpOp} {t:TE} (h:PC X op a b t) (h1:behindInMarks op b=false:=by first | exact nobehind _ (by decide) (by decide) | rfl):PT X (.Compare a [op] [b] pos) (tB t):=by
  intro pins s σ H Q I hw
  refine wpAny_isTrue_Compare1 (thn (h pins s σ H _ I hw) fun v s1 h1=>thn h1 fun u s2 h2=>thn h2 fun c s3 ⟨x,H1,I1,r1,q1⟩=>?_) h1
  obtain ⟨d,rfl,q⟩:=q1
  cases r1
  exact wpAny_truthy_bool ⟨H1,I1,q⟩
theorem pt_val {e:Expr} {t:TE} (h:PE X e t) (he:∀ whole,isTrue e X.env whole=(do let v <- whole;standAt e.pos;holding [v] (truthy v)):=by intro _;rfl):PT X e (tB t):=by
  intro pins s σ H Q I hw
  refine isTrue_plain (thn (h pins s σ H _ I hw) fun v s1 ⟨x,H1,I1,r1,q1⟩=>?_) (he _)
  obtain ⟨d,rfl,q⟩:=q1
  cases r1
  exact wpAny_truthy_bool ⟨H1,I1,q⟩
variable {tA tB':TT} {rest:List Expr}
def tOr (t u:TT):TT:=fun σ H Q=>t σ H fun c H1=>if c=true then Q true H1 else u σ H1 Q
def tNot (t:TT):TT:=fun σ H Q=>t σ H fun c H1=>Q (!c) H1
theorem pw_or1 (ha:PT X a tA):PW X (.BoolOp .Or [a] pos) tA:=by
  intro wh pins s σ H Q I h
  refine isTrue_or (thn (ha pins s σ H Q I h) fun c s1 e=>?_)
  cases c with
  | false=>exact isTrue_or_nil e
  | true=>exact e
theorem pw_or (ha:PT X a tA) (hb:PW X (.BoolOp .Or (b :: rest) pos) tB'):PW X (.BoolOp .Or (a :: b :: rest) pos) (tOr tA tB'):=by
  intro wh pins s σ H Q I h
  refine isTrue_or (thn (ha pins s σ H _ I h) fun c s1 ⟨H1,I1,q1⟩=>?_)
  cases c with
  | true=>exact ⟨H1,I1,q1⟩
  | false=>exact hb wh pins s1 σ H1 Q I1 q1
theorem pt_not (ha:PT X a tA):PT X (.UnaryOp .Not a pos) (tNot tA):=by
  intro pins s σ H Q I h
  exact isTrue_not (ha pins s σ H (fun c H1=>Q (!c) H1) I h)
def tAndV (ta tb:TE):TE:=fun σ H Q=>ta σ H fun x H1=>∃ c,x=.bl c/\if c=true then tb σ H1 Q else Q (.bl false) H1
def tNotV (ta:TE):TE:=fun σ H Q=>ta σ H fun x H1=>∃ c,x=.bl c/\Q (.bl (!c)) H1
theorem pe_one {op} {t:TE} (h:PE X a t):PE X (.BoolOp op [a] pos) t:=fun pins s σ H Q I hw=>BoolOp_one (h pins s σ H Q I hw)
theorem pe_and (ha:PE X a ta) (hb:PE X (.BoolOp .And (b :: rest) pos) tb):PE X (.BoolOp .And (a :: b :: rest) pos) (tAndV ta tb):=by
  intro pins s σ H Q I h
  refine BoolOp_and (thn (ha pins s σ H _ I h) fun v s1 ⟨x,H1,I1,r1,q1⟩=>?_)
  obtain ⟨c,rfl,q1⟩:=q1
  cases r1
  refine wpAny_truthy_bool ?_
  cases c with
  | true=>exact hb pins s1 σ H1 Q I1 q1
  | false=>exact ⟨.bl false,H1,I1,rfl,q1⟩
theorem pe_not (ha:PE X a ta):PE X (.UnaryOp .Not a pos) (tNotV ta):=by
  intro pins s σ H Q I h
  refine UnaryOp_ (thn (ha pins s σ H _ I h) fun v s1 ⟨x,H1,I1,r1,q1⟩=>?_)
  obtain ⟨c,rfl,q1⟩:=q1
  cases r1
  exact not_of (wpAny_truthy_bool ⟨.bl (!c),H1,I1,rfl,q1⟩)
def tIf (t:TT) (ta tb:TE):TE:=fun σ H Q=>t σ H fun c H1=>if c=true then ta σ H1 Q else tb σ H1 Q
theorem pe_ifExp {c:Expr} (hc:PT X c tA) (ha:PE X a ta) (hb:PE X b tb):PE X (.IfExp c a b pos) (tIf tA ta tb):=by
  intro pins s σ H Q I h
  refine wpAny_IfExp (thn (hc pins s σ H _ I h) fun d s1 ⟨H1,I1,q1⟩=>?_)
  cases d with
  | true=>exact ha pins s1 σ H1 Q I1 q1
  | false=>exact hb pins s1 σ H1 Q I1 q1
end
end L2
namespace L2
open PySem PySem.Spec PyProof.Rows
def SqL (K:PySem.W.Frag) (H:Hp) (a:Addr) (xs:List V):Prop :=
  Rd H a (.lst xs) ∨
    ∃ (o:Obj) (its:Array Value) (n:Nat),K.lookup a=some o/\o.cls=.type "list"/\o.dict=none/\o.data=.seq its n/\its.size <= sizeLine/\Vals xs its.toList
def SqT (K:PySem.W.Frag) (H:Hp) (a:Addr) (xs:List V):Prop :=
  Rd H a (.tup xs) ∨
    ∃ (o:Obj) (its:Array Value) (n:Nat),K.lookup a=some o/\o.cls=.type "tuple"/\o.data=.seq its n/\its.size <= sizeLine/\Vals xs its.toList
def absV:Value->Option V
  | .none=>some .non
  | .bool b=>some (.bl b)
  | .int i _=>some (.int i)
  | .str x _=>some (.str x)
  | .bytes b _=>some (.byt b)
  | .float b _=>some (.flt b)
  | .ref a=>some (.ref a)
  | .type n=>some (.ty n)
  | _=>none
theorem RelV.abs {x:V} {u:Value} (r:RelV x u):absV u=some x:=by
  cases x with
  | non=>cases r;rfl
  | bl _=>cases r;rfl
  | int _=>obtain ⟨t,rfl⟩:=r;rfl
  | str _=>obtain ⟨t,rfl⟩:=r;rfl
  | byt _=>obtain ⟨t,rfl⟩:=r;rfl
  | flt _=>obtain ⟨t,rfl⟩:=r;rfl
  | ref _=>cases r;rfl
  | ty _=>cases r;rfl
theorem RelV.inj {x y:V} {u:Value} (r:RelV x u) (q:RelV y u):x=y:=Option.some.inj (r.abs.symm.trans q.abs)
theorem Vals.inj:∀ {xs ys:List V} {us:List Value},Vals xs us->Vals ys us->xs=ys
  | _,_,_,.nil,.nil=>rfl
  | _,_,_,.cons r t,.cons r' t'=>by rw [r.inj r',Vals.inj t t']
section
variable {X:Cx} {pins:List (Addr × Obj)} {σ:St} {H:Hp} {s:Shared} {a:Addr} {xs ys:List V}
theorem SqL.of {K:PySem.W.Frag} (h:H a=some (.lst xs)):SqL K H a xs:=.inl (.inl h)
theorem SqT.of {K:PySem.W.Frag} (h:H a=some (.tup xs)):SqT K H a xs:=.inl (.inl h)
theorem Inv.list (I:Inv X pins σ H s) (h:SqL X.K H a xs):∃ its:List Value,Vals xs its/\PlainL s.heap a its.toArray/\xs.length <= sizeLine:=by
  rcases h with h | ⟨o,its,n,hk,hc,hd,hs,hz,r⟩
  · obtain ⟨z,its,n,r,e⟩:=h.ok I.hok
    exact ⟨its,r,⟨_,n,e,rfl,rfl,rfl⟩,z⟩
  · refine ⟨its.toList,r,⟨o,n,I.kIn a o hk,hc,hd,by simpa using hs⟩,?_⟩
    have e:=r.length
    simp only [Array.length_toList] at e
    omega
theorem Inv.tuple (I:Inv X pins σ H s) (h:SqT X.K H a xs):∃ its:List Value,Vals xs its/\IsTup s.heap a its.toArray/\xs.length <= sizeLine:=by
  rcases h with h | ⟨o,its,n,hk,hc,hs,hz,r⟩
  · obtain ⟨z,its,r,p⟩:=h.ok I.hok
    exact ⟨its,r,p,z⟩
  · refine ⟨its.toList,r,⟨o,I.kIn a o hk,hc,n,by simpa using hs⟩,?_⟩
    have e:=r.length
    simp only [Array.length_toList] at e
    omega
theorem Inv.list_inj (I:Inv X pins σ H s) (h:SqL X.K H a xs) (h':SqL X.K H a ys):xs=ys:=by
  obtain ⟨its,r,⟨o,n,e,_,_,d⟩,_⟩:=I.list h
  obtain ⟨its',r',⟨o',n',e',_,_,d'⟩,_⟩:=I.list h'
  rw [e] at e';cases e'
  rw [d] at d'
  injection d' with d1 _
  have:its=its':=by simpa using congrArg Array.toList d1
  subst this
  exact r.inj r'
theorem Inv.tuple_inj (I:Inv X pins σ H s) (h:SqT X.K H a xs) (h':SqT X.K H a ys):xs=ys:=by
  obtain ⟨its,r,⟨o,e,_,n,d⟩,_⟩:=I.tuple h
  obtain ⟨its',r',⟨o',e',_,n',d'⟩,_⟩:=I.tuple h'
  rw [e] at e';cases e'
  rw [d] at d'
  injection d' with d1 _
  have:its=its':=by simpa using congrArg Array.toList d1
  subst this
  exact r.inj r'
end
abbrev Cx.wish (X:Cx) (E:Value->Shared->Prop):Cx:={ X with xe:=E }
abbrev Cx.nox (X:Cx):Cx:=X.wish fun _ _=>False
theorem Cx.Ok.wish {X:Cx} (ok:X.Ok) (E:Value->Shared->Prop):(X.wish E).Ok :=
  ⟨ok.mod,ok.kind,ok.glob,ok.blt,ok.above,ok.inj,ok.has,ok.cab,ok.hd,ok.frames,ok.stk,ok.exf,ok.bs,ok.bsz,ok.noex,ok.exfs,ok.funs,ok.frf⟩
theorem Cx.Ok.unwish {X:Cx} {E:Value->Shared->Prop} (ok:(X.wish E).Ok):X.Ok :=
  ⟨ok.mod,ok.kind,ok.glob,ok.blt,ok.above,ok.inj,ok.has,ok.cab,ok.hd,ok.frames,ok.stk,ok.exf,ok.bs,ok.bsz,ok.noex,ok.exfs,ok.funs,ok.frf⟩
section
variable {X:Cx} {pins:List (Addr × Obj)} {σ:St} {H:Hp} {s:Shared} {E:Value->Shared->Prop}
theorem Inv.wish (I:Inv X pins σ H s) (E:Value->Shared->Prop):Inv (X.wish E) pins σ H s:=⟨I.ok.wish E,I.os,I.bare,I.base,I.loc,I.cell,I.free,I.freeC,I.pin,I.hok,I.len⟩
theorem Inv.unwish (I:Inv (X.wish E) pins σ H s):Inv X pins σ H s:=⟨I.ok.unwish,I.os,I.bare,I.base,I.loc,I.cell,I.free,I.freeC,I.pin,I.hok,I.len⟩
theorem SP.unwish {D:Ends} {f:Flow} {s':Shared} (h:SP (X.wish E) pins D f s'):SP X pins D f s':=by
  cases f with
  | next=>obtain ⟨σ',H',I,q⟩:=h;exact ⟨σ',H',I.unwish,q⟩
  | brk=>obtain ⟨σ',H',I,q⟩:=h;exact ⟨σ',H',I.unwish,q⟩
  | cont=>obtain ⟨σ',H',I,q⟩:=h;exact ⟨σ',H',I.unwish,q⟩
  | ret u=>obtain ⟨v,σ',H',I,r,q⟩:=h;exact ⟨v,σ',H',I.unwish,r,q⟩
theorem PSs.nox {st:List Stmt} {t:TS} (h:PSs X.nox st t):PSs X st t:=fun pins s σ H D I hw =>
  wpAny_mono (h pins s σ H D (I.wish _) hw) (fun _ _ q=>q.unwish) fun _ _ z=>False.elim z
end
section
variable {X:Cx} {st:Stmt} {rest:List Stmt} {t u:TS} {e:Expr} {te:TE} {pos:Pos}
def tNext:TS:=fun D σ H=>D.nx σ H
def tSeq (t u:TS):TS:=fun D σ H=>t { D with nx:=u D } σ H
theorem pss_nil:PSs X [] tNext:=fun _ _ σ H _ I h=>wpAny_execs_nil ⟨σ,H,I,h⟩
theorem pss_cons (h1:PS X st t) (h2:PSs X rest u):PSs X (st :: rest) (tSeq t u):=by
  intro pins s σ H D I h
  refine wpAny_execs_cons (thn (h1 pins s σ H { D with nx:=u D } I h) fun f s1 q=>?_)
  cases f with
  | next =>
    obtain ⟨σ',H',I',q⟩:=q
    exact h2 pins s1 σ' H' D I' q
  | ret v=>exact q
  | brk=>exact q
  | cont=>exact q
theorem pss_one (h1:PS X st t):PSs X [st] t:=by
  intro pins s σ H D I h
  refine wpAny_execs_cons (thn (h1 pins s σ H D I h) fun f s1 q=>?_)
  cases f with
  | next=>exact wpAny_execs_nil q
  | ret v=>exact q
  | brk=>exact q
  | cont=>exact q
theorem Inv.quiet {pins:List (Addr × Obj)} {σ:St} {H:Hp} {s:Shared} (I:Inv X pins σ H s):interactive X.env=false:=by simp [interactive,I.ok.kind]
def tDrop (te:TE):TS:=fun D σ H=>te σ H fun _ H1=>D.nx σ H1
theorem ps_expr (he:PE X e te) (hs:swapsWith e none pos.line X.env=pure false:=by rfl):PS X (.Expr e pos) (tDrop te):=by
  intro pins s σ H D I h
  exact wpAny_Expr_any (thn (he pins s σ H _ I h) fun v s1 ⟨x,H1,I1,r1,q1⟩=>⟨σ,H1,I1,q1⟩) I.quiet hs
def tRet (te:TE):TS:=fun D σ H=>te σ H D.rt
theorem ps_ret (he:PE X e te):PS X (.Return (some e) pos) (tRet te):=by
  intro pins s σ H D I h
  exact wpAny_Return_some (thn (he pins s σ H _ I h) fun v s1 ⟨x,H1,I1,r1,q1⟩=>⟨x,σ,H1,I1,r1,q1⟩)
def tIfS (c:TT) (t u:TS):TS:=fun D σ H=>c σ H fun b H1=>if b=true then t D σ H1 else u D σ H1
theorem ps_if {c:Expr} {a b:List Stmt} {tc:TT} (hc:PT X c tc) (ha:PSs X a t) (hb:PSs X b u):PS X (.If c a b pos) (tIfS tc t u):=by
  intro pins s σ H D I h
  refine wpAny_If (thn (hc pins s σ H _ I h) fun d s1 ⟨H1,I1,q1⟩=>?_)
  cases d with
  | true=>exact ha pins s1 σ H1 D I1 q1
  | false=>exact hb pins s1 σ H1 D I1 q1
def tNever:TS:=fun _ _ _=>False
theorem pss_never {sts:List Stmt}:PSs X sts tNever:=fun _ _ _ _ _ _ h=>h.elim
end
abbrev TG:=V->St->Hp->(St->Hp->Prop)->Prop
abbrev TGs:=List V->St->Hp->(St->Hp->Prop)->Prop
def PG (X:Cx) (target:Expr) (t:TG):Prop :=
  ∀ (pins:List (Addr × Obj)) (s:Shared) (σ:St) (H:Hp) (v:V) (u:Value) (Q:St->Hp->Prop),Inv X pins σ H s->RelV v u->t v σ H Q ->
    wpAny (model X.prog X.w) X.A (assign target X.env u) (fun _ s'=>∃ σ' H',Inv X pins σ' H' s'/\Q σ' H') X.xe s
def PGs (X:Cx) (ts:List Expr) (t:TGs):Prop :=
  ∀ (pins:List (Addr × Obj)) (s:Shared) (σ:St) (H:Hp) (vs:List V) (us:List Value) (Q:St->Hp->Prop),Inv X pins σ H s->Vals vs us->t vs σ H Q ->
    wpAny (model X.prog X.w) X.A (assignInOrder ((assignEach ts X.env).map (·.2)) us) (fun _ s'=>∃ σ' H',Inv X pins σ' H' s'/\Q σ' H') X.xe s
abbrev TSet:=V->V->V->Hp->(Hp->Prop)->Prop
def PSet (X:Cx) (t:TSet):Prop :=
  ∀ (pins:List (Addr × Obj)) (s:Shared) (σ:St) (H:Hp) (o i v:V) (ov iv u:Value) (Q:Hp->Prop),Inv X pins σ H s->RelV o ov->RelV i iv->RelV v u->t o i v H Q ->
    wpAny (model X.prog X.w) X.A (setItem ov iv u) (fun _ s'=>∃ H',Inv X pins σ H' s'/\Q H') X.xe s
section
variable {X:Cx} {pos:Pos}
def gName (i:Nat):TG:=fun v σ H Q=>Q (σ.set i (some v)) H
theorem pg_name {i:Nat} {x:Str} (hN:X.N.Nodup) (hi:X.N[i]?=some x) (hx:Loc X.env.scope x) (hf:X.fn x=true ∨ X.env.scope.names.lookup x=some .local:=by first | exact .inl rfl | exact .inr rfl | assumption):PG X (.Name x pos) (gName i):=by
  intro pins s σ H v u Q I r h
  exact wpAny_assign_Name (store_ok I hN hi hx r (fun s' I'=>⟨_,H,I',h⟩) hf)
def gNil:TGs:=fun vs σ H Q=>vs=[]/\Q σ H
def gCons (t:TG) (u:TGs):TGs:=fun vs σ H Q=>∃ v r,vs=v :: r/\t v σ H fun σ' H'=>u r σ' H' Q
theorem pgs_nil:PGs X [] gNil:=by
  intro pins s σ H vs us Q I r h
  obtain ⟨e,h⟩:=h
  subst e
  cases r
  exact assignInOrder_nil ⟨σ,H,I,h⟩
theorem pgs_cons {e:Expr} {es:List Expr} {t:TG} {u:TGs} (h1:PG X e t) (h2:PGs X es u)
    (hs:(assignEach (e :: es) X.env).map (·.2)=assign e X.env :: (assignEach es X.env).map (·.2):=by rfl):PGs X (e :: es) (gCons t u):=by
  intro pins s σ H vs us Q I r h
  obtain ⟨v,vr,e1,h⟩:=h
  subst e1
  cases r with
  | cons r rr =>
    rw [hs]
    refine assignInOrder_cons (thn (h1 pins s σ H _ _ _ I r h) fun _ s1 ⟨σ1,H1,I1,q1⟩=>?_)
    exact h2 pins s1 σ1 H1 _ _ Q I1 rr q1
def gTup (K:PySem.W.Frag) (n:Nat) (t:TGs):TG:=fun v σ H Q=>∃ a xs,v=.ref a/\SqT K H a xs/\xs.length=n/\t xs σ H Q
theorem pg_tup {es:List Expr} {k:Nat} {t:TGs} {n:Nat} (hc:X.calm=true) (h:PGs X es t)
    (hn:(assignEach es X.env).length=n:=by rfl) (hst:(assignEach es X.env).findIdx? (·.1)=none:=by rfl):PG X (.Tuple es k pos) (gTup X.K n t):=by
  intro pins s σ H v u Q I r hw
  obtain ⟨a,xs,e1,hq,hl,hw⟩:=hw
  subst e1
  cases r
  obtain ⟨its,rv,ht,hz⟩:=I.tuple hq
  refine assign_Tuple_tuple (I.ok.hd hc) ht (by simp [hn,<- hl,rv.length]) hst fun h' hx=>?_
  have I1:Inv X pins σ H { s with heap:=h' }:=I.kept (t':=s.toks) fun b o e=>hx b o (Nat.ne_of_lt (Heap.lt_size e)) e
  exact h pins _ σ H xs _ Q I1 (by simpa using rv) hw
def gSub (to ti:TE) (t:TSet):TG:=fun v σ H Q=>to σ H fun o H1=>ti σ H1 fun i H2=>t o i v H2 fun H3=>Q σ H3
theorem pg_sub {o i:Expr} {to ti:TE} {t:TSet} (ho:PE X o to) (hi:PE X i ti) (hs:PSet X t)
    (ha:∀ v,assign (.Subscript o i pos) X.env v=(do
      let ov <- holding [v] (eval o X.env)
      let iv <- holding [v,ov] (eval i X.env)
      standAt pos
      holding [v,ov,iv] (setItem ov iv v)
      release [v,ov,iv] []):=by intro _;rfl):PG X (.Subscript o i pos) (gSub to ti t):=by
  intro pins s σ H v u Q I r h
  rw [ha]
  refine wpAny_bind (wpAny_holding (thn (ho pins s σ H _ I h) fun ov s1 ⟨x,H1,I1,r1,q1⟩=>?_))
  refine wpAny_bind (wpAny_holding (thn (hi pins s1 σ H1 _ I1 q1) fun iv s2 ⟨y,H2,I2,r2,q2⟩=>?_))
  refine wpAny_bind (wpAny_standAt (wpAny_bind (wpAny_holding (thn (hs pins s2 σ H2 x y v ov iv u _ I2 r1 r2 r q2) fun _ s3 ⟨H3,I3,q3⟩=>?_))))
  exact wpAny_release ⟨σ,H3,I3,q3⟩
def tAsg (te:TE) (g:TG):TS:=fun D σ H=>te σ H fun x H1=>g x σ H1 D.nx
theorem ps_asg {tg e:Expr} {te:TE} {g:TG} (he:PE X e te) (hg:PG X tg g) (hs:swapsWithSole [tg] e pos.line X.env=pure false:=by rfl) (hw:swappedStores [tg] e X.env=pure none:=by rfl)
    (h1:(assignEach [tg] X.env).map (·.2)=[assign tg X.env]:=by rfl):PS X (.Assign [tg] e pos) (tAsg te g):=by
  intro pins s σ H D I h
  refine wpAny_Assign_stores (thn (he pins s σ H _ I h) fun v s1 ⟨x,H1,I1,r1,q1⟩=>?_) hs hw
  rw [h1]
  exact thn (hg pins s1 σ H1 x v _ I1 r1 q1) fun _ s2 q=>q
theorem ps_set {i:Nat} {x:Str} {e:Expr} {te:TE} {pos':Pos} (hN:X.N.Nodup) (hi:X.N[i]?=some x) (hx:Loc X.env.scope x) (he:PE X e te) (hs:swapsWith e (some (.Name x pos')) pos.line X.env=pure false:=by rfl) (hf:X.fn x=true ∨ X.env.scope.names.lookup x=some .local:=by first | exact .inl rfl | exact .inr rfl | assumption) :
    PS X (.Assign [.Name x pos'] e pos) (tAsg te (gName i)):=by
  intro pins s σ H D I h
  refine wpAny_Assign_Name (thn (he pins s σ H _ I h) fun v s1 ⟨y,H1,I1,r1,q1⟩=>?_) hs
  exact store_ok I1 hN hi hx r1 (fun s2 I2=>⟨_,H1,I2,q1⟩) hf
def tPar (i j:Nat) (ta:TA):TS:=fun D σ H=>ta σ H fun vs H1=>∃ v w,vs=[v,w]/\D.nx ((σ.set i (some v)).set j (some w)) H1
theorem ps_par {i j:Nat} {x y:Str} {a b:Expr} {ta:TA} {px py pt:Pos} {kt k2 pt2} (hc:X.calm=true) (hN:X.N.Nodup) (hi:X.N[i]?=some x) (hj:X.N[j]?=some y) (hij:i ≠ j)
    (hx:X.env.scope.names.lookup x=some .local) (hy:X.env.scope.names.lookup y=some .local) (ha:PA X [a,b] ta)
    (hw:swappedStores [.Tuple [.Name x px,.Name y py] kt pt] (.Tuple [a,b] k2 pt2) X.env=pure (some [x,y]))
    (hs:swapsWithSole [.Tuple [.Name x px,.Name y py] kt pt] (.Tuple [a,b] k2 pt2) pos.line X.env=pure false:=by rfl) :
    PS X (.Assign [.Tuple [.Name x px,.Name y py] kt pt] (.Tuple [a,b] k2 pt2) pos) (tPar i j ta):=by
  intro pins s σ H D I h
  rw [exec_Assign_arm]
  refine wpAny_bind (wpAny_standAt ?_)
  rw [hs]
  refine wpAny_bind (wpAny_pure ?_)
  rw [if_neg (by decide)]
  refine wpAny_bind (Tuple_ (thn (ha _ pins s σ H _ I h) fun us s1 ⟨vs,H1,I1,r1,q1⟩=>?_))
  obtain ⟨v,w,e1,q1⟩:=q1
  subst e1
  obtain ⟨u1,u2,rfl,rv,rw'⟩:∃ u1 u2,us=[u1,u2]/\RelV v u1/\RelV w u2:=by
    cases r1 with
    | cons p q =>
      cases q with
      | cons p' q' =>
        cases q'
        exact ⟨_,_,rfl,p,p'⟩
  refine wpAny_newObj_type ?_ (by show 2 <= sizeLine;decide)
  have I2:Inv X pins σ H1 { s1 with heap:=s1.heap.push { cls:=.type "tuple",data:=.seq [u1,u2].toArray } }:=I1.kept (t':=s1.toks) fun b o e=>Heap.get?_push_of_some _ e
  rw [hw]
  refine wpAny_bind (wpAny_pure ?_)
  show wpAny (model X.prog X.w) X.A (do rule "assign.swapped-stores";let items <- unpackItems (.ref s1.heap.objs.size) 2 none;assignInOrder [fun v=>bindName X.env y v,fun v=>bindName X.env x v] items.reverse;pure Flow.next) _ _ _
  refine wpAny_bind (wpAny_rule (wpAny_bind (unpackItems_tuple (items:=#[u1,u2]) (I.ok.hd hc) (IsTup.new s1.heap _) fun h' hx'=>?_)))
  have I3:=I2.kept (h':=h') (t':=s1.toks) fun b o e=>hx' b o (Nat.ne_of_lt (Heap.lt_size e)) e
  show wpAny _ _ (assignInOrder [fun v=>bindName X.env y v,fun v=>bindName X.env x v] [u2,u1] >>= fun _=>pure Flow.next) _ _ _
  refine wpAny_bind (assignInOrder_cons (wpAny_bindName (store_ok I3 hN hj (.inl hy) rw' (fun s2 I4=>?_) (.inr hy))))
  refine assignInOrder_cons (wpAny_bindName (store_ok I4 hN hi (.inl hx) rv (fun s3 I5=>assignInOrder_nil (wpAny_pure ?_)) (.inr hx)))
  rw [List.set_comm _ _ (Ne.symm hij)] at I5
  exact ⟨_,H1,I5,q1⟩
end
section
variable {X:Cx} {pos:Pos}
def tWhile (c:TT) (tb:TS):TS:=fun D σ H=>∃ W:Nat->St->Hp->Prop,(∃ m,W m σ H)/\∀ m σ H,W m σ H ->
  c σ H fun b H1=>if b=true then ∃ N:St->Hp->Prop,(∀ σ' H',N σ' H'->∃ m',m' < m/\W m' σ' H')/\tb { D with nx:=N,ct:=N,bk:=D.nx } σ H1 else D.nx σ H1
theorem ps_while {c:Expr} {body:List Stmt} {tc:TT} {tb:TS} (hp:PassesOwn (model X.prog X.w) X.A X.env X.xe) (hc:PT X c tc) (hb:PSs X body tb):PS X (.While c body [] pos) (tWhile tc tb):=by
  intro pins s σ H D I h
  obtain ⟨W,⟨m0,w0⟩,turn⟩:=h
  refine wpAny_While (codeAny_whileLoop (fun n s'=>∃ σ' H',Inv X pins σ' H' s'/\W n σ' H') ?_ m0 ⟨σ,H,I,w0⟩)
  rintro n s1 ⟨σ1,H1,I1,w1⟩
  refine wpAny_passesOwn hp (thn (hc pins s1 σ1 H1 _ I1 (turn n σ1 H1 w1)) fun b s2 ⟨H2,I2,q2⟩=>?_)
  cases b with
  | true =>
    obtain ⟨N,hN,q2⟩:=q2
    rw [if_pos rfl]
    refine wpAny_passesOwn hp (thn (hb pins s2 σ1 H2 _ I2 q2) fun f s3 q3=>?_)
    cases f with
    | next =>
      obtain ⟨σ3,H3,I3,n3⟩:=q3
      obtain ⟨m',hm,w3⟩:=hN σ3 H3 n3
      exact ⟨m',hm,σ3,H3,I3,w3⟩
    | cont =>
      obtain ⟨σ3,H3,I3,n3⟩:=q3
      obtain ⟨m',hm,w3⟩:=hN σ3 H3 n3
      exact ⟨m',hm,σ3,H3,I3,w3⟩
    | brk=>exact q3
    | ret v=>exact q3
  | false =>
    rw [if_neg Bool.false_ne_true]
    exact wpAny_execs_nil ⟨σ1,H2,I2,q2⟩
end
structure It where
  go:Nat->Hp->Prop
  yld:Nat->Hp->V->Hp->Prop
  stop:Nat->Hp->Prop
def FpOk (X:Cx) (pins:List (Addr × Obj)) (H:Hp) (b:Addr):Prop :=
  H b=none/\b ≠ X.env.locals/\b ∉ X.fs/\(b ∈ X.ex ∨ X.s₀.heap.objs.size <= b)/\(∀ x c,X.env.cells.lookup x=some c->c ≠ b)/\∀ p ∈ X.pn ++ pins,p.1 ≠ b
theorem Inv.fpOk {X:Cx} {pins:List (Addr × Obj)} {σ:St} {H H':Hp} {s:Shared} {b:Addr} (I:Inv X pins σ H s) (hb:s.heap.objs.size <= b) (hn:H' b=none):FpOk X pins H' b:=by
  refine ⟨hn,Nat.ne_of_gt (Nat.lt_of_lt_of_le I.lt hb),I.nofs hb,.inr (Nat.le_trans I.sz hb),fun x c e z=>?_,fun p hp z=>?_⟩
  · obtain ⟨v,q⟩:=I.cell x c e
    exact absurd (Nat.lt_of_lt_of_le q.lt (by rw [z];exact hb)) (Nat.lt_irrefl _)
  · exact absurd (Nat.lt_of_lt_of_le (Heap.lt_size (I.pin p hp).1) (by rw [z];exact hb)) (Nat.lt_irrefl _)
structure Turn (P:Program) (w:World) (K:PySem.W.Frag) (tg:Expr) (J:It) (fp:List Addr) (it:Addr) (tn:Nat->Heap->Prop):Prop where
  mem:it ∈ fp
  obj:∀ i h,tn i h->∀ b ∈ fp,∃ o,h.get? b=some o/\∀ v,o.data ≠ .cell v
  keep:∀ i h h',tn i h->(∀ b ∈ fp,∀ o,h.get? b=some o->h'.get? b=some o)->tn i h'
  item:∀ (X:Cx),X.prog=P->X.w=w->X.K=K->X.calm=true->∀ (i:Nat) (pins:List (Addr × Obj)) (s:Shared) (σ:St) (H:Hp) (E:Value->Shared->Prop),Inv X pins σ H s->(∀ b ∈ fp,FpOk X pins H b)->tn i s.heap->J.go i H ->
    wpAny (model P w) X.A (pyNext (.ref it)) (fun r s1=>∃ u,r=some u /\
      wpAny (model P w) X.A (letOwnedTupleGo tg (.ref it) u) (fun _ s2=>∃ x H',Inv X pins σ H' s2/\RelV x u/\J.yld i H x H'/\tn (i + 1) s2.heap/\∀ b ∈ fp,H' b=none) E s1) E s
  done:∀ (X:Cx),X.prog=P->X.w=w->X.K=K->X.calm=true->∀ (i:Nat) (pins:List (Addr × Obj)) (s:Shared) (σ:St) (H:Hp) (E:Value->Shared->Prop),Inv X pins σ H s->(∀ b ∈ fp,FpOk X pins H b)->tn i s.heap->J.stop i H ->
    wpAny (model P w) X.A (pyNext (.ref it)) (fun r s1=>r=none/\Inv X pins σ H s1) E s
  self:∀ (A:Around) (i:Nat) (s:Shared) (Q:Value->Shared->Prop) (E:Value->Shared->Prop),tn i s.heap->Q (.ref it) s->wpAny (model P w) A (pyIter (.ref it)) Q E s
abbrev TI:=St->Hp->(It->Hp->Prop)->Prop
def PIE (X:Cx) (pins:List (Addr × Obj)) (σ:St) (tg:Expr) (R:It->Hp->Prop) (itv:Value) (s2:Shared):Prop :=
  ∃ (it:Addr) (fp:List Addr) (tn:Nat->Heap->Prop) (J:It) (H':Hp),itv=.ref it/\Inv X pins σ H' s2/\Turn X.prog X.w X.K tg J fp it tn/\tn 0 s2.heap/\(∀ b ∈ fp,FpOk X pins H' b)/\R J H'
def PI (X:Cx) (tg iter:Expr) (wi:TI):Prop :=
  ∀ (pins:List (Addr × Obj)) (s:Shared) (σ:St) (H:Hp) (R:It->Hp->Prop),Inv X pins σ H s->wi σ H R ->
    wpAny (model X.prog X.w) X.A (eval iter X.env) (fun v s1=>wpAny (model X.prog X.w) X.A (pyIter v) (PIE X pins σ tg R) X.xe s1) X.xe s
theorem go_of {M:Model} {A:Around} {E:Value->Shared->Prop} {s:Shared} {tg:Expr} {it:Addr} {u:Value} {o:Obj} {n:String} {vs:Array Value} {Q:Unit->Shared->Prop} (ho:s.heap.get? it=some o) (hc:o.cls=.type n) (hd:o.data=.fields vs)
    (hn:["enumerate","zip","dict_itemiterator","dict_reverseitemiterator","odict_iterator","itertools.zip_longest","itertools.pairwise"].contains n=false) (hQ:Q () s):wpAny M A (letOwnedTupleGo tg (.ref it) u) Q E s:=by
  unfold letOwnedTupleGo
  cases tg <;> first
    | exact wpAny_pure hQ
    | (cases u <;> first
        | exact wpAny_pure hQ
        | (refine wpAny_bind (wpAny_load ho ?_)
           rw [hc,hd]
           show wpAny M A (if (["enumerate","zip","dict_itemiterator","dict_reverseitemiterator","odict_iterator","itertools.zip_longest","itertools.pairwise"].contains n && vs[0]? == some (rawInt _))=true then _ else _) Q E s
           rw [if_neg (by intro h;rw [hn,Bool.false_and] at h;cases h)]
           exact wpAny_pure hQ))
def Itl (K:PySem.W.Frag) (a:Addr):It :=
  ⟨fun i H=>∃ xs x,SqL K H a xs/\xs[i]?=some x,fun i H x H'=>H'=H/\∀ xs,SqL K H a xs->xs[i]?=some x,fun i H=>∃ xs,SqL K H a xs/\xs.length <= i⟩
def Itt (K:PySem.W.Frag) (a:Addr):It :=
  ⟨fun i H=>∃ xs x,SqT K H a xs/\xs[i]?=some x,fun i H x H'=>H'=H/\∀ xs,SqT K H a xs->xs[i]?=some x,fun i H=>∃ xs,SqT K H a xs/\xs.length <= i⟩
def Itr (lo:Int) (n:Nat):It:=⟨fun i _=>i < n,fun i H x H'=>H'=H/\x=.int (lo + i),fun i _=>n <= i⟩
theorem turn_list {P:Program} {w:World} {K:PySem.W.Frag} {tg:Expr} (a it:Addr):Turn P w K tg (Itl K a) [it] it (fun i h=>h.IsListIter it a i) where
  mem:=by simp
  obj:=fun i h st b hb=>by
    have e:b=it:=by simpa using hb
    subst e
    obtain ⟨o,e,c,d⟩:=st
    exact ⟨o,e,fun v z=>by rw [d] at z;cases z⟩
  keep:=fun i h h' st k=>st.at fun o e=>k it (by simp) o e
  item:=by
    intro X hP hw hK hc i pins s σ H E I hf st hg
    subst hP hw hK
    obtain ⟨xs,x,hq,hx⟩:=hg
    obtain ⟨its,rv,p,hz⟩:=I.list hq
    obtain ⟨u,hu,ru⟩:=rv.get hx
    obtain ⟨f0,f1,f2,f3,f4,f5⟩:=hf it (by simp)
    refine wpAny_pyNext_list_item st p.isList (x:=u) (by simpa using hu) fun h' st' sb=>?_
    have I1:Inv X pins σ H { s with heap:=h' }:=I.turned (t':=s.toks) (fun b o hb e=>(sb.2 b hb).trans e) f0 f1 f3 f4 f5
    obtain ⟨o,e,c,d⟩:=id st'
    exact ⟨u,rfl,go_of (s:={ s with heap:=h' }) e c d (by decide) ⟨x,H,I1,ru,⟨rfl,fun ys hy=>by rw [I.list_inj hy hq];exact hx⟩,st',fun b hb=>(hf b hb).1⟩⟩
  done:=by
    intro X hP hw hK hc i pins s σ H E I hf st hg
    subst hP hw hK
    obtain ⟨xs,hq,hx⟩:=hg
    obtain ⟨its,rv,p,hz⟩:=I.list hq
    obtain ⟨f0,f1,f2,f3,f4,f5⟩:=hf it (by simp)
    have hl:=rv.length
    exact wpAny_pyNext_list_end (I.ok.hd hc) st p.isList (by simp;omega) fun h' eb=>⟨rfl,I.turned (t':=s.toks) (fun b o hb e=>eb b o hb e) f0 f1 f3 f4 f5⟩
  self:=fun _ _ _ _ _ st h=>wpAny_pyIter_listiter st h
theorem turn_tuple {P:Program} {w:World} {K:PySem.W.Frag} {tg:Expr} (a it:Addr):Turn P w K tg (Itt K a) [it] it (fun i h=>h.IsTupleIter it a i) where
  mem:=by simp
  obj:=fun i h st b hb=>by
    have e:b=it:=by simpa using hb
    subst e
    obtain ⟨o,e,c,d⟩:=st
    exact ⟨o,e,fun v z=>by rw [d] at z;cases z⟩
  keep:=fun i h h' st k=>st.at fun o e=>k it (by simp) o e
  item:=by
    intro X hP hw hK hc i pins s σ H E I hf st hg
    subst hP hw hK
    obtain ⟨xs,x,hq,hx⟩:=hg
    obtain ⟨its,rv,p,hz⟩:=I.tuple hq
    obtain ⟨u,hu,ru⟩:=rv.get hx
    obtain ⟨f0,f1,f2,f3,f4,f5⟩:=hf it (by simp)
    refine wpAny_pyNext_tuple_item st (show s.heap.IsTuple a its.toArray from p) (x:=u) (by simpa using hu) fun h' st' sb=>?_
    have I1:Inv X pins σ H { s with heap:=h' }:=I.turned (t':=s.toks) (fun b o hb e=>(sb.2 b hb).trans e) f0 f1 f3 f4 f5
    obtain ⟨o,e,c,d⟩:=id st'
    exact ⟨u,rfl,go_of (s:={ s with heap:=h' }) e c d (by decide) ⟨x,H,I1,ru,⟨rfl,fun ys hy=>by rw [I.tuple_inj hy hq];exact hx⟩,st',fun b hb=>(hf b hb).1⟩⟩
  done:=by
    intro X hP hw hK hc i pins s σ H E I hf st hg
    subst hP hw hK
    obtain ⟨xs,hq,hx⟩:=hg
    obtain ⟨its,rv,p,hz⟩:=I.tuple hq
    obtain ⟨f0,f1,f2,f3,f4,f5⟩:=hf it (by simp)
    have hl:=rv.length
    exact wpAny_pyNext_tuple_end (I.ok.hd hc) st (show s.heap.IsTuple a its.toArray from p) (by simp;omega) fun h' eb=>⟨rfl,I.turned (t':=s.toks) (fun b o hb e=>eb b o hb e) f0 f1 f3 f4 f5⟩
  self:=fun _ _ _ _ _ st h=>wpAny_pyIter_tupleiter st h
theorem turn_range {P:Program} {w:World} {K:PySem.W.Frag} {tg:Expr} (it:Addr) (lo:Int) (n:Nat):Turn P w K tg (Itr lo n) [it] it (fun i h=>IsRangeIter h it (lo + (i:Nat) * 1) ((n:Int) - (i:Nat)) 1) where
  mem:=by simp
  obj:=fun i h st b hb=>by
    have e:b=it:=by simpa using hb
    subst e
    exact ⟨_,st,fun v z=>by
      have z':Data.fields _=Data.cell v:=z
      cases z'⟩
  keep:=fun i h h' st k=>k it (by simp) _ st
  item:=by
    intro X hP hw hK hc i pins s σ H E I hf st hg
    subst hP hw hK
    obtain ⟨f0,f1,f2,f3,f4,f5⟩:=hf it (by simp)
    have W:=Walks.range (prog:=X.prog) (w:=X.w) (I.ok.hd hc) it lo 1 n
    refine W.item i s _ _ hg st fun v h' tk hv st' kk=>?_
    obtain ⟨t,rfl⟩:=hv
    have I1:Inv X pins σ H { s with heap:=h',toks:=tk }:=I.turned (fun b o hb e=>kk b o (by simpa using hb) e) f0 f1 f3 f4 f5
    refine ⟨_,rfl,go_of (s:={ s with heap:=h',toks:=tk }) (n:="range_iterator") st' rfl rfl (by decide) ⟨.int (lo + i),H,I1,⟨t,?_⟩,⟨rfl,rfl⟩,st',fun b hb=>(hf b hb).1⟩⟩
    rw [Int.mul_one]
  done:=by
    intro X hP hw hK hc i pins s σ H E I hf st hg
    subst hP hw hK
    obtain ⟨f0,f1,f2,f3,f4,f5⟩:=hf it (by simp)
    exact wpAny_pyNext_range_end (I.ok.hd hc) st (by have:n <= i:=hg;omega) fun h' eb=>⟨rfl,I.turned (t':=s.toks) (fun b o hb e=>eb b o hb e) f0 f1 f3 f4 f5⟩
  self:=fun _ _ _ _ _ st h=>wpAny_pyIter_rangeiter st h
end L2
namespace L2
open PySem PySem.Spec PyProof.Rows
section
variable {X:Cx} {tg:Expr}
def iList (K:PySem.W.Frag) (tl:TE):TI:=fun σ H R=>tl σ H fun x H1=>∃ a,x=.ref a/\(∃ xs,SqL K H1 a xs)/\R (Itl K a) H1
def iTup (K:PySem.W.Frag) (tl:TE):TI:=fun σ H R=>tl σ H fun x H1=>∃ a,x=.ref a/\(∃ xs,SqT K H1 a xs)/\R (Itt K a) H1
theorem pi_list {l:Expr} {tl:TE} (hl:PE X l tl):PI X tg l (iList X.K tl):=by
  intro pins s σ H R I h
  refine thn (hl pins s σ H _ I h) fun v s1 ⟨x,H1,I1,r1,q1⟩=>?_
  obtain ⟨a,e,⟨xs,hq⟩,q⟩:=q1
  subst e
  cases r1
  obtain ⟨its,rv,p,hz⟩:=I1.list hq
  refine wpAny_pyIter_list p.isList ?_
  refine ⟨s1.heap.objs.size,[s1.heap.objs.size],_,_,H1,rfl,I1.kept (t':=s1.toks) fun b o e=>Heap.get?_push_of_some _ e,turn_list a _,⟨_,Heap.get?_push_size _ rfl,rfl,rfl⟩,fun b hb=>?_,q⟩
  have e:b=s1.heap.objs.size:=by simpa using hb
  subst e
  exact I1.fpOk (Nat.le_refl _) (I1.hok.fresh (Nat.le_refl _))
theorem pi_tup {l:Expr} {tl:TE} (hl:PE X l tl):PI X tg l (iTup X.K tl):=by
  intro pins s σ H R I h
  refine thn (hl pins s σ H _ I h) fun v s1 ⟨x,H1,I1,r1,q1⟩=>?_
  obtain ⟨a,e,⟨xs,hq⟩,q⟩:=q1
  subst e
  cases r1
  obtain ⟨its,rv,p,hz⟩:=I1.tuple hq
  refine wpAny_pyIter_tuple (show s1.heap.IsTuple a its.toArray from p) ?_
  refine ⟨s1.heap.objs.size,[s1.heap.objs.size],_,_,H1,rfl,I1.kept (t':=s1.toks) fun b o e=>Heap.get?_push_of_some _ e,turn_tuple a _,⟨_,Heap.get?_push_size _ rfl,rfl,rfl⟩,fun b hb=>?_,q⟩
  have e:b=s1.heap.objs.size:=by simpa using hb
  subst e
  exact I1.fpOk (Nat.le_refl _) (I1.hok.fresh (Nat.le_refl _))
theorem range_it {pins:List (Addr × Obj)} {σ:St} {H:Hp} {s:Shared} {R:It->Hp->Prop} {E:Value->Shared->Prop} {lo hi:Int} {t u v:Tok} {tk:Nat} (I:Inv X pins σ H s) (h1:-(2 ^ 62) <= lo) (h2:lo < 2 ^ 62) (h3:-(2 ^ 62) <= hi) (h4:hi < 2 ^ 62)
    (q:R (Itr lo (hi - lo).toNat) H):wpAny (model X.prog X.w) X.A (pyIter (.ref s.heap.objs.size)) (PIE X pins σ tg R) E { s with heap:=s.heap.push { cls:=.type "range",data:=.fields #[.int lo t,.int hi u,.int 1 v] },toks:=tk }:=by
  refine wpAny_pyIter_range (IsRange.new ..) (small_one h1 h2 h3 h4) ?_
  have I1:Inv X pins σ H { s with heap:=s.heap.push { cls:=.type "range",data:=.fields #[.int lo t,.int hi u,.int 1 v] },toks:=tk }:=I.kept fun b o e=>Heap.get?_push_of_some _ e
  refine ⟨(s.heap.push { cls:=.type "range",data:=.fields #[.int lo t,.int hi u,.int 1 v] }).objs.size,[(s.heap.push { cls:=.type "range",data:=.fields #[.int lo t,.int hi u,.int 1 v] }).objs.size],_,_,H,rfl,
    I1.kept (t':=tk) fun b o e=>Heap.get?_push_of_some _ e,turn_range _ lo (hi - lo).toNat,?_,fun b hb=>?_,q⟩
  · have e1:lo + ((0:Nat):Int) * 1=lo:=by simp
    have e2:(((hi - lo).toNat:Nat):Int) - ((0:Nat):Int)=Builtin.Range.rangeSize lo hi 1:=by rw [rangeSize_one];split <;> omega
    show IsRangeIter _ _ (lo + ((0:Nat):Int) * 1) ((((hi - lo).toNat:Nat):Int) - ((0:Nat):Int)) 1
    rw [e1,e2]
    exact Heap.get?_push_size _ rfl
  · have e:b=(s.heap.push { cls:=.type "range",data:=.fields #[.int lo t,.int hi u,.int 1 v] }).objs.size:=by simpa using hb
    subst e
    exact I1.fpOk (Nat.le_refl _) (I1.hok.fresh (Nat.le_refl _))
def iRng1 (ta:TA):TI:=fun σ H R=>ta σ H fun vs H1=>∃ j:Int,vs=[.int j]/\-(2 ^ 62) <= j/\j < 2 ^ 62/\R (Itr 0 j.toNat) H1
theorem pi_range1 {a:Expr} {ta:TA} {p pos:Pos} (hg:Gl X "range") (hm:X.mg "range"=none) (ha:PA X [a] ta) (hs:starEach [a] X.env=[(false,eval a X.env)]:=by rfl):PI X tg (.Call (.Name "range" p) [a] [] pos) (iRng1 ta):=by
  intro pins s σ H R I h
  refine Call_ (ld_blt I hg hm boot_range (PyProof.Rows.callWith_type1 (thn (ha pos pins s σ H _ I h) fun us s1 ⟨vs,H1,I1,r1,q1⟩=>?_) hs rfl))
  obtain ⟨j,e,q1,q2,q⟩:=q1
  subst e
  cases r1 with
  | cons r rr =>
    cases rr
    obtain ⟨t,rfl⟩:=r
    exact call_range_1 (range_it I1 (by omega) (by omega) q1 q2 (by simpa using q))
def tFor (wi:TI) (g:TG) (tb:TS):TS:=fun D σ H=>wi σ H fun J H1=>∃ W:Nat->Nat->St->Hp->Prop,(∃ m,W 0 m σ H1)/\∀ i m σ H,W i m σ H ->
  (J.stop i H/\D.nx σ H) ∨ (J.go i H/\∃ N:St->Hp->Prop,(∀ σ' H',N σ' H'->∃ m',m' < m/\W (i + 1) m' σ' H')/\∀ x H',J.yld i H x H'->g x σ H' fun σ2 H2=>tb { D with nx:=N,ct:=N,bk:=D.nx } σ2 H2)
def pinsAt (fp:List Addr) (h:Heap):List (Addr × Obj):=fp.filterMap fun b=>(h.get? b).map fun o=>(b,o)
theorem mem_pinsAt {fp:List Addr} {h:Heap} {b:Addr} {o:Obj} (hb:b ∈ fp) (e:h.get? b=some o):(b,o) ∈ pinsAt fp h:=List.mem_filterMap.mpr ⟨b,hb,by rw [e];rfl⟩
theorem of_pinsAt {fp:List Addr} {h:Heap} {p:Addr × Obj} (hp:p ∈ pinsAt fp h):p.1 ∈ fp/\h.get? p.1=some p.2:=by
  obtain ⟨b,hb,e⟩:=List.mem_filterMap.mp hp
  cases q:h.get? b with
  | none=>rw [q] at e;cases e
  | some o =>
    rw [q] at e
    have e':(b,o)=p:=Option.some.inj e
    subst e'
    exact ⟨hb,q⟩
theorem Inv.pinned {pins:List (Addr × Obj)} {σ:St} {H:Hp} {s:Shared} {fp:List Addr} (I:Inv X pins σ H s) (hf:∀ b ∈ fp,FpOk X pins H b) (ho:∀ b ∈ fp,∃ o,s.heap.get? b=some o/\∀ v,o.data ≠ .cell v):Inv X (pins ++ pinsAt fp s.heap) σ H s :=
  I.pins_of fun p hp=>(List.mem_append.mp hp).elim (fun z=>I.pin p (List.mem_append_right _ z)) fun z=>by
    obtain ⟨hb,e⟩:=of_pinsAt z
    obtain ⟨f0,f1,f2,_⟩:=hf p.1 hb
    obtain ⟨o,e',d⟩:=ho p.1 hb
    rw [e] at e';cases e'
    exact ⟨e,f0,f1,f2,d⟩
theorem Inv.unpinned {pins pl:List (Addr × Obj)} {σ:St} {H:Hp} {s:Shared} (I:Inv X (pins ++ pl) σ H s):Inv X pins σ H s:=I.pins_of fun p hp=>I.pin p (List.mem_append_right _ (List.mem_append_left _ hp))
theorem ps_for {iter:Expr} {body:List Stmt} {wi:TI} {g:TG} {tb:TS} {pos:Pos} (hp:PassesOwn (model X.prog X.w) X.A X.env X.xe) (hc:X.calm=true) (hi:PI X tg iter wi) (hg:PG X tg g) (hb:PSs X body tb)
    (hs:∀ x,foldedSetIterable iter X.env x=pure x:=by intro _;rfl):PS X (.For tg iter body [] pos) (tFor wi g tb):=by
  intro pins s σ H D I h
  refine wpAny_For (thn (hi pins s σ H _ I h) fun v s1 h1=>thn h1 fun itv s2 h2=>?_) hs
  obtain ⟨it,fp,tn,J,H2,e,I2,T,st2,f2,W,⟨m0,w0⟩,turn⟩:=h2
  subst e
  have stat:∀ {H':Hp},(∀ b ∈ fp,H' b=none)->∀ b ∈ fp,FpOk X pins H' b:=fun hn b hb=>⟨hn b hb,(f2 b hb).2⟩
  refine codeAny_forLoop_any (fun n s'=>∃ i σ' H',Inv X pins σ' H' s'/\tn i s'.heap/\(∀ b ∈ fp,H' b=none)/\W i n σ' H') ?_ m0 ⟨0,σ,H2,I2,st2,fun b hb=>(f2 b hb).1,w0⟩
  rintro n s3 ⟨i,σ3,H3,I3,st3,fr3,w3⟩
  rcases turn i n σ3 H3 w3 with ⟨stop,qn⟩ | ⟨go,N,hN,step⟩
  · refine wpAny_passesOwn hp (thn (T.done X rfl rfl rfl hc i pins s3 σ3 H3 X.xe I3 (stat fr3) st3 stop) fun r s4 ⟨hr,I4⟩=>?_)
    subst hr
    exact wpAny_execs_nil ⟨σ3,H3,I4,qn⟩
  · refine wpAny_passesOwn hp (thn (T.item X rfl rfl rfl hc i pins s3 σ3 H3 X.xe I3 (stat fr3) st3 go) fun r s4 ⟨u,hr,h4⟩=>?_)
    subst hr
    refine wpAny_passesOwn hp (thn h4 fun _ s5 ⟨x,H5,I5,r5,y5,st5,fr5⟩=>?_)
    have I5':=I5.pinned (stat fr5) (T.obj _ _ st5)
    refine wpAny_passesOwn hp (thn (hg _ s5 σ3 H5 x u _ I5' r5 (step x H5 y5)) fun _ s6 ⟨σ6,H6,I6,q6⟩=>?_)
    refine wpAny_passesOwn hp (thn (hb _ s6 σ6 H6 _ I6 q6) fun f s7 q7=>?_)
    have again:∀ {σ7:St} {H7:Hp},Inv X (pins ++ pinsAt fp s5.heap) σ7 H7 s7->N σ7 H7->∃ m,m < n/\∃ i σ' H',Inv X pins σ' H' s7/\tn i s7.heap/\(∀ b ∈ fp,H' b=none)/\W i m σ' H':=fun {σ7 H7} I7 n7=>by
      obtain ⟨m',hm,w7⟩:=hN σ7 H7 n7
      refine ⟨m',hm,i + 1,σ7,H7,I7.unpinned,T.keep _ _ _ st5 fun b hb o e=>(I7.pin (b,o) (List.mem_append_right _ (List.mem_append_right _ (mem_pinsAt hb e)))).1,fun b hb=>?_,w7⟩
      obtain ⟨o,e,d⟩:=T.obj _ _ st5 b hb
      exact (I7.pin (b,o) (List.mem_append_right _ (List.mem_append_right _ (mem_pinsAt hb e)))).2.1
    cases f with
    | next=>obtain ⟨σ7,H7,I7,n7⟩:=q7;exact again I7 n7
    | cont=>obtain ⟨σ7,H7,I7,n7⟩:=q7;exact again I7 n7
    | brk=>obtain ⟨σ7,H7,I7,q7⟩:=q7;exact ⟨σ7,H7,I7.unpinned,q7⟩
    | ret v=>obtain ⟨x7,σ7,H7,I7,r7,q7⟩:=q7;exact ⟨x7,σ7,H7,I7.unpinned,r7,q7⟩
end
theorem for_list {K:PySem.W.Frag} {a:Addr} {xs:List V} {g:TG} {tb:TS} {D:Ends} {σ:St} {H:Hp} (Pv:Nat->St->Hp->Prop) (h0:Pv 0 σ H) (hl:∀ i σ H,i <= xs.length->Pv i σ H->SqL K H a xs)
    (hs:∀ i x σ H,xs[i]?=some x->Pv i σ H->g x σ H fun σ2 H2=>tb { D with nx:=Pv (i + 1),ct:=Pv (i + 1),bk:=D.nx } σ2 H2) (hd:∀ σ H,Pv xs.length σ H->D.nx σ H) :
    ∃ W:Nat->Nat->St->Hp->Prop,(∃ m,W 0 m σ H)/\∀ i m σ H,W i m σ H ->
      ((Itl K a).stop i H/\D.nx σ H) ∨ ((Itl K a).go i H/\∃ N:St->Hp->Prop,(∀ σ' H',N σ' H'->∃ m',m' < m/\W (i + 1) m' σ' H')/\∀ x H',(Itl K a).yld i H x H'->g x σ H' fun σ2 H2=>tb { D with nx:=N,ct:=N,bk:=D.nx } σ2 H2):=by
  refine ⟨fun i m σ H=>m=xs.length - i/\i <= xs.length/\Pv i σ H,⟨xs.length,by simp,Nat.zero_le _,h0⟩,?_⟩
  rintro i m σ H ⟨rfl,hi,p⟩
  have q:=hl i σ H hi p
  by_cases hlt:i < xs.length
  · refine .inr ⟨⟨xs,xs[i],q,by simp [hlt]⟩,Pv (i + 1),fun σ' H' p'=>⟨xs.length - (i + 1),by omega,rfl,hlt,p'⟩,fun x H' y=>?_⟩
    obtain ⟨e,y⟩:=y
    subst e
    exact hs i x σ _ (y xs q) p
  · have e:i=xs.length:=by omega
    subst e
    exact .inl ⟨⟨xs,q,Nat.le_refl _⟩,hd σ H p⟩
theorem for_range {lo:Int} {n:Nat} {g:TG} {tb:TS} {D:Ends} {σ:St} {H:Hp} (Pv:Nat->St->Hp->Prop) (h0:Pv 0 σ H)
    (hs:∀ i σ H,i < n->Pv i σ H->g (.int (lo + i)) σ H fun σ2 H2=>tb { D with nx:=Pv (i + 1),ct:=Pv (i + 1),bk:=D.nx } σ2 H2) (hd:∀ σ H,Pv n σ H->D.nx σ H) :
    ∃ W:Nat->Nat->St->Hp->Prop,(∃ m,W 0 m σ H)/\∀ i m σ H,W i m σ H ->
      ((Itr lo n).stop i H/\D.nx σ H) ∨ ((Itr lo n).go i H/\∃ N:St->Hp->Prop,(∀ σ' H',N σ' H'->∃ m',m' < m/\W (i + 1) m' σ' H')/\∀ x H',(Itr lo n).yld i H x H'->g x σ H' fun σ2 H2=>tb { D with nx:=N,ct:=N,bk:=D.nx } σ2 H2):=by
  refine ⟨fun i m σ H=>m=n - i/\i <= n/\Pv i σ H,⟨n,by simp,Nat.zero_le _,h0⟩,?_⟩
  rintro i m σ H ⟨rfl,hi,p⟩
  by_cases hlt:i < n
  · refine .inr ⟨hlt,Pv (i + 1),fun σ' H' p'=>⟨n - (i + 1),by omega,rfl,hlt,p'⟩,fun x H' y=>?_⟩
    obtain ⟨e,y⟩:=y
    subst e y
    exact hs i σ _ hlt p
  · have e:i=n:=by omega
    subst e
    exact .inl ⟨Nat.le_refl _,hd σ H p⟩
end L2
namespace L2
open PySem PySem.Spec PyProof.Rows
abbrev R2:=V->V->Hp->VK->Prop
def OpR (X:Cx) (f:Value->Value->Sem Value) (r:R2):Prop :=
  ∀ (pins:List (Addr × Obj)) (s:Shared) (σ:St) (H:Hp) (x y:V) (v u:Value) (Q:VK),Inv X pins σ H s->RelV x v->RelV y u->r x y H Q ->
    wpAny (model X.prog X.w) X.A (f v u) (EP X pins σ Q) X.xe s
def CallR (X:Cx) (f:Value) (r:List V->Hp->VK->Prop):Prop :=
  ∀ (pins:List (Addr × Obj)) (s:Shared) (σ:St) (H:Hp) (xs:List V) (us:List Value) (Q:VK),Inv X pins σ H s->Vals xs us->r xs H Q ->
    wpAny (model X.prog X.w) X.A (call f us) (EP X pins σ Q) X.xe s
def tOp (r:R2) (ta tb:TE):TE:=fun σ H Q=>ta σ H fun x H1=>tb σ H1 fun y H2=>r x y H2 Q
def rI (C:Int->Int->Prop) (g:Int->Int->V):R2:=fun x y H Q=>∃ i j,x=.int i/\y=.int j/\C i j/\Q (g i j) H
def rI0 (g:Int->Int->V):R2:=fun x y H Q=>∃ i j,x=.int i/\y=.int j/\Q (g i j) H
section
variable {X:Cx} {a b c:Expr} {ta tb tc:TE} {pos:Pos}
theorem binT (ha:PE X a ta) (hb:PE X b tb) {pins:List (Addr × Obj)} {s:Shared} {σ:St} {H:Hp} {R:V->V->Hp->Prop} (I:Inv X pins σ H s)
    (h:ta σ H fun x H1=>tb σ H1 fun y H2=>R x y H2) {Q:Value->Shared->Prop} {f:Value->Value->Sem Value}
    (hf:∀ v u s2 x y H2,Inv X pins σ H2 s2->RelV x v->RelV y u->R x y H2->wpAny (model X.prog X.w) X.A (f v u) Q X.xe s2) :
    wpAny (model X.prog X.w) X.A (eval a X.env) (fun v s₁=>wpAny (model X.prog X.w) X.A (eval b X.env) (fun u s₂=>wpAny (model X.prog X.w) X.A (f v u) Q X.xe s₂) X.xe s₁) X.xe s:=by
  refine thn (ha pins s σ H _ I h) fun v s1 ⟨x,H1,I1,r1,q1⟩=>?_
  refine thn (hb pins s1 σ H1 _ I1 q1) fun u s2 ⟨y,H2,I2,r2,q2⟩=>?_
  exact hf v u s2 x y H2 I2 r1 r2 q2
theorem pe_op {op:Operator} {r:R2} (ho:OpR X (binaryOp op) r) (ha:PE X a ta) (hb:PE X b tb):PE X (.BinOp a op b pos) (tOp r ta tb):=by
  intro pins s σ H Q I h
  exact wpAny_BinOp (binT ha hb I h fun v u s2 x y H2 I2 rx ry q=>ho pins s2 σ H2 x y v u Q I2 rx ry q)
theorem opI {f:Value->Value->Sem Value} {C:Int->Int->Prop} {g:Int->Int->Int}
    (rule:∀ (i j:Int) (t u:Tok) (s:Shared) (Q:Value->Shared->Prop) (E:Value->Shared->Prop),C i j->Q (.int (g i j) s.toks) { s with toks:=s.toks + 1 }->wpAny (model X.prog X.w) X.A (f (.int i t) (.int j u)) Q E s) :
    OpR X f (rI C fun i j=>.int (g i j)):=by
  intro pins s σ H x y v u Q I rx ry h
  obtain ⟨i,j,rfl,rfl,hc,q⟩:=h
  obtain ⟨t,rfl⟩:=rx
  obtain ⟨t',rfl⟩:=ry
  exact rule i j t t' s _ _ hc ⟨.int (g i j),H,I.tok _,⟨_,rfl⟩,q⟩
theorem opI0 {f:Value->Value->Sem Value} {g:Int->Int->Int}
    (rule:∀ (i j:Int) (t u:Tok) (s:Shared) (Q:Value->Shared->Prop) (E:Value->Shared->Prop),Q (.int (g i j) s.toks) { s with toks:=s.toks + 1 }->wpAny (model X.prog X.w) X.A (f (.int i t) (.int j u)) Q E s) :
    OpR X f (rI0 fun i j=>.int (g i j)):=by
  intro pins s σ H x y v u Q I rx ry h
  obtain ⟨i,j,rfl,rfl,q⟩:=h
  obtain ⟨t,rfl⟩:=rx
  obtain ⟨t',rfl⟩:=ry
  exact rule i j t t' s _ _ ⟨.int (g i j),H,I.tok _,⟨_,rfl⟩,q⟩
theorem opB0 {f:Value->Value->Sem Value} {g:Int->Int->Bool}
    (rule:∀ (i j:Int) (t u:Tok) (s:Shared) (Q:Value->Shared->Prop) (E:Value->Shared->Prop),Q (.bool (g i j)) s->wpAny (model X.prog X.w) X.A (f (.int i t) (.int j u)) Q E s) :
    OpR X f (rI0 fun i j=>.bl (g i j)):=by
  intro pins s σ H x y v u Q I rx ry h
  obtain ⟨i,j,rfl,rfl,q⟩:=h
  obtain ⟨t,rfl⟩:=rx
  obtain ⟨t',rfl⟩:=ry
  exact rule i j t t' s _ _ ⟨.bl (g i j),H,I,rfl,q⟩
def CDiv (i j:Int):Prop:=0 < j/\j < 1073741824
def CPow (i j:Int):Prop:=0 <= j/\j <= 1000000/\i.natAbs < 2 ^ 64
def CMul (i j:Int):Prop:=(-(2 ^ 64) < i/\i < 2 ^ 64) ∨ (-(2 ^ 64) < j/\j < 2 ^ 64)
theorem CMul.ok {i j:Int} (h:CMul i j):IntMulOk i j:=by
  rcases h with ⟨h1,h2⟩ | ⟨h1,h2⟩
  · exact .of_left (intBits_le_64 h1 h2)
  · exact .of_right (intBits_le_64 h1 h2)
theorem op_add:OpR X (binaryOp .Add) (rI0 fun i j=>.int (i + j)):=opI0 fun _ _ _ _ _ _ _ q=>add_int q
theorem op_sub:OpR X (binaryOp .Sub) (rI0 fun i j=>.int (i - j)):=opI0 fun _ _ _ _ _ _ _ q=>sub_int q
theorem op_mul:OpR X (binaryOp .Mult) (rI CMul fun i j=>.int (i * j)):=opI fun _ _ _ _ _ _ _ hc q=>mul_int q hc.ok
theorem op_fdiv:OpR X (binaryOp .FloorDiv) (rI CDiv fun i j=>.int (i / j)):=opI fun i j _ _ _ _ _ hc q=>by
  have h1:(0:Int) < j:=hc.1
  have h2:j < 1073741824:=hc.2
  exact floordiv_int (by omega) (by rw [Int.fdiv_eq_ediv_of_nonneg i (by omega)];exact q) (.inl (PyProof.noPylong_small (by omega)))
theorem op_mod:OpR X (binaryOp .Mod) (rI (fun _ j=>0 < j) fun i j=>.int (i % j)):=opI fun i j _ _ _ _ _ hc q=>by
  have h1:(0:Int) < j:=hc
  exact mod_int' (by omega) (by rw [Int.fmod_eq_emod_of_nonneg i (by omega)];exact q)
theorem op_pow:OpR X (binaryOp .Pow) (rI CPow fun i j=>.int (i ^ j.toNat)):=opI fun _ _ _ _ _ _ _ hc q=>pow_int_small hc.1 hc.2.1 hc.2.2 q
end
def scal:V->V->Bool
  | .non,.non=>true | .non,.int _=>true | .int _,.non=>true | .non,.bl _=>true | .bl _,.non=>true | .non,.str _=>true | .str _,.non=>true
  | .int _,.int _=>true | .bl _,.bl _=>true | .str _,.str _=>true | .byt _,.byt _=>true
  | .int _,.str _=>true | .str _,.int _=>true | .bl _,.str _=>true | .str _,.bl _=>true
  | _,_=>false
def rEq:R2:=fun x y H Q=>scal x y=true/\Q (.bl (decide (x=y))) H
def rNe:R2:=fun x y H Q=>scal x y=true/\Q (.bl (!decide (x=y))) H
theorem dec_int {i j:Int}:decide (V.int i=V.int j)=(i == j):=by
  rw [Bool.eq_iff_iff]
  simp
theorem dec_bl {i j:Bool}:decide (V.bl i=V.bl j)=(i == j):=by
  rw [Bool.eq_iff_iff]
  simp
theorem dec_str {i j:Str}:decide (V.str i=V.str j)=(i == j):=by
  rw [Bool.eq_iff_iff]
  simp
theorem dec_byt {i j:Array UInt8}:decide (V.byt i=V.byt j)=(i.toList == j.toList):=by
  rw [Bool.eq_iff_iff]
  cases i
  cases j
  simp
section
variable {X:Cx} {a b c:Expr} {ta tb tc:TE} {pos:Pos}
theorem fin_bl {pins:List (Addr × Obj)} {σ:St} {H:Hp} {s:Shared} {Q:VK} {k k':Bool} (I:Inv X pins σ H s) (q:Q (.bl k) H) (e:k=k'):EP X pins σ Q (.bool k') s:=by
  subst e
  exact ⟨.bl k,H,I,rfl,q⟩
theorem op_eq:OpR X (compareOp .Eq) rEq:=by
  intro pins s σ H x y v u Q I rx ry h
  obtain ⟨hs,q⟩:=h
  cases x with
  | non =>
    cases rx
    cases y with
    | non=>cases ry;exact PySem.EqNone.eq_none_none (fin_bl I q (by simp))
    | bl j=>cases ry;exact PySem.EqNone.eq_none_bool (fin_bl I q (by simp))
    | int j=>obtain ⟨t',rfl⟩:=ry;exact PySem.EqNone.eq_none_int (fin_bl I q (by simp))
    | str j=>obtain ⟨t',rfl⟩:=ry;exact PySem.EqNone.eq_none_str (fin_bl I q (by simp))
    | _=>exact absurd (show false=true from hs) Bool.false_ne_true
  | bl i =>
    cases rx
    cases y with
    | non=>cases ry;exact PySem.EqNone.eq_bool_none (fin_bl I q (by simp))
    | bl j=>cases ry;exact eq_bool (fin_bl I q dec_bl)
    | str j=>obtain ⟨t',rfl⟩:=ry;exact PySem.EqMixed.eq_bool_str (fin_bl I q (by simp))
    | _=>exact absurd (show false=true from hs) Bool.false_ne_true
  | int i =>
    obtain ⟨t,rfl⟩:=rx
    cases y with
    | non=>cases ry;exact PySem.EqNone.eq_int_none (fin_bl I q (by simp))
    | int j=>obtain ⟨t',rfl⟩:=ry;exact eq_int (fin_bl I q dec_int)
    | str j=>obtain ⟨t',rfl⟩:=ry;exact PySem.EqMixed.eq_int_str (fin_bl I q (by simp))
    | _=>exact absurd (show false=true from hs) Bool.false_ne_true
  | str i =>
    obtain ⟨t,rfl⟩:=rx
    cases y with
    | non=>cases ry;exact PySem.EqNone.eq_str_none (fin_bl I q (by simp))
    | bl j=>cases ry;exact PySem.EqMixed.eq_str_bool (fin_bl I q (by simp))
    | int j=>obtain ⟨t',rfl⟩:=ry;exact PySem.EqMixed.eq_str_int (fin_bl I q (by simp))
    | str j=>obtain ⟨t',rfl⟩:=ry;exact eq_str (fin_bl I q dec_str)
    | _=>exact absurd (show false=true from hs) Bool.false_ne_true
  | byt i =>
    obtain ⟨t,rfl⟩:=rx
    cases y with
    | byt j=>obtain ⟨t',rfl⟩:=ry;exact PySem.W.eq_bytes (fin_bl I q dec_byt)
    | _=>exact absurd (show false=true from hs) Bool.false_ne_true
  | _=>cases y <;> exact absurd (show false=true from hs) Bool.false_ne_true
theorem op_ne:OpR X (compareOp .NotEq) rNe:=by
  intro pins s σ H x y v u Q I rx ry h
  obtain ⟨hs,q⟩:=h
  cases x with
  | non =>
    cases rx
    cases y with
    | non=>cases ry;exact PySem.EqNone.ne_none_none (fin_bl I q (by simp))
    | bl j=>cases ry;exact PySem.EqNone.ne_none_bool (fin_bl I q (by simp))
    | int j=>obtain ⟨t',rfl⟩:=ry;exact PySem.EqNone.ne_none_int (fin_bl I q (by simp))
    | str j=>obtain ⟨t',rfl⟩:=ry;exact PySem.EqNone.ne_none_str (fin_bl I q (by simp))
    | _=>exact absurd (show false=true from hs) Bool.false_ne_true
  | bl i =>
    cases rx
    cases y with
    | non=>cases ry;exact PySem.EqNone.ne_bool_none (fin_bl I q (by simp))
    | bl j=>cases ry;exact ne_bool (fin_bl I q (congrArg not dec_bl))
    | str j=>obtain ⟨t',rfl⟩:=ry;exact PySem.EqMixed.ne_bool_str (fin_bl I q (by simp))
    | _=>exact absurd (show false=true from hs) Bool.false_ne_true
  | int i =>
    obtain ⟨t,rfl⟩:=rx
    cases y with
    | non=>cases ry;exact PySem.EqNone.ne_int_none (fin_bl I q (by simp))
    | int j=>obtain ⟨t',rfl⟩:=ry;exact ne_int (fin_bl I q (congrArg not dec_int))
    | str j=>obtain ⟨t',rfl⟩:=ry;exact PySem.EqMixed.ne_int_str (fin_bl I q (by simp))
    | _=>exact absurd (show false=true from hs) Bool.false_ne_true
  | str i =>
    obtain ⟨t,rfl⟩:=rx
    cases y with
    | non=>cases ry;exact PySem.EqNone.ne_str_none (fin_bl I q (by simp))
    | bl j=>cases ry;exact PySem.EqMixed.ne_str_bool (fin_bl I q (by simp))
    | int j=>obtain ⟨t',rfl⟩:=ry;exact PySem.EqMixed.ne_str_int (fin_bl I q (by simp))
    | str j=>obtain ⟨t',rfl⟩:=ry;exact ne_str (fin_bl I q (congrArg not dec_str))
    | _=>exact absurd (show false=true from hs) Bool.false_ne_true
  | byt i =>
    obtain ⟨t,rfl⟩:=rx
    cases y with
    | byt j=>obtain ⟨t',rfl⟩:=ry;exact PySem.W.ne_bytes (fin_bl I q (congrArg not dec_byt))
    | _=>exact absurd (show false=true from hs) Bool.false_ne_true
  | _=>cases y <;> exact absurd (show false=true from hs) Bool.false_ne_true
theorem op_lt:OpR X (compareOp .Lt) (rI0 fun i j=>.bl (decide (i < j))):=opB0 fun _ _ _ _ _ _ _ q=>lt_int q
theorem op_le:OpR X (compareOp .LtE) (rI0 fun i j=>.bl (decide (i <= j))):=opB0 fun _ _ _ _ _ _ _ q=>le_int q
theorem op_gt:OpR X (compareOp .Gt) (rI0 fun i j=>.bl (decide (j < i))):=opB0 fun _ _ _ _ _ _ _ q=>gt_int q
theorem op_ge:OpR X (compareOp .GtE) (rI0 fun i j=>.bl (decide (j <= i))):=opB0 fun _ _ _ _ _ _ _ q=>ge_int q
theorem nomark (b:Expr) {op:CmpOp} (h:op ≠ .In:=by decide) (h2:op ≠ .NotIn:=by decide):behindInMarks op b=false:=by
  have e1:(op == CmpOp.In)=false:=by cases op <;> first | rfl | exact absurd rfl h
  have e2:(op == CmpOp.NotIn)=false:=by cases op <;> first | rfl | exact absurd rfl h2
  cases b <;> simp [behindInMarks,e1,e2]
theorem pe_cmpR {op:CmpOp} {r:R2} (ho:OpR X (compareOp op) r) (ha:PE X a ta) (hb:PE X b tb) (hm:behindInMarks op b=false):PE X (.Compare a [op] [b] pos) (tOp r ta tb):=by
  intro pins s σ H Q I h
  exact wpAny_Compare1 (binT ha hb I h fun v u s2 x y H2 I2 rx ry q=>ho pins s2 σ H2 x y v u Q I2 rx ry q) hm
def tTest (t:TE):TT:=fun σ H Q=>t σ H fun x H'=>∃ k,x=.bl k/\Q k H'
theorem pt_cmpR {op:CmpOp} {r:R2} (ho:OpR X (compareOp op) r) (ha:PE X a ta) (hb:PE X b tb) (hm:behindInMarks op b=false):PT X (.Compare a [op] [b] pos) (tTest (tOp r ta tb)):=by
  intro pins s σ H Q I h
  refine wpAny_isTrue_Compare1 (thn (ha pins s σ H _ I h) fun v s1 ⟨x,H1,I1,r1,q1⟩=>thn (hb pins s1 σ H1 _ I1 q1) fun u s2 ⟨y,H2,I2,r2,q2⟩ =>
    thn (ho pins s2 σ H2 x y v u _ I2 r1 r2 q2) fun c s3 ⟨z,H3,I3,r3,k,e,q3⟩=>?_) hm
  subst e
  cases r3
  exact wpAny_truthy_bool ⟨H3,I3,q3⟩
def tChain (r r':R2) (ta tb tc:TE):TE:=fun σ H Q=>ta σ H fun x H1=>tb σ H1 fun y H2=>r x y H2 fun z H3=>∃ k,z=.bl k /\
  (if k=true then tc σ H3 fun w' H4=>r' y w' H4 Q else Q (.bl false) H3)
theorem pe_chain {op op':CmpOp} {r r':R2} (ho:OpR X (compareOp op) r) (ho':OpR X (compareOp op') r') (ha:PE X a ta) (hb:PE X b tb) (hc:PE X c tc)
    (hm:lastMarks [op,op'] [b,c]=false:=by with_unfolding_all rfl):PE X (.Compare a [op,op'] [b,c] pos) (tChain r r' ta tb tc):=by
  intro pins s σ H Q I h
  refine Compare_chain (thn (ha pins s σ H _ I h) fun v s1 ⟨x,H1,I1,r1,q1⟩=>chain_link (thn (hb pins s1 σ H1 _ I1 q1) fun u s2 ⟨y,H2,I2,r2,q2⟩ =>
    thn (ho pins s2 σ H2 x y v u _ I2 r1 r2 q2) fun d s3 ⟨z,H3,I3,r3,k,e,q3⟩=>?_)) hm
  subst e
  cases r3
  refine wpAny_truthy_bool ?_
  cases k with
  | false=>exact ite_ff ⟨.bl false,H3,I3,rfl,q3⟩
  | true=>exact ite_tt (chain_last (thn (hc pins s3 σ H3 _ I3 q3) fun w' s4 ⟨z',H4,I4,r4,q4⟩=>ho' pins s4 σ H4 y z' u w' Q I4 r2 r4 q4))
theorem pt_chain {op op':CmpOp} {r r':R2} (ho:OpR X (compareOp op) r) (ho':OpR X (compareOp op') r') (ha:PE X a ta) (hb:PE X b tb) (hc:PE X c tc)
    (hm:lastMarks [op,op'] [b,c]=false:=by with_unfolding_all rfl):PT X (.Compare a [op,op'] [b,c] pos) (tTest (tChain r r' ta tb tc)):=by
  intro pins s σ H Q I h
  refine isTrue_chain (thn (ha pins s σ H _ I h) fun v s1 ⟨x,H1,I1,r1,q1⟩=>test_link (thn (hb pins s1 σ H1 _ I1 q1) fun u s2 ⟨y,H2,I2,r2,q2⟩ =>
    thn (ho pins s2 σ H2 x y v u _ I2 r1 r2 q2) fun d s3 ⟨z,H3,I3,r3,k,e,q3⟩=>?_)) hm
  subst e
  cases r3
  refine wpAny_truthy_bool ?_
  cases k with
  | false =>
    obtain ⟨k',e',q'⟩:=q3
    cases e'
    exact ite_ff ⟨H3,I3,q'⟩
  | true =>
    refine ite_tt (test_last (thn (hc pins s3 σ H3 _ I3 q3) fun w' s4 ⟨z',H4,I4,r4,q4⟩=>thn (ho' pins s4 σ H4 y z' u w' _ I4 r2 r4 q4) fun d' s5 ⟨z2,H5,I5,r5,k2,e2,q5⟩=>?_))
    subst e2
    cases r5
    exact wpAny_truthy_bool ⟨H5,I5,q5⟩
theorem line63:(sizeLine:Nat) < 2 ^ 63:=by rw [sizeLine_eq];decide
theorem op_add_str:OpR X (binaryOp .Add) (fun x y H Q=>∃ i j,x=.str i/\y=.str j/\i.length + j.length <= sizeLine/\Q (.str (i ++ j)) H):=by
  intro pins s σ H x y v u Q I rx ry h
  obtain ⟨i,j,rfl,rfl,hz,q⟩:=h
  obtain ⟨t,rfl⟩:=rx
  obtain ⟨t',rfl⟩:=ry
  exact add_str (fun t' tk=>⟨.str (i ++ j),H,I.tok _,⟨_,rfl⟩,q⟩) hz
theorem vals1 {x:V} {us:List Value} (r:Vals [x] us):∃ u,us=[u]/\RelV x u:=by
  cases r with
  | cons r1 r2=>cases r2;exact ⟨_,rfl,r1⟩
theorem vals2 {x y:V} {us:List Value} (r:Vals [x,y] us):∃ u w',us=[u,w']/\RelV x u/\RelV y w':=by
  cases r with
  | cons r1 r2 =>
    cases r2 with
    | cons r3 r4=>cases r4;exact ⟨_,_,rfl,r1,r3⟩
theorem call_abs:CallR X (.builtin "abs") (fun xs H Q=>∃ i,xs=[.int i]/\Q (.int (if i < 0 then -i else i)) H):=by
  intro pins s σ H xs us Q I r h
  obtain ⟨i,rfl,q⟩:=h
  obtain ⟨u,rfl,t,rfl⟩:=vals1 r
  exact call_abs_int fun u tk=>⟨.int (if i < 0 then -i else i),H,I.tok _,⟨_,rfl⟩,q⟩
theorem call_max2 (hc:X.calm=true):CallR X (.builtin "max") (fun xs H Q=>∃ i j,xs=[.int i,.int j]/\Q (.int (if j > i then j else i)) H):=by
  intro pins s σ H xs us Q I r h
  obtain ⟨i,j,rfl,q⟩:=h
  obtain ⟨u,w',rfl,⟨t,rfl⟩,⟨t',rfl⟩⟩:=vals2 r
  refine max_two_ints (I.ok.hd hc) fun h' tk k=>⟨_,H,I.kept k,?_,q⟩
  by_cases hj:j > i
  · rw [if_pos hj,if_pos hj];exact ⟨_,rfl⟩
  · rw [if_neg hj,if_neg hj];exact ⟨_,rfl⟩
theorem call_min2 (hc:X.calm=true):CallR X (.builtin "min") (fun xs H Q=>∃ i j,xs=[.int i,.int j]/\Q (.int (if j < i then j else i)) H):=by
  intro pins s σ H xs us Q I r h
  obtain ⟨i,j,rfl,q⟩:=h
  obtain ⟨u,w',rfl,⟨t,rfl⟩,⟨t',rfl⟩⟩:=vals2 r
  refine min_two_ints (I.ok.hd hc) fun h' tk k=>⟨_,H,I.kept k,?_,q⟩
  by_cases hj:j < i
  · rw [if_pos hj,if_pos hj];exact ⟨_,rfl⟩
  · rw [if_neg hj,if_neg hj];exact ⟨_,rfl⟩
theorem call_int1:CallR X (.type "int") (fun xs H Q=>(∃ i,xs=[.int i]/\Q (.int i) H) ∨ ∃ k,xs=[.bl k]/\Q (.int (if k then 1 else 0)) H):=by
  intro pins s σ H xs us Q I r h
  rcases h with ⟨i,rfl,q⟩ | ⟨k,rfl,q⟩
  · obtain ⟨u,rfl,t,rfl⟩:=vals1 r
    exact call_int_int ⟨.int i,H,I,⟨_,rfl⟩,q⟩
  · obtain ⟨u,rfl,r1⟩:=vals1 r
    cases r1
    exact call_int_bool ⟨.int (if k then 1 else 0),H,I.tok _,⟨_,rfl⟩,q⟩
theorem call_str_int:CallR X (.type "str") (fun xs H Q=>∃ i,xs=[.int i]/\i.natAbs.log2 < 1920/\Q (.str (toString i)) H):=by
  intro pins s σ H xs us Q I r h
  obtain ⟨i,rfl,hz,q⟩:=h
  obtain ⟨u,rfl,t,rfl⟩:=vals1 r
  exact PySem.P.str_of_int hz ⟨.str _,H,I.tok _,⟨_,rfl⟩,q⟩
end
end L2
namespace L2
open PySem PySem.Spec PyProof.Rows
structure ObjM (h:Heap) (x dx C:Addr) (mA:Str->Option Value):Prop where
  obj:h.get? x=some (PySem.W.instObj C dx)
  ns:h.Ns1 dx mA
  ne:dx ≠ x
theorem lookIn_ns {h:Heap} {dx:Addr} {mA:Str->Option Value} (n:h.Ns1 dx mA):∃ od,h.get? dx=some od/\∀ name,PySem.W.lookIn name od=some (mA name):=by
  obtain ⟨o,es,ep,ho,hd,hk,_,hm⟩:=n
  refine ⟨o,ho,fun name=>?_⟩
  have e:=hm name
  unfold nsFind findBy at e
  rw [<- Array.find?_toList] at e
  unfold PySem.W.lookIn
  rw [hd]
  dsimp only
  split
  · rename_i y q
    rw [q] at e
    exact congrArg some e
  · rename_i q
    rw [q] at e
    have a:es.toList.any (·.refKey)=false:=by
      rw [List.any_eq_false]
      intro y hy
      obtain ⟨z,t,hkey⟩:=hk y (Array.mem_toList_iff.mp hy)
      simp [DictEntry.refKey,hkey]
    have a':¬ es.toList.any (·.refKey)=true:=by rw [a];exact Bool.false_ne_true
    rw [if_neg a']
    exact congrArg some e
theorem ObjM.look {h:Heap} {x dx C:Addr} {mA:Str->Option Value} (I:ObjM h x dx C mA):∃ od,PySem.W.InstAt h x (PySem.W.instObj C dx) C (some od)/\∀ name,PySem.W.lookIn name od=some (mA name) :=
  let ⟨od,ho,hl⟩:=lookIn_ns I.ns
  ⟨od,⟨I.obj,rfl,rfl,ho⟩,hl⟩
section
variable {prog:Program} {w:World} {A:Around} {E:Value->Shared->Prop} {s:Shared} {K:PySem.W.Frag} {x dx C f:Addr} {mA:Str->Option Value} {name:Str} {v:Value}
theorem get_map {expr:Bool} {Q:Value->Shared->Prop} (X:K.In s.heap) (I:ObjM s.heap x dx C mA) (hg:PySem.W.plainGet K C name=true) (hh:PySem.W.hasDictIn K C=true)
    (ha:PySem.W.findIn K (.ref C) name=some none) (hv:mA name=some v) (hv':PySem.W.handedIn v=true) (h:Q v { s with toks:=s.toks + 1 }) :
    wpAny (model prog w) A (getAttr (.ref x) name expr) Q E s:=by
  obtain ⟨od,J,hl⟩:=I.look
  exact PySem.W.get_value X J (PySem.W.plainGet_of hg).1 (PySem.W.findObj_own hh ha rfl (by rw [hl,hv])) hv' h
theorem get_meth {pl:Sem Bool} {Q:Value × List Value->Shared->Prop} (X:K.In s.heap) (I:ObjM s.heap x dx C mA) (hg:PySem.W.plainGet K C name=true)
    (hf:PySem.W.findIn K (.ref C) name=some (some (.ref f))) (ht:PySem.W.isFn K (.ref f)=true) (hv:mA name=none) (h:Q (.ref f,[.ref x]) s) :
    wpAny (model prog w) A (getMethod (.ref x) name pl) Q E s:=by
  obtain ⟨od,J,hl⟩:=I.look
  exact PySem.W.method_fn X J (PySem.W.plainGet_of hg).1 (PySem.W.plainGet_of hg).2 hf (beq_iff_eq.mp ht) (by show (PySem.W.lookIn name od).map (·.isSome)=some false;rw [hl,hv];rfl) h
theorem set_map {ns:List Str} {Q:Unit->Shared->Prop} (X:K.In s.heap) (I:ObjM s.heap x dx C mA)
    (hs:PySem.W.findIn K (.ref C) "__setattr__"=some (some (.builtin "object.__setattr__"))) (hp:PySem.W.plainOver K C=true) (ht:PySem.W.takerIn K C name=some none) (hh:PySem.W.hasDictIn K C=true)
    (hw:PySem.Within mA ns) (hsz:ns.length <= sizeLine)
    (h:∀ h',ObjM h' x dx C (fun y=>if y=name then some v else mA y)->Heap.SameBut dx s.heap h'->Q () { s with heap:=h',toks:=s.toks + 2 }) :
    wpAny (model prog w) A (setAttr (.ref x) name v) Q E s:=by
  obtain ⟨od,J,hl⟩:=I.look
  refine PySem.W.set_plain X J hs (PySem.W.osa_open (s:={ s with toks:=s.toks + 1 }) (r:=none) X J hp ht fun b=>?_)
  obtain ⟨cd,hc,hd'⟩:=PySem.W.any_some hh
  have hx:s.heap.get? x=some ⟨.ref C,some dx,.plain,#[]⟩:=I.obj
  refine wpAny_bind (wpAny_pure (wpAny_bind (wpAny_bind (wpAny_loadPart hx (wpAny_bind (PySem.W.Looks.here (s:={ s with toks:=s.toks + 1 }) (PySem.W.looks_clsIn X hc) ?_))))))
  rw [hd']
  refine wpAny_pure (a:=some dx) (wpAny_bind (wpAny_pure (wpAny_bind ?_)))
  refine wpAny_nsSet1 (s:={ s with toks:=s.toks + 1 }) I.ns fun h' hn2 hs2=>?_
  obtain ⟨oD,esD,epD,hoD,hdD,hcD⟩:=hn2.count (PySem.Within.cons name v hw)
  refine wpAny_bind (wpAny_lookBehind hoD (by rw [hdD];exact pastItsLine_dict (Nat.le_trans hcD (by rw [List.length_cons];omega))) ?_)
  exact wpAny_pure (h _ ⟨(hs2.2 _ (Ne.symm I.ne)).trans I.obj,hn2,I.ne⟩ hs2)
theorem make_map {R:Result->Shared->Prop} {vs:List Value} {kw:List (Str × Value)} (X:K.In s.heap) (hm:PySem.W.makesIn K C=true)
    (hi:PySem.W.findIn K (.ref C) "__init__"=some (some (.ref f))) (hf:PySem.W.typeIn K (.ref f)=some (.type "function"))
    (h:codeAny (model prog w) (A.under (.builtin "type.__call__" ⟨.ref C :: vs,kw⟩)) (.call (.ref f) ⟨.ref (s.heap.objs.size + 1) :: vs,kw⟩) (PySem.W.InitBack (s.heap.objs.size + 1) R)
      { s with heap:=(s.heap.push PySem.W.emptyDict).push (PySem.W.instObj C s.heap.objs.size) }) :
    codeAny (model prog w) A (.call (.ref C) ⟨vs,kw⟩) R s:=by
  obtain ⟨hh,g,d,t,os⟩:=s
  exact PySem.W.make_core (PySem.W.makes_of X hm) (PySem.W.looks_findIn X hi) (fun self=>PySem.W.bind_fn X self hf) (.inl rfl) h
end
def putF (f:Str) (v:V):List (Str × V)->List (Str × V)
  | []=>[(f,v)]
  | (g,x) :: r=>if g=f then (g,v) :: r else (g,x) :: putF f v r
theorem lookup_putF (f g:Str) (v:V):∀ fs:List (Str × V),(putF f v fs).lookup g=if g=f then some v else fs.lookup g
  | []=>by
    show List.lookup g [(f,v)]=_
    by_cases h:g=f
    · have hb:(g == f)=true:=beq_iff_eq.mpr h
      simp only [List.lookup,hb,if_pos h]
    · have hb:(g == f)=false:=beq_eq_false_iff_ne.mpr h
      simp only [List.lookup,hb,if_neg h]
  | (k,x) :: r=>by
    have ih:=lookup_putF f g v r
    rw [show putF f v ((k,x) :: r)=(if k=f then (k,v) :: r else (k,x) :: putF f v r) from rfl]
    by_cases hk:k=f
    · rw [if_pos hk]
      by_cases h:g=k
      · have hb:(g == k)=true:=beq_iff_eq.mpr h
        simp only [List.lookup,hb,if_pos (h.trans hk)]
      · have hb:(g == k)=false:=beq_eq_false_iff_ne.mpr h
        simp only [List.lookup,hb,if_neg (fun e:g=f=>h (e.trans hk.symm))]
    · rw [if_neg hk]
      by_cases h:g=k
      · have hb:(g == k)=true:=beq_iff_eq.mpr h
        simp only [List.lookup,hb,if_neg (fun e:g=f=>hk (h.symm.trans e))]
      · have hb:(g == k)=false:=beq_eq_false_iff_ne.mpr h
        simp only [List.lookup,hb]
        exact ih
theorem keys_putF (f:Str) (v:V):∀ fs:List (Str × V),f ∈ (putF f v fs).map (·.1)/\∀ g,g ∈ fs.map (·.1)->g ∈ (putF f v fs).map (·.1)
  | []=>⟨by simp [putF],fun g h=>by simp at h⟩
  | (k,x) :: r=>by
    obtain ⟨i1,i2⟩:=keys_putF f v r
    rw [show putF f v ((k,x) :: r)=(if k=f then (k,v) :: r else (k,x) :: putF f v r) from rfl]
    by_cases hk:k=f
    · rw [if_pos hk]
      subst hk
      exact ⟨by simp,fun g h=>by simpa using h⟩
    · rw [if_neg hk]
      refine ⟨?_,fun g h=>?_⟩
      · rw [List.map_cons]
        exact List.mem_cons_of_mem _ i1
      · rw [List.map_cons] at h ⊢
        rcases List.mem_cons.mp h with e | e
        · exact List.mem_cons.mpr (.inl e)
        · exact List.mem_cons_of_mem _ (i2 g e)
theorem length_putF (f:Str) (v:V):∀ fs:List (Str × V),(putF f v fs).length <= fs.length + 1
  | []=>by simp [putF]
  | (k,x) :: r=>by
    have ih:=length_putF f v r
    rw [show putF f v ((k,x) :: r)=(if k=f then (k,v) :: r else (k,x) :: putF f v r) from rfl]
    by_cases hk:k=f
    · rw [if_pos hk,List.length_cons,List.length_cons];omega
    · rw [if_neg hk,List.length_cons,List.length_cons];omega
theorem RelO.some_of {v:V} {o:Option Value} (r:RelO (some v) o):∃ u,o=some u/\RelV v u:=by
  cases o with
  | none=>exact (show False from r).elim
  | some u=>exact ⟨u,rfl,r⟩
theorem RelO.none_of {o:Option Value} (r:RelO none o):o=none:=by
  cases o with
  | none=>rfl
  | some u=>exact (show False from r).elim
theorem handed_of {v:V} {u:Value} (r:RelV v u):PySem.W.handedIn u=true:=by
  cases v with
  | non=>cases (show u=Value.none from r);rfl
  | bl b=>cases (show u=Value.bool b from r);rfl
  | int i=>obtain ⟨t,e⟩:=(show ∃ t,u=Value.int i t from r);cases e;rfl
  | str x=>obtain ⟨t,e⟩:=(show ∃ t,u=Value.str x t from r);cases e;rfl
  | byt b=>obtain ⟨t,e⟩:=(show ∃ t,u=Value.bytes b t from r);cases e;rfl
  | flt b=>obtain ⟨t,e⟩:=(show ∃ t,u=Value.float b t from r);cases e;rfl
  | ref a=>cases (show u=Value.ref a from r);rfl
  | ty n=>cases (show u=Value.type n from r);rfl
section
variable {P:Program} {w:World} {H H':Hp} {h h':Heap} {a C dx:Addr} {fs fs':List (Str × V)}
theorem ins_get (hok:HOk P w H h) (e:H a=some (.ins C dx fs)):∃ mA,ObjM h a dx C mA/\(∀ f,RelO (fs.lookup f) (mA f))/\PySem.Within mA (fs.map (·.1))/\fs.length <= 1000/\H dx=some (.own a):=by
  obtain ⟨d,z,ne,ob,mA,n,r,q⟩:=(show ObjOk P w H h a (.ins C dx fs) from hok a _ e)
  exact ⟨mA,⟨ob,n,ne⟩,r,q,z,d⟩
end
structure Cls (K:PySem.W.Frag) (C:Addr):Prop where
  pg:PySem.W.plainGet K C Str.empty=true
  hd:PySem.W.hasDictIn K C=true
  po:PySem.W.plainOver K C=true
  sa:PySem.W.findIn K (.ref C) "__setattr__"=some (some (.builtin "object.__setattr__"))
theorem Cls.get {K:PySem.W.Frag} {C:Addr} (c:Cls K C) (f:Str):PySem.W.plainGet K C f=true:=c.pg
def NoAttr (K:PySem.W.Frag) (C:Addr) (f:Str):Prop:=PySem.W.findIn K (.ref C) f=some none
theorem NoAttr.taker {K:PySem.W.Frag} {C:Addr} {f:Str} (n:NoAttr K C f):PySem.W.takerIn K C f=some none:=by
  unfold PySem.W.takerIn
  rw [show PySem.W.findIn K (.ref C) f=some none from n]
  rfl
structure Con (K:PySem.W.Frag) (C:Addr) (f:Str) (v:V) (u:Value):Prop where
  at_:PySem.W.findIn K (.ref C) f=some (some u)
  rel:RelV v u
  get:PySem.W.specialIn K u "__get__"=some none
  cp:PySem.W.copiedNames.contains f=false
structure Meth (K:PySem.W.Frag) (C:Addr) (m:Str) (f:Addr):Prop where
  at_:PySem.W.findIn K (.ref C) m=some (some (.ref f))
  fn:PySem.W.isFn K (.ref f)=true
  kp:PySem.W.keepIn K (.ref f)=true
section
variable {X:Cx} {pins:List (Addr × Obj)} {σ:St} {H:Hp} {s:Shared} {a C dx:Addr} {fs:List (Str × V)} {f:Str} {v:V} {A:Around} {E:Value->Shared->Prop}
theorem getattr_ok {b:Bool} {Q:Value->Shared->Prop} (I:Inv X pins σ H s) (e:H a=some (.ins C dx fs)) (c:Cls X.K C) (n:NoAttr X.K C f) (l:fs.lookup f=some v)
    (h:∀ u s',Inv X pins σ H s'->RelV v u->Q u s'):wpAny (model X.prog X.w) A (getAttr (.ref a) f b) Q E s:=by
  obtain ⟨mA,O,r,_,_,_⟩:=ins_get I.hok e
  obtain ⟨u,hu,ru⟩:=RelO.some_of (v:=v) (o:=mA f) (by rw [<- l];exact r f)
  exact get_map I.kIn O (c.get f) c.hd n hu (handed_of ru) (h u _ (I.tok _) ru)
theorem getmeth_ok {m:Str} {g:Addr} {pl:Sem Bool} {Q:Value × List Value->Shared->Prop} (I:Inv X pins σ H s) (e:H a=some (.ins C dx fs)) (c:Cls X.K C) (k:Meth X.K C m g) (l:fs.lookup m=none)
    (h:Q (.ref g,[.ref a]) s):wpAny (model X.prog X.w) A (getMethod (.ref a) m pl) Q E s:=by
  obtain ⟨mA,O,r,_,_,_⟩:=ins_get I.hok e
  have hn:mA m=none:=RelO.none_of (by rw [<- l];exact r m)
  exact get_meth I.kIn O (c.get m) k.at_ k.fn hn h
theorem setattr_ok {y:V} {u:Value} {Q:Unit->Shared->Prop} (I:Inv X pins σ H s) (e:H a=some (.ins C dx fs)) (c:Cls X.K C) (n:NoAttr X.K C f) (hl:fs.length < 1000) (ry:RelV y u)
    (h:∀ s',Inv X pins σ (upd H a (.ins C dx (putF f y fs))) s'->Q () s'):wpAny (model X.prog X.w) A (setAttr (.ref a) f u) Q E s:=by
  obtain ⟨mA,O,r,wi,_,ho⟩:=ins_get I.hok e
  have hz:(fs.map (·.1)).length <= sizeLine:=by rw [List.length_map,sizeLine_eq];omega
  refine set_map I.kIn O c.sa c.po n.taker c.hd wi hz fun h' O' sb=>h _ ?_
  have hd:∃ o,h'.get? dx=some o:=let ⟨o,_,_,e',_⟩:=O'.ns;⟨o,e'⟩
  refine I.write (x:=a) (e:=dx) (by rw [e];exact True.intro) (.inr ho) (fun b q hb z=>(sb.2 b hb).trans z) hd ?_
  refine ⟨by rw [upd_ne O.ne];exact ho,?_,O.ne,O'.obj,_,O'.ns,fun g=>?_,fun g hg=>?_⟩
  · have:=length_putF f y fs;omega
  · show RelO ((putF f y fs).lookup g) (if g=f then some u else mA g)
    rw [lookup_putF]
    by_cases q:g=f
    · rw [if_pos q,if_pos q];exact ry
    · rw [if_neg q,if_neg q];exact r g
  · by_cases q:g=f
    · rw [q];exact (keys_putF f y fs).1
    · refine (keys_putF f y fs).2 g (wi g fun z=>hg ?_)
      show (if g=f then some u else mA g)=none
      rw [if_neg q];exact z
theorem Inv.made (I:Inv X pins σ H s):Inv X pins σ (upd (upd H s.heap.objs.size (.own (s.heap.objs.size + 1))) (s.heap.objs.size + 1) (.ins C s.heap.objs.size []))
    { s with heap:=(s.heap.push PySem.W.emptyDict).push (PySem.W.instObj C s.heap.objs.size) }:=by
  have e1:(s.heap.push PySem.W.emptyDict).get? s.heap.objs.size=some PySem.W.emptyDict:=Heap.get?_push_size s.heap rfl
  have e2:((s.heap.push PySem.W.emptyDict).push (PySem.W.instObj C s.heap.objs.size)).get? (s.heap.objs.size + 1)=some (PySem.W.instObj C s.heap.objs.size):=by
    have:=Heap.get?_push_size (s.heap.push PySem.W.emptyDict) (o:=PySem.W.instObj C s.heap.objs.size) rfl
    rwa [Heap.size_push] at this
  have e3:(s.heap.push PySem.W.emptyDict).Ns s.heap.objs.size (fun _=>none):=⟨PySem.W.emptyDict,#[],_,e1,rfl,(fun e he=>absurd he (by simp)),fun _=>rfl⟩
  have I1:=I.laid (a:=s.heap.objs.size) (o:=.own (s.heap.objs.size + 1)) (h':=s.heap.push PySem.W.emptyDict) (t':=s.toks) (fun b u q=>Heap.get?_push_of_some _ q) (Nat.le_refl _) ⟨_,e1⟩
  refine I1.laid (a:=s.heap.objs.size + 1) (o:=.ins C s.heap.objs.size []) (t':=s.toks) (fun b u q=>Heap.get?_push_of_some _ q) (Nat.le_of_eq (Heap.size_push _ _)) ?_
  have ne:s.heap.objs.size ≠ s.heap.objs.size + 1:=Nat.ne_of_lt (Nat.lt_succ_self _)
  refine ⟨by rw [upd_ne ne,upd_same],Nat.zero_le _,ne,e2,fun _=>none,(Heap.Ns1.of_empty e3).at fun o q=>Heap.get?_push_of_some _ q,fun _=>True.intro,fun y hy=>absurd rfl hy⟩
theorem attr_of {prog:Program} {w:World} {env:Env} {e:Expr} {f:Str} {pos:Pos} {s:Shared} {Q:Value->Shared->Prop} (hb:attributeBase e f env (eval e env)=eval e env)
    (h:wpAny (model prog w) A (eval e env) (fun o s₁=>wpAny (model prog w) A (getAttr o f true) Q E s₁) E s):wpAny (model prog w) A (eval (.Attribute e f pos) env) Q E s :=
  Attribute_any_ h (by rw [arm_eval_Attribute,hb])
end
def tFld (K:PySem.W.Frag) (ta:TE) (f:Str):TE:=fun σ H Q=>ta σ H fun x H1=>∃ a C dx fs v,x=.ref a/\H1 a=some (.ins C dx fs)/\Cls K C/\NoAttr K C f/\fs.lookup f=some v/\Q v H1
def sFld (K:PySem.W.Frag) (ta tv:TE) (f:Str):TS:=fun D σ H=>tv σ H fun y H1=>ta σ H1 fun x H2=>∃ a C dx fs,x=.ref a/\H2 a=some (.ins C dx fs)/\Cls K C/\NoAttr K C f/\fs.length < 1000 /\
  D.nx σ (upd H2 a (.ins C dx (putF f y fs)))
section
variable {X:Cx} {o e value:Expr} {f:Str} {pos pos' tpos:Pos} {ta tv:TE}
theorem pe_fld (he:PE X e ta) (hb:attributeBase e f X.env (eval e X.env)=eval e X.env):PE X (.Attribute e f pos) (tFld X.K ta f):=by
  intro pins s σ H Q I h
  refine attr_of hb (thn (he pins s σ H _ I h) fun u s1 ⟨x,H1,I1,rx,a,C,dx,fs,v,ex,ea,c,n,l,q⟩=>?_)
  subst ex
  obtain rfl:u=Value.ref a:=rx
  exact getattr_ok I1 ea c n l fun u' s2 I2 ru=>⟨v,H1,I2,ru,q⟩
theorem ps_fld (ha:PE X o ta) (hv:PE X value tv) (hs:swapsWith value (some (.Attribute o f pos')) pos.line X.env=pure false):PS X (.Assign [.Attribute o f pos'] value pos) (sFld X.K ta tv f):=by
  intro pins s σ H D I h
  refine plainObj_wpAny_Assign_Attribute (thn (hv pins s σ H _ I h) fun u s1 ⟨y,H1,I1,ry,q⟩=>thn (ha pins s1 σ H1 _ I1 q) fun ov s2 ⟨x,H2,I2,rx,a,C,dx,fs,ex,ea,c,n,l,q2⟩=>?_) hs
  subst ex
  obtain rfl:ov=Value.ref a:=rx
  exact setattr_ok I2 ea c n l ry fun s3 I3=>⟨σ,_,I3,q2⟩
end
section
variable {X:Cx} {pins:List (Addr × Obj)} {σ:St} {H:Hp} {s:Shared} {A:Around} {E:Value->Shared->Prop} {Q:Value->Shared->Prop} {c:Value} {b:Bool}
inductive TyOf (K:PySem.W.Frag) (H:Hp):V->Value->Prop where
  | non:TyOf K H .non (.type "NoneType")
  | bl (x:Bool):TyOf K H (.bl x) (.type "bool")
  | int (i:Int):TyOf K H (.int i) (.type "int")
  | str (x:Str):TyOf K H (.str x) (.type "str")
  | flt (x:UInt64):TyOf K H (.flt x) (.type "float")
  | lst {a:Addr} {xs:List V} (e:H a=some (.lst xs)):TyOf K H (.ref a) (.type "list")
  | frz {a:Addr} {o:Obj} {xs:List V} (e:H a=some (.frz o (.lst xs))):TyOf K H (.ref a) (.type "list")
  | tup {a:Addr} {xs:List V} (e:H a=some (.tup xs)):TyOf K H (.ref a) (.type "tuple")
  | dK {a:Addr} {kvs:List (Key × V)} (e:H a=some (.dK kvs)):TyOf K H (.ref a) (.type "dict")
  | dT {a:Addr} {kvs:List (List Key × V)} (e:H a=some (.dT kvs)):TyOf K H (.ref a) (.type "dict")
  | ins {a C dx:Addr} {fs:List (Str × V)} (e:H a=some (.ins C dx fs)) (cl:Cls K C) (ha:PySem.W.findIn K (.ref C) "__class__"=some (some (.builtin "object.__class__")))
      (hn:PySem.W.specialIn K (.builtin "object.__class__") "__get__"=some (some (.builtin "getset_descriptor.__get__"))) (htk:PySem.W.takesIn K (.builtin "object.__class__")=some true)
      (hm:PySem.W.mroIn K C (.type "object")=some true):TyOf K H (.ref a) (.ref C)
theorem isinst_ok {x:V} {u t:Value} (I:Inv X pins σ H s) (rx:RelV x u) (ty:TyOf X.K H x t) (e:PySem.W.kitOne X.K t c=some b) (h:∀ tk,Q (.bool b) { s with toks:=tk }) :
    wpAny (model X.prog X.w) A (call (.builtin "isinstance") [u,c]) Q E s:=by
  cases ty with
  | non=>cases (show u=Value.none from rx);exact PySem.W.kia_one PySem.W.kitx_none I.kIn True.intro e (fun z=>nomatch z) h
  | bl y=>cases (show u=Value.bool y from rx);exact PySem.W.kia_one PySem.W.kitx_bool I.kIn True.intro e (fun z=>nomatch z) h
  | int i=>obtain ⟨t,q⟩:=(show ∃ t,u=Value.int i t from rx);cases q;exact PySem.W.kia_one PySem.W.kitx_int I.kIn True.intro e (fun z=>nomatch z) h
  | str y=>obtain ⟨t,q⟩:=(show ∃ t,u=Value.str y t from rx);cases q;exact PySem.W.kia_one PySem.W.kitx_str I.kIn True.intro e (fun z=>nomatch z) h
  | flt y=>obtain ⟨t,q⟩:=(show ∃ t,u=Value.float y t from rx);cases q;exact PySem.W.kia_one PySem.W.kitx_float I.kIn True.intro e (fun z=>nomatch z) h
  | @lst a xs ea =>
    cases (show u=Value.ref a from rx)
    obtain ⟨_,_,n,_,h1⟩:=(show ObjOk X.prog X.w H s.heap a (.lst xs) from I.hok a _ ea)
    exact PySem.W.kia_one PySem.W.kitx_list I.kIn ⟨_,h1,rfl⟩ e (fun z=>nomatch z) h
  | @frz a ob xs ea =>
    cases (show u=Value.ref a from rx)
    obtain ⟨_,_,_,n,_,h1⟩:=(show ObjOk X.prog X.w H s.heap a (.frz ob (.lst xs)) from I.hok a _ ea)
    exact PySem.W.kia_one PySem.W.kitx_list I.kIn ⟨_,h1,rfl⟩ e (fun z=>nomatch z) h
  | @tup a xs ea =>
    cases (show u=Value.ref a from rx)
    obtain ⟨_,_,_,p⟩:=(show ObjOk X.prog X.w H s.heap a (.tup xs) from I.hok a _ ea)
    obtain ⟨o,h1,h2,_⟩:=p
    exact PySem.W.kia_one PySem.W.kitx_tuple I.kIn ⟨o,h1,h2⟩ e (fun z=>nomatch z) h
  | @dK a kvs ea =>
    cases (show u=Value.ref a from rx)
    obtain ⟨_,_,vs,_,p⟩:=(show ObjOk X.prog X.w H s.heap a (.dK kvs) from I.hok a _ ea)
    obtain ⟨o,es,ep,h1,h2,_⟩:=p
    exact PySem.W.kia_one PySem.W.kitx_dict I.kIn ⟨o,h1,h2.1⟩ e (fun z=>nomatch z) h
  | @dT a kvs ea =>
    cases (show u=Value.ref a from rx)
    obtain ⟨_,_,xs,_,o,es,ep,h1,h2,_⟩:=(show ObjOk X.prog X.w H s.heap a (.dT kvs) from I.hok a _ ea)
    exact PySem.W.kia_one PySem.W.kitx_dict I.kIn ⟨o,h1,h2.1⟩ e (fun z=>nomatch z) h
  | @ins a C dx fs ea cl ha hn htk hm =>
    cases (show u=Value.ref a from rx)
    obtain ⟨mA,O,_⟩:=ins_get I.hok ea
    obtain ⟨od,J,_⟩:=O.look
    exact PySem.W.kia_one (PySem.W.kitx_own (cl.get _) cl.hd ha hn htk hm) I.kIn J e (fun z=>nomatch z) h
end
end L2
namespace L2
open PySem PySem.Spec PyProof.Rows
structure Room (k:Nat) (A:Around):Prop where
  hd:A.handled=none
  dp:A.depth + 3 * k + 5 < recursionLimit
  un:A.units + 16 * k + 200 < cLine
theorem Room.mono {j k:Nat} {A:Around} (r:Room k A) (h:j <= k):Room j A:=⟨r.hd,by have:=r.dp;omega,by have:=r.un;omega⟩
theorem Room.deeper {k:Nat} {A:Around} (r:Room (k + 1) A) (env:Env):Room k (A.deeper env) :=
  ⟨r.hd,by have:=r.dp;show A.depth + 1 + 3 * k + 5 < _;omega,by have:=r.un;show A.units + 3 + 16 * k + 200 < _;omega⟩
theorem make_depth {A:Around} {C:Addr} {us:List Value} {kw:List (Str × Value)}:(A.under (.builtin "type.__call__" ⟨.ref C :: us,kw⟩)).depth=A.depth + 1:=by
  first | rfl | simp [Around.under,Code.weight,Code.isCreation,Code.isGuard,Code.isCaller,Code.frames,Code.isFrame,guardIds]
theorem make_units {A:Around} {C:Addr} {us:List Value} {kw:List (Str × Value)}:(A.under (.builtin "type.__call__" ⟨.ref C :: us,kw⟩)).units=A.units + 1:=by
  first | rfl | simp [Around.under,Code.cUnits,Code.frames,Code.isFrame]
theorem Room.make {k:Nat} {A:Around} (r:Room (k + 1) A) (C:Addr) (us:List Value) (kw:List (Str × Value)):Room k (A.under (.builtin "type.__call__" ⟨.ref C :: us,kw⟩)) :=
  ⟨r.hd,by have:=r.dp;rw [make_depth];omega,by have:=r.un;rw [make_units];omega⟩
theorem Room.depth {k:Nat} {A:Around} (r:Room k A):A.depth < recursionLimit:=by have:=r.dp;omega
theorem Room.units {k:Nat} {A:Around} (r:Room k A):A.units + 64 < cLine:=by have:=r.un;omega
def tNil:TA:=fun _ H Q=>Q [] H
def tCons (ta:TE) (tr:TA):TA:=fun σ H Q=>ta σ H fun x H1=>tr σ H1 fun xs H2=>Q (x :: xs) H2
section
variable {X:Cx} {e:Expr} {es:List Expr} {te:TE} {t:TA} {pos:Pos}
theorem pa_nil:PA X [] tNil:=fun _ _ _ _ H Q I h=>Calls.spliced_nil ⟨[],H,I,.nil,h⟩
theorem pa_cons (ha:PE X e te) (hr:PA X es t) (hs:starEach (e :: es) X.env=(false,eval e X.env) :: starEach es X.env:=by rfl):PA X (e :: es) (tCons te t):=by
  intro pos pins s σ H Q I h
  rw [hs]
  show wpAny _ _ (spliced ((false,eval e X.env) :: backTo pos (starEach es X.env))) _ _ s
  refine Calls.spliced_cons (thn (ha pins s σ H _ I h) fun u s1 ⟨x,H1,I1,r1,q1⟩=>?_)
  exact thn (hr pos pins s1 σ H1 _ I1 q1) fun us s2 ⟨xs,H2,I2,r2,q2⟩=>⟨x :: xs,H2,I2,.cons r1 r2,q2⟩
def tTup (t:TA):TE:=fun σ H Q=>t σ H fun xs H1=>xs.length <= sizeLine/\∀ p,H1 p=none->Q (.ref p) (upd H1 p (.tup xs))
def tLst (t:TA):TE:=fun σ H Q=>t σ H fun xs H1=>xs.length <= sizeLine/\∀ p,H1 p=none->Q (.ref p) (upd H1 p (.lst xs))
theorem pe_tup {x1} (h:PA X es t):PE X (.Tuple es x1 pos) (tTup t):=by
  intro pins s σ H Q I hq
  refine wpAny_Tuple_spliced (thn (h pos pins s σ H _ I hq) fun us s1 ⟨xs,H1,I1,r,z,q⟩=>⟨by rw [<- r.length];exact z,?_⟩)
  have hf:H1 s1.heap.objs.size=none:=I1.hok.fresh (Nat.le_refl _)
  refine ⟨.ref s1.heap.objs.size,upd H1 s1.heap.objs.size (.tup xs),I1.laid (t':=s1.toks) (fun b u e=>Heap.get?_push_of_some _ e) (Nat.le_refl _) ?_,rfl,q _ hf⟩
  exact ⟨z,us,r,⟨_,Heap.get?_push_size _ rfl,rfl,_,rfl⟩⟩
theorem pe_lst (h:PA X es t):PE X (.List es pos) (tLst t):=by
  intro pins s σ H Q I hq
  refine wpAny_List_spliced (thn (h pos pins s σ H _ I hq) fun us s1 ⟨xs,H1,I1,r,z,q⟩=>⟨by rw [<- r.length];exact z,?_⟩)
  have hf:H1 s1.heap.objs.size=none:=I1.hok.fresh (Nat.le_refl _)
  refine ⟨.ref s1.heap.objs.size,upd H1 s1.heap.objs.size (.lst xs),I1.laid (t':=s1.toks) (fun b u e=>Heap.get?_push_of_some _ e) (Nat.le_refl _) ?_,rfl,q _ hf⟩
  exact ⟨z,us,0,r,Heap.get?_push_size _ rfl⟩
end
abbrev Sp:=List V->Hp->VK->XK->Prop
abbrev CXT:=List Env->Hp->Shared->XK->Value->Shared->Prop
structure Env0 (P:Program) (w:World) (K:PySem.W.Frag) (mg:Str->Option Value) (base:Heap) (A:Around) (outer:List Env) (s:Shared) (H:Hp):Prop where
  frames:A.frames=some outer
  mod:Mod K mg base
  bs:∀ b o,base.get? b=some o->s.heap.get? b=some o/\H b=none
  bsz:base.objs.size <= s.heap.objs.size
  funs:s.heap.FunFrames base outer
  frf:∀ b ∈ frs outer,H b=none
  hok:HOk P w H s.heap
  bare:AllBare s.gens
def CE (outer:List Env) (P:Program) (w:World) (H:Hp) (s:Shared) (Q:VK) (u:Value) (s':Shared):Prop :=
  ∃ v H',s'.os=s.os/\AllBare s'.gens/\Un (frs outer) [] H H' s.heap s'.heap/\HOk P w H' s'.heap/\RelV v u/\Q v H'
def CR (CX:CXT) (outer:List Env) (P:Program) (w:World) (H:Hp) (s:Shared) (Q:VK) (E:XK) (r:Result) (s':Shared):Prop :=
  match r with
  | .ok (.ret u)=>CE outer P w H s Q u s'
  | .ok _=>False
  | .error e=>CX outer H s E e s'
structure FnOk (P:Program) (w:World) (K:PySem.W.Frag) (mg:Str->Option Value) (base:Heap) (CX:CXT) (k:Nat) (f:Addr) (fd:FuncData) (ps:List Str) (sp:Sp):Prop where
  len:∀ vs H Q E,sp vs H Q E->vs.length=ps.length
  run:∀ (A:Around) (outer:List Env) (s:Shared) (H:Hp) (args:Args) (us:List Value) (vs:List V) (Q:VK) (E:XK),Room k A->Env0 P w K mg base A outer s H->BindsTo s fd args (ps.zip us)->Vals vs us->sp vs H Q E ->
    codeAny (model P w) A (.call (.ref f) args) (CR CX outer P w H s Q E) s
theorem FnOk.mono {P:Program} {w:World} {K:PySem.W.Frag} {mg:Str->Option Value} {base:Heap} {CX:CXT} {j k:Nat} {f:Addr} {fd:FuncData} {ps:List Str} {sp:Sp} (F:FnOk P w K mg base CX j f fd ps sp) (h:j <= k) :
    FnOk P w K mg base CX k f fd ps sp:=⟨F.len,fun A outer s H args us vs Q E hr=>F.run A outer s H args us vs Q E (hr.mono h)⟩
theorem Env0.make {P:Program} {w:World} {K:PySem.W.Frag} {mg:Str->Option Value} {base:Heap} {A:Around} {outer:List Env} {s:Shared} {H:Hp} (e:Env0 P w K mg base A outer s H) (C:Addr) (us:List Value) (kw:List (Str × Value)) :
    Env0 P w K mg base (A.under (.builtin "type.__call__" ⟨.ref C :: us,kw⟩)) outer s H:=⟨by first | exact e.frames | (simpa [Around.under,Code.envs,Code.isFrame,pushEnvs] using e.frames),e.mod,e.bs,e.bsz,e.funs,e.frf,e.hok,e.bare⟩
section
variable {X:Cx} {pins:List (Addr × Obj)} {σ:St} {H:Hp} {s s':Shared}
theorem Inv.env0 (I:Inv X pins σ H s):Env0 X.prog X.w X.K X.mg X.base X.A X.stack s H :=
  ⟨I.ok.frames,I.ok.mod,I.bs,Nat.le_trans I.ok.bsz I.sz,I.stack,I.stkFree,I.hok,I.bare⟩
theorem Inv.after {Q:VK} {u:Value} (I:Inv X pins σ H s) (h:CE X.stack X.prog X.w H s Q u s'):EP X pins σ Q u s':=by
  obtain ⟨v,H',os,bare,un,hok,r,q⟩:=h
  obtain ⟨hh,g,d,t,os'⟩:=s'
  obtain rfl:os'=s.os:=os
  exact ⟨v,H',I.call (h':=hh) (g':=g) (d':=d) (t':=t) (ch:=[]) un hok bare (fun b z=>absurd z (by simp)),r,q⟩
end
def tCall (sp:Sp) (dvs:List V) (E:XK) (t:TA):TE:=fun σ H Q=>t σ H fun vs H1=>sp (vs ++ dvs) H1 Q E
def tMeth (C:Addr) (m:Str) (sp:Sp) (dvs:List V) (E:XK) (ta:TE) (t:TA):TE:=fun σ H Q=>ta σ H fun x H1=>∃ a dx fs,x=.ref a/\H1 a=some (.ins C dx fs)/\fs.lookup m=none /\
  t σ H1 fun vs H2=>sp (x :: (vs ++ dvs)) H2 Q E
def tMake (C:Addr) (sp:Sp) (dvs:List V) (E:XK) (t:TA):TE:=fun σ H Q=>t σ H fun vs H1=>∀ x dx,H1 x=none->H1 dx=none->dx ≠ x ->
  sp (.ref x :: (vs ++ dvs)) (upd (upd H1 dx (.own x)) x (.ins C dx [])) (fun v H2=>v=.non/\Q (.ref x) H2) E
def Binds (K:PySem.W.Frag) (fd:FuncData) (ps:List Str) (ds:List Value):Prop :=
  ∀ (s:Shared) (us:List Value),K.In s.heap->(us ++ ds).length=ps.length->BindsTo s fd ⟨us,[]⟩ (ps.zip (us ++ ds))
theorem Binds.all {K:PySem.W.Frag} {fd:FuncData} {ps:List Str} (h:∀ us:List Value,us.length=ps.length->bindArgs fd ⟨us,[]⟩=pure (ps.zip us)):Binds K fd ps []:=fun s us _ hl=>by
  rw [List.append_nil] at hl ⊢
  exact .of_eq (h us hl)
def Passes (CX:CXT) (X:Cx) (E:XK):Prop:=∀ (pins:List (Addr × Obj)) (σ:St) (H:Hp) (s:Shared) (e:Value) (s':Shared),Inv X pins σ H s->CX X.stack H s E e s'->X.xe e s'
section
variable {X:Cx} {CX:CXT} {k:Nat} {f C:Addr} {fd:FuncData} {ps:List Str} {sp:Sp} {dvs:List V} {ds:List Value} {E:XK} {x m:Str} {p pos apos:Pos} {e o:Expr} {es:List Expr} {ta:TE} {t:TA}
theorem run_fn {pins:List (Addr × Obj)} {σ:St} {H:Hp} {s:Shared} {Q:VK} {us:List Value} {vs:List V} (F:FnOk X.prog X.w X.K X.mg X.base CX k f fd ps sp) (hr:Room k X.A) (hb:Binds X.K fd ps ds) (hd:Vals dvs ds) (hx:Passes CX X E)
    (I:Inv X pins σ H s) (r:Vals vs us) (h:sp (vs ++ dvs) H Q E):wpAny (model X.prog X.w) X.A (call (.ref f) us) (EP X pins σ Q) X.xe s:=by
  have r2:Vals (vs ++ dvs) (us ++ ds):=r.append hd
  have hl:(us ++ ds).length=ps.length:=by rw [<- r2.length];exact F.len _ _ _ _ h
  refine wpAny_call (codeAny_mono (F.run X.A X.stack s H ⟨us,[]⟩ (us ++ ds) (vs ++ dvs) Q E hr I.env0 (hb s us I.kIn hl) r2 h) fun r s' hq=>?_)
  cases r with
  | error e=>exact hx pins σ H s e s' I hq
  | ok fl =>
    cases fl with
    | ret u=>exact I.after hq
    | next=>exact False.elim hq
    | brk=>exact False.elim hq
    | cont=>exact False.elim hq
theorem pe_call (F:FnOk X.prog X.w X.K X.mg X.base CX k f fd ps sp) (hr:Room k X.A) (hg:Gl X x) (hm:X.mg x=some (.ref f)) (hk:PySem.W.keepIn X.K (.ref f)=true) (hb:Binds X.K fd ps ds) (hd:Vals dvs ds) (hx:Passes CX X E)
    (ha:PA X (e :: es) t) (hdb:(x == ("__debug__":Str))=false:=by decide) (he:starEach (e :: es) X.env=(false,eval e X.env) :: starEach es X.env:=by rfl) (hpl:(backTo pos (starEach es X.env)).any (·.1)=false:=by rfl) :
    PE X (.Call (.Name x p) (e :: es) [] pos) (tCall sp dvs E t):=by
  intro pins s σ H Q I h
  refine wpAny_Call_Name_kw (ld_glob I hg hm ?_ hdb)
  refine PySem.W.callWith_K (h₀:=X.base) I.ok.mod.kin hk (thn (ha pos pins s σ H _ I h) fun us s1 ⟨vs,H1,I1,r,q⟩=>⟨I1.kIn,?_⟩) he hpl
  exact run_fn F hr hb hd hx I1 r q
theorem pe_meth {pl:Sem Bool} (he:PE X o ta) (c:Cls X.K C) (hm:Meth X.K C m f) (F:FnOk X.prog X.w X.K X.mg X.base CX k f fd ps sp) (hr:Room k X.A) (hb:Binds X.K fd ps ds) (hd:Vals dvs ds) (hx:Passes CX X E) (ha:PA X (e :: es) t)
    (hst:starEach (e :: es) X.env=(false,eval e X.env) :: starEach es X.env:=by rfl) (hpl:(backTo pos (starEach es X.env)).any (·.1)=false:=by rfl)
    (ht:eval (.Call (.Attribute o m apos) (e :: es) [] pos) X.env=(do
      let ov <- eval o X.env
      standAt apos.atName
      let (f,first) <- holding [ov] (getMethod ov m pl)
      callWith pos f first (backTo pos (starEach (e :: es) X.env)) (backToKw pos (keywordEach [] X.env))):=by rfl) :
    PE X (.Call (.Attribute o m apos) (e :: es) [] pos) (tMeth C m sp dvs E ta t):=by
  intro pins s σ H Q I h
  refine PySem.W.methodCall_KW (pl:=pl) (thn (he pins s σ H _ I h) fun u s1 ⟨x,H1,I1,rx,a,dx,fs,ex,ea,l,q⟩=>?_) ht
  subst ex
  obtain rfl:u=Value.ref a:=rx
  refine getmeth_ok I1 ea c hm l ?_
  refine PySem.W.callWith_K (first:=[.ref a]) (h₀:=X.base) I.ok.mod.kin hm.kp (thn (ha pos pins s1 σ H1 _ I1 q) fun us s2 ⟨vs,H2,I2,r,q2⟩=>⟨I2.kIn,?_⟩) hst hpl
  exact run_fn (us:=.ref a :: us) (vs:=.ref a :: vs) F hr hb hd hx I2 (.cons rfl r) q2
structure Mk (K:PySem.W.Frag) (C f:Addr):Prop where
  makes:PySem.W.makesIn K C=true
  init:PySem.W.findIn K (.ref C) "__init__"=some (some (.ref f))
  fn:PySem.W.isFn K (.ref f)=true
  kp:PySem.W.keepIn K (.ref C)=true
theorem run_make {pins:List (Addr × Obj)} {σ:St} {H:Hp} {s:Shared} {Q:VK} {us:List Value} {vs:List V} (M:Mk X.K C f) (F:FnOk X.prog X.w X.K X.mg X.base CX k f fd ps sp) (hr:Room (k + 1) X.A) (hb:Binds X.K fd ps ds) (hd:Vals dvs ds)
    (hx:Passes CX X E) (I:Inv X pins σ H s) (r:Vals vs us)
    (h:∀ x dx,H x=none->H dx=none->dx ≠ x->sp (.ref x :: (vs ++ dvs)) (upd (upd H dx (.own x)) x (.ins C dx [])) (fun v H2=>v=.non/\Q (.ref x) H2) E) :
    wpAny (model X.prog X.w) X.A (call (.ref C) us) (EP X pins σ Q) X.xe s:=by
  have hq:=h (s.heap.objs.size + 1) s.heap.objs.size (I.hok.fresh (Nat.le_succ _)) (I.hok.fresh (Nat.le_refl _)) (Nat.ne_of_lt (Nat.lt_succ_self _))
  have I2:=Inv.made (C:=C) I
  have r2:Vals (V.ref (s.heap.objs.size + 1) :: (vs ++ dvs)) (Value.ref (s.heap.objs.size + 1) :: (us ++ ds)):=.cons rfl (r.append hd)
  have hl:(Value.ref (s.heap.objs.size + 1) :: us ++ ds).length=ps.length:=by
    have e:=r2.length
    rw [F.len _ _ _ _ hq] at e
    exact e.symm
  refine wpAny_call (make_map (f:=f) I.kIn M.makes M.init (beq_iff_eq.mp M.fn) (codeAny_mono (F.run _ X.stack _ _ ⟨Value.ref (s.heap.objs.size + 1) :: us,[]⟩ (Value.ref (s.heap.objs.size + 1) :: (us ++ ds)) _ _ E (hr.make C us [])
    (I2.env0.make C us []) (hb _ (Value.ref (s.heap.objs.size + 1) :: us) I2.kIn hl) r2 hq) fun r s' hq'=>?_))
  cases r with
  | error e=>exact hx pins σ _ _ e s' I2 hq'
  | ok fl =>
    cases fl with
    | ret u =>
      obtain ⟨v,H',I3,rv,ev,q3⟩:=I2.after hq'
      subst ev
      exact ⟨rv,⟨V.ref (s.heap.objs.size + 1),H',I3,rfl,q3⟩⟩
    | next=>exact False.elim hq'
    | brk=>exact False.elim hq'
    | cont=>exact False.elim hq'
theorem pe_make0 (M:Mk X.K C f) (F:FnOk X.prog X.w X.K X.mg X.base CX k f fd ps sp) (hr:Room (k + 1) X.A) (hg:Gl X x) (hm:X.mg x=some (.ref C)) (hb:Binds X.K fd ps ds) (hd:Vals dvs ds) (hx:Passes CX X E)
    (hdb:(x == ("__debug__":Str))=false:=by decide):PE X (.Call (.Name x p) [] [] pos) (tMake C sp dvs E tNil):=by
  intro pins s σ H Q I h
  refine wpAny_Call_Name_kw (ld_glob I hg hm ?_ hdb)
  exact PySem.W.callWith_K0 I.kIn M.kp (run_make (us:=[]) M F hr hb hd hx I .nil h)
end
section
variable {X:Cx} {CX:CXT} {k:Nat} {f C:Addr} {fd:FuncData} {ps ks:List Str} {sp:Sp} {E:XK} {x m:Str} {p pos apos kpos:Pos} {e o:Expr} {es:List Expr} {kws:List Keyword} {te ta:TE} {t tk:TA} {nm:Option Str}
structure KBinds (K:PySem.W.Frag) (fd:FuncData) (ps ks:List Str) (g:List Value->List Value->List Value) (gV:List V->List V->List V):Prop where
  to:∀ (s:Shared) (us ws:List Value),K.In s.heap->(g us ws).length=ps.length->BindsTo s fd ⟨us,ks.zip ws⟩ (ps.zip (g us ws))
  rel:∀ {vs:List V} {us:List Value} {zs:List V} {ws:List Value},Vals vs us->Vals zs ws->Vals (gV vs zs) (g us ws)
variable {g:List Value->List Value->List Value} {gV:List V->List V->List V}
end
structure FnScope (N P:List Str) (sc:Scope):Prop where
  kind:sc.kind=.function
  co:sc.isCoroutine=false
  gen:sc.isGenerator=false
  nd:N.Nodup
  pre:N.take P.length=P
  par:∀ x ∈ P,sc.names.lookup x=some .local ∨ sc.names.lookup x=some .cell
  nofree:∀ y ∈ sc.names,y.2 ≠ .free
theorem bindL_out {kindOf:Str->Option NameKind} {x:Str}:∀ {binds:List (Str × Value)} {m:Str->Option Value},(∀ v,(x,v) ∉ binds)->bindL kindOf binds m x=m x
  | [],_,_=>rfl
  | (n,v) :: r,m,h=>by
    unfold bindL
    rw [bindL_out fun w hw=>h w (List.mem_cons_of_mem _ hw)]
    split
    · have:x ≠ n:=by rintro rfl;exact h v List.mem_cons_self
      simp [this]
    · rfl
theorem bindC_out {kindOf:Str->Option NameKind} {x:Str}:∀ {binds:List (Str × Value)} {m:Str->Option Value},(∀ v,(x,v) ∉ binds)->bindC kindOf binds m x=m x
  | [],_,_=>rfl
  | (n,v) :: r,m,h=>by
    unfold bindC
    rw [bindC_out fun w hw=>h w (List.mem_cons_of_mem _ hw)]
    split
    · rfl
    · have:x ≠ n:=by rintro rfl;exact h v List.mem_cons_self
      simp [this]
theorem bindL_get {kindOf:Str->Option NameKind} {x:Str} {v:Value}:∀ {P:List Str} {vs:List Value} {i:Nat} {m:Str->Option Value},P.Nodup->P[i]?=some x->vs[i]?=some v->kindOf x=some .local ->
    bindL kindOf (P.zip vs) m x=some v
  | [],_,_,_,_,h,_,_=>by simp at h
  | _ :: _,[],_,_,_,_,h,_=>by simp at h
  | p :: P,w :: vs,0,m,nd,h1,h2,hk=>by
    simp at h1 h2;subst h1;subst h2
    show bindL kindOf ((p,w) :: P.zip vs) m p=_
    unfold bindL
    rw [bindL_out fun v hv=>(List.nodup_cons.mp nd).1 (List.of_mem_zip hv).1,if_pos hk]
    simp
  | p :: P,w :: vs,i + 1,m,nd,h1,h2,hk=>by
    show bindL kindOf ((p,w) :: P.zip vs) m x=_
    unfold bindL
    exact bindL_get (i:=i) (List.nodup_cons.mp nd).2 (by simpa using h1) (by simpa using h2) hk
theorem bindC_get {kindOf:Str->Option NameKind} {x:Str} {v:Value}:∀ {P:List Str} {vs:List Value} {i:Nat} {m:Str->Option Value},P.Nodup->P[i]?=some x->vs[i]?=some v->kindOf x ≠ some .local ->
    bindC kindOf (P.zip vs) m x=some v
  | [],_,_,_,_,h,_,_=>by simp at h
  | _ :: _,[],_,_,_,_,h,_=>by simp at h
  | p :: P,w :: vs,0,m,nd,h1,h2,hk=>by
    simp at h1 h2;subst h1;subst h2
    show bindC kindOf ((p,w) :: P.zip vs) m p=_
    unfold bindC
    rw [bindC_out fun v hv=>(List.nodup_cons.mp nd).1 (List.of_mem_zip hv).1,if_neg hk]
    simp
  | p :: P,w :: vs,i + 1,m,nd,h1,h2,hk=>by
    show bindC kindOf ((p,w) :: P.zip vs) m x=_
    unfold bindC
    exact bindC_get (i:=i) (List.nodup_cons.mp nd).2 (by simpa using h1) (by simpa using h2) hk
def start (N:List Str) (vs:List V):St:=vs.map some ++ List.replicate (N.length - vs.length) none
def cxOf (CX:CXT) (P:Program) (w:World) (K:PySem.W.Frag) (mg:Str->Option Value) (base:Heap) (N:List Str) (qual:Str) (scope:Scope) (f:Addr) (cd:Value) (A:Around) (outer:List Env) (s:Shared) (H:Hp) (E:XK):Cx where
  prog:=P
  w:=w
  K:=K
  mg:=mg
  base:=base
  A:=A.deeper (envOfC qual scope s.heap.objs.size f cd)
  N:=N
  s₀:=s
  H₀:=H
  env:=envOfC qual scope s.heap.objs.size f cd
  outer:=outer
  stack:=envOfC qual scope s.heap.objs.size f cd :: outer
  ex:=[]
  calm:=true
  fn:=fun _=>true
  pn:=[]
  xe:=fun e s'=>wpAny (model P w) (A.deeper (envOfC qual scope s.heap.objs.size f cd)) (leaving (envOfC qual scope s.heap.objs.size f cd) e) (fun _ s''=>CX outer H s E e s'') (fun e' s''=>CX outer H s E e' s'') s'
theorem cell_has {sc:Scope} {n:Nat} {x:Str} (h:sc.names.lookup x=some .cell):∃ c,(cellsFrom n sc.names []).lookup x=some c:=by
  have q:=PySem.W.cellsFrom_some sc.names n [] (.inl h)
  exact Option.isSome_iff_exists.mp q
theorem inv_start {CX:CXT} {P:Program} {w:World} {K:PySem.W.Frag} {mg:Str->Option Value} {base:Heap} {N ps:List Str} {qual:Str} {scope:Scope} {f:Addr} {cd:Value} {A:Around} {outer:List Env} {s s1:Shared} {H:Hp} {E:XK} {us:List Value} {vs:List V}
    (S:FnScope N ps scope) (hd:A.handled=none) (e0:Env0 P w K mg base A outer s H) (hl:vs.length=ps.length) (r:Vals vs us)
    (x:InCallC s s.heap.objs.size (bindL (envOfC qual scope s.heap.objs.size f cd).kindOf (ps.zip us) fun _=>none) (cellsFrom (s.heap.objs.size + 1) scope.names []) (bindC (envOfC qual scope s.heap.objs.size f cd).kindOf (ps.zip us) fun _=>none) s1) :
    Inv (cxOf CX P w K mg base N qual scope f cd A outer s H E) [] (start N vs) H s1:=by
  have hpl:ps.length <= N.length:=by have:=congrArg List.length S.pre;rw [List.length_take] at this;omega
  obtain ⟨h1,tk,rfl,hk⟩:=x.done
  have noA:∀ b:Addr,b ∉ (cxOf CX P w K mg base N qual scope f cd A outer s H E).ex:=fun b z=>absurd (show b ∈ ([]:List Addr) from z) (by simp)
  refine ⟨⟨e0.mod,S.kind,rfl,rfl,Nat.le_refl _,fun y z c h1 h2=>?_,fun y hy=>?_,fun y c _ h=>?_,fun _=>hd,Around.frames_deeper e0.frames,.inr ⟨rfl,rfl⟩,fun b z=>absurd z (noA b),e0.bs,e0.bsz,fun b _ _=>noA b,fun b z=>absurd z (noA b),e0.funs,e0.frf⟩,
    rfl,e0.bare,Un.kept hk,⟨_,x.toInCall.ns,fun i y v h1 h2 h3=>?_⟩,fun y c h=>⟨_,x.cell y c h⟩,e0.hok.fresh (Nat.le_refl _),fun y c h=>?_,fun p hp=>absurd (show p ∈ ([]:List (Addr × Obj)) from hp) (by simp),e0.hok.kept hk,?_⟩
  · exact name_of_addr x.apart (PySem.mem_of_lookup h1) (PySem.mem_of_lookup h2)
  · have hy:scope.names.lookup y=some .cell ∨ scope.names.lookup y=some .free:=hy
    rcases hy with hy | hy
    · exact cell_has hy
    · exact absurd rfl (S.nofree _ (PySem.mem_of_lookup hy))
  · exact Nat.le_of_lt (x.above y c (PySem.mem_of_lookup h))
  · have hi:i < vs.length:=by
      unfold start at h2
      by_cases hi:i < vs.length
      · exact hi
      · rw [List.getElem?_append_right (by simpa using hi)] at h2
        rw [List.getElem?_replicate] at h2
        split at h2 <;> cases h2
    have ha:vs[i]?=some v:=by
      unfold start at h2
      rw [List.getElem?_append_left (by simpa using hi),List.getElem?_map] at h2
      cases e:vs[i]? with
      | none=>rw [e] at h2;cases h2
      | some a=>rw [e] at h2;cases h2;rfl
    obtain ⟨u,hu,rv⟩:=r.get ha
    have hp:ps[i]?=some y:=by
      rw [<- S.pre,List.getElem?_take_of_lt (by omega)];exact h1
    have ndP:ps.Nodup:=by rw [<- S.pre];exact S.nd.sublist (List.take_sublist _ _)
    refine ⟨u,rv,?_⟩
    rcases S.par y (List.mem_of_getElem? hp) with k | k
    · exact .inl ⟨k,bindL_get ndP hp hu k⟩
    · obtain ⟨c,e⟩:=cell_has (n:=s.heap.objs.size + 1) k
      refine .inr ⟨.inl k,c,e,?_⟩
      have q:=x.cell y c e
      rw [bindC_get ndP hp hu (by show scope.names.lookup y ≠ _;rw [k];decide)] at q
      exact q
  · exact e0.hok.fresh (Nat.le_of_lt (x.above y c (PySem.mem_of_lookup h)))
  · unfold start
    show _=N.length
    rw [List.length_append,List.length_map,List.length_replicate]
    omega
theorem fn_of {CX:CXT} {P:Program} {w:World} {K:PySem.W.Frag} {mg:Str->Option Value} {base:Heap} {k:Nat} {f:Addr} {name qual:Str} {params:Arguments} {body:List Stmt} {scope:Scope} {dV kV doc pm cdv ct oc:Value} {an od:Option Addr}
    {osl:Array (Option Value)} {N ps:List Str} {sp:Sp} (lk:K.lookup f=some ⟨oc,od,.func (PySem.W.fnOf name qual params body scope dV kV doc pm an cdv ct),osl⟩) (hcd:PySem.W.codeIn K cdv qual=true) (S:FnScope N ps scope)
    (len:∀ vs H Q E,sp vs H Q E->vs.length=ps.length)
    (hbody:∀ (A:Around) (outer:List Env) (s:Shared) (H:Hp) (vs:List V) (Q:VK) (E:XK),Room k (A.deeper (envOfC qual scope s.heap.objs.size f cdv))->sp vs H Q E ->
      ∃ t,PSs (cxOf CX P w K mg base N qual scope f cdv A outer s H E) body t/\t { nx:=fun _ H'=>Q .non H',rt:=Q } (start N vs) H) :
    FnOk P w K mg base CX (k + 1) f (PySem.W.fnOf name qual params body scope dV kV doc pm an cdv ct) ps sp:=by
  refine ⟨len,fun A outer s H args us vs Q E hr e0 hb r hsp=>?_⟩
  have hl:=len _ _ _ _ hsp
  have KX:K.In s.heap:=e0.mod.kin.keeps fun b o e=>(e0.bs b o e).1
  have lim:s.heap.NoLimit:=e0.mod.nolimit.keeps fun b o e=>(e0.bs b o e).1
  have hkind:∀ y ∈ ps.zip us,scope.names.lookup y.1=some .local ∨ (scope.names.lookup y.1=some .cell/\((cellsFrom (s.heap.objs.size + 1) scope.names []).lookup y.1).isSome=true):=fun ⟨n,v⟩ hy=>by
    rcases S.par n (List.of_mem_zip hy).1 with q | q
    · exact .inl q
    · exact .inr ⟨q,PySem.W.cellsFrom_some _ _ _ (.inl q)⟩
  refine codeAny_call_function hr.depth (KX _ _ lk) rfl S.co S.gen rfl (PySem.W.codeRec_of KX hcd) (hb _ _ _ _ ?_)
  refine wpAny_newFunctionEnv_cells S.kind hkind fun env he s1 x=>?_
  subst he
  refine ⟨lim.keeps x.toInCall.keep,codeAny_func ?_⟩
  obtain ⟨t,ht,hq⟩:=hbody A outer s H vs Q E (hr.deeper _) hsp
  have I:Inv (cxOf CX P w K mg base N qual scope f cdv A outer s H E) [] (start N vs) H s1:=inv_start S hr.hd e0 hl r x
  refine wpAny_mono (ht [] s1 (start N vs) H _ I hq) (fun fl s' hs=>?_) fun e s' hs=>hs
  have fin:∀ {σ':St} {H':Hp} {v:V} {u:Value},Inv (cxOf CX P w K mg base N qual scope f cdv A outer s H E) [] σ' H' s'->RelV v u->Q v H'->CE outer P w H s Q u s' :=
    fun {σ' H' v u} J rv q=>⟨v,H',J.os,J.bare,J.base,J.hok,rv,q⟩
  cases fl with
  | ret u =>
    obtain ⟨v,σ',H',J,rv,q⟩:=hs
    exact fin J rv q
  | next =>
    obtain ⟨σ',H',J,q⟩:=hs
    exact fin (v:=V.non) (u:=Value.none) J rfl q
  | brk =>
    obtain ⟨_,_,_,q⟩:=hs
    exact False.elim q
  | cont =>
    obtain ⟨_,_,_,q⟩:=hs
    exact False.elim q
end L2
namespace L2
open PySem PySem.Spec PyProof.Rows
section
variable {X:Cx} {x:Str} {p pos:Pos} {e:Expr} {es:List Expr} {t:TA} {id T:String} {r:List V->Hp->VK->Prop}
def tCB (r:List V->Hp->VK->Prop) (t:TA):TE:=fun σ H Q=>t σ H fun vs H1=>r vs H1 Q
theorem pe_callB (hc:CallR X (.builtin id) r) (hg:Gl X x) (hm:X.mg x=none) (hv:bootBuiltins x=some (.builtin id)) (ha:PA X (e :: es) t) (hn:x ≠ "__name__":=by decide) (hdb:(x == ("__debug__":Str))=false:=by decide)
    (he:starEach (e :: es) X.env=(false,eval e X.env) :: starEach es X.env:=by rfl) (hpl:(backTo pos (starEach es X.env)).any (·.1)=false:=by rfl):PE X (.Call (.Name x p) (e :: es) [] pos) (tCB r t):=by
  intro pins s σ H Q I h
  refine wpAny_Call_Name_kw (ld_blt I hg hm hv ?_ hn hdb)
  exact PyProof.Rows.callWith_builtin1 (thn (ha pos pins s σ H _ I h) fun us s1 ⟨vs,H1,I1,r1,q1⟩=>hc pins s1 σ H1 vs us Q I1 r1 q1) he hpl
theorem pe_callTy (hc:CallR X (.type T) r) (hg:Gl X x) (hm:X.mg x=none) (hv:bootBuiltins x=some (.type T)) (ha:PA X (e :: es) t) (hn:x ≠ "__name__":=by decide) (hdb:(x == ("__debug__":Str))=false:=by decide)
    (he:starEach (e :: es) X.env=(false,eval e X.env) :: starEach es X.env:=by rfl) (hpl:(backTo pos (starEach es X.env)).any (·.1)=false:=by rfl):PE X (.Call (.Name x p) (e :: es) [] pos) (tCB r t):=by
  intro pins s σ H Q I h
  refine wpAny_Call_Name_kw (ld_blt I hg hm hv ?_ hn hdb)
  exact PyProof.Rows.callWith_type1 (thn (ha pos pins s σ H _ I h) fun us s1 ⟨vs,H1,I1,r1,q1⟩=>hc pins s1 σ H1 vs us Q I1 r1 q1) he hpl
end
end L2
namespace HT
open PySem PyProof.Rows
def lexLt:List Int->List Int->Bool
  | [],[]=>false
  | [],_ :: _=>true
  | _ :: _,[]=>false
  | x :: xs,y :: ys=>if x=y then lexLt xs ys else decide (x < y)
theorem lexLt_cons (x y:Int) (xs ys:List Int):lexLt (x :: xs) (y :: ys)=if x=y then lexLt xs ys else decide (x < y):=rfl
theorem lexLt_nil_nil:lexLt [] []=false:=rfl
theorem lexLt_nil_cons (y:Int) (ys:List Int):lexLt [] (y :: ys)=true:=rfl
theorem lexLt_cons_nil (x:Int) (xs:List Int):lexLt (x :: xs) []=false:=rfl
theorem eqAt_int (A:Around) (s:Shared) (a:Int) (t:Tok) (c:Int) (u:Tok):∃ e,SeqAt.EqAt A s (.int a t) (.int c u) e/\(e=true ↔ a=c) :=
  ⟨(a == c),SeqAt.EqAt.int_int a t c u,by simp⟩
theorem rcLt_int (A:Around) (s:Shared) (a:Int) (t:Tok) (c:Int) (u:Tok) (prog:Program) (w:World) (E:Value->Shared->Prop) (Q:Value->Shared->Prop) (h:Q (.bool (decide (a < c))) s) :
    wpAny (model prog w) A (richCompare .Lt (.int a t) (.int c u)) Q E s :=
  (PyProof.Rows.lt_int h:wpAny (model prog w) A (compareOp .Lt (.int a t) (.int c u)) Q E s)
section
open PySem.SeqAt
open PySem.AutoSeq1 (wpAny_loadPart')
open PySem.MeetsSeq PySem.MeetsSeq2 PySem.MeetsSeq3
theorem tuple_lt_ints (l b:Addr) (items items2:Array Value) (n n2:Nat) (dd dd2:Option Addr) (sl sl2:Array (Option Value)) (ns ms:List Int) (hi:IntsAre items.toList ns) (hj:IntsAre items2.toList ms) :
    Meets (Builtin.«tuple.__lt__» ⟨[.ref l,.ref b],[]⟩)
      (fun _ R s=>s.heap.get? l=some { cls:=.type "tuple",dict:=dd,data:=.seq items n,slots:=sl }/\s.heap.get? b=some { cls:=.type "tuple",dict:=dd2,data:=.seq items2 n2,slots:=sl2 } /\
        R (.ok (.ret (.bool (lexLt ns ms)))) s) :=
  .of_wp fun prog w A R s h=>by
    obtain ⟨hp,g,d,tk,os⟩:=s;obtain ⟨hl,hb,h⟩:=h
    have f2:=AutoSeq1.sub_tuple_tuple
    have z1:items.size=ns.length:=by rw [<- hi.length];simp
    have z2:items2.size=ms.length:=by rw [<- hj.length];simp
    wp_walk using wpAny_loadPart' hl,wpAny_loadPart' hb,wpAny_forIn_list _ (fun rest b s'=>b.1=none/\s'=⟨hp,g,d,tk,os⟩/\∃ (vs ws:List Value) (ns' ms':List Int),rest=vs.zip ws /\
      IntsAre vs ns'/\IntsAre ws ms'/\ns'.length + items2.size=ms'.length + items.size/\R (.ok (.ret (.bool (lexLt ns' ms')))) ⟨hp,g,d,tk,os⟩) _
    case turn =>
      rintro ⟨y,x⟩ rest b s' ⟨hb',rfl,vs,ws,ns',ms',hz,hvi,hwi,hlen,hR⟩
      cases hvi with
      | nil=>rw [List.zip_nil_left] at hz;cases hz
      | cons a t hvi' =>
        cases hwi with
        | nil=>rw [List.zip_nil_right] at hz;cases hz
        | cons c u hwi' =>
          rw [List.zip_cons_cons] at hz
          injection hz with hyx hrest
          injection hyx with hy hx
          subst hy hx
          rw [lexLt_cons] at hR
          simp only [List.length_cons] at hlen
          obtain ⟨e,he,hiff⟩:=eqAt_int A.in1 ⟨hp,g,d,tk,os⟩ a t c u
          refine wpAny_bind (he prog w _ _ ?_)
          cases e with
          | true =>
            rw [if_pos (hiff.mp rfl)] at hR
            wp_walk
            exact ⟨rfl,rfl,_,_,_,_,hrest,hvi',hwi',by omega,hR⟩
          | false =>
            rw [if_neg (fun q=>absurd (hiff.mpr q) Bool.false_ne_true)] at hR
            have hri:=rcLt_int A.in1 ⟨hp,g,d,tk,os⟩ a t c u prog w
            wp_walk using hri
            exact ⟨_,rfl,by simpa using hR⟩
    case fin =>
      rintro ⟨b1,b2⟩ s' ⟨hb',rfl,vs,ws,ns',ms',hz,hvi,hwi,hlen,hR⟩
      simp only at hb'
      subst hb'
      have hv:lexLt ns' ms'=decide (items.size < items2.size):=by
        cases hvi with
        | nil =>
          cases hwi with
          | nil =>
            simp only [List.length_nil] at hlen
            rw [lexLt_nil_nil]
            exact (decide_eq_false (by omega)).symm
          | cons c u hw =>
            simp only [List.length_nil,List.length_cons] at hlen
            rw [lexLt_nil_cons]
            exact (decide_eq_true (by omega)).symm
        | cons a t hv =>
          cases hwi with
          | nil =>
            simp only [List.length_nil,List.length_cons] at hlen
            rw [lexLt_cons_nil]
            exact (decide_eq_false (by omega)).symm
          | cons c u hw =>
            rw [List.zip_cons_cons] at hz
            cases hz
      rw [hv] at hR
      wp_walk
      exact ⟨_,rfl,by simpa [Builtin.Tuple.tupleCompareSizes] using hR⟩
    case h =>
      exact ⟨rfl,rfl,items.toList,items2.toList,ns,ms,rfl,hi,hj,by omega,h⟩
end
section
variable {prog:Program} {w:World} {A:Around} {E:Value->Shared->Prop} {s:Shared}
theorem lt_tupInts {l b:Addr} {items items2:Array Value} {ns ms:List Int} {Q:Value->Shared->Prop} (hl:IsTup s.heap l items) (hb:IsTup s.heap b items2) (hi:IntsAre items.toList ns) (hj:IntsAre items2.toList ms)
    (hu:A.units < cLine) (h:Q (.bool (lexLt ns ms)) s):wpAny (model prog w) A (compareOp .Lt (.ref l) (.ref b)) Q E s:=by
  obtain ⟨⟨cls,dd,data,sl⟩,ho,hc,n,hd⟩:=id hl
  obtain ⟨⟨cls2,dd2,data2,sl2⟩,ho2,hc2,n2,hd2⟩:=id hb
  simp only at hc hd hc2 hd2
  subst hc hd hc2 hd2
  exact richCompare_meets_room (op:=.Lt) ⟨_,ho,rfl⟩ ⟨_,ho2,rfl⟩ PySem.F.slot_tuple_lt PySem.F.entry_tuple_lt (PySem.F.args_tuple_lt_2 _ _) (tuple_lt_ints l b items items2 n n2 dd dd2 sl sl2 ns ms hi hj)
    ⟨ho,ho2,show Value.bool (lexLt ns ms) ≠ Value.notImplemented/\Q (.bool (lexLt ns ms)) s from ⟨(fun x=>nomatch x),h⟩⟩ hu
def sIx (n d:Nat):Option Int->Nat
  | none=>d
  | some v=>if v < 0 then (v + (n:Int)).toNat else min v.toNat n
theorem sIx_none (n d:Nat):sIx n d none=d:=rfl
theorem sIx_nat (n d k:Nat):sIx n d (some (k:Int))=min k n:=by
  show (if (k:Int) < 0 then ((k:Int) + (n:Int)).toNat else min (k:Int).toNat n)=min k n
  rw [if_neg (by omega),Int.toNat_natCast]
end
end HT
namespace L2
open PySem PySem.Spec PyProof.Rows
abbrev TO:=St->Hp->(Option Int->Hp->Prop)->Prop
def PO (X:Cx) (e:Option Expr) (t:TO):Prop :=
  ∀ (pins:List (Addr × Obj)) (s:Shared) (σ:St) (H:Hp) (Q:Option Int->Hp->Prop),Inv X pins σ H s->t σ H Q ->
    wpAny (model X.prog X.w) X.A (evalPart e X.env) (fun u s'=>∃ o H',Inv X pins σ H' s'/\IsPart u o/\Q o H') X.xe s
def tNoPart:TO:=fun _ H Q=>Q none H
def tPart (t:TE):TO:=fun σ H Q=>t σ H fun x H1=>∃ i,x=.int i/\Q (some i) H1
theorem intsAre_of {ns:List Int}:∀ {us:List Value},Vals (ns.map V.int) us->IntsAre us ns:=by
  induction ns with
  | nil=>intro us r;rw [List.map_nil] at r;cases r;exact .nil
  | cons n ns ih =>
    intro us r
    rw [List.map_cons] at r
    cases r with
    | cons r1 r2 =>
      obtain ⟨t,e⟩:=r1
      subst e
      exact .cons n t (ih r2)
section
variable {X:Cx} {e:Expr} {te:TE} {lo hi:Option Expr} {tl th:TO} {pos p2:Pos}
theorem po_none:PO X none tNoPart:=by
  intro pins s σ H Q I h
  rw [evalPart_none]
  exact wpAny_pure ⟨none,H,I,.none,h⟩
theorem po_some (h:PE X e te):PO X (some e) (tPart te):=by
  intro pins s σ H Q I hw
  rw [evalPart_some]
  refine thn (h pins s σ H _ I hw) fun u s1 ⟨x,H1,I1,r1,q1⟩=>?_
  obtain ⟨i,rfl,q⟩:=q1
  obtain ⟨t,rfl⟩:=r1
  exact ⟨some i,H1,I1,.int i t,q⟩
def SlR (X:Cx) (r:V->Option Int->Option Int->Hp->VK->Prop):Prop :=
  ∀ (pins:List (Addr × Obj)) (s:Shared) (σ:St) (H:Hp) (x:V) (v vl vu:Value) (lo hi:Option Int) (sl:Addr) (Q:VK),Inv X pins σ H s->RelV x v->s.heap.IsSliceOf sl vl vu .none->IsPart vl lo->IsPart vu hi->r x lo hi H Q ->
    ∃ T id,typeLookup (.type T) "__getitem__"=pure (some (.builtin id))/\s.TypeIs v T/\wpAny (model X.prog X.w) X.A (getItem v (.ref sl)) (EP X pins σ Q) X.xe s
def tSl (r:V->Option Int->Option Int->Hp->VK->Prop) (te:TE) (tl th:TO):TE:=fun σ H Q=>te σ H fun x H1=>tl σ H1 fun l H2=>th σ H2 fun u H3=>r x l u H3 Q
theorem pe_slice {r:V->Option Int->Option Int->Hp->VK->Prop} (hr:SlR X r) (he:PE X e te) (hl:PO X lo tl) (hu:PO X hi th):PE X (.Subscript e (.Slice lo hi none p2) pos) (tSl r te tl th):=by
  intro pins s σ H Q I h
  refine Subscript_ (thn (he pins s σ H _ I h) fun v s1 ⟨x,H1,I1,r1,q1⟩=>?_)
  refine wpAny_Slice (thn (hl pins s1 σ H1 _ I1 q1) fun vl s2 ⟨l,H2,I2,pl,q2⟩=>thn (hu pins s2 σ H2 _ I2 q2) fun vu s3 ⟨u,H3,I3,pu,q3⟩=>?_)
  rw [evalPart_none]
  refine wpAny_pure ?_
  have I4:Inv X pins σ H3 { s3 with heap:=s3.heap.push { cls:=.type "slice",data:=.fields #[vl,vu,.none] } }:=I3.kept (t':=s3.toks) fun b ob q=>Heap.get?_push_of_some _ q
  obtain ⟨T,id,hT,ht,hg⟩:=hr pins { s3 with heap:=s3.heap.push { cls:=.type "slice",data:=.fields #[vl,vu,.none] } } σ H3 x v vl vu l u s3.heap.objs.size Q I4 r1 (Heap.IsSliceOf.new ..) pl pu q3
  show wpAny (model X.prog X.w) X.A (subscriptTail e (.Slice lo hi none p2) v (.ref s3.heap.objs.size)) (EP X pins σ Q) X.xe { s3 with heap:=s3.heap.push { cls:=.type "slice",data:=.fields #[vl,vu,.none] } }
  exact tail_any (ops:=[.ref s3.heap.objs.size,v]) ht hT hg (by with_unfolding_all rfl)
def cutV (xs:List V) (lo hi:Option Int):List V:=(xs.drop (HT.sIx xs.length 0 lo)).take (HT.sIx xs.length xs.length hi - HT.sIx xs.length 0 lo)
theorem cutV_length (xs:List V) (lo hi:Option Int):(cutV xs lo hi).length <= xs.length:=by
  unfold cutV
  rw [List.length_take,List.length_drop]
  omega
end
end L2
namespace L2
open PySem PySem.Spec PyProof.Rows
def ixN (n:Nat) (i:Int):Option Nat:=if 0 <= i then (if i < n then some i.toNat else none) else if -(n:Int) <= i then some (i + n).toNat else none
def atI {α:Type} (xs:List α) (i:Int):Option α:=(ixN xs.length i).bind fun j=>xs[j]?
theorem ixN_seq {n:Nat} {i:Int} {j:Nat} (h:ixN n i=some j):seqIndex? i n=some j/\j < n/\-(n:Int) <= i/\i < n:=by
  unfold ixN at h
  by_cases h0:0 <= i
  · rw [if_pos h0] at h
    by_cases h1:i < n
    · rw [if_pos h1] at h
      have e:i.toNat=j:=Option.some.inj h
      exact ⟨by rw [seqIndex_of h0 h1,e],by omega,by omega,h1⟩
    · rw [if_neg h1] at h;cases h
  · rw [if_neg h0] at h
    by_cases h1:-(n:Int) <= i
    · rw [if_pos h1] at h
      have e:(i + n).toNat=j:=Option.some.inj h
      exact ⟨by rw [seqIndex_neg (by omega) h1,e],by omega,h1,by omega⟩
    · rw [if_neg h1] at h;cases h
theorem atI_get {α:Type} {xs:List α} {i:Int} {v:α} (h:atI xs i=some v):∃ j,seqIndex? i xs.length=some j/\xs[j]?=some v/\j < xs.length/\-(xs.length:Int) <= i/\i < xs.length:=by
  unfold atI at h
  cases e:ixN xs.length i with
  | none=>rw [e] at h;cases h
  | some j =>
    rw [e] at h
    obtain ⟨h1,h2,h3,h4⟩:=ixN_seq e
    exact ⟨j,h1,h,h2,h3,h4⟩
theorem atI_nat {α:Type} {xs:List α} {j:Nat} {v:α} (h:xs[j]?=some v):atI xs (j:Int)=some v:=by
  have hj:j < xs.length:=(List.getElem?_eq_some_iff.mp h).1
  have e:ixN xs.length (j:Int)=some j:=by
    unfold ixN
    rw [if_pos (by omega),if_pos (by omega)];simp
  unfold atI;rw [e];exact h
def PlainIx (b:Expr):Prop:=∀ o i,subscripted b false o i=operate [o,i] (getItem o i)
def IxR (X:Cx) (r:R2):Prop :=
  ∀ (value slice:Expr) (pins:List (Addr × Obj)) (s:Shared) (σ:St) (H:Hp) (x y:V) (v u:Value) (Q:VK),Inv X pins σ H s->RelV x v->RelV y u->r x y H Q ->
    subscripted slice false v u=operate [v,u] (getItem v u)->wpAny (model X.prog X.w) X.A (subscriptTail value slice v u) (EP X pins σ Q) X.xe s
def MtR (X:Cx) (id:String) (r:V->List V->Hp->VK->Prop):Prop :=
  ∀ (pins:List (Addr × Obj)) (s:Shared) (σ:St) (H:Hp) (x:V) (xs:List V) (v:Value) (us:List Value) (Q:VK),Inv X pins σ H s->RelV x v->Vals xs us->r x xs H Q ->
    wpAny (model X.prog X.w) X.A (call (.builtin id) (v :: us)) (EP X pins σ Q) X.xe s
section
variable {X:Cx} {a b:Expr} {ta tb:TE} {pos:Pos}
theorem pe_ix {r:R2} (hr:IxR X r) (ha:PE X a ta) (hb:PE X b tb) (hs:PlainIx b):PE X (.Subscript a b pos) (tOp r ta tb):=by
  intro pins s σ H Q I h
  exact Subscript_ (binT ha hb I h fun v u s2 x y H2 I2 rx ry q=>hr a b pins s2 σ H2 x y v u Q I2 rx ry q (hs _ _))
def rIxL (K:PySem.W.Frag):R2:=fun x y H Q=>∃ p xs i v,x=.ref p/\y=.int i/\SqL K H p xs/\atI xs i=some v/\Q v H
def rIxT (K:PySem.W.Frag):R2:=fun x y H Q=>∃ p xs i v,x=.ref p/\y=.int i/\SqT K H p xs/\atI xs i=some v/\Q v H
theorem ix_list:IxR X (rIxL X.K):=by
  intro value slice pins s σ H x y v u Q I rx ry h hs
  obtain ⟨p,xs,i,z,rfl,rfl,hq,he,q⟩:=h
  cases rx
  obtain ⟨t,rfl⟩:=ry
  obtain ⟨its,r,pl,hz⟩:=I.list hq
  obtain ⟨j,h1,h2,h3,h4,h5⟩:=atI_get he
  obtain ⟨w,ew,rw'⟩:=r.get h2
  have hl:=r.length
  have hn:=line63
  have fin:EP X pins σ Q w s:=⟨z,H,I,rw',q⟩
  by_cases h0:0 <= i
  · have hj:i.toNat=j:=by
      rw [seqIndex_of h0 h5] at h1
      exact Option.some.inj h1
    exact item_listR pl.isList h0 (by omega) (by rw [hj];simpa using ew) fin hs
  · have hj:(i + (its.toArray.size:Int)).toNat=j:=by
      rw [seqIndex_neg (by omega) h4] at h1
      rw [List.size_toArray,<- hl]
      exact Option.some.inj h1
    exact subscriptTail_builtinR (x:=w) pl.isList.typeIs slot_list_getitem.lookup
      (wpAny_getItem_list_neg (Q:=fun r s'=>r=w/\EP X pins σ Q r s') pl.isList (by omega) (by rw [List.size_toArray] <;> omega) (by omega) (by rw [hj];simpa using ew) ⟨rfl,fin⟩) hs
theorem ix_tup:IxR X (rIxT X.K):=by
  intro value slice pins s σ H x y v u Q I rx ry h hs
  obtain ⟨p,xs,i,z,rfl,rfl,hq,he,q⟩:=h
  cases rx
  obtain ⟨t,rfl⟩:=ry
  obtain ⟨its,r,pl,hz⟩:=I.tuple hq
  obtain ⟨j,h1,h2,h3,h4,h5⟩:=atI_get he
  obtain ⟨w,ew,rw'⟩:=r.get h2
  have hl:=r.length
  have hn:=line63
  have fin:EP X pins σ Q w s:=⟨z,H,I,rw',q⟩
  exact subscriptTail_builtinR (x:=w) pl.typeIs slot_tuple_getitem.lookup
    (getItem_tuple (j:=j) (Q:=fun r s'=>r=w/\EP X pins σ Q r s') pl (by omega) (by omega) (by rw [List.size_toArray,<- hl];exact h1) (by simpa using ew) ⟨rfl,fin⟩) hs
theorem mapSeq_set (its:List Value) (n j:Nat) (u:Value):Obj.mapSeq (·.setIfInBounds j u) { cls:=.type "list",data:=.seq its.toArray n }={ cls:=.type "list",data:=.seq (its.set j u).toArray n }:=by
  simp [Obj.mapSeq]
theorem Inv.lst {pins:List (Addr × Obj)} {σ:St} {H:Hp} {s:Shared} {p:Addr} {xs:List V} (I:Inv X pins σ H s) (h:H p=some (.lst xs)) :
    ∃ (its:List Value) (n:Nat),Vals xs its/\s.heap.get? p=some { cls:=.type "list",data:=.seq its.toArray n }/\xs.length <= sizeLine:=by
  obtain ⟨z,its,n,r,e⟩:=I.hok p _ h
  exact ⟨its,n,r,e,z⟩
theorem Inv.lstUpd {pins:List (Addr × Obj)} {σ:St} {H:Hp} {s:Shared} {p:Addr} {xs ys:List V} {its its':List Value} {n n':Nat} {f:Obj->Obj} (I:Inv X pins σ H s) (h:H p=some (.lst xs))
    (ho:s.heap.get? p=some { cls:=.type "list",data:=.seq its.toArray n }) (hf:f { cls:=.type "list",data:=.seq its.toArray n }={ cls:=.type "list",data:=.seq its'.toArray n' }) (r:Vals ys its') (hz:ys.length <= sizeLine) (t:Nat) :
    Inv X pins σ (upd H p (.lst ys)) { s with heap:=s.heap.update p f,toks:=t }:=by
  have e:(s.heap.update p f).get? p=some { cls:=.type "list",data:=.seq its'.toArray n' }:=by
    rw [Heap.get?_update_self f ho (by rw [hf] <;> rfl),hf]
  refine I.write (x:=p) (e:=p) (by rw [h];trivial) (.inl rfl) (fun b u hb q=>(Heap.get?_update_other _ _ (Ne.symm hb)).trans q) ⟨_,e⟩ ?_
  exact ⟨hz,its',n',r,e⟩
def rSetL:V->V->V->Hp->(Hp->Prop)->Prop:=fun o i v H Q=>∃ p xs k j,o=.ref p/\i=.int k/\H p=some (.lst xs)/\ixN xs.length k=some j/\Q (upd H p (.lst (xs.set j v)))
theorem set_list:PSet X rSetL:=by
  intro pins s σ H o i v ov iv u Q I ro ri rv h
  obtain ⟨p,xs,k,j,rfl,rfl,hp,hj,q⟩:=h
  cases ro
  obtain ⟨t,rfl⟩:=ri
  obtain ⟨its,n,r,ho,hz⟩:=I.lst hp
  obtain ⟨h1,h2,h3,h4⟩:=ixN_seq hj
  have hl:=r.length
  have hn:=line63
  have I':Inv X pins σ (upd H p (.lst (xs.set j v))) { s with heap:=s.heap.update p (Obj.mapSeq (·.setIfInBounds j u)) } :=
    I.lstUpd hp ho (mapSeq_set its n j u) (r.set rv j) (by rw [List.length_set];exact hz) s.toks
  by_cases h0:0 <= k
  · have hk:k.toNat=j:=by
      rw [seqIndex_of h0 h4] at h1
      exact Option.some.inj h1
    exact PySem.W.ki_setAt ho h0 (by omega) (by rw [List.size_toArray,<- hl];exact h4) (by rw [hk];exact ⟨_,I',q⟩)
  · have hk:(k + (its.toArray.size:Int)).toNat=j:=by
      rw [seqIndex_neg (by omega) h3] at h1
      rw [List.size_toArray,<- hl]
      exact Option.some.inj h1
    exact PySem.W.ki_setBack ho (by omega) (by rw [List.size_toArray,<- hl];exact h3) (by omega) (by rw [hk];exact ⟨_,I',q⟩)
theorem slice_bounds (lo hi:Option Int) (n:Nat):(sliceBounds lo hi none n).1=((HT.sIx n 0 lo:Nat):Int)/\(sliceBounds lo hi none n).2.1=((HT.sIx n n hi:Nat):Int)/\(sliceBounds lo hi none n).2.2=1:=by
  refine ⟨?_,?_,rfl⟩
  · cases lo with
    | none=>simp [sliceBounds,HT.sIx]
    | some i =>
      simp only [sliceBounds,HT.sIx,Option.getD_none,show (1:Int) > 0 by decide,if_true]
      by_cases h:i < 0
      · simp only [h,if_true] <;> omega
      · simp only [h,if_false] <;> omega
  · cases hi with
    | none=>simp [sliceBounds,HT.sIx]
    | some i =>
      simp only [sliceBounds,HT.sIx,Option.getD_none,show (1:Int) > 0 by decide,if_true]
      by_cases h:i < 0
      · simp only [h,if_true] <;> omega
      · simp only [h,if_false] <;> omega
theorem slicePick_cut (its:List Value) (lo hi:Option Int):slicePick its.toArray lo hi none=((its.drop (HT.sIx its.length 0 lo)).take (HT.sIx its.length its.length hi - HT.sIx its.length 0 lo)).toArray:=by
  obtain ⟨h1,h2,h3⟩:=slice_bounds lo hi its.toArray.size
  unfold slicePick
  rw [h1,h2,h3]
  simp only [sliceRange_one,pick_run,List.size_toArray] <;> rfl
def rSlL (K:PySem.W.Frag):V->Option Int->Option Int->Hp->VK->Prop:=fun x lo hi H Q=>∃ a xs,x=.ref a/\SqL K H a xs/\∀ p,H p=none->Q (.ref p) (upd H p (.lst (cutV xs lo hi)))
theorem sl_list:SlR X (rSlL X.K):=by
  intro pins s σ H x v vl vu lo hi sl Q I rx hs pl pu h
  obtain ⟨a,xs,rfl,hx,q⟩:=h
  cases rx
  obtain ⟨its,r,ht,hz⟩:=I.list hx
  have hlen:=r.length
  refine ⟨"list",_,slot_list_getitem.lookup,ht.isList.typeIs,?_⟩
  refine wpAny_getItem_list_slice ht.isList hs pl pu .none (by simp) ?_ (by rw [List.size_toArray] <;> omega)
  rw [slicePick_cut,<- hlen]
  refine ⟨.ref s.heap.objs.size,_,I.laid (t':=s.toks) (o:=.lst (cutV xs lo hi)) (fun b ob q=>Heap.get?_push_of_some _ q) (Nat.le_refl _) ?_,rfl,q _ (I.hok.fresh (Nat.le_refl _))⟩
  exact ⟨Nat.le_trans (cutV_length xs lo hi) hz,_,0,(r.drop (HT.sIx xs.length 0 lo)).take (HT.sIx xs.length xs.length hi - HT.sIx xs.length 0 lo),Heap.get?_push_size _ rfl⟩
def flatV:V->Bool
  | .non=>true
  | .bl _=>true
  | .int _=>true
  | .str _=>true
  | _=>false
def eqV:V->V->Bool
  | .non,.non=>true
  | .bl a,.bl b=>a == b
  | .bl a,.int b=>(if a then 1 else 0) == b
  | .int a,.bl b=>a == (if b then 1 else 0)
  | .int a,.int b=>a == b
  | .str a,.str b=>a == b
  | _,_=>false
theorem eqAt_V {A:Around} {s:Shared} {y x:V} {u v:Value} (ry:RelV y u) (rx:RelV x v) (fy:flatV y=true) (fx:flatV x=true):SeqAt.EqAt A s u v (eqV y x):=by
  cases y with
  | non =>
    cases ry
    cases x with
    | non=>cases rx;exact SeqAt.EqAt.same _
    | bl b=>cases rx;exact SeqAt.EqAt.none_bool b
    | int b=>obtain ⟨t,rfl⟩:=rx;exact SeqAt.EqAt.none_int b t
    | str b=>obtain ⟨t,rfl⟩:=rx;exact SeqAt.EqAt.none_str b t
    | _=>exact absurd (show false=true from fx) Bool.false_ne_true
  | bl a =>
    cases ry
    cases x with
    | non=>cases rx;exact SeqAt.EqAt.bool_none a
    | bl b=>cases rx;exact SeqAt.EqAt.bool_bool a b
    | int b=>obtain ⟨t,rfl⟩:=rx;exact SeqAt.EqAt.bool_int a b t
    | str b=>obtain ⟨t,rfl⟩:=rx;exact SeqAt.EqAt.bool_str a b t
    | _=>exact absurd (show false=true from fx) Bool.false_ne_true
  | int a =>
    obtain ⟨t',rfl⟩:=ry
    cases x with
    | non=>cases rx;exact SeqAt.EqAt.int_none a t'
    | bl b=>cases rx;exact SeqAt.EqAt.int_bool a t' b
    | int b=>obtain ⟨t,rfl⟩:=rx;exact SeqAt.EqAt.int_int a t' b t
    | str b=>obtain ⟨t,rfl⟩:=rx;exact SeqAt.EqAt.int_str a t' b t
    | _=>exact absurd (show false=true from fx) Bool.false_ne_true
  | str a =>
    obtain ⟨t',rfl⟩:=ry
    cases x with
    | non=>cases rx;exact SeqAt.EqAt.str_none a t'
    | bl b=>cases rx;exact SeqAt.EqAt.str_bool a t' b
    | int b=>obtain ⟨t,rfl⟩:=rx;exact SeqAt.EqAt.str_int a t' b t
    | str b=>obtain ⟨t,rfl⟩:=rx;exact SeqAt.EqAt.str_str a t' b t
    | _=>exact absurd (show false=true from fx) Bool.false_ne_true
  | _=>exact absurd (show false=true from fy) Bool.false_ne_true
def eqU (x:V) (u:Value):Bool:=match u with
  | .none=>eqV .non x
  | .bool b=>eqV (.bl b) x
  | .int i _=>eqV (.int i) x
  | .str z _=>eqV (.str z) x
  | _=>false
theorem eqU_of {x y:V} {u:Value} (r:RelV y u) (f:flatV y=true):eqU x u=eqV y x:=by
  cases y with
  | non=>cases r;rfl
  | bl b=>cases r;rfl
  | int i=>obtain ⟨t,rfl⟩:=r;rfl
  | str z=>obtain ⟨t,rfl⟩:=r;rfl
  | _=>exact absurd (show false=true from f) Bool.false_ne_true
theorem any_eqU {x:V}:∀ {xs:List V} {us:List Value},Vals xs us->xs.all flatV=true->us.any (eqU x)=xs.any fun y=>eqV y x
  | _,_,.nil,_=>rfl
  | y :: xs,u :: us,.cons r t,f=>by
    rw [List.all_cons,Bool.and_eq_true] at f
    rw [List.any_cons,List.any_cons,eqU_of r f.1,any_eqU t f.2]
theorem mem_eqAt {A:Around} {s:Shared} {x:V} {v:Value} (rx:RelV x v) (fx:flatV x=true):∀ {xs:List V} {us:List Value},Vals xs us->xs.all flatV=true->∀ u ∈ us,SeqAt.EqAt A s u v (eqU x u)
  | _,_,.nil,_=>fun u hu=>by cases hu
  | y :: xs,u :: us,.cons r t,f=>fun u' hu=>by
    rw [List.all_cons,Bool.and_eq_true] at f
    rcases List.mem_cons.mp hu with rfl | hu
    · rw [eqU_of r f.1];exact eqAt_V r rx f.1 fx
    · exact mem_eqAt rx fx t f.2 u' hu
def inV (x:V) (xs:List V):Bool:=xs.any fun y=>eqV y x
def rIn (K:PySem.W.Frag) (neg:Bool):R2:=fun x y H Q=>∃ p xs,y=.ref p/\(SqL K H p xs ∨ SqT K H p xs)/\flatV x=true/\xs.all flatV=true/\Q (.bl (if neg then !inV x xs else inV x xs)) H
theorem op_in_seq:OpR X (compareOp .In) (rIn X.K false):=by
  intro pins s σ H x y v u Q I rx ry h
  obtain ⟨p,xs,rfl,hq,fx,fs,q⟩:=h
  cases ry
  rcases hq with hq | hq
  · obtain ⟨its,r,pl,hz⟩:=I.list hq
    refine SeqAt.in_listAt (eqU x) pl.isList (fun w hw=>mem_eqAt rx fx r fs w (by simpa using hw)) ⟨.bl _,H,I,rfl,?_⟩
    rw [show its.toArray.any (eqU x)=its.any (eqU x) by simp,any_eqU r fs]
    exact q
  · obtain ⟨its,r,pl,hz⟩:=I.tuple hq
    refine SeqAt.in_tupleAt (eqU x) pl (fun w hw=>mem_eqAt rx fx r fs w (by simpa using hw)) ⟨.bl _,H,I,rfl,?_⟩
    rw [show its.toArray.any (eqU x)=its.any (eqU x) by simp,any_eqU r fs]
    exact q
theorem call_len_seq:CallR X (.builtin "len") (fun xs H Q=>∃ p ys,xs=[.ref p]/\(SqL X.K H p ys ∨ SqT X.K H p ys)/\Q (.int ys.length) H):=by
  intro pins s σ H xs us Q I r h
  obtain ⟨p,ys,rfl,hq,q⟩:=h
  obtain ⟨u,rfl,rx⟩:=vals1 r
  cases rx
  have hn:=line63
  rcases hq with hq | hq
  · obtain ⟨its,r',pl,hz⟩:=I.list hq
    have hlen:=r'.length
    exact Calls.call_len_list pl.isList (by simp only [List.size_toArray] <;> omega) ⟨.int ys.length,H,I.tok _,⟨s.toks + 1,by rw [List.size_toArray,hlen]⟩,q⟩
  · obtain ⟨its,r',pl,hz⟩:=I.tuple hq
    have hlen:=r'.length
    exact len_tuple pl (by simp only [List.size_toArray] <;> omega) ⟨.int ys.length,H,I.tok _,⟨s.toks + 1,by rw [List.size_toArray,hlen]⟩,q⟩
theorem call_len_str:CallR X (.builtin "len") (fun xs H Q=>∃ z,xs=[.str z]/\z.length <= sizeLine/\Q (.int z.length) H):=by
  intro pins s σ H xs us Q I r h
  obtain ⟨z,rfl,hz,q⟩:=h
  obtain ⟨u,rfl,t,rfl⟩:=vals1 r
  have hn:=line63
  exact len_str (by omega) ⟨.int z.length,H,I.tok _,⟨_,rfl⟩,q⟩
theorem call_list_of:CallR X (.type "list") (fun xs H Q=>∃ p ys,xs=[.ref p]/\(SqL X.K H p ys ∨ SqT X.K H p ys)/\∀ l,H l=none->Q (.ref l) (upd H l (.lst ys))):=by
  intro pins s σ H xs us Q I r h
  obtain ⟨p,ys,rfl,hq,q⟩:=h
  obtain ⟨u,rfl,rx⟩:=vals1 r
  cases rx
  have fin:∀ (its:List Value),Vals ys its->ys.length <= sizeLine->∀ (h':Heap) (c':Nat),(∀ b o',s.heap.get? b=some o'->h'.get? b=some o') ->
      h'.get? s.heap.objs.size=some { cls:=.type "list",dict:=none,data:=.seq its.toArray c',slots:=#[] }->EP X pins σ Q (.ref s.heap.objs.size) { s with heap:=h' }:=fun its r' hz h' c' kp e =>
    ⟨.ref s.heap.objs.size,_,I.laid (t':=s.toks) kp (Nat.le_refl _) (show ObjOk X.prog X.w _ h' _ (.lst ys) from ⟨hz,its,c',r',e⟩),rfl,q _ (I.hok.fresh (Nat.le_refl _))⟩
  rcases hq with hq | hq
  · obtain ⟨its,r',pl,hz⟩:=I.list hq
    have hlen:=r'.length
    obtain ⟨o,ho,hc,n,hd⟩:=pl.isList
    exact call_list_seq p (.inl rfl) ho hc hd (fun h' c' kp e=>fin its r' hz h' c' kp e) (by simp only [List.size_toArray] <;> omega)
  · obtain ⟨its,r',pl,hz⟩:=I.tuple hq
    have hlen:=r'.length
    obtain ⟨o,ho,hc,n,hd⟩:=pl
    exact call_list_seq p (.inr rfl) ho hc hd (fun h' c' kp e=>fin its r' hz h' c' kp e) (by simp only [List.size_toArray] <;> omega)
theorem call_tuple_of:CallR X (.type "tuple") (fun xs H Q=>∃ p ys,xs=[.ref p]/\((SqL X.K H p ys/\∀ l,H l=none->Q (.ref l) (upd H l (.tup ys))) ∨ (SqT X.K H p ys/\Q (.ref p) H))):=by
  intro pins s σ H xs us Q I r h
  obtain ⟨p,ys,rfl,h⟩:=h
  obtain ⟨u,rfl,rx⟩:=vals1 r
  cases rx
  rcases h with ⟨hq,q⟩ | ⟨hq,q⟩
  · obtain ⟨its,r',pl,hz⟩:=I.list hq
    have hlen:=r'.length
    refine call_tuple_list pl.isList (fun h' kp=>?_) (by simp only [List.size_toArray] <;> omega)
    have I1:Inv X pins σ H { s with heap:=h' }:=I.kept (t':=s.toks) kp
    have I2:Inv X pins σ (upd H h'.objs.size (.tup ys)) { s with heap:=h'.push { cls:=.type "tuple",data:=.seq its.toArray } } :=
      I1.laid (t':=s.toks) (fun b o e=>Heap.get?_push_of_some _ e) (Nat.le_refl _) (show ObjOk X.prog X.w _ _ _ (.tup ys) from ⟨hz,its,r',IsTup.new _ _⟩)
    exact ⟨.ref h'.objs.size,_,I2,rfl,q _ (I1.hok.fresh (Nat.le_refl _))⟩
  · obtain ⟨its,r',pl,hz⟩:=I.tuple hq
    exact call_tuple_same pl ⟨.ref p,H,I,rfl,q⟩
def tyV (K:PySem.W.Frag) (T:String) (x:V) (H:Hp):Prop:=match x with
  | .str _=>T="str"
  | .int _=>T="int"
  | .ref p=>(T="list"/\∃ xs,SqL K H p xs) ∨ (T="tuple"/\∃ o,K.lookup p=some o/\o.cls=.type "tuple"/\o.dict=none) ∨
      (T="dict"/\((∃ kvs,H p=some (.dK kvs)) ∨ ∃ kvs,H p=some (.dT kvs))) ∨ (T="set"/\∃ S n,H p=some (.set S n))
  | _=>False
theorem tyV_is {pins:List (Addr × Obj)} {σ:St} {H:Hp} {s:Shared} {T:String} {x:V} {v:Value} (I:Inv X pins σ H s) (r:RelV x v) (ty:tyV X.K T x H) :
    s.TypeIs v T/\∀ a,v=.ref a->∃ ob,s.heap.get? a=some ob/\ob.dict=none:=by
  cases x with
  | str z =>
    obtain ⟨t,rfl⟩:=r
    cases (show T="str" from ty)
    exact ⟨typeIs_str s z t,fun _ e=>nomatch e⟩
  | int i =>
    obtain ⟨t,rfl⟩:=r
    cases (show T="int" from ty)
    exact ⟨typeIs_int s i t,fun _ e=>nomatch e⟩
  | ref p =>
    cases r
    rcases ty with ⟨rfl,xs,hq⟩ | ⟨rfl,o,hk,hc,hd⟩ | ⟨rfl,hk⟩ | ⟨rfl,S,n,hk⟩
    · obtain ⟨its,_,pl,_⟩:=I.list hq
      refine ⟨pl.isList.typeIs,fun a e=>?_⟩
      cases e
      obtain ⟨o,n,e,c,hd,_⟩:=pl
      exact ⟨o,e,hd⟩
    · refine ⟨⟨o,I.kIn p o hk,hc⟩,fun a e=>?_⟩
      cases e
      exact ⟨o,I.kIn _ o hk,hd⟩
    · have z:∃ o,s.heap.get? p=some o/\o.ExactDict:=by
        rcases hk with ⟨kvs,hk⟩ | ⟨kvs,hk⟩
        · obtain ⟨_,_,_,_,o,_,_,e,ex,_⟩:=I.hok p _ hk
          exact ⟨o,e,ex⟩
        · obtain ⟨_,_,_,_,o,_,_,e,ex,_⟩:=I.hok p _ hk
          exact ⟨o,e,ex⟩
      obtain ⟨o,e,ex⟩:=z
      refine ⟨⟨o,e,ex.1⟩,fun a e2=>?_⟩
      cases e2
      exact ⟨o,e,ex.2.1⟩
    · obtain ⟨o,_,_,_,e,ex,_⟩:=I.hok p _ hk
      refine ⟨⟨o,e,ex.1⟩,fun a e2=>?_⟩
      cases e2
      exact ⟨o,e,ex.2.1⟩
  | _=>exact False.elim ty
def tBM (K:PySem.W.Frag) (T:String) (r:V->List V->Hp->VK->Prop) (to:TE) (t:TA):TE:=fun σ H Q=>to σ H fun x H1=>tyV K T x H1/\t σ H1 fun xs H2=>r x xs H2 Q
variable {o e:Expr} {es:List Expr} {to:TE} {t:TA} {name:Str} {apos cpos:Pos} {T id:String} {r:V->List V->Hp->VK->Prop}
theorem pe_bm (pa:PlainAttrs T) (slot:Slot T name id) (hty:typeOf (.builtin id)=pure (.type "method_descriptor")) (hm:MtR X id r) (ho:PE X o to) (ha:PA X (e :: es) t)
    (hbase:attributeBase o name X.env (eval o X.env)=eval o X.env:=by rfl)
    (hfew:((backTo cpos (starEach (e :: es) X.env)).all (fun x=>!x.1) && (backToKw cpos (keywordEach [] X.env)).all (fun x=>x.1.isSome)
      && decide ((e :: es).length + ([]:List Keyword).length + (if ([]:List Keyword).isEmpty then 0 else 1) < 30))=true:=by rfl)
    (hline:(apos.endLine == cpos.line)=true:=by rfl) (hs:starEach (e :: es) X.env=(false,eval e X.env) :: starEach es X.env:=by rfl) (hplain:(backTo cpos (starEach es X.env)).any (·.1)=false:=by rfl) :
    PE X (.Call (.Attribute o name apos) (e :: es) [] cpos) (tBM X.K T r to t):=by
  intro pins s σ H Q I h
  refine wpAny_Call_method_late hbase hfew hline rfl (thn (ho pins s σ H _ I h) fun v s1 ⟨x,H1,I1,r1,ty,q1⟩=>?_)
  obtain ⟨h1,h2⟩:=tyV_is I1 r1 ty
  refine ⟨T,id,pa,slot,hty,h1,h2,?_⟩
  have hA:=ha cpos pins s1 σ H1 _ I1 q1
  rw [hs] at hA ⊢
  refine Calls.callWith_builtin (by show (false || (backTo cpos (starEach es X.env)).any (·.1))=false;rw [hplain] <;> rfl) (Calls.evalArgs_plain ?_)
  exact thn hA fun us s2 ⟨vs,H2,I2,r2,q2⟩=>hm pins s2 σ H2 x vs v us Q I2 r1 r2 q2
/- xs.append(e),list.index on a module's tuple .. are MtR facts of 06m -/
end
end L2
namespace L2
open PySem PySem.Spec PyProof.Rows
def MtM (X:Cx) (id:String) (r:V->List V->Hp->VK->Prop):Prop :=
  ∀ (pins:List (Addr × Obj)) (s:Shared) (σ:St) (H:Hp) (x:V) (xs:List V) (v:Value) (us:List Value) (Q:VK),Inv X pins σ H s->RelV x v->Vals xs us->r x xs H Q ->
    wpAny (model X.prog X.w) X.A (call (.builtin id) (v :: us)) (EP X pins σ Q) X.xe s
theorem Vals.one:∀ {x:V} {us:List Value},Vals [x] us->∃ u,us=[u]/\RelV x u
  | _,_,.cons r .nil=>⟨_,rfl,r⟩
section
variable {X:Cx} {pins:List (Addr × Obj)} {σ:St} {H:Hp} {s:Shared} {l b:Addr} {xs ys zs:List V}
theorem Inv.lset {its its':List Value} {n:Nat} {f:Array Value->Array Value} {t':Nat} (I:Inv X pins σ H s) (hH:H l=some (.lst xs))
    (e:s.heap.get? l=some { cls:=.type "list",data:=.seq its.toArray n }) (hf:f its.toArray=its'.toArray) (hv:Vals ys its') (hz:ys.length <= sizeLine) :
    Inv X pins σ (upd H l (.lst ys)) { s with heap:=s.heap.update l (Obj.mapSeq f),toks:=t' }:=by
  have q:=PySem.IsL.update e f
  rw [hf] at q
  refine I.write (x:=l) (e:=l) (by rw [hH];exact trivial) (.inl rfl) (fun b' u hb hu=>(Heap.get?_update_other s.heap (Obj.mapSeq f) (Ne.symm hb)).trans hu) ⟨_,q⟩ ?_
  exact ⟨hz,its',_,hv,q⟩
theorem Inv.lnew {its:List Value} {t':Nat} (I:Inv X pins σ H s) (hv:Vals ys its) (hz:ys.length <= sizeLine) :
    Inv X pins σ (upd H s.heap.objs.size (.lst ys)) { s with heap:=s.heap.push { cls:=.type "list",data:=.seq its.toArray },toks:=t' } :=
  I.laid (fun _ _ q=>Heap.get?_push_of_some _ q) (Nat.le_refl _) ⟨hz,its,0,hv,Heap.get?_push_size _ rfl⟩
theorem Inv.fresh (I:Inv X pins σ H s):H s.heap.objs.size=none:=I.hok.fresh (Nat.le_refl _)
theorem Inv.lstM (I:Inv X pins σ H s) (hH:H l=some (.lst xs)):xs.length <= sizeLine/\∃ (its:List Value) (n:Nat),Vals xs its/\xs.length=its.length/\s.heap.get? l=some { cls:=.type "list",data:=.seq its.toArray n }:=by
  obtain ⟨z,its,n,r,e⟩:=I.hok l _ hH
  exact ⟨z,its,n,r,r.length,e⟩
end
section
variable {X:Cx}
def rAppend:V->List V->Hp->VK->Prop:=fun x vs H Q=>∃ l xs y,x=.ref l/\vs=[y]/\H l=some (.lst xs)/\xs.length < sizeLine/\Q .non (upd H l (.lst (xs ++ [y])))
theorem mt_append:MtM X "list.append" rAppend:=by
  intro pins s σ H x vs v us Q I rx rv h
  obtain ⟨l,xs,y,rfl,rfl,hH,hz,q⟩:=h
  cases rx
  obtain ⟨u,rfl,ru⟩:=rv.one
  obtain ⟨z,its,n,r,hl,e⟩:=I.lstM hH
  refine call_meets F.slot_list_append ⟨_,e,rfl⟩ F.entry_list_append (F.args_list_append_2 _ _) (PySem.list_append l its.toArray n u (by rw [List.size_toArray];omega)) ⟨e,?_⟩
  refine ⟨.non,_,I.lset (its':=its ++ [u]) hH e (by simp) (r.append (.cons ru .nil)) ?_,rfl,q⟩
  rw [List.length_append,List.length_singleton]
  omega
def rCat:R2:=fun x y H Q=>∃ l b xs zs,x=.ref l/\y=.ref b/\H l=some (.lst xs)/\H b=some (.lst zs)/\xs.length + zs.length <= sizeLine/\∀ p,H p=none->Q (.ref p) (upd H p (.lst (xs ++ zs)))
theorem op_cat:OpR X (binaryOp .Add) rCat:=by
  intro pins s σ H x y v u Q I rx ry h
  obtain ⟨l,b,xs,zs,rfl,rfl,hH,hB,hz,q⟩:=h
  cases rx
  cases ry
  obtain ⟨z,its,n,r,hl,e⟩:=I.lstM hH
  obtain ⟨z2,its2,n2,r2,hl2,e2⟩:=I.lstM hB
  refine PySem.P.add_list e e2 ?_ (by rw [List.size_toArray,List.size_toArray];omega)
  have ea:its.toArray ++ its2.toArray=(its ++ its2).toArray:=by simp
  rw [ea]
  exact ⟨.ref _,_,I.lnew (t':=s.toks) (r.append r2) (by rw [List.length_append];omega),rfl,q _ I.fresh⟩
end
section
variable {prog:Program} {w:World} {A:Around} {E:Value->Shared->Prop} {s:Shared}
set_option maxRecDepth 100000 in
end
section
variable {X:Cx}
end
end L2
namespace Att
open PySem PySem.W PySem.Calls PyProof.Rows
theorem ints_of_wellAll {P:Params} {h:Heap}:∀ (ns:List Int) (vs:List Value),WellAll P h vs (ns.map WData.int)->IntsAre vs ns:=by
  intro ns
  induction ns with
  | nil =>
    intro vs w
    rw [List.map_nil] at w
    cases w
    exact .nil
  | cons n ns ih =>
    intro vs w
    rw [List.map_cons] at w
    cases w with
    | cons a b =>
      cases a
      exact .cons _ _ (ih _ b)
theorem script_of {l:OpenLaw} {n:Nat} (hn:l.most=some n) {P:Params} {h:Heap} {args:List WData} {vals:List Value}
    (hpre:l.row.toRowW.claim.pre args=true) (hwl:WellAll P h vals args) :
    ∃ a vs ns,vals=[Value.ref a]/\args=[WData.list (ns.map WData.int)]/\h.get? a=some { cls:=.type "list",data:=.seq vs.toArray }/\IntsAre vs ns/\ns.length <= n:=by
  have hsh:WShape.hasAll [] args [.list .int]=true:=(pre_splitW hpre).1
  have hc:l.pre.holds [] { args:=args }=true:=(pre_splitW hpre).2
  obtain ⟨d,r,rfl,h1,h2⟩:=hasAllW_cons hsh
  obtain rfl:=hasAllW_nil h2
  obtain ⟨xs,rfl,h3⟩:=hasW_list h1
  obtain ⟨ns,rfl⟩:=items_int h3
  have hlen:ns.length <= n:=by
    unfold OpenLaw.pre at hc
    have h4:(WTm.not (.lt (.lit (.int (n:Int))) (.len (.arg 0)))).holds [] { args:=[.list (ns.map .int)] }=true:=by
      have h4:=(holds_andW hc).1
      rw [hn] at h4
      exact h4
    have h5:=condW_of h4 (w_not (w_lt w_lit (w_len_list (w_arg rfl))))
    rw [List.length_map] at h5
    refine Nat.le_of_not_lt fun q=>?_
    have q':(n:Int) < ((ns.length:Nat):Int):=by omega
    first
      | (rw [decide_eq_true q'] at h5;exact absurd h5 (by decide))
      | (simp at h5;omega)
  cases hwl with
  | cons w1 w2 =>
    cases w2
    cases w1 with
    | list ho hall=>exact ⟨_,_,ns,rfl,rfl,ho,ints_of_wellAll ns _ hall,hlen⟩
theorem post_true (l:OpenLaw) (args:List WData):l.row.toRowW.claim.post args (.bool true) args=true :=
  postW_of (r:=l.row.toRowW) (X:=(true == true))
    (show WShape.has [] (.bool true) .bool=true by first | rfl | decide | simp [WShape.has,WShape.arms,WShape.armsAll])
    (show (WTm.eq .res (.lit (.bool true))).value [] { args:=args,res:=some (.bool true),after:=args }=some (.bool (true == true)) from w_eq_bool (w_res rfl) w_lit) rfl
theorem attach_call {l:OpenLaw} {n:Nat} {q:Program} {loose:List Str} {XP:(Str->Option Value)->Heap->Prop} {YP:World->Heap->Prop} {d:DefRec}
    (hn:l.most=some n) (hdf:d.params.defaults=[])
    (call:∀ (w:World) (s₀ s₁:Shared) (mg mb:Str->Option Value) (fa:Addr) (o:Obj) (pm cd doc:Value) (a:Addr) (vs:List Value) (ns:List Int),
      Ground q loose [] XP w s₀ mg mb s₁.heap->YP w s₁.heap ->
      s₁.heap.get? fa=some o->o.data=.func (docDef d.name d.params d.body d.scope pm cd doc)->s₁.heap.CodeRec cd d.name->mg d.name=some (.ref fa) ->
      s₁.heap.get? a=some { cls:=.type "list",data:=.seq vs.toArray }->IntsAre vs ns->ns.length <= n->s₁.gens=#[] ->
      codeAny (model l.prog w) callerA (.call (.ref fa) ⟨[.ref a],[]⟩) (fun r s'=>r=.ok (.ret (.bool true))/\OldK s₁.heap s'.heap/\s'.os=s₁.os/\AllBare s'.gens) s₁) :
    WalkO q loose XP YP l.row.toRowW d [] (fun f vs=>PySem.call f vs):=by
  intro w s₀ s₁ mg mb G Y fa o pm cd doc dV kV ho hd hcd hD hmg hg args vals as hpre hlay hrd hwl hlo
  obtain rfl:dV=.none:=Dflts.none hD hdf
  obtain rfl:kV=.none:=Dflts.noKw hD
  obtain ⟨a,vs,ns,rfl,rfl,hobj,hints,hlen⟩:=script_of hn hpre hwl
  refine enter_call (codeAny_mono (call w s₀ s₁ mg mb fa o pm cd doc a vs ns G Y ho (fd_plain hd) hcd hmg hobj hints hlen hg) fun r s' hq=>?_)
  obtain ⟨rfl,h2,h3,h4⟩:=hq
  exact ⟨.inl ⟨.bool true,.bool true,[],rfl,fun _=>rfl,.bool true,post_true l _,fun _=>⟨List.Pairwise.nil,fun _ hm=>(nomatch hm)⟩⟩,h2,h3,h4⟩
section
variable {prog:Program} {w:World} {A:Around} {E:Value->Shared->Prop} {s:Shared} {K:Frag}
end
end Att
namespace L2
open PySem PySem.Spec PyProof.Rows
theorem vals_ints:∀ {vs:List Value} {ns:List Int},IntsAre vs ns->Vals (ns.map V.int) vs
  | _,_,.nil=>.nil
  | _,_,.cons n t h=>.cons ⟨t,rfl⟩ (vals_ints h)
def Only (H:Hp):Prop:=∀ b,H b=none ∨ ∃ o xs,H b=some (.frz o (.lst xs))
theorem law_call {P:Program} {w:World} {K:PySem.W.Frag} {mg mb:Str->Option Value} {CX:CXT} {k:Nat} {fa a:Addr} {fd:FuncData} {x:Str} {sp:Sp} {s₁:Shared} {vs:List Value} {ns:List Int}
    (KX:K.In s₁.heap) (hns:s₁.heap.Ns mainGlobals mg) (hb:s₁.heap.Ns builtinsNs mb) (hbb:∀ x:Str,x ≠ "__name__"->mb x=bootBuiltins x) (hlim:s₁.heap.NoLimit) (hg:s₁.gens=#[])
    (ha:s₁.heap.get? a=some { cls:=.type "list",data:=.seq vs.toArray }) (hi:IntsAre vs ns) (hl:ns.length <= sizeLine) (hr:Room k callerA)
    (F:∀ base:Heap,K.In base->base.Ns mainGlobals mg->FnOk P w K mg base CX k fa fd [x] sp) (hbind:∀ (s:Shared) (u:Value),BindsTo s fd ⟨[u],[]⟩ [(x,u)])
    (hsp:∀ H:Hp,Only H->SqL K H a (ns.map V.int)->sp [.ref a] H (fun v _=>v=.bl true) fun _ _ _=>False)
    (hCX:∀ H e s',CX [] H s₁ (fun _ _ _=>False) e s'->False) :
    codeAny (model P w) callerA (.call (.ref fa) ⟨[.ref a],[]⟩) (fun r s'=>r=.ok (.ret (.bool true))/\OldK s₁.heap s'.heap/\s'.os=s₁.os/\AllBare s'.gens) s₁:=by
  have rv:=vals_ints hi
  have lenV:=hi.length
  have core:∀ H:Hp,Only H->SqL K H a (ns.map V.int)->HOk P w H s₁.heap->(∀ b,H b ≠ none->b=a)->(H a ≠ none->K.lookup a=none) ->
      codeAny (model P w) callerA (.call (.ref fa) ⟨[.ref a],[]⟩) (fun r s'=>r=.ok (.ret (.bool true))/\OldK s₁.heap s'.heap/\s'.os=s₁.os/\AllBare s'.gens) s₁:=by
    intro H hO hS hok hA hK
    have base_of:∀ {b:Addr} {o:Obj},s₁.heap.get? b=some o->H b=none->(hidT s₁.heap H).get? b=some o:=fun e n=>hidT_get e n
    have noA:∀ {b:Addr} {o:Obj} {es:Array DictEntry} {ep:Nat},s₁.heap.get? b=some o->o.data=.dict es ep->H b=none:=fun {b o es ep} e d=>by
      cases q:H b with
      | none=>rfl
      | some u =>
        have e':b=a:=hA b (by rw [q];simp)
        subst e'
        rw [ha] at e;cases e
        have d':Data.seq vs.toArray _=Data.dict es ep:=d
        cases d'
    have nsK:∀ {b:Addr} {m:Str->Option Value},s₁.heap.Ns b m->(hidT s₁.heap H).Ns b m:=fun {b m} ⟨o,es,ep,e,d,r⟩=>⟨o,es,ep,base_of e (noA e d),d,r⟩
    have hKb:K.In (hidT s₁.heap H):=fun b o e=>base_of (KX b o e) (by
      cases q:H b with
      | none=>rfl
      | some u =>
        have e':b=a:=hA b (by rw [q];simp)
        subst e'
        rw [hK (by rw [q];simp)] at e;cases e)
    have hM:Mod K mg (hidT s₁.heap H):=⟨hKb,nsK hns,⟨mb,nsK hb,hbb⟩,let ⟨mc,h1,h2⟩:=hlim;⟨mc,nsK h1,h2⟩⟩
    have e0:Env0 P w K mg (hidT s₁.heap H) callerA [] s₁ H:=⟨rfl,hM,fun b o e=>of_hidT e,Nat.le_of_eq (hidT_size _ _),trivial,fun b hb=>absurd (show b ∈ ([]:List Addr) from hb) (by simp),hok,.of_eq hg⟩
    refine codeAny_mono ((F _ hKb (nsK hns)).run callerA [] s₁ H ⟨[.ref a],[]⟩ [.ref a] [.ref a] _ _ hr e0 (hbind s₁ (.ref a)) (.cons rfl .nil) (hsp H hO hS)) fun r s' h=>?_
    cases r with
    | error e=>exact (hCX H e s' h).elim
    | ok fl =>
      cases fl with
      | next=>exact False.elim h
      | brk=>exact False.elim h
      | cont=>exact False.elim h
      | ret u =>
        obtain ⟨v,H',os,bare,un,hok',r',q⟩:=h
        have q':v=.bl true:=q
        subst q'
        obtain rfl:u=Value.bool true:=r'
        refine ⟨rfl,OldK.of_keep fun b o e=>?_,os,bare⟩
        cases q:H b with
        | none=>exact un.keep b o e q (by intro z;exact absurd (show b ∈ ([]:List Addr) from z) (by simp)) (by simp)
        | some u =>
          rcases hO b with z | ⟨ob,xs,z⟩
          · rw [q] at z;cases z
          · have z2:=un.frzs b ob _ z
            obtain ⟨e1,_⟩:=hok b _ z
            obtain ⟨e2,_⟩:=hok' b _ z2
            rw [e] at e1;cases e1
            exact e2
  cases hk:K.lookup a with
  | some o =>
    have e:=KX a o hk
    rw [ha] at e
    cases e
    refine core (fun _=>none) (fun _=>.inl rfl) (.inr ⟨_,vs.toArray,_,hk,rfl,rfl,rfl,by rw [List.size_toArray,lenV];exact hl,by simpa using rv⟩) (fun b u z=>by have z':(none:Option HO)=some u:=z;cases z') (fun b z=>absurd rfl z) fun z=>absurd rfl z
  | none =>
    refine core (fun b=>if b=a then some (.frz { cls:=.type "list",data:=.seq vs.toArray } (.lst (ns.map V.int))) else none) (fun b=>?_) (.inl (.inr ⟨{ cls:=.type "list",data:=.seq vs.toArray },if_pos rfl⟩)) (fun b u z=>?_) (fun b z=>?_) fun _=>hk
    · by_cases hb:b=a
      · exact .inr ⟨_,_,if_pos hb⟩
      · exact .inl (if_neg hb)
    · by_cases hb:b=a
      · have z':=(if_pos hb).symm.trans z
        cases z'
        subst hb
        exact ⟨ha,by rw [List.length_map];exact hl,vs,_,rv,ha⟩
      · have z':=(if_neg hb).symm.trans z
        cases z'
    · by_cases hb:b=a
      · exact hb
      · exact absurd (if_neg hb) z
end L2
namespace L2
open PySem PySem.Spec PyProof.Rows
abbrev KOf {K:PySem.W.Frag} {h:Heap} (_:K.In h):PySem.W.Frag:=K
theorem walk_of {l:PySem.W.OpenLaw} {n k:Nat} {q:Program} {loose:List Str} {XP:(Str->Option Value)->Heap->Prop} {YP:World->Heap->Prop} {d:DefRec} {K:Params->PySem.W.Frag} {CX:World->CXT} {sp:World->Sp} {x:Str}
    (hn:l.most=some n) (hn2:n <= sizeLine) (hdf:d.params.defaults=[]) (hr:Room k callerA)
    (hY:∀ (w:World) (h:Heap),YP w h->(K w.params).In h)
    (F:∀ (w:World) (mg:Str->Option Value) (fa:Addr) (h:Heap),(K w.params).In h->h.Ns mainGlobals mg->mg d.name=some (.ref fa) ->
      ∃ fd:FuncData,(∀ (s:Shared) (u:Value),BindsTo s fd ⟨[u],[]⟩ [(x,u)]) /\
        ∀ base:Heap,(K w.params).In base->base.Ns mainGlobals mg->FnOk l.prog w (K w.params) mg base (CX w) k fa fd [x] (sp w))
    (hsp:∀ (w:World) (H:Hp) (a:Addr) (ns:List Int),ns.length <= n->Only H->SqL (K w.params) H a (ns.map V.int)->sp w [.ref a] H (fun v _=>v=.bl true) fun _ _ _=>False)
    (hCX:∀ (w:World) (H:Hp) (s:Shared) (e:Value) (s':Shared),CX w [] H s (fun _ _ _=>False) e s'->False) :
    PySem.W.WalkO q loose XP YP l.row.toRowW d [] (fun f vs=>PySem.call f vs):=by
  refine Att.attach_call hn hdf fun w s₀ s₁ mg mb fa o pm cd doc a vs ns G Y ho hd hcd hmg hobj hints hlen hg=>?_
  have KX:=hY w _ Y
  obtain ⟨fd,hb,hF⟩:=F w mg fa _ KX G.T.g hmg
  exact law_call KX G.T.g G.T.b G.T.builtins G.T.nolimit hg hobj hints (Nat.le_trans hlen hn2) hr hF hb (fun H hO hS=>hsp w H a ns hlen hO hS) fun H e s'=>hCX w H s₁ e s'
end L2
/- THE LAST THEOREM (shape;LID,My.* are yours):
   My.Adr: a structure of the addresses that your layer names (classes,functions);My.Txt K t: a structure (Prop) of the equations over K;
   My.txt_mk:{K} {implicit addresses ..} (e1:nsIn K mainGlobals "law"=some (some (.ref f))) (e2:K.lookup f=some ⟨oc,od,.func (fnOf "law" "law" params body scope dV kV doc pm an cdv ct),sl⟩) (e3:codeIn K cdv "law"=true) ..:∃ t,My.Txt K t
set_option maxRecDepth 100000 in
set_option maxHeartbeats 0 in
theorem PySem.Challenge.cw_LID_holds:PySem.Challenge.rw_LID.Holds:=by
  w_on;o_law;k_head;(case hw=>w_witness2)
  k_fill
  refine L2.walk_of (l:=PySem.Challenge.rw_LID) (n:=63) (k:=40) (x:="script") (CX:=fun w=>..) (sp:=fun _=>My.sp_law) rfl (by decide) rfl ⟨rfl,by decide,by decide⟩ (fun w h Y=>PySem.W.kIn_of Y) ?F ?S ?C
  case F =>
    intro w mg fa h KX G hmg
    have T:∃ t,My.Txt (L2.KOf KX) t:=by
      dsimp only [L2.KOf]                          -- K must stand as «<heap const> w.params» for k_is
      refine' My.txt_mk ?e1 ?e2 ?e3 ..
      (case e1=>PySem.W.k_is)                    -- in the order: a name->its address->its object->its parts
      (case e2=>PySem.W.k_is)
      ..
    obtain ⟨t,T⟩:=T
    have e0:=hmg.symm.trans (PySem.W.mg_of KX G T.law)
    cases e0                                       -- fa is the law's own address
    exact ⟨_,fun s u=>.of_eq rfl,fun base kb nb=>My.law_fn T kb nb⟩     -- if «.of_eq rfl» comes too early: refine' ⟨_,?b,fun base kb nb=>My.law_fn T kb nb⟩;exact fun s u=>.of_eq rfl
  case S=>exact fun w H a ns hl hO hS=>..
  case C=>exact ..
(the tactic k_is has no namespace: write k_is) -/
namespace L2
open PySem PySem.Spec PyProof.Rows
def defArgs (s:Stmt):Arguments:=match s with
  | .FunctionDef _ a _ _ _ _ _ _ _ _=>a
  | _=>{ posonlyargs:=[],args:=[],vararg:=none,kwonlyargs:=[],kw_defaults:=[],kwarg:=none,defaults:=[] }
def defBody (s:Stmt):List Stmt:=match s with
  | .FunctionDef _ _ b _ _ _ _ _ _ _=>b
  | _=>[]
def defScope (s:Stmt):Scope:=match s with
  | .FunctionDef _ _ _ _ _ _ sc _ _ _=>sc
  | _=>{ kind:=.function,names:=[],isGenerator:=false,isCoroutine:=false }
abbrev CX0:CXT:=fun _ _ _ _ _ _=>False
abbrev E0:XK:=fun _ _ _=>False
theorem pass0 {X:Cx}:Passes CX0 X E0:=fun _ _ _ _ _ _ _ h=>h.elim
structure Fun (K:PySem.W.Frag) (x qual:Str) (st:Stmt) (f:Addr) (fd:FuncData):Prop where
  ex:∃ (oc:Value) (od:Option Addr) (kV doc pm:Value) (an:Option Addr) (cdv ct:Value) (osl:Array (Option Value)),
    fd=PySem.W.fnOf x qual (defArgs st) (defBody st) (defScope st) .none kV doc pm an cdv ct/\K.lookup f=some ⟨oc,od,.func fd,osl⟩/\PySem.W.codeIn K cdv qual=true
  kp:PySem.W.keepIn K (.ref f)=true
section
variable {P:Program} {w:World} {K:PySem.W.Frag} {mg:Str->Option Value} {base:Heap}
theorem Fun.ok {x qual:Str} {st:Stmt} {f:Addr} {fd:FuncData} {N ps:List Str} {k:Nat} {sp:Sp} (F:Fun K x qual st f fd) (S:FnScope N ps (defScope st)) (len:∀ vs H Q E,sp vs H Q E->vs.length=ps.length)
    (hbody:∀ (cdv:Value) (A:Around) (outer:List Env) (s:Shared) (H:Hp) (vs:List V) (Q:VK) (E:XK),Room k (A.deeper (envOfC qual (defScope st) s.heap.objs.size f cdv))->sp vs H Q E ->
      ∃ t,PSs (cxOf CX0 P w K mg base N qual (defScope st) f cdv A outer s H E).nox (defBody st) t/\t { nx:=fun _ H'=>Q .non H',rt:=Q } (start N vs) H):FnOk P w K mg base CX0 (k + 1) f fd ps sp:=by
  obtain ⟨oc,od,kV,doc,pm,an,cdv,ct,osl,rfl,lk,hcd⟩:=F.ex
  refine fn_of lk hcd S len fun A outer s H vs Q E hr hsp=>?_
  obtain ⟨t,h,q⟩:=hbody cdv A outer s H vs Q E hr hsp
  exact ⟨t,h.nox,q⟩
theorem Fun.binds {x qual:Str} {st:Stmt} {f:Addr} {fd:FuncData} {ps:List Str} (F:Fun K x qual st f fd)
    (h:∀ (kV doc pm:Value) (an:Option Addr) (cdv ct:Value) (us:List Value),us.length=ps.length->bindArgs (PySem.W.fnOf x qual (defArgs st) (defBody st) (defScope st) .none kV doc pm an cdv ct) ⟨us,[]⟩=pure (ps.zip us)):Binds K fd ps []:=by
  obtain ⟨oc,od,kV,doc,pm,an,cdv,ct,osl,rfl,lk,hcd⟩:=F.ex
  exact .all (h kV doc pm an cdv ct)
theorem fun_mk {x qual:Str} {st:Stmt} {f:Addr} {oc:Value} {od an:Option Addr} {osl:Array (Option Value)} {kV doc pm cdv ct:Value} (l:K.lookup f=some ⟨oc,od,.func (PySem.W.fnOf x qual (defArgs st) (defBody st) (defScope st) .none kV doc pm an cdv ct),osl⟩)
    (c:PySem.W.codeIn K cdv qual=true) (k:PySem.W.keepIn K (.ref f)=true):Fun K x qual st f (PySem.W.fnOf x qual (defArgs st) (defBody st) (defScope st) .none kV doc pm an cdv ct):=⟨⟨oc,od,kV,doc,pm,an,cdv,ct,osl,rfl,l,c⟩,k⟩
end
theorem hu_of {A:Around} {k:Nat} (hr:Room k A):A.units + 1 < cLine:=Nat.lt_of_le_of_lt (Nat.add_le_add_left (by decide:1 <= 64) _) hr.units
theorem small1000 {n:Nat} (h:n <= 1000):n < sizeLine:=Nat.lt_of_le_of_lt h (by decide)
section
variable {X:Cx}
theorem pv (i:Nat) {x:Str} {pos:Pos} (hN:X.N[i]?=some x:=by rfl) (hv:Vis X.env.scope x:=by first | exact Or.inl rfl | exact Or.inr (Or.inl rfl) | exact Or.inr (Or.inr rfl)) (hd:(x == ("__debug__":Str))=false:=by decide)
    (hcd:(x == ("__classdict__":Str))=false:=by decide):PE X (.Name x pos) (tVar i):=pe_var hN hv hd hcd
end
theorem iteF {A B:Prop} (h:B):if false=true then A else B:=by
  rw [if_neg Bool.false_ne_true]
  exact h
theorem iteT {A B:Prop} (h:A):if true=true then A else B:=by
  rw [if_pos rfl]
  exact h
theorem ite2 {c A B:Prop} [Decidable c] (h1:c->A) (h2:¬ c->B):if c then A else B:=by
  by_cases h:c
  · rw [if_pos h]
    exact h1 h
  · rw [if_neg h]
    exact h2 h
def Same (H H':Hp):Prop:=∀ b o,H b=some o->H' b=some o
theorem Same.refl (H:Hp):Same H H:=fun _ _ h=>h
theorem Same.trans {H H1 H2:Hp} (a:Same H H1) (b:Same H1 H2):Same H H2:=fun c o h=>b c o (a c o h)
theorem Same.free {H H':Hp} (e:Same H H') {l:Addr} (h:H' l=Option.none):H l=Option.none:=by
  cases q:H l with
  | none=>rfl
  | some o =>
    rw [e l o q] at h
    cases h
end L2
set_option maxHeartbeats 4000000
namespace L2
open PySem PySem.Spec PyProof.Rows
theorem cellsFrom_app:∀ (names:List (Str × NameKind)) (n:Nat) (acc:List (Str × Addr)),cellsFrom n names acc=cellsFrom n names [] ++ acc
  | [],n,acc=>rfl
  | (x,k) :: r,n,acc=>by
    unfold cellsFrom
    split
    · rw [cellsFrom_app r (n + 1) ((x,n) :: acc),cellsFrom_app r (n + 1) [(x,n)],List.append_assoc]
      rfl
    · exact cellsFrom_app r n acc
def closL (env:Env):List (Str × NameKind)->List (Str × Addr)->List (Str × Addr)
  | [],acc=>acc
  | (x,k) :: r,acc=>if k == .free then closL env r ((x,(env.cells.lookup x).getD 0) :: acc) else closL env r acc
theorem closL_eq {env:Env} (f:Str × NameKind->List (Str × Addr)->Sem (ForInStep (List (Str × Addr))))
    (hf:∀ name kind cs,f (name,kind) cs=if kind == .free then (do let a <- cellOf env name;pure (.yield ((name,a) :: cs))) else pure (.yield cs)) :
    ∀ (names:List (Str × NameKind)) (acc:List (Str × Addr)),(∀ x ∈ names,x.2=.free->∃ c,env.cells.lookup x.1=some c)->forIn names acc f=pure (closL env names acc)
  | [],acc,_=>by rw [List.forIn_nil];rfl
  | (x,k) :: r,acc,h=>by
    have ih:=fun acc=>closL_eq f hf r acc fun y hy=>h y (List.mem_cons_of_mem _ hy)
    rw [List.forIn_cons,hf]
    unfold closL
    by_cases hk:(k == NameKind.free)=true
    · rw [if_pos hk,if_pos hk]
      obtain ⟨c,hc⟩:=h (x,k) List.mem_cons_self (beq_iff_eq.mp hk)
      have hc':env.cells.lookup x=some c:=hc
      have:cellOf env x=pure c:=by unfold cellOf;rw [hc']
      rw [this,hc']
      simp only [pure_bind,Option.getD_some]
      exact ih _
    · rw [if_neg hk,if_neg hk]
      simp only [pure_bind]
      exact ih _
theorem closureFor_eq {scope:Scope} {env:Env} (h:∀ x ∈ scope.names,x.2=.free->∃ c,env.cells.lookup x.1=some c):closureFor scope env=pure (closL env scope.names []):=by
  simp only [closureFor]
  rw [closL_eq (env:=env) _ (fun name kind cs=>by cases hk:kind == NameKind.free <;> simp [hk]) scope.names [] h]
  rfl
theorem closL_mem {env:Env}:∀ {names:List (Str × NameKind)} {acc:List (Str × Addr)} {x:Str} {c:Addr},(∀ x ∈ names,x.2=.free->∃ c,env.cells.lookup x.1=some c) ->
    (x,c) ∈ closL env names acc->(x,c) ∈ acc ∨ env.cells.lookup x=some c
  | [],acc,x,c,_,hm=>.inl hm
  | (y,k) :: r,acc,x,c,h,hm=>by
    have hr:∀ x ∈ r,x.2=.free->∃ c,env.cells.lookup x.1=some c:=fun z hz=>h z (List.mem_cons_of_mem _ hz)
    unfold closL at hm
    by_cases hk:(k == NameKind.free)=true
    · rw [if_pos hk] at hm
      obtain ⟨d,hd⟩:=h (y,k) List.mem_cons_self (beq_iff_eq.mp hk)
      have hd':env.cells.lookup y=some d:=hd
      rcases closL_mem hr hm with q | q
      · rcases List.mem_cons.mp q with e | q
        · cases e
          right;rw [hd'];rfl
        · exact .inl q
      · exact .inr q
    · rw [if_neg hk] at hm
      exact closL_mem hr hm
theorem closL_acc {env:Env}:∀ {names:List (Str × NameKind)} {acc:List (Str × Addr)} {p:Str × Addr},p ∈ acc->p ∈ closL env names acc
  | [],_,_,h=>h
  | (y,k) :: r,acc,p,h=>by
    unfold closL
    split
    · exact closL_acc (List.mem_cons_of_mem _ h)
    · exact closL_acc h
theorem closL_has {env:Env}:∀ {names:List (Str × NameKind)} {acc:List (Str × Addr)} {x:Str},(x,NameKind.free) ∈ names->∃ c,(x,c) ∈ closL env names acc
  | [],_,_,h=>by cases h
  | (y,k) :: r,acc,x,h=>by
    unfold closL
    rcases List.mem_cons.mp h with e | h
    · cases e
      rw [if_pos (by rfl)]
      exact ⟨_,closL_acc List.mem_cons_self⟩
    · split
      · exact closL_has h
      · exact closL_has h
theorem lookup_of_mem {α:Type}:∀ {l:List (Str × α)} {x:Str} {c:α},(x,c) ∈ l->∃ d,l.lookup x=some d
  | (k,v) :: r,x,c,h=>by
    rw [List.lookup_cons]
    cases hb:x == k with
    | true=>exact ⟨v,rfl⟩
    | false =>
      rcases List.mem_cons.mp h with e | h
      · cases e;simp at hb
      · exact lookup_of_mem h
theorem lookup_append_some {α:Type}:∀ {l l':List (Str × α)} {x:Str} {c:α},(l ++ l').lookup x=some c->l.lookup x=some c ∨ (l.lookup x=none/\l'.lookup x=some c)
  | [],l',x,c,h=>.inr ⟨rfl,h⟩
  | (k,v) :: r,l',x,c,h=>by
    rw [List.cons_append,List.lookup_cons] at h
    rw [List.lookup_cons]
    cases hb:x == k with
    | true=>rw [hb] at h;exact .inl h
    | false=>rw [hb] at h;exact lookup_append_some h
theorem lookup_append_left {α:Type}:∀ {l l':List (Str × α)} {x:Str} {c:α},l.lookup x=some c->(l ++ l').lookup x=some c
  | [],l',x,c,h=>by cases h
  | (k,v) :: r,l',x,c,h=>by
    rw [List.cons_append,List.lookup_cons]
    rw [List.lookup_cons] at h
    cases hb:x == k with
    | true=>rw [hb] at h;exact h
    | false=>rw [hb] at h;exact lookup_append_left h
theorem lookup_append_right {α:Type}:∀ {l l':List (Str × α)} {x:Str},l.lookup x=none->(l ++ l').lookup x=l'.lookup x
  | [],l',x,h=>rfl
  | (k,v) :: r,l',x,h=>by
    rw [List.cons_append,List.lookup_cons]
    rw [List.lookup_cons] at h
    cases hb:x == k with
    | true=>rw [hb] at h;cases h
    | false=>rw [hb] at h;exact lookup_append_right h
theorem lookup_relabel {env:Env}:∀ (names:List (Str × NameKind)) (x:Str),
    (names.map fun (n,k)=>if (k == NameKind.free && env.scope.kind == .function && env.kindOf n == some .cell) then (n,NameKind.cell) else (n,k)).lookup x
     =(names.lookup x).map fun k=>if (k == NameKind.free && env.scope.kind == .function && env.kindOf x == some .cell)=true then NameKind.cell else k
  | [],x=>rfl
  | (n,k) :: r,x=>by
    have ih:=lookup_relabel (env:=env) r x
    rw [List.map_cons]
    cases hx:x == n with
    | true =>
      have e:x=n:=beq_iff_eq.mp hx
      subst e
      by_cases hc:(k == NameKind.free && env.scope.kind == .function && env.kindOf x == some .cell)=true
      · simp only [hc,if_true,List.lookup_cons,hx,Option.map_some]
      · simp only [hc,List.lookup_cons,hx,Option.map_some]
        simp
    | false =>
      show List.lookup x ((if (k == NameKind.free && env.scope.kind == .function && env.kindOf n == some .cell)=true then (n,NameKind.cell) else (n,k)) :: _)=_
      by_cases hc:(k == NameKind.free && env.scope.kind == .function && env.kindOf n == some .cell)=true
      · rw [if_pos hc]
        simp only [List.lookup_cons,hx]
        exact ih
      · rw [if_neg hc]
        simp only [List.lookup_cons,hx]
        exact ih
theorem cellsFrom_in:∀ {names:List (Str × NameKind)} {n:Nat} {acc:List (Str × Addr)} {x:Str} {d:Addr},(x,d) ∈ cellsFrom n names acc->(x,d) ∈ acc ∨ (x,NameKind.cell) ∈ names
  | [],_,_,_,_,h=>.inl h
  | (y,k) :: r,n,acc,x,d,h=>by
    unfold cellsFrom at h
    by_cases hk:(k == NameKind.cell)=true
    · rw [if_pos hk] at h
      have e:k=.cell:=beq_iff_eq.mp hk
      subst e
      rcases cellsFrom_in h with q | q
      · rcases List.mem_cons.mp q with z | z
        · cases z;exact .inr List.mem_cons_self
        · exact .inl z
      · exact .inr (List.mem_cons_of_mem _ q)
    · rw [if_neg hk] at h
      rcases cellsFrom_in h with q | q
      · exact .inl q
      · exact .inr (List.mem_cons_of_mem _ q)
def okNames (scope:Scope):Bool:=scope.names.all fun x=>scope.names.lookup x.1 == some x.2
theorem okNames_get {scope:Scope} (h:okNames scope=true) {x:Str × NameKind} (hx:x ∈ scope.names):scope.names.lookup x.1=some x.2:=beq_iff_eq.mp (List.all_eq_true.mp h x hx)
theorem relabel_kind {scope:Scope} {env:Env} {x:Str} (h:(relabel scope env).names.lookup x=some .cell ∨ (relabel scope env).names.lookup x=some .free) :
    scope.names.lookup x=some .cell ∨ scope.names.lookup x=some .free:=by
  unfold relabel at h
  rw [lookup_relabel] at h
  cases e:scope.names.lookup x with
  | none=>rw [e] at h;rcases h with h | h <;> cases h
  | some k =>
    rw [e,Option.map_some] at h
    by_cases hc:(k == NameKind.free && env.scope.kind == .function && env.kindOf x == some .cell)=true
    · rw [Bool.and_eq_true,Bool.and_eq_true] at hc
      exact .inr (by rw [beq_iff_eq.mp hc.1.1])
    · simp only [hc] at h
      simpa using h
theorem newEnv_comp {M:Model} {A:Around} {E:Value->Shared->Prop} {s:Shared} {scope:Scope} {globals:Addr} {cl:List (Str × Addr)} {qual:Str} {env:Env} {Q:Env->Shared->Prop}
    (h:Q (newEnv scope s.heap.objs.size globals (cellsFrom (s.heap.objs.size + 1) scope.names [] ++ cl) qual none .none (some env) builtinsNs)
      { s with heap:=pushCells (s.heap.push { cls:=.type "dict",data:=.dict #[] }) scope.names }) :
    wpAny M A (newFunctionEnv scope globals cl [] qual none .none (some env)) Q E s:=by
  simp only [newFunctionEnv,Option.isSome_some,if_true]
  refine wpAny_bind (wpAny_alloc ?_)
  refine wpAny_bind (wpAny_layCells _ (fun name kind cells=>by cases hkc:kind == NameKind.cell <;> simp [hkc]) _ _ _ _ ?_)
  rw [show ({ s with heap:=s.heap.push { cls:=.type "dict",data:=.dict #[] } }:Shared).heap.objs.size=s.heap.objs.size + 1 from Heap.size_push ..,cellsFrom_app]
  exact wpAny_bind (wpAny_pure (wpAny_pure h))
def Cx.comp (X:Cx) (scope:Scope) (N:List Str) (s:Shared) (H:Hp) (ex:List Addr):Cx where
  prog:=X.prog
  w:=X.w
  K:=X.K
  mg:=X.mg
  base:=X.base
  A:=X.A
  N:=N
  s₀:=s
  H₀:=H
  env:=compEnvC scope (cellsFrom (s.heap.objs.size + 1) scope.names [] ++ closL X.env scope.names []) s.heap.objs.size X.env
  outer:=X.stack
  stack:=X.stack
  ex:=ex
  fn:=fun x=>scope.names.lookup x == some .cell
  calm:=X.calm
  pn:=[]
  xe:=fun _ _=>False
def pick (ix:List (Option Nat)) (σ:St):St:=ix.map fun o=>o.bind fun i=>(σ[i]?).join
def okIx (scope:Scope) (N:List Str):List Str->List (Option Nat)->Bool
  | [],[]=>true
  | _ :: N',none :: ix=>okIx scope N N' ix
  | x :: N',some i :: ix=>N[i]? == some x && scope.names.lookup x == some .free && okIx scope N N' ix
  | _,_=>false
theorem okIx_len {scope:Scope} {N:List Str}:∀ {N':List Str} {ix:List (Option Nat)},okIx scope N N' ix=true->ix.length=N'.length
  | [],[],_=>rfl
  | _ :: N',none :: ix,h=>by simp [okIx_len (N':=N') (ix:=ix) h]
  | x :: N',some i :: ix,h=>by
    unfold okIx at h
    rw [Bool.and_eq_true] at h
    simp [okIx_len (N':=N') (ix:=ix) h.2]
  | [],_ :: _,h=>by simp [okIx] at h
  | _ :: _,[],h=>by simp [okIx] at h
theorem okIx_get {scope:Scope} {N:List Str}:∀ {N':List Str} {ix:List (Option Nat)} {j i:Nat},okIx scope N N' ix=true->ix[j]?=some (some i) ->
    ∃ x,N'[j]?=some x/\N[i]?=some x/\scope.names.lookup x=some .free
  | [],[],j,i,_,e=>by simp at e
  | y :: N',none :: ix,0,i,h,e=>by simp at e
  | y :: N',none :: ix,j + 1,i,h,e=>by
    obtain ⟨x,h1,h2⟩:=okIx_get (N':=N') (ix:=ix) (j:=j) (i:=i) h (by simpa using e)
    exact ⟨x,by simpa using h1,h2⟩
  | y :: N',some k :: ix,0,i,h,e=>by
    unfold okIx at h
    rw [Bool.and_eq_true,Bool.and_eq_true] at h
    simp at e
    subst e
    exact ⟨y,rfl,beq_iff_eq.mp h.1.1,beq_iff_eq.mp h.1.2⟩
  | y :: N',some k :: ix,j + 1,i,h,e=>by
    unfold okIx at h
    rw [Bool.and_eq_true] at h
    obtain ⟨x,h1,h2⟩:=okIx_get (N':=N') (ix:=ix) (j:=j) (i:=i) h.2 (by simpa using e)
    exact ⟨x,by simpa using h1,h2⟩
  | [],_ :: _,_,_,h,_=>by simp [okIx] at h
  | _ :: _,[],_,_,h,_=>by simp [okIx] at h
def okFree (scope:Scope) (env:Env):Bool:=scope.names.all fun x=>!(x.2 == .free) || env.kindOf x.1 == some .cell || env.kindOf x.1 == some .free
theorem okFree_get {scope:Scope} {env:Env} (h:okFree scope env=true) {x:Str × NameKind} (hx:x ∈ scope.names) (hk:x.2=.free):env.kindOf x.1=some .cell ∨ env.kindOf x.1=some .free:=by
  have:=List.all_eq_true.mp h x hx
  rw [hk] at this
  simpa using this
section
variable {X:Cx} {pins:List (Addr × Obj)} {σ:St} {H:Hp} {s:Shared} {scope:Scope} {N:List Str} {ix:List (Option Nat)} {ex:List Addr}
theorem Inv.closed (I:Inv X pins σ H s) (hf:okFree scope X.env=true):∀ x ∈ scope.names,x.2=.free->∃ c,X.env.cells.lookup x.1=some c :=
  fun x hx hk=>I.ok.has x.1 (okFree_get hf hx hk)
theorem pick_get {j:Nat} {v:V} (h:(pick ix σ)[j]?=some (some v)):∃ i,ix[j]?=some (some i)/\σ[i]?=some (some v):=by
  unfold pick at h
  rw [List.getElem?_map] at h
  cases e:ix[j]? with
  | none=>rw [e] at h;cases h
  | some o =>
    rw [e] at h
    cases o with
    | none=>cases h
    | some i =>
      refine ⟨i,rfl,?_⟩
      have h':(σ[i]?).join=some v:=Option.some.inj h
      cases q:σ[i]? with
      | none=>rw [q] at h';cases h'
      | some z=>rw [q] at h';exact congrArg some h'
theorem Inv.comp (I:Inv X pins σ H s) (hk:scope.kind=.function) (hnm:okNames scope=true) (hf:okFree scope X.env=true) (hx:okIx scope X.N N ix=true)
    (hex:∀ b ∈ ex,H b=none/\b ≠ X.env.locals/\b ∉ X.fs/\(b ∈ X.ex ∨ X.s₀.heap.objs.size <= b)/\(∀ x c,X.env.cells.lookup x=some c->c ≠ b)/\b < s.heap.objs.size) :
    Inv (X.comp scope N s H ex) [] (pick ix σ) H { s with heap:=pushCells (s.heap.push { cls:=.type "dict",data:=.dict #[] }) scope.names }:=by
  have hcl:=I.closed hf
  have hkeep:∀ b o,s.heap.get? b=some o->(pushCells (s.heap.push { cls:=.type "dict",data:=.dict #[] }) scope.names).get? b=some o:=fun b o e=>pushCells_keeps _ _ b o (Heap.get?_push_of_some _ e)
  have ok:=cellsFrom_ok scope.names (s.heap.push { cls:=.type "dict",data:=.dict #[] }) (s.heap.objs.size + 1) [] ⟨fun _ _ hm=>(nomatch hm),List.Pairwise.nil⟩ (by rw [Heap.size_push];exact Nat.le_refl _)
  rw [Heap.size_push] at ok
  have hns:(pushCells (s.heap.push { cls:=.type "dict",data:=.dict #[] }) scope.names).Ns s.heap.objs.size (fun _=>none):=(Heap.Ns.new s.heap (.type "dict")).keeps (pushCells_keeps _ _)
  have cells:∀ x c,(X.comp scope N s H ex).env.cells.lookup x=some c->(x,c) ∈ cellsFrom (s.heap.objs.size + 1) scope.names [] ∨ X.env.cells.lookup x=some c:=fun x c e=>by
    have e':(cellsFrom (s.heap.objs.size + 1) scope.names [] ++ closL X.env scope.names []).lookup x=some c:=e
    rcases lookup_append_some e' with q | ⟨_,q⟩
    · exact .inl (mem_of_lookup q)
    · rcases closL_mem hcl (mem_of_lookup q) with z | z
      · cases z
      · exact .inr z
  have old:∀ x c,X.env.cells.lookup x=some c->c + 1 <= s.heap.objs.size:=fun x c e=>let ⟨v,q⟩:=I.cell x c e;q.lt
  have own:∀ x c,(x,c) ∈ cellsFrom (s.heap.objs.size + 1) scope.names []->s.heap.objs.size + 1 <= c:=fun x c e=>(ok.empty x c e).2
  refine ⟨⟨I.ok.mod,hk,I.ok.glob,I.ok.blt,Nat.le_refl _,fun x y c h1 h2=>?_,fun x h1=>?_,fun x c h1 h2=>?_,I.ok.hd,I.ok.frames,.inl rfl,fun b hb=>⟨?_,fun x c e=>?_⟩,I.bs,Nat.le_trans I.ok.bsz I.sz,fun b o e hb=>?_,fun b hb hb'=>?_,I.stack,I.stkFree⟩,
    rfl,I.bare,Un.kept hkeep,⟨_,hns,fun j x v h1 h2 h3=>?_⟩,fun x c e=>?_,I.hok.fresh (Nat.le_refl _),fun x c e=>?_,fun p hp=>absurd (show p ∈ ([]:List (Addr × Obj)) from hp) (by simp),I.hok.kept hkeep,?_⟩
  · rcases cells x c h1 with q1 | q1 <;> rcases cells y c h2 with q2 | q2
    · exact name_of_addr ok.apart q1 q2
    · exact absurd (Nat.le_trans (own _ _ q1) (Nat.le_trans (Nat.le_succ _) (old _ _ q2))) (Nat.not_succ_le_self _)
    · exact absurd (Nat.le_trans (own _ _ q2) (Nat.le_trans (Nat.le_succ _) (old _ _ q1))) (Nat.not_succ_le_self _)
    · exact I.ok.inj x y c q1 q2
  · have h1':scope.names.lookup x=some .cell ∨ scope.names.lookup x=some .free:=relabel_kind h1
    rcases h1' with q | q
    · obtain ⟨c,e⟩:=cell_has (n:=s.heap.objs.size + 1) (sc:=scope) q
      exact ⟨c,lookup_append_left e⟩
    · obtain ⟨c,e⟩:=closL_has (env:=X.env) (acc:=[]) (mem_of_lookup q)
      cases z:(cellsFrom (s.heap.objs.size + 1) scope.names []).lookup x with
      | some d=>exact ⟨d,lookup_append_left z⟩
      | none =>
        obtain ⟨d,e'⟩:=lookup_of_mem e
        exact ⟨d,(lookup_append_right z).trans e'⟩
  · have h1':scope.names.lookup x=some .cell:=beq_iff_eq.mp h1
    obtain ⟨d,e⟩:=cell_has (n:=s.heap.objs.size + 1) (sc:=scope) h1'
    have e':(cellsFrom (s.heap.objs.size + 1) scope.names [] ++ closL X.env scope.names []).lookup x=some c:=h2
    rw [lookup_append_left e] at e'
    cases e'
    exact Nat.le_trans (Nat.le_succ _) (own _ _ (mem_of_lookup e))
  · exact Nat.ne_of_lt (hex b hb).2.2.2.2.2
  · rcases cells x c e with q | q
    · exact Nat.ne_of_gt (Nat.lt_of_lt_of_le (hex b hb).2.2.2.2.2 (Nat.le_trans (Nat.le_succ _) (own _ _ q)))
    · exact (hex b hb).2.2.2.2.1 x c q
  · rcases (hex b hb).2.2.2.1 with z | z
    · exact I.ok.noex b o e z
    · exact absurd (Nat.lt_of_lt_of_le (Heap.lt_size e) (Nat.le_trans I.ok.bsz z)) (Nat.lt_irrefl _)
  · rcases List.mem_cons.mp (I.stkSub b hb') with z | z
    · exact (hex b hb).2.1 z
    · exact (hex b hb).2.2.1 z
  · obtain ⟨i,e1,e2⟩:=pick_get h2
    obtain ⟨y,f1,f2,f3⟩:=okIx_get hx e1
    have exy:x=y:=by
      have h1':N[j]?=some x:=h1
      rw [f1] at h1';exact (Option.some.inj h1').symm
    subst exy
    obtain ⟨m,hm,hl⟩:=I.loc
    have kx:=okFree_get hf (mem_of_lookup f3) rfl
    have vis:Vis X.env.scope x:=by
      rcases kx with k | k
      · exact .inr (.inl k)
      · exact .inr (.inr k)
    obtain ⟨u,ru,l⟩:=hl i x v f2 e2 vis
    refine ⟨u,ru,.inr ?_⟩
    have hv:(relabel scope X.env).names.lookup x=some .cell ∨ (relabel scope X.env).names.lookup x=some .free:=by
      unfold relabel
      rw [lookup_relabel,f3,Option.map_some]
      split
      · exact .inl rfl
      · exact .inr rfl
    refine ⟨hv,?_⟩
    rcases l with ⟨k,_⟩ | ⟨k,c,ec,z⟩
    · have k':X.env.kindOf x=some .local:=k
      rcases kx with q | q <;> rw [q] at k' <;> cases k'
    · obtain ⟨d,ed⟩:=closL_has (env:=X.env) (acc:=[]) (mem_of_lookup f3)
      have nocell:(cellsFrom (s.heap.objs.size + 1) scope.names []).lookup x=none ∨ ∃ d,(cellsFrom (s.heap.objs.size + 1) scope.names []).lookup x=some d:=by
        cases (cellsFrom (s.heap.objs.size + 1) scope.names []).lookup x with
        | none=>exact .inl rfl
        | some d=>exact .inr ⟨d,rfl⟩
      rcases nocell with q | ⟨d',q⟩
      · obtain ⟨d2,ed2⟩:=lookup_of_mem ed
        have hd2:X.env.cells.lookup x=some d2:=by
          rcases closL_mem hcl (mem_of_lookup ed2) with z | z
          · cases z
          · exact z
        rw [ec] at hd2
        cases hd2
        exact ⟨c,(lookup_append_right q).trans ed2,z.keeps hkeep⟩
      · -- a name is not both free and a cell of the block
        exfalso
        rcases cellsFrom_in (mem_of_lookup q) with z | z
        · cases z
        · have z':=okNames_get hnm z
          rw [f3] at z'
          cases z'
  · rcases cells x c e with q | q
    · exact ⟨none,(ok.empty x c q).1⟩
    · obtain ⟨v,z⟩:=I.cell x c q
      exact ⟨v,z.keeps hkeep⟩
  · rcases cells x c e with q | q
    · exact I.hok.fresh (Nat.le_trans (Nat.le_succ _) (own x c q))
    · exact I.freeC x c q
  · show (pick ix σ).length=N.length
    unfold pick
    rw [List.length_map]
    exact okIx_len hx
end
end L2
namespace L2
open PySem PySem.Spec PyProof.Rows
section
variable {prog:Program} {w:World} {A:Around} {R:Result->Shared->Prop} {s:Shared}
theorem compLoop_any {elt target iter:Expr} {ifs:List Expr} {scope:Scope} {pos:Pos} {it acc:Value} {env:Env} (I:Nat->Shared->Prop)
    (turn:∀ n s,I n s->wpAny (model prog w) A (pyNext it) (fun r s₁=>match r with
      | none=>R (.ok .next) s₁
      | some v=>wpAny (model prog w) A (letOwnedTupleGo target it v) (fun _ s₁'=>wpAny (model prog w) A (assign target env v) (fun _ s₂ =>
          wpAny (model prog w) A (forIn ifs true fun c r=>if r=true then do let ok <- isTrue c env (eval c env);pure (ForInStep.yield ok) else pure (ForInStep.yield r)) (fun ok s₃ =>
            if ok=true then wpAny (model prog w) A (eval elt env) (fun x s₄ =>
              wpAny (model prog w) A (call (.builtin "list.append") [acc,x]) (fun _ s₅=>∃ m,m < n/\I m s₅) (fun _ _=>False) s₄) (fun _ _=>False) s₃
            else ∃ m,m < n/\I m s₃) (fun _ _=>False) s₂) (fun _ _=>False) s₁') (fun _ _=>False) s₁) (fun _ _=>False) s)
    (n:Nat) (h:I n s) :
    codeAny (model prog w) A (.compLoop (.ListComp elt [⟨target,iter,ifs,0⟩] scope pos) 0 it acc env) R s:=by
  refine codeAny_loop rfl I (fun n s hI=>?_) n h
  show wpAny _ A ((compTurn (.ListComp elt [⟨target,iter,ifs,0⟩] scope pos) 0 it acc env).onRaise (fun x=>do noteFrame x env;theTreesLotGoes x)) _ _ s
  refine wpAny_noted ?_
  rw [compTurn_list]
  refine wpAny_bind (wpAny_standAt (wpAny_bind (wpAny_mono (turn n s hI) (fun r s₁ h₁=>?_) fun _ _ h'=>h'.elim)))
  cases r with
  | none=>exact wpAny_pure h₁
  | some v =>
    refine wpAny_bind (wpAny_mono h₁ (fun _ s₁' h₁'=>?_) fun _ _ h'=>h'.elim)
    refine wpAny_bind (wpAny_mono h₁' (fun _ s₂ h₂=>wpAny_bind (wpAny_mono h₂ (fun ok s₃ h₃=>?_) fun _ _ h'=>h'.elim)) fun _ _ h'=>h'.elim)
    cases ok with
    | false=>exact wpAny_pure ⟨rfl,h₃⟩
    | true =>
      exact wpAny_bind (wpAny_bind (wpAny_mono h₃ (fun x s₄ h₄=>wpAny_bind (wpAny_mono h₄ (fun _ s₅ h₅=>wpAny_pure (wpAny_pure ⟨rfl,h₅⟩)) fun _ _ h'=>h'.elim)) fun _ _ h'=>h'.elim))
end
def Wk (σ σ2:St):Prop:=σ.length=σ2.length/\∀ (i:Nat) v,σ[i]?=some (some v)->σ2[i]?=some (some v)
theorem Wk.set {σ:St} {i:Nat} {v:V} (h:σ[i]?=some none ∨ σ[i]?=none):Wk σ (σ.set i (some v)):=by
  refine ⟨by simp,fun j u e=>?_⟩
  by_cases hj:j=i
  · subst hj
    rcases h with h | h <;> rw [h] at e <;> cases e
  · rw [List.getElem?_set_ne (Ne.symm hj)]
    exact e
section
variable {X:Cx} {pins:List (Addr × Obj)} {σ:St} {H H':Hp} {s s':Shared} {scope:Scope} {N:List Str} {ix:List (Option Nat)} {fp:List Addr}
abbrev accS (s:Shared):Shared:={ s with heap:=s.heap.push { cls:=.type "list",dict:=none,data:=.seq ([]:List Value).toArray } }
theorem acc_size (s:Shared):(accS s).heap.objs.size=s.heap.objs.size + 1:=Heap.size_push ..
theorem Inv.comp_end {pins':List (Addr × Obj)} {σ':St} {ys:List V} {its:List Value} {n:Nat} {h':Heap} (I:Inv X pins σ H s) (J:Inv (X.comp scope N (accS s) H (s.heap.objs.size :: fp)) pins' σ' H' s') (hfp:∀ b ∈ fp,FpOk X pins H b)
    (hD:H' s.heap.objs.size=none) (hl:s'.heap.get? s.heap.objs.size=some { cls:=.type "list",data:=.seq its.toArray n }) (hv:Vals ys its) (hz:ys.length <= sizeLine)
    (hs:Heap.SameBut (accS s).heap.objs.size s'.heap h'):Inv X pins σ (upd H' s.heap.objs.size (.lst ys)) { s' with heap:=h' }:=by
  have oldC:∀ b,b < s.heap.objs.size->b ≠ (accS s).heap.objs.size:=fun b hb=>by rw [acc_size];exact Nat.ne_of_lt (Nat.lt_succ_of_lt hb)
  have DC:s.heap.objs.size ≠ (accS s).heap.objs.size:=by rw [acc_size];exact Nat.ne_of_lt (Nat.lt_succ_self _)
  have pushed:∀ b o,s.heap.get? b=some o->(accS s).heap.get? b=some o:=fun b o e=>Heap.get?_push_of_some _ e
  have nex:∀ b o,s.heap.get? b=some o->b ∉ fp->b ∉ (X.comp scope N (accS s) H (s.heap.objs.size :: fp)).ex:=fun b o e hb z=>by
    rcases List.mem_cons.mp (show b ∈ s.heap.objs.size :: fp from z) with z | z
    · rw [z] at e;exact absurd (Heap.lt_size e) (Nat.lt_irrefl _)
    · exact hb z
  have U:=J.base
  have un:Un (frs X.stack) fp H (upd H' s.heap.objs.size (.lst ys)) s.heap h':=by
    refine ⟨fun b o e n hb hx=>?_,fun b o e n hb hx=>?_,fun b o e n hx=>?_,fun b o e hx=>?_,fun b xs e=>?_,fun b o u e=>?_,fun b ps e=>?_⟩
    · exact (hs.2 b (oldC b (Heap.lt_size e))).trans (U.keep b o (pushed b o e) n hb (nex b o e hx))
    · obtain ⟨sl,q⟩:=U.slot b o (pushed b o e) n hb (nex b o e hx)
      exact ⟨sl,(hs.2 b (oldC b (Heap.lt_size e))).trans q⟩
    · rw [upd_ne (Nat.ne_of_lt (Heap.lt_size e))]
      exact U.free b o (pushed b o e) n (nex b o e hx)
    · obtain ⟨o',q⟩:=U.there b o (pushed b o e) (nex b o e hx)
      exact ⟨o',(hs.2 b (oldC b (Heap.lt_size e))).trans q⟩
    · have q:=U.tups b xs e
      rw [upd_ne (ne_of_none q hD)];exact q
    · have q:=U.frzs b o u e
      rw [upd_ne (ne_of_none q hD)];exact q
    · obtain ⟨m,q⟩:=U.tbls b ps e
      exact ⟨m,by rw [upd_ne (ne_of_none q hD)];exact q⟩
  have hC:H' (accS s).heap.objs.size=none:=J.free
  have hok:HOk X.prog X.w (upd H' s.heap.objs.size (.lst ys)) h':=fun b u e=>by
    by_cases hb:b=s.heap.objs.size
    · subst hb
      rw [upd_same] at e;cases e
      exact ⟨hz,its,n,hv,(hs.2 _ DC).trans hl⟩
    · rw [upd_ne hb] at e
      refine (J.hok b u e).stay (fun c v hc q=>(hs.2 c ?_).trans q) (fun c q=>by rw [upd_ne (ne_of_none q hD)];exact q) fun c xs q=>by rw [upd_ne (ne_of_none q hD)];exact q
      rintro rfl
      rcases hc with z | z
      · rw [<- z,hC] at e;cases e
      · rw [hC] at z;cases z
  exact I.call' (s':={ s' with heap:=h' }) (ch:=fp) J.os un hok J.bare fun b hb=>⟨(hfp b hb).2.2.2.1,(hfp b hb).2.1,(hfp b hb).2.2.2.2.1,(hfp b hb).2.2.2.2.2⟩
end
section
variable {X:Cx} {scope:Scope} {N:List Str} {ix:List (Option Nat)} {elt target iter:Expr} {ifs:List Expr} {pos:Pos} {wi:TI} {g:TG} {te:TE} {tc:TT}
def PIfs (X:Cx) (ifs:List Expr) (t:TT):Prop :=
  ∀ (pins:List (Addr × Obj)) (s:Shared) (σ:St) (H:Hp) (Q:Bool->Hp->Prop),Inv X pins σ H s->t σ H Q ->
    wpAny (model X.prog X.w) X.A (forIn ifs true fun c r=>if r=true then do let ok <- isTrue c X.env (eval c X.env);pure (ForInStep.yield ok) else pure (ForInStep.yield r)) (TP X pins σ Q) X.xe s
def tTrue:TT:=fun _ H Q=>Q true H
theorem pifs_nil:PIfs X [] tTrue:=fun _ _ _ H _ I h=>wpAny_tests_nil ⟨H,I,h⟩
theorem pifs_one {c:Expr} (h:PT X c tc):PIfs X [c] tc:=fun pins s σ H Q I hq=>wpAny_tests_one (h pins s σ H Q I hq)
def Blk (J:It) (σ0:St) (g:TG) (tc:TT) (te:TE) (H1:Hp) (F:List V->Hp->Prop):Prop:=∃ W:Nat->Nat->List V->Hp->Prop,(∃ m,W 0 m [] H1)/\∀ i m ys H2,W i m ys H2->ys.length <= sizeLine /\
  ((J.stop i H2/\F ys H2) ∨
   (J.go i H2/\∃ (Ny:V->Hp->Prop) (Nn:Hp->Prop),(∀ y H,Ny y H->∃ m',m' < m/\W (i + 1) m' (ys ++ [y]) H)/\(∀ H,Nn H->∃ m',m' < m/\W (i + 1) m' ys H) /\
     ∀ x H3,J.yld i H2 x H3->g x σ0 H3 fun σ2 H4=>Wk σ0 σ2/\tc σ2 H4 fun b H5=>if b=true then te σ2 H5 Ny else Nn H5))
theorem comp_run {pins:List (Addr × Obj)} {σ:St} {H:Hp} {s:Shared} {it:Addr} {fp:List Addr} {tn:Nat->Heap->Prop} {J:It} {F:List V->Hp->Prop} {E:Value->Shared->Prop} {RR:Value->Addr->Result->Shared->Prop}
    (hc:X.calm=true) (hk:scope.kind=.function) (hnm:okNames scope=true) (hf:okFree scope X.env=true) (hx:okIx scope X.N N ix=true)
    (hg:∀ s H ex,PG (X.comp scope N s H ex) target g) (ht:∀ s H ex,PIfs (X.comp scope N s H ex) ifs tc) (he:PE (X.comp scope N (accS s) H (s.heap.objs.size :: fp)) elt te)
    (I:Inv X pins σ H s) (T:Turn X.prog X.w X.K target J fp it tn) (st:tn 0 s.heap) (hfp:∀ b ∈ fp,FpOk X pins H b) (B:Blk J (pick ix σ) g tc te H F)
    (fin:∀ (ys:List V) (H':Hp) (s':Shared) (σ':St) (its:List Value) (n:Nat),Inv (X.comp scope N (accS s) H (s.heap.objs.size :: fp)) [] σ' H' s'->H' s.heap.objs.size=none ->
      s'.heap.get? s.heap.objs.size=some { cls:=.type "list",data:=.seq its.toArray n }->Vals ys its->ys.length <= sizeLine->F ys H'->RR (.ref s.heap.objs.size) (accS s).heap.objs.size (.ok .next) s') :
    wpAny (model X.prog X.w) X.A (newList []) (fun acc s₃=>wpAny (model X.prog X.w) X.A (newFunctionEnv scope X.env.globals (closL X.env scope.names []) [] X.env.qual none .none (some X.env)) (fun cenv s₄ =>
      codeAny (model X.prog X.w) X.A (.compStart (.ListComp elt [⟨target,iter,ifs,0⟩] scope pos) 0 (.ref it) acc { cenv with scope:=relabel scope X.env }) (RR acc cenv.locals) s₄) E s₃) E s:=by
  refine wpAny_newObj_type (newEnv_comp ?_) (by show ([]:List Value).toArray.size <= sizeLine;exact Nat.zero_le _)
  obtain ⟨W,⟨m0,w0⟩,turn⟩:=B
  have I1:Inv X pins σ H (accS s):=I.kept (t':=s.toks) fun b o e=>Heap.get?_push_of_some _ e
  have fpLt:∀ b ∈ fp,b < s.heap.objs.size:=fun b hb=>let ⟨o,e,_⟩:=T.obj 0 _ st b hb;Heap.lt_size e
  have accE:(accS s).heap.get? s.heap.objs.size=some { cls:=.type "list",dict:=none,data:=.seq ([]:List Value).toArray }:=Heap.get?_push_size _ rfl
  have fD:FpOk X pins H s.heap.objs.size:=I.fpOk (Nat.le_refl _) (I.hok.fresh (Nat.le_refl _))
  have J0:Inv (X.comp scope N (accS s) H (s.heap.objs.size :: fp)) [] (pick ix σ) H _:=I1.comp (N:=N) (ix:=ix) (ex:=s.heap.objs.size :: fp) hk hnm hf hx fun b hb=>by
    rcases List.mem_cons.mp hb with z | z
    · subst z
      exact ⟨fD.1,fD.2.1,fD.2.2.1,fD.2.2.2.1,fD.2.2.2.2.1,by rw [acc_size];exact Nat.lt_succ_self _⟩
    · obtain ⟨f0,f1,f2,f3,f4,_⟩:=hfp b z
      exact ⟨f0,f1,f2,f3,f4,by rw [acc_size];exact Nat.lt_succ_of_lt (fpLt b z)⟩
  have keep0:∀ b o,(accS s).heap.get? b=some o->(pushCells ((accS s).heap.push { cls:=.type "dict",data:=.dict #[] }) scope.names).get? b=some o:=fun b o e=>pushCells_keeps _ _ b o (Heap.get?_push_of_some _ e)
  have st0:tn 0 (pushCells ((accS s).heap.push { cls:=.type "dict",data:=.dict #[] }) scope.names):=T.keep 0 _ _ st fun b hb o e=>keep0 b o (Heap.get?_push_of_some _ e)
  have exOk:∀ b ∈ s.heap.objs.size :: fp,b ≠ (X.comp scope N (accS s) H (s.heap.objs.size :: fp)).env.locals/\b ∉ (X.comp scope N (accS s) H (s.heap.objs.size :: fp)).fs /\
      ∀ x c,(X.comp scope N (accS s) H (s.heap.objs.size :: fp)).env.cells.lookup x=some c->c ≠ b:=fun b hb=>⟨(J0.ok.exf b hb).1,J0.ok.exfs b hb,(J0.ok.exf b hb).2⟩
  have stat:∀ {H':Hp} {o:Obj},(∀ b ∈ fp,H' b=none)->∀ b ∈ fp,FpOk (X.comp scope N (accS s) H (s.heap.objs.size :: fp)) [(s.heap.objs.size,o)] H' b:=fun {H' o} hn b hb=>by
    obtain ⟨e1,e2,e3⟩:=exOk b (List.mem_cons_of_mem _ hb)
    refine ⟨hn b hb,e1,e2,.inl (List.mem_cons_of_mem _ hb),e3,fun p hp=>?_⟩
    have hp':p ∈ [(s.heap.objs.size,o)]:=(List.mem_append.mp hp).elim (fun z=>absurd (show p ∈ ([]:List (Addr × Obj)) from z) (by simp)) id
    rw [List.mem_singleton.mp hp']
    exact Nat.ne_of_gt (fpLt b hb)
  have loop:codeAny (model X.prog X.w) X.A (.compLoop (.ListComp elt [⟨target,iter,ifs,0⟩] scope pos) 0 (.ref it) (.ref s.heap.objs.size) (X.comp scope N (accS s) H (s.heap.objs.size :: fp)).env) (RR (.ref s.heap.objs.size) (accS s).heap.objs.size)
      { accS s with heap:=pushCells ((accS s).heap.push { cls:=.type "dict",data:=.dict #[] }) scope.names }:=by
    refine compLoop_any (fun n s'=>∃ i ys its k H',Inv (X.comp scope N (accS s) H (s.heap.objs.size :: fp)) [] (pick ix σ) H' s'/\tn i s'.heap/\(∀ b ∈ fp,H' b=none)/\H' s.heap.objs.size=none /\
      s'.heap.get? s.heap.objs.size=some { cls:=.type "list",data:=.seq (its:List Value).toArray k }/\Vals ys its/\W i n ys H') ?_ m0
      ⟨0,[],[],0,H,J0,st0,fun b hb=>(hfp b hb).1,fD.1,keep0 _ _ accE,.nil,w0⟩
    rintro n s3 ⟨i,ys,its,k,H3,I3,st3,fr3,d3,l3,v3,w3⟩
    obtain ⟨hz,hw⟩:=turn i n ys H3 w3
    have pinD:Inv (X.comp scope N (accS s) H (s.heap.objs.size :: fp)) [(s.heap.objs.size,{ cls:=.type "list",data:=.seq its.toArray k })] (pick ix σ) H3 s3:=I3.pins_of fun p hp=>by
      rw [List.mem_singleton.mp hp]
      exact ⟨l3,d3,(exOk _ List.mem_cons_self).1,(exOk _ List.mem_cons_self).2.1,fun v z=>by cases z⟩
    rcases hw with ⟨stop,fy⟩ | ⟨go,Ny,Nn,hNy,hNn,step⟩
    · refine thn (T.done (X.comp scope N (accS s) H (s.heap.objs.size :: fp)) rfl rfl rfl hc i _ s3 (pick ix σ) H3 (fun _ _=>False) pinD (stat fr3) st3 stop) fun r s4 ⟨hr,I4⟩=>?_
      subst hr
      have q:=(I4.pin (s.heap.objs.size,_) (List.mem_append_right _ List.mem_cons_self)).1
      exact fin ys H3 s4 _ its k (I4.pins_of fun p hp=>by cases hp) d3 q v3 hz fy
    · refine thn (T.item (X.comp scope N (accS s) H (s.heap.objs.size :: fp)) rfl rfl rfl hc i _ s3 (pick ix σ) H3 (fun _ _=>False) pinD (stat fr3) st3 go) fun r s4 ⟨u,hr,h4⟩=>?_
      subst hr
      refine thn h4 fun _ s5 ⟨x,H5,I5,r5,y5,st5,fr5⟩=>?_
      have I5':=I5.pinned (stat fr5) (T.obj _ _ st5)
      refine thn (hg (accS s) H (s.heap.objs.size :: fp) _ s5 (pick ix σ) H5 x u _ I5' r5 (step x H5 y5)) fun _ s6 ⟨σ6,H6,I6,wk6,q6⟩=>?_
      refine thn (ht (accS s) H (s.heap.objs.size :: fp) _ s6 σ6 H6 _ I6 q6) fun ok s7 ⟨H7,I7,q7⟩=>?_
      cases ok with
      | false =>
        obtain ⟨m',hm,w7⟩:=hNn H7 q7
        refine ⟨m',hm,i + 1,ys,its,k,H7,(I7.weak wk6.1 wk6.2).pins_of (fun p hp=>by cases hp),?_,fun b hb=>?_,?_,?_,v3,w7⟩
        · exact T.keep _ _ _ st5 fun b hb o e=>(I7.pin (b,o) (List.mem_append_right _ (List.mem_append_right _ (mem_pinsAt hb e)))).1
        · obtain ⟨o,e,d⟩:=T.obj _ _ st5 b hb
          exact (I7.pin (b,o) (List.mem_append_right _ (List.mem_append_right _ (mem_pinsAt hb e)))).2.1
        · exact (I7.pin (s.heap.objs.size,_) (List.mem_append_right _ (List.mem_append_left _ List.mem_cons_self))).2.1
        · exact (I7.pin (s.heap.objs.size,_) (List.mem_append_right _ (List.mem_append_left _ List.mem_cons_self))).1
      | true =>
        show wpAny _ _ _ _ _ _
        refine thn (he _ s7 σ6 H7 _ I7 q7) fun yv s8 ⟨y,H8,I8,r8,q8'⟩=>?_
        obtain ⟨m',hm,w8⟩:=hNy y H8 q8'
        have q8:=I8.pin (s.heap.objs.size,_) (List.mem_append_right _ (List.mem_append_left _ List.mem_cons_self))
        refine wpAny_list_append_plain (l:=s.heap.objs.size) (items:=its.toArray) ⟨k,q8.1⟩ (fun h' hl' sb=>?_) (by rw [List.size_toArray,<- v3.length];exact hz)
        obtain ⟨k',hl'⟩:=hl'
        have I9:Inv (X.comp scope N (accS s) H (s.heap.objs.size :: fp)) [] (pick ix σ) H8 { s8 with heap:=h' }:=((I8.weak wk6.1 wk6.2).pins_of (pins':=[]) (fun p hp=>by cases hp)).turned (t':=s8.toks) (it:=s.heap.objs.size)
          (fun b o hb e=>(sb.2 b hb).trans e) q8.2.1 (exOk _ List.mem_cons_self).1 (.inl List.mem_cons_self) (exOk _ List.mem_cons_self).2.2 (fun p hp=>absurd (show p ∈ ([]:List (Addr × Obj)) from hp) (by simp))
        refine ⟨m',hm,i + 1,ys ++ [y],its ++ [yv],k',H8,I9,?_,fun b hb=>?_,q8.2.1,?_,v3.append (.cons r8 .nil),w8⟩
        · refine T.keep _ _ _ st5 fun b hb o e=>(sb.2 b (Nat.ne_of_lt (fpLt b hb))).trans (I8.pin (b,o) (List.mem_append_right _ (List.mem_append_right _ (mem_pinsAt hb e)))).1
        · obtain ⟨o,e,d⟩:=T.obj _ _ st5 b hb
          exact (I8.pin (b,o) (List.mem_append_right _ (List.mem_append_right _ (mem_pinsAt hb e)))).2.1
        · have e:its.toArray.push yv=(its ++ [yv]).toArray:=by simp
          rw [<- e];exact hl'
  exact codeAny_compStart_list loop (T.self _ 0 _ _ _ st0 loop)
theorem pe_compG (hc:X.calm=true) (hi:PI X target iter wi) (hg:∀ s H ex,PG (X.comp scope N s H ex) target g) (ht:∀ s H ex,PIfs (X.comp scope N s H ex) ifs tc) (he:∀ s H ex,PE (X.comp scope N s H ex) elt te)
    (hk:scope.kind=.function) (hnm:okNames scope=true) (hf:okFree scope X.env=true) (hx:okIx scope X.N N ix=true) (hs:∀ x,foldedSetIterable iter X.env x=pure x) :
    PE X (.ListComp elt [⟨target,iter,ifs,0⟩] scope pos) (fun σ H Q=>wi σ H fun J H1=>Blk J (pick ix σ) g tc te H1 fun ys H2=>∀ p,H2 p=none->Q (.ref p) (upd H2 p (.lst ys))):=by
  intro pins s σ H Q I h
  rw [eval_ListComp]
  refine wpAny_comprehension_free (use:=none) rfl hs (closureFor_eq (I.closed hf)) hk (fun x hx hl=>(okNames_get hnm hx).trans (by rw [hl])) ?_
  refine thn (hi pins s σ H _ I h) fun v s1 h1=>thn h1 fun itv s2 h2=>?_
  obtain ⟨it,fp,tn,J,H2,e,I2,T,st2,f2,B⟩:=h2
  subst e
  refine comp_run (RR:=fun acc C=>compPost (model X.prog X.w) X.A X.xe none (EP X pins σ Q) acc C) hc hk hnm hf hx hg ht (he _ _ _) I2 T st2 f2 B ?_
  intro ys H' s' σ' its n J' hD hl hv hz hF
  obtain ⟨m,hm,_⟩:=J'.loc
  exact ⟨m,hm,fun h' hs'=>⟨.ref s2.heap.objs.size,_,I2.comp_end J' f2 hD hl hv hz hs',rfl,hF _ hD⟩⟩
theorem ps_setcompG {i:Nat} {y:Str} {py spos:Pos} (hc:X.calm=true) (hN:X.N.Nodup) (hn:X.N[i]?=some y) (hy:X.env.scope.names.lookup y=some .local)
    (hi:PI X target iter wi) (hg:∀ s H ex,PG (X.comp scope N s H ex) target g) (ht:∀ s H ex,PIfs (X.comp scope N s H ex) ifs tc) (he:∀ s H ex,PE (X.comp scope N s H ex) elt te)
    (hk:scope.kind=.function) (hnm:okNames scope=true) (hf:okFree scope X.env=true) (hx:okIx scope X.N N ix=true) (hs:∀ x,foldedSetIterable iter X.env x=pure x)
    (hsw:swapsWith (.ListComp elt [⟨target,iter,ifs,0⟩] scope pos) (some (.Name y py)) spos.line X.env=pure true) :
    PS X (.Assign [.Name y py] (.ListComp elt [⟨target,iter,ifs,0⟩] scope pos) spos) (fun D σ H=>wi σ H fun J H1=>Blk J (pick ix σ) g tc te H1 fun ys H2=>∀ p,H2 p=none->D.nx (σ.set i (some (.ref p))) (upd H2 p (.lst ys))):=by
  intro pins s σ H D I h
  rw [exec_Assign_Name_used _ _ _ _ hsw]
  refine wpAny_bind (wpAny_standAt (wpAny_bind ?_))
  show wpAny _ X.A (do let _ <- comprehension (.ListComp elt [⟨target,iter,ifs,0⟩] scope pos) scope X.env _ (newList []) false (eval iter X.env) (some (assign (.Name y py) X.env))) _ _ s
  refine wpAny_bind (thn (wpAny_comprehension_free (use:=some (assign (.Name y py) X.env)) (Q:=fun _ s'=>SP X pins D .next s') rfl hs (closureFor_eq (I.closed hf)) hk (fun x hx hl=>(okNames_get hnm hx).trans (by rw [hl])) ?_) fun _ s' hq=>wpAny_pure (wpAny_pure hq))
  refine thn (hi pins s σ H _ I h) fun v s1 h1=>thn h1 fun itv s2 h2=>?_
  obtain ⟨it,fp,tn,J,H2,e,I2,T,st2,f2,B⟩:=h2
  subst e
  refine comp_run (RR:=fun acc C=>compPost (model X.prog X.w) X.A X.xe (some (assign (.Name y py) X.env)) (fun _ s'=>SP X pins D .next s') acc C) hc hk hnm hf hx hg ht (he _ _ _) I2 T st2 f2 B ?_
  intro ys H' s' σ' its n J' hD hl hv hz hF
  obtain ⟨m,hm,_⟩:=J'.loc
  have I3:=I2.comp_end (h':=s'.heap) J' f2 hD hl hv hz (.refl ..)
  show wpAny _ X.A (assign (.Name y py) X.env (.ref s2.heap.objs.size)) _ _ _
  refine wpAny_assign_Name (store_ok2 (v:=.ref s2.heap.objs.size) I3 hN hn (.inl hy) rfl (fun s'' I4 hsb=>?_) (.inr hy))
  obtain ⟨a,sb,ha⟩:=hsb
  have hCa:(accS s2).heap.objs.size ≠ a:=by
    rw [acc_size]
    rcases ha with z | z
    · rw [z];exact Nat.ne_of_gt (Nat.lt_succ_of_lt I2.lt)
    · obtain ⟨v,q⟩:=I2.cell y a z
      exact Nat.ne_of_gt (Nat.lt_succ_of_lt q.lt)
  have hC2:(upd H' s2.heap.objs.size (.lst ys)) (accS s2).heap.objs.size=none:=by
    rw [upd_ne (by rw [acc_size];exact Nat.ne_of_gt (Nat.lt_succ_self _))]
    exact J'.free
  refine ⟨m,hm.sameBut sb hCa,fun h' hs'=>?_⟩
  refine ⟨_,_,?_,hF _ hD⟩
  obtain ⟨m2,n2,_⟩:=id I4.loc
  refine I4.turned (t':=s''.toks) (it:=(accS s2).heap.objs.size) (fun b o hb e=>(hs'.2 b hb).trans e) hC2 ?_ ?_ ?_ ?_
  · rw [acc_size];exact Nat.ne_of_gt (Nat.lt_succ_of_lt I2.lt)
  · rw [acc_size];exact .inr (Nat.le_trans I2.sz (Nat.le_succ _))
  · intro x c e
    obtain ⟨v,q⟩:=I2.cell x c e
    rw [acc_size];exact Nat.ne_of_lt (Nat.lt_succ_of_lt q.lt)
  · intro p hp
    rw [acc_size];exact Nat.ne_of_lt (Nat.lt_succ_of_lt (Heap.lt_size (I2.pin p hp).1))
end
end L2
namespace L2
open PySem PySem.Spec PyProof.Rows
section
variable {X:Cx} {pins:List (Addr × Obj)} {σ:St} {H:Hp} {s:Shared} {p:Addr} {xs:List V}
theorem seq_walk {A:Around} {E:Value->Shared->Prop} {Q:Value->Shared->Prop} (I:Inv X pins σ H s) (hh:A.handled=none) (hs:SqL X.K H p xs ∨ SqT X.K H p xs)
    (h:∀ (its:List Value) (it:Addr) (fp wr:List Addr) (St:Nat->Heap->Prop) (h2:Heap),Vals xs its->Walks X.prog X.w A it fp wr its.length (fun i v=>its[i]?=some v) St->St 0 h2->(∀ b ∈ fp,b < h2.objs.size) ->
      (∀ h':Heap,(∀ b o,b ∉ wr->h2.get? b=some o->h'.get? b=some o)->∀ b o,s.heap.get? b=some o->h'.get? b=some o)->Q (.ref it) { s with heap:=h2 }) :
    wpAny (model X.prog X.w) A (pyIter (.ref p)) Q E s:=by
  have keep:∀ (o:Obj) (h':Heap),(∀ b u,b ∉ [s.heap.objs.size]->(s.heap.push o).get? b=some u->h'.get? b=some u)->∀ b u,s.heap.get? b=some u->h'.get? b=some u:=fun o h' hk b u e =>
    hk b u (fun hm=>by rw [List.mem_singleton.mp hm] at e;exact Nat.lt_irrefl _ (Heap.lt_size e)) (Heap.get?_push_of_some _ e)
  rcases hs with hs | hs
  · obtain ⟨its,rv,pl,hz⟩:=I.list hs
    have hlt:p < s.heap.objs.size:=by obtain ⟨_,e,_⟩:=pl.isList;exact Heap.lt_size e
    refine wpAny_pyIter_list pl.isList ?_
    have W:=Walks.list (prog:=X.prog) (w:=X.w) (A:=A) hh s.heap.objs.size p (Nat.ne_of_lt hlt) its.toArray
    refine h its s.heap.objs.size [s.heap.objs.size,p] [s.heap.objs.size] (fun i h=>h.IsListIter s.heap.objs.size p i/\h.IsList p its.toArray) _ rv (by simpa using W) ⟨⟨_,Heap.get?_push_size _ rfl,rfl,rfl⟩,pl.isList.push _⟩ (fun b hb=>?_) (keep _)
    rw [Heap.size_push]
    rcases List.mem_cons.mp hb with rfl | hb
    · exact Nat.lt_succ_self _
    · rw [List.mem_singleton.mp hb];exact Nat.lt_succ_of_lt hlt
  · obtain ⟨its,rv,pl,hz⟩:=I.tuple hs
    have pl':s.heap.IsTuple p its.toArray:=pl
    have hlt:p < s.heap.objs.size:=pl.lt
    refine wpAny_pyIter_tuple pl' ?_
    have W:=Walks.tuple (prog:=X.prog) (w:=X.w) (A:=A) hh s.heap.objs.size p (Nat.ne_of_lt hlt) its.toArray
    refine h its s.heap.objs.size [s.heap.objs.size,p] [s.heap.objs.size] (fun i h=>h.IsTupleIter s.heap.objs.size p i/\h.IsTuple p its.toArray) _ rv (by simpa using W) ⟨⟨_,Heap.get?_push_size _ rfl,rfl,rfl⟩,pl'.push _⟩ (fun b hb=>?_) (keep _)
    rw [Heap.size_push]
    rcases List.mem_cons.mp hb with rfl | hb
    · exact Nat.lt_succ_self _
    · rw [List.mem_singleton.mp hb];exact Nat.lt_succ_of_lt hlt
def nth (ns:List Int) (i:Nat):Int:=(ns[i]?).getD 0
theorem preSum_nth (ns:List Int):∀ k,preSum (nth ns) k=(ns.take k).sum
  | 0=>by simp [preSum]
  | k + 1=>by
    rw [preSum,preSum_nth ns k,List.take_add_one,List.sum_append]
    unfold nth
    cases ns[k]? <;> simp
theorem vals_int {ns:List Int} {its:List Value} (r:Vals (ns.map V.int) its) {i:Nat} {v:Value} (e:its[i]?=some v):∃ t,v=.int (nth ns i) t:=by
  have hl:=r.length
  rw [List.length_map] at hl
  have hi:i < ns.length:=by rw [hl];exact (List.getElem?_eq_some_iff.mp e).1
  obtain ⟨u,hu,ru⟩:=r.get (i:=i) (x:=.int ns[i]) (by rw [List.getElem?_map,List.getElem?_eq_getElem hi];rfl)
  rw [e] at hu;cases hu
  obtain ⟨t,rfl⟩:=ru
  exact ⟨t,by unfold nth;rw [List.getElem?_eq_getElem hi];rfl⟩
theorem call_sum_seq (hc:X.calm=true):CallR X (.builtin "sum") (fun xs H Q=>∃ (p:Addr) (ns:List Int),xs=[.ref p]/\(SqL X.K H p (ns.map V.int) ∨ SqT X.K H p (ns.map V.int))/\Q (.int ns.sum) H):=by
  intro pins s σ H xs us Q I r h
  obtain ⟨p,ns,rfl,hs,q⟩:=h
  obtain ⟨u,rfl,ru⟩:=vals1 r
  cases ru
  refine call_sum_walkG (seq_walk (A:=X.A.in1) I (I.ok.hd hc) hs fun its it fp wr St h2 rv W st hfp keep=>?_)
  refine ⟨it,fp,wr,its.length,_,St,nth ns,rfl,W,st,hfp,fun i v e=>vals_int rv e,fun h' tk t' hk=>?_⟩
  have e:preSum (nth ns) its.length=ns.sum:=by
    rw [preSum_nth,<- rv.length,List.length_map,List.take_length]
  rw [e]
  exact ⟨.int ns.sum,H,I.kept (keep h' hk),⟨_,rfl⟩,q⟩
def truV:V->Bool
  | .bl b=>b
  | .int i=>i != 0
  | .non=>false
  | _=>true
def okTru:V->Bool
  | .bl _=>true
  | .int _=>true
  | .non=>true
  | _=>false
theorem truth_V {A:Around} {E:Value->Shared->Prop} {x:V} {v:Value} {s:Shared} {Q:Bool->Shared->Prop} (r:RelV x v) (ok:okTru x=true) (h:Q (truV x) s):wpAny (model X.prog X.w) A (truthy v) Q E s:=by
  cases x with
  | bl b=>cases r;exact wpAny_truthy_bool h
  | int i=>obtain ⟨t,rfl⟩:=r;exact PyProof.Rows.truthy_int h
  | non=>cases r;exact PyProof.Rows.truthy_none h
  | _=>exact absurd (show false=true from ok) Bool.false_ne_true
def tnth (d:Bool) (xs:List V) (i:Nat):Bool:=((xs[i]?).map truV).getD d
theorem all_nth (xs:List V):(List.range xs.length).all (tnth true xs)=xs.all truV:=by
  rw [Bool.eq_iff_iff,List.all_eq_true,List.all_eq_true]
  constructor
  · intro h b hb
    obtain ⟨i,hi,e⟩:=List.getElem_of_mem hb
    have:=h i (List.mem_range.mpr hi)
    unfold tnth at this
    rw [List.getElem?_eq_getElem hi,e] at this
    exact this
  · intro h i hi
    have hi':=List.mem_range.mp hi
    unfold tnth
    rw [List.getElem?_eq_getElem hi']
    exact h _ (List.getElem_mem hi')
theorem truthOf_nth {A:Around} {its:List Value} (d:Bool) (rv:Vals xs its) (ok:xs.all okTru=true):TruthOf X.prog X.w A (fun i v=>its[i]?=some v) (tnth d xs):=by
  intro i v s Q E e hQ
  have hi:i < xs.length:=by rw [rv.length];exact (List.getElem?_eq_some_iff.mp e).1
  obtain ⟨u,hu,ru⟩:=rv.get (i:=i) (x:=xs[i]) (by rw [List.getElem?_eq_getElem hi])
  rw [e] at hu;cases hu
  refine truth_V (X:=X) ru (List.all_eq_true.mp ok _ (List.getElem_mem hi)) ?_
  unfold tnth at hQ
  rw [List.getElem?_eq_getElem hi] at hQ
  exact hQ
theorem call_all_seq (hc:X.calm=true):CallR X (.builtin "all") (fun xs H Q=>∃ (p:Addr) (ys:List V),xs=[.ref p]/\(SqL X.K H p ys ∨ SqT X.K H p ys)/\ys.all okTru=true/\Q (.bl (ys.all truV)) H):=by
  intro pins s σ H xs us Q I r h
  obtain ⟨p,ys,rfl,hs,ok,q⟩:=h
  obtain ⟨u,rfl,ru⟩:=vals1 r
  cases ru
  refine call_all_walk (seq_walk (A:=X.A.in1) I (I.ok.hd hc) hs fun its it fp wr St h2 rv W st hfp keep=>?_)
  refine ⟨it,fp,wr,its.length,_,St,tnth true ys,rfl,W,st,truthOf_nth true rv ok,fun h' tk hk=>?_⟩
  rw [<- rv.length,all_nth]
  exact ⟨.bl _,H,I.kept (keep h' hk),rfl,q⟩
end
end L2
namespace L2
open PySem PySem.Spec PyProof.Rows
section
variable {prog:Program} {w:World} {A:Around} {E:Value->Shared->Prop} {s:Shared}
theorem nextT_item {it t:Addr} {i:Nat} {its:Array Value} {x:Value} {Q:Value->Shared->Prop} (hit:s.heap.IsTupleIter it t i) (ht:s.heap.IsTuple t its) (hx:its[i]?=some x)
    (hQ:∀ h',h'.IsTupleIter it t (i + 1)->Heap.SameBut it s.heap h'->Q x { s with heap:=h' }):wpAny (model prog w) A (Builtin.SmallTypes.nextOf (.ref it)) Q E s:=by
  obtain ⟨o,ho,hc,hd⟩:=id hit
  obtain ⟨ol,hol,_,nl,hdl⟩:=ht
  unfold Builtin.SmallTypes.nextOf
  refine wpAny_bind (wpAny_callSpecial?_slot (name:=Str.ofString "__next__") hit.typeIs F.slot_tuple_iterator_next
    (wpAny_call_entry F.slot_tuple_iterator_next hit.typeIs F.entry_tuple_iterator_next ?_ (F.args_tuple_iterator_next_1 _)))
  show wpAny _ _ (field (.ref it) 0 >>= _) _ _ s
  refine wpAny_bind (wpAny_field ho hd (x:=.ref t) rfl ?_)
  show wpAny _ _ (if (Value.ref t == Value.none)=true then _ else _) _ _ s
  rw [if_neg (show ¬ ((Value.ref t == Value.none)=true) from Bool.false_ne_true)]
  show wpAny _ _ (field (.ref it) 1 >>= _) _ _ s
  refine wpAny_bind (wpAny_field ho hd (x:=.int i 0) rfl ?_)
  show wpAny _ _ (seqItems? (.ref t) >>= _) _ _ s
  refine wpAny_bind (wpAny_seqItems hol hdl ?_)
  simp only [Int.toNat_natCast,hx]
  refine wpAny_bind (wpAny_setField ho hd (by simp) (wpAny_pure ⟨x,rfl,wpAny_pure (hQ _ ?_ (Heap.SameBut.update ..))⟩))
  exact ⟨_,Heap.get?_update_self _ ho (Obj.isFreed_of_fields (Obj.data_mapFields hd _)),(Obj.cls_mapFields ..).trans hc,by
    rw [Obj.data_mapFields hd];simp [rawInt]⟩
end
end L2
namespace L2
open PySem PySem.Spec PyProof.Rows
section
variable {prog:Program} {w:World} {A:Around} {E:Value->Shared->Prop} {s:Shared}
theorem nextT_end {it t:Addr} {i:Nat} {its:Array Value} {Q:Value->Shared->Prop} (hh:A.handled=none) (hit:s.heap.IsTupleIter it t i) (ht:s.heap.IsTuple t its) (hx:its[i]?=none)
    (hE:∀ h' e,Heap.ExtBut it s.heap h'->(∃ o,h'.get? e=some o/\o.cls=.type "StopIteration")->E (.ref e) { s with heap:=h' }):wpAny (model prog w) A (Builtin.SmallTypes.nextOf (.ref it)) Q E s:=by
  obtain ⟨o,ho,hc,hd⟩:=id hit
  obtain ⟨ol,hol,_,nl,hdl⟩:=ht
  unfold Builtin.SmallTypes.nextOf
  refine wpAny_bind (wpAny_callSpecial?_slot (name:=Str.ofString "__next__") hit.typeIs F.slot_tuple_iterator_next
    (wpAny_call_entry F.slot_tuple_iterator_next hit.typeIs F.entry_tuple_iterator_next ?_ (F.args_tuple_iterator_next_1 _)))
  show wpAny _ _ (field (.ref it) 0 >>= _) _ _ s
  refine wpAny_bind (wpAny_field ho hd (x:=.ref t) rfl ?_)
  show wpAny _ _ (if (Value.ref t == Value.none)=true then _ else _) _ _ s
  rw [if_neg (show ¬ ((Value.ref t == Value.none)=true) from Bool.false_ne_true)]
  show wpAny _ _ (field (.ref it) 1 >>= _) _ _ s
  refine wpAny_bind (wpAny_field ho hd (x:=.int i 0) rfl ?_)
  show wpAny _ _ (seqItems? (.ref t) >>= _) _ _ s
  refine wpAny_bind (wpAny_seqItems hol hdl ?_)
  simp only [Int.toNat_natCast,hx]
  refine wpAny_bind (wpAny_rule (wpAny_bind (wpAny_setField ho hd (by simp) ?_)))
  show wpAny _ _ (newExc (.type "StopIteration") [] >>= _) _ _ _
  refine wpAny_bind ?_
  simp only [newExc,newTuple]
  refine wpAny_bind (wpAny_newObj_type ?_ (by size_fits))
  refine wpAny_bind (m:=firstArgMember _ _) (wpAny_of_eq (a:=Value.none) (by first | rfl | (simp only [firstArgMember];rfl)) ?_)
  refine wpAny_newObj_type ?_ (by size_fits)
  simp only [raiseNew]
  refine wpAny_bind (wpAny_handled ?_)
  first | rw [show A.in1.handled=none from hh] | rw [hh]
  exact wpAny_bind (wpAny_pure (wpAny_throw (hE _ _ (((Heap.SameBut.update ..).extBut.push _).push _) ⟨_,Heap.get?_push_size _ rfl,rfl⟩)))
structure ZipT (h:Heap) (z TI TO i1 i2 t1 t2:Addr) (k:Nat):Prop where
  zz:IsZip h z TI TO .none
  ti:IsPair h TI (.ref i1) (.ref i2)
  tO:∃ a b,IsPair h TO a b
  it1:h.IsTupleIter i1 t1 k
  it2:h.IsTupleIter i2 t2 k
structure ZipD (z TI TO i1 i2 t1 t2:Addr):Prop where
  a1:TI ≠ z
  a2:TO ≠ z
  a3:i1 ≠ z
  a4:i2 ≠ z
  b1:TI ≠ TO
  b2:TI ≠ i1
  b3:TI ≠ i2
  c1:TO ≠ i1
  c2:TO ≠ i2
  d1:i1 ≠ i2
  e1:t1 ≠ z
  e2:t1 ≠ TO
  e3:t1 ≠ i1
  e4:t1 ≠ i2
  f1:t2 ≠ z
  f2:t2 ≠ TO
  f3:t2 ≠ i1
  f4:t2 ≠ i2
theorem ne_add {n a b:Nat} (h:a ≠ b):n + a ≠ n + b:=by omega
theorem ne_lo {n a t:Nat} (h:t < n):t ≠ n + a:=by omega
theorem ZipD.new {n t1 t2:Nat} (h1:t1 < n) (h2:t2 < n):ZipD (n + 4) (n + 2) (n + 3) n (n + 1) t1 t2 where
  a1:=ne_add (by decide)
  a2:=ne_add (by decide)
  a3:=ne_add (n:=n) (a:=0) (by decide)
  a4:=ne_add (by decide)
  b1:=ne_add (by decide)
  b2:=ne_add (n:=n) (b:=0) (by decide)
  b3:=ne_add (by decide)
  c1:=ne_add (n:=n) (b:=0) (by decide)
  c2:=ne_add (by decide)
  d1:=ne_add (n:=n) (a:=0) (by decide)
  e1:=ne_lo h1
  e2:=ne_lo h1
  e3:=ne_lo (a:=0) h1
  e4:=ne_lo h1
  f1:=ne_lo h2
  f2:=ne_lo h2
  f3:=ne_lo (a:=0) h2
  f4:=ne_lo h2
theorem zipT_item {z TI TO i1 i2 t1 t2:Addr} {xs ys:Array Value} {k:Nat} {x y:Value} {Q:Option Value->Shared->Prop} (D:ZipD z TI TO i1 i2 t1 t2) (Z:ZipT s.heap z TI TO i1 i2 t1 t2 k) (hl1:s.heap.IsTuple t1 xs) (hl2:s.heap.IsTuple t2 ys)
    (hx:xs[k]?=some x) (hy:ys[k]?=some y)
    (hQ:∀ h',IsZip h' z TI TO (rawInt s.heap.objs.size)->IsPair h' TO x y->h'.IsTupleIter i1 t1 (k + 1)->h'.IsTupleIter i2 t2 (k + 1)->IsPair h' s.heap.objs.size x y->h'.objs.size=s.heap.objs.size + 1 ->
      (∀ c o,c ∉ [z,TO,i1,i2]->s.heap.get? c=some o->h'.get? c=some o)->Q (some (.ref s.heap.objs.size)) { s with heap:=h' }) :
    wpAny (model prog w) A (pyNext (.ref z)) Q E s:=by
  obtain ⟨hz,hTI,⟨a,b,hTO⟩,h1,h2⟩:=Z
  have hT:s.TypeIs (.ref z) "zip":=⟨_,hz,rfl⟩
  unfold pyNext
  refine wpAny_bind (wpAny_attempt (wpAny_callSpecial?_slot (name:=Str.ofString "__next__") hT F.slot_zip_next (wpAny_call_entry F.slot_zip_next hT F.entry_zip_next ?_ (F.args_zip_next_1 _))))
  show wpAny _ _ (field (.ref z) 2 >>= _) _ _ _
  refine wpAny_bind (wpAny_field hz rfl (x:=.bool false) rfl ?_)
  show wpAny _ _ (field (.ref z) 3 >>= _) _ _ _
  refine wpAny_bind (wpAny_field hz rfl (x:=.ref TI) rfl (wpAny_bind (wpAny_seqItems hTI rfl ?_)))
  show wpAny _ _ (Builtin.SmallTypes.ownedTupleIsFree (.ref z) >>= _) _ _ _
  refine wpAny_bind ?_
  unfold Builtin.SmallTypes.ownedTupleIsFree
  refine wpAny_bind (wpAny_field hz rfl (x:=.none) rfl (wpAny_pure ?_))
  simp only [if_true]
  refine wpAny_bind (wpAny_rule (wpAny_bind (wpAny_field hz rfl (x:=.ref TO) rfl (wpAny_bind (wpAny_setField_rec hz (by simp) fun g1 z1 s1=>?_)))))
  replace z1:IsZip g1 z TI TO .ellipsis:=z1
  refine wpAny_bind ?_
  simp only [List.zipIdx_cons,List.zipIdx_nil,List.forIn_cons,List.forIn_nil]
  refine wpAny_bind (wpAny_bind (wpAny_onRaise ?_))
  show wpAny _ _ (Builtin.SmallTypes.nextOf (.ref i1) >>= _) _ _ _
  refine wpAny_bind (nextT_item (h1.at fun o e=>s1.extBut _ o D.a3 e) (hl1.at fun o e=>s1.extBut _ o D.e1 e) hx fun g2 j1 s2=>wpAny_pure ?_)
  have o2:IsPair g2 TO a b:=s2.extBut _ _ D.c1 (s1.extBut _ _ D.a2 hTO)
  refine wpAny_bind (wpAny_seqItems o2 rfl (wpAny_bind (wpAny_updateSeq_pair o2 fun g3 o3 s3=>?_)))
  replace o3:IsPair g3 TO x b:=o3
  refine wpAny_bind (wpAny_letGo (wpAny_pure (wpAny_bind (wpAny_bind (wpAny_onRaise ?_)))))
  show wpAny _ _ (Builtin.SmallTypes.nextOf (.ref i2) >>= _) _ _ _
  refine wpAny_bind (nextT_item (h2.at fun o e=>s3.extBut _ o D.c2.symm (s2.extBut _ o D.d1.symm (s1.extBut _ o D.a4 e))) (hl2.at fun o e=>s3.extBut _ o D.f2 (s2.extBut _ o D.f3 (s1.extBut _ o D.f1 e))) hy fun g4 j2 s4=>wpAny_pure ?_)
  have o4:IsPair g4 TO x b:=s4.extBut _ _ D.c2 o3
  refine wpAny_bind (wpAny_seqItems o4 rfl (wpAny_bind (wpAny_updateSeq_pair o4 fun g5 o5 s5=>?_)))
  replace o5:IsPair g5 TO x y:=o5
  refine wpAny_bind (wpAny_letGo (wpAny_pure (wpAny_pure ?_)))
  refine wpAny_bind (wpAny_seqItems o5 rfl (wpAny_bind (wpAny_newTuple ?_)))
  have hsz:g5.objs.size=s.heap.objs.size:=by rw [s5.1,s4.1,s3.1,s2.1,s1.1]
  have z5:IsZip g5 z TI TO .ellipsis:=s5.extBut _ _ D.a2.symm (s4.extBut _ _ D.a4.symm (s3.extBut _ _ D.a2.symm (s2.extBut _ _ D.a3.symm z1)))
  have k5:∀ c o,c ∉ [z,TO,i1,i2]->s.heap.get? c=some o->g5.get? c=some o:=fun c o hc e=>by
    simp only [List.mem_cons,List.not_mem_nil,or_false,not_or] at hc
    exact s5.extBut _ _ hc.2.1 (s4.extBut _ _ hc.2.2.2 (s3.extBut _ _ hc.2.1 (s2.extBut _ _ hc.2.2.1 (s1.extBut _ _ hc.1 e))))
  have m1:g5.IsTupleIter i1 t1 (k + 1):=j1.at fun o e=>s5.extBut _ o D.c1.symm (s4.extBut _ o D.d1 (s3.extBut _ o D.c1.symm e))
  have m2:g5.IsTupleIter i2 t2 (k + 1):=j2.at fun o e=>s5.extBut _ o D.c2.symm e
  show wpAny _ _ (Builtin.SmallTypes.ownedTupleHandOut (.ref z) (.ref g5.objs.size) >>= _) _ _ _
  refine wpAny_bind ?_
  unfold Builtin.SmallTypes.ownedTupleHandOut
  have z6:IsZip (g5.push { cls:=.type "tuple",data:=.seq #[x,y] }) z TI TO .ellipsis:=Heap.get?_push_of_some _ z5
  refine wpAny_bind (wpAny_setField_rec z6 (by simp) fun g7 z7 s7=>?_)
  replace z7:IsZip g7 z TI TO (rawInt g5.objs.size):=z7
  refine wpAny_setField_rec z7 (by simp) fun g8 z8 s8=>?_
  replace z8:IsZip g8 z TI TO (rawInt g5.objs.size):=z8
  have up:∀ c o,c ≠ z->g5.get? c=some o->g8.get? c=some o:=fun c o hc e=>s8.extBut _ _ hc (s7.extBut _ _ hc (Heap.get?_push_of_some _ e))
  have new8:IsPair g8 g5.objs.size x y:=s8.extBut _ _ (Nat.ne_of_gt (Heap.lt_size z5)) (s7.extBut _ _ (Nat.ne_of_gt (Heap.lt_size z5)) (Heap.get?_push_size _ rfl))
  have size8:g8.objs.size=g5.objs.size + 1:=by rw [s8.1,s7.1,Heap.size_push]
  rw [hsz] at z8 new8 size8
  refine wpAny_pure ⟨_,rfl,wpAny_pure ?_⟩
  show Q (some (.ref g5.objs.size)) _
  rw [hsz]
  exact hQ g8 z8 (up _ _ D.a2 o5) (m1.at fun o e=>up _ o D.a3 e) (m2.at fun o e=>up _ o D.a4 e) new8 size8 fun c o hc e=>up c o (fun q=>hc (by simp [q])) (k5 c o hc e)
theorem zipT_end {z TI TO i1 i2 t1 t2:Addr} {xs:Array Value} {k:Nat} {Q:Option Value->Shared->Prop} (hh:A.handled=none) (D:ZipD z TI TO i1 i2 t1 t2) (Z:ZipT s.heap z TI TO i1 i2 t1 t2 k) (hl1:s.heap.IsTuple t1 xs)
    (hx:xs[k]?=none) (hQ:∀ h',(∀ c o,c ∉ [z,TO,i1,i2]->s.heap.get? c=some o->h'.get? c=some o)->Q none { s with heap:=h' }):wpAny (model prog w) A (pyNext (.ref z)) Q E s:=by
  obtain ⟨hz,hTI,⟨a,b,hTO⟩,h1,h2⟩:=Z
  have hT:s.TypeIs (.ref z) "zip":=⟨_,hz,rfl⟩
  unfold pyNext
  refine wpAny_bind (wpAny_attempt (wpAny_callSpecial?_slot (name:=Str.ofString "__next__") hT F.slot_zip_next (wpAny_call_entry F.slot_zip_next hT F.entry_zip_next ?_ (F.args_zip_next_1 _))))
  show wpAny _ _ (field (.ref z) 2 >>= _) _ _ _
  refine wpAny_bind (wpAny_field hz rfl (x:=.bool false) rfl ?_)
  show wpAny _ _ (field (.ref z) 3 >>= _) _ _ _
  refine wpAny_bind (wpAny_field hz rfl (x:=.ref TI) rfl (wpAny_bind (wpAny_seqItems hTI rfl ?_)))
  show wpAny _ _ (Builtin.SmallTypes.ownedTupleIsFree (.ref z) >>= _) _ _ _
  refine wpAny_bind ?_
  unfold Builtin.SmallTypes.ownedTupleIsFree
  refine wpAny_bind (wpAny_field hz rfl (x:=.none) rfl (wpAny_pure ?_))
  simp only [if_true]
  refine wpAny_bind (wpAny_rule (wpAny_bind (wpAny_field hz rfl (x:=.ref TO) rfl (wpAny_bind (wpAny_setField_rec hz (by simp) fun g1 z1 s1=>?_)))))
  replace z1:IsZip g1 z TI TO .ellipsis:=z1
  refine wpAny_bind ?_
  simp only [List.zipIdx_cons,List.zipIdx_nil,List.forIn_cons,List.forIn_nil]
  refine wpAny_bind (wpAny_bind (wpAny_onRaise ?_))
  show wpAny _ _ (Builtin.SmallTypes.nextOf (.ref i1) >>= _) _ _ _
  refine wpAny_bind (nextT_end hh (h1.at fun o e=>s1.extBut _ o D.a3 e) (hl1.at fun o e=>s1.extBut _ o D.e1 e) hx fun g2 e s2 he=>?_)
  obtain ⟨oe,hoe,hce⟩:=he
  have z2:IsZip g2 z TI TO .ellipsis:=s2 _ _ D.a3.symm z1
  have hez:e ≠ z:=fun q=>by subst q;rw [z2] at hoe;cases hoe;simp at hce
  refine wpAny_setField_rec z2 (by simp) fun g3 _ s3=>?_
  refine wpAny_bind (wpAny_isInstance (T:="StopIteration") (b:=true) ⟨oe,s3.extBut _ _ hez hoe,hce⟩ isSubtype_stop (wpAny_pure (hQ g3 fun c o hc q=>?_)))
  simp only [List.mem_cons,List.not_mem_nil,or_false,not_or] at hc
  exact s3.extBut _ _ hc.1 (s2 _ _ hc.2.2.1 (s1.extBut _ _ hc.1 q))
abbrev tit (t:Addr):Obj:={ cls:=.type "tuple_iterator",data:=.fields #[.ref t,.int 0 0] }
abbrev tpr (a b:Value):Obj:={ cls:=.type "tuple",data:=.seq #[a,b] }
abbrev zob (a b:Addr):Obj:={ cls:=.type "zip",data:=.fields #[.none,.bool false,.bool false,.ref a,.ref b] }
abbrev zipHp (h:Heap) (t1 t2:Addr):Heap:=((((h.push (tit t1)).push (tit t2)).push (tpr (.ref h.objs.size) (.ref (h.objs.size + 1)))).push (tpr .none .none)).push (zob (h.objs.size + 2) (h.objs.size + 3))
theorem zip_newT (t1 t2:Addr) (xs ys:Array Value) :
    Meets (Builtin.«zip.__new__» ⟨[.type "zip",.ref t1,.ref t2],[]⟩) (fun _ R s=>s.heap.IsTuple t1 xs/\s.heap.IsTuple t2 ys/\R (.ok (.ret (.ref (s.heap.objs.size + 4)))) { s with heap:=zipHp s.heap t1 t2 }) :=
  .of_wp fun prog w A R s h=>by
    obtain ⟨hp,g,d,tk,os⟩:=s;obtain ⟨hl1,hl2,h⟩:=h
    have hsub:=sub_zip
    have hL1:Heap.IsTuple (Shared.heap ⟨hp,g,d,tk,os⟩) t1 xs:=hl1
    have hL2:Heap.IsTuple (Shared.heap ⟨hp.push (tit t1),g,d,tk,os⟩) t2 ys:=Heap.IsTuple.push hl2 _
    wp_walk using wpAny_pyIter_tuple hL1,wpAny_pyIter_tuple hL2
    simp only [Heap.size_push]
    exact ⟨_,rfl,h⟩
theorem call_zipT {t1 t2:Addr} {xs ys:Array Value} {Q:Value->Shared->Prop} (hl1:s.heap.IsTuple t1 xs) (hl2:s.heap.IsTuple t2 ys)
    (h:∀ h',ZipT h' (s.heap.objs.size + 4) (s.heap.objs.size + 2) (s.heap.objs.size + 3) s.heap.objs.size (s.heap.objs.size + 1) t1 t2 0->(∀ c o,s.heap.get? c=some o->h'.get? c=some o)->h'.objs.size=s.heap.objs.size + 5 ->
      Q (.ref (s.heap.objs.size + 4)) { s with heap:=h' }):wpAny (model prog w) A (call (.type "zip") [.ref t1,.ref t2]) Q E s:=by
  refine callType_new F.called_zip (by decide) (F.typeCall_zip_2 _ _) (F.newCall_zip_2 _ _) (fun obj=>F.args_object_init_3 obj _ _) F.entry_zip_new (zip_newT t1 t2 xs ys) ⟨hl1,hl2,?_⟩
  have up:∀ {b:Addr} {o:Obj} (h0:Heap) (x:Obj),h0.get? b=some o->(h0.push x).get? b=some o:=fun _ _ e=>Heap.get?_push_of_some _ e
  have here:∀ (h0:Heap) (x:Obj) (n:Nat),x.isFreed=false->h0.objs.size=n->(h0.push x).get? n=some x:=fun h0 x n hf e=>by subst e;exact Heap.get?_push_size _ hf
  have Z:ZipT (zipHp s.heap t1 t2) (s.heap.objs.size + 4) (s.heap.objs.size + 2) (s.heap.objs.size + 3) s.heap.objs.size (s.heap.objs.size + 1) t1 t2 0 :=
    ⟨here _ _ _ rfl (by simp only [Heap.size_push]),up _ _ (up _ _ (here _ _ _ rfl (by simp only [Heap.size_push]))),⟨_,_,up _ _ (here _ _ _ rfl (by simp only [Heap.size_push]))⟩,
      ⟨_,up _ _ (up _ _ (up _ _ (up _ _ (here _ _ _ rfl rfl)))),rfl,rfl⟩,⟨_,up _ _ (up _ _ (up _ _ (here _ _ _ rfl (by simp only [Heap.size_push])))),rfl,rfl⟩⟩
  exact ⟨⟨_,Z.zz,rfl⟩,h _ Z (fun c o e=>up _ _ (up _ _ (up _ _ (up _ _ (up _ _ e))))) (by simp only [Heap.size_push])⟩
end
section
variable {X:Cx} {pins:List (Addr × Obj)} {σ:St} {H:Hp} {s:Shared}
theorem Inv.turnedL {h':Heap} {t':Nat} {ch:List Addr} (I:Inv X pins σ H s) (k:∀ b o,b ∉ ch->s.heap.get? b=some o->h'.get? b=some o) (hf:∀ b ∈ ch,FpOk X pins H b):Inv X pins σ H { s with heap:=h',toks:=t' }:=by
  have nit:∀ b u,H b=some u->b ∉ ch:=fun b u e z=>by rw [(hf b z).1] at e;cases e
  refine I.step (g':=s.gens) (d':=s.drawn) (ch:=ch) (fun b hb=>⟨(hf b hb).2.2.2.1,(hf b hb).2.1,(hf b hb).2.2.2.2.1,(hf b hb).2.2.2.2.2⟩) (fun b o _ _ hc e _=>k b o hc e) (fun b o _ _ hc e _=>⟨o.slots,k b o hc e⟩) (fun _ _ _ _ n=>n)
    (fun b o hc e=>⟨o,k b o hc e⟩) (fun _ _ e=>e) (fun _ _ _ e=>e) (fun b ps e=>⟨#[],by rw [e];simp⟩) (fun m hm=>?_) (fun b u e=>?_) I.bare
  · obtain ⟨o,es,ep,ho,r⟩:=hm
    exact ⟨o,es,ep,k _ o (fun z=>(hf _ z).2.1 rfl) ho,r⟩
  · refine (I.hok b u e).stay (fun c v hc q=>k c v ?_ q) (fun _ q=>q) fun _ _ q=>q
    rcases hc with z | z
    · rw [z];exact nit b u e
    · exact nit c _ z
def Itz (K:PySem.W.Frag) (a b:Addr):It :=
  ⟨fun i H=>∃ xs ys x y,SqT K H a xs/\SqT K H b ys/\xs[i]?=some x/\ys[i]?=some y,fun i H v H'=>∃ p x y,H p=none/\v=.ref p/\H'=upd H p (.tup [x,y])/\(∀ xs,SqT K H a xs->xs[i]?=some x)/\∀ ys,SqT K H b ys->ys[i]?=some y,
    fun i H=>∃ xs,SqT K H a xs/\xs.length <= i⟩
theorem turn_zip {P:Program} {w:World} {K:PySem.W.Frag} {es:List Expr} {kk:Nat} {pos:Pos} {a b z TI TO i1 i2:Addr} (D:ZipD z TI TO i1 i2 a b) :
    Turn P w K (.Tuple es kk pos) (Itz K a b) [z,TI,TO,i1,i2] z (fun i h=>ZipT h z TI TO i1 i2 a b i) where
  mem:=by simp
  obj:=fun i h st c hc=>by
    obtain ⟨hz,hTI,⟨_,_,hTO⟩,⟨_,h1,_,d1⟩,⟨_,h2,_,d2⟩⟩:=st
    simp only [List.mem_cons,List.not_mem_nil,or_false] at hc
    rcases hc with rfl | rfl | rfl | rfl | rfl
    · exact ⟨_,hz,fun v q=>by cases q⟩
    · exact ⟨_,hTI,fun v q=>by cases q⟩
    · exact ⟨_,hTO,fun v q=>by cases q⟩
    · exact ⟨_,h1,fun v q=>by rw [d1] at q;cases q⟩
    · exact ⟨_,h2,fun v q=>by rw [d2] at q;cases q⟩
  keep:=fun i h h' st k=>by
    obtain ⟨hz,hTI,⟨_,_,hTO⟩,h1,h2⟩:=st
    exact ⟨k _ (by simp) _ hz,k _ (by simp) _ hTI,⟨_,_,k _ (by simp) _ hTO⟩,h1.at fun o e=>k _ (by simp) o e,h2.at fun o e=>k _ (by simp) o e⟩
  item:=by
    intro X hP hw hK hc i pins s σ H E I hf st hg
    subst hP hw hK
    obtain ⟨xs,ys,x,y,ha,hb,hx,hy⟩:=hg
    obtain ⟨its,r1,p1,_⟩:=I.tuple ha
    obtain ⟨its2,r2,p2,_⟩:=I.tuple hb
    obtain ⟨u,hu,ru⟩:=r1.get hx
    obtain ⟨v,hv,rv⟩:=r2.get hy
    refine zipT_item D st (show s.heap.IsTuple a its.toArray from p1) (show s.heap.IsTuple b its2.toArray from p2) (x:=u) (y:=v) (by simpa using hu) (by simpa using hv) fun h' z1 o1 j1 j2 new sz keep=>?_
    refine ⟨_,rfl,wpAny_letOwnedTupleGo_zip (s:={ s with heap:=h' }) z1 fun h2 z2 sb=>?_⟩
    have hn:H s.heap.objs.size=none:=I.hok.fresh (Nat.le_refl _)
    have zlt:z < s.heap.objs.size:=Heap.lt_size st.zz
    have k2:∀ c o,c ∉ [z,TI,TO,i1,i2]->s.heap.get? c=some o->h2.get? c=some o:=fun c o hc e=>by
      simp only [List.mem_cons,List.not_mem_nil,or_false,not_or] at hc
      exact sb.extBut _ _ hc.1 (keep c o (by simp only [List.mem_cons,List.not_mem_nil,or_false,not_or];exact ⟨hc.1,hc.2.2.1,hc.2.2.2.1,hc.2.2.2.2⟩) e)
    have e0:h2.get? s.heap.objs.size=some { cls:=.type "tuple",data:=.seq #[u,v] }:=sb.extBut _ _ (Nat.ne_of_gt zlt) new
    have pne:∀ c o,s.heap.get? c=some o->c ≠ s.heap.objs.size:=fun c o e=>Nat.ne_of_lt (Heap.lt_size e)
    have nit:∀ c u,H c=some u->c ∉ [z,TI,TO,i1,i2]:=fun c u e q=>by rw [(hf c q).1] at e;cases e
    have hok:HOk X.prog X.w (upd H s.heap.objs.size (.tup [x,y])) h2:=fun c ob e=>by
      by_cases hq:c=s.heap.objs.size
      · subst hq
        rw [upd_same] at e;cases e
        exact ⟨by show 2 <= sizeLine;decide,[u,v],.cons ru (.cons rv .nil),⟨_,e0,rfl,_,rfl⟩⟩
      · rw [upd_ne hq] at e
        refine (I.hok c ob e).stay (fun d w' hd q=>k2 d w' ?_ q) (fun d q=>by rw [upd_ne (ne_of_none q hn)];exact q) fun d xs q=>by rw [upd_ne (ne_of_none q hn)];exact q
        rcases hd with rfl | hd
        · exact nit d ob e
        · exact nit d _ hd
    have I2:Inv X pins σ (upd H s.heap.objs.size (.tup [x,y])) { s with heap:=h2 }:=by
      refine I.step (g':=s.gens) (d':=s.drawn) (t':=s.toks) (ch:=[z,TI,TO,i1,i2]) (fun c hc=>⟨(hf c hc).2.2.2.1,(hf c hc).2.1,(hf c hc).2.2.2.2.1,(hf c hc).2.2.2.2.2⟩) (fun c o _ _ hc e _=>k2 c o hc e) (fun c o _ _ hc e _=>⟨o.slots,k2 c o hc e⟩)
        (fun c o _ e n=>by rw [upd_ne (pne c o e)];exact n) (fun c o hc e=>⟨o,k2 c o hc e⟩) (fun c xs e=>by rw [upd_ne (ne_of_none e hn)];exact e) (fun c o u e=>by rw [upd_ne (ne_of_none e hn)];exact e) (fun c ps e=>⟨#[],by rw [upd_ne (ne_of_none e hn),e];simp⟩) (fun m hm=>?_) hok I.bare
      obtain ⟨o,es,ep,ho,r⟩:=hm
      exact ⟨o,es,ep,k2 _ o (fun q=>(hf _ q).2.1 rfl) ho,r⟩
    refine ⟨.ref s.heap.objs.size,_,I2,rfl,⟨_,x,y,hn,rfl,rfl,fun xs' h'=>by rw [I.tuple_inj h' ha];exact hx,fun ys' h'=>by rw [I.tuple_inj h' hb];exact hy⟩,?_,fun c hc=>?_⟩
    · exact ⟨z2,sb.extBut _ _ D.a1 (keep _ _ (by simp only [List.mem_cons,List.not_mem_nil,or_false,not_or];exact ⟨D.a1,D.b1,D.b2,D.b3⟩) st.ti),⟨_,_,sb.extBut _ _ D.a2 o1⟩,j1.at fun o e=>sb.extBut _ o D.a3 e,j2.at fun o e=>sb.extBut _ o D.a4 e⟩
    · have hlt:c < s.heap.objs.size:=by
        obtain ⟨hz,hTI,⟨_,_,hTO⟩,⟨_,h1,_⟩,⟨_,h2,_⟩⟩:=st
        simp only [List.mem_cons,List.not_mem_nil,or_false] at hc
        rcases hc with rfl | rfl | rfl | rfl | rfl
        · exact Heap.lt_size hz
        · exact Heap.lt_size hTI
        · exact Heap.lt_size hTO
        · exact Heap.lt_size h1
        · exact Heap.lt_size h2
      rw [upd_ne (Nat.ne_of_lt hlt)]
      exact (hf c hc).1
  done:=by
    intro X hP hw hK hc i pins s σ H E I hf st hg
    subst hP hw hK
    obtain ⟨xs,ha,hx⟩:=hg
    obtain ⟨its,r1,p1,_⟩:=I.tuple ha
    have hl:=r1.length
    refine zipT_end (I.ok.hd hc) D st (show s.heap.IsTuple a its.toArray from p1) (by simp;omega) fun h' keep=>⟨rfl,I.turnedL (t':=s.toks) (ch:=[z,TI,TO,i1,i2]) (fun c o hc e=>keep c o (fun q=>hc ?_) e) hf⟩
    simp only [List.mem_cons,List.not_mem_nil,or_false] at q ⊢
    rcases q with q | q | q | q
    · exact .inl q
    · exact .inr (.inr (.inl q))
    · exact .inr (.inr (.inr (.inl q)))
    · exact .inr (.inr (.inr (.inr q)))
  self:=fun _ _ _ _ _ st h=>wpAny_pyIter_zip st.zz h
def iZip (K:PySem.W.Frag) (ta:TA):TI:=fun σ H R=>ta σ H fun vs H1=>∃ a b xs ys,vs=[.ref a,.ref b]/\SqT K H1 a xs/\SqT K H1 b ys/\R (Itz K a b) H1
theorem pi_zip {e1 e2:Expr} {es:List Expr} {kk:Nat} {pt p pos:Pos} {ta:TA} (hg:Gl X "zip") (hm:X.mg "zip"=none) (ha:PA X [e1,e2] ta) (hs:starEach [e1,e2] X.env=[(false,eval e1 X.env),(false,eval e2 X.env)]:=by rfl) (hs2:starEach [e2] X.env=[(false,eval e2 X.env)]:=by rfl) :
    PI X (.Tuple es kk pt) (.Call (.Name "zip" p) [e1,e2] [] pos) (iZip X.K ta):=by
  intro pins s σ H R I h
  refine Call_ (ld_blt I hg hm boot_zip (PyProof.Rows.callWith_type1 (thn (ha pos pins s σ H _ I h) fun us s1 ⟨vs,H1,I1,r1,q1⟩=>?_) (by rw [hs,hs2]) (by rw [hs2];rfl)))
  obtain ⟨a,b,xs,ys,rfl,hx,hy,q⟩:=q1
  cases r1 with
  | cons ra rr =>
    cases rr with
    | cons rb rr =>
      cases rr
      cases ra
      cases rb
      obtain ⟨its,r1,p1,_⟩:=I1.tuple hx
      obtain ⟨its2,r2,p2,_⟩:=I1.tuple hy
      refine call_zipT (show s1.heap.IsTuple a its.toArray from p1) (show s1.heap.IsTuple b its2.toArray from p2) fun h' Z keep sz=>?_
      refine wpAny_pyIter_zip (s:={ s1 with heap:=h' }) Z.zz ?_
      have I2:Inv X pins σ H1 { s1 with heap:=h' }:=I1.kept (t':=s1.toks) keep
      refine ⟨s1.heap.objs.size + 4,[s1.heap.objs.size + 4,s1.heap.objs.size + 2,s1.heap.objs.size + 3,s1.heap.objs.size,s1.heap.objs.size + 1],_,_,H1,rfl,I2,turn_zip (ZipD.new p1.lt p2.lt),Z,fun c hc=>?_,q⟩
      have hge:s1.heap.objs.size <= c:=by
        simp only [List.mem_cons,List.not_mem_nil,or_false] at hc
        rcases hc with rfl | rfl | rfl | rfl | rfl <;> first | exact Nat.le_add_right _ _ | exact Nat.le_refl _
      exact I1.fpOk hge (I1.hok.fresh hge)
end
end L2
namespace L2
open PySem PySem.Spec PyProof.Rows
mutual
def Dt (st:Addr) (H:Hp):PyData->V->Prop
  | .none,v=>v=.non
  | .bool b,v=>v=.bl b
  | .int i,v=>v=.int i
  | .str x,v=>v=.str x
  | .tuple ds,v=>∃ a xs,v=.ref a/\a ≠ st/\H a=some (.tup xs)/\Dts st H ds xs
  | .list ds,v=>∃ a xs,v=.ref a/\a ≠ st/\H a=some (.lst xs)/\Dts st H ds xs
  | .dict _,v=>∃ a ks,v=.ref a/\a ≠ st/\H a=some (.dK ks)
def Dts (st:Addr) (H:Hp):List PyData->List V->Prop
  | [],xs=>xs=[]
  | d :: ds,xs=>∃ x r,xs=x :: r/\Dt st H d x/\Dts st H ds r
end
def Kp (st:Addr) (H H':Hp):Prop:=∀ b o,b ≠ st->H b=some o->H' b=some o
theorem Kp.refl (st:Addr) (H:Hp):Kp st H H:=fun _ _ _ e=>e
theorem Kp.trans {st:Addr} {H H1 H2:Hp} (a:Kp st H H1) (b:Kp st H1 H2):Kp st H H2:=fun c o n e=>b c o n (a c o n e)
theorem Same.kp {H H':Hp} (a:Same H H') (st:Addr):Kp st H H':=fun b o _ e=>a b o e
theorem Same.new {H:Hp} {p:Addr} {o:HO} (h:H p=none):Same H (upd H p o):=fun b u q=>by rw [upd_ne (ne_of_none q h)];exact q
theorem Kp.new {st:Addr} {H:Hp} {p:Addr} {o:HO} (h:H p=none):Kp st H (upd H p o):=(Same.new h).kp st
theorem Kp.at {st:Addr} {H:Hp} {o:HO}:Kp st H (upd H st o):=fun b u n q=>by rw [upd_ne n];exact q
mutual
theorem Dt.kp {st:Addr} {H H':Hp} (k:Kp st H H'):∀ {d:PyData} {v:V},Dt st H d v->Dt st H' d v
  | .none,_,h=>by unfold Dt at h ⊢;exact h
  | .bool _,_,h=>by unfold Dt at h ⊢;exact h
  | .int _,_,h=>by unfold Dt at h ⊢;exact h
  | .str _,_,h=>by unfold Dt at h ⊢;exact h
  | .tuple ds,_,h=>by
    unfold Dt at h ⊢
    obtain ⟨a,xs,e,n,q,r⟩:=h
    exact ⟨a,xs,e,n,k a _ n q,Dts.kp k r⟩
  | .list ds,_,h=>by
    unfold Dt at h ⊢
    obtain ⟨a,xs,e,n,q,r⟩:=h
    exact ⟨a,xs,e,n,k a _ n q,Dts.kp k r⟩
  | .dict kvs,_,h=>by
    unfold Dt at h ⊢
    obtain ⟨a,ks,e,n,q⟩:=h
    exact ⟨a,ks,e,n,k a _ n q⟩
theorem Dts.kp {st:Addr} {H H':Hp} (k:Kp st H H'):∀ {ds:List PyData} {xs:List V},Dts st H ds xs->Dts st H' ds xs
  | [],_,h=>by unfold Dts at h ⊢;exact h
  | d :: ds,_,h=>by
    unfold Dts at h ⊢
    obtain ⟨x,r,e,q1,q2⟩:=h
    exact ⟨x,r,e,Dt.kp k q1,Dts.kp k q2⟩
end
theorem Dt.int (st:Addr) (H:Hp) (i:Int):Dt st H (.int i) (.int i):=by unfold Dt;rfl
theorem Dt.tup {st:Addr} {H:Hp} {a:Addr} {xs:List V} {ds:List PyData} (n:a ≠ st) (h:H a=some (.tup xs)) (r:Dts st H ds xs):Dt st H (.tuple ds) (.ref a):=by unfold Dt;exact ⟨a,xs,rfl,n,h,r⟩
theorem Dts.nil (st:Addr) (H:Hp):Dts st H [] []:=by unfold Dts;rfl
theorem Dts.cons {st:Addr} {H:Hp} {d:PyData} {ds:List PyData} {x:V} {xs:List V} (h:Dt st H d x) (r:Dts st H ds xs):Dts st H (d :: ds) (x :: xs):=by unfold Dts;exact ⟨x,xs,rfl,h,r⟩
theorem Dts.uncons {st:Addr} {H:Hp} {d:PyData} {ds:List PyData} {xs:List V} (h:Dts st H (d :: ds) xs):∃ x r,xs=x :: r/\Dt st H d x/\Dts st H ds r:=by unfold Dts at h;exact h
theorem Dts.len {st:Addr} {H:Hp}:∀ {ds:List PyData} {xs:List V},Dts st H ds xs->ds.length=xs.length
  | [],_,h=>by unfold Dts at h;subst h;rfl
  | d :: ds,_,h=>by
    obtain ⟨x,r,e,_,q⟩:=h.uncons
    subst e
    rw [List.length_cons,List.length_cons,Dts.len q]
theorem Dts.append {st:Addr} {H:Hp}:∀ {ds es:List PyData} {xs ys:List V},Dts st H ds xs->Dts st H es ys->Dts st H (ds ++ es) (xs ++ ys)
  | [],_,_,_,h,q=>by unfold Dts at h;subst h;exact q
  | d :: ds,_,_,_,h,q=>by
    obtain ⟨x,r,e,h1,h2⟩:=h.uncons
    subst e
    exact Dts.cons h1 (Dts.append h2 q)
theorem Dts.get {st:Addr} {H:Hp}:∀ {ds:List PyData} {xs:List V} {i:Nat} {x:V},Dts st H ds xs->xs[i]?=some x->∃ d,ds[i]?=some d/\Dt st H d x
  | [],_,i,x,h,e=>by unfold Dts at h;subst h;simp at e
  | d :: ds,_,0,x,h,e=>by
    obtain ⟨y,r,e1,h1,h2⟩:=h.uncons
    subst e1
    simp at e;subst e
    exact ⟨d,rfl,h1⟩
  | d :: ds,_,i + 1,x,h,e=>by
    obtain ⟨y,r,e1,h1,h2⟩:=h.uncons
    subst e1
    obtain ⟨d',e2,h3⟩:=Dts.get (i:=i) (x:=x) h2 (by simpa using e)
    exact ⟨d',by simpa using e2,h3⟩
theorem Dts.ints (st:Addr) (H:Hp):∀ ns:List Int,Dts st H (ns.map PyData.int) (ns.map V.int)
  | []=>Dts.nil st H
  | n :: ns=>Dts.cons (Dt.int st H n) (Dts.ints st H ns)
theorem Dts.ints_eq {st:Addr} {H:Hp}:∀ {ns:List Int} {xs:List V},Dts st H (ns.map PyData.int) xs->xs=ns.map V.int
  | [],_,h=>by unfold Dts at h;exact h
  | n :: ns,_,h=>by
    rw [List.map_cons] at h
    obtain ⟨x,r,e,h1,h2⟩:=h.uncons
    unfold Dt at h1
    rw [e,h1,Dts.ints_eq h2,List.map_cons]
abbrev DI (ns:List Int):PyData:=.tuple (ns.map .int)
theorem Dt.di {st:Addr} {H:Hp} {ns:List Int} {v:V} (h:Dt st H (DI ns) v):∃ a,v=.ref a/\a ≠ st/\H a=some (.tup (ns.map V.int)):=by
  unfold DI Dt at h
  obtain ⟨a,xs,e,n,q,r⟩:=h
  exact ⟨a,e,n,by rw [q,r.ints_eq]⟩
theorem Dt.mkI {st:Addr} {H:Hp} {ns:List Int} {a:Addr} (n:a ≠ st) (h:H a=some (.tup (ns.map V.int))):Dt st H (DI ns) (.ref a):=Dt.tup n h (Dts.ints st H ns)
mutual
theorem Dt.reads {P:Program} {w:World} {st:Addr} {H:Hp} {h:Heap} (ok:HOk P w H h):∀ {d:PyData} {v:V} {u:Value},d.canLay0=true->Dt st H d v->RelV v u->∃ as,Reads h u d as
  | .none,_,u,_,q,r=>by unfold Dt at q;subst q;cases r;exact ⟨[],.none⟩
  | .bool b,_,u,_,q,r=>by unfold Dt at q;subst q;cases r;exact ⟨[],.bool b⟩
  | .int i,_,u,_,q,r=>by unfold Dt at q;subst q;obtain ⟨t,rfl⟩:=r;exact ⟨[],.int i t⟩
  | .str x,_,u,_,q,r=>by unfold Dt at q;subst q;obtain ⟨t,rfl⟩:=r;exact ⟨[],.str x t⟩
  | .tuple ds,_,u,cl,q,r=>by
    unfold PyData.canLay0 at cl
    unfold Dt at q
    obtain ⟨a,xs,e,n,hq,rs⟩:=q
    subst e
    cases r
    obtain ⟨_,its,rv,o,ho,hc,m,hd⟩:=ok a _ hq
    obtain ⟨as,ra⟩:=Dts.reads ok cl rs rv
    exact ⟨as,.tuple ho hc hd (by simpa using ra)⟩
  | .list ds,_,u,cl,q,r=>by
    unfold PyData.canLay0 at cl
    unfold Dt at q
    obtain ⟨a,xs,e,n,hq,rs⟩:=q
    subst e
    cases r
    obtain ⟨_,its,m,rv,ho⟩:=ok a _ hq
    obtain ⟨as,ra⟩:=Dts.reads ok cl rs rv
    exact ⟨a :: as,.list ho rfl rfl (by simpa using ra)⟩
  | .dict kvs,_,u,cl,q,r=>by unfold PyData.canLay0 at cl;cases cl
theorem Dts.reads {P:Program} {w:World} {st:Addr} {H:Hp} {h:Heap} (ok:HOk P w H h):∀ {ds:List PyData} {xs:List V} {us:List Value},PyData.canLayAll0 ds=true->Dts st H ds xs->Vals xs us->∃ as,ReadsAll h us ds as
  | [],_,us,_,q,r=>by unfold Dts at q;subst q;cases r;exact ⟨[],.nil⟩
  | d :: ds,_,us,cl,q,r=>by
    unfold PyData.canLayAll0 at cl
    rw [Bool.and_eq_true] at cl
    obtain ⟨x,rr,e,h1,h2⟩:=q.uncons
    subst e
    cases r with
    | cons r1 r2 =>
      obtain ⟨as,ra⟩:=Dt.reads ok cl.1 h1 r1
      obtain ⟨bs,rb⟩:=Dts.reads ok cl.2 h2 r2
      exact ⟨as ++ bs,.cons ra rb⟩
end
theorem shaped_lay {d:PyData} (h:SeqAt.shaped d=true):d.canLay0=true:=by
  unfold SeqAt.shaped at h
  rw [Bool.and_eq_true] at h
  exact h.1
section
variable {X:Cx}
def rEqD:R2:=fun x y H Q=>∃ st d e,Dt st H d x/\Dt st H e y/\SeqAt.shaped d=true/\SeqAt.shaped e=true/\Q (.bl (PyData.eqv d e)) H
def rNeD:R2:=fun x y H Q=>∃ st d e,Dt st H d x/\Dt st H e y/\SeqAt.shaped d=true/\SeqAt.shaped e=true/\Q (.bl (!PyData.eqv d e)) H
theorem op_eqD (hu:X.A.units + 64 < cLine):OpR X (compareOp .Eq) rEqD:=by
  intro pins s σ H x y v u Q I rx ry h
  obtain ⟨st,d,e,h1,h2,s1,s2,q⟩:=h
  obtain ⟨as,ra⟩:=h1.reads I.hok (shaped_lay s1) rx
  obtain ⟨bs,rb⟩:=h2.reads I.hok (shaped_lay s2) ry
  exact eq_dataH ra rb s1 s2 hu (fin_bl I q rfl)
theorem op_neD (hu:X.A.units + 64 < cLine):OpR X (compareOp .NotEq) rNeD:=by
  intro pins s σ H x y v u Q I rx ry h
  obtain ⟨st,d,e,h1,h2,s1,s2,q⟩:=h
  obtain ⟨as,ra⟩:=h1.reads I.hok (shaped_lay s1) rx
  obtain ⟨bs,rb⟩:=h2.reads I.hok (shaped_lay s2) ry
  exact ne_dataH ra rb s1 s2 hu (fin_bl I q rfl)
def tyN:PyData->String
  | .none=>"NoneType"
  | .bool _=>"bool"
  | .int _=>"int"
  | .str _=>"str"
  | .list _=>"list"
  | .tuple _=>"tuple"
  | .dict _=>"dict"
theorem Dt.ty {K:PySem.W.Frag} {st:Addr} {H:Hp} {d:PyData} {v:V} (h:Dt st H d v):TyOf K H v (.type (tyN d)):=by
  cases d with
  | none=>unfold Dt at h;subst h;exact .non
  | bool b=>unfold Dt at h;subst h;exact .bl b
  | int i=>unfold Dt at h;subst h;exact .int i
  | str x=>unfold Dt at h;subst h;exact .str x
  | list ds=>unfold Dt at h;obtain ⟨a,xs,e,_,q,_⟩:=h;subst e;exact .lst q
  | tuple ds=>unfold Dt at h;obtain ⟨a,xs,e,_,q,_⟩:=h;subst e;exact .tup q
  | dict kvs=>unfold Dt at h;obtain ⟨a,ks,e,_,q⟩:=h;subst e;exact .dK q
def isBoolD:PyData->Bool
  | .bool _=>true
  | _=>false
def isIntD:PyData->Bool
  | .bool _=>true
  | .int _=>true
  | _=>false
def isTupD:PyData->Bool
  | .tuple _=>true
  | _=>false
theorem kit_bool (K:PySem.W.Frag) (d:PyData):PySem.W.kitOne K (.type (tyN d)) (.type "bool")=some (isBoolD d):=by cases d <;> kernel_rfl
theorem kit_int (K:PySem.W.Frag) (d:PyData):PySem.W.kitOne K (.type (tyN d)) (.type "int")=some (isIntD d):=by cases d <;> kernel_rfl
theorem kit_tup (K:PySem.W.Frag) (d:PyData):PySem.W.kitOne K (.type (tyN d)) (.type "tuple")=some (isTupD d):=by cases d <;> kernel_rfl
theorem call_isi {T:String} {f:PyData->Bool} (hk:∀ K d,PySem.W.kitOne K (.type (tyN d)) (.type T)=some (f d)) :
    CallR X (.builtin "isinstance") (fun xs H Q=>∃ x st d,xs=[x,.ty T]/\Dt st H d x/\Q (.bl (f d)) H):=by
  intro pins s σ H xs us Q I r h
  obtain ⟨x,st,d,rfl,hd,q⟩:=h
  cases r with
  | cons r1 rr =>
    cases rr with
    | cons r2 rr =>
      cases rr
      cases r2
      exact isinst_ok I r1 (hd.ty (K:=X.K)) (hk X.K d) fun tk=>⟨.bl (f d),H,I.tok tk,rfl,q⟩
theorem op_fdivB:OpR X (binaryOp .FloorDiv) (rI (fun _ j=>0 < j/\j.natAbs.log2 < 9000) fun i j=>.int (i / j)):=opI fun i j _ _ _ _ _ hc q =>
  floordiv_int (by have:=hc.1;omega) (by rw [Int.fdiv_eq_ediv_of_nonneg i (by have:=hc.1;omega)];exact q) (.inl (PyProof.noPylong_of_log2 hc.2))
theorem op_mulB:OpR X (binaryOp .Mult) (rI (fun i j=>Builtin.Int.intBits i <= 2 ^ 20/\Builtin.Int.intBits j <= 2 ^ 20) fun i j=>.int (i * j)):=opI fun _ _ _ _ _ _ _ hc q=>mul_int q (.of_bits hc.1 hc.2)
end
end L2
namespace L2
open PySem PySem.Spec PyProof.Rows
section
variable {prog:Program} {w:World} {A:Around} {E:Value->Shared->Prop} {s:Shared}
end
section
variable {X:Cx}
theorem noR_tuple:typeLookup (.type "tuple") (dunderR "mul")=pure (some (.builtin "tuple.__rmul__")):=by rw [typeLookup_type,builtinLookup_eq_fast];kernel_rfl
theorem noFill_tuple_mul:fillsNumberSlot (.type "tuple") "mul"=pure false :=
  PySem.fillsNumberSlot_seq (id:="tuple.__mul__") (r:=some (.builtin "tuple.__rmul__")) F.slot_tuple_mul.lookup (by decide +kernel) noR_tuple (by decide +kernel)
theorem repeat_tuple:seqRepeat? (.type "tuple")=pure (some (.builtin "tuple.__mul__")):=by
  unfold seqRepeat?
  rw [PySem.seqSlot_of (T:="tuple") (name:="__mul__") (id:="tuple.__mul__") F.slot_tuple_mul.lookup (by decide +kernel),PySem.seqSlot_of (T:="tuple") (name:="__rmul__") (id:="tuple.__rmul__") noR_tuple (by decide +kernel)]
  rfl
theorem rmul_tuple (a:Int) (t:Tok) (l:Addr) (items:Array Value) (n:Nat) (dd:Option Addr) (sl:Array (Option Value)) :
    Meets (Builtin.«int.__rmul__» ⟨[.int a t,.ref l],[]⟩) (fun _ R s=>s.heap.get? l=some { cls:=.type "tuple",dict:=dd,data:=.seq items n,slots:=sl }/\R (.ok (.ret Value.notImplemented)) s) :=
  .of_wp fun prog w A R s h=>by obtain ⟨hp,g,d,tk,os⟩:=s;obtain ⟨hl,h⟩:=h;wp_walk;exact ⟨_,rfl,h⟩
theorem mul_tuple1 (l:Addr) (items:Array Value) (n:Nat) (dd:Option Addr) (sl:Array (Option Value)) (t:Tok) :
    Meets (Builtin.«tuple.__mul__» ⟨[.ref l,.int 1 t],[]⟩) (fun _ R s=>s.heap.get? l=some { cls:=.type "tuple",dict:=dd,data:=.seq items n,slots:=sl }/\R (.ok (.ret (.ref l))) s) :=
  .of_wp fun prog w A R s h=>by
    obtain ⟨hp,g,d,tk,os⟩:=s;obtain ⟨hl,h⟩:=h
    wp_walk
    exact ⟨_,rfl,h⟩
theorem mul_tupleN (l:Addr) (v:Value) (n:Nat) (dd:Option Addr) (sl:Array (Option Value)) (k:Int) (t:Tok) (hk:k=2 ∨ k=3 ∨ k=4) :
    Meets (Builtin.«tuple.__mul__» ⟨[.ref l,.int k t],[]⟩) (fun _ R s=>s.heap.get? l=some { cls:=.type "tuple",dict:=dd,data:=.seq #[v] n,slots:=sl } /\
      R (.ok (.ret (.ref s.heap.objs.size))) { s with heap:=s.heap.push { cls:=.type "tuple",data:=.seq (List.replicate k.toNat v).toArray } }) :=
  .of_wp fun prog w A R s h=>by
    obtain ⟨hp,g,d,tk,os⟩:=s;obtain ⟨hl,h⟩:=h
    rcases hk with rfl | rfl | rfl
    · wp_walk
      exact ⟨_,rfl,h⟩
    · wp_walk
      exact ⟨_,rfl,h⟩
    · wp_walk
      exact ⟨_,rfl,h⟩
def rRep1 (K:PySem.W.Frag):R2:=fun x y H Q=>∃ a v k,x=.ref a/\y=.int k/\SqT K H a [v]/\1 <= k/\k <= 4/\(k=1->Q (.ref a) H)/\(k ≠ 1->∀ p,H p=none->Q (.ref p) (upd H p (.tup (List.replicate k.toNat v))))
theorem vals_rep {v:V} {u:Value} (r:RelV v u):∀ n:Nat,Vals (List.replicate n v) (List.replicate n u)
  | 0=>.nil
  | n + 1=>.cons r (vals_rep r n)
theorem op_rep1:OpR X (binaryOp .Mult) (rRep1 X.K):=by
  intro pins s σ H x y w' u Q I rx ry h
  obtain ⟨a,v,k,rfl,rfl,ha,h1,h4,q1,q2⟩:=h
  cases rx
  obtain ⟨t,rfl⟩:=ry
  obtain ⟨its,r,p1,_⟩:=I.tuple ha
  cases r with
  | cons r1 rr =>
    cases rr
    obtain ⟨⟨cls,dd,data,sl⟩,ho,hc,n,hd⟩:=id p1
    simp only at hc hd
    subst hc hd
    refine wpAny_binaryOp_repeat_ref (T:="tuple") (U:="int") (by decide) ⟨_,ho,rfl⟩ (fun s'=>typeIs_int s' k t) noFill_tuple_mul F.fills_int_mul F.slot_int_rmul repeat_tuple F.slot_int_index.lookup
      (call_meets F.slot_int_rmul (typeIs_int s k t) F.entry_int_rmul (F.args_int_rmul_2 _ _) (rmul_tuple k t a _ n dd sl) ⟨ho,rfl,⟨_,ho,rfl⟩,?_⟩)
    by_cases hk:k=1
    · subst hk
      exact call_meets F.slot_tuple_mul ⟨_,ho,rfl⟩ F.entry_tuple_mul (F.args_tuple_mul_2 _ _) (mul_tuple1 a _ n dd sl t) ⟨ho,⟨.ref a,H,I,rfl,q1 rfl⟩⟩
    · refine call_meets F.slot_tuple_mul ⟨_,ho,rfl⟩ F.entry_tuple_mul (F.args_tuple_mul_2 _ _) (mul_tupleN a _ n dd sl k t (by omega)) ⟨ho,?_⟩
      refine ⟨.ref s.heap.objs.size,_,I.laid (t':=s.toks) (o:=.tup (List.replicate k.toNat v)) (fun b ob q=>Heap.get?_push_of_some _ q) (Nat.le_refl _) ?_,rfl,q2 hk _ (I.hok.fresh (Nat.le_refl _))⟩
      exact ⟨by rw [List.length_replicate];exact Nat.le_trans (show k.toNat <= 1000 by omega) (Nat.le_of_lt (small1000 (Nat.le_refl _))),_,vals_rep r1 _,IsTup.new _ _⟩
end
end L2
namespace L2
open PySem PySem.Spec PyProof.Rows
structure Cal (P:Program) (w:World) (K:PySem.W.Frag) (mg:Str->Option Value) (base:Heap) (k:Nat) (x:Str) (ps:List Str) (sp:Sp):Prop where
  ex:∃ f fd,mg x=some (.ref f)/\PySem.W.keepIn K (.ref f)=true/\Binds K fd ps []/\FnOk P w K mg base CX0 k f fd ps sp
theorem Cal.up {P:Program} {w:World} {K:PySem.W.Frag} {mg:Str->Option Value} {base:Heap} {j k:Nat} {x:Str} {ps:List Str} {sp:Sp} (C:Cal P w K mg base j x ps sp) (h:j <= k):Cal P w K mg base k x ps sp :=
  let ⟨f,fd,a,b,c,d⟩:=C.ex;⟨f,fd,a,b,c,d.mono h⟩
def tCb (sp:Sp) (t:TA):TE:=fun σ H Q=>t σ H fun vs H1=>sp vs H1 Q E0
section
variable {X:Cx} {k:Nat} {x:Str} {ps:List Str} {sp:Sp} {p pos:Pos} {e:Expr} {es:List Expr} {t:TA}
theorem pe_cal (C:Cal X.prog X.w X.K X.mg X.base k x ps sp) (hr:Room k X.A) (hg:Gl X x) (ha:PA X (e :: es) t)
    (hdb:(x == ("__debug__":Str))=false:=by decide) (he:starEach (e :: es) X.env=(false,eval e X.env) :: starEach es X.env:=by rfl) (hpl:(backTo pos (starEach es X.env)).any (·.1)=false:=by rfl) :
    PE X (.Call (.Name x p) (e :: es) [] pos) (tCb sp t):=by
  obtain ⟨f,fd,hm,hk,hb,F⟩:=C.ex
  have h:=pe_call (x:=x) (p:=p) (pos:=pos) F hr hg hm hk hb .nil pass0 ha hdb he hpl
  have e:tCall sp [] E0 t=tCb sp t:=by
    funext σ H Q
    show t σ H (fun vs H1=>sp (vs ++ []) H1 Q E0)=t σ H (fun vs H1=>sp vs H1 Q E0)
    congr 1
    funext vs H1
    rw [List.append_nil]
  rw [<- e];exact h
end
section
variable {K:PySem.W.Frag} {σ0:St} {te:TE} {H:Hp} {F:List V->Hp->Prop}
theorem blk_range {lo:Int} {n:Nat} (hn:n <= sizeLine) (Pv:Nat->List V->Hp->Prop) (h0:Pv 0 [] H) (hl:∀ i ys H,Pv i ys H->ys.length=i) (hσ:σ0[0]?=some none)
    (hs:∀ i ys H,i < n->Pv i ys H->te (σ0.set 0 (some (.int (lo + i)))) H fun y H'=>Pv (i + 1) (ys ++ [y]) H') (hd:∀ ys H,Pv n ys H->F ys H):Blk (Itr lo n) σ0 (gName 0) tTrue te H F:=by
  refine ⟨fun i m ys H=>m=n - i/\i <= n/\Pv i ys H,⟨n,by simp,Nat.zero_le _,h0⟩,?_⟩
  rintro i m ys H2 ⟨rfl,hi,p⟩
  refine ⟨by rw [hl i ys H2 p];omega,?_⟩
  by_cases hlt:i < n
  · refine .inr ⟨hlt,fun y H'=>Pv (i + 1) (ys ++ [y]) H',fun _=>False,fun y H' q=>⟨n - (i + 1),by omega,rfl,hlt,q⟩,fun _ q=>q.elim,fun x H3 y=>?_⟩
    obtain ⟨rfl,rfl⟩:=y
    exact ⟨Wk.set (.inl hσ),hs i ys _ hlt p⟩
  · have e:i=n:=by omega
    subst e
    exact .inl ⟨Nat.le_refl _,hd ys H2 p⟩
theorem blk_tup {a:Addr} {xs:List V} (hn:xs.length <= sizeLine) (Pv:Nat->List V->Hp->Prop) (h0:Pv 0 [] H) (hl:∀ i ys H,Pv i ys H->ys.length=i) (hq:∀ i ys H,i <= xs.length->Pv i ys H->SqT K H a xs) (hσ:σ0[0]?=some none)
    (hs:∀ i ys H x,xs[i]?=some x->Pv i ys H->te (σ0.set 0 (some x)) H fun y H'=>Pv (i + 1) (ys ++ [y]) H') (hd:∀ ys H,Pv xs.length ys H->F ys H):Blk (Itt K a) σ0 (gName 0) tTrue te H F:=by
  refine ⟨fun i m ys H=>m=xs.length - i/\i <= xs.length/\Pv i ys H,⟨xs.length,by simp,Nat.zero_le _,h0⟩,?_⟩
  rintro i m ys H2 ⟨rfl,hi,p⟩
  have q:=hq i ys H2 hi p
  refine ⟨by rw [hl i ys H2 p];omega,?_⟩
  by_cases hlt:i < xs.length
  · refine .inr ⟨⟨xs,xs[i],q,by simp [hlt]⟩,fun y H'=>Pv (i + 1) (ys ++ [y]) H',fun _=>False,fun y H' q=>⟨xs.length - (i + 1),by omega,rfl,hlt,q⟩,fun _ q=>q.elim,fun x H3 y=>?_⟩
    obtain ⟨rfl,y⟩:=y
    exact ⟨Wk.set (.inl hσ),hs i ys _ x (y xs q) p⟩
  · have e:i=xs.length:=by omega
    subst e
    exact .inl ⟨⟨xs,q,Nat.le_refl _⟩,hd ys H2 p⟩
theorem blk_zip {a b:Addr} {xs ys:List V} (hn:xs.length <= sizeLine) (hxy:xs.length=ys.length) (Pv:Nat->List V->Hp->Prop) (h0:Pv 0 [] H) (hl:∀ i zs H,Pv i zs H->zs.length=i)
    (hq:∀ i zs H,i <= xs.length->Pv i zs H->SqT K H a xs/\SqT K H b ys) (hσ:σ0[0]?=some none/\σ0[1]?=some none)
    (hs:∀ i zs H x y p,xs[i]?=some x->ys[i]?=some y->H p=none->Pv i zs H->te ((σ0.set 0 (some x)).set 1 (some y)) (upd H p (.tup [x,y])) fun z H'=>Pv (i + 1) (zs ++ [z]) H') (hd:∀ zs H,Pv xs.length zs H->F zs H) :
    Blk (Itz K a b) σ0 (gTup K 2 (gCons (gName 0) (gCons (gName 1) gNil))) tTrue te H F:=by
  refine ⟨fun i m zs H=>m=xs.length - i/\i <= xs.length/\Pv i zs H,⟨xs.length,by simp,Nat.zero_le _,h0⟩,?_⟩
  rintro i m zs H2 ⟨rfl,hi,p⟩
  obtain ⟨q1,q2⟩:=hq i zs H2 hi p
  refine ⟨by rw [hl i zs H2 p];omega,?_⟩
  by_cases hlt:i < xs.length
  · refine .inr ⟨⟨xs,ys,xs[i],ys[i]'(by omega),q1,q2,by simp [hlt],by rw [List.getElem?_eq_getElem (by omega)]⟩,fun y H'=>Pv (i + 1) (zs ++ [y]) H',fun _=>False,fun y H' q=>⟨xs.length - (i + 1),by omega,rfl,hlt,q⟩,fun _ q=>q.elim,fun v H3 yld=>?_⟩
    obtain ⟨r,x,y,hr,rfl,rfl,hx,hy⟩:=yld
    refine ⟨r,[x,y],rfl,.of upd_same,rfl,x,[y],rfl,y,[],rfl,rfl,?_,?_⟩
    · refine ⟨by simp,fun j u e=>?_⟩
      by_cases h1:j=1
      · subst h1;rw [hσ.2] at e;cases e
      · rw [List.getElem?_set_ne (Ne.symm h1)]
        by_cases h2:j=0
        · subst h2;rw [hσ.1] at e;cases e
        · rw [List.getElem?_set_ne (Ne.symm h2)];exact e
    · exact hs i zs _ x y r (hx xs q1) (hy ys q2) hr p
  · have e:i=xs.length:=by omega
    subst e
    exact .inl ⟨⟨xs,q1,Nat.le_refl _⟩,hd zs H2 p⟩
end
section
variable {X:Cx}
theorem pe_bty {x:Str} {T:String} {pos:Pos} (hg:Gl X x) (hm:X.mg x=none) (hv:bootBuiltins x=some (.type T)) (hn:x ≠ "__name__":=by decide) (hd:(x == ("__debug__":Str))=false:=by decide):PE X (.Name x pos) (tC (.ty T)):=pe_bltn hg hm hv (v:=.ty T) rfl hn hd
theorem pg_c {scope:Scope} {N:List Str} {s:Shared} {H:Hp} {ex:List Addr} {i:Nat} {x:Str} {pos:Pos} (hN:N.Nodup) (hi:N[i]?=some x) (hx:Loc (X.comp scope N s H ex).env.scope x)
    (hf:(X.comp scope N s H ex).fn x=true ∨ (X.comp scope N s H ex).env.scope.names.lookup x=some .local):PG (X.comp scope N s H ex) (.Name x pos) (gName i):=pg_name hN hi hx hf
end
theorem sz {n:Nat} (h:n <= 1000):n <= sizeLine:=Nat.le_of_lt (small1000 h)
end L2
namespace L2
open PySem PySem.Spec PyProof.Rows
section
variable {X:Cx} {K:PySem.W.Frag}
theorem lenK (h:X.K=K):CallR X (.builtin "len") (fun xs H Q=>∃ p ys,xs=[.ref p]/\(SqL K H p ys ∨ SqT K H p ys)/\Q (.int ys.length) H):=by subst h;exact call_len_seq
theorem sumK (h:X.K=K) (hc:X.calm=true):CallR X (.builtin "sum") (fun xs H Q=>∃ (p:Addr) (ns:List Int),xs=[.ref p]/\(SqL K H p (ns.map V.int) ∨ SqT K H p (ns.map V.int))/\Q (.int ns.sum) H):=by subst h;exact call_sum_seq hc
theorem tupK (h:X.K=K):CallR X (.type "tuple") (fun xs H Q=>∃ p ys,xs=[.ref p]/\((SqL K H p ys/\∀ l,H l=none->Q (.ref l) (upd H l (.tup ys))) ∨ (SqT K H p ys/\Q (.ref p) H))):=by subst h;exact call_tuple_of
theorem ixK (h:X.K=K):IxR X (rIxT K):=by subst h;exact ix_tup
theorem ixLK (h:X.K=K):IxR X (rIxL K):=by subst h;exact ix_list
theorem pgtK (h:X.K=K) {es:List Expr} {k:Nat} {t:TGs} {n:Nat} {pos:Pos} (hc:X.calm=true) (hp:PGs X es t)
    (hn:(assignEach es X.env).length=n:=by rfl) (hst:(assignEach es X.env).findIdx? (·.1)=none:=by rfl):PG X (.Tuple es k pos) (gTup K n t):=by subst h;exact pg_tup hc hp hn hst
end
end L2
namespace L2
open PySem PySem.Spec PyProof.Rows
def Hd (h:Heap) (a C:Addr):Option Addr->Prop
  | none=>∃ oe vs,h.get? a=some oe/\oe.cls=.ref C/\oe.dict=none/\oe.data=.fields vs/\vs[1]?=some .none
  | some T=>∃ oe vs oT ts,h.get? a=some oe/\oe.cls=.ref C/\oe.dict=none/\oe.data=.fields vs/\vs[1]?=some (.ref T)/\T ≠ a/\h.get? T=some oT/\oT.data=.fields ts/\ts[3]?=some .none
theorem dict_mapFields (f:Array Value->Array Value) (o:Obj):(Obj.mapFields f o).dict=o.dict:=by
  obtain ⟨c,d,dt,sl⟩:=o
  cases dt <;> rfl
theorem entry_x {M:Model} {A:Around} {E:Value->Shared->Prop} {s:Shared} {bs:Heap} {ev:Env} {out:List Env} {L a C:Addr} {ob:Obj} {us:Array Value} {hdv:Value} {hn:Bool} {Q:Unit->Shared->Prop}
    (fr:A.frames=some (ev :: out)) (ff:s.heap.FunFrames bs (ev :: out)) (fl:ev.frame=some L) (ga:s.heap.get? a=some ob) (gc:ob.cls=.ref C) (gd:ob.dict=none) (gf:ob.data=.fields us) (sz:1 < us.size)
    (k:∀ h' T,Hd h' a C (some T)->s.heap.objs.size <= T->(∀ b o,b ≠ a->b ∉ frs (ev :: out)->s.heap.get? b=some o->h'.get? b=some o) ->
      (∀ b o,b ≠ a->s.heap.get? b=some o->∃ sl,h'.get? b=some { o with slots:=sl })->Q () { s with heap:=h' }) :
    wpAny M A (do let x <- frameOf ev;let pl <- entryPlaceOf L hn;let b <- EntryCells.newEntry hdv x .none (rawInt L) .none pl;setField (.ref a) 1 b) (fun _ s'=>wpAny M A (setFlight (.ref a) none) Q E s') E s:=by
  have na:a ∉ (ev :: out).filterMap (·.frame):=fun hm=>by
    obtain ⟨_,o,ho,hnf⟩:=ff.mem hm
    rw [ga] at ho
    cases ho
    exact hnf us gf
  refine wpAny_bind (wpAny_frameOf_fun fr ff fl fun g1 hs=>?_)
  refine wpAny_bind (wpAny_entryPlaceOf fun pl hpl=>?_)
  unfold EntryCells.newEntry newFields
  refine wpAny_bind (wpAny_newObj_type ?_ (hpl.sizeOk5 _ _ _ _ _))
  have ga1:g1.get? a=some ob:=(hs.2.1 a na).trans ga
  generalize hnew:({ cls:=.type "traceback",dict:=none,data:=.fields ([hdv,.ref L,.none,rawInt L,.none] ++ (if pl.isEmpty then List.replicate 6 Value.none else pl)).toArray }:Obj)=ot
  have ga2:(g1.push ot).get? a=some ob:=Heap.get?_push_of_some (h:=g1) ot ga1
  have gt2:(g1.push ot).get? g1.objs.size=some ot:=Heap.get?_push_size g1 (by rw [<- hnew];rfl)
  have otd:∃ ts,ot.data=.fields ts/\3 < ts.size:=by
    refine ⟨_,by rw [<- hnew],?_⟩
    simp only [List.size_toArray,List.length_append,List.length_cons,List.length_nil]
    omega
  obtain ⟨ts,otd,tsz⟩:=otd
  refine wpAny_setField ga2 gf sz ?_
  have neT:g1.objs.size ≠ a:=Nat.ne_of_gt (Heap.lt_size ga1)
  have d3:=Obj.data_mapFields gf (·.setIfInBounds 1 (Value.ref g1.objs.size))
  have ga3:=Heap.get?_update_self (Obj.mapFields (·.setIfInBounds 1 (Value.ref g1.objs.size))) ga2 (Obj.isFreed_of_fields d3)
  have gt3:((g1.push ot).update a (Obj.mapFields (·.setIfInBounds 1 (Value.ref g1.objs.size)))).get? g1.objs.size=some ot :=
    (Heap.get?_update_other (g1.push ot) (Obj.mapFields (·.setIfInBounds 1 (Value.ref g1.objs.size))) (Ne.symm neT)).trans gt2
  unfold setFlight
  refine wpAny_bind (wpAny_field ga3 d3 (x:=.ref g1.objs.size) (by simp [sz]) ?_)
  rw [if_pos (show (Value.ref g1.objs.size != Value.none)=true from by simp)]
  refine wpAny_setField gt3 otd tsz ?_
  have kp:∀ b o,b ≠ a->g1.get? b=some o ->
      (((g1.push ot).update a (Obj.mapFields (·.setIfInBounds 1 (Value.ref g1.objs.size)))).update g1.objs.size (Obj.mapFields (·.setIfInBounds 3 ((none:Option Addr).elim Value.none fun f=>rawInt f)))).get? b=some o:=by
    intro b o hb e
    have hbT:g1.objs.size ≠ b:=Nat.ne_of_gt (Heap.lt_size e)
    rw [Heap.get?_update_other _ _ hbT,Heap.get?_update_other _ _ (Ne.symm hb)]
    exact Heap.get?_push_of_some _ e
  refine k _ g1.objs.size ⟨_,_,_,_,(Heap.get?_update_other _ _ neT).trans ga3,?_,?_,d3,by simp [sz],neT,Heap.get?_update_self _ gt3 (Obj.isFreed_of_fields (Obj.data_mapFields otd _)),Obj.data_mapFields otd _,?_⟩ (by rw [hs.1];exact Nat.le_refl _) (fun b o hb hf e=>?_) (fun b o hb e=>?_)
  · rw [Obj.cls_mapFields]
    exact gc
  · rw [dict_mapFields]
    exact gd
  · rw [Array.getElem?_setIfInBounds_self_of_lt tsz]
    rfl
  · exact kp b o hb ((hs.2.1 b hf).trans e)
  · obtain ⟨sl,e1⟩:=hs.2.2 b o e
    exact ⟨sl,kp b _ hb e1⟩
theorem note_x {M:Model} {A:Around} {E:Value->Shared->Prop} {s:Shared} {bs:Heap} {ev:Env} {out:List Env} {L a C:Addr} {hd:Option Addr} {Q:Unit->Shared->Prop}
    (fr:A.frames=some (ev :: out)) (ff:s.heap.FunFrames bs (ev :: out)) (fl:ev.frame=some L) (x:Hd s.heap a C hd)
    (k:∀ h' T,Hd h' a C (some T)->s.heap.objs.size <= T->(∀ b o,b ≠ a->hd ≠ some b->b ∉ frs (ev :: out)->s.heap.get? b=some o->h'.get? b=some o) ->
      (∀ b o,b ≠ a->hd ≠ some b->s.heap.get? b=some o->∃ sl,h'.get? b=some { o with slots:=sl })->Q () { s with heap:=h' }) :
    wpAny M A (noteFrame (.ref a) ev) (fun _ s'=>wpAny M A (setFlight (.ref a) none) Q E s') E s:=by
  unfold noteFrame
  simp only [fl]
  cases hd with
  | none =>
    obtain ⟨oe,vs,e1,e2,e3,e4,e5⟩:=x
    refine wpAny_bind (wpAny_field e1 e4 e5 ?_)
    rw [if_neg (by decide)]
    exact entry_x fr ff fl e1 e2 e3 e4 (Array.getElem?_eq_some_iff.mp e5).1 fun h' T q1 q2 q3 q4=>k h' T q1 q2 (fun b o hb _=>q3 b o hb) (fun b o hb _=>q4 b o hb)
  | some T0 =>
    obtain ⟨oe,vs,oT,ts,e1,e2,e3,e4,e5,ne,t1,t2,t3⟩:=x
    refine wpAny_bind (wpAny_field e1 e4 e5 ?_)
    rw [if_pos (show (Value.ref T0 != Value.none)=true from by simp)]
    refine wpAny_bind (wpAny_field t1 t2 t3 ?_)
    rw [if_neg (show ¬ ((Value.none == rawInt L)=true) from by simp [rawInt])]
    refine wpAny_bind (wpAny_setField t1 t2 (Array.getElem?_eq_some_iff.mp t3).1 ?_)
    have ot:∀ b,b ≠ T0->(s.heap.update T0 (Obj.mapFields (·.setIfInBounds 3 Value.none))).get? b=s.heap.get? b:=fun b hb=>Heap.get?_update_other _ _ (Ne.symm hb)
    have nr:∀ b o,s.heap.get? b=some o->(∀ vs,o.data ≠ .fields vs)->b ≠ T0:=fun b o hb hnf q=>by
      rw [q,t1] at hb
      cases hb
      exact hnf ts t2
    refine entry_x fr (ff.of_keeps fun b o hb hnf=>⟨o,(ot b (nr b o hb hnf)).trans hb,rfl⟩) fl ((ot a (Ne.symm ne)).trans e1) e2 e3 e4 (Array.getElem?_eq_some_iff.mp e5).1 fun h' T q1 q2 q3 q4=>?_
    have q2':s.heap.objs.size <= T:=by
      have z:=Heap.size_after_update s.heap T0 (Obj.mapFields (·.setIfInBounds 3 Value.none))
      rw [<- z];exact q2
    exact k h' T q1 q2' (fun b o hb hx hf e=>q3 b o hb hf ((ot b fun z=>hx (by rw [z])).trans e)) (fun b o hb hx e=>q4 b o hb ((ot b fun z=>hx (by rw [z])).trans e))
theorem leave_x {M:Model} {A:Around} {E:Value->Shared->Prop} {s:Shared} {bs:Heap} {ev:Env} {out:List Env} {L a C:Addr} {hd:Option Addr} {Q:Unit->Shared->Prop}
    (fr:A.frames=some (ev :: out)) (ff:s.heap.FunFrames bs (ev :: out)) (fl:ev.frame=some L) (x:Hd s.heap a C hd)
    (k:∀ h' T,Hd h' a C (some T)->s.heap.objs.size <= T->(∀ b o,b ≠ a->hd ≠ some b->b ∉ frs (ev :: out)->s.heap.get? b=some o->h'.get? b=some o) ->
      (∀ b o,b ≠ a->hd ≠ some b->s.heap.get? b=some o->∃ sl,h'.get? b=some { o with slots:=sl })->Q () { s with heap:=h' }) :
    wpAny M A (leaving ev (.ref a)) Q E s:=by
  unfold leaving
  exact wpAny_bind (note_x fr ff fl x k)
end L2
namespace L2
open PySem PySem.Spec PyProof.Rows
theorem ObjOk.there {P:Program} {w:World} {H:Hp} {h:Heap} {a:Addr} {o:HO} (x:ObjOk P w H h a o):∃ u,h.get? a=some u:=by
  cases o with
  | lst xs=>obtain ⟨_,_,_,_,e⟩:=x;exact ⟨_,e⟩
  | tup xs=>obtain ⟨_,_,_,ob,e,_⟩:=x;exact ⟨_,e⟩
  | dK kvs=>obtain ⟨_,_,_,_,ob,_,_,e,_⟩:=x;exact ⟨_,e⟩
  | dT kvs=>obtain ⟨_,_,_,_,ob,_,_,e,_⟩:=x;exact ⟨_,e⟩
  | set S n=>obtain ⟨ob,_,_,_,e,_⟩:=x;exact ⟨_,e⟩
  | ins C dx fs=>obtain ⟨_,_,_,e,_⟩:=x;exact ⟨_,e⟩
  | own y=>exact x
  | xd fs=>obtain ⟨_,⟨_,_,_,e,_⟩,_⟩:=x;exact ⟨_,e⟩
  | rng lo hi=>obtain ⟨_,_,_,e⟩:=x;exact ⟨_,e⟩
  | frz ob u=>obtain ⟨e,_⟩:=x;exact ⟨_,e⟩
  | tbl ps=>exact ⟨_,(show h.get? a=some _ from x)⟩
  | met f y=>exact ⟨_,(show h.get? a=some _ from x)⟩
  | ext φ=>obtain ⟨_,e,_⟩:=x;exact e
theorem HOk.none_of {P:Program} {w:World} {H:Hp} {h:Heap} {a:Addr} (x:HOk P w H h) (e:h.get? a=none):H a=none:=by
  cases z:H a with
  | none=>rfl
  | some u =>
    obtain ⟨o,eo⟩:=(x a u z).there
    rw [e] at eo
    cases eo
structure Fly (P:Program) (w:World) (fs:List Addr) (H:Hp) (s:Shared) (a C:Addr) (H':Hp) (s':Shared):Prop where
  os:s'.os=s.os
  bare:AllBare s'.gens
  un:Un fs [] H H' s.heap s'.heap
  hok:HOk P w H' s'.heap
  exc:∃ T,Hd s'.heap a C (some T)/\s.heap.get? a=none/\s.heap.get? T=none/\H' a=none/\H' T=none
def CX1 (P:Program) (w:World):CXT:=fun outer H s E e s'=>∃ a C H',e=.ref a/\Fly P w (frs outer) H s a C H' s'/\E (.ref C) none H'
theorem un_x {fs:List Addr} {H:Hp} {h h':Heap} {a:Addr} {hd:Option Addr} (ha:H a=none) (ht:∀ T,hd=some T->H T=none) (hf:∀ b ∈ fs,H b=none)
    (k1:∀ b o,b ≠ a->hd ≠ some b->b ∉ fs->h.get? b=some o->h'.get? b=some o) {P:Program} {w:World} (ok:HOk P w H h):HOk P w H h':=fun b o e=>by
  have nt:∀ c u,H c=some u->c ≠ a/\hd ≠ some c/\c ∉ fs:=fun c u q=>by
    refine ⟨fun z=>?_,fun z=>?_,fun z=>?_⟩
    · rw [z,ha] at q;cases q
    · rw [ht c z] at q;cases q
    · rw [hf c z] at q;cases q
  refine (ok b o e).stay (fun c u hc q=>?_) (fun _ q=>q) fun _ _ q=>q
  rcases hc with z | z
  · subst z
    obtain ⟨n1,n2,n3⟩:=nt _ _ e
    exact k1 _ u n1 n2 n3 q
  · obtain ⟨n1,n2,n3⟩:=nt _ _ z
    exact k1 _ u n1 n2 n3 q
theorem fly_out {X:Cx} {pins:List (Addr × Obj)} {σ:St} {H:Hp} {s:Shared} {a C:Addr} {hd:Option Addr} {M:Model} {Q:Unit->Shared->Prop} {E:Value->Shared->Prop} (I:Inv X pins σ H s) (hs:X.stack=X.env :: X.outer) (hf:X.env.frame=some X.env.locals) (hex:X.ex=[])
    (x:Hd s.heap a C hd) (na:X.s₀.heap.get? a=none) (nT:∀ T,hd=some T->X.s₀.heap.get? T=none) (ha:H a=none) (ht:∀ T,hd=some T->H T=none)
    (q:∀ s',Fly X.prog X.w X.fs X.H₀ X.s₀ a C H s'->Q () s'):wpAny M X.A (leaving X.env (.ref a)) Q E s:=by
  have fr:X.A.frames=some (X.env :: X.outer):=by rw [I.ok.frames,hs]
  have ff:s.heap.FunFrames X.base (X.env :: X.outer):=by rw [<- hs];exact I.stack
  have hfs:frs (X.env :: X.outer)=X.env.locals :: X.fs:=by
    unfold frs
    rw [List.filterMap_cons,hf]
    rfl
  refine leave_x fr ff hf x fun h' T k0 k00 k1 k2=>q _ ?_
  have exN:∀ b,b ∉ X.ex:=fun b z=>by rw [hex] at z;cases z
  have neA:∀ b o,X.s₀.heap.get? b=some o->b ≠ a/\hd ≠ some b/\b ≠ X.env.locals:=fun b o e=>by
    refine ⟨fun z=>?_,fun z=>?_,Nat.ne_of_lt (Nat.lt_of_lt_of_le (Heap.lt_size e) I.ok.above)⟩
    · rw [z,na] at e;cases e
    · rw [nT b z] at e;cases e
  refine ⟨I.os,I.bare,⟨fun b o e n hb _=>?_,fun b o e n hb _=>?_,fun b o e n _=>I.base.free b o e n (exN b),fun b o e _=>?_,I.base.tups,I.base.frzs,I.base.tbls⟩,un_x (fs:=frs (X.env :: X.outer)) ha ht (fun b hb=>I.stkFree b (by rw [hs];exact hb)) k1 I.hok,T,k0,na,?_,ha,I.hok.fresh k00⟩
  · obtain ⟨n1,n2,n3⟩:=neA b o e
    exact k1 b o n1 n2 (by rw [hfs];intro z;rcases List.mem_cons.mp z with z | z;exact n3 z;exact hb z) (I.base.keep b o e n hb (exN b))
  · obtain ⟨n1,n2,n3⟩:=neA b o e
    obtain ⟨sl,e1⟩:=I.base.slot b o e n hb (exN b)
    obtain ⟨sl',e2⟩:=k2 b _ n1 n2 e1
    exact ⟨sl',e2⟩
  · obtain ⟨n1,n2,n3⟩:=neA b o e
    obtain ⟨o',e1⟩:=I.base.there b o e (exN b)
    obtain ⟨sl',e2⟩:=k2 b _ n1 n2 e1
    exact ⟨_,e2⟩
  · exact Heap.get?_none_of_le (Nat.le_trans I.sz k00)
theorem none_back {fs:List Addr} {H H':Hp} {h h':Heap} (u:Un fs [] H H' h h') {b:Addr} (e:h'.get? b=none):h.get? b=none:=by
  cases q:h.get? b with
  | none=>rfl
  | some o =>
    obtain ⟨o',e'⟩:=u.there b o q (by simp)
    rw [e'] at e
    cases e
section
variable {P:Program} {w:World} {K:PySem.W.Frag} {mg:Str->Option Value} {base:Heap} {N:List Str} {qual:Str} {scope:Scope} {f:Addr} {cd:Value} {A:Around} {outer:List Env} {s₀:Shared} {H₀:Hp} {E:XK}
theorem passes1:Passes (CX1 P w) (cxOf (CX1 P w) P w K mg base N qual scope f cd A outer s₀ H₀ E) E:=by
  intro pins σ H s e s' I h
  obtain ⟨a,C,H',rfl,F,hE⟩:=h
  obtain ⟨T,x,n1,n2,n3,n4⟩:=F.exc
  have I':=I.call' (ch:=[]) F.os F.un F.hok F.bare (fun b z=>absurd z (by simp))
  exact fly_out I' rfl rfl rfl x (none_back I.base n1) (fun T' z=>by cases z;exact none_back I.base n2) n3 (fun T' z=>by cases z;exact n4) fun s'' F'=>⟨a,C,H',rfl,F',hE⟩
def vE:List Value:=[.type "ValueError",.type "Exception",.type "BaseException",.type "object"]
def XC (K:PySem.W.Frag) (C:Addr):Prop:=PySem.W.excIn K C vE "ValueError.__new__"=true
theorem exc_obj {K:PySem.W.Frag} {h:Heap} {C:Addr} (X:K.In h) (q:XC K C) :
    ∃ bm N nm q bs hdct sn sub ab col dd k0 k1 k2 k3 k5 mN,h.get? C=some (excClassObj nm q C N bs bm hdct sn sub ab col dd k0 k1 k2 k3 k5 "ValueError.__new__")/\h.Ns N mN/\mN "__init__"=none/\OwnTail h vE bm:=by
  unfold XC PySem.W.excIn at q
  split at q
  case h_2=>cases q
  case h_1 dd cd sl ho =>
    split at q
    case h_2=>cases q
    case h_1 C' bm k0 k1 k2 k3 n k5 hm hs =>
      simp only [Bool.and_eq_true,beq_iff_eq,Bool.not_eq_true'] at q
      obtain ⟨⟨⟨⟨⟨z1,z2⟩,hdel⟩,ht⟩,hok⟩,hni⟩:=q
      subst z1
      subst z2
      obtain ⟨nm,bs,mro,ns,qn,hd,sn,sub,ab,col,del⟩:=cd
      dsimp only at hm hdel hok hni
      subst hm hdel
      have hsl:sl=#[k0,k1,k2,k3,some (.builtin "ValueError.__new__"),k5]:=by
        obtain ⟨l⟩:=sl
        simp only at hs
        rw [hs]
      subst hsl
      exact ⟨bm,ns,nm,qn,bs,hd,sn,sub,ab,col,dd,k0,k1,k2,k3,k5,_,X _ _ ho,.of_isNs (PySem.W.isNs_of_in X hok),PySem.W.nsMap_none_of_in X hok hni,PySem.W.tail_of_in X ht⟩
def tRaise (C:Addr) (E:XK) (t:TA):TS:=fun _ σ H=>t σ H fun _ H1=>E (.ref C) none H1
theorem ps_raise {x:Str} {C:Addr} {e:Expr} {es:List Expr} {t:TA} {np cpos pos:Pos} (hg:Gl (cxOf (CX1 P w) P w K mg base N qual scope f cd A outer s₀ H₀ E) x) (hm:mg x=some (.ref C)) (hc:XC K C)
    (ha:PA (cxOf (CX1 P w) P w K mg base N qual scope f cd A outer s₀ H₀ E) (e :: es) t) (hl:(e :: es).length <= 1:=by decide)
    (hdb:(x == ("__debug__":Str))=false:=by decide)
    (he:starEach (e :: es) (envOfC qual scope s₀.heap.objs.size f cd)=(false,eval e (envOfC qual scope s₀.heap.objs.size f cd)) :: starEach es (envOfC qual scope s₀.heap.objs.size f cd):=by rfl)
    (hpl:(backTo cpos (starEach es (envOfC qual scope s₀.heap.objs.size f cd))).any (·.1)=false:=by rfl)
    (hvl:∀ σ H Q,t σ H Q->t σ H fun vs H1=>vs.length <= sizeLine/\Q vs H1) :
    PS (cxOf (CX1 P w) P w K mg base N qual scope f cd A outer s₀ H₀ E) (.Raise (some (.Call (.Name x np) (e :: es) [] cpos)) none pos) (tRaise C E t):=by
  intro pins s σ H D I h
  obtain ⟨bm,NN,nm,q,bs,hdct,sn,sub,ab,col,dd,k0,k1,k2,k3,k5,mN,hC,hN,hni,T⟩:=exc_obj I.ok.mod.kin hc
  have FB:=PySem.F.excBase_ValueError
  refine wpAny_Raise_call_subT (C:=C) (nm:=nm) (q:=q) (N:=NN) (bs:=bs) (bm:=bm) (hdct:=hdct) (sn:=sn) (sub:=sub) (ab:=ab) (col:=col) (dd:=dd) (k0:=k0) (k1:=k1) (k2:=k2) (k3:=k3) (k5:=k5)
    FB (mN:=mN) (T.hasType FB.hasBase) (I.ok.hd rfl) ?_ hni (ld_glob I hg hm ⟨rfl,?_⟩ hdb)
  · show (backTo cpos (starEach (e :: es) (envOfC qual scope s₀.heap.objs.size f cd))).any (·.1)=false
    rw [he]
    show (false || (backTo cpos (starEach es (envOfC qual scope s₀.heap.objs.size f cd))).any (·.1))=false
    rw [hpl]
    rfl
  · have hq:=ha cpos pins s σ H _ I (hvl _ _ _ h)
    show wpAny _ _ (evalArgs (.ref C) true (backTo cpos (starEach (e :: es) (envOfC qual scope s₀.heap.objs.size f cd))) []) _ _ s
    have hq':wpAny (model P w) (A.deeper (envOfC qual scope s₀.heap.objs.size f cd)) (spliced (backTo cpos (starEach (e :: es) (envOfC qual scope s₀.heap.objs.size f cd)))) _ _ s:=hq
    rw [he] at hq' ⊢
    refine Calls.evalArgs_plain (wpAny_mono hq' (fun us s2 ⟨vs,H2,I2,r,lv,hE⟩=>⟨rfl,?_,I2.bk _ _ hC,hN.keeps I2.bk,T.keeps I2.bk,fun h' a mk=>?_⟩) fun _ _ y=>y)
    · show us.length <= sizeLine
      rw [<- r.length]
      exact lv
    · obtain ⟨t,ea,tn,et⟩:=mk.there
      have ha:H2 a=none:=I2.hok.none_of mk.new
      have I3:Inv (cxOf (CX1 P w) P w K mg base N qual scope f cd A outer s₀ H₀ E) pins σ H2 { s2 with heap:=h' }:=I2.kept mk.keeps
      exact fly_out (hd:=none) I3 rfl rfl rfl ⟨_,_,ea,rfl,rfl,rfl,rfl⟩ (none_back I2.base mk.new) (fun T' z=>by cases z) ha (fun T' z=>by cases z) fun s'' F'=>⟨a,C,H2,rfl,F',hE⟩
end
end L2
namespace L2
open PySem PySem.Spec PyProof.Rows
abbrev KN (o:Obj):HO:=.frz o (.ext fun _=>True)
section
variable {P:Program} {w:World} {fs:List Addr} {H H':Hp} {s s':Shared} {a C:Addr} {M:Model} {A:Around} {E:Value->Shared->Prop} {Q:Unit->Shared->Prop}
end
end L2
namespace L2
open PySem PySem.Spec PyProof.Rows
end L2
namespace L2
open PySem PySem.Spec PyProof.Rows
structure XI (K:PySem.W.Frag) (C:Addr):Prop where
  ga:PySem.W.findIn K (.ref C) "__getattribute__"=some (some (.builtin "BaseException.__getattribute__"))
  gt:PySem.W.findIn K (.ref C) "__getattr__"=some none
  sb:PySem.W.subIn K (.ref C) (.type "BaseException")=some true
  hc:(PySem.W.clsIn K C).isSome=true
  ha:PySem.W.findIn K (.ref C) "__class__"=some (some (.builtin "object.__class__"))
  hn:PySem.W.specialIn K (.builtin "object.__class__") "__get__"=some (some (.builtin "getset_descriptor.__get__"))
  tk:PySem.W.takesIn K (.builtin "object.__class__")=some true
  hm:PySem.W.mroIn K C (.type "object")=some true
end L2
namespace L2
open PySem PySem.Spec PyProof.Rows
def Cel (cl:List (Str × Addr)) (b:Addr):Prop:=∃ x,cl.lookup x=some b
open Classical in
noncomputable def offC (cl:List (Str × Addr)) (H:Hp):Hp:=fun b=>if Cel cl b then none else H b
open Classical in
noncomputable def onC (cl:List (Str × Addr)) (H H':Hp):Hp:=fun b=>if Cel cl b then H b else H' b
def CelK (cl:List (Str × Addr)) (H:Hp):Prop:=∀ x c,cl.lookup x=some c->∃ oc v,H c=some (KN oc)/\oc.data=.cell v
section
variable {P:Program} {w:World} {fs:List Addr} {cl:List (Str × Addr)} {H H':Hp} {h h':Heap}
end
structure LamX (X:Cx) (T:Addr):Prop where
  code:∃ c,X.env.code=.ref c/\PySem.W.CodeHd X.base c T
  blt:X.base.BuiltinsAt X.mg T
end L2
namespace L2
open PySem PySem.Spec PyProof.Rows
section
variable {P:Program} {w:World} {K:PySem.W.Frag} {mg:Str->Option Value} {base:Heap} {N:List Str} {qual:Str} {scope:Scope} {f:Addr} {cd:Value} {cl:List (Str × Addr)} {A:Around} {outer:List Env} {s₀:Shared} {H₀:Hp} {E:XK}
end
structure LamScope (cl:List (Str × Addr)) (scope:Scope):Prop where
  kind:scope.kind=.function
  co:scope.isCoroutine=false
  gen:scope.isGenerator=false
  nocell:∀ x ∈ scope.names,x.2 ≠ .cell
  inj:∀ x y c,cl.lookup x=some c->cl.lookup y=some c->x=y
  has:∀ x,scope.names.lookup x=some .free->∃ c,cl.lookup x=some c
structure FrzX (X:Cx) (σ:St) (H Hf:Hp):Prop where
  out:∀ b,¬ Cel X.env.cells b->Hf b=H b
  none:∀ b,Cel X.env.cells b->H b=none
  cell:CelK X.env.cells Hf
  val:∀ (i:Nat) (x:Str) (v:V),X.N[i]?=some x->σ[i]?=some (some v)->(X.env.kindOf x=some .cell ∨ X.env.kindOf x=some .free)->∃ c oc u,X.env.cells.lookup x=some c/\Hf c=some (KN oc)/\oc.data=.cell (some u)/\RelV v u
open Classical in
noncomputable def frzAll (cl:List (Str × Addr)) (h:Heap) (H:Hp):Hp:=fun b=>if Cel cl b then (h.get? b).map (fun o=>KN o) else H b
end L2
namespace L2
open PySem PySem.Spec PyProof.Rows
abbrev TJ:=St->Hp->(Hp->Prop)->Prop
def PJ (X:Cx) (es:List Expr) (n:Nat) (t:TJ):Prop :=
  ∀ (acc:Str),acc.length <= n->∀ (pins:List (Addr × Obj)) (s:Shared) (σ:St) (H:Hp) (Q:Hp->Prop),Inv X pins σ H s->t σ H Q ->
    wpAny (model X.prog X.w) X.A (joinParts acc (evalEach es X.env)) (fun u s'=>∃ z H',Inv X pins σ H' s'/\RelV (.str z) u/\Q H') X.xe s
section
variable {X:Cx} {es:List Expr} {n:Nat} {t:TJ}
theorem pj_nil (h:n <= sizeLine:=by decide):PJ X [] n (fun _ H Q=>Q H):=by
  intro acc ha pins s σ H Q I q
  exact joinParts_nil (s:=s) ⟨acc,H,I.tok _,⟨_,rfl⟩,q⟩ (Nat.le_trans ha h)
theorem pj_str {x:Str} {j:Nat} {pos:Pos} (h:PJ X es (n + x.length) t) (hz:n + x.length <= sizeLine:=by decide):PJ X (.Constant (.str x) j pos :: es) n t:=by
  intro acc ha pins s σ H Q I q
  show wpAny _ _ (joinParts acc (eval (.Constant (.str x) j pos) X.env :: evalEach es X.env)) _ _ _
  refine joinParts_cons (Calls.Constant_str ⟨?_,?_⟩)
  · rw [strLen_append];omega
  · exact h (acc ++ x) (by rw [strLen_append];omega) pins _ σ H Q (I.tok _) q
theorem pj_fmt {e:Expr} {te:TE} {pos:Pos} (he:PE X e te) (h:PJ X es (n + 100) t) (hz:n + 100 <= sizeLine:=by decide) :
    PJ X (.FormattedValue e (-1) none pos :: es) n (fun σ H Q=>te σ H fun v H1=>∃ i:Int,v=.int i/\i.natAbs.log2 < 1920/\(toString i:Str).length <= 100/\t σ H1 Q):=by
  intro acc ha pins s σ H Q I q
  show wpAny _ _ (joinParts acc (eval (.FormattedValue e (-1) none pos) X.env :: evalEach es X.env)) _ _ _
  refine joinParts_cons (FormattedValue_plain (thn (he pins s σ H _ I q) fun u s1 ⟨v,H1,I1,r,i,ev,hl,hz',q1⟩=>?_))
  subst ev
  obtain ⟨tk,rfl⟩:=r
  refine formatField_int_small hl ⟨?_,?_⟩
  · rw [strLen_append];omega
  · exact h _ (by rw [strLen_append];omega) pins _ σ H1 Q (I1.tok _) q1
theorem pe_fstr {v1 v2:Expr} {rest:List Expr} {pos:Pos} (h:PJ X (v1 :: v2 :: rest) 0 t):PE X (.JoinedStr (v1 :: v2 :: rest) pos) (fun σ H Q=>t σ H fun H1=>∀ z,Q (.str z) H1):=by
  intro pins s σ H Q I q
  exact JoinedStr_many (thn (h Str.empty (Nat.le_refl _) pins s σ H _ I q) fun u s1 ⟨z,H1,I1,r,q1⟩=>⟨.str z,H1,I1,r,q1 z⟩)
end
theorem pass10 {P:Program} {w:World} {X:Cx}:Passes (CX1 P w) X E0:=fun _ _ _ _ _ _ _ h=>by
  obtain ⟨_,_,_,_,_,z⟩:=h
  exact z.elim
section
variable {P:Program} {w:World} {K:PySem.W.Frag} {mg:Str->Option Value} {base:Heap}
theorem Fun.okX {x qual:Str} {st:Stmt} {f:Addr} {fd:FuncData} {N ps:List Str} {k:Nat} {sp:Sp} (F:Fun K x qual st f fd) (S:FnScope N ps (defScope st)) (len:∀ vs H Q E,sp vs H Q E->vs.length=ps.length)
    (hbody:∀ (cdv:Value) (A:Around) (outer:List Env) (s:Shared) (H:Hp) (vs:List V) (Q:VK) (E:XK),Room k (A.deeper (envOfC qual (defScope st) s.heap.objs.size f cdv))->sp vs H Q E ->
      ∃ t,PSs (cxOf (CX1 P w) P w K mg base N qual (defScope st) f cdv A outer s H E) (defBody st) t/\t { nx:=fun _ H'=>Q .non H',rt:=Q } (start N vs) H):FnOk P w K mg base (CX1 P w) (k + 1) f fd ps sp:=by
  obtain ⟨oc,od,kV,doc,pm,an,cdv,ct,osl,rfl,lk,hcd⟩:=F.ex
  exact fn_of lk hcd S len fun A outer s H vs Q E hr hsp=>hbody cdv A outer s H vs Q E hr hsp
end
section
variable {P:Program} {w:World} {K:PySem.W.Frag} {mg:Str->Option Value} {base:Heap} {N:List Str} {qual:Str} {scope:Scope} {f:Addr} {cd:Value} {A:Around} {outer:List Env} {s₀:Shared} {H₀:Hp} {E:XK}
theorem ps_raise1 {x:Str} {C:Addr} {e:Expr} {te:TE} {np cpos pos:Pos} (hm:mg x=some (.ref C)) (hc:XC K C) (he:PE (cxOf (CX1 P w) P w K mg base N qual scope f cd A outer s₀ H₀ E) e te)
    (hmono:∀ σ H (Q Q':VK),(∀ v H1,Q v H1->Q' v H1)->te σ H Q->te σ H Q')
    (hg:Gl (cxOf (CX1 P w) P w K mg base N qual scope f cd A outer s₀ H₀ E) x:=by rfl)
    (hdb:(x == ("__debug__":Str))=false:=by decide)
    (hst:starEach [e] (envOfC qual scope s₀.heap.objs.size f cd)=(false,eval e (envOfC qual scope s₀.heap.objs.size f cd)) :: starEach [] (envOfC qual scope s₀.heap.objs.size f cd):=by rfl) :
    PS (cxOf (CX1 P w) P w K mg base N qual scope f cd A outer s₀ H₀ E) (.Raise (some (.Call (.Name x np) [e] [] cpos)) none pos) (fun _ σ H=>te σ H fun _ H1=>E (.ref C) none H1):=by
  have h:=ps_raise (E:=E) (pos:=pos) (np:=np) (cpos:=cpos) (t:=tCons te tNil) hg hm hc (pa_cons he pa_nil (hs:=hst)) (Nat.le_refl _) hdb hst rfl (fun σ H Q q=>hmono _ _ _ _ (fun v H1 z=>⟨by show 1 <= sizeLine;decide,z⟩) q)
  exact h
end
end L2
namespace L2
open PySem PySem.Spec PyProof.Rows
end L2
namespace L2
open PySem PySem.Spec PyProof.Rows
structure CalX (P:Program) (w:World) (K:PySem.W.Frag) (mg:Str->Option Value) (base:Heap) (k:Nat) (x:Str) (ps:List Str) (sp:Sp):Prop where
  ex:∃ f fd,mg x=some (.ref f)/\PySem.W.keepIn K (.ref f)=true/\Binds K fd ps []/\FnOk P w K mg base (CX1 P w) k f fd ps sp
theorem CalX.up {P:Program} {w:World} {K:PySem.W.Frag} {mg:Str->Option Value} {base:Heap} {j k:Nat} {x:Str} {ps:List Str} {sp:Sp} (C:CalX P w K mg base j x ps sp) (h:j <= k):CalX P w K mg base k x ps sp :=
  let ⟨f,fd,a,b,c,d⟩:=C.ex;⟨f,fd,a,b,c,d.mono h⟩
def tCx (sp:Sp) (E:XK) (t:TA):TE:=fun σ H Q=>t σ H fun vs H1=>sp vs H1 Q E
section
variable {X:Cx} {k:Nat} {x:Str} {ps:List Str} {sp:Sp} {p pos:Pos} {e:Expr} {es:List Expr} {t:TA} {E:XK}
theorem pe_calx (C:CalX X.prog X.w X.K X.mg X.base k x ps sp) (hr:Room k X.A) (hg:Gl X x) (hx:Passes (CX1 X.prog X.w) X E) (ha:PA X (e :: es) t)
    (hdb:(x == ("__debug__":Str))=false:=by decide) (he:starEach (e :: es) X.env=(false,eval e X.env) :: starEach es X.env:=by rfl) (hpl:(backTo pos (starEach es X.env)).any (·.1)=false:=by rfl) :
    PE X (.Call (.Name x p) (e :: es) [] pos) (tCx sp E t):=by
  obtain ⟨f,fd,hm,hk,hb,F⟩:=C.ex
  have h:=pe_call (x:=x) (p:=p) (pos:=pos) F hr hg hm hk hb .nil hx ha hdb he hpl
  have e:tCall sp [] E t=tCx sp E t:=by
    funext σ H Q
    show t σ H (fun vs H1=>sp (vs ++ []) H1 Q E)=t σ H (fun vs H1=>sp vs H1 Q E)
    congr 1
    funext vs H1
    rw [List.append_nil]
  rw [<- e];exact h
end
structure Errs (K:PySem.W.Frag) (mg:Str->Option Value) (c:Nat->Addr) (B:Addr):Prop where
  e0:mg "NoUrn"=some (.ref (c 0))
  e1:mg "NoRule"=some (.ref (c 1))
  e2:mg "NoKind"=some (.ref (c 2))
  e3:mg "NoBall"=some (.ref (c 3))
  e4:mg "NoDraws"=some (.ref (c 4))
  e5:mg "NoNumber"=some (.ref (c 5))
  e6:mg "NotEven"=some (.ref (c 6))
  e7:mg "NoCounts"=some (.ref (c 7))
  e8:mg "NotAlike"=some (.ref (c 8))
  e9:mg "BadNote"=some (.ref (c 9))
  eb:mg "UrnError"=some (.ref B)
  xc:∀ i,i < 10->XC K (c i)
  xi:∀ i,i < 10->XI K (c i)
  sub:∀ i,i < 10->PySem.W.kitCls K (.ref (c i)) (.ref B)=some true
  bb:PySem.W.subIn K (.ref B) (.type "BaseException")=some true
  one:∀ i j,i < 10->j < 10->PySem.W.kitOne K (.ref (c i)) (.ref (c j))=some (decide (i=j))
  val:∀ i,i < 10->PySem.W.kitOne K (.ref (c i)) (.type "ValueError")=some true
def Sm (i:Int):Prop:=i.natAbs.log2 < 1920/\(toString i:Str).length <= 100
end L2
namespace L2
open PySem PySem.Spec PyProof.Rows
section
variable {X:Cx} {pins:List (Addr × Obj)} {σ:St} {H:Hp} {s:Shared}
theorem Inv.bigger (I:Inv X pins σ H s):sysModules < s.heap.objs.size:=by
  obtain ⟨mc,⟨o,es,ep,e,_⟩,_⟩:=I.nolimit
  exact Nat.lt_of_le_of_lt (by decide) (Heap.lt_size e)
def tDNew:TE:=fun _ H Q=>∀ p,H p=none->Q (.ref p) (upd H p (.dK []))
theorem pe_dnew {pos:Pos}:PE X (.Dict [] [] pos) tDNew:=fun pins s σ H Q I h =>
  wpAny_Dict_empty ⟨.ref s.heap.objs.size,_,I.laid (a:=s.heap.objs.size) (o:=.dK []) (t':=s.toks) (fun _ _ q=>Heap.get?_push_of_some _ q) (Nat.le_refl _)
    ⟨Nat.zero_le _,beq_eq_false_iff_ne.mpr (Ne.symm (Nat.ne_of_lt I.bigger)),[],.nil,Heap.DictOf.new s.heap⟩,rfl,h _ (I.hok.fresh (Nat.le_refl _))⟩
end
section
variable {K:PySem.W.Frag} {σ0:St} {te:TE} {H:Hp} {F:List V->Hp->Prop}
theorem blk_list {a:Addr} {xs:List V} (hn:xs.length <= sizeLine) (Pv:Nat->List V->Hp->Prop) (h0:Pv 0 [] H) (hl:∀ i ys H,Pv i ys H->ys.length=i) (hq:∀ i ys H,i <= xs.length->Pv i ys H->SqL K H a xs) (hσ:σ0[0]?=some none)
    (hs:∀ i ys H x,xs[i]?=some x->Pv i ys H->te (σ0.set 0 (some x)) H fun y H'=>Pv (i + 1) (ys ++ [y]) H') (hd:∀ ys H,Pv xs.length ys H->F ys H):Blk (Itl K a) σ0 (gName 0) tTrue te H F:=by
  refine ⟨fun i m ys H=>m=xs.length - i/\i <= xs.length/\Pv i ys H,⟨xs.length,by simp,Nat.zero_le _,h0⟩,?_⟩
  rintro i m ys H2 ⟨rfl,hi,p⟩
  have q:=hq i ys H2 hi p
  refine ⟨by rw [hl i ys H2 p];omega,?_⟩
  by_cases hlt:i < xs.length
  · refine .inr ⟨⟨xs,xs[i],q,by simp [hlt]⟩,fun y H'=>Pv (i + 1) (ys ++ [y]) H',fun _=>False,fun y H' q=>⟨xs.length - (i + 1),by omega,rfl,hlt,q⟩,fun _ q=>q.elim,fun x H3 y=>?_⟩
    obtain ⟨rfl,y⟩:=y
    exact ⟨Wk.set (.inl hσ),hs i ys _ x (y xs q) p⟩
  · have e:i=xs.length:=by omega
    subst e
    exact .inl ⟨⟨xs,q,Nat.le_refl _⟩,hd ys H2 p⟩
end
end L2
namespace L2
open PySem PySem.Spec PyProof.Rows
section
variable {X:Cx} {es:List Expr} {te:TE} {t:TA}
end
end L2
namespace L2
open PySem PySem.Spec PyProof.Rows
end L2
namespace L2
open PySem PySem.Spec PyProof.Rows
structure Clo (X:Cx):Prop where
  inj:∀ x y c,X.env.cells.lookup x=some c->X.env.cells.lookup y=some c->x=y
  has:∀ x,(X.env.kindOf x=some .cell ∨ X.env.kindOf x=some .free)->∃ c,X.env.cells.lookup x=some c
section
variable {X:Cx} {σ:L2.St} {H Hf:Hp} {scope:Scope}
end
end L2
namespace L2
open PySem PySem.Spec PyProof.Rows
section
variable {X:Cx}
end
end L2
namespace L2
open PySem PySem.Spec PyProof.Rows
section
variable {X:Cx} {scope:Scope} {N:List Str} {ix:List (Option Nat)} {elt target iter:Expr} {ifs:List Expr} {pos:Pos} {wi:TI} {g:TG} {tc:TT}
end
end L2
namespace L2
open PySem PySem.Spec PyProof.Rows
section
variable {X:Cx}
end
end L2
namespace L2
open PySem PySem.Spec PyProof.Rows
end L2
namespace L2
open PySem PySem.Spec PyProof.Rows
section
variable (P:Program) (w:World)
end
section
variable {P:Program} {w:World} {H H':Hp} {h h':Heap} {a:Addr} {o:HO}
end
section
variable {P:Program} {w:World} {H:Hp} {h h':Heap} {x e:Addr} {o':HO}
end
section
variable {fs fs' ex ex':List Addr} {H H1 H2:Hp} {h h1 h2 h':Heap} {a x e:Addr} {o:HO}
end
end L2
namespace L2
open PySem PySem.Spec PyProof.Rows
section
variable {X:Cx} {pins:List (Addr × Obj)} {σ:List (Option V)} {H H':Hp} {s:Shared} {h':Heap}
end
end L2
namespace L2
open PySem PySem.Spec PyProof.Rows
section
variable {X:Cx}
variable {a b:Expr} {ta tb:TE} {pos:Pos}
variable {tA tB':TT} {rest:List Expr}
end
end L2
namespace L2
open PySem PySem.Spec PyProof.Rows
section
variable {X:Cx} {pins:List (Addr × Obj)} {σ:St} {H:Hp} {s:Shared} {a:Addr} {xs ys:List V}
end
section
variable {X:Cx} {pins:List (Addr × Obj)} {σ:St} {H:Hp} {s:Shared} {E:Value->Shared->Prop}
end
section
variable {X:Cx} {st:Stmt} {rest:List Stmt} {t u:TS} {e:Expr} {te:TE} {pos:Pos}
end
section
variable {X:Cx} {pos:Pos}
end
section
variable {X:Cx} {pos:Pos}
end
end L2
namespace L2
open PySem PySem.Spec PyProof.Rows
section
variable {X:Cx} {tg:Expr}
end
end L2
namespace L2
open PySem PySem.Spec PyProof.Rows
section
variable {X:Cx} {a b c:Expr} {ta tb tc:TE} {pos:Pos}
end
section
variable {X:Cx} {a b c:Expr} {ta tb tc:TE} {pos:Pos}
end
end L2
namespace L2
open PySem PySem.Spec PyProof.Rows
section
variable {prog:Program} {w:World} {A:Around} {E:Value->Shared->Prop} {s:Shared} {K:PySem.W.Frag} {x dx C f:Addr} {mA:Str->Option Value} {name:Str} {v:Value}
end
section
variable {P:Program} {w:World} {H H':Hp} {h h':Heap} {a C dx:Addr} {fs fs':List (Str × V)}
end
section
variable {X:Cx} {pins:List (Addr × Obj)} {σ:St} {H:Hp} {s:Shared} {a C dx:Addr} {fs:List (Str × V)} {f:Str} {v:V} {A:Around} {E:Value->Shared->Prop}
end
section
variable {X:Cx} {o e value:Expr} {f:Str} {pos pos' tpos:Pos} {ta tv:TE}
end
section
variable {X:Cx} {pins:List (Addr × Obj)} {σ:St} {H:Hp} {s:Shared} {A:Around} {E:Value->Shared->Prop} {Q:Value->Shared->Prop} {c:Value} {b:Bool}
end
end L2
namespace L2
open PySem PySem.Spec PyProof.Rows
section
variable {X:Cx} {e:Expr} {es:List Expr} {te:TE} {t:TA} {pos:Pos}
end
section
variable {X:Cx} {pins:List (Addr × Obj)} {σ:St} {H:Hp} {s s':Shared}
end
section
variable {X:Cx} {CX:CXT} {k:Nat} {f C:Addr} {fd:FuncData} {ps:List Str} {sp:Sp} {dvs:List V} {ds:List Value} {E:XK} {x m:Str} {p pos apos:Pos} {e o:Expr} {es:List Expr} {ta:TE} {t:TA}
end
section
variable {X:Cx} {CX:CXT} {k:Nat} {f C:Addr} {fd:FuncData} {ps ks:List Str} {sp:Sp} {E:XK} {x m:Str} {p pos apos kpos:Pos} {e o:Expr} {es:List Expr} {kws:List Keyword} {te ta:TE} {t tk:TA} {nm:Option Str}
variable {g:List Value->List Value->List Value} {gV:List V->List V->List V}
end
end L2
namespace L2
open PySem PySem.Spec PyProof.Rows
section
variable {X:Cx} {x:Str} {p pos:Pos} {e:Expr} {es:List Expr} {t:TA} {id T:String} {r:List V->Hp->VK->Prop}
end
end L2
namespace L2
open PySem PySem.Spec PyProof.Rows
section
variable {κ:Type} [DecidableEq κ]
def valV (kvs:List (κ × V)) (k:κ):Option V:=(kvs.find? fun kv=>decide (kv.1=k)).map (·.2)
def putK (kvs:List (κ × V)) (k:κ) (v:V):List (κ × V) :=
  if (kvs.any fun kv=>decide (kv.1=k))=true then kvs.map (fun kv=>if kv.1=k then (kv.1,v) else kv) else kvs ++ [(k,v)]
theorem valV_pos {p:κ × V} {r:List (κ × V)} {k:κ} (e:p.1=k):valV (p :: r) k=some p.2:=by simp [valV,List.find?_cons,e]
theorem valV_neg {p:κ × V} {r:List (κ × V)} {k:κ} (e:¬ p.1=k):valV (p :: r) k=valV r k:=by simp [valV,List.find?_cons,e]
theorem valV_any (k:κ):∀ kvs:List (κ × V),(kvs.any fun kv=>decide (kv.1=k))=(valV kvs k).isSome
  | []=>rfl
  | p :: r=>by
    rw [List.any_cons]
    by_cases e:p.1=k
    · simp only [valV_pos e,decide_eq_true e,Bool.true_or,Option.isSome_some]
    · rw [valV_neg e,decide_eq_false e,Bool.false_or];exact valV_any k r
theorem valV_map (k j:κ) (y:V):∀ kvs:List (κ × V),valV (kvs.map fun kv=>if kv.1=k then (kv.1,y) else kv) j=(valV kvs j).map fun x=>if j=k then y else x
  | []=>rfl
  | p :: r=>by
    have ih:=valV_map k j y r
    rw [List.map_cons]
    by_cases h:p.1=k
    · rw [if_pos h]
      by_cases e:p.1=j
      · rw [valV_pos (p:=(p.1,y)) e,valV_pos e,Option.map_some,if_pos (e.symm.trans h)]
      · rw [valV_neg (p:=(p.1,y)) e,valV_neg e,ih]
    · rw [if_neg h]
      by_cases e:p.1=j
      · rw [valV_pos (p:=p) e,valV_pos e,Option.map_some,if_neg (fun z=>h (e.trans z))]
      · rw [valV_neg (p:=p) e,valV_neg e,ih]
theorem valV_snoc (k j:κ) (y:V):∀ kvs:List (κ × V),valV kvs k=none->valV (kvs ++ [(k,y)]) j=if j=k then some y else valV kvs j
  | [],_=>by
    by_cases e:k=j
    · rw [if_pos e.symm];exact valV_pos (p:=(k,y)) e
    · rw [if_neg (fun z=>e z.symm)];exact valV_neg (p:=(k,y)) e
  | p :: r,hn=>by
    rw [List.cons_append]
    have hk:¬ p.1=k:=fun z=>by rw [valV_pos z] at hn;cases hn
    rw [valV_neg hk] at hn
    have ih:=valV_snoc k j y r hn
    by_cases e:p.1=j
    · rw [valV_pos e,valV_pos e,if_neg (fun z=>hk (e.trans z))]
    · rw [valV_neg e,valV_neg e,ih]
theorem valV_put (kvs:List (κ × V)) (k j:κ) (y:V):valV (putK kvs k y) j=if j=k then some y else valV kvs j:=by
  unfold putK
  by_cases a:(kvs.any fun kv=>decide (kv.1=k))=true
  · rw [if_pos a,valV_map]
    rw [valV_any] at a
    by_cases e:j=k
    · obtain ⟨x,hx⟩:=Option.isSome_iff_exists.mp a
      rw [if_pos e,e,hx,Option.map_some,if_pos rfl]
    · rw [if_neg e]
      cases valV kvs j with
      | none=>rfl
      | some x=>rw [Option.map_some,if_neg e]
  · rw [if_neg a]
    refine valV_snoc k j y kvs ?_
    rw [valV_any] at a
    cases q:valV kvs k with
    | none=>rfl
    | some x=>rw [q] at a;exact (a rfl).elim
theorem length_putK (kvs:List (κ × V)) (k:κ) (v:V):(putK kvs k v).length <= kvs.length + 1:=by
  unfold putK
  split
  · rw [List.length_map];omega
  · rw [List.length_append,List.length_cons,List.length_nil];omega
theorem putK_new {kvs:List (κ × V)} {k:κ} (v:V) (h:valV kvs k=none):putK kvs k v=kvs ++ [(k,v)]:=by
  unfold putK
  rw [valV_any,h]
  exact if_neg (by decide)
theorem RelO.isSome_eq {o:Option V} {u:Option Value} (r:RelO o u):o.isSome=u.isSome:=by
  cases o with
  | none=>cases u with
    | none=>rfl
    | some _=>exact (show False from r).elim
  | some _=>cases u with
    | none=>exact (show False from r).elim
    | some _=>rfl
theorem RelO.getD {o:Option V} {u:Option Value} {d:V} {d':Value} (r:RelO o u) (rd:RelV d d'):RelV (o.getD d) (u.getD d'):=by
  cases o with
  | none=>cases u with
    | none=>exact rd
    | some _=>exact (show False from r).elim
  | some _=>cases u with
    | none=>exact (show False from r).elim
    | some _=>exact r
theorem KV.val {kvs:List (κ × V)} {vs:List (κ × Value)} (r:KV kvs vs) (k:κ):RelO (valV kvs k) (valueAt vs k):=by
  unfold KV at r
  induction r with
  | nil=>exact True.intro
  | @cons p q ps qs h t ih =>
    obtain ⟨h1,h2⟩:=h
    by_cases e:p.1=k
    · have e':q.1=k:=h1.symm.trans e
      have b:valueAt (q :: qs) k=some q.2:=by simp [valueAt,List.find?_cons,e']
      rw [valV_pos e,b];exact h2
    · have e':¬ q.1=k:=fun z=>e (h1.trans z)
      have b:valueAt (q :: qs) k=valueAt qs k:=by simp [valueAt,List.find?_cons,e']
      rw [valV_neg e,b];exact ih
theorem KV.any {kvs:List (κ × V)} {vs:List (κ × Value)} (r:KV kvs vs) (k:κ):(kvs.any fun kv=>decide (kv.1=k))=vs.any fun kv=>decide (kv.1=k):=by
  unfold KV at r
  induction r with
  | nil=>rfl
  | cons h t ih=>rw [List.any_cons,List.any_cons,ih,h.1]
theorem KV.repl {kvs:List (κ × V)} {vs:List (κ × Value)} (r:KV kvs vs) (k:κ) {y:V} {u:Value} (ry:RelV y u) :
    KV (kvs.map fun kv=>if kv.1=k then (kv.1,y) else kv) (vs.map fun kv=>if kv.1=k then (kv.1,u) else kv):=by
  unfold KV at r ⊢
  induction r with
  | nil=>exact .nil
  | @cons p q ps qs h t ih =>
    rw [List.map_cons,List.map_cons]
    refine .cons ?_ ih
    obtain ⟨h1,h2⟩:=h
    by_cases e:p.1=k
    · rw [if_pos e,if_pos (h1.symm.trans e)];exact ⟨h1,ry⟩
    · rw [if_neg e,if_neg (fun z=>e (h1.trans z))];exact ⟨h1,h2⟩
theorem KV.put {kvs:List (κ × V)} {vs:List (κ × Value)} (r:KV kvs vs) (k:κ) {y:V} {u:Value} (ry:RelV y u):KV (putK kvs k y) (stored vs k u):=by
  unfold putK stored
  rw [r.any k]
  by_cases e:(vs.any fun kv=>decide (kv.1=k))=true
  · rw [if_pos e,if_pos e];exact r.repl k ry
  · rw [if_neg e,if_neg e];exact Paired.snoc r ⟨rfl,ry⟩
theorem KV.length {kvs:List (κ × V)} {vs:List (κ × Value)} (r:KV kvs vs):kvs.length=vs.length:=Paired.length r
end
theorem kV_is {P:Program} {w:World} {k:Key} {u:Value} (r:RelV (kV k) u):(mixKind P w).is k u=true:=by
  cases k with
  | inl i=>obtain ⟨t,e⟩:=(show ∃ t,u=Value.int i t from r);subst e;exact mixKind_int P w i t
  | inr x=>obtain ⟨t,e⟩:=(show ∃ t,u=Value.str x t from r);subst e;exact mixKind_str P w x t
theorem items_are {P:Program} {w:World}:∀ {ks:List Key} {us:List Value},Vals (ks.map kV) us->ItemsAre (mixKind P w) ks us
  | [],_,r=>by rw [List.map_nil] at r;cases r;exact .nil
  | k :: ks,_,r=>by
    rw [List.map_cons] at r
    cases r with
    | cons h t=>exact .cons (kV_is h) (items_are t)
abbrev KT (H:Hp):List (List Key × V)->List (List Key × Addr × Value)->Prop:=Paired fun p q=>p.1=q.1/\H q.2.1=some (.tup (p.1.map kV))/\RelV p.2 q.2.2
theorem KT.val {H:Hp} {kvs:List (List Key × V)} {xs:List (List Key × Addr × Value)} (r:KT H kvs xs) (k:List Key):RelO (valV kvs k) ((atKey xs k).map (·.2)):=by
  induction r with
  | nil=>exact True.intro
  | @cons p q ps qs h t ih =>
    obtain ⟨h1,_,h2⟩:=h
    by_cases e:p.1=k
    · have e':q.1=k:=h1.symm.trans e
      have b:atKey (q :: qs) k=some q.2:=by simp [atKey,List.find?_cons,e']
      rw [valV_pos e,b];exact h2
    · have e':¬ q.1=k:=fun z=>e (h1.trans z)
      have b:atKey (q :: qs) k=atKey qs k:=by simp [atKey,List.find?_cons,e']
      rw [valV_neg e,b];exact ih
theorem KT.repl {H:Hp} {kvs:List (List Key × V)} {xs:List (List Key × Addr × Value)} (r:KT H kvs xs) (k:List Key) {y:V} {u:Value} (ry:RelV y u) :
    KT H (kvs.map fun kv=>if kv.1=k then (kv.1,y) else kv) (xs.map (putAt k u)):=by
  induction r with
  | nil=>exact .nil
  | @cons p q ps qs h t ih =>
    rw [List.map_cons,List.map_cons]
    refine .cons ?_ ih
    obtain ⟨h1,h2,h3⟩:=h
    unfold putAt
    by_cases e:p.1=k
    · rw [if_pos e,if_pos (h1.symm.trans e)];exact ⟨h1,h2,ry⟩
    · rw [if_neg e,if_neg (fun z=>e (h1.trans z))];exact ⟨h1,h2,h3⟩
theorem KT.put {H:Hp} {kvs:List (List Key × V)} {xs:List (List Key × Addr × Value)} (r:KT H kvs xs) (k:List Key) {b:Addr} {y:V} {u:Value} (hb:H b=some (.tup (k.map kV))) (ry:RelV y u) :
    KT H (putK kvs k y) (storedH xs k b u):=by
  have e:(kvs.any fun kv=>decide (kv.1=k))=(atKey xs k).isSome:=by
    rw [valV_any,(r.val k).isSome_eq,Option.isSome_map]
  unfold putK storedH
  rw [e]
  by_cases q:(atKey xs k).isSome=true
  · rw [if_pos q,if_pos q];exact r.repl k ry
  · rw [if_neg q,if_neg q];exact Paired.snoc r ⟨rfl,hb,ry⟩
theorem KT.keeps {H H':Hp} {kvs:List (List Key × V)} {xs:List (List Key × Addr × Value)} (r:KT H kvs xs) (ht:∀ b ys,H b=some (.tup ys)->H' b=some (.tup ys)):KT H' kvs xs :=
  Paired.mapP r fun _ _ z=>⟨z.1,ht _ _ z.2.1,z.2.2⟩
section
variable {P:Program} {w:World} {H:Hp} {h:Heap} {a:Addr}
theorem rd_of {u:HO} (ok:HOk P w H h) (e:Rd H a u):ObjOk P w H h a u:=e.ok ok
theorem dk_rd {kvs:List (Key × V)} (ok:HOk P w H h) (e:Rd H a (.dK kvs)):kvs.length <= sizeLine/\(a == sysModules)=false/\∃ vs,KV kvs vs/\h.DictOf (mixKind P w) a vs :=
  show ObjOk P w H h a (.dK kvs) from rd_of ok e
theorem dk_of {kvs:List (Key × V)} (ok:HOk P w H h) (e:H a=some (.dK kvs)):kvs.length <= sizeLine/\(a == sysModules)=false/\∃ vs,KV kvs vs/\h.DictOf (mixKind P w) a vs:=dk_rd ok (.inl e)
theorem key_of {ks:List Key} (ok:HOk P w H h) (e:H a=some (.tup (ks.map kV))):(tupleKind (mixKind P w)).is h ks a:=by
  obtain ⟨_,its,r,o,h1,h2,n,h3⟩:=(show ObjOk P w H h a (.tup (ks.map kV)) from ok a _ e)
  exact ⟨o,its.toArray,n,h1,h2,h3,by simpa using items_are r⟩
theorem dt_rd {kvs:List (List Key × V)} (ok:HOk P w H h) (e:Rd H a (.dT kvs)):kvs.length <= sizeLine/\(a == sysModules)=false /\
    ∃ xs,KT H kvs xs/\h.DictOfH (tupleKind (mixKind P w)) a xs:=by
  obtain ⟨z,y,xs,r,o,es,ep,h1,h2,h3,h4,h5⟩:=(show ObjOk P w H h a (.dT kvs) from rd_of ok e)
  refine ⟨z,y,xs,r,o,es,ep,h1,h2,h3,h4,fun x hx=>?_,h5⟩
  have all:∀ {l:List (List Key × V)} {m:List (List Key × Addr × Value)},KT H l m->∀ x ∈ m,(tupleKind (mixKind P w)).is h x.1 x.2.1:=by
    intro l m q
    induction q with
    | nil=>intro x hx;exact nomatch hx
    | @cons p q ps qs hq t ih =>
      intro x hx
      rcases List.mem_cons.mp hx with e | hx
      · subst e
        exact key_of ok (by rw [<- hq.1];exact hq.2.1)
      · exact ih x hx
  exact all r x hx
theorem dt_of {kvs:List (List Key × V)} (ok:HOk P w H h) (e:H a=some (.dT kvs)):kvs.length <= sizeLine/\(a == sysModules)=false /\
    ∃ xs,KT H kvs xs/\h.DictOfH (tupleKind (mixKind P w)) a xs:=dt_rd ok (.inl e)
end
def DGet (H:Hp) (a:Addr) (y:V) (r:Option V):Prop :=
  (∃ kvs k,Rd H a (.dK kvs)/\y=kV k/\r=valV kvs k) ∨ ∃ kvs k b,Rd H a (.dT kvs)/\y=.ref b/\H b=some (.tup (k.map kV))/\r=valV kvs k
def DPut (H:Hp) (a:Addr) (y v:V) (H':Hp):Prop :=
  (∃ kvs k,H a=some (.dK kvs)/\y=kV k/\kvs.length < sizeLine/\H'=upd H a (.dK (putK kvs k v))) ∨
  ∃ kvs k b,H a=some (.dT kvs)/\y=.ref b/\H b=some (.tup (k.map kV))/\kvs.length < sizeLine/\H'=upd H a (.dT (putK kvs k v))
theorem DGet.k {H:Hp} {a:Addr} {kvs:List (Key × V)} {k:Key} (e:H a=some (.dK kvs)):DGet H a (kV k) (valV kvs k):=.inl ⟨kvs,k,.inl e,rfl,rfl⟩
theorem DGet.t {H:Hp} {a b:Addr} {kvs:List (List Key × V)} {k:List Key} (e:H a=some (.dT kvs)) (eb:H b=some (.tup (k.map kV))):DGet H a (.ref b) (valV kvs k):=.inr ⟨kvs,k,b,.inl e,rfl,eb,rfl⟩
theorem DPut.k {H:Hp} {a:Addr} {kvs:List (Key × V)} {k:Key} {v:V} (e:H a=some (.dK kvs)) (hl:kvs.length < sizeLine):DPut H a (kV k) v (upd H a (.dK (putK kvs k v))):=.inl ⟨kvs,k,e,rfl,hl,rfl⟩
theorem DPut.t {H:Hp} {a b:Addr} {kvs:List (List Key × V)} {k:List Key} {v:V} (e:H a=some (.dT kvs)) (eb:H b=some (.tup (k.map kV))) (hl:kvs.length < sizeLine) :
    DPut H a (.ref b) v (upd H a (.dT (putK kvs k v))):=.inr ⟨kvs,k,b,e,rfl,eb,hl,rfl⟩
section
variable {X:Cx} {pins:List (Addr × Obj)} {σ:St} {H:Hp} {s:Shared} {a:Addr} {y v:V} {u r:Value} {o:Option V} {A:Around} {E:Value->Shared->Prop}
theorem Inv.big (I:Inv X pins σ H s):sysModules < s.heap.objs.size:=by
  have h:mainGlobals < s.heap.objs.size:=(I.mod.glob.keeps I.bk).lt
  exact Nat.lt_trans (by decide) h
theorem d_getItem {Q:Value->Shared->Prop} (hu:A.units + 1 < cLine) (I:Inv X pins σ H s) (g:DGet H a y (some v)) (ry:RelV y u) (h:∀ w' s',Inv X pins σ H s'->RelV v w'->Q w' s') :
    wpAny (model X.prog X.w) A (getItem (.ref a) u) Q E s:=by
  rcases g with ⟨kvs,k,e,ey,l⟩ | ⟨kvs,k,b,e,ey,eb,l⟩
  · subst ey
    obtain ⟨z,hd,vs,rel,dd⟩:=dk_rd I.hok e
    obtain ⟨w',hw,rw'⟩:=RelO.some_of (v:=v) (o:=valueAt vs k) (by rw [l];exact rel.val k)
    exact wpAny_getItem_of (kV_is ry) dd.mapOf hw (h w' _ (I.tok _) rw')
  · subst ey
    cases (show u=Value.ref b from ry)
    obtain ⟨z,hd,xs,rel,dd⟩:=dt_rd I.hok e
    obtain ⟨w',hw,rw'⟩:=RelO.some_of (v:=v) (o:=(atKey xs k).map (·.2)) (by rw [l];exact rel.val k)
    obtain ⟨p,hp,hp2⟩:=Option.map_eq_some_iff.mp hw
    refine wpAny_getItem_heap (tupleKind_room_in1 hu) (key_of I.hok eb) dd hp ?_
    rw [hp2]
    exact h w' _ (I.tok _) rw'
theorem d_notIn {Q:Value->Shared->Prop} (hu:A.units + 1 < cLine) (I:Inv X pins σ H s) (g:DGet H a y o) (ry:RelV y u) (h:∀ s',Inv X pins σ H s'->Q (.bool (!o.isSome)) s') :
    wpAny (model X.prog X.w) A (compareOp .NotIn u (.ref a)) Q E s:=by
  rcases g with ⟨kvs,k,e,ey,l⟩ | ⟨kvs,k,b,e,ey,eb,l⟩
  · subst ey
    obtain ⟨z,hd,vs,rel,dd⟩:=dk_rd I.hok e
    refine wpAny_notIn_of (kV_is ry) hd dd.mapOf ?_
    rw [<- (rel.val k).isSome_eq,<- l]
    exact h _ (I.tok _)
  · subst ey
    cases (show u=Value.ref b from ry)
    obtain ⟨z,hd,xs,rel,dd⟩:=dt_rd I.hok e
    refine wpAny_notIn_heap (tupleKind_room_in1 hu) (key_of I.hok eb) hd dd ?_
    have q:=(rel.val k).isSome_eq
    rw [Option.isSome_map] at q
    rw [<- q,<- l]
    exact h _ (I.tok _)
theorem d_write {h':Heap} {t':Nat} {ob:HO} (I:Inv X pins σ H s) (mu:Mut (H a)) (hs:Heap.SameBut a s.heap h') (he:∃ q,h'.get? a=some q) (new:ObjOk X.prog X.w (upd H a ob) h' a ob) :
    Inv X pins σ (upd H a ob) { s with heap:=h',toks:=t' } :=
  I.write (x:=a) (e:=a) mu (.inl rfl) (fun b q hb z=>(hs.2 b hb).trans z) he new
theorem dk_new {P:Program} {w:World} {H':Hp} {h':Heap} {kvs:List (Key × V)} {vs:List (Key × Value)} (z:kvs.length <= sizeLine) (hd:(a == sysModules)=false) (rel:KV kvs vs) (dd:h'.DictOf (mixKind P w) a vs) :
    ObjOk P w H' h' a (.dK kvs):=⟨z,hd,vs,rel,dd⟩
theorem d_setItem {H':Hp} {Q:Unit->Shared->Prop} (hu:A.units + 1 < cLine) (I:Inv X pins σ H s) (g:DPut H a y v H') (ry:RelV y u) (rv:RelV v r) (h:∀ s',Inv X pins σ H' s'->Q () s') :
    wpAny (model X.prog X.w) A (setItem (.ref a) u r) Q E s:=by
  rcases g with ⟨kvs,k,e,ey,l,eH⟩ | ⟨kvs,k,b,e,ey,eb,l,eH⟩
  · subst ey eH
    obtain ⟨z,hd,vs,rel,dd⟩:=dk_of I.hok e
    have hz:vs.length <= sizeLine:=by rw [<- rel.length];exact z
    have hl:(putK kvs k v).length <= sizeLine:=by have:=length_putK kvs k v;omega
    refine wpAny_setItem_pairs (hsz:=hz) (kV_is ry) dd fun h' dd' hs=>h _ ?_
    have he:∃ q,h'.get? a=some q:=let ⟨q,_,_,hq,_⟩:=dd';⟨q,hq⟩
    exact d_write I (by rw [e];exact True.intro) hs he (dk_new hl hd (rel.put k rv) dd')
  · subst ey eH
    cases (show u=Value.ref b from ry)
    obtain ⟨z,hd,xs,rel,dd⟩:=dt_of I.hok e
    have hz:xs.length <= sizeLine:=by rw [<- Paired.length rel];exact z
    have hl:(putK kvs k v).length <= sizeLine:=by have:=length_putK kvs k v;omega
    refine wpAny_setItem_heap (hsz:=hz) (tupleKind_room_in1 hu) (key_of I.hok eb) dd fun h' dd' hs=>h _ ?_
    obtain ⟨q,es,ep,hq,h2,h3,h4,_,h5⟩:=dd'
    refine d_write I (by rw [e];exact True.intro) hs ⟨q,hq⟩ ⟨hl,hd,_,(rel.put k eb rv).keeps fun c ys ec=>?_,q,es,ep,hq,h2,h3,h4,h5⟩
    rw [upd_ne (ne_of ec e (fun z=>nomatch z))]
    exact ec
end
section
variable {X:Cx} {pins:List (Addr × Obj)} {σ:St} {H:Hp} {s:Shared} {a:Addr} {kvs:List (Key × V)} {k:Key} {u:Value} {A:Around} {E:Value->Shared->Prop}
end
def NoSl (i:Expr):Prop:=∀ ov iv,subscripted i false ov iv=operate [ov,iv] (getItem ov iv)
theorem subD_of {prog:Program} {w:World} {A:Around} {E:Value->Shared->Prop} {s:Shared} {env:Env} {value slice:Expr} {pos:Pos} {T id:String} {Q:Value->Shared->Prop}
    (hl:typeLookup (.type T) "__getitem__"=pure (some (.builtin id))) (hs:NoSl slice)
    (h:wpAny (model prog w) A (eval value env) (fun o s₁=>wpAny (model prog w) A (eval slice env) (fun i s₂=>s₂.TypeIs o T/\wpAny (model prog w) A (getItem o i) Q E s₂) E s₁) E s) :
    wpAny (model prog w) A (eval (.Subscript value slice pos) env) Q E s:=by
  refine Subscript_ (wpAny_mono h (fun o s₁ h₁=>wpAny_mono h₁ (fun i s₂ h₂=>?_) fun _ _ x=>x) fun _ _ x=>x)
  obtain ⟨hT,h₂⟩:=h₂
  unfold subscriptTail
  refine wpAny_bind ?_
  rw [getitemInPython_of_ne hT.not_modules]
  refine wpAny_bind (wpAny_specialOf hT hl ?_)
  have fin:wpAny (model prog w) A (subscripted slice false o i) (fun r s₃=>wpAny (model prog w) A (letTemporaryGo value o r >>= fun _=>pure r) Q E s₃) E s₂:=by
    rw [hs o i]
    exact wpAny_operating (wpAny_mono h₂ (fun r s₃ h₃=>wpAny_bind (wpAny_letTemporaryGo (wpAny_pure h₃))) fun _ _ x=>x)
  first
    | exact wpAny_pure (wpAny_bind fin)
    | exact wpAny_bind (wpAny_pure (wpAny_bind fin))
    | exact wpAny_bind fin
theorem dict_typeIs {X:Cx} {pins:List (Addr × Obj)} {σ:St} {H:Hp} {s:Shared} {a:Addr} {y:V} {o:Option V} (I:Inv X pins σ H s) (g:DGet H a y o):s.TypeIs (.ref a) "dict":=by
  rcases g with ⟨kvs,k,e,_,_⟩ | ⟨kvs,k,b,e,_,_,_⟩
  · obtain ⟨_,_,vs,_,dd⟩:=dk_rd I.hok e
    exact dd.typeIs
  · obtain ⟨_,_,xs,_,dd⟩:=dt_rd I.hok e
    exact dd.typeIs
def tDGet (td ty:TE):TE:=fun σ H Q=>td σ H fun x H1=>ty σ H1 fun y H2=>∃ a v,x=.ref a/\DGet H2 a y (some v)/\Q v H2
def tDNotIn (ty td:TE):TE:=fun σ H Q=>ty σ H fun y H1=>td σ H1 fun x H2=>∃ a o,x=.ref a/\DGet H2 a y o/\Q (.bl (!o.isSome)) H2
def sDPut (td ty tv:TE):TS:=fun D σ H=>tv σ H fun v H1=>td σ H1 fun x H2=>ty σ H2 fun y H3=>∃ a H4,x=.ref a/\DPut H3 a y v H4/\D.nx σ H4
section
variable {X:Cx} {o i e value:Expr} {pos pos' tpos:Pos} {td ty tv:TE}
theorem pe_dget (hu:X.A.units + 1 < cLine) (ho:PE X o td) (hi:PE X i ty) (hs:NoSl i):PE X (.Subscript o i pos) (tDGet td ty):=by
  intro pins s σ H Q I h
  refine subD_of PySem.F.slot_dict_getitem.lookup hs (thn (ho pins s σ H _ I h) fun u s1 ⟨x,H1,I1,rx,q1⟩=>thn (hi pins s1 σ H1 _ I1 q1) fun iv s2 ⟨y,H2,I2,ry,a,v,ex,g,q2⟩=>?_)
  subst ex
  obtain rfl:u=Value.ref a:=rx
  exact ⟨dict_typeIs I2 g,d_getItem hu I2 g ry fun w' s3 I3 rw'=>⟨v,H2,I3,rw',q2⟩⟩
theorem pc_dnotin (hu:X.A.units + 1 < cLine) (hi:PE X i ty) (ho:PE X o td):PC X .NotIn i o (tDNotIn ty td):=by
  intro pins s σ H Q I h
  refine thn (hi pins s σ H _ I h) fun iv s1 ⟨y,H1,I1,ry,q1⟩=>thn (ho pins s1 σ H1 _ I1 q1) fun u s2 ⟨x,H2,I2,rx,a,ov,ex,g,q2⟩=>?_
  subst ex
  obtain rfl:u=Value.ref a:=rx
  exact d_notIn hu I2 g ry fun s3 I3=>⟨.bl (!ov.isSome),H2,I3,rfl,q2⟩
theorem ps_dput (hu:X.A.units + 1 < cLine) (ho:PE X o td) (hi:PE X i ty) (hv:PE X value tv) (hs:swapsWith value (some (.Subscript o i pos')) pos.line X.env=pure false) :
    PS X (.Assign [.Subscript o i pos'] value pos) (sDPut td ty tv):=by
  intro pins s σ H D I h
  refine wpAny_Assign_Subscript (thn (hv pins s σ H _ I h) fun r s1 ⟨v,H1,I1,rv,q1⟩=>thn (ho pins s1 σ H1 _ I1 q1) fun u s2 ⟨x,H2,I2,rx,q2⟩=>thn (hi pins s2 σ H2 _ I2 q2) fun iv s3 ⟨y,H3,I3,ry,a,H4,ex,g,q3⟩=>?_) hs
  subst ex
  obtain rfl:u=Value.ref a:=rx
  exact d_setItem hu I3 g ry rv fun s4 I4=>⟨σ,H4,I4,q3⟩
end
theorem dk_empty {P:Program} {w:World} {H:Hp} (h:Heap) (hb:sysModules < h.objs.size):ObjOk P w H (h.push { cls:=.type "dict",data:=.dict #[] }) h.objs.size (.dK []) :=
  ⟨Nat.zero_le _,beq_eq_false_iff_ne.mpr (Ne.symm (Nat.ne_of_lt hb)),[],.nil,Heap.DictOf.new h⟩
theorem dt_empty {P:Program} {w:World} {H:Hp} (h:Heap) (hb:sysModules < h.objs.size):ObjOk P w H (h.push { cls:=.type "dict",data:=.dict #[] }) h.objs.size (.dT []) :=
  ⟨Nat.zero_le _,beq_eq_false_iff_ne.mpr (Ne.symm (Nat.ne_of_lt hb)),[],.nil,_,#[],0,Heap.get?_push_size _ rfl,⟨rfl,rfl,rfl⟩,rfl,rfl,List.nodup_nil⟩
def tDNewT:TE:=fun _ H Q=>∀ p,H p=none->Q (.ref p) (upd H p (.dT []))
section
variable {X:Cx} {pos:Pos}
theorem pe_dnewT:PE X (.Dict [] [] pos) tDNewT:=fun pins s σ H Q I h =>
  wpAny_Dict_empty ⟨.ref s.heap.objs.size,_,I.laid (a:=s.heap.objs.size) (o:=.dT []) (t':=s.toks) (fun _ _ q=>Heap.get?_push_of_some _ q) (Nat.le_refl _) (dt_empty s.heap I.big),rfl,h _ (I.hok.fresh (Nat.le_refl _))⟩
end
structure M1 (X:Cx) (o:Expr) (m:Str) (apos:Pos) (e:Expr) (cpos:Pos):Prop where
  base:attributeBase o m X.env (eval o X.env)=eval o X.env
  few:((backTo cpos (starEach [e] X.env)).all (fun x=>!x.1) && (backToKw cpos (keywordEach [] X.env)).all (fun x=>x.1.isSome)
    && decide (([e]:List Expr).length + ([]:List Keyword).length + (if ([]:List Keyword).isEmpty then 0 else 1) < 30))=true
  line:(apos.endLine == cpos.line)=true
  trees:backTo cpos (starEach [e] X.env)=[(false,eval e X.env)]
structure M2 (X:Cx) (o:Expr) (m:Str) (apos:Pos) (e f:Expr) (cpos:Pos):Prop where
  base:attributeBase o m X.env (eval o X.env)=eval o X.env
  few:((backTo cpos (starEach [e,f] X.env)).all (fun x=>!x.1) && (backToKw cpos (keywordEach [] X.env)).all (fun x=>x.1.isSome)
    && decide (([e,f]:List Expr).length + ([]:List Keyword).length + (if ([]:List Keyword).isEmpty then 0 else 1) < 30))=true
  line:(apos.endLine == cpos.line)=true
  trees:backTo cpos (starEach [e,f] X.env)=[(false,eval e X.env),(false,eval f X.env)]
def IsD (H:Hp) (a:Addr):Prop:=(∃ kvs,Rd H a (.dK kvs)) ∨ ∃ kvs,Rd H a (.dT kvs)
theorem isD_at {X:Cx} {pins:List (Addr × Obj)} {σ:St} {H:Hp} {s:Shared} {a:Addr} (I:Inv X pins σ H s) (d:IsD H a) :
    s.TypeIs (.ref a) "dict"/\(∀ b,Value.ref a=.ref b->∃ ob,s.heap.get? b=some ob/\ob.dict=none)/\(a == sysModules)=false:=by
  rcases d with ⟨kvs,e⟩ | ⟨kvs,e⟩
  · obtain ⟨_,hd,vs,_,dd⟩:=dk_rd I.hok e
    refine ⟨dd.typeIs,fun b q=>?_,hd⟩
    cases q
    obtain ⟨ob,_,_,h1,h2,_⟩:=dd
    exact ⟨ob,h1,h2.2.1⟩
  · obtain ⟨_,hd,xs,_,dd⟩:=dt_rd I.hok e
    refine ⟨dd.typeIs,fun b q=>?_,hd⟩
    cases q
    obtain ⟨ob,_,_,h1,h2,_⟩:=dd
    exact ⟨ob,h1,h2.2.1⟩
section
variable {X:Cx} {pins:List (Addr × Obj)} {σ:St} {H:Hp} {s:Shared} {a:Addr} {y d:V} {u r:Value} {o:Option V} {A:Around} {E:Value->Shared->Prop}
theorem d_get1 {Q:Value->Shared->Prop} (hu:A.units + 1 < cLine) (I:Inv X pins σ H s) (g:DGet H a y o) (ry:RelV y u) (h:∀ w' s',Inv X pins σ H s'->RelV (o.getD .non) w'->Q w' s') :
    wpAny (model X.prog X.w) A (call (.builtin "dict.get") [.ref a,u]) Q E s:=by
  rcases g with ⟨kvs,k,e,ey,l⟩ | ⟨kvs,k,b,e,ey,eb,l⟩
  · subst ey
    obtain ⟨z,hd,vs,rel,dd⟩:=dk_rd I.hok e
    refine call_meetsIn PySem.F.slot_dict_get dd.typeIs PySem.F.entry_dict_get (PySem.F.args_dict_get_2 _ _) (meets_dict_get (mixKind X.prog X.w) a (kV_is ry) hd) ⟨_,dd.mapOf,h _ _ (I.tok _) ?_⟩
    rw [l]
    exact (rel.val k).getD rfl
  · subst ey
    cases (show u=Value.ref b from ry)
    obtain ⟨z,hd,xs,rel,dd⟩:=dt_rd I.hok e
    refine call_meetsIn PySem.F.slot_dict_get dd.typeIs PySem.F.entry_dict_get (PySem.F.args_dict_get_2 _ _) (meetsH_dict_get (tupleKind (mixKind X.prog X.w)) a b hd) ⟨tupleKind_room_in1 hu,k,xs,key_of I.hok eb,dd,h _ _ (I.tok _) ?_⟩
    rw [l]
    exact (rel.val k).getD rfl
theorem d_get2 {Q:Value->Shared->Prop} (hu:A.units + 1 < cLine) (I:Inv X pins σ H s) (g:DGet H a y o) (ry:RelV y u) (rd:RelV d r) (h:∀ w' s',Inv X pins σ H s'->RelV (o.getD d) w'->Q w' s') :
    wpAny (model X.prog X.w) A (call (.builtin "dict.get") [.ref a,u,r]) Q E s:=by
  rcases g with ⟨kvs,k,e,ey,l⟩ | ⟨kvs,k,b,e,ey,eb,l⟩
  · subst ey
    obtain ⟨z,hd,vs,rel,dd⟩:=dk_rd I.hok e
    refine call_meetsIn PySem.F.slot_dict_get dd.typeIs PySem.F.entry_dict_get (PySem.F.args_dict_get_3 _ _ _) (meets_dict_get_default (mixKind X.prog X.w) a (kV_is ry) hd r) ⟨_,dd.mapOf,h _ _ (I.tok _) ?_⟩
    rw [l]
    exact (rel.val k).getD rd
  · subst ey
    cases (show u=Value.ref b from ry)
    obtain ⟨z,hd,xs,rel,dd⟩:=dt_rd I.hok e
    refine call_meetsIn PySem.F.slot_dict_get dd.typeIs PySem.F.entry_dict_get (PySem.F.args_dict_get_3 _ _ _) (meetsH_dict_get_default (tupleKind (mixKind X.prog X.w)) a b hd r) ⟨tupleKind_room_in1 hu,k,xs,key_of I.hok eb,dd,h _ _ (I.tok _) ?_⟩
    rw [l]
    exact (rel.val k).getD rd
end
def tDGet1 (td ty:TE):TE:=fun σ H Q=>td σ H fun x H1=>∃ a,x=.ref a/\IsD H1 a/\ty σ H1 fun y H2=>∃ o,DGet H2 a y o/\Q (o.getD .non) H2
def tDGet2 (td ty tx:TE):TE:=fun σ H Q=>td σ H fun x H1=>∃ a,x=.ref a/\IsD H1 a/\ty σ H1 fun y H2=>tx σ H2 fun z H3=>∃ o,DGet H3 a y o/\Q (o.getD z) H3
section
variable {X:Cx} {o e f:Expr} {apos cpos:Pos} {td ty tx:TE}
theorem pe_dget1 (hu:X.A.units + 1 < cLine) (ho:PE X o td) (he:PE X e ty) (m:M1 X o "get" apos e cpos):PE X (.Call (.Attribute o "get" apos) [e] [] cpos) (tDGet1 td ty):=by
  intro pins s σ H Q I h
  refine wpAny_Call_method m.base m.few m.line PySem.F.plainAttrs_dict PySem.F.slot_dict_get PySem.F.type_dict_get (thn (ho pins s σ H _ I h) fun u s1 ⟨x,H1,I1,rx,a,ex,d,q1⟩=>?_)
  subst ex
  obtain rfl:u=Value.ref a:=rx
  obtain ⟨t1,t2,_⟩:=isD_at I1 d
  refine ⟨t1,t2,?_⟩
  rw [m.trees]
  refine Calls.callWith_builtin rfl (Calls.evalArgs_plain (Calls.spliced_cons (thn (he pins s1 σ H1 _ I1 q1) fun iv s2 ⟨y,H2,I2,ry,ov,g,q2⟩=>Calls.spliced_nil ?_)))
  exact d_get1 hu I2 g ry fun w' s3 I3 rw'=>⟨_,H2,I3,rw',q2⟩
theorem pe_dget2 (hu:X.A.units + 1 < cLine) (ho:PE X o td) (he:PE X e ty) (hf:PE X f tx) (m:M2 X o "get" apos e f cpos):PE X (.Call (.Attribute o "get" apos) [e,f] [] cpos) (tDGet2 td ty tx):=by
  intro pins s σ H Q I h
  refine wpAny_Call_method m.base m.few m.line PySem.F.plainAttrs_dict PySem.F.slot_dict_get PySem.F.type_dict_get (thn (ho pins s σ H _ I h) fun u s1 ⟨x,H1,I1,rx,a,ex,d,q1⟩=>?_)
  subst ex
  obtain rfl:u=Value.ref a:=rx
  obtain ⟨t1,t2,_⟩:=isD_at I1 d
  refine ⟨t1,t2,?_⟩
  rw [m.trees]
  refine Calls.callWith_builtin rfl (Calls.evalArgs_plain (Calls.spliced_cons (thn (he pins s1 σ H1 _ I1 q1) fun iv s2 ⟨y,H2,I2,ry,q2⟩ =>
    Calls.spliced_cons (thn (hf pins s2 σ H2 _ I2 q2) fun fv s3 ⟨z,H3,I3,rz,ov,g,q3⟩=>Calls.spliced_nil ?_))))
  exact d_get2 hu I3 g ry rz fun w' s4 I4 rw'=>⟨_,H3,I4,rw',q3⟩
end
section
variable {X:Cx} {pins:List (Addr × Obj)} {σ:St} {H:Hp} {s:Shared} {a:Addr} {kvs:List (Key × V)} {A:Around} {E:Value->Shared->Prop}
end
section
variable {X:Cx} {pins:List (Addr × Obj)} {σ:St} {H:Hp} {s:Shared} {a:Addr} {y:V} {u:Value} {A:Around} {E:Value->Shared->Prop}
end
end L2
namespace Att
open PySem PySem.W PySem.Calls PyProof.Rows
section
variable {prog:Program} {w:World} {A:Around} {E:Value->Shared->Prop} {s:Shared} {K:Frag}
end
end Att
namespace L2
open PySem PySem.Spec PyProof.Rows
end L2
namespace L2
open PySem PySem.Spec PyProof.Rows
end L2
namespace L2
open PySem PySem.Spec PyProof.Rows
section
variable {P:Program} {w:World} {K:PySem.W.Frag} {mg:Str->Option Value} {base:Heap}
end
section
variable {X:Cx}
end
section
variable {κ:Type} [DecidableEq κ]
end
end L2
namespace L2
open PySem PySem.Spec PyProof.Rows
section
variable {prog:Program} {w:World} {A:Around} {E:Value->Shared->Prop} {s:Shared}
abbrev enob (it:Addr):Obj:={ cls:=.type "enumerate",data:=.fields #[.none,.bool false,.ref it,rawInt 0,.none,.none] }
theorem enumT_new (t:Addr) (xs:Array Value) :
    Meets (Builtin.«enumerate.__new__» ⟨[.type "enumerate",.ref t],[]⟩) (fun _ R s=>s.heap.IsTuple t xs/\R (.ok (.ret (.ref (s.heap.push (tit t)).objs.size))) { s with heap:=(s.heap.push (tit t)).push (enob s.heap.objs.size) }) :=
  .of_wp fun prog w A R s h=>by
    obtain ⟨hp,g,d,tk,os⟩:=s;obtain ⟨hl,h⟩:=h
    have hsub:=sub_enumerate
    have hL:Heap.IsTuple (Shared.heap ⟨hp,g,d,tk,os⟩) t xs:=hl
    obtain ⟨ol,hol,_⟩:=id hl
    wp_walk using AutoSeq1.wpAny_loadPart' hol
    refine wpAny_stack_any fun st=>wpAny_pure ?_
    split
    · rename_i c _ _ _ _ _
      cases (c == Value.type "enumerate")
      · wp_walk using AutoSeq1.wpAny_loadPart' hol,wpAny_pyIter_tuple hL
        exact ⟨_,rfl,h⟩
      · wp_walk using AutoSeq1.wpAny_loadPart' hol,wpAny_pyIter_tuple hL
        exact ⟨_,rfl,h⟩
    · wp_walk using AutoSeq1.wpAny_loadPart' hol,wpAny_pyIter_tuple hL
      exact ⟨_,rfl,h⟩
structure EnT (h:Heap) (e it t:Addr) (k:Nat):Prop where
  en:∃ old,IsEnum h e it k old
  it:h.IsTupleIter it t k
theorem enT_item {e it t:Addr} {i:Nat} {xs:Array Value} {x:Value} {Q:Option Value->Shared->Prop} (Z:EnT s.heap e it t i) (hl:s.heap.IsTuple t xs) (hx:xs[i]?=some x) (hne:e ≠ it)
    (hQ:∀ h',IsEnumOut h' e it ((i:Int) + 1) x s.heap.objs.size->h'.IsTupleIter it t (i + 1)->h'.get? s.heap.objs.size=some { cls:=.type "tuple",data:=.seq #[.int i s.toks,x] }->h'.objs.size=s.heap.objs.size + 1 ->
      (∀ b o,b ∉ [e,it]->s.heap.get? b=some o->h'.get? b=some o)->Q (some (.ref s.heap.objs.size)) { s with heap:=h',toks:=s.toks + 1 }):wpAny (model prog w) A (pyNext (.ref e)) Q E s:=by
  obtain ⟨⟨old,he⟩,hit⟩:=Z
  obtain ⟨hp,g,d,tk,os⟩:=s
  have hT:Shared.TypeIs ⟨hp,g,d,tk,os⟩ (.ref e) "enumerate":=⟨_,he,rfl⟩
  unfold pyNext
  refine wpAny_bind (wpAny_attempt (wpAny_callSpecial?_slot (name:=Str.ofString "__next__") hT F.slot_enumerate_next (wpAny_call_entry F.slot_enumerate_next hT F.entry_enumerate_next ?_ (F.args_enumerate_next_1 _))))
  show wpAny _ _ (field (.ref e) 2 >>= _) _ _ _
  refine wpAny_bind (wpAny_field he rfl (x:=.ref it) rfl ?_)
  refine wpAny_bind (nextT_item hit hl hx fun h1 hit1 s1=>?_)
  replace s1:Heap.SameBut it hp h1:=s1
  have he1:IsEnum h1 e it i old:=(s1.2 e hne).trans he
  show wpAny _ _ (field (.ref e) 3 >>= _) _ _ ⟨h1,g,d,tk,os⟩
  refine wpAny_bind (wpAny_field he1 rfl (x:=rawInt i) rfl ?_)
  show wpAny _ _ (field (.ref e) 4 >>= _) _ _ ⟨h1,g,d,tk,os⟩
  refine wpAny_bind (wpAny_field he1 rfl (x:=.none) rfl ?_)
  show wpAny _ _ (mkInt i >>= _) _ _ ⟨h1,g,d,tk,os⟩
  refine wpAny_bind (wpAny_mkInt ?_)
  show wpAny _ _ (setField (.ref e) 3 (rawInt ((i:Int) + 1)) >>= _) _ _ ⟨h1,g,d,tk + 1,os⟩
  refine wpAny_bind (wpAny_setField_rec he1 (by simp) fun h2 he2 s2=>?_)
  replace s2:Heap.SameBut e h1 h2:=s2
  replace he2:IsEnum h2 e it ((i:Int) + 1) old:=he2
  show wpAny _ _ (setField (.ref e) 4 .none >>= _) _ _ ⟨h2,g,d,tk + 1,os⟩
  refine wpAny_bind (wpAny_setField_rec he2 (by simp) fun h3 he3 s3=>?_)
  replace s3:Heap.SameBut e h2 h3:=s3
  replace he3:IsEnum h3 e it ((i:Int) + 1) old:=he3
  show wpAny _ _ (newTuple [.int i tk,x] >>= _) _ _ ⟨h3,g,d,tk + 1,os⟩
  refine wpAny_bind (wpAny_newTuple ?_)
  have he4:IsEnum (h3.push { cls:=.type "tuple",data:=.seq #[.int i tk,x] }) e it ((i:Int) + 1) old:=Heap.get?_push_of_some _ he3
  generalize hh4:h3.push { cls:=.type "tuple",data:=.seq #[.int i tk,x] }=h4 at he4
  have hsz:h3.objs.size=hp.objs.size:=by rw [s3.1,s2.1,s1.1]
  have hel:e < hp.objs.size:=Heap.lt_size he
  have ht4:h4.get? hp.objs.size=some { cls:=.type "tuple",data:=.seq #[.int i tk,x] }:=by rw [<- hh4,<- hsz];exact Heap.get?_push_size _ rfl
  have hz4:h4.objs.size=hp.objs.size + 1:=by rw [<- hh4,Heap.size_push,hsz]
  have hk4:∀ b o,b ≠ e->b ≠ it->hp.get? b=some o->h4.get? b=some o:=fun b o hbe hbi hb=>by
    rw [<- hh4];exact Heap.get?_push_of_some _ (s3.extBut b o hbe (s2.extBut b o hbe (s1.extBut b o hbi hb)))
  have hit4:h4.IsTupleIter it t (i + 1):=by
    rw [<- hh4]
    exact hit1.at fun o e'=>Heap.get?_push_of_some _ (s3.extBut _ o (Ne.symm hne) (s2.extBut _ o (Ne.symm hne) e'))
  show wpAny _ _ (Builtin.SmallTypes.ownedTupleIsFree (.ref e) >>= _) _ _ ⟨h4,g,d,tk + 1,os⟩
  rw [hsz]
  clear hh4 he3 s3 he2 s2 he1 s1 hit1 hsz h3 h2 h1
  refine wpAny_bind ?_
  unfold Builtin.SmallTypes.ownedTupleIsFree
  refine wpAny_bind (wpAny_field he4 rfl (x:=.none) rfl (wpAny_pure ?_))
  simp only [if_true]
  refine wpAny_bind (wpAny_rule ?_)
  refine wpAny_bind (wpAny_field he4 rfl (x:=old) rfl ?_)
  refine wpAny_bind (wpAny_setField_rec he4 (by simp) fun h5 he5 s5=>?_)
  replace s5:Heap.SameBut e h4 h5:=s5
  replace he5:IsEnum h5 e it ((i:Int) + 1) x:=he5
  show wpAny _ _ (Builtin.SmallTypes.ownedTupleHandOut (.ref e) (.ref hp.objs.size) >>= _) _ _ ⟨h5,g,d,tk + 1,os⟩
  refine wpAny_bind ?_
  unfold Builtin.SmallTypes.ownedTupleHandOut
  refine wpAny_bind (wpAny_setField_rec he5 (by simp) fun h6 he6 s6=>?_)
  replace s6:Heap.SameBut e h5 h6:=s6
  replace he6:IsEnumOut h6 e it ((i:Int) + 1) x hp.objs.size:=he6
  refine wpAny_setField_rec he6 (by simp) fun h7 he7 s7=>?_
  replace s7:Heap.SameBut e h6 h7:=s7
  replace he7:IsEnumOut h7 e it ((i:Int) + 1) x hp.objs.size:=he7
  refine wpAny_bind (wpAny_letGo (wpAny_pure ⟨_,rfl,wpAny_pure (hQ h7 he7 ?_ ?_ ?_ ?_)⟩))
  · exact hit4.at fun o e'=>s7.extBut _ o (Ne.symm hne) (s6.extBut _ o (Ne.symm hne) (s5.extBut _ o (Ne.symm hne) e'))
  · exact s7.extBut _ _ (Nat.ne_of_gt hel) (s6.extBut _ _ (Nat.ne_of_gt hel) (s5.extBut _ _ (Nat.ne_of_gt hel) ht4))
  · show h7.objs.size=hp.objs.size + 1
    rw [s7.1,s6.1,s5.1,hz4]
  · intro b o hb e'
    simp only [List.mem_cons,List.not_mem_nil,or_false,not_or] at hb
    exact s7.extBut b o hb.1 (s6.extBut b o hb.1 (s5.extBut b o hb.1 (hk4 b o hb.1 hb.2 e')))
theorem enT_end {e it t:Addr} {i:Nat} {xs:Array Value} {Q:Option Value->Shared->Prop} (hh:A.handled=none) (Z:EnT s.heap e it t i) (hl:s.heap.IsTuple t xs) (hx:xs[i]?=none)
    (hQ:∀ h',Heap.ExtBut it s.heap h'->Q none { s with heap:=h' }):wpAny (model prog w) A (pyNext (.ref e)) Q E s:=by
  obtain ⟨⟨old,he⟩,hit⟩:=Z
  have hT:s.TypeIs (.ref e) "enumerate":=⟨_,he,rfl⟩
  unfold pyNext
  refine wpAny_bind (wpAny_attempt (wpAny_callSpecial?_slot (name:=Str.ofString "__next__") hT F.slot_enumerate_next (wpAny_call_entry F.slot_enumerate_next hT F.entry_enumerate_next ?_ (F.args_enumerate_next_1 _))))
  show wpAny _ _ (field (.ref e) 2 >>= _) _ _ _
  refine wpAny_bind (wpAny_field he rfl (x:=.ref it) rfl ?_)
  refine wpAny_bind (nextT_end hh hit hl hx fun h' x he' hx'=>?_)
  obtain ⟨o,ho,hc⟩:=hx'
  exact wpAny_bind (wpAny_isInstance (T:="StopIteration") (b:=true) ⟨o,ho,hc⟩ isSubtype_stop (wpAny_pure (hQ _ he')))
theorem call_enumT {t:Addr} {xs:Array Value} {Q:Value->Shared->Prop} (hl:s.heap.IsTuple t xs)
    (h:∀ h',EnT h' (s.heap.objs.size + 1) s.heap.objs.size t 0->(∀ c o,s.heap.get? c=some o->h'.get? c=some o)->h'.objs.size=s.heap.objs.size + 2->Q (.ref (s.heap.objs.size + 1)) { s with heap:=h' }) :
    wpAny (model prog w) A (call (.type "enumerate") [.ref t]) Q E s:=by
  refine callType_new F.called_enumerate (by decide) (F.typeCall_enumerate_1 _) (F.newCall_enumerate_1 _) (fun obj=>F.args_object_init_2 obj _) F.entry_enumerate_new (enumT_new t xs) ⟨hl,?_⟩
  simp only [Heap.size_push]
  have e1:((s.heap.push (tit t)).push (enob s.heap.objs.size)).get? (s.heap.objs.size + 1)=some (enob s.heap.objs.size):=by
    have:((s.heap.push (tit t)).push (enob s.heap.objs.size)).get? (s.heap.push (tit t)).objs.size=some (enob s.heap.objs.size):=Heap.get?_push_size _ rfl
    rwa [Heap.size_push] at this
  refine ⟨⟨_,e1,rfl⟩,h _ ⟨⟨_,e1⟩,⟨_,Heap.get?_push_of_some _ (Heap.get?_push_size _ rfl),rfl,rfl⟩⟩ (fun c o e=>Heap.get?_push_of_some _ (Heap.get?_push_of_some _ e)) (by simp only [Heap.size_push])⟩
end
section
variable {X:Cx} {pins:List (Addr × Obj)} {σ:St} {H:Hp} {s:Shared}
def Ite (K:PySem.W.Frag) (a:Addr):It :=
  ⟨fun i H=>∃ xs x,SqT K H a xs/\xs[i]?=some x,fun i H v H'=>∃ p x,H p=none/\v=.ref p/\H'=upd H p (.tup [.int i,x])/\∀ xs,SqT K H a xs->xs[i]?=some x,fun i H=>∃ xs,SqT K H a xs/\xs.length <= i⟩
theorem Inv.yieldPair {h2:Heap} {t':Nat} {fp:List Addr} {x y:V} {u v:Value} (I:Inv X pins σ H s) (hf:∀ b ∈ fp,FpOk X pins H b) (k2:∀ c o,c ∉ fp->s.heap.get? c=some o->h2.get? c=some o)
    (e0:h2.get? s.heap.objs.size=some { cls:=.type "tuple",data:=.seq #[u,v] }) (ru:RelV x u) (rv:RelV y v):Inv X pins σ (upd H s.heap.objs.size (.tup [x,y])) { s with heap:=h2,toks:=t' }:=by
  have hn:H s.heap.objs.size=none:=I.hok.fresh (Nat.le_refl _)
  have pne:∀ c o,s.heap.get? c=some o->c ≠ s.heap.objs.size:=fun c o e=>Nat.ne_of_lt (Heap.lt_size e)
  have nit:∀ c u,H c=some u->c ∉ fp:=fun c u e q=>by rw [(hf c q).1] at e;cases e
  have hok:HOk X.prog X.w (upd H s.heap.objs.size (.tup [x,y])) h2:=fun c ob e=>by
    by_cases hq:c=s.heap.objs.size
    · subst hq
      rw [upd_same] at e;cases e
      exact ⟨by show 2 <= sizeLine;decide,[u,v],.cons ru (.cons rv .nil),⟨_,e0,rfl,_,rfl⟩⟩
    · rw [upd_ne hq] at e
      refine (I.hok c ob e).stay (fun d w' hd q=>k2 d w' ?_ q) (fun d q=>by rw [upd_ne (ne_of_none q hn)];exact q) fun d xs q=>by rw [upd_ne (ne_of_none q hn)];exact q
      rcases hd with rfl | hd
      · exact nit d ob e
      · exact nit d _ hd
  refine I.step (g':=s.gens) (d':=s.drawn) (t':=t') (ch:=fp) (fun c hc=>⟨(hf c hc).2.2.2.1,(hf c hc).2.1,(hf c hc).2.2.2.2.1,(hf c hc).2.2.2.2.2⟩) (fun c o _ _ hc e _=>k2 c o hc e) (fun c o _ _ hc e _=>⟨o.slots,k2 c o hc e⟩)
    (fun c o _ e n=>by rw [upd_ne (pne c o e)];exact n) (fun c o hc e=>⟨o,k2 c o hc e⟩) (fun c xs e=>by rw [upd_ne (ne_of_none e hn)];exact e) (fun c o u e=>by rw [upd_ne (ne_of_none e hn)];exact e) (fun c ps e=>⟨#[],by rw [upd_ne (ne_of_none e hn),e];simp⟩) (fun m hm=>?_) hok I.bare
  obtain ⟨o,es,ep,ho,r⟩:=hm
  exact ⟨o,es,ep,k2 _ o (fun q=>(hf _ q).2.1 rfl) ho,r⟩
theorem turn_enumT {P:Program} {w:World} {K:PySem.W.Frag} {es:List Expr} {kk:Nat} {pos:Pos} {a e it:Addr} (hne:e ≠ it) :
    Turn P w K (.Tuple es kk pos) (Ite K a) [e,it] e (fun i h=>EnT h e it a i) where
  mem:=by simp
  obj:=fun i h st c hc=>by
    obtain ⟨⟨_,he⟩,⟨_,h1,_,d1⟩⟩:=st
    simp only [List.mem_cons,List.not_mem_nil,or_false] at hc
    rcases hc with rfl | rfl
    · exact ⟨_,he,fun v q=>by cases q⟩
    · exact ⟨_,h1,fun v q=>by rw [d1] at q;cases q⟩
  keep:=fun i h h' st k=>⟨let ⟨old,he⟩:=st.en;⟨old,k _ (by simp) _ he⟩,st.it.at fun o e=>k _ (by simp) o e⟩
  item:=by
    intro X hP hw hK hc i pins s σ H E I hf st hg
    subst hP hw hK
    obtain ⟨xs,x,ha,hx⟩:=hg
    obtain ⟨its,r1,p1,_⟩:=I.tuple ha
    obtain ⟨u,hu,ru⟩:=r1.get hx
    refine enT_item st (show s.heap.IsTuple a its.toArray from p1) (x:=u) (by simpa using hu) hne fun h' z1 j1 new sz keep=>?_
    refine ⟨_,rfl,wpAny_letOwnedTupleGo_enum (s:={ s with heap:=h',toks:=s.toks + 1 }) z1 fun h2 z2 sb=>?_⟩
    have elt:e < s.heap.objs.size:=let ⟨_,he⟩:=st.en;Heap.lt_size he
    have ilt:it < s.heap.objs.size:=let ⟨_,h1,_⟩:=st.it;Heap.lt_size h1
    have k2:∀ c o,c ∉ [e,it]->s.heap.get? c=some o->h2.get? c=some o:=fun c o hc q=>sb.extBut _ _ (fun z=>hc (by simp [z])) (keep c o hc q)
    have e0:h2.get? s.heap.objs.size=some { cls:=.type "tuple",data:=.seq #[.int i s.toks,u] }:=sb.extBut _ _ (Nat.ne_of_gt elt) new
    have hn:H s.heap.objs.size=none:=I.hok.fresh (Nat.le_refl _)
    refine ⟨.ref s.heap.objs.size,_,I.yieldPair (t':=s.toks + 1) (x:=.int i) (y:=x) hf k2 e0 ⟨_,rfl⟩ ru,rfl,⟨_,x,hn,rfl,rfl,fun xs' h'=>by rw [I.tuple_inj h' ha];exact hx⟩,?_,fun c hc=>?_⟩
    · refine ⟨⟨u,?_⟩,j1.at fun o e'=>sb.extBut _ o (Ne.symm hne) e'⟩
      have e1:((i + 1:Nat):Int)=(i:Int) + 1:=by omega
      rw [e1];exact z2
    · have hlt:c < s.heap.objs.size:=by
        simp only [List.mem_cons,List.not_mem_nil,or_false] at hc
        rcases hc with rfl | rfl
        · exact elt
        · exact ilt
      rw [upd_ne (Nat.ne_of_lt hlt)]
      exact (hf c hc).1
  done:=by
    intro X hP hw hK hc i pins s σ H E I hf st hg
    subst hP hw hK
    obtain ⟨xs,ha,hx⟩:=hg
    obtain ⟨its,r1,p1,_⟩:=I.tuple ha
    have hl:=r1.length
    refine enT_end (I.ok.hd hc) st (show s.heap.IsTuple a its.toArray from p1) (by simp;omega) fun h' keep=>⟨rfl,I.turnedL (t':=s.toks) (ch:=[e,it]) (fun c o hc e=>keep c o (fun q=>hc (by simp [q])) e) hf⟩
  self:=fun _ _ _ _ _ st h=>let ⟨_,he⟩:=st.en;wpAny_pyIter_enum he h
theorem boot_enum:bootBuiltins "enumerate"=some (.type "enumerate"):=by decide +kernel
def iEnum (K:PySem.W.Frag) (ta:TA):TI:=fun σ H R=>ta σ H fun vs H1=>∃ a xs,vs=[.ref a]/\SqT K H1 a xs/\R (Ite K a) H1
theorem pi_enumT {e1:Expr} {es:List Expr} {kk:Nat} {pt p pos:Pos} {ta:TA} (hg:Gl X "enumerate") (hm:X.mg "enumerate"=none) (ha:PA X [e1] ta) (hs:starEach [e1] X.env=[(false,eval e1 X.env)]:=by rfl) :
    PI X (.Tuple es kk pt) (.Call (.Name "enumerate" p) [e1] [] pos) (iEnum X.K ta):=by
  intro pins s σ H R I h
  refine Call_ (ld_blt I hg hm boot_enum (PyProof.Rows.callWith_type1 (thn (ha pos pins s σ H _ I h) fun us s1 ⟨vs,H1,I1,r1,q1⟩=>?_) (by rw [hs];rfl) (by rfl)))
  obtain ⟨a,xs,rfl,hx,q⟩:=q1
  cases r1 with
  | cons ra rr =>
    cases rr
    cases ra
    obtain ⟨its,r1,p1,_⟩:=I1.tuple hx
    refine call_enumT (show s1.heap.IsTuple a its.toArray from p1) fun h' Z keep sz=>?_
    obtain ⟨old,he⟩:=id Z.en
    refine wpAny_pyIter_enum (s:={ s1 with heap:=h' }) he ?_
    have I2:Inv X pins σ H1 { s1 with heap:=h' }:=I1.kept (t':=s1.toks) keep
    refine ⟨s1.heap.objs.size + 1,[s1.heap.objs.size + 1,s1.heap.objs.size],_,_,H1,rfl,I2,turn_enumT (by show s1.heap.objs.size + 1 ≠ s1.heap.objs.size;omega),Z,fun c hc=>?_,q⟩
    have hge:s1.heap.objs.size <= c:=by
      simp only [List.mem_cons,List.not_mem_nil,or_false] at hc
      rcases hc with rfl | rfl <;> first | exact Nat.le_add_right _ _ | exact Nat.le_refl _
    exact I1.fpOk hge (I1.hok.fresh hge)
end
end L2
namespace L2
open PySem PySem.Spec PyProof.Rows
section
variable {prog:Program} {w:World} {A:Around} {E:Value->Shared->Prop} {s:Shared}
theorem itemsR_new {d:Addr} {Q:Value->Shared->Prop} (hd:(d == sysModules)=false) (hT:s.TypeIs (.ref d) "dict") (h:Q (.ref s.heap.objs.size) { s with heap:=s.heap.push { cls:=.type "dict_items",data:=.fields #[.ref d] } }) :
    wpAny (model prog w) A (call (.builtin "dict.items") [.ref d]) Q E s:=by
  have g:MeetsIn prog w (Builtin.«dict.items» ⟨[.ref d],[]⟩) (fun _ R s=>s.TypeIs (.ref d) "dict"/\R (.ok (.ret (.ref s.heap.objs.size))) { s with heap:=s.heap.push { cls:=.type "dict_items",data:=.fields #[.ref d] } }) :=
    .of_wp fun A R s ⟨hm,h⟩=>by
      unfold Builtin.«dict.items»
      refine wpAny_bind ?_
      unfold Builtin.Dict.noArgs
      refine wpAny_bind (wpAny_notOrdered_dict hm ?_)
      show wpAny _ _ (pure d) _ _ s
      refine wpAny_pure ?_
      show wpAny _ _ (Builtin.Dict.showsAll d >>= _) _ _ s
      unfold Builtin.Dict.showsAll
      rw [if_neg (by rw [hd];exact Bool.false_ne_true)]
      refine wpAny_bind (wpAny_pure ?_)
      exact wpAny_bind (wpAny_newObj_type (wpAny_pure ⟨_,rfl,h⟩))
  exact call_meetsIn PySem.F.slot_dict_items hT PySem.F.entry_dict_items (PySem.F.args_dict_items_1 _) g ⟨hT,h⟩
theorem itemsR_iter {v d:Addr} {od:Obj} {es:Array DictEntry} {ep:Nat} {Q:Value->Shared->Prop} (hv:s.heap.IsItemsView v d) (ho:s.heap.get? d=some od) (hdat:od.data=.dict es ep)
    (hQ:Q (.ref s.heap.objs.size) { s with heap:=s.heap.push { cls:=.type "dict_itemiterator",data:=.fields #[.none,.bool false,.ref d,.int 0 0,.int es.size 0,.int ep 0,.none,.none] } }) :
    wpAny (model prog w) A (pyIter (.ref v)) Q E s:=by
  obtain ⟨ov,hov,hcv,hdv⟩:=id hv
  refine wpAny_pyIter_slot hv.typeIs F.slot_dict_items_iter (wpAny_call_entry F.slot_dict_items_iter hv.typeIs F.entry_dict_items_iter ?_ (F.args_dict_items_iter_1 _))
  unfold Builtin.«dict_items.__iter__»
  refine wpAny_bind (wpAny_pure ?_)
  refine wpAny_bind ?_
  unfold Builtin.Dict_items.dictOf
  refine wpAny_bind (wpAny_field hov hdv (x:=.ref d) rfl (wpAny_pure ?_))
  refine wpAny_bind ?_
  unfold Builtin.Dict_items.newIterator
  refine wpAny_bind (wpAny_dictEntries ho hdat ?_)
  refine wpAny_bind (wpAny_dictEpoch ho hdat ?_)
  have hown:Builtin.Dict_items.ownsTuple "dict_itemiterator"=true:=by decide
  simp only [hown,if_true]
  refine wpAny_newObj_type (wpAny_pure ⟨_,rfl,"dict_itemiterator",_,⟨_,Heap.get?_push_size _ rfl,rfl⟩,F.slot_dict_itemiterator_next.lookup,?_⟩)
    (by simp only [sizeOk,Builtin.Dict_items.ownedTupleFields,List.size_toArray,List.length_append,List.length_cons,List.length_nil,sizeLine_eq];omega)
  simpa [rawInt,Builtin.Dict_items.ownedTupleFields] using hQ
theorem itemsR_item {it d:Addr} {i ep:Nat} {od:Obj} {es:Array DictEntry} {en:DictEntry} {ok ov:Value} {Q:Option Value->Shared->Prop} (hit:IsItemIter s.heap it d i es.size ep ok ov)
    (hod:s.heap.get? d=some od) (hdd:od.data=.dict es ep) (hx:es[i]?=some en)
    (hQ:∀ h',IsItemIterOut h' it d (i + 1) es.size ep en.key en.val s.heap.objs.size->h'.get? s.heap.objs.size=some { cls:=.type "tuple",data:=.seq #[en.key,en.val] }->h'.objs.size=s.heap.objs.size + 1 ->
      (∀ b o,b ≠ it->s.heap.get? b=some o->h'.get? b=some o)->Q (some (.ref s.heap.objs.size)) { s with heap:=h' }):wpAny (model prog w) A (pyNext (.ref it)) Q E s:=by
  obtain ⟨hp,g,dr,tk,os⟩:=s
  have hT:Shared.TypeIs ⟨hp,g,dr,tk,os⟩ (.ref it) "dict_itemiterator":=⟨_,hit,rfl⟩
  unfold pyNext
  refine wpAny_bind (wpAny_attempt (wpAny_callSpecial?_slot (name:=Str.ofString "__next__") hT F.slot_dict_itemiterator_next
    (wpAny_call_entry F.slot_dict_itemiterator_next hT F.entry_dict_itemiterator_next ?_ (F.args_dict_itemiterator_next_1 _))))
  refine wpAny_bind (wpAny_pure ?_)
  refine wpAny_bind ?_
  refine wpAny_bind ?_
  first | refine wpAny_bind (wpAny_typeNameOfWhole_itemiter hT (wpAny_pure ?_)) | refine wpAny_bind (wpAny_typeNameOf_itemiter hT (wpAny_pure ?_))
  refine wpAny_bind (wpAny_fieldsOf hit rfl ?_)
  have hown:Builtin.Dict_items.ownsTuple "dict_itemiterator"=true:=by decide
  simp only [hown,if_true]
  show wpAny _ _ (if (Value.ref d == Value.none)=true then _ else _) _ _ _
  rw [if_neg (show ¬ ((Value.ref d == Value.none)=true) from Bool.false_ne_true)]
  refine wpAny_bind (wpAny_pure ?_)
  refine wpAny_bind (wpAny_dictEntries hod hdd ?_)
  rw [if_neg (by simp)]
  refine wpAny_bind (wpAny_pure ?_)
  refine wpAny_bind (wpAny_dictEpoch hod hdd ?_)
  rw [if_neg (by simp)]
  refine wpAny_pure ?_
  obtain ⟨hlt',hen⟩:=Array.getElem?_eq_some_iff.mp hx
  simp only [show ¬ ((i:Int) < 0) from by omega,if_false,Int.toNat_natCast,hx]
  refine wpAny_bind ?_
  first | refine wpAny_bind (wpAny_typeNameOfWhole_itemiter hT (wpAny_pure ?_)) | refine wpAny_bind (wpAny_typeNameOf_itemiter hT (wpAny_pure ?_))
  refine wpAny_bind (wpAny_isOneOf_itemiter hT ?_)
  show wpAny _ _ (setField (.ref it) 3 (rawInt ((i:Int) + 1)) >>= _) _ _ ⟨hp,g,dr,tk,os⟩
  refine wpAny_bind (wpAny_setField_rec hit (by simp) fun h1 he1 s1=>?_)
  replace s1:Heap.SameBut it hp h1:=s1
  replace he1:IsItemIter h1 it d (i + 1) es.size ep ok ov:=by
    have e:((i + 1:Nat):Int)=(i:Int) + 1:=by omega
    unfold IsItemIter;rw [e];simpa [rawInt] using he1
  have hT1:Shared.TypeIs ⟨h1,g,dr,tk,os⟩ (.ref it) "dict_itemiterator":=⟨_,he1,rfl⟩
  refine wpAny_bind (wpAny_holding ?_)
  refine wpAny_bind (wpAny_isOneOf_itemiter hT1 ?_)
  refine wpAny_bind (wpAny_isOneOf_itemiter hT1 ?_)
  show wpAny _ _ (Builtin.Dict_items.pairFromOwner (.ref it) 6 en.key en.val) _ _ ⟨h1,g,dr,tk,os⟩
  unfold Builtin.Dict_items.pairFromOwner
  refine wpAny_bind (wpAny_newTuple ?_)
  have he2:IsItemIter (h1.push { cls:=.type "tuple",data:=.seq #[en.key,en.val] }) it d (i + 1) es.size ep ok ov:=Heap.get?_push_of_some _ he1
  generalize hh2:h1.push { cls:=.type "tuple",data:=.seq #[en.key,en.val] }=h2 at he2
  have hz1:h1.objs.size=hp.objs.size:=s1.1
  have hil:it < hp.objs.size:=Heap.lt_size hit
  have ht2:h2.get? hp.objs.size=some { cls:=.type "tuple",data:=.seq #[en.key,en.val] }:=by rw [<- hh2,<- hz1];exact Heap.get?_push_size _ rfl
  have hz2:h2.objs.size=hp.objs.size + 1:=by rw [<- hh2,Heap.size_push,hz1]
  have hk2:∀ b o,b ≠ it->hp.get? b=some o->h2.get? b=some o:=fun b o hb e=>by rw [<- hh2];exact Heap.get?_push_of_some _ (s1.extBut b o hb e)
  show wpAny _ _ (Builtin.Dict_items.ownedTupleIsFree (.ref it) >>= _) _ _ ⟨h2,g,dr,tk,os⟩
  rw [hz1]
  clear hh2 he1 s1 hT1 hz1 h1
  refine wpAny_bind ?_
  unfold Builtin.Dict_items.ownedTupleIsFree
  refine wpAny_bind (wpAny_field he2 rfl (x:=.none) rfl (wpAny_pure ?_))
  simp only [if_true]
  refine wpAny_bind (wpAny_field he2 rfl (x:=ok) rfl ?_)
  refine wpAny_bind (wpAny_field he2 rfl (x:=ov) rfl ?_)
  refine wpAny_bind (wpAny_setField_rec he2 (by simp) fun h3 he3 s3=>?_)
  replace s3:Heap.SameBut it h2 h3:=s3
  replace he3:IsItemIter h3 it d (i + 1) es.size ep en.key ov:=he3
  refine wpAny_bind (wpAny_setField_rec he3 (by simp) fun h4 he4 s4=>?_)
  replace s4:Heap.SameBut it h3 h4:=s4
  replace he4:IsItemIter h4 it d (i + 1) es.size ep en.key en.val:=he4
  refine wpAny_bind (wpAny_setField_rec he4 (by simp) fun h5 he5 s5=>?_)
  replace s5:Heap.SameBut it h4 h5:=s5
  replace he5:IsItemIterOut h5 it d (i + 1) es.size ep en.key en.val hp.objs.size:=he5
  refine wpAny_bind (wpAny_setField_rec he5 (by simp) fun h6 he6 s6=>?_)
  replace s6:Heap.SameBut it h5 h6:=s6
  replace he6:IsItemIterOut h6 it d (i + 1) es.size ep en.key en.val hp.objs.size:=he6
  refine wpAny_bind (wpAny_letGo (wpAny_pure (wpAny_pure ⟨_,rfl,wpAny_pure (hQ h6 he6 ?_ ?_ ?_)⟩)))
  · exact s6.extBut _ _ (Nat.ne_of_gt hil) (s5.extBut _ _ (Nat.ne_of_gt hil) (s4.extBut _ _ (Nat.ne_of_gt hil) (s3.extBut _ _ (Nat.ne_of_gt hil) ht2)))
  · show h6.objs.size=hp.objs.size + 1
    rw [s6.1,s5.1,s4.1,s3.1,hz2]
  · exact fun b o hb e=>s6.extBut b o hb (s5.extBut b o hb (s4.extBut b o hb (s3.extBut b o hb (hk2 b o hb e))))
theorem itemsR_end {it d:Addr} {i ep:Nat} {od:Obj} {es:Array DictEntry} {ok ov:Value} {Q:Option Value->Shared->Prop} (hh:A.handled=none) (hit:IsItemIter s.heap it d i es.size ep ok ov)
    (hod:s.heap.get? d=some od) (hdd:od.data=.dict es ep) (hge:es.size <= i) (hQ:∀ h',Heap.ExtBut it s.heap h'->Q none { s with heap:=h' }):wpAny (model prog w) A (pyNext (.ref it)) Q E s:=by
  have hT:s.TypeIs (.ref it) "dict_itemiterator":=⟨_,hit,rfl⟩
  unfold pyNext
  refine wpAny_bind (wpAny_attempt (wpAny_callSpecial?_slot (name:=Str.ofString "__next__") hT F.slot_dict_itemiterator_next
    (wpAny_call_entry F.slot_dict_itemiterator_next hT F.entry_dict_itemiterator_next ?_ (F.args_dict_itemiterator_next_1 _))))
  refine wpAny_bind (wpAny_pure ?_)
  refine wpAny_bind ?_
  refine wpAny_bind ?_
  first | refine wpAny_bind (wpAny_typeNameOfWhole_itemiter hT (wpAny_pure ?_)) | refine wpAny_bind (wpAny_typeNameOf_itemiter hT (wpAny_pure ?_))
  refine wpAny_bind (wpAny_fieldsOf hit rfl ?_)
  have hown:Builtin.Dict_items.ownsTuple "dict_itemiterator"=true:=by decide
  simp only [hown,if_true]
  show wpAny _ _ (if (Value.ref d == Value.none)=true then _ else _) _ _ s
  rw [if_neg (show ¬ ((Value.ref d == Value.none)=true) from Bool.false_ne_true)]
  refine wpAny_bind (wpAny_pure ?_)
  refine wpAny_bind (wpAny_dictEntries hod hdd ?_)
  rw [if_neg (by simp)]
  refine wpAny_bind (wpAny_pure ?_)
  refine wpAny_bind (wpAny_dictEpoch hod hdd ?_)
  rw [if_neg (by simp)]
  refine wpAny_pure ?_
  simp only [show ¬ ((i:Int) < 0) from by omega,if_false,Int.toNat_natCast,Array.getElem?_eq_none hge]
  refine wpAny_bind ?_
  first | refine wpAny_bind (wpAny_typeNameOfWhole_itemiter hT (wpAny_pure ?_)) | refine wpAny_bind (wpAny_typeNameOf_itemiter hT (wpAny_pure ?_))
  show wpAny _ _ (setField (.ref it) 2 .none >>= _) _ _ s
  refine wpAny_bind (wpAny_setField hit rfl (by simp) ?_)
  show wpAny _ _ (newExc (.type "StopIteration") [] >>= _) _ _ _
  refine wpAny_bind ?_
  simp only [newExc,newTuple]
  refine wpAny_bind (wpAny_newObj_type ?_ (by size_fits))
  refine wpAny_bind (m:=firstArgMember _ _) (wpAny_of_eq (a:=Value.none) (by first | rfl | (simp only [firstArgMember];rfl)) ?_)
  refine wpAny_newObj_type ?_ (by size_fits)
  simp only [raiseNew]
  refine wpAny_bind (wpAny_handled ?_)
  rw [show A.in1.handled=none from hh]
  refine wpAny_bind (wpAny_pure (wpAny_throw ?_))
  refine wpAny_bind (wpAny_isInstance (T:="StopIteration") (b:=true) ⟨_,Heap.get?_push_size _ rfl,rfl⟩ isSubtype_stop ?_)
  exact wpAny_pure (hQ _ (((Heap.SameBut.update ..).extBut.push _).push _))
theorem entry_itemiter_iter:entryFor table "dict_itemiterator.__iter__"=some Builtin.«dict_keyiterator.__iter__»:=entryFor_alias (id':="dict_keyiterator.__iter__") (by kernel_rfl) rfl (by decide +kernel) (by kernel_rfl)
theorem iter_itemiter {it d:Addr} {i n ep:Nat} {ok ov:Value} {Q:Value->Shared->Prop} (h:IsItemIter s.heap it d i n ep ok ov) (q:Q (.ref it) s):wpAny (model prog w) A (pyIter (.ref it)) Q E s:=by
  have hT:s.TypeIs (.ref it) "dict_itemiterator":=⟨_,h,rfl⟩
  refine wpAny_pyIter_slot hT F.slot_dict_itemiterator_iter (wpAny_call_entry F.slot_dict_itemiterator_iter hT entry_itemiter_iter ?_ (F.args_dict_itemiterator_iter_1 _))
  exact wpAny_pure ⟨_,rfl,"dict_itemiterator",_,hT,F.slot_dict_itemiterator_next.lookup,q⟩
end
section
variable {X:Cx} {pins:List (Addr × Obj)} {σ:St} {H:Hp} {s:Shared}
def Itd (d:Addr) (o:Obj) (kvs:List (List Key × V)):It :=
  ⟨fun i H=>H d=some (.frz o (.dT kvs))/\i < kvs.length,fun i H v H'=>∃ p ka k x,H p=none/\v=.ref p/\H'=upd H p (.tup [.ref ka,x])/\kvs[i]?=some (k,x)/\H ka=some (.tup (k.map kV)),fun i H=>H d=some (.frz o (.dT kvs))/\kvs.length <= i⟩
theorem Paired.get {α β:Type} {F:α->β->Prop}:∀ {l:List α} {m:List β} {i:Nat} {a:α},Paired F l m->l[i]?=some a->∃ b,m[i]?=some b/\F a b
  | _ :: _,_ :: _,0,_,.cons r _,h=>by cases h;exact ⟨_,rfl,r⟩
  | _ :: _,_ :: _,i + 1,_,.cons _ t,h=>by
    obtain ⟨b,e,r⟩:=Paired.get (i:=i) t (by simpa using h)
    exact ⟨b,by simpa using e,r⟩
theorem Inv.frzT {d:Addr} {o:Obj} {kvs:List (List Key × V)} {es:Array DictEntry} {ep:Nat} (I:Inv X pins σ H s) (e:H d=some (.frz o (.dT kvs))) (hd:o.data=.dict es ep) :
    s.heap.get? d=some o/\es.size=kvs.length/\∀ (i:Nat) (k:List Key) (x:V),kvs[i]?=some (k,x)->∃ (ka:Addr) (u:Value) (en:DictEntry),es[i]?=some en/\en.key=.ref ka/\en.val=u/\H ka=some (.tup (k.map kV))/\RelV x u:=by
  obtain ⟨h1,_,_,xs,r,o',es',ep',h2,_,h3,h4,_⟩:=(show ObjOk X.prog X.w H s.heap d (.frz o (.dT kvs)) from I.hok d _ e)
  rw [h1] at h2
  cases h2
  rw [hd] at h3
  cases h3
  have hl:es.size=kvs.length:=by
    rw [<- Array.length_toList,h4,List.length_map];exact (Paired.length r).symm
  refine ⟨h1,hl,fun i k x hx=>?_⟩
  obtain ⟨q,hq,f1,f2,f3⟩:=Paired.get r hx
  refine ⟨q.2.1,q.2.2,entryOfKey (tupleKind (mixKind X.prog X.w)) q,?_,rfl,rfl,f2,f3⟩
  rw [<- Array.getElem?_toList,h4,List.getElem?_map,hq];rfl
theorem turn_items {P:Program} {w:World} {K:PySem.W.Frag} {els:List Expr} {kk:Nat} {pos:Pos} {d it:Addr} {o:Obj} {kvs:List (List Key × V)} {es:Array DictEntry} {ep:Nat} (hd:o.data=.dict es ep) :
    Turn P w K (.Tuple els kk pos) (Itd d o kvs) [it] it (fun i h=>∃ ok ov,IsItemIter h it d i es.size ep ok ov) where
  mem:=by simp
  obj:=fun i h st c hc=>by
    obtain ⟨ok,ov,he⟩:=st
    simp only [List.mem_cons,List.not_mem_nil,or_false] at hc
    subst hc
    exact ⟨_,he,fun v q=>by cases q⟩
  keep:=fun i h h' st k=>let ⟨ok,ov,he⟩:=st;⟨ok,ov,k _ (by simp) _ he⟩
  item:=by
    intro X hP hw hK hc i pins s σ H E I hf st hg
    subst hP hw hK
    obtain ⟨hF,hi⟩:=hg
    obtain ⟨ok,ov,he⟩:=st
    obtain ⟨h1,hsz,hget⟩:=I.frzT hF hd
    obtain ⟨⟨k,x⟩,hkx⟩:∃ kx,kvs[i]?=some kx:=⟨_,List.getElem?_eq_getElem hi⟩
    obtain ⟨ka,u,en,e1,e2,e3,e4,ru⟩:=hget i k x hkx
    refine itemsR_item he h1 hd e1 fun h' z1 new sz keep=>?_
    rw [e2,e3] at z1 new
    refine ⟨_,rfl,wpAny_letOwnedTupleGo_items (s:={ s with heap:=h' }) z1 fun h2 z2 sb=>?_⟩
    have ilt:it < s.heap.objs.size:=Heap.lt_size he
    have k2:∀ c o,c ∉ [it]->s.heap.get? c=some o->h2.get? c=some o:=fun c o hc q=>sb.extBut _ _ (fun z=>hc (by simp [z])) (keep c o (fun z=>hc (by simp [z])) q)
    have e0:h2.get? s.heap.objs.size=some { cls:=.type "tuple",data:=.seq #[.ref ka,u] }:=sb.extBut _ _ (Nat.ne_of_gt ilt) new
    have hn:H s.heap.objs.size=none:=I.hok.fresh (Nat.le_refl _)
    refine ⟨.ref s.heap.objs.size,_,I.yieldPair (t':=s.toks) (x:=.ref ka) (y:=x) hf k2 e0 rfl ru,rfl,⟨_,ka,k,x,hn,rfl,rfl,hkx,e4⟩,⟨_,_,z2⟩,fun c hc=>?_⟩
    have hlt:c < s.heap.objs.size:=by
      simp only [List.mem_cons,List.not_mem_nil,or_false] at hc
      subst hc;exact ilt
    rw [upd_ne (Nat.ne_of_lt hlt)]
    exact (hf c hc).1
  done:=by
    intro X hP hw hK hc i pins s σ H E I hf st hg
    subst hP hw hK
    obtain ⟨hF,hi⟩:=hg
    obtain ⟨ok,ov,he⟩:=st
    obtain ⟨h1,hsz,_⟩:=I.frzT hF hd
    exact itemsR_end (I.ok.hd hc) he h1 hd (by omega) fun h' keep=>⟨rfl,I.turnedL (t':=s.toks) (ch:=[it]) (fun c o hc e=>keep c o (fun q=>hc (by simp [q])) e) hf⟩
  self:=fun _ _ _ _ _ st h=>let ⟨_,_,he⟩:=st;iter_itemiter he h
theorem Inv.freeze {d:Addr} {kvs:List (List Key × V)} (I:Inv X pins σ H s) (e:H d=some (.dT kvs)):∃ o es ep,o.data=.dict es ep/\s.heap.get? d=some o/\Inv X pins σ (upd H d (.frz o (.dT kvs))) s:=by
  have ok:=(show ObjOk X.prog X.w H s.heap d (.dT kvs) from I.hok d _ e)
  obtain ⟨_,_,_,_,o,es,ep,ho,_,hd,_⟩:=id ok
  refine ⟨o,es,ep,hd,ho,?_⟩
  have tup:∀ b xs,H b=some (.tup xs)->upd H d (.frz o (.dT kvs)) b=some (.tup xs):=fun b xs q=>by
    rw [upd_ne (ne_of q e (by intro z;cases z))];exact q
  have own:∀ b c,H b=some (.own c)->upd H d (.frz o (.dT kvs)) b=some (.own c):=fun b c q=>by
    rw [upd_ne (ne_of q e (by intro z;cases z))];exact q
  have:=I.step (H':=upd H d (.frz o (.dT kvs))) (h':=s.heap) (g':=s.gens) (d':=s.drawn) (t':=s.toks) (ch:=[]) (fun _ z=>nomatch z) (fun b o _ _ _ q _=>q) (fun b o _ _ _ q _=>⟨o.slots,q⟩)
    (fun b o _ _ n=>by
      by_cases hb:b=d
      · subst hb;rw [e] at n;cases n
      · rw [upd_ne hb];exact n) (fun b o _ q=>⟨o,q⟩) tup (fun b o u q=>by rw [upd_ne (ne_of q e (by intro z;cases z))];exact q) (fun b ps q=>⟨#[],by rw [upd_ne (ne_of q e (by intro z;cases z)),q];simp⟩) (fun m hm=>hm)
    (fun b ob q=>by
      by_cases hb:b=d
      · subst hb
        rw [upd_same] at q;cases q
        exact ⟨ho,ok.stay (fun c v _ q=>q) (fun c q=>own c _ q) tup⟩
      · rw [upd_ne hb] at q
        exact (I.hok b ob q).stay (fun c v _ q=>q) (fun c q=>own c _ q) tup) I.bare
  exact this
def iItems (td:TE):TI:=fun σ H R=>td σ H fun x H1=>∃ d kvs,x=.ref d/\H1 d=some (.dT kvs)/\∀ o,R (Itd d o kvs) (upd H1 d (.frz o (.dT kvs)))
theorem pi_items {e:Expr} {els:List Expr} {kk:Nat} {pt apos cpos:Pos} {td:TE} (ho:PE X e td) (hbase:attributeBase e "items" X.env (eval e X.env)=eval e X.env:=by rfl) (hline:(apos.endLine == cpos.line)=true:=by rfl) :
    PI X (.Tuple els kk pt) (.Call (.Attribute e "items" apos) [] [] cpos) (iItems td):=by
  intro pins s σ H R I h
  refine wpAny_Call_method0_late hbase hline (thn (ho pins s σ H _ I h) fun v s1 ⟨x,H1,I1,r1,d,kvs,ex,hd,q⟩=>?_)
  subst ex
  cases r1
  obtain ⟨o,es,ep,hdat,hob,I2⟩:=I1.freeze hd
  obtain ⟨_,hsys,_,_,o',_,_,hob',hex,_⟩:=(show ObjOk X.prog X.w H1 s1.heap d (.dT kvs) from I1.hok d _ hd)
  rw [hob] at hob'
  cases hob'
  refine ⟨"dict","dict.items",PySem.F.plainAttrs_dict,PySem.F.slot_dict_items,PySem.F.type_dict_items,⟨o,hob,hex.1⟩,fun a e=>by cases e;exact ⟨o,hob,hex.2.1⟩,Calls.callWith_builtin rfl (PySem.evalArgs_none ?_)⟩
  refine itemsR_new hsys ⟨o,hob,hex.1⟩ ?_
  refine itemsR_iter (s:={ s1 with heap:=s1.heap.push { cls:=.type "dict_items",data:=.fields #[.ref d] } }) ⟨_,Heap.get?_push_size _ rfl,rfl,rfl⟩ (Heap.get?_push_of_some _ hob) hdat ?_
  have I3:Inv X pins σ (upd H1 d (.frz o (.dT kvs))) { s1 with heap:=s1.heap.push { cls:=.type "dict_items",data:=.fields #[.ref d] } }:=I2.kept (t':=s1.toks) fun b o e=>Heap.get?_push_of_some _ e
  refine ⟨_,[_],_,_,upd H1 d (.frz o (.dT kvs)),rfl,I3.kept (t':=s1.toks) fun b o e=>Heap.get?_push_of_some _ e,turn_items hdat,⟨_,_,Heap.get?_push_size _ rfl⟩,fun b hb=>?_,q o⟩
  have e:b=(s1.heap.push { cls:=.type "dict_items",data:=.fields #[.ref d] }).objs.size:=by simpa using hb
  subst e
  exact I3.fpOk (Nat.le_refl _) (I3.hok.fresh (Nat.le_refl _))
end
end L2
namespace L2
open PySem PySem.Spec PyProof.Rows
section
variable {X:Cx}
def tDT1 (tk tv:TE):TE:=fun σ H Q=>∀ p,H p=none->tk σ (upd H p (.dT [])) fun y H1=>tv σ H1 fun x H2=>H2 p=some (.dT [])/\∃ b ks,y=.ref b/\H2 b=some (.tup (ks.map kV))/\Q (.ref p) (upd H2 p (.dT [(ks,x)]))
theorem pe_dT1 {k v:Expr} {tk tv:TE} {pos:Pos} (hu:X.A.units + 1 < cLine) (hk:PE X k tk) (hv:PE X v tv):PE X (.Dict [some k] [v] pos) (tDT1 tk tv):=by
  intro pins s σ H Q I q
  have hn:=I.hok.fresh (Nat.le_refl s.heap.objs.size)
  have I1:=I.laid (a:=s.heap.objs.size) (o:=.dT []) (h':=s.heap.push { cls:=.type "dict",data:=.dict #[] }) (t':=s.toks) (fun _ _ q=>Heap.get?_push_of_some _ q) (Nat.le_refl _) (dt_empty s.heap I.big)
  refine wpAny_Dict_any rfl rfl (by simp) (by simp) (pairTrees_cons_walk (thn (hk pins _ σ _ _ I1 (q _ hn)) fun u s1 ⟨y,H1,I2,ry,q1⟩=>thn (hv pins s1 σ H1 _ I2 q1) fun r s2 ⟨x,H2,I3,rx,e,b,ks,ey,eb,q2⟩=>pairTrees_nil_walk ?_))
  subst ey
  cases ry
  unfold storeAll
  rw [List.forIn_cons]
  obtain ⟨z,hd,xs,rel,dd⟩:=dt_of I3.hok e
  have hz:xs.length <= sizeLine:=by rw [<- Paired.length rel];exact z
  refine wpAny_bind (wpAny_bind (wpAny_dictSet_heap (hsz:=hz) (knd:=tupleKind (mixKind X.prog X.w)) (show (tupleKind (mixKind X.prog X.w)).room X.A from Nat.lt_of_succ_lt hu) (key_of I3.hok eb) dd fun h' dd' hs=>wpAny_pure ?_))
  show wpAny _ _ (forIn [] PUnit.unit _) _ _ _
  rw [List.forIn_nil]
  refine wpAny_pure ⟨.ref s.heap.objs.size,_,?_,rfl,q2⟩
  obtain ⟨qo,es,ep,hq,h2,h3,h4,_,h5⟩:=dd'
  refine d_write I3 (by rw [e];exact True.intro) hs ⟨qo,hq⟩ ⟨by show 1 <= sizeLine;decide,hd,_,(rel.put ks eb rx).keeps fun c ys ec=>?_,qo,es,ep,hq,h2,h3,h4,h5⟩
  rw [upd_ne (ne_of ec e (fun z=>nomatch z))]
  exact ec
end
section
theorem for_items {d:Addr} {o:Obj} {kvs:List (List Key × V)} {g:TG} {tb:TS} {D:Ends} {σ:St} {H:Hp} (Pv:Nat->St->Hp->Prop) (h0:Pv 0 σ H) (hl:∀ i σ H,i <= kvs.length->Pv i σ H->H d=some (.frz o (.dT kvs)))
    (hs:∀ i k x σ H p ka,kvs[i]?=some (k,x)->H p=none->H ka=some (.tup (k.map kV))->Pv i σ H->g (.ref p) σ (upd H p (.tup [.ref ka,x])) fun σ2 H2=>tb { D with nx:=Pv (i + 1),ct:=Pv (i + 1),bk:=D.nx } σ2 H2) (hd:∀ σ H,Pv kvs.length σ H->D.nx σ H) :
    ∃ W:Nat->Nat->St->Hp->Prop,(∃ m,W 0 m σ H)/\∀ i m σ H,W i m σ H ->
      ((Itd d o kvs).stop i H/\D.nx σ H) ∨ ((Itd d o kvs).go i H/\∃ N:St->Hp->Prop,(∀ σ' H',N σ' H'->∃ m',m' < m/\W (i + 1) m' σ' H')/\∀ x H',(Itd d o kvs).yld i H x H'->g x σ H' fun σ2 H2=>tb { D with nx:=N,ct:=N,bk:=D.nx } σ2 H2):=by
  refine ⟨fun i m σ H=>m=kvs.length - i/\i <= kvs.length/\Pv i σ H,⟨kvs.length,by simp,Nat.zero_le _,h0⟩,?_⟩
  rintro i m σ H ⟨rfl,hi,p⟩
  have q:=hl i σ H hi p
  rcases Nat.lt_or_ge i kvs.length with h | h
  · refine .inr ⟨⟨q,h⟩,Pv (i + 1),fun σ' H' p'=>⟨_,by omega,rfl,by omega,p'⟩,fun x H' y=>?_⟩
    obtain ⟨pp,ka,k,x',hp,rfl,rfl,hx,hk⟩:=y
    exact hs i k x' σ H pp ka hx hp hk p
  · have e:i=kvs.length:=by omega
    subst e
    exact .inl ⟨⟨q,Nat.le_refl _⟩,hd σ H p⟩
theorem wk2 {σ0:St} (hσ:σ0[0]?=some none/\σ0[1]?=some none) (x y:V):Wk σ0 ((σ0.set 0 (some x)).set 1 (some y)):=by
  refine ⟨by simp,fun j u e=>?_⟩
  by_cases h1:j=1
  · subst h1;rw [hσ.2] at e;cases e
  · rw [List.getElem?_set_ne (Ne.symm h1)]
    by_cases h2:j=0
    · subst h2;rw [hσ.1] at e;cases e
    · rw [List.getElem?_set_ne (Ne.symm h2)];exact e
theorem blk_enum {K:PySem.W.Frag} {a:Addr} {xs:List V} {σ0:St} {tc:TT} {te:TE} {H:Hp} {F:List V->Hp->Prop} (hn:xs.length <= sizeLine) (Pv:Nat->List V->Hp->Prop) (h0:Pv 0 [] H) (hl:∀ i ys H,Pv i ys H->ys.length <= i)
    (hq:∀ i ys H,i <= xs.length->Pv i ys H->SqT K H a xs) (hσ:σ0[0]?=some none/\σ0[1]?=some none)
    (hs:∀ i ys H x p,xs[i]?=some x->H p=none->Pv i ys H->tc ((σ0.set 0 (some (.int i))).set 1 (some x)) (upd H p (.tup [.int i,x])) fun b H5=>if b=true then te ((σ0.set 0 (some (.int i))).set 1 (some x)) H5 (fun z H'=>Pv (i + 1) (ys ++ [z]) H') else Pv (i + 1) ys H5)
    (hd:∀ ys H,Pv xs.length ys H->F ys H):Blk (Ite K a) σ0 (gTup K 2 (gCons (gName 0) (gCons (gName 1) gNil))) tc te H F:=by
  refine ⟨fun i m ys H=>m=xs.length - i/\i <= xs.length/\Pv i ys H,⟨xs.length,by simp,Nat.zero_le _,h0⟩,?_⟩
  rintro i m ys H2 ⟨rfl,hi,p⟩
  have q:=hq i ys H2 hi p
  have hlen:=hl i ys H2 p
  refine ⟨by omega,?_⟩
  by_cases hlt:i < xs.length
  · refine .inr ⟨⟨xs,xs[i],q,by simp [hlt]⟩,fun y H'=>Pv (i + 1) (ys ++ [y]) H',fun H'=>Pv (i + 1) ys H',fun y H' q=>⟨xs.length - (i + 1),by omega,rfl,hlt,q⟩,fun H' q=>⟨xs.length - (i + 1),by omega,rfl,hlt,q⟩,fun v H3 yld=>?_⟩
    obtain ⟨r,x,hr,rfl,rfl,hx⟩:=yld
    exact ⟨r,[.int i,x],rfl,.of upd_same,rfl,.int i,[x],rfl,x,[],rfl,rfl,wk2 hσ _ _,hs i ys _ x r (hx xs q) hr p⟩
  · have e:i=xs.length:=by omega
    subst e
    exact .inl ⟨⟨xs,q,Nat.le_refl _⟩,hd ys H2 p⟩
end
end L2
namespace Mt
def fr (q:Rat):List Int:=[q.num,(q.den:Int)]
def cut (t b:Int):Rat:=mkRat t b.toNat
theorem cut_num {t b:Int} (hb:0 < b):(cut t b).num=t / (Int.gcd t b:Int):=by
  have h:b.toNat ≠ 0:=by omega
  unfold cut
  rw [Rat.mkRat_def,dif_neg h,Rat.num_normalize]
  have e:b.toNat=b.natAbs:=by omega
  rw [e];rfl
theorem cut_den {t b:Int} (hb:0 < b):((cut t b).den:Int)=b / (Int.gcd t b:Int):=by
  have h:b.toNat ≠ 0:=by omega
  unfold cut
  rw [Rat.mkRat_def,dif_neg h,Rat.den_normalize]
  have e:b.toNat=b.natAbs:=by omega
  rw [e,Int.natCast_ediv]
  have e2:((b.natAbs:Nat):Int)=b:=by omega
  rw [e2];rfl
theorem fr_cut {t b:Int} (hb:0 < b):fr (cut t b)=[t / (Int.gcd t b:Int),b / (Int.gcd t b:Int)]:=by
  unfold fr;rw [cut_num hb,cut_den hb]
theorem cut_mul (p q:Rat):cut (p.num * q.num) ((p.den:Int) * (q.den:Int))=p * q:=by
  unfold cut
  rw [Rat.mul_def,Rat.mkRat_def]
  have e:((p.den:Int) * (q.den:Int)).toNat=p.den * q.den:=by rw [<- Int.natCast_mul];rfl
  have hp:=p.den_nz;have hq:=q.den_nz
  have h:p.den * q.den ≠ 0:=Nat.mul_ne_zero hp hq
  rw [dif_neg (by rw [e];exact h)]
  congr 1
theorem cut_add (p q:Rat):cut (p.num * (q.den:Int) + q.num * (p.den:Int)) ((p.den:Int) * (q.den:Int))=p + q:=by
  unfold cut
  rw [Rat.add_def,Rat.mkRat_def]
  have e:((p.den:Int) * (q.den:Int)).toNat=p.den * q.den:=by rw [<- Int.natCast_mul];rfl
  have hp:=p.den_nz;have hq:=q.den_nz
  have h:p.den * q.den ≠ 0:=Nat.mul_ne_zero hp hq
  rw [dif_neg (by rw [e];exact h)]
  congr 1
theorem cut_zero {c:Int} (hc:0 < c):cut 0 c=0:=by
  unfold cut
  rw [Rat.mkRat_eq_zero (by omega)]
theorem fr_inj {p q:Rat} (h:fr p=fr q):p=q:=by
  unfold fr at h
  simp only [List.cons.injEq,and_true] at h
  exact Rat.ext h.1 (by omega)
structure Bd (n:Nat) (q:Rat):Prop where
  num:q.num.natAbs <= 2 ^ n
  den:q.den <= 2 ^ n
theorem natAbs_ediv_le (a:Int) (g:Nat):(a / (g:Int)).natAbs <= a.natAbs:=by
  rcases Nat.eq_zero_or_pos g with h | h
  · subst h;simp
  · have h0:(0:Int) < g:=by omega
    rcases Int.le_total 0 a with ha | ha
    · have h1:0 <= a / (g:Int):=Int.ediv_nonneg ha (by omega)
      have h2:a / (g:Int) <= a:=Int.ediv_le_self _ ha
      omega
    · have h1:a <= a / (g:Int):=by
        rw [Int.le_ediv_iff_mul_le h0]
        have:a * (g:Int) <= a * 1:=Int.mul_le_mul_of_nonpos_left ha (by omega)
        omega
      have h2:a / (g:Int) <= 0:=by
        have:=Int.ediv_le_ediv h0 ha
        simpa using this
      omega
theorem Bd.cut {t b:Int} {n:Nat} (hb:0 < b) (h1:t.natAbs <= 2 ^ n) (h2:b.natAbs <= 2 ^ n):Bd n (Mt.cut t b):=by
  refine ⟨?_,?_⟩
  · rw [cut_num hb];exact Nat.le_trans (natAbs_ediv_le _ _) h1
  · have:=cut_den (t:=t) hb
    have l:=natAbs_ediv_le b (Int.gcd t b)
    omega
def addL:List Int->List Int->List Int:=List.zipWith (· + ·)
def share (ns:List Int) (k:Nat):Rat:=cut (ns.getD k 0) ns.sum
structure Urn (n m:Nat) (ns:List Int):Prop where
  len:ns.length=n
  nn:∀ x ∈ ns,0 <= x/\x <= m
  pos:0 < ns.sum
structure Row (n m:Nat) (r:List Int):Prop where
  len:r.length=n
  nn:∀ x ∈ r,0 <= x/\x <= m
structure Rul (n m:Nat) (rs:List (List Int)):Prop where
  len:rs.length=n
  row:∀ r ∈ rs,Row n m r
theorem Rul.at {n m:Nat} {rs:List (List Int)} (h:Rul n m rs) {k:Nat} (hk:k < n):Row n m (rs.getD k []):=by
  have hk':k < rs.length:=by rw [h.len];exact hk
  have:rs.getD k []=rs[k]:=by rw [List.getD_eq_getElem?_getD,List.getElem?_eq_getElem hk'];rfl
  rw [this];exact h.row _ (List.getElem_mem hk')
theorem sum_nonneg:∀ {l:List Int},(∀ x ∈ l,0 <= x)->0 <= l.sum
  | [],_=>by simp
  | a :: l,h=>by
    rw [List.sum_cons]
    have h1:=h a List.mem_cons_self
    have h2:=sum_nonneg fun x hx=>h x (List.mem_cons_of_mem _ hx)
    omega
theorem sum_le {m:Int}:∀ {l:List Int},(∀ x ∈ l,x <= m)->l.sum <= m * (l.length:Int)
  | [],_=>by simp
  | a :: l,h=>by
    rw [List.sum_cons,List.length_cons]
    have h1:=h a List.mem_cons_self
    have h2:=sum_le fun x hx=>h x (List.mem_cons_of_mem _ hx)
    have e:m * ((l.length + 1:Nat):Int)=m * (l.length:Int) + m:=by rw [Int.natCast_add,Int.mul_add];simp
    omega
theorem addL_sum:∀ {a b:List Int},a.length=b.length->(addL a b).sum=a.sum + b.sum
  | [],[],_=>by simp [addL]
  | x :: a,y :: b,h=>by
    have ih:=addL_sum (a:=a) (b:=b) (by simpa using h)
    show ((x + y) :: addL a b).sum=_
    rw [List.sum_cons,List.sum_cons,List.sum_cons,ih];omega
  | [],_ :: _,h=>by simp at h
  | _ :: _,[],h=>by simp at h
theorem addL_mem:∀ {a b:List Int} {x:Int},x ∈ addL a b->∃ y ∈ a,∃ z ∈ b,x=y + z
  | [],b,x,h=>by simp [addL] at h
  | _ :: _,[],x,h=>by simp [addL] at h
  | p :: a,q :: b,x,h=>by
    rcases List.mem_cons.mp (show x ∈ (p + q) :: addL a b from h) with e | h
    · exact ⟨p,List.mem_cons_self,q,List.mem_cons_self,e⟩
    · obtain ⟨y,hy,z,hz,e⟩:=addL_mem h
      exact ⟨y,List.mem_cons_of_mem _ hy,z,List.mem_cons_of_mem _ hz,e⟩
theorem Urn.add {n m j:Nat} {ns r:List Int} (h:Urn n m ns) (hr:Row n j r):Urn n (m + j) (addL ns r):=by
  have hl:ns.length=r.length:=by rw [h.len,hr.len]
  refine ⟨?_,fun x hx=>?_,?_⟩
  · unfold addL;rw [List.length_zipWith,h.len,hr.len];omega
  · obtain ⟨y,hy,z,hz,e⟩:=addL_mem hx
    have:=h.nn y hy;have:=hr.nn z hz;omega
  · rw [addL_sum hl]
    have:=sum_nonneg (l:=r) fun x hx=>(hr.nn x hx).1
    have:=h.pos;omega
theorem Urn.getD {n m:Nat} {ns:List Int} (h:Urn n m ns) (k:Nat):0 <= ns.getD k 0/\ns.getD k 0 <= m:=by
  rw [List.getD_eq_getElem?_getD]
  cases e:ns[k]? with
  | none=>simp
  | some x=>exact h.nn x (List.mem_of_getElem? e)
def sumQ:List Rat->Rat
  | []=>0
  | q :: r=>q + sumQ r
theorem sumQ_append:∀ a b:List Rat,sumQ (a ++ b)=sumQ a + sumQ b
  | [],b=>by show sumQ b=0 + sumQ b;grind
  | q :: a,b=>by show q + sumQ (a ++ b)=q + sumQ a + sumQ b;rw [sumQ_append a b];grind
end Mt
namespace Md
open PySem PySem.Spec L2 Mt
abbrev Tab:=List (List Int × Int)
def kI (ns:List Int):List Key:=ns.map Sum.inl
theorem kI_kV (ns:List Int):(kI ns).map kV=ns.map V.int:=by
  unfold kI;rw [List.map_map];rfl
theorem kI_inj:∀ {a b:List Int},kI a=kI b->a=b
  | [],[],_=>rfl
  | [],_ :: _,h=>by cases h
  | _ :: _,[],h=>by cases h
  | x :: a,y :: b,h=>by
    have h':(Sum.inl x:Key) :: kI a=Sum.inl y :: kI b:=h
    injection h' with h1 h2
    injection h1 with h1
    rw [h1,kI_inj h2]
def lin (D:Tab) (φ:List Int->Int):Int:=(D.map fun p=>p.2 * φ p.1).sum
def dl (k:List Int):List Int->Int:=fun k'=>if k'=k then 1 else 0
def uboL (rs:List (List Int)) (u:List Int):Nat->List Int->List (Int × List Int)
  | _,[]=>[]
  | i,b :: bs=>if 0 < b then (b,addL u (rs.getD i [])) :: uboL rs u (i + 1) bs else uboL rs u (i + 1) bs
def ubo (rs:List (List Int)) (u:List Int):List (Int × List Int):=uboL rs u 0 u
theorem uboL_cons (rs:List (List Int)) (u:List Int) (i:Nat) (b:Int) (bs:List Int):uboL rs u i (b :: bs)=if 0 < b then (b,addL u (rs.getD i [])) :: uboL rs u (i + 1) bs else uboL rs u (i + 1) bs:=rfl
theorem mem_uboL {rs:List (List Int)} {u:List Int}:∀ {bs:List Int} {i:Nat} {b:Int × List Int},b ∈ uboL rs u i bs->∃ j,j < bs.length/\b.1=bs.getD j 0/\b.2=addL u (rs.getD (i + j) [])
  | [],_,_,h=>by unfold uboL at h;simp at h
  | x :: bs,i,b,h=>by
    unfold uboL at h
    split at h
    · rcases List.mem_cons.mp h with e | e
      · subst e;exact ⟨0,by simp,rfl,rfl⟩
      · obtain ⟨j,h1,h2,h3⟩:=mem_uboL e
        exact ⟨j + 1,by simp;omega,by rw [h2];rfl,by rw [h3,show i + 1 + j=i + (j + 1) by omega]⟩
    · obtain ⟨j,h1,h2,h3⟩:=mem_uboL h
      exact ⟨j + 1,by simp;omega,by rw [h2];rfl,by rw [h3,show i + 1 + j=i + (j + 1) by omega]⟩
theorem len_uboL {rs:List (List Int)} {u:List Int}:∀ (bs:List Int) (i:Nat),(uboL rs u i bs).length <= bs.length
  | [],_=>by unfold uboL;simp
  | x :: bs,i=>by
    unfold uboL
    have:=len_uboL (rs:=rs) (u:=u) bs (i + 1)
    split <;> simp <;> omega
def comb (rs:List (List Int)) (i:Nat):List Int->Nat->Int
  | [],_=>0
  | c :: cs,j=>c * (rs.getD j []).getD i 0 + comb rs i cs (j + 1)
def beh (u:List Int) (rs:List (List Int)) (c:List Int):List Int:=(List.range u.length).map fun i=>u.getD i 0 + comb rs i c 0
def inc (c:List Int) (i:Nat):List Int:=c.set i (c.getD i 0 + 1)
theorem comb_inc (rs:List (List Int)) (i:Nat):∀ (c:List Int) (j k:Nat),k < c.length->comb rs i (inc c k) j=comb rs i c j + (rs.getD (j + k) []).getD i 0
  | [],_,_,h=>by simp at h
  | x :: c,j,0,_=>by
    show (x + 1) * _ + comb rs i c (j + 1)=x * _ + comb rs i c (j + 1) + _
    rw [Int.add_mul];simp;omega
  | x :: c,j,k + 1,h=>by
    have ih:=comb_inc rs i c (j + 1) k (by simpa using h)
    show x * _ + comb rs i (inc c k) (j + 1)=x * _ + comb rs i c (j + 1) + _
    rw [ih,show j + 1 + k=j + (k + 1) by omega];omega
theorem beh_inc {n:Nat} {u c:List Int} {rs:List (List Int)} {k:Nat} (hu:u.length=n) (hc:c.length=n) (hR:Rul n 5 rs) (hk:k < n):beh u rs (inc c k)=addL (beh u rs c) (rs.getD k []):=by
  have hr:=hR.at hk
  have l1:(beh u rs c).length=n:=by unfold beh;simp [hu]
  apply List.ext_getElem?
  intro i
  unfold addL
  rw [List.getElem?_zipWith]
  unfold beh
  rw [List.getElem?_map,List.getElem?_map]
  by_cases hi:i < n
  · rw [List.getElem?_range (by omega)]
    rw [List.getElem?_eq_getElem (l:=rs.getD k []) (by rw [hr.len];exact hi)]
    simp only [Option.map_some]
    rw [comb_inc rs i c 0 k (by omega),Nat.zero_add]
    congr 1
    rw [show (rs.getD k []).getD i 0=(rs.getD k [])[i]'(by rw [hr.len];exact hi) by rw [List.getD_eq_getElem?_getD (l:=rs.getD k []),List.getElem?_eq_getElem (by rw [hr.len];exact hi)];rfl]
    omega
  · rw [List.getElem?_eq_none (by simp;omega)]
    simp
theorem comb_zero (rs:List (List Int)) (i:Nat):∀ (n j:Nat),comb rs i (List.replicate n 0) j=0
  | 0,_=>rfl
  | n + 1,j=>by
    show (0:Int) * _ + comb rs i (List.replicate n 0) (j + 1)=0
    rw [comb_zero rs i n (j + 1)];omega
theorem beh_zero (u:List Int) (rs:List (List Int)) (n:Nat):beh u rs (List.replicate n 0)=u:=by
  unfold beh
  apply List.ext_getElem?
  intro i
  rw [List.getElem?_map]
  by_cases hi:i < u.length
  · rw [List.getElem?_range hi,Option.map_some,comb_zero,List.getD_eq_getElem?_getD,List.getElem?_eq_getElem hi];simp
  · rw [List.getElem?_eq_none (by simp;omega),List.getElem?_eq_none (by omega)];rfl
end Md
namespace L2
open PySem PySem.Spec PyProof.Rows
theorem _root_.PySem.Heap.IsList.at' {h h':Heap} {a:Addr} {items:Array Value} (x:h.IsList a items) (e:∀ o,h.get? a=some o->h'.get? a=some o):h'.IsList a items:=let ⟨o,ho,r⟩:=x;⟨o,e _ ho,r⟩
section
variable {prog:Program} {w:World} {A:Around} {E:Value->Shared->Prop} {s:Shared}
theorem _root_.PySem.Heap.IsList.lt' {h:Heap} {a:Addr} {items:Array Value} (x:h.IsList a items):a < h.objs.size:=let ⟨_,ho,_⟩:=x;Heap.lt_size ho
structure ZipL (h:Heap) (z TI TO i1 i2 t1 t2:Addr) (k:Nat):Prop where
  zz:IsZip h z TI TO .none
  ti:IsPair h TI (.ref i1) (.ref i2)
  tO:∃ a b,IsPair h TO a b
  it1:h.IsListIter i1 t1 k
  it2:h.IsTupleIter i2 t2 k
abbrev lit (t:Addr):Obj:={ cls:=.type "list_iterator",data:=.fields #[.ref t,.int 0 0] }
end
section
variable {X:Cx} {pins:List (Addr × Obj)} {σ:St} {H:Hp} {s:Shared}
end
end L2
namespace L2
open PySem PySem.Spec PyProof.Rows
section
variable {X:Cx} {K:PySem.W.Frag}
end
section
variable {prog:Program} {w:World} {A:Around} {E:Value->Shared->Prop} {s:Shared}
end
section
variable {X:Cx}
end
end L2
namespace L2
open PySem PySem.Spec PyProof.Rows
theorem fn_of0 {CX:CXT} {P:Program} {w:World} {K:PySem.W.Frag} {mg:Str->Option Value} {base:Heap} {f:Addr} {name qual:Str} {params:Arguments} {body:List Stmt} {scope:Scope} {dV kV doc pm cdv ct oc:Value} {an od:Option Addr}
    {osl:Array (Option Value)} {N ps:List Str} {sp:Sp} (lk:K.lookup f=some ⟨oc,od,.func (PySem.W.fnOf name qual params body scope dV kV doc pm an cdv ct),osl⟩) (hcd:PySem.W.codeIn K cdv qual=true) (S:FnScope N ps scope)
    (len:∀ vs H Q E,sp vs H Q E->vs.length=ps.length)
    (hbody:∀ (A:Around) (outer:List Env) (s:Shared) (H:Hp) (vs:List V) (Q:VK) (E:XK),sp vs H Q E ->
      ∃ t,PSs (cxOf CX P w K mg base N qual scope f cdv A outer s H E) body t/\t { nx:=fun _ H'=>Q .non H',rt:=Q } (start N vs) H) :
    FnOk P w K mg base CX 0 f (PySem.W.fnOf name qual params body scope dV kV doc pm an cdv ct) ps sp:=by
  refine ⟨len,fun A outer s H args us vs Q E hr e0 hb r hsp=>?_⟩
  have hl:=len _ _ _ _ hsp
  have KX:K.In s.heap:=e0.mod.kin.keeps fun b o e=>(e0.bs b o e).1
  have lim:s.heap.NoLimit:=e0.mod.nolimit.keeps fun b o e=>(e0.bs b o e).1
  have hkind:∀ y ∈ ps.zip us,scope.names.lookup y.1=some .local ∨ (scope.names.lookup y.1=some .cell/\((cellsFrom (s.heap.objs.size + 1) scope.names []).lookup y.1).isSome=true):=fun ⟨n,v⟩ hy=>by
    rcases S.par n (List.of_mem_zip hy).1 with q | q
    · exact .inl q
    · exact .inr ⟨q,PySem.W.cellsFrom_some _ _ _ (.inl q)⟩
  refine codeAny_call_function hr.depth (KX _ _ lk) rfl S.co S.gen rfl (PySem.W.codeRec_of KX hcd) (hb _ _ _ _ ?_)
  refine wpAny_newFunctionEnv_cells S.kind hkind fun env he s1 x=>?_
  subst he
  refine ⟨lim.keeps x.toInCall.keep,codeAny_func ?_⟩
  obtain ⟨t,ht,hq⟩:=hbody A outer s H vs Q E hsp
  have I:Inv (cxOf CX P w K mg base N qual scope f cdv A outer s H E) [] (start N vs) H s1:=inv_start S hr.hd e0 hl r x
  refine wpAny_mono (ht [] s1 (start N vs) H _ I hq) (fun fl s' hs=>?_) fun e s' hs=>hs
  have fin:∀ {σ':St} {H':Hp} {v:V} {u:Value},Inv (cxOf CX P w K mg base N qual scope f cdv A outer s H E) [] σ' H' s'->RelV v u->Q v H'->CE outer P w H s Q u s' :=
    fun {σ' H' v u} J rv q=>⟨v,H',J.os,J.bare,J.base,J.hok,rv,q⟩
  cases fl with
  | ret u =>
    obtain ⟨v,σ',H',J,rv,q⟩:=hs
    exact fin J rv q
  | next =>
    obtain ⟨σ',H',J,q⟩:=hs
    exact fin (v:=V.non) (u:=Value.none) J rfl q
  | brk =>
    obtain ⟨_,_,_,q⟩:=hs
    exact False.elim q
  | cont =>
    obtain ⟨_,_,_,q⟩:=hs
    exact False.elim q
theorem Fun.ok0 {P:Program} {w:World} {K:PySem.W.Frag} {mg:Str->Option Value} {base:Heap} {x qual:Str} {st:Stmt} {f:Addr} {fd:FuncData} {N ps:List Str} {sp:Sp} (F:Fun K x qual st f fd) (S:FnScope N ps (defScope st)) (len:∀ vs H Q E,sp vs H Q E->vs.length=ps.length)
    (hbody:∀ (cdv:Value) (A:Around) (outer:List Env) (s:Shared) (H:Hp) (vs:List V) (Q:VK) (E:XK),sp vs H Q E ->
      ∃ t,PSs (cxOf CX0 P w K mg base N qual (defScope st) f cdv A outer s H E).nox (defBody st) t/\t { nx:=fun _ H'=>Q .non H',rt:=Q } (start N vs) H):FnOk P w K mg base CX0 0 f fd ps sp:=by
  obtain ⟨oc,od,kV,doc,pm,an,cdv,ct,osl,rfl,lk,hcd⟩:=F.ex
  refine fn_of0 lk hcd S len fun A outer s H vs Q E hsp=>?_
  obtain ⟨t,h,q⟩:=hbody cdv A outer s H vs Q E hsp
  exact ⟨t,h.nox,q⟩
section
variable {X:Cx}
end
end L2
namespace G
open PySem PySem.Spec PyProof.Rows L2 Mt
structure Errs (K:PySem.W.Frag) (mg:Str->Option Value) (c:Nat->Addr) (B:Addr):Prop where
  e0:mg "NoUrn"=some (.ref (c 0))
  e1:mg "NoRule"=some (.ref (c 1))
  e2:mg "NoKind"=some (.ref (c 2))
  e3:mg "NoBall"=some (.ref (c 3))
  e5:mg "NoNumber"=some (.ref (c 5))
  e9:mg "BadNote"=some (.ref (c 9))
  xc:∀ i,i < 10->XC K (c i)
def top (i:Nat):Stmt:=PySem.Challenge.pw_growurns_k95_whole_desk.main.body.getD i (.Pass ⟨0,0,0,0⟩)
structure Bt (mg:Str->Option Value):Prop where
  isinstance:mg "isinstance"=none
  bool:mg "bool"=none
  int:mg "int"=none
  tuple:mg "tuple"=none
  list:mg "list"=none
  all:mg "all"=none
  sum:mg "sum"=none
  len:mg "len"=none
  range:mg "range"=none
  max:mg "max"=none
  min:mg "min"=none
  abs:mg "abs"=none
  zip:mg "zip"=none
def wholeD (lo hi:Int):PyData->Bool
  | .int i=>decide (lo <= i) && decide (i <= hi)
  | _=>false
section
variable {P:Program} {w:World} {K:PySem.W.Frag} {mg:Str->Option Value} {base:Heap} {f:Addr} {fd:FuncData}
def numD:PyData->Bool
  | .int _=>true
  | _=>false
def sp_is_number:Sp:=fun vs H Q _=>∃ (v:V) (st:Addr) (d:PyData),vs=[v]/\Dt st H d v/\Q (.bl (numD d)) H
abbrev s_is_number:Stmt:=top 9
theorem sc_is_number:FnScope ["thing"] ["thing"] (defScope s_is_number):=⟨rfl,rfl,rfl,by decide +kernel,rfl,by decide +kernel,by decide +kernel⟩
theorem ok_is_number (F:Fun K "is_number" "is_number" s_is_number f fd) (B:Bt mg):FnOk P w K mg base CX0 0 f fd ["thing"] sp_is_number:=by
  refine F.ok0 sc_is_number (fun vs H Q E h=>?_) (fun cdv A outer s H vs Q E h=>?_)
  · obtain ⟨v,st,d,rfl,_⟩:=h
    rfl
  obtain ⟨v,st,d,rfl,hd,q⟩:=h
  refine ⟨_,pss_one (ps_ret (pe_and (pe_callB (call_isi kit_int) rfl B.isinstance boot_isinstance (pa_cons (pv 0) (pa_cons (pe_bty rfl B.int boot_int) pa_nil)))
    (pe_one (pe_not (pe_callB (call_isi kit_bool) rfl B.isinstance boot_isinstance (pa_cons (pv 0) (pa_cons (pe_bty rfl B.bool boot_bool) pa_nil))))))),?_⟩
  refine ⟨_,rfl,v,st,d,rfl,hd,_,rfl,?_⟩
  cases d with
  | bool b=>exact ⟨_,rfl,v,st,_,rfl,hd,_,rfl,q⟩
  | int i=>exact ⟨_,rfl,v,st,_,rfl,hd,_,rfl,q⟩
  | none=>exact q
  | str x=>exact q
  | list ds=>exact q
  | tuple ds=>exact q
  | dict kvs=>exact q
def sp_is_whole:Sp:=fun vs H Q _=>∃ (v:V) (st:Addr) (d:PyData) (lo hi:Int),vs=[v,.int lo,.int hi]/\Dt st H d v/\Q (.bl (wholeD lo hi d)) H
abbrev s_is_whole:Stmt:=top 10
theorem sc_is_whole:FnScope ["thing","low","high"] ["thing","low","high"] (defScope s_is_whole):=⟨rfl,rfl,rfl,by decide +kernel,rfl,by decide +kernel,by decide +kernel⟩
theorem ok_is_whole (F:Fun K "is_whole" "is_whole" s_is_whole f fd) (c1:Cal P w K mg base 0 "is_number" ["thing"] sp_is_number):FnOk P w K mg base CX0 1 f fd ["thing","low","high"] sp_is_whole:=by
  refine F.ok sc_is_whole (fun vs H Q E h=>?_) (fun cdv A outer s H vs Q E hr h=>?_)
  · obtain ⟨v,st,d,lo,hi,rfl,_⟩:=h
    rfl
  obtain ⟨v,st,d,lo,hi,rfl,hd,q⟩:=h
  refine ⟨_,pss_one (ps_ret (pe_and (pe_cal c1 hr rfl (pa_cons (pv 0) pa_nil)) (pe_one (pe_chain op_le op_le (pv 1) (pv 0) (pv 2))))),?_⟩
  refine ⟨_,rfl,v,st,d,rfl,hd,_,rfl,?_⟩
  cases d with
  | int i =>
    refine iteT ?_
    unfold Dt at hd
    subst hd
    refine ⟨_,rfl,_,rfl,lo,i,rfl,rfl,_,rfl,?_⟩
    have q':Q (.bl (decide (lo <= i) && decide (i <= hi))) H:=q
    by_cases h1:lo <= i
    · rw [decide_eq_true h1,Bool.true_and] at q'
      rw [decide_eq_true h1]
      exact iteT ⟨_,rfl,i,hi,rfl,rfl,q'⟩
    · rw [decide_eq_false h1,Bool.false_and] at q'
      rw [decide_eq_false h1]
      exact iteF q'
  | bool b=>exact q
  | none=>exact q
  | str x=>exact q
  | list ds=>exact q
  | tuple ds=>exact q
  | dict kvs=>exact q
def wholesD (lo hi:Int):PyData->Bool
  | .tuple ds=>ds.all (wholeD lo hi)
  | _=>false
def sp_are_wholes:Sp:=fun vs H Q _=>∃ (v:V) (st:Addr) (d:PyData) (lo hi:Int),vs=[v,.int lo,.int hi]/\Dt st H d v/\(∀ ds,d=.tuple ds->ds.length <= 1000)/\∀ H',Same H H'->Q (.bl (wholesD lo hi d)) H'
abbrev s_are_wholes:Stmt:=top 11
theorem sc_are_wholes:FnScope ["thing","low","high"] ["thing","low","high"] (defScope s_are_wholes):=⟨rfl,rfl,rfl,by decide +kernel,rfl,by decide +kernel,by decide +kernel⟩
theorem ok_are_wholes (F:Fun K "are_wholes" "are_wholes" s_are_wholes f fd) (B:Bt mg) (c1:Cal P w K mg base 1 "is_whole" ["thing","low","high"] sp_is_whole):FnOk P w K mg base CX0 2 f fd ["thing","low","high"] sp_are_wholes:=by
  refine F.ok sc_are_wholes (fun vs H Q E h=>?_) (fun cdv A outer s H vs Q E hr h=>?_)
  · obtain ⟨v,st,d,lo,hi,rfl,_⟩:=h
    rfl
  obtain ⟨v,st,d,lo,hi,rfl,hd,hl,q⟩:=h
  refine ⟨_,pss_one (ps_ret (pe_and (pe_callB (call_isi kit_tup) rfl B.isinstance boot_isinstance (pa_cons (pv 0) (pa_cons (pe_bty rfl B.tuple boot_tuple) pa_nil)))
    (pe_one (pe_callB (call_all_seq rfl) rfl B.all boot_all (pa_cons (pe_compG (N:=["part","low","high"]) (ix:=[none,some 1,some 2]) (ifs:=[]) (tc:=tTrue) rfl (pi_tup (pv 0))
      (fun s H ex=>pg_c (i:=0) (by decide +kernel) rfl (Or.inl rfl) (.inr rfl)) (fun s H ex=>pifs_nil) (fun s H ex=>pe_cal c1 hr rfl (pa_cons (pv 0) (pa_cons (pv 1) (pa_cons (pv 2) pa_nil)))) rfl (by decide +kernel) (by rfl) (by rfl) (fun _=>rfl)) pa_nil))))),?_⟩
  refine ⟨_,rfl,v,st,d,rfl,hd,_,rfl,?_⟩
  cases d with
  | tuple ds =>
    refine iteT ?_
    obtain ⟨a,xs,rfl,ne,ha,hds⟩:∃ a xs,v=.ref a/\a ≠ st/\H a=some (.tup xs)/\Dts st H ds xs:=by unfold Dt at hd;exact hd
    have hlen:=hds.len
    have hl':=hl ds rfl
    refine ⟨_,rfl,a,rfl,⟨xs,.of ha⟩,blk_tup (K:=K) (a:=a) (xs:=xs) (sz (by omega)) (fun i ys H2=>Same H H2/\i <= ds.length/\ys=(ds.take i).map fun d=>V.bl (wholeD lo hi d)) ⟨Same.refl H,Nat.zero_le _,rfl⟩ (fun i ys H2 h=>?_) (fun i ys H2 _ h=>.of (h.1 _ _ ha)) rfl (fun i ys H2 x hx h=>?_) (fun ys H2 h=>?_)⟩
    · obtain ⟨_,hi,rfl⟩:=h
      rw [List.length_map,List.length_take];omega
    · obtain ⟨hS,hil,rfl⟩:=h
      obtain ⟨d,hd',dt⟩:=hds.get hx
      refine ⟨_,rfl,_,rfl,_,rfl,x,st,d,lo,hi,rfl,dt.kp (hS.kp st),hS,(List.getElem?_eq_some_iff.mp hd').1,?_⟩
      rw [List.take_add_one,hd',List.map_append];rfl
    · obtain ⟨hS,hil,rfl⟩:=h
      intro p hp
      refine ⟨p,_,rfl,.inl (.of upd_same),?_,?_⟩
      · rw [List.all_map];exact List.all_eq_true.mpr fun _ _=>rfl
      · have e:(((ds.take xs.length).map fun d=>V.bl (wholeD lo hi d)).all truV)=wholesD lo hi (.tuple ds):=by
          rw [<- hlen,List.take_length,List.all_map];rfl
        rw [e]
        exact q _ (hS.trans (Same.new hp))
  | _=>exact q H (Same.refl H)
end
end G
namespace G
open PySem PySem.Spec PyProof.Rows L2 Mt
structure Ct (mg:Str->Option Value):Prop where
  kinds:∃ t,mg "MOST_KINDS"=some (.int 4 t)
  balls:∃ t,mg "MOST_BALLS"=some (.int 20 t)
  puts:∃ t,mg "MOST_PUT_IN"=some (.int 5 t)
theorem _root_.L2.Dt.untup {st:Addr} {H:Hp} {ds:List PyData} {v:V} (h:Dt st H (.tuple ds) v):∃ a xs,v=.ref a/\a ≠ st/\H a=some (.tup xs)/\Dts st H ds xs:=by unfold Dt at h;exact h
theorem _root_.L2.Dt.unint {st:Addr} {H:Hp} {i:Int} {v:V} (h:Dt st H (.int i) v):v=.int i:=by unfold Dt at h;exact h
theorem wholeD_int {lo hi:Int} {d:PyData} (h:wholeD lo hi d=true):∃ i,d=.int i/\lo <= i/\i <= hi:=by
  cases d with
  | int i =>
    have h':(decide (lo <= i) && decide (i <= hi))=true:=h
    rw [Bool.and_eq_true] at h'
    exact ⟨i,rfl,of_decide_eq_true h'.1,of_decide_eq_true h'.2⟩
  | _=>cases (show false=true from h)
theorem all_ints {lo hi:Int}:∀ {ds:List PyData},ds.all (wholeD lo hi)=true->∃ ns:List Int,ds=ns.map .int/\∀ x ∈ ns,lo <= x/\x <= hi
  | [],_=>⟨[],rfl,by simp⟩
  | d :: ds,h=>by
    rw [List.all_cons,Bool.and_eq_true] at h
    obtain ⟨i,e,h1,h2⟩:=wholeD_int h.1
    obtain ⟨ns,e2,h3⟩:=all_ints h.2
    subst e e2
    exact ⟨i :: ns,rfl,fun x hx=>by
      rcases List.mem_cons.mp hx with z | z
      · subst z;exact ⟨h1,h2⟩
      · exact h3 x z⟩
theorem wholesD_ints {lo hi:Int} {d:PyData} (h:wholesD lo hi d=true):∃ ns:List Int,d=DI ns/\∀ x ∈ ns,lo <= x/\x <= hi:=by
  cases d with
  | tuple ds =>
    obtain ⟨ns,e,h2⟩:=all_ints (ds:=ds) h
    subst e
    exact ⟨ns,rfl,h2⟩
  | _=>cases (show false=true from h)
def intD:PyData->Int
  | .int i=>i
  | _=>0
def lenD:PyData->Nat
  | .tuple ds=>ds.length
  | _=>0
def sumD:PyData->Int
  | .tuple ds=>(ds.map intD).sum
  | _=>0
theorem sumD_DI (ns:List Int):sumD (DI ns)=ns.sum:=by
  show ((ns.map PyData.int).map intD).sum=ns.sum
  rw [List.map_map]
  have e:(intD ∘ PyData.int)=id:=by funext i;rfl
  rw [e,List.map_id]
theorem lenD_DI (ns:List Int):lenD (DI ns)=ns.length:=by show (ns.map PyData.int).length=_;rw [List.length_map]
def urnD (m:Int) (d:PyData):Bool:=wholesD 0 m d && ((decide ((1:Int) <= lenD d) && decide ((lenD d:Int) <= 4)) && decide ((0:Int) < sumD d))
def ruleD (k:Int) (d:PyData):Bool:=match d with
  | .tuple ds=>decide ((ds.length:Int)=k) && ds.all (fun r=>wholesD 0 5 r && decide ((lenD r:Int)=k))
  | _=>false
def short (d:PyData):Prop:=∀ ds,d=.tuple ds->ds.length <= 1000
section
variable {P:Program} {w:World} {K:PySem.W.Frag} {mg:Str->Option Value} {base:Heap} {f:Addr} {fd:FuncData}
def sp_is_urn_up_to:Sp:=fun vs H Q _=>∃ (v:V) (st:Addr) (d:PyData) (m:Int),vs=[v,.int m]/\Dt st H d v/\short d/\∀ H',Same H H'->Q (.bl (urnD m d)) H'
abbrev s_is_urn_up_to:Stmt:=top 23
theorem sc_is_urn_up_to:FnScope ["thing","most"] ["thing","most"] (defScope s_is_urn_up_to):=⟨rfl,rfl,rfl,by decide +kernel,rfl,by decide +kernel,by decide +kernel⟩
theorem ok_is_urn_up_to (F:Fun K "is_urn_up_to" "is_urn_up_to" s_is_urn_up_to f fd) (B:Bt mg) (C:Ct mg) (c1:Cal P w K mg base 2 "are_wholes" ["thing","low","high"] sp_are_wholes):FnOk P w K mg base CX0 3 f fd ["thing","most"] sp_is_urn_up_to:=by
  refine F.ok sc_is_urn_up_to (fun vs H Q E h=>?_) (fun cdv A outer s H vs Q E hr h=>?_)
  · obtain ⟨v,st,d,m,rfl,_⟩:=h
    rfl
  obtain ⟨v,st,d,m,rfl,hd,hl,q⟩:=h
  obtain ⟨tk,hk⟩:=C.kinds
  refine ⟨_,pss_cons (ps_if (pt_not (pt_val (pe_cal c1 hr rfl (pa_cons (pv 0) (pa_cons pe_int (pa_cons (pv 1) pa_nil)))))) (pss_one (ps_ret pe_bl)) pss_nil)
    (pss_one (ps_ret (pe_and (pe_chain op_le op_le pe_int (pe_callB call_len_seq rfl B.len PySem.boot_len (pa_cons (pv 0) pa_nil)) (pe_glob (v:=.int 4) rfl hk ⟨tk,rfl⟩))
      (pe_one (pe_cmpR op_gt (pe_callB (call_sum_seq rfl) rfl B.sum boot_sum (pa_cons (pv 0) pa_nil)) pe_int (nomark _)))))),?_⟩
  refine ⟨_,rfl,_,rfl,v,st,d,0,m,rfl,hd,hl,fun H1 g1=>⟨_,rfl,?_⟩⟩
  have q1:=q H1 g1
  unfold urnD at q1
  cases hw:wholesD 0 m d with
  | false =>
    rw [hw,Bool.false_and] at q1
    exact iteT q1
  | true =>
    rw [hw,Bool.true_and] at q1
    refine iteF ?_
    obtain ⟨ns,e,hns⟩:=wholesD_ints hw
    subst e
    obtain ⟨a,e,ne,ha⟩:=hd.di
    subst e
    rw [lenD_DI,sumD_DI] at q1
    have ha1:=g1 _ _ ha
    refine ⟨_,rfl,a,_,rfl,.inr (.of ha1),_,_,rfl,rfl,_,rfl,?_⟩
    rw [List.length_map]
    by_cases h1:(1:Int) <= (ns.length:Int)
    · rw [decide_eq_true h1,Bool.true_and] at q1
      rw [decide_eq_true h1]
      refine iteT ⟨_,_,rfl,rfl,_,rfl,?_⟩
      by_cases h2:(ns.length:Int) <= 4
      · rw [decide_eq_true h2,Bool.true_and] at q1
        rw [decide_eq_true h2]
        exact iteT ⟨_,rfl,a,ns,rfl,.inr (.of ha1),_,_,rfl,rfl,q1⟩
      · rw [decide_eq_false h2,Bool.false_and] at q1
        rw [decide_eq_false h2]
        exact iteF q1
    · rw [decide_eq_false h1,Bool.false_and,Bool.false_and] at q1
      rw [decide_eq_false h1]
      exact iteF ⟨_,rfl,iteF q1⟩
def sp_is_urn:Sp:=fun vs H Q _=>∃ (v:V) (st:Addr) (d:PyData),vs=[v]/\Dt st H d v/\short d/\∀ H',Same H H'->Q (.bl (urnD 20 d)) H'
abbrev s_is_urn:Stmt:=top 22
theorem sc_is_urn:FnScope ["thing"] ["thing"] (defScope s_is_urn):=⟨rfl,rfl,rfl,by decide +kernel,rfl,by decide +kernel,by decide +kernel⟩
theorem ok_is_urn (F:Fun K "is_urn" "is_urn" s_is_urn f fd) (C:Ct mg) (c1:Cal P w K mg base 3 "is_urn_up_to" ["thing","most"] sp_is_urn_up_to):FnOk P w K mg base CX0 4 f fd ["thing"] sp_is_urn:=by
  refine F.ok sc_is_urn (fun vs H Q E h=>?_) (fun cdv A outer s H vs Q E hr h=>?_)
  · obtain ⟨v,st,d,rfl,_⟩:=h
    rfl
  obtain ⟨v,st,d,rfl,hd,hl,q⟩:=h
  obtain ⟨tk,hk⟩:=C.balls
  refine ⟨_,pss_one (ps_ret (pe_cal c1 hr rfl (pa_cons (pv 0) (pa_cons (pe_glob (v:=.int 20) rfl hk ⟨tk,rfl⟩) pa_nil)))),?_⟩
  exact ⟨_,rfl,v,st,d,20,rfl,hd,hl,q⟩
def sp_need_number (c:Nat->Addr):Sp:=fun vs H Q E=>∃ (v:V) (st:Addr) (d:PyData) (lo hi:Int),vs=[v,.int lo,.int hi]/\Dt st H d v/\Sm lo/\Sm hi/\(wholeD lo hi d=true->Q .non H)/\(wholeD lo hi d=false->E (.ref (c 5)) none H)
abbrev s_need_number:Stmt:=top 12
theorem sc_need_number:FnScope ["thing","low","high"] ["thing","low","high"] (defScope s_need_number):=⟨rfl,rfl,rfl,by decide +kernel,rfl,by decide +kernel,by decide +kernel⟩
theorem ok_need_number {c:Nat->Addr} {B:Addr} (F:Fun K "need_number" "need_number" s_need_number f fd) (R:Errs K mg c B) (c1:Cal P w K mg base 1 "is_whole" ["thing","low","high"] sp_is_whole):FnOk P w K mg base (CX1 P w) 2 f fd ["thing","low","high"] (sp_need_number c):=by
  refine F.okX sc_need_number (fun vs H Q E h=>?_) (fun cdv A outer s H vs Q E hr h=>?_)
  · obtain ⟨v,st,d,lo,hi,rfl,_⟩:=h
    rfl
  obtain ⟨v,st,d,lo,hi,rfl,hd,slo,shi,q1,q2⟩:=h
  refine ⟨_,pss_one (ps_if (pt_not (pt_val (pe_cal c1 hr rfl (pa_cons (pv 0) (pa_cons (pv 1) (pa_cons (pv 2) pa_nil)))))) (pss_one (ps_raise1 R.e5 (R.xc 5 (by decide)) (pe_fstr (pj_str (pj_fmt (pv 1) (pj_str (pj_fmt (pv 2) pj_nil))))) (fun σ H Q Q' m q=>?_))) pss_nil),?_⟩
  · obtain ⟨v1,z1,i1,z2,z3,z4,v2,z5,i2,z6,z7,z8,z9⟩:=q
    exact ⟨v1,z1,i1,z2,z3,z4,v2,z5,i2,z6,z7,z8,fun z=>m _ _ (z9 z)⟩
  refine ⟨_,rfl,_,rfl,_,rfl,v,st,d,lo,hi,rfl,hd,_,rfl,?_⟩
  cases hw:wholeD lo hi d with
  | true=>exact iteF (q1 hw)
  | false=>exact iteT ⟨_,rfl,lo,rfl,slo.1,slo.2,_,rfl,hi,rfl,shi.1,shi.2,fun z=>q2 hw⟩
def sp_is_rule (c:Nat->Addr):Sp:=fun vs H Q E=>∃ (u v:V) (st:Addr) (dk d:PyData),vs=[u,v]/\Dt st H dk u/\(wholeD 1 4 dk=false->E (.ref (c 5)) none H) /\
  (∀ k,dk=.int k->1 <= k->k <= 4->Dt st H d v/\short d/\(∀ ds,d=.tuple ds->∀ r ∈ ds,short r)/\∀ H',Same H H'->Q (.bl (ruleD k d)) H')
abbrev s_is_rule:Stmt:=top 24
theorem sc_is_rule:FnScope ["kinds","thing"] ["kinds","thing"] (defScope s_is_rule):=⟨rfl,rfl,rfl,by decide +kernel,rfl,by decide +kernel,by decide +kernel⟩
theorem sm1:Sm 1:=by unfold Sm;decide +kernel
theorem sm4:Sm 4:=by unfold Sm;decide +kernel
theorem ok_is_rule {c:Nat->Addr} (F:Fun K "is_rule" "is_rule" s_is_rule f fd) (B:Bt mg) (C:Ct mg) (c1:Cal P w K mg base 2 "are_wholes" ["thing","low","high"] sp_are_wholes) (c2:CalX P w K mg base 2 "need_number" ["thing","low","high"] (sp_need_number c)):FnOk P w K mg base (CX1 P w) 3 f fd ["kinds","thing"] (sp_is_rule c):=by
  refine F.okX sc_is_rule (fun vs H Q E h=>?_) (fun cdv A outer s H vs Q E hr h=>?_)
  · obtain ⟨u,v,st,dk,d,rfl,_⟩:=h
    rfl
  obtain ⟨u,v,st,dk,d,rfl,hu,qE,qQ⟩:=h
  obtain ⟨tk,hk⟩:=C.kinds
  obtain ⟨tp,hp⟩:=C.puts
  refine ⟨_,pss_cons (ps_expr (pe_calx c2 hr rfl passes1 (pa_cons (pv 0) (pa_cons pe_int (pa_cons (pe_glob (v:=.int 4) rfl hk ⟨tk,rfl⟩) pa_nil)))))
    (PSs.nox (pss_cons (ps_if (PW.pt (pw_or (pt_not (pt_val (pe_callB (call_isi kit_tup) rfl B.isinstance boot_isinstance (pa_cons (pv 1) (pa_cons (pe_bty rfl B.tuple boot_tuple) pa_nil)))))
      (pw_or1 (pt_cmpR op_ne (pe_callB call_len_seq rfl B.len PySem.boot_len (pa_cons (pv 1) pa_nil)) (pv 0) (nomark _))))) (pss_one (ps_ret pe_bl)) pss_nil)
    (pss_one (ps_ret (pe_callB (call_all_seq rfl) rfl B.all boot_all (pa_cons (pe_compG (N:=["row","kinds"]) (ix:=[none,some 0]) (ifs:=[]) (tc:=tTrue) rfl (pi_tup (pv 1))
      (fun s H ex=>pg_c (i:=0) (by decide +kernel) rfl (Or.inl rfl) (.inr rfl)) (fun s H ex=>pifs_nil)
      (fun s H ex=>pe_and (pe_cal c1 hr rfl (pa_cons (pv 0) (pa_cons pe_int (pa_cons (pe_glob (v:=.int 5) rfl hp ⟨tp,rfl⟩) pa_nil)))) (pe_one (pe_cmpR op_eq (pe_callB (lenK (K:=K) rfl) rfl B.len PySem.boot_len (pa_cons (pv 0) pa_nil)) (pv 1) (nomark _)))) rfl (by decide +kernel) (by rfl) (by rfl) (fun _=>rfl)) pa_nil)))))),?_⟩
  refine ⟨_,rfl,u,st,dk,1,4,rfl,hu,sm1,sm4,fun hw=>?_,qE⟩
  obtain ⟨k,e,k1,k4⟩:=wholeD_int hw
  subst e
  obtain rfl:=hu.unint
  obtain ⟨hd,hl,hl2,q⟩:=qQ k rfl k1 k4
  refine ⟨_,rfl,v,st,d,rfl,hd,_,rfl,?_⟩
  cases d with
  | tuple ds =>
    obtain ⟨a,xs,e,ne,ha,hds⟩:=hd.untup
    subst e
    have hlen:=hds.len
    have hl':=hl ds rfl
    refine iteF ⟨_,rfl,a,xs,rfl,.inr (.of ha),_,rfl,rfl,_,rfl,?_⟩
    have q0:=fun H' g=>q H' g
    unfold ruleD at q0
    by_cases hk':(ds.length:Int)=k
    · have e1:V.int (xs.length:Int)=V.int k:=by rw [<- hlen,hk']
      rw [decide_eq_true e1]
      refine iteF ?_
      have q1:∀ H',Same H H'->Q (.bl (ds.all (fun r=>wholesD 0 5 r && decide ((lenD r:Int)=k)))) H':=fun H' g=>by
        have:=q0 H' g
        simp only [decide_eq_true hk',Bool.true_and] at this
        exact this
      refine ⟨_,rfl,a,rfl,⟨xs,.of ha⟩,blk_tup (K:=K) (a:=a) (xs:=xs) (sz (by omega)) (fun i ys H2=>Same H H2/\i <= ds.length/\ys=(ds.take i).map fun r=>V.bl (wholesD 0 5 r && decide ((lenD r:Int)=k))) ⟨Same.refl H,Nat.zero_le _,rfl⟩ (fun i ys H2 h=>?_) (fun i ys H2 _ h=>.of (h.1 _ _ ha)) rfl (fun i ys H2 x hx h=>?_) (fun ys H2 h=>?_)⟩
      · obtain ⟨_,hil,rfl⟩:=h
        rw [List.length_map,List.length_take];omega
      · obtain ⟨hS,hil,rfl⟩:=h
        obtain ⟨d,hd',dt⟩:=hds.get hx
        have dt2:=dt.kp (hS.kp st)
        refine ⟨_,rfl,x,st,d,0,5,rfl,dt2,hl2 ds rfl d (List.mem_of_getElem? hd'),fun H3 g3=>⟨_,rfl,?_⟩⟩
        have fin:∀ b:Bool,b=(wholesD 0 5 d && decide ((lenD d:Int)=k))->Same H H3/\i + 1 <= ds.length/\((ds.take i).map fun r=>V.bl (wholesD 0 5 r && decide ((lenD r:Int)=k))) ++ [V.bl b]=(ds.take (i + 1)).map fun r=>V.bl (wholesD 0 5 r && decide ((lenD r:Int)=k)):=fun b e=>by
          subst e
          refine ⟨hS.trans g3,(List.getElem?_eq_some_iff.mp hd').1,?_⟩
          rw [List.take_add_one,hd',List.map_append];rfl
        cases hw:wholesD 0 5 d with
        | false=>exact iteF (fin false (by rw [hw];rfl))
        | true =>
          obtain ⟨ns,e,_⟩:=wholesD_ints hw
          subst e
          obtain ⟨b,e,_,hb⟩:=dt2.di
          subst e
          refine iteT ⟨_,rfl,b,_,rfl,.inr (.of (g3 _ _ hb)),_,rfl,rfl,?_⟩
          refine fin _ ?_
          rw [hw,Bool.true_and,lenD_DI,List.length_map]
          rw [decide_eq_decide]
          constructor
          · intro e;injection e
          · intro e;rw [e]
      · obtain ⟨hS,hil,rfl⟩:=h
        intro p hp
        refine ⟨p,_,rfl,.inl (.of upd_same),?_,?_⟩
        · rw [List.all_map];exact List.all_eq_true.mpr fun _ _=>rfl
        · have e:(((ds.take xs.length).map fun r=>V.bl (wholesD 0 5 r && decide ((lenD r:Int)=k))).all truV)=ds.all (fun r=>wholesD 0 5 r && decide ((lenD r:Int)=k)):=by
            rw [<- hlen,List.take_length,List.all_map];rfl
          rw [e]
          exact q1 _ (hS.trans (Same.new hp))
    · have e1:¬ V.int (xs.length:Int)=V.int k:=fun e=>hk' (by rw [hlen];injection e)
      rw [decide_eq_false e1]
      refine iteT ?_
      have:=q0 H (Same.refl H)
      simp only [decide_eq_false hk',Bool.false_and] at this
      exact this
  | _=>exact iteT (iteT (q H (Same.refl H)))
end
end G
namespace G
open PySem PySem.Spec PyProof.Rows L2 Mt
theorem atI_int {ns:List Int} {k:Nat} (h:k < ns.length):atI (ns.map V.int) (k:Int)=some (.int (ns.getD k 0)):=by
  refine atI_nat ?_
  rw [List.getElem?_map,List.getElem?_eq_getElem h,List.getD_eq_getElem?_getD,List.getElem?_eq_getElem h];rfl
def StOk (x:Int) (b:Bool):Prop:=b=false->0 <= x/\x < 2147483647
section
variable {P:Program} {w:World} {K:PySem.W.Frag} {mg:Str->Option Value} {base:Heap} {f:Addr} {fd:FuncData}
def sp_cell_at (K:PySem.W.Frag):Sp:=fun vs H Q _=>∃ (a:Addr) (ns:List Int) (k:Nat),vs=[.ref a,.int k]/\SqL K H a (ns.map V.int)/\∀ x,Q (.int x) H
abbrev s_cell_at:Stmt:=top 66
theorem sc_cell_at:FnScope ["_law_script","_law_k"] ["_law_script","_law_k"] (defScope s_cell_at):=⟨rfl,rfl,rfl,by decide +kernel,rfl,by decide +kernel,by decide +kernel⟩
theorem ok_cell_at (F:Fun K "_law_cell_at" "_law_cell_at" s_cell_at f fd) (B:Bt mg):FnOk P w K mg base CX0 1 f fd ["_law_script","_law_k"] (sp_cell_at K):=by
  refine F.ok sc_cell_at (fun vs H Q E h=>?_) (fun cdv A outer s H vs Q E hr h=>?_)
  · obtain ⟨a,ns,k,rfl,_⟩:=h
    rfl
  obtain ⟨a,ns,k,rfl,ha,q⟩:=h
  refine ⟨_,pss_cons (ps_if (pt_cmpR op_lt (pv 1) (pe_callB call_len_seq rfl B.len PySem.boot_len (pa_cons (pv 0) pa_nil)) (nomark _)) (pss_one (ps_ret (pe_ix ix_list (pv 0) (pv 1) (fun _ _=>rfl)))) pss_nil)
    (pss_one (ps_ret pe_int)),?_⟩
  refine ⟨_,rfl,_,rfl,a,_,rfl,.inl ha,_,_,rfl,rfl,_,rfl,?_⟩
  refine ite2 (fun c=>?_) (fun c=>q 0)
  have c':(k:Int) < (((ns.map V.int).length:Nat):Int):=of_decide_eq_true c
  rw [List.length_map] at c'
  exact ⟨_,rfl,_,rfl,a,_,_,_,rfl,rfl,ha,atI_int (by omega),q _⟩
def sp_state (K:PySem.W.Frag):Sp:=fun vs H Q _=>∃ (a:Addr) (ns:List Int) (k:Nat),vs=[.ref a,.int k]/\SqL K H a (ns.map V.int)/\∀ l x b,H l=none->StOk x b->Q (.ref l) (upd H l (.lst [.int x,.bl b]))
abbrev s_state:Stmt:=top 67
theorem sc_state:FnScope ["_law_script","_law_k","_law_cell"] ["_law_script","_law_k"] (defScope s_state):=⟨rfl,rfl,rfl,by decide +kernel,rfl,by decide +kernel,by decide +kernel⟩
theorem ok_state (F:Fun K "_law_state" "_law_state" s_state f fd) (c1:Cal P w K mg base 1 "_law_cell_at" ["_law_script","_law_k"] (sp_cell_at K)):FnOk P w K mg base CX0 2 f fd ["_law_script","_law_k"] (sp_state K):=by
  refine F.ok sc_state (fun vs H Q E h=>?_) (fun cdv A outer s H vs Q E hr h=>?_)
  · obtain ⟨a,ns,k,rfl,_⟩:=h
    rfl
  obtain ⟨a,ns,k,rfl,ha,q⟩:=h
  refine ⟨_,pss_cons (ps_set (i:=2) sc_state.nd rfl (Or.inl rfl) (pe_cal c1 hr rfl (pa_cons (pv 0) (pa_cons (pv 1) pa_nil))))
    (pss_cons (ps_if (pt_cmpR op_ge (pv 2) (pe_op op_pow pe_int pe_int) (nomark _)) (pss_one (ps_ret (pe_lst (pa_cons (pe_op op_sub (pv 2) (pe_op op_pow pe_int pe_int)) (pa_cons pe_bl pa_nil))))) pss_nil)
    (pss_one (ps_ret (pe_lst (pa_cons (pe_op op_mod (pv 2) pe_int) (pa_cons pe_bl pa_nil)))))),?_⟩
  have hp:CPow 10 18:=⟨by decide,by decide,by decide⟩
  refine ⟨_,rfl,_,rfl,a,ns,k,rfl,ha,fun x=>?_⟩
  refine ⟨_,rfl,_,_,rfl,rfl,hp,_,_,rfl,rfl,_,rfl,?_⟩
  refine ite2 (fun c=>?_) (fun c=>?_)
  · exact ⟨_,rfl,_,_,rfl,rfl,hp,_,_,rfl,rfl,(by show 2 <= sizeLine;decide),fun l hl=>q l _ _ hl (fun z=>by cases z)⟩
  · exact ⟨_,rfl,_,_,rfl,rfl,(by show (0:Int) < 2147483647;decide),(by show 2 <= sizeLine;decide),fun l hl=>q l _ _ hl (fun _=>⟨Int.emod_nonneg _ (by decide),Int.emod_lt_of_pos _ (by decide)⟩)⟩
def sp_take:Sp:=fun vs H Q _=>∃ (l:Addr) (m x:Int) (b:Bool),vs=[.ref l,.int m]/\H l=some (.lst [.int x,.bl b])/\StOk x b/\1 <= m/\m <= 1000 /\
  ∀ (y:Nat) (x':Int),(y:Int) < m->StOk x' b->Q (.int y) (upd H l (.lst [.int x',.bl b]))
abbrev s_take:Stmt:=top 68
theorem sc_take:FnScope ["_law_state_here","_law_many","_law_found","_law_mixed"] ["_law_state_here","_law_many"] (defScope s_take):=⟨rfl,rfl,rfl,by decide +kernel,rfl,by decide +kernel,by decide +kernel⟩
theorem ok_take (F:Fun K "_law_take" "_law_take" s_take f fd):FnOk P w K mg base CX0 1 f fd ["_law_state_here","_law_many"] sp_take:=by
  refine F.ok sc_take (fun vs H Q E h=>?_) (fun cdv A outer s H vs Q E hr h=>?_)
  · obtain ⟨l,m,x,b,rfl,_⟩:=h
    rfl
  obtain ⟨l,m,x,b,rfl,hl,hst,m1,m2,q⟩:=h
  refine ⟨_,pss_cons (ps_if (pt_val (pe_ix ix_list (pv 0) pe_int (fun _ _=>rfl)))
      (pss_cons (ps_set (i:=2) sc_take.nd rfl (Or.inl rfl) (pe_op op_mod (pe_ix ix_list (pv 0) pe_int (fun _ _=>rfl)) (pv 1)))
      (pss_cons (ps_asg (pe_op op_fdiv (pe_ix ix_list (pv 0) pe_int (fun _ _=>rfl)) (pv 1)) (pg_sub (pv 0) pe_int set_list))
      (pss_one (ps_ret (pv 2))))) pss_nil)
    (pss_cons (ps_asg (pe_op op_mod (pe_op op_add (pe_op op_mul (pe_ix ix_list (pv 0) pe_int (fun _ _=>rfl)) pe_int) pe_int) pe_int) (pg_sub (pv 0) pe_int set_list))
    (pss_cons (ps_set (i:=3) sc_take.nd rfl (Or.inl rfl) (pe_op op_mod (pe_op op_add (pe_op op_add (pe_op op_mul (pe_ix ix_list (pv 0) pe_int (fun _ _=>rfl)) (pe_ix ix_list (pv 0) pe_int (fun _ _=>rfl))) (pe_op op_mul pe_int (pe_ix ix_list (pv 0) pe_int (fun _ _=>rfl)))) pe_int) pe_int))
    (pss_cons (ps_set (i:=3) sc_take.nd rfl (Or.inl rfl) (pe_op op_mod (pe_op op_add (pe_op op_mul (pv 3) (pv 3)) (pe_op op_mul pe_int (pv 3))) pe_int))
    (pss_one (ps_ret (pe_op op_mod (pe_op op_fdiv (pv 3) pe_int) (pv 1))))))),?_⟩
  have fin:∀ (z x':Int),StOk x' b->Q (.int (z % m)) (upd H l (.lst [.int x',.bl b])):=fun z x' h=>by
    have h1:=Int.emod_nonneg z (show m ≠ 0 by omega)
    have h2:=Int.emod_lt_of_pos z (show 0 < m by omega)
    have e:z % m=(((z % m).toNat:Nat):Int):=by omega
    rw [e]
    exact q _ x' (by omega) h
  refine ⟨_,rfl,l,_,_,_,rfl,rfl,.of hl,atI_nat (j:=1) rfl,_,rfl,?_⟩
  cases b with
  | true =>
    refine iteT ⟨_,rfl,l,_,_,_,rfl,rfl,.of hl,atI_nat (j:=0) rfl,_,rfl,_,_,rfl,rfl,(by omega),?_⟩
    refine ⟨_,rfl,l,_,_,_,rfl,rfl,.of hl,atI_nat (j:=0) rfl,_,rfl,_,_,rfl,rfl,⟨by omega,by omega⟩,_,rfl,l,_,_,0,rfl,rfl,hl,rfl,?_⟩
    exact ⟨_,rfl,fin _ _ (fun z=>by cases z)⟩
  | false =>
    obtain ⟨x0,x1⟩:=hst rfl
    refine iteF ⟨_,rfl,l,_,_,_,rfl,rfl,.of hl,atI_nat (j:=0) rfl,_,_,rfl,rfl,.inl ⟨by omega,by omega⟩,_,_,rfl,rfl,_,_,rfl,rfl,(by show (0:Int) < 2147483647;decide),_,rfl,l,_,_,0,rfl,rfl,hl,rfl,?_⟩
    have y0:=Int.emod_nonneg (x * 48271 + 29) (show (2147483647:Int) ≠ 0 by decide)
    have y1:=Int.emod_lt_of_pos (x * 48271 + 29) (show (0:Int) < 2147483647 by decide)
    show tSeq _ _ _ _ (upd H l (.lst [.int ((x * 48271 + 29) % 2147483647),.bl false]))
    generalize (x * 48271 + 29) % 2147483647=y at y0 y1
    have hl2:upd H l (.lst [.int y,.bl false]) l=some (.lst [.int y,.bl false]):=upd_same
    refine ⟨_,rfl,l,_,_,_,rfl,rfl,.of hl2,atI_nat (j:=0) rfl,_,rfl,l,_,_,_,rfl,rfl,.of hl2,atI_nat (j:=0) rfl,_,_,rfl,rfl,.inl ⟨by omega,by omega⟩,_,rfl,l,_,_,_,rfl,rfl,.of hl2,atI_nat (j:=0) rfl,_,_,rfl,rfl,.inr ⟨by omega,by omega⟩,_,_,rfl,rfl,_,_,rfl,rfl,_,_,rfl,rfl,(by show (0:Int) < 2147483629;decide),?_⟩
    have z0:=Int.emod_nonneg (y * y + 39373 * y + 7) (show (2147483629:Int) ≠ 0 by decide)
    have z1:=Int.emod_lt_of_pos (y * y + 39373 * y + 7) (show (0:Int) < 2147483629 by decide)
    generalize (y * y + 39373 * y + 7) % 2147483629=z at z0 z1
    refine ⟨_,rfl,_,rfl,_,_,rfl,rfl,.inl ⟨by omega,by omega⟩,_,rfl,_,_,rfl,rfl,.inr ⟨by omega,by omega⟩,_,_,rfl,rfl,_,_,rfl,rfl,(by show (0:Int) < 2147483587;decide),?_⟩
    exact ⟨_,rfl,_,_,rfl,rfl,⟨by decide,by decide⟩,_,rfl,_,_,rfl,rfl,(by omega),fin _ _ (fun _=>⟨y0,y1⟩)⟩
end
end G
namespace G
open PySem PySem.Spec PyProof.Rows L2 Mt
section
variable {P:Program} {w:World} {K:PySem.W.Frag} {mg:Str->Option Value} {base:Heap} {f:Addr} {fd:FuncData}
end
end G
namespace G
open PySem PySem.Spec PyProof.Rows L2 Mt
abbrev DR (rs:List (List Int)):PyData:=.tuple (rs.map DI)
theorem short_DI {ns:List Int} (h:ns.length <= 1000):short (DI ns):=fun ds e=>by
  injection e with e
  rw [<- e,List.length_map];exact h
theorem short_DR {rs:List (List Int)} (h:rs.length <= 1000):short (DR rs):=fun ds e=>by
  injection e with e
  rw [<- e,List.length_map];exact h
theorem shorts_DR {n:Nat} {rs:List (List Int)} (h:Rul n 5 rs) (hn:n <= 1000):∀ ds,DR rs=.tuple ds->∀ r ∈ ds,short r:=fun ds e r hr=>by
  injection e with e
  rw [<- e] at hr
  obtain ⟨row,hrow,e2⟩:=List.mem_map.mp hr
  rw [<- e2]
  exact short_DI (by rw [(h.row row hrow).len];exact hn)
theorem dr_row {st:Addr} {H:Hp} {rs:List (List Int)} {v:V} {k:Nat} (h:Dt st H (DR rs) v) (hk:k < rs.length) :
    ∃ r xs b,v=.ref r/\H r=some (.tup xs)/\xs[k]?=some (.ref b)/\H b=some (.tup ((rs.getD k []).map V.int)):=by
  obtain ⟨r,xs,e,_,hr,hds⟩:=h.untup
  have hl:=hds.len
  rw [List.length_map] at hl
  have hkx:k < xs.length:=by omega
  obtain ⟨d,hd,dt⟩:=hds.get (i:=k) (x:=xs[k]) (List.getElem?_eq_getElem hkx)
  rw [List.getElem?_map,List.getElem?_eq_getElem hk] at hd
  have e2:rs.getD k []=rs[k]:=by rw [List.getD_eq_getElem?_getD,List.getElem?_eq_getElem hk];rfl
  have e3:d=DI rs[k]:=(Option.some.inj hd).symm
  subst e3
  obtain ⟨b,eb,_,hb⟩:=dt.di
  exact ⟨r,xs,b,e,hr,by rw [List.getElem?_eq_getElem hkx,eb],by rw [e2];exact hb⟩
theorem urnD_of {n:Nat} {ns:List Int} (h:Urn n 20 ns) (h1:1 <= n) (h4:n <= 4):urnD 20 (DI ns)=true:=by
  unfold urnD
  rw [lenD_DI,sumD_DI,h.len,decide_eq_true (show (1:Int) <= (n:Int) by omega),decide_eq_true (show (n:Int) <= 4 by omega),decide_eq_true h.pos]
  have:wholesD 0 20 (DI ns)=true:=by
    show (ns.map PyData.int).all (wholeD 0 20)=true
    rw [List.all_map]
    refine List.all_eq_true.mpr fun x hx=>?_
    have:=h.nn x hx
    show (decide ((0:Int) <= x) && decide (x <= 20))=true
    rw [decide_eq_true this.1,decide_eq_true (show x <= 20 by omega)];rfl
  rw [this];rfl
theorem ruleD_of {n:Nat} {rs:List (List Int)} (h:Rul n 5 rs):ruleD n (DR rs)=true:=by
  show (decide (((rs.map DI).length:Int)=n) && (rs.map DI).all (fun r=>wholesD 0 5 r && decide ((lenD r:Int)=n)))=true
  rw [List.length_map,h.len,decide_eq_true rfl,Bool.true_and,List.all_map]
  refine List.all_eq_true.mpr fun r hr=>?_
  have hw:=h.row r hr
  show (wholesD 0 5 (DI r) && decide ((lenD (DI r):Int)=n))=true
  rw [lenD_DI,hw.len,decide_eq_true rfl,Bool.and_true]
  show (r.map PyData.int).all (wholeD 0 5)=true
  rw [List.all_map]
  refine List.all_eq_true.mpr fun x hx=>?_
  have:=hw.nn x hx
  show (decide ((0:Int) <= x) && decide (x <= 5))=true
  rw [decide_eq_true this.1,decide_eq_true (show x <= 5 by omega)];rfl
section
variable {X:Cx}
def rRepS:R2:=fun x y H Q=>∃ (a:Addr) (v:V) (k:Nat),x=.ref a/\y=.int (k:Int)/\H a=some (.tup [v])/\1 <= k/\k <= 4/\∀ p H',Same H H'->H' p=some (.tup (List.replicate k v))->Q (.ref p) H'
theorem repS:OpR X (binaryOp .Mult) rRepS:=by
  intro pins s σ H x y v u Q I rx ry h
  obtain ⟨a,v',k,rfl,rfl,ha,h1,h4,q⟩:=h
  refine op_rep1 pins s σ H _ _ v u Q I rx ry ⟨a,v',(k:Int),rfl,rfl,.of ha,by omega,by omega,fun hk=>?_,fun hk p hp=>?_⟩
  · have hk':k=1:=by omega
    subst hk'
    exact q a H (Same.refl H) ha
  · exact q p _ (Same.new hp) upd_same
def rSlS:V->Option Int->Option Int->Hp->VK->Prop:=fun x lo hi H Q=>∃ (a:Addr) (xs:List V),x=.ref a/\H a=some (.tup xs)/\∀ p H',Same H H'->H' p=some (.tup (cutV xs lo hi))->Q (.ref p) H'
end
section
variable {P:Program} {w:World} {K:PySem.W.Frag} {mg:Str->Option Value} {base:Heap} {f:Addr} {fd:FuncData}
def Sta (l:Addr) (b:Bool) (H H':Hp):Prop:=Kp l H H'/\∃ x,H' l=some (.lst [.int x,.bl b])/\StOk x b
theorem Sta.start {l:Addr} {b:Bool} {H:Hp} {x:Int} (h:H l=some (.lst [.int x,.bl b])) (ok:StOk x b):Sta l b H H:=⟨Kp.refl l H,x,h,ok⟩
theorem Sta.same {l:Addr} {b:Bool} {H H1 H2:Hp} (s:Sta l b H H1) (g:Same H1 H2):Sta l b H H2:=by
  obtain ⟨k,x,h,ok⟩:=s
  exact ⟨k.trans (g.kp l),x,g _ _ h,ok⟩
theorem Sta.new {l:Addr} {b:Bool} {H H1:Hp} {p:Addr} {o:HO} (s:Sta l b H H1) (h:H1 p=none):Sta l b H (upd H1 p o):=s.same (Same.new h)
theorem Sta.trans {l:Addr} {b:Bool} {H H1 H2:Hp} (s:Sta l b H H1) (t:Sta l b H1 H2):Sta l b H H2:=⟨s.1.trans t.1,t.2⟩
theorem Sta.ne {l:Addr} {b:Bool} {H H1:Hp} {p:Addr} (s:Sta l b H H1) (h:H1 p=none):l ≠ p:=by
  obtain ⟨_,x,e,_⟩:=s
  exact ne_of_none e h
theorem Sta.go {l:Addr} {b:Bool} {H H1:Hp} {x:Int} (s:Sta l b H H1) (ok:StOk x b):Sta l b H (upd H1 l (.lst [.int x,.bl b])):=⟨s.1.trans Kp.at,x,upd_same,ok⟩
theorem Sta.neL {l:Addr} {b:Bool} {H H1:Hp} {p:Addr} {xs:List V} (s:Sta l b H H1) (h:H1 p=some (.tup xs)):p ≠ l:=fun e=>by
  obtain ⟨_,x,q,_⟩:=s
  rw [e,q] at h;cases h
end
end G
namespace G
open PySem PySem.Spec PyProof.Rows L2 Mt
theorem cut_drop {xs:List V} {y:Nat} (h:y <= xs.length):cutV xs (some (y:Int)) none=xs.drop y:=by
  unfold cutV
  have e1:HT.sIx xs.length 0 (some (y:Int))=y:=by rw [HT.sIx_nat];omega
  rw [e1,HT.sIx_none]
  exact List.take_of_length_le (by rw [List.length_drop];omega)
theorem cut_take {xs:List V} {y:Nat} (h:y <= xs.length):cutV xs none (some (y:Int))=xs.take y:=by
  unfold cutV
  have e1:HT.sIx xs.length xs.length (some (y:Int))=y:=by rw [HT.sIx_nat];omega
  rw [e1,HT.sIx_none,List.drop_zero,Nat.sub_zero]
theorem Dts_but {st pr:Addr} {H H':Hp} (k:∀ c o,c ≠ pr->H c=some o->H' c=some o) (hp:∀ xs,H pr=some (.tup xs)->False):∀ {rs:List (List Int)} {xs:List V},Dts st H (rs.map DI) xs->Dts st H' (rs.map DI) xs
  | [],_,h=>by unfold Dts at h;subst h;exact Dts.nil _ _
  | r :: rs,_,h=>by
    rw [List.map_cons] at h ⊢
    obtain ⟨x,r',e,h1,h2⟩:=h.uncons
    subst e
    obtain ⟨a,ea,ne,ha⟩:=h1.di
    subst ea
    exact Dts.cons (Dt.mkI ne (k a _ (fun z=>by rw [z] at ha;exact hp _ ha) ha)) (Dts_but k hp h2)
section
variable {P:Program} {w:World} {K:PySem.W.Frag} {mg:Str->Option Value} {base:Heap} {f:Addr} {fd:FuncData}
def sp_lrule:Sp:=fun vs H Q _=>∃ (l:Addr) (n:Nat) (x:Int) (b:Bool),vs=[.ref l,.int n]/\H l=some (.lst [.int x,.bl b])/\StOk x b/\1 <= n/\n <= 4 /\
  ∀ (v:V) (H':Hp) (rs:List (List Int)),Sta l b H H'->Dt l H' (DR rs) v->Mt.Rul n 5 rs->Q v H'
abbrev s_lrule:Stmt:=top 69
theorem sc_lrule:FnScope ["_law_state_here","_law_kinds","_law_way","_law_more","_law_line","_law_rows","_law_kind","_law_at"] ["_law_state_here","_law_kinds"] (defScope s_lrule):=⟨rfl,rfl,rfl,by decide +kernel,rfl,by decide +kernel,by decide +kernel⟩
theorem ok_lrule (F:Fun K "_law_rule" "_law_rule" s_lrule f fd) (B:Bt mg) (c1:Cal P w K mg base 1 "_law_take" ["_law_state_here","_law_many"] sp_take):FnOk P w K mg base CX0 2 f fd ["_law_state_here","_law_kinds"] sp_lrule:=by
  refine F.ok sc_lrule (fun vs H Q E h=>?_) (fun cdv A outer s H vs Q E hr h=>?_)
  · obtain ⟨l,n,x,b,rfl,_⟩:=h
    rfl
  obtain ⟨l,n,x,b,rfl,hl,hst,n1,n4,q⟩:=h
  refine ⟨_,pss_cons (ps_set (i:=2) sc_lrule.nd rfl (Or.inr rfl) (pe_cal c1 hr rfl (pa_cons (pv 0) (pa_cons pe_int pa_nil))))
    (pss_cons (ps_set (i:=3) sc_lrule.nd rfl (Or.inr rfl) (pe_cal c1 hr rfl (pa_cons (pv 0) (pa_cons pe_int pa_nil))))
    (pss_cons (ps_if (pt_cmpR op_eq (pv 2) pe_int (nomark _)) (pss_one (ps_ret (pe_callTy call_tuple_of rfl B.tuple boot_tuple (pa_cons (pe_compG (N:=["_law_one","_law_kinds","_law_more"]) (ix:=[none,some 1,some 3]) (ifs:=[]) (tc:=tTrue) rfl (pi_range1 rfl B.range (pa_cons (pv 1) pa_nil))
        (fun s H ex=>pg_c (i:=0) (by decide +kernel) rfl (Or.inr rfl) (.inl rfl)) (fun s H ex=>pifs_nil)
        (fun s H ex=>pe_callTy (tupK (K:=K) rfl) rfl B.tuple boot_tuple (pa_cons (pe_compG (N:=["_law_other","_law_more","_law_one"]) (ix:=[none,some 2,some 0]) (ifs:=[]) (tc:=tTrue) rfl (pi_range1 rfl B.range (pa_cons (pv 1) pa_nil))
          (fun s H ex=>pg_c (i:=0) (by decide +kernel) rfl (Or.inl rfl) (.inr rfl)) (fun s H ex=>pifs_nil)
          (fun s H ex=>pe_op op_mul (pv 1) (pe_callTy call_int1 rfl B.int boot_int (pa_cons (pe_cmpR op_eq (pv 2) (pv 0) (nomark _)) pa_nil))) rfl (by decide +kernel) (by rfl) (by rfl) (fun _=>rfl)) pa_nil)) rfl (by decide +kernel) (by rfl) (by rfl) (fun _=>rfl)) pa_nil)))) pss_nil)
    (pss_cons (ps_if (pt_cmpR op_eq (pv 2) pe_int (nomark _))
      (pss_cons (ps_setcompG (N:=["_law_kind","_law_state_here"]) (ix:=[none,some 0]) (ifs:=[]) (tc:=tTrue) (i:=4) rfl sc_lrule.nd rfl rfl (pi_range1 rfl B.range (pa_cons (pv 1) pa_nil))
        (fun s H ex=>pg_c (i:=0) (by decide +kernel) rfl (Or.inl rfl) (.inr rfl)) (fun s H ex=>pifs_nil) (fun s H ex=>pe_cal c1 hr rfl (pa_cons (pv 1) (pa_cons pe_int pa_nil))) rfl (by decide +kernel) (by rfl) (by rfl) (fun _=>rfl) (by rfl))
      (pss_cons (ps_set (i:=5) sc_lrule.nd rfl (Or.inl rfl) (pe_lst pa_nil))
      (pss_cons (ps_for PassesOwn.never rfl (pi_range1 rfl B.range (pa_cons (pv 1) pa_nil)) (pg_name (i:=6) sc_lrule.nd rfl (Or.inl rfl))
        (pss_cons (ps_set (i:=7) sc_lrule.nd rfl (Or.inl rfl) (pe_cal c1 hr rfl (pa_cons (pv 0) (pa_cons (pv 1) pa_nil))))
        (pss_one (ps_expr (pe_bm PySem.F.plainAttrs_list PySem.F.slot_list_append PySem.F.type_list_append mt_append (pv 5) (pa_cons (pe_callTy call_tuple_of rfl B.tuple boot_tuple (pa_cons (pe_op op_cat (pe_slice sl_list (pv 4) (po_some (pv 7)) po_none) (pe_slice sl_list (pv 4) po_none (po_some (pv 7)))) pa_nil)) pa_nil))))))
      (pss_one (ps_ret (pe_callTy call_tuple_of rfl B.tuple boot_tuple (pa_cons (pv 5) pa_nil))))))) pss_nil)
    (pss_one (ps_ret (pe_callTy call_tuple_of rfl B.tuple boot_tuple (pa_cons (pe_compG (N:=["_law_one","_law_kinds","_law_state_here","_law_way"]) (ix:=[none,some 1,some 0,some 2]) (ifs:=[]) (tc:=tTrue) rfl (pi_range1 rfl B.range (pa_cons (pv 1) pa_nil))
        (fun s H ex=>pg_c (i:=0) (by decide +kernel) rfl (Or.inl rfl) (.inr rfl)) (fun s H ex=>pifs_nil)
        (fun s H ex=>pe_callTy (tupK (K:=K) rfl) rfl B.tuple boot_tuple (pa_cons (pe_compG (N:=["_law_other","_law_state_here","_law_way"]) (ix:=[none,some 2,some 3]) (ifs:=[]) (tc:=tTrue) rfl (pi_range1 rfl B.range (pa_cons (pv 1) pa_nil))
          (fun s H ex=>pg_c (i:=0) (by decide +kernel) rfl (Or.inl rfl) (.inr rfl)) (fun s H ex=>pifs_nil)
          (fun s H ex=>pe_cal c1 hr rfl (pa_cons (pv 1) (pa_cons (pe_ix (ixLK (K:=K) rfl) (pe_lst (pa_cons pe_int (pa_cons pe_int pa_nil))) (pe_op op_sub (pv 2) pe_int) (fun _ _=>rfl)) pa_nil))) rfl (by decide +kernel) (by rfl) (by rfl) (fun _=>rfl)) pa_nil)) rfl (by decide +kernel) (by rfl) (by rfl) (fun _=>rfl)) pa_nil))))))),?_⟩
  have lo62:-(2 ^ 62) <= ((n:Nat):Int):=by omega
  have hi62:((n:Nat):Int) < 2 ^ 62:=by omega
  have s0:Sta l b H H:=Sta.start hl hst
  have fin:∀ (rs:List (List Int)) (ys:List V) (H3:Hp) (p ra:Addr),Sta l b H H3->rs.length=n->(∀ r ∈ rs,Mt.Row n 5 r)->Dts l H3 (rs.map DI) ys->H3 p=none->upd H3 p (.lst ys) ra=none->Q (.ref ra) (upd (upd H3 p (.lst ys)) ra (.tup ys)):=fun rs ys H3 p ra s3 h1 h2 h3 hp hra=>by
    have s4:Sta l b H (upd H3 p (.lst ys)):=s3.new hp
    exact q _ _ rs (s4.new hra) (Dt.tup (s4.ne hra).symm upd_same (h3.kp ((Kp.new hp).trans (Kp.new hra)))) ⟨h1,h2⟩
  refine ⟨_,rfl,l,4,x,b,rfl,hl,hst,by decide,by decide,fun wy x1 hwy ok1=>?_⟩
  have s1:=s0.go ok1
  show tSeq _ _ _ _ (upd H l (.lst [.int x1,.bl b]))
  generalize upd H l (.lst [.int x1,.bl b])=H1 at s1
  obtain ⟨_,x2,hx2,ok2⟩:=id s1
  refine ⟨_,rfl,l,6,x2,b,rfl,hx2,ok2,by decide,by decide,fun mo x3 hmo ok3=>?_⟩
  have s2:=s1.go ok3
  show tSeq _ _ _ _ (upd H1 l (.lst [.int x3,.bl b]))
  generalize upd H1 l (.lst [.int x3,.bl b])=H2 at s2
  refine ⟨_,rfl,rfl,_,rfl,ite2 (fun c=>?_) (fun c=>?_)⟩
  · refine ⟨_,rfl,(n:Int),rfl,lo62,hi62,?_⟩
    refine blk_range (lo:=0) (n:=n) (sz (by omega)) (fun i ys H3=>Sta l b H H3/\∃ rs:List (List Int),rs.length=i/\(∀ r ∈ rs,Mt.Row n 5 r)/\Dts l H3 (rs.map DI) ys)
      ⟨s2,[],rfl,by simp,Dts.nil _ _⟩ (fun i ys H3 h=>?_) rfl (fun i ys H3 hi h=>?_) (fun ys H3 h=>?_)
    · obtain ⟨_,rs,hr1,_,hd⟩:=h
      rw [<- hd.len,List.length_map];exact hr1
    · obtain ⟨s3,rs,hr1,hr2,hd⟩:=h
      refine ⟨_,rfl,(n:Int),rfl,lo62,hi62,?_⟩
      refine blk_range (lo:=0) (n:=n) (sz (by omega)) (fun j zs H4=>Sta l b H H4/\Kp l H3 H4/\∃ r:List Int,zs=r.map V.int/\r.length=j/\∀ z ∈ r,0 <= z/\z <= 5)
        ⟨s3,Kp.refl _ _,[],rfl,rfl,by simp⟩ (fun j zs H4 h=>?_) rfl (fun j zs H4 hj h=>?_) (fun zs H4 h=>?_)
      · obtain ⟨_,_,r,rfl,hr,_⟩:=h
        rw [List.length_map];exact hr
      · obtain ⟨s4,k4,r,rfl,hr,hz⟩:=h
        refine ⟨_,rfl,_,rfl,_,rfl,rfl,.inr ⟨_,rfl,_,_,rfl,rfl,.inl ⟨by omega,by omega⟩,?_⟩⟩
        refine ⟨s4,k4,r ++ [_],by rw [List.map_append];rfl,by rw [List.length_append,hr];rfl,fun z hz'=>?_⟩
        rcases List.mem_append.mp hz' with h | h
        · exact hz z h
        · rw [List.mem_singleton.mp h]
          split <;> omega
      · obtain ⟨s4,k4,r,rfl,hr,hz⟩:=h
        intro p hp
        have s5:Sta l b H (upd H4 p (.lst (r.map V.int))):=s4.new hp
        refine ⟨p,_,rfl,.inl ⟨.of upd_same,fun t ht=>?_⟩⟩
        have kk:Kp l H3 (upd (upd H4 p (.lst (r.map V.int))) t (.tup (r.map V.int))):=(k4.trans (Kp.new hp)).trans (Kp.new ht)
        refine ⟨s5.new ht,rs ++ [r],by rw [List.length_append,hr1];rfl,fun r' hr'=>?_,?_⟩
        · rcases List.mem_append.mp hr' with h | h
          · exact hr2 r' h
          · rw [List.mem_singleton.mp h];exact ⟨hr,hz⟩
        · rw [List.map_append]
          exact (hd.kp kk).append (Dts.cons (Dt.mkI (s5.ne ht).symm upd_same) (Dts.nil _ _))
    · obtain ⟨s3,rs,hr1,hr2,hd⟩:=h
      exact fun p hp=>⟨p,_,rfl,.inl ⟨.of upd_same,fun ra hra=>fin rs ys H3 p ra s3 hr1 hr2 hd hp hra⟩⟩
  · refine ⟨_,rfl,rfl,_,rfl,ite2 (fun c2=>?_) (fun c2=>?_)⟩
    · refine ⟨_,rfl,(n:Int),rfl,lo62,hi62,?_⟩
      refine blk_range (lo:=0) (n:=n) (sz (by omega)) (fun i ys H3=>Sta l b H H3/\∃ ns:List Int,ys=ns.map V.int/\ns.length=i/\∀ z ∈ ns,0 <= z/\z <= 2)
        ⟨s2,[],rfl,rfl,by simp⟩ (fun i ys H3 h=>?_) rfl (fun i ys H3 hi h=>?_) (fun ys H3 h=>?_)
      · obtain ⟨_,ns,rfl,hn,_⟩:=h
        rw [List.length_map];exact hn
      · obtain ⟨s3,ns,rfl,hn,hb⟩:=h
        obtain ⟨_,x4,hx4,ok4⟩:=id s3
        refine ⟨_,rfl,l,3,x4,b,rfl,hx4,ok4,by decide,by decide,fun y x5 hy ok5=>?_⟩
        refine ⟨s3.go ok5,ns ++ [(y:Int)],by rw [List.map_append];rfl,by rw [List.length_append,hn];rfl,fun z hz=>?_⟩
        rcases List.mem_append.mp hz with h | h
        · exact hb z h
        · rw [List.mem_singleton.mp h];omega
      · obtain ⟨s3,ns,rfl,hn,hb⟩:=h
        intro pl hpl
        have s4:Sta l b H (upd H3 pl (.lst (ns.map V.int))):=s3.new hpl
        have npl:pl ≠ l:=(s3.ne hpl).symm
        have hL4:upd H3 pl (.lst (ns.map V.int)) pl=some (.lst (ns.map V.int)):=upd_same
        show tSeq _ _ _ _ (upd H3 pl (.lst (ns.map V.int)))
        generalize upd H3 pl (.lst (ns.map V.int))=H4 at s4 hL4
        refine ⟨by show 0 <= sizeLine;decide,fun pr hpr=>?_⟩
        have s5:Sta l b H (upd H4 pr (.lst [])):=s4.new hpr
        have npr:pr ≠ l:=(s4.ne hpr).symm
        have hL5:upd H4 pr (.lst []) pl=some (.lst (ns.map V.int)):=by rw [upd_ne (ne_of_none hL4 hpr)];exact hL4
        have hR5:upd H4 pr (.lst []) pr=some (.lst []):=upd_same
        have nlr:pl ≠ pr:=ne_of_none hL4 hpr
        have hRn:H pr=none:=by
          cases e:H pr with
          | none=>rfl
          | some o=>rw [s4.1 pr o npr e] at hpr;cases hpr
        show tSeq _ _ _ _ (upd H4 pr (.lst []))
        generalize upd H4 pr (.lst [])=H5 at s5 hL5 hR5
        refine ⟨_,rfl,(n:Int),rfl,lo62,hi62,?_⟩
        refine for_range (lo:=0) (n:=n) (fun i σ H6=>Sta l b H H6/\(∃ o6 o7,σ=[some (.ref l),some (.int n),some (.int wy),some (.int mo),some (.ref pl),some (.ref pr),o6,o7])/\H6 pl=some (.lst (ns.map V.int))/\∃ (rs:List (List Int)) (ys:List V),H6 pr=some (.lst ys)/\rs.length=i/\(∀ r ∈ rs,Mt.Row n 5 r)/\Dts l H6 (rs.map DI) ys)
          ⟨s5,⟨none,none,rfl⟩,hL5,[],[],hR5,rfl,by simp,Dts.nil _ _⟩ (fun i σ H6 hi h=>?_) (fun σ H6 h=>?_)
        · obtain ⟨s6,⟨o6,o7,rfl⟩,hL6,rs,ys,hR6,hr1,hr2,hd⟩:=h
          obtain ⟨_,x6,hx6,ok6⟩:=id s6
          refine ⟨_,rfl,_,rfl,l,n,x6,b,rfl,hx6,ok6,by omega,by omega,fun y x7 hy ok7=>?_⟩
          have s7:=s6.go ok7
          have k7:Kp l H6 (upd H6 l (.lst [.int x7,.bl b])):=Kp.at
          dsimp only [gName]
          generalize upd H6 l (.lst [.int x7,.bl b])=H7 at s7 k7
          have hL7:=k7 _ _ npl hL6
          have hR7:=k7 _ _ npr hR6
          have hd7:=hd.kp k7
          have hy':y <= (ns.map V.int).length:=by rw [List.length_map];omega
          refine ⟨_,rfl,.inl ⟨rfl,_,.of hR7⟩,_,rfl,_,rfl,_,rfl,pl,_,rfl,.of hL7,fun p1 hp1=>⟨_,rfl,_,rfl,_,rfl,pl,_,rfl,.of (by rw [upd_ne (ne_of_none hL7 hp1)];exact hL7),fun p2 hp2=>?_⟩⟩
          have ea:cutV (ns.map V.int) (some (y:Int)) none=(ns.drop y).map V.int:=by rw [cut_drop hy',List.map_drop]
          have eb:cutV (ns.map V.int) none (some (y:Int))=(ns.take y).map V.int:=by rw [cut_take hy',List.map_take]
          rw [ea,eb]
          rw [ea] at hp2
          have s8:Sta l b H (upd H7 p1 (.lst ((ns.drop y).map V.int))):=s7.new hp1
          have s9:Sta l b H (upd (upd H7 p1 (.lst ((ns.drop y).map V.int))) p2 (.lst ((ns.take y).map V.int))):=s8.new hp2
          refine ⟨p1,p2,_,_,rfl,rfl,(by rw [upd_ne (fun e=>by rw [<- e,upd_same] at hp2;cases hp2),upd_same]),upd_same,(by rw [List.length_map,List.length_map,List.length_drop,List.length_take];exact sz (by omega)),fun p3 hp3=>?_⟩
          have s10:=s9.new (o:=.lst ((ns.drop y).map V.int ++ (ns.take y).map V.int)) hp3
          have k10:Kp l H7 (upd (upd (upd H7 p1 (.lst ((ns.drop y).map V.int))) p2 (.lst ((ns.take y).map V.int))) p3 (.lst ((ns.drop y).map V.int ++ (ns.take y).map V.int))):=((Kp.new hp1).trans (Kp.new hp2)).trans (Kp.new hp3)
          have hp10:upd (upd (upd H7 p1 (.lst ((ns.drop y).map V.int))) p2 (.lst ((ns.take y).map V.int))) p3 (.lst ((ns.drop y).map V.int ++ (ns.take y).map V.int)) p3=some (.lst ((ns.drop y ++ ns.take y).map V.int)):=by rw [upd_same,List.map_append]
          generalize upd (upd (upd H7 p1 (.lst ((ns.drop y).map V.int))) p2 (.lst ((ns.take y).map V.int))) p3 (.lst ((ns.drop y).map V.int ++ (ns.take y).map V.int))=H8 at s10 k10 hp10
          refine ⟨p3,_,rfl,.inl ⟨.of hp10,fun t ht=>?_⟩⟩
          have k11:Kp l H7 (upd H8 t (.tup ((ns.drop y ++ ns.take y).map V.int))):=k10.trans (Kp.new ht)
          have s11:=s10.new (o:=.tup ((ns.drop y ++ ns.take y).map V.int)) ht
          have ht11:upd H8 t (.tup ((ns.drop y ++ ns.take y).map V.int)) t=some (.tup ((ns.drop y ++ ns.take y).map V.int)):=upd_same
          have ntl:t ≠ l:=(s10.ne ht).symm
          have hR11:=k11 _ _ npr hR7
          have hL11:=k11 _ _ npl hL7
          have hd11:=hd7.kp k11
          generalize upd H8 t (.tup ((ns.drop y ++ ns.take y).map V.int))=H9 at k11 s11 ht11 hR11 hL11 hd11
          have hyl:ys.length=i:=by rw [<- hd.len,List.length_map];exact hr1
          refine ⟨pr,_,_,rfl,rfl,hR11,small1000 (by omega),?_⟩
          have ntr:t ≠ pr:=fun e=>by rw [e,hR11] at ht11;cases ht11
          have k12:∀ c o,c ≠ pr->H9 c=some o->upd H9 pr (.lst (ys ++ [.ref t])) c=some o:=fun c o hc ho=>by rw [upd_ne hc];exact ho
          have s12:Sta l b H (upd H9 pr (.lst (ys ++ [.ref t]))):=by
            obtain ⟨k,x',e,ok⟩:=s11
            exact ⟨fun c o hc hco=>by rw [upd_ne (fun z=>by rw [z,hRn] at hco;cases hco)];exact k c o hc hco,x',by rw [upd_ne npr.symm];exact e,ok⟩
          refine ⟨s12,⟨_,_,rfl⟩,k12 _ _ nlr hL11,rs ++ [ns.drop y ++ ns.take y],_,upd_same,by rw [List.length_append,hr1];rfl,fun r' hr'=>?_,?_⟩
          · rcases List.mem_append.mp hr' with h | h
            · exact hr2 r' h
            · rw [List.mem_singleton.mp h]
              refine ⟨by rw [List.length_append,List.length_drop,List.length_take];omega,fun z hz=>?_⟩
              have hz':z ∈ ns:=by
                rcases List.mem_append.mp hz with h | h
                · exact List.mem_of_mem_drop h
                · exact List.mem_of_mem_take h
              have:=hb z hz'
              omega
          · rw [List.map_append]
            refine Dts.append (Dts_but k12 (fun xs hc=>?_) hd11) (Dts.cons (Dt.mkI ntl (k12 _ _ ntr ht11)) (Dts.nil _ _))
            rw [hR11] at hc;cases hc
        · obtain ⟨s6,⟨o6,o7,rfl⟩,hL6,rs,ys,hR6,hr1,hr2,hd⟩:=h
          refine ⟨_,rfl,pr,_,rfl,.inl ⟨.of hR6,fun ra hra=>?_⟩⟩
          exact q _ _ rs (s6.new hra) (Dt.tup (s6.ne hra).symm upd_same (hd.kp (Kp.new hra))) ⟨hr1,hr2⟩
    · have w2:wy=2 ∨ wy=3:=by
        have h0:¬ (V.int (wy:Int)=V.int 0):=fun e=>c (decide_eq_true e)
        have h1:¬ (V.int (wy:Int)=V.int 1):=fun e=>c2 (decide_eq_true e)
        have h0':wy ≠ 0:=fun e=>h0 (by rw [e];rfl)
        have h1':wy ≠ 1:=fun e=>h1 (by rw [e];rfl)
        omega
      refine ⟨_,rfl,(n:Int),rfl,lo62,hi62,?_⟩
      refine blk_range (lo:=0) (n:=n) (sz (by omega)) (fun i ys H3=>Sta l b H H3/\∃ rs:List (List Int),rs.length=i/\(∀ r ∈ rs,Mt.Row n 5 r)/\Dts l H3 (rs.map DI) ys)
        ⟨s2,[],rfl,by simp,Dts.nil _ _⟩ (fun i ys H3 h=>?_) rfl (fun i ys H3 hi h=>?_) (fun ys H3 h=>?_)
      · obtain ⟨_,rs,hr1,_,hd⟩:=h
        rw [<- hd.len,List.length_map];exact hr1
      · obtain ⟨s3,rs,hr1,hr2,hd⟩:=h
        refine ⟨_,rfl,(n:Int),rfl,lo62,hi62,?_⟩
        refine blk_range (lo:=0) (n:=n) (sz (by omega)) (fun j zs H4=>Sta l b H H4/\Kp l H3 H4/\∃ r:List Int,zs=r.map V.int/\r.length=j/\∀ z ∈ r,0 <= z/\z <= 5)
          ⟨s3,Kp.refl _ _,[],rfl,rfl,by simp⟩ (fun j zs H4 h=>?_) rfl (fun j zs H4 hj h=>?_) (fun zs H4 h=>?_)
        · obtain ⟨_,_,r,rfl,hr,_⟩:=h
          rw [List.length_map];exact hr
        · obtain ⟨s4,k4,r,rfl,hr,hz⟩:=h
          refine ⟨_,rfl,(by show 2 <= sizeLine;decide),fun p5 hp5=>?_⟩
          have s5:Sta l b H (upd H4 p5 (.lst [.int 2,.int 6])):=s4.new hp5
          have k5:Kp l H3 (upd H4 p5 (.lst [.int 2,.int 6])):=k4.trans (Kp.new hp5)
          obtain ⟨_,x5,hx5,ok5⟩:=id s5
          obtain ⟨m,hm,m1,m2⟩:∃ m:Int,atI ([.int 2,.int 6]:List V) ((wy:Int) - 2)=some (.int m)/\1 <= m/\m <= 6:=by
            rcases w2 with e | e
            · subst e;exact ⟨2,rfl,by decide,by decide⟩
            · subst e;exact ⟨6,rfl,by decide,by decide⟩
          refine ⟨_,rfl,_,_,rfl,rfl,p5,_,_,_,rfl,rfl,.of upd_same,hm,l,m,x5,b,rfl,hx5,ok5,m1,by omega,fun y x6 hy ok6=>?_⟩
          refine ⟨s5.go ok6,k5.trans Kp.at,r ++ [(y:Int)],by rw [List.map_append];rfl,by rw [List.length_append,hr];rfl,fun z hz'=>?_⟩
          rcases List.mem_append.mp hz' with h | h
          · exact hz z h
          · rw [List.mem_singleton.mp h];omega
        · obtain ⟨s4,k4,r,rfl,hr,hz⟩:=h
          intro p hp
          have s5:Sta l b H (upd H4 p (.lst (r.map V.int))):=s4.new hp
          refine ⟨p,_,rfl,.inl ⟨.of upd_same,fun t ht=>?_⟩⟩
          have kk:Kp l H3 (upd (upd H4 p (.lst (r.map V.int))) t (.tup (r.map V.int))):=(k4.trans (Kp.new hp)).trans (Kp.new ht)
          refine ⟨s5.new ht,rs ++ [r],by rw [List.length_append,hr1];rfl,fun r' hr'=>?_,?_⟩
          · rcases List.mem_append.mp hr' with h | h
            · exact hr2 r' h
            · rw [List.mem_singleton.mp h];exact ⟨hr,hz⟩
          · rw [List.map_append]
            exact (hd.kp kk).append (Dts.cons (Dt.mkI (s5.ne ht).symm upd_same) (Dts.nil _ _))
      · obtain ⟨s3,rs,hr1,hr2,hd⟩:=h
        exact fun p hp=>⟨p,_,rfl,.inl ⟨.of upd_same,fun ra hra=>fin rs ys H3 p ra s3 hr1 hr2 hd hp hra⟩⟩
end
end G
namespace G
open PySem PySem.Spec PyProof.Rows L2 Mt
def ok2 (d:PyData):Prop:=short d/\∀ ds,d=.tuple ds->∀ r ∈ ds,short r
section
variable {Pr:Hp->V->Prop} {m m1 m2:Nat} {ta tb te:TE} {σ:L2.St} {H:Hp}
end
end G
namespace L2
open PySem PySem.Spec PyProof.Rows
def TL (H:Hp):List (List Int)->List V->Prop
  | [],[]=>True
  | z :: zs,x :: xs=>(∃ a,x=.ref a/\H a=some (.tup (z.map V.int)))/\TL H zs xs
  | _,_=>False
theorem TL.dts {st:Addr} {H:Hp}:∀ {zs:List (List Int)} {xs:List V},TL H zs xs->(∀ a,V.ref a ∈ xs->a ≠ st)->Dts st H (zs.map DI) xs
  | [],[],_,_=>Dts.nil _ _
  | z :: zs,x :: xs,h,n=>by
    obtain ⟨a,e,q⟩:=h.1
    subst e
    exact Dts.cons (Dt.mkI (n a List.mem_cons_self) q) (TL.dts h.2 fun b hb=>n b (List.mem_cons_of_mem _ hb))
  | [],_ :: _,h,_=>h.elim
  | _ :: _,[],h,_=>h.elim
def adr:V->Nat
  | .ref a=>a
  | _=>0
theorem adr_le:∀ {xs:List V} {a:Addr},V.ref a ∈ xs->a <= (xs.map adr).sum
  | x :: xs,a,h=>by
    rw [List.map_cons,List.sum_cons]
    rcases List.mem_cons.mp h with e | e
    · subst e;exact Nat.le_add_right _ _
    · exact Nat.le_trans (adr_le e) (Nat.le_add_left _ _)
theorem eqvI2:∀ a b:List Int,PyData.eqvAll (a.map PyData.int) (b.map PyData.int)=decide (a=b)
  | [],[]=>by unfold PyData.eqvAll;rfl
  | [],y :: b=>by
    show PyData.eqvAll [] (.int y :: b.map PyData.int)=_
    unfold PyData.eqvAll;rfl
  | x :: a,[]=>by
    show PyData.eqvAll (.int x :: a.map PyData.int) []=_
    unfold PyData.eqvAll;rfl
  | x :: a,y :: b=>by
    show PyData.eqvAll (.int x :: a.map PyData.int) (.int y :: b.map PyData.int)=_
    unfold PyData.eqvAll
    rw [eqvI2 a b]
    unfold PyData.eqv
    by_cases h:x=y
    · subst h;simp
    · simp [h]
end L2
namespace L2
open PySem PySem.Spec PyProof.Rows
open PySem.W (KasT)
def Lv (n:Nat) {α:Type} (Pr:α->Prop):KasT α->Prop
  | .ret a=>Pr a
  | .ask i j k=>i < n/\j < n/\∀ b,Lv n Pr (k b)
theorem Lv.bind {n:Nat} {α β:Type} {Pr:α->Prop} {Pr':β->Prop} {f:α->KasT β}:∀ {t:KasT α},Lv n Pr t->(∀ a,Pr a->Lv n Pr' (f a))->Lv n Pr' (t.bind f)
  | .ret a,h,g=>g a h
  | .ask _ _ k,h,g=>⟨h.1,h.2.1,fun b=>Lv.bind (t:=k b) (h.2.2 b) g⟩
theorem Lv.ite {n:Nat} {α:Type} {Pr:α->Prop} {c:Prop} [Decidable c] {t u:KasT α} (h1:Lv n Pr t) (h2:Lv n Pr u):Lv n Pr (if c then t else u):=by
  by_cases h:c
  · rw [if_pos h];exact h1
  · rw [if_neg h];exact h2
theorem Lv.wp {n:Nat} {α:Type} {Pr:α->Prop} {cmp:Nat->Nat->(Bool->Shared->Prop)->Shared->Prop} {S:Shared->Prop} {Q:α->Shared->Prop}
    (hc:∀ i j C s,i < n->j < n->S s->(∀ b s',S s'->C b s')->cmp i j C s) (hq:∀ a s,Pr a->S s->Q a s):∀ {t:KasT α} {s:Shared},Lv n Pr t->S s->t.kasWp cmp Q s
  | .ret a,s,h,hs=>hq a s h hs
  | .ask i j k,s,h,hs=>hc i j _ s h.1 h.2.1 hs fun b s' hs'=>Lv.wp hc hq (t:=k b) (h.2.2 b) hs'
def Ord (n:Nat) (p:Array Nat):Prop:=p.toList.Perm (List.range n)
theorem Ord.lt {n:Nat} {p:Array Nat} (h:Ord n p) (hn:0 < n) (x:Nat):p.getD x 0 < n:=by
  by_cases hx:x < p.size
  · have e:p.getD x 0=p[x]:=by simp [Array.getD,hx]
    rw [e]
    have:p[x] ∈ p.toList:=by simp
    exact List.mem_range.mp (h.mem_iff.mp this)
  · have e:p.getD x 0=0:=by simp [Array.getD,hx]
    rw [e];exact hn
theorem Ord.rev {n i j:Nat} {p:Array Nat} (h:Ord n p):Ord n (PySem.W.kas_rev p i j):=(Array.perm_iff_toList_perm.mp (mirror_perm p i j _)).trans h
theorem Ord.bub {n i j:Nat} {p:Array Nat} (h:Ord n p):Ord n (bubble p i j):=(Array.perm_iff_toList_perm.mp (bubble_perm p i j)).trans h
section
variable {n:Nat} (hn:0 < n)
include hn
theorem lv_asc {p:Array Nat} (hp:Ord n p):∀ (f m:Nat),Lv n (fun _=>True) (PySem.W.kas_asc p f m)
  | 0,m=>trivial
  | f + 1,m=>⟨hp.lt hn _,hp.lt hn _,fun b=>Lv.ite trivial (lv_asc hp f (m + 1))⟩
theorem lv_desc:∀ (f:Nat) {p:Array Nat} (m q:Nat),Ord n p->Lv n (fun r=>Ord n r.1) (PySem.W.kas_desc f p m q)
  | 0,p,m,q,hp=>hp
  | f + 1,p,m,q,hp=>⟨hp.lt hn _,hp.lt hn _,fun b=>Lv.ite (Lv.ite (lv_desc f _ _ hp.rev) (lv_desc f _ _ hp)) ⟨hp.lt hn _,hp.lt hn _,fun d=>Lv.ite hp (lv_desc f _ _ hp)⟩⟩
theorem lv_tail3 {p:Array Nat} (hp:Ord n p) (a b:Nat):Lv n (fun r=>Ord n r.2) (PySem.W.kas_tail3 a b p):=by
  unfold PySem.W.kas_tail3
  exact Lv.bind (lv_asc hn hp.rev _ _) fun _ _=>hp.rev
theorem lv_descPart {p:Array Nat} (hp:Ord n p) (a b:Nat):Lv n (fun r=>Ord n r.2) (PySem.W.kas_descPart a b p):=by
  unfold PySem.W.kas_descPart
  exact Lv.bind (lv_desc hn _ _ _ hp) fun r hr=>Lv.ite (lv_tail3 hn hr.rev _ _) (lv_tail3 hn hr _ _)
theorem lv_count {p:Array Nat} (hp:Ord n p) (a:Nat):Lv n (fun r=>Ord n r.2) (PySem.W.kas_count a p):=by
  unfold PySem.W.kas_count
  exact Lv.bind (lv_asc hn hp _ _) fun m _=>Lv.ite hp (Lv.ite ⟨hp.lt hn _,hp.lt hn _,fun c=>Lv.ite hp (lv_descPart hn hp.rev _ _)⟩ (lv_descPart hn hp _ _))
theorem lv_place {p:Array Nat} (hp:Ord n p) (k:Nat):∀ (f l r:Nat),Lv n (fun _=>True) (PySem.W.kas_place p k f l r)
  | 0,l,r=>trivial
  | f + 1,l,r=>by
    unfold PySem.W.kas_place
    exact Lv.ite trivial ⟨hp.lt hn _,hp.lt hn _,fun c=>Lv.ite (lv_place hp k f _ _) (lv_place hp k f _ _)⟩
theorem lv_bin:∀ (f:Nat) {p:Array Nat} (k:Nat),Ord n p->Lv n (Ord n) (PySem.W.kas_bin f p k)
  | 0,p,k,hp=>hp
  | f + 1,p,k,hp=>Lv.bind (lv_place hn hp _ _ _ _) fun l _=>lv_bin f _ hp.bub
theorem lv_sort:Lv n (Ord n) (PySem.W.kas_sort n):=by
  unfold PySem.W.kas_sort
  have h0:Ord n (List.toArray (List.range n)):=List.Perm.refl _
  exact Lv.bind (lv_count hn h0 _) fun r hr=>Lv.ite (lv_bin hn _ _ hr) hr
end
end L2
namespace L2
open PySem PySem.Spec PyProof.Rows
section
variable {prog:Program} {w:World} {A:Around} {E:Value->Shared->Prop} {s:Shared}
def ItO (h:Heap) (it d:Addr) (i n ep:Nat) (a:Addr):Prop:=∃ (f:Bool) (ok ov:Value),PySem.W.KdxIt h it d i n ep ok ov a f
theorem items_next2 {it d a:Addr} {oa od:Obj} {i ep:Nat} {es:Array DictEntry} {en:DictEntry} {Q:Option Value->Shared->Prop} (hit:ItO s.heap it d i es.size ep a) (ha:s.heap.get? a=some oa) (hai:a ≠ it)
    (hod:s.heap.get? d=some od) (hdd:od.data=.dict es ep) (hx:es[i]?=some en)
    (hQ:∀ h',ItO h' it d (i + 1) es.size ep a->h'.get? s.heap.objs.size=some { cls:=.type "tuple",data:=.seq #[en.key,en.val] }->h'.objs.size=s.heap.objs.size + 1 ->
      (∀ b o,b ≠ it->s.heap.get? b=some o->h'.get? b=some o)->Q (some (.ref s.heap.objs.size)) { s with heap:=h' }):wpAny (model prog w) A (pyNext (.ref it)) Q E s:=by
  obtain ⟨hp,g,dr,tk,os⟩:=s
  obtain ⟨f,ok,ov,hit⟩:=hit
  have tI:Shared.TypeIs ⟨hp,g,dr,tk,os⟩ (.ref it) "dict_itemiterator":=⟨_,hit,rfl⟩
  unfold pyNext
  refine wpAny_bind (wpAny_attempt (wpAny_callSpecial?_slot (name:=Str.ofString "__next__") tI F.slot_dict_itemiterator_next (wpAny_call_entry F.slot_dict_itemiterator_next tI F.entry_dict_itemiterator_next ?_ (F.args_dict_itemiterator_next_1 _))))
  refine wpAny_bind (wpAny_pure (wpAny_bind (wpAny_bind ?_)))
  first | refine wpAny_bind (wpAny_typeNameOfWhole_itemiter tI (wpAny_pure (wpAny_bind (wpAny_fieldsOf hit rfl ?_)))) | refine wpAny_bind (wpAny_typeNameOf_itemiter tI (wpAny_pure (wpAny_bind (wpAny_fieldsOf hit rfl ?_))))
  have own:Builtin.Dict_items.ownsTuple "dict_itemiterator"=true:=by decide
  simp only [own,if_true]
  show wpAny _ _ (if (Value.ref d == Value.none)=true then _ else _) _ _ _
  rw [if_neg (show ¬ ((Value.ref d == Value.none)=true) from Bool.false_ne_true)]
  refine wpAny_bind (wpAny_pure (wpAny_bind (wpAny_dictEntries hod hdd ?_)))
  rw [if_neg (by simp)]
  refine wpAny_bind (wpAny_pure (wpAny_bind (wpAny_dictEpoch hod hdd ?_)))
  rw [if_neg (by simp)]
  refine wpAny_pure ?_
  simp only [show ¬ ((i:Int) < 0) from by omega,if_false,Int.toNat_natCast,hx]
  refine wpAny_bind ?_
  first | refine wpAny_bind (wpAny_typeNameOfWhole_itemiter tI (wpAny_pure (wpAny_bind (wpAny_isOneOf_itemiter tI ?_)))) | refine wpAny_bind (wpAny_typeNameOf_itemiter tI (wpAny_pure (wpAny_bind (wpAny_isOneOf_itemiter tI ?_))))
  show wpAny _ _ (setField (.ref it) 3 (rawInt ((i:Int) + 1)) >>= _) _ _ ⟨hp,g,dr,tk,os⟩
  refine wpAny_bind (wpAny_setField_rec hit (by simp) fun h1 he1 b1=>?_)
  replace b1:Heap.SameBut it hp h1:=b1
  replace he1:PySem.W.KdxIt h1 it d (i + 1) es.size ep ok ov a f:=by
    have e:((i + 1:Nat):Int)=(i:Int) + 1:=by omega
    unfold PySem.W.KdxIt;rw [e];simpa [rawInt] using he1
  have tI1:Shared.TypeIs ⟨h1,g,dr,tk,os⟩ (.ref it) "dict_itemiterator":=⟨_,he1,rfl⟩
  refine wpAny_bind (wpAny_holding (wpAny_bind (wpAny_isOneOf_itemiter tI1 (wpAny_bind (wpAny_isOneOf_itemiter tI1 ?_)))))
  show wpAny _ _ (Builtin.Dict_items.pairFromOwner (.ref it) 6 en.key en.val) _ _ ⟨h1,g,dr,tk,os⟩
  unfold Builtin.Dict_items.pairFromOwner
  refine wpAny_bind (wpAny_newTuple ?_)
  have z1:h1.objs.size=hp.objs.size:=b1.1
  have hil:it < hp.objs.size:=Heap.lt_size hit
  obtain ⟨h2,eh2⟩:∃ h2,h2=h1.push { cls:=.type "tuple",data:=.seq #[en.key,en.val] }:=⟨_,rfl⟩
  have he2:PySem.W.KdxIt h2 it d (i + 1) es.size ep ok ov a f:=by rw [eh2];exact Heap.get?_push_of_some _ he1
  have t2:h2.get? hp.objs.size=some { cls:=.type "tuple",data:=.seq #[en.key,en.val] }:=by rw [eh2,<- z1];exact Heap.get?_push_size _ rfl
  have z2:h2.objs.size=hp.objs.size + 1:=by rw [eh2,Heap.size_push,z1]
  have k2:∀ b o,b ≠ it->hp.get? b=some o->h2.get? b=some o:=fun b o hb e=>by rw [eh2];exact Heap.get?_push_of_some _ (b1.extBut b o hb e)
  show wpAny _ _ (Builtin.Dict_items.ownedTupleIsFree (.ref it) >>= _) _ _ ⟨h1.push { cls:=.type "tuple",data:=.seq #[en.key,en.val] },g,dr,tk,os⟩
  rw [z1,<- eh2]
  have a2:h2.get? a=some oa:=k2 a oa hai ha
  refine wpAny_bind ?_
  unfold Builtin.Dict_items.ownedTupleIsFree
  refine wpAny_bind (wpAny_field he2 rfl (x:=rawInt a) rfl ?_)
  show wpAny _ _ (loadIfAlive ((a:Int).toNat) >>= _) _ _ _
  rw [Int.toNat_natCast]
  refine wpAny_bind (PySem.W.kdx_alive a2 ?_)
  simp only [Option.isNone_some,Bool.false_eq_true,if_false]
  refine wpAny_bind (wpAny_field he2 rfl (x:=.bool f) rfl ?_)
  have fin:∀ h3:Heap,PySem.W.KdxIt h3 it d (i + 1) es.size ep ok ov a true->Heap.SameBut it h2 h3->Q (some (.ref hp.objs.size)) ⟨h3,g,dr,tk,os⟩:=fun h3 he3 b3 =>
    hQ h3 ⟨true,ok,ov,he3⟩ (b3.extBut _ _ (Nat.ne_of_gt hil) t2) (by show h3.objs.size=hp.objs.size + 1;rw [b3.1,z2]) fun b o hb e=>b3.extBut b o hb (k2 b o hb e)
  cases f with
  | true =>
    rw [if_neg (show ¬ ((Value.bool true != Value.bool true)=true) from Bool.false_ne_true)]
    refine wpAny_pure ?_
    simp only [Bool.false_eq_true,if_false]
    exact wpAny_pure (wpAny_pure ⟨_,rfl,wpAny_pure (fin h2 he2 (Heap.SameBut.refl _ _))⟩)
  | false =>
    rw [if_pos (show (Value.bool false != Value.bool true)=true from rfl)]
    refine wpAny_bind (wpAny_setField_rec he2 (by simp) fun h3 he3 b3=>?_)
    refine wpAny_pure ?_
    simp only [Bool.false_eq_true,if_false]
    exact wpAny_pure (wpAny_pure ⟨_,rfl,wpAny_pure (fin h3 he3 b3)⟩)
theorem items_end2 {it d a:Addr} {i ep:Nat} {od:Obj} {es:Array DictEntry} {Q:Option Value->Shared->Prop} (hh:A.handled=none) (hit:ItO s.heap it d i es.size ep a)
    (hod:s.heap.get? d=some od) (hdd:od.data=.dict es ep) (hge:es.size <= i) (hQ:∀ h',Heap.ExtBut it s.heap h'->Q none { s with heap:=h' }):wpAny (model prog w) A (pyNext (.ref it)) Q E s:=by
  obtain ⟨f,ok,ov,hit⟩:=hit
  have tI:s.TypeIs (.ref it) "dict_itemiterator":=⟨_,hit,rfl⟩
  unfold pyNext
  refine wpAny_bind (wpAny_attempt (wpAny_callSpecial?_slot (name:=Str.ofString "__next__") tI F.slot_dict_itemiterator_next (wpAny_call_entry F.slot_dict_itemiterator_next tI F.entry_dict_itemiterator_next ?_ (F.args_dict_itemiterator_next_1 _))))
  refine wpAny_bind (wpAny_pure (wpAny_bind (wpAny_bind ?_)))
  first | refine wpAny_bind (wpAny_typeNameOfWhole_itemiter tI (wpAny_pure (wpAny_bind (wpAny_fieldsOf hit rfl ?_)))) | refine wpAny_bind (wpAny_typeNameOf_itemiter tI (wpAny_pure (wpAny_bind (wpAny_fieldsOf hit rfl ?_))))
  have own:Builtin.Dict_items.ownsTuple "dict_itemiterator"=true:=by decide
  simp only [own,if_true]
  show wpAny _ _ (if (Value.ref d == Value.none)=true then _ else _) _ _ s
  rw [if_neg (show ¬ ((Value.ref d == Value.none)=true) from Bool.false_ne_true)]
  refine wpAny_bind (wpAny_pure (wpAny_bind (wpAny_dictEntries hod hdd ?_)))
  rw [if_neg (by simp)]
  refine wpAny_bind (wpAny_pure (wpAny_bind (wpAny_dictEpoch hod hdd ?_)))
  rw [if_neg (by simp)]
  refine wpAny_pure ?_
  simp only [show ¬ ((i:Int) < 0) from by omega,if_false,Int.toNat_natCast,Array.getElem?_eq_none hge]
  refine wpAny_bind ?_
  first | refine wpAny_bind (wpAny_typeNameOfWhole_itemiter tI (wpAny_pure ?_)) | refine wpAny_bind (wpAny_typeNameOf_itemiter tI (wpAny_pure ?_))
  show wpAny _ _ (setField (.ref it) 2 .none >>= _) _ _ s
  refine wpAny_bind (wpAny_setField hit rfl (by simp) ?_)
  show wpAny _ _ (newExc (.type "StopIteration") [] >>= _) _ _ _
  refine wpAny_bind ?_
  simp only [newExc,newTuple]
  refine wpAny_bind (wpAny_newObj_type ?_ (by size_fits))
  refine wpAny_bind (m:=firstArgMember _ _) (wpAny_of_eq (a:=Value.none) (by first | rfl | (simp only [firstArgMember];rfl)) ?_)
  refine wpAny_newObj_type ?_ (by size_fits)
  simp only [raiseNew]
  refine wpAny_bind (wpAny_handled ?_)
  rw [show A.in1.handled=none from hh]
  refine wpAny_bind (wpAny_pure (wpAny_throw ?_))
  refine wpAny_bind (wpAny_isInstance (T:="StopIteration") (b:=true) ⟨_,Heap.get?_push_size _ rfl,rfl⟩ isSubtype_stop ?_)
  exact wpAny_pure (hQ _ (((Heap.SameBut.update ..).extBut.push _).push _))
def ItS (h:Heap) (it d S:Addr) (i n ep:Nat):Prop:=(i=0/\∃ ok ov,IsItemIter h it d 0 n ep ok ov) ∨ ∃ a oa,ItO h it d i n ep a/\h.get? a=some oa/\a ≠ it/\a ≠ S
theorem ItS.keep {h h':Heap} {it d S:Addr} {i n ep:Nat} (x:ItS h it d S i n ep) (k:∀ b o,b ≠ S->h.get? b=some o->h'.get? b=some o) (hI:it ≠ S):ItS h' it d S i n ep:=by
  rcases x with ⟨e,ok,ov,q⟩ | ⟨a,oa,⟨f,ok,ov,q⟩,h1,h2,h3⟩
  · exact .inl ⟨e,ok,ov,k _ _ hI q⟩
  · exact .inr ⟨a,oa,⟨f,ok,ov,k _ _ hI q⟩,k _ _ h3 h1,h2,h3⟩
def Prs (h:Heap) (es:Array DictEntry) (as:List Addr):Prop:=∀ (j:Nat) (a:Addr),as[j]?=some a->∃ en,es[j]?=some en/\h.get? a=some { cls:=.type "tuple",data:=.seq #[en.key,en.val] }
theorem items_loop {R:Result->Shared->Prop} {S I d:Addr} {od:Obj} {es:Array DictEntry} {ep:Nat} (hh:A.handled=none) (hSI:S ≠ I) (hSd:d ≠ S) (hId:d ≠ I) (hdd:od.data=.dict es ep) (hn:es.size <= sizeLine) (res:Value) (h0:Heap)
    (hR:∀ h' tk acc c as,(∀ b o,b ≠ S->b ≠ I->h0.get? b=some o->h'.get? b=some o)->h'.get? S=some { cls:=.type "list",dict:=none,data:=.seq acc c,slots:=#[] }->as.length=es.size->as.Nodup->(∀ a ∈ as,h0.objs.size <= a)->Prs h' es as->acc.toList=as.map Value.ref->R (.ok (.ret res)) { s with heap:=h',toks:=tk }) :
    ∀ (k i:Nat) (h:Heap) (tk:Nat) (acc:Array Value) (c:Nat) (as:List Addr),es.size - i=k->i <= es.size->S < h.objs.size->h0.objs.size <= h.objs.size->ItS h I d S i es.size ep->h.get? d=some od->h.get? S=some { cls:=.type "list",dict:=none,data:=.seq acc c,slots:=#[] } ->
    as.length=i->as.Nodup->(∀ a ∈ as,h0.objs.size <= a/\a ≠ S/\a ≠ I)->Prs h es as->acc.toList=as.map Value.ref->(∀ b o,b ≠ S->b ≠ I->h0.get? b=some o->h.get? b=some o) ->
    codeAny (model prog w) A (.builtin "list.extend.loop" ⟨[.ref S,.ref I,res],[]⟩) R { s with heap:=h,toks:=tk }:=by
  intro k
  induction k with
  | zero =>
    intro i h tk acc c as hk hi hS hz st hd hSo hl hnd hab hp hac kp
    have e:i=es.size:=by omega
    subst e
    refine codeAny_builtin F.entry_extend_loop ?_
    rw [Around.under_plainId F.plain_extend_loop _]
    show wpAny _ A.in1 (pyNext (.ref I) >>= _) _ _ _
    have fin:∀ h',Heap.ExtBut I h h'->R (.ok (.ret res)) { s with heap:=h',toks:=tk }:=fun h' x=>by
      refine hR h' tk acc c as (fun b o h1 h2 q=>x b o h2 (kp b o h1 h2 q)) (x _ _ hSI hSo) hl hnd (fun a ha=>(hab a ha).1) (fun j a ha=>?_) hac
      obtain ⟨en,e1,e2⟩:=hp j a ha
      exact ⟨en,e1,x _ _ (hab a (List.mem_of_getElem? ha)).2.2 e2⟩
    rcases st with ⟨e,ok,ov,q⟩ | ⟨a,oa,q,_,_,_⟩
    · exact wpAny_bind (itemsR_end (s:={ s with heap:=h,toks:=tk }) (A:=A.in1) hh q hd hdd (Nat.le_of_eq e) fun h' x=>wpAny_pure (fin h' x))
    · exact wpAny_bind (items_end2 (s:={ s with heap:=h,toks:=tk }) (A:=A.in1) hh q hd hdd (Nat.le_refl _) fun h' x=>wpAny_pure (fin h' x))
  | succ k ih =>
    intro i h tk acc c as hk hi hS hz st hd hSo hl hnd hab hp hac kp
    have hlt:i < es.size:=by omega
    have hx:es[i]?=some es[i]:=Array.getElem?_eq_getElem hlt
    refine codeAny_builtin F.entry_extend_loop ?_
    rw [Around.under_plainId F.plain_extend_loop _]
    show wpAny _ A.in1 (pyNext (.ref I) >>= _) _ _ _
    have iI:I < h.objs.size:=by
      rcases st with ⟨_,_,_,q⟩ | ⟨_,_,⟨_,_,_,q⟩,_⟩
      · exact Heap.lt_size q
      · exact Heap.lt_size q
    have go:∀ h' h'':Heap,ItS h' I d S (i + 1) es.size ep->h'.get? h.objs.size=some { cls:=.type "tuple",data:=.seq #[es[i].key,es[i].val] }->h'.objs.size=h.objs.size + 1->(∀ b o,b ≠ I->h.get? b=some o->h'.get? b=some o) ->
        (∀ b o,b ≠ S->h'.get? b=some o->h''.get? b=some o)->h''.objs.size=h'.objs.size->(∃ c',h''.get? S=some { cls:=.type "list",dict:=none,data:=.seq (acc.push (.ref h.objs.size)) c',slots:=#[] }) ->
        codeAny (model prog w) A (.builtin "list.extend.loop" ⟨[.ref S,.ref I,res],[]⟩) R { s with heap:=h'',toks:=tk }:=fun h' h'' st' nw zz x y zy ⟨c',hS'⟩=>by
      have nS:h.objs.size ≠ S:=Nat.ne_of_gt hS
      have nI:h.objs.size ≠ I:=Nat.ne_of_gt iI
      refine ih (i + 1) h'' tk (acc.push (.ref h.objs.size)) c' (as ++ [h.objs.size]) (by omega) hlt (by rw [zy,zz];exact Nat.lt_succ_of_lt hS) (by rw [zy,zz];exact Nat.le_succ_of_le hz) (st'.keep y hSI.symm) (y _ _ hSd (x _ _ hId hd)) hS' (by rw [List.length_append,hl];rfl) ?_ (fun a ha=>?_) (fun j a ha=>?_) ?_ (fun b o h1 h2 q=>y _ _ h1 (x _ _ h2 (kp b o h1 h2 q)))
      · rw [List.nodup_append]
        refine ⟨hnd,by simp,fun a ha b hb=>?_⟩
        rw [List.mem_singleton.mp hb]
        obtain ⟨j,hj⟩:=List.mem_iff_getElem?.mp ha
        obtain ⟨en,_,e2⟩:=hp j a hj
        exact Nat.ne_of_lt (Heap.lt_size e2)
      · rcases List.mem_append.mp ha with q | q
        · exact hab a q
        · rw [List.mem_singleton.mp q];exact ⟨hz,nS,nI⟩
      · rw [List.getElem?_append] at ha
        split at ha
        · obtain ⟨en,e1,e2⟩:=hp j a ha
          have hm:=hab a (List.mem_of_getElem? ha)
          exact ⟨en,e1,y _ _ hm.2.1 (x _ _ hm.2.2 e2)⟩
        · rename_i hj
          have hj0:j - as.length=0:=by
            cases hjj:j - as.length with
            | zero=>rfl
            | succ m=>rw [hjj] at ha;cases ha
          rw [hj0] at ha
          cases ha
          have ej:j=i:=by omega
          subst ej
          exact ⟨es[j],hx,y _ _ nS nw⟩
      · rw [Array.toList_push,hac,List.map_append];rfl
    have step:∀ h':Heap,ItS h' I d S (i + 1) es.size ep->h'.get? h.objs.size=some { cls:=.type "tuple",data:=.seq #[es[i].key,es[i].val] }->h'.objs.size=h.objs.size + 1->(∀ b o,b ≠ I->h.get? b=some o->h'.get? b=some o) ->
        wpAny (model prog w) A.in1 (updateSeq S (·.push (.ref h.objs.size))) (fun _ s'=>codeAny (model prog w) A (.builtin "list.extend.loop" ⟨[.ref S,.ref I,res],[]⟩) R s') (fun e s'=>R (.error e) s') { s with heap:=h',toks:=tk }:=fun h' st' nw zz x=>by
      have hS':=x _ _ hSI hSo
      have hal:acc.size=i:=by rw [<- Array.length_toList,hac,List.length_map,hl]
      refine wpAny_updateSeq hS' rfl (go h' _ st' nw zz x (fun b o hb q=>(Heap.get?_update_other _ _ (Ne.symm hb)).trans q) (Heap.size_update ..) ⟨_,Heap.get?_update_self _ hS' rfl⟩) (by rw [hal];omega) (by show (acc.push _).size <= sizeLine + 1;rw [Array.size_push,hal];omega)
    rcases st with ⟨e,ok,ov,q⟩ | ⟨a,oa,q,ha,hai,haS⟩
    · subst e
      refine wpAny_bind (itemsR_item (s:={ s with heap:=h,toks:=tk }) (A:=A.in1) q hd hdd hx fun h' z1 nw zz x=>?_)
      show wpAny _ A.in1 (updateSeq S (·.push (.ref h.objs.size)) >>= _) _ _ _
      exact wpAny_bind (wpAny_mono (step h' (.inr ⟨h.objs.size,_,⟨false,_,_,z1⟩,nw,Nat.ne_of_gt iI,Nat.ne_of_gt hS⟩) nw zz x) (fun _ s' r=>wpAny_pure ⟨plainId_quiet F.plain_extend_loop _,r⟩) fun _ _ r=>r)
    · refine wpAny_bind (items_next2 (s:={ s with heap:=h,toks:=tk }) (A:=A.in1) q ha hai hd hdd hx fun h' z1 nw zz x=>?_)
      show wpAny _ A.in1 (updateSeq S (·.push (.ref h.objs.size)) >>= _) _ _ _
      exact wpAny_bind (wpAny_mono (step h' (.inr ⟨a,oa,z1,x _ _ hai ha,hai,haS⟩) nw zz x) (fun _ s' r=>wpAny_pure ⟨plainId_quiet F.plain_extend_loop _,r⟩) fun _ _ r=>r)
end
end L2
namespace L2
open PySem PySem.Spec PyProof.Rows
section
variable {prog:Program} {w:World} {A:Around} {E:Value->Shared->Prop} {s:Shared} {v d:Addr} {od:Obj} {es:Array DictEntry} {ep:Nat}
theorem items_extend {R:Result->Shared->Prop} (hh:A.handled=none) (hv:s.heap.IsItemsView v d) (hod:s.heap.get? d=some od) (hdd:od.data=.dict es ep) (hn:es.size <= sizeLine) {S:Addr} (hSv:S ≠ v) (hSd:d ≠ S) (res:Value) (hS:s.heap.get? S=some { cls:=.type "list",data:=.seq #[] 0 })
    (hR:∀ h' tk acc c as,(∀ b o,b ≠ S->s.heap.get? b=some o->h'.get? b=some o)->h'.get? S=some { cls:=.type "list",dict:=none,data:=.seq acc c,slots:=#[] }->as.length=es.size->as.Nodup->(∀ a ∈ as,s.heap.objs.size <= a)->Prs h' es as->acc.toList=as.map Value.ref->R (.ok (.ret res)) { s with heap:=h',toks:=tk }) :
    wpAny (model prog w) A.in1 (Builtin.List.listExtendWith (.ref S) (.ref v) res) (fun fin s'=>match fin with | .done f=>R (.ok f) s' | .again c'=>c'.quiet=true/\codeAny (model prog w) A c' R s') (fun e s'=>R (.error e) s') s:=by
  have lS:S < s.heap.objs.size:=Heap.lt_size hS
  have ld:d < s.heap.objs.size:=Heap.lt_size hod
  have run:∀ (h:Heap) (c1 tk:Nat),(∀ b o,b ≠ S->(s.heap.push { cls:=.type "dict_itemiterator",data:=.fields #[.none,.bool false,.ref d,.int 0 0,.int es.size 0,.int ep 0,.none,.none] }).get? b=some o->h.get? b=some o)->s.heap.objs.size <= h.objs.size ->
      h.get? S=some { cls:=.type "list",data:=.seq #[] c1 }->codeAny (model prog w) A (.builtin "list.extend.loop" ⟨[.ref S,.ref s.heap.objs.size,res],[]⟩) R { s with heap:=h,toks:=tk }:=by
    intro h c1 tk hk hz hS1
    have hI:=hk s.heap.objs.size _ (Nat.ne_of_gt lS) (Heap.get?_push_size _ rfl)
    exact items_loop (s:=s) hh (Nat.ne_of_lt lS) hSd (Nat.ne_of_lt ld) hdd hn res s.heap (fun h' tk' acc c as k1 k2 k3 k4 k5 k6 k7=>hR h' tk' acc c as (fun b o hb e=>k1 b o hb (Nat.ne_of_lt (Heap.lt_size e)) e) k2 k3 k4 k5 k6 k7)
      es.size 0 h tk #[] c1 [] (Nat.sub_zero _) (Nat.zero_le _) (Heap.lt_size hS1) hz (.inl ⟨rfl,.none,.none,hI⟩) (hk d _ hSd (Heap.get?_push_of_some _ hod)) hS1 rfl List.nodup_nil (fun _ ha=>nomatch ha) (fun j a hj=>by simp at hj) rfl (fun b o hb _ e=>hk b o hb (Heap.get?_push_of_some _ e))
  unfold Builtin.List.listExtendWith
  refine wpAny_bind (wpAny_typeOf (T:="dict_items") hv.typeIs ?_)
  have c1:Builtin.List.listSameRef (.ref S) (.ref v)=false:=by simp [Builtin.List.listSameRef,hSv]
  have c2:(Value.type "dict_items" == Value.type "list")=false:=by decide
  have c3:(Value.type "dict_items" == Value.type "tuple")=false:=by decide
  simp only [c1,c2,c3,Bool.or_false,Bool.false_eq_true,if_false]
  refine wpAny_bind (itemsR_iter hv hod hdd ?_)
  have hS1:=Heap.get?_push_of_some { cls:=.type "dict_itemiterator",data:=.fields #[.none,.bool false,.ref d,.int 0 0,.int es.size 0,.int ep 0,.none,.none] } hS
  refine wpAny_bind (wpAny_holding (PySem.W.kdx_hint (let ⟨o,ho,hc,_⟩:=hv;⟨o,Heap.get?_push_of_some _ ho,hc⟩) ?_))
  refine wpAny_ite_split (fun _=>?_) (fun _=>wpAny_pure ⟨plainId_quiet F.plain_extend_loop _,run _ 0 _ (fun b o _ e=>e) (by show s.heap.objs.size <= (s.heap.push _).objs.size;rw [Heap.size_push];exact Nat.le_succ _) hS1⟩)
  refine wpAny_bind (wpAny_rule (wpAny_bind ?_))
  show wpAny _ _ (updateSeq S (·.push .none) >>= fun _=>updateSeq S (·.pop)) _ _ _
  refine wpAny_bind (wpAny_updateSeq hS1 rfl ?_)
  have hS2:=Heap.get?_update_self (Obj.mapSeq (·.push Value.none)) hS1 rfl
  refine wpAny_updateSeq (hz:=by seq_fits) hS2 rfl ?_
  have hS3:=Heap.get?_update_self (Obj.mapSeq (·.pop)) hS2 rfl
  refine wpAny_pure ⟨plainId_quiet F.plain_extend_loop _,run _ _ _ (fun b o hb e=>(Heap.get?_update_other _ _ (Ne.symm hb)).trans ((Heap.get?_update_other _ _ (Ne.symm hb)).trans e)) ?_ hS3⟩
  show s.heap.objs.size <= (((s.heap.push _).update S _).update S _).objs.size
  rw [Heap.size_update,Heap.size_update,Heap.size_push];exact Nat.le_succ _
theorem items_collect {Q:List Value->Shared->Prop} (hh:A.handled=none) (hv:s.heap.IsItemsView v d) (hod:s.heap.get? d=some od) (hdd:od.data=.dict es ep) (hn:es.size <= sizeLine)
    (h:∀ (h':Heap) (tk:Nat) (as:List Addr),s.heap.objs.size < h'.objs.size->(∀ b o,s.heap.get? b=some o->h'.get? b=some o)->as.length=es.size->as.Nodup->(∀ a ∈ as,s.heap.objs.size <= a)->Prs h' es as->Q (as.map Value.ref) { s with heap:=h',toks:=tk }) :
    wpAny (model prog w) A (collect (.ref v)) Q E s:=by
  have lv:v < s.heap.objs.size:=let ⟨_,ho,_⟩:=hv;Heap.lt_size ho
  have ld:d < s.heap.objs.size:=Heap.lt_size hod
  unfold collect
  refine wpAny_bind (wpAny_runValue (codeAny_builtin F.entry_proto_collect ?_))
  rw [Around.under_plainId F.plain_proto_collect _]
  show wpAny _ A.in1 (newList [] >>= fun l=>again (.builtin "list.__iadd__" ⟨[l,.ref v],[]⟩)) _ _ s
  refine wpAny_bind (wpAny_newObj_type (wpAny_pure ⟨plainId_quiet F.plain_list_iadd _,codeAny_builtin F.entry_list_iadd ?_⟩))
  rw [Around.under_plainId F.plain_list_iadd _]
  have hS1:(s.heap.push { cls:=.type "list",data:=.seq ([]:List Value).toArray }).get? s.heap.objs.size=some { cls:=.type "list",data:=.seq #[] }:=Heap.get?_push_size _ rfl
  have hz1:(s.heap.push { cls:=.type "list",data:=.seq ([]:List Value).toArray }).objs.size=s.heap.objs.size + 1:=Heap.size_push ..
  show wpAny _ A.in1 (Builtin.List.listExtendWith (.ref s.heap.objs.size) (.ref v) (.ref s.heap.objs.size)) _ _ _
  have key:=items_extend (prog:=prog) (w:=w) (A:=A) (s:={ s with heap:=s.heap.push { cls:=.type "list",data:=.seq ([]:List Value).toArray } }) (es:=es) (ep:=ep)
    (R:=fun (q:Result) (s':Shared)=>∃ (h':Heap) (tk:Nat) (acc':Array Value) (c':Nat) (as:List Addr),q=.ok (.ret (.ref s.heap.objs.size))/\s'={ s with heap:=h',toks:=tk } /\
      (∀ b o,s.heap.get? b=some o->h'.get? b=some o)/\h'.get? s.heap.objs.size=some { cls:=.type "list",dict:=none,data:=.seq acc' c',slots:=#[] }/\as.length=es.size/\as.Nodup/\(∀ a ∈ as,s.heap.objs.size <= a)/\Prs h' es as/\acc'.toList=as.map Value.ref)
    hh (let ⟨o,ho,x⟩:=hv;⟨o,Heap.get?_push_of_some _ ho,x⟩) (Heap.get?_push_of_some _ hod) hdd hn (Nat.ne_of_gt lv) (Nat.ne_of_lt ld) (.ref s.heap.objs.size) hS1
    (fun h' tk acc' c' as hk hS' hl hnd hab hG hacc=>⟨h',tk,acc',c',as,rfl,rfl,fun b o e=>hk b o (Nat.ne_of_lt (Heap.lt_size e)) (Heap.get?_push_of_some _ e),hS',hl,hnd,(fun a ha=>Nat.le_trans (by rw [hz1];exact Nat.le_succ _) (hab a ha)),hG,hacc⟩)
  have out:∀ (h':Heap) (tk:Nat) (acc':Array Value) (c':Nat) (as:List Addr),(∀ b o,s.heap.get? b=some o->h'.get? b=some o)->h'.get? s.heap.objs.size=some { cls:=.type "list",dict:=none,data:=.seq acc' c',slots:=#[] }->as.length=es.size->as.Nodup->(∀ a ∈ as,s.heap.objs.size <= a)->Prs h' es as->acc'.toList=as.map Value.ref ->
      wpAny (model prog w) A (do
        let o <- load s.heap.objs.size
        match o.data with
        | .seq xs _=>pure xs.toList
        | _=>unsupported "internal:collect") Q E { s with heap:=h',toks:=tk }:=fun h' tk acc' c' as k1 k2 k3 k4 k5 k6 k7=>by
    refine wpAny_bind (wpAny_load k2 (wpAny_pure ?_))
    show Q acc'.toList _
    rw [k7]
    exact h h' tk as (Heap.lt_size k2) k1 k3 k4 k5 k6
  refine wpAny_mono key (fun fin s' x=>?_) fun e s' x=>?_
  · cases fin with
    | done f =>
      obtain ⟨h',tk,acc',c',as,e,rfl,k1,k2,k3,k4,k5,k6,k7⟩:=x
      cases e
      exact out h' tk acc' c' as k1 k2 k3 k4 k5 k6 k7
    | again c1 =>
      refine ⟨x.1,codeAny_mono x.2 fun q s2 y=>?_⟩
      obtain ⟨h',tk,acc',c',as,rfl,rfl,k1,k2,k3,k4,k5,k6,k7⟩:=y
      exact out h' tk acc' c' as k1 k2 k3 k4 k5 k6 k7
  · obtain ⟨_,_,_,_,_,e',_⟩:=x
    cases e'
end
section
variable {prog:Program} {w:World} {A:Around} {E:Value->Shared->Prop} {s:Shared}
def IntT (h:Heap) (v:Value):Prop:=∃ (a:Addr) (us:List Value) (ns:List Int),v=.ref a/\IsTup h a us.toArray/\IntsAre us ns
theorem ints_get:∀ {us:List Value} {ns:List Int} {j:Nat} {v:Value},IntsAre us ns->us[j]?=some v->∃ n t,v=Value.int n t
  | _,_,0,v,.cons _ _ _,e=>by cases e;exact ⟨_,_,rfl⟩
  | _,_,j + 1,v,.cons _ _ t,e=>ints_get (j:=j) t (by simpa using e)
theorem IntT.eq {p q:Value} (h1:IntT s.heap p) (h2:IntT s.heap q) (hu:A.units < cLine):∃ k,SeqAt.EqAt A s p q k:=by
  obtain ⟨a,us,ns,rfl,⟨oa,ha,hca,na,hda⟩,i1⟩:=h1
  obtain ⟨b,vs,ms,rfl,⟨ob,hb,hcb,nb,hdb⟩,i2⟩:=h2
  by_cases hab:a=b
  · subst hab;exact ⟨true,SeqAt.EqAt.same _⟩
  · refine ⟨_,SeqAt.EqAt.of_refs hab (SeqAt.RcAt.tuples (e:=fun j=>match us[j]?,vs[j]? with | some (.int x _),some (.int y _)=>x == y | _,_=>false) ⟨oa,ha,hca,na,hda⟩ ⟨ob,hb,hcb,nb,hdb⟩ hu fun j h1 h2=>?_)⟩
    have h1':j < us.length:=by simpa using h1
    have h2':j < vs.length:=by simpa using h2
    obtain ⟨x,t,ex⟩:=ints_get i1 (List.getElem?_eq_getElem h1')
    obtain ⟨y,u,ey⟩:=ints_get i2 (List.getElem?_eq_getElem h2')
    have e1:us.toArray[j]=.int x t:=by rw [List.getElem_toArray];exact ex
    have e2:vs.toArray[j]=.int y u:=by rw [List.getElem_toArray];exact ey
    rw [e1,e2,List.getElem?_eq_getElem h1',List.getElem?_eq_getElem h2',ex,ey]
    exact SeqAt.EqAt.int_int x t y u
theorem IntT.lt {p q:Value} (h1:IntT s.heap p) (h2:IntT s.heap q) (hu:A.units < cLine) {Q:Value->Shared->Prop} (hq:∀ b,Q (.bool b) s):wpAny (model prog w) A (compareOp .Lt p q) Q E s:=by
  obtain ⟨a,us,ns,rfl,ta,i1⟩:=h1
  obtain ⟨b,vs,ms,rfl,tb,i2⟩:=h2
  exact HT.lt_tupInts ta tb i1 i2 hu (hq _)
theorem pair_lt {x y:Addr} {p1 p2 q1 q2:Value} {n k:Nat} {ox oy:Obj} {Q:Bool->Shared->Prop} (hx:s.heap.get? x=some ox) (dx:ox.data=.seq #[p1,q1] n) (hy:s.heap.get? y=some oy) (dy:oy.data=.seq #[p2,q2] k)
    (h1:IntT s.heap p1) (h2:IntT s.heap p2) (h3:IntT s.heap q1) (h4:IntT s.heap q2) (hu:A.units < cLine) (hq:∀ b,Q b s):wpAny (model prog w) A (keyLt' (tuples' false) (.ref x) (.ref y)) Q E s:=by
  refine PySem.W.kat_lt hx dx hy dy ?_
  obtain ⟨k1,e1⟩:=IntT.eq (A:=A) h1 h2 hu
  obtain ⟨k2,e2⟩:=IntT.eq (A:=A) h3 h4 hu
  have one:∀ {p q:Value} {i:Nat},IntT s.heap p->IntT s.heap q->wpAny (model prog w) A (oneLt' (false && i == 0) p q) Q (fun _ _=>False) s:=fun {p q i} a b=>by
    rw [Bool.false_and]
    exact PySem.W.kat_one p q (IntT.lt a b hu fun b=>hq b)
  refine PySem.W.kat_cons (e1 prog w _ _ (PySem.W.kat_go (fun _=>PySem.W.kat_yes (PySem.W.kat_cons (e2 prog w _ _ (PySem.W.kat_go (fun _=>PySem.W.kat_yes (PySem.W.kat_nil (hq _))) fun _=>PySem.W.kat_no (one h3 h4))))) fun _=>PySem.W.kat_no (one h1 h2)))
end
end L2
namespace L2
open PySem PySem.Spec PyProof.Rows
section
variable {prog:Program} {w:World} {A:Around} {E:Value->Shared->Prop} {s:Shared}
theorem range_getD:∀ vs:List Value,(List.range vs.length).map (fun i=>vs.getD i Value.none)=vs:=fun vs=>by
  apply List.ext_getElem
  · simp
  · intro i h1 h2
    simp [h2]
theorem ord_vals {vs:List Value} {p:Array Nat} (h:Ord vs.length p):(p.toList.map fun i=>vs.getD i Value.none).Perm vs:=by
  have:=h.map (fun i=>vs.getD i Value.none)
  rw [range_getD] at this
  exact this
theorem sort_raw {B:Addr} {vs:List Value} {c:Nat} {P:PySem.Fin->Shared->Prop} (hB:s.heap.get? B=some (seqObj "list" vs.toArray c)) (h64:vs.length < 64)
    (hk:2 <= vs.length->∀ h1,(∀ b o,b ≠ B->s.heap.get? b=some o->h1.get? b=some o) ->
      wpAny (model prog w) A (keyKind' vs.toArray) (fun κ s'=>s'={ s with heap:=h1 }/\∀ i j C,i < vs.length->j < vs.length->(∀ b,C b { s with heap:=h1 })->PySem.W.kas_ask prog w A κ vs i j C { s with heap:=h1 }) (fun _ _=>False) { s with heap:=h1 })
    (hP:∀ h' vs' c',vs'.Perm vs->(∀ b o,b ≠ B->s.heap.get? b=some o->h'.get? b=some o)->h'.get? B=some (seqObj "list" (List.toArray vs') c')->P (.done (.ret .none)) { s with heap:=h' }):wpAny (model prog w) A (Builtin.«list.sort» ⟨[.ref B],[]⟩) P E s:=by
  obtain ⟨e1,hB1⟩:∃ e1,(s.heap.update B (Obj.mapSeq fun _=>(#[]:Array Value))).get? B=some (seqObj "list" #[] e1):=⟨_,get?_update_seq hB fun _=>#[]⟩
  have b1:=Heap.SameBut.update s.heap B (Obj.mapSeq fun _=>(#[]:Array Value))
  obtain ⟨h3,eh3⟩:∃ h3,h3=((s.heap.update B (Obj.mapSeq fun _=>(#[]:Array Value))).push (seqObj "tuple" vs.toArray 0)).push (seqObj "list" #[] 0):=⟨_,rfl⟩
  have hB3:h3.get? B=some (seqObj "list" #[] e1):=by rw [eh3];exact Heap.get?_push_of_some _ (Heap.get?_push_of_some _ hB1)
  have k3:∀ b o,b ≠ B->s.heap.get? b=some o->h3.get? b=some o:=fun b o hb q=>by rw [eh3];exact Heap.get?_push_of_some _ (Heap.get?_push_of_some _ (b1.extBut b o hb q))
  rw [list_sort_plain]
  refine wpAny_bind (listItems_at hB rfl (wpAny_bind (listUpdate_at hB rfl ?_ (by rw [List.size_toArray,sizeLine_eq];omega) (Nat.zero_le _))))
  refine wpAny_bind (seqEpoch_at hB1 rfl (wpAny_bind (wpAny_newTuple ?_ (by show vs.length <= _;rw [sizeLine_eq];omega))))
  refine wpAny_bind (wpAny_newList (wpAny_holding ?_) (Nat.zero_le _))
  show wpAny (model prog w) A _ P E { s with heap:=((s.heap.update B (Obj.mapSeq fun _=>(#[]:Array Value))).push (seqObj "tuple" vs.toArray 0)).push (seqObj "list" #[] 0) }
  rw [<- eh3]
  dsimp only
  have fin:∀ (st:SortSt) (out:List Value),(arrOf st).map (·.2)=List.toArray out->out.length=vs.length->failedOf st=none->out.Perm vs ->
      wpAny (model prog w) A (do
        let sorted:=(arrOf st).map (·.2)
        let touched:=(<- seqEpoch B) != e1
        Builtin.List.listUpdate (.ref B) fun _=>sorted
        if let some e:=failedOf st then rule "list.sort.comparison-raised";throw e
        if touched then rule "list.sort.modified";raiseError "ValueError" "list modified during sort"
        ret .none) P E { s with heap:=h3 }:=fun st out ho hl hf hp=>by
    rw [ho]
    have sz:(List.toArray out).size <= sizeLine:=by rw [List.size_toArray,hl,sizeLine_eq];omega
    obtain ⟨c2,hc2⟩:∃ c2,(h3.update B (Obj.mapSeq fun _=>List.toArray out)).get? B=some (seqObj "list" (List.toArray out) c2):=⟨_,get?_update_seq hB3 fun _=>List.toArray out⟩
    refine wpAny_bind (seqEpoch_at hB3 rfl (wpAny_bind (listUpdate_at hB3 rfl ?_ (Nat.zero_le _) (Nat.le_trans sz (Nat.le_succ _)))))
    rw [hf]
    simp only [bne_self_eq_false,Bool.false_eq_true,if_false]
    exact wpAny_pure (hP _ out c2 hp (fun b o hb q=>(Heap.SameBut.update h3 B _).extBut b o hb (k3 b o hb q)) hc2)
  by_cases h2:2 <= vs.length
  · have hn2:¬ vs.toArray.size < 2:=by rw [List.size_toArray];omega
    rw [if_neg hn2,if_neg hn2]
    refine wpAny_bind (wpAny_mono (hk h2 h3 k3) (fun κ s0 hh=>?_) fun _ _ x=>x.elim)
    obtain ⟨rfl,ask⟩:=hh
    have tree:(PySem.W.kas_sort vs.length).kasWp (PySem.W.kas_ask prog w A κ vs) (fun p s'=>s'={ s with heap:=h3 }/\Ord vs.length p) { s with heap:=h3 } :=
      Lv.wp (S:=fun s'=>s'={ s with heap:=h3 }) (Pr:=Ord vs.length) (fun i j C s' hi hj hs hC=>by subst hs;exact ask i j C hi hj fun b=>hC b _ rfl) (fun p s' hp hs=>⟨hs,hp⟩) (lv_sort (by omega)) rfl
    refine wpAny_bind (wpAny_mono (PySem.W.kat_run (Q:=fun st' s'=>s'={ s with heap:=h3 }/\∃ p:Array Nat,Ord vs.length p/\p.size=vs.length/\arrOf st'=p.map (PySem.W.kas_item (vs.toArray.zip vs.toArray))/\failedOf st'=none) rfl h2 h64 (fun p' st' s' a1 a2 a3 a4=>⟨a4.1,p',a4.2,a1,a2,a3⟩) tree) ?_ fun _ _ e=>e)
    rintro ⟨⟨⟩,st'⟩ s' ⟨rfl,p,hp,hps,har,hf⟩
    dsimp only
    exact fin st' _ (PySem.W.kat_snds rfl har) (by rw [List.length_map,Array.length_toList,hps]) hf (ord_vals hp)
  · have hn2:vs.toArray.size < 2:=by rw [List.size_toArray];omega
    rw [if_pos hn2,if_pos hn2]
    refine wpAny_bind (wpAny_pure (wpAny_bind ?_))
    rw [StateT.run_pure]
    refine wpAny_pure ?_
    exact fin _ vs (by
      show ((vs.toArray.zip vs.toArray).map (·.2))=vs.toArray
      apply Array.toList_inj.mp
      simp [List.map_snd_zip]) rfl rfl (List.Perm.refl _)
end
end L2
namespace L2
open PySem PySem.Spec PyProof.Rows
theorem perm_map_inv {α β:Type} {f:α->β}:∀ {l:List β} {m:List α},l.Perm (m.map f)->∃ m':List α,m'.Perm m/\l=m'.map f
  | [],m,h=>by
    have e:m.map f=[]:=h.nil_eq.symm
    rw [List.map_eq_nil_iff] at e
    exact ⟨[],by rw [e],rfl⟩
  | b :: l,m,h=>by
    have hb:b ∈ m.map f:=h.mem_iff.mp List.mem_cons_self
    obtain ⟨x,hx,e⟩:=List.mem_map.mp hb
    obtain ⟨p,q,em⟩:=List.append_of_mem hx
    subst em e
    have h2:(f x :: l).Perm (f x :: (p ++ q).map f):=h.trans (by
      rw [List.map_append,List.map_cons,List.map_append]
      exact List.perm_middle)
    obtain ⟨m',h3,e3⟩:=perm_map_inv (m:=p ++ q) h2.cons_inv
    exact ⟨x :: m',(h3.cons x).trans List.perm_middle.symm,by rw [e3];rfl⟩
def PrL (H:Hp):List (List Key × V)->List V->Prop
  | [],[]=>True
  | (k,x) :: kvs,y :: ys=>(∃ p ka,y=.ref p/\H p=some (.tup [.ref ka,x])/\H ka=some (.tup (k.map kV)))/\PrL H kvs ys
  | _,_=>False
theorem PrL.mk {H:Hp}:∀ {L:List (Addr × (List Key × V))},(∀ t ∈ L,∃ ka,H t.1=some (.tup [.ref ka,t.2.2])/\H ka=some (.tup (t.2.1.map kV)))->PrL H (L.map (·.2)) (L.map fun t=>V.ref t.1)
  | [],_=>trivial
  | (a,(k,x)) :: L,h=>⟨let ⟨ka,e1,e2⟩:=h _ List.mem_cons_self;⟨a,ka,rfl,e1,e2⟩,PrL.mk fun t ht=>h t (List.mem_cons_of_mem _ ht)⟩
def ViewO (v d:Addr):HO:=.ext fun h=>h.get? v=some { cls:=.type "dict_items",data:=.fields #[.ref d] }
section
variable {X:Cx} {pins:List (Addr × Obj)} {σ:St} {H:Hp} {s:Shared}
theorem Inv.lays {N:Hp} {h':Heap} {t':Nat} (I:Inv X pins σ H s) (k:∀ b u,s.heap.get? b=some u->h'.get? b=some u)
    (ok:∀ b o,s.heap.objs.size <= b->N b=some o->ObjOk X.prog X.w (fun b=>if b < s.heap.objs.size then H b else N b) h' b o) :
    Inv X pins σ (fun b=>if b < s.heap.objs.size then H b else N b) { s with heap:=h',toks:=t' }:=by
  have lo:∀ b o,H b=some o->(fun b=>if b < s.heap.objs.size then H b else N b) b=some o:=fun b o e=>by
    show (if b < s.heap.objs.size then H b else N b)=some o
    rw [if_pos (I.hok.lt e)];exact e
  refine I.un ⟨fun b o q _ _ _=>k b o q,fun b o q _ _ _=>⟨o.slots,k b o q⟩,fun b o q n _=>?_,fun b o q _=>⟨o,k b o q⟩,fun b xs q=>lo b _ q,fun b o u q=>lo b _ q,fun b ps q=>⟨#[],(lo b _ q).trans (by simp)⟩⟩ fun b o e=>?_
  · show (if b < s.heap.objs.size then H b else N b)=none
    rw [if_pos (Heap.lt_size q)];exact n
  · by_cases hb:b < s.heap.objs.size
    · have e':H b=some o:=by
        have:(if b < s.heap.objs.size then H b else N b)=some o:=e
        rwa [if_pos hb] at this
      exact (I.hok b o e').stay (fun c v _ q=>k c v q) (fun c q=>lo c _ q) fun c xs q=>lo c _ q
    · have e':N b=some o:=by
        have:(if b < s.heap.objs.size then H b else N b)=some o:=e
        rwa [if_neg hb] at this
      exact ok b o (Nat.le_of_not_lt hb) e'
def tItems (td:TE):TE:=fun σ H Q=>td σ H fun x H1=>∃ d kvs,x=.ref d/\H1 d=some (.dT kvs)/\∀ v,H1 v=none->Q (.ref v) (upd H1 v (ViewO v d))
theorem pe_items {e:Expr} {apos cpos:Pos} {td:TE} (ho:PE X e td) (hbase:attributeBase e "items" X.env (eval e X.env)=eval e X.env:=by rfl) (hline:(apos.endLine == cpos.line)=true:=by rfl) :
    PE X (.Call (.Attribute e "items" apos) [] [] cpos) (tItems td):=by
  intro pins s σ H Q I h
  refine wpAny_Call_method0_late hbase hline (thn (ho pins s σ H _ I h) fun v s1 ⟨x,H1,I1,r1,d,kvs,ex,hd,q⟩=>?_)
  subst ex
  cases r1
  obtain ⟨_,hsys,_,_,o,_,_,hob,hex,_⟩:=(show ObjOk X.prog X.w H1 s1.heap d (.dT kvs) from I1.hok d _ hd)
  refine ⟨"dict","dict.items",PySem.F.plainAttrs_dict,PySem.F.slot_dict_items,PySem.F.type_dict_items,⟨o,hob,hex.1⟩,fun a e=>by cases e;exact ⟨o,hob,hex.2.1⟩,Calls.callWith_builtin rfl (PySem.evalArgs_none ?_)⟩
  refine itemsR_new hsys ⟨o,hob,hex.1⟩ ?_
  have hf:H1 s1.heap.objs.size=none:=I1.hok.fresh (Nat.le_refl _)
  refine ⟨.ref s1.heap.objs.size,_,I1.laid (t':=s1.toks) (o:=ViewO s1.heap.objs.size d) (fun b o e=>Heap.get?_push_of_some _ e) (Nat.le_refl _) ?_,rfl,q _ hf⟩
  exact ⟨Heap.get?_push_size _ rfl,⟨_,Heap.get?_push_size _ rfl⟩,fun h1 h2 a b=>b _ a⟩
theorem lookup_zip {β:Type}:∀ {as:List Addr} {bs:List β} {j:Nat} {a:Addr} {b:β},as.Nodup->as[j]?=some a->bs[j]?=some b->(as.zip bs).lookup a=some b
  | [],_,j,a,b,_,h,_=>by simp at h
  | x :: as,[],j,a,b,_,_,h=>by simp at h
  | x :: as,y :: bs,0,a,b,_,h1,h2=>by
    simp at h1 h2
    subst h1 h2
    rw [List.zip_cons_cons,List.lookup_cons];simp
  | x :: as,y :: bs,j + 1,a,b,hn,h1,h2=>by
    rw [List.nodup_cons] at hn
    have ha:a ∈ as:=List.mem_of_getElem? (show as[j]?=some a by simpa using h1)
    have ne:a ≠ x:=fun e=>hn.1 (e ▸ ha)
    rw [List.zip_cons_cons,List.lookup_cons,show (a == x)=false from beq_eq_false_iff_ne.mpr ne]
    exact lookup_zip hn.2 (by simpa using h1) (by simpa using h2)
theorem lookup_mem {β:Type}:∀ {as:List Addr} {bs:List β} {a:Addr} {b:β},(as.zip bs).lookup a=some b->∃ j:Nat,as[j]?=some a/\bs[j]?=some b
  | [],_,a,b,h=>by simp at h
  | x :: as,[],a,b,h=>by simp at h
  | x :: as,y :: bs,a,b,h=>by
    rw [List.zip_cons_cons,List.lookup_cons] at h
    by_cases e:a=x
    · subst e
      simp at h
      exact ⟨0,rfl,by rw [h];rfl⟩
    · rw [show (a == x)=false from beq_eq_false_iff_ne.mpr e] at h
      obtain ⟨j,h1,h2⟩:=lookup_mem h
      exact ⟨j + 1,by simpa using h1,by simpa using h2⟩
def rSortI:List V->Hp->VK->Prop:=fun xs H Q=>∃ v d kvs,xs=[.ref v]/\H v=some (ViewO v d)/\H d=some (.dT kvs)/\kvs.length < 64 /\
  (∀ kx ∈ kvs,(∃ ns:List Int,kx.1=ns.map Sum.inl)/\∃ (q:Addr) (ms:List Int),kx.2=.ref q/\H q=some (.tup (ms.map V.int))) /\
  ∀ (D:Addr) (ys:List V) (kvs':List (List Key × V)) (H':Hp),kvs'.Perm kvs->Same H H'->H' D=some (.lst ys)->PrL H' kvs' ys->Q (.ref D) H'
theorem kV_ints (ns:List Int):(ns.map (Sum.inl:Int->Key)).map kV=ns.map V.int:=by rw [List.map_map];rfl
theorem intT_of {P:Program} {w:World} {h:Heap} {q:Addr} {ms:List Int} (ok:HOk P w H h) (e:H q=some (.tup (ms.map V.int))):IntT h (.ref q):=by
  obtain ⟨_,its,r,t⟩:=(show ObjOk P w H h q (.tup (ms.map V.int)) from ok q _ e)
  exact ⟨q,its,ms,rfl,t,intsAre_of r⟩
theorem IntT.keep {h h':Heap} {v:Value} (x:IntT h v) (k:∀ a o,v=.ref a->h.get? a=some o->h'.get? a=some o):IntT h' v:=by
  obtain ⟨a,us,ns,e,⟨o,ho,r⟩,i⟩:=x
  exact ⟨a,us,ns,e,⟨o,k a o e ho,r⟩,i⟩
theorem katTups_of {h:Heap}:∀ {as:List Addr} {fs:List Value},(∀ (j:Nat) (a:Addr),as[j]?=some a->∃ f q,fs[j]?=some f/\h.get? a=some { cls:=.type "tuple",data:=.seq #[f,q] })->as.length=fs.length->PySem.W.KatTups h (as.map Value.ref) fs
  | [],[],_,_=>PySem.W.KatTups.nil
  | a :: as,f :: fs,hh,hl=>by
    obtain ⟨f',q,e1,e2⟩:=hh 0 a rfl
    cases e1
    exact PySem.W.KatTups.cons e2 rfl rfl rfl (katTups_of (fun j b hb=>by
      obtain ⟨f,q,e1,e2⟩:=hh (j + 1) b (by simpa using hb)
      exact ⟨f,q,by simpa using e1,e2⟩) (by simpa using hl))
  | [],_ :: _,_,hl=>by simp at hl
  | _ :: _,[],_,hl=>by simp at hl
theorem call_sortI (hc:X.calm=true) (hu:X.A.units + 64 < cLine):CallR X (.builtin "sorted") rSortI:=by
  intro pins s σ H xs us Q I rr h
  obtain ⟨v,d,kvs,rfl,hv,hd,h64,hkx,q⟩:=h
  cases rr with
  | cons r1 rr =>
    cases rr
    cases r1
    have hh:X.A.handled=none:=I.ok.hd hc
    obtain ⟨hvw,_,_⟩:=(show ObjOk X.prog X.w H s.heap v (ViewO v d) from I.hok v _ hv)
    obtain ⟨_,_,xs,rel,o,es,ep,ho,hex,hdd,hes,_⟩:=(show ObjOk X.prog X.w H s.heap d (.dT kvs) from I.hok d _ hd)
    have hsz:es.size=kvs.length:=by rw [<- Array.length_toList,hes,List.length_map];exact (Paired.length rel).symm
    have hent:∀ (j:Nat) (k:List Key) (x:V),kvs[j]?=some (k,x)->∃ (ka:Addr) (en:DictEntry),es[j]?=some en/\en.key=.ref ka/\H ka=some (.tup (k.map kV))/\RelV x en.val:=fun j k x hj=>by
      obtain ⟨qq,hq,f1,f2,f3⟩:=Paired.get rel hj
      refine ⟨qq.2.1,entryOfKey (tupleKind (mixKind X.prog X.w)) qq,?_,rfl,f2,f3⟩
      rw [<- Array.getElem?_toList,hes,List.getElem?_map,hq];rfl
    have sl:sizeLine=sizeLine:=rfl
    refine Calls.call_function_entry kind_sorted plain_sorted entry_sorted (args_sorted1 _) ?_
    unfold Builtin.«sorted»
    refine wpAny_bind (m:=checkCount "sorted" 1 1 _) (wpAny_pure ?_)
    refine wpAny_bind (items_collect (A:=X.A.in1) hh ⟨_,hvw,rfl,rfl⟩ ho hdd (by rw [hsz,sizeLine_eq];omega) fun h' tk as hzz k1 hl hnd hab hG=>?_)
    have hl':as.length=kvs.length:=by rw [hl,hsz]
    refine wpAny_bind (wpAny_newList ?_ (by rw [List.length_map,hl',sizeLine_eq];omega))
    have hB:(h'.push (seqObj "list" (as.map Value.ref).toArray 0)).get? h'.objs.size=some (seqObj "list" (as.map Value.ref).toArray 0):=Heap.get?_push_size _ rfl
    have k2:∀ b o,s.heap.get? b=some o->(h'.push (seqObj "list" (as.map Value.ref).toArray 0)).get? b=some o:=fun b o e=>Heap.get?_push_of_some _ (k1 b o e)
    have alt:∀ a ∈ as,a < h'.objs.size:=fun a ha=>by
      obtain ⟨j,hj⟩:=List.mem_iff_getElem?.mp ha
      obtain ⟨en,_,e2⟩:=hG j a hj
      exact Heap.lt_size e2
    show wpAny _ _ _ _ _ { s with heap:=h'.push (seqObj "list" (as.map Value.ref).toArray 0),toks:=tk }
    have nB:∀ b,b < h'.objs.size->b ≠ h'.objs.size:=fun b hb=>Nat.ne_of_lt hb
    refine wpAny_bind (wpAny_holding (wpAny_call_entry slot_list_sort ⟨_,hB,rfl⟩ entry_list_sort ?body (args_list_sort _)))
    have ent:∀ (j:Nat) (a:Addr),as[j]?=some a->∃ (en:DictEntry) (k:List Key) (x:V) (ka:Addr),es[j]?=some en/\kvs[j]?=some (k,x)/\h'.get? a=some { cls:=.type "tuple",data:=.seq #[en.key,en.val] }/\en.key=.ref ka/\H ka=some (.tup (k.map kV))/\RelV x en.val/\IntT s.heap en.key/\IntT s.heap en.val:=fun j a ha=>by
      obtain ⟨en,e1,e2⟩:=hG j a ha
      have hj:j < kvs.length:=by rw [<- hl'];exact (List.getElem?_eq_some_iff.mp ha).1
      obtain ⟨ka,en',e3,e4,e5,e6⟩:=hent j (kvs[j]).1 (kvs[j]).2 (List.getElem?_eq_getElem hj)
      rw [e1] at e3
      cases e3
      obtain ⟨⟨ns,en1⟩,qa,ms,en2,hq⟩:=hkx kvs[j] (List.getElem_mem hj)
      refine ⟨en,_,_,ka,e1,List.getElem?_eq_getElem hj,e2,e4,e5,e6,?_,?_⟩
      · rw [e4]
        rw [en1,kV_ints] at e5
        exact intT_of I.hok e5
      · rw [en2] at e6
        rw [show en.val=.ref qa from e6]
        exact intT_of I.hok hq
    have lt1:∀ b o,s.heap.get? b=some o->b ≠ h'.objs.size:=fun b o e=>Nat.ne_of_lt (Nat.lt_trans (Heap.lt_size e) hzz)
    refine sort_raw (s:={ s with heap:=h'.push (seqObj "list" (as.map Value.ref).toArray 0),toks:=tk }) (vs:=as.map Value.ref) hB (by rw [List.length_map,hl'];exact h64) (fun h2 h1 kp=>?_) (fun h5 vs' c' hp kp hB5=>?_)
    · have k4:∀ b o,s.heap.get? b=some o->h1.get? b=some o:=fun b o e=>kp b o (lt1 b o e) (k2 b o e)
      have ent1:∀ (j:Nat) (a:Addr),as[j]?=some a->∃ en:DictEntry,es[j]?=some en/\h1.get? a=some { cls:=.type "tuple",data:=.seq #[en.key,en.val] }/\IntT h1 en.key/\IntT h1 en.val:=fun j a ha=>by
        obtain ⟨en,k,x,ka,e1,_,e2,_,_,_,t1,t2⟩:=ent j a ha
        exact ⟨en,e1,kp _ _ (nB a (alt a (List.mem_of_getElem? ha))) (Heap.get?_push_of_some _ e2),t1.keep fun b o _ q=>k4 b o q,t2.keep fun b o _ q=>k4 b o q⟩
      have hlen:as.length=(es.toList.map DictEntry.key).length:=by rw [hl,List.length_map,Array.length_toList]
      rw [List.length_map] at h2
      refine PySem.W.kat_kind (T:=.type "tuple") (katTups_of (fs:=es.toList.map DictEntry.key) (fun j a ha=>?_) hlen) (by rw [<- hlen];omega) (fun f hf=>?_) (by decide) ⟨rfl,fun i j C hi hj hC=>?_⟩
      · obtain ⟨en,e1,e2,_,_⟩:=ent1 j a ha
        exact ⟨en.key,en.val,by rw [List.getElem?_map,Array.getElem?_toList,e1];rfl,e2⟩
      · obtain ⟨j,hj⟩:=List.mem_iff_getElem?.mp hf
        rw [List.getElem?_map,Array.getElem?_toList] at hj
        obtain ⟨en,e1,e2⟩:=Option.map_eq_some_iff.mp hj
        have hjl:j < as.length:=by rw [hl];exact (Array.getElem?_eq_some_iff.mp e1).1
        obtain ⟨en',e3,_,t1,_⟩:=ent1 j as[j] (List.getElem?_eq_getElem hjl)
        rw [e1] at e3
        cases e3
        rw [<- e2]
        obtain ⟨b,us,ns,eb,⟨ob,hob,hcb,_⟩,_⟩:=t1
        rw [eb]
        exact PySem.W.kitAt_ty _ _ ⟨ob,hob,hcb⟩
      · rw [List.length_map] at hi hj
        obtain ⟨en1,_,e2,t1,t2⟩:=ent1 i as[i] (List.getElem?_eq_getElem hi)
        obtain ⟨en2,_,e3,t3,t4⟩:=ent1 j as[j] (List.getElem?_eq_getElem hj)
        unfold PySem.W.kas_ask
        have g1:(as.map Value.ref).getD i Value.none=.ref as[i]:=by simp [hi]
        have g2:(as.map Value.ref).getD j Value.none=.ref as[j]:=by simp [hj]
        rw [g1,g2]
        exact pair_lt e2 rfl e3 rfl t1 t3 t2 t4 (by show X.A.units + 1 + 1 < cLine;omega) hC
    · refine ⟨_,rfl,wpAny_pure ⟨_,rfl,?_⟩⟩
      have eL:as.map Value.ref=(as.zip kvs).map fun t=>Value.ref t.1:=by
        have:(as.zip kvs).map (fun t=>Value.ref t.1)=((as.zip kvs).map Prod.fst).map Value.ref:=by rw [List.map_map];rfl
        rw [this,List.map_fst_zip (by omega)]
      rw [eL] at hp
      obtain ⟨L',hL,eL'⟩:=perm_map_inv hp
      have k5:∀ b o,s.heap.get? b=some o->h5.get? b=some o:=fun b o e=>kp b o (lt1 b o e) (k2 b o e)
      have mem:∀ t ∈ L',∃ j:Nat,as[j]?=some t.1/\kvs[j]?=some t.2:=fun t ht=>by
        have h1:=hL.mem_iff.mp ht
        obtain ⟨j,hj⟩:=List.mem_iff_getElem?.mp h1
        rw [List.getElem?_zip_eq_some] at hj
        exact ⟨j,hj.1,hj.2⟩
      obtain ⟨objs,eo⟩:∃ objs:List HO,objs=(es.toList.zip kvs).map fun t=>HO.tup [.ref (match t.1.key with | .ref a=>a | _=>0),t.2.2]:=⟨_,rfl⟩
      have oget:∀ (j:Nat) (en:DictEntry) (k:List Key) (x:V) (ka:Addr),es[j]?=some en->kvs[j]?=some (k,x)->en.key=.ref ka->objs[j]?=some (.tup [.ref ka,x]):=fun j en k x ka h1 h2 h3=>by
        have hz:(es.toList.zip kvs)[j]?=some (en,(k,x)):=List.getElem?_zip_eq_some.mpr ⟨by rw [Array.getElem?_toList];exact h1,h2⟩
        rw [eo,List.getElem?_map,hz]
        show some (HO.tup [.ref (match en.key with | .ref a=>a | _=>0),x])=_
        rw [h3]
      have J:=I.lays (N:=fun b=>if b=h'.objs.size then some (.lst (L'.map fun t=>V.ref t.1)) else (as.zip objs).lookup b) (h':=h5) (t':=tk) k5 (fun b o hb e=>?_)
      · refine ⟨.ref h'.objs.size,_,J,rfl,q _ _ _ _ ?_ (fun b o e=>?_) ?_ (PrL.mk (L:=L') fun t ht=>?_)⟩
        · have:=hL.map Prod.snd
          rw [List.map_snd_zip (by omega)] at this
          exact this
        · show (if b < s.heap.objs.size then H b else _)=some o
          rw [if_pos (I.hok.lt e)];exact e
        · show (if h'.objs.size < s.heap.objs.size then H h'.objs.size else (if h'.objs.size=h'.objs.size then _ else _))=_
          rw [if_neg (Nat.not_lt_of_le (Nat.le_of_lt hzz)),if_pos rfl]
        · obtain ⟨j,h1,h2⟩:=mem t ht
          obtain ⟨en,k,x,ka,e1,e2,_,e4,e5,_⟩:=ent j t.1 h1
          rw [h2] at e2
          have ht2:t.2=(k,x):=Option.some.inj e2
          have hm:=List.mem_of_getElem? h1
          refine ⟨ka,?_,?_⟩
          · show (if t.1 < s.heap.objs.size then H t.1 else (if t.1=h'.objs.size then _ else (as.zip objs).lookup t.1))=_
            rw [if_neg (Nat.not_lt_of_le (hab _ hm)),if_neg (nB _ (alt _ hm)),ht2]
            exact lookup_zip hnd h1 (oget j en k x ka e1 (by rw [h2,ht2]) e4)
          · show (if ka < s.heap.objs.size then H ka else _)=_
            rw [if_pos (I.hok.lt e5),ht2];exact e5
      · by_cases hbB:b=h'.objs.size
        · rw [if_pos hbB] at e
          cases e
          have hv':∀ L:List (Addr × (List Key × V)),Vals (L.map fun t=>V.ref t.1) (L.map fun t=>Value.ref t.1):=fun L=>by
            induction L with
            | nil=>exact .nil
            | cons t L ih=>exact .cons rfl ih
          refine ⟨?_,L'.map (fun t=>Value.ref t.1),c',hv' L',?_⟩
          · rw [List.length_map,hL.length_eq,List.length_zip,sizeLine_eq];omega
          · rw [hbB,hB5,eL']
        · rw [if_neg hbB] at e
          obtain ⟨j,h1,h2⟩:=lookup_mem e
          obtain ⟨en,k,x,ka,e1,e2,e3,e4,e5,e6,_⟩:=ent j b h1
          rw [oget j en k x ka e1 e2 e4] at h2
          cases h2
          refine ⟨by show 2 <= sizeLine;decide,[en.key,en.val],.cons ?_ (.cons e6 .nil),⟨_,kp _ _ hbB (Heap.get?_push_of_some _ e3),rfl,_,rfl⟩⟩
          exact e4
end
end L2
namespace L2
open PySem PySem.Spec PyProof.Rows
section
variable {K:PySem.W.Frag} {σ0:St} {te:TE} {H:Hp} {F:List V->Hp->Prop}
theorem blk_list2 {a:Addr} {xs:List V} (hn:xs.length <= sizeLine) (Pv:Nat->List V->Hp->Prop) (h0:Pv 0 [] H) (hl:∀ i ys H,Pv i ys H->ys.length=i) (hq:∀ i ys H,i <= xs.length->Pv i ys H->SqL K H a xs) (hσ:σ0[0]?=some none/\σ0[1]?=some none)
    (hs:∀ i ys H x,xs[i]?=some x->Pv i ys H->∃ r y z,x=.ref r/\SqT K H r [y,z]/\te ((σ0.set 0 (some y)).set 1 (some z)) H fun u H'=>Pv (i + 1) (ys ++ [u]) H') (hd:∀ ys H,Pv xs.length ys H->F ys H) :
    Blk (Itl K a) σ0 (gTup K 2 (gCons (gName 0) (gCons (gName 1) gNil))) tTrue te H F:=by
  refine ⟨fun i m ys H=>m=xs.length - i/\i <= xs.length/\Pv i ys H,⟨xs.length,by simp,Nat.zero_le _,h0⟩,?_⟩
  rintro i m ys H2 ⟨rfl,hi,p⟩
  have q:=hq i ys H2 hi p
  refine ⟨by rw [hl i ys H2 p];omega,?_⟩
  by_cases hlt:i < xs.length
  · refine .inr ⟨⟨xs,xs[i],q,by simp [hlt]⟩,fun y H'=>Pv (i + 1) (ys ++ [y]) H',fun _=>False,fun y H' q=>⟨xs.length - (i + 1),by omega,rfl,hlt,q⟩,fun _ q=>q.elim,fun x H3 y=>?_⟩
    obtain ⟨rfl,y⟩:=y
    obtain ⟨r,y1,z1,rfl,hr,ht⟩:=hs i ys _ x (y xs q) p
    exact ⟨r,[y1,z1],rfl,hr,rfl,y1,[z1],rfl,z1,[],rfl,rfl,wk2 hσ _ _,ht⟩
  · have e:i=xs.length:=by omega
    subst e
    exact .inl ⟨⟨xs,q,Nat.le_refl _⟩,hd ys H2 p⟩
end
theorem canLayI':∀ ns:List Int,PyData.canLayAll0 (ns.map PyData.int)=true
  | []=>rfl
  | n :: ns=>by
    show PyData.canLayAll0 (.int n :: ns.map PyData.int)=true
    unfold PyData.canLayAll0
    rw [canLayI' ns]
    first | rfl | simp [PyData.canLay0]
theorem depthI':∀ ns:List Int,PyData.depthAll (ns.map PyData.int) <= 1
  | []=>by first | decide | simp [PyData.depthAll]
  | n :: ns=>by
    have:=depthI' ns
    show PyData.depthAll (.int n :: ns.map PyData.int) <= 1
    unfold PyData.depthAll
    have h:PyData.depth (.int n) <= 1:=by first | decide | simp [PyData.depth]
    omega
theorem layI (ns:List Int):PyData.canLay0 (DI ns)=true/\PyData.depth (DI ns) <= 2:=by
  refine ⟨?_,?_⟩
  · show PyData.canLay0 (.tuple (ns.map PyData.int))=true
    unfold PyData.canLay0
    exact canLayI' ns
  · have:=depthI' ns
    show PyData.depth (.tuple (ns.map PyData.int)) <= 2
    unfold PyData.depth
    omega
theorem shapedI' (ns:List Int):SeqAt.shaped (DI ns)=true:=by
  unfold SeqAt.shaped
  rw [Bool.and_eq_true]
  exact ⟨(layI ns).1,decide_eq_true (by have:=(layI ns).2;omega)⟩
theorem canLayR:∀ zs:List (List Int),PyData.canLayAll0 (zs.map DI)=true
  | []=>rfl
  | z :: zs=>by
    show PyData.canLayAll0 (DI z :: zs.map DI)=true
    unfold PyData.canLayAll0
    rw [canLayR zs,(layI z).1];rfl
theorem depthR:∀ zs:List (List Int),PyData.depthAll (zs.map DI) <= 2
  | []=>by first | decide | simp [PyData.depthAll]
  | z :: zs=>by
    have:=depthR zs
    have h:=(layI z).2
    show PyData.depthAll (DI z :: zs.map DI) <= 2
    unfold PyData.depthAll
    omega
theorem shapedR (zs:List (List Int)):SeqAt.shaped (PyData.tuple (zs.map DI))=true:=by
  unfold SeqAt.shaped
  rw [Bool.and_eq_true]
  refine ⟨?_,decide_eq_true ?_⟩
  · show PyData.canLay0 (.tuple (zs.map DI))=true
    unfold PyData.canLay0
    exact canLayR zs
  · have:=depthR zs
    show PyData.depth (.tuple (zs.map DI)) <= 64
    unfold PyData.depth
    omega
theorem eqvI (a b:List Int):PyData.eqv (DI a) (DI b)=decide (a=b):=by unfold DI PyData.eqv;exact eqvI2 a b
theorem eqvR2:∀ a b:List (List Int),PyData.eqvAll (a.map DI) (b.map DI)=decide (a=b)
  | [],[]=>by unfold PyData.eqvAll;rfl
  | [],y :: b=>by
    show PyData.eqvAll [] (DI y :: b.map DI)=_
    unfold PyData.eqvAll;rfl
  | x :: a,[]=>by
    show PyData.eqvAll (DI x :: a.map DI) []=_
    unfold PyData.eqvAll;rfl
  | x :: a,y :: b=>by
    show PyData.eqvAll (DI x :: a.map DI) (DI y :: b.map DI)=_
    unfold PyData.eqvAll
    rw [eqvR2 a b,eqvI]
    by_cases h:x=y
    · subst h;simp
    · simp [h]
theorem eqvR (a b:List (List Int)):PyData.eqv (PyData.tuple (a.map DI)) (PyData.tuple (b.map DI))=decide (a=b):=by unfold PyData.eqv;exact eqvR2 a b
theorem eqR_dec {H:Hp} {x y:V} {a b:List (List Int)} {l:Addr} {Q:VK} (hx:Dt l H (PyData.tuple (a.map DI)) x) (hy:Dt l H (PyData.tuple (b.map DI)) y) (q:Q (.bl (decide (a=b))) H):rEqD x y H Q:=by
  refine ⟨l,PyData.tuple (a.map DI),PyData.tuple (b.map DI),hx,hy,shapedR a,shapedR b,?_⟩
  rw [eqvR];exact q
end L2
namespace Mq
open PySem PySem.Spec L2 Mt Md
abbrev TabQ:=List (List Int × Rat)
def addQ:TabQ->List Int->Rat->TabQ
  | [],k,x=>[(k,x)]
  | p :: D,k,x=>if p.1=k then (p.1,p.2 + x) :: D else p :: addQ D k x
def valQ:TabQ->List Int->Rat
  | [],_=>0
  | p :: D,k=>if p.1=k then p.2 else valQ D k
def linQ:TabQ->(List Int->Rat)->Rat
  | [],_=>0
  | p :: D,φ=>p.2 * φ p.1 + linQ D φ
theorem linQ_cons (p:List Int × Rat) (D:TabQ) (φ:List Int->Rat):linQ (p :: D) φ=p.2 * φ p.1 + linQ D φ:=rfl
theorem linQ_add (k:List Int) (x:Rat) (φ:List Int->Rat):∀ D:TabQ,linQ (addQ D k x) φ=linQ D φ + x * φ k
  | []=>by show x * φ k + 0=0 + x * φ k;grind
  | p :: D=>by
    unfold addQ
    split
    · rename_i e
      rw [linQ_cons,linQ_cons]
      show (p.2 + x) * φ p.1 + _=_
      rw [e];grind
    · rw [linQ_cons,linQ_cons,linQ_add k x φ D];grind
theorem linQ_perm {φ:List Int->Rat} {T T':TabQ} (h:T.Perm T'):linQ T φ=linQ T' φ:=by
  induction h with
  | nil=>rfl
  | cons p _ ih=>rw [linQ_cons,linQ_cons,ih]
  | swap p q l=>rw [linQ_cons,linQ_cons,linQ_cons,linQ_cons];grind
  | trans _ _ h1 h2=>rw [h1,h2]
theorem linQ_sum (φ:List Int->Rat):∀ T:TabQ,linQ T φ=sumQ (T.map fun p=>φ p.1 * p.2)
  | []=>rfl
  | p :: T=>by rw [linQ_cons,linQ_sum φ T,List.map_cons];show _=φ p.1 * p.2 + _;grind
theorem keys_addQ {k:List Int} {x:Rat}:∀ {D:TabQ} {p:List Int × Rat},p ∈ addQ D k x->p.1=k ∨ ∃ q ∈ D,q.1=p.1
  | [],p,h=>by
    unfold addQ at h
    rw [List.mem_singleton.mp h];exact .inl rfl
  | q :: D,p,h=>by
    unfold addQ at h
    split at h
    · rcases List.mem_cons.mp h with z | z
      · subst z;exact .inr ⟨q,List.mem_cons_self,rfl⟩
      · exact .inr ⟨p,List.mem_cons_of_mem _ z,rfl⟩
    · rcases List.mem_cons.mp h with z | z
      · subst z;exact .inr ⟨_,List.mem_cons_self,rfl⟩
      · rcases keys_addQ z with y | ⟨r,hr,e⟩
        · exact .inl y
        · exact .inr ⟨r,List.mem_cons_of_mem _ hr,e⟩
theorem len_addQ (k:List Int) (x:Rat):∀ D:TabQ,(addQ D k x).length <= D.length + 1
  | []=>by unfold addQ;simp
  | p :: D=>by
    unfold addQ
    split
    · simp
    · have:=len_addQ k x D
      rw [List.length_cons,List.length_cons];omega
def NDq (D:TabQ):Prop:=(D.map (·.1)).Nodup
theorem nd_addQ {k:List Int} {x:Rat}:∀ {D:TabQ},NDq D->NDq (addQ D k x)
  | [],_=>by unfold addQ NDq;simp
  | p :: D,h=>by
    unfold NDq at h
    rw [List.map_cons,List.nodup_cons] at h
    unfold addQ
    split
    · unfold NDq;rw [List.map_cons,List.nodup_cons];exact h
    · rename_i e
      unfold NDq;rw [List.map_cons,List.nodup_cons]
      refine ⟨fun z=>?_,nd_addQ h.2⟩
      obtain ⟨q,hq,eq⟩:=List.mem_map.mp z
      rcases keys_addQ hq with y | ⟨r,hr,er⟩
      · exact e (by rw [<- eq,y])
      · exact h.1 (List.mem_map.mpr ⟨r,hr,by rw [er,eq]⟩)
def FrAt (H:Hp) (x:Rat) (v:V):Prop:=∃ q,v=.ref q/\H q=some (.tup ((fr x).map V.int))
theorem FrAt.same {H H':Hp} {x:Rat} {v:V} (h:∀ a xs,H a=some (.tup xs)->H' a=some (.tup xs)):FrAt H x v->FrAt H' x v:=fun ⟨q,e,a⟩=>⟨q,e,h _ _ a⟩
def QE (H:Hp):TabQ->List (List Key × V)->Prop
  | [],[]=>True
  | p :: T,kv :: kvs=>kv.1=kI p.1/\FrAt H p.2 kv.2/\QE H T kvs
  | _,_=>False
theorem QE.mono {H H':Hp} (h:∀ a xs,H a=some (.tup xs)->H' a=some (.tup xs)):∀ {T:TabQ} {kvs:List (List Key × V)},QE H T kvs->QE H' T kvs
  | [],[],_=>trivial
  | _ :: _,_ :: _,⟨a,b,c⟩=>⟨a,b.same h,QE.mono h c⟩
  | [],_ :: _,h'=>h'.elim
  | _ :: _,[],h'=>h'.elim
theorem QE.len {H:Hp}:∀ {T:TabQ} {kvs:List (List Key × V)},QE H T kvs->kvs.length=T.length
  | [],[],_=>rfl
  | _ :: _,_ :: _,⟨_,_,c⟩=>by rw [List.length_cons,List.length_cons,QE.len c]
  | [],_ :: _,h'=>h'.elim
  | _ :: _,[],h'=>h'.elim
theorem QE.get {H:Hp}:∀ {T:TabQ} {kvs:List (List Key × V)} {i:Nat} {k:List Key} {x:V},QE H T kvs->kvs[i]?=some (k,x)->∃ p,T[i]?=some p/\k=kI p.1/\FrAt H p.2 x
  | p :: _,_ :: _,0,_,_,⟨a,b,_⟩,h=>by cases h;exact ⟨p,rfl,a,b⟩
  | _ :: _,_ :: _,i + 1,_,_,⟨_,_,c⟩,h=>QE.get (i:=i) c (by simpa using h)
  | [],[],_,_,_,_,h=>by simp at h
  | [],_ :: _,_,_,_,h',_=>h'.elim
  | _ :: _,[],_,_,_,h',_=>h'.elim
theorem QE.val {H:Hp} {k:List Int} {z:V} (hz:FrAt H 0 z):∀ {T:TabQ} {kvs:List (List Key × V)},QE H T kvs->FrAt H (valQ T k) ((valV kvs (kI k)).getD z)
  | [],[],_=>hz
  | p :: T,kv :: kvs,⟨a,b,c⟩=>by
    obtain ⟨kk,x⟩:=kv
    have a:kk=kI p.1:=a
    subst a
    unfold valQ
    by_cases e:p.1=k
    · rw [if_pos e,valV_pos (by rw [e])];exact b
    · rw [if_neg e,valV_neg (fun z=>e (kI_inj z))];exact QE.val hz c
  | [],_ :: _,h'=>h'.elim
  | _ :: _,[],h'=>h'.elim
theorem QE.any {H:Hp} {k:List Int}:∀ {T:TabQ} {kvs:List (List Key × V)},QE H T kvs->(kvs.any fun kv=>decide (kv.1=kI k))=decide (k ∈ T.map (·.1))
  | [],[],_=>rfl
  | p :: T,kv :: kvs,⟨a,_,c⟩=>by
    obtain ⟨kk,x⟩:=kv
    have a:kk=kI p.1:=a
    subst a
    show (decide (kI p.1=kI k) || kvs.any _)=_
    rw [QE.any c]
    by_cases e:p.1=k
    · rw [decide_eq_true (show kI p.1=kI k by rw [e]),Bool.true_or,decide_eq_true (by rw [<- e];simp)]
    · rw [decide_eq_false (fun z=>e (kI_inj z)),Bool.false_or]
      congr 1
      simp [Ne.symm e]
  | [],_ :: _,h'=>h'.elim
  | _ :: _,[],h'=>h'.elim
theorem QE.keep {H:Hp} {k:List Int} {v:V}:∀ {T:TabQ} {kvs:List (List Key × V)},QE H T kvs->¬ k ∈ T.map (·.1)->kvs.map (fun kv=>if kv.1=kI k then (kv.1,v) else kv)=kvs
  | [],[],_,_=>rfl
  | p :: T,kv :: kvs,⟨a,_,c⟩,h=>by
    obtain ⟨kk,x⟩:=kv
    have a:kk=kI p.1:=a
    subst a
    rw [List.map_cons,List.mem_cons,not_or] at h
    show (if kI p.1=kI k then (kI p.1,v) else (kI p.1,x)) :: kvs.map _=(kI p.1,x) :: kvs
    rw [if_neg (fun z=>h.1 (kI_inj z).symm),QE.keep c h.2]
  | [],_ :: _,h',_=>h'.elim
  | _ :: _,[],h',_=>h'.elim
theorem QE.snoc {H:Hp} {k:List Int} {x:Rat} {v:V} (hv:FrAt H x v):∀ {T:TabQ} {kvs:List (List Key × V)},QE H T kvs->QE H (T ++ [(k,x)]) (kvs ++ [(kI k,v)])
  | [],[],_=>⟨rfl,hv,trivial⟩
  | p :: T,kv :: kvs,⟨a,b,c⟩=>⟨a,b,QE.snoc hv c⟩
  | [],_ :: _,h'=>h'.elim
  | _ :: _,[],h'=>h'.elim
theorem addQ_no {k:List Int} {x:Rat}:∀ (D:TabQ),¬ k ∈ D.map (·.1)->addQ D k x=D ++ [(k,x)]
  | [],_=>rfl
  | p :: D,h=>by
    rw [List.map_cons,List.mem_cons,not_or] at h
    unfold addQ
    rw [if_neg (Ne.symm h.1),addQ_no D h.2];rfl
theorem valQ_no {k:List Int}:∀ (D:TabQ),¬ k ∈ D.map (·.1)->valQ D k=0
  | [],_=>rfl
  | p :: D,h=>by
    rw [List.map_cons,List.mem_cons,not_or] at h
    unfold valQ
    rw [if_neg (Ne.symm h.1),valQ_no D h.2]
theorem QE.put {H:Hp} {k:List Int} {x:Rat} {v:V}:∀ {T:TabQ} {kvs:List (List Key × V)},QE H T kvs->NDq T->FrAt H (valQ T k + x) v->QE H (addQ T k x) (putK kvs (kI k) v):=by
  intro T kvs q nd hv
  unfold putK
  rw [q.any]
  by_cases hk:k ∈ T.map (·.1)
  · rw [decide_eq_true hk,if_pos rfl]
    induction T generalizing kvs with
    | nil=>simp at hk
    | cons p T ih =>
      cases kvs with
      | nil=>exact q.elim
      | cons kv kvs =>
        obtain ⟨a,b,c⟩:=q
        obtain ⟨kk,y⟩:=kv
        have a:kk=kI p.1:=a
        subst a
        unfold NDq at nd
        rw [List.map_cons,List.nodup_cons] at nd
        unfold addQ
        by_cases e:p.1=k
        · rw [if_pos e]
          show QE H _ ((if kI p.1=kI k then _ else _) :: kvs.map _)
          rw [if_pos (by rw [e]),c.keep (by rw [<- e];exact nd.1)]
          unfold valQ at hv
          rw [if_pos e] at hv
          exact ⟨rfl,hv,c⟩
        · rw [if_neg e]
          show QE H _ ((if kI p.1=kI k then _ else _) :: kvs.map _)
          rw [if_neg (fun z=>e (kI_inj z))]
          unfold valQ at hv
          rw [if_neg e] at hv
          have hk':k ∈ T.map (·.1):=by
            rw [List.map_cons,List.mem_cons] at hk
            exact hk.resolve_left (Ne.symm e)
          exact ⟨rfl,b,ih c nd.2 hv hk'⟩
  · rw [decide_eq_false hk,if_neg (by decide),addQ_no T hk]
    rw [valQ_no T hk] at hv
    refine QE.snoc ?_ q
    rw [show (0:Rat) + x=x by grind] at hv
    exact hv
theorem QE.keys {H:Hp}:∀ {T:TabQ} {kvs:List (List Key × V)},QE H T kvs->∀ kx ∈ kvs,(∃ ns:List Int,kx.1=ns.map Sum.inl)/\∃ (q:Addr) (ms:List Int),kx.2=.ref q/\H q=some (.tup (ms.map V.int))
  | [],[],_,kx,h=>by simp at h
  | p :: T,kv :: kvs,⟨a,⟨q,e,hq⟩,c⟩,kx,h=>by
    rcases List.mem_cons.mp h with z | z
    · subst z;exact ⟨⟨p.1,a⟩,q,_,e,hq⟩
    · exact QE.keys c kx z
  | [],_ :: _,h',_,_=>h'.elim
  | _ :: _,[],h',_,_=>h'.elim
theorem QE.perm {H:Hp}:∀ {T:TabQ} {kvs kvs':List (List Key × V)},QE H T kvs->kvs'.Perm kvs->∃ T':TabQ,T'.Perm T/\QE H T' kvs':=by
  intro T kvs kvs' q h0
  have h:=h0.symm
  clear h0
  induction h generalizing T with
  | nil=>exact ⟨T,.refl _,q⟩
  | cons kv _ ih =>
    cases T with
    | nil=>exact q.elim
    | cons p T =>
      obtain ⟨a,b,c⟩:=q
      obtain ⟨T',h1,h2⟩:=ih c
      exact ⟨p :: T',h1.cons p,a,b,h2⟩
  | swap x y l =>
    cases T with
    | nil=>exact q.elim
    | cons p T =>
      cases T with
      | nil=>exact q.2.2.elim
      | cons p' T =>
        obtain ⟨a,b,a',b',c⟩:=q
        exact ⟨p' :: p :: T,List.Perm.swap _ _ _,a',b',a,b,c⟩
  | trans _ _ h1 h2 =>
    obtain ⟨T1,e1,q1⟩:=h1 q
    obtain ⟨T2,e2,q2⟩:=h2 q1
    exact ⟨T2,e2.trans e1,q2⟩
def putsQ (x:Rat) (s:Int):List (Int × List Int)->TabQ->TabQ
  | [],D=>D
  | b :: bs,D=>putsQ x s bs (addQ D b.2 (x * cut b.1 s))
def nextLQ (rs:List (List Int)):TabQ->TabQ->TabQ
  | [],D=>D
  | p :: T,D=>nextLQ rs T (putsQ p.2 p.1.sum (ubo rs p.1) D)
def nextQ (rs:List (List Int)) (T:TabQ):TabQ:=nextLQ rs T []
def chQ (rs:List (List Int)):Nat->TabQ->TabQ
  | 0,D=>D
  | k + 1,D=>nextQ rs (chQ rs k D)
def opQ (rs:List (List Int)) (φ:List Int->Rat) (u:List Int):Rat:=sumQ ((List.range u.length).map fun i=>share u i * φ (addL u (rs.getD i [])))
theorem putsQ_snoc (x:Rat) (s:Int) (b:Int × List Int):∀ (bs:List (Int × List Int)) (D:TabQ),putsQ x s (bs ++ [b]) D=addQ (putsQ x s bs D) b.2 (x * cut b.1 s)
  | [],D=>rfl
  | c :: bs,D=>by
    show putsQ x s (bs ++ [b]) (addQ D c.2 (x * cut c.1 s))=_
    rw [putsQ_snoc x s b bs];rfl
theorem nextLQ_snoc (rs:List (List Int)) (p:List Int × Rat):∀ (T D:TabQ),nextLQ rs (T ++ [p]) D=putsQ p.2 p.1.sum (ubo rs p.1) (nextLQ rs T D)
  | [],D=>rfl
  | c :: T,D=>by
    show nextLQ rs (T ++ [p]) (putsQ c.2 c.1.sum (ubo rs c.1) D)=_
    rw [nextLQ_snoc rs p T];rfl
theorem linQ_puts (x:Rat) (s:Int) (φ:List Int->Rat):∀ (bs:List (Int × List Int)) (D:TabQ),linQ (putsQ x s bs D) φ=linQ D φ + x * sumQ (bs.map fun b=>cut b.1 s * φ b.2)
  | [],D=>by show _=_ + x * 0;unfold putsQ;grind
  | b :: bs,D=>by
    unfold putsQ
    rw [linQ_puts x s φ bs,linQ_add,List.map_cons]
    show _=_ + x * (cut b.1 s * φ b.2 + sumQ _)
    grind
theorem sumQ_range_add {f:Nat->Rat} (n:Nat):sumQ ((List.range (n + 1)).map f)=f 0 + sumQ ((List.range n).map fun i=>f (i + 1)):=by
  rw [List.range_succ_eq_map,List.map_cons,List.map_map];rfl
theorem uboL_sumQ (rs:List (List Int)) (φ:List Int->Rat) (u:List Int) {s:Int} (hs:0 < s):∀ (bs:List Int) (i:Nat),(∀ b ∈ bs,0 <= b)->sumQ ((uboL rs u i bs).map fun b=>cut b.1 s * φ b.2)=sumQ ((List.range bs.length).map fun j=>cut (bs.getD j 0) s * φ (addL u (rs.getD (i + j) [])))
  | [],i,_=>rfl
  | b :: bs,i,h=>by
    have ih:=uboL_sumQ rs φ u hs bs (i + 1) fun x hx=>h x (List.mem_cons_of_mem _ hx)
    have hb:=h b List.mem_cons_self
    have e:((List.range bs.length).map fun j=>cut ((b :: bs).getD (j + 1) 0) s * φ (addL u (rs.getD (i + (j + 1)) [])))=((List.range bs.length).map fun j=>cut (bs.getD j 0) s * φ (addL u (rs.getD (i + 1 + j) []))):=by
      refine List.map_congr_left fun j _=>?_
      rw [show i + (j + 1)=i + 1 + j by omega];rfl
    rw [List.length_cons,sumQ_range_add (f:=fun j=>cut ((b :: bs).getD j 0) s * φ (addL u (rs.getD (i + j) []))),e,<- ih,uboL_cons]
    split
    · rfl
    · have:b=0:=by omega
      subst this
      show _=cut 0 s * _ + _
      rw [cut_zero hs];grind
theorem ubo_sumQ (rs:List (List Int)) (φ:List Int->Rat) {u:List Int} (h:∀ b ∈ u,0 <= b) (hs:0 < u.sum):sumQ ((ubo rs u).map fun b=>cut b.1 u.sum * φ b.2)=opQ rs φ u:=by
  unfold ubo opQ share
  rw [uboL_sumQ rs φ u hs u 0 h]
  simp
theorem linQ_nextL (rs:List (List Int)) (φ:List Int->Rat):∀ (T D:TabQ),(∀ p ∈ T,(∀ b ∈ p.1,0 <= b)/\0 < p.1.sum)->linQ (nextLQ rs T D) φ=linQ D φ + linQ T (opQ rs φ)
  | [],D,_=>by unfold nextLQ;show _=_ + 0;grind
  | p :: T,D,h=>by
    have hp:=h p List.mem_cons_self
    unfold nextLQ
    rw [linQ_nextL rs φ T _ fun q hq=>h q (List.mem_cons_of_mem _ hq),linQ_puts,ubo_sumQ rs φ hp.1 hp.2,linQ_cons];grind
theorem linQ_next {rs:List (List Int)} {φ:List Int->Rat} {T:TabQ} (h:∀ p ∈ T,(∀ b ∈ p.1,0 <= b)/\0 < p.1.sum):linQ (nextQ rs T) φ=linQ T (opQ rs φ):=by
  unfold nextQ
  rw [linQ_nextL rs φ T [] h]
  show 0 + _=_;grind
structure Vq (N B:Nat) (x:Rat):Prop where
  nn:0 <= x
  le:x <= (B:Rat)
  dv:∃ z:Int,x * (N:Rat)=(z:Rat)
theorem Vq.mono {N B C:Nat} {x:Rat} (h:Vq N B x) (l:B <= C):Vq N C x:=⟨h.nn,by
  have:((B:Nat):Rat) <= ((C:Nat):Rat):=by exact_mod_cast l
  have:=h.le
  grind,h.dv⟩
theorem Vq.zero (N B:Nat):Vq N B 0:=⟨by grind,by exact_mod_cast Nat.zero_le B,0,by grind⟩
theorem Vq.add {N B C:Nat} {x y:Rat} (h:Vq N B x) (k:Vq N C y):Vq N (B + C) (x + y):=by
  obtain ⟨z,hz⟩:=h.dv
  obtain ⟨t,ht⟩:=k.dv
  have h1:=h.nn;have h2:=h.le;have k1:=k.nn;have k2:=k.le
  refine ⟨by grind,?_,z + t,?_⟩
  · have:((B + C:Nat):Rat)=(B:Rat) + (C:Rat):=by push_cast;rfl
    grind
  · have:((z + t:Int):Rat)=(z:Rat) + (t:Rat):=by push_cast;rfl
    grind
theorem Vq.mul {N M B C:Nat} {x y:Rat} (h:Vq N B x) (k:Vq M C y):Vq (N * M) (B * C) (x * y):=by
  obtain ⟨z,hz⟩:=h.dv
  obtain ⟨t,ht⟩:=k.dv
  have h1:=h.nn;have h2:=h.le;have k1:=k.nn;have k2:=k.le
  have hB:(0:Rat) <= (B:Rat):=by grind
  refine ⟨Rat.mul_nonneg h1 k1,?_,z * t,?_⟩
  · have e:((B * C:Nat):Rat)=(B:Rat) * (C:Rat):=by push_cast;rfl
    rw [e]
    have a1:=Rat.mul_le_mul_of_nonneg_right h2 k1
    have a2:=Rat.mul_le_mul_of_nonneg_left k2 hB
    grind
  · have e1:((N * M:Nat):Rat)=(N:Rat) * (M:Rat):=by push_cast;rfl
    have e2:((z * t:Int):Rat)=(z:Rat) * (t:Rat):=by push_cast;rfl
    rw [e1,e2,<- hz,<- ht];grind
theorem Vq.one (N:Nat):Vq N 1 1:=⟨by grind,by grind,N,by
  have:((N:Int):Rat)=(N:Rat):=by norm_cast
  grind⟩
end Mq
namespace Mq
open PySem PySem.Spec L2 Mt Md
def LL:Nat:=(List.range 200).foldl (fun a i=>Nat.lcm a (i + 1)) 1
theorem LL_dvd {s:Nat} (h0:0 < s) (h:s <= 200):∃ q,LL=s * q:=by
  have h1:(List.range 201).all (fun s=>s == 0 || LL % s == 0)=true:=by decide +kernel
  have h2:=List.all_eq_true.mp h1 s (List.mem_range.mpr (by omega))
  have h3:LL % s=0:=by
    have:(s == 0)=false:=by simp;omega
    rw [this,Bool.false_or] at h2
    exact beq_iff_eq.mp h2
  exact ⟨LL / s,(Nat.mul_div_cancel' (Nat.dvd_of_mod_eq_zero h3)).symm⟩
theorem LL_le:LL <= 2 ^ 300:=by decide +kernel
theorem LL_pos:0 < LL:=by decide +kernel
theorem cut_self_mul {t s:Int} (hs:0 < s):cut t s * (s:Rat)=(t:Rat):=by
  unfold cut
  have e:(((s.toNat:Nat):Int):Rat)=(s:Rat):=by congr 1;omega
  rw [Rat.mkRat_eq_div,<- e]
  have h:((s.toNat:Nat):Rat) ≠ 0:=by
    intro z
    have:s.toNat=0:=by exact_mod_cast z
    omega
  have e2:(((s.toNat:Nat):Int):Rat)=((s.toNat:Nat):Rat):=by norm_cast
  rw [e2]
  exact Rat.div_mul_cancel h
theorem rat_le_of {x y:Rat} {s:Rat} (hs:0 < s) (h:x * s <= y * s):x <= y:=Rat.le_of_mul_le_mul_right h hs
theorem rat_eq_of {x y:Rat} {s:Rat} (hs:0 < s) (h:x * s=y * s):x=y:=by
  have h1:=rat_le_of hs (show x * s <= y * s by grind)
  have h2:=rat_le_of hs (show y * s <= x * s by grind)
  grind
theorem cast_pos {s:Int} (hs:0 < s):(0:Rat) < (s:Rat):=by exact_mod_cast hs
theorem cut_vq {t s:Int} (h0:0 <= t) (h1:t <= s) (hs:0 < s) (h2:s <= 200):Vq LL 1 (cut t s):=by
  have hm:=cut_self_mul (t:=t) hs
  have hp:=cast_pos hs
  obtain ⟨q,hq⟩:=LL_dvd (s:=s.toNat) (by omega) (by omega)
  refine ⟨rat_le_of hp ?_,rat_le_of hp ?_,t * q,?_⟩
  · rw [hm]
    have:(0:Rat) <= (t:Rat):=by exact_mod_cast h0
    grind
  · rw [hm]
    have:(t:Rat) <= (s:Rat):=by exact_mod_cast h1
    have e:((1:Nat):Rat)=1:=rfl
    rw [e];grind
  · rw [hq]
    have e1:((s.toNat * q:Nat):Rat)=((s.toNat:Nat):Rat) * (q:Rat):=by push_cast;rfl
    have e2:((s.toNat:Nat):Rat)=(s:Rat):=by
      have:(((s.toNat:Nat):Int):Rat)=(s:Rat):=by congr 1;omega
      rw [<- this];norm_cast
    have e3:((t * (q:Int):Int):Rat)=(t:Rat) * (q:Rat):=by push_cast;rfl
    rw [e1,e2,e3,<- hm];grind
theorem Vq.bd {N B n:Nat} {x:Rat} (h:Vq N B x) (h0:0 < N) (h1:N * B <= 2 ^ n) (h2:N <= 2 ^ n):Bd n x:=by
  obtain ⟨z,hz⟩:=h.dv
  have hp:(0:Int) < (N:Int):=by omega
  have hm:=cut_self_mul (t:=z) hp
  have e:(((N:Nat):Int):Rat)=(N:Rat):=by norm_cast
  rw [e] at hm
  have hq:(0:Rat) < (N:Rat):=by rw [<- e];exact cast_pos hp
  have ex:x=cut z N:=rat_eq_of hq (by rw [hz,hm])
  have l0:(0:Rat) <= (z:Rat):=by rw [<- hz];exact Rat.mul_nonneg h.nn (by grind)
  have l1:(z:Rat) <= ((B * N:Nat):Rat):=by
    have e2:((B * N:Nat):Rat)=(B:Rat) * (N:Rat):=by push_cast;rfl
    rw [<- hz,e2]
    exact Rat.mul_le_mul_of_nonneg_right h.le (by grind)
  have m0:0 <= z:=by exact_mod_cast l0
  have m1:z <= ((B * N:Nat):Int):=by exact_mod_cast l1
  rw [ex]
  rw [Nat.mul_comm] at h1
  exact Bd.cut hp (by omega) (by omega)
theorem le_sum:∀ {l:List Int},(∀ x ∈ l,0 <= x)->∀ x ∈ l,x <= l.sum
  | [],_,x,h=>by simp at h
  | a :: l,h,x,hx=>by
    have h1:=h a List.mem_cons_self
    have h2:=sum_nonneg fun y hy=>h y (List.mem_cons_of_mem _ hy)
    rw [List.sum_cons]
    rcases List.mem_cons.mp hx with e | e
    · omega
    · have:=le_sum (fun y hy=>h y (List.mem_cons_of_mem _ hy)) x e
      omega
theorem getD_le_sum {n m:Nat} {u:List Int} (h:Urn n m u) (k:Nat):u.getD k 0 <= u.sum:=by
  rw [List.getD_eq_getElem?_getD]
  cases e:u[k]? with
  | none=>have:=h.pos;show (0:Int) <= _;omega
  | some x=>exact le_sum (fun x hx=>(h.nn x hx).1) x (List.mem_of_getElem? e)
theorem sum_200 {n m:Nat} {u:List Int} (h:Urn n m u) (n4:n <= 4) (hm:m <= 50):u.sum <= 200:=by
  have:=Mt.sum_le (m:=50) (l:=u) fun x hx=>by have:=(h.nn x hx).2;omega
  rw [h.len] at this
  omega
theorem share_vq {n m:Nat} {u:List Int} (h:Urn n m u) (n4:n <= 4) (hm:m <= 50) (k:Nat):Vq LL 1 (share u k):=cut_vq (h.getD k).1 (getD_le_sum h k) h.pos (sum_200 h n4 hm)
def AllQ (N B:Nat) (D:TabQ):Prop:=∀ p ∈ D,Vq N B p.2
theorem AllQ.add {N B C:Nat} {k:List Int} {x:Rat} (hx:Vq N C x):∀ {D:TabQ},AllQ N B D->AllQ N (B + C) (addQ D k x)
  | [],_=>fun p hp=>by
    unfold addQ at hp
    rw [List.mem_singleton.mp hp]
    exact hx.mono (by omega)
  | q :: D,h=>fun p hp=>by
    unfold addQ at hp
    split at hp
    · rcases List.mem_cons.mp hp with z | z
      · rw [z];exact (h q List.mem_cons_self).add hx
      · exact (h p (List.mem_cons_of_mem _ z)).mono (by omega)
    · rcases List.mem_cons.mp hp with z | z
      · rw [z];exact (h q List.mem_cons_self).mono (by omega)
      · exact AllQ.add hx (fun r hr=>h r (List.mem_cons_of_mem _ hr)) p z
theorem AllQ.val {N B:Nat} {k:List Int}:∀ {D:TabQ},AllQ N B D->Vq N B (valQ D k)
  | [],_=>Vq.zero N B
  | q :: D,h=>by
    unfold valQ
    split
    · exact h q List.mem_cons_self
    · exact AllQ.val fun r hr=>h r (List.mem_cons_of_mem _ hr)
theorem AllQ.mono {N B C:Nat} {D:TabQ} (h:AllQ N B D) (l:B <= C):AllQ N C D:=fun p hp=>(h p hp).mono l
def KeysQ (n m:Nat) (D:TabQ):Prop:=∀ p ∈ D,Urn n m p.1
theorem KeysQ.add {n m:Nat} {D:TabQ} {k:List Int} {x:Rat} (h:KeysQ n m D) (hk:Urn n m k):KeysQ n m (addQ D k x):=fun p hp=>by
  rcases keys_addQ hp with e | ⟨q,hq,e⟩
  · rw [e];exact hk
  · rw [<- e];exact h q hq
theorem mem_uboL_pos {rs:List (List Int)} {u:List Int}:∀ {bs:List Int} {i:Nat} {b:Int × List Int},b ∈ uboL rs u i bs->0 < b.1
  | [],_,_,h=>by unfold uboL at h;simp at h
  | x :: bs,i,b,h=>by
    unfold uboL at h
    split at h
    · rcases List.mem_cons.mp h with e | e
      · subst e;assumption
      · exact mem_uboL_pos e
    · exact mem_uboL_pos h
theorem mem_uboU {n m:Nat} {rs:List (List Int)} {u:List Int} {b:Int × List Int} (hR:Rul n 5 rs) (hu:Urn n m u) (h:b ∈ ubo rs u):(0 < b.1/\b.1 <= u.sum)/\Urn n (m + 5) b.2:=by
  have hp:=mem_uboL_pos h
  obtain ⟨j,h1,h2,h3⟩:=mem_uboL h
  rw [Nat.zero_add] at h3
  have hj:j < n:=by rw [<- hu.len];exact h1
  refine ⟨⟨hp,?_⟩,?_⟩
  · rw [h2];exact getD_le_sum hu j
  · rw [h3];exact hu.add (hR.at hj)
theorem puts_okQ {n m N E:Nat} {x:Rat} {s:Int} (hx:Vq N E x) (hs:0 < s) (hs2:s <= 200):∀ (bs:List (Int × List Int)) {D:TabQ} {B:Nat},(∀ b ∈ bs,(0 < b.1/\b.1 <= s)/\Urn n m b.2)->KeysQ n m D->NDq D->AllQ (N * LL) B D ->
    KeysQ n m (putsQ x s bs D)/\NDq (putsQ x s bs D)/\AllQ (N * LL) (B + E * bs.length) (putsQ x s bs D)/\(putsQ x s bs D).length <= D.length + bs.length
  | [],D,B,_,h1,h2,h3=>⟨h1,h2,h3,by unfold putsQ;simp⟩
  | b :: bs,D,B,h,h1,h2,h3=>by
    unfold putsQ
    have hb:=h b List.mem_cons_self
    have hv:Vq (N * LL) E (x * cut b.1 s):=(hx.mul (cut_vq (by omega) hb.1.2 hs hs2)).mono (by omega)
    obtain ⟨a1,a2,a3,a4⟩:=puts_okQ hx hs hs2 bs (D:=addQ D b.2 (x * cut b.1 s)) (fun c hc=>h c (List.mem_cons_of_mem _ hc)) (h1.add hb.2) (nd_addQ h2) (h3.add hv)
    refine ⟨a1,a2,a3.mono ?_,?_⟩
    · rw [List.length_cons,Nat.mul_add];omega
    · have:=len_addQ b.2 (x * cut b.1 s) D
      rw [List.length_cons];omega
theorem len_ubo {n m:Nat} {rs:List (List Int)} {u:List Int} (hu:Urn n m u):(ubo rs u).length <= n:=by
  have:=len_uboL (rs:=rs) (u:=u) u 0
  unfold ubo;rw [<- hu.len];exact this
theorem nextL_okQ {n m N E:Nat} {rs:List (List Int)} (hR:Rul n 5 rs) (n4:n <= 4) (hm:m <= 50):∀ (T:TabQ) {D:TabQ} {B:Nat},KeysQ n m T->AllQ N E T->KeysQ n (m + 5) D->NDq D->AllQ (N * LL) B D ->
    KeysQ n (m + 5) (nextLQ rs T D)/\NDq (nextLQ rs T D)/\AllQ (N * LL) (B + E * (4 * T.length)) (nextLQ rs T D)/\(nextLQ rs T D).length <= D.length + n * T.length
  | [],D,B,_,_,h1,h2,h3=>⟨h1,h2,h3,by unfold nextLQ;simp⟩
  | p :: T,D,B,h,hE,h1,h2,h3=>by
    unfold nextLQ
    have hp:=h p List.mem_cons_self
    obtain ⟨b1,b2,b3,b4⟩:=puts_okQ (m:=m + 5) (hE p List.mem_cons_self) hp.pos (sum_200 hp n4 hm) (ubo rs p.1) (fun b hb=>mem_uboU hR hp hb) h1 h2 h3
    obtain ⟨a1,a2,a3,a4⟩:=nextL_okQ hR n4 hm T (fun q hq=>h q (List.mem_cons_of_mem _ hq)) (fun q hq=>hE q (List.mem_cons_of_mem _ hq)) b1 b2 b3
    have e:=len_ubo (rs:=rs) hp
    refine ⟨a1,a2,a3.mono ?_,?_⟩
    · have:E * (ubo rs p.1).length <= E * 4:=Nat.mul_le_mul_left _ (by omega)
      rw [List.length_cons,Nat.mul_add 4,Nat.mul_add E];omega
    · rw [List.length_cons,Nat.mul_add,Nat.mul_one];omega
theorem next_okQ {n m N E:Nat} {rs:List (List Int)} {T:TabQ} (hR:Rul n 5 rs) (n4:n <= 4) (hm:m <= 50) (h:KeysQ n m T) (hE:AllQ N E T):KeysQ n (m + 5) (nextQ rs T)/\NDq (nextQ rs T)/\AllQ (N * LL) (E * (4 * T.length)) (nextQ rs T)/\(nextQ rs T).length <= n * T.length:=by
  obtain ⟨a,b,c,d⟩:=nextL_okQ (D:=[]) (B:=0) hR n4 hm T h hE (fun p hp=>by simp at hp) (by unfold NDq;simp) (fun p hp=>by simp at hp)
  exact ⟨a,b,by rw [Nat.zero_add] at c;exact c,by rw [List.length_nil,Nat.zero_add] at d;exact d⟩
theorem ch_ok {n:Nat} {rs:List (List Int)} {u:List Int} (hR:Rul n 5 rs) (n4:n <= 4) (hu:Urn n 20 u):∀ k:Nat,k <= 6->KeysQ n (20 + 5 * k) (chQ rs k [(u,1)])/\NDq (chQ rs k [(u,1)])/\AllQ (LL ^ k) (4 ^ (k * k)) (chQ rs k [(u,1)])/\(chQ rs k [(u,1)]).length <= 4 ^ k
  | 0,_=>⟨fun p hp=>by rw [List.mem_singleton.mp hp];exact hu,by unfold chQ NDq;simp,fun p hp=>by rw [List.mem_singleton.mp hp];exact Vq.one _,by show 1 <= 1;omega⟩
  | k + 1,hk=>by
    obtain ⟨a1,a2,a3,a4⟩:=ch_ok hR n4 hu k (by omega)
    obtain ⟨b1,b2,b3,b4⟩:=next_okQ hR n4 (by omega) a1 a3
    refine ⟨?_,b2,?_,?_⟩
    · rw [show 20 + 5 * (k + 1)=20 + 5 * k + 5 by omega];exact b1
    · rw [Nat.pow_succ LL]
      refine b3.mono ?_
      have h1:4 * (chQ rs k [(u,1)]).length <= 4 ^ (k + 1):=by rw [Nat.pow_succ];omega
      refine Nat.le_trans (Nat.mul_le_mul_left _ h1) ?_
      rw [<- Nat.pow_add]
      refine Nat.pow_le_pow_right (by decide) ?_
      have:(k + 1) * (k + 1)=k * k + k + k + 1:=by rw [Nat.add_mul,Nat.mul_add];omega
      omega
    · show (nextQ rs _).length <= 4 ^ (k + 1)
      have:n * (chQ rs k [(u,1)]).length <= 4 * 4 ^ k:=Nat.mul_le_mul n4 a4
      rw [Nat.pow_succ];omega
theorem LL_pow (k:Nat):LL ^ k <= 2 ^ (300 * k):=by
  rw [Nat.pow_mul];exact Nat.pow_le_pow_left LL_le k
theorem LLp_pos (k:Nat):0 < LL ^ k:=Nat.pow_pos LL_pos
def FrL (H:Hp):List Rat->List V->Prop
  | [],[]=>True
  | x :: xs,v :: vs=>FrAt H x v/\FrL H xs vs
  | _,_=>False
theorem FrL.mono {H H':Hp} (h:∀ a xs,H a=some (.tup xs)->H' a=some (.tup xs)):∀ {xs:List Rat} {vs:List V},FrL H xs vs->FrL H' xs vs
  | [],[],_=>trivial
  | _ :: _,_ :: _,⟨a,b⟩=>⟨a.same h,FrL.mono h b⟩
  | [],_ :: _,h'=>h'.elim
  | _ :: _,[],h'=>h'.elim
theorem FrL.snoc {H:Hp} {x:Rat} {v:V} (hv:FrAt H x v):∀ {xs:List Rat} {vs:List V},FrL H xs vs->FrL H (xs ++ [x]) (vs ++ [v])
  | [],[],_=>⟨hv,trivial⟩
  | _ :: _,_ :: _,⟨a,b⟩=>⟨a,FrL.snoc hv b⟩
  | [],_ :: _,h'=>h'.elim
  | _ :: _,[],h'=>h'.elim
theorem FrL.len {H:Hp}:∀ {xs:List Rat} {vs:List V},FrL H xs vs->vs.length=xs.length
  | [],[],_=>rfl
  | _ :: _,_ :: _,⟨_,b⟩=>by rw [List.length_cons,List.length_cons,FrL.len b]
  | [],_ :: _,h'=>h'.elim
  | _ :: _,[],h'=>h'.elim
theorem FrL.get {H:Hp}:∀ {xs:List Rat} {vs:List V} {i:Nat} {v:V},FrL H xs vs->vs[i]?=some v->∃ x,xs[i]?=some x/\FrAt H x v
  | x :: _,_ :: _,0,_,⟨a,_⟩,h=>by cases h;exact ⟨x,rfl,a⟩
  | _ :: _,_ :: _,i + 1,_,⟨_,b⟩,h=>FrL.get (i:=i) b (by simpa using h)
  | [],[],_,_,_,h=>by simp at h
  | [],_ :: _,_,_,h',_=>h'.elim
  | _ :: _,[],_,_,h',_=>h'.elim
theorem sumQ_vq {N B:Nat}:∀ {xs:List Rat},(∀ x ∈ xs,Vq N B x)->Vq N (B * xs.length) (sumQ xs)
  | [],_=>Vq.zero N _
  | x :: xs,h=>by
    have h1:=sumQ_vq fun y hy=>h y (List.mem_cons_of_mem _ hy)
    have h2:=(h x List.mem_cons_self).add h1
    exact h2.mono (by rw [List.length_cons,Nat.mul_add];omega)
theorem sumQ_snoc (xs:List Rat) (x:Rat):sumQ (xs ++ [x])=sumQ xs + x:=by
  rw [sumQ_append];show _ + (x + 0)=_;grind
end Mq
namespace G
open PySem PySem.Spec PyProof.Rows L2 Mt Md Mq
structure Ct2 (mg:Str->Option Value):Prop where
  stand:∃ t,mg "MOST_STAND_DRAWS"=some (.int 6 t)
structure Bt3 (mg:Str->Option Value):Prop where
  enumerate:mg "enumerate"=none
  sorted:mg "sorted"=none
theorem sm_k {k:Int} (h1:1 <= k) (h4:k <= 4):Sm k:=by
  have h:k=1 ∨ k=2 ∨ k=3 ∨ k=4:=by omega
  rcases h with rfl | rfl | rfl | rfl <;> (unfold Sm;decide +kernel)
theorem urnD_true {m:Int} {d:PyData} (h:urnD m d=true):∃ ns:List Int,d=DI ns/\1 <= ns.length/\ns.length <= 4/\(∀ x ∈ ns,0 <= x/\x <= m)/\0 < ns.sum:=by
  unfold urnD at h
  rw [Bool.and_eq_true,Bool.and_eq_true,Bool.and_eq_true] at h
  obtain ⟨hw,⟨h1,h4⟩,hs⟩:=h
  obtain ⟨ns,e,hn⟩:=wholesD_ints hw
  subst e
  rw [lenD_DI] at h1 h4
  rw [sumD_DI] at hs
  have h1':=of_decide_eq_true h1
  have h4':=of_decide_eq_true h4
  exact ⟨ns,rfl,by omega,by omega,hn,of_decide_eq_true hs⟩
theorem bits_of {i:Int} {n:Nat} (h:i.natAbs <= 2 ^ n) (hn:n <= 100000):Builtin.Int.intBits i <= 2 ^ 20:=by
  unfold Builtin.Int.intBits
  split
  · exact Nat.zero_le _
  · rename_i hz
    have hz':i.natAbs ≠ 0:=fun e=>hz (by rw [beq_iff_eq];omega)
    have h2:i.natAbs.log2 < n + 1:=(Nat.log2_lt hz').mpr (Nat.lt_of_le_of_lt h (Nat.pow_lt_pow_right (by decide) (by omega)))
    omega
theorem log_of {i:Int} {n:Nat} (h0:0 < i) (h:i.natAbs <= 2 ^ n) (hn:n < 8999):i.natAbs.log2 < 9000:=by
  rw [Nat.log2_lt (by omega)]
  exact Nat.lt_of_le_of_lt h (Nat.pow_lt_pow_right (by decide) (by omega))
theorem gcd_step {x y:Int} (hx:0 <= x) (hy:0 < y):Int.gcd y (x % y)=Int.gcd x y:=by
  have h1:(x % y).natAbs=x.natAbs % y.natAbs:=by
    rw [Int.natAbs_emod_of_nonneg hx]
  unfold Int.gcd
  rw [h1,Nat.gcd_comm x.natAbs,Nat.gcd_rec y.natAbs x.natAbs,Nat.gcd_comm]
theorem cut_nn {t b:Int} (ht:0 <= t) (hb:0 < b):0 <= (cut t b).num:=by
  rw [cut_num hb];exact Int.ediv_nonneg ht (by omega)
theorem share_nn {n m:Nat} {ns:List Int} (h:Urn n m ns) (k:Nat):0 <= Mt.share ns k:=Rat.num_nonneg.mp (cut_nn (h.getD k).1 h.pos)
theorem Urn.sum_le {n m:Nat} {ns:List Int} (h:Mt.Urn n m ns) (hn:n <= 4):ns.sum <= (m:Int) * 4:=by
  have:=Mt.sum_le (m:=(m:Int)) (l:=ns) fun x hx=>(h.nn x hx).2
  rw [h.len] at this
  refine Int.le_trans this (Int.mul_le_mul_of_nonneg_left (by omega) (by omega))
theorem share_bd {n m:Nat} {ns:List Int} (h:Mt.Urn n m ns) (hn:n <= 4) (hm:m <= 1000) (k:Nat):Bd 12 (Mt.share ns k):=by
  have h1:=h.getD k
  have h2:=Urn.sum_le h hn
  have h3:=h.pos
  refine Bd.cut h.pos ?_ ?_
  · show _ <= 4096;omega
  · show _ <= 4096;omega
theorem sm_6:Sm 6:=by unfold Sm;decide +kernel
theorem map_inj' {α β:Type} {f:α->β} (hf:∀ a b,f a=f b->a=b):∀ (l m:List α),l.map f=m.map f->l=m
  | [],[],_=>rfl
  | [],b :: m,h=>by cases h
  | a :: l,[],h=>by cases h
  | a :: l,b :: m,h=>by
    rw [List.map_cons,List.map_cons] at h
    injection h with h1 h2
    rw [hf a b h1,map_inj' hf l m h2]
mutual
theorem Dt_toD {l T:Addr} {H:Hp} {ps:List (List Key × V)} (hT:H T=some (.dT ps)):∀ {d:PyData} {v:V},Dt l H d v->Dt T H d v
  | .none,_,h=>by unfold Dt at h ⊢;exact h
  | .bool _,_,h=>by unfold Dt at h ⊢;exact h
  | .int _,_,h=>by unfold Dt at h ⊢;exact h
  | .str _,_,h=>by unfold Dt at h ⊢;exact h
  | .tuple ds,_,h=>by
    unfold Dt at h ⊢
    obtain ⟨a,xs,e,n,q,r⟩:=h
    exact ⟨a,xs,e,(fun z=>by rw [z,hT] at q;cases q),q,Dts_toD hT r⟩
  | .list ds,_,h=>by
    unfold Dt at h ⊢
    obtain ⟨a,xs,e,n,q,r⟩:=h
    exact ⟨a,xs,e,(fun z=>by rw [z,hT] at q;cases q),q,Dts_toD hT r⟩
  | .dict kvs,_,h=>by
    unfold Dt at h ⊢
    obtain ⟨z,a,e,n,q⟩:=h
    exact ⟨z,a,e,(fun z=>by rw [z,hT] at q;cases q),q⟩
theorem Dts_toD {l T:Addr} {H:Hp} {ps:List (List Key × V)} (hT:H T=some (.dT ps)):∀ {ds:List PyData} {xs:List V},Dts l H ds xs->Dts T H ds xs
  | [],_,h=>by unfold Dts at h ⊢;exact h
  | d :: ds,_,h=>by
    unfold Dts at h ⊢
    obtain ⟨x,r,e,q1,q2⟩:=h
    exact ⟨x,r,e,Dt_toD hT q1,Dts_toD hT q2⟩
end
def PrsAt (H:Hp):List (Int × List Int)->List V->Prop
  | [],ts=>ts=[]
  | b :: bs,ts=>∃ q w r,ts=.ref q :: r/\H q=some (.tup [.int b.1,.ref w])/\H w=some (.tup (b.2.map V.int))/\PrsAt H bs r
theorem PrsAt.mono {H H':Hp} (h:∀ a xs,H a=some (.tup xs)->H' a=some (.tup xs)):∀ {bs:List (Int × List Int)} {ts:List V},PrsAt H bs ts->PrsAt H' bs ts
  | [],_,p=>p
  | _ :: _,_,⟨q,w,r,e,h1,h2,h3⟩=>⟨q,w,r,e,h _ _ h1,h _ _ h2,PrsAt.mono h h3⟩
theorem PrsAt.snoc {H:Hp} {b:Int × List Int} {q w:Addr} (h1:H q=some (.tup [.int b.1,.ref w])) (h2:H w=some (.tup (b.2.map V.int))):∀ {bs:List (Int × List Int)} {ts:List V},PrsAt H bs ts->PrsAt H (bs ++ [b]) (ts ++ [.ref q])
  | [],_,p=>by
    rw [show _=[] from p]
    exact ⟨q,w,[],rfl,h1,h2,rfl⟩
  | _ :: _,_,⟨q',w',r,e,a1,a2,a3⟩=>⟨q',w',r ++ [.ref q],by rw [e];rfl,a1,a2,PrsAt.snoc h1 h2 a3⟩
theorem PrsAt.len {H:Hp}:∀ {bs:List (Int × List Int)} {ts:List V},PrsAt H bs ts->ts.length=bs.length
  | [],_,p=>by rw [show _=[] from p];rfl
  | _ :: _,_,⟨q,w,r,e,_,_,h3⟩=>by rw [e,List.length_cons,List.length_cons,PrsAt.len h3]
theorem PrsAt.get {H:Hp}:∀ {bs:List (Int × List Int)} {ts:List V} {i:Nat} {t:V},PrsAt H bs ts->ts[i]?=some t->∃ b q w,bs[i]?=some b/\t=.ref q/\H q=some (.tup [.int b.1,.ref w])/\H w=some (.tup (b.2.map V.int))
  | [],_,_,_,p,h=>by rw [show _=[] from p] at h;simp at h
  | b :: _,_,0,_,⟨q,w,r,e,h1,h2,_⟩,h=>by
    rw [e] at h;cases h
    exact ⟨b,q,w,rfl,rfl,h1,h2⟩
  | _ :: _,_,i + 1,_,⟨q,w,r,e,_,_,h3⟩,h=>by
    rw [e] at h
    obtain ⟨b,q',w',e1,e2,e3,e4⟩:=PrsAt.get (i:=i) h3 (by simpa using h)
    exact ⟨b,q',w',by simpa using e1,e2,e3,e4⟩
theorem uboL_snoc (rs:List (List Int)) (u:List Int) (b:Int):∀ (bs:List Int) (i:Nat),uboL rs u i (bs ++ [b])=uboL rs u i bs ++ (if 0 < b then [(b,addL u (rs.getD (i + bs.length) []))] else [])
  | [],i=>by
    show uboL rs u i [b]=[] ++ _
    rw [uboL_cons]
    split <;> rfl
  | x :: bs,i=>by
    show uboL rs u i (x :: (bs ++ [b]))=_
    rw [uboL_cons,uboL_cons,uboL_snoc rs u b bs (i + 1),List.length_cons,show i + 1 + bs.length=i + (bs.length + 1) by omega]
    by_cases h:0 < x
    · rw [if_pos h,if_pos h];rfl
    · rw [if_neg h,if_neg h]
theorem sm_0:Sm 0:=by unfold Sm;decide +kernel
theorem small_tab {n:Nat} (h:n <= 10000):n < sizeLine:=by rw [sizeLine_eq];omega
section
variable {P:Program} {w:World} {K:PySem.W.Frag} {mg:Str->Option Value} {base:Heap} {f:Addr} {fd:FuncData} {ec:Nat->Addr} {Bs:Addr}
def sp_need_urn (ec:Nat->Addr):Sp:=fun vs H Q E=>∃ (v:V) (st:Addr) (d:PyData),vs=[v]/\Dt st H d v/\short d/\(urnD 20 d=true->∀ H',Same H H'->Q .non H')/\(urnD 20 d=false->∀ H',Same H H'->E (.ref (ec 0)) none H')
abbrev s_need_urn:Stmt:=top 25
theorem sc_need_urn:FnScope ["thing"] ["thing"] (defScope s_need_urn):=⟨rfl,rfl,rfl,by decide +kernel,rfl,by decide +kernel,by decide +kernel⟩
theorem ok_need_urn (F:Fun K "need_urn" "need_urn" s_need_urn f fd) (R:Errs K mg ec Bs) (c1:Cal P w K mg base 4 "is_urn" ["thing"] sp_is_urn):FnOk P w K mg base (CX1 P w) 5 f fd ["thing"] (sp_need_urn ec):=by
  refine F.okX sc_need_urn (fun vs H Q E h=>?_) (fun cdv A outer s H vs Q E hr h=>?_)
  · obtain ⟨v,st,d,rfl,_⟩:=h
    rfl
  obtain ⟨v,st,d,rfl,hd,hs,q1,q2⟩:=h
  refine ⟨_,pss_one (ps_if (pt_not (pt_val (pe_cal c1 hr rfl (pa_cons (pv 0) pa_nil)))) (pss_one (ps_raise1 R.e0 (R.xc 0 (by decide)) pe_str (fun σ H Q Q' m q=>m _ _ q))) pss_nil),?_⟩
  refine ⟨_,rfl,v,st,d,rfl,hd,hs,fun H1 g1=>⟨_,rfl,?_⟩⟩
  cases hw:urnD 20 d with
  | true=>exact iteF (q1 hw H1 g1)
  | false=>exact iteT (q2 hw H1 g1)
def sp_need_rule (ec:Nat->Addr):Sp:=fun vs H Q E=>∃ (v:V) (st:Addr) (d:PyData) (k:Int),vs=[.int k,v]/\1 <= k/\k <= 4/\Dt st H d v/\ok2 d/\(ruleD k d=true->∀ H',Same H H'->Q .non H')/\(ruleD k d=false->∀ H',Same H H'->E (.ref (ec 1)) none H')
abbrev s_need_rule:Stmt:=top 26
theorem sc_need_rule:FnScope ["kinds","thing"] ["kinds","thing"] (defScope s_need_rule):=⟨rfl,rfl,rfl,by decide +kernel,rfl,by decide +kernel,by decide +kernel⟩
theorem ok_need_rule (F:Fun K "need_rule" "need_rule" s_need_rule f fd) (R:Errs K mg ec Bs) (c1:CalX P w K mg base 3 "is_rule" ["kinds","thing"] (sp_is_rule ec)):FnOk P w K mg base (CX1 P w) 4 f fd ["kinds","thing"] (sp_need_rule ec):=by
  refine F.okX sc_need_rule (fun vs H Q E h=>?_) (fun cdv A outer s H vs Q E hr h=>?_)
  · obtain ⟨v,st,d,k,rfl,_⟩:=h
    rfl
  obtain ⟨v,st,d,k,rfl,k1,k4,hd,ok,q1,q2⟩:=h
  refine ⟨_,pss_one (ps_if (pt_not (pt_val (pe_calx c1 hr rfl passes1 (pa_cons (pv 0) (pa_cons (pv 1) pa_nil))))) (pss_one (ps_raise1 R.e1 (R.xc 1 (by decide)) (pe_fstr (pj_str (pj_fmt (pv 0) (pj_str pj_nil)))) (fun σ H Q Q' m q=>?_))) pss_nil),?_⟩
  · obtain ⟨v1,z1,i1,z2,z3,z4,z5⟩:=q
    exact ⟨v1,z1,i1,z2,z3,z4,fun z=>m _ _ (z5 z)⟩
  refine ⟨_,rfl,_,rfl,.int k,v,st,.int k,d,rfl,Dt.int _ _ _,(fun hw=>?_),fun k' e _ _=>?_⟩
  · have hw':(decide ((1:Int) <= k) && decide (k <= 4))=false:=hw
    rw [decide_eq_true k1,decide_eq_true k4] at hw'
    cases hw'
  cases e
  refine ⟨hd,ok.1,ok.2,fun H1 g1=>⟨_,rfl,?_⟩⟩
  cases hw:ruleD k d with
  | true=>exact iteF (q1 hw H1 g1)
  | false=>exact iteT ⟨_,rfl,k,rfl,(sm_k k1 k4).1,(sm_k k1 k4).2,fun z=>q2 hw H1 g1⟩
def sp_nur (ec:Nat->Addr):Sp:=fun vs H Q E=>∃ (u v:V) (st:Addr) (d e:PyData),vs=[u,v]/\Dt st H d u/\short d/\Dt st H e v/\ok2 e/\(urnD 20 d=false->∀ H',Same H H'->E (.ref (ec 0)) none H') /\
  (urnD 20 d=true->ruleD (lenD d) e=false->∀ H',Same H H'->E (.ref (ec 1)) none H')/\(urnD 20 d=true->ruleD (lenD d) e=true->∀ H',Same H H'->Q .non H')
abbrev s_nur:Stmt:=top 27
theorem sc_nur:FnScope ["urn","rule"] ["urn","rule"] (defScope s_nur):=⟨rfl,rfl,rfl,by decide +kernel,rfl,by decide +kernel,by decide +kernel⟩
theorem ok_nur (F:Fun K "need_urn_and_rule" "need_urn_and_rule" s_nur f fd) (B:Bt mg) (c1:CalX P w K mg base 5 "need_urn" ["thing"] (sp_need_urn ec)) (c2:CalX P w K mg base 4 "need_rule" ["kinds","thing"] (sp_need_rule ec)):FnOk P w K mg base (CX1 P w) 6 f fd ["urn","rule"] (sp_nur ec):=by
  refine F.okX sc_nur (fun vs H Q E h=>?_) (fun cdv A outer s H vs Q E hr h=>?_)
  · obtain ⟨u,v,st,d,e,rfl,_⟩:=h
    rfl
  obtain ⟨u,v,st,d,e,rfl,hu,hus,hv,hvo,q0,q1,q2⟩:=h
  refine ⟨_,pss_cons (ps_expr (pe_calx c1 hr rfl passes1 (pa_cons (pv 0) pa_nil))) (pss_one (ps_expr (pe_calx (c2.up (by decide)) hr rfl passes1 (pa_cons (pe_callB call_len_seq rfl B.len PySem.boot_len (pa_cons (pv 0) pa_nil)) (pa_cons (pv 1) pa_nil))))),?_⟩
  refine ⟨_,rfl,u,st,d,rfl,hu,hus,fun hw H1 g1=>?_,q0⟩
  obtain ⟨ns,e1,l1,l4,_⟩:=urnD_true hw
  subst e1
  obtain ⟨a,e2,_,ha⟩:=hu.di
  subst e2
  have q1':=q1 hw
  have q2':=q2 hw
  rw [lenD_DI] at q1' q2'
  refine ⟨_,rfl,a,_,rfl,.inr (.of (g1 _ _ ha)),_,rfl,v,st,e,(ns.length:Int),?_,by omega,by omega,hv.kp (g1.kp st),hvo,fun hr2 H2 g2=>q2' hr2 H2 (g1.trans g2),fun hr2 H2 g2=>q1' hr2 H2 (g1.trans g2)⟩
  rw [List.length_map]
def sp_gd:Sp:=fun vs H Q _=>∃ x y:Int,vs=[.int x,.int y]/\0 <= x/\0 <= y/\Q (.int (Int.gcd x y:Nat)) H
abbrev s_gd:Stmt:=top 13
theorem sc_gd:FnScope ["one","other"] ["one","other"] (defScope s_gd):=⟨rfl,rfl,rfl,by decide +kernel,rfl,by decide +kernel,by decide +kernel⟩
theorem ok_gd (F:Fun K "greatest_divisor" "greatest_divisor" s_gd f fd) (B:Bt mg):FnOk P w K mg base CX0 1 f fd ["one","other"] sp_gd:=by
  refine F.ok sc_gd (fun vs H Q E h=>?_) (fun cdv A outer s H vs Q E hr h=>?_)
  · obtain ⟨x,y,rfl,_⟩:=h
    rfl
  obtain ⟨x,y,rfl,hx,hy,q⟩:=h
  refine ⟨_,pss_cons (ps_while PassesOwn.never (pt_cmpR op_ne (pv 1) pe_int (nomark _)) (pss_one (ps_par (i:=0) (j:=1) rfl sc_gd.nd rfl rfl (by decide) rfl rfl (pa_cons (pv 1) (pa_cons (pe_op op_mod (pv 0) (pv 1)) pa_nil)) rfl)))
    (pss_one (ps_ret (pe_callB call_abs rfl B.abs boot_abs (pa_cons (pv 0) pa_nil)))),?_⟩
  refine ⟨fun m σ H2=>H2=H/\∃ x' y':Int,0 <= x'/\0 <= y'/\σ=[some (.int x'),some (.int y')]/\m=y'.toNat/\Int.gcd x' y'=Int.gcd x y,⟨_,rfl,x,y,hx,hy,rfl,rfl,rfl⟩,?_⟩
  rintro m σ H2 ⟨rfl,x',y',h1,h2,rfl,rfl,e⟩
  refine ⟨_,rfl,rfl,_,rfl,?_⟩
  by_cases hz:y'=0
  · subst hz
    rw [decide_eq_true rfl]
    refine iteF ⟨_,rfl,x',rfl,?_⟩
    have e2:(if x' < 0 then -x' else x')=((Int.gcd x y:Nat):Int):=by
      rw [<- e,Int.gcd_zero_right]
      split <;> omega
    rw [e2];exact q
  · rw [decide_eq_false (show ¬ V.int y'=V.int 0 from fun z=>hz (by injection z))]
    refine iteT ⟨fun σ' H'=>H'=H2/\∃ a b:Int,0 <= a/\0 <= b/\σ'=[some (.int a),some (.int b)]/\b.toNat < y'.toNat/\Int.gcd a b=Int.gcd x y,?_,?_⟩
    · rintro σ' H' ⟨rfl,a,b,ha,hb,rfl,hlt,e2⟩
      exact ⟨_,hlt,rfl,a,b,ha,hb,rfl,rfl,e2⟩
    · have hm:=Int.emod_nonneg x' (show y' ≠ 0 from hz)
      have hm2:=Int.emod_lt_of_pos x' (show 0 < y' by omega)
      refine ⟨_,rfl,_,rfl,_,rfl,_,_,rfl,rfl,(by omega),_,_,rfl,?_⟩
      exact ⟨rfl,y',x' % y',h2,hm,rfl,by omega,by rw [gcd_step h1 (by omega)];exact e⟩
def sp_fraction:Sp:=fun vs H Q _=>∃ t b:Int,vs=[.int t,.int b]/\0 <= t/\0 < b/\b.natAbs.log2 < 9000/\∀ p H',Same H H'->H' p=some (.tup ((fr (cut t b)).map V.int))->Q (.ref p) H'
abbrev s_fraction:Stmt:=top 14
theorem sc_fraction:FnScope ["top","bottom","divisor"] ["top","bottom"] (defScope s_fraction):=⟨rfl,rfl,rfl,by decide +kernel,rfl,by decide +kernel,by decide +kernel⟩
theorem gcd_log {t b:Int} (hb:0 < b) (h:b.natAbs.log2 < 9000):0 < ((Int.gcd t b:Nat):Int)/\((Int.gcd t b:Nat):Int).natAbs.log2 < 9000:=by
  have h0:0 < Int.gcd t b:=Int.gcd_pos_of_ne_zero_right _ (by omega)
  refine ⟨by omega,?_⟩
  rw [Int.natAbs_natCast]
  have l:Int.gcd t b <= b.natAbs:=Nat.le_of_dvd (by omega) (Nat.gcd_dvd_right _ _)
  rw [Nat.log2_lt (by omega)] at h ⊢
  omega
theorem ok_fraction (F:Fun K "fraction" "fraction" s_fraction f fd) (c1:Cal P w K mg base 1 "greatest_divisor" ["one","other"] sp_gd):FnOk P w K mg base CX0 2 f fd ["top","bottom"] sp_fraction:=by
  refine F.ok sc_fraction (fun vs H Q E h=>?_) (fun cdv A outer s H vs Q E hr h=>?_)
  · obtain ⟨x,y,rfl,_⟩:=h
    rfl
  obtain ⟨t,b,rfl,ht,hb,hlog,q⟩:=h
  refine ⟨_,pss_cons (ps_set (i:=2) sc_fraction.nd rfl (Or.inl rfl) (pe_cal c1 hr rfl (pa_cons (pv 0) (pa_cons (pv 1) pa_nil))))
    (pss_one (ps_ret (pe_tup (pa_cons (pe_op op_fdivB (pv 0) (pv 2)) (pa_cons (pe_op op_fdivB (pv 1) (pv 2)) pa_nil))))),?_⟩
  have g:=gcd_log (t:=t) hb hlog
  refine ⟨_,rfl,_,rfl,t,b,rfl,ht,by omega,?_⟩
  refine ⟨_,rfl,_,rfl,_,_,rfl,rfl,g,_,rfl,_,rfl,_,_,rfl,rfl,g,(by show 2 <= sizeLine;decide),fun p hp=>?_⟩
  refine q p _ (Same.new hp) ?_
  rw [upd_same,fr_cut hb];rfl
def sp_times:Sp:=fun vs H Q _=>∃ (p q:Addr) (x y:Rat) (n m:Nat),vs=[.ref p,.ref q]/\H p=some (.tup ((fr x).map V.int))/\H q=some (.tup ((fr y).map V.int))/\0 <= x.num/\0 <= y.num/\Bd n x/\Bd m y/\n + m <= 8000 /\
  ∀ r H',Same H H'->H' r=some (.tup ((fr (x * y)).map V.int))->Q (.ref r) H'
abbrev s_times:Stmt:=top 16
theorem sc_times:FnScope ["one","other"] ["one","other"] (defScope s_times):=⟨rfl,rfl,rfl,by decide +kernel,rfl,by decide +kernel,by decide +kernel⟩
theorem ok_times (F:Fun K "times" "times" s_times f fd) (c1:Cal P w K mg base 2 "fraction" ["top","bottom"] sp_fraction):FnOk P w K mg base CX0 3 f fd ["one","other"] sp_times:=by
  refine F.ok sc_times (fun vs H Q E h=>?_) (fun cdv A outer s H vs Q E hr h=>?_)
  · obtain ⟨p,q,x,y,n,m,rfl,_⟩:=h
    rfl
  obtain ⟨p,q,x,y,n,m,rfl,hp,hq,x0,y0,bx,by',hnm,k⟩:=h
  refine ⟨_,pss_one (ps_ret (pe_cal c1 hr rfl (pa_cons (pe_op op_mulB (pe_ix ix_tup (pv 0) pe_int (fun _ _=>rfl)) (pe_ix ix_tup (pv 1) pe_int (fun _ _=>rfl))) (pa_cons (pe_op op_mulB (pe_ix ix_tup (pv 0) pe_int (fun _ _=>rfl)) (pe_ix ix_tup (pv 1) pe_int (fun _ _=>rfl))) pa_nil)))),?_⟩
  have hp':H p=some (.tup [.int x.num,.int x.den]):=hp
  have hq':H q=some (.tup [.int y.num,.int y.den]):=hq
  have b1:Builtin.Int.intBits x.num <= 2 ^ 20:=bits_of bx.num (by omega)
  have b2:Builtin.Int.intBits y.num <= 2 ^ 20:=bits_of by'.num (by omega)
  have b3:Builtin.Int.intBits (x.den:Int) <= 2 ^ 20:=bits_of (by rw [Int.natAbs_natCast];exact bx.den) (by omega)
  have b4:Builtin.Int.intBits (y.den:Int) <= 2 ^ 20:=bits_of (by rw [Int.natAbs_natCast];exact by'.den) (by omega)
  refine ⟨_,rfl,p,_,_,_,rfl,rfl,.of hp',atI_nat (j:=0) rfl,_,rfl,q,_,_,_,rfl,rfl,.of hq',atI_nat (j:=0) rfl,_,_,rfl,rfl,⟨b1,b2⟩,
    _,rfl,p,_,_,_,rfl,rfl,.of hp',atI_nat (j:=1) rfl,_,rfl,q,_,_,_,rfl,rfl,.of hq',atI_nat (j:=1) rfl,_,_,rfl,rfl,⟨b3,b4⟩,_,_,rfl,Int.mul_nonneg x0 y0,?_,?_,?_⟩
  · have h1:=x.den_nz;have h2:=y.den_nz
    have:=Nat.mul_pos (Nat.pos_of_ne_zero h1) (Nat.pos_of_ne_zero h2)
    rw [<- Int.natCast_mul];omega
  · rw [Nat.log2_lt (by have h1:=x.den_nz;have h2:=y.den_nz;rw [Int.natAbs_mul];exact Nat.mul_ne_zero (by omega) (by omega)),Int.natAbs_mul]
    refine Nat.lt_of_le_of_lt (Nat.mul_le_mul bx.den by'.den) ?_
    rw [<- Nat.pow_add]
    exact Nat.pow_lt_pow_right (by decide) (by omega)
  · rw [cut_mul];exact k
def sp_plus:Sp:=fun vs H Q _=>∃ (p q:Addr) (x y:Rat) (n m:Nat),vs=[.ref p,.ref q]/\H p=some (.tup ((fr x).map V.int))/\H q=some (.tup ((fr y).map V.int))/\0 <= x.num/\0 <= y.num/\Bd n x/\Bd m y/\n + m <= 8000 /\
  ∀ r H',Same H H'->H' r=some (.tup ((fr (x + y)).map V.int))->Q (.ref r) H'
abbrev s_plus:Stmt:=top 15
theorem sc_plus:FnScope ["one","other"] ["one","other"] (defScope s_plus):=⟨rfl,rfl,rfl,by decide +kernel,rfl,by decide +kernel,by decide +kernel⟩
theorem ok_plus (F:Fun K "plus" "plus" s_plus f fd) (c1:Cal P w K mg base 2 "fraction" ["top","bottom"] sp_fraction):FnOk P w K mg base CX0 3 f fd ["one","other"] sp_plus:=by
  refine F.ok sc_plus (fun vs H Q E h=>?_) (fun cdv A outer s H vs Q E hr h=>?_)
  · obtain ⟨p,q,x,y,n,m,rfl,_⟩:=h
    rfl
  obtain ⟨p,q,x,y,n,m,rfl,hp,hq,x0,y0,bx,by',hnm,k⟩:=h
  refine ⟨_,pss_one (ps_ret (pe_cal c1 hr rfl (pa_cons (pe_op op_add (pe_op op_mulB (pe_ix ix_tup (pv 0) pe_int (fun _ _=>rfl)) (pe_ix ix_tup (pv 1) pe_int (fun _ _=>rfl))) (pe_op op_mulB (pe_ix ix_tup (pv 1) pe_int (fun _ _=>rfl)) (pe_ix ix_tup (pv 0) pe_int (fun _ _=>rfl)))) (pa_cons (pe_op op_mulB (pe_ix ix_tup (pv 0) pe_int (fun _ _=>rfl)) (pe_ix ix_tup (pv 1) pe_int (fun _ _=>rfl))) pa_nil)))),?_⟩
  have hp':H p=some (.tup [.int x.num,.int x.den]):=hp
  have hq':H q=some (.tup [.int y.num,.int y.den]):=hq
  have b1:Builtin.Int.intBits x.num <= 2 ^ 20:=bits_of bx.num (by omega)
  have b2:Builtin.Int.intBits y.num <= 2 ^ 20:=bits_of by'.num (by omega)
  have b3:Builtin.Int.intBits (x.den:Int) <= 2 ^ 20:=bits_of (by rw [Int.natAbs_natCast];exact bx.den) (by omega)
  have b4:Builtin.Int.intBits (y.den:Int) <= 2 ^ 20:=bits_of (by rw [Int.natAbs_natCast];exact by'.den) (by omega)
  refine ⟨_,rfl,p,_,_,_,rfl,rfl,.of hp',atI_nat (j:=0) rfl,_,rfl,q,_,_,_,rfl,rfl,.of hq',atI_nat (j:=1) rfl,_,_,rfl,rfl,⟨b1,b4⟩,
    _,rfl,q,_,_,_,rfl,rfl,.of hq',atI_nat (j:=0) rfl,_,rfl,p,_,_,_,rfl,rfl,.of hp',atI_nat (j:=1) rfl,_,_,rfl,rfl,⟨b2,b3⟩,_,_,rfl,rfl,
    _,rfl,p,_,_,_,rfl,rfl,.of hp',atI_nat (j:=1) rfl,_,rfl,q,_,_,_,rfl,rfl,.of hq',atI_nat (j:=1) rfl,_,_,rfl,rfl,⟨b3,b4⟩,_,_,rfl,?_,?_,?_,?_⟩
  · exact Int.add_nonneg (Int.mul_nonneg x0 (by omega)) (Int.mul_nonneg y0 (by omega))
  · have h1:=x.den_nz;have h2:=y.den_nz
    have:=Nat.mul_pos (Nat.pos_of_ne_zero h1) (Nat.pos_of_ne_zero h2)
    rw [<- Int.natCast_mul];omega
  · rw [Nat.log2_lt (by have h1:=x.den_nz;have h2:=y.den_nz;rw [Int.natAbs_mul];exact Nat.mul_ne_zero (by omega) (by omega)),Int.natAbs_mul]
    refine Nat.lt_of_le_of_lt (Nat.mul_le_mul bx.den by'.den) ?_
    rw [<- Nat.pow_add]
    exact Nat.pow_lt_pow_right (by decide) (by omega)
  · rw [cut_add];exact k
def sp_total:Sp:=fun vs H Q _=>∃ (a:Addr) (ys:List V) (xs:List Rat) (N B n:Nat),vs=[.ref a]/\H a=some (.lst ys)/\FrL H xs ys/\(∀ x ∈ xs,Vq N B x)/\0 < N/\N * (B * xs.length + B) <= 2 ^ n/\N <= 2 ^ n/\n <= 4000 /\
  ∀ r H',Same H H'->H' r=some (.tup ((fr (sumQ xs)).map V.int))->Q (.ref r) H'
abbrev s_total:Stmt:=top 17
theorem sc_total:FnScope ["fractions","so_far","part"] ["fractions"] (defScope s_total):=⟨rfl,rfl,rfl,by decide +kernel,rfl,by decide +kernel,by decide +kernel⟩
theorem ok_total (F:Fun K "total" "total" s_total f fd) (c1:Cal P w K mg base 3 "plus" ["one","other"] sp_plus):FnOk P w K mg base CX0 4 f fd ["fractions"] sp_total:=by
  refine F.ok sc_total (fun vs H Q E h=>?_) (fun cdv A outer s H vs Q E hr h=>?_)
  · obtain ⟨a,ys,xs,N,B,n,rfl,_⟩:=h
    rfl
  obtain ⟨a,ys,xs,N,B,n,rfl,ha,hx,hv,h0,h1,h2,hn,q⟩:=h
  refine ⟨_,pss_cons (ps_set (i:=1) sc_total.nd rfl (Or.inl rfl) (pe_tup (pa_cons pe_int (pa_cons pe_int pa_nil))))
    (pss_cons (ps_for PassesOwn.never rfl (pi_list (pv 0)) (pg_name (i:=2) sc_total.nd rfl (Or.inl rfl))
      (pss_one (ps_set (i:=1) sc_total.nd rfl (Or.inl rfl) (pe_cal c1 hr rfl (pa_cons (pv 1) (pa_cons (pv 2) pa_nil))))))
    (pss_one (ps_ret (pv 1)))),?_⟩
  refine ⟨(by show 2 <= sizeLine;decide),fun c hc=>?_⟩
  have s2:Same H (upd H c (.tup [.int 0,.int 1])):=Same.new hc
  refine ⟨_,rfl,a,rfl,⟨_,.of (s2 _ _ ha)⟩,?_⟩
  refine for_list (K:=K) (a:=a) (xs:=ys) (fun i σ H2=>Same H H2/\i <= ys.length/\∃ c o,σ=[some (.ref a),some (.ref c),o]/\H2 c=some (.tup ((fr (sumQ (xs.take i))).map V.int)))
    ⟨s2,Nat.zero_le _,c,none,rfl,upd_same⟩ (fun i σ H2 _ h=>.of (h.1 _ _ ha)) (fun i t σ H2 ht h=>?_) (fun σ H2 h=>?_)
  · obtain ⟨g2,hi,c,o,rfl,hc2⟩:=h
    obtain ⟨x,ex,q',rfl,hq'⟩:=hx.get ht
    have hil:=(List.getElem?_eq_some_iff.mp ex).1
    have v1:Vq N B x:=hv x (List.mem_of_getElem? ex)
    have v2:Vq N (B * xs.length) (sumQ (xs.take i)):=(sumQ_vq fun y hy=>hv y (List.mem_of_mem_take hy)).mono (Nat.mul_le_mul_left _ (by rw [List.length_take];omega))
    have d1:Bd n x:=v1.bd h0 (Nat.le_trans (Nat.mul_le_mul_left _ (Nat.le_add_left _ _)) h1) h2
    have d2:Bd n (sumQ (xs.take i)):=v2.bd h0 (Nat.le_trans (Nat.mul_le_mul_left _ (Nat.le_add_right _ _)) h1) h2
    refine ⟨_,rfl,_,rfl,c,q',sumQ (xs.take i),x,n,n,rfl,hc2,g2 _ _ hq',Rat.num_nonneg.mpr v2.nn,Rat.num_nonneg.mpr v1.nn,d2,d1,by omega,fun r H3 g3 hr3=>⟨g2.trans g3,(List.getElem?_eq_some_iff.mp ht).1,r,_,rfl,?_⟩⟩
    rw [List.take_add_one,ex]
    show _=some (HO.tup ((fr (sumQ (xs.take i ++ [x]))).map V.int))
    rw [sumQ_snoc];exact hr3
  · obtain ⟨g2,_,c,o,rfl,hc2⟩:=h
    rw [hx.len,List.take_length] at hc2
    exact ⟨_,rfl,q c H2 g2 hc2⟩
def sp_share:Sp:=fun vs H Q _=>∃ (a:Addr) (n m:Nat) (ns:List Int) (k:Nat),vs=[.ref a,.int k]/\H a=some (.tup (ns.map V.int))/\Mt.Urn n m ns/\n <= 4/\m <= 1000/\k < n/\∀ p H',Same H H'->H' p=some (.tup ((fr (Mt.share ns k)).map V.int))->Q (.ref p) H'
abbrev s_share:Stmt:=top 29
theorem sc_share:FnScope ["urn","kind"] ["urn","kind"] (defScope s_share):=⟨rfl,rfl,rfl,by decide +kernel,rfl,by decide +kernel,by decide +kernel⟩
theorem ok_share (F:Fun K "share" "share" s_share f fd) (B:Bt mg) (c1:Cal P w K mg base 2 "fraction" ["top","bottom"] sp_fraction):FnOk P w K mg base CX0 3 f fd ["urn","kind"] sp_share:=by
  refine F.ok sc_share (fun vs H Q E h=>?_) (fun cdv A outer s H vs Q E hr h=>?_)
  · obtain ⟨a,n,m,ns,k,rfl,_⟩:=h
    rfl
  obtain ⟨a,n,m,ns,k,rfl,ha,hu,h4,hm,hk,q⟩:=h
  refine ⟨_,pss_one (ps_ret (pe_cal c1 hr rfl (pa_cons (pe_ix ix_tup (pv 0) (pv 1) (fun _ _=>rfl)) (pa_cons (pe_callB (call_sum_seq rfl) rfl B.sum boot_sum (pa_cons (pv 0) pa_nil)) pa_nil)))),?_⟩
  have h2:=Urn.sum_le hu h4
  have h3:=hu.pos
  refine ⟨_,rfl,_,rfl,a,_,_,_,rfl,rfl,.of ha,atI_int (by rw [hu.len];exact hk),_,rfl,a,ns,rfl,.inr (.of ha),_,_,rfl,(hu.getD k).1,h3,log_of (n:=12) h3 (by show _ <= 4096;omega) (by omega),q⟩
def sp_put_in:Sp:=fun vs H Q _=>∃ (a st:Addr) (v:V) (n j:Nat) (ns:List Int) (rs:List (List Int)) (k:Nat),vs=[.ref a,v,.int k]/\H a=some (.tup (ns.map V.int))/\ns.length=n/\Dt st H (DR rs) v/\Mt.Rul n j rs/\n <= 4/\k < n /\
  ∀ p H',Same H H'->H' p=some (.tup ((addL ns (rs.getD k [])).map V.int))->Q (.ref p) H'
abbrev s_put_in:Stmt:=top 30
theorem sc_put_in:FnScope ["urn","rule","kind"] ["urn","rule","kind"] (defScope s_put_in):=⟨rfl,rfl,rfl,by decide +kernel,rfl,by decide +kernel,by decide +kernel⟩
theorem ok_put_in (F:Fun K "put_in" "put_in" s_put_in f fd) (B:Bt mg):FnOk P w K mg base CX0 1 f fd ["urn","rule","kind"] sp_put_in:=by
  refine F.ok sc_put_in (fun vs H Q E h=>?_) (fun cdv A outer s H vs Q E hr h=>?_)
  · obtain ⟨a,st,v,n,j,ns,rs,k,rfl,_⟩:=h
    rfl
  obtain ⟨a,st,v,n,j,ns,rs,k,rfl,ha,hn,hd,hru,h4,hk,q⟩:=h
  refine ⟨_,pss_one (ps_ret (pe_callTy call_tuple_of rfl B.tuple boot_tuple (pa_cons (pe_compG (N:=["balls","more"]) (ix:=[none,none]) (ifs:=[]) (tc:=tTrue) rfl
      (pi_zip rfl B.zip (pa_cons (pv 0) (pa_cons (pe_ix ix_tup (pv 1) (pv 2) (fun _ _=>rfl)) pa_nil)))
      (fun s H ex=>pgtK (K:=K) (n:=2) rfl rfl (pgs_cons (pg_c (i:=0) (by decide +kernel) rfl (Or.inl rfl) (.inr rfl)) (pgs_cons (pg_c (i:=1) (by decide +kernel) rfl (Or.inl rfl) (.inr rfl)) pgs_nil))) (fun s H ex=>pifs_nil)
      (fun s H ex=>pe_op op_add (pv 0) (pv 1)) rfl (by decide +kernel) (by rfl) (by rfl) (fun _=>rfl)) pa_nil))),?_⟩
  obtain ⟨r,xs,b,e,hr2,hx,hb⟩:=dr_row hd (by rw [hru.len];exact hk)
  subst e
  have hrow:=hru.at hk
  generalize hrw:rs.getD k []=row at *
  refine ⟨_,rfl,_,rfl,_,rfl,r,_,_,_,rfl,rfl,.of hr2,atI_nat hx,a,b,_,_,rfl,.of ha,.of hb,?_⟩
  have l1:ns.length=row.length:=by rw [hn,hrow.len]
  refine blk_zip (K:=K) (a:=a) (b:=b) (xs:=ns.map V.int) (ys:=row.map V.int) (sz (by rw [List.length_map];omega)) (by rw [List.length_map,List.length_map];exact l1)
    (fun i zs H2=>Same H H2/\i <= n/\zs=((addL ns row).take i).map V.int) ⟨Same.refl H,Nat.zero_le _,rfl⟩ (fun i zs H2 h=>?_) (fun i zs H2 _ h=>⟨.of (h.1 _ _ ha),.of (h.1 _ _ hb)⟩) ⟨rfl,rfl⟩ (fun i zs H2 x y p hx hy hp h=>?_) (fun zs H2 h=>?_)
  · obtain ⟨_,hil,rfl⟩:=h
    have:(addL ns row).length=n:=by unfold addL;rw [List.length_zipWith,<- l1,hn];omega
    rw [List.length_map,List.length_take,this];omega
  · obtain ⟨hS,hil,rfl⟩:=h
    have hi:i < ns.length:=by have:=(List.getElem?_eq_some_iff.mp hx).1;rwa [List.length_map] at this
    have hi2:i < row.length:=by omega
    rw [List.getElem?_map,List.getElem?_eq_getElem hi] at hx
    rw [List.getElem?_map,List.getElem?_eq_getElem hi2] at hy
    cases hx
    cases hy
    refine ⟨_,rfl,_,rfl,_,_,rfl,rfl,hS.trans (Same.new hp),by omega,?_⟩
    have e:(addL ns row)[i]?=some (ns[i] + row[i]):=by
      unfold addL;rw [List.getElem?_zipWith,List.getElem?_eq_getElem hi,List.getElem?_eq_getElem hi2]
    rw [List.take_add_one,e,List.map_append];rfl
  · obtain ⟨hS,hil,rfl⟩:=h
    intro p hp
    refine ⟨p,_,rfl,.inl ⟨.of upd_same,fun l hl=>?_⟩⟩
    refine q l _ ((hS.trans (Same.new hp)).trans (Same.new hl)) ?_
    rw [upd_same,List.length_map]
    have:(addL ns row).length=ns.length:=by unfold addL;rw [List.length_zipWith,<- l1];omega
    rw [<- this,List.take_length]
def sp_own_urn:Sp:=fun vs H Q _=>∃ (a:Addr) (xs:List V),vs=[.ref a]/\H a=some (.tup xs)/\∀ p H',Same H H'->H' p=some (.tup xs)->Q (.ref p) H'
abbrev s_own_urn:Stmt:=top 31
theorem sc_own_urn:FnScope ["urn"] ["urn"] (defScope s_own_urn):=⟨rfl,rfl,rfl,by decide +kernel,rfl,by decide +kernel,by decide +kernel⟩
theorem ok_own_urn (F:Fun K "own_urn" "own_urn" s_own_urn f fd) (B:Bt mg):FnOk P w K mg base CX0 1 f fd ["urn"] sp_own_urn:=by
  refine F.ok sc_own_urn (fun vs H Q E h=>?_) (fun cdv A outer s H vs Q E hr h=>?_)
  · obtain ⟨a,xs,rfl,_⟩:=h
    rfl
  obtain ⟨a,xs,rfl,ha,q⟩:=h
  refine ⟨_,pss_one (ps_ret (pe_callTy call_tuple_of rfl B.tuple boot_tuple (pa_cons (pe_callTy call_list_of rfl B.list boot_list (pa_cons (pv 0) pa_nil)) pa_nil))),?_⟩
  refine ⟨_,rfl,a,_,rfl,.inr (.of ha),fun l hl=>⟨l,_,rfl,.inl ⟨.of upd_same,fun p hp=>?_⟩⟩⟩
  exact q p _ ((Same.new hl).trans (Same.new hp)) upd_same
def sp_ubo:Sp:=fun vs H Q _=>∃ (a st:Addr) (v:V) (n:Nat) (ns:List Int) (rs:List (List Int)),vs=[.ref a,v]/\H a=some (.tup (ns.map V.int))/\ns.length=n/\Dt st H (DR rs) v/\Mt.Rul n 5 rs/\n <= 4 /\
  ∀ p H' ts,Same H H'->H' p=some (.lst ts)->PrsAt H' (ubo rs ns) ts->Q (.ref p) H'
abbrev s_ubo:Stmt:=top 36
theorem sc_ubo:FnScope ["urn","rule"] ["urn","rule"] (defScope s_ubo):=⟨rfl,rfl,rfl,by decide +kernel,rfl,by decide +kernel,by decide +kernel⟩
theorem ok_ubo (F:Fun K "urns_behind_one" "urns_behind_one" s_ubo f fd) (B3:Bt3 mg) (c1:Cal P w K mg base 1 "put_in" ["urn","rule","kind"] sp_put_in):FnOk P w K mg base CX0 2 f fd ["urn","rule"] sp_ubo:=by
  refine F.ok sc_ubo (fun vs H Q E h=>?_) (fun cdv A outer s H vs Q E hr h=>?_)
  · obtain ⟨a,st,v,n,ns,rs,rfl,_⟩:=h
    rfl
  obtain ⟨a,st,v,n,ns,rs,rfl,ha,hn,hv,hR,n4,q⟩:=h
  refine ⟨_,pss_one (ps_ret (pe_compG (N:=["kind","balls","urn","rule"]) (ix:=[none,none,some 0,some 1]) rfl
      (pi_enumT rfl B3.enumerate (pa_cons (pv 0) pa_nil))
      (fun s H ex=>pgtK (K:=K) (n:=2) rfl rfl (pgs_cons (pg_c (i:=0) (by decide +kernel) rfl (Or.inl rfl) (.inr rfl)) (pgs_cons (pg_c (i:=1) (by decide +kernel) rfl (Or.inl rfl) (.inr rfl)) pgs_nil)))
      (fun s H ex=>pifs_one (pt_cmpR op_gt (pv 1) pe_int (nomark _)))
      (fun s H ex=>pe_tup (pa_cons (pv 1) (pa_cons (pe_cal c1 hr rfl (pa_cons (pv 2) (pa_cons (pv 3) (pa_cons (pv 0) pa_nil)))) pa_nil))) rfl (by decide +kernel) (by rfl) (by rfl) (fun _=>rfl))),?_⟩
  refine ⟨_,rfl,a,_,rfl,.of ha,?_⟩
  refine blk_enum (K:=K) (a:=a) (xs:=ns.map V.int) (sz (by rw [List.length_map];omega)) (fun i ys H2=>Same H H2/\i <= n/\PrsAt H2 (uboL rs ns 0 (ns.take i)) ys) ⟨Same.refl H,Nat.zero_le _,rfl⟩ (fun i ys H2 h=>?_) (fun i ys H2 _ h=>.of (h.1 _ _ ha)) ⟨rfl,rfl⟩ (fun i ys H2 x p hx hp h=>?_) (fun ys H2 h=>?_)
  · obtain ⟨_,_,h2⟩:=h
    rw [h2.len]
    have:=len_uboL (rs:=rs) (u:=ns) (ns.take i) 0
    rw [List.length_take] at this
    omega
  · obtain ⟨g2,hi,h2⟩:=h
    rw [List.getElem?_map] at hx
    obtain ⟨b,hb,eb⟩:=Option.map_eq_some_iff.mp hx
    subst eb
    have hil:=(List.getElem?_eq_some_iff.mp hb).1
    have g3:=g2.trans (Same.new hp (o:=.tup [.int i,.int b]))
    have h3:=h2.mono (fun a xs e=>Same.new (o:=.tup [.int i,.int b]) hp _ _ e)
    generalize upd H2 p (.tup [.int i,.int b])=H3 at g3 h3
    have et:uboL rs ns 0 (ns.take (i + 1))=uboL rs ns 0 (ns.take i) ++ (if 0 < b then [(b,addL ns (rs.getD i []))] else []):=by
      rw [List.take_add_one,hb]
      show uboL rs ns 0 (ns.take i ++ [b])=_
      rw [uboL_snoc,List.length_take,Nat.zero_add,Nat.min_eq_left (by omega)]
    refine ⟨_,rfl,_,_,rfl,rfl,_,rfl,?_⟩
    by_cases hb0:0 < b
    · rw [if_pos hb0] at et
      rw [decide_eq_true (show b > 0 from hb0),if_pos rfl]
      refine ⟨_,rfl,_,rfl,_,rfl,_,rfl,a,st,v,n,5,ns,rs,i,rfl,g3 _ _ ha,hn,hv.kp (g3.kp st),hR,n4,by omega,fun w H4 g4 hw=>⟨(by show 2 <= sizeLine;decide),fun q' hq'=>⟨(g3.trans g4).trans (Same.new hq'),by omega,?_⟩⟩⟩
      rw [et]
      refine PrsAt.snoc (b:=(b,addL ns (rs.getD i []))) (w:=w) upd_same ?_ (h3.mono fun a xs e=>(g4.trans (Same.new hq')) _ _ e)
      exact Same.new hq' _ _ hw
    · rw [if_neg hb0,List.append_nil] at et
      rw [decide_eq_false (show ¬ b > 0 from hb0),if_neg Bool.false_ne_true]
      exact ⟨g3,by omega,by rw [et];exact h3⟩
  · obtain ⟨g2,_,h2⟩:=h
    intro p hp
    rw [List.length_map,List.take_length] at h2
    exact q p _ ys (g2.trans (Same.new hp)) upd_same (h2.mono fun a xs e=>Same.new hp _ _ e)
end
end G
namespace G
open PySem PySem.Spec PyProof.Rows L2 Mt Md Mq
def BQ (H:Hp):TabQ->List V->Prop
  | [],[]=>True
  | p :: T,y :: ys=>(∃ r ka q,y=.ref r/\H r=some (.tup [.ref ka,.ref q])/\H ka=some (.tup (p.1.map V.int))/\H q=some (.tup ((fr p.2).map V.int)))/\BQ H T ys
  | _,_=>False
theorem BQ.same {H H':Hp} (g:Same H H'):∀ {T:TabQ} {ys:List V},BQ H T ys->BQ H' T ys
  | [],[],_=>trivial
  | _ :: _,_ :: _,h=>⟨let ⟨r,ka,q,e,a,b,c⟩:=h.1;⟨r,ka,q,e,g _ _ a,g _ _ b,g _ _ c⟩,BQ.same g h.2⟩
  | [],_ :: _,h=>h.elim
  | _ :: _,[],h=>h.elim
theorem BQ.len {H:Hp}:∀ {T:TabQ} {ys:List V},BQ H T ys->ys.length=T.length
  | [],[],_=>rfl
  | _ :: _,_ :: _,h=>by rw [List.length_cons,List.length_cons,BQ.len h.2]
  | [],_ :: _,h=>h.elim
  | _ :: _,[],h=>h.elim
theorem BQ.get {H:Hp}:∀ {T:TabQ} {ys:List V} {i:Nat} {y:V},BQ H T ys->ys[i]?=some y->∃ p r ka q,T[i]?=some p/\y=.ref r/\H r=some (.tup [.ref ka,.ref q])/\H ka=some (.tup (p.1.map V.int))/\H q=some (.tup ((fr p.2).map V.int))
  | p :: _,_ :: _,0,_,h,e=>by
    obtain ⟨r,ka,q,e1,a,b,c⟩:=h.1
    cases e
    exact ⟨p,r,ka,q,rfl,e1,a,b,c⟩
  | _ :: _,_ :: _,i + 1,_,h,e=>BQ.get (i:=i) h.2 (by simpa using e)
  | [],[],_,_,_,e=>by simp at e
  | [],_ :: _,_,_,h,_=>h.elim
  | _ :: _,[],_,_,h,_=>h.elim
theorem BQ.of {H:Hp}:∀ {T:TabQ} {kvs:List (List Key × V)} {ys:List V},QE H T kvs->PrL H kvs ys->BQ H T ys
  | [],[],[],_,_=>trivial
  | p :: T,kv :: kvs,y :: ys,⟨a,⟨q,e,hq⟩,c⟩,h=>by
    obtain ⟨k,x⟩:=kv
    obtain ⟨r,ka,e1,h1,h2⟩:=h.1
    have a:k=kI p.1:=a
    have e:x=.ref q:=e
    subst a e
    rw [kI_kV] at h2
    exact ⟨⟨r,ka,q,e1,h1,h2,hq⟩,BQ.of c h.2⟩
  | [],[],_ :: _,_,h=>h.elim
  | [],_ :: _,_,h,_=>h.elim
  | _ :: _,[],_,h,_=>h.elim
  | _ :: _,_ :: _,[],_,h=>h.elim
theorem kp_tup {l:Addr} {H H':Hp} {o:HO} (hl:H l=some o) (ho:∀ xs,o ≠ .tup xs) (k:Kp l H H'):∀ a xs,H a=some (.tup xs)->H' a=some (.tup xs):=fun a xs e=>k a _ (fun z=>by rw [z,hl] at e;injection e with e;exact ho _ e) e
section
variable {P:Program} {w:World} {K:PySem.W.Frag} {mg:Str->Option Value} {base:Heap} {f:Addr} {fd:FuncData} {ec:Nat->Addr} {Bs:Addr}
def sp_nextc:Sp:=fun vs H Q _=>∃ (d st:Addr) (v:V) (n m N E:Nat) (T:TabQ) (kvs:List (List Key × V)) (rs:List (List Int)),vs=[.ref d,v]/\H d=some (.dT kvs)/\QE H T kvs/\KeysQ n m T/\m <= 50/\T.length <= 1024/\AllQ N E T/\0 < N/\N <= 2 ^ 1600/\E <= 2 ^ 60/\Dt st H (DR rs) v/\Mt.Rul n 5 rs/\n <= 4 /\
  ∀ p kvs' H',Kp d H H'->H p=none->H' p=some (.dT kvs')->QE H' (nextQ rs T) kvs'->Q (.ref p) H'
abbrev s_nextc:Stmt:=top 37
theorem sc_nextc:FnScope ["chances","rule","later","urn","so_far","balls","behind","part"] ["chances","rule"] (defScope s_nextc):=⟨rfl,rfl,rfl,by decide +kernel,rfl,by decide +kernel,by decide +kernel⟩
theorem ok_nextc (F:Fun K "next_chances" "next_chances" s_nextc f fd) (B:Bt mg) (c1:Cal P w K mg base 2 "urns_behind_one" ["urn","rule"] sp_ubo) (c2:Cal P w K mg base 3 "times" ["one","other"] sp_times) (c3:Cal P w K mg base 2 "fraction" ["top","bottom"] sp_fraction) (c4:Cal P w K mg base 3 "plus" ["one","other"] sp_plus):FnOk P w K mg base CX0 4 f fd ["chances","rule"] sp_nextc:=by
  refine F.ok sc_nextc (fun vs H Q E h=>?_) (fun cdv A outer s H vs Q E hr h=>?_)
  · obtain ⟨d,st,v,n,m,N,E,T,kvs,rs,rfl,_⟩:=h
    rfl
  obtain ⟨d,st,v,n,m,N,En,T,kvs,rs,rfl,hd,hQ,hK,hm,hT,hE,hN0,hN,hEn,hv,hR,n4,q⟩:=h
  refine ⟨_,pss_cons (ps_set (i:=2) sc_nextc.nd rfl (Or.inl rfl) pe_dnewT)
    (pss_cons (ps_for PassesOwn.never rfl (pi_items (pv 0)) (pg_tup rfl (pgs_cons (pg_name (i:=3) sc_nextc.nd rfl (Or.inl rfl)) (pgs_cons (pg_name (i:=4) sc_nextc.nd rfl (Or.inl rfl)) pgs_nil)))
      (pss_one (ps_for PassesOwn.never rfl (pi_list (pe_cal (c1.up (by decide)) hr rfl (pa_cons (pv 3) (pa_cons (pv 1) pa_nil)))) (pg_tup rfl (pgs_cons (pg_name (i:=5) sc_nextc.nd rfl (Or.inl rfl)) (pgs_cons (pg_name (i:=6) sc_nextc.nd rfl (Or.inl rfl)) pgs_nil)))
        (pss_cons (ps_set (i:=7) sc_nextc.nd rfl (Or.inl rfl) (pe_cal c2 hr rfl (pa_cons (pv 4) (pa_cons (pe_cal (c3.up (by decide)) hr rfl (pa_cons (pv 5) (pa_cons (pe_callB (call_sum_seq rfl) rfl B.sum boot_sum (pa_cons (pv 3) pa_nil)) pa_nil))) pa_nil))))
        (pss_one (ps_dput (hu_of hr) (pv 2) (pv 6) (pe_cal c4 hr rfl (pa_cons (pe_dget2 (hu_of hr) (pv 2) (pv 6) (pe_tup (pa_cons pe_int (pa_cons pe_int pa_nil))) ⟨rfl,rfl,rfl,rfl⟩) (pa_cons (pv 7) pa_nil))) rfl))))))
    (pss_one (ps_ret (pv 2)))),?_⟩
  have hv0:=Dt_toD hd hv
  have hpos:∀ p ∈ T,(∀ b ∈ p.1,0 <= b)/\0 < p.1.sum:=fun p hp=>⟨fun b hb=>((hK p hp).nn b hb).1,(hK p hp).pos⟩
  intro lt hlt
  have nlt:d ≠ lt:=ne_of_none hd hlt
  have nfz:∀ (o:Obj) (ps:List (List Key × V)) xs,HO.frz o (.dT ps) ≠ .tup xs:=fun _ _ _ z=>by cases z
  have ndt:∀ (ps:List (List Key × V)) xs,HO.dT ps ≠ .tup xs:=fun _ _ z=>by cases z
  refine ⟨_,rfl,d,kvs,rfl,(by rw [upd_ne nlt];exact hd),fun o=>?_⟩
  have k0:Kp d H (upd (upd H lt (.dT [])) d (.frz o (.dT kvs))):=fun b u nb e=>by rw [upd_ne nb,upd_ne (ne_of_none e hlt)];exact e
  refine for_items (o:=o) (fun i σ H2=>Kp d H H2/\H2 d=some (.frz o (.dT kvs))/\(∃ ks,H2 lt=some (.dT ks)/\QE H2 (nextLQ rs (T.take i) []) ks)/\i <= T.length/\∃ o3 o4 o5 o6 o7,σ=[some (.ref d),some v,some (.ref lt),o3,o4,o5,o6,o7])
    ⟨k0,upd_same,⟨[],by rw [upd_ne nlt.symm,upd_same],trivial⟩,Nat.zero_le _,none,none,none,none,none,rfl⟩ (fun i σ H2 _ h=>h.2.1) (fun i k x σ H2 p ka hx hp hka h=>?_) (fun σ H2 h=>?_)
  · obtain ⟨k2,hd2,⟨ks2,hl2,hq2⟩,hi,o3,o4,o5,o6,o7,rfl⟩:=h
    obtain ⟨um,hum,ek,xq,ex,hxq⟩:=hQ.get hx
    subst ek ex
    obtain ⟨u,mm⟩:=um
    simp only at hka hxq
    have hil:=(List.getElem?_eq_some_iff.mp hum).1
    have hku:Mt.Urn n m u:=hK (u,mm) (List.mem_of_getElem? hum)
    have hmm:Vq N En mm:=hE (u,mm) (List.mem_of_getElem? hum)
    rw [kI_kV] at hka
    refine ⟨p,_,rfl,.of upd_same,rfl,_,_,rfl,_,_,rfl,rfl,?_⟩
    have g3:Same H2 (upd H2 p (.tup [.ref ka,.ref xq])):=Same.new hp
    show tFor _ _ _ _ _ (upd H2 p (.tup [.ref ka,.ref xq]))
    generalize upd H2 p (.tup [.ref ka,.ref xq])=H3 at g3
    have k3:Kp d H H3:=k2.trans (g3.kp d)
    refine ⟨_,rfl,_,rfl,ka,d,v,n,u,rs,rfl,g3 _ _ hka,hku.len,hv0.kp k3,hR,n4,fun pl H4 ts g4 hpl hts=>⟨pl,rfl,⟨_,.of hpl⟩,?_⟩⟩
    have k4:Kp d H H4:=k3.trans (g4.kp d)
    have hl4:=g4 _ _ (g3 _ _ hl2)
    have hd4:=g4 _ _ (g3 _ _ hd2)
    have hq4:QE H4 (nextLQ rs (T.take i) []) ks2:=hq2.mono fun a xs e=>g4 _ _ (g3 _ _ e)
    have hx4:H4 xq=some (.tup ((fr mm).map V.int)):=kp_tup hd (ndt _) k4 _ _ hxq
    have hka4:H4 ka=some (.tup (u.map V.int)):=g4 _ _ (g3 _ _ hka)
    obtain ⟨kk1,kk2,kk3,kk4⟩:=nextL_okQ (D:=[]) (B:=0) hR n4 hm (T.take i) (fun q hq=>hK q (List.mem_of_mem_take hq)) (fun q hq=>hE q (List.mem_of_mem_take hq)) (fun p hp=>by simp at hp) (by unfold NDq;simp) (fun p hp=>by simp at hp)
    have hti:(T.take i).length <= 1024:=by rw [List.length_take];omega
    have hle:(nextLQ rs (T.take i) []).length <= 4 * 1024:=Nat.le_trans kk4 (by rw [List.length_nil,Nat.zero_add];exact Nat.mul_le_mul n4 hti)
    have hbs:(ubo rs u).length <= 4:=Nat.le_trans (len_ubo hku) n4
    have hs0:=hku.pos
    have hs1:=sum_200 hku n4 hm
    refine for_list (K:=K) (a:=pl) (xs:=ts) (fun j σ H5=>Kp lt H4 H5/\(∃ ks,H5 lt=some (.dT ks)/\QE H5 (putsQ mm u.sum ((ubo rs u).take j) (nextLQ rs (T.take i) [])) ks)/\j <= ts.length/\∃ o5 o6 o7,σ=[some (.ref d),some v,some (.ref lt),some (.ref ka),some (.ref xq),o5,o6,o7])
      ⟨Kp.refl _ _,⟨ks2,hl4,hq4⟩,Nat.zero_le _,o5,o6,o7,rfl⟩ (fun j σ H5 _ h=>.of (h.1 _ _ (ne_of hpl hl4 (by intro z;cases z)) hpl)) (fun j t σ H5 ht h=>?_) (fun σ H5 h=>?_)
    · obtain ⟨k5,⟨ks5,hl5,hq5⟩,hj,o5,o6,o7,rfl⟩:=h
      obtain ⟨b,q',w',hb,rfl,hq',hw'⟩:=hts.get ht
      have hjl:=(List.getElem?_eq_some_iff.mp ht).1
      have t45:=kp_tup hl4 (ndt _) k5
      have hp5:=t45 _ _ hq'
      have hw5:=t45 _ _ hw'
      have hx5:=t45 _ _ hx4
      have hka5:=t45 _ _ hka4
      obtain ⟨bb,bu⟩:=mem_uboU hR hku (List.mem_of_getElem? hb)
      obtain ⟨pp1,pp2,pp3,pp4⟩:=puts_okQ (m:=m + 5) hmm hs0 hs1 ((ubo rs u).take j) (fun c hc=>mem_uboU hR hku (List.mem_of_mem_take hc)) kk1 kk2 kk3
      have hjt:((ubo rs u).take j).length <= 4:=by rw [List.length_take];omega
      have hlen:(putsQ mm u.sum ((ubo rs u).take j) (nextLQ rs (T.take i) [])).length <= 10000:=by omega
      have cv:Vq LL 1 (cut b.1 u.sum):=cut_vq (by omega) bb.2 hs0 hs1
      have cb:Bd 12 (cut b.1 u.sum):=Bd.cut hs0 (by show _ <= 4096;omega) (by show _ <= 4096;omega)
      have pv':Vq (N * LL) En (mm * cut b.1 u.sum):=(hmm.mul cv).mono (by omega)
      have hNL:N * LL <= 2 ^ 1900:=by
        have:(2:Nat) ^ 1900=2 ^ 1600 * 2 ^ 300:=by rw [<- Nat.pow_add]
        rw [this];exact Nat.mul_le_mul hN LL_le
      have hNL0:0 < N * LL:=Nat.mul_pos hN0 LL_pos
      have big:∀ X:Nat,X <= 2 ^ 60 * 2 ^ 13->N * LL * X <= 2 ^ 1973:=fun X hX=>by
        have:(2:Nat) ^ 1973=2 ^ 1900 * (2 ^ 60 * 2 ^ 13):=by rw [<- Nat.pow_add,<- Nat.pow_add]
        rw [this];exact Nat.mul_le_mul hNL hX
      have hNL2:N * LL <= 2 ^ 1973:=Nat.le_trans hNL (Nat.pow_le_pow_right (by decide) (by decide))
      have d1:Bd 1660 mm:=hmm.bd hN0 (by
        have:(2:Nat) ^ 1660=2 ^ 1600 * 2 ^ 60:=by rw [<- Nat.pow_add]
        rw [this];exact Nat.mul_le_mul hN hEn) (Nat.le_trans hN (Nat.pow_le_pow_right (by decide) (by decide)))
      have d2:Bd 1973 (mm * cut b.1 u.sum):=pv'.bd hNL0 (big _ (Nat.le_trans hEn (Nat.le_mul_of_pos_right _ (by decide)))) hNL2
      have vv:=pp3.val (k:=b.2)
      have d3:Bd 1973 (valQ (putsQ mm u.sum ((ubo rs u).take j) (nextLQ rs (T.take i) [])) b.2):=vv.bd hNL0 (big _ (by
        have e1:0 + En * (4 * (T.take i).length) + En * ((ubo rs u).take j).length <= En * (2 ^ 13):=by
          rw [Nat.zero_add,<- Nat.mul_add];exact Nat.mul_le_mul_left _ (by omega)
        exact Nat.le_trans e1 (Nat.mul_le_mul_right _ hEn))) hNL2
      refine ⟨q',_,rfl,.of hp5,rfl,_,_,rfl,_,_,rfl,rfl,?_⟩
      have hw5':H5 w'=some (.tup ((kI b.2).map kV)):=by rw [kI_kV];exact hw5
      refine ⟨_,rfl,_,rfl,_,rfl,ka,u,rfl,.inr (.of hka5),b.1,u.sum,rfl,by omega,hs0,log_of (n:=12) hs0 (by show _ <= 4096;omega) (by decide),fun p6 H6 g6 hp6=>?_⟩
      refine ⟨xq,p6,mm,cut b.1 u.sum,1660,12,rfl,g6 _ _ hx5,hp6,Rat.num_nonneg.mpr hmm.nn,Rat.num_nonneg.mpr cv.nn,d1,cb,by decide,fun p7 H7 g7 hp7=>?_⟩
      have g57:=g6.trans g7
      have hl7:=g57 _ _ hl5
      have hw7:=g57 _ _ hw5'
      refine ⟨_,rfl,lt,rfl,.inr ⟨_,.inl hl7⟩,_,rfl,(by show 2 <= sizeLine;decide),fun p8 hp8=>?_⟩
      have g8:Same H7 (upd H7 p8 (.tup [.int 0,.int 1])):=Same.new hp8
      have hz8:FrAt (upd H7 p8 (.tup [.int 0,.int 1])) 0 (.ref p8):=⟨p8,rfl,upd_same⟩
      try dsimp -proj only
      generalize upd H7 p8 (.tup [.int 0,.int 1])=H8 at g8 hz8
      have hl8:=g8 _ _ hl7
      have hw8:=g8 _ _ hw7
      have hq8:QE H8 (putsQ mm u.sum ((ubo rs u).take j) (nextLQ rs (T.take i) [])) ks5:=hq5.mono fun a xs e=>g8 _ _ (g57 _ _ e)
      obtain ⟨r8,er8,hr8⟩:=hq8.val (k:=b.2) hz8
      refine ⟨_,DGet.t hl8 hw8,?_⟩
      rw [er8]
      refine ⟨_,rfl,r8,p7,_,mm * cut b.1 u.sum,1973,1973,rfl,hr8,g8 _ _ hp7,Rat.num_nonneg.mpr vv.nn,Rat.num_nonneg.mpr pv'.nn,d3,d2,by decide,fun p9 H9 g9 hp9=>?_⟩
      have g59:Same H5 H9:=g57.trans (g8.trans g9)
      have hl9:=g9 _ _ hl8
      have hw9:=g9 _ _ hw8
      have hq9:QE H9 (putsQ mm u.sum ((ubo rs u).take j) (nextLQ rs (T.take i) [])) ks5:=hq8.mono fun a xs e=>g9 _ _ e
      refine ⟨_,rfl,_,rfl,lt,_,rfl,DPut.t hl9 hw9 (by rw [hq9.len];exact small_tab hlen),?_⟩
      have hq10:=hq9.put (k:=b.2) (x:=mm * cut b.1 u.sum) (v:=.ref p9) pp2 ⟨p9,rfl,hp9⟩
      have k10:Kp lt H4 (upd H9 lt (.dT (putK ks5 (kI b.2) (.ref p9)))):=(k5.trans (g59.kp lt)).trans Kp.at
      refine ⟨k10,⟨_,upd_same,?_⟩,hjl,_,_,_,rfl⟩
      rw [List.take_add_one,hb]
      show QE _ (putsQ mm u.sum ((ubo rs u).take j ++ [b]) _) _
      rw [putsQ_snoc]
      exact hq10.mono (kp_tup hl9 (ndt _) Kp.at)
    · obtain ⟨k5,⟨ks5,hl5,hq5⟩,_,o5,o6,o7,rfl⟩:=h
      have hlt2:H lt=none:=hlt
      refine ⟨fun c o nc e=>k5 _ _ (ne_of_none e hlt2) (k4 _ _ nc e),k5 _ _ nlt hd4,⟨ks5,hl5,?_⟩,hil,_,_,_,_,_,rfl⟩
      rw [List.take_add_one,hum]
      show QE H5 (nextLQ rs (T.take i ++ [(u,mm)]) []) ks5
      rw [nextLQ_snoc]
      rw [hts.len,List.take_length] at hq5
      exact hq5
  · obtain ⟨k2,hd2,⟨ks2,hl2,hq2⟩,_,o3,o4,o5,o6,o7,rfl⟩:=h
    rw [hQ.len,List.take_length] at hq2
    exact ⟨_,rfl,q lt ks2 H2 k2 hlt hl2 hq2⟩
end
end G
namespace G
open PySem PySem.Spec PyProof.Rows L2 Mt Md Mq
theorem boot_sorted:bootBuiltins "sorted"=some (Value.builtin "sorted"):=by decide +kernel
structure AskS (st:Addr) (H:Hp) (n:Nat) (ns:List Int) (rs:List (List Int)) (k:Nat) (a:Addr) (v:V):Prop where
  u:Dt st H (DI ns) (.ref a)
  uu:Mt.Urn n 20 ns
  r:Dt st H (DR rs) v
  ru:Mt.Rul n 5 rs
  n1:1 <= n
  n4:n <= 4
  k6:k <= 6
  l64:(chQ rs k [(ns,1)]).length < 64
def DueS (d e g:PyData) (i:Nat):Prop:=(i=0/\urnD 20 d=false) ∨ (i=1/\urnD 20 d=true/\ruleD (lenD d) e=false) ∨ (i=5/\urnD 20 d=true/\ruleD (lenD d) e=true/\wholeD 0 6 g=false)
def RefS (ec:Nat->Addr) (vs:List V) (H:Hp) (E:XK):Prop:=∃ (st:Addr) (u v x:V) (d e g:PyData) (i:Nat),vs=[u,v,x]/\Dt st H d u/\short d/\Dt st H e v/\ok2 e/\Dt st H g x/\DueS d e g i/\∀ H',Same H H'->E (.ref (ec i)) none H'
section
variable {P:Program} {w:World} {K:PySem.W.Frag} {mg:Str->Option Value} {base:Heap} {f:Addr} {fd:FuncData} {ec:Nat->Addr} {Bs:Addr}
def sp_stV:Sp:=fun vs H Q _=>∃ (st a:Addr) (v:V) (n k:Nat) (ns:List Int) (rs:List (List Int)),vs=[.ref a,v,.int k]/\AskS st H n ns rs k a v /\
  ∀ D ys T' H',Same H H'->T'.Perm (chQ rs k [(ns,1)])->H' D=some (.lst ys)->BQ H' T' ys->Q (.ref D) H'
def sp_st (ec:Nat->Addr):Sp:=fun vs H Q E=>RefS ec vs H E ∨ sp_stV vs H Q E
abbrev s_st:Stmt:=top 38
theorem sc_st:FnScope ["urn","rule","draws","chances","turn"] ["urn","rule","draws"] (defScope s_st):=⟨rfl,rfl,rfl,by decide +kernel,rfl,by decide +kernel,by decide +kernel⟩
theorem ok_st (F:Fun K "stands" "stands" s_st f fd) (B:Bt mg) (B3:Bt3 mg) (C2:Ct2 mg) (c1:CalX P w K mg base 6 "need_urn_and_rule" ["urn","rule"] (sp_nur ec)) (c2:CalX P w K mg base 2 "need_number" ["thing","low","high"] (sp_need_number ec)) (c3:Cal P w K mg base 1 "own_urn" ["urn"] sp_own_urn) (c4:Cal P w K mg base 4 "next_chances" ["chances","rule"] sp_nextc):FnOk P w K mg base (CX1 P w) 7 f fd ["urn","rule","draws"] (sp_st ec):=by
  refine F.okX sc_st (fun vs H Q E h=>?_) (fun cdv A outer s H vs Q E hr h=>?_)
  · rcases h with ⟨st,u,v,x,d,e,g,i,rfl,_⟩ | ⟨st,a,v,n,k,ns,rs,rfl,_⟩
    · rfl
    · rfl
  obtain ⟨tw,hW⟩:=C2.stand
  refine ⟨_,pss_cons (ps_expr (pe_calx c1 hr rfl passes1 (pa_cons (pv 0) (pa_cons (pv 1) pa_nil)))) (pss_cons (ps_expr (pe_calx (c2.up (by decide)) hr rfl passes1 (pa_cons (pv 2) (pa_cons pe_int (pa_cons (pe_glob (v:=.int 6) rfl hW ⟨tw,rfl⟩) pa_nil)))))
    (PSs.nox (pss_cons (ps_set (i:=3) sc_st.nd rfl (Or.inl rfl) (pe_dT1 (hu_of hr) (pe_cal (c3.up (by decide)) hr rfl (pa_cons (pv 0) pa_nil)) (pe_tup (pa_cons pe_int (pa_cons pe_int pa_nil)))))
    (pss_cons (ps_for PassesOwn.never rfl (pi_range1 rfl B.range (pa_cons (pv 2) pa_nil)) (pg_name (i:=4) sc_st.nd rfl (Or.inl rfl))
      (pss_one (ps_set (i:=3) sc_st.nd rfl (Or.inl rfl) (pe_cal (c4.up (by decide)) hr rfl (pa_cons (pv 3) (pa_cons (pv 1) pa_nil))))))
    (pss_one (ps_ret (pe_callB (call_sortI rfl hr.units) rfl B3.sorted boot_sorted (pa_cons (pe_items (pv 3)) pa_nil)))))))),?_⟩
  rcases h with ⟨st,u,v,x,d,e,g,i,rfl,hu,hus,hv,hvo,hx,due,q⟩ | ⟨st,a,v,n,k,ns,rs,rfl,hA,q⟩
  · unfold DueS at due
    refine ⟨_,rfl,_,rfl,u,v,st,d,e,rfl,hu,hus,hv,hvo,fun hw H1 g1=>?_,fun hw hw2 H1 g1=>?_,fun hw hw2 H1 g1=>?_⟩
    · rcases due with ⟨rfl,_⟩ | ⟨_,z,_⟩ | ⟨_,z,_⟩
      · exact q H1 g1
      all_goals (rw [hw] at z;cases z)
    · rcases due with ⟨_,z⟩ | ⟨rfl,_⟩ | ⟨_,_,z,_⟩
      · rw [hw] at z;cases z
      · exact q H1 g1
      · rw [hw2] at z;cases z
    · rcases due with ⟨_,z⟩ | ⟨_,_,z⟩ | ⟨rfl,_,_,z⟩
      · rw [hw] at z;cases z
      · rw [hw2] at z;cases z
      · exact ⟨_,rfl,x,st,g,0,6,rfl,hx.kp (g1.kp st),sm_0,sm_6,(fun zt=>by rw [z] at zt;cases zt),fun _=>q H1 g1⟩
  · have hU:=hA.uu
    have hR:=hA.ru
    have n1:=hA.n1
    have n4:=hA.n4
    have k6:=hA.k6
    obtain ⟨a',e,_,ha⟩:=hA.u.di
    cases e
    have uok:=urnD_of hU n1 n4
    have rok:ruleD (lenD (DI ns):Int) (DR rs)=true:=by rw [lenD_DI,hU.len];exact ruleD_of hR
    have hlen:=hR.len
    refine ⟨_,rfl,_,rfl,_,_,st,DI ns,DR rs,rfl,hA.u,short_DI (by rw [hU.len];omega),hA.r,⟨short_DR (by omega),shorts_DR hR (by omega)⟩,(fun z=>by rw [uok] at z;cases z),(fun _ z=>by rw [rok] at z;cases z),fun _ _ H1 g1=>?_⟩
    have hwk:wholeD 0 6 (.int (k:Int))=true:=by
      show (decide ((0:Int) <= (k:Int)) && decide ((k:Int) <= 6))=true
      rw [decide_eq_true (by omega),decide_eq_true (by omega)];rfl
    refine ⟨_,rfl,_,st,.int k,0,6,rfl,Dt.int _ _ _,sm_0,sm_6,(fun _=>?_),(fun z=>by rw [hwk] at z;cases z)⟩
    intro p hp
    have g2:Same H1 (upd H1 p (.dT [])):=Same.new hp
    have hp2:upd H1 p (.dT []) p=some (.dT []):=upd_same
    have hHp:H p=none:=g1.free hp
    generalize upd H1 p (.dT [])=H2 at g2 hp2
    refine ⟨_,rfl,a,_,rfl,g2 _ _ (g1 _ _ ha),fun b H3 g3 hb=>⟨(by show 2 <= sizeLine;decide),fun c hc=>?_⟩⟩
    have g4:Same H3 (upd H3 c (.tup [.int 1,.int 1])):=Same.new hc
    have hc4:upd H3 c (.tup [.int 1,.int 1]) c=some (.tup [.int 1,.int 1]):=upd_same
    try dsimp -proj only
    generalize upd H3 c (.tup [.int 1,.int 1])=H4 at g4 hc4
    have hp4:=g4 _ _ (g3 _ _ hp2)
    have hb4:=g4 _ _ hb
    have gg:Same H H4:=((g1.trans g2).trans g3).trans g4
    refine ⟨hp4,b,kI ns,rfl,by rw [kI_kV];exact hb4,?_⟩
    have ndt:∀ (ps:List (List Key × V)) xs,HO.dT ps ≠ .tup xs:=fun _ _ z=>by cases z
    have wo:=fun j hj=>ch_ok hR n4 hU j hj
    refine ⟨_,rfl,(k:Int),rfl,by omega,by omega,?_⟩
    refine for_range (lo:=0) (n:=k) (fun j σ H3=>Same H H3/\j <= k/\∃ p kvs o5,H p=none/\H3 p=some (.dT kvs)/\QE H3 (chQ rs j [(ns,1)]) kvs/\σ=[some (.ref a),some v,some (.int k),some (.ref p),o5])
      ⟨fun c o e=>by rw [upd_ne (ne_of_none e hHp)];exact gg _ _ e,Nat.zero_le _,p,_,none,hHp,upd_same,⟨rfl,⟨c,rfl,kp_tup hp4 (ndt _) Kp.at _ _ hc4⟩,trivial⟩,rfl⟩ (fun j σ H3 hj h=>?_) (fun σ H3 h=>?_)
    · obtain ⟨g3,hjk,p,kvs,o5,hpn,hp3,hq3,rfl⟩:=h
      obtain ⟨w1,w2,w3,w4⟩:=wo j (by omega)
      have hl:(chQ rs j [(ns,1)]).length <= 1024:=Nat.le_trans w4 (Nat.pow_le_pow_right (n:=4) (by decide) (show j <= 5 by omega))
      have hj5:j <= 5:=by omega
      have e1:LL ^ j <= 2 ^ 1600:=Nat.le_trans (LL_pow j) (Nat.pow_le_pow_right (by decide) (by omega))
      have e2:4 ^ (j * j) <= 2 ^ 60:=by
        have:j * j <= 5 * 5:=Nat.mul_le_mul hj5 hj5
        exact Nat.le_trans (Nat.pow_le_pow_right (by decide) this) (by decide)
      refine ⟨_,rfl,_,rfl,p,st,v,n,20 + 5 * j,LL ^ j,4 ^ (j * j),_,kvs,rs,rfl,hp3,hq3,w1,by omega,hl,w3,LLp_pos j,e1,e2,hA.r.kp (g3.kp st),hR,n4,fun p' kvs' H4 k4 hp' h4 hq4=>?_⟩
      have g4:Same H H4:=fun c o e=>k4 _ _ (ne_of_none e hpn) (g3 _ _ e)
      exact ⟨g4,by omega,p',kvs',_,g3.free hp',h4,hq4,rfl⟩
    · obtain ⟨g3,_,p,kvs,o5,hpn,hp3,hq3,rfl⟩:=h
      refine ⟨_,rfl,p,kvs,rfl,hp3,fun z hz=>?_⟩
      have g4:Same H3 (upd H3 z (ViewO z p)):=Same.new hz
      have hz4:upd H3 z (ViewO z p) z=some (ViewO z p):=upd_same
      generalize upd H3 z (ViewO z p)=H4 at g4 hz4
      have hq4:QE H4 (chQ rs k [(ns,1)]) kvs:=hq3.mono fun a xs e=>g4 _ _ e
      refine ⟨z,p,kvs,rfl,hz4,g4 _ _ hp3,by rw [hq4.len];exact hA.l64,hq4.keys,fun D ys kvs' H5 hperm g5 hD hPr=>?_⟩
      obtain ⟨T',hT',hq5⟩:=hq4.perm hperm
      have hq6:QE H5 T' kvs':=hq5.mono fun a xs e=>g5 _ _ e
      exact q D ys T' H5 (g3.trans (g4.trans g5)) hT' hD (BQ.of hq6 hPr)
end
end G
namespace G
open PySem PySem.Spec PyProof.Rows L2 Mt Md Mq
theorem frl_tl {H:Hp}:∀ {xs:List Rat} {vs:List V},FrL H xs vs->TL H (xs.map fr) vs
  | [],[],_=>trivial
  | _ :: _,_ :: _,⟨⟨q,e,h⟩,b⟩=>by subst e;exact ⟨⟨q,rfl,h⟩,frl_tl b⟩
  | [],_ :: _,h=>h.elim
  | _ :: _,[],h=>h.elim
theorem map_fr_inj {a b:List Rat}:a.map fr=b.map fr ↔ a=b:=⟨fun h=>map_inj' (fun _ _ e=>fr_inj e) _ _ h,fun h=>by rw [h]⟩
def mshQ (rs:List (List Int)) (ns:List Int) (k n:Nat):List Rat:=(List.range n).map fun i=>linQ (chQ rs k [(ns,1)]) (fun u=>Mt.share u i)
theorem mshQ_len (rs:List (List Int)) (ns:List Int) (k n:Nat):(mshQ rs ns k n).length=n:=by unfold mshQ;rw [List.length_map,List.length_range]
section
variable {P:Program} {w:World} {K:PySem.W.Frag} {mg:Str->Option Value} {base:Heap} {f:Addr} {fd:FuncData} {ec:Nat->Addr} {Bs:Addr}
def sp_ms:Sp:=fun vs H Q _=>∃ (D:Addr) (k n m N E:Nat) (T:TabQ) (ys:List V),vs=[.ref D,.int k]/\H D=some (.lst ys)/\BQ H T ys/\KeysQ n m T/\m <= 50/\n <= 4/\k < n/\AllQ N E T/\T.length < 64/\0 < N/\N <= 2 ^ 1800/\E <= 2 ^ 80 /\
  ∀ r H',Same H H'->H' r=some (.tup ((fr (linQ T fun u=>Mt.share u k)).map V.int))->Q (.ref r) H'
abbrev s_ms:Stmt:=top 41
theorem sc_ms:FnScope ["behind","kind"] ["behind","kind"] (defScope s_ms):=⟨rfl,rfl,rfl,by decide +kernel,rfl,by decide +kernel,by decide +kernel⟩
theorem ok_ms (F:Fun K "mean_share" "mean_share" s_ms f fd) (c1:Cal P w K mg base 4 "total" ["fractions"] sp_total) (c2:Cal P w K mg base 3 "times" ["one","other"] sp_times) (c3:Cal P w K mg base 3 "share" ["urn","kind"] sp_share):FnOk P w K mg base CX0 5 f fd ["behind","kind"] sp_ms:=by
  refine F.ok sc_ms (fun vs H Q E h=>?_) (fun cdv A outer s H vs Q E hr h=>?_)
  · obtain ⟨D,k,n,m,N,E,T,ys,rfl,_⟩:=h
    rfl
  obtain ⟨D,k,n,m,N,En,T,ys,rfl,hD,hB,hK,hm,n4,hk,hE,hl,hN0,hN,hEn,q⟩:=h
  refine ⟨_,pss_one (ps_ret (pe_cal c1 hr rfl (pa_cons (pe_compG (N:=["urn","so_likely","kind"]) (ix:=[none,none,some 1]) (ifs:=[]) (tc:=tTrue) rfl (pi_list (pv 0))
      (fun s H ex=>pgtK (K:=K) (n:=2) rfl rfl (pgs_cons (pg_c (i:=0) (by decide +kernel) rfl (Or.inl rfl) (.inr rfl)) (pgs_cons (pg_c (i:=1) (by decide +kernel) rfl (Or.inl rfl) (.inr rfl)) pgs_nil))) (fun s H ex=>pifs_nil)
      (fun s H ex=>pe_cal (c2.up (by decide)) hr rfl (pa_cons (pe_cal (c3.up (by decide)) hr rfl (pa_cons (pv 0) (pa_cons (pv 2) pa_nil))) (pa_cons (pv 1) pa_nil))) rfl (by decide +kernel) (by rfl) (by rfl) (fun _=>rfl)) pa_nil))),?_⟩
  have hNL:LL * N <= 2 ^ 2100:=by
    have:(2:Nat) ^ 2100=2 ^ 300 * 2 ^ 1800:=by rw [<- Nat.pow_add]
    rw [this];exact Nat.mul_le_mul LL_le hN
  refine ⟨_,rfl,D,rfl,⟨_,.of hD⟩,?_⟩
  refine blk_list2 (K:=K) (a:=D) (xs:=ys) (sz (by rw [hB.len];omega)) (fun i zs H2=>Same H H2/\i <= T.length/\FrL H2 ((T.take i).map fun p=>Mt.share p.1 k * p.2) zs) ⟨Same.refl H,Nat.zero_le _,trivial⟩ (fun i zs H2 h=>?_) (fun i zs H2 _ h=>.of (h.1 _ _ hD)) ⟨rfl,rfl⟩ (fun i zs H2 x hx h=>?_) (fun zs H2 h=>?_)
  · rw [h.2.2.len,List.length_map,List.length_take]
    have:=h.2.1
    omega
  · obtain ⟨g2,hi,hF⟩:=h
    obtain ⟨p,r,ka,qa,hp,rfl,h1,h2,h3⟩:=hB.get hx
    have hil:=(List.getElem?_eq_some_iff.mp hp).1
    have hku:=hK p (List.mem_of_getElem? hp)
    have hv:=hE p (List.mem_of_getElem? hp)
    refine ⟨r,.ref ka,.ref qa,rfl,.of (g2 _ _ h1),_,rfl,_,rfl,ka,n,m,p.1,k,rfl,g2 _ _ h2,hku,n4,by omega,hk,fun p5 H5 g5 hp5=>?_⟩
    have d1:Bd 1880 p.2:=hv.bd hN0 (by
      have:(2:Nat) ^ 1880=2 ^ 1800 * 2 ^ 80:=by rw [<- Nat.pow_add]
      rw [this];exact Nat.mul_le_mul hN hEn) (Nat.le_trans hN (Nat.pow_le_pow_right (by decide) (by decide)))
    refine ⟨_,rfl,p5,qa,Mt.share p.1 k,p.2,12,1880,rfl,hp5,g5 _ _ (g2 _ _ h3),Rat.num_nonneg.mpr (share_nn hku k),Rat.num_nonneg.mpr hv.nn,share_bd hku n4 (by omega) k,d1,by decide,fun p6 H6 g6 hp6=>⟨g2.trans (g5.trans g6),hil,?_⟩⟩
    rw [List.take_add_one,hp,List.map_append]
    exact FrL.snoc ⟨p6,rfl,hp6⟩ (hF.mono fun a xs e=>g6 _ _ (g5 _ _ e))
  · obtain ⟨g2,_,hF⟩:=h
    intro p hp
    rw [hB.len,List.take_length] at hF
    have g3:Same H2 (upd H2 p (.lst zs)):=Same.new hp
    have hp3:upd H2 p (.lst zs) p=some (.lst zs):=upd_same
    generalize upd H2 p (.lst zs)=H3 at g3 hp3
    refine ⟨p,zs,T.map (fun p=>Mt.share p.1 k * p.2),LL * N,En,2190,rfl,hp3,hF.mono fun a xs e=>g3 _ _ e,fun x hx=>?_,Nat.mul_pos LL_pos hN0,?_,Nat.le_trans hNL (Nat.pow_le_pow_right (by decide) (by decide)),by decide,fun r H4 g4 hr4=>?_⟩
    · obtain ⟨p,hp,e⟩:=List.mem_map.mp hx
      subst e
      exact ((share_vq (hK p hp) n4 hm k).mul (hE p hp)).mono (by omega)
    · have:(2:Nat) ^ 2190=2 ^ 2100 * (2 ^ 80 * 2 ^ 10):=by rw [<- Nat.pow_add,<- Nat.pow_add]
      rw [this]
      refine Nat.mul_le_mul hNL ?_
      rw [List.length_map]
      have:En * T.length + En=En * (T.length + 1):=by rw [Nat.mul_add,Nat.mul_one]
      rw [this]
      exact Nat.mul_le_mul hEn (by show _ <= 1024;omega)
    · refine q r H4 ((g2.trans g3).trans g4) ?_
      rw [linQ_sum];exact hr4
def sp_mssV:Sp:=fun vs H Q _=>∃ (st a:Addr) (v:V) (n k:Nat) (ns:List Int) (rs:List (List Int)),vs=[.ref a,v,.int k]/\AskS st H n ns rs k a v /\
  ∀ p xs H',Same H H'->H' p=some (.tup xs)->FrL H' (mshQ rs ns k n) xs->Q (.ref p) H'
def sp_mss (ec:Nat->Addr):Sp:=fun vs H Q E=>RefS ec vs H E ∨ sp_mssV vs H Q E
abbrev s_mss:Stmt:=top 43
theorem sc_mss:FnScope ["urn","rule","draws","behind"] ["urn","rule","draws"] (defScope s_mss):=⟨rfl,rfl,rfl,by decide +kernel,rfl,by decide +kernel,by decide +kernel⟩
theorem ok_mss (F:Fun K "mean_shares" "mean_shares" s_mss f fd) (B:Bt mg) (c1:CalX P w K mg base 7 "stands" ["urn","rule","draws"] (sp_st ec)) (c2:Cal P w K mg base 5 "mean_share" ["behind","kind"] sp_ms):FnOk P w K mg base (CX1 P w) 8 f fd ["urn","rule","draws"] (sp_mss ec):=by
  refine F.okX sc_mss (fun vs H Q E h=>?_) (fun cdv A outer s H vs Q E hr h=>?_)
  · rcases h with ⟨st,u,v,x,d,e,g,i,rfl,_⟩ | ⟨st,a,v,n,k,ns,rs,rfl,_⟩
    · rfl
    · rfl
  refine ⟨_,pss_cons (ps_set (i:=3) sc_mss.nd rfl (Or.inr rfl) (pe_calx c1 hr rfl passes1 (pa_cons (pv 0) (pa_cons (pv 1) (pa_cons (pv 2) pa_nil)))))
    (PSs.nox (pss_one (ps_ret (pe_callTy call_tuple_of rfl B.tuple boot_tuple (pa_cons (pe_compG (N:=["kind","behind"]) (ix:=[none,some 3]) (ifs:=[]) (tc:=tTrue) rfl
      (pi_range1 rfl B.range (pa_cons (pe_callB call_len_seq rfl B.len PySem.boot_len (pa_cons (pv 0) pa_nil)) pa_nil))
      (fun s H ex=>pg_c (i:=0) (by decide +kernel) rfl (Or.inl rfl) (.inr rfl)) (fun s H ex=>pifs_nil)
      (fun s H ex=>pe_cal (c2.up (by decide)) hr rfl (pa_cons (pv 1) (pa_cons (pv 0) pa_nil))) rfl (by decide +kernel) (by rfl) (by rfl) (fun _=>rfl)) pa_nil))))),?_⟩
  rcases h with hrf | ⟨st,a,v,n,k,ns,rs,rfl,hA,q⟩
  · obtain ⟨st,u,v,x,d,e,g,i,rfl,rest⟩:=hrf
    exact ⟨_,rfl,_,rfl,_,rfl,.inl ⟨st,u,v,x,d,e,g,i,rfl,rest⟩⟩
  refine ⟨_,rfl,_,rfl,_,rfl,.inr ⟨st,a,v,n,k,ns,rs,rfl,hA,fun D ys T' H1 g1 hT hD hB=>?_⟩⟩
  obtain ⟨a',e,_,ha⟩:=hA.u.di
  cases e
  have hul:=hA.uu.len
  have n4:=hA.n4
  have k6:=hA.k6
  obtain ⟨w1,w2,w3,w4⟩:=ch_ok hA.ru n4 hA.uu k k6
  have e1:LL ^ k <= 2 ^ 1800:=Nat.le_trans (LL_pow k) (Nat.pow_le_pow_right (by decide) (by omega))
  have e2:4 ^ (k * k) <= 2 ^ 80:=by
    have:k * k <= 6 * 6:=Nat.mul_le_mul k6 k6
    exact Nat.le_trans (Nat.pow_le_pow_right (by decide) this) (by decide)
  refine ⟨_,rfl,a,_,rfl,.inr (.of (g1 _ _ ha)),(n:Int),by rw [List.length_map,hul],by omega,by omega,?_⟩
  refine blk_range (lo:=0) (n:=n) (sz (by omega)) (fun i zs H2=>Same H1 H2/\i <= n/\FrL H2 (mshQ rs ns k i) zs) ⟨Same.refl _,Nat.zero_le _,trivial⟩ (fun i zs H2 h=>?_) rfl (fun i zs H2 hi h=>?_) (fun zs H2 h=>?_)
  · rw [h.2.2.len,mshQ_len]
  · obtain ⟨g2,hil,hF⟩:=h
    have e0:(0:Int) + (i:Int)=(i:Int):=by omega
    rw [e0]
    refine ⟨_,rfl,_,rfl,D,i,n,20 + 5 * k,LL ^ k,4 ^ (k * k),T',ys,rfl,g2 _ _ hD,hB.same g2,fun p hp=>w1 p (hT.mem_iff.mp hp),by omega,n4,hi,fun p hp=>w3 p (hT.mem_iff.mp hp),by rw [hT.length_eq];exact hA.l64,LLp_pos k,e1,e2,fun r H3 g3 hr3=>⟨g2.trans g3,by omega,?_⟩⟩
    rw [linQ_perm hT] at hr3
    have e3:mshQ rs ns k (i + 1)=mshQ rs ns k i ++ [linQ (chQ rs k [(ns,1)]) (fun u=>Mt.share u i)]:=by unfold mshQ;rw [List.range_succ,List.map_append];rfl
    rw [e3]
    exact FrL.snoc ⟨r,rfl,hr3⟩ (hF.mono fun a xs e=>g3 _ _ e)
  · obtain ⟨g2,_,hF⟩:=h
    intro p hp
    refine ⟨p,_,rfl,.inl ⟨.of upd_same,fun l hl=>?_⟩⟩
    have g3:Same H2 (upd (upd H2 p (.lst zs)) l (.tup zs)):=(Same.new hp).trans (Same.new hl)
    exact q l zs _ ((g1.trans g2).trans g3) upd_same (hF.mono fun a xs e=>g3 _ _ e)
structure AskF (st:Addr) (H:Hp) (n:Nat) (ns:List Int) (rs:List (List Int)) (a:Addr) (v:V):Prop where
  u:Dt st H (DI ns) (.ref a)
  uu:Mt.Urn n 20 ns
  r:Dt st H (DR rs) v
  ru:Mt.Rul n 5 rs
  n1:1 <= n
  n4:n <= 4
theorem AskF.kp {st:Addr} {H H':Hp} {n:Nat} {ns:List Int} {rs:List (List Int)} {a:Addr} {v:V} (h:AskF st H n ns rs a v) (g:Kp st H H'):AskF st H' n ns rs a v :=
  ⟨h.u.kp g,h.uu,h.r.kp g,h.ru,h.n1,h.n4⟩
theorem AskF.st {st:Addr} {H:Hp} {n:Nat} {ns:List Int} {rs:List (List Int)} {a:Addr} {v:V} (h:AskF st H n ns rs a v) {k:Nat} (hk:k <= 2):AskS st H n ns rs k a v :=
  ⟨h.u,h.uu,h.r,h.ru,h.n1,h.n4,by omega,Nat.lt_of_le_of_lt (ch_ok h.ru h.n4 h.uu k (by omega)).2.2.2 (Nat.lt_of_le_of_lt (Nat.pow_le_pow_right (n:=4) (by decide) hk) (by decide))⟩
def DueF (d e:PyData) (i:Nat):Prop:=(i=0/\urnD 20 d=false) ∨ (i=1/\urnD 20 d=true/\ruleD (lenD d) e=false)
def RefF (ec:Nat->Addr) (vs:List V) (H:Hp) (E:XK):Prop:=∃ (st:Addr) (u v:V) (d e:PyData) (i:Nat),vs=[u,v]/\Dt st H d u/\short d/\Dt st H e v/\ok2 e/\DueF d e i/\∀ H',Same H H'->E (.ref (ec i)) none H'
def sp_fairV:Sp:=fun vs H Q _=>∃ (st a:Addr) (v:V) (n:Nat) (ns:List Int) (rs:List (List Int)),vs=[.ref a,v]/\AskF st H n ns rs a v/\∀ H',Same H H'->Q (.bl (decide (mshQ rs ns 1 n=mshQ rs ns 0 n))) H'
def sp_fair (ec:Nat->Addr):Sp:=fun vs H Q E=>RefF ec vs H E ∨ sp_fairV vs H Q E
abbrev s_fair:Stmt:=top 44
theorem sc_fair:FnScope ["urn","rule"] ["urn","rule"] (defScope s_fair):=⟨rfl,rfl,rfl,by decide +kernel,rfl,by decide +kernel,by decide +kernel⟩
theorem ok_fair (F:Fun K "is_fair" "is_fair" s_fair f fd) (c1:CalX P w K mg base 8 "mean_shares" ["urn","rule","draws"] (sp_mss ec)):FnOk P w K mg base (CX1 P w) 9 f fd ["urn","rule"] (sp_fair ec):=by
  refine F.okX sc_fair (fun vs H Q E h=>?_) (fun cdv A outer s H vs Q E hr h=>?_)
  · rcases h with ⟨st,u,v,d,e,i,rfl,_⟩ | ⟨st,a,v,n,ns,rs,rfl,_⟩
    · rfl
    · rfl
  refine ⟨_,pss_one (ps_ret (pe_cmpR (op_eqD hr.units) (pe_calx c1 hr rfl passes1 (pa_cons (pv 0) (pa_cons (pv 1) (pa_cons pe_int pa_nil)))) (pe_calx c1 hr rfl passes1 (pa_cons (pv 0) (pa_cons (pv 1) (pa_cons pe_int pa_nil)))) (nomark _))),?_⟩
  rcases h with ⟨st,u,v,d,e,i,rfl,hu,hus,hv,hvo,due,q⟩ | ⟨st,a,v,n,ns,rs,rfl,hA,q⟩
  · refine ⟨_,rfl,_,rfl,.inl ⟨st,u,v,.int 1,d,e,.int 1,i,rfl,hu,hus,hv,hvo,Dt.int _ _ _,?_,q⟩⟩
    unfold DueS
    rcases due with z | z
    · exact .inl z
    · exact .inr (.inl z)
  refine ⟨_,rfl,_,rfl,.inr ⟨st,a,v,n,1,ns,rs,rfl,hA.st (by decide),fun p xs H1 g1 hp hF=>?_⟩⟩
  refine ⟨_,rfl,_,rfl,.inr ⟨st,a,v,n,0,ns,rs,rfl,(hA.kp (g1.kp st)).st (by decide),fun r ys H2 g2 hr2 hG=>?_⟩⟩
  obtain ⟨z,hz⟩:∃ z,z=p + r + (xs.map adr).sum + (ys.map adr).sum + 1:=⟨_,rfl⟩
  have np:p ≠ z:=by rw [hz];exact Nat.ne_of_lt (Nat.lt_succ_of_le (Nat.le_trans (Nat.le_trans (Nat.le_add_right p r) (Nat.le_add_right _ _)) (Nat.le_add_right _ _)))
  have nr:r ≠ z:=by rw [hz];exact Nat.ne_of_lt (Nat.lt_succ_of_le (Nat.le_trans (Nat.le_trans (Nat.le_add_left r p) (Nat.le_add_right _ _)) (Nat.le_add_right _ _)))
  have nx:∀ a,V.ref a ∈ xs->a ≠ z:=fun a ha=>by rw [hz];exact Nat.ne_of_lt (Nat.lt_succ_of_le (Nat.le_trans (Nat.le_trans (adr_le ha) (Nat.le_add_left _ _)) (Nat.le_add_right _ _)))
  have ny:∀ a,V.ref a ∈ ys->a ≠ z:=fun a ha=>by rw [hz];exact Nat.ne_of_lt (Nat.lt_succ_of_le (Nat.le_trans (adr_le ha) (Nat.le_add_left _ _)))
  refine eqR_dec (l:=z) (a:=(mshQ rs ns 1 n).map fr) (b:=(mshQ rs ns 0 n).map fr) (Dt.tup np (g2 _ _ hp) ((frl_tl (hF.mono fun a xs e=>g2 _ _ e)).dts nx)) (Dt.tup nr hr2 ((frl_tl hG).dts ny)) ?_
  rw [decide_eq_decide.mpr map_fr_inj]
  exact q H2 (g1.trans g2)
end
end G
namespace Mq
open PySem PySem.Spec L2 Mt Md
theorem KeysQ.pos {n m:Nat} {T:TabQ} (h:KeysQ n m T):∀ p ∈ T,(∀ b ∈ p.1,0 <= b)/\0 < p.1.sum:=fun p hp=>⟨fun b hb=>((h p hp).nn b hb).1,(h p hp).pos⟩
def dd {α:Type} [DecidableEq α]:List α->List α
  | []=>[]
  | a :: l=>if a ∈ dd l then dd l else a :: dd l
theorem mem_dd {α:Type} [DecidableEq α] {x:α}:∀ {l:List α},x ∈ l->x ∈ dd l
  | a :: l,h=>by
    unfold dd
    rcases List.mem_cons.mp h with e | e
    · subst e
      split
      · assumption
      · exact List.mem_cons_self
    · have:=mem_dd e
      split
      · exact this
      · exact List.mem_cons_of_mem _ this
theorem dd_sub {α:Type} [DecidableEq α] {x:α}:∀ {l:List α},x ∈ dd l->x ∈ l
  | [],h=>h
  | a :: l,h=>by
    unfold dd at h
    split at h
    · exact List.mem_cons_of_mem _ (dd_sub h)
    · rcases List.mem_cons.mp h with e | e
      · subst e;exact List.mem_cons_self
      · exact List.mem_cons_of_mem _ (dd_sub e)
theorem nd_len {α:Type} [DecidableEq α]:∀ {l m:List α},l.Nodup->(∀ a ∈ l,a ∈ m)->l.length <= m.length
  | [],m,_,_=>Nat.zero_le _
  | a :: l,m,hn,h=>by
    rw [List.nodup_cons] at hn
    have ha:=h a List.mem_cons_self
    have ih:=nd_len (l:=l) (m:=m.erase a) hn.2 fun b hb=>by
      have:b ≠ a:=fun e=>hn.1 (e ▸ hb)
      exact (List.mem_erase_of_ne this).mpr (h b (List.mem_cons_of_mem _ hb))
    have:=List.length_erase_of_mem ha
    have hp:0 < m.length:=List.length_pos_of_mem ha
    rw [List.length_cons];omega
def cntL (n:Nat):Nat->List (List Int)
  | 0=>[List.replicate n 0]
  | k + 1=>dd ((cntL n k).flatMap fun c=>(List.range n).map fun i=>inc c i)
theorem cntL_len {n:Nat}:∀ {k:Nat} {c:List Int},c ∈ cntL n k->c.length=n
  | 0,c,h=>by rw [List.mem_singleton.mp h];simp
  | k + 1,c,h=>by
    obtain ⟨c0,h0,h1⟩:=List.mem_flatMap.mp (dd_sub (show c ∈ dd _ from h))
    obtain ⟨i,_,e⟩:=List.mem_map.mp h1
    rw [<- e];unfold inc;rw [List.length_set];exact cntL_len h0
theorem putsQ_keys {x:Rat} {s:Int}:∀ {bs:List (Int × List Int)} {D:TabQ} {p:List Int × Rat},p ∈ putsQ x s bs D->(∃ b ∈ bs,p.1=b.2) ∨ ∃ q ∈ D,q.1=p.1
  | [],D,p,h=>.inr ⟨p,h,rfl⟩
  | b :: bs,D,p,h=>by
    unfold putsQ at h
    rcases putsQ_keys h with ⟨c,hc,e⟩ | ⟨q,hq,e⟩
    · exact .inl ⟨c,List.mem_cons_of_mem _ hc,e⟩
    · rcases keys_addQ hq with e2 | ⟨r,hr,e2⟩
      · exact .inl ⟨b,List.mem_cons_self,by rw [<- e,e2]⟩
      · exact .inr ⟨r,hr,by rw [e2,e]⟩
theorem nextLQ_keys {rs:List (List Int)}:∀ {T D:TabQ} {p:List Int × Rat},p ∈ nextLQ rs T D->(∃ q ∈ T,∃ b ∈ ubo rs q.1,p.1=b.2) ∨ ∃ q ∈ D,q.1=p.1
  | [],D,p,h=>.inr ⟨p,h,rfl⟩
  | t :: T,D,p,h=>by
    unfold nextLQ at h
    rcases nextLQ_keys h with ⟨q,hq,b,hb,e⟩ | ⟨q,hq,e⟩
    · exact .inl ⟨q,List.mem_cons_of_mem _ hq,b,hb,e⟩
    · rcases putsQ_keys hq with ⟨b,hb,e2⟩ | ⟨r,hr,e2⟩
      · exact .inl ⟨t,List.mem_cons_self,b,hb,by rw [<- e,e2]⟩
      · exact .inr ⟨r,hr,by rw [e2,e]⟩
theorem ch_keys {n:Nat} {rs:List (List Int)} {u:List Int} (hR:Rul n 5 rs) (hu:u.length=n):∀ {k:Nat} {p:List Int × Rat},p ∈ chQ rs k [(u,1)]->∃ c ∈ cntL n k,p.1=beh u rs c
  | 0,p,h=>by
    rw [List.mem_singleton.mp h]
    exact ⟨_,List.mem_singleton.mpr rfl,(beh_zero u rs n).symm⟩
  | k + 1,p,h=>by
    rcases nextLQ_keys (show p ∈ nextLQ rs (chQ rs k [(u,1)]) [] from h) with ⟨q,hq,b,hb,e⟩ | ⟨q,hq,_⟩
    · obtain ⟨c,hc,e2⟩:=ch_keys hR hu hq
      obtain ⟨j,h1,_,h3⟩:=mem_uboL hb
      rw [Nat.zero_add] at h3
      have hj:j < n:=by
        rw [e2] at h1
        unfold beh at h1
        rw [List.length_map,List.length_range,hu] at h1
        exact h1
      refine ⟨inc c j,mem_dd (List.mem_flatMap.mpr ⟨c,hc,List.mem_map.mpr ⟨j,List.mem_range.mpr hj,rfl⟩⟩),?_⟩
      rw [beh_inc hu (cntL_len hc) hR hj,e,h3,e2]
    · simp at hq
theorem ch_len {n k:Nat} {rs:List (List Int)} {u:List Int} (hR:Rul n 5 rs) (n4:n <= 4) (hu:Urn n 20 u) (hk:k <= 6) (hl:(cntL n k).length < 64):(chQ rs k [(u,1)]).length < 64:=by
  have h2:=(ch_ok hR n4 hu k hk).2.1
  unfold NDq at h2
  have:=nd_len (m:=(cntL n k).map (beh u rs)) h2 fun a ha=>by
    obtain ⟨p,hp,e⟩:=List.mem_map.mp ha
    obtain ⟨c,hc,e2⟩:=ch_keys hR hu.len hp
    exact List.mem_map.mpr ⟨c,hc,by rw [<- e,e2]⟩
  rw [List.length_map,List.length_map] at this
  omega
theorem cnt_ok {n k:Nat} (h1:1 <= n) (h4:n <= 4) (h:k <= if n <= 2 then 6 else 4):(cntL n k).length < 64/\n ^ k <= 256/\k <= 6:=by
  have e:n=1 ∨ n=2 ∨ n=3 ∨ n=4:=by omega
  rcases e with rfl | rfl | rfl | rfl
  · have z:k=0 ∨ k=1 ∨ k=2 ∨ k=3 ∨ k=4 ∨ k=5 ∨ k=6:=by simp at h;omega
    rcases z with rfl | rfl | rfl | rfl | rfl | rfl | rfl <;> decide +kernel
  · have z:k=0 ∨ k=1 ∨ k=2 ∨ k=3 ∨ k=4 ∨ k=5 ∨ k=6:=by simp at h;omega
    rcases z with rfl | rfl | rfl | rfl | rfl | rfl | rfl <;> decide +kernel
  · have z:k=0 ∨ k=1 ∨ k=2 ∨ k=3 ∨ k=4:=by simp at h;omega
    rcases z with rfl | rfl | rfl | rfl | rfl <;> decide +kernel
  · have z:k=0 ∨ k=1 ∨ k=2 ∨ k=3 ∨ k=4:=by simp at h;omega
    rcases z with rfl | rfl | rfl | rfl | rfl <;> decide +kernel
end Mq
namespace G
open PySem PySem.Spec PyProof.Rows L2 Mt Md Mq
def balR (u:List Int) (k:Nat):Rat:=((u.getD k 0:Int):Rat)
def mnQ (rs:List (List Int)) (ns:List Int) (k n:Nat):List Rat:=(List.range n).map fun i=>linQ (chQ rs k [(ns,1)]) (fun u=>balR u i)
theorem mnQ_len (rs:List (List Int)) (ns:List Int) (k n:Nat):(mnQ rs ns k n).length=n:=by unfold mnQ;rw [List.length_map,List.length_range]
theorem int_vq {t:Int} {B:Nat} (h0:0 <= t) (h1:t <= (B:Int)):Vq 1 B ((t:Int):Rat):=by
  refine ⟨by exact_mod_cast h0,?_,t,?_⟩
  · have:((t:Int):Rat) <= (((B:Nat):Int):Rat):=by exact_mod_cast h1
    have e:(((B:Nat):Int):Rat)=((B:Nat):Rat):=by norm_cast
    rw [<- e];exact this
  · have e:((1:Nat):Rat)=1:=rfl
    rw [e];grind
theorem int_bd {t:Int} (h0:0 <= t) (h1:t <= 4096):Bd 12 ((t:Int):Rat):=by
  refine ⟨?_,?_⟩
  · show t.natAbs <= 4096;omega
  · show 1 <= 4096;decide
section
variable {P:Program} {w:World} {K:PySem.W.Frag} {mg:Str->Option Value} {base:Heap} {f:Addr} {fd:FuncData} {ec:Nat->Addr} {Bs:Addr}
def sp_mb:Sp:=fun vs H Q _=>∃ (D:Addr) (k n m N E:Nat) (T:TabQ) (ys:List V),vs=[.ref D,.int k]/\H D=some (.lst ys)/\BQ H T ys/\KeysQ n m T/\m <= 50/\n <= 4/\k < n/\AllQ N E T/\T.length < 64/\0 < N/\N <= 2 ^ 1800/\E <= 2 ^ 80 /\
  ∀ r H',Same H H'->H' r=some (.tup ((fr (linQ T fun u=>balR u k)).map V.int))->Q (.ref r) H'
abbrev s_mb:Stmt:=top 40
theorem sc_mb:FnScope ["behind","kind"] ["behind","kind"] (defScope s_mb):=⟨rfl,rfl,rfl,by decide +kernel,rfl,by decide +kernel,by decide +kernel⟩
theorem ok_mb (F:Fun K "mean_balls" "mean_balls" s_mb f fd) (c1:Cal P w K mg base 4 "total" ["fractions"] sp_total) (c2:Cal P w K mg base 3 "times" ["one","other"] sp_times):FnOk P w K mg base CX0 5 f fd ["behind","kind"] sp_mb:=by
  refine F.ok sc_mb (fun vs H Q E h=>?_) (fun cdv A outer s H vs Q E hr h=>?_)
  · obtain ⟨D,k,n,m,N,E,T,ys,rfl,_⟩:=h
    rfl
  obtain ⟨D,k,n,m,N,En,T,ys,rfl,hD,hB,hK,hm,n4,hk,hE,hl,hN0,hN,hEn,q⟩:=h
  refine ⟨_,pss_one (ps_ret (pe_cal c1 hr rfl (pa_cons (pe_compG (N:=["urn","so_likely","kind"]) (ix:=[none,none,some 1]) (ifs:=[]) (tc:=tTrue) rfl (pi_list (pv 0))
      (fun s H ex=>pgtK (K:=K) (n:=2) rfl rfl (pgs_cons (pg_c (i:=0) (by decide +kernel) rfl (Or.inl rfl) (.inr rfl)) (pgs_cons (pg_c (i:=1) (by decide +kernel) rfl (Or.inl rfl) (.inr rfl)) pgs_nil))) (fun s H ex=>pifs_nil)
      (fun s H ex=>pe_cal (c2.up (by decide)) hr rfl (pa_cons (pe_tup (pa_cons (pe_ix (ixK (K:=K) rfl) (pv 0) (pv 2) (fun _ _=>rfl)) (pa_cons pe_int pa_nil))) (pa_cons (pv 1) pa_nil))) rfl (by decide +kernel) (by rfl) (by rfl) (fun _=>rfl)) pa_nil))),?_⟩
  refine ⟨_,rfl,D,rfl,⟨_,.of hD⟩,?_⟩
  refine blk_list2 (K:=K) (a:=D) (xs:=ys) (sz (by rw [hB.len];omega)) (fun i zs H2=>Same H H2/\i <= T.length/\FrL H2 ((T.take i).map fun p=>balR p.1 k * p.2) zs) ⟨Same.refl H,Nat.zero_le _,trivial⟩ (fun i zs H2 h=>?_) (fun i zs H2 _ h=>.of (h.1 _ _ hD)) ⟨rfl,rfl⟩ (fun i zs H2 x hx h=>?_) (fun zs H2 h=>?_)
  · rw [h.2.2.len,List.length_map,List.length_take]
    have:=h.2.1
    omega
  · obtain ⟨g2,hi,hF⟩:=h
    obtain ⟨p,r,ka,qa,hp,rfl,h1,h2,h3⟩:=hB.get hx
    have hil:=(List.getElem?_eq_some_iff.mp hp).1
    have hku:=hK p (List.mem_of_getElem? hp)
    have hv:=hE p (List.mem_of_getElem? hp)
    have hg:=hku.getD k
    refine ⟨r,.ref ka,.ref qa,rfl,.of (g2 _ _ h1),_,rfl,_,rfl,ka,_,_,_,rfl,rfl,.of (g2 _ _ h2),atI_int (by rw [hku.len];exact hk),(by show 2 <= sizeLine;decide),fun p5 hp5=>?_⟩
    have g5:Same H2 (upd H2 p5 (.tup [.int (p.1.getD k 0),.int 1])):=Same.new hp5
    have h5:upd H2 p5 (.tup [.int (p.1.getD k 0),.int 1]) p5=some (.tup ((fr (balR p.1 k)).map V.int)):=upd_same
    try dsimp -proj only
    generalize upd H2 p5 (.tup [.int (p.1.getD k 0),.int 1])=H5 at g5 h5
    have d1:Bd 1880 p.2:=hv.bd hN0 (by
      have:(2:Nat) ^ 1880=2 ^ 1800 * 2 ^ 80:=by rw [<- Nat.pow_add]
      rw [this];exact Nat.mul_le_mul hN hEn) (Nat.le_trans hN (Nat.pow_le_pow_right (by decide) (by decide)))
    refine ⟨_,rfl,p5,qa,balR p.1 k,p.2,12,1880,rfl,h5,g5 _ _ (g2 _ _ h3),hg.1,Rat.num_nonneg.mpr hv.nn,int_bd hg.1 (by omega),d1,by decide,fun p6 H6 g6 hp6=>⟨g2.trans (g5.trans g6),hil,?_⟩⟩
    rw [List.take_add_one,hp,List.map_append]
    exact FrL.snoc ⟨p6,rfl,hp6⟩ (hF.mono fun a xs e=>g6 _ _ (g5 _ _ e))
  · obtain ⟨g2,_,hF⟩:=h
    intro p hp
    rw [hB.len,List.take_length] at hF
    have g3:Same H2 (upd H2 p (.lst zs)):=Same.new hp
    have hp3:upd H2 p (.lst zs) p=some (.lst zs):=upd_same
    generalize upd H2 p (.lst zs)=H3 at g3 hp3
    refine ⟨p,zs,T.map (fun p=>balR p.1 k * p.2),1 * N,64 * En,1900,rfl,hp3,hF.mono fun a xs e=>g3 _ _ e,fun x hx=>?_,Nat.mul_pos (by decide) hN0,?_,by rw [Nat.one_mul];exact Nat.le_trans hN (Nat.pow_le_pow_right (by decide) (by decide)),by decide,fun r H4 g4 hr4=>?_⟩
    · obtain ⟨p,hp,e⟩:=List.mem_map.mp hx
      subst e
      have hg:=(hK p hp).getD k
      exact ((int_vq (B:=64) hg.1 (by omega)).mul (hE p hp))
    · have:(2:Nat) ^ 1900=2 ^ 1800 * (2 ^ 80 * 2 ^ 20):=by rw [<- Nat.pow_add,<- Nat.pow_add]
      rw [this,Nat.one_mul]
      refine Nat.mul_le_mul hN ?_
      rw [List.length_map]
      have:64 * En * T.length + 64 * En=En * (64 * T.length + 64):=by rw [Nat.mul_add,<- Nat.mul_assoc,Nat.mul_comm En 64]
      rw [this]
      exact Nat.mul_le_mul hEn (by show _ <= 1048576;omega)
    · refine q r H4 ((g2.trans g3).trans g4) ?_
      rw [linQ_sum];exact hr4
def sp_mnV:Sp:=fun vs H Q _=>∃ (st a:Addr) (v:V) (n k:Nat) (ns:List Int) (rs:List (List Int)),vs=[.ref a,v,.int k]/\AskS st H n ns rs k a v /\
  ∀ p xs H',Same H H'->H' p=some (.tup xs)->FrL H' (mnQ rs ns k n) xs->Q (.ref p) H'
def sp_mn (ec:Nat->Addr):Sp:=fun vs H Q E=>RefS ec vs H E ∨ sp_mnV vs H Q E
abbrev s_mn:Stmt:=top 42
theorem sc_mn:FnScope ["urn","rule","draws","behind"] ["urn","rule","draws"] (defScope s_mn):=⟨rfl,rfl,rfl,by decide +kernel,rfl,by decide +kernel,by decide +kernel⟩
theorem ok_mn (F:Fun K "mean" "mean" s_mn f fd) (B:Bt mg) (c1:CalX P w K mg base 7 "stands" ["urn","rule","draws"] (sp_st ec)) (c2:Cal P w K mg base 5 "mean_balls" ["behind","kind"] sp_mb):FnOk P w K mg base (CX1 P w) 8 f fd ["urn","rule","draws"] (sp_mn ec):=by
  refine F.okX sc_mn (fun vs H Q E h=>?_) (fun cdv A outer s H vs Q E hr h=>?_)
  · rcases h with ⟨st,u,v,x,d,e,g,i,rfl,_⟩ | ⟨st,a,v,n,k,ns,rs,rfl,_⟩
    · rfl
    · rfl
  refine ⟨_,pss_cons (ps_set (i:=3) sc_mn.nd rfl (Or.inr rfl) (pe_calx c1 hr rfl passes1 (pa_cons (pv 0) (pa_cons (pv 1) (pa_cons (pv 2) pa_nil)))))
    (PSs.nox (pss_one (ps_ret (pe_callTy call_tuple_of rfl B.tuple boot_tuple (pa_cons (pe_compG (N:=["kind","behind"]) (ix:=[none,some 3]) (ifs:=[]) (tc:=tTrue) rfl
      (pi_range1 rfl B.range (pa_cons (pe_callB call_len_seq rfl B.len PySem.boot_len (pa_cons (pv 0) pa_nil)) pa_nil))
      (fun s H ex=>pg_c (i:=0) (by decide +kernel) rfl (Or.inl rfl) (.inr rfl)) (fun s H ex=>pifs_nil)
      (fun s H ex=>pe_cal (c2.up (by decide)) hr rfl (pa_cons (pv 1) (pa_cons (pv 0) pa_nil))) rfl (by decide +kernel) (by rfl) (by rfl) (fun _=>rfl)) pa_nil))))),?_⟩
  rcases h with hrf | ⟨st,a,v,n,k,ns,rs,rfl,hA,q⟩
  · obtain ⟨st,u,v,x,d,e,g,i,rfl,rest⟩:=hrf
    exact ⟨_,rfl,_,rfl,_,rfl,.inl ⟨st,u,v,x,d,e,g,i,rfl,rest⟩⟩
  refine ⟨_,rfl,_,rfl,_,rfl,.inr ⟨st,a,v,n,k,ns,rs,rfl,hA,fun D ys T' H1 g1 hT hD hB=>?_⟩⟩
  obtain ⟨a',e,_,ha⟩:=hA.u.di
  cases e
  have hul:=hA.uu.len
  have n4:=hA.n4
  have k6:=hA.k6
  obtain ⟨w1,w2,w3,w4⟩:=ch_ok hA.ru n4 hA.uu k k6
  have e1:LL ^ k <= 2 ^ 1800:=Nat.le_trans (LL_pow k) (Nat.pow_le_pow_right (by decide) (by omega))
  have e2:4 ^ (k * k) <= 2 ^ 80:=by
    have:k * k <= 6 * 6:=Nat.mul_le_mul k6 k6
    exact Nat.le_trans (Nat.pow_le_pow_right (by decide) this) (by decide)
  refine ⟨_,rfl,a,_,rfl,.inr (.of (g1 _ _ ha)),(n:Int),by rw [List.length_map,hul],by omega,by omega,?_⟩
  refine blk_range (lo:=0) (n:=n) (sz (by omega)) (fun i zs H2=>Same H1 H2/\i <= n/\FrL H2 (mnQ rs ns k i) zs) ⟨Same.refl _,Nat.zero_le _,trivial⟩ (fun i zs H2 h=>?_) rfl (fun i zs H2 hi h=>?_) (fun zs H2 h=>?_)
  · rw [h.2.2.len,mnQ_len]
  · obtain ⟨g2,hil,hF⟩:=h
    have e0:(0:Int) + (i:Int)=(i:Int):=by omega
    rw [e0]
    refine ⟨_,rfl,_,rfl,D,i,n,20 + 5 * k,LL ^ k,4 ^ (k * k),T',ys,rfl,g2 _ _ hD,hB.same g2,fun p hp=>w1 p (hT.mem_iff.mp hp),by omega,n4,hi,fun p hp=>w3 p (hT.mem_iff.mp hp),by rw [hT.length_eq];exact hA.l64,LLp_pos k,e1,e2,fun r H3 g3 hr3=>⟨g2.trans g3,by omega,?_⟩⟩
    rw [linQ_perm hT] at hr3
    have e3:mnQ rs ns k (i + 1)=mnQ rs ns k i ++ [linQ (chQ rs k [(ns,1)]) (fun u=>balR u i)]:=by unfold mnQ;rw [List.range_succ,List.map_append];rfl
    rw [e3]
    exact FrL.snoc ⟨r,rfl,hr3⟩ (hF.mono fun a xs e=>g3 _ _ e)
  · obtain ⟨g2,_,hF⟩:=h
    intro p hp
    refine ⟨p,_,rfl,.inl ⟨.of upd_same,fun l hl=>?_⟩⟩
    have g3:Same H2 (upd (upd H2 p (.lst zs)) l (.tup zs)):=(Same.new hp).trans (Same.new hl)
    exact q l zs _ ((g1.trans g2).trans g3) upd_same (hF.mono fun a xs e=>g3 _ _ e)
end
end G
set_option maxHeartbeats 1000000
namespace So
open PySem PyProof.Rows
section
variable {prog:Program} {w:World} {A:Around} {E:Value->Shared->Prop} {s:Shared} {rk:Keyed->Int} {M:Keyed->Prop} {κ:SortKind}
end
end So
namespace So
open PySem PyProof.Rows
def Up (rk:Keyed->Int) (l:List Keyed):Prop:=l.Pairwise fun x y=>rk x <= rk y
structure Mg (rk:Keyed->Int) (la lb O:List Keyed) (ia ib:Nat):Prop where
  perm:O.Perm (la.take ia ++ lb.take ib)
  up:Up rk O
  low:∀ x ∈ O,∀ y ∈ la.drop ia ++ lb.drop ib,rk x <= rk y
end So
set_option maxHeartbeats 4000000
namespace So
open PySem PyProof.Rows
def Gl (st st':SortSt):Prop:=kindOf st'=kindOf st/\arrOf st'=arrOf st/\pendingOf st'=pendingOf st/\failedOf st'=failedOf st
section
variable {rk:Keyed->Int} {a b out:Array Keyed} {ia ib:Nat}
end
section
variable {prog:Program} {w:World} {A:Around} {E:Value->Shared->Prop} {s:Shared} {rk:Keyed->Int} {M:Keyed->Prop} {κ:SortKind}
end
end So
namespace So
open PySem PyProof.Rows
section
variable {prog:Program} {w:World} {A:Around} {E:Value->Shared->Prop} {s:Shared} {rk:Keyed->Int} {M:Keyed->Prop} {κ:SortKind}
end
end So
namespace So
open PySem PyProof.Rows
structure Mh (rk:Keyed->Int) (la lb O:List Keyed) (na nb:Nat):Prop where
  perm:O.Perm (la.drop na ++ lb.drop nb)
  up:Up rk O
  hi:∀ x ∈ la.take na ++ lb.take nb,∀ y ∈ O,rk x <= rk y
section
variable {rk:Keyed->Int} {a b out:Array Keyed} {na nb:Nat}
end
section
variable {prog:Program} {w:World} {A:Around} {E:Value->Shared->Prop} {s:Shared} {rk:Keyed->Int} {M:Keyed->Prop} {κ:SortKind}
end
end So
namespace So
open PySem PyProof.Rows
section
variable {prog:Program} {w:World} {A:Around} {E:Value->Shared->Prop} {s:Shared} {rk:Keyed->Int} {M:Keyed->Prop} {κ:SortKind}
end
end So
namespace So
open PySem PyProof.Rows
section
variable {prog:Program} {w:World} {A:Around} {E:Value->Shared->Prop} {s:Shared} {rk:Keyed->Int} {M:Keyed->Prop} {κ:SortKind}
end
end So
namespace So
open PySem PyProof.Rows
structure Kpt (lo:Nat) (a b:Array Keyed):Prop where
  perm:b.toList.Perm a.toList
  low:∀ i,i < lo->b[i]?=a[i]?
section
variable {prog:Program} {w:World} {A:Around} {E:Value->Shared->Prop} {s:Shared} {rk:Keyed->Int} {M:Keyed->Prop} {κ:SortKind} {pd:Array (Nat × Nat × Nat)} {mg:Nat}
end
end So
namespace So
open PySem PyProof.Rows
section
variable {prog:Program} {w:World} {A:Around} {E:Value->Shared->Prop} {s:Shared} {rk:Keyed->Int} {M:Keyed->Prop} {κ:SortKind} {pd:Array (Nat × Nat × Nat)} {mg:Nat}
end
end So
namespace So
open PySem PyProof.Rows
section
variable {prog:Program} {w:World} {A:Around} {E:Value->Shared->Prop} {s:Shared} {rk:Keyed->Int} {M:Keyed->Prop} {κ:SortKind}
end
end So
namespace So
open PySem PyProof.Rows PySem.Spec L2
section
variable {prog:Program} {w:World} {A:Around} {E:Value->Shared->Prop} {s:Shared} {rk:Keyed->Int} {M:Keyed->Prop} {κ:SortKind}
end
end So
namespace L2
open PySem PySem.Spec PyProof.Rows HT
section
variable {prog:Program} {w:World} {A:Around} {E:Value->Shared->Prop} {s:Shared}
end
end L2
namespace L2
open PySem PySem.Spec PyProof.Rows HT
section
variable {X:Cx} {H:Hp}
end
end L2
namespace L2
open PySem PySem.Spec PyProof.Rows HT
section
variable {X:Cx} {H:Hp}
end
end L2
namespace L2
open PySem PySem.Spec PyProof.Rows
section
variable {K:PySem.W.Frag} {σ0:St} {te:TE} {H:Hp} {F:List V->Hp->Prop}
end
end L2
namespace L2
open PySem PySem.Spec PyProof.Rows
section
variable {prog:Program} {w:World} {A:Around} {E:Value->Shared->Prop} {s:Shared}
structure ZipTL (h:Heap) (z TI TO i1 i2 t1 t2:Addr) (k:Nat):Prop where
  zz:IsZip h z TI TO .none
  ti:IsPair h TI (.ref i1) (.ref i2)
  tO:∃ a b,IsPair h TO a b
  it1:h.IsTupleIter i1 t1 k
  it2:h.IsListIter i2 t2 k
theorem zipTL_item {z TI TO i1 i2 t1 t2:Addr} {xs ys:Array Value} {k:Nat} {x y:Value} {Q:Option Value->Shared->Prop} (D:ZipD z TI TO i1 i2 t1 t2) (Z:ZipTL s.heap z TI TO i1 i2 t1 t2 k) (hl1:s.heap.IsTuple t1 xs) (hl2:s.heap.IsList t2 ys)
    (hx:xs[k]?=some x) (hy:ys[k]?=some y)
    (hQ:∀ h',IsZip h' z TI TO (rawInt s.heap.objs.size)->IsPair h' TO x y->h'.IsTupleIter i1 t1 (k + 1)->h'.IsListIter i2 t2 (k + 1)->IsPair h' s.heap.objs.size x y->h'.objs.size=s.heap.objs.size + 1 ->
      (∀ c o,c ∉ [z,TO,i1,i2]->s.heap.get? c=some o->h'.get? c=some o)->Q (some (.ref s.heap.objs.size)) { s with heap:=h' }) :
    wpAny (model prog w) A (pyNext (.ref z)) Q E s:=by
  obtain ⟨hz,hTI,⟨a,b,hTO⟩,h1,h2⟩:=Z
  have hT:s.TypeIs (.ref z) "zip":=⟨_,hz,rfl⟩
  unfold pyNext
  refine wpAny_bind (wpAny_attempt (wpAny_callSpecial?_slot (name:=Str.ofString "__next__") hT F.slot_zip_next (wpAny_call_entry F.slot_zip_next hT F.entry_zip_next ?_ (F.args_zip_next_1 _))))
  show wpAny _ _ (field (.ref z) 2 >>= _) _ _ _
  refine wpAny_bind (wpAny_field hz rfl (x:=.bool false) rfl ?_)
  show wpAny _ _ (field (.ref z) 3 >>= _) _ _ _
  refine wpAny_bind (wpAny_field hz rfl (x:=.ref TI) rfl (wpAny_bind (wpAny_seqItems hTI rfl ?_)))
  show wpAny _ _ (Builtin.SmallTypes.ownedTupleIsFree (.ref z) >>= _) _ _ _
  refine wpAny_bind ?_
  unfold Builtin.SmallTypes.ownedTupleIsFree
  refine wpAny_bind (wpAny_field hz rfl (x:=.none) rfl (wpAny_pure ?_))
  simp only [if_true]
  refine wpAny_bind (wpAny_rule (wpAny_bind (wpAny_field hz rfl (x:=.ref TO) rfl (wpAny_bind (wpAny_setField_rec hz (by simp) fun g1 z1 s1=>?_)))))
  replace z1:IsZip g1 z TI TO .ellipsis:=z1
  refine wpAny_bind ?_
  simp only [List.zipIdx_cons,List.zipIdx_nil,List.forIn_cons,List.forIn_nil]
  refine wpAny_bind (wpAny_bind (wpAny_onRaise ?_))
  show wpAny _ _ (Builtin.SmallTypes.nextOf (.ref i1) >>= _) _ _ _
  refine wpAny_bind (nextT_item (h1.at fun o e=>s1.extBut _ o D.a3 e) (hl1.at fun o e=>s1.extBut _ o D.e1 e) hx fun g2 j1 s2=>wpAny_pure ?_)
  have o2:IsPair g2 TO a b:=s2.extBut _ _ D.c1 (s1.extBut _ _ D.a2 hTO)
  refine wpAny_bind (wpAny_seqItems o2 rfl (wpAny_bind (wpAny_updateSeq_pair o2 fun g3 o3 s3=>?_)))
  replace o3:IsPair g3 TO x b:=o3
  refine wpAny_bind (wpAny_letGo (wpAny_pure (wpAny_bind (wpAny_bind (wpAny_onRaise ?_)))))
  show wpAny _ _ (Builtin.SmallTypes.nextOf (.ref i2) >>= _) _ _ _
  refine wpAny_bind (wpAny_nextOf_list_item (h2.at fun o e=>s3.extBut _ o D.c2.symm (s2.extBut _ o D.d1.symm (s1.extBut _ o D.a4 e))) (hl2.at' fun o e=>s3.extBut _ o D.f2 (s2.extBut _ o D.f3 (s1.extBut _ o D.f1 e))) hy fun g4 j2 s4=>wpAny_pure ?_)
  have o4:IsPair g4 TO x b:=s4.extBut _ _ D.c2 o3
  refine wpAny_bind (wpAny_seqItems o4 rfl (wpAny_bind (wpAny_updateSeq_pair o4 fun g5 o5 s5=>?_)))
  replace o5:IsPair g5 TO x y:=o5
  refine wpAny_bind (wpAny_letGo (wpAny_pure (wpAny_pure ?_)))
  refine wpAny_bind (wpAny_seqItems o5 rfl (wpAny_bind (wpAny_newTuple ?_)))
  have hsz:g5.objs.size=s.heap.objs.size:=by rw [s5.1,s4.1,s3.1,s2.1,s1.1]
  have z5:IsZip g5 z TI TO .ellipsis:=s5.extBut _ _ D.a2.symm (s4.extBut _ _ D.a4.symm (s3.extBut _ _ D.a2.symm (s2.extBut _ _ D.a3.symm z1)))
  have k5:∀ c o,c ∉ [z,TO,i1,i2]->s.heap.get? c=some o->g5.get? c=some o:=fun c o hc e=>by
    simp only [List.mem_cons,List.not_mem_nil,or_false,not_or] at hc
    exact s5.extBut _ _ hc.2.1 (s4.extBut _ _ hc.2.2.2 (s3.extBut _ _ hc.2.1 (s2.extBut _ _ hc.2.2.1 (s1.extBut _ _ hc.1 e))))
  have m1:g5.IsTupleIter i1 t1 (k + 1):=j1.at fun o e=>s5.extBut _ o D.c1.symm (s4.extBut _ o D.d1 (s3.extBut _ o D.c1.symm e))
  have m2:g5.IsListIter i2 t2 (k + 1):=j2.at fun o e=>s5.extBut _ o D.c2.symm e
  show wpAny _ _ (Builtin.SmallTypes.ownedTupleHandOut (.ref z) (.ref g5.objs.size) >>= _) _ _ _
  refine wpAny_bind ?_
  unfold Builtin.SmallTypes.ownedTupleHandOut
  have z6:IsZip (g5.push { cls:=.type "tuple",data:=.seq #[x,y] }) z TI TO .ellipsis:=Heap.get?_push_of_some _ z5
  refine wpAny_bind (wpAny_setField_rec z6 (by simp) fun g7 z7 s7=>?_)
  replace z7:IsZip g7 z TI TO (rawInt g5.objs.size):=z7
  refine wpAny_setField_rec z7 (by simp) fun g8 z8 s8=>?_
  replace z8:IsZip g8 z TI TO (rawInt g5.objs.size):=z8
  have up:∀ c o,c ≠ z->g5.get? c=some o->g8.get? c=some o:=fun c o hc e=>s8.extBut _ _ hc (s7.extBut _ _ hc (Heap.get?_push_of_some _ e))
  have new8:IsPair g8 g5.objs.size x y:=s8.extBut _ _ (Nat.ne_of_gt (Heap.lt_size z5)) (s7.extBut _ _ (Nat.ne_of_gt (Heap.lt_size z5)) (Heap.get?_push_size _ rfl))
  have size8:g8.objs.size=g5.objs.size + 1:=by rw [s8.1,s7.1,Heap.size_push]
  rw [hsz] at z8 new8 size8
  refine wpAny_pure ⟨_,rfl,wpAny_pure ?_⟩
  show Q (some (.ref g5.objs.size)) _
  rw [hsz]
  exact hQ g8 z8 (up _ _ D.a2 o5) (m1.at fun o e=>up _ o D.a3 e) (m2.at fun o e=>up _ o D.a4 e) new8 size8 fun c o hc e=>up c o (fun q=>hc (by simp [q])) (k5 c o hc e)
theorem zipTL_end {z TI TO i1 i2 t1 t2:Addr} {xs:Array Value} {k:Nat} {Q:Option Value->Shared->Prop} (hh:A.handled=none) (D:ZipD z TI TO i1 i2 t1 t2) (Z:ZipTL s.heap z TI TO i1 i2 t1 t2 k) (hl1:s.heap.IsTuple t1 xs)
    (hx:xs[k]?=none) (hQ:∀ h',(∀ c o,c ∉ [z,TO,i1,i2]->s.heap.get? c=some o->h'.get? c=some o)->Q none { s with heap:=h' }):wpAny (model prog w) A (pyNext (.ref z)) Q E s:=by
  obtain ⟨hz,hTI,⟨a,b,hTO⟩,h1,h2⟩:=Z
  have hT:s.TypeIs (.ref z) "zip":=⟨_,hz,rfl⟩
  unfold pyNext
  refine wpAny_bind (wpAny_attempt (wpAny_callSpecial?_slot (name:=Str.ofString "__next__") hT F.slot_zip_next (wpAny_call_entry F.slot_zip_next hT F.entry_zip_next ?_ (F.args_zip_next_1 _))))
  show wpAny _ _ (field (.ref z) 2 >>= _) _ _ _
  refine wpAny_bind (wpAny_field hz rfl (x:=.bool false) rfl ?_)
  show wpAny _ _ (field (.ref z) 3 >>= _) _ _ _
  refine wpAny_bind (wpAny_field hz rfl (x:=.ref TI) rfl (wpAny_bind (wpAny_seqItems hTI rfl ?_)))
  show wpAny _ _ (Builtin.SmallTypes.ownedTupleIsFree (.ref z) >>= _) _ _ _
  refine wpAny_bind ?_
  unfold Builtin.SmallTypes.ownedTupleIsFree
  refine wpAny_bind (wpAny_field hz rfl (x:=.none) rfl (wpAny_pure ?_))
  simp only [if_true]
  refine wpAny_bind (wpAny_rule (wpAny_bind (wpAny_field hz rfl (x:=.ref TO) rfl (wpAny_bind (wpAny_setField_rec hz (by simp) fun g1 z1 s1=>?_)))))
  replace z1:IsZip g1 z TI TO .ellipsis:=z1
  refine wpAny_bind ?_
  simp only [List.zipIdx_cons,List.zipIdx_nil,List.forIn_cons,List.forIn_nil]
  refine wpAny_bind (wpAny_bind (wpAny_onRaise ?_))
  show wpAny _ _ (Builtin.SmallTypes.nextOf (.ref i1) >>= _) _ _ _
  refine wpAny_bind (nextT_end hh (h1.at fun o e=>s1.extBut _ o D.a3 e) (hl1.at fun o e=>s1.extBut _ o D.e1 e) hx fun g2 e s2 he=>?_)
  obtain ⟨oe,hoe,hce⟩:=he
  have z2:IsZip g2 z TI TO .ellipsis:=s2 _ _ D.a3.symm z1
  have hez:e ≠ z:=fun q=>by subst q;rw [z2] at hoe;cases hoe;simp at hce
  refine wpAny_setField_rec z2 (by simp) fun g3 _ s3=>?_
  refine wpAny_bind (wpAny_isInstance (T:="StopIteration") (b:=true) ⟨oe,s3.extBut _ _ hez hoe,hce⟩ isSubtype_stop (wpAny_pure (hQ g3 fun c o hc q=>?_)))
  simp only [List.mem_cons,List.not_mem_nil,or_false,not_or] at hc
  exact s3.extBut _ _ hc.1 (s2 _ _ hc.2.2.1 (s1.extBut _ _ hc.1 q))
abbrev zipHpTL (h:Heap) (t1 t2:Addr):Heap:=((((h.push (tit t1)).push (lit t2)).push (tpr (.ref h.objs.size) (.ref (h.objs.size + 1)))).push (tpr .none .none)).push (zob (h.objs.size + 2) (h.objs.size + 3))
theorem zip_newTL (t1 t2:Addr) (xs ys:Array Value) :
    Meets (Builtin.«zip.__new__» ⟨[.type "zip",.ref t1,.ref t2],[]⟩) (fun _ R s=>s.heap.IsTuple t1 xs/\s.heap.IsList t2 ys/\R (.ok (.ret (.ref (s.heap.objs.size + 4)))) { s with heap:=zipHpTL s.heap t1 t2 }) :=
  .of_wp fun prog w A R s h=>by
    obtain ⟨hp,g,d,tk,os⟩:=s;obtain ⟨hl1,hl2,h⟩:=h
    have hsub:=sub_zip
    have hL1:Heap.IsTuple (Shared.heap ⟨hp,g,d,tk,os⟩) t1 xs:=hl1
    have hL2:Heap.IsList (Shared.heap ⟨hp.push (tit t1),g,d,tk,os⟩) t2 ys:=Heap.IsList.push hl2 _
    wp_walk using wpAny_pyIter_tuple hL1,wpAny_pyIter_list hL2
    simp only [Heap.size_push]
    exact ⟨_,rfl,h⟩
theorem call_zipTL {t1 t2:Addr} {xs ys:Array Value} {Q:Value->Shared->Prop} (hl1:s.heap.IsTuple t1 xs) (hl2:s.heap.IsList t2 ys)
    (h:∀ h',ZipTL h' (s.heap.objs.size + 4) (s.heap.objs.size + 2) (s.heap.objs.size + 3) s.heap.objs.size (s.heap.objs.size + 1) t1 t2 0->(∀ c o,s.heap.get? c=some o->h'.get? c=some o)->h'.objs.size=s.heap.objs.size + 5 ->
      Q (.ref (s.heap.objs.size + 4)) { s with heap:=h' }):wpAny (model prog w) A (call (.type "zip") [.ref t1,.ref t2]) Q E s:=by
  refine callType_new F.called_zip (by decide) (F.typeCall_zip_2 _ _) (F.newCall_zip_2 _ _) (fun obj=>F.args_object_init_3 obj _ _) F.entry_zip_new (zip_newTL t1 t2 xs ys) ⟨hl1,hl2,?_⟩
  have up:∀ {b:Addr} {o:Obj} (h0:Heap) (x:Obj),h0.get? b=some o->(h0.push x).get? b=some o:=fun _ _ e=>Heap.get?_push_of_some _ e
  have here:∀ (h0:Heap) (x:Obj) (n:Nat),x.isFreed=false->h0.objs.size=n->(h0.push x).get? n=some x:=fun h0 x n hf e=>by subst e;exact Heap.get?_push_size _ hf
  have Z:ZipTL (zipHpTL s.heap t1 t2) (s.heap.objs.size + 4) (s.heap.objs.size + 2) (s.heap.objs.size + 3) s.heap.objs.size (s.heap.objs.size + 1) t1 t2 0 :=
    ⟨here _ _ _ rfl (by simp only [Heap.size_push]),up _ _ (up _ _ (here _ _ _ rfl (by simp only [Heap.size_push]))),⟨_,_,up _ _ (here _ _ _ rfl (by simp only [Heap.size_push]))⟩,
      ⟨_,up _ _ (up _ _ (up _ _ (up _ _ (here _ _ _ rfl rfl)))),rfl,rfl⟩,⟨_,up _ _ (up _ _ (up _ _ (here _ _ _ rfl (by simp only [Heap.size_push])))),rfl,rfl⟩⟩
  exact ⟨⟨_,Z.zz,rfl⟩,h _ Z (fun c o e=>up _ _ (up _ _ (up _ _ (up _ _ (up _ _ e))))) (by simp only [Heap.size_push])⟩
end
section
variable {X:Cx} {pins:List (Addr × Obj)} {σ:St} {H:Hp} {s:Shared}
def ItzTL (K:PySem.W.Frag) (a b:Addr):It :=
  ⟨fun i H=>∃ xs ys x y,SqT K H a xs/\SqL K H b ys/\xs[i]?=some x/\ys[i]?=some y,fun i H v H'=>∃ p x y,H p=none/\v=.ref p/\H'=upd H p (.tup [x,y])/\(∀ xs,SqT K H a xs->xs[i]?=some x)/\∀ ys,SqL K H b ys->ys[i]?=some y,
    fun i H=>∃ xs,SqT K H a xs/\xs.length <= i⟩
theorem turn_zipTL {P:Program} {w:World} {K:PySem.W.Frag} {es:List Expr} {kk:Nat} {pos:Pos} {a b z TI TO i1 i2:Addr} (D:ZipD z TI TO i1 i2 a b) :
    Turn P w K (.Tuple es kk pos) (ItzTL K a b) [z,TI,TO,i1,i2] z (fun i h=>ZipTL h z TI TO i1 i2 a b i) where
  mem:=by simp
  obj:=fun i h st c hc=>by
    obtain ⟨hz,hTI,⟨_,_,hTO⟩,⟨_,h1,_,d1⟩,⟨_,h2,_,d2⟩⟩:=st
    simp only [List.mem_cons,List.not_mem_nil,or_false] at hc
    rcases hc with rfl | rfl | rfl | rfl | rfl
    · exact ⟨_,hz,fun v q=>by cases q⟩
    · exact ⟨_,hTI,fun v q=>by cases q⟩
    · exact ⟨_,hTO,fun v q=>by cases q⟩
    · exact ⟨_,h1,fun v q=>by rw [d1] at q;cases q⟩
    · exact ⟨_,h2,fun v q=>by rw [d2] at q;cases q⟩
  keep:=fun i h h' st k=>by
    obtain ⟨hz,hTI,⟨_,_,hTO⟩,h1,h2⟩:=st
    exact ⟨k _ (by simp) _ hz,k _ (by simp) _ hTI,⟨_,_,k _ (by simp) _ hTO⟩,h1.at fun o e=>k _ (by simp) o e,h2.at fun o e=>k _ (by simp) o e⟩
  item:=by
    intro X hP hw hK hc i pins s σ H E I hf st hg
    subst hP hw hK
    obtain ⟨xs,ys,x,y,ha,hb,hx,hy⟩:=hg
    obtain ⟨its,r1,p1,_⟩:=I.tuple ha
    obtain ⟨its2,r2,p2,_⟩:=I.list hb
    obtain ⟨u,hu,ru⟩:=r1.get hx
    obtain ⟨v,hv,rv⟩:=r2.get hy
    refine zipTL_item D st (show s.heap.IsTuple a its.toArray from p1) (show s.heap.IsList b its2.toArray from p2.isList) (x:=u) (y:=v) (by simpa using hu) (by simpa using hv) fun h' z1 o1 j1 j2 new sz keep=>?_
    refine ⟨_,rfl,wpAny_letOwnedTupleGo_zip (s:={ s with heap:=h' }) z1 fun h2 z2 sb=>?_⟩
    have hn:H s.heap.objs.size=none:=I.hok.fresh (Nat.le_refl _)
    have zlt:z < s.heap.objs.size:=Heap.lt_size st.zz
    have k2:∀ c o,c ∉ [z,TI,TO,i1,i2]->s.heap.get? c=some o->h2.get? c=some o:=fun c o hc e=>by
      simp only [List.mem_cons,List.not_mem_nil,or_false,not_or] at hc
      exact sb.extBut _ _ hc.1 (keep c o (by simp only [List.mem_cons,List.not_mem_nil,or_false,not_or];exact ⟨hc.1,hc.2.2.1,hc.2.2.2.1,hc.2.2.2.2⟩) e)
    have e0:h2.get? s.heap.objs.size=some { cls:=.type "tuple",data:=.seq #[u,v] }:=sb.extBut _ _ (Nat.ne_of_gt zlt) new
    have pne:∀ c o,s.heap.get? c=some o->c ≠ s.heap.objs.size:=fun c o e=>Nat.ne_of_lt (Heap.lt_size e)
    have nit:∀ c u,H c=some u->c ∉ [z,TI,TO,i1,i2]:=fun c u e q=>by rw [(hf c q).1] at e;cases e
    have hok:HOk X.prog X.w (upd H s.heap.objs.size (.tup [x,y])) h2:=fun c ob e=>by
      by_cases hq:c=s.heap.objs.size
      · subst hq
        rw [upd_same] at e;cases e
        exact ⟨by show 2 <= sizeLine;decide,[u,v],.cons ru (.cons rv .nil),⟨_,e0,rfl,_,rfl⟩⟩
      · rw [upd_ne hq] at e
        refine (I.hok c ob e).stay (fun d w' hd q=>k2 d w' ?_ q) (fun d q=>by rw [upd_ne (ne_of_none q hn)];exact q) fun d xs q=>by rw [upd_ne (ne_of_none q hn)];exact q
        rcases hd with rfl | hd
        · exact nit d ob e
        · exact nit d _ hd
    have I2:Inv X pins σ (upd H s.heap.objs.size (.tup [x,y])) { s with heap:=h2 }:=by
      refine I.step (g':=s.gens) (d':=s.drawn) (t':=s.toks) (ch:=[z,TI,TO,i1,i2]) (fun c hc=>⟨(hf c hc).2.2.2.1,(hf c hc).2.1,(hf c hc).2.2.2.2.1,(hf c hc).2.2.2.2.2⟩) (fun c o _ _ hc e _=>k2 c o hc e) (fun c o _ _ hc e _=>⟨o.slots,k2 c o hc e⟩)
        (fun c o _ e n=>by rw [upd_ne (pne c o e)];exact n) (fun c o hc e=>⟨o,k2 c o hc e⟩) (fun c xs e=>by rw [upd_ne (ne_of_none e hn)];exact e) (fun c o u e=>by rw [upd_ne (ne_of_none e hn)];exact e) (fun c ps e=>⟨#[],by rw [upd_ne (ne_of_none e hn),e];simp⟩) (fun m hm=>?_) hok I.bare
      obtain ⟨o,es,ep,ho,r⟩:=hm
      exact ⟨o,es,ep,k2 _ o (fun q=>(hf _ q).2.1 rfl) ho,r⟩
    refine ⟨.ref s.heap.objs.size,_,I2,rfl,⟨_,x,y,hn,rfl,rfl,fun xs' h'=>by rw [I.tuple_inj h' ha];exact hx,fun ys' h'=>by rw [I.list_inj h' hb];exact hy⟩,?_,fun c hc=>?_⟩
    · exact ⟨z2,sb.extBut _ _ D.a1 (keep _ _ (by simp only [List.mem_cons,List.not_mem_nil,or_false,not_or];exact ⟨D.a1,D.b1,D.b2,D.b3⟩) st.ti),⟨_,_,sb.extBut _ _ D.a2 o1⟩,j1.at fun o e=>sb.extBut _ o D.a3 e,j2.at fun o e=>sb.extBut _ o D.a4 e⟩
    · have hlt:c < s.heap.objs.size:=by
        obtain ⟨hz,hTI,⟨_,_,hTO⟩,⟨_,h1,_⟩,⟨_,h2,_⟩⟩:=st
        simp only [List.mem_cons,List.not_mem_nil,or_false] at hc
        rcases hc with rfl | rfl | rfl | rfl | rfl
        · exact Heap.lt_size hz
        · exact Heap.lt_size hTI
        · exact Heap.lt_size hTO
        · exact Heap.lt_size h1
        · exact Heap.lt_size h2
      rw [upd_ne (Nat.ne_of_lt hlt)]
      exact (hf c hc).1
  done:=by
    intro X hP hw hK hc i pins s σ H E I hf st hg
    subst hP hw hK
    obtain ⟨xs,ha,hx⟩:=hg
    obtain ⟨its,r1,p1,_⟩:=I.tuple ha
    have hl:=r1.length
    refine zipTL_end (I.ok.hd hc) D st (show s.heap.IsTuple a its.toArray from p1) (by simp;omega) fun h' keep=>⟨rfl,I.turnedL (t':=s.toks) (ch:=[z,TI,TO,i1,i2]) (fun c o hc e=>keep c o (fun q=>hc ?_) e) hf⟩
    simp only [List.mem_cons,List.not_mem_nil,or_false] at q ⊢
    rcases q with q | q | q | q
    · exact .inl q
    · exact .inr (.inr (.inl q))
    · exact .inr (.inr (.inr (.inl q)))
    · exact .inr (.inr (.inr (.inr q)))
  self:=fun _ _ _ _ _ st h=>wpAny_pyIter_zip st.zz h
def iZipTL (K:PySem.W.Frag) (ta:TA):TI:=fun σ H R=>ta σ H fun vs H1=>∃ a b xs ys,vs=[.ref a,.ref b]/\SqT K H1 a xs/\SqL K H1 b ys/\R (ItzTL K a b) H1
theorem pi_zipTL {e1 e2:Expr} {es:List Expr} {kk:Nat} {pt p pos:Pos} {ta:TA} (hg:Gl X "zip") (hm:X.mg "zip"=none) (ha:PA X [e1,e2] ta) (hs:starEach [e1,e2] X.env=[(false,eval e1 X.env),(false,eval e2 X.env)]:=by rfl) (hs2:starEach [e2] X.env=[(false,eval e2 X.env)]:=by rfl) :
    PI X (.Tuple es kk pt) (.Call (.Name "zip" p) [e1,e2] [] pos) (iZipTL X.K ta):=by
  intro pins s σ H R I h
  refine Call_ (ld_blt I hg hm boot_zip (PyProof.Rows.callWith_type1 (thn (ha pos pins s σ H _ I h) fun us s1 ⟨vs,H1,I1,r1,q1⟩=>?_) (by rw [hs,hs2]) (by rw [hs2];rfl)))
  obtain ⟨a,b,xs,ys,rfl,hx,hy,q⟩:=q1
  cases r1 with
  | cons ra rr =>
    cases rr with
    | cons rb rr =>
      cases rr
      cases ra
      cases rb
      obtain ⟨its,r1,p1,_⟩:=I1.tuple hx
      obtain ⟨its2,r2,p2,_⟩:=I1.list hy
      refine call_zipTL (show s1.heap.IsTuple a its.toArray from p1) (show s1.heap.IsList b its2.toArray from p2.isList) fun h' Z keep sz=>?_
      refine wpAny_pyIter_zip (s:={ s1 with heap:=h' }) Z.zz ?_
      have I2:Inv X pins σ H1 { s1 with heap:=h' }:=I1.kept (t':=s1.toks) keep
      refine ⟨s1.heap.objs.size + 4,[s1.heap.objs.size + 4,s1.heap.objs.size + 2,s1.heap.objs.size + 3,s1.heap.objs.size,s1.heap.objs.size + 1],_,_,H1,rfl,I2,turn_zipTL (ZipD.new p1.lt p2.isList.lt'),Z,fun c hc=>?_,q⟩
      have hge:s1.heap.objs.size <= c:=by
        simp only [List.mem_cons,List.not_mem_nil,or_false] at hc
        rcases hc with rfl | rfl | rfl | rfl | rfl <;> first | exact Nat.le_add_right _ _ | exact Nat.le_refl _
      exact I1.fpOk hge (I1.hok.fresh hge)
end
section
variable {X:Cx} {K:PySem.W.Frag}
theorem blk_zipTL {a b:Addr} {xs ys:List V} {σ0:St} {te:TE} {H:Hp} {F:List V->Hp->Prop} (hn:xs.length <= sizeLine) (hxy:xs.length=ys.length) (Pv:Nat->List V->Hp->Prop) (h0:Pv 0 [] H) (hl:∀ i zs H,Pv i zs H->zs.length=i)
    (hq:∀ i zs H,i <= xs.length->Pv i zs H->SqT K H a xs/\SqL K H b ys) (hσ:σ0[0]?=some none/\σ0[1]?=some none)
    (hs:∀ i zs H x y p,xs[i]?=some x->ys[i]?=some y->H p=none->Pv i zs H->te ((σ0.set 0 (some x)).set 1 (some y)) (upd H p (.tup [x,y])) fun z H'=>Pv (i + 1) (zs ++ [z]) H') (hd:∀ zs H,Pv xs.length zs H->F zs H) :
    Blk (ItzTL K a b) σ0 (gTup K 2 (gCons (gName 0) (gCons (gName 1) gNil))) tTrue te H F:=by
  refine ⟨fun i m zs H=>m=xs.length - i/\i <= xs.length/\Pv i zs H,⟨xs.length,by simp,Nat.zero_le _,h0⟩,?_⟩
  rintro i m zs H2 ⟨rfl,hi,p⟩
  obtain ⟨q1,q2⟩:=hq i zs H2 hi p
  refine ⟨by rw [hl i zs H2 p];omega,?_⟩
  by_cases hlt:i < xs.length
  · refine .inr ⟨⟨xs,ys,xs[i],ys[i]'(by omega),q1,q2,by simp [hlt],by rw [List.getElem?_eq_getElem (by omega)]⟩,fun y H'=>Pv (i + 1) (zs ++ [y]) H',fun _=>False,fun y H' q=>⟨xs.length - (i + 1),by omega,rfl,hlt,q⟩,fun _ q=>q.elim,fun v H3 yld=>?_⟩
    obtain ⟨r,x,y,hr,rfl,rfl,hx,hy⟩:=yld
    exact ⟨r,[x,y],rfl,.of upd_same,rfl,x,[y],rfl,y,[],rfl,rfl,wk2 hσ _ _,hs i zs _ x y r (hx xs q1) (hy ys q2) hr p⟩
  · have e:i=xs.length:=by omega
    subst e
    exact .inl ⟨⟨xs,q1,Nat.le_refl _⟩,hd zs H2 p⟩
end
section
variable {X:Cx} {K:PySem.W.Frag}
end
section
variable {prog:Program} {w:World} {A:Around} {E:Value->Shared->Prop} {s:Shared}
structure ZipLM (h:Heap) (z TI TO i1 i2 t1 t2:Addr) (k:Nat):Prop where
  zz:IsZip h z TI TO .none
  ti:IsPair h TI (.ref i1) (.ref i2)
  tO:∃ a b,IsPair h TO a b
  it1:h.IsListIter i1 t1 k
  it2:h.IsListIter i2 t2 k
end
section
variable {X:Cx} {pins:List (Addr × Obj)} {σ:St} {H:Hp} {s:Shared}
end
section
variable {X:Cx} {K:PySem.W.Frag}
end
end L2
namespace L2
open PySem PySem.Spec PyProof.Rows
section
variable {prog:Program} {w:World} {A:Around} {E:Value->Shared->Prop} {s:Shared}
end
section
variable {X:Cx} {pins:List (Addr × Obj)} {σ:St} {H:Hp} {s:Shared}
end
end L2
namespace L2
open PySem PySem.Spec PyProof.Rows
section
variable {prog:Program} {w:World} {A:Around} {E:Value->Shared->Prop} {s:Shared}
end
section
variable {X:Cx} {pins:List (Addr × Obj)} {σ:St} {H:Hp} {s:Shared}
end
section
variable {X:Cx}
open Classical in
end
end L2
namespace So
open PySem PyProof.Rows PySem.Spec L2
section
variable {prog:Program} {w:World} {A:Around} {E:Value->Shared->Prop} {s:Shared} {rk:Keyed->Int} {M:Keyed->Prop} {κ:SortKind}
end
end So
namespace L2
open PySem PySem.Spec PyProof.Rows HT
section
variable {X:Cx} {H:Hp}
end
end L2
namespace L2
open PySem PySem.Spec PyProof.Rows
section
variable {X:Cx}
open Classical in
end
end L2
namespace L2
open PySem PySem.Spec PyProof.Rows
section
variable {X:Cx}
end
end L2
namespace L2
open PySem PySem.Spec PyProof.Rows
section
variable {prog:Program} {w:World} {A:Around} {R:Result->Shared->Prop} {s:Shared}
theorem compLoop_anyD {kx vx target iter:Expr} {scope:Scope} {pos:Pos} {it:Value} {D:Addr} {env:Env} (I:Nat->Shared->Prop)
    (turn:∀ n s,I n s->wpAny (model prog w) A (pyNext it) (fun r s₁=>match r with
      | none=>R (.ok .next) s₁
      | some v=>wpAny (model prog w) A (letOwnedTupleGo target it v) (fun _ s₁'=>wpAny (model prog w) A (assign target env v) (fun _ s₃ =>
            wpAny (model prog w) A (eval kx env) (fun kv s₄=>wpAny (model prog w) A (eval vx env) (fun vv s₅ =>
              wpAny (model prog w) A (dictSet D kv vv) (fun _ s₆=>∃ m,m < n/\I m s₆) (fun _ _=>False) s₅) (fun _ _=>False) s₄) (fun _ _=>False) s₃) (fun _ _=>False) s₁') (fun _ _=>False) s₁) (fun _ _=>False) s)
    (n:Nat) (h:I n s) :
    codeAny (model prog w) A (.compLoop (.DictComp kx vx [⟨target,iter,[],0⟩] scope pos) 0 it (.ref D) env) R s:=by
  refine codeAny_loop rfl I (fun n s hI=>?_) n h
  show wpAny _ A ((compTurn (.DictComp kx vx [⟨target,iter,[],0⟩] scope pos) 0 it (.ref D) env).onRaise (fun x=>do noteFrame x env;theTreesLotGoes x)) _ _ s
  refine wpAny_noted ?_
  rw [compTurn_dict]
  refine wpAny_bind (wpAny_standAt (wpAny_bind (wpAny_mono (turn n s hI) (fun r s₁ h₁=>?_) fun _ _ h'=>h'.elim)))
  cases r with
  | none=>exact wpAny_pure h₁
  | some v =>
    refine wpAny_bind (wpAny_mono h₁ (fun _ s₁' h₁'=>?_) fun _ _ h'=>h'.elim)
    refine wpAny_bind (wpAny_mono h₁' (fun _ s₂ h₂=>?_) fun _ _ h'=>h'.elim)
    simp only [List.forIn_nil]
    refine wpAny_bind (wpAny_pure ?_)
    simp only [if_true]
    refine wpAny_bind (wpAny_bind (wpAny_mono h₂ (fun kv s₄ h₄=>wpAny_bind (wpAny_holding (wpAny_mono h₄ (fun vv s₅ h₅=>wpAny_bind (wpAny_standAt (wpAny_holding (wpAny_mono h₅ (fun _ s₆ h₆=>wpAny_pure ⟨rfl,h₆⟩) fun _ _ h'=>h'.elim)))) fun _ _ h'=>h'.elim))) fun _ _ h'=>h'.elim))
end
section
variable {X:Cx} {pins:List (Addr × Obj)} {σ:St} {H H':Hp} {s s':Shared} {scope:Scope} {N:List Str} {ix:List (Option Nat)} {fp:List Addr}
theorem Inv.comp_endD {pins':List (Addr × Obj)} {σ':St} {h':Heap} (I:Inv X pins σ H s) (J:Inv (X.comp scope N s H fp) pins' σ' H' s') (hfp:∀ b ∈ fp,FpOk X pins H b)
    (hs:Heap.SameBut s.heap.objs.size s'.heap h'):Inv X pins σ H' { s' with heap:=h' }:=by
  have oldC:∀ b,b < s.heap.objs.size->b ≠ s.heap.objs.size:=fun b hb=>Nat.ne_of_lt hb
  have U:=J.base
  have un:Un (frs X.stack) fp H H' s.heap h':=by
    refine ⟨fun b o e n hb hx=>?_,fun b o e n hb hx=>?_,fun b o e n hx=>?_,fun b o e hx=>?_,fun b xs e=>?_,fun b o u e=>?_,fun b ps e=>?_⟩
    · exact (hs.2 b (oldC b (Heap.lt_size e))).trans (U.keep b o e n hb hx)
    · obtain ⟨sl,q⟩:=U.slot b o e n hb hx
      exact ⟨sl,(hs.2 b (oldC b (Heap.lt_size e))).trans q⟩
    · exact U.free b o e n hx
    · obtain ⟨o',q⟩:=U.there b o e hx
      exact ⟨o',(hs.2 b (oldC b (Heap.lt_size e))).trans q⟩
    · exact U.tups b xs e
    · exact U.frzs b o u e
    · exact U.tbls b ps e
  have hC:H' s.heap.objs.size=none:=J.free
  have hok:HOk X.prog X.w H' h':=fun b u e=>by
    refine (J.hok b u e).stay (fun c v hc q=>(hs.2 c ?_).trans q) (fun c q=>q) fun c xs q=>q
    rintro rfl
    rcases hc with z | z
    · rw [<- z,hC] at e;cases e
    · rw [hC] at z;cases z
  exact I.call' (s':={ s' with heap:=h' }) (ch:=fp) J.os un hok J.bare fun b hb=>⟨(hfp b hb).2.2.2.1,(hfp b hb).2.1,(hfp b hb).2.2.2.2.1,(hfp b hb).2.2.2.2.2⟩
end
section
variable {X:Cx} {scope:Scope} {N:List Str} {ix:List (Option Nat)} {kx vx target iter:Expr} {pos:Pos} {wi:TI} {g:TG} {tk tv:TE}
def BlkD (J:It) (σ0:St) (g:TG) (tk tv:TE) (p:Addr) (H1:Hp) (F:Hp->Prop):Prop:=∃ W:Nat->Nat->Hp->Prop,(∃ m,W 0 m H1)/\∀ i m H2,W i m H2 ->
  ((J.stop i H2/\F H2) ∨
   (J.go i H2/\∃ Ny:Hp->Prop,(∀ H,Ny H->∃ m',m' < m/\W (i + 1) m' H) /\
     ∀ x H3,J.yld i H2 x H3->g x σ0 H3 fun σ2 H4=>Wk σ0 σ2/\tk σ2 H4 fun y H5=>tv σ2 H5 fun v H6=>∃ H7,(∃ kvs k,H6 p=some (.dK kvs)/\y=kV k/\kvs.length < sizeLine/\H7=upd H6 p (.dK (putK kvs k v)))/\Ny H7))
abbrev accD (s:Shared):Shared:={ s with heap:=s.heap.push { cls:=.type "dict",data:=.dict #[] } }
theorem accD_size (s:Shared):(accD s).heap.objs.size=s.heap.objs.size + 1:=Heap.size_push ..
theorem dset_at {pins:List (Addr × Obj)} {σ:St} {H:Hp} {s:Shared} {a:Addr} {kvs:List (Key × V)} {k:Key} {v:V} {u r:Value} {E:Value->Shared->Prop} {Q:Unit->Shared->Prop} {A:Around} (I:Inv X pins σ H s) (e:H a=some (.dK kvs)) (l:kvs.length < sizeLine) (ry:RelV (kV k) u) (rv:RelV v r) (h:∀ s',Inv X pins σ (upd H a (.dK (putK kvs k v))) s'->(∀ b q,b ≠ a->s.heap.get? b=some q->s'.heap.get? b=some q)->Q () s') :
    wpAny (model X.prog X.w) A (dictSet a u r) Q E s:=by
  obtain ⟨z,hd,vs,rel,dd⟩:=dk_of I.hok e
  have hz:vs.length <= sizeLine:=by rw [<- rel.length];exact z
  have hl:(putK kvs k v).length <= sizeLine:=by have:=length_putK kvs k v;omega
  refine wpAny_dictSet_pairs (hsz:=hz) (kV_is ry) dd fun h' dd' hs=>h _ ?_ (fun b q hb hq=>(hs.2 b hb).trans hq)
  have he:∃ q,h'.get? a=some q:=let ⟨q,_,_,hq,_⟩:=dd';⟨q,hq⟩
  exact d_write I (by rw [e];exact True.intro) hs he (dk_new hl hd (rel.put k rv) dd')
theorem comp_runD {pins:List (Addr × Obj)} {σ:St} {H:Hp} {s:Shared} {it:Addr} {fp:List Addr} {tn:Nat->Heap->Prop} {J:It} {F:Hp->Prop} {E:Value->Shared->Prop} {RR:Value->Addr->Result->Shared->Prop}
    (hc:X.calm=true) (hk:scope.kind=.function) (hnm:okNames scope=true) (hf:okFree scope X.env=true) (hx:okIx scope X.N N ix=true)
    (hg:∀ s H ex,PG (X.comp scope N s H ex) target g) (hkx:∀ s H ex,PE (X.comp scope N s H ex) kx tk) (hvx:∀ s H ex,PE (X.comp scope N s H ex) vx tv)
    (I:Inv X pins σ H s) (T:Turn X.prog X.w X.K target J fp it tn) (st:tn 0 s.heap) (hfp:∀ b ∈ fp,FpOk X pins H b) (B:BlkD J (pick ix σ) g tk tv s.heap.objs.size (upd H s.heap.objs.size (.dK [])) F)
    (fin:∀ (H':Hp) (s':Shared) (σ':St),Inv X pins σ (upd H s.heap.objs.size (.dK [])) (accD s)->(∀ b ∈ fp,FpOk X pins (upd H s.heap.objs.size (.dK [])) b)->Inv (X.comp scope N (accD s) (upd H s.heap.objs.size (.dK [])) fp) [] σ' H' s'->F H'->RR (.ref s.heap.objs.size) (accD s).heap.objs.size (.ok .next) s') :
    wpAny (model X.prog X.w) X.A newDict (fun acc s₃=>wpAny (model X.prog X.w) X.A (newFunctionEnv scope X.env.globals (closL X.env scope.names []) [] X.env.qual none .none (some X.env)) (fun cenv s₄ =>
      codeAny (model X.prog X.w) X.A (.compStart (.DictComp kx vx [⟨target,iter,[],0⟩] scope pos) 0 (.ref it) acc { cenv with scope:=relabel scope X.env }) (RR acc cenv.locals) s₄) E s₃) E s:=by
  obtain ⟨W,⟨m0,w0⟩,turn⟩:=B
  have I1:Inv X pins σ (upd H s.heap.objs.size (.dK [])) (accD s):=I.laid (a:=s.heap.objs.size) (o:=.dK []) (h':=s.heap.push { cls:=.type "dict",data:=.dict #[] }) (t':=s.toks) (fun _ _ q=>Heap.get?_push_of_some _ q) (Nat.le_refl _) (dk_empty s.heap I.big)
  refine wpAny_newObj_type (newEnv_comp ?_) (by show (#[]:Array DictEntry).size <= _;exact Nat.zero_le _)
  have fpLt:∀ b ∈ fp,b < s.heap.objs.size:=fun b hb=>let ⟨o,e,_⟩:=T.obj 0 _ st b hb;Heap.lt_size e
  generalize hH0:upd H s.heap.objs.size (.dK [])=H0 at *
  have hfp1:∀ b ∈ fp,FpOk X pins H0 b:=fun b hb=>by
    obtain ⟨f0,f1,f2,f3,f4,f5⟩:=hfp b hb
    refine ⟨?_,f1,f2,f3,f4,f5⟩
    rw [<- hH0,upd_ne (Nat.ne_of_lt (fpLt b hb))];exact f0
  have J0:Inv (X.comp scope N (accD s) H0 fp) [] (pick ix σ) H0 _:=I1.comp (N:=N) (ix:=ix) (ex:=fp) hk hnm hf hx fun b hb=>by
    obtain ⟨f0,f1,f2,f3,f4,_⟩:=hfp1 b hb
    exact ⟨f0,f1,f2,f3,f4,by rw [accD_size];exact Nat.lt_succ_of_lt (fpLt b hb)⟩
  have keep0:∀ b o,(accD s).heap.get? b=some o->(pushCells ((accD s).heap.push { cls:=.type "dict",data:=.dict #[] }) scope.names).get? b=some o:=fun b o e=>pushCells_keeps _ _ b o (Heap.get?_push_of_some _ e)
  have st0:tn 0 (pushCells ((accD s).heap.push { cls:=.type "dict",data:=.dict #[] }) scope.names):=T.keep 0 _ _ st fun b hb o e=>keep0 b o (Heap.get?_push_of_some _ e)
  have exOk:∀ b ∈ fp,b ≠ (X.comp scope N (accD s) H0 fp).env.locals/\b ∉ (X.comp scope N (accD s) H0 fp).fs /\
      ∀ x c,(X.comp scope N (accD s) H0 fp).env.cells.lookup x=some c->c ≠ b:=fun b hb=>⟨(J0.ok.exf b hb).1,J0.ok.exfs b hb,(J0.ok.exf b hb).2⟩
  have stat:∀ {H':Hp},(∀ b ∈ fp,H' b=none)->∀ b ∈ fp,FpOk (X.comp scope N (accD s) H0 fp) [] H' b:=fun {H'} hn b hb=>by
    obtain ⟨e1,e2,e3⟩:=exOk b hb
    exact ⟨hn b hb,e1,e2,.inl hb,e3,fun p hp=>absurd (show p ∈ ([]:List (Addr × Obj)) from (List.mem_append.mp hp).elim (fun z=>z) id) (by simp)⟩
  have loop:codeAny (model X.prog X.w) X.A (.compLoop (.DictComp kx vx [⟨target,iter,[],0⟩] scope pos) 0 (.ref it) (.ref s.heap.objs.size) (X.comp scope N (accD s) H0 fp).env) (RR (.ref s.heap.objs.size) (accD s).heap.objs.size)
      { accD s with heap:=pushCells ((accD s).heap.push { cls:=.type "dict",data:=.dict #[] }) scope.names }:=by
    refine compLoop_anyD (fun n s'=>∃ i H',Inv (X.comp scope N (accD s) H0 fp) [] (pick ix σ) H' s'/\tn i s'.heap/\(∀ b ∈ fp,H' b=none)/\W i n H') ?_ m0
      ⟨0,H0,J0,st0,fun b hb=>(hfp1 b hb).1,w0⟩
    rintro n s3 ⟨i,H3,I3,st3,fr3,w3⟩
    rcases turn i n H3 w3 with ⟨stop,fy⟩ | ⟨go,Ny,hNy,step⟩
    · refine thn (T.done (X.comp scope N (accD s) H0 fp) rfl rfl rfl hc i _ s3 (pick ix σ) H3 (fun _ _=>False) I3 (stat fr3) st3 stop) fun r s4 ⟨hr,I4⟩=>?_
      subst hr
      exact fin H3 s4 _ I1 hfp1 I4 fy
    · refine thn (T.item (X.comp scope N (accD s) H0 fp) rfl rfl rfl hc i _ s3 (pick ix σ) H3 (fun _ _=>False) I3 (stat fr3) st3 go) fun r s4 ⟨u,hr,h4⟩=>?_
      subst hr
      refine thn h4 fun _ s5 ⟨x,H5,I5,r5,y5,st5,fr5⟩=>?_
      have I5':=I5.pinned (stat fr5) (T.obj _ _ st5)
      refine thn (hg (accD s) H0 fp _ s5 (pick ix σ) H5 x u _ I5' r5 (step x H5 y5)) fun _ s6 ⟨σ6,H6,I6,wk6,q6⟩=>?_
      refine thn (hkx (accD s) H0 fp _ s6 σ6 H6 _ I6 q6) fun kv s7 ⟨y,H7,I7,r7,q7⟩=>?_
      refine thn (hvx (accD s) H0 fp _ s7 σ6 H7 _ I7 q7) fun vv s8 ⟨v,H8,I8,r8,q8⟩=>?_
      obtain ⟨H9,⟨kvs,k,hD,ey,hl,e9⟩,hN9⟩:=q8
      subst ey e9
      refine dset_at (X:=X.comp scope N (accD s) H0 fp) (A:=X.A) I8 hD hl r7 r8 fun s9 I9 kp9=>?_
      obtain ⟨m',hm,w9⟩:=hNy _ hN9
      refine ⟨m',hm,i + 1,_,(I9.weak wk6.1 wk6.2).pins_of (fun p hp=>by cases hp),?_,fun b hb=>?_,w9⟩
      · exact T.keep _ _ _ st5 fun b hb o e=>(I9.pin (b,o) (List.mem_append_right _ (List.mem_append_right _ (mem_pinsAt hb e)))).1
      · obtain ⟨o,e,d⟩:=T.obj _ _ st5 b hb
        exact (I9.pin (b,o) (List.mem_append_right _ (List.mem_append_right _ (mem_pinsAt hb e)))).2.1
  exact codeAny_compStart_dict loop (T.self _ 0 _ _ _ st0 loop)
theorem eval_DictComp1 {env:Env}:eval (.DictComp kx vx [⟨target,iter,[],0⟩] scope pos) env=comprehension (.DictComp kx vx [⟨target,iter,[],0⟩] scope pos) scope env (firstIterPos [⟨target,iter,[],0⟩] pos) newDict (firstAsync [⟨target,iter,[],0⟩]) (firstIter [⟨target,iter,[],0⟩] env):=arm_eval_DictComp ..
theorem pe_dcomp (hc:X.calm=true) (hi:PI X target iter wi) (hg:∀ s H ex,PG (X.comp scope N s H ex) target g) (hkx:∀ s H ex,PE (X.comp scope N s H ex) kx tk) (hvx:∀ s H ex,PE (X.comp scope N s H ex) vx tv)
    (hk:scope.kind=.function) (hnm:okNames scope=true) (hf:okFree scope X.env=true) (hx:okIx scope X.N N ix=true) (hs:∀ x,foldedSetIterable iter X.env x=pure x) :
    PE X (.DictComp kx vx [⟨target,iter,[],0⟩] scope pos) (fun σ H Q=>wi σ H fun J H1=>∀ p,H1 p=none->BlkD J (pick ix σ) g tk tv p (upd H1 p (.dK [])) fun H2=>Q (.ref p) H2):=by
  intro pins s σ H Q I h
  rw [eval_DictComp1]
  refine wpAny_comprehension_free (use:=none) rfl hs (closureFor_eq (I.closed hf)) hk (fun x hx hl=>(okNames_get hnm hx).trans (by rw [hl])) ?_
  refine thn (hi pins s σ H _ I h) fun v s1 h1=>thn h1 fun itv s2 h2=>?_
  obtain ⟨it,fp,tn,J,H2,e,I2,T,st2,f2,B⟩:=h2
  subst e
  have hn2:=I2.hok.fresh (Nat.le_refl s2.heap.objs.size)
  refine comp_runD (RR:=fun acc C=>compPost (model X.prog X.w) X.A X.xe none (EP X pins σ Q) acc C) hc hk hnm hf hx hg hkx hvx I2 T st2 f2 (B _ hn2) ?_
  intro H' s' σ' I1 hfp1 J' hF
  obtain ⟨m,hm,_⟩:=J'.loc
  exact ⟨m,hm,fun h' hs'=>⟨.ref s2.heap.objs.size,_,I1.comp_endD J' hfp1 hs',rfl,hF⟩⟩
theorem blkD_range {lo:Int} {n:Nat} {σ0:St} {p:Addr} {H:Hp} {F:Hp->Prop} (Pv:Nat->Hp->Prop) (h0:Pv 0 H) (hσ:σ0[0]?=some none)
    (hs:∀ i H,i < n->Pv i H->tk (σ0.set 0 (some (.int (lo + i)))) H fun y H5=>tv (σ0.set 0 (some (.int (lo + i)))) H5 fun v H6=>∃ H7,(∃ kvs k,H6 p=some (.dK kvs)/\y=kV k/\kvs.length < sizeLine/\H7=upd H6 p (.dK (putK kvs k v)))/\Pv (i + 1) H7) (hd:∀ H,Pv n H->F H):BlkD (Itr lo n) σ0 (gName 0) tk tv p H F:=by
  refine ⟨fun i m H=>m=n - i/\i <= n/\Pv i H,⟨n,by simp,Nat.zero_le _,h0⟩,?_⟩
  rintro i m H2 ⟨rfl,hi,q⟩
  by_cases hlt:i < n
  · refine .inr ⟨hlt,fun H'=>Pv (i + 1) H',fun H' q=>⟨n - (i + 1),by omega,rfl,hlt,q⟩,fun x H3 y=>?_⟩
    obtain ⟨rfl,rfl⟩:=y
    exact ⟨Wk.set (.inl hσ),hs i _ hlt q⟩
  · have e:i=n:=by omega
    subst e
    exact .inl ⟨Nat.le_refl _,hd H2 q⟩
end
end L2
namespace L2
open PySem PySem.Spec PyProof.Rows
section
variable {X:Cx}
theorem strs_are:∀ {ys:List Str} {us:List Value},Vals (ys.map V.str) us->StrsAre us ys
  | [],_,h=>by cases h;exact .nil
  | y :: ys,_,h=>by
    cases h with
    | cons r rs =>
      obtain ⟨t,rfl⟩:=r
      exact .cons y t (strs_are rs)
theorem strs_vals:∀ (k:Nat) (ys:List Str),Vals (ys.map V.str) (strsFrom k ys)
  | _,[]=>.nil
  | k,y :: ys=>.cons ⟨_,rfl⟩ (strs_vals (k + 1) ys)
def rJoin (K:PySem.W.Frag):V->List V->Hp->VK->Prop:=fun x vs H Q=>∃ (sep:Str) (p:Addr) (ys:List Str),x=.str sep/\vs=[.ref p]/\SqL K H p (ys.map V.str)/\(ys.map fun y=>y.length).sum + ys.length * sep.length <= 16777216/\Q (.str (Txt.join sep ys)) H
theorem mt_join:MtR X "str.join" (rJoin X.K):=by
  intro pins s σ H x vs v us Q I rx rv h
  obtain ⟨sep,p,ys,rfl,rfl,hp,hz,q⟩:=h
  obtain ⟨t,rfl⟩:=rx
  obtain ⟨u,rfl,ru⟩:=rv.one
  cases ru
  obtain ⟨its,r,pl,_⟩:=I.list hp
  exact join_list pl.isList (by simpa using strs_are r) hz fun t' k=>⟨.str _,H,I.tok k,⟨_,rfl⟩,q⟩
def rSplit:V->List V->Hp->VK->Prop:=fun x vs H Q=>∃ (a sep:Str),x=.str a/\vs=[.str sep]/\(sep.length == 0)=false/\a.length <= 900/\∀ p,H p=none->Q (.ref p) (upd H p (.lst ((Txt.split a sep).map V.str)))
theorem mt_split:MtR X "str.split" rSplit:=by
  intro pins s σ H x vs v us Q I rx rv h
  obtain ⟨a,sep,rfl,rfl,h0,hl,q⟩:=h
  obtain ⟨t,rfl⟩:=rx
  obtain ⟨u,rfl,ru⟩:=rv.one
  obtain ⟨t2,rfl⟩:=ru
  have hn:=I.hok.fresh (Nat.le_refl s.heap.objs.size)
  have big:=sz (show 1000 <= 1000 by decide)
  have lay:∀ (its:List Value) (k:Nat),Vals ((Txt.split a sep).map V.str) its->(Txt.split a sep).length <= sizeLine->EP X pins σ Q (.ref s.heap.objs.size) { s with heap:=s.heap.push { cls:=.type "list",data:=.seq its.toArray },toks:=k }:=fun its k hv hz =>
    ⟨.ref s.heap.objs.size,_,I.laid (a:=s.heap.objs.size) (o:=.lst ((Txt.split a sep).map V.str)) (t':=k) (fun _ _ q=>Heap.get?_push_of_some _ q) (Nat.le_refl _) ⟨by rw [List.length_map];exact hz,its,0,hv,Heap.get?_push_size _ rfl⟩,rfl,q _ hn⟩
  have one:∀ k,Txt.split a sep=[a]->EP X pins σ Q (.ref s.heap.objs.size) { s with heap:=s.heap.push { cls:=.type "list",data:=.seq #[Value.str a t] },toks:=k }:=fun k e=>by
    have:=lay [Value.str a t] k (by rw [e];exact .cons ⟨t,rfl⟩ .nil) (by rw [e];exact Nat.le_trans (show 1 <= 1000 by decide) big)
    exact this
  by_cases hc:(decide (a.length < sep.length) || decide (Builtin.Str.strKind a < Builtin.Str.strKind sep))=true
  · have e:Txt.split a sep=[a]:=by unfold Txt.split;rw [if_pos hc]
    refine call_meets PySem.F.slot_str_split (typeIs_str s a t) PySem.F.entry_str_split (PySem.F.args_str_split_2 _ _) (meets_str_split_cannot_occur a sep t t2 hc) (one _ e)
  · have hc':=Bool.eq_false_iff.mpr hc
    by_cases ho:(Builtin.Str.occurrences a sep 0 a.length (a.length + 1)).isEmpty=true
    · have e:Txt.split a sep=[a]:=by unfold Txt.split;rw [if_neg hc,if_pos ho]
      refine call_meets PySem.F.slot_str_split (typeIs_str s a t) PySem.F.entry_str_split (PySem.F.args_str_split_2 _ _) (meets_str_split_not_found a sep t t2 hc' h0 ho) (one _ e)
    · have e:Txt.split a sep=Builtin.Str.partsBetween a (Builtin.Str.occurrences a sep 0 a.length (a.length + 1)) sep.length:=by unfold Txt.split;rw [if_neg hc,if_neg ho]
      have hz:(Builtin.Str.partsBetween a (Builtin.Str.occurrences a sep 0 a.length (a.length + 1)) sep.length).length <= sizeLine:=by
        have h1:=split_weight a sep (by have:=bne_iff_ne.mp (show (sep.length != 0)=true by unfold bne;rw [h0];rfl);omega)
        rw [e] at h1
        exact Nat.le_trans (show _ <= 1000 by omega) big
      refine call_meets PySem.F.slot_str_split (typeIs_str s a t) PySem.F.entry_str_split (PySem.F.args_str_split_2 _ _) (meets_str_split_sep a sep t t2 hc' h0 (Bool.eq_false_iff.mpr ho) (Nat.le_trans hl (Nat.le_trans (by decide) big)) hz) ?_
      rw [<- e]
      exact lay _ _ (strs_vals _ _) (by rw [e];exact hz)
abbrev TJx:=St->Hp->(Str->Hp->Prop)->Prop
theorem str_assoc (a b c:Str):a ++ b ++ c=a ++ (b ++ c):=congrArg Str.mk Array.append_assoc
theorem str_nil (a:Str):a ++ Str.empty=a:=congrArg Str.mk Array.append_empty
def PJx (X:Cx) (es:List Expr) (n:Nat) (t:TJx):Prop :=
  ∀ (acc:Str),acc.length <= n->∀ (pins:List (Addr × Obj)) (s:Shared) (σ:St) (H:Hp) (Q:Str->Hp->Prop),Inv X pins σ H s->t σ H Q ->
    wpAny (model X.prog X.w) X.A (joinParts acc (evalEach es X.env)) (fun u s'=>∃ z H',Inv X pins σ H' s'/\RelV (.str (acc ++ z)) u/\Q z H') X.xe s
section
variable {es:List Expr} {n:Nat} {t:TJx}
theorem pjx_nil (h:n <= sizeLine:=by decide):PJx X [] n (fun _ H Q=>Q Str.empty H):=by
  intro acc ha pins s σ H Q I q
  exact joinParts_nil (s:=s) ⟨Str.empty,H,I.tok _,by rw [str_nil];exact ⟨_,rfl⟩,q⟩ (Nat.le_trans ha h)
theorem pjx_str {x:Str} {j:Nat} {pos:Pos} (h:PJx X es (n + x.length) t) (hz:n + x.length <= sizeLine:=by decide):PJx X (.Constant (.str x) j pos :: es) n (fun σ H Q=>t σ H fun z H1=>Q (x ++ z) H1):=by
  intro acc ha pins s σ H Q I q
  show wpAny _ _ (joinParts acc (eval (.Constant (.str x) j pos) X.env :: evalEach es X.env)) _ _ _
  refine joinParts_cons (Calls.Constant_str ⟨?_,?_⟩)
  · rw [strLen_append];omega
  · exact thn (h (acc ++ x) (by rw [strLen_append];omega) pins _ σ H _ (I.tok _) q) fun u s1 ⟨z,H1,I1,r,q1⟩=>⟨x ++ z,H1,I1,by rw [<- str_assoc];exact r,q1⟩
theorem pjx_fmt {e:Expr} {te:TE} {pos:Pos} (he:PE X e te) (h:PJx X es (n + 100) t) (hz:n + 100 <= sizeLine:=by decide) :
    PJx X (.FormattedValue e (-1) none pos :: es) n (fun σ H Q=>te σ H fun v H1=>∃ i:Int,v=.int i/\i.natAbs.log2 < 1920/\(Str.ofString (toString i)).length <= 100/\t σ H1 fun z H2=>Q (Str.ofString (toString i) ++ z) H2):=by
  intro acc ha pins s σ H Q I q
  show wpAny _ _ (joinParts acc (eval (.FormattedValue e (-1) none pos) X.env :: evalEach es X.env)) _ _ _
  refine joinParts_cons (FormattedValue_plain (thn (he pins s σ H _ I q) fun u s1 ⟨v,H1,I1,r,i,ev,hl,hz',q1⟩=>?_))
  subst ev
  obtain ⟨tk,rfl⟩:=r
  refine formatField_int_small hl ⟨?_,?_⟩
  · rw [strLen_append]
    have:(toString i:Str).length <= 100:=hz'
    omega
  · exact thn (h _ (by
      rw [strLen_append]
      have:(toString i:Str).length <= 100:=hz'
      omega) pins _ σ H1 _ (I1.tok _) q1) fun u s1 ⟨z,H1,I1,r,q1⟩=>⟨_,H1,I1,by rw [<- str_assoc];exact r,q1⟩
theorem pe_fstrX {v1 v2:Expr} {rest:List Expr} {pos:Pos} (h:PJx X (v1 :: v2 :: rest) 0 t):PE X (.JoinedStr (v1 :: v2 :: rest) pos) (fun σ H Q=>t σ H fun z H1=>Q (.str z) H1):=by
  intro pins s σ H Q I q
  refine JoinedStr_many (thn (h Str.empty (Nat.le_refl _) pins s σ H _ I q) fun u s1 ⟨z,H1,I1,r,q1⟩=>⟨.str z,H1,I1,?_,q1⟩)
  have e:Str.empty ++ z=z:=congrArg Str.mk Array.empty_append
  rw [e] at r
  exact r
end
end
def jl (c:Nat):List (List Nat)->List Nat
  | []=>[]
  | [p]=>p
  | p :: q :: r=>p ++ c :: jl c (q :: r)
theorem app_inj {c:Nat}:∀ {p q u v:List Nat},c ∉ p->c ∉ q->p ++ c :: u=q ++ c :: v->p=q/\u=v
  | [],[],_,_,_,_,h=>⟨rfl,(List.cons.inj h).2⟩
  | [],b :: q,_,_,_,hq,h=>by
    have:=(List.cons.inj h).1
    exact absurd (by rw [this];exact List.mem_cons_self) hq
  | a :: p,[],_,_,hp,_,h=>by
    have:=(List.cons.inj h).1
    exact absurd (by rw [<- this];exact List.mem_cons_self) hp
  | a :: p,b :: q,_,_,hp,hq,h=>by
    obtain ⟨h1,h2⟩:=List.cons.inj h
    obtain ⟨e1,e2⟩:=app_inj (fun z=>hp (List.mem_cons_of_mem _ z)) (fun z=>hq (List.mem_cons_of_mem _ z)) h2
    exact ⟨by rw [h1,e1],e2⟩
theorem jl_inj {c:Nat}:∀ {ps qs:List (List Nat)},ps ≠ []->qs ≠ []->(∀ p ∈ ps,c ∉ p)->(∀ p ∈ qs,c ∉ p)->jl c ps=jl c qs->ps=qs
  | [],_,h,_,_,_,_=>absurd rfl h
  | _,[],_,h,_,_,_=>absurd rfl h
  | [p],[q],_,_,_,_,e=>by rw [show p=q from e]
  | [p],q :: q2 :: qs,_,_,hp,_,e=>by
    have e':p=q ++ c :: jl c (q2 :: qs):=e
    exact absurd (by rw [e'];simp) (hp p List.mem_cons_self)
  | p :: p2 :: ps,[q],_,_,_,hq,e=>by
    have e':p ++ c :: jl c (p2 :: ps)=q:=e
    exact absurd (by rw [<- e'];simp) (hq q List.mem_cons_self)
  | p :: p2 :: ps,q :: q2 :: qs,_,_,hp,hq,e=>by
    have e':p ++ c :: jl c (p2 :: ps)=q ++ c :: jl c (q2 :: qs):=e
    obtain ⟨e1,e2⟩:=app_inj (hp p List.mem_cons_self) (hq q List.mem_cons_self) e'
    have:=jl_inj (by simp) (by simp) (fun x hx=>hp x (List.mem_cons_of_mem _ hx)) (fun x hx=>hq x (List.mem_cons_of_mem _ hx)) e2
    rw [e1,this]
theorem join_jl (c:Nat):∀ ys:List Str,(Str.join ⟨#[c]⟩ ys).cps.toList=jl c (ys.map fun y=>y.cps.toList)
  | []=>rfl
  | [y]=>by rw [join_one];rfl
  | x :: y :: r=>by
    rw [join_cons_cons]
    have ih:=join_jl c (y :: r)
    show ((x.cps ++ #[c]) ++ (Str.join ⟨#[c]⟩ (y :: r)).cps).toList=_
    simp only [Array.toList_append,ih]
    show _=x.cps.toList ++ c :: jl c ((y :: r).map fun y=>y.cps.toList)
    simp
theorem cnt_nn (d:PyData):∀ l:List PyData,0 <= Spec.countIn d l
  | []=>by unfold Spec.countIn;decide
  | a :: l=>by
    have:=cnt_nn d l
    unfold Spec.countIn
    split <;> omega
theorem cnt_mem {c:Nat}:∀ {l:List Nat},c ∈ l->Spec.countIn (.str ⟨#[c]⟩) (l.map fun n=>.str ⟨#[n]⟩) ≠ 0
  | a :: l,h=>by
    have h0:=cnt_nn (.str ⟨#[c]⟩) (l.map fun n=>.str ⟨#[n]⟩)
    rw [List.map_cons]
    unfold Spec.countIn
    by_cases e:c=a
    · subst e
      have:Spec.same (.str ⟨#[c]⟩) (.str ⟨#[c]⟩)=true:=by unfold Spec.same;simp
      rw [this]
      simp only [if_true]
      omega
    · have hm:c ∈ l:=(List.mem_cons.mp h).resolve_left e
      have:=cnt_mem hm
      split <;> omega
theorem str_ext {a b:Str} (h:a.cps.toList=b.cps.toList):a=b:=by
  cases a with
  | mk x=>cases b with
    | mk y=>exact congrArg Str.mk (Array.toList_inj.mp h)
theorem split_join {c:Nat} {ys:List Str} (hn:ys ≠ []) (hy:∀ y ∈ ys,c ∉ y.cps.toList):Txt.split (Str.join ⟨#[c]⟩ ys) ⟨#[c]⟩=ys:=by
  have h:=split_closes (Str.join ⟨#[c]⟩ ys) c
  rw [Bool.and_eq_true] at h
  obtain ⟨h1,h2⟩:=h
  have e:=LawfulBEq.eq_of_beq h1
  have hp:Txt.split (Str.join ⟨#[c]⟩ ys) ⟨#[c]⟩ ≠ []:=fun z=>by
    have:=split_pos (Str.join ⟨#[c]⟩ ys) ⟨#[c]⟩
    rw [z] at this
    exact absurd this (by decide)
  have hq:∀ y ∈ Txt.split (Str.join ⟨#[c]⟩ ys) ⟨#[c]⟩,c ∉ y.cps.toList:=fun y hy hc=>by
    have z:=List.all_eq_true.mp h2 y hy
    rw [decide_eq_true (cnt_mem hc)] at z
    cases z
  generalize Txt.split (Str.join ⟨#[c]⟩ ys) ⟨#[c]⟩=zs at e hp hq
  have e2:jl c (zs.map fun y=>y.cps.toList)=jl c (ys.map fun y=>y.cps.toList):=by rw [<- join_jl,<- join_jl,e]
  have e3:=jl_inj (by simpa using hp) (by simpa using hn) (fun p hp=>by obtain ⟨y,hy,z⟩:=List.mem_map.mp hp;rw [<- z];exact hq y hy) (fun p hp=>by obtain ⟨y,hy',z⟩:=List.mem_map.mp hp;rw [<- z];exact hy y hy') e2
  exact (List.map_inj_right fun x y h=>str_ext h).mp e3
end L2
namespace L2
open PySem PySem.Spec PyProof.Rows
def isStrD:PyData->Bool
  | .str _=>true
  | _=>false
theorem kit_str (K:PySem.W.Frag) (d:PyData):PySem.W.kitOne K (.type (tyN d)) (.type "str")=some (isStrD d):=by cases d <;> kernel_rfl
end L2
namespace G
open PySem PySem.Spec PyProof.Rows L2 Mt Mq
structure Bt2 (mg:Str->Option Value):Prop where
  str:mg "str"=none
def tx (i:Int):Str:=Str.ofString (toString i)
theorem tx_okF:∀ i:Fin 41,(tx (i.1:Int)).cps.toList.contains 44=false/\(tx (i.1:Int)).cps.toList.contains 47=false/\(tx (i.1:Int)).length <= 2:=by decide +kernel
theorem tx_injF:∀ i j:Fin 21,tx (i.1:Int)=tx (j.1:Int)->i=j:=by decide +kernel
theorem tx_ok {i:Int} (h0:0 <= i) (h:i <= 40):44 ∉ (tx i).cps.toList/\47 ∉ (tx i).cps.toList/\(tx i).length <= 2:=by
  have e:((i.toNat:Nat):Int)=i:=Int.toNat_of_nonneg h0
  have:=tx_okF ⟨i.toNat,by omega⟩
  dsimp only at this
  rw [e] at this
  obtain ⟨h1,h2,h3⟩:=this
  exact ⟨fun z=>(by rw [List.contains_iff_mem.mpr z] at h1;cases h1),fun z=>(by rw [List.contains_iff_mem.mpr z] at h2;cases h2),h3⟩
theorem tx_inj {i j:Nat} (hi:i <= 20) (hj:j <= 20) (h:tx (i:Int)=tx (j:Int)):i=j:=by
  have:=tx_injF ⟨i,by omega⟩ ⟨j,by omega⟩ h
  exact congrArg Fin.val this
theorem log_s {i:Int} (h0:0 <= i) (h:i <= 1000):i.natAbs.log2 < 1920:=by
  rcases Nat.eq_zero_or_pos i.natAbs with e | e
  · rw [e];decide
  · exact Nat.lt_of_lt_of_le ((Nat.log2_lt (by omega)).mpr (show i.natAbs < 2 ^ 10 by omega)) (by decide)
theorem fold_app (g:Array Nat):∀ (ps:List Str) (a b:Array Nat),List.foldl (fun acc (p:Str)=>acc ++ g ++ p.cps) (a ++ b) ps=a ++ List.foldl (fun acc (p:Str)=>acc ++ g ++ p.cps) b ps
  | [],_,_=>rfl
  | p :: ps,a,b=>by
    rw [List.foldl_cons,List.foldl_cons,<- fold_app g ps a (b ++ g ++ p.cps)]
    simp [Array.append_assoc]
theorem txt_join (sep:Str):∀ ys:List Str,Txt.join sep ys=Str.join sep ys
  | []=>rfl
  | [y]=>by rw [join_one];rfl
  | x :: y :: r=>by
    rw [join_cons_cons,<- txt_join sep (y :: r)]
    show (⟨List.foldl (fun acc (p:Str)=>acc ++ sep.cps ++ p.cps) x.cps (y :: r)⟩:Str)=⟨(x.cps ++ sep.cps) ++ List.foldl (fun acc (p:Str)=>acc ++ sep.cps ++ p.cps) y.cps r⟩
    rw [List.foldl_cons,fold_app]
def nT (ns:List Int):Str:=Txt.join "," (ns.map tx)
def rT (rs:List (List Int)):Str:=Txt.join "/" (rs.map nT)
theorem comma:(",":Str)=⟨#[44]⟩:=by decide +kernel
theorem slash:("/":Str)=⟨#[47]⟩:=by decide +kernel
theorem len_comma:(",":Str).length=1:=by rw [comma];rfl
theorem len_slash:("/":Str).length=1:=by rw [slash];rfl
theorem split_nT {ns:List Int} (hn:ns ≠ []) (h:∀ x ∈ ns,0 <= x/\x <= 20):Txt.split (nT ns) ","=ns.map tx:=by
  unfold nT
  rw [txt_join,comma]
  refine split_join (by simpa using hn) fun y hy=>?_
  obtain ⟨x,hx,e⟩:=List.mem_map.mp hy
  have:=h x hx
  rw [<- e];exact (tx_ok this.1 (by omega)).1
theorem mem_jl {c d:Nat}:∀ {ps:List (List Nat)},d ∈ jl c ps->d=c ∨ ∃ p ∈ ps,d ∈ p
  | [],h=>by cases h
  | [p],h=>.inr ⟨p,List.mem_cons_self,h⟩
  | p :: q :: r,h=>by
    have h':d ∈ p ++ c :: jl c (q :: r):=h
    rcases List.mem_append.mp h' with z | z
    · exact .inr ⟨p,List.mem_cons_self,z⟩
    · rcases List.mem_cons.mp z with z | z
      · exact .inl z
      · rcases mem_jl z with z | ⟨p',hp,hd⟩
        · exact .inl z
        · exact .inr ⟨p',List.mem_cons_of_mem _ hp,hd⟩
theorem noslash_nT {ns:List Int} (h:∀ x ∈ ns,0 <= x/\x <= 20):47 ∉ (nT ns).cps.toList:=fun z=>by
  unfold nT at z
  rw [txt_join,comma,join_jl] at z
  rcases mem_jl z with e | ⟨p,hp,hd⟩
  · cases e
  · rw [List.map_map] at hp
    obtain ⟨x,hx,e⟩:=List.mem_map.mp hp
    have:=h x hx
    subst e
    exact (tx_ok this.1 (by omega)).2.1 hd
theorem split_rT {rs:List (List Int)} (hn:rs ≠ []) (h:∀ r ∈ rs,∀ x ∈ r,0 <= x/\x <= 20):Txt.split (rT rs) "/"=rs.map nT:=by
  unfold rT
  rw [txt_join,slash]
  refine split_join (by simpa using hn) fun y hy=>?_
  obtain ⟨x,hx,e⟩:=List.mem_map.mp hy
  rw [<- e];exact noslash_nT (h x hx)
theorem jl_len {c m:Nat}:∀ {ps:List (List Nat)},(∀ p ∈ ps,p.length <= m)->(jl c ps).length <= (m + 1) * ps.length
  | [],_=>by simp [jl]
  | [p],h=>by
    have:=h p List.mem_cons_self
    show p.length <= (m + 1) * 1
    omega
  | p :: q :: r,h=>by
    have h1:=h p List.mem_cons_self
    have h2:=jl_len (c:=c) (ps:=q :: r) fun x hx=>h x (List.mem_cons_of_mem _ hx)
    show (p ++ c :: jl c (q :: r)).length <= _
    rw [List.length_append,List.length_cons,List.length_cons (a:=p),Nat.mul_add]
    omega
theorem len_nT {ns:List Int} (hl:ns.length <= 4) (h:∀ x ∈ ns,0 <= x/\x <= 20):(nT ns).length <= 12:=by
  have h1:(jl 44 ((ns.map tx).map fun y=>y.cps.toList)).length <= 3 * ((ns.map tx).map fun y=>y.cps.toList).length:=jl_len (m:=2) fun p hp=>by
    obtain ⟨y,hy,e⟩:=List.mem_map.mp hp
    obtain ⟨x,hx,e2⟩:=List.mem_map.mp hy
    have:=h x hx
    have h3:=(tx_ok this.1 (by omega)).2.2
    rw [<- e,<- e2,Array.length_toList];exact h3
  rw [<- join_jl,<- comma,<- txt_join,List.length_map,List.length_map] at h1
  have e:(nT ns).length=(Txt.join "," (ns.map tx)).cps.toList.length:=by rw [Array.length_toList];rfl
  omega
theorem len_rT {rs:List (List Int)} (hl:rs.length <= 4) (h:∀ r ∈ rs,r.length <= 4/\∀ x ∈ r,0 <= x/\x <= 20):(rT rs).length <= 52:=by
  have h1:(jl 47 ((rs.map nT).map fun y=>y.cps.toList)).length <= 13 * ((rs.map nT).map fun y=>y.cps.toList).length:=jl_len (m:=12) fun p hp=>by
    obtain ⟨y,hy,e⟩:=List.mem_map.mp hp
    obtain ⟨x,hx,e2⟩:=List.mem_map.mp hy
    have:=h x hx
    have h3:=len_nT this.1 this.2
    rw [<- e,<- e2,Array.length_toList];exact h3
  rw [<- join_jl,<- slash,<- txt_join,List.length_map,List.length_map] at h1
  have e:(rT rs).length=(Txt.join "/" (rs.map nT)).cps.toList.length:=by rw [Array.length_toList];rfl
  omega
theorem sum_lens {m:Nat}:∀ {ys:List Str},(∀ y ∈ ys,y.length <= m)->(ys.map fun y=>y.length).sum <= m * ys.length
  | [],_=>by simp
  | y :: ys,h=>by
    have h1:=h y List.mem_cons_self
    have h2:=sum_lens (ys:=ys) fun x hx=>h x (List.mem_cons_of_mem _ hx)
    rw [List.map_cons,List.sum_cons,List.length_cons,Nat.mul_add]
    omega
section
variable {P:Program} {w:World} {K:PySem.W.Frag} {mg:Str->Option Value} {base:Heap} {f:Addr} {fd:FuncData} {ec:Nat->Addr} {Bs:Addr}
def sp_nt:Sp:=fun vs H Q _=>∃ (a:Addr) (ns:List Int),vs=[.ref a]/\H a=some (.tup (ns.map V.int))/\ns.length <= 4/\(∀ x ∈ ns,0 <= x/\x <= 20)/\∀ H',Same H H'->Q (.str (nT ns)) H'
abbrev s_nt:Stmt:=top 46
theorem sc_nt:FnScope ["numbers"] ["numbers"] (defScope s_nt):=⟨rfl,rfl,rfl,by decide +kernel,rfl,by decide +kernel,by decide +kernel⟩
theorem ok_nt (F:Fun K "numbers_text" "numbers_text" s_nt f fd) (B2:Bt2 mg):FnOk P w K mg base CX0 1 f fd ["numbers"] sp_nt:=by
  refine F.ok sc_nt (fun vs H Q E h=>?_) (fun cdv A outer s H vs Q E hr h=>?_)
  · obtain ⟨a,ns,rfl,_⟩:=h
    rfl
  obtain ⟨a,ns,rfl,ha,hl,hb,q⟩:=h
  refine ⟨_,(@pss_one _ _ _ (ps_ret (pe_bm PySem.F.plainAttrs_str PySem.F.slot_str_join PySem.F.type_str_join mt_join pe_str (@pa_cons _ _ _ _ _ (pe_compG (N:=["number"]) (ix:=[none]) (ifs:=[]) (tc:=tTrue) rfl (pi_tup (pv 0))
      (fun s H ex=>pg_c (i:=0) (by decide +kernel) rfl (Or.inl rfl) (.inr rfl)) (fun s H ex=>pifs_nil) (fun s H ex=>(pe_callTy call_str_int rfl B2.str boot_str (@pa_cons _ _ _ _ _ (pv 0) pa_nil (by rfl)))) rfl (by decide +kernel) (by rfl) (by rfl) (fun _=>rfl)) pa_nil (by rfl))))),?_⟩
  refine ⟨rfl,_,rfl,a,rfl,⟨_,.of ha⟩,?_⟩
  refine blk_tup (K:=K) (a:=a) (xs:=ns.map V.int) (sz (by rw [List.length_map];omega)) (fun i ys H2=>Same H H2/\ys=((ns.take i).map tx).map V.str/\ys.length=i)
    ⟨Same.refl _,rfl,rfl⟩ (fun i ys H2 h=>h.2.2) (fun i ys H2 _ h=>.of (h.1 _ _ ha)) rfl (fun i ys H2 v hv h=>?_) (fun ys H2 h=>?_)
  · obtain ⟨g2,hy,hyl⟩:=h
    rw [List.getElem?_map] at hv
    obtain ⟨x,hx,ex⟩:=Option.map_eq_some_iff.mp hv
    subst ex
    have hxb:=hb x (List.mem_of_getElem? hx)
    refine ⟨_,rfl,x,rfl,log_s hxb.1 (by omega),g2,?_,by rw [List.length_append,hyl];rfl⟩
    rw [hy,List.take_add_one,hx,List.map_append,List.map_append]
    rfl
  · obtain ⟨g2,hy,hyl⟩:=h
    rw [List.length_map,List.take_of_length_le (Nat.le_refl _)] at hy
    subst hy
    intro p hp
    have hsl:=sum_lens (m:=2) (ys:=ns.map tx) fun y hy=>by
      obtain ⟨x,hx,e⟩:=List.mem_map.mp hy
      have:=hb x hx
      rw [<- e];exact (tx_ok this.1 (by omega)).2.2
    rw [List.length_map] at hsl
    refine ⟨_,p,ns.map tx,rfl,rfl,.of upd_same,?_,q _ (g2.trans (Same.new hp))⟩
    rw [List.length_map,len_comma]
    omega
end
end G
namespace G
open PySem PySem.Spec PyProof.Rows L2 Mt Mq
section
variable {P:Program} {w:World} {K:PySem.W.Frag} {mg:Str->Option Value} {base:Heap} {f:Addr} {fd:FuncData} {ec:Nat->Addr} {Bs:Addr}
def sp_ut:Sp:=fun vs H Q _=>∃ (st a:Addr) (ns:List Int) (n:Nat),vs=[.ref a]/\Dt st H (DI ns) (.ref a)/\Mt.Urn n 20 ns/\1 <= n/\n <= 4/\∀ H',Same H H'->Q (.str (nT ns)) H'
abbrev s_ut:Stmt:=top 47
theorem sc_ut:FnScope ["urn"] ["urn"] (defScope s_ut):=⟨rfl,rfl,rfl,by decide +kernel,rfl,by decide +kernel,by decide +kernel⟩
theorem ok_ut (F:Fun K "urn_text" "urn_text" s_ut f fd) (c1:CalX P w K mg base 5 "need_urn" ["thing"] (sp_need_urn ec)) (c2:Cal P w K mg base 5 "numbers_text" ["numbers"] sp_nt):FnOk P w K mg base CX0 6 f fd ["urn"] sp_ut:=by
  refine F.ok sc_ut (fun vs H Q E h=>?_) (fun cdv A outer s H vs Q E hr h=>?_)
  · obtain ⟨st,a,ns,n,rfl,_⟩:=h
    rfl
  obtain ⟨st,a,ns,n,rfl,hd,hU,n1,n4,q⟩:=h
  refine ⟨_,(@pss_cons _ _ _ _ _ (ps_expr (pe_calx c1 hr rfl pass10 (@pa_cons _ _ _ _ _ (pv 0) pa_nil (by rfl))))
    (@pss_one _ _ _ (ps_ret (pe_cal c2 hr rfl (@pa_cons _ _ _ _ _ (pv 0) pa_nil (by rfl)))))),?_⟩
  have hl:=hU.len
  obtain ⟨a',ea,_,ha⟩:=hd.di
  cases ea
  refine ⟨_,rfl,_,st,_,rfl,hd,short_DI (by omega),fun _ H1 g1=>⟨_,rfl,a,ns,rfl,g1 _ _ ha,by omega,hU.nn,fun H2 g2=>q _ (g1.trans g2)⟩,fun e=>?_⟩
  rw [urnD_of hU n1 n4] at e
  cases e
def sp_rt:Sp:=fun vs H Q _=>∃ (st:Addr) (v:V) (rs:List (List Int)) (n:Nat),vs=[v]/\Dt st H (DR rs) v/\Mt.Rul n 5 rs/\1 <= n/\n <= 4/\∀ H',Same H H'->Q (.str (rT rs)) H'
abbrev s_rt:Stmt:=top 48
theorem sc_rt:FnScope ["rule"] ["rule"] (defScope s_rt):=⟨rfl,rfl,rfl,by decide +kernel,rfl,by decide +kernel,by decide +kernel⟩
theorem ok_rt (F:Fun K "rule_text" "rule_text" s_rt f fd) (B:Bt mg) (C:Ct mg) (c1:CalX P w K mg base 5 "need_rule" ["kinds","thing"] (sp_need_rule ec)) (c2:Cal P w K mg base 5 "numbers_text" ["numbers"] sp_nt):FnOk P w K mg base CX0 6 f fd ["rule"] sp_rt:=by
  refine F.ok sc_rt (fun vs H Q E h=>?_) (fun cdv A outer s H vs Q E hr h=>?_)
  · obtain ⟨st,v,rs,n,rfl,_⟩:=h
    rfl
  obtain ⟨st,v,rs,n,rfl,hd,hR,n1,n4,q⟩:=h
  obtain ⟨tkd,hkd⟩:=C.kinds
  refine ⟨_,(@pss_cons _ _ _ _ _ (ps_if (PW.pt (pw_or (pt_not (pt_val (pe_callB (call_isi kit_tup) rfl B.isinstance boot_isinstance (@pa_cons _ _ _ _ _ (pv 0) (@pa_cons _ _ _ _ _ (pe_bty rfl B.tuple boot_tuple) pa_nil (by rfl)) (by rfl))))) (pw_or1 (pt_not (pt_chain op_le op_le pe_int (pe_callB call_len_seq rfl B.len PySem.boot_len (@pa_cons _ _ _ _ _ (pv 0) pa_nil (by rfl))) (pe_glob (v:=.int 4) rfl hkd ⟨tkd,rfl⟩)))))) pss_never pss_nil)
    (@pss_cons _ _ _ _ _ (ps_expr (pe_calx c1 hr rfl pass10 (@pa_cons _ _ _ _ _ (pe_callB call_len_seq rfl B.len PySem.boot_len (@pa_cons _ _ _ _ _ (pv 0) pa_nil (by rfl))) (@pa_cons _ _ _ _ _ (pv 0) pa_nil (by rfl)) (by rfl))))
    (@pss_one _ _ _ (ps_ret (pe_bm PySem.F.plainAttrs_str PySem.F.slot_str_join PySem.F.type_str_join mt_join pe_str (@pa_cons _ _ _ _ _ (pe_compG (N:=["row"]) (ix:=[none]) (ifs:=[]) (tc:=tTrue) rfl (pi_tup (pv 0))
      (fun s H ex=>pg_c (i:=0) (by decide +kernel) rfl (Or.inl rfl) (.inr rfl)) (fun s H ex=>pifs_nil) (fun s H ex=>(pe_cal c2 hr rfl (@pa_cons _ _ _ _ _ (pv 0) pa_nil (by rfl)))) rfl (by decide +kernel) (by rfl) (by rfl) (fun _=>rfl)) pa_nil (by rfl))))))),?_⟩
  have hl:=hR.len
  obtain ⟨ra,rxs,era,_,hra,hds⟩:=hd.untup
  subst era
  have hrl:=hds.len
  rw [List.length_map,hl] at hrl
  refine ⟨_,rfl,_,st,_,rfl,hd,_,rfl,iteF ?_⟩
  refine ⟨_,rfl,ra,_,rfl,.inr (.of hra),_,_,rfl,rfl,_,rfl,?_⟩
  rw [decide_eq_true (by omega)]
  refine iteT ⟨_,_,rfl,rfl,_,rfl,?_⟩
  rw [decide_eq_true (by omega)]
  refine iteF ⟨_,rfl,ra,_,rfl,.inr (.of hra),_,rfl,_,st,_,(rxs.length:Int),rfl,by omega,by omega,hd,⟨short_DR (by omega),shorts_DR hR (by omega)⟩,fun _ H1 g1=>?_,fun e=>?_⟩
  · refine ⟨rfl,_,rfl,ra,rfl,⟨_,.of (g1 _ _ hra)⟩,?_⟩
    refine blk_tup (K:=K) (a:=ra) (xs:=rxs) (sz (by omega)) (fun i ys H2=>Same H1 H2/\ys=((rs.take i).map nT).map V.str/\ys.length=i)
      ⟨Same.refl _,rfl,rfl⟩ (fun i ys H2 h=>h.2.2) (fun i ys H2 _ h=>.of (h.1 _ _ (g1 _ _ hra))) rfl (fun i ys H2 v hv h=>?_) (fun ys H2 h=>?_)
    · obtain ⟨g2,hy,hyl⟩:=h
      obtain ⟨d,hd',dt⟩:=hds.get hv
      rw [List.getElem?_map] at hd'
      obtain ⟨row,hrow,ed⟩:=Option.map_eq_some_iff.mp hd'
      subst ed
      obtain ⟨bb,eb,_,hbr⟩:=dt.di
      subst eb
      have hrw:=hR.row row (List.mem_of_getElem? hrow)
      refine ⟨_,rfl,bb,row,rfl,g2 _ _ (g1 _ _ hbr),by rw [hrw.len];omega,fun x hx=>?_,fun H3 g3=>⟨g2.trans g3,?_,by rw [List.length_append,hyl];rfl⟩⟩
      · have:=hrw.nn x hx
        omega
      · rw [hy,List.take_add_one,hrow,List.map_append,List.map_append]
        rfl
    · obtain ⟨g2,hy,hyl⟩:=h
      rw [<- hrl,List.take_of_length_le (by omega)] at hy
      subst hy
      intro p hp
      have hsl:=sum_lens (m:=12) (ys:=rs.map nT) fun y hy=>by
        obtain ⟨x,hx,e⟩:=List.mem_map.mp hy
        have hrw:=hR.row x hx
        rw [<- e]
        exact len_nT (by rw [hrw.len];omega) fun z hz=>by have:=hrw.nn z hz;omega
      rw [List.length_map] at hsl
      refine ⟨_,p,rs.map nT,rfl,rfl,.of upd_same,?_,q _ (g1.trans (g2.trans (Same.new hp)))⟩
      rw [List.length_map,len_slash]
      omega
  · rw [<- hrl,ruleD_of hR] at e
    cases e
def fT (t b:Int):Str:=if b=1 then tx t else tx t ++ ("/" ++ tx b)
abbrev s_ft:Stmt:=top 49
theorem sc_ft:FnScope ["fraction","top","bottom"] ["fraction"] (defScope s_ft):=⟨rfl,rfl,rfl,by decide +kernel,rfl,by decide +kernel,by decide +kernel⟩
end
end G
namespace G
open PySem PySem.Spec PyProof.Rows L2 Mt Mq
def knw (n:Nat):List (Key × V):=(List.range n).map fun j:Nat=>((Sum.inr (tx (j:Int)):Key),V.int (j:Int))
theorem valV_mapR {α:Type} [DecidableEq α] {f:Nat->α} {g:Nat->V}:∀ {l:List Nat} {j:Nat},j ∈ l->(∀ i ∈ l,f i=f j->i=j)->valV (l.map fun i=>(f i,g i)) (f j)=some (g j)
  | a :: l,j,hm,hi=>by
    rw [List.map_cons]
    by_cases e:f a=f j
    · have:=hi a List.mem_cons_self e
      subst this
      exact valV_pos e
    · rw [valV_neg e]
      have hj:j ∈ l:=(List.mem_cons.mp hm).resolve_left fun z=>e (by rw [z])
      exact valV_mapR hj fun i hi'=>hi i (List.mem_cons_of_mem _ hi')
theorem valV_mapN {α:Type} [DecidableEq α] {f:Nat->α} {g:Nat->V} {k:α}:∀ {l:List Nat},(∀ i ∈ l,f i ≠ k)->valV (l.map fun i=>(f i,g i)) k=none
  | [],_=>rfl
  | a :: l,h=>by
    rw [List.map_cons,valV_neg (h a List.mem_cons_self)]
    exact valV_mapN fun i hi=>h i (List.mem_cons_of_mem _ hi)
theorem knw_get {n j:Nat} (hn:n <= 21) (hj:j < n):valV (knw n) (Sum.inr (tx (j:Int)))=some (.int (j:Int)) :=
  valV_mapR (f:=fun j:Nat=>(Sum.inr (tx (j:Int)):Key)) (g:=fun j:Nat=>V.int (j:Int)) (List.mem_range.mpr hj) fun i hi e=>tx_inj (by have:=List.mem_range.mp hi;omega) (by omega) (Sum.inr.inj e)
theorem knw_new {n:Nat} (hn:n <= 20):putK (knw n) (Sum.inr (tx (n:Int))) (.int (n:Int))=knw (n + 1):=by
  rw [putK_new]
  · unfold knw;rw [List.range_succ,List.map_append];rfl
  · exact valV_mapN (f:=fun j:Nat=>(Sum.inr (tx (j:Int)):Key)) (g:=fun j:Nat=>V.int (j:Int)) fun i hi e=>by
      have h1:=List.mem_range.mp hi
      have:=tx_inj (by omega) (by omega) (Sum.inr.inj e)
      omega
theorem noneIn (ns:List Int):inV .non (ns.map V.int)=false:=by
  unfold inV
  rw [List.any_map]
  exact List.any_eq_false.mpr fun x _=>by simp [eqV]
section
variable {P:Program} {w:World} {K:PySem.W.Frag} {mg:Str->Option Value} {base:Heap} {f:Addr} {fd:FuncData} {ec:Nat->Addr} {Bs:Addr}
def sp_ntx:Sp:=fun vs H Q _=>∃ x:Str,vs=[.str x]/\Q .non H
abbrev s_ntx:Stmt:=top 51
theorem sc_ntx:FnScope ["thing"] ["thing"] (defScope s_ntx):=⟨rfl,rfl,rfl,by decide +kernel,rfl,by decide +kernel,by decide +kernel⟩
theorem ok_ntx (F:Fun K "need_text" "need_text" s_ntx f fd) (B:Bt mg) (B2:Bt2 mg):FnOk P w K mg base CX0 1 f fd ["thing"] sp_ntx:=by
  refine F.ok sc_ntx (fun vs H Q E h=>?_) (fun cdv A outer s H vs Q E hr h=>?_)
  · obtain ⟨x,rfl,_⟩:=h
    rfl
  obtain ⟨x,rfl,q⟩:=h
  refine ⟨_,(@pss_one _ _ _ (ps_if (pt_not (pt_val (pe_callB (call_isi kit_str) rfl B.isinstance boot_isinstance (@pa_cons _ _ _ _ _ (pv 0) (@pa_cons _ _ _ _ _ (pe_bty rfl B2.str boot_str) pa_nil (by rfl)) (by rfl))))) pss_never pss_nil)),?_⟩
  exact ⟨_,rfl,_,0,.str x,rfl,by unfold Dt;rfl,_,rfl,iteF q⟩
def sp_nr:Sp:=fun vs H Q _=>∃ (ns:List Int) (m:Nat),vs=[.str (nT ns),.int m]/\m <= 20/\ns ≠ []/\ns.length <= 4/\(∀ x ∈ ns,0 <= x/\x <= (m:Int))/\∀ p H',Same H H'->(∀ b o,H b=some o->b ≠ p)->H' p=some (.tup (ns.map V.int))->Q (.ref p) H'
abbrev s_nr:Stmt:=top 50
theorem sc_nr:FnScope ["text","most","known","numbers"] ["text","most"] (defScope s_nr):=⟨rfl,rfl,rfl,by decide +kernel,rfl,by decide +kernel,by decide +kernel⟩
theorem ok_nr (F:Fun K "numbers_read" "numbers_read" s_nr f fd) (B:Bt mg) (B2:Bt2 mg):FnOk P w K mg base CX0 1 f fd ["text","most"] sp_nr:=by
  refine F.ok sc_nr (fun vs H Q E h=>?_) (fun cdv A outer s H vs Q E hr h=>?_)
  · obtain ⟨ns,m,rfl,_⟩:=h
    rfl
  obtain ⟨ns,m,rfl,hm,hne,hl,hb,q⟩:=h
  have hb20:∀ x ∈ ns,0 <= x/\x <= 20:=fun x hx=>by have:=hb x hx;omega
  refine ⟨_,(@pss_cons _ _ _ _ _ (@ps_set _ _ 2 _ _ _ _ sc_nr.nd rfl (Or.inr rfl) (pe_dcomp (N:=["number"]) (ix:=[none]) rfl (pi_range1 rfl B.range (@pa_cons _ _ _ _ _ (@pe_op _ _ _ _ _ _ _ _ op_add (pv 1) pe_int) pa_nil (by rfl)))
      (fun s H ex=>pg_c (i:=0) (by decide +kernel) rfl (Or.inl rfl) (.inr rfl)) (fun s H ex=>(pe_callTy call_str_int rfl B2.str boot_str (@pa_cons _ _ _ _ _ (pv 0) pa_nil (by rfl)))) (fun s H ex=>(pv 0)) rfl (by decide +kernel) (by rfl) (by rfl) (fun _=>rfl)) (by rfl) (by first | exact .inl rfl | exact .inr rfl))
    (@pss_cons _ _ _ _ _ (ps_setcompG (N:=["word","known"]) (ix:=[none,some 2]) (ifs:=[]) (tc:=tTrue) (i:=3) rfl sc_nr.nd rfl rfl  (pi_list (pe_bm PySem.F.plainAttrs_str PySem.F.slot_str_split PySem.F.type_str_split mt_split (pv 0) (@pa_cons _ _ _ _ _ pe_str pa_nil (by rfl))))
      (fun s H ex=>pg_c (i:=0) (by decide +kernel) rfl (Or.inl rfl) (.inr rfl)) (fun s H ex=>pifs_nil) (fun s H ex=>(pe_dget1 (hu_of hr) (pv 1) (pv 0) ⟨rfl,rfl,rfl,rfl⟩)) rfl (by decide +kernel) (by rfl) (by rfl) (fun _=>rfl) (by rfl))
    (@pss_one _ _ _ (ps_ret (pe_ifExp (@pt_cmpR _ _ _ _ _ _ _ _ op_in_seq pe_non (pv 3) (by rfl)) pe_non (pe_callTy call_tuple_of rfl B.tuple boot_tuple (@pa_cons _ _ _ _ _ (pv 3) pa_nil (by rfl)))))))),?_⟩
  refine ⟨_,rfl,_,_,rfl,rfl,((m + 1:Nat):Int),rfl,by omega,by omega,fun pk hpk=>?_⟩
  rw [Int.toNat_natCast]
  refine blkD_range (lo:=0) (n:=m + 1) (fun i Hi=>Same H Hi/\Hi pk=some (.dK (knw i))) ⟨Same.new hpk,upd_same⟩ rfl (fun i Hi hi h=>?_) (fun H2 h=>?_)
  · obtain ⟨gi,hpi⟩:=h
    have ei:(0:Int) + (i:Int)=(i:Int):=by omega
    rw [ei]
    refine ⟨_,rfl,(i:Int),rfl,log_s (by omega) (by omega),_,rfl,_,⟨knw i,Sum.inr (tx (i:Int)),hpi,rfl,?_,rfl⟩,?_,?_⟩
    · have:(knw i).length=i:=by unfold knw;rw [List.length_map,List.length_range]
      rw [this]
      have:=sz (show i + 1 <= 1000 by omega)
      omega
    · exact fun b o e=>Kp.at _ _ (fun z=>by rw [z,hpk] at e;cases e) (gi _ _ e)
    · rw [upd_same,knw_new (by omega)]
  obtain ⟨g2,hpk2⟩:=h
  have hsp:=split_nT hne hb20
  refine ⟨_,rfl,rfl,_,_,rfl,rfl,by decide +kernel,Nat.le_trans (len_nT hl hb20) (by decide),fun ps hps=>?_⟩
  rw [hsp]
  have g3:Same H2 (upd H2 ps (.lst ((ns.map tx).map V.str))):=Same.new hps
  have hps3:upd H2 ps (.lst ((ns.map tx).map V.str)) ps=some (.lst ((ns.map tx).map V.str)):=upd_same
  try dsimp -proj only
  generalize upd H2 ps (.lst ((ns.map tx).map V.str))=H3 at g3 hps3
  have hpk3:=g3 _ _ hpk2
  refine ⟨ps,rfl,⟨_,.of hps3⟩,?_⟩
  refine blk_list (K:=K) (a:=ps) (xs:=(ns.map tx).map V.str) (sz (by rw [List.length_map,List.length_map];omega)) (fun j ys Hj=>Same H3 Hj/\ys=(ns.take j).map V.int/\ys.length=j)
    ⟨Same.refl _,rfl,rfl⟩ (fun j ys Hj h=>h.2.2) (fun j ys Hj _ h=>.of (h.1 _ _ hps3)) rfl (fun j ys Hj v hv h=>?_) (fun ys Hj h=>?_)
  · obtain ⟨gj,hy,hyl⟩:=h
    rw [List.getElem?_map,List.getElem?_map] at hv
    obtain ⟨z,hz,ez⟩:=Option.map_eq_some_iff.mp hv
    obtain ⟨x,hx,ex⟩:=Option.map_eq_some_iff.mp hz
    subst ex ez
    have hxb:=hb x (List.mem_of_getElem? hx)
    have ex:((x.toNat:Nat):Int)=x:=Int.toNat_of_nonneg hxb.1
    have hk:=knw_get (n:=m + 1) (j:=x.toNat) (by omega) (by omega)
    rw [ex] at hk
    have hD:DGet Hj pk (.str (tx x)) (some (.int x)):=by
      have:=DGet.k (k:=Sum.inr (tx x)) (gj _ _ hpk3)
      rw [hk] at this
      exact this
    refine ⟨_,rfl,pk,rfl,.inl ⟨_,.inl (gj _ _ hpk3)⟩,_,rfl,_,hD,gj,?_,by rw [List.length_append,hyl];rfl⟩
    rw [hy,List.take_add_one,hx,List.map_append]
    rfl
  obtain ⟨gj,hy,hyl⟩:=h
  rw [List.length_map,List.length_map,List.take_of_length_le (Nat.le_refl _)] at hy
  subst hy
  intro pn hpn
  have g4:Same Hj (upd Hj pn (.lst (ns.map V.int))):=Same.new hpn
  have hpn4:upd Hj pn (.lst (ns.map V.int)) pn=some (.lst (ns.map V.int)):=upd_same
  try dsimp -proj only
  generalize upd Hj pn (.lst (ns.map V.int))=H4 at g4 hpn4
  have gT:Same H H4:=(g2.trans g3).trans (gj.trans g4)
  refine ⟨_,rfl,pn,_,rfl,.inl (.of hpn4),rfl,by simp [flatV],_,rfl,?_⟩
  rw [noneIn]
  refine iteF ⟨_,rfl,pn,_,rfl,.inl ⟨.of hpn4,fun t ht=>q t _ (gT.trans (Same.new ht)) (fun b o e=>ne_of_none (gT _ _ e) ht) upd_same⟩⟩
def sp_ur:Sp:=fun vs H Q _=>∃ (ns:List Int) (n:Nat),vs=[.str (nT ns)]/\Mt.Urn n 20 ns/\1 <= n/\n <= 4/\∀ p H',Same H H'->(∀ b o,H b=some o->b ≠ p)->H' p=some (.tup (ns.map V.int))->Q (.ref p) H'
abbrev s_ur:Stmt:=top 52
theorem sc_ur:FnScope ["text","urn"] ["text"] (defScope s_ur):=⟨rfl,rfl,rfl,by decide +kernel,rfl,by decide +kernel,by decide +kernel⟩
theorem ok_ur (F:Fun K "urn_read" "urn_read" s_ur f fd) (C:Ct mg) (c1:Cal P w K mg base 5 "need_text" ["thing"] sp_ntx) (c2:Cal P w K mg base 5 "numbers_read" ["text","most"] sp_nr) (c3:Cal P w K mg base 5 "is_urn" ["thing"] sp_is_urn):FnOk P w K mg base CX0 6 f fd ["text"] sp_ur:=by
  refine F.ok sc_ur (fun vs H Q E h=>?_) (fun cdv A outer s H vs Q E hr h=>?_)
  · obtain ⟨ns,n,rfl,_⟩:=h
    rfl
  obtain ⟨ns,n,rfl,hU,n1,n4,q⟩:=h
  obtain ⟨tbl,hbl⟩:=C.balls
  refine ⟨_,(@pss_cons _ _ _ _ _ (ps_expr (pe_cal c1 hr rfl (@pa_cons _ _ _ _ _ (pv 0) pa_nil (by rfl))))
    (@pss_cons _ _ _ _ _ (@ps_set _ _ 1 _ _ _ _ sc_ur.nd rfl (Or.inl rfl) (pe_cal c2 hr rfl (@pa_cons _ _ _ _ _ (pv 0) (@pa_cons _ _ _ _ _ (pe_glob (v:=.int 20) rfl hbl ⟨tbl,rfl⟩) pa_nil (by rfl)) (by rfl))) (by rfl) (by first | exact .inl rfl | exact .inr rfl))
    (@pss_cons _ _ _ _ _ (ps_if (pt_not (pt_val (pe_cal c3 hr rfl (@pa_cons _ _ _ _ _ (pv 1) pa_nil (by rfl))))) pss_never pss_nil)
    (@pss_one _ _ _ (ps_ret (pv 1)))))),?_⟩
  have hl:=hU.len
  refine ⟨_,rfl,_,rfl,?_⟩
  refine ⟨_,rfl,ns,20,rfl,by decide,fun e=>?_,by omega,hU.nn,fun p H1 g1 fr hp=>?_⟩
  · rw [e] at hl;simp at hl;omega
  have np:p ≠ p + 1:=Nat.ne_of_lt (Nat.lt_succ_self p)
  refine ⟨_,rfl,_,p + 1,DI ns,rfl,Dt.mkI np hp,short_DI (by omega),fun H2 g2=>⟨_,rfl,?_⟩⟩
  rw [urnD_of hU n1 n4]
  exact iteF ⟨_,rfl,q p H2 (g1.trans g2) fr (g2 _ _ hp)⟩
def sp_rr:Sp:=fun vs H Q _=>∃ (rs:List (List Int)) (n:Nat) (l:Addr) (o:HO),vs=[.int n,.str (rT rs)]/\Mt.Rul n 5 rs/\1 <= n/\n <= 4/\H l=some o/\∀ p H',Same H H'->Dt l H' (DR rs) (.ref p)->Q (.ref p) H'
abbrev s_rr:Stmt:=top 53
theorem sc_rr:FnScope ["kinds","text","rule"] ["kinds","text"] (defScope s_rr):=⟨rfl,rfl,rfl,by decide +kernel,rfl,by decide +kernel,by decide +kernel⟩
theorem ok_rr (F:Fun K "rule_read" "rule_read" s_rr f fd) (B:Bt mg) (C:Ct mg) (c1:CalX P w K mg base 5 "need_number" ["thing","low","high"] (sp_need_number ec)) (c2:Cal P w K mg base 5 "need_text" ["thing"] sp_ntx) (c3:Cal P w K mg base 5 "numbers_read" ["text","most"] sp_nr) (c4:CalX P w K mg base 5 "is_rule" ["kinds","thing"] (sp_is_rule ec)):FnOk P w K mg base CX0 6 f fd ["kinds","text"] sp_rr:=by
  refine F.ok sc_rr (fun vs H Q E h=>?_) (fun cdv A outer s H vs Q E hr h=>?_)
  · obtain ⟨rs,n,l,o,rfl,_⟩:=h
    rfl
  obtain ⟨rs,n,l,o,rfl,hR,n1,n4,hlo,q⟩:=h
  obtain ⟨tkd,hkd⟩:=C.kinds
  obtain ⟨tpt,hpt⟩:=C.puts
  refine ⟨_,(@pss_cons _ _ _ _ _ (ps_expr (pe_calx c1 hr rfl pass10 (@pa_cons _ _ _ _ _ (pv 0) (@pa_cons _ _ _ _ _ pe_int (@pa_cons _ _ _ _ _ (pe_glob (v:=.int 4) rfl hkd ⟨tkd,rfl⟩) pa_nil (by rfl)) (by rfl)) (by rfl))))
    (@pss_cons _ _ _ _ _ (ps_expr (pe_cal c2 hr rfl (@pa_cons _ _ _ _ _ (pv 1) pa_nil (by rfl))))
    (@pss_cons _ _ _ _ _ (@ps_set _ _ 2 _ _ _ _ sc_rr.nd rfl (Or.inl rfl) (pe_callTy call_tuple_of rfl B.tuple boot_tuple (@pa_cons _ _ _ _ _ (pe_compG (N:=["row"]) (ix:=[none]) (ifs:=[]) (tc:=tTrue) rfl (pi_list (pe_bm PySem.F.plainAttrs_str PySem.F.slot_str_split PySem.F.type_str_split mt_split (pv 1) (@pa_cons _ _ _ _ _ pe_str pa_nil (by rfl))))
      (fun s H ex=>pg_c (i:=0) (by decide +kernel) rfl (Or.inl rfl) (.inr rfl)) (fun s H ex=>pifs_nil) (fun s H ex=>(pe_cal c3 hr rfl (@pa_cons _ _ _ _ _ (pv 0) (@pa_cons _ _ _ _ _ (pe_glob (v:=.int 5) rfl hpt ⟨tpt,rfl⟩) pa_nil (by rfl)) (by rfl)))) rfl (by decide +kernel) (by rfl) (by rfl) (fun _=>rfl)) pa_nil (by rfl))) (by rfl) (by first | exact .inl rfl | exact .inr rfl))
    (@pss_cons _ _ _ _ _ (ps_if (pt_not (pt_val (pe_calx c4 hr rfl pass10 (@pa_cons _ _ _ _ _ (pv 0) (@pa_cons _ _ _ _ _ (pv 2) pa_nil (by rfl)) (by rfl))))) pss_never pss_nil)
    (@pss_one _ _ _ (ps_ret (pv 2))))))),?_⟩
  have hl:=hR.len
  have hne:rs ≠ []:=fun e=>by rw [e] at hl;simp at hl;omega
  have hrb:∀ r ∈ rs,r.length <= 4/\∀ x ∈ r,0 <= x/\x <= 20:=fun r hr=>by
    have hrw:=hR.row r hr
    exact ⟨by rw [hrw.len];omega,fun x hx=>by have:=hrw.nn x hx;omega⟩
  have hsp:=split_rT hne fun r hr=>(hrb r hr).2
  refine ⟨_,rfl,_,l,.int (n:Int),1,4,rfl,Dt.int _ _ _,sm_k (by decide) (by decide),sm_k (by decide) (by decide),fun _=>?_,fun e=>?_⟩
  · refine ⟨_,rfl,_,rfl,?_⟩
    refine ⟨_,rfl,rfl,_,_,rfl,rfl,by decide +kernel,Nat.le_trans (len_rT (by omega) hrb) (by decide),fun ps hps=>?_⟩
    rw [hsp]
    have g3:Same H (upd H ps (.lst ((rs.map nT).map V.str))):=Same.new hps
    have hps3:upd H ps (.lst ((rs.map nT).map V.str)) ps=some (.lst ((rs.map nT).map V.str)):=upd_same
    try dsimp -proj only
    generalize upd H ps (.lst ((rs.map nT).map V.str))=H3 at g3 hps3
    refine ⟨ps,rfl,⟨_,.of hps3⟩,?_⟩
    refine blk_list (K:=K) (a:=ps) (xs:=(rs.map nT).map V.str) (sz (by rw [List.length_map,List.length_map];omega)) (fun j ys Hj=>Same H3 Hj/\Dts l Hj ((rs.take j).map DI) ys/\ys.length=j)
      ⟨Same.refl _,Dts.nil _ _,rfl⟩ (fun j ys Hj h=>h.2.2) (fun j ys Hj _ h=>.of (h.1 _ _ hps3)) rfl (fun j ys Hj v hv h=>?_) (fun ys Hj h=>?_)
    · obtain ⟨gj,hD,hyl⟩:=h
      rw [List.getElem?_map,List.getElem?_map] at hv
      obtain ⟨z,hz,ez⟩:=Option.map_eq_some_iff.mp hv
      obtain ⟨r,hr',er⟩:=Option.map_eq_some_iff.mp hz
      subst er ez
      have hrw:=hR.row r (List.mem_of_getElem? hr')
      refine ⟨_,rfl,r,5,rfl,by decide,fun e=>?_,by rw [hrw.len];omega,fun x hx=>?_,fun p1 Hk gk fr hp1=>⟨gj.trans gk,?_,by rw [List.length_append,hyl];rfl⟩⟩
      · have:=hrw.len
        rw [e] at this;simp at this;omega
      · have:=hrw.nn x hx
        exact this
      · rw [List.take_add_one,hr',List.map_append]
        exact (hD.kp (gk.kp l)).append (Dts.cons (Dt.mkI (fr l o ((g3.trans gj) _ _ hlo)).symm hp1) (Dts.nil _ _))
    · obtain ⟨gj,hD,hyl⟩:=h
      rw [List.length_map,List.length_map,List.take_of_length_le (Nat.le_refl _)] at hD
      intro p2 hp2
      have g4:Same Hj (upd Hj p2 (.lst ys)):=Same.new hp2
      have hp2':upd Hj p2 (.lst ys) p2=some (.lst ys):=upd_same
      try dsimp -proj only
      generalize upd Hj p2 (.lst ys)=Ha at g4 hp2'
      refine ⟨p2,_,rfl,.inl ⟨.of hp2',fun t ht=>?_⟩⟩
      have g5:Same Ha (upd Ha t (.tup ys)):=Same.new ht
      have gA:=(g3.trans gj).trans g4
      have hdt:Dt l (upd Ha t (.tup ys)) (DR rs) (.ref t):=Dt.tup (ne_of_none (gA _ _ hlo) ht).symm upd_same (hD.kp ((g4.trans g5).kp l))
      try dsimp -proj only
      generalize upd Ha t (.tup ys)=Hb at g5 hdt
      refine ⟨_,rfl,_,rfl,.int (n:Int),.ref t,l,.int (n:Int),DR rs,rfl,Dt.int _ _ _,fun e=>?_,fun k ek k1 k4=>⟨hdt,short_DR (by omega),shorts_DR hR (by omega),fun Hc gc=>⟨_,rfl,?_⟩⟩⟩
      · exfalso
        have:wholeD 1 4 (.int (n:Int))=true:=by
          show (decide ((1:Int) <= n) && decide ((n:Int) <= 4))=true
          rw [decide_eq_true (by omega),decide_eq_true (by omega)];rfl
        rw [this] at e;cases e
      · cases ek
        rw [ruleD_of hR]
        exact iteF ⟨_,rfl,q t Hc ((gA.trans g5).trans gc) (hdt.kp (gc.kp l))⟩
  · exfalso
    have:wholeD 1 4 (.int (n:Int))=true:=by
      show (decide ((1:Int) <= n) && decide ((n:Int) <= 4))=true
      rw [decide_eq_true (by omega),decide_eq_true (by omega)];rfl
    rw [this] at e;cases e
end
end G
namespace L2
open PySem PySem.Spec PyProof.Rows
section
variable {prog:Program} {w:World} {A:Around} {E:Value->Shared->Prop} {s:Shared}
end
end L2
namespace L2
open PySem PySem.Spec PyProof.Rows
section
variable {X:Cx} {pins:List (Addr × Obj)} {σ:St} {H:Hp} {p d it:Addr} {rs:List Addr} {kvs:List (Key × V)} {A:Around} {R:Result->Shared->Prop}
end
end L2
namespace L2
open PySem PySem.Spec PyProof.Rows
section
variable {X:Cx} {pins:List (Addr × Obj)} {σ:St} {H:Hp} {s:Shared}
end
end L2
namespace L2
open PySem PySem.Spec PyProof.Rows
section
variable {X:Cx}
def rSlS:V->Option Int->Option Int->Hp->VK->Prop:=fun x lo hi H Q=>∃ a,x=.str a/\a.length <= sizeLine/\Q (.str (Txt.slice a lo hi)) H
end
end L2
namespace L2
open PySem PySem.Spec PyProof.Rows
end L2
namespace L2
open PySem PySem.Spec PyProof.Rows
section
variable {prog:Program} {w:World} {A:Around} {E:Value->Shared->Prop} {s:Shared}
theorem draw_list {it t:Addr} {items:Array Value} (hne:t ≠ it):∀ (n i:Nat) (s:Shared) (Q:List Value->Shared->Prop),s.heap.IsListIter it t i->s.heap.IsList t items->i + n <= items.size ->
    (∀ h',h'.IsListIter it t (i + n)->Heap.SameBut it s.heap h'->Q ((items.toList.drop i).take n) { s with heap:=h' })->wpAny (model prog w) A (draw (.ref it) n) Q E s
  | 0,i,s,Q,hit,_,_,hQ=>by
    show wpAny _ _ (pure []) Q E s
    exact wpAny_pure (by simpa using hQ s.heap hit (Heap.SameBut.refl ..))
  | n + 1,i,s,Q,hit,ht,hle,hQ=>by
    have hlt:i < items.size:=by omega
    show wpAny _ _ (pyNext (.ref it) >>= _) Q E s
    refine wpAny_bind (wpAny_pyNext_list_item hit ht (x:=items[i]) (by simp [hlt]) fun h₁ hit₁ hs₁=>?_)
    refine wpAny_bind (wpAny_holding (draw_list hne n (i + 1) _ _ hit₁ (ht.at fun o e=>hs₁.extBut _ _ hne e) (by omega) fun h₂ hit₂ hs₂=>wpAny_pure ?_))
    have hd:items.toList.drop i=items[i] :: items.toList.drop (i + 1):=by simp [List.drop_eq_getElem_cons,hlt]
    have:=hQ h₂ (by rw [show i + (n + 1)=i + 1 + n by omega];exact hit₂) (hs₁.trans hs₂)
    rw [hd,List.take_succ_cons] at this
    exact this
end
section
variable {X:Cx} {pos:Pos}
end
end L2
namespace L2
open PySem PySem.Spec PyProof.Rows
end L2
namespace L2
open PySem PySem.Spec PyProof.Rows
def oneS (c:Nat):Str:=⟨#[c]⟩
def Its (x:Str):It:=⟨fun i _=>i < x.cps.size,fun i H v H'=>H'=H/\∃ c,x.cps[i]?=some c/\v=.str (oneS c),fun i _=>x.cps.size <= i⟩
theorem turn_str {P:Program} {w:World} {K:PySem.W.Frag} {tg:Expr} (x:Str) (t:Tok) (it:Addr) (ty:String) (hty:ty="str_ascii_iterator" ∨ ty="str_iterator"):Turn P w K tg (Its x) [it] it (fun i h=>h.IsStrIter it ty x t i) where
  mem:=by simp
  obj:=fun i h st b hb=>by
    have e:b=it:=by simpa using hb
    subst e
    obtain ⟨o,e,c,d⟩:=st
    exact ⟨o,e,fun v z=>by rw [d] at z;cases z⟩
  keep:=fun i h h' st k=>let ⟨o,e,c⟩:=st;⟨o,k it (by simp) o e,c⟩
  item:=by
    intro X hP hw hK hc i pins s σ H E I hf st hg
    subst hP hw hK
    have hg:i < x.cps.size:=hg
    obtain ⟨f0,f1,f2,f3,f4,f5⟩:=hf it (by simp)
    have fin:∀ h',h'.IsStrIter it ty x t (i + 1)->Heap.SameBut it s.heap h'->∃ u,some (Value.str ⟨#[x.cps[i]]⟩ s.toks)=some u/\wpAny (model X.prog X.w) X.A (letOwnedTupleGo tg (.ref it) u) (fun _ s2=>∃ v H',Inv X pins σ H' s2/\RelV v u/\(Its x).yld i H v H'/\s2.heap.IsStrIter it ty x t (i + 1)/\∀ b ∈ [it],H' b=none) E { s with heap:=h',toks:=s.toks + 1 }:=fun h' st' sb=>by
      have I1:Inv X pins σ H { s with heap:=h',toks:=s.toks + 1 }:=I.turned (t':=s.toks + 1) (fun b o hb e=>(sb.2 b hb).trans e) f0 f1 f3 f4 f5
      obtain ⟨o,e,c,d⟩:=id st'
      refine ⟨_,rfl,go_of (s:={ s with heap:=h',toks:=s.toks + 1 }) e c d ?_ ⟨.str (oneS x.cps[i]),H,I1,⟨_,rfl⟩,⟨rfl,_,by simp [hg],rfl⟩,st',fun b hb=>(hf b hb).1⟩⟩
      rcases hty with e | e <;> rw [e] <;> decide
    rcases hty with e | e
    · subst e;exact wpAny_pyNext_ascii_item st (c:=x.cps[i]) (by simp [hg]) fin
    · subst e;exact wpAny_pyNext_wide_item st (c:=x.cps[i]) (by simp [hg]) fin
  done:=by
    intro X hP hw hK hc i pins s σ H E I hf st hg
    subst hP hw hK
    have hg:x.cps.size <= i:=hg
    obtain ⟨f0,f1,f2,f3,f4,f5⟩:=hf it (by simp)
    rcases hty with e | e
    · subst e;exact wpAny_pyNext_ascii_end (I.ok.hd hc) st (by simp [hg]) fun h' eb=>⟨rfl,I.turned (t':=s.toks) (fun b o hb e=>eb b o hb e) f0 f1 f3 f4 f5⟩
    · subst e;exact wpAny_pyNext_wide_end (I.ok.hd hc) st (by simp [hg]) fun h' eb=>⟨rfl,I.turned (t':=s.toks) (fun b o hb e=>eb b o hb e) f0 f1 f3 f4 f5⟩
  self:=fun A i s Q E st q=>by
    rcases hty with e | e
    · subst e;exact wpAny_pyIter_striter_ascii st q
    · subst e;exact wpAny_pyIter_striter_wide st q
section
variable {X:Cx}
def iStr (tl:TE):TI:=fun σ H R=>tl σ H fun v H1=>∃ x,v=.str x/\R (Its x) H1
theorem pi_str {tg l:Expr} {tl:TE} (hl:PE X l tl):PI X tg l (iStr tl):=by
  intro pins s σ H R I h
  refine thn (hl pins s σ H _ I h) fun v s1 ⟨u,H1,I1,r1,x,e,q⟩=>?_
  subst e
  obtain ⟨t,rfl⟩:=r1
  have fin:∀ (ty:String) (hty:ty="str_ascii_iterator" ∨ ty="str_iterator"),PIE X pins σ tg R (.ref s1.heap.objs.size) { s1 with heap:=s1.heap.push { cls:=.type ty,data:=.fields #[.str x t,.int 0 0] } }:=fun ty hty=>by
    have I2:Inv X pins σ H1 { s1 with heap:=s1.heap.push { cls:=.type ty,data:=.fields #[.str x t,.int 0 0] } }:=I1.kept (t':=s1.toks) fun b o e=>Heap.get?_push_of_some _ e
    refine ⟨s1.heap.objs.size,[s1.heap.objs.size],_,_,H1,rfl,I2,turn_str x t s1.heap.objs.size ty hty,⟨_,Heap.get?_push_size _ rfl,rfl,rfl⟩,fun b hb=>?_,q⟩
    rw [List.mem_singleton.mp hb]
    exact I1.fpOk (Nat.le_refl _) (I1.hok.fresh (Nat.le_refl _))
  cases ha:x.cps.all (· < 128)
  · exact wpAny_pyIter_wide ha (fin _ (.inr rfl))
  · exact wpAny_pyIter_ascii ha (fin _ (.inl rfl))
theorem blk_str {x:Str} {σ0:St} {te:TE} {H:Hp} {F:List V->Hp->Prop} (hn:x.cps.size <= sizeLine) (Pv:Nat->List V->Hp->Prop) (h0:Pv 0 [] H) (hl:∀ i ys H,Pv i ys H->ys.length=i) (hσ:σ0[0]?=some none)
    (hs:∀ i c ys H,x.cps[i]?=some c->Pv i ys H->te (σ0.set 0 (some (.str (oneS c)))) H fun y H'=>Pv (i + 1) (ys ++ [y]) H') (hd:∀ ys H,Pv x.cps.size ys H->F ys H):Blk (Its x) σ0 (gName 0) tTrue te H F:=by
  refine ⟨fun i m ys H=>m=x.cps.size - i/\i <= x.cps.size/\Pv i ys H,⟨x.cps.size,by simp,Nat.zero_le _,h0⟩,?_⟩
  rintro i m ys H2 ⟨rfl,hi,p⟩
  refine ⟨by rw [hl i ys H2 p];omega,?_⟩
  by_cases hlt:i < x.cps.size
  · refine .inr ⟨hlt,fun y H'=>Pv (i + 1) (ys ++ [y]) H',fun _=>False,fun y H' q=>⟨x.cps.size - (i + 1),by omega,rfl,hlt,q⟩,fun _ q=>q.elim,fun v H3 y=>?_⟩
    obtain ⟨rfl,c,hc,rfl⟩:=y
    exact ⟨Wk.set (.inl hσ),hs i c ys _ hc p⟩
  · have e:i=x.cps.size:=by omega
    subst e
    exact .inl ⟨Nat.le_refl _,hd ys H2 p⟩
theorem op_le_str:OpR X (compareOp .LtE) (fun x y H Q=>∃ i j,x=.str i/\y=.str j/\Q (.bl (!decide (j.cps.toList < i.cps.toList))) H):=by
  intro pins s σ H x y v u Q I rx ry h
  obtain ⟨i,j,rfl,rfl,q⟩:=h
  obtain ⟨t,rfl⟩:=rx
  obtain ⟨t',rfl⟩:=ry
  exact PySem.P.le_str (fin_bl I q rfl)
theorem op_nin_str:OpR X (compareOp .NotIn) (fun x y H Q=>∃ i j,x=.str i/\y=.str j/\Q (.bl (Builtin.Str.occurrences j i 0 j.length 1).isEmpty) H):=by
  intro pins s σ H x y v u Q I rx ry h
  obtain ⟨i,j,rfl,rfl,q⟩:=h
  obtain ⟨t,rfl⟩:=rx
  obtain ⟨t',rfl⟩:=ry
  exact PyProof.Rows.notIn_str (fin_bl I q (by simp))
end
end L2
namespace L2
open PySem PySem.Spec PyProof.Rows
theorem walks_shift {prog:Program} {w:World} {A:Around} {I:Addr} {fp wr:List Addr} {n:Nat} {P:Nat->Value->Prop} {St:Nat->Heap->Prop} (W:Walks prog w A I fp wr (n + 1) P St):Walks prog w A I fp wr n (fun i=>P (i + 1)) (fun i=>St (i + 1)) where
  sub:=W.sub
  frame:=fun i h h' st k=>W.frame (i + 1) h h' st k
  item:=fun i s Q E hi st hQ=>W.item (i + 1) s Q E (by omega) st hQ
  done:=fun s Q E st hQ=>W.done s Q E st hQ
  self:=fun i s Q E st hQ=>W.self (i + 1) s Q E st hQ
section
variable {prog:Program} {w:World} {A:Around} {E:Value->Shared->Prop} {s:Shared}
theorem unpackItems_star {t:Addr} {x:Value} {its:List Value} {Q:List Value->Shared->Prop} (hh:A.handled=none) (ht:s.heap.IsList t (x :: its).toArray) (hz:(x :: its).length <= sizeLine)
    (hQ:∀ (h':Heap) (tk:Nat),(∀ b o,s.heap.get? b=some o->h'.get? b=some o)->Q [x,.ref h'.objs.size] { s with heap:=h'.push { cls:=.type "list",data:=.seq its.toArray },toks:=tk }):wpAny (model prog w) A (unpackItems (.ref t) 2 (some 1)) Q E s:=by
  have hlt:t ≠ s.heap.objs.size:=by obtain ⟨o,ho,_⟩:=ht;exact Nat.ne_of_lt (Heap.lt_size ho)
  unfold unpackItems
  refine wpAny_bind ?_
  unfold notIterableAtAll
  refine wpAny_bind (wpAny_specialOf ht.typeIs PySem.F.slot_list_iter.lookup ?_)
  refine wpAny_pure ?_
  simp only [Bool.false_eq_true,if_false]
  refine wpAny_bind (wpAny_holding (wpAny_pyIter_list ht ?_))
  refine wpAny_bind (wpAny_holding (draw_list hlt 1 0 _ _ ⟨_,Heap.get?_push_size _ rfl,rfl,rfl⟩ (ht.push _) (by simp) fun h₁ hit₁ hs₁=>?_))
  have ht₁:h₁.IsList t (x :: its).toArray:=(ht.push _).at fun o e=>hs₁.extBut _ _ hlt e
  have e1:List.take 1 (List.drop 0 (x :: its).toArray.toList)=[x]:=by simp
  rw [e1]
  rw [if_neg (by simp)]
  have W:=walks_shift (n:=its.length) (by
    have:=Walks.list (prog:=prog) (w:=w) (A:=A.in1) hh s.heap.objs.size t hlt (x :: its).toArray
    rw [show (x :: its).toArray.size=its.length + 1 by simp] at this
    exact this)
  have lit:s.heap.objs.size < h₁.objs.size:=by obtain ⟨o,ho,_⟩:=hit₁;exact Heap.lt_size ho
  refine wpAny_bind (wpAny_holding (wpAny_collect_iter (T:="list_iterator") (.inr (.inr (.inl rfl))) W.toS (fun i s' st=>?_) ⟨hit₁,ht₁⟩ (fun b hb=>?_) (by simp) (fun s' acc hm hi=>?_) (by rw [List.length_cons] at hz;omega)))
  · obtain ⟨⟨o,ho,hc,_⟩,_⟩:=st
    exact ⟨o,ho,hc⟩
  · rcases List.mem_cons.mp hb with e | e
    · rw [e];exact lit
    · rw [List.mem_singleton.mp e];obtain ⟨o,ho,_⟩:=ht₁;exact Heap.lt_size ho
  have ea:acc.toList=its:=by
    refine List.ext_getElem? fun j=>?_
    by_cases hj:j < its.length
    · have h1:j < acc.size:=by rw [hi.1];exact hj
      have:=hi.2 j acc[j] (by simp [h1])
      have e2:(x :: its).toArray[j + 1]?=some acc[j]:=this
      rw [List.getElem?_toArray,List.getElem?_cons_succ] at e2
      rw [e2,Array.getElem?_toList];simp [h1]
    · rw [List.getElem?_eq_none (by rw [Array.length_toList,hi.1];omega),List.getElem?_eq_none (by omega)]
  rw [ea,if_neg (by simp)]
  refine wpAny_bind (wpAny_newList ?_ (by rw [List.length_cons] at hz;simp;omega))
  have et:List.take (its.length - (2 - 1 - 1)) its=its:=List.take_of_length_le (by simp)
  rw [et]
  refine wpAny_pure ?_
  have ed:[x] ++ [Value.ref s'.heap.objs.size] ++ List.drop (its.length - (2 - 1 - 1)) its=[x,.ref s'.heap.objs.size]:=by simp
  rw [ed]
  have k1:∀ b o,s.heap.get? b=some o->s'.heap.get? b=some o:=fun b o e=>hm.heap b o (fun z=>by rw [List.mem_singleton.mp z] at e;exact Nat.lt_irrefl _ (Heap.lt_size e)) (hs₁.extBut b o (Nat.ne_of_lt (Heap.lt_size e)) (Heap.get?_push_of_some _ e))
  obtain ⟨h2,g2,d2,t2,os2⟩:=s'
  obtain ⟨_,m1,m2,m3,_⟩:=hm
  cases m1
  cases m2
  cases m3
  exact hQ h2 t2 k1
end
section
variable {X:Cx} {pos:Pos}
def gStar (K:PySem.W.Frag) (g1 g2:TG):TG:=fun v σ H Q=>∃ a x xs,v=.ref a/\SqL K H a (x :: xs)/\∀ p,H p=none->g1 x σ (upd H p (.lst xs)) fun σ1 H1=>g2 (.ref p) σ1 H1 Q
theorem pg_star {t1 t2:Expr} {p1:Pos} {k:Nat} {g1 g2:TG} (hc:X.calm=true) (h1:PG X t1 g1) (h2:PG X t2 g2) (hn:assignEach [t1,.Starred t2 p1] X.env=[(false,assign t1 X.env),(true,assign t2 X.env)]:=by rfl):PG X (.Tuple [t1,.Starred t2 p1] k pos) (gStar X.K g1 g2):=by
  intro pins s σ H v u Q I r hw
  obtain ⟨a,x,xs,e1,hq,hw⟩:=hw
  subst e1
  cases r
  obtain ⟨its,rv,pl,hz⟩:=I.list hq
  cases rv with
  | @cons _ u1 _ its r1 rr =>
    rw [arm_assign_Tuple]
    refine wpAny_bind (wpAny_standAt ?_)
    unfold unpack
    rw [hn]
    refine wpAny_bind (wpAny_holding (unpackItems_star (I.ok.hd hc) pl.isList (by have h1:=rr.length;have h2:=hz;simp only [List.length_cons] at h2 ⊢;omega) fun h' tk kp=>?_))
    have I1:Inv X pins σ H { s with heap:=h',toks:=tk }:=I.kept (t':=tk) kp
    have hp:=I1.hok.fresh (Nat.le_refl h'.objs.size)
    have I2:Inv X pins σ (upd H h'.objs.size (.lst xs)) { s with heap:=h'.push { cls:=.type "list",data:=.seq its.toArray },toks:=tk }:=I1.laid (a:=h'.objs.size) (o:=.lst xs) (t':=tk) (fun _ _ q=>Heap.get?_push_of_some _ q) (Nat.le_refl _) ⟨by have h1:=rr.length;have h2:=hz;simp only [List.length_cons] at h2 ⊢;omega,its,0,rr,Heap.get?_push_size _ rfl⟩
    show wpAny _ _ (holding [Value.ref h'.objs.size] (assign t1 X.env u1) >>= fun _=>assignInOrder [assign t2 X.env] [Value.ref h'.objs.size]) _ _ _
    refine wpAny_bind (wpAny_holding (thn (h1 pins _ σ _ x u1 _ I2 r1 (hw _ hp)) fun _ s2 ⟨σ2,H2,I3,q2⟩=>?_))
    show wpAny _ _ (holding [] (assign t2 X.env (.ref h'.objs.size)) >>= fun _=>assignInOrder [] []) _ _ _
    refine wpAny_bind (wpAny_holding (thn (h2 pins _ σ2 H2 (.ref h'.objs.size) (.ref h'.objs.size) _ I3 rfl q2) fun _ s3 h3=>wpAny_pure h3))
end
end L2
namespace L2
open PySem PySem.Spec PyProof.Rows
section
variable {X:Cx}
theorem mt_sindex:MtR X "str.index" (fun x vs H Q=>∃ (a b:Str) (i:Nat) (rest:List Nat),x=.str a/\vs=[.str b]/\Builtin.Str.occurrences a b 0 a.length 1=i :: rest/\Q (.int i) H):=by
  intro pins s σ H x vs v us Q I rx rv h
  obtain ⟨a,b,i,rest,rfl,rfl,ho,q⟩:=h
  obtain ⟨t,rfl⟩:=rx
  obtain ⟨u,rfl,ru⟩:=rv.one
  obtain ⟨t2,rfl⟩:=ru
  exact call_gives PySem.F.slot_str_index (typeIs_str s _ _) PySem.F.entry_str_index (PySem.F.args_str_index_2 _ _) (gives_str_index a b t t2 i rest ho) ⟨.int i,H,I.tok _,⟨_,rfl⟩,q⟩
end
end L2
namespace L2
open PySem PySem.Spec PyProof.Rows
structure TopD (K:PySem.W.Frag) (w:World) (dl:Addr) (f:Str->Option Value):Prop where
  sys:(dl == sysModules)=false
  ex:∃ es n,K.lookup dl=some ⟨.type "dict",none,.dict es n,#[]⟩/\PySem.W.KeysLit w.params es.toList/\∀ x,findBy Value.isStrOf es x=f x
section
variable {X:Cx} {dl:Addr} {f:Str->Option Value}
theorem TopD.map (T:TopD X.K X.w dl f) {pins:List (Addr × Obj)} {σ:St} {H:Hp} {s:Shared} (I:Inv X pins σ H s):s.heap.MapOf (strKind X.prog X.w) dl f:=by
  obtain ⟨es,n,h1,h2,h3⟩:=T.ex
  have:=PySem.W.mapOf_K (prog:=X.prog) (w:=X.w) I.kIn h1 h2
  have e:(fun k=>findBy Value.isStrOf es k)=f:=funext h3
  rw [e] at this
  exact this
def tTopGet (dl:Addr) (f:Str->Option Value) (td ty:TE):TE:=fun σ H Q=>td σ H fun x H1=>ty σ H1 fun y H2=>∃ k v u,x=.ref dl/\y=.str k/\f k=some u/\RelV v u/\Q v H2
theorem pe_topget {o i:Expr} {td ty:TE} {pos:Pos} (T:TopD X.K X.w dl f) (ho:PE X o td) (hi:PE X i ty) (hs:NoSl i):PE X (.Subscript o i pos) (tTopGet dl f td ty):=by
  intro pins s σ H Q I h
  refine subD_of PySem.F.slot_dict_getitem.lookup hs (thn (ho pins s σ H _ I h) fun u s1 ⟨x,H1,I1,rx,q1⟩=>thn (hi pins s1 σ H1 _ I1 q1) fun iv s2 ⟨y,H2,I2,ry,k,v,w',ex,ey,ef,rv,q2⟩=>?_)
  subst ex ey
  cases rx
  obtain ⟨t,rfl⟩:=ry
  exact ⟨(T.map I2).typeIs,wpAny_getItem_of (strKind_is X.prog X.w k t) (T.map I2) ef ⟨v,H2,I2.tok _,rv,q2⟩⟩
theorem op_topnin (T:TopD X.K X.w dl f):OpR X (compareOp .NotIn) (fun x y H Q=>∃ k,x=.str k/\y=.ref dl/\Q (.bl (f k).isNone) H):=by
  intro pins s σ H x y v u Q I rx ry h
  obtain ⟨k,rfl,rfl,q⟩:=h
  obtain ⟨t,rfl⟩:=rx
  cases ry
  refine wpAny_notIn_of (strKind_is X.prog X.w k t) T.sys (T.map I) ⟨.bl (f k).isNone,H,I.tok _,?_,q⟩
  cases f k <;> rfl
end
end L2
namespace G
open PySem PySem.Spec PyProof.Rows L2 Mt Mq
theorem log_b {i:Int} (h0:0 <= i) (h:i < 10 ^ 62):i.natAbs.log2 < 1920:=by
  rcases Nat.eq_zero_or_pos i.natAbs with e | e
  · rw [e];decide
  · have h1:i.natAbs < 10 ^ 62:=by
      have:((i.natAbs:Nat):Int) < ((10 ^ 62:Nat):Int):=by rw [Int.natAbs_of_nonneg h0];exact h
      exact Int.ofNat_lt.mp this
    exact Nat.lt_of_lt_of_le ((Nat.log2_lt (by omega)).mpr (Nat.lt_of_lt_of_le h1 (show 10 ^ 62 <= 2 ^ 250 by decide))) (by decide)
theorem tx_len {i:Int} (h0:0 <= i) (h:i < 10 ^ 62):(tx i).length <= 62:=by
  obtain ⟨n,rfl⟩:=Int.eq_ofNat_of_zero_le h0
  have h1:n < 10 ^ 62:=by
    have:(n:Int) < ((10 ^ 62:Nat):Int):=h
    exact Int.ofNat_lt.mp this
  have e:(tx (n:Int)).length=(Nat.repr n).length:=PySem.ofString_length _
  rw [e]
  exact (Nat.length_repr_le_iff (by decide)).mpr h1
section
variable {P:Program} {w:World} {K:PySem.W.Frag} {mg:Str->Option Value} {base:Heap} {f:Addr} {fd:FuncData} {ec:Nat->Addr} {Bs:Addr}
def kindD (n:Nat) (d:PyData):Bool:=wholeD 0 ((n:Int) - 1) d
theorem kindD_of {n k:Nat} (h:k < n):kindD n (.int (k:Int))=true:=by
  show (decide ((0:Int) <= (k:Int)) && decide ((k:Int) <= (n:Int) - 1))=true
  rw [decide_eq_true (by omega),decide_eq_true (by omega)];rfl
def sp_need_kind (ec:Nat->Addr):Sp:=fun vs H Q E=>∃ (a st:Addr) (xs:List V) (v:V) (d:PyData),vs=[.ref a,v]/\H a=some (.tup xs)/\Dt st H d v/\(kindD xs.length d=true->Q .non H)/\(kindD xs.length d=false->E (.ref (ec 2)) none H)
abbrev s_need_kind:Stmt:=top 28
theorem sc_need_kind:FnScope ["urn","thing"] ["urn","thing"] (defScope s_need_kind):=⟨rfl,rfl,rfl,by decide +kernel,rfl,by decide +kernel,by decide +kernel⟩
theorem ok_need_kind (F:Fun K "need_kind" "need_kind" s_need_kind f fd) (B:Bt mg) (R:Errs K mg ec Bs) (c1:Cal P w K mg base 1 "is_whole" ["thing","low","high"] sp_is_whole):FnOk P w K mg base (CX1 P w) 2 f fd ["urn","thing"] (sp_need_kind ec):=by
  refine F.okX sc_need_kind (fun vs H Q E h=>?_) (fun cdv A outer s H vs Q E hr h=>?_)
  · obtain ⟨a,st,xs,v,d,rfl,_⟩:=h
    rfl
  obtain ⟨a,st,xs,v,d,rfl,ha,hd,q1,q2⟩:=h
  refine ⟨_,pss_one (ps_if (pt_not (pt_val (pe_cal c1 hr rfl (pa_cons (pv 1) (pa_cons pe_int (pa_cons (pe_op op_sub (pe_callB call_len_seq rfl B.len PySem.boot_len (pa_cons (pv 0) pa_nil)) pe_int) pa_nil)))))) (pss_one (ps_raise1 R.e2 (R.xc 2 (by decide)) pe_str (fun σ H Q Q' m q=>m _ _ q))) pss_nil),?_⟩
  refine ⟨_,rfl,_,rfl,a,_,rfl,.inr (.of ha),_,_,rfl,rfl,_,st,d,0,_,rfl,hd,_,rfl,?_⟩
  unfold kindD at q1 q2
  cases hw:wholeD 0 ((xs.length:Int) - 1) d with
  | true=>exact iteF (q1 hw)
  | false=>exact iteT (q2 hw)
def sp_chanceV:Sp:=fun vs H Q _=>∃ (st a:Addr) (n k:Nat) (ns:List Int),vs=[.ref a,.int k]/\Dt st H (DI ns) (.ref a)/\Mt.Urn n 20 ns/\1 <= n/\n <= 4/\k < n/\∀ p H',Same H H'->H' p=some (.tup ((fr (Mt.share ns k)).map V.int))->Q (.ref p) H'
def sp_chance (ec:Nat->Addr):Sp:=fun vs H Q E=>False ∨ sp_chanceV vs H Q E
abbrev s_chance:Stmt:=top 32
theorem sc_chance:FnScope ["urn","kind"] ["urn","kind"] (defScope s_chance):=⟨rfl,rfl,rfl,by decide +kernel,rfl,by decide +kernel,by decide +kernel⟩
theorem ok_chance (F:Fun K "chance" "chance" s_chance f fd) (c1:CalX P w K mg base 5 "need_urn" ["thing"] (sp_need_urn ec)) (c2:CalX P w K mg base 2 "need_kind" ["urn","thing"] (sp_need_kind ec)) (c3:Cal P w K mg base 3 "share" ["urn","kind"] sp_share):FnOk P w K mg base (CX1 P w) 6 f fd ["urn","kind"] (sp_chance ec):=by
  refine F.okX sc_chance (fun vs H Q E h=>?_) (fun cdv A outer s H vs Q E hr h=>?_)
  · rcases h with h | ⟨st,a,n,k,ns,rfl,_⟩
    · exact h.elim
    · rfl
  refine ⟨_,pss_cons (ps_expr (pe_calx c1 hr rfl passes1 (pa_cons (pv 0) pa_nil))) (pss_cons (ps_expr (pe_calx (c2.up (by decide)) hr rfl passes1 (pa_cons (pv 0) (pa_cons (pv 1) pa_nil)))) (pss_one (ps_ret (pe_cal (c3.up (by decide)) hr rfl (pa_cons (pv 0) (pa_cons (pv 1) pa_nil)))))),?_⟩
  rcases h with h | ⟨st,a,n,k,ns,rfl,hu,hU,n1,n4,hk,q⟩
  · exact h.elim
  · obtain ⟨a',e,_,ha⟩:=hu.di
    cases e
    have uok:=urnD_of hU n1 n4
    refine ⟨_,rfl,_,st,DI ns,rfl,hu,short_DI (by rw [hU.len];omega),fun _ H1 g1=>?_,(fun z=>by rw [uok] at z;cases z)⟩
    refine ⟨_,rfl,_,rfl,a,st,_,_,.int k,rfl,g1 _ _ ha,Dt.int _ _ _,fun _=>?_,fun z=>?_⟩
    · exact ⟨_,rfl,_,rfl,a,n,20,ns,k,rfl,g1 _ _ ha,hU,n4,(by omega),hk,fun p H2 g2 hp=>q p H2 (g1.trans g2) hp⟩
    · rw [List.length_map,hU.len,kindD_of hk] at z;cases z
def sp_ftB:Sp:=fun vs H Q _=>∃ (a:Addr) (t b:Int),vs=[.ref a]/\H a=some (.tup [.int t,.int b])/\0 <= t/\t < 10 ^ 62/\0 <= b/\b < 10 ^ 62/\∀ H',Same H H'->Q (.str (fT t b)) H'
theorem ok_ftB (F:Fun K "fraction_text" "fraction_text" s_ft f fd) (B2:Bt2 mg):FnOk P w K mg base CX0 1 f fd ["fraction"] sp_ftB:=by
  refine F.ok sc_ft (fun vs H Q E h=>?_) (fun cdv A outer s H vs Q E hr h=>?_)
  · obtain ⟨a,t,b,rfl,_⟩:=h
    rfl
  obtain ⟨a,t,b,rfl,ha,t0,t4,b0,b4,q⟩:=h
  refine ⟨_,(@pss_cons _ _ _ _ _ (ps_asg (pv 0) (pg_tup rfl (pgs_cons (pg_name (i:=1) sc_ft.nd rfl (Or.inl rfl)) (pgs_cons (pg_name (i:=2) sc_ft.nd rfl (Or.inl rfl)) pgs_nil))))
    (@pss_one _ _ _ (ps_ret (pe_ifExp (@pt_cmpR _ _ _ _ _ _ _ _ op_eq (pv 2) pe_int (nomark _)) (pe_callTy call_str_int rfl B2.str boot_str (@pa_cons _ _ _ _ _ (pv 1) pa_nil (by rfl))) (pe_fstrX (pjx_fmt (pv 1) (pjx_str (pjx_fmt (pv 2) pjx_nil)))))))),?_⟩
  refine ⟨_,rfl,a,_,rfl,.of ha,rfl,_,_,rfl,_,_,rfl,rfl,?_⟩
  refine ⟨_,rfl,rfl,_,rfl,?_⟩
  have hlt:=tx_len t0 t4
  have hlb:=tx_len b0 b4
  by_cases e:b=1
  · have ef:fT t b=tx t:=if_pos e
    rw [decide_eq_true (congrArg V.int e)]
    refine iteT ⟨_,rfl,t,rfl,log_b t0 t4,?_⟩
    have:=q _ (Same.refl H)
    rw [ef] at this
    exact this
  · have ef:fT t b=tx t ++ ("/" ++ tx b):=if_neg e
    rw [decide_eq_false (fun z=>e (V.int.inj z))]
    refine iteF ⟨_,rfl,t,rfl,log_b t0 t4,Nat.le_trans hlt (by decide),_,rfl,b,rfl,log_b b0 b4,Nat.le_trans hlb (by decide),?_⟩
    have:=q _ (Same.refl H)
    rw [ef,<- str_nil (tx b)] at this
    exact this
end
end G
namespace L2
open PySem PySem.Spec PyProof.Rows
structure CalM (P:Program) (w:World) (K:PySem.W.Frag) (mg:Str->Option Value) (base:Heap) (C:Addr) (k:Nat) (m:Str) (ps:List Str) (sp:Sp):Prop where
  ex:∃ f fd,Meth K C m f/\Binds K fd ps []/\FnOk P w K mg base CX0 k f fd ps sp
theorem CalM.up {P:Program} {w:World} {K:PySem.W.Frag} {mg:Str->Option Value} {base:Heap} {C:Addr} {j k:Nat} {m:Str} {ps:List Str} {sp:Sp} (c:CalM P w K mg base C j m ps sp) (h:j <= k):CalM P w K mg base C k m ps sp :=
  let ⟨f,fd,a,b,d⟩:=c.ex;⟨f,fd,a,b,d.mono h⟩
structure CalK (P:Program) (w:World) (K:PySem.W.Frag) (mg:Str->Option Value) (base:Heap) (C:Addr) (k:Nat) (x:Str) (ps:List Str) (sp:Sp):Prop where
  ex:∃ f fd,Mk K C f/\mg x=some (.ref C)/\Binds K fd ps []/\FnOk P w K mg base CX0 k f fd ps sp
theorem CalK.up {P:Program} {w:World} {K:PySem.W.Frag} {mg:Str->Option Value} {base:Heap} {C:Addr} {j k:Nat} {x:Str} {ps:List Str} {sp:Sp} (c:CalK P w K mg base C j x ps sp) (h:j <= k):CalK P w K mg base C k x ps sp :=
  let ⟨f,fd,a,e,b,d⟩:=c.ex;⟨f,fd,a,e,b,d.mono h⟩
def tMb (C:Addr) (m:Str) (sp:Sp) (ta:TE) (t:TA):TE:=fun σ H Q=>ta σ H fun x H1=>∃ a dx fs,x=.ref a/\H1 a=some (.ins C dx fs)/\fs.lookup m=none /\
  t σ H1 fun vs H2=>sp (x :: vs) H2 Q E0
def tMk0 (C:Addr) (sp:Sp):TE:=fun σ H Q=>∀ x dx,H x=none->H dx=none->dx ≠ x ->
  sp [.ref x] (upd (upd H dx (.own x)) x (.ins C dx [])) (fun v H2=>v=.non/\Q (.ref x) H2) E0
section
variable {X:Cx} {k:Nat} {C:Addr} {ps:List Str} {sp:Sp} {x m:Str} {p pos apos:Pos} {e o:Expr} {es:List Expr} {ta:TE} {t:TA}
theorem pe_calm {pl:Sem Bool} (he:PE X o ta) (c:Cls X.K C) (M:CalM X.prog X.w X.K X.mg X.base C k m ps sp) (hr:Room k X.A) (ha:PA X (e :: es) t)
    (hst:starEach (e :: es) X.env=(false,eval e X.env) :: starEach es X.env:=by rfl) (hpl:(backTo pos (starEach es X.env)).any (·.1)=false:=by rfl)
    (ht:eval (.Call (.Attribute o m apos) (e :: es) [] pos) X.env=(do
      let ov <- eval o X.env
      standAt apos.atName
      let (f,first) <- holding [ov] (getMethod ov m pl)
      callWith pos f first (backTo pos (starEach (e :: es) X.env)) (backToKw pos (keywordEach [] X.env))):=by rfl) :
    PE X (.Call (.Attribute o m apos) (e :: es) [] pos) (tMb C m sp ta t):=by
  obtain ⟨f,fd,hm,hb,F⟩:=M.ex
  have h:=pe_meth (pl:=pl) he c hm F hr hb .nil pass0 ha hst hpl ht
  have e:tMeth C m sp [] E0 ta t=tMb C m sp ta t:=by
    funext σ H Q
    unfold tMeth tMb
    simp only [List.append_nil]
  rw [<- e];exact h
theorem pe_mk0 (M:CalK X.prog X.w X.K X.mg X.base C k x ps sp) (hr:Room (k + 1) X.A) (hg:Gl X x) (hdb:(x == ("__debug__":Str))=false:=by decide):PE X (.Call (.Name x p) [] [] pos) (tMk0 C sp):=by
  obtain ⟨f,fd,mk,hm,hb,F⟩:=M.ex
  exact pe_make0 mk F hr hg hm hb .nil pass0 hdb
end
end L2
namespace L2
open PySem PySem.Spec PyProof.Rows
section
variable {X:Cx}
theorem mt_scount:MtR X "str.count" (fun x vs H Q=>∃ (a b:Str),x=.str a/\vs=[.str b]/\Q (.int ((Builtin.Str.occurrences a b 0 a.length (a.length + 1)).length:Nat)) H):=by
  intro pins s σ H x vs v us Q I rx rv h
  obtain ⟨a,b,rfl,rfl,q⟩:=h
  obtain ⟨t,rfl⟩:=rx
  obtain ⟨u,rfl,ru⟩:=rv.one
  obtain ⟨t2,rfl⟩:=ru
  exact call_gives PySem.F.slot_str_count (typeIs_str s _ _) PySem.F.entry_str_count (PySem.F.args_str_count_2 _ _) (gives_str_count a b t t2) ⟨.int _,H,I.tok _,⟨_,rfl⟩,q⟩
end
theorem count_split {x y:Str} (h1:y.length <= x.length) (h2:Builtin.Str.strKind y <= Builtin.Str.strKind x):(Txt.split x y).length=(Builtin.Str.occurrences x y 0 x.length (x.length + 1)).length + 1:=by
  unfold Txt.split
  rw [if_neg (by simp only [Bool.or_eq_true,decide_eq_true_eq];omega)]
  split
  · next h =>
    rw [List.isEmpty_iff] at h
    rw [h];rfl
  · rw [PySem.length_partsBetween]
theorem kind_one (x:Str):1 <= Builtin.Str.strKind x:=by
  unfold Builtin.Str.strKind
  split
  · exact Nat.le_refl _
  · split <;> decide
end L2
namespace G
open PySem PySem.Spec PyProof.Rows L2 Mt Mq
structure CtK (mg:Str->Option Value):Prop where
  letters:∃ t,mg "MOST_LETTERS"=some (.int 8 t)
  figures:∃ t,mg "FIGURES"=some (.str "0123456789" t)
def NameS (x:Str):Prop:=1 <= x.length/\x.length <= 8/\∀ c ∈ x.cps.toList,97 <= c/\c <= 122
section
variable {P:Program} {w:World} {K:PySem.W.Frag} {mg:Str->Option Value} {base:Heap} {f:Addr} {fd:FuncData} {ec:Nat->Addr} {Bs:Addr}
def sp_nmr:Sp:=fun vs H Q _=>∃ x:Str,vs=[.str x]/\NameS x/\∀ H',Same H H'->Q (.str x) H'
abbrev s_nmr:Stmt:=top 58
theorem sc_nmr:FnScope ["word"] ["word"] (defScope s_nmr):=⟨rfl,rfl,rfl,by decide +kernel,rfl,by decide +kernel,by decide +kernel⟩
theorem ok_nmr (F:Fun K "name_read" "name_read" s_nmr f fd) (B:Bt mg) (C:CtK mg):FnOk P w K mg base CX0 1 f fd ["word"] sp_nmr:=by
  refine F.ok sc_nmr (fun vs H Q E h=>?_) (fun cdv A outer s H vs Q E hr h=>?_)
  · obtain ⟨x,rfl,_⟩:=h
    rfl
  obtain ⟨x,rfl,⟨h1,h8,hc⟩,q⟩:=h
  obtain ⟨tl,hL⟩:=C.letters
  refine ⟨_,pss_cons (ps_if (PW.pt (pw_or (pt_not (pt_chain op_le op_le pe_int (pe_callB call_len_str rfl B.len PySem.boot_len (pa_cons (pv 0) pa_nil)) (pe_glob (v:=.int 8) rfl hL ⟨tl,rfl⟩)))
      (pw_or1 (pt_not (pt_val (pe_callB (call_all_seq rfl) rfl B.all boot_all (pa_cons (pe_compG (N:=["letter"]) (ix:=[none]) (ifs:=[]) (tc:=tTrue) rfl (pi_str (pv 0)) (fun s H ex=>pg_c (i:=0) (by decide +kernel) rfl (Or.inl rfl) (.inr rfl)) (fun s H ex=>pifs_nil)
        (fun s H ex=>pe_chain op_le_str op_le_str pe_str (pv 0) pe_str) rfl (by decide +kernel) (by rfl) (by rfl) (fun _=>rfl)) pa_nil))))))) pss_never pss_nil)
    (pss_one (ps_ret (pv 0))),?_⟩
  refine ⟨_,rfl,x,rfl,sz (by omega),_,_,rfl,rfl,_,rfl,?_⟩
  rw [decide_eq_true (show (1:Int) <= (x.length:Int) by omega)]
  refine iteT ⟨_,_,rfl,rfl,_,rfl,?_⟩
  rw [decide_eq_true (show (x.length:Int) <= 8 by omega)]
  refine iteF ⟨_,rfl,x,rfl,?_⟩
  refine blk_str (sz (show x.cps.size <= 1000 from Nat.le_trans h8 (by decide))) (fun i ys H2=>H2=H/\ys=List.replicate i (.bl true)) ⟨rfl,rfl⟩ (fun i ys H2 h=>by rw [h.2,List.length_replicate]) rfl (fun i c ys H2 hi h=>?_) (fun ys H2 h=>?_)
  · obtain ⟨rfl,rfl⟩:=h
    obtain ⟨c1,c2⟩:=hc c (by
      rw [<- Array.getElem?_toList] at hi
      exact List.mem_of_getElem? hi)
    refine ⟨_,rfl,"a",oneS c,rfl,rfl,_,rfl,?_⟩
    have e1:decide ((oneS c).cps.toList < ("a":Str).cps.toList)=false:=by
      have ea:("a":Str).cps.toList=[97]:=by decide +kernel
      rw [ea]
      refine decide_eq_false fun z=>?_
      have z':[c] < [97]:=z
      rcases List.cons_lt_cons_iff.mp z' with y | ⟨_,y⟩
      · omega
      · cases y
    rw [e1]
    refine iteT ⟨oneS c,"z",rfl,rfl,?_⟩
    have e2:decide (("z":Str).cps.toList < (oneS c).cps.toList)=false:=by
      have ea:("z":Str).cps.toList=[122]:=by decide +kernel
      rw [ea]
      refine decide_eq_false fun z=>?_
      have z':[122] < [c]:=z
      rcases List.cons_lt_cons_iff.mp z' with y | ⟨_,y⟩
      · omega
      · cases y
    rw [e2]
    exact ⟨rfl,by rw [List.replicate_succ'];rfl⟩
  · obtain ⟨rfl,rfl⟩:=h
    intro p hp
    refine ⟨p,_,rfl,.inl (.of upd_same),?_,_,rfl,?_⟩
    · rw [List.all_replicate];simp [okTru]
    · rw [show ((List.replicate x.cps.size (V.bl true)).all truV)=true by rw [List.all_replicate];simp [truV]]
      exact iteF ⟨_,rfl,q _ (Same.new hp)⟩
def sp_fgr:Sp:=fun vs H Q _=>∃ k:Nat,vs=[.str (tx (k:Int))]/\k <= 9/\Q (.int k) H
abbrev s_fgr:Stmt:=top 59
theorem sc_fgr:FnScope ["word"] ["word"] (defScope s_fgr):=⟨rfl,rfl,rfl,by decide +kernel,rfl,by decide +kernel,by decide +kernel⟩
theorem figF:∀ k:Fin 10,(tx (k.1:Int)).length=1/\Builtin.Str.occurrences "0123456789" (tx (k.1:Int)) 0 ("0123456789":Str).length 1=[k.1]:=by decide +kernel
theorem ok_fgr (F:Fun K "figure_read" "figure_read" s_fgr f fd) (B:Bt mg) (C:CtK mg):FnOk P w K mg base CX0 1 f fd ["word"] sp_fgr:=by
  refine F.ok sc_fgr (fun vs H Q E h=>?_) (fun cdv A outer s H vs Q E hr h=>?_)
  · obtain ⟨k,rfl,_⟩:=h
    rfl
  obtain ⟨k,rfl,hk,q⟩:=h
  obtain ⟨tf,hF⟩:=C.figures
  have hf:=figF ⟨k,by omega⟩
  dsimp only at hf
  obtain ⟨f1,f2⟩:=hf
  refine ⟨_,pss_cons (ps_if (PW.pt (pw_or (pt_cmpR op_ne (pe_callB call_len_str rfl B.len PySem.boot_len (pa_cons (pv 0) pa_nil)) pe_int (nomark _)) (pw_or1 (pt_cmpR op_nin_str (pv 0) (pe_glob (v:=.str "0123456789") rfl hF ⟨tf,rfl⟩) (by rfl))))) pss_never pss_nil)
    (pss_one (ps_ret (pe_bm PySem.F.plainAttrs_str PySem.F.slot_str_index PySem.F.type_str_index mt_sindex (pe_glob (v:=.str "0123456789") rfl hF ⟨tf,rfl⟩) (pa_cons (pv 0) pa_nil)))),?_⟩
  refine ⟨_,rfl,_,rfl,sz (by omega),rfl,_,rfl,?_⟩
  rw [f1]
  refine iteF ⟨_,rfl,tx (k:Int),"0123456789",rfl,rfl,_,rfl,?_⟩
  rw [f2]
  refine iteF ?_
  exact ⟨rfl,_,rfl,_,_,k,[],rfl,rfl,f2,q⟩
def sp_aftV:Sp:=fun vs H Q _=>∃ (st a:Addr) (v:V) (n k:Nat) (ns:List Int) (rs:List (List Int)),vs=[.ref a,v,.int k]/\Dt st H (DI ns) (.ref a)/\Mt.Urn n 20 ns/\Dt st H (DR rs) v/\Mt.Rul n 5 rs/\1 <= n/\n <= 4/\k < n /\
  ns.getD k 0 ≠ 0/\∀ p H',Same H H'->H' p=some (.tup ((addL ns (rs.getD k [])).map V.int))->Q (.ref p) H'
abbrev s_after:Stmt:=top 33
theorem sc_after:FnScope ["urn","rule","kind"] ["urn","rule","kind"] (defScope s_after):=⟨rfl,rfl,rfl,by decide +kernel,rfl,by decide +kernel,by decide +kernel⟩
theorem ok_aftV (F:Fun K "after" "after" s_after f fd) (c1:CalX P w K mg base 6 "need_urn_and_rule" ["urn","rule"] (sp_nur ec)) (c2:CalX P w K mg base 2 "need_kind" ["urn","thing"] (sp_need_kind ec)) (c3:Cal P w K mg base 1 "put_in" ["urn","rule","kind"] sp_put_in):FnOk P w K mg base CX0 7 f fd ["urn","rule","kind"] sp_aftV:=by
  refine F.ok sc_after (fun vs H Q E h=>?_) (fun cdv A outer s H vs Q E hr h=>?_)
  · obtain ⟨st,a,v,n,k,ns,rs,rfl,_⟩:=h
    rfl
  refine ⟨_,(@pss_cons _ _ _ _ _ (ps_expr (pe_calx c1 hr rfl pass10 (@pa_cons _ _ _ _ _ (pv 0) (@pa_cons _ _ _ _ _ (pv 1) pa_nil (by rfl)) (by rfl))))
    (@pss_cons _ _ _ _ _ (ps_expr (pe_calx (c2.up (by decide)) hr rfl pass10 (@pa_cons _ _ _ _ _ (pv 0) (@pa_cons _ _ _ _ _ (pv 2) pa_nil (by rfl)) (by rfl))))
    (@pss_cons _ _ _ _ _ (ps_if (@pt_cmpR _ _ _ _ _ _ _ _ op_eq (@pe_ix _ _ _ _ _ _ _ ix_tup (pv 0) (pv 2) (fun _ _=>rfl)) pe_int (nomark _)) pss_never pss_nil)
    (@pss_one _ _ _ (ps_ret (pe_cal (c3.up (by decide)) hr rfl (@pa_cons _ _ _ _ _ (pv 0) (@pa_cons _ _ _ _ _ (pv 1) (@pa_cons _ _ _ _ _ (pv 2) pa_nil (by rfl)) (by rfl)) (by rfl)))))))),?_⟩
  obtain ⟨st,a,v,n,k,ns,rs,rfl,hu,hU,hv,hR,n1,n4,hk,hne,q⟩:=h
  obtain ⟨a',e,_,ha⟩:=hu.di
  cases e
  have uok:=urnD_of hU n1 n4
  have rok:ruleD (lenD (DI ns):Int) (DR rs)=true:=by rw [lenD_DI,hU.len];exact ruleD_of hR
  refine ⟨_,rfl,_,rfl,_,_,st,DI ns,DR rs,rfl,hu,short_DI (by rw [hU.len];omega),hv,⟨short_DR (by rw [hR.len];omega),shorts_DR hR (by omega)⟩,(fun z=>by rw [uok] at z;cases z),(fun _ z=>by rw [rok] at z;cases z),fun _ _ H1 g1=>?_⟩
  refine ⟨_,rfl,_,rfl,a,st,_,_,.int k,rfl,g1 _ _ ha,Dt.int _ _ _,(fun _=>?_),(fun z=>by rw [List.length_map,hU.len,kindD_of hk] at z;cases z)⟩
  refine ⟨_,rfl,_,rfl,a,_,_,_,rfl,rfl,.of (g1 _ _ ha),atI_int (by rw [hU.len];exact hk),rfl,_,rfl,?_⟩
  rw [decide_eq_false (show ¬ V.int (ns.getD k 0)=V.int 0 from fun z=>hne (by injection z))]
  exact iteF ⟨_,rfl,_,rfl,_,rfl,a,st,v,n,5,ns,rs,k,rfl,g1 _ _ ha,hU.len,hv.kp (g1.kp st),hR,n4,hk,fun p H2 g2 hp=>q p H2 (g1.trans g2) hp⟩
def sp_arr:Sp:=fun vs H Q _=>∃ (rs:List (List Int)) (n:Nat) (l:Addr) (o:HO),vs=[.str (rT rs)]/\Mt.Rul n 5 rs/\1 <= n/\n <= 4/\H l=some o/\∀ p H',Same H H'->Dt l H' (DR rs) (.ref p)->Q (.ref p) H'
abbrev s_arr:Stmt:=top 60
theorem sc_arr:FnScope ["word","rows"] ["word"] (defScope s_arr):=⟨rfl,rfl,rfl,by decide +kernel,rfl,by decide +kernel,by decide +kernel⟩
theorem rows_of {rs:List (List Int)} {n:Nat} (hR:Mt.Rul n 5 rs) (n1:1 <= n):(Builtin.Str.occurrences (rT rs) "/" 0 (rT rs).length ((rT rs).length + 1)).length + 1=n:=by
  have hl:=hR.len
  have hne:rs ≠ []:=fun e=>by rw [e] at hl;simp at hl;omega
  have hb:∀ r ∈ rs,∀ x ∈ r,0 <= x/\x <= 20:=fun r hr x hx=>by have:=(hR.row r hr).nn x hx;omega
  have hs:=split_rT hne hb
  have hx:1 <= (rT rs).length:=by
    refine Nat.pos_of_ne_zero fun z=>?_
    have e:rT rs=Str.empty:=str_ext (by
      have:(rT rs).cps.toList.length=0:=by rw [Array.length_toList];exact z
      rw [List.length_eq_zero_iff.mp this];rfl)
    rw [e] at hs
    have e2:Txt.split Str.empty "/"=[Str.empty]:=by decide +kernel
    rw [e2] at hs
    match rs,hne,hs,hl,hR with
    | r :: rs',_,hs,hl,hR =>
      rw [List.map_cons] at hs
      have h1:nT r=Str.empty:=(List.cons.inj hs).1.symm
      have hr:=hR.row r List.mem_cons_self
      have h2:=split_nT (ns:=r) (fun z=>by have:=hr.len;rw [z] at this;simp at this;omega) (fun x hx=>by have:=hr.nn x hx;omega)
      rw [h1] at h2
      have e3:Txt.split Str.empty ","=[Str.empty]:=by decide +kernel
      rw [e3] at h2
      match r,h2,hr with
      | x :: r',h2,hr =>
        rw [List.map_cons] at h2
        have h3:tx x=Str.empty:=(List.cons.inj h2).1.symm
        have hx:=hr.nn x List.mem_cons_self
        obtain ⟨i,rfl⟩:=Int.eq_ofNat_of_zero_le hx.1
        have hF:∀ j:Fin 6,tx (j.1:Int) ≠ Str.empty:=by decide +kernel
        exact hF ⟨i,by omega⟩ h3
  have hc:=count_split (x:=rT rs) (y:="/") (by rw [len_slash];exact hx) (Nat.le_trans (show Builtin.Str.strKind "/" <= 1 by decide +kernel) (kind_one _))
  rw [hs,List.length_map] at hc
  omega
theorem ok_arr (F:Fun K "any_rule_read" "any_rule_read" s_arr f fd) (C:Ct mg) (c1:Cal P w K mg base 6 "rule_read" ["kinds","text"] sp_rr):FnOk P w K mg base CX0 7 f fd ["word"] sp_arr:=by
  refine F.ok sc_arr (fun vs H Q E h=>?_) (fun cdv A outer s H vs Q E hr h=>?_)
  · obtain ⟨rs,n,l,o,rfl,_⟩:=h
    rfl
  obtain ⟨tkd,hkd⟩:=C.kinds
  refine ⟨_,(@pss_cons _ _ _ _ _ (@ps_set _ _ 1 _ _ _ _ sc_arr.nd rfl (Or.inl rfl) (@pe_op _ _ _ _ _ _ _ _ op_add (pe_bm PySem.F.plainAttrs_str PySem.F.slot_str_count PySem.F.type_str_count mt_scount (pv 0) (@pa_cons _ _ _ _ _ pe_str pa_nil (by rfl))) pe_int) (by rfl) (by first | exact .inl rfl | exact .inr rfl))
    (@pss_cons _ _ _ _ _ (ps_if (@pt_cmpR _ _ _ _ _ _ _ _ op_gt (pv 1) (pe_glob (v:=.int 4) rfl hkd ⟨tkd,rfl⟩) (nomark _)) pss_never pss_nil)
    (@pss_one _ _ _ (ps_ret (pe_cal c1 hr rfl (@pa_cons _ _ _ _ _ (pv 1) (@pa_cons _ _ _ _ _ (pv 0) pa_nil (by rfl)) (by rfl))))))),?_⟩
  obtain ⟨rs,n,l,o,rfl,hR,n1,n4,hl,q⟩:=h
  refine ⟨_,rfl,rfl,_,_,rfl,rfl,_,_,rfl,rfl,?_⟩
  have hn:=rows_of hR n1
  have e:((Builtin.Str.occurrences (rT rs) "/" 0 (rT rs).length ((rT rs).length + 1)).length:Int) + 1=(n:Int):=by omega
  try dsimp only
  rw [e]
  refine ⟨_,rfl,_,_,rfl,rfl,_,rfl,?_⟩
  rw [decide_eq_false (show ¬ (n:Int) > 4 by omega)]
  exact iteF ⟨_,rfl,_,rfl,rs,n,l,o,rfl,hR,n1,n4,hl,q⟩
inductive WordV (z:Addr) (H:Hp):Str->Str->V->Prop
  | name {x:Str}:NameS x->WordV z H "name" x (.str x)
  | urn {ns:List Int} {n:Nat} {a:Addr}:Mt.Urn n 20 ns->1 <= n->n <= 4->H a=some (.tup (ns.map V.int))->WordV z H "urn" (nT ns) (.ref a)
  | rule {rs:List (List Int)} {n:Nat} {a:Addr}:Mt.Rul n 5 rs->1 <= n->n <= 4->Dt z H (DR rs) (.ref a)->WordV z H "rule" (rT rs) (.ref a)
  | fig {k:Nat}:k <= 9->WordV z H "figure" (tx (k:Int)) (.int k)
theorem WordV.same {z:Addr} {H H':Hp} {fo x:Str} {v:V} (h:WordV z H fo x v) (g:Same H H'):WordV z H' fo x v:=by
  cases h with
  | name h=>exact .name h
  | urn h1 h2 h3 h4=>exact .urn h1 h2 h3 (g _ _ h4)
  | rule h1 h2 h3 h4=>exact .rule h1 h2 h3 (h4.kp (g.kp z))
  | fig h=>exact .fig h
def WordF (fo x:Str):Prop:=(fo="name"/\NameS x) ∨ (fo="urn"/\∃ ns n,x=nT ns/\Mt.Urn n 20 ns/\1 <= n/\n <= 4) ∨ (fo="figure"/\∃ k:Nat,x=tx (k:Int)/\k <= 9) ∨ (fo="rule"/\∃ rs n,x=rT rs/\Mt.Rul n 5 rs/\1 <= n/\n <= 4)
def sp_wr:Sp:=fun vs H Q _=>∃ (fo x:Str) (z:Addr) (oz:HO),vs=[.str fo,.str x]/\H z=some oz/\WordF fo x/\∀ v H',Same H H'->WordV z H' fo x v->Q v H'
abbrev s_wr:Stmt:=top 61
theorem sc_wr:FnScope ["form","word"] ["form","word"] (defScope s_wr):=⟨rfl,rfl,rfl,by decide +kernel,rfl,by decide +kernel,by decide +kernel⟩
theorem ne_nu:("urn":Str) ≠ "name":=by decide +kernel
theorem ne_fn:("figure":Str) ≠ "name":=by decide +kernel
theorem ne_fu:("figure":Str) ≠ "urn":=by decide +kernel
theorem ne_fr:("figure":Str) ≠ "rule":=by decide +kernel
theorem ne_rn:("rule":Str) ≠ "name":=by decide +kernel
theorem ne_ru:("rule":Str) ≠ "urn":=by decide +kernel
theorem ok_wr (F:Fun K "word_read" "word_read" s_wr f fd) (c1:Cal P w K mg base 1 "name_read" ["word"] sp_nmr) (c2:Cal P w K mg base 6 "urn_read" ["text"] sp_ur) (c3:Cal P w K mg base 1 "figure_read" ["word"] sp_fgr) (c4:Cal P w K mg base 7 "any_rule_read" ["word"] sp_arr):FnOk P w K mg base CX0 8 f fd ["form","word"] sp_wr:=by
  refine F.ok sc_wr (fun vs H Q E h=>?_) (fun cdv A outer s H vs Q E hr h=>?_)
  · obtain ⟨fo,x,z,oz,rfl,_⟩:=h
    rfl
  obtain ⟨fo,x,z,oz,rfl,hz,hw,q⟩:=h
  refine ⟨_,pss_cons (ps_if (pt_cmpR op_eq (pv 0) pe_str (nomark _)) (pss_one (ps_ret (pe_cal (c1.up (by decide)) hr rfl (pa_cons (pv 1) pa_nil)))) pss_nil)
    (pss_cons (ps_if (pt_cmpR op_eq (pv 0) pe_str (nomark _)) (pss_one (ps_ret (pe_cal (c2.up (by decide)) hr rfl (pa_cons (pv 1) pa_nil)))) pss_nil)
    (pss_cons (ps_if (pt_cmpR op_eq (pv 0) pe_str (nomark _)) (pss_one (ps_ret (pe_cal c4 hr rfl (pa_cons (pv 1) pa_nil)))) pss_nil)
    (pss_one (ps_ret (pe_cal (c3.up (by decide)) hr rfl (pa_cons (pv 1) pa_nil)))))),?_⟩
  have ne:∀ {a b:Str},a ≠ b->decide (V.str a=V.str b)=false:=fun h=>decide_eq_false fun z=>h (by injection z)
  rcases hw with ⟨rfl,hn⟩ | ⟨rfl,ns,n,rfl,hU,n1,n4⟩ | ⟨rfl,k,rfl,hk⟩ | ⟨rfl,rs,n,rfl,hR,n1,n4⟩
  · refine ⟨_,rfl,rfl,_,rfl,?_⟩
    rw [decide_eq_true rfl]
    exact iteT ⟨_,rfl,x,rfl,hn,fun H' g=>q _ H' g (.name hn)⟩
  · refine ⟨_,rfl,rfl,_,rfl,?_⟩
    rw [ne ne_nu]
    refine iteF ⟨_,rfl,rfl,_,rfl,?_⟩
    rw [decide_eq_true rfl]
    exact iteT ⟨_,rfl,ns,n,rfl,hU,n1,n4,fun p H' g _ hp=>q _ H' g (.urn hU n1 n4 hp)⟩
  · refine ⟨_,rfl,rfl,_,rfl,?_⟩
    rw [ne ne_fn]
    refine iteF ⟨_,rfl,rfl,_,rfl,?_⟩
    rw [ne ne_fu]
    refine iteF ⟨_,rfl,rfl,_,rfl,?_⟩
    rw [ne ne_fr]
    exact iteF ⟨_,rfl,k,rfl,hk,q _ H (Same.refl H) (.fig hk)⟩
  · refine ⟨_,rfl,rfl,_,rfl,?_⟩
    rw [ne ne_rn]
    refine iteF ⟨_,rfl,rfl,_,rfl,?_⟩
    rw [ne ne_ru]
    refine iteF ⟨_,rfl,rfl,_,rfl,?_⟩
    rw [decide_eq_true rfl]
    exact iteT ⟨_,rfl,rs,n,z,oz,rfl,hR,n1,n4,hz,fun p H' g hp=>q _ H' g (.rule hR n1 n4 hp)⟩
end
end G
namespace G
open PySem PySem.Spec PyProof.Rows L2 Mt Mq
structure LinesK (K:PySem.W.Frag) (w:World) (mg:Str->Option Value) (dl:Addr) (f:Str->Option Value):Prop where
  m:mg "LINES"=some (.ref dl)
  top:TopD K w dl f
def Forms (K:PySem.W.Frag) (f:Str->Option Value) (a:Str) (fos:List Str):Prop:=∃ t:Addr,f a=some (.ref t)/\∀ H,SqT K H t (fos.map V.str)
def lineT (ws:List Str):Str:=Txt.join " " ws
theorem blank:(" ":Str)=⟨#[32]⟩:=by decide +kernel
theorem split_line {ws:List Str} (hn:ws ≠ []) (h:∀ w ∈ ws,32 ∉ w.cps.toList):Txt.split (lineT ws) " "=ws:=by
  unfold lineT
  rw [txt_join,blank]
  exact split_join hn h
section
variable {P:Program} {w:World} {K:PySem.W.Frag} {mg:Str->Option Value} {base:Heap} {f:Addr} {fd:FuncData} {ec:Nat->Addr} {Bs dl:Addr} {fL:Str->Option Value}
def sp_lr (K:PySem.W.Frag) (fL:Str->Option Value):Sp:=fun vs H Q _=>∃ (a:Str) (ws fos:List Str) (z:Addr) (oz:HO),vs=[.str (lineT (a :: ws))]/\H z=some oz/\(∀ x ∈ a :: ws,32 ∉ x.cps.toList)/\(lineT (a :: ws)).length <= 900/\Forms K fL a fos/\fos.length=ws.length/\ws.length <= 4/\(∀ (i:Nat) fo x,fos[i]?=some fo->ws[i]?=some x->WordF fo x) /\
  ∀ p l ys H',Same H H'->H' p=some (.tup [.str a,.ref l])->H' l=some (.lst ys)->ys.length=ws.length->(∀ (i:Nat) fo x y,fos[i]?=some fo->ws[i]?=some x->ys[i]?=some y->WordV z H' fo x y)->Q (.ref p) H'
abbrev s_lr:Stmt:=top 62
theorem sc_lr:FnScope ["line","first","others"] ["line"] (defScope s_lr):=⟨rfl,rfl,rfl,by decide +kernel,rfl,by decide +kernel,by decide +kernel⟩
theorem ok_lr (F:Fun K "line_read" "line_read" s_lr f fd) (B:Bt mg) (L:LinesK K w mg dl fL) (c1:Cal P w K mg base 1 "need_text" ["thing"] sp_ntx) (c2:Cal P w K mg base 8 "word_read" ["form","word"] sp_wr):FnOk P w K mg base CX0 9 f fd ["line"] (sp_lr K fL):=by
  refine F.ok sc_lr (fun vs H Q E h=>?_) (fun cdv A outer s H vs Q E hr h=>?_)
  · obtain ⟨a,ws,fos,z,oz,rfl,_⟩:=h
    rfl
  obtain ⟨a,ws,fos,z,oz,rfl,hz,hb,hl9,⟨t,hft,ht⟩,hfl,hw4,hW,q⟩:=h
  refine ⟨_,pss_cons (ps_expr (pe_cal (c1.up (by decide)) hr rfl (pa_cons (pv 0) pa_nil)))
    (pss_cons (ps_asg (pe_bm PySem.F.plainAttrs_str PySem.F.slot_str_split PySem.F.type_str_split mt_split (pv 0) (pa_cons pe_str pa_nil)) (pg_star rfl (pg_name (i:=1) sc_lr.nd rfl (Or.inl rfl)) (pg_name (i:=2) sc_lr.nd rfl (Or.inl rfl))))
    (pss_cons (ps_if (PW.pt (pw_or (pt_cmpR (op_topnin L.top) (pv 1) (pe_glob (v:=.ref dl) rfl L.m rfl) (by rfl)) (pw_or1 (pt_cmpR op_ne (pe_callB call_len_seq rfl B.len PySem.boot_len (pa_cons (pv 2) pa_nil)) (pe_callB call_len_seq rfl B.len PySem.boot_len (pa_cons (pe_topget L.top (pe_glob (v:=.ref dl) rfl L.m rfl) (pv 1) (fun _ _=>rfl)) pa_nil)) (nomark _))))) pss_never pss_nil)
    (pss_one (ps_ret (pe_tup (pa_cons (pv 1) (pa_cons (pe_compG (N:=["form","word"]) (ix:=[none,none]) (ifs:=[]) (tc:=tTrue) rfl (pi_zipTL rfl B.zip (pa_cons (pe_topget L.top (pe_glob (v:=.ref dl) rfl L.m rfl) (pv 1) (fun _ _=>rfl)) (pa_cons (pv 2) pa_nil)))
      (fun s H ex=>pgtK (K:=K) (n:=2) rfl rfl (pgs_cons (pg_c (i:=0) (by decide +kernel) rfl (Or.inl rfl) (.inr rfl)) (pgs_cons (pg_c (i:=1) (by decide +kernel) rfl (Or.inl rfl) (.inr rfl)) pgs_nil))) (fun s H ex=>pifs_nil)
      (fun s H ex=>pe_cal c2 hr rfl (pa_cons (pv 0) (pa_cons (pv 1) pa_nil))) rfl (by decide +kernel) (by rfl) (by rfl) (fun _=>rfl)) pa_nil))))))),?_⟩
  refine ⟨_,rfl,_,rfl,?_⟩
  refine ⟨_,rfl,rfl,_,_,rfl,rfl,by decide +kernel,hl9,fun ps hps=>?_⟩
  rw [split_line (by simp) hb]
  have g1:Same H (upd H ps (.lst ((a :: ws).map V.str))):=Same.new hps
  have h1:upd H ps (.lst ((a :: ws).map V.str)) ps=some (.lst (.str a :: ws.map V.str)):=upd_same
  generalize upd H ps (.lst ((a :: ws).map V.str))=H1 at g1 h1
  refine ⟨ps,.str a,ws.map V.str,rfl,.of h1,fun pl hpl=>?_⟩
  have g2:Same H1 (upd H1 pl (.lst (ws.map V.str))):=Same.new hpl
  have h2:upd H1 pl (.lst (ws.map V.str)) pl=some (.lst (ws.map V.str)):=upd_same
  try dsimp -proj only [gName]
  generalize upd H1 pl (.lst (ws.map V.str))=H2 at g2 h2
  refine ⟨_,rfl,a,rfl,rfl,_,rfl,?_⟩
  rw [hft]
  refine iteF ⟨_,rfl,pl,_,rfl,.inl (.of h2),_,rfl,a,.ref t,_,rfl,rfl,hft,rfl,t,_,rfl,.inr (ht H2),rfl,_,rfl,?_⟩
  rw [decide_eq_true (by rw [List.length_map,List.length_map,hfl])]
  refine iteF ?_
  refine ⟨_,rfl,_,rfl,a,.ref t,_,rfl,rfl,hft,rfl,_,rfl,t,pl,_,_,rfl,ht H2,.of h2,?_⟩
  refine blk_zipTL (sz (by rw [List.length_map];omega)) (by rw [List.length_map,List.length_map,hfl]) (fun i ys H3=>Same H2 H3/\ys.length=i/\∀ (j:Nat) fo x y,fos[j]?=some fo->ws[j]?=some x->ys[j]?=some y->WordV z H3 fo x y) ⟨Same.refl _,rfl,fun j fo x y _ _ hy=>by simp at hy⟩ (fun i ys H3 h=>h.2.1) (fun i ys H3 _ h=>⟨ht H3,.of (h.1 _ _ h2)⟩) ⟨rfl,rfl⟩ (fun i ys H3 vx vy p hx hy hp h=>?_) (fun ys H3 h=>?_)
  · obtain ⟨h4,h5,h6⟩:=h
    rw [List.getElem?_map] at hx hy
    obtain ⟨fo,hfo,rfl⟩:=Option.map_eq_some_iff.mp hx
    obtain ⟨x,hxx,rfl⟩:=Option.map_eq_some_iff.mp hy
    refine ⟨_,rfl,_,rfl,fo,x,z,oz,rfl,Same.new hp _ _ (h4 _ _ (g2 _ _ (g1 _ _ hz))),hW i fo x hfo hxx,fun v H4 g hv=>⟨h4.trans ((Same.new hp).trans g),by rw [List.length_append,h5];rfl,fun j fo' x' y' e1 e2 e3=>?_⟩⟩
    rcases Nat.lt_or_ge j i with hj | hj
    · rw [List.getElem?_append_left (by omega)] at e3
      exact (h6 j fo' x' y' e1 e2 e3).same ((Same.new hp).trans g)
    · have hji:j=i:=by
        have:j < (ys ++ [v]).length:=(List.getElem?_eq_some_iff.mp e3).1
        rw [List.length_append,h5] at this
        simp at this
        omega
      subst hji
      rw [List.getElem?_append_right (by omega),h5,Nat.sub_self] at e3
      rw [hfo] at e1;rw [hxx] at e2
      cases e1;cases e2;cases e3
      exact hv
  · obtain ⟨h4,h5,h6⟩:=h
    intro p hp
    refine ⟨sz (Nat.le_of_ble_eq_true rfl),fun r hr'=>q r p ys _ (((g1.trans g2).trans h4).trans ((Same.new hp).trans (Same.new hr'))) upd_same (Same.new hr' _ _ upd_same) (by rw [h5,List.length_map,hfl]) (fun j fo x y e1 e2 e3=>(h6 j fo x y e1 e2 e3).same ((Same.new hp).trans (Same.new hr')))⟩
end
end G
namespace G
open PySem PySem.Spec PyProof.Rows L2 Mt Mq
def mth (j:Nat):Stmt:=match top 64 with
  | .ClassDef _ _ _ b _ _ _ _ _ _ _=>b.getD j (.Pass ⟨0,0,0,0⟩)
  | s=>s
theorem cut_lt {t b N:Int} (ht:0 <= t) (hb:0 < b) (h1:t < N) (h2:b < N):0 <= (cut t b).num/\(cut t b).num < N/\(0:Int) <= (cut t b).den/\((cut t b).den:Int) < N:=by
  refine ⟨cut_nn ht hb,?_,Int.natCast_nonneg _,?_⟩
  · rw [cut_num hb]
    exact Int.lt_of_le_of_lt (Int.ediv_le_self _ ht) h1
  · rw [cut_den hb]
    exact Int.lt_of_le_of_lt (Int.ediv_le_self _ (Int.le_of_lt hb)) h2
def fS (q:Rat):Str:=fT q.num (q.den:Int)
theorem noblank_nT {ns:List Int} (h:∀ x ∈ ns,0 <= x/\x <= 20):32 ∉ (nT ns).cps.toList:=fun z=>by
  unfold nT at z
  rw [txt_join,comma,join_jl] at z
  rcases mem_jl z with e | ⟨p,hp,hd⟩
  · exact absurd e (by decide)
  · obtain ⟨y,hy,rfl⟩:=List.mem_map.mp hp
    obtain ⟨i,hi,rfl⟩:=List.mem_map.mp hy
    obtain ⟨i0,i20⟩:=h i hi
    obtain ⟨k,rfl⟩:=Int.eq_ofNat_of_zero_le i0
    have hF:∀ j:Fin 21,(tx (j.1:Int)).cps.toList.contains 32=false:=by decide +kernel
    have:=hF ⟨k,by omega⟩
    rw [List.contains_eq_mem] at this
    exact absurd hd (by simpa using this)
theorem noblank_name {x:Str} (h:NameS x):32 ∉ x.cps.toList:=fun z=>by
  have:=(h.2.2 32 z).1
  omega
theorem fig_ok:∀ j:Fin 10,(tx (j.1:Int)).cps.toList.contains 32=false:=by decide +kernel
theorem noblank_tx {k:Nat} (h:k <= 9):32 ∉ (tx (k:Int)).cps.toList:=by
  have:=fig_ok ⟨k,by omega⟩
  rw [List.contains_eq_mem] at this
  simpa using this
structure DeskK (K:PySem.W.Frag) (C:Addr):Prop where
  cls:Cls K C
  na:NoAttr K C "urns_by_name"
def DeskO (C:Addr) (H:Hp) (d m:Addr) (kvs:List (Key × V)):Prop:=∃ dx,H d=some (.ins C dx [("urns_by_name",.ref m)])/\H m=some (.dK kvs)
theorem noblank_rT {rs:List (List Int)} (h:∀ r ∈ rs,∀ x ∈ r,0 <= x/\x <= 20):32 ∉ (rT rs).cps.toList:=fun z=>by
  unfold rT at z
  rw [txt_join,slash,join_jl] at z
  rcases mem_jl z with e | ⟨p,hp,hd⟩
  · exact absurd e (by decide)
  · obtain ⟨y,hy,rfl⟩:=List.mem_map.mp hp
    obtain ⟨r,hr,rfl⟩:=List.mem_map.mp hy
    exact noblank_nT (h r hr) hd
theorem rul20 {n:Nat} {rs:List (List Int)} (hR:Mt.Rul n 5 rs):∀ r ∈ rs,∀ x ∈ r,0 <= x/\x <= 20:=fun r hr x hx=>by have:=(hR.row r hr).nn x hx;omega
theorem len_fS {q:Rat} (h0:0 <= q.num) (h1:q.num < 10 ^ 62) (h2:(q.den:Int) < 10 ^ 62):(fS q).length <= 125:=by
  have a:=tx_len h0 h1
  have b:=tx_len (Int.natCast_nonneg q.den) h2
  unfold fS fT
  split
  · omega
  · show ((tx q.num).cps ++ (("/":Str).cps ++ (tx (q.den:Int)).cps)).size <= 125
    rw [Array.size_append,Array.size_append]
    have c:("/":Str).cps.size=1:=len_slash
    have a':(tx q.num).cps.size <= 62:=a
    have b':(tx (q.den:Int)).cps.size <= 62:=b
    omega
def Wr (q:Rat):Prop:=0 <= q.num/\q.num < 10 ^ 62/\(q.den:Int) < 10 ^ 62
def msT (qs:List Rat):Str:=Txt.join " " (qs.map fS)
inductive AnsV (st:Addr) (H:Hp) (n:Nat) (ns:List Int):Str->List V->Str->Prop
  | shown:AnsV st H n ns "show" [] (nT ns)
  | chance {k:Nat}:k < n->AnsV st H n ns "chance" [.int k] (fS (Mt.share ns k))
  | stands {rs:List (List Int)} {v:V} {k:Nat}:Mt.Rul n 5 rs->Dt st H (DR rs) v->k <= 6->(chQ rs k [(ns,1)]).length < 64->AnsV st H n ns "stands" [v,.int k] (tx ((chQ rs k [(ns,1)]).length:Int))
  | means {rs:List (List Int)} {v:V} {k:Nat}:Mt.Rul n 5 rs->Dt st H (DR rs) v->k <= 6->(chQ rs k [(ns,1)]).length < 64->(∀ q ∈ mnQ rs ns k n,Wr q)->AnsV st H n ns "mean" [v,.int k] (msT (mnQ rs ns k n))
  | fair {rs:List (List Int)} {v:V}:Mt.Rul n 5 rs->Dt st H (DR rs) v->AnsV st H n ns "fair" [v] (if mshQ rs ns 1 n=mshQ rs ns 0 n then "yes" else "no")
section
variable {P:Program} {w:World} {K:PySem.W.Frag} {mg:Str->Option Value} {base:Heap} {f:Addr} {fd:FuncData} {ec:Nat->Addr} {Bs dl C:Addr} {fL:Str->Option Value}
def sp_ans:Sp:=fun vs H Q _=>∃ (st u pl:Addr) (n:Nat) (ns:List Int) (a:Str) (ys:List V) (t:Str),vs=[.str a,.ref u,.ref pl]/\H pl=some (.lst ys)/\Dt st H (DI ns) (.ref u)/\Mt.Urn n 20 ns/\1 <= n/\n <= 4/\AnsV st H n ns a ys t/\∀ H',Same H H'->Q (.str t) H'
abbrev s_ans:Stmt:=top 63
theorem sc_ans:FnScope ["asked","urn","others"] ["asked","urn","others"] (defScope s_ans):=⟨rfl,rfl,rfl,by decide +kernel,rfl,by decide +kernel,by decide +kernel⟩
theorem neS {a b:Str} (h:a ≠ b):decide (V.str a=V.str b)=false:=decide_eq_false fun z=>h (by injection z)
theorem ne_cs:("chance":Str) ≠ "show":=by decide +kernel
theorem ne_ss:("stands":Str) ≠ "show":=by decide +kernel
theorem ne_sc:("stands":Str) ≠ "chance":=by decide +kernel
theorem ne_ms:("mean":Str) ≠ "show":=by decide +kernel
theorem ne_mc:("mean":Str) ≠ "chance":=by decide +kernel
theorem ne_mt:("mean":Str) ≠ "stands":=by decide +kernel
theorem ne_as:("fair":Str) ≠ "show":=by decide +kernel
theorem ne_ac:("fair":Str) ≠ "chance":=by decide +kernel
theorem ne_at:("fair":Str) ≠ "stands":=by decide +kernel
theorem ne_am:("fair":Str) ≠ "mean":=by decide +kernel
theorem ok_ans (F:Fun K "answer" "answer" s_ans f fd) (B:Bt mg) (B2:Bt2 mg) (c1:Cal P w K mg base 6 "urn_text" ["urn"] sp_ut) (c2:Cal P w K mg base 1 "fraction_text" ["fraction"] sp_ftB) (c3:CalX P w K mg base 6 "chance" ["urn","kind"] (sp_chance ec))
    (c4:CalX P w K mg base 7 "stands" ["urn","rule","draws"] (sp_st ec)) (c5:CalX P w K mg base 8 "mean" ["urn","rule","draws"] (sp_mn ec)) (c6:CalX P w K mg base 9 "is_fair" ["urn","rule"] (sp_fair ec)):FnOk P w K mg base CX0 10 f fd ["asked","urn","others"] sp_ans:=by
  refine F.ok sc_ans (fun vs H Q E h=>?_) (fun cdv A outer s H vs Q E hr h=>?_)
  · obtain ⟨st,u,pl,n,ns,a,ys,t,rfl,_⟩:=h
    rfl
  refine ⟨_,(@pss_cons _ _ _ _ _ (ps_if (@pt_cmpR _ _ _ _ _ _ _ _ op_eq (pv 0) pe_str (nomark _)) (@pss_one _ _ _ (ps_ret (pe_cal (c1.up (by decide)) hr rfl (@pa_cons _ _ _ _ _ (pv 1) pa_nil (by rfl))))) pss_nil)
    (@pss_cons _ _ _ _ _ (ps_if (@pt_cmpR _ _ _ _ _ _ _ _ op_eq (pv 0) pe_str (nomark _)) (@pss_one _ _ _ (ps_ret (pe_cal (c2.up (by decide)) hr rfl (@pa_cons _ _ _ _ _ (pe_calx (c3.up (by decide)) hr rfl pass10 (@pa_cons _ _ _ _ _ (pv 1) (@pa_cons _ _ _ _ _ (@pe_ix _ _ _ _ _ _ _ ix_list (pv 2) pe_int (fun _ _=>rfl)) pa_nil (by rfl)) (by rfl))) pa_nil (by rfl))))) pss_nil)
    (@pss_cons _ _ _ _ _ (ps_if (@pt_cmpR _ _ _ _ _ _ _ _ op_eq (pv 0) pe_str (nomark _)) (@pss_one _ _ _ (ps_ret (pe_callTy call_str_int rfl B2.str boot_str (@pa_cons _ _ _ _ _ (pe_callB call_len_seq rfl B.len PySem.boot_len (@pa_cons _ _ _ _ _ (pe_calx (c4.up (by decide)) hr rfl pass10 (@pa_cons _ _ _ _ _ (pv 1) (@pa_cons _ _ _ _ _ (@pe_ix _ _ _ _ _ _ _ ix_list (pv 2) pe_int (fun _ _=>rfl)) (@pa_cons _ _ _ _ _ (@pe_ix _ _ _ _ _ _ _ ix_list (pv 2) pe_int (fun _ _=>rfl)) pa_nil (by rfl)) (by rfl)) (by rfl))) pa_nil (by rfl))) pa_nil (by rfl))))) pss_nil)
    (@pss_cons _ _ _ _ _ (ps_if (@pt_cmpR _ _ _ _ _ _ _ _ op_eq (pv 0) pe_str (nomark _)) (@pss_one _ _ _ (ps_ret (pe_bm PySem.F.plainAttrs_str PySem.F.slot_str_join PySem.F.type_str_join mt_join pe_str (@pa_cons _ _ _ _ _ (pe_compG (N:=["middle"]) (ix:=[none]) (ifs:=[]) (tc:=tTrue) rfl (pi_tup (pe_calx (c5.up (by decide)) hr rfl pass10 (@pa_cons _ _ _ _ _ (pv 1) (@pa_cons _ _ _ _ _ (@pe_ix _ _ _ _ _ _ _ ix_list (pv 2) pe_int (fun _ _=>rfl)) (@pa_cons _ _ _ _ _ (@pe_ix _ _ _ _ _ _ _ ix_list (pv 2) pe_int (fun _ _=>rfl)) pa_nil (by rfl)) (by rfl)) (by rfl))))
      (fun s H ex=>pg_c (i:=0) (by decide +kernel) rfl (Or.inl rfl) (.inr rfl)) (fun s H ex=>pifs_nil) (fun s H ex=>(pe_cal (c2.up (by decide)) hr rfl (@pa_cons _ _ _ _ _ (pv 0) pa_nil (by rfl)))) rfl (by decide +kernel) (by rfl) (by rfl) (fun _=>rfl)) pa_nil (by rfl))))) pss_nil)
    (@pss_one _ _ _ (ps_ret (pe_ifExp (pt_val (pe_calx c6 hr rfl pass10 (@pa_cons _ _ _ _ _ (pv 1) (@pa_cons _ _ _ _ _ (@pe_ix _ _ _ _ _ _ _ ix_list (pv 2) pe_int (fun _ _=>rfl)) pa_nil (by rfl)) (by rfl)))) pe_str pe_str))))))),?_⟩
  obtain ⟨st,u,pl,n,ns,a,ys,t,rfl,hp,hd,hU,n1,n4,hA,q⟩:=h
  have i0:∀ (v:V) r,atI (v :: r) 0=some v:=fun v r=>atI_nat (j:=0) rfl
  have i1:∀ (v x:V) r,atI (v :: x :: r) 1=some x:=fun v x r=>atI_nat (j:=1) rfl
  cases hA with
  | shown =>
    refine ⟨_,rfl,rfl,_,rfl,?_⟩
    rw [decide_eq_true rfl]
    exact iteT ⟨_,rfl,st,u,ns,n,rfl,hd,hU,n1,n4,q⟩
  | @chance k hk =>
    refine ⟨_,rfl,rfl,_,rfl,?_⟩
    rw [neS ne_cs]
    refine iteF ⟨_,rfl,rfl,_,rfl,?_⟩
    rw [decide_eq_true rfl]
    have hs:ns.sum < 10 ^ 62:=by
      have:=Mt.sum_le (m:=20) (fun x hx=>(hU.nn x hx).2)
      rw [hU.len] at this
      omega
    have hb:=cut_lt (N:=10 ^ 62) (hU.getD k).1 hU.pos (Int.lt_of_le_of_lt (hU.getD k).2 (by decide)) hs
    exact iteT ⟨_,rfl,_,rfl,pl,_,0,_,rfl,rfl,.of hp,i0 _ _,.inr ⟨st,u,n,k,ns,rfl,hd,hU,n1,n4,hk,fun p H1 g1 h1=>⟨p,_,_,rfl,h1,hb.1,hb.2.1,hb.2.2.1,hb.2.2.2,fun H2 g2=>q H2 (g1.trans g2)⟩⟩⟩
  | @stands rs v k hR hv hk hl =>
    refine ⟨_,rfl,rfl,_,rfl,?_⟩
    rw [neS ne_ss]
    refine iteF ⟨_,rfl,rfl,_,rfl,?_⟩
    rw [neS ne_sc]
    refine iteF ⟨_,rfl,rfl,_,rfl,?_⟩
    rw [decide_eq_true rfl]
    refine iteT ⟨_,rfl,_,rfl,pl,_,0,_,rfl,rfl,.of hp,i0 _ _,_,rfl,pl,_,1,_,rfl,rfl,.of hp,i1 _ _ _,.inr ⟨st,u,v,n,k,ns,rs,rfl,⟨hd,hU,hv,hR,n1,n4,hk,hl⟩,fun D zs T' H1 g1 hT hD hB=>?_⟩⟩
    have hzl:zs.length=(chQ rs k [(ns,1)]).length:=by rw [<- hT.length_eq];exact hB.len
    refine ⟨D,_,rfl,.inl (.of hD),_,rfl,?_⟩
    rw [hzl]
    exact ⟨log_s (by omega) (by omega),q H1 g1⟩
  | @means rs v k hR hv hk hl hw =>
    refine ⟨_,rfl,rfl,_,rfl,?_⟩
    rw [neS ne_ms]
    refine iteF ⟨_,rfl,rfl,_,rfl,?_⟩
    rw [neS ne_mc]
    refine iteF ⟨_,rfl,rfl,_,rfl,?_⟩
    rw [neS ne_mt]
    refine iteF ⟨_,rfl,rfl,_,rfl,?_⟩
    rw [decide_eq_true rfl]
    refine iteT ⟨rfl,_,rfl,_,rfl,pl,_,0,_,rfl,rfl,.of hp,i0 _ _,_,rfl,pl,_,1,_,rfl,rfl,.of hp,i1 _ _ _,.inr ⟨st,u,v,n,k,ns,rs,rfl,⟨hd,hU,hv,hR,n1,n4,hk,hl⟩,fun p xs H1 g1 hx hF=>⟨p,rfl,⟨_,.of hx⟩,?_⟩⟩⟩
    have hxl:=hF.len
    have hml:(mnQ rs ns k n).length=n:=by unfold mnQ;rw [List.length_map,List.length_range]
    generalize mnQ rs ns k n=qs at hw hF hxl hml q
    refine blk_tup (K:=K) (a:=p) (xs:=xs) (sz (by omega)) (fun j ys H2=>Same H1 H2/\ys=((qs.take j).map fS).map V.str/\ys.length=j) ⟨Same.refl _,rfl,rfl⟩ (fun j ys H2 h=>h.2.2) (fun j ys H2 _ h=>.of (h.1 _ _ hx)) rfl (fun j ys H2 z hz h=>?_) (fun ys H2 h=>?_)
    · obtain ⟨g2,hy,hyl⟩:=h
      obtain ⟨x,hx',r,er,hr'⟩:=hF.get hz
      subst er
      obtain ⟨w0,w1,w2⟩:=hw x (List.mem_of_getElem? hx')
      refine ⟨_,rfl,r,x.num,x.den,rfl,g2 _ _ hr',w0,w1,Int.natCast_nonneg _,w2,fun H3 g3=>⟨g2.trans g3,?_,by rw [List.length_append,hyl];rfl⟩⟩
      rw [hy,List.take_add_one,hx',List.map_append,List.map_append]
      rfl
    · obtain ⟨g2,hy,hyl⟩:=h
      rw [hxl,List.take_of_length_le (Nat.le_refl _)] at hy
      subst hy
      intro pj hpj
      have hsl:=sum_lens (m:=125) (ys:=qs.map fS) fun z hz=>by
        obtain ⟨x,hx',e⟩:=List.mem_map.mp hz
        obtain ⟨w0,w1,w2⟩:=hw x hx'
        rw [<- e];exact len_fS w0 w1 w2
      rw [List.length_map] at hsl
      refine ⟨_,pj,qs.map fS,rfl,rfl,.of upd_same,?_,q _ ((g1.trans g2).trans (Same.new hpj))⟩
      rw [List.length_map]
      have:(" ":Str).length=1:=by decide +kernel
      rw [this]
      omega
  | @fair rs v hR hv =>
    refine ⟨_,rfl,rfl,_,rfl,?_⟩
    rw [neS ne_as]
    refine iteF ⟨_,rfl,rfl,_,rfl,?_⟩
    rw [neS ne_ac]
    refine iteF ⟨_,rfl,rfl,_,rfl,?_⟩
    rw [neS ne_at]
    refine iteF ⟨_,rfl,rfl,_,rfl,?_⟩
    rw [neS ne_am]
    refine iteF ⟨_,rfl,_,rfl,pl,_,0,_,rfl,rfl,.of hp,i0 _ _,.inr ⟨st,u,v,n,ns,rs,rfl,⟨hd,hU,hv,hR,n1,n4⟩,fun H1 g1=>⟨_,rfl,?_⟩⟩⟩
    by_cases e:mshQ rs ns 1 n=mshQ rs ns 0 n
    · rw [decide_eq_true e]
      rw [if_pos e] at q
      exact iteT (q H1 g1)
    · rw [decide_eq_false e]
      rw [if_neg e] at q
      exact iteF (q H1 g1)
def sp_init (C:Addr):Sp:=fun vs H Q _=>∃ d dx,vs=[.ref d]/\H d=some (.ins C dx [])/\∀ m,H m=none->Q .non (upd (upd H m (.dK [])) d (.ins C dx [("urns_by_name",.ref m)]))
abbrev s_init:Stmt:=mth 0
theorem sc_init:FnScope ["self"] ["self"] (defScope s_init):=⟨rfl,rfl,rfl,by decide +kernel,rfl,by decide +kernel,by decide +kernel⟩
theorem ok_init (F:Fun K "__init__" "Desk.__init__" s_init f fd) (D:DeskK K C):FnOk P w K mg base CX0 1 f fd ["self"] (sp_init C):=by
  refine F.ok sc_init (fun vs H Q E h=>?_) (fun cdv A outer s H vs Q E hr h=>?_)
  · obtain ⟨d,dx,rfl,_⟩:=h
    rfl
  obtain ⟨d,dx,rfl,hd,q⟩:=h
  refine ⟨_,pss_one (ps_fld (pv 0) pe_dnew rfl),?_⟩
  intro m hm
  refine ⟨_,rfl,d,C,dx,[],rfl,?_,D.cls,D.na,by decide,q m hm⟩
  rw [upd_ne (ne_of_none hd hm)];exact hd
def sp_ubn (C:Addr):Sp:=fun vs H Q _=>∃ d m kvs x v,vs=[.ref d,.str x]/\DeskO C H d m kvs/\valV kvs (Sum.inr x)=some v/\Q v H
abbrev s_ubn:Stmt:=mth 2
theorem sc_ubn:FnScope ["self","name"] ["self","name"] (defScope s_ubn):=⟨rfl,rfl,rfl,by decide +kernel,rfl,by decide +kernel,by decide +kernel⟩
theorem ok_ubn (F:Fun K "urn_by_name" "Desk.urn_by_name" s_ubn f fd) (D:DeskK K C):FnOk P w K mg base CX0 1 f fd ["self","name"] (sp_ubn C):=by
  refine F.ok sc_ubn (fun vs H Q E h=>?_) (fun cdv A outer s H vs Q E hr h=>?_)
  · obtain ⟨d,m,kvs,x,v,rfl,_⟩:=h
    rfl
  obtain ⟨d,m,kvs,x,v,rfl,⟨dx,hd,hm⟩,hv,q⟩:=h
  refine ⟨_,pss_cons (ps_if (pt_cmp (pc_dnotin (hu_of hr) (pv 1) (pe_fld (pv 0) rfl)) (by rfl)) pss_never pss_nil)
    (pss_one (ps_ret (pe_dget (hu_of hr) (pe_fld (pv 0) rfl) (pv 1) (fun _ _=>rfl)))),?_⟩
  have hg:DGet H m (.str x) (some v):=by rw [<- hv];exact DGet.k (k:=Sum.inr x) hm
  refine ⟨_,rfl,_,rfl,d,C,dx,_,_,rfl,hd,D.cls,D.na,rfl,m,_,rfl,hg,_,rfl,?_⟩
  exact iteF ⟨_,rfl,d,C,dx,_,_,rfl,hd,D.cls,D.na,rfl,_,rfl,m,v,rfl,hg,q⟩
def sp_keep (C:Addr):Sp:=fun vs H Q _=>∃ (d m:Addr) (kvs:List (Key × V)) (x:Str) (a st:Addr) (ns:List Int) (n:Nat),vs=[.ref d,.str x,.ref a]/\DeskO C H d m kvs/\kvs.length <= 100/\Dt st H (DI ns) (.ref a)/\Mt.Urn n 20 ns/\1 <= n/\n <= 4/\∀ H',Same H H'->Q (.str "ok") (upd H' m (.dK (putK kvs (Sum.inr x) (.ref a))))
abbrev s_keep:Stmt:=mth 3
theorem sc_keep:FnScope ["self","name","urn"] ["self","name","urn"] (defScope s_keep):=⟨rfl,rfl,rfl,by decide +kernel,rfl,by decide +kernel,by decide +kernel⟩
theorem ok_keep (F:Fun K "keep" "Desk.keep" s_keep f fd) (D:DeskK K C) (c1:Cal P w K mg base 4 "is_urn" ["thing"] sp_is_urn):FnOk P w K mg base CX0 5 f fd ["self","name","urn"] (sp_keep C):=by
  refine F.ok sc_keep (fun vs H Q E h=>?_) (fun cdv A outer s H vs Q E hr h=>?_)
  · obtain ⟨d,m,kvs,x,a,st,ns,n,rfl,_⟩:=h
    rfl
  obtain ⟨d,m,kvs,x,a,st,ns,n,rfl,⟨dx,hd,hm⟩,hk,ha,hU,n1,n4,q⟩:=h
  refine ⟨_,pss_cons (ps_if (pt_not (pt_val (pe_cal c1 hr rfl (pa_cons (pv 2) pa_nil)))) pss_never pss_nil)
    (pss_cons (ps_dput (hu_of hr) (pe_fld (pv 0) rfl) (pv 1) (pv 2) rfl) (pss_one (ps_ret pe_str))),?_⟩
  have hl:=hU.len
  refine ⟨_,rfl,_,st,_,rfl,ha,short_DI (by omega),fun H1 g1=>⟨_,rfl,?_⟩⟩
  rw [urnD_of hU n1 n4]
  refine iteF ⟨_,rfl,_,rfl,d,C,dx,_,_,rfl,g1 _ _ hd,D.cls,D.na,rfl,_,rfl,m,_,rfl,DPut.k (k:=Sum.inr x) (g1 _ _ hm) (small1000 (by omega)),q H1 g1⟩
end
end G
namespace G
open PySem PySem.Spec PyProof.Rows L2 Mt Mq
theorem ne_un:("name":Str) ≠ "urn":=by decide +kernel
theorem ne_nf:("name":Str) ≠ "figure":=by decide +kernel
theorem ne_nr:("name":Str) ≠ "rule":=by decide +kernel
theorem ne_uf:("urn":Str) ≠ "figure":=by decide +kernel
theorem WordV.nameI {z:Addr} {H:Hp} {x:Str} {v:V} (h:WordV z H "name" x v):v=.str x:=by
  generalize hf:("name":Str)=fo at h
  cases h with
  | name _=>rfl
  | urn _ _ _ _=>exact absurd hf ne_un
  | rule _ _ _ _=>exact absurd hf ne_nr
  | fig _=>exact absurd hf ne_nf
theorem WordV.urnI {z:Addr} {H:Hp} {t:Str} {v:V} (h:WordV z H "urn" t v):∃ (ns:List Int) (n:Nat) (a:Addr),t=nT ns/\Mt.Urn n 20 ns/\1 <= n/\v=.ref a/\H a=some (.tup (ns.map V.int)):=by
  generalize hf:("urn":Str)=fo at h
  cases h with
  | name _=>exact absurd hf.symm ne_un
  | urn h1 h2 h3 h4=>exact ⟨_,_,_,rfl,h1,h2,rfl,h4⟩
  | rule _ _ _ _=>exact absurd hf.symm ne_ru
  | fig _=>exact absurd hf ne_uf
theorem WordV.ruleI {z:Addr} {H:Hp} {t:Str} {v:V} (h:WordV z H "rule" t v):∃ (rs:List (List Int)) (n:Nat),t=rT rs/\Mt.Rul n 5 rs/\1 <= n/\Dt z H (DR rs) v:=by
  generalize hf:("rule":Str)=fo at h
  cases h with
  | name _=>exact absurd hf.symm ne_nr
  | urn h1 h2 h3 h4=>exact absurd hf ne_ru
  | rule h1 h2 h3 h4=>exact ⟨_,_,rfl,h1,h2,h4⟩
  | fig _=>exact absurd hf.symm ne_fr
theorem WordV.figI {z:Addr} {H:Hp} {t:Str} {v:V} (h:WordV z H "figure" t v):∃ k:Nat,t=tx (k:Int)/\k <= 9/\v=.int k:=by
  generalize hf:("figure":Str)=fo at h
  cases h with
  | name _=>exact absurd hf.symm ne_nf
  | urn h1 h2 h3 h4=>exact absurd hf.symm ne_uf
  | rule _ _ _ _=>exact absurd hf ne_fr
  | fig h=>exact ⟨_,rfl,h,rfl⟩
theorem map_tx_inj:∀ {a b:List Int},(∀ x ∈ a,0 <= x/\x <= 20)->(∀ x ∈ b,0 <= x/\x <= 20)->a.map tx=b.map tx->a=b
  | [],[],_,_,_=>rfl
  | [],_ :: _,_,_,h=>by cases h
  | _ :: _,[],_,_,h=>by cases h
  | x :: a,y :: b,ha,hb,h=>by
    rw [List.map_cons,List.map_cons] at h
    obtain ⟨h1,h2⟩:=List.cons.inj h
    obtain ⟨x0,x1⟩:=ha x List.mem_cons_self
    obtain ⟨y0,y1⟩:=hb y List.mem_cons_self
    obtain ⟨i,rfl⟩:=Int.eq_ofNat_of_zero_le x0
    obtain ⟨j,rfl⟩:=Int.eq_ofNat_of_zero_le y0
    rw [tx_inj (by omega) (by omega) h1,map_tx_inj (fun z hz=>ha z (List.mem_cons_of_mem _ hz)) (fun z hz=>hb z (List.mem_cons_of_mem _ hz)) h2]
theorem nT_inj {a b:List Int} (ha:a ≠ []) (h1:∀ x ∈ a,0 <= x/\x <= 20) (hb:b ≠ []) (h2:∀ x ∈ b,0 <= x/\x <= 20) (h:nT a=nT b):a=b:=by
  have h3:=split_nT ha h1
  rw [h,split_nT hb h2] at h3
  exact (map_tx_inj h2 h1 h3).symm
theorem ne_of_len {α:Type} {n:Nat} {a:List α} (h:a.length=n) (hn:1 <= n):a ≠ []:=fun z=>by rw [z] at h;simp at h;omega
theorem map_nT_inj:∀ {a b:List (List Int)},(∀ r ∈ a,r ≠ []/\∀ x ∈ r,0 <= x/\x <= 20)->(∀ r ∈ b,r ≠ []/\∀ x ∈ r,0 <= x/\x <= 20)->a.map nT=b.map nT->a=b
  | [],[],_,_,_=>rfl
  | [],_ :: _,_,_,h=>by cases h
  | _ :: _,[],_,_,h=>by cases h
  | x :: a,y :: b,ha,hb,h=>by
    rw [List.map_cons,List.map_cons] at h
    obtain ⟨h1,h2⟩:=List.cons.inj h
    rw [nT_inj (ha x List.mem_cons_self).1 (ha x List.mem_cons_self).2 (hb y List.mem_cons_self).1 (hb y List.mem_cons_self).2 h1,map_nT_inj (fun z hz=>ha z (List.mem_cons_of_mem _ hz)) (fun z hz=>hb z (List.mem_cons_of_mem _ hz)) h2]
theorem rT_inj {a b:List (List Int)} {n m:Nat} (ha:Mt.Rul n 5 a) (hn:1 <= n) (hb:Mt.Rul m 5 b) (hm:1 <= m) (h:rT a=rT b):a=b:=by
  have h3:=split_rT (ne_of_len ha.len hn) (rul20 ha)
  rw [h,split_rT (ne_of_len hb.len hm) (rul20 hb)] at h3
  exact (map_nT_inj (fun r hr=>⟨ne_of_len (hb.row r hr).len hm,rul20 hb r hr⟩) (fun r hr=>⟨ne_of_len (ha.row r hr).len hn,rul20 ha r hr⟩) h3).symm
inductive AnsW (n:Nat) (ns:List Int):Str->List Str->List Str->Str->Prop
  | shown:AnsW n ns "show" [] [] (nT ns)
  | chance {k:Nat}:k < n->AnsW n ns "chance" ["figure"] [tx (k:Int)] (fS (Mt.share ns k))
  | stands {rs:List (List Int)} {k:Nat}:Mt.Rul n 5 rs->k <= 6->(chQ rs k [(ns,1)]).length < 64->AnsW n ns "stands" ["rule","figure"] [rT rs,tx (k:Int)] (tx ((chQ rs k [(ns,1)]).length:Int))
  | means {rs:List (List Int)} {k:Nat}:Mt.Rul n 5 rs->k <= 6->(chQ rs k [(ns,1)]).length < 64->(∀ q ∈ mnQ rs ns k n,Wr q)->AnsW n ns "mean" ["rule","figure"] [rT rs,tx (k:Int)] (msT (mnQ rs ns k n))
  | fair {rs:List (List Int)}:Mt.Rul n 5 rs->AnsW n ns "fair" ["rule"] [rT rs] (if mshQ rs ns 1 n=mshQ rs ns 0 n then "yes" else "no")
structure LineF (K:PySem.W.Frag) (fL:Str->Option Value):Prop where
  u:Forms K fL "urn" ["name","urn"]
  d:Forms K fL "draw" ["name","rule","figure","name"]
  s:Forms K fL "show" ["name"]
  c:Forms K fL "chance" ["name","figure"]
  t:Forms K fL "stands" ["name","rule","figure"]
  m:Forms K fL "mean" ["name","rule","figure"]
  f:Forms K fL "fair" ["name","rule"]
theorem AnsW.forms {K:PySem.W.Frag} {fL:Str->Option Value} {n:Nat} {ns:List Int} {a t:Str} {fos ws:List Str} (L:LineF K fL) (h:AnsW n ns a fos ws t):Forms K fL a ("name" :: fos):=by
  cases h with
  | shown=>exact L.s
  | chance _=>exact L.c
  | stands _ _ _=>exact L.t
  | means _ _ _ _=>exact L.m
  | fair _=>exact L.f
theorem AnsW.ne {n:Nat} {ns:List Int} {a t:Str} {fos ws:List Str} (h:AnsW n ns a fos ws t):a ≠ "kept"/\a ≠ "urn"/\a ≠ "draw"/\32 ∉ a.cps.toList/\a.length <= 6:=by
  cases h <;> decide +kernel
theorem fg_len {k:Nat} (h:k <= 9):(tx (k:Int)).length=1:=(figF ⟨k,by omega⟩).1
theorem rl_len {n:Nat} {rs:List (List Int)} (hR:Mt.Rul n 5 rs) (n4:n <= 4):(rT rs).length <= 52:=len_rT (by rw [hR.len];exact n4) fun r hr=>⟨by rw [(hR.row r hr).len];exact n4,rul20 hR r hr⟩
theorem AnsW.words {n:Nat} {ns:List Int} {a t:Str} {fos ws:List Str} (n1:1 <= n) (n4:n <= 4) (h:AnsW n ns a fos ws t):fos.length=ws.length/\ws.length <= 2/\(∀ (i:Nat) fo x,fos[i]?=some fo->ws[i]?=some x->WordF fo x)/\∀ x ∈ ws,32 ∉ x.cps.toList/\x.length <= 60:=by
  cases h with
  | shown=>exact ⟨rfl,Nat.le_of_ble_eq_true rfl,(fun i fo x e=>by simp at e),fun x hx=>by cases hx⟩
  | @chance k hk =>
    refine ⟨rfl,Nat.le_of_ble_eq_true rfl,fun i fo x e1 e2=>?_,fun x hx=>?_⟩
    · match i,e1,e2 with
      | 0,e1,e2=>cases e1;cases e2;exact .inr (.inr (.inl ⟨rfl,k,rfl,by omega⟩))
      | i + 1,e1,e2=>simp at e1
    · rw [List.mem_singleton.mp hx]
      exact ⟨noblank_tx (by omega),by rw [fg_len (by omega)];decide⟩
  | @stands rs k hR hk hl =>
    refine ⟨rfl,Nat.le_of_ble_eq_true rfl,fun i fo x e1 e2=>?_,fun x hx=>?_⟩
    · match i,e1,e2 with
      | 0,e1,e2=>cases e1;cases e2;exact .inr (.inr (.inr ⟨rfl,rs,n,rfl,hR,n1,n4⟩))
      | 1,e1,e2=>cases e1;cases e2;exact .inr (.inr (.inl ⟨rfl,k,rfl,by omega⟩))
      | i + 2,e1,e2=>simp at e1
    · simp only [List.mem_cons,List.not_mem_nil,or_false] at hx
      rcases hx with rfl | rfl
      · exact ⟨noblank_rT (rul20 hR),Nat.le_trans (rl_len hR n4) (by decide)⟩
      · exact ⟨noblank_tx (by omega),by rw [fg_len (by omega)];decide⟩
  | @means rs k hR hk hl hw =>
    refine ⟨rfl,Nat.le_of_ble_eq_true rfl,fun i fo x e1 e2=>?_,fun x hx=>?_⟩
    · match i,e1,e2 with
      | 0,e1,e2=>cases e1;cases e2;exact .inr (.inr (.inr ⟨rfl,rs,n,rfl,hR,n1,n4⟩))
      | 1,e1,e2=>cases e1;cases e2;exact .inr (.inr (.inl ⟨rfl,k,rfl,by omega⟩))
      | i + 2,e1,e2=>simp at e1
    · simp only [List.mem_cons,List.not_mem_nil,or_false] at hx
      rcases hx with rfl | rfl
      · exact ⟨noblank_rT (rul20 hR),Nat.le_trans (rl_len hR n4) (by decide)⟩
      · exact ⟨noblank_tx (by omega),by rw [fg_len (by omega)];decide⟩
  | @fair rs hR =>
    refine ⟨rfl,Nat.le_of_ble_eq_true rfl,fun i fo x e1 e2=>?_,fun x hx=>?_⟩
    · match i,e1,e2 with
      | 0,e1,e2=>cases e1;cases e2;exact .inr (.inr (.inr ⟨rfl,rs,n,rfl,hR,n1,n4⟩))
      | i + 1,e1,e2=>simp at e1
    · rw [List.mem_singleton.mp hx]
      exact ⟨noblank_rT (rul20 hR),Nat.le_trans (rl_len hR n4) (by decide)⟩
theorem AnsW.ansV {z:Addr} {H:Hp} {n:Nat} {ns:List Int} {a t:Str} {fos ws:List Str} {ys:List V} (n1:1 <= n) (n4:n <= 4) (h:AnsW n ns a fos ws t) (hl:ys.length=ws.length) (hw:∀ (i:Nat) fo x y,fos[i]?=some fo->ws[i]?=some x->ys[i]?=some y->WordV z H fo x y):AnsV z H n ns a ys t:=by
  cases h with
  | shown =>
    match ys,hl with
    | [],_=>exact .shown
  | @chance k hk =>
    match ys,hl,hw with
    | [y],_,hw =>
      obtain ⟨k',et,hk',e2⟩:=(hw 0 _ _ _ rfl rfl rfl).figI
      obtain rfl:=tx_inj (by omega) (by omega) et
      subst e2
      exact .chance hk
  | @stands rs k hR hk hl' =>
    match ys,hl,hw with
    | [y,x],_,hw =>
      obtain ⟨rs',n',et',hR',n1',hd⟩:=(hw 0 _ _ _ rfl rfl rfl).ruleI
      obtain rfl:=rT_inj hR n1 hR' n1' et'
      obtain ⟨k',et,hk',e2⟩:=(hw 1 _ _ _ rfl rfl rfl).figI
      obtain rfl:=tx_inj (by omega) (by omega) et
      subst e2
      exact .stands hR hd hk hl'
  | @means rs k hR hk hl' hq =>
    match ys,hl,hw with
    | [y,x],_,hw =>
      obtain ⟨rs',n',et',hR',n1',hd⟩:=(hw 0 _ _ _ rfl rfl rfl).ruleI
      obtain rfl:=rT_inj hR n1 hR' n1' et'
      obtain ⟨k',et,hk',e2⟩:=(hw 1 _ _ _ rfl rfl rfl).figI
      obtain rfl:=tx_inj (by omega) (by omega) et
      subst e2
      exact .means hR hd hk hl' hq
  | @fair rs hR =>
    match ys,hl,hw with
    | [y],_,hw =>
      obtain ⟨rs',n',et',hR',n1',hd⟩:=(hw 0 _ _ _ rfl rfl rfl).ruleI
      obtain rfl:=rT_inj hR n1 hR' n1' et'
      exact .fair hR hd
theorem cut1 (y:V) (ys:List V):cutV (y :: ys) (some 1) none=ys:=by
  have e1:HT.sIx (y :: ys).length 0 (some 1)=1:=by simp [HT.sIx]
  have e2:HT.sIx (y :: ys).length (y :: ys).length none=(y :: ys).length:=by simp [HT.sIx]
  unfold cutV
  rw [e1,e2]
  simp
theorem AnsV.same {st:Addr} {H H':Hp} {n:Nat} {ns:List Int} {a t:Str} {ys:List V} (h:AnsV st H n ns a ys t) (g:Same H H'):AnsV st H' n ns a ys t:=by
  cases h with
  | shown=>exact .shown
  | chance h=>exact .chance h
  | stands h1 h2 h3 h4=>exact .stands h1 (h2.kp (g.kp st)) h3 h4
  | means h1 h2 h3 h4 h5=>exact .means h1 (h2.kp (g.kp st)) h3 h4 h5
  | fair h1 h2=>exact .fair h1 (h2.kp (g.kp st))
theorem line_len {ws:List Str} (h:∀ x ∈ ws,x.length <= 60) (hn:ws.length <= 6):(lineT ws).length <= 900:=by
  unfold lineT
  rw [txt_join,blank]
  show (Str.join ⟨#[32]⟩ ws).cps.size <= 900
  rw [<- Array.length_toList,join_jl]
  have:=jl_len (c:=32) (m:=60) (ps:=ws.map fun y=>y.cps.toList) fun p hp=>by
    obtain ⟨y,hy,rfl⟩:=List.mem_map.mp hp
    rw [Array.length_toList];exact h y hy
  rw [List.length_map] at this
  omega
section
variable {P:Program} {w:World} {K:PySem.W.Frag} {mg:Str->Option Value} {base:Heap} {f:Addr} {fd:FuncData} {ec:Nat->Addr} {Bs dl C:Addr} {fL:Str->Option Value}
def sp_sayU (C:Addr):Sp:=fun vs H Q _=>∃ (d m:Addr) (kvs:List (Key × V)) (x:Str) (ns:List Int) (n:Nat),vs=[.ref d,.str (lineT ["urn",x,nT ns])]/\DeskO C H d m kvs/\kvs.length <= 100/\NameS x/\Mt.Urn n 20 ns/\1 <= n/\n <= 4 /\
  ∀ p H',Same H H'->H' p=some (.tup (ns.map V.int))->Q (.str "ok") (upd H' m (.dK (putK kvs (Sum.inr x) (.ref p))))
def sp_sayD (C:Addr):Sp:=fun vs H Q _=>∃ (d m p:Addr) (kvs:List (Key × V)) (x y:Str) (ns:List Int) (rs:List (List Int)) (n k:Nat),vs=[.ref d,.str (lineT ["draw",x,rT rs,tx (k:Int),y])]/\DeskO C H d m kvs/\kvs.length <= 100/\NameS x/\NameS y/\valV kvs (Sum.inr x)=some (.ref p) /\
  H p=some (.tup (ns.map V.int))/\Mt.Urn n 20 ns/\Mt.Rul n 5 rs/\1 <= n/\n <= 4/\k < n/\ns.getD k 0 ≠ 0/\Mt.Urn n 20 (addL ns (rs.getD k [])) /\
  ∀ p H',Same H H'->H' p=some (.tup ((addL ns (rs.getD k [])).map V.int))->Q (.str "ok") (upd H' m (.dK (putK kvs (Sum.inr y) (.ref p))))
def sp_sayA (C:Addr):Sp:=fun vs H Q _=>∃ (d m p:Addr) (kvs:List (Key × V)) (a x t:Str) (fos ws:List Str) (ns:List Int) (n:Nat),vs=[.ref d,.str (lineT (a :: x :: ws))]/\DeskO C H d m kvs/\NameS x/\valV kvs (Sum.inr x)=some (.ref p) /\
  H p=some (.tup (ns.map V.int))/\Mt.Urn n 20 ns/\1 <= n/\n <= 4/\AnsW n ns a fos ws t/\∀ H',Same H H'->Q (.str t) H'
def sp_say (C:Addr):Sp:=fun vs H Q E=>sp_sayU C vs H Q E ∨ sp_sayD C vs H Q E ∨ sp_sayA C vs H Q E
abbrev s_say:Stmt:=mth 1
theorem sc_say:FnScope ["self","line","asked","others","urn"] ["self","line"] (defScope s_say):=⟨rfl,rfl,rfl,by decide +kernel,rfl,by decide +kernel,by decide +kernel⟩
theorem ne_uk:("urn":Str) ≠ "kept":=by decide +kernel
theorem ne_dk:("draw":Str) ≠ "kept":=by decide +kernel
theorem ne_du:("draw":Str) ≠ "urn":=by decide +kernel
theorem wf2 {f1 f2 x1 x2:Str} (h1:WordF f1 x1) (h2:WordF f2 x2):∀ (i:Nat) fo x,[f1,f2][i]?=some fo->[x1,x2][i]?=some x->WordF fo x:=by
  intro i fo x e1 e2
  match i,e1,e2 with
  | 0,e1,e2=>cases e1;cases e2;exact h1
  | 1,e1,e2=>cases e1;cases e2;exact h2
  | i + 2,e1,e2=>simp at e1
theorem wf4 {f1 f2 f3 f4 x1 x2 x3 x4:Str} (h1:WordF f1 x1) (h2:WordF f2 x2) (h3:WordF f3 x3) (h4:WordF f4 x4):∀ (i:Nat) fo x,[f1,f2,f3,f4][i]?=some fo->[x1,x2,x3,x4][i]?=some x->WordF fo x:=by
  intro i fo x e1 e2
  match i,e1,e2 with
  | 0,e1,e2=>cases e1;cases e2;exact h1
  | 1,e1,e2=>cases e1;cases e2;exact h2
  | 2,e1,e2=>cases e1;cases e2;exact h3
  | 3,e1,e2=>cases e1;cases e2;exact h4
  | i + 4,e1,e2=>simp at e1
theorem ok_say (F:Fun K "say" "Desk.say" s_say f fd) (D:DeskK K C) (L:LineF K fL) (c1:Cal P w K mg base 9 "line_read" ["line"] (sp_lr K fL)) (c2:CalM P w K mg base C 5 "keep" ["self","name","urn"] (sp_keep C)) (c3:CalM P w K mg base C 1 "urn_by_name" ["self","name"] (sp_ubn C)) (c4:Cal P w K mg base 10 "answer" ["asked","urn","others"] sp_ans)
    (c5:Cal P w K mg base 7 "after" ["urn","rule","kind"] sp_aftV):FnOk P w K mg base CX0 11 f fd ["self","line"] (sp_say C):=by
  refine F.ok sc_say (fun vs H Q E h=>?_) (fun cdv A outer s H vs Q E hr h=>?_)
  · rcases h with ⟨d,m,kvs,x,ns,n,rfl,_⟩ | ⟨d,m,p,kvs,x,y,ns,rs,n,k,rfl,_⟩ | ⟨d,m,p,kvs,a,x,t,fos,ws,ns,n,rfl,_⟩ <;> rfl
  refine ⟨_,pss_cons (ps_asg (pe_cal (c1.up (by decide)) hr rfl (pa_cons (pv 1) pa_nil)) (pg_tup rfl (pgs_cons (pg_name (i:=2) sc_say.nd rfl (Or.inl rfl)) (pgs_cons (pg_name (i:=3) sc_say.nd rfl (Or.inl rfl)) pgs_nil))))
    (pss_cons (ps_if (pt_cmpR op_eq (pv 2) pe_str (nomark _)) pss_never pss_nil)
    (pss_cons (ps_if (pt_cmpR op_eq (pv 2) pe_str (nomark _)) (pss_one (ps_ret (pe_calm (pv 0) D.cls (c2.up (by decide)) hr (pa_cons (pe_ix ix_list (pv 3) pe_int (fun _ _=>rfl)) (pa_cons (pe_ix ix_list (pv 3) pe_int (fun _ _=>rfl)) pa_nil))))) pss_nil)
    (pss_cons (@ps_set _ _ 4 _ _ _ _ sc_say.nd rfl (Or.inl rfl) (pe_calm (pv 0) D.cls (c3.up (by decide)) hr (pa_cons (pe_ix ix_list (pv 3) pe_int (fun _ _=>rfl)) pa_nil)) (by rfl) (by first | exact .inl rfl | exact .inr rfl))
    (pss_cons (ps_if (pt_cmpR op_eq (pv 2) pe_str (nomark _)) (pss_one (ps_ret (pe_calm (pv 0) D.cls (c2.up (by decide)) hr (pa_cons (pe_ix ix_list (pv 3) pe_int (fun _ _=>rfl)) (pa_cons (pe_cal (c5.up (by decide)) hr rfl (pa_cons (pv 4) (pa_cons (pe_ix ix_list (pv 3) pe_int (fun _ _=>rfl)) (pa_cons (pe_ix ix_list (pv 3) pe_int (fun _ _=>rfl)) pa_nil)))) pa_nil))))) pss_nil)
    (pss_one (ps_ret (pe_cal c4 hr rfl (pa_cons (pv 2) (pa_cons (pv 4) (pa_cons (pe_slice sl_list (pv 3) (po_some pe_int) po_none) pa_nil)))))))))),?_⟩
  rcases h with ⟨d,m,kvs,x,ns,n,rfl,⟨dx,hd,hm⟩,hk,hx,hU,n1,n4,q⟩ | ⟨d,m,p,kvs,x,y,ns,rs,n,k,rfl,⟨dx,hd,hm⟩,hk,hx,hy',hv,hp,hU,hR,n1,n4,hkn,hne,hU2,q⟩ | ⟨d,m,p,kvs,a,x,t,fos,ws,ns,n,rfl,⟨dx,hd,hm⟩,hx,hv,hp,hU,n1,n4,hA,q⟩
  · have hl:=len_nT (ns:=ns) (by rw [hU.len];exact n4) hU.nn
    have h8:=hx.2.1
    refine ⟨_,rfl,"urn",[x,nT ns],["name","urn"],d,_,rfl,hd,?_,?_,L.u,rfl,Nat.le_of_ble_eq_true rfl,wf2 (.inl ⟨rfl,hx⟩) (.inr (.inl ⟨rfl,ns,n,rfl,hU,n1,n4⟩)),fun r l ys H1 g1 hr1 hl1 hy hw=>?_⟩
    · intro y hy
      simp only [List.mem_cons,List.not_mem_nil,or_false] at hy
      rcases hy with rfl | rfl | rfl
      · decide +kernel
      · exact noblank_name hx
      · exact noblank_nT hU.nn
    · refine line_len (fun y hy=>?_) (Nat.le_of_ble_eq_true rfl)
      simp only [List.mem_cons,List.not_mem_nil,or_false] at hy
      rcases hy with rfl | rfl | rfl
      · decide +kernel
      · omega
      · omega
    match ys,hy,hl1,hw with
    | [y1,y2],_,hl1,hw =>
      have e1:=(hw 0 _ _ _ rfl rfl rfl).nameI
      obtain ⟨ns',n',a,et,hU',n1',e2,ha⟩:=(hw 1 _ _ _ rfl rfl rfl).urnI
      obtain rfl:=nT_inj (ne_of_len hU.len n1) hU.nn (ne_of_len hU'.len n1') hU'.nn et
      subst e1 e2
      refine ⟨r,_,rfl,.of hr1,rfl,_,_,rfl,_,_,rfl,rfl,_,rfl,rfl,_,rfl,?_⟩
      rw [neS ne_uk]
      refine iteF ⟨_,rfl,rfl,_,rfl,?_⟩
      rw [decide_eq_true rfl]
      refine iteT ⟨_,rfl,d,dx,_,rfl,g1 _ _ hd,rfl,_,rfl,l,_,0,_,rfl,rfl,.of hl1,rfl,_,rfl,l,_,1,_,rfl,rfl,.of hl1,rfl,?_⟩
      exact ⟨d,m,kvs,x,a,a + 1,ns,n,rfl,⟨dx,g1 _ _ hd,g1 _ _ hm⟩,hk,Dt.mkI (Nat.ne_of_lt (Nat.lt_succ_self a)) ha,hU,n1,n4,fun H2 g2=>q a H2 (g1.trans g2) (g2 _ _ ha)⟩
  · have h8:=hx.2.1
    have h8':=hy'.2.1
    have hk9:k <= 9:=by omega
    refine ⟨_,rfl,"draw",[x,rT rs,tx (k:Int),y],["name","rule","figure","name"],d,_,rfl,hd,?_,?_,L.d,rfl,Nat.le_of_ble_eq_true rfl,wf4 (.inl ⟨rfl,hx⟩) (.inr (.inr (.inr ⟨rfl,rs,n,rfl,hR,n1,n4⟩))) (.inr (.inr (.inl ⟨rfl,k,rfl,hk9⟩))) (.inl ⟨rfl,hy'⟩),fun r l ys H1 g1 hr1 hl1 hy hw=>?_⟩
    · intro z hz
      simp only [List.mem_cons,List.not_mem_nil,or_false] at hz
      rcases hz with rfl | rfl | rfl | rfl | rfl
      · decide +kernel
      · exact noblank_name hx
      · exact noblank_rT (rul20 hR)
      · exact noblank_tx hk9
      · exact noblank_name hy'
    · refine line_len (fun z hz=>?_) (Nat.le_of_ble_eq_true rfl)
      simp only [List.mem_cons,List.not_mem_nil,or_false] at hz
      rcases hz with rfl | rfl | rfl | rfl | rfl
      · decide +kernel
      · omega
      · exact Nat.le_trans (rl_len hR n4) (by decide)
      · rw [fg_len hk9];decide
      · omega
    match ys,hy,hl1,hw with
    | [y1,y2,y3,y4],_,hl1,hw =>
      have e1:=(hw 0 _ _ _ rfl rfl rfl).nameI
      obtain ⟨rs',n',et',hR',n1',hdr⟩:=(hw 1 _ _ _ rfl rfl rfl).ruleI
      obtain rfl:=rT_inj hR n1 hR' n1' et'
      obtain ⟨k',et,hk',e2⟩:=(hw 2 _ _ _ rfl rfl rfl).figI
      obtain rfl:=tx_inj (by omega) (by omega) et
      have e4:=(hw 3 _ _ _ rfl rfl rfl).nameI
      subst e1 e2 e4
      have hp1:=g1 _ _ hp
      have hpd:p ≠ d:=ne_of hp hd (by intro z;cases z)
      refine ⟨r,_,rfl,.of hr1,rfl,_,_,rfl,_,_,rfl,rfl,_,rfl,rfl,_,rfl,?_⟩
      rw [neS ne_dk]
      refine iteF ⟨_,rfl,rfl,_,rfl,?_⟩
      rw [neS ne_du]
      refine iteF ⟨_,rfl,d,dx,_,rfl,g1 _ _ hd,rfl,_,rfl,l,_,0,_,rfl,rfl,.of hl1,rfl,d,m,kvs,x,_,rfl,⟨dx,g1 _ _ hd,g1 _ _ hm⟩,hv,_,rfl,rfl,_,rfl,?_⟩
      rw [decide_eq_true rfl]
      refine iteT ⟨_,rfl,d,dx,_,rfl,g1 _ _ hd,rfl,_,rfl,l,_,3,_,rfl,rfl,.of hl1,rfl,_,rfl,_,rfl,l,_,1,_,rfl,rfl,.of hl1,rfl,_,rfl,l,_,2,_,rfl,rfl,.of hl1,rfl,?_⟩
      refine ⟨d,p,y2,n,k,ns,rs,rfl,Dt.mkI hpd hp1,hU,hdr,hR,n1,n4,hkn,hne,fun p2 H2 g2 hp2=>?_⟩
      exact ⟨d,m,kvs,y,p2,p2 + 1,_,n,rfl,⟨dx,g2 _ _ (g1 _ _ hd),g2 _ _ (g1 _ _ hm)⟩,hk,Dt.mkI (Nat.ne_of_lt (Nat.lt_succ_self p2)) hp2,hU2,n1,n4,fun H3 g3=>q p2 H3 ((g1.trans g2).trans g3) (g3 _ _ hp2)⟩
  · have h8:=hx.2.1
    obtain ⟨a1,a2,a3,a4,a5⟩:=hA.ne
    obtain ⟨w1,w2,w3,w4⟩:=hA.words n1 n4
    refine ⟨_,rfl,a,x :: ws,"name" :: fos,d,_,rfl,hd,?_,?_,hA.forms L,by rw [List.length_cons,List.length_cons,w1],by rw [List.length_cons];omega,?_,fun r l ys H1 g1 hr1 hl1 hy hw=>?_⟩
    · intro y hy
      rcases List.mem_cons.mp hy with rfl | hy
      · exact a4
      rcases List.mem_cons.mp hy with rfl | hy
      · exact noblank_name hx
      · exact (w4 y hy).1
    · refine line_len (fun y hy=>?_) (by rw [List.length_cons,List.length_cons];omega)
      rcases List.mem_cons.mp hy with rfl | hy
      · omega
      rcases List.mem_cons.mp hy with rfl | hy
      · omega
      · exact (w4 y hy).2
    · intro i fo z e1 e2
      cases i with
      | zero=>cases e1;cases e2;exact .inl ⟨rfl,hx⟩
      | succ i=>exact w3 i fo z e1 e2
    match ys,hy,hl1,hw with
    | y1 :: ys',hy,hl1,hw =>
      have e1:=(hw 0 _ _ _ rfl rfl rfl).nameI
      subst e1
      have hV:=hA.ansV (z:=d) (H:=H1) (ys:=ys') n1 n4 (by simpa using hy) (fun i fo z y b1 b2 b3=>hw (i + 1) fo z y b1 b2 b3)
      have hp1:=g1 _ _ hp
      have hpd:p ≠ d:=ne_of hp hd (by intro z;cases z)
      refine ⟨r,_,rfl,.of hr1,rfl,_,_,rfl,_,_,rfl,rfl,_,rfl,rfl,_,rfl,?_⟩
      rw [neS a1]
      refine iteF ⟨_,rfl,rfl,_,rfl,?_⟩
      rw [neS a2]
      refine iteF ⟨_,rfl,d,dx,_,rfl,g1 _ _ hd,rfl,_,rfl,l,_,0,_,rfl,rfl,.of hl1,atI_nat (j:=0) rfl,d,m,kvs,x,_,rfl,⟨dx,g1 _ _ hd,g1 _ _ hm⟩,hv,_,rfl,rfl,_,rfl,?_⟩
      rw [neS a3]
      refine iteF ⟨_,rfl,_,rfl,_,rfl,1,rfl,l,_,rfl,.of hl1,fun t0 ht=>?_⟩
      exact ⟨d,p,t0,n,ns,a,ys',t,rfl,by rw [upd_same,cut1],Dt.mkI hpd (Same.new ht _ _ hp1),hU,n1,n4,hV.same (Same.new ht),fun H2 g2=>q H2 (g1.trans ((Same.new ht).trans g2))⟩
end
end G
namespace Mq
open PySem PySem.Spec L2 Mt Md
theorem linQ_congr {φ ψ:List Int->Rat}:∀ {T:TabQ},(∀ p ∈ T,φ p.1=ψ p.1)->linQ T φ=linQ T ψ
  | [],_=>rfl
  | p :: T,h=>by rw [linQ_cons,linQ_cons,h p List.mem_cons_self,linQ_congr fun q hq=>h q (List.mem_cons_of_mem _ hq)]
end Mq
namespace Mq
open PySem PySem.Spec L2 Mt Md
theorem ball_sum:∀ (u:List Int),sumQ ((List.range u.length).map fun i=>((u.getD i 0:Int):Rat))=((u.sum:Int):Rat)
  | []=>rfl
  | b :: u=>by
    rw [List.length_cons,sumQ_range_add (f:=fun i=>(((b :: u).getD i 0:Int):Rat))]
    have e:((List.range u.length).map fun i=>(((b :: u).getD (i + 1) 0:Int):Rat))=(List.range u.length).map fun i=>((u.getD i 0:Int):Rat):=rfl
    rw [e,ball_sum u,List.sum_cons]
    show ((b:Int):Rat) + _=_
    push_cast;rfl
theorem ch_sum {n:Nat} {rs:List (List Int)} {u:List Int} {g:Int} (hR:Rul n 5 rs) (hu:Urn n 20 u) (hg:∀ r ∈ rs,r.sum=g):∀ {k:Nat} {p:List Int × Rat},k <= 6->n <= 4->p ∈ chQ rs k [(u,1)]->p.1.sum=u.sum + g * (k:Int)
  | 0,p,_,_,h=>by rw [List.mem_singleton.mp h];simp
  | k + 1,p,hk,n4,h=>by
    rcases nextLQ_keys (show p ∈ nextLQ rs (chQ rs k [(u,1)]) [] from h) with ⟨q,hq,b,hb,e⟩ | ⟨q,hq,_⟩
    · have ih:=ch_sum hR hu hg (by omega) n4 hq
      have hqu:=(ch_ok hR n4 hu k (by omega)).1 q hq
      obtain ⟨j,h1,_,h3⟩:=mem_uboL hb
      rw [Nat.zero_add] at h3
      have hj:j < n:=by rw [<- hqu.len];exact h1
      have hr:=hR.at hj
      have hm:rs.getD j [] ∈ rs:=by
        have hj':j < rs.length:=by rw [hR.len];exact hj
        rw [List.getD_eq_getElem?_getD,List.getElem?_eq_getElem hj'];exact List.getElem_mem hj'
      rw [e,h3,addL_sum (by rw [hqu.len,hr.len]),ih,hg _ hm]
      have:((k + 1:Nat):Int)=(k:Int) + 1:=by omega
      rw [this,Int.mul_add];omega
    · simp at hq
end Mq
namespace Mq
open PySem PySem.Spec L2 Mt Md
def aloR (n:Nat) (c:Int) (i:Nat):List Int:=(List.range n).map fun j=>c * (if i=j then 1 else 0)
def alo (n:Nat) (c:Int):List (List Int):=(List.range n).map fun i=>aloR n c i
theorem alo_get {n:Nat} {c:Int} {i:Nat} (h:i < n):(alo n c).getD i []=aloR n c i:=by
  unfold alo
  rw [List.getD_eq_getElem?_getD,List.getElem?_map,List.getElem?_range h];rfl
theorem aloR_get {n:Nat} {c:Int} {i j:Nat} (h:j < n):(aloR n c i).getD j 0=c * (if i=j then 1 else 0):=by
  unfold aloR
  rw [List.getD_eq_getElem?_getD,List.getElem?_map,List.getElem?_range h];rfl
theorem alo_rul {n:Nat} {c:Int} (h0:0 <= c) (h5:c <= 5):Rul n 5 (alo n c):=by
  refine ⟨by unfold alo;rw [List.length_map,List.length_range],fun r hr=>?_⟩
  obtain ⟨i,_,e⟩:=List.mem_map.mp hr
  rw [<- e]
  refine ⟨by unfold aloR;rw [List.length_map,List.length_range],fun x hx=>?_⟩
  obtain ⟨j,_,e2⟩:=List.mem_map.mp hx
  rw [<- e2]
  split <;> omega
theorem sumI_ite (c:Int) (i:Nat):∀ n:Nat,((List.range n).map fun j=>c * (if i=j then 1 else 0)).sum=if i < n then c else 0
  | 0=>by simp
  | n + 1=>by
    rw [List.range_succ,List.map_append,List.sum_append,sumI_ite c i n]
    simp only [List.map_cons,List.map_nil,List.sum_cons,List.sum_nil]
    by_cases h:i < n
    · rw [if_pos h,if_neg (show ¬ i=n by omega),if_pos (show i < n + 1 by omega)];omega
    · by_cases e:i=n
      · rw [if_neg h,if_pos e,if_pos (show i < n + 1 by omega)];omega
      · rw [if_neg h,if_neg e,if_neg (show ¬ i < n + 1 by omega)];omega
theorem aloR_sum {n:Nat} {c:Int} {i:Nat} (h:i < n):(aloR n c i).sum=c:=by
  unfold aloR;rw [sumI_ite,if_pos h]
theorem addL_getD {u r:List Int} {k:Nat} (h:u.length=r.length) (hk:k < u.length):(addL u r).getD k 0=u.getD k 0 + r.getD k 0:=by
  unfold addL
  have hk2:k < r.length:=by omega
  rw [List.getD_eq_getElem?_getD,List.getElem?_zipWith,List.getElem?_eq_getElem hk,List.getElem?_eq_getElem hk2,List.getD_eq_getElem?_getD,List.getD_eq_getElem?_getD,List.getElem?_eq_getElem hk,List.getElem?_eq_getElem hk2];rfl
theorem sumQ_mul (c:Rat):∀ l:List Rat,sumQ l * c=sumQ (l.map fun x=>x * c)
  | []=>by show (0:Rat) * c=0;grind
  | x :: l=>by
    show (x + sumQ l) * c=x * c + sumQ (l.map fun x=>x * c)
    rw [<- sumQ_mul c l];grind
theorem sumQ_ite (f:Nat->Rat) (k:Nat):∀ n:Nat,sumQ ((List.range n).map fun i=>if i=k then f i else 0)=if k < n then f k else 0
  | 0=>by simp [sumQ]
  | n + 1=>by
    rw [List.range_succ,List.map_append,sumQ_append,sumQ_ite f k n]
    show _ + ((if n=k then f n else 0) + 0)=_
    by_cases h:k < n
    · rw [if_pos h,if_neg (show ¬ n=k by omega),if_pos (show k < n + 1 by omega)];grind
    · by_cases e:n=k
      · rw [if_neg h,if_pos e,if_pos (show k < n + 1 by omega),e];grind
      · rw [if_neg h,if_neg e,if_neg (show ¬ k < n + 1 by omega)];grind
theorem sumQ_addr (f g:Nat->Rat):∀ n:Nat,sumQ ((List.range n).map fun i=>f i + g i)=sumQ ((List.range n).map f) + sumQ ((List.range n).map g)
  | 0=>by show (0:Rat)=0 + 0;grind
  | n + 1=>by
    rw [List.range_succ,List.map_append,List.map_append,List.map_append,sumQ_append,sumQ_append,sumQ_append,sumQ_addr f g n]
    show _ + (f n + g n + 0)=_ + (f n + 0) + (_ + (g n + 0))
    grind
theorem alo_fair {n m:Nat} {u:List Int} {c:Int} {k:Nat} (h0:0 <= c) (hu:Urn n m u) (hk:k < n):opQ (alo n c) (fun v=>share v k) u=share u k:=by
  have hs:=hu.pos
  have hs':0 < u.sum + c:=by omega
  have hS:=cast_pos hs
  have hS':=cast_pos hs'
  have key:∀ i,i < n->share (addL u ((alo n c).getD i [])) k * (((u.sum + c:Int)):Rat)=((u.getD k 0:Int):Rat) + (if i=k then ((c:Int):Rat) else 0):=fun i hi=>by
    rw [alo_get hi]
    have l1:u.length=(aloR n c i).length:=by rw [hu.len];unfold aloR;rw [List.length_map,List.length_range]
    unfold share
    rw [addL_sum l1,aloR_sum hi,cut_self_mul hs',addL_getD l1 (by rw [hu.len];exact hk),aloR_get hk]
    by_cases e:i=k
    · rw [if_pos e,if_pos e,Int.mul_one];push_cast;rfl
    · rw [if_neg e,if_neg e,Int.mul_zero,Int.add_zero];grind
  have hm:∀ i,share u i * ((u.sum:Int):Rat)=((u.getD i 0:Int):Rat):=fun i=>cut_self_mul hs
  refine rat_eq_of (s:=((u.sum:Int):Rat) * ((u.sum + c:Int):Rat)) (Rat.mul_pos hS hS') ?_
  unfold opQ
  rw [sumQ_mul,List.map_map,hu.len]
  have e:((List.range n).map ((fun x=>x * (((u.sum:Int):Rat) * ((u.sum + c:Int):Rat))) ∘ fun i=>share u i * share (addL u ((alo n c).getD i [])) k))=(List.range n).map fun i=>((u.getD i 0:Int):Rat) * ((u.getD k 0:Int):Rat) + (if i=k then ((u.getD i 0:Int):Rat) * ((c:Int):Rat) else 0):=List.map_congr_left fun i hi=>by
    have h1:=key i (List.mem_range.mp hi)
    have h2:=hm i
    show share u i * share (addL u ((alo n c).getD i [])) k * (((u.sum:Int):Rat) * ((u.sum + c:Int):Rat))=_
    have:share u i * share (addL u ((alo n c).getD i [])) k * (((u.sum:Int):Rat) * ((u.sum + c:Int):Rat))=(share u i * ((u.sum:Int):Rat)) * (share (addL u ((alo n c).getD i [])) k * ((u.sum + c:Int):Rat)):=by grind
    rw [this,h1,h2]
    by_cases e:i=k
    · rw [if_pos e,if_pos e];grind
    · rw [if_neg e,if_neg e];grind
  rw [e,sumQ_addr,sumQ_ite (fun i=>((u.getD i 0:Int):Rat) * ((c:Int):Rat)) k n,if_pos hk]
  have e2:sumQ ((List.range n).map fun i=>((u.getD i 0:Int):Rat) * ((u.getD k 0:Int):Rat))=((u.sum:Int):Rat) * ((u.getD k 0:Int):Rat):=by
    have b:=ball_sum u
    rw [hu.len] at b
    rw [<- b,sumQ_mul,List.map_map];rfl
  rw [e2]
  have h2:=hm k
  have c1:((u.sum + c:Int):Rat)=((u.sum:Int):Rat) + ((c:Int):Rat):=by push_cast;rfl
  have:share u k * (((u.sum:Int):Rat) * ((u.sum + c:Int):Rat))=(share u k * ((u.sum:Int):Rat)) * ((u.sum + c:Int):Rat):=by grind
  rw [this,h2,c1];grind
theorem alo_stay {n:Nat} {u:List Int} {c:Int} {j:Nat} (h0:0 <= c) (h5:c <= 5) (n4:n <= 4) (hu:Urn n 20 u) (hj:j < n):∀ k:Nat,k <= 6->linQ (chQ (alo n c) k [(u,1)]) (fun v=>share v j)=share u j
  | 0,_=>by show (1:Rat) * share u j + 0=_;grind
  | k + 1,hk=>by
    have hR:=alo_rul (n:=n) h0 h5
    have hK:=(ch_ok hR n4 hu k (by omega)).1
    show linQ (nextQ _ _) _=_
    rw [linQ_next hK.pos,linQ_congr (ψ:=fun v=>share v j) fun p hp=>alo_fair h0 (hK p hp) hj]
    exact alo_stay h0 h5 n4 hu hj k (by omega)
end Mq
namespace Mq
open PySem PySem.Spec L2 Mt Md
end Mq
set_option maxHeartbeats 1000000
namespace Mq
open PySem PySem.Spec L2 Mt Md
structure Cn (u:List Int) (rs:List (List Int)) (n k:Nat) (c:List Int):Prop where
  len:c.length=n
  nn:∀ x ∈ c,0 <= x/\x <= (k:Int)
  urn:Urn n (20 + 5 * k) (beh u rs c)
def cntD (n:Nat) (ds:List Nat):List Int:=(List.range n).map fun j=>((ds.count j:Nat):Int)
structure DrOk (u:List Int) (rs:List (List Int)) (n k:Nat) (e:List Nat × List Int × Rat):Prop where
  len:e.1.length=k
  lt:∀ j ∈ e.1,j < n
  urn:e.2.1=beh u rs (cntD n e.1)
  ok:Urn n (20 + 5 * k) e.2.1
  vq:Vq (LL ^ k) 1 e.2.2
end Mq
namespace Mq
open PySem PySem.Spec L2 Mt Md
end Mq
namespace Mt
def rp (s g:Int):Nat->Int
  | 0=>1
  | n + 1=>rp s g n * (s + (n:Int) * g)
abbrev fct (n:Nat):Int:=rp 1 1 n
def tot:List Nat->Nat
  | []=>0
  | c :: cs=>c + tot cs
def ords (a:Int):List Nat->Int
  | []=>a
  | c :: cs=>ords (a / fct c) cs
def ordN (cs:List Nat):Int:=ords (fct (tot cs)) cs
def rps (g:Int):List Int->List Nat->Int
  | b :: bs,c :: cs=>rp b g c * rps g bs cs
  | _,_=>1
def cch (ns:List Int) (g:Int) (cs:List Nat):Rat:=cut (ordN cs * rps g ns cs) (rp ns.sum g (tot cs))
theorem cut_eq {a b c d:Int} (hb:0 < b) (hd:0 < d) (h:a * d=c * b):cut a b=cut c d:=by
  unfold cut
  rw [Rat.mkRat_eq_iff (by omega) (by omega)]
  have e1:((b.toNat:Nat):Int)=b:=by omega
  have e2:((d.toNat:Nat):Int)=d:=by omega
  rw [e1,e2,h]
end Mt
namespace Mt
def bnow (g:Int) (ns:List Int) (cs:List Nat):List Int:=List.zipWith (fun b (c:Nat)=>b + g * (c:Int)) ns cs
end Mt
namespace Mq
open PySem PySem.Spec L2 Mt Md
def decN (c:List Nat) (j:Nat):List Nat:=c.set j (c.getD j 0 - 1)
def parts (ns:List Int) (g:Int) (c:List Nat) (j:Nat):Rat:=if 0 < c.getD j 0 then cch ns g (decN c j) * share (bnow g ns (decN c j)) j else 0
end Mq
namespace Mq
open PySem PySem.Spec L2 Mt Md
end Mq
set_option maxHeartbeats 4000000
namespace Mq
open PySem PySem.Spec PyProof.Rows L2 Mt Md
structure Mor (n m N B L:Nat) (D:TabQ) (S:(List Int->Rat)->Rat) (ks:List Int->Prop):Prop where
  keys:KeysQ n m D
  nd:NDq D
  all:AllQ N B D
  len:D.length <= L
  lin:∀ φ,linQ D φ=S φ
  mem:∀ k,k ∈ D.map (·.1) ↔ ks k
end Mq
namespace Mq
open PySem PySem.Spec PyProof.Rows L2 Mt Md
theorem linQ_smul (φ:List Int->Rat) (c:Rat):∀ T:TabQ,linQ T φ * c=linQ T (fun v=>φ v * c)
  | []=>by show (0:Rat) * c=0;grind
  | p :: T=>by rw [linQ_cons,linQ_cons,<- linQ_smul φ c T];grind
end Mq
namespace Mq
open PySem PySem.Spec L2 Mt Md
theorem map_same {α β:Type} (b:β):∀ l:List α,l.map (fun _=>b)=List.replicate l.length b
  | []=>rfl
  | _ :: l=>by rw [List.map_cons,map_same b l];rfl
theorem aloR_zero (n i:Nat):aloR n 0 i=List.replicate n 0:=by
  unfold aloR
  have e:(fun j=>(0:Int) * (if i=j then 1 else 0))=fun _:Nat=>(0:Int):=by funext j;simp
  rw [e,map_same,List.length_range]
theorem addL_zero:∀ (u:List Int),addL u (List.replicate u.length 0)=u
  | []=>rfl
  | x :: u=>by
    show (x + 0) :: addL u (List.replicate u.length 0)=x :: u
    rw [addL_zero u];simp
theorem alo_zero (n:Nat):alo n 0=List.replicate n (List.replicate n 0):=by
  unfold alo
  have e:(fun i=>aloR n 0 i)=fun _:Nat=>List.replicate n (0:Int):=by funext i;exact aloR_zero n i
  rw [e,map_same,List.length_range]
theorem none_key {n:Nat} {u:List Int} (n4:n <= 4) (hu:Urn n 20 u):∀ {k:Nat} {p:List Int × Rat},k <= 6->p ∈ chQ (alo n 0) k [(u,1)]->p.1=u
  | 0,p,_,h=>by rw [List.mem_singleton.mp h]
  | k + 1,p,hk,h=>by
    rcases nextLQ_keys (show p ∈ nextLQ (alo n 0) (chQ (alo n 0) k [(u,1)]) [] from h) with ⟨q,hq,b,hb,e⟩ | ⟨q,hq,_⟩
    · have ih:=none_key n4 hu (by omega) hq
      obtain ⟨j,h1,_,h3⟩:=mem_uboL hb
      rw [ih] at h1 h3
      rw [Nat.zero_add,alo_get (by rw [<- hu.len];exact h1),aloR_zero,<- hu.len,addL_zero] at h3
      rw [e,h3]
    · cases hq
theorem none_len {n:Nat} {u:List Int} (n1:1 <= n) (n4:n <= 4) (hu:Urn n 20 u) (h0:0 < u.getD 0 0) {k:Nat} (hk:k <= 6):(chQ (alo n 0) k [(u,1)]).length=1:=by
  have hnd:=(ch_ok (alo_rul (n:=n) (c:=0) (by decide) (by decide)) n4 hu k hk).2.1
  have hst:=alo_stay (n:=n) (c:=0) (j:=0) (by decide) (by decide) n4 hu (by omega) k hk
  have hkey:=fun p hp=>none_key n4 hu hk (p:=p) hp
  generalize chQ (alo n 0) k [(u,1)]=T at hnd hst hkey
  match T,hnd,hst,hkey with
  | [],_,hst,_ =>
    have:share u 0=0:=hst.symm
    have h2:0 < (share u 0).num:=by
      unfold share
      rw [cut_num hu.pos]
      have hg:0 < Int.gcd (u.getD 0 0) u.sum:=Int.gcd_pos_of_ne_zero_left _ (by omega)
      exact Int.ediv_pos_of_pos_of_dvd h0 (by omega) (Int.gcd_dvd_left _ _)
    rw [this] at h2
    exact absurd h2 (by decide)
  | [p],_,_,_=>rfl
  | p :: q :: r,hnd,_,hkey =>
    unfold NDq at hnd
    have h1:=hkey p List.mem_cons_self
    have h2:=hkey q (List.mem_cons_of_mem _ List.mem_cons_self)
    rw [List.map_cons,List.map_cons,List.nodup_cons] at hnd
    exact absurd (by rw [h1,h2];exact List.mem_cons_self) hnd.1
theorem cut_mulZ {m t s:Int} (hs:0 < s):((m:Int):Rat) * cut t s=cut (m * t) s:=by
  unfold cut
  have h:s.toNat ≠ 0:=by omega
  rw [show ((m:Int):Rat)=mkRat m 1 from by rw [Rat.mkRat_one],Rat.mkRat_mul_mkRat,Nat.one_mul]
theorem cut_self {s t:Int} (hs:0 < s):cut (s * t) s=((t:Int):Rat):=by
  rw [cut_eq (c:=t) (d:=1) hs (by decide) (by rw [Int.mul_one,Int.mul_comm])]
  unfold cut
  exact Rat.mkRat_one ..
theorem mean_alo {n:Nat} {u:List Int} {c:Int} {j:Nat} (h0:0 <= c) (h5:c <= 5) (n4:n <= 4) (hu:Urn n 20 u) (hj:j < n) {k:Nat} (hk:k <= 6):linQ (chQ (alo n c) k [(u,1)]) (fun v=>((v.getD j 0:Int):Rat))=cut (u.getD j 0 * (u.sum + c * (k:Int))) u.sum:=by
  have hR:=alo_rul (n:=n) h0 h5
  have hg:∀ r ∈ alo n c,r.sum=c:=fun r hr=>by
    obtain ⟨i,hi,e⟩:=List.mem_map.mp hr
    rw [<- e]
    exact aloR_sum (List.mem_range.mp hi)
  have hc:linQ (chQ (alo n c) k [(u,1)]) (fun v=>((v.getD j 0:Int):Rat))=linQ (chQ (alo n c) k [(u,1)]) (fun v=>share v j * (((u.sum + c * (k:Int)):Int):Rat)):=by
    refine linQ_congr fun p hp=>?_
    have hs:=ch_sum hR hu hg hk n4 hp
    have hp':=(ch_ok hR n4 hu k hk).1 p hp
    have hps:=hp'.pos
    rw [<- hs,Rat.mul_comm]
    unfold share
    rw [cut_mulZ hps,cut_self hps]
  rw [hc,<- linQ_smul (fun v=>share v j),alo_stay h0 h5 n4 hu hj k hk,Rat.mul_comm]
  unfold share
  rw [cut_mulZ hu.pos,Int.mul_comm]
end Mq
set_option maxHeartbeats 8000000
namespace G
open PySem PySem.Spec PyProof.Rows L2 Mt Mq
theorem name_1 {x:Str} {c:Nat} (e:x.cps.toList=[c]) (h:97 <= c/\c <= 122):NameS x:=by
  have hl:x.length=1:=by
    show x.cps.size=1
    rw [<- Array.length_toList,e];rfl
  refine ⟨by omega,by omega,fun d hd=>?_⟩
  rw [e] at hd
  rw [List.mem_singleton.mp hd];exact h
theorem name_a:NameS "a":=name_1 (c:=97) (by decide +kernel) (by decide)
theorem name_b:NameS "b":=name_1 (c:=98) (by decide +kernel) (by decide)
theorem name_c:NameS "c":=name_1 (c:=99) (by decide +kernel) (by decide)
theorem name_q:NameS "q":=name_1 (c:=113) (by decide +kernel) (by decide)
theorem line_sa:("show a":Str)=lineT ["show","a"]:=by decide +kernel
theorem line_sb:("show b":Str)=lineT ["show","b"]:=by decide +kernel
theorem line_sc:("show c":Str)=lineT ["show","c"]:=by decide +kernel
theorem join_tl (ws:List Str):(lineT ws).cps.toList=jl 32 (ws.map fun y=>y.cps.toList):=by
  unfold lineT
  rw [txt_join,blank,join_jl]
theorem jl_snoc (z:List Nat):∀ L:List (List Nat),L ≠ []->jl 32 (L ++ [z])=jl 32 L ++ (32 :: z)
  | [],h=>absurd rfl h
  | [a],_=>rfl
  | a :: c :: L,_=>by
    show a ++ 32 :: jl 32 (c :: L ++ [z])=a ++ 32 :: jl 32 (c :: L) ++ (32 :: z)
    rw [jl_snoc z (c :: L) (by simp)]
    simp
theorem line_app {ws:List Str} (hn:ws ≠ []) (y:Str):lineT ws ++ (" " ++ y)=lineT (ws ++ [y]):=by
  refine str_ext ?_
  show ((lineT ws).cps ++ ((" ":Str).cps ++ y.cps)).toList=_
  rw [Array.toList_append,Array.toList_append,join_tl,join_tl,List.map_append,List.map_cons,List.map_nil,jl_snoc _ _ (by simpa using hn)]
  have e:(" ":Str).cps.toList=[32]:=by decide +kernel
  rw [e];rfl
theorem line_pre {p:Str} {ws:List Str} (hp:p=lineT ws ++ " ") (hn:ws ≠ []) (x:Str):p ++ x=lineT (ws ++ [x]):=by
  rw [hp,str_assoc,line_app hn]
theorem line_ua (x:Str):("urn a ":Str) ++ x=lineT ["urn","a",x]:=line_pre (ws:=["urn","a"]) (by decide +kernel) (by simp) x
theorem line_uq (x:Str):("urn q ":Str) ++ x=lineT ["urn","q",x]:=line_pre (ws:=["urn","q"]) (by decide +kernel) (by simp) x
theorem line_ca (x:Str):("chance a ":Str) ++ x=lineT ["chance","a",x]:=line_pre (ws:=["chance","a"]) (by decide +kernel) (by simp) x
theorem line_fa (x:Str):("fair a ":Str) ++ x=lineT ["fair","a",x]:=line_pre (ws:=["fair","a"]) (by decide +kernel) (by simp) x
theorem line_st (x:Str):("stands a ":Str) ++ x ++ " 5"=lineT ["stands","a",x,tx 5]:=by
  rw [line_pre (ws:=["stands","a"]) (by decide +kernel) (by simp) x,show (" 5":Str)=" " ++ tx 5 by decide +kernel,line_app (by simp)];rfl
theorem line_mn (x y:Str):("mean a ":Str) ++ x ++ " " ++ y=lineT ["mean","a",x,y]:=by
  rw [line_pre (ws:=["mean","a"]) (by decide +kernel) (by simp) x,str_assoc,line_app (by simp)];rfl
theorem neI {H:Hp} {p q:Addr} {ns:List Int} {Q:VK} (hl:ns.length <= 4) (hp:H p=some (.tup (ns.map V.int))) (hq:H q=some (.tup (ns.map V.int))) (h:Q (.bl false) H):rNeD (.ref p) (.ref q) H Q:=by
  refine ⟨p + q + 1,DI ns,DI ns,Dt.mkI (Nat.ne_of_lt (by omega)) hp,Dt.mkI (Nat.ne_of_lt (by omega)) hq,shapedI' ns,shapedI' ns,?_⟩
  rw [eqvI,decide_eq_true rfl]
  exact h
def Tp (H H':Hp):Prop:=∀ a xs,H a=some (.tup xs)->H' a=some (.tup xs)
theorem Dts.tp {d:Addr} {H H':Hp} (h:Tp H H'):∀ {rs:List (List Int)} {xs:List V},Dts d H (rs.map DI) xs->Dts d H' (rs.map DI) xs
  | [],xs,hd=>by unfold Dts at hd ⊢;exact hd
  | r :: rs,xs,hd=>by
    rw [List.map_cons] at hd ⊢
    unfold Dts at hd ⊢
    obtain ⟨x,t,e,h1,h2⟩:=hd
    obtain ⟨a,e2,na,ha⟩:=h1.di
    subst e2
    exact ⟨_,t,e,Dt.mkI na (h _ _ ha),Dts.tp h h2⟩
theorem Dt.tp {d:Addr} {H H':Hp} (h:Tp H H') {rs:List (List Int)} {v:V} (hv:Dt d H (DR rs) v):Dt d H' (DR rs) v:=by
  obtain ⟨a,xs,e,na,ha,hd⟩:=hv.untup
  subst e
  exact Dt.tup na (h _ _ ha) (Dts.tp h hd)
structure Wd (C l:Addr) (b:Bool) (H0 H:Hp) (d m ua:Addr) (kvs:List (Key × V)) (ns:List Int) (rs:List (List Int)) (rv:V):Prop where
  s:Sta l b H0 H
  dk:∃ dx,H d=some (.ins C dx [("urns_by_name",.ref m)])
  mm:H m=some (.dK kvs)
  u:H ua=some (.tup (ns.map V.int))
  r:Dt l H (DR rs) rv
  f:H0 m=none
section
variable {C l d m ua:Addr} {b:Bool} {H0 H H':Hp} {kvs:List (Key × V)} {ns:List Int} {rs:List (List Int)} {rv:V}
theorem Wd.same (W:Wd C l b H0 H d m ua kvs ns rs rv) (g:Same H H'):Wd C l b H0 H' d m ua kvs ns rs rv:=⟨W.s.same g,(let ⟨dx,h⟩:=W.dk;⟨dx,g _ _ h⟩),g _ _ W.mm,g _ _ W.u,W.r.kp (g.kp l),W.f⟩
theorem Wd.desk (W:Wd C l b H0 H d m ua kvs ns rs rv):DeskO C H d m kvs:=let ⟨dx,h⟩:=W.dk;⟨dx,h,W.mm⟩
theorem Wd.nl (W:Wd C l b H0 H d m ua kvs ns rs rv):ua ≠ l:=W.s.neL W.u
theorem Wd.dt (W:Wd C l b H0 H d m ua kvs ns rs rv):Dt l H (DI ns) (.ref ua):=Dt.mkI W.nl W.u
theorem Wd.tput (W:Wd C l b H0 H d m ua kvs ns rs rv) (o:HO):Tp H (upd H m o):=fun a xs h=>by rw [upd_ne (ne_of h W.mm (by intro z;cases z))];exact h
theorem Wd.put (W:Wd C l b H0 H d m ua kvs ns rs rv) (kvs':List (Key × V)):Wd C l b H0 (upd H m (.dK kvs')) d m ua kvs' ns rs rv:=by
  obtain ⟨k,x,hx,ok⟩:=W.s
  obtain ⟨dx,hd⟩:=W.dk
  exact ⟨⟨fun a o ha e=>by rw [upd_ne (ne_of_none e W.f)];exact k a o ha e,x,by rw [upd_ne (ne_of hx W.mm (by intro z;cases z))];exact hx,ok⟩,⟨dx,by rw [upd_ne (ne_of hd W.mm (by intro z;cases z))];exact hd⟩,upd_same,W.tput _ _ _ W.u,Dt.tp (W.tput _) W.r,W.f⟩
theorem Wd.tgo (W:Wd C l b H0 H d m ua kvs ns rs rv) (o:HO):Tp H (upd H l o):=fun a xs h=>by rw [upd_ne (W.s.neL h)];exact h
theorem Wd.go (W:Wd C l b H0 H d m ua kvs ns rs rv) {x:Int} (ok:StOk x b):Wd C l b H0 (upd H l (.lst [.int x,.bl b])) d m ua kvs ns rs rv:=by
  obtain ⟨dx,hd⟩:=W.dk
  obtain ⟨k,y,hy,_⟩:=id W.s
  exact ⟨W.s.go ok,⟨dx,by rw [upd_ne (ne_of hd hy (by intro z;cases z))];exact hd⟩,by rw [upd_ne (ne_of W.mm hy (by intro z;cases z))];exact W.mm,W.tgo _ _ _ W.u,Dt.tp (W.tgo _) W.r,W.f⟩
end
section
variable {P:Program} {w:World} {K:PySem.W.Frag} {mg:Str->Option Value} {base:Heap} {f:Addr} {fd:FuncData} {CD:Addr} {ec:Nat->Addr}
def sp_cut:Sp:=fun vs H Q _=>∃ t b:Int,vs=[.int t,.int b]/\0 <= t/\0 < b/\b.natAbs.log2 < 9000/\∀ p H',Same H H'->H' p=some (.tup ((fr (cut t b)).map V.int))->Q (.ref p) H'
abbrev s_cut:Stmt:=top 70
theorem sc_cut:FnScope ["_law_top","_law_bottom","_law_one","_law_other"] ["_law_top","_law_bottom"] (defScope s_cut):=⟨rfl,rfl,rfl,by decide +kernel,rfl,by decide +kernel,by decide +kernel⟩
theorem ok_cut (F:Fun K "_law_cut" "_law_cut" s_cut f fd) (B:Bt mg):FnOk P w K mg base CX0 1 f fd ["_law_top","_law_bottom"] sp_cut:=by
  refine F.ok sc_cut (fun vs H Q E h=>?_) (fun cdv A outer s H vs Q E hr h=>?_)
  · obtain ⟨x,y,rfl,_⟩:=h
    rfl
  obtain ⟨t,b,rfl,ht,hb,hlog,q⟩:=h
  refine ⟨_,pss_cons (ps_par (i:=2) (j:=3) rfl sc_cut.nd rfl rfl (by decide) rfl rfl (pa_cons (pe_callB call_abs rfl B.abs boot_abs (pa_cons (pv 0) pa_nil)) (pa_cons (pv 1) pa_nil)) rfl)
    (pss_cons (ps_while PassesOwn.never (pt_cmpR op_gt (pv 3) pe_int (nomark _)) (pss_one (ps_par (i:=2) (j:=3) rfl sc_cut.nd rfl rfl (by decide) rfl rfl (pa_cons (pv 3) (pa_cons (pe_op op_mod (pv 2) (pv 3)) pa_nil)) rfl)))
    (pss_one (ps_ret (pe_tup (pa_cons (pe_op op_fdivB (pv 0) (pv 2)) (pa_cons (pe_op op_fdivB (pv 1) (pv 2)) pa_nil)))))),?_⟩
  have g:=gcd_log (t:=t) hb hlog
  refine ⟨_,rfl,t,rfl,_,rfl,_,_,rfl,?_⟩
  rw [if_neg (show ¬ t < 0 by omega)]
  refine ⟨fun m σ H2=>H2=H/\∃ x' y':Int,0 <= x'/\0 <= y'/\σ=[some (.int t),some (.int b),some (.int x'),some (.int y')]/\m=y'.toNat/\Int.gcd x' y'=Int.gcd t b,⟨_,rfl,t,b,ht,by omega,rfl,rfl,rfl⟩,?_⟩
  rintro m σ H2 ⟨rfl,x',y',h1,h2,rfl,rfl,e⟩
  refine ⟨_,rfl,_,_,rfl,rfl,_,rfl,?_⟩
  by_cases hz:0 < y'
  · rw [decide_eq_true hz]
    refine iteT ⟨fun σ' H'=>H'=H2/\∃ a c:Int,0 <= a/\0 <= c/\σ'=[some (.int t),some (.int b),some (.int a),some (.int c)]/\c.toNat < y'.toNat/\Int.gcd a c=Int.gcd t b,?_,?_⟩
    · rintro σ' H' ⟨rfl,a,c,ha,hc,rfl,hlt,e2⟩
      exact ⟨_,hlt,rfl,a,c,ha,hc,rfl,rfl,e2⟩
    · have hm:=Int.emod_nonneg x' (show y' ≠ 0 by omega)
      have hm2:=Int.emod_lt_of_pos x' hz
      refine ⟨_,rfl,_,rfl,_,rfl,_,_,rfl,rfl,hz,_,_,rfl,?_⟩
      exact ⟨rfl,y',x' % y',h2,hm,rfl,by omega,by rw [gcd_step h1 hz];exact e⟩
  · rw [decide_eq_false hz]
    have hy:y'=0:=by omega
    subst hy
    have e2:x'=((Int.gcd t b:Nat):Int):=by rw [<- e,Int.gcd_zero_right];omega
    subst e2
    refine iteF ⟨_,rfl,_,rfl,_,_,rfl,rfl,g,_,rfl,_,rfl,_,_,rfl,rfl,g,(by show 2 <= sizeLine;decide),fun p hp=>?_⟩
    refine q p _ (Same.new hp) ?_
    rw [upd_same,fr_cut hb];rfl
structure Cals (P:Program) (w:World) (K:PySem.W.Frag) (mg:Str->Option Value) (base:Heap) (ec:Nat->Addr) (CD:Addr):Prop where
  state:Cal P w K mg base 12 "_law_state" ["_law_script","_law_k"] (sp_state K)
  take:Cal P w K mg base 12 "_law_take" ["_law_state_here","_law_many"] sp_take
  rule:Cal P w K mg base 12 "_law_rule" ["_law_state_here","_law_kinds"] sp_lrule
  cut:Cal P w K mg base 12 "_law_cut" ["_law_top","_law_bottom"] sp_cut
  ft:Cal P w K mg base 12 "fraction_text" ["fraction"] sp_ftB
  ut:Cal P w K mg base 12 "urn_text" ["urn"] sp_ut
  rt:Cal P w K mg base 12 "rule_text" ["rule"] sp_rt
  ur:Cal P w K mg base 12 "urn_read" ["text"] sp_ur
  aft:Cal P w K mg base 12 "after" ["urn","rule","kind"] sp_aftV
  ch:CalX P w K mg base 12 "chance" ["urn","kind"] (sp_chance ec)
  desk:CalK P w K mg base CD 11 "Desk" ["self"] (sp_init CD)
  say:CalM P w K mg base CD 12 "say" ["self","line"] (sp_say CD)
def spLaw (K:PySem.W.Frag):Sp:=fun vs H Q _=>∃ (a:Addr) (ns:List Int),vs=[.ref a]/\SqL K H a (ns.map V.int)/\ns.length <= 63/\∀ H',Q (.bl true) H'
abbrev s_law:Stmt:=top 71
theorem sc_law:FnScope ["_law_script","_law_k","_law_state_here","_law_kinds","_law_urn","_law_rule_here","_law_desk","_law_kind","_law_nothing","_law_more","_law_many","_law_alone","_law_due","_law_other","_law_words"] ["_law_script"] (defScope s_law):=⟨rfl,rfl,rfl,by decide +kernel,rfl,by decide +kernel,by decide +kernel⟩
abbrev nm_law:List Str:=["_law_script","_law_k","_law_state_here","_law_kinds","_law_urn","_law_rule_here","_law_desk","_law_kind","_law_nothing","_law_more","_law_many","_law_alone","_law_due","_law_other","_law_words"]
def tm_law {cdv:Value} {A:Around} {outer:List Env} {s:Shared} {H:Hp} {E:XK} (B:Bt mg) (B2:Bt2 mg) (D:DeskK K CD) (C:Cals P w K mg base ec CD)
    (hr:Room 12 (A.deeper (envOfC "law" (defScope s_law) s.heap.objs.size f cdv))):{t:TS // PSs (cxOf CX0 P w K mg base nm_law "law" (defScope s_law) f cdv A outer s H E).nox (defBody s_law) t} :=
  ⟨_,(@pss_cons _ _ _ _ _ (ps_for PassesOwn.never rfl (pi_range1 rfl B.range (@pa_cons _ _ _ _ _ (pe_callB (call_max2 rfl) rfl B.max boot_max (@pa_cons _ _ _ _ _ pe_int (@pa_cons _ _ _ _ _ (pe_callB (call_min2 rfl) rfl B.min boot_min (@pa_cons _ _ _ _ _ (pe_callB call_len_seq rfl B.len PySem.boot_len (@pa_cons _ _ _ _ _ (pv 0) pa_nil (by rfl))) (@pa_cons _ _ _ _ _ pe_int pa_nil (by rfl)) (by rfl))) pa_nil (by rfl)) (by rfl))) pa_nil (by rfl))) (pg_name (i:=1) sc_law.nd rfl (Or.inl rfl))
    (@pss_cons _ _ _ _ _ (@ps_set _ _ 2 _ _ _ _ sc_law.nd rfl (Or.inr rfl) (pe_cal C.state hr rfl (@pa_cons _ _ _ _ _ (pv 0) (@pa_cons _ _ _ _ _ (pv 1) pa_nil (by rfl)) (by rfl))) (by rfl) (by first | exact .inl rfl | exact .inr rfl))
    (@pss_cons _ _ _ _ _ (@ps_set _ _ 3 _ _ _ _ sc_law.nd rfl (Or.inr rfl) (@pe_op _ _ _ _ _ _ _ _ op_add pe_int (pe_cal C.take hr rfl (@pa_cons _ _ _ _ _ (pv 2) (@pa_cons _ _ _ _ _ pe_int pa_nil (by rfl)) (by rfl)))) (by rfl) (by first | exact .inl rfl | exact .inr rfl))
    (@pss_cons _ _ _ _ _ (@ps_set _ _ 4 _ _ _ _ sc_law.nd rfl (Or.inr rfl) (pe_callTy call_tuple_of rfl B.tuple boot_tuple (@pa_cons _ _ _ _ _ (pe_compG (N:=["_law_kind","_law_state_here"]) (ix:=[none,some 2]) (ifs:=[]) (tc:=tTrue) rfl (pi_range1 rfl B.range (@pa_cons _ _ _ _ _ (pv 3) pa_nil (by rfl)))
      (fun s H ex=>pg_c (i:=0) (by decide +kernel) rfl (Or.inl rfl) (.inr rfl)) (fun s H ex=>pifs_nil) (fun s H ex=>(@pe_op _ _ _ _ _ _ _ _ op_add pe_int (pe_cal C.take hr rfl (@pa_cons _ _ _ _ _ (pv 1) (@pa_cons _ _ _ _ _ pe_int pa_nil (by rfl)) (by rfl))))) rfl (by decide +kernel) (by rfl) (by rfl) (fun _=>rfl)) pa_nil (by rfl))) (by rfl) (by first | exact .inl rfl | exact .inr rfl))
    (@pss_cons _ _ _ _ _ (@ps_set _ _ 5 _ _ _ _ sc_law.nd rfl (Or.inl rfl) (pe_cal C.rule hr rfl (@pa_cons _ _ _ _ _ (pv 2) (@pa_cons _ _ _ _ _ (pv 3) pa_nil (by rfl)) (by rfl))) (by rfl) (by first | exact .inl rfl | exact .inr rfl))
    (@pss_cons _ _ _ _ _ (@ps_set _ _ 6 _ _ _ _ sc_law.nd rfl (Or.inl rfl) (pe_mk0 C.desk hr rfl) (by rfl) (by first | exact .inl rfl | exact .inr rfl))
    (@pss_cons _ _ _ _ _ (ps_if (PW.pt (pw_or (@pt_cmpR _ _ _ _ _ _ _ _ op_ne (pe_calm (pv 6) D.cls C.say hr (@pa_cons _ _ _ _ _ (@pe_op _ _ _ _ _ _ _ _ op_add_str pe_str (pe_cal C.ut hr rfl (@pa_cons _ _ _ _ _ (pv 4) pa_nil (by rfl)))) pa_nil (by rfl))) pe_str (nomark _)) (pw_or1 (@pt_cmpR _ _ _ _ _ _ _ _ (op_neD hr.units) (pe_cal C.ur hr rfl (@pa_cons _ _ _ _ _ (pe_calm (pv 6) D.cls C.say hr (@pa_cons _ _ _ _ _ pe_str pa_nil (by rfl))) pa_nil (by rfl))) (pv 4) (nomark _))))) (@pss_one _ _ _ (ps_ret pe_bl)) pss_nil)
    (@pss_cons _ _ _ _ _ (@ps_set _ _ 7 _ _ _ _ sc_law.nd rfl (Or.inl rfl) (pe_cal C.take hr rfl (@pa_cons _ _ _ _ _ (pv 2) (@pa_cons _ _ _ _ _ (pv 3) pa_nil (by rfl)) (by rfl))) (by rfl) (by first | exact .inl rfl | exact .inr rfl))
    (@pss_cons _ _ _ _ _ (ps_expr (pe_calm (pv 6) D.cls C.say hr (@pa_cons _ _ _ _ _ (pe_bm PySem.F.plainAttrs_str PySem.F.slot_str_join PySem.F.type_str_join mt_join pe_str (@pa_cons _ _ _ _ _ (@pe_lst _ _ _ _ (@pa_cons _ _ _ _ _ pe_str (@pa_cons _ _ _ _ _ pe_str (@pa_cons _ _ _ _ _ (pe_cal C.rt hr rfl (@pa_cons _ _ _ _ _ (pv 5) pa_nil (by rfl))) (@pa_cons _ _ _ _ _ (pe_callTy call_str_int rfl B2.str boot_str (@pa_cons _ _ _ _ _ (pv 7) pa_nil (by rfl))) (@pa_cons _ _ _ _ _ pe_str pa_nil (by rfl)) (by rfl)) (by rfl)) (by rfl)) (by rfl))) pa_nil (by rfl))) pa_nil (by rfl))))
    (@pss_cons _ _ _ _ _ (ps_if (@pt_cmpR _ _ _ _ _ _ _ _ (op_neD hr.units) (pe_cal C.ur hr rfl (@pa_cons _ _ _ _ _ (pe_calm (pv 6) D.cls C.say hr (@pa_cons _ _ _ _ _ pe_str pa_nil (by rfl))) pa_nil (by rfl))) (pe_cal C.aft hr rfl (@pa_cons _ _ _ _ _ (pv 4) (@pa_cons _ _ _ _ _ (pv 5) (@pa_cons _ _ _ _ _ (pv 7) pa_nil (by rfl)) (by rfl)) (by rfl))) (nomark _)) (@pss_one _ _ _ (ps_ret pe_bl)) pss_nil)
    (@pss_cons _ _ _ _ _ (ps_if (@pt_cmpR _ _ _ _ _ _ _ _ op_ne (pe_calm (pv 6) D.cls C.say hr (@pa_cons _ _ _ _ _ (@pe_op _ _ _ _ _ _ _ _ op_add_str pe_str (pe_callTy call_str_int rfl B2.str boot_str (@pa_cons _ _ _ _ _ (pv 7) pa_nil (by rfl)))) pa_nil (by rfl))) (pe_cal C.ft hr rfl (@pa_cons _ _ _ _ _ (pe_calx C.ch hr rfl pass10 (@pa_cons _ _ _ _ _ (pv 4) (@pa_cons _ _ _ _ _ (pv 7) pa_nil (by rfl)) (by rfl))) pa_nil (by rfl))) (nomark _)) (@pss_one _ _ _ (ps_ret pe_bl)) pss_nil)
    (@pss_cons _ _ _ _ _ (@ps_set _ _ 8 _ _ _ _ sc_law.nd rfl (Or.inl rfl) (@pe_op _ _ _ _ _ _ _ _ repS (@pe_tup _ _ _ _ _ (@pa_cons _ _ _ _ _ (@pe_op _ _ _ _ _ _ _ _ repS (@pe_tup _ _ _ _ _ (@pa_cons _ _ _ _ _ pe_int pa_nil (by rfl))) (pv 3)) pa_nil (by rfl))) (pv 3)) (by rfl) (by first | exact .inl rfl | exact .inr rfl))
    (@pss_cons _ _ _ _ _ (ps_if (@pt_cmpR _ _ _ _ _ _ _ _ op_ne (pe_calm (pv 6) D.cls C.say hr (@pa_cons _ _ _ _ _ (pe_bm PySem.F.plainAttrs_str PySem.F.slot_str_join PySem.F.type_str_join mt_join pe_str (@pa_cons _ _ _ _ _ (@pe_lst _ _ _ _ (@pa_cons _ _ _ _ _ pe_str (@pa_cons _ _ _ _ _ pe_str (@pa_cons _ _ _ _ _ (pe_cal C.rt hr rfl (@pa_cons _ _ _ _ _ (pv 8) pa_nil (by rfl))) (@pa_cons _ _ _ _ _ (pe_callTy call_str_int rfl B2.str boot_str (@pa_cons _ _ _ _ _ (pv 7) pa_nil (by rfl))) (@pa_cons _ _ _ _ _ pe_str pa_nil (by rfl)) (by rfl)) (by rfl)) (by rfl)) (by rfl))) pa_nil (by rfl))) pa_nil (by rfl))) pe_str (nomark _)) (@pss_one _ _ _ (ps_ret pe_bl)) pss_nil)
    (@pss_cons _ _ _ _ _ (ps_if (PW.pt (pw_or (@pt_cmpR _ _ _ _ _ _ _ _ op_ne (pe_calm (pv 6) D.cls C.say hr (@pa_cons _ _ _ _ _ pe_str pa_nil (by rfl))) (pe_calm (pv 6) D.cls C.say hr (@pa_cons _ _ _ _ _ pe_str pa_nil (by rfl))) (nomark _)) (pw_or1 (@pt_cmpR _ _ _ _ _ _ _ _ op_ne (pe_calm (pv 6) D.cls C.say hr (@pa_cons _ _ _ _ _ (@pe_op _ _ _ _ _ _ _ _ op_add_str (@pe_op _ _ _ _ _ _ _ _ op_add_str pe_str (pe_cal C.rt hr rfl (@pa_cons _ _ _ _ _ (pv 8) pa_nil (by rfl)))) pe_str) pa_nil (by rfl))) pe_str (nomark _))))) (@pss_one _ _ _ (ps_ret pe_bl)) pss_nil)
    (@pss_cons _ _ _ _ _ (ps_asg (@pe_tup _ _ _ _ _ (@pa_cons _ _ _ _ _ (@pe_op _ _ _ _ _ _ _ _ op_add pe_int (pe_cal C.take hr rfl (@pa_cons _ _ _ _ _ (pv 2) (@pa_cons _ _ _ _ _ pe_int pa_nil (by rfl)) (by rfl)))) (@pa_cons _ _ _ _ _ (pe_cal C.take hr rfl (@pa_cons _ _ _ _ _ (pv 2) (@pa_cons _ _ _ _ _ pe_int pa_nil (by rfl)) (by rfl))) pa_nil (by rfl)) (by rfl))) (pg_tup rfl (pgs_cons (pg_name (i:=9) sc_law.nd rfl (Or.inr rfl)) (pgs_cons (pg_name (i:=10) sc_law.nd rfl (Or.inr rfl)) pgs_nil))))
    (@pss_cons _ _ _ _ _ (@ps_set _ _ 11 _ _ _ _ sc_law.nd rfl (Or.inl rfl) (pe_callTy call_tuple_of rfl B.tuple boot_tuple (@pa_cons _ _ _ _ _ (pe_compG (N:=["_law_one","_law_kinds","_law_more"]) (ix:=[none,some 3,some 9]) (ifs:=[]) (tc:=tTrue) rfl (pi_range1 rfl B.range (@pa_cons _ _ _ _ _ (pv 3) pa_nil (by rfl)))
      (fun s H ex=>pg_c (i:=0) (by decide +kernel) rfl (Or.inr rfl) (.inl rfl)) (fun s H ex=>pifs_nil) (fun s H ex=>(pe_callTy (tupK (K:=K) rfl) rfl B.tuple boot_tuple (@pa_cons _ _ _ _ _ (pe_compG (N:=["_law_other","_law_more","_law_one"]) (ix:=[none,some 2,some 0]) (ifs:=[]) (tc:=tTrue) rfl (pi_range1 rfl B.range (@pa_cons _ _ _ _ _ (pv 1) pa_nil (by rfl)))
      (fun s H ex=>pg_c (i:=0) (by decide +kernel) rfl (Or.inl rfl) (.inr rfl)) (fun s H ex=>pifs_nil) (fun s H ex=>(@pe_op _ _ _ _ _ _ _ _ op_mul (pv 1) (pe_callTy call_int1 rfl B.int boot_int (@pa_cons _ _ _ _ _ (pe_cmpR op_eq (pv 2) (pv 0) (nomark _)) pa_nil (by rfl))))) rfl (by decide +kernel) (by rfl) (by rfl) (fun _=>rfl)) pa_nil (by rfl)))) rfl (by decide +kernel) (by rfl) (by rfl) (fun _=>rfl)) pa_nil (by rfl))) (by rfl) (by first | exact .inl rfl | exact .inr rfl))
    (@pss_cons _ _ _ _ _ (ps_if (@pt_cmpR _ _ _ _ _ _ _ _ op_ne (pe_calm (pv 6) D.cls C.say hr (@pa_cons _ _ _ _ _ (@pe_op _ _ _ _ _ _ _ _ op_add_str pe_str (pe_cal C.rt hr rfl (@pa_cons _ _ _ _ _ (pv 11) pa_nil (by rfl)))) pa_nil (by rfl))) pe_str (nomark _)) (@pss_one _ _ _ (ps_ret pe_bl)) pss_nil)
    (@pss_cons _ _ _ _ _ (ps_setcompG (N:=["_law_one","_law_urn","_law_more","_law_many"]) (ix:=[none,some 4,some 9,some 10]) (ifs:=[]) (tc:=tTrue) (i:=12) rfl sc_law.nd rfl rfl  (pi_tup (pv 4))
      (fun s H ex=>pg_c (i:=0) (by decide +kernel) rfl (Or.inl rfl) (.inr rfl)) (fun s H ex=>pifs_nil) (fun s H ex=>(pe_cal C.ft hr rfl (@pa_cons _ _ _ _ _ (pe_cal C.cut hr rfl (@pa_cons _ _ _ _ _ (@pe_op _ _ _ _ _ _ _ _ op_mul (pv 0) (@pe_op _ _ _ _ _ _ _ _ op_add (pe_callB (sumK (K:=K) rfl rfl) rfl B.sum boot_sum (@pa_cons _ _ _ _ _ (pv 1) pa_nil (by rfl))) (@pe_op _ _ _ _ _ _ _ _ op_mul (pv 2) (pv 3)))) (@pa_cons _ _ _ _ _ (pe_callB (sumK (K:=K) rfl rfl) rfl B.sum boot_sum (@pa_cons _ _ _ _ _ (pv 1) pa_nil (by rfl))) pa_nil (by rfl)) (by rfl))) pa_nil (by rfl)))) rfl (by decide +kernel) (by rfl) (by rfl) (fun _=>rfl) (by rfl))
    (@pss_cons _ _ _ _ _ (ps_if (@pt_cmpR _ _ _ _ _ _ _ _ op_ne (pe_calm (pv 6) D.cls C.say hr (@pa_cons _ _ _ _ _ (@pe_op _ _ _ _ _ _ _ _ op_add_str (@pe_op _ _ _ _ _ _ _ _ op_add_str (@pe_op _ _ _ _ _ _ _ _ op_add_str pe_str (pe_cal C.rt hr rfl (@pa_cons _ _ _ _ _ (pv 11) pa_nil (by rfl)))) pe_str) (pe_callTy call_str_int rfl B2.str boot_str (@pa_cons _ _ _ _ _ (pv 10) pa_nil (by rfl)))) pa_nil (by rfl))) (pe_bm PySem.F.plainAttrs_str PySem.F.slot_str_join PySem.F.type_str_join mt_join pe_str (@pa_cons _ _ _ _ _ (pv 12) pa_nil (by rfl))) (nomark _)) (@pss_one _ _ _ (ps_ret pe_bl)) pss_nil)
    (@pss_cons _ _ _ _ _ (@ps_set _ _ 13 _ _ _ _ sc_law.nd rfl (Or.inl rfl) (pe_mk0 C.desk hr rfl) (by rfl) (by first | exact .inl rfl | exact .inr rfl))
    (@pss_cons _ _ _ _ _ (ps_expr (pe_calm (pv 13) D.cls C.say hr (@pa_cons _ _ _ _ _ (@pe_op _ _ _ _ _ _ _ _ op_add_str pe_str (pe_calm (pv 6) D.cls C.say hr (@pa_cons _ _ _ _ _ pe_str pa_nil (by rfl)))) pa_nil (by rfl))))
    (@pss_one _ _ _ (ps_for PassesOwn.never rfl (pi_list (@pe_lst _ _ _ _ (@pa_cons _ _ _ _ _ (@pe_lst _ _ _ _ (@pa_cons _ _ _ _ _ pe_str pa_nil (by rfl))) (@pa_cons _ _ _ _ _ (@pe_lst _ _ _ _ (@pa_cons _ _ _ _ _ pe_str (@pa_cons _ _ _ _ _ pe_str pa_nil (by rfl)) (by rfl))) (@pa_cons _ _ _ _ _ (@pe_lst _ _ _ _ (@pa_cons _ _ _ _ _ pe_str (@pa_cons _ _ _ _ _ (pe_cal C.rt hr rfl (@pa_cons _ _ _ _ _ (pv 5) pa_nil (by rfl))) (@pa_cons _ _ _ _ _ pe_str pa_nil (by rfl)) (by rfl)) (by rfl))) (@pa_cons _ _ _ _ _ (@pe_lst _ _ _ _ (@pa_cons _ _ _ _ _ pe_str (@pa_cons _ _ _ _ _ (pe_cal C.rt hr rfl (@pa_cons _ _ _ _ _ (pv 5) pa_nil (by rfl))) pa_nil (by rfl)) (by rfl))) pa_nil (by rfl)) (by rfl)) (by rfl)) (by rfl)))) (pg_name (i:=14) sc_law.nd rfl (Or.inl rfl))
    (@pss_one _ _ _ (ps_if (@pt_cmpR _ _ _ _ _ _ _ _ op_ne (pe_calm (pv 13) D.cls C.say hr (@pa_cons _ _ _ _ _ (pe_bm PySem.F.plainAttrs_str PySem.F.slot_str_join PySem.F.type_str_join mt_join pe_str (@pa_cons _ _ _ _ _ (@pe_op _ _ _ _ _ _ _ _ op_cat (@pe_lst _ _ _ _ (@pa_cons _ _ _ _ _ (@pe_ix _ _ _ _ _ _ _ ix_list (pv 14) pe_int (fun _ _=>rfl)) (@pa_cons _ _ _ _ _ pe_str pa_nil (by rfl)) (by rfl))) (@pe_slice _ _ _ _ _ _ _ _ _ _ sl_list (pv 14) (po_some pe_int) po_none)) pa_nil (by rfl))) pa_nil (by rfl))) (pe_calm (pv 6) D.cls C.say hr (@pa_cons _ _ _ _ _ (pe_bm PySem.F.plainAttrs_str PySem.F.slot_str_join PySem.F.type_str_join mt_join pe_str (@pa_cons _ _ _ _ _ (@pe_op _ _ _ _ _ _ _ _ op_cat (@pe_lst _ _ _ _ (@pa_cons _ _ _ _ _ (@pe_ix _ _ _ _ _ _ _ ix_list (pv 14) pe_int (fun _ _=>rfl)) (@pa_cons _ _ _ _ _ pe_str pa_nil (by rfl)) (by rfl))) (@pe_slice _ _ _ _ _ _ _ _ _ _ sl_list (pv 14) (po_some pe_int) po_none)) pa_nil (by rfl))) pa_nil (by rfl))) (nomark _)) (@pss_one _ _ _ (ps_ret pe_bl)) pss_nil)))))))))))))))))))))))))
    (@pss_one _ _ _ (ps_ret pe_bl)))⟩
end
end G
namespace G
open PySem PySem.Spec PyProof.Rows L2 Mt Mq
theorem sum_nn0:∀ {l:List Int},(∀ x ∈ l,0 <= x)->0 <= l.sum
  | [],_=>Int.le_refl _
  | x :: l,h=>by
    have a:=h x List.mem_cons_self
    have b:=sum_nn0 fun y hy=>h y (List.mem_cons_of_mem _ hy)
    rw [List.sum_cons];omega
theorem log_g9 {g:Int} (h0:0 <= g) (h:g < 1000):g.natAbs.log2 < 9000:=Nat.lt_trans (log_s h0 (by omega)) (by decide)
theorem sl_a:(" ":Str).length=1:=by decide +kernel
theorem vput {kvs:List (Key × V)} {x:Str} {v:V}:valV (putK kvs (Sum.inr x) v) (Sum.inr x)=some v:=by rw [valV_put,if_pos rfl]
theorem vput2 {kvs:List (Key × V)} {x y:Str} {v r:V} (h:valV kvs (Sum.inr y)=some r) (n:y ≠ x):valV (putK kvs (Sum.inr x) v) (Sum.inr y)=some r:=by
  rw [valV_put,if_neg (fun z=>n (by injection z))];exact h
theorem ab:("a":Str) ≠ "b":=by decide +kernel
theorem ac:("a":Str) ≠ "c":=by decide +kernel
theorem Dts.rep {st:Addr} {H:Hp} {d:PyData} {v:V} (h:Dt st H d v):∀ n:Nat,Dts st H (List.replicate n d) (List.replicate n v)
  | 0=>Dts.nil _ _
  | n + 1=>Dts.cons h (Dts.rep h n)
theorem drw_len {n k:Nat} {rs:List (List Int)} (hR:Mt.Rul n 5 rs) (n4:n <= 4) (hk:k <= 9) (x:Str) (hx:x.length=1):((["draw","a",rT rs,tx (k:Int),x]:List Str).map fun y=>y.length).sum + (["draw","a",rT rs,tx (k:Int),x]:List Str).length * (" ":Str).length <= 16777216:=by
  have h1:=rl_len hR n4
  have h2:=fg_len hk
  have e1:("draw":Str).length=4:=by decide +kernel
  have e2:("a":Str).length=1:=by decide +kernel
  simp only [List.map_cons,List.map_nil,List.sum_cons,List.sum_nil,List.length_cons,List.length_nil,sl_a,e1,e2,h2,hx]
  omega
theorem msh_alo {n k k':Nat} {c:Int} {ns:List Int} (h0:0 <= c) (h5:c <= 5) (n4:n <= 4) (hU:Mt.Urn n 20 ns) (k6:k <= 6) (k6':k' <= 6):mshQ (alo n c) ns k n=mshQ (alo n c) ns k' n:=by
  unfold mshQ
  refine List.map_congr_left fun i hi=>?_
  rw [alo_stay h0 h5 n4 hU (List.mem_range.mp hi) k k6,alo_stay h0 h5 n4 hU (List.mem_range.mp hi) k' k6']
theorem map_getD {α:Type} (g:Int->α):∀ ns:List Int,(List.range ns.length).map (fun i=>g (ns.getD i 0))=ns.map g
  | []=>rfl
  | x :: ns=>by
    rw [List.length_cons,List.range_succ_eq_map,List.map_cons,List.map_map,List.map_cons,<- map_getD g ns]
    rfl
theorem mn_alo {n k:Nat} {c:Int} {ns:List Int} (h0:0 <= c) (h5:c <= 5) (n4:n <= 4) (hU:Mt.Urn n 20 ns) (k6:k <= 6):mnQ (alo n c) ns k n=ns.map fun z=>cut (z * (ns.sum + c * (k:Int))) ns.sum:=by
  rw [<- map_getD (fun z=>cut (z * (ns.sum + c * (k:Int))) ns.sum) ns,hU.len]
  unfold mnQ
  refine List.map_congr_left fun i hi=>?_
  exact mean_alo h0 h5 n4 hU (List.mem_range.mp hi) k6
theorem Wd.oth {C l d m ua m2:Addr} {b:Bool} {H0 H:Hp} {kvs k2:List (Key × V)} {ns:List Int} {rs:List (List Int)} {rv:V} (W:Wd C l b H0 H d m ua kvs ns rs rv) (h2:H m2=some (.dK k2)) (hn:m ≠ m2) (hf:H0 m2=none) (o:HO):Wd C l b H0 (upd H m2 o) d m ua kvs ns rs rv:=by
  obtain ⟨k,x,hx,ok⟩:=W.s
  obtain ⟨dx,hd⟩:=W.dk
  have T:Tp H (upd H m2 o):=fun a xs h=>by rw [upd_ne (ne_of h h2 (by intro z;cases z))];exact h
  exact ⟨⟨fun a o' ha e=>by rw [upd_ne (ne_of_none e hf)];exact k a o' ha e,x,by rw [upd_ne (ne_of hx h2 (by intro z;cases z))];exact hx,ok⟩,⟨dx,by rw [upd_ne (ne_of hd h2 (by intro z;cases z))];exact hd⟩,by rw [upd_ne hn];exact W.mm,T _ _ W.u,Dt.tp T W.r,W.f⟩
section
variable {P:Program} {w:World} {K:PySem.W.Frag} {mg:Str->Option Value} {base:Heap} {f:Addr} {fd:FuncData} {CD:Addr} {ec:Nat->Addr}
theorem ok_law (F:Fun K "law" "law" s_law f fd) (B:Bt mg) (B2:Bt2 mg) (D:DeskK K CD) (C:Cals P w K mg base ec CD):FnOk P w K mg base CX0 13 f fd ["_law_script"] (spLaw K):=by
  refine F.ok sc_law (fun vs H Q E h=>?_) (fun cdv A outer s H vs Q E hr h=>?_)
  · obtain ⟨a,ns,rfl,_⟩:=h
    rfl
  obtain ⟨a,scr,rfl,hS,h63,q⟩:=h
  refine ⟨_,(tm_law B B2 D C hr).2,?_⟩
  delta tm_law
  refine ⟨_,rfl,a,_,rfl,.inl hS,_,_,rfl,_,_,rfl,_,rfl,?_,?_,?_⟩
  · split <;> split <;> omega
  · rw [List.length_map];split <;> split <;> omega
  refine for_range (lo:=0) (fun i σ H2=>SqL K H2 a (scr.map V.int)/\∃ o1 o2 o3 o4 o5 o6 o7 o8 o9 oa ob oc od oe,σ=[some (.ref a),o1,o2,o3,o4,o5,o6,o7,o8,o9,oa,ob,oc,od,oe])
    ⟨hS,none,none,none,none,none,none,none,none,none,none,none,none,none,none,rfl⟩ (fun i σ H2 hi h=>?_) (fun σ H2 h=>?_)
  · obtain ⟨hS2,o1,o2,o3,o4,o5,o6,o7,o8,o9,oa,ob,oc,od,oe,rfl⟩:=h
    have e0:(0:Int) + (i:Int)=(i:Int):=by omega
    rw [e0]
    refine ⟨_,rfl,_,rfl,a,scr,i,rfl,hS2,fun l x b hl hst=>?_⟩
    have s3:Sta l b (upd H2 l (.lst [.int x,.bl b])) (upd H2 l (.lst [.int x,.bl b])):=Sta.start upd_same hst
    have hA:∀ H',Kp l (upd H2 l (.lst [.int x,.bl b])) H'->SqL K H' a (scr.map V.int):=fun H' k=>by
      rcases hS2 with (h | ⟨o,h⟩) | h
      · exact .inl (.inl (k _ _ (ne_of_none h hl) (Same.new hl _ _ h)))
      · exact .inl (.inr ⟨o,k _ _ (ne_of_none h hl) (Same.new hl _ _ h)⟩)
      · exact .inr h
    show tSeq _ _ _ _ (upd H2 l (.lst [.int x,.bl b]))
    generalize upd H2 l (.lst [.int x,.bl b])=H3 at s3 hA
    clear hS2 hl hst
    obtain ⟨_,x3,hx3,ok3⟩:=id s3
    refine ⟨_,rfl,l,4,x3,b,rfl,hx3,ok3,by decide,by decide,fun y x1 hy ok1=>⟨_,_,rfl,rfl,?_⟩⟩
    have en:(1:Int) + (y:Int)=((1 + y:Nat):Int):=by omega
    try dsimp only
    rw [en]
    have n1:1 <= 1 + y:=by omega
    have n4:1 + y <= 4:=by omega
    generalize 1 + y=n at n1 n4
    have s4:=s3.go ok1
    generalize upd H3 l (.lst [.int x1,.bl b])=H4 at s4
    refine ⟨_,rfl,(n:Int),rfl,by omega,by omega,?_⟩
    refine blk_range (lo:=0) (n:=n) (sz (by omega)) (fun j ys Hj=>Sta l b H3 Hj/\∃ us:List Int,ys=us.map V.int/\us.length=j/\∀ z ∈ us,1 <= z/\z <= 9) ⟨s4,[],rfl,rfl,fun z hz=>by cases hz⟩ (fun j ys Hj h=>?_) rfl (fun j ys Hj hj h=>?_) (fun ys Hj h=>?_)
    · obtain ⟨_,us,rfl,hl,_⟩:=h
      rw [List.length_map];exact hl
    · obtain ⟨sj,us,rfl,hl,hb⟩:=h
      obtain ⟨_,xj,hxj,okj⟩:=id sj
      refine ⟨_,rfl,l,9,xj,b,rfl,hxj,okj,by decide,by decide,fun z xz hz okz=>⟨_,_,rfl,rfl,sj.go okz,us ++ [1 + (z:Int)],by rw [List.map_append];rfl,by rw [List.length_append,hl];rfl,fun v hv=>?_⟩⟩
      rcases List.mem_append.mp hv with hv | hv
      · exact hb v hv
      · rw [List.mem_singleton.mp hv];omega
    obtain ⟨s5,ns,rfl,hnl,hb9⟩:=h
    intro p5 hp5
    refine ⟨p5,_,rfl,.inl ⟨.of upd_same,fun ua hua0=>?_⟩⟩
    have s6:Sta l b H3 (upd (upd Hj p5 (.lst (ns.map V.int))) ua (.tup (ns.map V.int))):=(s5.new hp5).new hua0
    have hua:upd (upd Hj p5 (.lst (ns.map V.int))) ua (.tup (ns.map V.int)) ua=some (.tup (ns.map V.int)):=upd_same
    show tSeq _ _ _ _ (upd (upd Hj p5 (.lst (ns.map V.int))) ua (.tup (ns.map V.int)))
    generalize upd (upd Hj p5 (.lst (ns.map V.int))) ua (.tup (ns.map V.int))=H6 at s6 hua
    have hU9:Mt.Urn n 9 ns:=⟨hnl,fun z hz=>by have:=hb9 z hz;omega,by
      match ns,hnl,hb9 with
      | [],h,_=>simp at h;omega
      | z :: r,_,hb9 =>
        have h1:=hb9 z List.mem_cons_self
        have h2:0 <= r.sum:=sum_nn0 fun v hv=>by have:=hb9 v (List.mem_cons_of_mem _ hv);omega
        rw [List.sum_cons];omega⟩
    have hU:Mt.Urn n 20 ns:=⟨hU9.len,fun z hz=>by have:=hU9.nn z hz;omega,hU9.pos⟩
    have hpos:∀ j,j < n->ns.getD j 0 ≠ 0:=fun j hj=>by
      have hj':j < ns.length:=by omega
      have e:ns.getD j 0=ns[j]:=by rw [List.getD_eq_getElem?_getD,List.getElem?_eq_getElem hj'];rfl
      have:=hb9 _ (List.getElem_mem hj')
      omega
    clear s4 s5 hp5 hua0 hb9
    obtain ⟨_,x6,hx6,ok6⟩:=id s6
    refine ⟨_,rfl,_,rfl,l,n,x6,b,rfl,hx6,ok6,n1,n4,fun rv H7 rs s7' hrd hR=>?_⟩
    have s7:=s6.trans s7'
    have hua7:=s7'.1 _ _ (s6.neL hua) hua
    clear s6 s7' hua
    refine fun d dx hd hdx hne=>⟨d,dx,rfl,upd_same,fun m hm=>⟨rfl,?_⟩⟩
    obtain ⟨hmd,hm1⟩:m ≠ d/\H7 m=none:=by
      have hmd:m ≠ d:=fun z=>by rw [z,upd_same] at hm;cases hm
      rw [upd_ne hmd] at hm
      have hmx:m ≠ dx:=fun z=>by rw [z,upd_same] at hm;cases hm
      rw [upd_ne hmx] at hm
      exact ⟨hmd,hm⟩
    have gD:Same H7 (upd (upd (upd (upd H7 dx (.own d)) d (.ins CD dx [])) m (.dK [])) d (.ins CD dx [("urns_by_name",.ref m)])):=fun b o hb=>by
      rw [upd_ne (ne_of_none hb hd),upd_ne (ne_of_none hb hm1),upd_ne (ne_of_none hb hd),upd_ne (ne_of_none hb hdx)]
      exact hb
    have h3m:H3 m=none:=by
      cases e:H3 m with
      | none=>rfl
      | some o =>
        by_cases hml:m=l
        · obtain ⟨_,x7,hx7,_⟩:=s7
          rw [hml,hx7] at hm1;cases hm1
        · have:=s7.1 m o hml e
          rw [hm1] at this;cases this
    have W:Wd CD l b H3 (upd (upd (upd (upd H7 dx (.own d)) d (.ins CD dx [])) m (.dK [])) d (.ins CD dx [("urns_by_name",.ref m)])) d m ua [] ns rs rv:=⟨s7.same gD,⟨dx,upd_same⟩,by rw [upd_ne hmd,upd_same],gD _ _ hua7,hrd.kp (gD.kp l),h3m⟩
    try dsimp -proj only [gName]
    generalize upd (upd (upd (upd H7 dx (.own d)) d (.ins CD dx [])) m (.dK [])) d (.ins CD dx [("urns_by_name",.ref m)])=H8 at W
    clear hm hd hdx hne gD hrd hua7 s7 hmd hm1 hx6 ok6
    have hU2:∀ j,j < n->Mt.Urn n 20 (addL ns (rs.getD j [])):=fun j hj=>by
      have:=hU9.add (hR.at hj)
      exact ⟨this.len,fun z hz=>by have:=this.nn z hz;omega,this.pos⟩
    have hnT:=len_nT (ns:=ns) (by omega) hU.nn
    obtain ⟨dx,hdk⟩:=W.dk
    refine ⟨_,rfl,d,dx,_,rfl,hdk,rfl,_,rfl,l,ua,ns,n,rfl,W.dt,hU,n1,n4,fun Ha ga=>⟨"urn a ",nT ns,rfl,rfl,Nat.le_trans (Nat.add_le_add (show ("urn a ":Str).length <= 6 by decide +kernel) hnT) (by decide),?_⟩⟩
    show sp_say CD [.ref d,.str ("urn a " ++ nT ns)] _ _ _
    rw [line_ua]
    refine .inl ⟨d,m,[],"a",ns,n,rfl,(W.same ga).desk,by decide,name_a,hU,n1,n4,fun pa Hb gb hpa=>⟨rfl,_,rfl,?_⟩⟩
    rw [decide_eq_true rfl]
    refine iteF ?_
    have W1:=((W.same ga).same gb).put (putK [] (Sum.inr "a") (.ref pa))
    have hpa1:=((W.same ga).same gb).tput (.dK (putK [] (Sum.inr "a") (.ref pa))) _ _ hpa
    have hva:valV (putK ([]:List (Key × V)) (Sum.inr "a") (.ref pa)) (Sum.inr "a")=some (.ref pa):=vput
    have hkl:(putK ([]:List (Key × V)) (Sum.inr "a") (V.ref pa)).length <= 1:=length_putK _ _ _
    generalize upd Hb m (.dK (putK [] (Sum.inr "a") (.ref pa)))=H9 at W1 hpa1
    generalize putK ([]:List (Key × V)) (Sum.inr "a") (V.ref pa)=kva at W1 hva hkl
    clear W ga gb hpa hdk
    obtain ⟨dx,hdk⟩:=W1.dk
    refine ⟨_,rfl,d,dx,_,rfl,hdk,rfl,?_⟩
    show sp_say CD [.ref d,.str "show a"] _ _ _
    rw [line_sa]
    refine .inr (.inr ⟨d,m,pa,kva,"show","a",nT ns,[],[],ns,n,rfl,W1.desk,name_a,hva,hpa1,hU,n1,n4,.shown,fun Hc gc=>⟨ns,n,rfl,hU,n1,n4,fun p Hd gd fr hp=>⟨_,rfl,neI (by omega) hp (gd _ _ (gc _ _ W1.u)) ⟨_,rfl,iteF ?_⟩⟩⟩⟩)
    have W2:=(W1.same gc).same gd
    have hpa2:=gd _ _ (gc _ _ hpa1)
    clear W1 gc gd fr hp hpa1 hdk
    obtain ⟨_,x2,hx2,ok2⟩:=id W2.s
    refine ⟨_,rfl,_,rfl,l,n,x2,b,rfl,hx2,ok2,by omega,by omega,fun kd x3' hkd ok3'=>?_⟩
    have hkn:kd < n:=by omega
    have W3:=W2.go ok3'
    have hpa3:=W2.tgo (.lst [.int x3',.bl b]) _ _ hpa2
    show tSeq _ _ _ _ (upd Hd l (.lst [.int x3',.bl b]))
    generalize upd Hd l (.lst [.int x3',.bl b])=H10 at W3 hpa3
    clear W2 hpa2 hx2 ok2 hkd ok3'
    obtain ⟨dx,hdk⟩:=W3.dk
    refine ⟨_,rfl,d,dx,_,rfl,hdk,rfl,rfl,_,rfl,l,rv,rs,n,rfl,W3.r,hR,n1,n4,fun He ge=>⟨_,rfl,(kd:Int),rfl,log_s (by omega) (by omega),sz (Nat.le_of_ble_eq_true rfl),fun pl hpl=>⟨_,pl,["draw","a",rT rs,tx (kd:Int),"b"],rfl,rfl,.of upd_same,drw_len hR n4 (by omega) _ (by decide +kernel),?_⟩⟩⟩
    show sp_say CD [.ref d,.str (lineT ["draw","a",rT rs,tx (kd:Int),"b"])] _ _ _
    have W4:=(W3.same ge).same (Same.new (o:=.lst [.str "draw",.str "a",.str (rT rs),.str (tx (kd:Int)),.str "b"]) hpl)
    have hpa4:=Same.new (o:=.lst [.str "draw",.str "a",.str (rT rs),.str (tx (kd:Int)),.str "b"]) hpl _ _ (ge _ _ hpa3)
    refine .inr (.inl ⟨d,m,pa,kva,"a","b",ns,rs,n,kd,rfl,W4.desk,by omega,name_a,name_b,hva,hpa4,hU,hR,n1,n4,hkn,hpos kd hkn,hU2 kd hkn,fun pb Hf gf hpb=>?_⟩)
    have W5:=(W4.same gf).put (putK kva (Sum.inr "b") (.ref pb))
    have hpa5:=(W4.same gf).tput (.dK (putK kva (Sum.inr "b") (.ref pb))) _ _ (gf _ _ hpa4)
    have hpb5:=(W4.same gf).tput (.dK (putK kva (Sum.inr "b") (.ref pb))) _ _ hpb
    have hvb:valV (putK kva (Sum.inr "b") (.ref pb)) (Sum.inr "b")=some (.ref pb):=vput
    have hva2:=vput2 (v:=.ref pb) hva ab
    have hkl2:(putK kva (Sum.inr "b") (V.ref pb)).length <= 2:=Nat.le_trans (length_putK _ _ _) (by omega)
    show tSeq _ _ _ _ (upd Hf m (.dK (putK kva (Sum.inr "b") (.ref pb))))
    generalize upd Hf m (.dK (putK kva (Sum.inr "b") (.ref pb)))=H11 at W5 hpa5 hpb5
    generalize putK kva (Sum.inr "b") (V.ref pb)=kvb at W5 hvb hva2 hkl2
    clear W3 W4 hpa3 hpa4 hpb hpl ge gf hdk
    obtain ⟨dx,hdk⟩:=W5.dk
    refine ⟨_,rfl,d,dx,_,rfl,hdk,rfl,?_⟩
    show sp_say CD [.ref d,.str "show b"] _ _ _
    rw [line_sb]
    have hU2k:=hU2 kd hkn
    have hl2:=hU2k.len
    refine .inr (.inr ⟨d,m,pb,kvb,"show","b",_,[],[],_,n,rfl,W5.desk,name_b,hvb,hpb5,hU2k,n1,n4,.shown,fun Hc gc=>⟨_,n,rfl,hU2k,n1,n4,fun p Hd gd fr hp=>?_⟩⟩)
    have W6:=(W5.same gc).same gd
    have hpa6:=gd _ _ (gc _ _ hpa5)
    refine ⟨_,rfl,_,rfl,_,rfl,l,ua,rv,n,kd,ns,rs,rfl,W6.dt,hU,W6.r,hR,n1,n4,hkn,hpos kd hkn,fun p2 Hg gg hp2=>neI (by omega) (gg _ _ hp) hp2 ⟨_,rfl,iteF ?_⟩⟩
    have W7:=W6.same gg
    have hpa7:=gg _ _ hpa6
    clear W5 W6 hpa5 hpa6 hpb5 gc gd fr hp gg hp2 hdk
    obtain ⟨dx,hdk⟩:=W7.dk
    have hs:ns.sum < 10 ^ 61:=by
      have:=Mt.sum_le (m:=9) (fun x hx=>(hU9.nn x hx).2)
      rw [hnl] at this
      omega
    obtain ⟨w1,w2,w3,w4⟩:=cut_lt (N:=10 ^ 62) (hU.getD kd).1 hU.pos (Int.lt_of_le_of_lt (hU.getD kd).2 (by decide)) (by omega)
    refine ⟨_,rfl,d,dx,_,rfl,hdk,rfl,_,rfl,(kd:Int),rfl,log_s (by omega) (by omega),"chance a ",tx (kd:Int),rfl,rfl,Nat.le_trans (Nat.add_le_add (show ("chance a ":Str).length <= 9 by decide +kernel) (Nat.le_of_eq (fg_len (k:=kd) (by omega)))) (by decide),?_⟩
    show sp_say CD [.ref d,.str ("chance a " ++ tx (kd:Int))] _ _ _
    rw [line_ca]
    refine .inr (.inr ⟨d,m,pa,kvb,"chance","a",_,_,_,ns,n,rfl,W7.desk,name_a,hva2,hpa7,hU,n1,n4,.chance hkn,fun Hc gc=>⟨_,rfl,_,rfl,.inr ⟨l,ua,n,kd,ns,rfl,(W7.same gc).dt,hU,n1,n4,hkn,fun pc Hd gd hpc=>⟨pc,_,_,rfl,hpc,w1,w2,w3,w4,fun He ge=>⟨rfl,_,rfl,?_⟩⟩⟩⟩⟩)
    rw [decide_eq_true (show V.str (fS (Mt.share ns kd))=V.str (fT (Mt.share ns kd).num ((Mt.share ns kd).den:Int)) from rfl)]
    refine iteF ?_
    have W8:=((W7.same gc).same gd).same ge
    have hpa8:=ge _ _ (gd _ _ (gc _ _ hpa7))
    clear W7 hpa7 gc gd ge hpc hdk w1 w2 w3 w4
    refine ⟨sz (Nat.le_of_ble_eq_true rfl),fun p1 hp1=>⟨_,rfl,p1,.int 0,n,rfl,rfl,upd_same,n1,n4,fun p2 Hc gc hp2=>⟨sz (Nat.le_of_ble_eq_true rfl),fun p3 hp3=>⟨_,rfl,p3,.ref p2,n,rfl,rfl,upd_same,n1,n4,fun p4 Hd gd hp4=>?_⟩⟩⟩⟩
    have gN:Same He Hd:=(((Same.new hp1).trans gc).trans (Same.new hp3)).trans gd
    have W9:=W8.same gN
    have hpa9:=gN _ _ hpa8
    have hp2':=gd _ _ (Same.new (o:=.tup [.ref p2]) hp3 _ _ hp2)
    have hnz:Dt l Hd (DR (alo n 0)) (.ref p4):=by
      rw [alo_zero]
      refine Dt.tup (W9.s.neL hp4) hp4 ?_
      rw [List.map_replicate]
      exact Dts.rep (Dt.mkI (W9.s.neL hp2') (by rw [List.map_replicate];exact hp2')) n
    have hRz:Mt.Rul n 5 (alo n 0):=alo_rul (by decide) (by decide)
    have hadd:addL ns ((alo n 0).getD kd [])=ns:=by rw [alo_get hkn,aloR_zero,<- hnl,addL_zero]
    clear W8 hpa8 gN hp1 gc hp2 hp3 gd hp4 hp2'
    try dsimp -proj only [gName]
    obtain ⟨dx,hdk⟩:=W9.dk
    refine ⟨_,rfl,d,dx,_,rfl,hdk,rfl,rfl,_,rfl,l,.ref p4,alo n 0,n,rfl,hnz,hRz,n1,n4,fun Hf gf=>⟨_,rfl,(kd:Int),rfl,log_s (by omega) (by omega),sz (Nat.le_of_ble_eq_true rfl),fun pl hpl=>⟨_,pl,["draw","a",rT (alo n 0),tx (kd:Int),"c"],rfl,rfl,.of upd_same,drw_len hRz n4 (by omega) _ (by decide +kernel),?_⟩⟩⟩
    show sp_say CD [.ref d,.str (lineT ["draw","a",rT (alo n 0),tx (kd:Int),"c"])] _ _ _
    have gZ:=gf.trans (Same.new (o:=.lst [.str "draw",.str "a",.str (rT (alo n 0)),.str (tx (kd:Int)),.str "c"]) hpl)
    refine .inr (.inl ⟨d,m,pa,kvb,"a","c",ns,alo n 0,n,kd,rfl,(W9.same gZ).desk,by omega,name_a,name_c,hva2,gZ _ _ hpa9,hU,hRz,n1,n4,hkn,hpos kd hkn,by rw [hadd];exact hU,fun pc Hg gg hpc=>⟨rfl,_,rfl,?_⟩⟩)
    rw [decide_eq_true rfl]
    refine iteF ?_
    rw [hadd] at hpc
    have W10:=((W9.same gZ).same gg).put (putK kvb (Sum.inr "c") (.ref pc))
    have T10:=((W9.same gZ).same gg).tput (.dK (putK kvb (Sum.inr "c") (.ref pc)))
    have hpa10:=T10 _ _ (gg _ _ (gZ _ _ hpa9))
    have hpc10:=T10 _ _ hpc
    have hnz10:=Dt.tp T10 ((hnz.kp (gZ.kp l)).kp (gg.kp l))
    have hvc:valV (putK kvb (Sum.inr "c") (.ref pc)) (Sum.inr "c")=some (.ref pc):=vput
    have hva3:=vput2 (v:=.ref pc) hva2 ac
    generalize upd Hg m (.dK (putK kvb (Sum.inr "c") (.ref pc)))=H12 at W10 hpa10 hpc10 hnz10
    generalize putK kvb (Sum.inr "c") (V.ref pc)=kvc at W10 hvc hva3
    clear W9 hpa9 hnz hdk gf hpl gZ gg hpc T10
    obtain ⟨dx,hdk⟩:=W10.dk
    refine ⟨_,rfl,d,dx,_,rfl,hdk,rfl,?_⟩
    show sp_say CD [.ref d,.str "show c"] _ _ _
    rw [line_sc]
    refine .inr (.inr ⟨d,m,pc,kvc,"show","c",nT ns,[],[],ns,n,rfl,W10.desk,name_c,hvc,hpc10,hU,n1,n4,.shown,fun Hc gc=>⟨_,rfl,d,dx,_,rfl,gc _ _ hdk,rfl,?_⟩⟩)
    show sp_say CD [.ref d,.str "show a"] _ _ _
    rw [line_sa]
    refine .inr (.inr ⟨d,m,pa,kvc,"show","a",nT ns,[],[],ns,n,rfl,(W10.same gc).desk,name_a,hva3,gc _ _ hpa10,hU,n1,n4,.shown,fun Hd gd=>⟨rfl,_,rfl,?_⟩⟩)
    rw [decide_eq_true rfl]
    refine iteF ?_
    have gg:=gc.trans gd
    have hlz:=rl_len hRz n4
    refine ⟨_,rfl,d,dx,_,rfl,gg _ _ hdk,rfl,_,rfl,l,.ref p4,alo n 0,n,rfl,hnz10.kp (gg.kp l),hRz,n1,n4,fun He ge=>⟨"stands a ",rT (alo n 0),rfl,rfl,Nat.le_trans (Nat.add_le_add (show ("stands a ":Str).length <= 9 by decide +kernel) hlz) (by decide),_," 5",rfl,rfl,?_,?_⟩⟩
    · show (("stands a ":Str).cps ++ (rT (alo n 0)).cps).size + _ <= _
      rw [Array.size_append]
      exact Nat.le_trans (Nat.add_le_add (Nat.add_le_add (show ("stands a ":Str).cps.size <= 9 by decide +kernel) (show (rT (alo n 0)).cps.size <= 52 from hlz)) (show (" 5":Str).length <= 2 by decide +kernel)) (by decide)
    show sp_say CD [.ref d,.str ("stands a " ++ rT (alo n 0) ++ " 5")] _ _ _
    rw [line_st]
    have h1s:=none_len n1 n4 hU (by have:=hpos 0 (by omega);have:=(hU.getD 0).1;omega) (k:=5) (by decide)
    have gE:=gg.trans ge
    refine .inr (.inr ⟨d,m,pa,kvc,"stands","a",_,["rule","figure"],[rT (alo n 0),tx ((5:Nat):Int)],ns,n,rfl,(W10.same gE).desk,name_a,hva3,gE _ _ hpa10,hU,n1,n4,.stands hRz (by decide) (by rw [h1s];decide),fun Hf gf=>⟨rfl,_,rfl,?_⟩⟩)
    rw [h1s,decide_eq_true (show V.str (tx ((1:Nat):Int))=V.str "1" from congrArg V.str (by decide +kernel))]
    refine iteF ?_
    have W11:=W10.same (gE.trans gf)
    have hpa11:=gf _ _ (gE _ _ hpa10)
    clear W10 hpa10 hpc10 hnz10 hdk gc gd gg ge gE gf hlz
    obtain ⟨_,x12,hx12,ok12⟩:=id W11.s
    refine ⟨_,rfl,l,5,x12,b,rfl,hx12,ok12,by decide,by decide,fun y5 x5 hy5 ok5=>⟨_,_,rfl,rfl,_,rfl,l,4,x5,b,rfl,upd_same,ok5,by decide,by decide,fun km x6 hkm ok6=>⟨sz (Nat.le_of_ble_eq_true rfl),fun pt hpt=>⟨pt,_,rfl,.of upd_same,rfl,_,_,rfl,_,_,rfl,rfl,?_⟩⟩⟩⟩
    have em:(1:Int) + (y5:Int)=((1 + y5:Nat):Int):=by omega
    try dsimp only
    rw [em]
    have hm1:1 <= 1 + y5:=by omega
    have hm5':1 + y5 <= 5:=by omega
    generalize 1 + y5=mo at hm1 hm5'
    have W12:=((W11.go ok5).go ok6).same (Same.new (o:=.tup [.int (mo:Int),.int (km:Int)]) hpt)
    have hpa12:=Same.new (o:=.tup [.int (mo:Int),.int (km:Int)]) hpt _ _ ((W11.go ok5).tgo (.lst [.int x6,.bl b]) _ _ (W11.tgo (.lst [.int x5,.bl b]) _ _ hpa11))
    show tSeq _ _ _ _ (upd (upd (upd Hf l (.lst [.int x5,.bl b])) l (.lst [.int x6,.bl b])) pt (.tup [.int (mo:Int),.int (km:Int)]))
    generalize upd (upd (upd Hf l (.lst [.int x5,.bl b])) l (.lst [.int x6,.bl b])) pt (.tup [.int (mo:Int),.int (km:Int)])=H13 at W12 hpa12
    clear W11 hpa11 hpt hx12 ok12 ok5 ok6
    have hm0:(0:Int) <= (mo:Int):=by omega
    have hm5:(mo:Int) <= 5:=by omega
    refine ⟨_,rfl,(n:Int),rfl,by omega,by omega,?_⟩
    refine blk_range (lo:=0) (n:=n) (sz (by omega)) (fun i ys Hj=>Same H13 Hj/\i <= n/\Dts l Hj (((List.range i).map fun i=>aloR n (mo:Int) i).map DI) ys)
      ⟨Same.refl _,Nat.zero_le _,Dts.nil _ _⟩ (fun i ys Hj h=>?_) rfl (fun i ys Hj hi h=>?_) (fun ys Hj h=>?_)
    · rw [<- h.2.2.len,List.length_map,List.length_map,List.length_range]
    · obtain ⟨gj,hin,hd⟩:=h
      refine ⟨_,rfl,(n:Int),rfl,by omega,by omega,?_⟩
      refine blk_range (lo:=0) (n:=n) (sz (by omega)) (fun j zs Hk=>Same Hj Hk/\j <= n/\zs=((List.range j).map fun j=>(mo:Int) * (if i=j then 1 else 0)).map V.int)
        ⟨Same.refl _,Nat.zero_le _,rfl⟩ (fun j zs Hk h=>?_) rfl (fun j zs Hk hj h=>?_) (fun zs Hk h=>?_)
      · rw [h.2.2,List.length_map,List.length_map,List.length_range]
      · obtain ⟨gk,hjn,rfl⟩:=h
        refine ⟨_,rfl,_,rfl,_,rfl,rfl,.inr ⟨_,rfl,_,_,rfl,rfl,.inl ⟨by omega,by omega⟩,gk,by omega,?_⟩⟩
        rw [List.range_succ,List.map_append,List.map_append]
        congr 1
        show [V.int _]=[V.int _]
        congr 2
        by_cases hij:i=j
        · subst hij
          simp
        · have:¬ (V.int ((0:Int) + (i:Int))=V.int (0 + (j:Int))):=fun z=>hij (by injection z with z;omega)
          rw [decide_eq_false this]
          simp [hij]
      · obtain ⟨gk,_,rfl⟩:=h
        intro p hp
        refine ⟨p,_,rfl,.inl ⟨.of upd_same,fun t ht=>?_⟩⟩
        have gg:Same Hj (upd (upd Hk p (.lst (((List.range n).map fun j=>(mo:Int) * (if i=j then 1 else 0)).map V.int))) t (.tup (((List.range n).map fun j=>(mo:Int) * (if i=j then 1 else 0)).map V.int))):=(gk.trans (Same.new hp)).trans (Same.new ht)
        have sq:Sta l b _ _:=W12.s.same ((gj.trans gk).trans (Same.new hp (o:=.lst (((List.range n).map fun j=>(mo:Int) * (if i=j then 1 else 0)).map V.int))))
        refine ⟨gj.trans gg,by omega,?_⟩
        rw [List.range_succ,List.map_append,List.map_append]
        exact (hd.kp (gg.kp l)).append (Dts.cons (Dt.mkI (sq.ne ht).symm upd_same) (Dts.nil _ _))
    obtain ⟨gj,_,hda0⟩:=h
    intro pz hpz
    refine ⟨pz,_,rfl,.inl ⟨.of upd_same,fun al hal=>?_⟩⟩
    have gg:Same H13 (upd (upd Hj pz (.lst ys)) al (.tup ys)):=(gj.trans (Same.new hpz)).trans (Same.new hal)
    have sq:Sta l b _ _:=W12.s.same (gj.trans (Same.new (o:=.lst ys) hpz))
    have hda:Dt l (upd (upd Hj pz (.lst ys)) al (.tup ys)) (DR (alo n mo)) (.ref al):=Dt.tup (sq.ne hal).symm upd_same (hda0.kp (((Same.new hpz).trans (Same.new hal)).kp l))
    have hRa:Mt.Rul n 5 (alo n mo):=alo_rul hm0 hm5
    have W13:=W12.same gg
    have hpa13:=gg _ _ hpa12
    show tSeq _ _ _ _ (upd (upd Hj pz (.lst ys)) al (.tup ys))
    generalize upd (upd Hj pz (.lst ys)) al (.tup ys)=H14 at hda W13 hpa13
    clear W12 hpa12 gj hda0 hpz hal gg sq
    have hla:=rl_len hRa n4
    obtain ⟨dx,hdk⟩:=W13.dk
    refine ⟨_,rfl,d,dx,_,rfl,hdk,rfl,_,rfl,l,.ref al,alo n mo,n,rfl,hda,hRa,n1,n4,fun Hc gc=>⟨"fair a ",rT (alo n mo),rfl,rfl,Nat.le_trans (Nat.add_le_add (show ("fair a ":Str).length <= 7 by decide +kernel) hla) (by decide),?_⟩⟩
    show sp_say CD [.ref d,.str ("fair a " ++ rT (alo n mo))] _ _ _
    rw [line_fa]
    refine .inr (.inr ⟨d,m,pa,kvc,"fair","a",_,["rule"],[rT (alo n mo)],ns,n,rfl,(W13.same gc).desk,name_a,hva3,gc _ _ hpa13,hU,n1,n4,.fair hRa,fun Hd gd=>⟨rfl,_,rfl,?_⟩⟩)
    rw [if_pos (msh_alo hm0 hm5 n4 hU (by decide) (by decide)),decide_eq_true rfl]
    refine iteF ?_
    have W14:=(W13.same gc).same gd
    have hpa14:=gd _ _ (gc _ _ hpa13)
    have hda14:=(hda.kp (gc.kp l)).kp (gd.kp l)
    clear W13 hpa13 hda gc gd hdk
    have hSb:ns.sum <= 36:=by
      have:=Mt.sum_le (m:=9) (fun x hx=>(hU9.nn x hx).2)
      rw [hnl] at this
      omega
    have hS0:=hU.pos
    have hmk:(mo:Int) * (km:Int) <= 5 * 3:=Int.mul_le_mul hm5 (by omega) (by omega) (by decide)
    have hmk0:0 <= (mo:Int) * (km:Int):=Int.mul_nonneg hm0 (by omega)
    have hzb:∀ z ∈ ns,0 <= z * (ns.sum + (mo:Int) * (km:Int))/\z * (ns.sum + (mo:Int) * (km:Int)) <= 9 * 51:=fun z hz=>by
      have hz9:=hU9.nn z hz
      exact ⟨Int.mul_nonneg hz9.1 (by omega),Int.mul_le_mul hz9.2 (by omega) (by omega) (by decide)⟩
    refine ⟨_,rfl,ua,rfl,⟨_,.of W14.u⟩,?_⟩
    refine blk_tup (K:=K) (a:=ua) (xs:=ns.map V.int) (sz (by rw [List.length_map];omega)) (fun j ys H2=>Same Hd H2/\ys=((ns.take j).map fun z=>fS (cut (z * (ns.sum + (mo:Int) * (km:Int))) ns.sum)).map V.str/\ys.length=j)
      ⟨Same.refl _,rfl,rfl⟩ (fun j ys H2 h=>h.2.2) (fun j ys H2 _ h=>.of (h.1 _ _ W14.u)) rfl (fun j ys H2 v hv h=>?_) (fun ys H2 h=>?_)
    · obtain ⟨g2,hy',hyl⟩:=h
      rw [List.getElem?_map] at hv
      obtain ⟨z,hz,ex⟩:=Option.map_eq_some_iff.mp hv
      subst ex
      have hz9:=hU9.nn z (List.mem_of_getElem? hz)
      obtain ⟨b0,b1⟩:=hzb z (List.mem_of_getElem? hz)
      obtain ⟨w1,w2,w3,w4⟩:=cut_lt (N:=10 ^ 62) b0 hS0 (by omega) (by omega)
      have hu2:=g2 _ _ W14.u
      refine ⟨_,rfl,_,rfl,ua,ns,rfl,.inr (.of hu2),_,rfl,_,rfl,_,_,rfl,rfl,.inl ⟨by omega,by omega⟩,_,_,rfl,rfl,_,_,rfl,rfl,.inl ⟨by omega,by omega⟩,_,rfl,ua,ns,rfl,.inr (.of hu2),_,ns.sum,rfl,b0,hS0,log_g9 (by omega) (by omega),fun pz Hz gz hz'=>⟨pz,_,_,rfl,hz',w1,w2,w3,w4,fun Hy gy=>⟨(g2.trans gz).trans gy,?_,by rw [List.length_append,hyl];rfl⟩⟩⟩
      rw [hy',List.take_add_one,hz,List.map_append,List.map_append]
      rfl
    obtain ⟨g2,hy',hyl⟩:=h
    rw [List.length_map,List.take_of_length_le (Nat.le_refl _)] at hy'
    subst hy'
    intro pd hpd
    have gP:Same Hd (upd H2 pd (.lst ((ns.map fun z=>fS (cut (z * (ns.sum + (mo:Int) * (km:Int))) ns.sum)).map V.str))):=g2.trans (Same.new hpd)
    have W15:=W14.same gP
    have hpa15:=gP _ _ hpa14
    have hda15:=hda14.kp (gP.kp l)
    have hdue:upd H2 pd (.lst ((ns.map fun z=>fS (cut (z * (ns.sum + (mo:Int) * (km:Int))) ns.sum)).map V.str)) pd=some (.lst ((ns.map fun z=>fS (cut (z * (ns.sum + (mo:Int) * (km:Int))) ns.sum)).map V.str)):=upd_same
    show tSeq _ _ _ _ (upd H2 pd (.lst ((ns.map fun z=>fS (cut (z * (ns.sum + (mo:Int) * (km:Int))) ns.sum)).map V.str)))
    generalize upd H2 pd (.lst ((ns.map fun z=>fS (cut (z * (ns.sum + (mo:Int) * (km:Int))) ns.sum)).map V.str))=H15 at W15 hpa15 hda15 hdue
    clear W14 hpa14 hda14 gP g2 hpd hyl
    have hk3:km <= 3:=by omega
    have hmn:=mn_alo (k:=km) hm0 hm5 n4 hU (by omega)
    have hWr:∀ q ∈ mnQ (alo n mo) ns km n,Wr q:=fun q hq=>by
      rw [hmn] at hq
      obtain ⟨z,hz,rfl⟩:=List.mem_map.mp hq
      obtain ⟨b0,b1⟩:=hzb z hz
      obtain ⟨w1,w2,w3,w4⟩:=cut_lt (N:=10 ^ 62) b0 hS0 (by omega) (by omega)
      exact ⟨w1,w2,w4⟩
    have hcl:(chQ (alo n mo) km [(ns,1)]).length < 64:=ch_len hRa n4 hU (by omega) (cnt_ok n1 n4 (by split <;> omega)).1
    have hsl:=sum_lens (m:=125) (ys:=ns.map fun z=>fS (cut (z * (ns.sum + (mo:Int) * (km:Int))) ns.sum)) fun y hy=>by
      obtain ⟨z,hz,rfl⟩:=List.mem_map.mp hy
      obtain ⟨b0,b1⟩:=hzb z hz
      obtain ⟨w1,w2,w3,w4⟩:=cut_lt (N:=10 ^ 62) b0 hS0 (by omega) (by omega)
      exact len_fS w1 w2 w4
    rw [List.length_map] at hsl
    have hkm:=fg_len (k:=km) (by omega)
    have lma:(("mean a ":Str) ++ rT (alo n mo)).length <= 59:=by
      show (("mean a ":Str).cps ++ (rT (alo n mo)).cps).size <= 59
      rw [Array.size_append]
      exact Nat.add_le_add (show ("mean a ":Str).cps.size <= 7 by decide +kernel) (show (rT (alo n mo)).cps.size <= 52 from hla)
    have lmb:(("mean a ":Str) ++ rT (alo n mo) ++ " ").length <= 60:=by
      show ((("mean a ":Str) ++ rT (alo n mo)).cps ++ (" ":Str).cps).size <= 60
      rw [Array.size_append]
      exact Nat.add_le_add (show (("mean a ":Str) ++ rT (alo n mo)).cps.size <= 59 from lma) (show (" ":Str).cps.size <= 1 by decide +kernel)
    obtain ⟨dx,hdk⟩:=W15.dk
    refine ⟨_,rfl,d,dx,_,rfl,hdk,rfl,_,rfl,l,.ref al,alo n mo,n,rfl,hda15,hRa,n1,n4,fun Hc gc=>⟨"mean a ",rT (alo n mo),rfl,rfl,Nat.le_trans (Nat.add_le_add (show ("mean a ":Str).length <= 7 by decide +kernel) hla) (by decide),_," ",rfl,rfl,Nat.le_trans (Nat.add_le_add lma (Nat.le_of_eq sl_a)) (by decide),_,rfl,(km:Int),rfl,log_s (by omega) (by omega),_,tx (km:Int),rfl,rfl,Nat.le_trans (Nat.add_le_add lmb (Nat.le_of_eq hkm)) (by decide),?_⟩⟩
    show sp_say CD [.ref d,.str ("mean a " ++ rT (alo n mo) ++ " " ++ tx (km:Int))] _ _ _
    rw [line_mn]
    refine .inr (.inr ⟨d,m,pa,kvc,"mean","a",_,["rule","figure"],[rT (alo n mo),tx (km:Int)],ns,n,rfl,(W15.same gc).desk,name_a,hva3,gc _ _ hpa15,hU,n1,n4,.means hRa (by omega) hcl hWr,fun He ge=>⟨rfl,_,rfl,_,pd,ns.map fun z=>fS (cut (z * (ns.sum + (mo:Int) * (km:Int))) ns.sum),rfl,rfl,.of (ge _ _ (gc _ _ hdue)),?_,rfl,_,rfl,?_⟩⟩)
    · rw [List.length_map,sl_a];omega
    rw [hmn]
    rw [decide_eq_true (show V.str (msT (ns.map fun z=>cut (z * (ns.sum + (mo:Int) * (km:Int))) ns.sum))=V.str (Txt.join " " (ns.map fun z=>fS (cut (z * (ns.sum + (mo:Int) * (km:Int))) ns.sum))) from by unfold msT;rw [List.map_map];rfl)]
    refine iteF ?_
    have W16:=(W15.same gc).same ge
    have hpa16:=ge _ _ (gc _ _ hpa15)
    clear W15 hpa15 hda15 hdue gc ge hdk hWr hcl hsl lma lmb hmn hzb
    refine fun d2 dx2 hd hdx hne=>⟨d2,dx2,rfl,upd_same,fun m2 hm=>⟨rfl,?_⟩⟩
    obtain ⟨hmd,hm1'⟩:m2 ≠ d2/\He m2=none:=by
      have hmd:m2 ≠ d2:=fun z=>by rw [z,upd_same] at hm;cases hm
      rw [upd_ne hmd] at hm
      have hmx:m2 ≠ dx2:=fun z=>by rw [z,upd_same] at hm;cases hm
      rw [upd_ne hmx] at hm
      exact ⟨hmd,hm⟩
    have gD:Same He (upd (upd (upd (upd He dx2 (.own d2)) d2 (.ins CD dx2 [])) m2 (.dK [])) d2 (.ins CD dx2 [("urns_by_name",.ref m2)])):=fun b o hb=>by
      rw [upd_ne (ne_of_none hb hd),upd_ne (ne_of_none hb hm1'),upd_ne (ne_of_none hb hd),upd_ne (ne_of_none hb hdx)]
      exact hb
    have h3m2:H3 m2=none:=by
      cases e:H3 m2 with
      | none=>rfl
      | some o =>
        by_cases hml:m2=l
        · obtain ⟨_,x7,hx7,_⟩:=W16.s
          rw [hml,hx7] at hm1';cases hm1'
        · have:=W16.s.1 m2 o hml e
          rw [hm1'] at this;cases this
    have hmm:m ≠ m2:=ne_of_none W16.mm hm1'
    have W17:=W16.same gD
    have hpa17:=gD _ _ hpa16
    have V17:Wd CD l b H3 (upd (upd (upd (upd He dx2 (.own d2)) d2 (.ins CD dx2 [])) m2 (.dK [])) d2 (.ins CD dx2 [("urns_by_name",.ref m2)])) d2 m2 ua [] ns rs rv:=⟨W17.s,⟨dx2,upd_same⟩,by rw [upd_ne hmd,upd_same],W17.u,W17.r,h3m2⟩
    try dsimp -proj only [gName]
    generalize upd (upd (upd (upd He dx2 (.own d2)) d2 (.ins CD dx2 [])) m2 (.dK [])) d2 (.ins CD dx2 [("urns_by_name",.ref m2)])=H17 at W17 hpa17 V17
    clear hm hd hdx hne gD hmd hm1' W16 hpa16
    obtain ⟨dx,hdk⟩:=W17.dk
    obtain ⟨dy,hdk2⟩:=V17.dk
    refine ⟨_,rfl,d2,dy,_,rfl,hdk2,rfl,_,rfl,d,dx,_,rfl,hdk,rfl,?_⟩
    show sp_say CD [.ref d,.str "show a"] _ _ _
    rw [line_sa]
    refine .inr (.inr ⟨d,m,pa,kvc,"show","a",nT ns,[],[],ns,n,rfl,W17.desk,name_a,hva3,hpa17,hU,n1,n4,.shown,fun Hc gc=>⟨"urn q ",nT ns,rfl,rfl,Nat.le_trans (Nat.add_le_add (show ("urn q ":Str).length <= 6 by decide +kernel) hnT) (by decide),?_⟩⟩)
    show sp_say CD [.ref d2,.str ("urn q " ++ nT ns)] _ _ _
    rw [line_uq]
    refine .inl ⟨d2,m2,[],"q",ns,n,rfl,(V17.same gc).desk,by decide,name_q,hU,n1,n4,fun pq Hf gf hpq=>?_⟩
    have gg:=gc.trans gf
    have W18:=(W17.same gg).oth (V17.same gg).mm hmm h3m2 (.dK (putK [] (Sum.inr "q") (.ref pq)))
    have V18:=(V17.same gg).put (putK [] (Sum.inr "q") (.ref pq))
    have T18:=(V17.same gg).tput (.dK (putK [] (Sum.inr "q") (.ref pq)))
    have hpa18:=T18 _ _ (gg _ _ hpa17)
    have hpq18:=T18 _ _ hpq
    have hvq:valV (putK ([]:List (Key × V)) (Sum.inr "q") (.ref pq)) (Sum.inr "q")=some (.ref pq):=vput
    generalize upd Hf m2 (.dK (putK [] (Sum.inr "q") (.ref pq)))=H18 at W18 V18 hpa18 hpq18
    generalize putK ([]:List (Key × V)) (Sum.inr "q") (V.ref pq)=kvq at V18 hvq
    clear W17 V17 hpa17 hdk hdk2 gc gf gg hpq T18
    refine ⟨sz (Nat.le_of_ble_eq_true rfl),fun l1 hl1=>⟨sz (Nat.le_of_ble_eq_true rfl),fun l2 hl2=>?_⟩⟩
    have g12:Same H18 (upd (upd H18 l1 (.lst [.str "show"])) l2 (.lst [.str "chance",.str "0"])):=(Same.new hl1).trans (Same.new hl2)
    have k1:upd (upd H18 l1 (.lst [.str "show"])) l2 (.lst [.str "chance",.str "0"]) l1=some (.lst [.str "show"]):=Same.new hl2 _ _ upd_same
    have k2:upd (upd H18 l1 (.lst [.str "show"])) l2 (.lst [.str "chance",.str "0"]) l2=some (.lst [.str "chance",.str "0"]):=upd_same
    generalize upd (upd H18 l1 (.lst [.str "show"])) l2 (.lst [.str "chance",.str "0"])=H19 at g12 k1 k2
    refine ⟨_,rfl,l,rv,rs,n,rfl,(W18.same g12).r,hR,n1,n4,fun Hc gc=>⟨sz (Nat.le_of_ble_eq_true rfl),fun l3 hl3=>⟨_,rfl,l,rv,rs,n,rfl,((W18.same g12).same (gc.trans (Same.new hl3))).r,hR,n1,n4,fun Hd gd=>⟨sz (Nat.le_of_ble_eq_true rfl),fun l4 hl4=>⟨sz (Nat.le_of_ble_eq_true rfl),fun lo hlo=>⟨lo,rfl,⟨_,.of upd_same⟩,?_⟩⟩⟩⟩⟩⟩
    have k3:upd Hc l3 (.lst [.str "stands",.str (rT rs),.str "2"]) l3=some (.lst [.str "stands",.str (rT rs),.str "2"]):=upd_same
    have k4:upd Hd l4 (.lst [.str "fair",.str (rT rs)]) l4=some (.lst [.str "fair",.str (rT rs)]):=upd_same
    have j4:Same (upd Hd l4 (.lst [.str "fair",.str (rT rs)])) (upd (upd Hd l4 (.lst [.str "fair",.str (rT rs)])) lo (.lst [.ref l1,.ref l2,.ref l3,.ref l4])):=Same.new hlo
    have j3:Same (upd Hc l3 (.lst [.str "stands",.str (rT rs),.str "2"])) (upd (upd Hd l4 (.lst [.str "fair",.str (rT rs)])) lo (.lst [.ref l1,.ref l2,.ref l3,.ref l4])):=gd.trans ((Same.new hl4).trans j4)
    have j2:Same H19 (upd (upd Hd l4 (.lst [.str "fair",.str (rT rs)])) lo (.lst [.ref l1,.ref l2,.ref l3,.ref l4])):=gc.trans ((Same.new hl3).trans j3)
    have k0:upd (upd Hd l4 (.lst [.str "fair",.str (rT rs)])) lo (.lst [.ref l1,.ref l2,.ref l3,.ref l4]) lo=some (.lst [.ref l1,.ref l2,.ref l3,.ref l4]):=upd_same
    have e0':tx ((0:Nat):Int)=("0":Str):=by decide +kernel
    have e2':tx ((2:Nat):Int)=("2":Str):=by decide +kernel
    have W19:=W18.same (g12.trans j2)
    have V19:=V18.same (g12.trans j2)
    have hpa19:=j2 _ _ (g12 _ _ hpa18)
    have hpq19:=j2 _ _ (g12 _ _ hpq18)
    have hL:∀ v ∈ [V.ref l1,.ref l2,.ref l3,.ref l4],∃ (pw:Addr) (aw t:Str) (ws fos:List Str),v=.ref pw/\(upd (upd Hd l4 (.lst [.str "fair",.str (rT rs)])) lo (.lst [.ref l1,.ref l2,.ref l3,.ref l4])) pw=some (.lst (.str aw :: ws.map V.str))/\AnsW n ns aw fos ws t:=by
      intro v hv
      simp only [List.mem_cons,List.not_mem_nil,or_false] at hv
      rcases hv with rfl | rfl | rfl | rfl
      · exact ⟨l1,"show",_,[],_,rfl,j2 _ _ k1,.shown⟩
      · refine ⟨l2,"chance",_,[tx ((0:Nat):Int)],_,rfl,?_,.chance (by omega)⟩
        rw [e0'];exact j2 _ _ k2
      · refine ⟨l3,"stands",_,[rT rs,tx ((2:Nat):Int)],_,rfl,?_,.stands hR (by decide) (ch_len hR n4 hU (by decide) (cnt_ok n1 n4 (by split <;> omega)).1)⟩
        rw [e2'];exact j3 _ _ k3
      · exact ⟨l4,"fair",_,[rT rs],_,rfl,j4 _ _ k4,.fair hR⟩
    generalize upd (upd Hd l4 (.lst [.str "fair",.str (rT rs)])) lo (.lst [.ref l1,.ref l2,.ref l3,.ref l4])=H20 at W19 V19 hpa19 hpq19 k0 hL
    generalize [V.ref l1,.ref l2,.ref l3,.ref l4]=vs at hL k0
    clear W18 V18 hpa18 hpq18 g12 k1 k2 k3 k4 hl1 hl2 hl3 hl4 hlo gc gd j2 j3 j4
    refine for_list (K:=K) (a:=lo) (xs:=vs) (fun j σ Hj=>Same H20 Hj/\∃ o',σ=[some (.ref a),some (.int i),some (.ref l),some (.int n),some (.ref ua),some rv,some (.ref d),some (.int kd),some (.ref p4),some (.int mo),some (.int km),some (.ref al),some (.ref pd),some (.ref d2),o']) ⟨Same.refl _,_,rfl⟩ (fun j σ Hj _ h=>.of (h.1 _ _ k0)) (fun j v σ Hj hv h=>?_) (fun σ Hj h=>?_)
    · obtain ⟨gj,o',rfl⟩:=h
      obtain ⟨pw,aw,t,ws,fos,rfl,hpw,hAW⟩:=hL v (List.mem_of_getElem? hv)
      obtain ⟨a1,a2,a3,a4,a5⟩:=hAW.ne
      obtain ⟨w1,w2,w3,w4⟩:=hAW.words n1 n4
      have hws:=sum_lens (m:=60) (ys:=ws) fun y hy=>(w4 y hy).2
      have hbd:∀ x:Str,x.length=1->(((aw :: x :: ws:List Str).map fun y=>y.length).sum + (aw :: x :: ws:List Str).length * (" ":Str).length <= 16777216):=fun x hx=>by
        simp only [List.map_cons,List.sum_cons,List.length_cons,sl_a,hx]
        omega
      have W20:=W19.same gj
      have V20:=V19.same gj
      obtain ⟨dx,hdk⟩:=W20.dk
      obtain ⟨dy,hdk2⟩:=V20.dk
      have hpwj:=gj _ _ hpw
      refine ⟨_,rfl,d2,dy,_,rfl,hdk2,rfl,rfl,_,rfl,pw,_,0,.str aw,rfl,rfl,.of hpwj,atI_nat (j:=0) rfl,sz (Nat.le_of_ble_eq_true rfl),fun q1 hq1=>⟨_,rfl,1,rfl,pw,_,rfl,.of (Same.new hq1 _ _ hpwj),fun q2 hq2=>⟨q1,q2,_,_,rfl,rfl,Same.new hq2 _ _ upd_same,upd_same,?_,fun q3 hq3=>⟨_,q3,aw :: "q" :: ws,rfl,rfl,.of (by rw [upd_same,cut1];rfl),hbd _ (by decide +kernel),?_⟩⟩⟩⟩
      · rw [cut1,List.length_map]
        exact Nat.le_trans (Nat.add_le_add (Nat.le_refl 2) w2) (by decide)
      have gq:=(Same.new (o:=.lst [.str aw,.str "q"]) hq1).trans ((Same.new (o:=.lst (cutV (.str aw :: ws.map V.str) (some 1) none)) hq2).trans (Same.new (o:=.lst ([.str aw,.str "q"] ++ cutV (.str aw :: ws.map V.str) (some 1) none)) hq3))
      show sp_say CD [.ref d2,.str (lineT (aw :: "q" :: ws))] _ _ _
      refine .inr (.inr ⟨d2,m2,pq,kvq,aw,"q",t,fos,ws,ns,n,rfl,(V20.same gq).desk,name_q,hvq,gq _ _ (gj _ _ hpq19),hU,n1,n4,hAW,fun Hk gk=>?_⟩)
      have gK:=gq.trans gk
      refine ⟨_,rfl,d,dx,_,rfl,gK _ _ hdk,rfl,rfl,_,rfl,pw,_,0,.str aw,rfl,rfl,.of (gK _ _ hpwj),atI_nat (j:=0) rfl,sz (Nat.le_of_ble_eq_true rfl),fun q4 hq4=>⟨_,rfl,1,rfl,pw,_,rfl,.of (Same.new hq4 _ _ (gK _ _ hpwj)),fun q5 hq5=>⟨q4,q5,_,_,rfl,rfl,Same.new hq5 _ _ upd_same,upd_same,?_,fun q6 hq6=>⟨_,q6,aw :: "a" :: ws,rfl,rfl,.of (by rw [upd_same,cut1];rfl),hbd _ (by decide +kernel),?_⟩⟩⟩⟩
      · rw [cut1,List.length_map]
        exact Nat.le_trans (Nat.add_le_add (Nat.le_refl 2) w2) (by decide)
      have gr:=(Same.new (o:=.lst [.str aw,.str "a"]) hq4).trans ((Same.new (o:=.lst (cutV (.str aw :: ws.map V.str) (some 1) none)) hq5).trans (Same.new (o:=.lst ([.str aw,.str "a"] ++ cutV (.str aw :: ws.map V.str) (some 1) none)) hq6))
      show sp_say CD [.ref d,.str (lineT (aw :: "a" :: ws))] _ _ _
      refine .inr (.inr ⟨d,m,pa,kvc,aw,"a",t,fos,ws,ns,n,rfl,((W20.same gK).same gr).desk,name_a,hva3,gr _ _ (gK _ _ (gj _ _ hpa19)),hU,n1,n4,hAW,fun Hm gm=>⟨rfl,_,rfl,?_⟩⟩)
      rw [decide_eq_true rfl]
      exact iteF ⟨gj.trans (gK.trans (gr.trans gm)),_,rfl⟩
    obtain ⟨gj,o',rfl⟩:=h
    exact ⟨hA _ (W19.same gj).s.1,_,_,_,_,_,_,_,_,_,_,_,_,_,_,rfl⟩
  · obtain ⟨_,o1,o2,o3,o4,o5,o6,o7,o8,o9,oa,ob,oc,od,oe,rfl⟩:=h
    exact q _
end
end G
set_option maxHeartbeats 4000000
namespace G
open PySem PySem.Spec PyProof.Rows L2 Mt
def Has (K:PySem.W.Frag) (x:Str) (st:Stmt):Prop:=∃ (f:Addr) (oc:Value) (od:Option Addr) (kV doc pm:Value) (an:Option Addr) (cdv ct:Value) (sl:Array (Option Value)),
  PySem.W.nsIn K mainGlobals x=some (some (.ref f))/\K.lookup f=some ⟨oc,od,.func (PySem.W.fnOf x x (defArgs st) (defBody st) (defScope st) .none kV doc pm an cdv ct),sl⟩/\PySem.W.codeIn K cdv x=true/\PySem.W.keepIn K (.ref f)=true
theorem has_mk {K:PySem.W.Frag} {x:Str} {st:Stmt} {f:Addr} {oc:Value} {od:Option Addr} {kV doc pm:Value} {an:Option Addr} {cdv ct:Value} {sl:Array (Option Value)}
    (a:PySem.W.nsIn K mainGlobals x=some (some (.ref f))) (l:K.lookup f=some ⟨oc,od,.func (PySem.W.fnOf x x (defArgs st) (defBody st) (defScope st) .none kV doc pm an cdv ct),sl⟩) (c:PySem.W.codeIn K cdv x=true) (k:PySem.W.keepIn K (.ref f)=true):Has K x st :=
  ⟨f,oc,od,kV,doc,pm,an,cdv,ct,sl,a,l,c,k⟩
theorem cal_mk {P:Program} {w:World} {K:PySem.W.Frag} {mg:Str->Option Value} {base h:Heap} {x:Str} {st:Stmt} {ps:List Str} {k:Nat} {sp:Sp} (X:K.In h) (G:h.Ns mainGlobals mg) (H:Has K x st)
    (hb:∀ (f:Addr) (fd:FuncData),Fun K x x st f fd->Binds K fd ps []) (ok:∀ (f:Addr) (fd:FuncData),Fun K x x st f fd->FnOk P w K mg base CX0 k f fd ps sp):Cal P w K mg base k x ps sp:=by
  obtain ⟨f,oc,od,kV,doc,pm,an,cdv,ct,sl,a,l,c,kp⟩:=H
  have F:=fun_mk (st:=st) l c kp
  exact ⟨f,_,PySem.W.mg_of X G a,kp,hb _ _ F,ok _ _ F⟩
theorem calx_mk {P:Program} {w:World} {K:PySem.W.Frag} {mg:Str->Option Value} {base h:Heap} {x:Str} {st:Stmt} {ps:List Str} {k:Nat} {sp:Sp} (X:K.In h) (G:h.Ns mainGlobals mg) (H:Has K x st)
    (hb:∀ (f:Addr) (fd:FuncData),Fun K x x st f fd->Binds K fd ps []) (ok:∀ (f:Addr) (fd:FuncData),Fun K x x st f fd->FnOk P w K mg base (CX1 P w) k f fd ps sp):CalX P w K mg base k x ps sp:=by
  obtain ⟨f,oc,od,kV,doc,pm,an,cdv,ct,sl,a,l,c,kp⟩:=H
  have F:=fun_mk (st:=st) l c kp
  exact ⟨f,_,PySem.W.mg_of X G a,kp,hb _ _ F,ok _ _ F⟩
def errX (K:PySem.W.Frag):List Addr->Bool
  | []=>true
  | C :: cs=>PySem.W.excIn K C vE "ValueError.__new__" && errX K cs
theorem errX_get {K:PySem.W.Frag}:∀ {cs:List Addr} {i:Nat},errX K cs=true->i < cs.length->PySem.W.excIn K (cs.getD i 0) vE "ValueError.__new__"=true
  | C :: cs,0,h,_=>by
    unfold errX at h
    rw [Bool.and_eq_true] at h
    exact h.1
  | C :: cs,i + 1,h,hi=>by
    unfold errX at h
    rw [Bool.and_eq_true] at h
    have:=errX_get (cs:=cs) (i:=i) h.2 (by simpa using hi)
    simpa using this
theorem errs_mk {K:PySem.W.Frag} {h:Heap} {mg:Str->Option Value} {a0 a1 a2 a3 a5 a9 B:Addr} (X:K.In h) (G:h.Ns mainGlobals mg)
    (e0:PySem.W.nsIn K mainGlobals "NoUrn"=some (some (.ref a0))) (e1:PySem.W.nsIn K mainGlobals "NoRule"=some (some (.ref a1))) (e2:PySem.W.nsIn K mainGlobals "NoKind"=some (some (.ref a2))) (e3:PySem.W.nsIn K mainGlobals "NoBall"=some (some (.ref a3))) (e5:PySem.W.nsIn K mainGlobals "NoNumber"=some (some (.ref a5))) (e9:PySem.W.nsIn K mainGlobals "BadNote"=some (some (.ref a9)))
    (hX:errX K [a0,a1,a2,a3,a0,a5,a0,a0,a0,a9]=true):Errs K mg (fun i=>[a0,a1,a2,a3,a0,a5,a0,a0,a0,a9].getD i 0) B :=
  ⟨PySem.W.mg_of X G e0,PySem.W.mg_of X G e1,PySem.W.mg_of X G e2,PySem.W.mg_of X G e3,PySem.W.mg_of X G e5,PySem.W.mg_of X G e9,fun i hi=>errX_get hX hi⟩
theorem lines_mk {K:PySem.W.Frag} {w:World} {h:Heap} {mg:Str->Option Value} {dl:Addr} {es:Array DictEntry} {n:Nat} (X:K.In h) (G:h.Ns mainGlobals mg) (a:PySem.W.nsIn K mainGlobals "LINES"=some (some (.ref dl)))
    (l:K.lookup dl=some ⟨.type "dict",none,.dict es n,#[]⟩) (s:(dl == sysModules)=false) (k:PySem.W.KeysLit w.params es.toList):LinesK K w mg dl (fun x=>findBy Value.isStrOf es x) :=
  ⟨PySem.W.mg_of X G a,⟨s,es,n,l,k,fun _=>rfl⟩⟩
theorem form_mk {K:PySem.W.Frag} {dl t:Addr} {es:Array DictEntry} {n m:Nat} {a:Str} {fos:List Str} {od:Option Addr} {its:Array Value} {sl:Array (Option Value)} (l:K.lookup dl=some ⟨.type "dict",none,.dict es n,#[]⟩)
    (e:PySem.W.nsIn K dl a=some (some (.ref t))) (lt:K.lookup t=some ⟨.type "tuple",od,.seq its m,sl⟩) (z:its.size <= sizeLine) (v:Vals (fos.map V.str) its.toList):Forms K (fun x=>findBy Value.isStrOf es x) a fos :=
  ⟨t,PySem.W.find_K l e,fun H=>.inr ⟨_,its,m,lt,rfl,rfl,z,v⟩⟩
theorem lines_both {K:PySem.W.Frag} {w:World} {h:Heap} {mg:Str->Option Value} {dl t0 t1 t2 t3 t4 t5 t6:Addr} {es:Array DictEntry} {n m0 m1 m2 m3 m4 m5 m6:Nat} {od0 od1 od2 od3 od4 od5 od6:Option Addr} {its0 its1 its2 its3 its4 its5 its6:Array Value} {sl0 sl1 sl2 sl3 sl4 sl5 sl6:Array (Option Value)} (X:K.In h) (G:h.Ns mainGlobals mg) (a:PySem.W.nsIn K mainGlobals "LINES"=some (some (.ref dl)))
    (l:K.lookup dl=some ⟨.type "dict",none,.dict es n,#[]⟩) (s:(dl == sysModules)=false) (k:PySem.W.KeysLit w.params es.toList)
    (e0:PySem.W.nsIn K dl "urn"=some (some (.ref t0))) (lt0:K.lookup t0=some ⟨.type "tuple",od0,.seq its0 m0,sl0⟩) (z0:its0.size <= sizeLine) (v0:Vals [.str "name",.str "urn"] its0.toList)
    (e1:PySem.W.nsIn K dl "draw"=some (some (.ref t1))) (lt1:K.lookup t1=some ⟨.type "tuple",od1,.seq its1 m1,sl1⟩) (z1:its1.size <= sizeLine) (v1:Vals [.str "name",.str "rule",.str "figure",.str "name"] its1.toList)
    (e2:PySem.W.nsIn K dl "show"=some (some (.ref t2))) (lt2:K.lookup t2=some ⟨.type "tuple",od2,.seq its2 m2,sl2⟩) (z2:its2.size <= sizeLine) (v2:Vals [.str "name"] its2.toList)
    (e3:PySem.W.nsIn K dl "chance"=some (some (.ref t3))) (lt3:K.lookup t3=some ⟨.type "tuple",od3,.seq its3 m3,sl3⟩) (z3:its3.size <= sizeLine) (v3:Vals [.str "name",.str "figure"] its3.toList)
    (e4:PySem.W.nsIn K dl "stands"=some (some (.ref t4))) (lt4:K.lookup t4=some ⟨.type "tuple",od4,.seq its4 m4,sl4⟩) (z4:its4.size <= sizeLine) (v4:Vals [.str "name",.str "rule",.str "figure"] its4.toList)
    (e5:PySem.W.nsIn K dl "mean"=some (some (.ref t5))) (lt5:K.lookup t5=some ⟨.type "tuple",od5,.seq its5 m5,sl5⟩) (z5:its5.size <= sizeLine) (v5:Vals [.str "name",.str "rule",.str "figure"] its5.toList)
    (e6:PySem.W.nsIn K dl "fair"=some (some (.ref t6))) (lt6:K.lookup t6=some ⟨.type "tuple",od6,.seq its6 m6,sl6⟩) (z6:its6.size <= sizeLine) (v6:Vals [.str "name",.str "rule"] its6.toList) :
    LinesK K w mg dl (fun x=>findBy Value.isStrOf es x)/\LineF K (fun x=>findBy Value.isStrOf es x):=⟨lines_mk X G a l s k,⟨form_mk l e0 lt0 z0 v0,form_mk l e1 lt1 z1 v1,form_mk l e2 lt2 z2 v2,form_mk l e3 lt3 z3 v3,form_mk l e4 lt4 z4 v4,form_mk l e5 lt5 z5 v5,form_mk l e6 lt6 z6 v6⟩⟩
def HasM (K:PySem.W.Frag) (C:Addr) (x qual:Str) (st:Stmt):Prop:=∃ (f:Addr) (oc:Value) (od:Option Addr) (kV doc pm:Value) (an:Option Addr) (cdv ct:Value) (sl:Array (Option Value)),
  PySem.W.findIn K (.ref C) x=some (some (.ref f))/\PySem.W.isFn K (.ref f)=true/\K.lookup f=some ⟨oc,od,.func (PySem.W.fnOf x qual (defArgs st) (defBody st) (defScope st) .none kV doc pm an cdv ct),sl⟩/\PySem.W.codeIn K cdv qual=true/\PySem.W.keepIn K (.ref f)=true
theorem hasM_mk {K:PySem.W.Frag} {C:Addr} {x qual:Str} {st:Stmt} {f:Addr} {oc:Value} {od:Option Addr} {kV doc pm:Value} {an:Option Addr} {cdv ct:Value} {sl:Array (Option Value)}
    (a:PySem.W.findIn K (.ref C) x=some (some (.ref f))) (fn:PySem.W.isFn K (.ref f)=true) (l:K.lookup f=some ⟨oc,od,.func (PySem.W.fnOf x qual (defArgs st) (defBody st) (defScope st) .none kV doc pm an cdv ct),sl⟩) (c:PySem.W.codeIn K cdv qual=true) (k:PySem.W.keepIn K (.ref f)=true):HasM K C x qual st :=
  ⟨f,oc,od,kV,doc,pm,an,cdv,ct,sl,a,fn,l,c,k⟩
theorem calm_mk {P:Program} {w:World} {K:PySem.W.Frag} {mg:Str->Option Value} {base:Heap} {C:Addr} {x qual:Str} {st:Stmt} {ps:List Str} {k:Nat} {sp:Sp} (H:HasM K C x qual st)
    (hb:∀ (f:Addr) (fd:FuncData),Fun K x qual st f fd->Binds K fd ps []) (ok:∀ (f:Addr) (fd:FuncData),Fun K x qual st f fd->FnOk P w K mg base CX0 k f fd ps sp):CalM P w K mg base C k x ps sp:=by
  obtain ⟨f,oc,od,kV,doc,pm,an,cdv,ct,sl,a,fn,l,c,kp⟩:=H
  have F:=fun_mk (st:=st) l c kp
  exact ⟨f,_,⟨a,fn,kp⟩,hb _ _ F,ok _ _ F⟩
theorem calk_mk {P:Program} {w:World} {K:PySem.W.Frag} {mg:Str->Option Value} {base:Heap} {C:Addr} {x:Str} {k:Nat} {ps:List Str} {sp:Sp} (hm:mg x=some (.ref C)) (mk:PySem.W.makesIn K C=true) (kp:PySem.W.keepIn K (.ref C)=true) (M:CalM P w K mg base C k "__init__" ps sp):CalK P w K mg base C k x ps sp:=by
  obtain ⟨f,fd,me,hb,F⟩:=M.ex
  exact ⟨f,fd,⟨mk,me.at_,me.fn,kp⟩,hm,hb,F⟩
theorem all_mk {l:PySem.W.OpenLaw} {w:World} {K:PySem.W.Frag} {h:Heap} {mg:Str->Option Value} {fa Bs dl CD:Addr} {c:Nat->Addr} {fL:Str->Option Value} (X:K.In h) (G:h.Ns mainGlobals mg) (hfa:mg "law"=some (.ref fa)) (R:Errs K mg c Bs) (LL:LinesK K w mg dl fL/\LineF K fL)
    (hcd:PySem.W.nsIn K mainGlobals "Desk"=some (some (.ref CD))) (D:DeskK K CD) (hmk:PySem.W.makesIn K CD=true) (hkp:PySem.W.keepIn K (.ref CD)=true)
    (h1:Has K "is_number" s_is_number) (h2:Has K "is_whole" s_is_whole) (h3:Has K "are_wholes" s_are_wholes) (h4:Has K "need_number" s_need_number) (h5:Has K "is_urn_up_to" s_is_urn_up_to) (h6:Has K "is_urn" s_is_urn) (h7:Has K "is_rule" s_is_rule) (h8:Has K "need_urn" s_need_urn) (h9:Has K "need_rule" s_need_rule) (h10:Has K "need_urn_and_rule" s_nur) (h11:Has K "need_kind" s_need_kind) (h12:Has K "greatest_divisor" s_gd) (h13:Has K "fraction" s_fraction) (h14:Has K "times" s_times) (h15:Has K "plus" s_plus) (h16:Has K "total" s_total) (h17:Has K "share" s_share) (h18:Has K "put_in" s_put_in) (h19:Has K "own_urn" s_own_urn) (h20:Has K "urns_behind_one" s_ubo) (h21:Has K "next_chances" s_nextc) (h22:Has K "stands" s_st) (h23:Has K "mean_share" s_ms) (h24:Has K "mean_shares" s_mss) (h25:Has K "is_fair" s_fair) (h26:Has K "mean_balls" s_mb) (h27:Has K "mean" s_mn) (h28:Has K "chance" s_chance) (h29:Has K "_law_cell_at" s_cell_at) (h30:Has K "_law_state" s_state) (h31:Has K "_law_take" s_take) (h32:Has K "_law_rule" s_lrule) (h33:Has K "_law_cut" s_cut) (h34:Has K "numbers_text" s_nt) (h35:Has K "urn_text" s_ut) (h36:Has K "rule_text" s_rt) (h37:Has K "fraction_text" s_ft) (h38:Has K "need_text" s_ntx) (h39:Has K "numbers_read" s_nr) (h40:Has K "urn_read" s_ur) (h41:Has K "rule_read" s_rr) (h42:Has K "after" s_after) (h43:Has K "name_read" s_nmr) (h44:Has K "figure_read" s_fgr) (h45:Has K "any_rule_read" s_arr) (h46:Has K "word_read" s_wr) (h47:Has K "line_read" s_lr) (h48:Has K "answer" s_ans)
    (hm1:HasM K CD "__init__" "Desk.__init__" s_init) (hm2:HasM K CD "urn_by_name" "Desk.urn_by_name" s_ubn) (hm3:HasM K CD "keep" "Desk.keep" s_keep) (hm4:HasM K CD "say" "Desk.say" s_say)
    (hlaw:Has K "law" s_law)
    (z1:PySem.W.nsIn K mainGlobals "isinstance"=some none) (z2:PySem.W.nsIn K mainGlobals "bool"=some none) (z3:PySem.W.nsIn K mainGlobals "int"=some none) (z4:PySem.W.nsIn K mainGlobals "tuple"=some none) (z5:PySem.W.nsIn K mainGlobals "list"=some none) (z6:PySem.W.nsIn K mainGlobals "all"=some none) (z7:PySem.W.nsIn K mainGlobals "sum"=some none) (z8:PySem.W.nsIn K mainGlobals "len"=some none) (z9:PySem.W.nsIn K mainGlobals "range"=some none) (z10:PySem.W.nsIn K mainGlobals "max"=some none) (z11:PySem.W.nsIn K mainGlobals "min"=some none) (z12:PySem.W.nsIn K mainGlobals "abs"=some none) (z13:PySem.W.nsIn K mainGlobals "zip"=some none) (z14:PySem.W.nsIn K mainGlobals "str"=some none) (z15:PySem.W.nsIn K mainGlobals "enumerate"=some none) (z16:PySem.W.nsIn K mainGlobals "sorted"=some none)
    {t1:Tok} (m1:PySem.W.nsIn K mainGlobals "MOST_KINDS"=some (some (.int 4 t1))) {t2:Tok} (m2:PySem.W.nsIn K mainGlobals "MOST_BALLS"=some (some (.int 20 t2))) {t3:Tok} (m3:PySem.W.nsIn K mainGlobals "MOST_PUT_IN"=some (some (.int 5 t3))) {t4:Tok} (m4:PySem.W.nsIn K mainGlobals "MOST_STAND_DRAWS"=some (some (.int 6 t4))) {tl:Tok} (ml:PySem.W.nsIn K mainGlobals "MOST_LETTERS"=some (some (.int 8 tl))) {tf:Tok} (mf:PySem.W.nsIn K mainGlobals "FIGURES"=some (some (.str "0123456789" tf))) :
    ∃ fd:FuncData,(∀ (s:Shared) (v:Value),BindsTo s fd ⟨[v],[]⟩ [("_law_script",v)])/\∀ base:Heap,K.In base->base.Ns mainGlobals mg->FnOk l.prog w K mg base CX0 13 fa fd ["_law_script"] (spLaw K):=by
  obtain ⟨L,LF⟩:=LL
  obtain ⟨f,oc,od,kV,doc,pm,an,cdv,ct,sl,a,lk,c',kp⟩:=hlaw
  have e:=hfa.symm.trans (PySem.W.mg_of X G a)
  cases e
  have F:=fun_mk (st:=s_law) lk c' kp
  have B:Bt mg:=⟨PySem.W.mg_none_of X G z1,PySem.W.mg_none_of X G z2,PySem.W.mg_none_of X G z3,PySem.W.mg_none_of X G z4,PySem.W.mg_none_of X G z5,PySem.W.mg_none_of X G z6,PySem.W.mg_none_of X G z7,PySem.W.mg_none_of X G z8,PySem.W.mg_none_of X G z9,PySem.W.mg_none_of X G z10,PySem.W.mg_none_of X G z11,PySem.W.mg_none_of X G z12,PySem.W.mg_none_of X G z13⟩
  have B2:Bt2 mg:=⟨PySem.W.mg_none_of X G z14⟩
  have B3:Bt3 mg:=⟨PySem.W.mg_none_of X G z15,PySem.W.mg_none_of X G z16⟩
  have C:Ct mg:=⟨⟨_,PySem.W.mg_of X G m1⟩,⟨_,PySem.W.mg_of X G m2⟩,⟨_,PySem.W.mg_of X G m3⟩⟩
  have C2:Ct2 mg:=⟨⟨_,PySem.W.mg_of X G m4⟩⟩
  have CK:CtK mg:=⟨⟨_,PySem.W.mg_of X G ml⟩,⟨_,PySem.W.mg_of X G mf⟩⟩
  refine ⟨PySem.W.fnOf "law" "law" (defArgs s_law) (defBody s_law) (defScope s_law) .none kV doc pm an cdv ct,fun s v=>.of_eq rfl,fun base _ _=>?_⟩
  have c_is_number:Cal l.prog w K mg base 0 "is_number" ["thing"] sp_is_number:=cal_mk X G h1 (fun f fd F=>F.binds (ps:=["thing"]) fun _ _ _ _ _ _ us hl=>match us,hl with | [_],_=>rfl) (fun f fd F=>ok_is_number F B)
  have c_is_whole:Cal l.prog w K mg base 1 "is_whole" ["thing","low","high"] sp_is_whole:=cal_mk X G h2 (fun f fd F=>F.binds (ps:=["thing","low","high"]) fun _ _ _ _ _ _ us hl=>match us,hl with | [_,_,_],_=>rfl) (fun f fd F=>ok_is_whole F c_is_number)
  have c_are_wholes:Cal l.prog w K mg base 2 "are_wholes" ["thing","low","high"] sp_are_wholes:=cal_mk X G h3 (fun f fd F=>F.binds (ps:=["thing","low","high"]) fun _ _ _ _ _ _ us hl=>match us,hl with | [_,_,_],_=>rfl) (fun f fd F=>ok_are_wholes F B c_is_whole)
  have c_need_number:CalX l.prog w K mg base 2 "need_number" ["thing","low","high"] (sp_need_number c):=calx_mk X G h4 (fun f fd F=>F.binds (ps:=["thing","low","high"]) fun _ _ _ _ _ _ us hl=>match us,hl with | [_,_,_],_=>rfl) (fun f fd F=>ok_need_number F R c_is_whole)
  have c_is_urn_up_to:Cal l.prog w K mg base 3 "is_urn_up_to" ["thing","most"] sp_is_urn_up_to:=cal_mk X G h5 (fun f fd F=>F.binds (ps:=["thing","most"]) fun _ _ _ _ _ _ us hl=>match us,hl with | [_,_],_=>rfl) (fun f fd F=>ok_is_urn_up_to F B C c_are_wholes)
  have c_is_urn:Cal l.prog w K mg base 4 "is_urn" ["thing"] sp_is_urn:=cal_mk X G h6 (fun f fd F=>F.binds (ps:=["thing"]) fun _ _ _ _ _ _ us hl=>match us,hl with | [_],_=>rfl) (fun f fd F=>ok_is_urn F C c_is_urn_up_to)
  have c_is_rule:CalX l.prog w K mg base 3 "is_rule" ["kinds","thing"] (sp_is_rule c):=calx_mk X G h7 (fun f fd F=>F.binds (ps:=["kinds","thing"]) fun _ _ _ _ _ _ us hl=>match us,hl with | [_,_],_=>rfl) (fun f fd F=>ok_is_rule F B C c_are_wholes c_need_number)
  have c_need_urn:CalX l.prog w K mg base 5 "need_urn" ["thing"] (sp_need_urn c):=calx_mk X G h8 (fun f fd F=>F.binds (ps:=["thing"]) fun _ _ _ _ _ _ us hl=>match us,hl with | [_],_=>rfl) (fun f fd F=>ok_need_urn F R c_is_urn)
  have c_need_rule:CalX l.prog w K mg base 4 "need_rule" ["kinds","thing"] (sp_need_rule c):=calx_mk X G h9 (fun f fd F=>F.binds (ps:=["kinds","thing"]) fun _ _ _ _ _ _ us hl=>match us,hl with | [_,_],_=>rfl) (fun f fd F=>ok_need_rule F R c_is_rule)
  have c_need_urn_and_rule:CalX l.prog w K mg base 6 "need_urn_and_rule" ["urn","rule"] (sp_nur c):=calx_mk X G h10 (fun f fd F=>F.binds (ps:=["urn","rule"]) fun _ _ _ _ _ _ us hl=>match us,hl with | [_,_],_=>rfl) (fun f fd F=>ok_nur F B c_need_urn c_need_rule)
  have c_need_kind:CalX l.prog w K mg base 2 "need_kind" ["urn","thing"] (sp_need_kind c):=calx_mk X G h11 (fun f fd F=>F.binds (ps:=["urn","thing"]) fun _ _ _ _ _ _ us hl=>match us,hl with | [_,_],_=>rfl) (fun f fd F=>ok_need_kind F B R c_is_whole)
  have c_greatest_divisor:Cal l.prog w K mg base 1 "greatest_divisor" ["one","other"] sp_gd:=cal_mk X G h12 (fun f fd F=>F.binds (ps:=["one","other"]) fun _ _ _ _ _ _ us hl=>match us,hl with | [_,_],_=>rfl) (fun f fd F=>ok_gd F B)
  have c_fraction:Cal l.prog w K mg base 2 "fraction" ["top","bottom"] sp_fraction:=cal_mk X G h13 (fun f fd F=>F.binds (ps:=["top","bottom"]) fun _ _ _ _ _ _ us hl=>match us,hl with | [_,_],_=>rfl) (fun f fd F=>ok_fraction F c_greatest_divisor)
  have c_times:Cal l.prog w K mg base 3 "times" ["one","other"] sp_times:=cal_mk X G h14 (fun f fd F=>F.binds (ps:=["one","other"]) fun _ _ _ _ _ _ us hl=>match us,hl with | [_,_],_=>rfl) (fun f fd F=>ok_times F c_fraction)
  have c_plus:Cal l.prog w K mg base 3 "plus" ["one","other"] sp_plus:=cal_mk X G h15 (fun f fd F=>F.binds (ps:=["one","other"]) fun _ _ _ _ _ _ us hl=>match us,hl with | [_,_],_=>rfl) (fun f fd F=>ok_plus F c_fraction)
  have c_total:Cal l.prog w K mg base 4 "total" ["fractions"] sp_total:=cal_mk X G h16 (fun f fd F=>F.binds (ps:=["fractions"]) fun _ _ _ _ _ _ us hl=>match us,hl with | [_],_=>rfl) (fun f fd F=>ok_total F c_plus)
  have c_share:Cal l.prog w K mg base 3 "share" ["urn","kind"] sp_share:=cal_mk X G h17 (fun f fd F=>F.binds (ps:=["urn","kind"]) fun _ _ _ _ _ _ us hl=>match us,hl with | [_,_],_=>rfl) (fun f fd F=>ok_share F B c_fraction)
  have c_put_in:Cal l.prog w K mg base 1 "put_in" ["urn","rule","kind"] sp_put_in:=cal_mk X G h18 (fun f fd F=>F.binds (ps:=["urn","rule","kind"]) fun _ _ _ _ _ _ us hl=>match us,hl with | [_,_,_],_=>rfl) (fun f fd F=>ok_put_in F B)
  have c_own_urn:Cal l.prog w K mg base 1 "own_urn" ["urn"] sp_own_urn:=cal_mk X G h19 (fun f fd F=>F.binds (ps:=["urn"]) fun _ _ _ _ _ _ us hl=>match us,hl with | [_],_=>rfl) (fun f fd F=>ok_own_urn F B)
  have c_urns_behind_one:Cal l.prog w K mg base 2 "urns_behind_one" ["urn","rule"] sp_ubo:=cal_mk X G h20 (fun f fd F=>F.binds (ps:=["urn","rule"]) fun _ _ _ _ _ _ us hl=>match us,hl with | [_,_],_=>rfl) (fun f fd F=>ok_ubo F B3 c_put_in)
  have c_next_chances:Cal l.prog w K mg base 4 "next_chances" ["chances","rule"] sp_nextc:=cal_mk X G h21 (fun f fd F=>F.binds (ps:=["chances","rule"]) fun _ _ _ _ _ _ us hl=>match us,hl with | [_,_],_=>rfl) (fun f fd F=>ok_nextc F B c_urns_behind_one c_times c_fraction c_plus)
  have c_stands:CalX l.prog w K mg base 7 "stands" ["urn","rule","draws"] (sp_st c):=calx_mk X G h22 (fun f fd F=>F.binds (ps:=["urn","rule","draws"]) fun _ _ _ _ _ _ us hl=>match us,hl with | [_,_,_],_=>rfl) (fun f fd F=>ok_st F B B3 C2 c_need_urn_and_rule c_need_number c_own_urn c_next_chances)
  have c_mean_share:Cal l.prog w K mg base 5 "mean_share" ["behind","kind"] sp_ms:=cal_mk X G h23 (fun f fd F=>F.binds (ps:=["behind","kind"]) fun _ _ _ _ _ _ us hl=>match us,hl with | [_,_],_=>rfl) (fun f fd F=>ok_ms F c_total c_times c_share)
  have c_mean_shares:CalX l.prog w K mg base 8 "mean_shares" ["urn","rule","draws"] (sp_mss c):=calx_mk X G h24 (fun f fd F=>F.binds (ps:=["urn","rule","draws"]) fun _ _ _ _ _ _ us hl=>match us,hl with | [_,_,_],_=>rfl) (fun f fd F=>ok_mss F B c_stands c_mean_share)
  have c_is_fair:CalX l.prog w K mg base 9 "is_fair" ["urn","rule"] (sp_fair c):=calx_mk X G h25 (fun f fd F=>F.binds (ps:=["urn","rule"]) fun _ _ _ _ _ _ us hl=>match us,hl with | [_,_],_=>rfl) (fun f fd F=>ok_fair F c_mean_shares)
  have c_mean_balls:Cal l.prog w K mg base 5 "mean_balls" ["behind","kind"] sp_mb:=cal_mk X G h26 (fun f fd F=>F.binds (ps:=["behind","kind"]) fun _ _ _ _ _ _ us hl=>match us,hl with | [_,_],_=>rfl) (fun f fd F=>ok_mb F c_total c_times)
  have c_mean:CalX l.prog w K mg base 8 "mean" ["urn","rule","draws"] (sp_mn c):=calx_mk X G h27 (fun f fd F=>F.binds (ps:=["urn","rule","draws"]) fun _ _ _ _ _ _ us hl=>match us,hl with | [_,_,_],_=>rfl) (fun f fd F=>ok_mn F B c_stands c_mean_balls)
  have c_chance:CalX l.prog w K mg base 6 "chance" ["urn","kind"] (sp_chance c):=calx_mk X G h28 (fun f fd F=>F.binds (ps:=["urn","kind"]) fun _ _ _ _ _ _ us hl=>match us,hl with | [_,_],_=>rfl) (fun f fd F=>ok_chance F c_need_urn c_need_kind c_share)
  have c__law_cell_at:Cal l.prog w K mg base 1 "_law_cell_at" ["_law_script","_law_k"] (sp_cell_at K):=cal_mk X G h29 (fun f fd F=>F.binds (ps:=["_law_script","_law_k"]) fun _ _ _ _ _ _ us hl=>match us,hl with | [_,_],_=>rfl) (fun f fd F=>ok_cell_at F B)
  have c__law_state:Cal l.prog w K mg base 2 "_law_state" ["_law_script","_law_k"] (sp_state K):=cal_mk X G h30 (fun f fd F=>F.binds (ps:=["_law_script","_law_k"]) fun _ _ _ _ _ _ us hl=>match us,hl with | [_,_],_=>rfl) (fun f fd F=>ok_state F c__law_cell_at)
  have c__law_take:Cal l.prog w K mg base 1 "_law_take" ["_law_state_here","_law_many"] sp_take:=cal_mk X G h31 (fun f fd F=>F.binds (ps:=["_law_state_here","_law_many"]) fun _ _ _ _ _ _ us hl=>match us,hl with | [_,_],_=>rfl) (fun f fd F=>ok_take F )
  have c__law_rule:Cal l.prog w K mg base 2 "_law_rule" ["_law_state_here","_law_kinds"] sp_lrule:=cal_mk X G h32 (fun f fd F=>F.binds (ps:=["_law_state_here","_law_kinds"]) fun _ _ _ _ _ _ us hl=>match us,hl with | [_,_],_=>rfl) (fun f fd F=>ok_lrule F B c__law_take)
  have c__law_cut:Cal l.prog w K mg base 1 "_law_cut" ["_law_top","_law_bottom"] sp_cut:=cal_mk X G h33 (fun f fd F=>F.binds (ps:=["_law_top","_law_bottom"]) fun _ _ _ _ _ _ us hl=>match us,hl with | [_,_],_=>rfl) (fun f fd F=>ok_cut F B)
  have c_numbers_text:Cal l.prog w K mg base 1 "numbers_text" ["numbers"] sp_nt:=cal_mk X G h34 (fun f fd F=>F.binds (ps:=["numbers"]) fun _ _ _ _ _ _ us hl=>match us,hl with | [_],_=>rfl) (fun f fd F=>ok_nt F B2)
  have c_urn_text:Cal l.prog w K mg base 6 "urn_text" ["urn"] sp_ut:=cal_mk X G h35 (fun f fd F=>F.binds (ps:=["urn"]) fun _ _ _ _ _ _ us hl=>match us,hl with | [_],_=>rfl) (fun f fd F=>ok_ut F (c_need_urn.up (by decide)) (c_numbers_text.up (by decide)))
  have c_rule_text:Cal l.prog w K mg base 6 "rule_text" ["rule"] sp_rt:=cal_mk X G h36 (fun f fd F=>F.binds (ps:=["rule"]) fun _ _ _ _ _ _ us hl=>match us,hl with | [_],_=>rfl) (fun f fd F=>ok_rt F B C (c_need_rule.up (by decide)) (c_numbers_text.up (by decide)))
  have c_fraction_text:Cal l.prog w K mg base 1 "fraction_text" ["fraction"] sp_ftB:=cal_mk X G h37 (fun f fd F=>F.binds (ps:=["fraction"]) fun _ _ _ _ _ _ us hl=>match us,hl with | [_],_=>rfl) (fun f fd F=>ok_ftB F B2)
  have c_need_text:Cal l.prog w K mg base 1 "need_text" ["thing"] sp_ntx:=cal_mk X G h38 (fun f fd F=>F.binds (ps:=["thing"]) fun _ _ _ _ _ _ us hl=>match us,hl with | [_],_=>rfl) (fun f fd F=>ok_ntx F B B2)
  have c_numbers_read:Cal l.prog w K mg base 1 "numbers_read" ["text","most"] sp_nr:=cal_mk X G h39 (fun f fd F=>F.binds (ps:=["text","most"]) fun _ _ _ _ _ _ us hl=>match us,hl with | [_,_],_=>rfl) (fun f fd F=>ok_nr F B B2)
  have c_urn_read:Cal l.prog w K mg base 6 "urn_read" ["text"] sp_ur:=cal_mk X G h40 (fun f fd F=>F.binds (ps:=["text"]) fun _ _ _ _ _ _ us hl=>match us,hl with | [_],_=>rfl) (fun f fd F=>ok_ur F C (c_need_text.up (by decide)) (c_numbers_read.up (by decide)) (c_is_urn.up (by decide)))
  have c_rule_read:Cal l.prog w K mg base 6 "rule_read" ["kinds","text"] sp_rr:=cal_mk X G h41 (fun f fd F=>F.binds (ps:=["kinds","text"]) fun _ _ _ _ _ _ us hl=>match us,hl with | [_,_],_=>rfl) (fun f fd F=>ok_rr F B C (c_need_number.up (by decide)) (c_need_text.up (by decide)) (c_numbers_read.up (by decide)) (c_is_rule.up (by decide)))
  have c_after:Cal l.prog w K mg base 7 "after" ["urn","rule","kind"] sp_aftV:=cal_mk X G h42 (fun f fd F=>F.binds (ps:=["urn","rule","kind"]) fun _ _ _ _ _ _ us hl=>match us,hl with | [_,_,_],_=>rfl) (fun f fd F=>ok_aftV F c_need_urn_and_rule c_need_kind c_put_in)
  have c_name_read:Cal l.prog w K mg base 1 "name_read" ["word"] sp_nmr:=cal_mk X G h43 (fun f fd F=>F.binds (ps:=["word"]) fun _ _ _ _ _ _ us hl=>match us,hl with | [_],_=>rfl) (fun f fd F=>ok_nmr F B CK)
  have c_figure_read:Cal l.prog w K mg base 1 "figure_read" ["word"] sp_fgr:=cal_mk X G h44 (fun f fd F=>F.binds (ps:=["word"]) fun _ _ _ _ _ _ us hl=>match us,hl with | [_],_=>rfl) (fun f fd F=>ok_fgr F B CK)
  have c_any_rule_read:Cal l.prog w K mg base 7 "any_rule_read" ["word"] sp_arr:=cal_mk X G h45 (fun f fd F=>F.binds (ps:=["word"]) fun _ _ _ _ _ _ us hl=>match us,hl with | [_],_=>rfl) (fun f fd F=>ok_arr F C c_rule_read)
  have c_word_read:Cal l.prog w K mg base 8 "word_read" ["form","word"] sp_wr:=cal_mk X G h46 (fun f fd F=>F.binds (ps:=["form","word"]) fun _ _ _ _ _ _ us hl=>match us,hl with | [_,_],_=>rfl) (fun f fd F=>ok_wr F c_name_read c_urn_read c_figure_read c_any_rule_read)
  have c_line_read:Cal l.prog w K mg base 9 "line_read" ["line"] (sp_lr K fL):=cal_mk X G h47 (fun f fd F=>F.binds (ps:=["line"]) fun _ _ _ _ _ _ us hl=>match us,hl with | [_],_=>rfl) (fun f fd F=>ok_lr F B L c_need_text c_word_read)
  have c_answer:Cal l.prog w K mg base 10 "answer" ["asked","urn","others"] sp_ans:=cal_mk X G h48 (fun f fd F=>F.binds (ps:=["asked","urn","others"]) fun _ _ _ _ _ _ us hl=>match us,hl with | [_,_,_],_=>rfl) (fun f fd F=>ok_ans F B B2 c_urn_text c_fraction_text c_chance c_stands c_mean c_is_fair)
  have m___init__:CalM l.prog w K mg base CD 1 "__init__" ["self"] (sp_init CD):=calm_mk hm1 (fun f fd F=>F.binds (ps:=["self"]) fun _ _ _ _ _ _ us hl=>match us,hl with | [_],_=>rfl) (fun f fd F=>ok_init F D)
  have m_urn_by_name:CalM l.prog w K mg base CD 1 "urn_by_name" ["self","name"] (sp_ubn CD):=calm_mk hm2 (fun f fd F=>F.binds (ps:=["self","name"]) fun _ _ _ _ _ _ us hl=>match us,hl with | [_,_],_=>rfl) (fun f fd F=>ok_ubn F D)
  have m_keep:CalM l.prog w K mg base CD 5 "keep" ["self","name","urn"] (sp_keep CD):=calm_mk hm3 (fun f fd F=>F.binds (ps:=["self","name","urn"]) fun _ _ _ _ _ _ us hl=>match us,hl with | [_,_,_],_=>rfl) (fun f fd F=>ok_keep F D c_is_urn)
  have m_say:CalM l.prog w K mg base CD 11 "say" ["self","line"] (sp_say CD):=calm_mk hm4 (fun f fd F=>F.binds (ps:=["self","line"]) fun _ _ _ _ _ _ us hl=>match us,hl with | [_,_],_=>rfl) (fun f fd F=>ok_say F D LF c_line_read m_keep m_urn_by_name c_answer c_after)
  exact ok_law F B B2 D ⟨(c__law_state.up (by decide)),(c__law_take.up (by decide)),(c__law_rule.up (by decide)),(c__law_cut.up (by decide)),(c_fraction_text.up (by decide)),(c_urn_text.up (by decide)),(c_rule_text.up (by decide)),(c_urn_read.up (by decide)),(c_after.up (by decide)),(c_chance.up (by decide)),(calk_mk (PySem.W.mg_of X G hcd) hmk hkp m___init__).up (by decide),m_say.up (by decide)⟩
theorem walk {l:PySem.W.OpenLaw} {q:Program} {loose:List Str} {XP:(Str->Option Value)->Heap->Prop} {YP:World->Heap->Prop} {d:DefRec} {K:Params->PySem.W.Frag} (hn:l.most=some 63) (hdf:d.params.defaults=[])
    (hY:∀ (w:World) (h:Heap),YP w h->(K w.params).In h)
    (F:∀ (w:World) (mg:Str->Option Value) (fa:Addr) (h:Heap),(K w.params).In h->h.Ns mainGlobals mg->mg d.name=some (.ref fa) ->
      ∃ fd:FuncData,(∀ (s:Shared) (u:Value),BindsTo s fd ⟨[u],[]⟩ [("_law_script",u)])/\∀ base:Heap,(K w.params).In base->base.Ns mainGlobals mg->FnOk l.prog w (K w.params) mg base CX0 13 fa fd ["_law_script"] (spLaw (K w.params))) :
    PySem.W.WalkO q loose XP YP l.row.toRowW d [] (fun f vs=>PySem.call f vs) :=
  L2.walk_of (n:=63) (k:=13) (x:="_law_script") (CX:=fun _=>CX0) (sp:=fun w=>spLaw (K w.params)) hn (by decide) hdf ⟨rfl,by decide,by decide⟩ hY F (fun _ _ a ns hl _ hS=>⟨a,ns,rfl,hS,hl,fun _=>rfl⟩) fun _ _ _ _ _ z=>z
end G
def PySem.Challenge.cw_growurns_k95_whole_desk_holds.tw6646226271225025413 : Unit := ()
def PySem.Challenge.cw_growurns_k95_whole_desk_holds.tw16506157596896116082 : Unit := ()
def PySem.Challenge.cw_growurns_k95_whole_desk_holds.tw1291241058969980284 : Unit := ()
def PySem.Challenge.cw_growurns_k95_whole_desk_holds.tw18237503760867817786 : Unit := ()
def PySem.Challenge.cw_growurns_k95_whole_desk_holds.tw15422201846079933234 : Unit := ()
def PySem.Challenge.cw_growurns_k95_whole_desk_holds.tw3242295378164962410 : Unit := ()
def PySem.Challenge.cw_growurns_k95_whole_desk_holds.tw8624365440477815968 : Unit := ()
def PySem.Challenge.cw_growurns_k95_whole_desk_holds.tw14630642670773190308 : Unit := ()
def PySem.Challenge.cw_growurns_k95_whole_desk_holds.tw6111460485424366041 : Unit := ()
def PySem.Challenge.cw_growurns_k95_whole_desk_holds.tw5307922224503645057 : Unit := ()
def PySem.Challenge.cw_growurns_k95_whole_desk_holds.tw17605065149942959004 : Unit := ()
def PySem.Challenge.cw_growurns_k95_whole_desk_holds.tw488562776835433585 : Unit := ()
def PySem.Challenge.cw_growurns_k95_whole_desk_holds.tw13276965827750394278 : Unit := ()
def PySem.Challenge.cw_growurns_k95_whole_desk_holds.tw6010797776564074696 : Unit := ()
def PySem.Challenge.cw_growurns_k95_whole_desk_holds.tw1945084173819377274 : Unit := ()
def PySem.Challenge.cw_growurns_k95_whole_desk_holds.tw1564853467526322245 : Unit := ()
def PySem.Challenge.cw_growurns_k95_whole_desk_holds.tw15019506814480686488 : Unit := ()
def PySem.Challenge.cw_growurns_k95_whole_desk_holds.tw318458832510181726 : Unit := ()
def PySem.Challenge.cw_growurns_k95_whole_desk_holds.tw3524364427966185488 : Unit := ()
def PySem.Challenge.cw_growurns_k95_whole_desk_holds.tw11083415640414012101 : Unit := ()
def PySem.Challenge.cw_growurns_k95_whole_desk_holds.tw7302624782159860197 : Unit := ()
def PySem.Challenge.cw_growurns_k95_whole_desk_holds.tw7492683863154609660 : Unit := ()
def PySem.Challenge.cw_growurns_k95_whole_desk_holds.tw14384067515372952539 : Unit := ()
def PySem.Challenge.cw_growurns_k95_whole_desk_holds.tw6207448914333737109 : Unit := ()
def PySem.Challenge.cw_growurns_k95_whole_desk_holds.tw590497229533467035 : Unit := ()
def PySem.Challenge.cw_growurns_k95_whole_desk_holds.tw8773534449930136656 : Unit := ()
def PySem.Challenge.cw_growurns_k95_whole_desk_holds.tw1799446728121787501 : Unit := ()
def PySem.Challenge.cw_growurns_k95_whole_desk_holds.tw9765080839222269446 : Unit := ()
def PySem.Challenge.cw_growurns_k95_whole_desk_holds.tw16966892969364599549 : Unit := ()
def PySem.Challenge.cw_growurns_k95_whole_desk_holds.tw15021184855141502061 : Unit := ()
def PySem.Challenge.cw_growurns_k95_whole_desk_holds.tw7396050936020431361 : Unit := ()
def PySem.Challenge.cw_growurns_k95_whole_desk_holds.tw7793560797637601704 : Unit := ()
def PySem.Challenge.cw_growurns_k95_whole_desk_holds.tw5716183754782194452 : Unit := ()
def PySem.Challenge.cw_growurns_k95_whole_desk_holds.tw14664843346887135932 : Unit := ()
def PySem.Challenge.cw_growurns_k95_whole_desk_holds.tw6788584497475762864 : Unit := ()
def PySem.Challenge.cw_growurns_k95_whole_desk_holds.tw16155957437679172320 : Unit := ()
def PySem.Challenge.cw_growurns_k95_whole_desk_holds.tw15422608106864567806 : Unit := ()
def PySem.Challenge.cw_growurns_k95_whole_desk_holds.tw1101764389521697572 : Unit := ()
def PySem.Challenge.cw_growurns_k95_whole_desk_holds.tw13504183313638651954 : Unit := ()
def PySem.Challenge.cw_growurns_k95_whole_desk_holds.tw6804642997659106662 : Unit := ()
def PySem.Challenge.cw_growurns_k95_whole_desk_holds.tw3530051952163082343 : Unit := ()
def PySem.Challenge.cw_growurns_k95_whole_desk_holds.tw7554170904165952430 : Unit := ()
def PySem.Challenge.cw_growurns_k95_whole_desk_holds.tw15320948386116568684 : Unit := ()
set_option Elab.async true
open PySem PySem.W PyProof.Rows
set_option maxRecDepth 100000 in
set_option maxHeartbeats 0 in
theorem PySem.Challenge.cw_growurns_k95_whole_desk_holds : PySem.Challenge.rw_growurns_k95_whole_desk.Holds := by
  w_on; o_law; k_head; (case hw => w_witness2)
  k_fill
  refine G.walk (l := PySem.Challenge.rw_growurns_k95_whole_desk) rfl rfl (fun w h Y => PySem.W.kIn_of Y) ?F
  case F =>
    intro w mg fa h KX NS hmg
    refine' G.all_mk KX NS hmg (G.errs_mk (B := 0) KX NS ?e0 ?e1 ?e2 ?e3 ?e5 ?e9 ?eX) (G.lines_both KX NS ?la0 ?ll0 ?ls0 ?lk0 ?re0 ?rl0 ?rz0 ?rv0 ?re1 ?rl1 ?rz1 ?rv1 ?re2 ?rl2 ?rz2 ?rv2 ?re3 ?rl3 ?rz3 ?rv3 ?re4 ?rl4 ?rz4 ?rv4 ?re5 ?rl5 ?rz5 ?rv5 ?re6 ?rl6 ?rz6 ?rv6) ?cd ⟨⟨?d1, ?d2, ?d3, ?d4⟩, ?d5⟩ ?d6 ?d7 (G.has_mk ?a1 ?l1 ?c1 ?k1) (G.has_mk ?a2 ?l2 ?c2 ?k2) (G.has_mk ?a3 ?l3 ?c3 ?k3) (G.has_mk ?a4 ?l4 ?c4 ?k4) (G.has_mk ?a5 ?l5 ?c5 ?k5) (G.has_mk ?a6 ?l6 ?c6 ?k6) (G.has_mk ?a7 ?l7 ?c7 ?k7) (G.has_mk ?a8 ?l8 ?c8 ?k8) (G.has_mk ?a9 ?l9 ?c9 ?k9) (G.has_mk ?a10 ?l10 ?c10 ?k10) (G.has_mk ?a11 ?l11 ?c11 ?k11) (G.has_mk ?a12 ?l12 ?c12 ?k12) (G.has_mk ?a13 ?l13 ?c13 ?k13) (G.has_mk ?a14 ?l14 ?c14 ?k14) (G.has_mk ?a15 ?l15 ?c15 ?k15) (G.has_mk ?a16 ?l16 ?c16 ?k16) (G.has_mk ?a17 ?l17 ?c17 ?k17) (G.has_mk ?a18 ?l18 ?c18 ?k18) (G.has_mk ?a19 ?l19 ?c19 ?k19) (G.has_mk ?a20 ?l20 ?c20 ?k20) (G.has_mk ?a21 ?l21 ?c21 ?k21) (G.has_mk ?a22 ?l22 ?c22 ?k22) (G.has_mk ?a23 ?l23 ?c23 ?k23) (G.has_mk ?a24 ?l24 ?c24 ?k24) (G.has_mk ?a25 ?l25 ?c25 ?k25) (G.has_mk ?a26 ?l26 ?c26 ?k26) (G.has_mk ?a27 ?l27 ?c27 ?k27) (G.has_mk ?a28 ?l28 ?c28 ?k28) (G.has_mk ?a29 ?l29 ?c29 ?k29) (G.has_mk ?a30 ?l30 ?c30 ?k30) (G.has_mk ?a31 ?l31 ?c31 ?k31) (G.has_mk ?a32 ?l32 ?c32 ?k32) (G.has_mk ?a33 ?l33 ?c33 ?k33) (G.has_mk ?a34 ?l34 ?c34 ?k34) (G.has_mk ?a35 ?l35 ?c35 ?k35) (G.has_mk ?a36 ?l36 ?c36 ?k36) (G.has_mk ?a37 ?l37 ?c37 ?k37) (G.has_mk ?a38 ?l38 ?c38 ?k38) (G.has_mk ?a39 ?l39 ?c39 ?k39) (G.has_mk ?a40 ?l40 ?c40 ?k40) (G.has_mk ?a41 ?l41 ?c41 ?k41) (G.has_mk ?a42 ?l42 ?c42 ?k42) (G.has_mk ?a43 ?l43 ?c43 ?k43) (G.has_mk ?a44 ?l44 ?c44 ?k44) (G.has_mk ?a45 ?l45 ?c45 ?k45) (G.has_mk ?a46 ?l46 ?c46 ?k46) (G.has_mk ?a47 ?l47 ?c47 ?k47) (G.has_mk ?a48 ?l48 ?c48 ?k48) (G.hasM_mk ?ma1 ?mf1 ?ml1 ?mc1 ?mk1) (G.hasM_mk ?ma2 ?mf2 ?ml2 ?mc2 ?mk2) (G.hasM_mk ?ma3 ?mf3 ?ml3 ?mc3 ?mk3) (G.hasM_mk ?ma4 ?mf4 ?ml4 ?mc4 ?mk4) (G.has_mk ?la ?ll ?lc ?lk) ?z1 ?z2 ?z3 ?z4 ?z5 ?z6 ?z7 ?z8 ?z9 ?z10 ?z11 ?z12 ?z13 ?z14 ?z15 ?z16 ?m1 ?m2 ?m3 ?m4 ?mL ?mF
    (case e0 => k_is); (case e1 => k_is); (case e2 => k_is); (case e3 => k_is); (case e5 => k_is); (case e9 => k_is)
    (case eX => kernel_rfl)
    (case la0 => k_is); (case ll0 => k_is); (case ls0 => decide); (case lk0 => k_keys)
    (case re0 => k_is); (case rl0 => k_is); (case rz0 => decide); (case rv0 => exact (.cons ⟨_, rfl⟩ (.cons ⟨_, rfl⟩ .nil)))
    (case re1 => k_is); (case rl1 => k_is); (case rz1 => decide); (case rv1 => exact (.cons ⟨_, rfl⟩ (.cons ⟨_, rfl⟩ (.cons ⟨_, rfl⟩ (.cons ⟨_, rfl⟩ .nil)))))
    (case re2 => k_is); (case rl2 => k_is); (case rz2 => decide); (case rv2 => exact (.cons ⟨_, rfl⟩ .nil))
    (case re3 => k_is); (case rl3 => k_is); (case rz3 => decide); (case rv3 => exact (.cons ⟨_, rfl⟩ (.cons ⟨_, rfl⟩ .nil)))
    (case re4 => k_is); (case rl4 => k_is); (case rz4 => decide); (case rv4 => exact (.cons ⟨_, rfl⟩ (.cons ⟨_, rfl⟩ (.cons ⟨_, rfl⟩ .nil))))
    (case re5 => k_is); (case rl5 => k_is); (case rz5 => decide); (case rv5 => exact (.cons ⟨_, rfl⟩ (.cons ⟨_, rfl⟩ (.cons ⟨_, rfl⟩ .nil))))
    (case re6 => k_is); (case rl6 => k_is); (case rz6 => decide); (case rv6 => exact (.cons ⟨_, rfl⟩ (.cons ⟨_, rfl⟩ .nil)))
    (case cd => k_is); (case d1 => kernel_rfl); (case d2 => kernel_rfl); (case d3 => kernel_rfl); (case d4 => kernel_rfl); (case d5 => (show PySem.W.findIn _ _ _ = _; kernel_rfl)); (case d6 => kernel_rfl); (case d7 => kernel_rfl)
    (case a1 => k_is); (case l1 => k_is); (case c1 => k_is); (case k1 => k_is)
    (case a2 => k_is); (case l2 => k_is); (case c2 => k_is); (case k2 => k_is)
    (case a3 => k_is); (case l3 => k_is); (case c3 => k_is); (case k3 => k_is)
    (case a4 => k_is); (case l4 => k_is); (case c4 => k_is); (case k4 => k_is)
    (case a5 => k_is); (case l5 => k_is); (case c5 => k_is); (case k5 => k_is)
    (case a6 => k_is); (case l6 => k_is); (case c6 => k_is); (case k6 => k_is)
    (case a7 => k_is); (case l7 => k_is); (case c7 => k_is); (case k7 => k_is)
    (case a8 => k_is); (case l8 => k_is); (case c8 => k_is); (case k8 => k_is)
    (case a9 => k_is); (case l9 => k_is); (case c9 => k_is); (case k9 => k_is)
    (case a10 => k_is); (case l10 => k_is); (case c10 => k_is); (case k10 => k_is)
    (case a11 => k_is); (case l11 => k_is); (case c11 => k_is); (case k11 => k_is)
    (case a12 => k_is); (case l12 => k_is); (case c12 => k_is); (case k12 => k_is)
    (case a13 => k_is); (case l13 => k_is); (case c13 => k_is); (case k13 => k_is)
    (case a14 => k_is); (case l14 => k_is); (case c14 => k_is); (case k14 => k_is)
    (case a15 => k_is); (case l15 => k_is); (case c15 => k_is); (case k15 => k_is)
    (case a16 => k_is); (case l16 => k_is); (case c16 => k_is); (case k16 => k_is)
    (case a17 => k_is); (case l17 => k_is); (case c17 => k_is); (case k17 => k_is)
    (case a18 => k_is); (case l18 => k_is); (case c18 => k_is); (case k18 => k_is)
    (case a19 => k_is); (case l19 => k_is); (case c19 => k_is); (case k19 => k_is)
    (case a20 => k_is); (case l20 => k_is); (case c20 => k_is); (case k20 => k_is)
    (case a21 => k_is); (case l21 => k_is); (case c21 => k_is); (case k21 => k_is)
    (case a22 => k_is); (case l22 => k_is); (case c22 => k_is); (case k22 => k_is)
    (case a23 => k_is); (case l23 => k_is); (case c23 => k_is); (case k23 => k_is)
    (case a24 => k_is); (case l24 => k_is); (case c24 => k_is); (case k24 => k_is)
    (case a25 => k_is); (case l25 => k_is); (case c25 => k_is); (case k25 => k_is)
    (case a26 => k_is); (case l26 => k_is); (case c26 => k_is); (case k26 => k_is)
    (case a27 => k_is); (case l27 => k_is); (case c27 => k_is); (case k27 => k_is)
    (case a28 => k_is); (case l28 => k_is); (case c28 => k_is); (case k28 => k_is)
    (case a29 => k_is); (case l29 => k_is); (case c29 => k_is); (case k29 => k_is)
    (case a30 => k_is); (case l30 => k_is); (case c30 => k_is); (case k30 => k_is)
    (case a31 => k_is); (case l31 => k_is); (case c31 => k_is); (case k31 => k_is)
    (case a32 => k_is); (case l32 => k_is); (case c32 => k_is); (case k32 => k_is)
    (case a33 => k_is); (case l33 => k_is); (case c33 => k_is); (case k33 => k_is)
    (case a34 => k_is); (case l34 => k_is); (case c34 => k_is); (case k34 => k_is)
    (case a35 => k_is); (case l35 => k_is); (case c35 => k_is); (case k35 => k_is)
    (case a36 => k_is); (case l36 => k_is); (case c36 => k_is); (case k36 => k_is)
    (case a37 => k_is); (case l37 => k_is); (case c37 => k_is); (case k37 => k_is)
    (case a38 => k_is); (case l38 => k_is); (case c38 => k_is); (case k38 => k_is)
    (case a39 => k_is); (case l39 => k_is); (case c39 => k_is); (case k39 => k_is)
    (case a40 => k_is); (case l40 => k_is); (case c40 => k_is); (case k40 => k_is)
    (case a41 => k_is); (case l41 => k_is); (case c41 => k_is); (case k41 => k_is)
    (case a42 => k_is); (case l42 => k_is); (case c42 => k_is); (case k42 => k_is)
    (case a43 => k_is); (case l43 => k_is); (case c43 => k_is); (case k43 => k_is)
    (case a44 => k_is); (case l44 => k_is); (case c44 => k_is); (case k44 => k_is)
    (case a45 => k_is); (case l45 => k_is); (case c45 => k_is); (case k45 => k_is)
    (case a46 => k_is); (case l46 => k_is); (case c46 => k_is); (case k46 => k_is)
    (case a47 => k_is); (case l47 => k_is); (case c47 => k_is); (case k47 => k_is)
    (case a48 => k_is); (case l48 => k_is); (case c48 => k_is); (case k48 => k_is)
    (case ma1 => k_is); (case mf1 => k_is); (case ml1 => k_is); (case mc1 => k_is); (case mk1 => k_is)
    (case ma2 => k_is); (case mf2 => k_is); (case ml2 => k_is); (case mc2 => k_is); (case mk2 => k_is)
    (case ma3 => k_is); (case mf3 => k_is); (case ml3 => k_is); (case mc3 => k_is); (case mk3 => k_is)
    (case ma4 => k_is); (case mf4 => k_is); (case ml4 => k_is); (case mc4 => k_is); (case mk4 => k_is)
    (case la => k_is); (case ll => k_is); (case lc => k_is); (case lk => k_is)
    (case z1 => k_is); (case z2 => k_is); (case z3 => k_is); (case z4 => k_is); (case z5 => k_is); (case z6 => k_is); (case z7 => k_is); (case z8 => k_is); (case z9 => k_is); (case z10 => k_is); (case z11 => k_is); (case z12 => k_is); (case z13 => k_is); (case z14 => k_is); (case z15 => k_is); (case z16 => k_is)
    (case m1 => k_is); (case m2 => k_is); (case m3 => k_is); (case m4 => k_is); (case mL => k_is); (case mF => k_is)
#print axioms PySem.Challenge.cw_growurns_k95_whole_desk_holds
