import PyProof.Rows.All
import Wide.All
import OpenK.AllK
import Wide.FinOn
import Lean
import PyProof.EqAt
import PyProof.EqKinds
import PyProof.TupleCall
import KE.KIsAll
import KE.KLam
import KE.KTryDeep
import PyProof.ExcAttrAll.ValueError
import KE.KSortTup
import KE.KItemsList
import PyProof.Rows.SortRuns
import KE.KDictList
import PySem.Challenge.RW_growurns_k92_texts_that_write_none
set_option Elab.async false
set_option linter.all false
set_option maxRecDepth 100000
namespace L2
open PySem PySem.Spec PyProof.Rows
abbrev Key:=Sum Int Str
def keyIs:Key->Value->Bool
  | .inl k,v=>Value.isInt k v
  | .inr x,v=>Value.isStrOf x v
def keyH (w:World):Key->Int
  | .inl k=>hashInt k
  | .inr x=>hashStr w x
theorem keyIs_shape:∀ {k:Key} {v:Value},keyIs k v=true->(∃ i t,k=Sum.inl i/\v=Value.int i t) ∨ (∃ x t,k=Sum.inr x/\v=Value.str x t)
  | .inl i,v,h=>by
    obtain ⟨t,e⟩:=Value.isInt_shape (k:=i) (v:=v) h
    exact .inl ⟨i,t,rfl,e⟩
  | .inr x,v,h=>by
    obtain ⟨t,e⟩:=Value.isStrOf_shape (x:=x) (v:=v) h
    exact .inr ⟨x,t,rfl,e⟩
theorem keyIs_int (i:Int) (t:Tok):keyIs (.inl i) (.int i t)=true:=by simp [keyIs,Value.isInt]
theorem keyIs_str (x:Str) (t:Tok):keyIs (.inr x) (.str x t)=true:=by simp [keyIs,Value.isStrOf]
theorem key_ll (a b:Int):decide ((Sum.inl a:Key)=Sum.inl b)=(a == b):=by
  by_cases e:a=b
  · subst e;simp
  · have h:¬ (Sum.inl a:Key)=Sum.inl b:=fun q=>e (Sum.inl.inj q)
    rw [decide_eq_false h]
    exact (beq_eq_false_iff_ne.mpr e).symm
theorem key_rr (a b:Str):decide ((Sum.inr a:Key)=Sum.inr b)=decide (a=b):=by
  by_cases e:a=b
  · subst e;simp
  · have h:¬ (Sum.inr a:Key)=Sum.inr b:=fun q=>e (Sum.inr.inj q)
    rw [decide_eq_false h,decide_eq_false e]
theorem key_lr (a:Int) (b:Str):decide ((Sum.inl a:Key)=Sum.inr b)=false:=decide_eq_false (fun q=>nomatch q)
theorem key_rl (a:Str) (b:Int):decide ((Sum.inr a:Key)=Sum.inl b)=false:=decide_eq_false (fun q=>nomatch q)
def mixKind (prog:Program) (w:World):PySem.KeyKind prog w Key where
  is:=keyIs
  hash:=keyH w
  inj:=fun v a b ha hb=>by
    rcases keyIs_shape ha with ⟨i,t,rfl,rfl⟩ | ⟨x,t,rfl,rfl⟩
    · rcases keyIs_shape hb with ⟨j,u,rfl,e⟩ | ⟨y,u,rfl,e⟩
      · injection e with e1 _;rw [e1]
      · exact nomatch e
    · rcases keyIs_shape hb with ⟨j,u,rfl,e⟩ | ⟨y,u,rfl,e⟩
      · exact nomatch e
      · injection e with e1 _;rw [e1]
  byValue:=fun k v h=>by
    rcases keyIs_shape h with ⟨i,t,rfl,rfl⟩ | ⟨x,t,rfl,rfl⟩ <;> rfl
  pyHash:=fun hv h=>by
    rcases keyIs_shape hv with ⟨i,t,rfl,rfl⟩ | ⟨x,t,rfl,rfl⟩
    · exact wpAny_pyHash_int h
    · exact wpAny_pyHash_str h
  eqBool:=fun hu hv h=>by
    rcases keyIs_shape hu with ⟨i,t,rfl,rfl⟩ | ⟨x,t,rfl,rfl⟩
    · rcases keyIs_shape hv with ⟨j,u,rfl,rfl⟩ | ⟨y,u,rfl,rfl⟩
      · rw [key_ll] at h;exact wpAny_eqBool_int h
      · rw [key_lr] at h;exact SeqAt.EqAt.int_str i t y u _ _ _ _ h
    · rcases keyIs_shape hv with ⟨j,u,rfl,rfl⟩ | ⟨y,u,rfl,rfl⟩
      · rw [key_rl] at h;exact SeqAt.EqAt.str_int x t j u _ _ _ _ h
      · rw [key_rr] at h;exact wpAny_eqBool_str h
  «strs»:=fun k x t v h=>by
    rcases keyIs_shape h with ⟨i,u,rfl,e⟩ | ⟨y,u,rfl,e⟩
    · exact nomatch e
    · injection e with e1 _
      subst e1
      cases v <;> rfl
theorem mixKind_int (prog:Program) (w:World) (i:Int) (t:Tok):(mixKind prog w).is (.inl i) (.int i t)=true:=keyIs_int i t
theorem mixKind_str (prog:Program) (w:World) (x:Str) (t:Tok):(mixKind prog w).is (.inr x) (.str x t)=true:=keyIs_str x t
end L2
namespace L2
open PySem PySem.Spec PyProof.Rows
inductive V where
  | non | bl (b:Bool) | int (i:Int) | str (x:Str) | byt (b:Array UInt8) | flt (b:UInt64) | ref (a:Addr) | ty (n:String)
  deriving DecidableEq
def RelV:V->Value->Prop
  | .non,u=>u=Value.none
  | .bl b,u=>u=Value.bool b
  | .int i,u=>∃ t,u=Value.int i t
  | .str x,u=>∃ t,u=Value.str x t
  | .byt b,u=>∃ t,u=Value.bytes b t
  | .flt b,u=>∃ t,u=Value.float b t
  | .ref a,u=>u=Value.ref a
  | .ty n,u=>u=Value.type n
abbrev Vals:List V->List Value->Prop:=Paired RelV
theorem Vals.length {xs:List V} {us:List Value} (r:Vals xs us):xs.length=us.length:=Paired.length r
theorem Vals.get:∀ {xs:List V} {us:List Value} {i:Nat} {x:V},Vals xs us->xs[i]?=some x->∃ u,us[i]?=some u/\RelV x u
  | _,_,_,_,.nil,e=>by simp at e
  | _,_,0,_,.cons r _,e=>by simp at e;subst e;exact ⟨_,rfl,r⟩
  | _,_,i + 1,x,.cons _ t,e=>by
    obtain ⟨u,h1,h2⟩:=Vals.get (i:=i) (x:=x) t (by simpa using e)
    exact ⟨u,by simpa using h1,h2⟩
theorem Vals.set {x:V} {u:Value} (r:RelV x u):∀ {xs:List V} {us:List Value} (i:Nat),Vals xs us->Vals (xs.set i x) (us.set i u)
  | _,_,_,.nil=>.nil
  | _,_,0,.cons _ t=>.cons r t
  | _,_,i + 1,.cons q t=>.cons q (Vals.set r i t)
theorem Vals.append:∀ {xs ys:List V} {us ws:List Value},Vals xs us->Vals ys ws->Vals (xs ++ ys) (us ++ ws)
  | _,_,_,_,.nil,s=>s
  | _,_,_,_,.cons r t,s=>.cons r (Vals.append t s)
theorem Vals.take:∀ {xs:List V} {us:List Value} (n:Nat),Vals xs us->Vals (xs.take n) (us.take n)
  | _,_,0,_=>.nil
  | _,_,_ + 1,.nil=>.nil
  | _,_,n + 1,.cons r t=>.cons r (Vals.take n t)
theorem Vals.drop:∀ {xs:List V} {us:List Value} (n:Nat),Vals xs us->Vals (xs.drop n) (us.drop n)
  | _,_,0,r=>r
  | _,_,_ + 1,.nil=>.nil
  | _,_,n + 1,.cons _ t=>Vals.drop n t
def RelO:Option V->Option Value->Prop
  | some v,some u=>RelV v u
  | none,none=>True
  | _,_=>False
def KV {κ:Type}:List (κ × V)->List (κ × Value)->Prop:=Paired fun (p:κ × V) (q:κ × Value)=>p.1=q.1/\RelV p.2 q.2
def kV:Key->V
  | .inl i=>.int i
  | .inr x=>.str x
inductive HO where
  | lst (xs:List V)
  | tup (xs:List V)
  | dK (kvs:List (Key × V)) | dT (kvs:List (List Key × V))
  | set (S:Int->Bool) (n:Nat)
  | ins (C dx:Addr) (fs:List (Str × V))
  | own (x:Addr)
  | xd (fs:List (Str × V))
  | met (f x:Addr)
  | rng (lo hi:Int)
  | frz (o:Obj) (u:HO)
  | tbl (ps:Array Value)
  | ext (φ:Heap->Prop)
abbrev Hp:=Addr->Option HO
def upd (H:Hp) (a:Addr) (o:HO):Hp:=fun b=>if b=a then some o else H b
theorem upd_same {H:Hp} {a:Addr} {o:HO}:upd H a o a=some o:=by unfold upd;rw [if_pos rfl]
theorem upd_ne {H:Hp} {a b:Addr} {o:HO} (h:b ≠ a):upd H a o b=H b:=by unfold upd;rw [if_neg h]
theorem ne_of_none {H:Hp} {a b:Addr} {o:HO} (h:H a=some o) (h':H b=none):a ≠ b:=by
  intro e;subst e;rw [h] at h';cases h'
section
variable (P:Program) (w:World)
def ObjOk (H:Hp) (h:Heap) (a:Addr):HO->Prop
  | .lst xs=>xs.length <= sizeLine/\∃ (its:List Value) (n:Nat),Vals xs its/\h.get? a=some { cls:=.type "list",data:=.seq its.toArray n }
  | .tup xs=>xs.length <= sizeLine/\∃ its:List Value,Vals xs its/\IsTup h a its.toArray
  | .dK kvs=>kvs.length <= sizeLine/\(a == sysModules)=false/\∃ vs,KV kvs vs/\h.DictOf (mixKind P w) a vs
  | .dT kvs=>kvs.length <= sizeLine/\(a == sysModules)=false/\∃ xs:List (List Key × Addr × Value),
      Paired (fun (p:List Key × V) (q:List Key × Addr × Value)=>p.1=q.1/\H q.2.1=some (.tup (p.1.map kV))/\RelV p.2 q.2.2) kvs xs /\
      ∃ o es ep,h.get? a=some o/\o.ExactDict/\o.data=.dict es ep/\es.toList=xs.map (entryOfKey (tupleKind (mixKind P w)))/\(xs.map (·.1)).Nodup
  | .set S n=>h.SetOf (intKind P w) a S n
  | .ins C dx fs=>H dx=some (.own a)/\fs.length <= 1000/\dx ≠ a/\h.get? a=some (PySem.W.instObj C dx) /\
      ∃ mA,h.Ns1 dx mA/\(∀ f,RelO (fs.lookup f) (mA f))/\PySem.Within mA (fs.map (·.1))
  | .own _=>∃ o,h.get? a=some o
  | .xd fs=>∃ mA,h.Ns1 a mA/\∀ f,RelO (fs.lookup f) (mA f)
  | .rng lo hi=>∃ t u v,h.get? a=some { cls:=.type "range",data:=.fields #[.int lo t,.int hi u,.int 1 v] }
  | .frz o u=>h.get? a=some o/\ObjOk H h a u
  | .tbl ps=>h.get? a=some { cls:=.none,data:=.fields ps }
  | .met f x=>h.get? a=some (PySem.W.methodObj (.ref f) (.ref x))
  | .ext φ=>φ h/\(∃ o,h.get? a=some o)/\∀ h1 h2:Heap,φ h1->(∀ o,h1.get? a=some o->h2.get? a=some o)->φ h2
def HOk (H:Hp) (h:Heap):Prop:=∀ a o,H a=some o->ObjOk P w H h a o
end
section
variable {P:Program} {w:World} {H H':Hp} {h h':Heap} {a:Addr} {o:HO}
theorem ObjOk.lt (x:ObjOk P w H h a o):a < h.objs.size:=by
  cases o with
  | lst xs=>obtain ⟨_,_,_,_,e⟩:=x;exact Heap.lt_size e
  | tup xs=>obtain ⟨_,_,_,p⟩:=x;exact p.lt
  | dK kvs=>obtain ⟨_,_,_,_,o,_,_,e,_⟩:=x;exact Heap.lt_size e
  | dT kvs=>obtain ⟨_,_,_,_,o,_,_,e,_⟩:=x;exact Heap.lt_size e
  | set S n=>obtain ⟨o,_,_,_,e,_⟩:=x;exact Heap.lt_size e
  | ins C dx fs=>obtain ⟨_,_,_,e,_⟩:=x;exact Heap.lt_size e
  | own y=>obtain ⟨_,e⟩:=x;exact Heap.lt_size e
  | xd fs=>obtain ⟨_,⟨_,_,_,e,_⟩,_⟩:=x;exact Heap.lt_size e
  | rng lo hi=>obtain ⟨_,_,_,e⟩:=x;exact Heap.lt_size e
  | frz ob u=>obtain ⟨e,_⟩:=x;exact Heap.lt_size e
  | tbl ps=>exact Heap.lt_size (show h.get? a=some _ from x)
  | met f y=>exact Heap.lt_size (show h.get? a=some _ from x)
  | ext φ=>obtain ⟨_,⟨_,e⟩,_⟩:=x;exact Heap.lt_size e
theorem Paired.mapP {α β:Type} {F G:α->β->Prop}:∀ {l₁:List α} {l₂:List β},Paired F l₁ l₂->(∀ a b,F a b->G a b)->Paired G l₁ l₂
  | _,_,.nil,_=>.nil
  | _,_,.cons r t,f=>.cons (f _ _ r) (Paired.mapP t f)
theorem ObjOk.stay (x:ObjOk P w H h a o) (k:∀ b u,(b=a ∨ H b=some (.own a))->h.get? b=some u->h'.get? b=some u)
    (ho:∀ b,H b=some (.own a)->H' b=some (.own a)) (ht:∀ b xs,H b=some (.tup xs)->H' b=some (.tup xs)):ObjOk P w H' h' a o:=by
  induction o with
  | lst xs=>obtain ⟨z,its,n,r,e⟩:=x;exact ⟨z,its,n,r,k _ _ (.inl rfl) e⟩
  | tup xs=>obtain ⟨z,its,r,ob,e,c⟩:=x;exact ⟨z,its,r,ob,k _ _ (.inl rfl) e,c⟩
  | dK kvs=>obtain ⟨z,y,vs,r,ob,es,ep,e,c⟩:=x;exact ⟨z,y,vs,r,ob,es,ep,k _ _ (.inl rfl) e,c⟩
  | dT kvs =>
    obtain ⟨z,y,xs,r,ob,es,ep,e,c⟩:=x
    exact ⟨z,y,xs,Paired.mapP r fun p q z=>⟨z.1,ht _ _ z.2.1,z.2.2⟩,ob,es,ep,k _ _ (.inl rfl) e,c⟩
  | set S n=>obtain ⟨ob,es,ep,t,e,c⟩:=x;exact ⟨ob,es,ep,t,k _ _ (.inl rfl) e,c⟩
  | ins C dx fs =>
    obtain ⟨d,z,ne,e,mA,⟨od,es,ep,e2,c⟩,r⟩:=x
    exact ⟨ho _ d,z,ne,k _ _ (.inl rfl) e,mA,⟨od,es,ep,k _ _ (.inr d) e2,c⟩,r⟩
  | own y=>obtain ⟨ob,e⟩:=x;exact ⟨ob,k _ _ (.inl rfl) e⟩
  | xd fs=>obtain ⟨mA,⟨od,es,ep,e,c⟩,r⟩:=x;exact ⟨mA,⟨od,es,ep,k _ _ (.inl rfl) e,c⟩,r⟩
  | rng lo hi=>obtain ⟨t,u,v,e⟩:=x;exact ⟨t,u,v,k _ _ (.inl rfl) e⟩
  | frz ob u ih=>obtain ⟨e,q⟩:=x;exact ⟨k _ _ (.inl rfl) e,ih q⟩
  | tbl ps =>
    have e:h.get? a=some { cls:=.none,data:=.fields ps }:=x
    show h'.get? a=some { cls:=.none,data:=.fields ps }
    exact k a _ (.inl rfl) e
  | met f y =>
    have e:h.get? a=some (PySem.W.methodObj (.ref f) (.ref y)):=x
    show h'.get? a=some (PySem.W.methodObj (.ref f) (.ref y))
    exact k a _ (.inl rfl) e
  | ext φ=>obtain ⟨p,⟨o,e⟩,st⟩:=x;exact ⟨st _ _ p fun o q=>k _ _ (.inl rfl) q,⟨o,k _ _ (.inl rfl) e⟩,st⟩
theorem HOk.lt (x:HOk P w H h) (e:H a=some o):a < h.objs.size:=(x a o e).lt
theorem HOk.fresh (x:HOk P w H h) (e:h.objs.size <= a):H a=none:=by
  cases q:H a with
  | none=>rfl
  | some u=>exact absurd (Nat.lt_of_lt_of_le (x.lt q) e) (Nat.lt_irrefl _)
theorem HOk.kept (x:HOk P w H h) (k:∀ b u,h.get? b=some u->h'.get? b=some u):HOk P w H h':=fun a o e =>
  (x a o e).stay (fun b u _ q=>k b u q) (fun _ q=>q) fun _ _ q=>q
theorem HOk.laid (x:HOk P w H h) (k:∀ b u,h.get? b=some u->h'.get? b=some u) (hp:h.objs.size <= a) (new:ObjOk P w (upd H a o) h' a o):HOk P w (upd H a o) h':=fun b u e=>by
  have hn:=x.fresh hp
  by_cases hb:b=a
  · subst hb;rw [upd_same] at e;cases e;exact new
  · rw [upd_ne hb] at e
    exact (x b u e).stay (fun c v _ q=>k c v q) (fun c q=>by rw [upd_ne (ne_of_none q hn)];exact q) fun c xs q=>by rw [upd_ne (ne_of_none q hn)];exact q
end
def Rd (H:Hp) (a:Addr) (u:HO):Prop:=H a=some u ∨ ∃ o,H a=some (.frz o u)
theorem Rd.ok {P:Program} {w:World} {H:Hp} {h:Heap} {a:Addr} {u:HO} (r:Rd H a u) (x:HOk P w H h):ObjOk P w H h a u:=by
  rcases r with r | ⟨o,r⟩
  · exact x a u r
  · obtain ⟨_,q⟩:=x a _ r
    exact q
def Mut:Option HO->Prop
  | some (.lst _)=>True
  | some (.dK _)=>True
  | some (.dT _)=>True
  | some (.set _ _)=>True
  | some (.ins _ _ _)=>True
  | some (.ext _)=>True
  | _=>False
section
variable {P:Program} {w:World} {H:Hp} {h h':Heap} {x e:Addr} {o':HO}
theorem HOk.write (ok:HOk P w H h) (mu:Mut (H x)) (he:e=x ∨ H e=some (.own x)) (k:∀ b u,b ≠ e->h.get? b=some u->h'.get? b=some u) (heo:∃ u,h'.get? e=some u)
    (new:ObjOk P w (upd H x o') h' x o'):HOk P w (upd H x o') h':=fun b u q=>by
  have nown:∀ c y,H c=some (.own y)->c ≠ x:=fun c y r z=>by subst z;rw [r] at mu;exact mu
  have ntup:∀ c xs,H c=some (.tup xs)->c ≠ x:=fun c xs r z=>by subst z;rw [r] at mu;exact mu
  by_cases hb:b=x
  · subst hb;rw [upd_same] at q;cases q;exact new
  · rw [upd_ne hb] at q
    by_cases hbe:b=e
    · have q':H b=some (.own x):=by
        rcases he with z | z
        · exact absurd (hbe.trans z) hb
        · rw [hbe];exact z
      rw [q] at q';cases q'
      obtain ⟨v,hv⟩:=heo
      exact ⟨v,by rw [hbe];exact hv⟩
    · refine (ok b u q).stay (fun c v hc r=>k c v ?_ r) (fun c r=>by rw [upd_ne (nown c b r)];exact r) fun c xs r=>by rw [upd_ne (ntup c xs r)];exact r
      rcases hc with rfl | hc
      · exact hbe
      · rintro rfl
        rcases he with z | z
        · exact nown c b hc z
        · rw [hc] at z;cases z;exact hb rfl
end
structure Un (fs ex:List Addr) (H H':Hp) (h h':Heap):Prop where
  keep:∀ b o,h.get? b=some o->H b=none->b ∉ fs->b ∉ ex->h'.get? b=some o
  slot:∀ b o,h.get? b=some o->H b=none->b ∈ fs->b ∉ ex->∃ sl,h'.get? b=some { o with slots:=sl }
  free:∀ b o,h.get? b=some o->H b=none->b ∉ ex->H' b=none
  there:∀ b o,h.get? b=some o->b ∉ ex->∃ o',h'.get? b=some o'
  tups:∀ b xs,H b=some (.tup xs)->H' b=some (.tup xs)
  frzs:∀ b o u,H b=some (.frz o u)->H' b=some (.frz o u)
  tbls:∀ b ps,H b=some (.tbl ps)->∃ more,H' b=some (.tbl (ps ++ more))
section
variable {fs fs' ex ex':List Addr} {H H1 H2:Hp} {h h1 h2 h':Heap} {a x e:Addr} {o:HO}
theorem Un.any (u:Un fs ex H H1 h h1) {b:Addr} {ob:Obj} (q:h.get? b=some ob) (n:H b=none) (hx:b ∉ ex):∃ sl,h1.get? b=some { ob with slots:=sl }:=by
  by_cases hb:b ∈ fs
  · exact u.slot b ob q n hb hx
  · exact ⟨ob.slots,u.keep b ob q n hb hx⟩
theorem Un.kept (k:∀ b u,h.get? b=some u->h'.get? b=some u):Un fs ex H H h h' :=
  ⟨fun b ob q _ _ _=>k b ob q,fun b ob q _ _ _=>⟨ob.slots,k b ob q⟩,fun _ _ _ n _=>n,fun b ob q _=>⟨ob,k b ob q⟩,fun _ _ q=>q,fun _ _ _ q=>q,fun _ ps q=>⟨#[],by rw [q];simp⟩⟩
theorem Un.refl:Un fs ex H H h h:=Un.kept fun _ _ q=>q
theorem Un.laid (k:∀ b u,h.get? b=some u->h'.get? b=some u) (hp:h.objs.size <= a) (hn:H a=none):Un fs ex H (upd H a o) h h' where
  keep:=fun b u q _ _ _=>k b u q
  slot:=fun b u q _ _ _=>⟨u.slots,k b u q⟩
  free:=fun b u q n _=>by rw [upd_ne (Nat.ne_of_lt (Nat.lt_of_lt_of_le (Heap.lt_size q) hp))];exact n
  there:=fun b u q _=>⟨u,k b u q⟩
  tups:=fun b xs q=>by rw [upd_ne (ne_of_none q hn)];exact q
  frzs:=fun b u xs q=>by rw [upd_ne (ne_of_none q hn)];exact q
  tbls:=fun b ps q=>⟨#[],by rw [upd_ne (ne_of_none q hn),q];simp⟩
theorem Un.write (mu:Mut (H x)) (he:e=x ∨ H e=some (.own x)) (k:∀ b u,b ≠ e->h.get? b=some u->h'.get? b=some u) (heo:∃ u,h'.get? e=some u):Un fs ex H (upd H x o) h h':=by
  have hx:∀ b,H b=none->b ≠ x:=fun b n z=>by subst z;rw [n] at mu;exact mu
  have hb:∀ b,H b=none->b ≠ e:=fun b n z=>by
    subst z
    rcases he with r | r
    · exact hx b n r
    · rw [n] at r;cases r
  have hm:∀ b u,H b=some u->¬ Mut (some u)->b ≠ x:=fun b u q nm z=>by subst z;rw [q] at mu;exact nm mu
  refine ⟨fun b u q n _ _=>k b u (hb b n) q,fun b u q n _ _=>⟨u.slots,k b u (hb b n) q⟩,fun b u q n _=>by rw [upd_ne (hx b n)];exact n,fun b u q _=>?_,
    fun b xs q=>by rw [upd_ne (hm b _ q fun z=>z)];exact q,fun b u xs q=>by rw [upd_ne (hm b _ q fun z=>z)];exact q,fun b ps q=>⟨#[],by rw [upd_ne (hm b _ q fun z=>z),q];simp⟩⟩
  by_cases hbe:b=e
  · subst hbe;exact heo
  · exact ⟨u,k b u hbe q⟩
end
def trk (h:Heap) (H:Hp):List Addr:=(List.range h.objs.size).filter fun a=>(H a).isSome
def hidT (h:Heap) (H:Hp):Heap:=PySem.W.hideAll h (trk h H)
theorem hidT_size (h:Heap) (H:Hp):(hidT h H).objs.size=h.objs.size:=PySem.W.hideAll_size _ _
theorem hidT_get {h:Heap} {H:Hp} {b:Addr} {o:Obj} (e:h.get? b=some o) (n:H b=none):(hidT h H).get? b=some o :=
  PySem.W.hideAll_get _ e fun hm=>by
    have q:(H b).isSome=true:=(List.mem_filter.mp hm).2
    rw [n] at q;simp at q
theorem of_hidT {h:Heap} {H:Hp} {b:Addr} {o:Obj} (e:(hidT h H).get? b=some o):h.get? b=some o/\H b=none:=by
  have e':h.get? b=some o:=PySem.W.of_hideAll (trk h H) e
  refine ⟨e',?_⟩
  cases q:H b with
  | none=>rfl
  | some x =>
    have hm:b ∈ trk h H:=List.mem_filter.mpr ⟨List.mem_range.mpr (Heap.lt_size e'),by simp [q]⟩
    have z:(hidT h H).get? b=none:=PySem.W.hideAll_none (trk h H) hm
    rw [z] at e;cases e
def allNews (g h:Heap) (L:Addr):List (Addr × Obj):=(List.range h.objs.size).filterMap fun a=>if a=L ∨ (g.get? a).isSome=true then none else (h.get? a).map fun o=>(a,o)
def rest (g h:Heap) (L d:Addr):List (Addr × Obj):=(allNews g h L).filter fun p=>decide (p.1 ≠ d)
end L2
namespace L2
open PySem PySem.Spec PyProof.Rows
structure Mod (K:PySem.W.Frag) (mg:Str->Option Value) (base:Heap):Prop where
  kin:K.In base
  glob:base.Ns mainGlobals mg
  blt:∃ mb,base.Ns builtinsNs mb/\∀ x:Str,x ≠ "__name__"->mb x=bootBuiltins x
  nolimit:base.NoLimit
structure Cx where
  prog:Program
  w:World
  K:PySem.W.Frag
  mg:Str->Option Value
  base:Heap
  A:Around
  N:List Str
  s₀:Shared
  H₀:Hp
  env:Env
  outer:List Env
  stack:List Env
  ex:List Addr
  fn:Str->Bool
  calm:Bool
  pn:List (Addr × Obj)
  xe:Value->Shared->Prop
def frs (l:List Env):List Addr:=l.filterMap (·.frame)
abbrev Cx.fs (X:Cx):List Addr:=frs X.outer
def Vis (sc:Scope) (x:Str):Prop:=sc.names.lookup x=some .local ∨ sc.names.lookup x=some .cell ∨ sc.names.lookup x=some .free
def Loc (sc:Scope) (x:Str):Prop:=sc.names.lookup x=some .local ∨ sc.names.lookup x=some .cell
def Look (env:Env) (h:Heap) (m:Str->Option Value) (x:Str) (u:Value):Prop :=
  (env.kindOf x=some .local/\m x=some u) ∨ ((env.kindOf x=some .cell ∨ env.kindOf x=some .free)/\∃ c,env.cells.lookup x=some c/\h.IsCell c (some u))
structure Cx.Ok (X:Cx):Prop where
  mod:Mod X.K X.mg X.base
  kind:X.env.scope.kind=.function
  glob:X.env.globals=mainGlobals
  blt:X.env.builtins=builtinsNs
  above:X.s₀.heap.objs.size <= X.env.locals
  inj:∀ x y c,X.env.cells.lookup x=some c->X.env.cells.lookup y=some c->x=y
  has:∀ x,(X.env.kindOf x=some .cell ∨ X.env.kindOf x=some .free)->∃ c,X.env.cells.lookup x=some c
  cab:∀ x c,X.fn x=true->X.env.cells.lookup x=some c->X.s₀.heap.objs.size <= c
  hd:X.calm=true->X.A.handled=none
  frames:X.A.frames=some X.stack
  stk:X.stack=X.outer ∨ (X.stack=X.env :: X.outer/\X.env.frame=some X.env.locals)
  exf:∀ b ∈ X.ex,b ≠ X.env.locals/\∀ x c,X.env.cells.lookup x=some c->c ≠ b
  bs:∀ b o,X.base.get? b=some o->X.s₀.heap.get? b=some o/\X.H₀ b=none
  bsz:X.base.objs.size <= X.s₀.heap.objs.size
  noex:∀ b o,X.base.get? b=some o->b ∉ X.ex
  exfs:∀ b ∈ X.ex,b ∉ X.fs
  funs:X.s₀.heap.FunFrames X.base X.outer
  frf:∀ b ∈ X.fs,X.H₀ b=none
structure Inv (X:Cx) (pins:List (Addr × Obj)) (σ:List (Option V)) (H:Hp) (s:Shared):Prop where
  ok:X.Ok
  os:s.os=X.s₀.os
  bare:AllBare s.gens
  base:Un X.fs X.ex X.H₀ H X.s₀.heap s.heap
  loc:∃ m,s.heap.Ns X.env.locals m/\∀ (i:Nat) (x:Str) (v:V),X.N[i]?=some x->σ[i]?=some (some v)->Vis X.env.scope x->∃ u,RelV v u/\Look X.env s.heap m x u
  cell:∀ x c,X.env.cells.lookup x=some c->∃ v,s.heap.IsCell c v
  free:H X.env.locals=none
  freeC:∀ x c,X.env.cells.lookup x=some c->H c=none
  pin:∀ p ∈ X.pn ++ pins,s.heap.get? p.1=some p.2/\H p.1=none/\p.1 ≠ X.env.locals/\p.1 ∉ X.fs/\∀ v,p.2.data ≠ .cell v
  hok:HOk X.prog X.w H s.heap
  len:σ.length=X.N.length
section
variable {X:Cx} {pins:List (Addr × Obj)} {σ:List (Option V)} {H H':Hp} {s:Shared} {h':Heap}
theorem Cx.Ok.nofr (ok:X.Ok) {b:Addr} {o:Obj} (e:X.base.get? b=some o):b ∉ X.fs:=fun hb=>by
  have:=(ok.funs.mem hb).1
  rw [e] at this;cases this
theorem Inv.bs (I:Inv X pins σ H s):∀ b o,X.base.get? b=some o->s.heap.get? b=some o/\H b=none:=fun b o e =>
  ⟨I.base.keep b o (I.ok.bs b o e).1 (I.ok.bs b o e).2 (I.ok.nofr e) (I.ok.noex b o e),I.base.free b o (I.ok.bs b o e).1 (I.ok.bs b o e).2 (I.ok.noex b o e)⟩
theorem Inv.bk (I:Inv X pins σ H s):∀ b o,X.base.get? b=some o->s.heap.get? b=some o:=fun b o e=>(I.bs b o e).1
theorem Inv.mod (I:Inv X pins σ H s):Mod X.K X.mg X.base:=I.ok.mod
theorem Inv.kIn (I:Inv X pins σ H s):X.K.In s.heap:=I.ok.mod.kin.keeps I.bk
theorem Inv.lt (I:Inv X pins σ H s):X.env.locals < s.heap.objs.size:=let ⟨_,hn,_⟩:=I.loc;hn.lt
theorem Inv.sz (I:Inv X pins σ H s):X.s₀.heap.objs.size <= s.heap.objs.size:=Nat.le_trans I.ok.above (Nat.le_of_lt I.lt)
theorem Inv.nofs (I:Inv X pins σ H s) {a:Addr} (h:s.heap.objs.size <= a):a ∉ X.fs:=fun hb=>by
  obtain ⟨_,o,ho,_⟩:=I.ok.funs.mem hb
  exact absurd (Nat.lt_of_lt_of_le (Heap.lt_size ho) (Nat.le_trans I.sz h)) (Nat.lt_irrefl _)
theorem Inv.cne (I:Inv X pins σ H s):∀ x c,X.env.cells.lookup x=some c->c ≠ X.env.locals:=fun x c e z=>by
  obtain ⟨v,o,ho,hd⟩:=I.cell x c e
  obtain ⟨m,⟨o',es,ep,ho',hd',_⟩,_⟩:=I.loc
  rw [z,ho'] at ho;cases ho;rw [hd'] at hd;cases hd
theorem Inv.funs (I:Inv X pins σ H s):s.heap.FunFrames X.base X.outer:=by
  have all:∀ (l:List Env),(∀ b ∈ frs l,b ∈ X.fs)->X.s₀.heap.FunFrames X.base l->s.heap.FunFrames X.base l:=by
    intro l
    induction l with
    | nil=>intro _ _;trivial
    | cons env r ih =>
      intro hs hl
      obtain ⟨hk,⟨L,o,hf,hn,ho,hd⟩,hr⟩:=hl
      have hL:L ∈ X.fs:=hs L (by unfold frs;rw [List.filterMap_cons,hf];exact List.mem_cons_self)
      obtain ⟨sl,e⟩:=I.base.slot L o ho (I.ok.frf L hL) hL fun z=>I.ok.exfs L z hL
      exact ⟨hk,⟨L,_,hf,hn,e,hd⟩,ih (fun b hb=>hs b (by unfold frs;rw [List.filterMap_cons,hf];exact List.mem_cons_of_mem _ hb)) hr⟩
  exact all X.outer (fun _ hb=>hb) I.ok.funs
theorem Inv.stack (I:Inv X pins σ H s):s.heap.FunFrames X.base X.stack:=by
  rcases I.ok.stk with e | ⟨e,hf⟩
  · rw [e];exact I.funs
  · rw [e]
    obtain ⟨m,hn,_⟩:=I.loc
    refine .cons (by rw [I.ok.kind];decide) hf hn ?_ I.funs
    exact Heap.get?_none_of_le (Nat.le_trans I.ok.bsz I.ok.above)
theorem Inv.stkSub (I:Inv X pins σ H s):∀ b ∈ frs X.stack,b ∈ X.env.locals :: X.fs:=fun b hb=>by
  rcases I.ok.stk with e | ⟨e,hf⟩
  · rw [e] at hb;exact List.mem_cons_of_mem _ hb
  · rw [e] at hb
    unfold frs at hb
    rw [List.filterMap_cons,hf] at hb
    exact hb
theorem Inv.stkFree (I:Inv X pins σ H s):∀ b ∈ frs X.stack,H b=none:=fun b hb=>by
  rcases List.mem_cons.mp (I.stkSub b hb) with e | hb
  · rw [e];exact I.free
  · obtain ⟨_,o,ho,_⟩:=I.ok.funs.mem hb
    exact I.base.free b o ho (I.ok.frf b hb) fun z=>I.ok.exfs b z hb
theorem Inv.step {g':Array GenState} {t':Nat} {d':Drawn} {ch:List Addr} (I:Inv X pins σ H s)
    (hch:∀ b ∈ ch,(b ∈ X.ex ∨ X.s₀.heap.objs.size <= b)/\b ≠ X.env.locals/\(∀ x c,X.env.cells.lookup x=some c->c ≠ b)/\∀ p ∈ X.pn ++ pins,p.1 ≠ b)
    (keep:∀ b o,b ≠ X.env.locals->b ∉ X.fs->b ∉ ch->s.heap.get? b=some o->H b=none->h'.get? b=some o)
    (slot:∀ b o,b ≠ X.env.locals->b ∈ X.fs->b ∉ ch->s.heap.get? b=some o->H b=none->∃ sl,h'.get? b=some { o with slots:=sl }) (free:∀ b o,b ∉ ch->s.heap.get? b=some o->H b=none->H' b=none)
    (there:∀ b o,b ∉ ch->s.heap.get? b=some o->∃ o',h'.get? b=some o')
    (tups:∀ b xs,H b=some (.tup xs)->H' b=some (.tup xs)) (frzs:∀ b o u,H b=some (.frz o u)->H' b=some (.frz o u)) (tbls:∀ b ps,H b=some (.tbl ps)->∃ more,H' b=some (.tbl (ps ++ more)))
    (ns:∀ m,s.heap.Ns X.env.locals m->h'.Ns X.env.locals m) (hok:HOk X.prog X.w H' h') (hg:AllBare g') :
    Inv X pins σ H' { s with heap:=h',gens:=g',drawn:=d',toks:=t' }:=by
  have neL:∀ b o,X.s₀.heap.get? b=some o->b ≠ X.env.locals:=fun b o e=>Nat.ne_of_lt (Nat.lt_of_lt_of_le (Heap.lt_size e) I.ok.above)
  have neC:∀ b o,X.s₀.heap.get? b=some o->b ∉ X.ex->b ∉ ch:=fun b o e hx hb=>by
    rcases (hch b hb).1 with z | z
    · exact hx z
    · exact absurd (Nat.lt_of_lt_of_le (Heap.lt_size e) z) (Nat.lt_irrefl _)
  have cellK:∀ x c,X.env.cells.lookup x=some c->∀ v,s.heap.IsCell c v->h'.IsCell c v:=fun x c e v ⟨o,ho,hd⟩=>by
    have nch:c ∉ ch:=fun z=>(hch c z).2.2.1 x c e rfl
    by_cases hc:c ∈ X.fs
    · obtain ⟨sl,q⟩:=slot c o (I.cne x c e) hc nch ho (I.freeC x c e)
      exact ⟨_,q,hd⟩
    · exact ⟨o,keep c o (I.cne x c e) hc nch ho (I.freeC x c e),hd⟩
  refine ⟨I.ok,I.os,hg,⟨fun b o e n hb hx=>?_,fun b o e n hb hx=>?_,fun b o e n hx=>?_,fun b o e hx=>?_,fun b xs e=>tups b xs (I.base.tups b xs e),fun b o xs e=>frzs b o xs (I.base.frzs b o xs e),fun b ps e=>?_⟩,?_,fun x c e=>?_,?_,fun x c e=>?_,fun p hp=>?_,hok,I.len⟩
  · exact keep b o (neL b o e) hb (neC b o e hx) (I.base.keep b o e n hb hx) (I.base.free b o e n hx)
  · obtain ⟨sl,e1⟩:=I.base.slot b o e n hb hx
    obtain ⟨sl',e2⟩:=slot b _ (neL b o e) hb (neC b o e hx) e1 (I.base.free b o e n hx)
    exact ⟨sl',e2⟩
  · obtain ⟨o',e1⟩:=I.base.there b o e hx
    exact free b o' (neC b o e hx) e1 (I.base.free b o e n hx)
  · obtain ⟨o',e1⟩:=I.base.there b o e hx
    exact there b o' (neC b o e hx) e1
  · obtain ⟨m1,e1⟩:=I.base.tbls b ps e
    obtain ⟨m2,e2⟩:=tbls b _ e1
    exact ⟨m1 ++ m2,by rw [e2,Array.append_assoc]⟩
  · obtain ⟨m,hn,hl⟩:=I.loc
    refine ⟨m,ns m hn,fun i x v e1 e2 e3=>?_⟩
    obtain ⟨u,r,l⟩:=hl i x v e1 e2 e3
    refine ⟨u,r,?_⟩
    rcases l with l | ⟨k,c,e,z⟩
    · exact .inl l
    · exact .inr ⟨k,c,e,cellK x c e _ z⟩
  · obtain ⟨v,z⟩:=I.cell x c e
    exact ⟨v,cellK x c e v z⟩
  · obtain ⟨m,⟨o,_,_,ho,_⟩,_⟩:=I.loc
    exact free _ o (fun z=>(hch _ z).2.1 rfl) ho I.free
  · obtain ⟨v,o,ho,hd⟩:=I.cell x c e
    exact free c o (fun z=>(hch c z).2.2.1 x c e rfl) ho (I.freeC x c e)
  · obtain ⟨e,n,ne,nf,d⟩:=I.pin p hp
    have nch:p.1 ∉ ch:=fun z=>(hch p.1 z).2.2.2 p hp rfl
    exact ⟨keep p.1 p.2 ne nf nch e n,free p.1 p.2 nch e n,ne,nf,d⟩
theorem Inv.un {t':Nat} (I:Inv X pins σ H s) (u:Un X.fs [] H H' s.heap h') (hok:HOk X.prog X.w H' h'):Inv X pins σ H' { s with heap:=h',toks:=t' }:=by
  obtain ⟨m,⟨o,es,ep,ho,r⟩,_⟩:=id I.loc
  obtain ⟨sl,hL⟩:=u.any ho I.free (by simp)
  exact I.step (g':=s.gens) (d':=s.drawn) (ch:=[]) (fun _ z=>nomatch z) (fun b o _ hb _ e n=>u.keep b o e n hb (by simp)) (fun b o _ hb _ e n=>u.slot b o e n hb (by simp)) (fun b o _ e n=>u.free b o e n (by simp)) (fun b o _ e=>u.there b o e (by simp)) u.tups u.frzs u.tbls (fun m' hm=>by
    obtain ⟨o',es',ep',ho',r'⟩:=hm
    rw [ho] at ho';cases ho'
    exact ⟨_,es',ep',hL,r'⟩) hok I.bare
theorem Inv.call {g':Array GenState} {t':Nat} {d':Drawn} {ch:List Addr} (I:Inv X pins σ H s) (u:Un (frs X.stack) ch H H' s.heap h') (hok:HOk X.prog X.w H' h') (hg:AllBare g')
    (hch:∀ b ∈ ch,(b ∈ X.ex ∨ X.s₀.heap.objs.size <= b)/\b ≠ X.env.locals/\(∀ x c,X.env.cells.lookup x=some c->c ≠ b)/\∀ p ∈ X.pn ++ pins,p.1 ≠ b) :
    Inv X pins σ H' { s with heap:=h',gens:=g',drawn:=d',toks:=t' }:=by
  obtain ⟨m,⟨o,es,ep,ho,r⟩,_⟩:=id I.loc
  obtain ⟨sl,hL⟩:=u.any ho I.free fun z=>(hch _ z).2.1 rfl
  exact I.step (ch:=ch) hch (fun b o hL hb hc e n=>u.keep b o e n (fun z=>(List.mem_cons.mp (I.stkSub b z)).elim hL hb) hc) (fun b o _ _ hc e n=>u.any e n hc) (fun b o hc e n=>u.free b o e n hc) (fun b o hc e=>u.there b o e hc) u.tups u.frzs u.tbls (fun m' hm=>by
    obtain ⟨o',es',ep',ho',r'⟩:=hm
    rw [ho] at ho';cases ho'
    exact ⟨_,es',ep',hL,r'⟩) hok hg
theorem Inv.turned {t':Nat} {it:Addr} (I:Inv X pins σ H s) (k:∀ b o,b ≠ it->s.heap.get? b=some o->h'.get? b=some o) (hn:H it=none) (hL:it ≠ X.env.locals)
    (h1:it ∈ X.ex ∨ X.s₀.heap.objs.size <= it) (h2:∀ x c,X.env.cells.lookup x=some c->c ≠ it) (h3:∀ p ∈ X.pn ++ pins,p.1 ≠ it):Inv X pins σ H { s with heap:=h',toks:=t' }:=by
  have nit:∀ b u,H b=some u->b ≠ it:=fun b u e z=>by rw [z,hn] at e;cases e
  refine I.step (g':=s.gens) (d':=s.drawn) (ch:=[it]) (fun b hb=>?_) (fun b o _ _ hc e _=>k b o (fun z=>hc (by simp [z])) e) (fun b o _ _ hc e _=>⟨o.slots,k b o (fun z=>hc (by simp [z])) e⟩) (fun _ _ _ _ n=>n)
    (fun b o hc e=>⟨o,k b o (fun z=>hc (by simp [z])) e⟩) (fun _ _ e=>e) (fun _ _ _ e=>e) (fun b ps e=>⟨#[],by rw [e];simp⟩) (fun m hm=>?_) (fun b u e=>?_) I.bare
  · have e:b=it:=by simpa using hb
    subst e
    exact ⟨h1,hL,h2,h3⟩
  · obtain ⟨o,es,ep,ho,r⟩:=hm
    exact ⟨o,es,ep,k _ o (Ne.symm hL) ho,r⟩
  · refine (I.hok b u e).stay (fun c v hc q=>k c v ?_ q) (fun _ q=>q) fun _ _ q=>q
    rcases hc with z | z
    · rw [z];exact nit b u e
    · exact nit c _ z
theorem Inv.tok (I:Inv X pins σ H s) (t:Nat):Inv X pins σ H { s with toks:=t }:=I.un (h':=s.heap) (t':=t) Un.refl I.hok
theorem Inv.kept {t':Nat} (I:Inv X pins σ H s) (k:∀ b u,s.heap.get? b=some u->h'.get? b=some u):Inv X pins σ H { s with heap:=h',toks:=t' }:=I.un (Un.kept k) (I.hok.kept k)
theorem Inv.laid {a:Addr} {o:HO} {t':Nat} (I:Inv X pins σ H s) (k:∀ b u,s.heap.get? b=some u->h'.get? b=some u) (hp:s.heap.objs.size <= a) (new:ObjOk X.prog X.w (upd H a o) h' a o) :
    Inv X pins σ (upd H a o) { s with heap:=h',toks:=t' }:=I.un (Un.laid k hp (I.hok.fresh hp)) (I.hok.laid k hp new)
theorem Inv.write {x e:Addr} {o:HO} {t':Nat} (I:Inv X pins σ H s) (mu:Mut (H x)) (he:e=x ∨ H e=some (.own x)) (k:∀ b u,b ≠ e->s.heap.get? b=some u->h'.get? b=some u) (heo:∃ u,h'.get? e=some u)
    (new:ObjOk X.prog X.w (upd H x o) h' x o):Inv X pins σ (upd H x o) { s with heap:=h',toks:=t' }:=I.un (Un.write mu he k heo) (I.hok.write mu he k heo new)
theorem Inv.weak {σ':List (Option V)} (I:Inv X pins σ H s) (hl:σ'.length=σ.length) (w:∀ (i:Nat) v,σ'[i]?=some (some v)->σ[i]?=some (some v)):Inv X pins σ' H s :=
  ⟨I.ok,I.os,I.bare,I.base,let ⟨m,hn,hl'⟩:=I.loc;⟨m,hn,fun i x v e1 e2 e3=>hl' i x v e1 (w i v e2) e3⟩,I.cell,I.free,I.freeC,I.pin,I.hok,hl.trans I.len⟩
theorem Inv.pins_of {pins':List (Addr × Obj)} (I:Inv X pins σ H s) (h:∀ p ∈ pins',s.heap.get? p.1=some p.2/\H p.1=none/\p.1 ≠ X.env.locals/\p.1 ∉ X.fs/\∀ v,p.2.data ≠ .cell v):Inv X pins' σ H s :=
  ⟨I.ok,I.os,I.bare,I.base,I.loc,I.cell,I.free,I.freeC,fun p hp=>(List.mem_append.mp hp).elim (fun z=>I.pin p (List.mem_append_left _ z)) (h p),I.hok,I.len⟩
theorem nodup_ix {N:List Str} (hN:N.Nodup) {i j:Nat} {x:Str} (a:N[i]?=some x) (b:N[j]?=some x):i=j:=by
  obtain ⟨h1,e1⟩:=List.getElem?_eq_some_iff.mp a
  obtain ⟨h2,e2⟩:=List.getElem?_eq_some_iff.mp b
  exact (List.getElem_inj hN).mp (e1.trans e2.symm)
theorem store_ok2 {M:Model} {A:Around} {E:Value->Shared->Prop} {i:Nat} {x:Str} {v:V} {u:Value} {Q:Unit->Shared->Prop} (I:Inv X pins σ H s) (hN:X.N.Nodup) (hi:X.N[i]?=some x) (hx:Loc X.env.scope x) (r:RelV v u)
    (h:∀ s',Inv X pins (σ.set i (some v)) H s'->(∃ a,Heap.SameBut a s.heap s'.heap/\(a=X.env.locals ∨ X.env.cells.lookup x=some a))->Q () s') (hf:X.fn x=true ∨ X.env.scope.names.lookup x=some .local:=by first | exact .inl rfl | exact .inr rfl | assumption):wpAny M A (storeName X.env x u) Q E s:=by
  obtain ⟨m,hn,hl⟩:=id I.loc
  have hcls:(X.env.scope.kind == .class || (X.env.scope.kind == .module && X.env.locals != X.env.globals))=false:=by rw [I.ok.kind];rfl
  have hiσ:i < σ.length:=by rw [I.len];exact (List.getElem?_eq_some_iff.mp hi).1
  have cne:=I.cne
  have tracked:∀ {a:Addr} {h':Heap},(∃ o,s.heap.get? a=some o/\H a=none)->Heap.SameBut a s.heap h'->HOk X.prog X.w H h':=fun {a h'} ha hs b ob e=>by
    obtain ⟨_,_,hfree⟩:=ha
    refine (I.hok b ob e).stay (fun c w' hc q=>(hs.2 c ?_).trans q) (fun _ q=>q) fun _ _ q=>q
    rintro rfl
    rcases hc with rfl | hc
    · rw [hfree] at e;cases e
    · rw [hfree] at hc;cases hc
  rcases hx with hk | hk
  · refine wpAny_storeName_local hk hn (fun h' hn' hs=>?_) hcls
    obtain ⟨oL,_,_,hoL,_⟩:=id hn
    refine h _ ⟨I.ok,I.os,I.bare,⟨fun b o e n hb hx=>?_,fun b o e n hb hx=>?_,I.base.free,fun b o e hx=>?_,I.base.tups,I.base.frzs,I.base.tbls⟩,⟨_,hn',fun j y v' e1 e2 e3=>?_⟩,fun y c e=>?_,I.free,I.freeC,fun p hp=>?_,tracked ⟨oL,hoL,I.free⟩ hs,by simpa using I.len⟩ ⟨_,hs,.inl rfl⟩
    · exact (hs.2 b (Nat.ne_of_lt (Nat.lt_of_lt_of_le (Heap.lt_size e) I.ok.above))).trans (I.base.keep b o e n hb hx)
    · obtain ⟨sl,e1⟩:=I.base.slot b o e n hb hx
      exact ⟨sl,(hs.2 b (Nat.ne_of_lt (Nat.lt_of_lt_of_le (Heap.lt_size e) I.ok.above))).trans e1⟩
    · obtain ⟨o',e1⟩:=I.base.there b o e hx
      exact ⟨o',(hs.2 b (Nat.ne_of_lt (Nat.lt_of_lt_of_le (Heap.lt_size e) I.ok.above))).trans e1⟩
    · by_cases hj:j=i
      · subst hj
        rw [hi] at e1;cases e1
        rw [List.getElem?_set_self hiσ] at e2
        cases e2
        exact ⟨u,r,.inl ⟨hk,by simp⟩⟩
      · rw [List.getElem?_set_ne (Ne.symm hj)] at e2
        obtain ⟨u',r',q⟩:=hl j y v' e1 e2 e3
        refine ⟨u',r',?_⟩
        rcases q with ⟨k,e⟩ | ⟨k,c,e,z⟩
        · refine .inl ⟨k,?_⟩
          have:y ≠ x:=fun e=>hj (nodup_ix hN e1 (e ▸ hi))
          simp [this,e]
        · exact .inr ⟨k,c,e,z.sameBut hs (cne y c e)⟩
    · obtain ⟨w',z⟩:=I.cell y c e
      exact ⟨w',z.sameBut hs (cne y c e)⟩
    · obtain ⟨e,n,ne,nf,d⟩:=I.pin p hp
      exact ⟨(hs.2 p.1 ne).trans e,n,ne,nf,d⟩
  · have hfn:X.fn x=true:=by
      rcases hf with z | z
      · exact z
      · rw [z] at hk;cases hk
    obtain ⟨c,hc⟩:=I.ok.has x (.inl hk)
    obtain ⟨w',z⟩:=I.cell x c hc
    refine wpAny_storeName_cell I.ok.kind hk hc z (fun h' hc' hs=>?_)
    obtain ⟨oc,hoc,hocd⟩:=id z
    refine h { s with heap:=h' } ⟨I.ok,I.os,I.bare,⟨fun b o e n hb hx=>?_,fun b o e n hb hx=>?_,I.base.free,fun b o e hx=>?_,I.base.tups,I.base.frzs,I.base.tbls⟩,⟨m,hn.sameBut hs (Ne.symm (cne x c hc)),fun j y v' e1 e2 e3=>?_⟩,fun y c' e=>?_,I.free,I.freeC,fun p hp=>?_,tracked ⟨oc,hoc,I.freeC x c hc⟩ hs,by simpa using I.len⟩ ⟨c,hs,.inr hc⟩
    · exact (hs.2 b (Nat.ne_of_lt (Nat.lt_of_lt_of_le (Heap.lt_size e) (I.ok.cab x c hfn hc)))).trans (I.base.keep b o e n hb hx)
    · obtain ⟨sl,e1⟩:=I.base.slot b o e n hb hx
      exact ⟨sl,(hs.2 b (Nat.ne_of_lt (Nat.lt_of_lt_of_le (Heap.lt_size e) (I.ok.cab x c hfn hc)))).trans e1⟩
    · obtain ⟨o',e1⟩:=I.base.there b o e hx
      exact ⟨o',(hs.2 b (Nat.ne_of_lt (Nat.lt_of_lt_of_le (Heap.lt_size e) (I.ok.cab x c hfn hc)))).trans e1⟩
    · by_cases hj:j=i
      · subst hj
        rw [hi] at e1;cases e1
        rw [List.getElem?_set_self hiσ] at e2
        cases e2
        exact ⟨u,r,.inr ⟨.inl hk,c,hc,hc'⟩⟩
      · rw [List.getElem?_set_ne (Ne.symm hj)] at e2
        obtain ⟨u',r',q⟩:=hl j y v' e1 e2 e3
        refine ⟨u',r',?_⟩
        rcases q with q | ⟨k,c',e,z'⟩
        · exact .inl q
        · refine .inr ⟨k,c',e,z'.sameBut hs ?_⟩
          rintro rfl
          exact hj (nodup_ix hN e1 (I.ok.inj _ _ _ e hc ▸ hi))
    · by_cases hcc:c'=c
      · subst hcc;exact ⟨_,hc'⟩
      · obtain ⟨w2,z2⟩:=I.cell y c' e
        exact ⟨w2,z2.sameBut hs hcc⟩
    · obtain ⟨e,n,ne,nf,d⟩:=I.pin p hp
      refine ⟨(hs.2 p.1 ?_).trans e,n,ne,nf,d⟩
      intro q
      rw [q,hoc] at e
      have q':oc=p.2:=Option.some.inj e
      exact d w' (by rw [<- q'];exact hocd)
theorem store_ok {M:Model} {A:Around} {E:Value->Shared->Prop} {i:Nat} {x:Str} {v:V} {u:Value} {Q:Unit->Shared->Prop} (I:Inv X pins σ H s) (hN:X.N.Nodup) (hi:X.N[i]?=some x) (hx:Loc X.env.scope x) (r:RelV v u)
    (h:∀ s',Inv X pins (σ.set i (some v)) H s'->Q () s') (hf:X.fn x=true ∨ X.env.scope.names.lookup x=some .local:=by first | exact .inl rfl | exact .inr rfl | assumption):wpAny M A (storeName X.env x u) Q E s :=
  store_ok2 I hN hi hx r (fun s' I' _=>h s' I') hf
theorem Inv.call' {s':Shared} {ch:List Addr} (I:Inv X pins σ H s) (ho:s'.os=s.os) (u:Un (frs X.stack) ch H H' s.heap s'.heap) (hok:HOk X.prog X.w H' s'.heap) (hg:AllBare s'.gens)
    (hch:∀ b ∈ ch,(b ∈ X.ex ∨ X.s₀.heap.objs.size <= b)/\b ≠ X.env.locals/\(∀ x c,X.env.cells.lookup x=some c->c ≠ b)/\∀ p ∈ X.pn ++ pins,p.1 ≠ b):Inv X pins σ H' s':=by
  obtain ⟨h',g',d',t',o'⟩:=s'
  have e:o'=s.os:=ho
  subst e
  exact I.call (g':=g') (t':=t') (d':=d') u hok hg hch
end
abbrev XK:=Value->Option Addr->Hp->Prop
abbrev St:=List (Option V)
abbrev VK:=V->Hp->Prop
abbrev TE:=St->Hp->VK->Prop
abbrev TT:=St->Hp->(Bool->Hp->Prop)->Prop
abbrev TA:=St->Hp->(List V->Hp->Prop)->Prop
structure Ends where
  nx:St->Hp->Prop
  rt:VK
  bk:St->Hp->Prop:=fun _ _=>False
  ct:St->Hp->Prop:=fun _ _=>False
abbrev TS:=Ends->St->Hp->Prop
def EP (X:Cx) (pins:List (Addr × Obj)) (σ:St) (Q:VK) (u:Value) (s':Shared):Prop:=∃ v H',Inv X pins σ H' s'/\RelV v u/\Q v H'
def TP (X:Cx) (pins:List (Addr × Obj)) (σ:St) (Q:Bool->Hp->Prop) (b:Bool) (s':Shared):Prop:=∃ H',Inv X pins σ H' s'/\Q b H'
def AP (X:Cx) (pins:List (Addr × Obj)) (σ:St) (Q:List V->Hp->Prop) (us:List Value) (s':Shared):Prop:=∃ vs H',Inv X pins σ H' s'/\Vals vs us/\Q vs H'
def SP (X:Cx) (pins:List (Addr × Obj)) (D:Ends) (f:Flow) (s':Shared):Prop :=
  match f with
  | .next=>∃ σ' H',Inv X pins σ' H' s'/\D.nx σ' H'
  | .brk=>∃ σ' H',Inv X pins σ' H' s'/\D.bk σ' H'
  | .cont=>∃ σ' H',Inv X pins σ' H' s'/\D.ct σ' H'
  | .ret u=>∃ v σ' H',Inv X pins σ' H' s'/\RelV v u/\D.rt v H'
def PE (X:Cx) (e:Expr) (t:TE):Prop :=
  ∀ (pins:List (Addr × Obj)) (s:Shared) (σ:St) (H:Hp) (Q:VK),Inv X pins σ H s->t σ H Q->wpAny (model X.prog X.w) X.A (eval e X.env) (EP X pins σ Q) X.xe s
def PT (X:Cx) (e:Expr) (t:TT):Prop :=
  ∀ (pins:List (Addr × Obj)) (s:Shared) (σ:St) (H:Hp) (Q:Bool->Hp->Prop),Inv X pins σ H s->t σ H Q->wpAny (model X.prog X.w) X.A (isTrue e X.env (eval e X.env)) (TP X pins σ Q) X.xe s
def PW (X:Cx) (e:Expr) (t:TT):Prop :=
  ∀ (whole:Sem Value) (pins:List (Addr × Obj)) (s:Shared) (σ:St) (H:Hp) (Q:Bool->Hp->Prop),Inv X pins σ H s->t σ H Q->wpAny (model X.prog X.w) X.A (isTrue e X.env whole) (TP X pins σ Q) X.xe s
theorem PW.pt {X:Cx} {e:Expr} {t:TT} (h:PW X e t):PT X e t:=h _
def PA (X:Cx) (es:List Expr) (t:TA):Prop :=
  ∀ (pos:Pos) (pins:List (Addr × Obj)) (s:Shared) (σ:St) (H:Hp) (Q:List V->Hp->Prop),Inv X pins σ H s->t σ H Q->wpAny (model X.prog X.w) X.A (spliced (backTo pos (starEach es X.env))) (AP X pins σ Q) X.xe s
def PS (X:Cx) (st:Stmt) (t:TS):Prop :=
  ∀ (pins:List (Addr × Obj)) (s:Shared) (σ:St) (H:Hp) (D:Ends),Inv X pins σ H s->t D σ H->wpAny (model X.prog X.w) X.A (exec st X.env) (SP X pins D) X.xe s
def PSs (X:Cx) (st:List Stmt) (t:TS):Prop :=
  ∀ (pins:List (Addr × Obj)) (s:Shared) (σ:St) (H:Hp) (D:Ends),Inv X pins σ H s->t D σ H->wpAny (model X.prog X.w) X.A (execs st X.env) (SP X pins D) X.xe s
theorem thn {α:Type} {t:Sem α} {Q Q':α->Shared->Prop} {M:Model} {A:Around} {E:Value->Shared->Prop} {s:Shared} (h:wpAny M A t Q E s) (hQ:∀ a s,Q a s->Q' a s):wpAny M A t Q' E s:=wpAny_mono h hQ fun _ _ x=>x
end L2
namespace L2
open PySem PySem.Spec PyProof.Rows
section
variable {X:Cx}
def tVar (i:Nat):TE:=fun σ H Q=>∃ v,σ[i]?=some (some v)/\Q v H
def tC (v:V):TE:=fun _ H Q=>Q v H
theorem pe_var {i:Nat} {x:Str} {pos:Pos} (hN:X.N[i]?=some x) (hv:Vis X.env.scope x) (hd:(x == ("__debug__":Str))=false:=by decide) (hcd:(x == ("__classdict__":Str))=false:=by decide):PE X (.Name x pos) (tVar i):=by
  intro pins s σ H Q I h
  obtain ⟨v,e,h⟩:=h
  obtain ⟨m,hn,hl⟩:=I.loc
  obtain ⟨u,r,l⟩:=hl i x v hN e hv
  have fin:EP X pins σ Q u s:=⟨v,H,I,r,h⟩
  rcases l with ⟨hk,hm⟩ | ⟨hk,c,hc,hcell⟩
  · exact wpAny_Name (wpAny_loadName_local I.ok.kind hk hn hm fin) hd
  · rcases hk with hk | hk
    · exact wpAny_Name (wpAny_loadName_cell I.ok.kind hk hc hcell fin) hd
    · exact wpAny_Name (wpAny_loadName_free I.ok.kind hk hc hcell fin hcd) hd
theorem pe_int {i j pos}:PE X (.Constant (.int i) j pos) (tC (.int i)):=fun _ _ _ H _ I h=>wpAny_Constant_int ⟨.int i,H,I.tok _,⟨_,rfl⟩,h⟩
theorem pe_bl {b j pos}:PE X (.Constant (.bool b) j pos) (tC (.bl b)):=fun _ _ _ H _ I h=>Constant_bool ⟨.bl b,H,I,rfl,h⟩
theorem pe_non {j pos}:PE X (.Constant .none j pos) (tC .non):=fun _ _ _ H _ I h=>Constant_none ⟨.non,H,I,rfl,h⟩
theorem pe_str {x j pos}:PE X (.Constant (.str x) j pos) (tC (.str x)):=fun _ _ _ H _ I h=>Calls.Constant_str ⟨.str x,H,I.tok _,⟨_,rfl⟩,h⟩
def Gl (X:Cx) (x:Str):Prop:=X.env.kindOf x=some .globalImplicit
theorem ld_glob {E:Value->Shared->Prop} {pins:List (Addr × Obj)} {s:Shared} {σ:St} {H:Hp} {x:Str} {u:Value} {pos:Pos} {Q:Value->Shared->Prop} (I:Inv X pins σ H s) (hg:Gl X x) (hm:X.mg x=some u) (h:Q u s)
    (hd:(x == ("__debug__":Str))=false:=by decide):wpAny (model X.prog X.w) X.A (eval (.Name x pos) X.env) Q E s :=
  Calls.Name_function_global I.ok.kind hg (Calls.loadGlobal_global (by rw [I.ok.glob];exact I.mod.glob.keeps I.bk) hm h) hd
theorem ld_blt {E:Value->Shared->Prop} {pins:List (Addr × Obj)} {s:Shared} {σ:St} {H:Hp} {x:Str} {u:Value} {pos:Pos} {Q:Value->Shared->Prop} (I:Inv X pins σ H s) (hg:Gl X x) (hm:X.mg x=none) (hv:bootBuiltins x=some u) (h:Q u s)
    (hn:x ≠ "__name__":=by decide) (hd:(x == ("__debug__":Str))=false:=by decide):wpAny (model X.prog X.w) X.A (eval (.Name x pos) X.env) Q E s:=by
  obtain ⟨mb,h1,h2⟩:=I.mod.blt
  exact Calls.Name_function_global I.ok.kind hg (Calls.loadGlobal_builtin (by rw [I.ok.glob];exact I.mod.glob.keeps I.bk) hm (by rw [I.ok.blt];exact h1.keeps I.bk) ((h2 x hn).trans hv) h) hd
theorem pe_glob {x:Str} {v:V} {u:Value} {pos:Pos} (hg:Gl X x) (hm:X.mg x=some u) (r:RelV v u) (hd:(x == ("__debug__":Str))=false:=by decide):PE X (.Name x pos) (tC v) :=
  fun _ _ _ H _ I h=>ld_glob I hg hm ⟨v,H,I,r,h⟩ hd
theorem pe_bltn {x:Str} {v:V} {u:Value} {pos:Pos} (hg:Gl X x) (hm:X.mg x=none) (hv:bootBuiltins x=some u) (r:RelV v u) (hn:x ≠ "__name__":=by decide) (hd:(x == ("__debug__":Str))=false:=by decide):PE X (.Name x pos) (tC v) :=
  fun _ _ _ H _ I h=>ld_blt I hg hm hv ⟨v,H,I,r,h⟩ hn hd
variable {a b:Expr} {ta tb:TE} {pos:Pos}
def PC (X:Cx) (op:CmpOp) (a b:Expr) (t:TE):Prop :=
  ∀ (pins:List (Addr × Obj)) (s:Shared) (σ:St) (H:Hp) (Q:VK),Inv X pins σ H s->t σ H Q ->
    wpAny (model X.prog X.w) X.A (eval a X.env) (fun v s₁=>wpAny (model X.prog X.w) X.A (eval b X.env) (fun u s₂=>wpAny (model X.prog X.w) X.A (compareOp op v u) (EP X pins σ Q) X.xe s₂) X.xe s₁) X.xe s
theorem nobehind (b:Expr) {op:CmpOp} (h:op ≠ .In) (h2:op ≠ .NotIn):behindInMarks op b=false:=by
  have e1:(op == CmpOp.In)=false:=by cases op <;> first | rfl | exact absurd rfl h
  have e2:(op == CmpOp.NotIn)=false:=by cases op <;> first | rfl | exact absurd rfl h2
  cases b <;> simp [behindInMarks,e1,e2]
def tIsN (ta:TE):TE:=fun σ H Q=>ta σ H fun x H1=>Q (.bl (decide (x=.non))) H1
theorem RelV.none_iff {x:V} {v:Value} (r:RelV x v):(v == Value.none)=decide (x=.non):=by
  cases x with
  | non=>cases r;rfl
  | bl _=>cases r;rfl
  | int _=>obtain ⟨t,rfl⟩:=r;rfl
  | str _=>obtain ⟨t,rfl⟩:=r;rfl
  | byt _=>obtain ⟨t,rfl⟩:=r;rfl
  | flt _=>obtain ⟨t,rfl⟩:=r;rfl
  | ref _=>cases r;rfl
  | ty _=>cases r;rfl
theorem pc_isN {j pos'} (ha:PE X a ta):PC X .Is a (.Constant .none j pos') (tIsN ta):=by
  intro pins s σ H Q I h
  refine thn (ha pins s σ H _ I h) fun v s1 ⟨x,H1,I1,r1,q1⟩=>?_
  exact Constant_none (is_none_gen ⟨.bl _,H1,I1,by rw [r1.none_iff];rfl,q1⟩)
def tB (t:TE):TT:=fun σ H Q=>t σ H fun x H1=>∃ c,x=.bl c/\Q c H1
theorem pt_cmp {op:CmpOp} {t:TE} (h:PC X op a b t) (h1:behindInMarks op b=false:=by first | exact nobehind _ (by decide) (by decide) | rfl):PT X (.Compare a [op] [b] pos) (tB t):=by
  intro pins s σ H Q I hw
  refine wpAny_isTrue_Compare1 (thn (h pins s σ H _ I hw) fun v s1 h1=>thn h1 fun u s2 h2=>thn h2 fun c s3 ⟨x,H1,I1,r1,q1⟩=>?_) h1
  obtain ⟨d,rfl,q⟩:=q1
  cases r1
  exact wpAny_truthy_bool ⟨H1,I1,q⟩
theorem pt_val {e:Expr} {t:TE} (h:PE X e t) (he:∀ whole,isTrue e X.env whole=(do let v <- whole;standAt e.pos;holding [v] (truthy v)):=by intro _;rfl):PT X e (tB t):=by
  intro pins s σ H Q I hw
  refine isTrue_plain (thn (h pins s σ H _ I hw) fun v s1 ⟨x,H1,I1,r1,q1⟩=>?_) (he _)
  obtain ⟨d,rfl,q⟩:=q1
  cases r1
  exact wpAny_truthy_bool ⟨H1,I1,q⟩
variable {tA tB':TT} {rest:List Expr}
def tOr (t u:TT):TT:=fun σ H Q=>t σ H fun c H1=>if c=true then Q true H1 else u σ H1 Q
def tNot (t:TT):TT:=fun σ H Q=>t σ H fun c H1=>Q (!c) H1
theorem pw_or1 (ha:PT X a tA):PW X (.BoolOp .Or [a] pos) tA:=by
  intro wh pins s σ H Q I h
  refine isTrue_or (thn (ha pins s σ H Q I h) fun c s1 e=>?_)
  cases c with
  | false=>exact isTrue_or_nil e
  | true=>exact e
theorem pw_or (ha:PT X a tA) (hb:PW X (.BoolOp .Or (b :: rest) pos) tB'):PW X (.BoolOp .Or (a :: b :: rest) pos) (tOr tA tB'):=by
  intro wh pins s σ H Q I h
  refine isTrue_or (thn (ha pins s σ H _ I h) fun c s1 ⟨H1,I1,q1⟩=>?_)
  cases c with
  | true=>exact ⟨H1,I1,q1⟩
  | false=>exact hb wh pins s1 σ H1 Q I1 q1
theorem pt_not (ha:PT X a tA):PT X (.UnaryOp .Not a pos) (tNot tA):=by
  intro pins s σ H Q I h
  exact isTrue_not (ha pins s σ H (fun c H1=>Q (!c) H1) I h)
def tAndV (ta tb:TE):TE:=fun σ H Q=>ta σ H fun x H1=>∃ c,x=.bl c/\if c=true then tb σ H1 Q else Q (.bl false) H1
def tNotV (ta:TE):TE:=fun σ H Q=>ta σ H fun x H1=>∃ c,x=.bl c/\Q (.bl (!c)) H1
theorem pe_one {op} {t:TE} (h:PE X a t):PE X (.BoolOp op [a] pos) t:=fun pins s σ H Q I hw=>BoolOp_one (h pins s σ H Q I hw)
theorem pe_and (ha:PE X a ta) (hb:PE X (.BoolOp .And (b :: rest) pos) tb):PE X (.BoolOp .And (a :: b :: rest) pos) (tAndV ta tb):=by
  intro pins s σ H Q I h
  refine BoolOp_and (thn (ha pins s σ H _ I h) fun v s1 ⟨x,H1,I1,r1,q1⟩=>?_)
  obtain ⟨c,rfl,q1⟩:=q1
  cases r1
  refine wpAny_truthy_bool ?_
  cases c with
  | true=>exact hb pins s1 σ H1 Q I1 q1
  | false=>exact ⟨.bl false,H1,I1,rfl,q1⟩
theorem pe_not (ha:PE X a ta):PE X (.UnaryOp .Not a pos) (tNotV ta):=by
  intro pins s σ H Q I h
  refine UnaryOp_ (thn (ha pins s σ H _ I h) fun v s1 ⟨x,H1,I1,r1,q1⟩=>?_)
  obtain ⟨c,rfl,q1⟩:=q1
  cases r1
  exact not_of (wpAny_truthy_bool ⟨.bl (!c),H1,I1,rfl,q1⟩)
def tIf (t:TT) (ta tb:TE):TE:=fun σ H Q=>t σ H fun c H1=>if c=true then ta σ H1 Q else tb σ H1 Q
theorem pe_ifExp {c:Expr} (hc:PT X c tA) (ha:PE X a ta) (hb:PE X b tb):PE X (.IfExp c a b pos) (tIf tA ta tb):=by
  intro pins s σ H Q I h
  refine wpAny_IfExp (thn (hc pins s σ H _ I h) fun d s1 ⟨H1,I1,q1⟩=>?_)
  cases d with
  | true=>exact ha pins s1 σ H1 Q I1 q1
  | false=>exact hb pins s1 σ H1 Q I1 q1
end
end L2
namespace L2
open PySem PySem.Spec PyProof.Rows
def SqL (K:PySem.W.Frag) (H:Hp) (a:Addr) (xs:List V):Prop :=
  Rd H a (.lst xs) ∨
    ∃ (o:Obj) (its:Array Value) (n:Nat),K.lookup a=some o/\o.cls=.type "list"/\o.dict=none/\o.data=.seq its n/\its.size <= sizeLine/\Vals xs its.toList
def SqT (K:PySem.W.Frag) (H:Hp) (a:Addr) (xs:List V):Prop :=
  Rd H a (.tup xs) ∨
    ∃ (o:Obj) (its:Array Value) (n:Nat),K.lookup a=some o/\o.cls=.type "tuple"/\o.data=.seq its n/\its.size <= sizeLine/\Vals xs its.toList
def absV:Value->Option V
  | .none=>some .non
  | .bool b=>some (.bl b)
  | .int i _=>some (.int i)
  | .str x _=>some (.str x)
  | .bytes b _=>some (.byt b)
  | .float b _=>some (.flt b)
  | .ref a=>some (.ref a)
  | .type n=>some (.ty n)
  | _=>none
theorem RelV.abs {x:V} {u:Value} (r:RelV x u):absV u=some x:=by
  cases x with
  | non=>cases r;rfl
  | bl _=>cases r;rfl
  | int _=>obtain ⟨t,rfl⟩:=r;rfl
  | str _=>obtain ⟨t,rfl⟩:=r;rfl
  | byt _=>obtain ⟨t,rfl⟩:=r;rfl
  | flt _=>obtain ⟨t,rfl⟩:=r;rfl
  | ref _=>cases r;rfl
  | ty _=>cases r;rfl
theorem RelV.inj {x y:V} {u:Value} (r:RelV x u) (q:RelV y u):x=y:=Option.some.inj (r.abs.symm.trans q.abs)
theorem Vals.inj:∀ {xs ys:List V} {us:List Value},Vals xs us->Vals ys us->xs=ys
  | _,_,_,.nil,.nil=>rfl
  | _,_,_,.cons r t,.cons r' t'=>by rw [r.inj r',Vals.inj t t']
section
variable {X:Cx} {pins:List (Addr × Obj)} {σ:St} {H:Hp} {s:Shared} {a:Addr} {xs ys:List V}
theorem SqL.of {K:PySem.W.Frag} (h:H a=some (.lst xs)):SqL K H a xs:=.inl (.inl h)
theorem SqT.of {K:PySem.W.Frag} (h:H a=some (.tup xs)):SqT K H a xs:=.inl (.inl h)
theorem Inv.list (I:Inv X pins σ H s) (h:SqL X.K H a xs):∃ its:List Value,Vals xs its/\PlainL s.heap a its.toArray/\xs.length <= sizeLine:=by
  rcases h with h | ⟨o,its,n,hk,hc,hd,hs,hz,r⟩
  · obtain ⟨z,its,n,r,e⟩:=h.ok I.hok
    exact ⟨its,r,⟨_,n,e,rfl,rfl,rfl⟩,z⟩
  · refine ⟨its.toList,r,⟨o,n,I.kIn a o hk,hc,hd,by simpa using hs⟩,?_⟩
    have e:=r.length
    simp only [Array.length_toList] at e
    omega
theorem Inv.tuple (I:Inv X pins σ H s) (h:SqT X.K H a xs):∃ its:List Value,Vals xs its/\IsTup s.heap a its.toArray/\xs.length <= sizeLine:=by
  rcases h with h | ⟨o,its,n,hk,hc,hs,hz,r⟩
  · obtain ⟨z,its,r,p⟩:=h.ok I.hok
    exact ⟨its,r,p,z⟩
  · refine ⟨its.toList,r,⟨o,I.kIn a o hk,hc,n,by simpa using hs⟩,?_⟩
    have e:=r.length
    simp only [Array.length_toList] at e
    omega
theorem Inv.list_inj (I:Inv X pins σ H s) (h:SqL X.K H a xs) (h':SqL X.K H a ys):xs=ys:=by
  obtain ⟨its,r,⟨o,n,e,_,_,d⟩,_⟩:=I.list h
  obtain ⟨its',r',⟨o',n',e',_,_,d'⟩,_⟩:=I.list h'
  rw [e] at e';cases e'
  rw [d] at d'
  injection d' with d1 _
  have:its=its':=by simpa using congrArg Array.toList d1
  subst this
  exact r.inj r'
theorem Inv.tuple_inj (I:Inv X pins σ H s) (h:SqT X.K H a xs) (h':SqT X.K H a ys):xs=ys:=by
  obtain ⟨its,r,⟨o,e,_,n,d⟩,_⟩:=I.tuple h
  obtain ⟨its',r',⟨o',e',_,n',d'⟩,_⟩:=I.tuple h'
  rw [e] at e';cases e'
  rw [d] at d'
  injection d' with d1 _
  have:its=its':=by simpa using congrArg Array.toList d1
  subst this
  exact r.inj r'
end
abbrev Cx.wish (X:Cx) (E:Value->Shared->Prop):Cx:={ X with xe:=E }
abbrev Cx.nox (X:Cx):Cx:=X.wish fun _ _=>False
theorem Cx.Ok.wish {X:Cx} (ok:X.Ok) (E:Value->Shared->Prop):(X.wish E).Ok :=
  ⟨ok.mod,ok.kind,ok.glob,ok.blt,ok.above,ok.inj,ok.has,ok.cab,ok.hd,ok.frames,ok.stk,ok.exf,ok.bs,ok.bsz,ok.noex,ok.exfs,ok.funs,ok.frf⟩
theorem Cx.Ok.unwish {X:Cx} {E:Value->Shared->Prop} (ok:(X.wish E).Ok):X.Ok :=
  ⟨ok.mod,ok.kind,ok.glob,ok.blt,ok.above,ok.inj,ok.has,ok.cab,ok.hd,ok.frames,ok.stk,ok.exf,ok.bs,ok.bsz,ok.noex,ok.exfs,ok.funs,ok.frf⟩
section
variable {X:Cx} {pins:List (Addr × Obj)} {σ:St} {H:Hp} {s:Shared} {E:Value->Shared->Prop}
theorem Inv.wish (I:Inv X pins σ H s) (E:Value->Shared->Prop):Inv (X.wish E) pins σ H s:=⟨I.ok.wish E,I.os,I.bare,I.base,I.loc,I.cell,I.free,I.freeC,I.pin,I.hok,I.len⟩
theorem Inv.unwish (I:Inv (X.wish E) pins σ H s):Inv X pins σ H s:=⟨I.ok.unwish,I.os,I.bare,I.base,I.loc,I.cell,I.free,I.freeC,I.pin,I.hok,I.len⟩
theorem SP.unwish {D:Ends} {f:Flow} {s':Shared} (h:SP (X.wish E) pins D f s'):SP X pins D f s':=by
  cases f with
  | next=>obtain ⟨σ',H',I,q⟩:=h;exact ⟨σ',H',I.unwish,q⟩
  | brk=>obtain ⟨σ',H',I,q⟩:=h;exact ⟨σ',H',I.unwish,q⟩
  | cont=>obtain ⟨σ',H',I,q⟩:=h;exact ⟨σ',H',I.unwish,q⟩
  | ret u=>obtain ⟨v,σ',H',I,r,q⟩:=h;exact ⟨v,σ',H',I.unwish,r,q⟩
theorem PSs.nox {st:List Stmt} {t:TS} (h:PSs X.nox st t):PSs X st t:=fun pins s σ H D I hw =>
  wpAny_mono (h pins s σ H D (I.wish _) hw) (fun _ _ q=>q.unwish) fun _ _ z=>False.elim z
end
section
variable {X:Cx} {st:Stmt} {rest:List Stmt} {t u:TS} {e:Expr} {te:TE} {pos:Pos}
def tNext:TS:=fun D σ H=>D.nx σ H
def tSeq (t u:TS):TS:=fun D σ H=>t { D with nx:=u D } σ H
theorem pss_nil:PSs X [] tNext:=fun _ _ σ H _ I h=>wpAny_execs_nil ⟨σ,H,I,h⟩
theorem pss_cons (h1:PS X st t) (h2:PSs X rest u):PSs X (st :: rest) (tSeq t u):=by
  intro pins s σ H D I h
  refine wpAny_execs_cons (thn (h1 pins s σ H { D with nx:=u D } I h) fun f s1 q=>?_)
  cases f with
  | next =>
    obtain ⟨σ',H',I',q⟩:=q
    exact h2 pins s1 σ' H' D I' q
  | ret v=>exact q
  | brk=>exact q
  | cont=>exact q
theorem pss_one (h1:PS X st t):PSs X [st] t:=by
  intro pins s σ H D I h
  refine wpAny_execs_cons (thn (h1 pins s σ H D I h) fun f s1 q=>?_)
  cases f with
  | next=>exact wpAny_execs_nil q
  | ret v=>exact q
  | brk=>exact q
  | cont=>exact q
theorem Inv.quiet {pins:List (Addr × Obj)} {σ:St} {H:Hp} {s:Shared} (I:Inv X pins σ H s):interactive X.env=false:=by simp [interactive,I.ok.kind]
def tDrop (te:TE):TS:=fun D σ H=>te σ H fun _ H1=>D.nx σ H1
theorem ps_expr (he:PE X e te) (hs:swapsWith e none pos.line X.env=pure false:=by rfl):PS X (.Expr e pos) (tDrop te):=by
  intro pins s σ H D I h
  exact wpAny_Expr_any (thn (he pins s σ H _ I h) fun v s1 ⟨x,H1,I1,r1,q1⟩=>⟨σ,H1,I1,q1⟩) I.quiet hs
def tRet (te:TE):TS:=fun D σ H=>te σ H D.rt
theorem ps_ret (he:PE X e te):PS X (.Return (some e) pos) (tRet te):=by
  intro pins s σ H D I h
  exact wpAny_Return_some (thn (he pins s σ H _ I h) fun v s1 ⟨x,H1,I1,r1,q1⟩=>⟨x,σ,H1,I1,r1,q1⟩)
def tIfS (c:TT) (t u:TS):TS:=fun D σ H=>c σ H fun b H1=>if b=true then t D σ H1 else u D σ H1
theorem ps_if {c:Expr} {a b:List Stmt} {tc:TT} (hc:PT X c tc) (ha:PSs X a t) (hb:PSs X b u):PS X (.If c a b pos) (tIfS tc t u):=by
  intro pins s σ H D I h
  refine wpAny_If (thn (hc pins s σ H _ I h) fun d s1 ⟨H1,I1,q1⟩=>?_)
  cases d with
  | true=>exact ha pins s1 σ H1 D I1 q1
  | false=>exact hb pins s1 σ H1 D I1 q1
def tNever:TS:=fun _ _ _=>False
theorem pss_never {sts:List Stmt}:PSs X sts tNever:=fun _ _ _ _ _ _ h=>h.elim
end
abbrev TG:=V->St->Hp->(St->Hp->Prop)->Prop
abbrev TGs:=List V->St->Hp->(St->Hp->Prop)->Prop
def PG (X:Cx) (target:Expr) (t:TG):Prop :=
  ∀ (pins:List (Addr × Obj)) (s:Shared) (σ:St) (H:Hp) (v:V) (u:Value) (Q:St->Hp->Prop),Inv X pins σ H s->RelV v u->t v σ H Q ->
    wpAny (model X.prog X.w) X.A (assign target X.env u) (fun _ s'=>∃ σ' H',Inv X pins σ' H' s'/\Q σ' H') X.xe s
def PGs (X:Cx) (ts:List Expr) (t:TGs):Prop :=
  ∀ (pins:List (Addr × Obj)) (s:Shared) (σ:St) (H:Hp) (vs:List V) (us:List Value) (Q:St->Hp->Prop),Inv X pins σ H s->Vals vs us->t vs σ H Q ->
    wpAny (model X.prog X.w) X.A (assignInOrder ((assignEach ts X.env).map (·.2)) us) (fun _ s'=>∃ σ' H',Inv X pins σ' H' s'/\Q σ' H') X.xe s
abbrev TSet:=V->V->V->Hp->(Hp->Prop)->Prop
def PSet (X:Cx) (t:TSet):Prop :=
  ∀ (pins:List (Addr × Obj)) (s:Shared) (σ:St) (H:Hp) (o i v:V) (ov iv u:Value) (Q:Hp->Prop),Inv X pins σ H s->RelV o ov->RelV i iv->RelV v u->t o i v H Q ->
    wpAny (model X.prog X.w) X.A (setItem ov iv u) (fun _ s'=>∃ H',Inv X pins σ H' s'/\Q H') X.xe s
section
variable {X:Cx} {pos:Pos}
def gName (i:Nat):TG:=fun v σ H Q=>Q (σ.set i (some v)) H
theorem pg_name {i:Nat} {x:Str} (hN:X.N.Nodup) (hi:X.N[i]?=some x) (hx:Loc X.env.scope x) (hf:X.fn x=true ∨ X.env.scope.names.lookup x=some .local:=by first | exact .inl rfl | exact .inr rfl | assumption):PG X (.Name x pos) (gName i):=by
  intro pins s σ H v u Q I r h
  exact wpAny_assign_Name (store_ok I hN hi hx r (fun s' I'=>⟨_,H,I',h⟩) hf)
def gNil:TGs:=fun vs σ H Q=>vs=[]/\Q σ H
def gCons (t:TG) (u:TGs):TGs:=fun vs σ H Q=>∃ v r,vs=v :: r/\t v σ H fun σ' H'=>u r σ' H' Q
theorem pgs_nil:PGs X [] gNil:=by
  intro pins s σ H vs us Q I r h
  obtain ⟨e,h⟩:=h
  subst e
  cases r
  exact assignInOrder_nil ⟨σ,H,I,h⟩
theorem pgs_cons {e:Expr} {es:List Expr} {t:TG} {u:TGs} (h1:PG X e t) (h2:PGs X es u)
    (hs:(assignEach (e :: es) X.env).map (·.2)=assign e X.env :: (assignEach es X.env).map (·.2):=by rfl):PGs X (e :: es) (gCons t u):=by
  intro pins s σ H vs us Q I r h
  obtain ⟨v,vr,e1,h⟩:=h
  subst e1
  cases r with
  | cons r rr =>
    rw [hs]
    refine assignInOrder_cons (thn (h1 pins s σ H _ _ _ I r h) fun _ s1 ⟨σ1,H1,I1,q1⟩=>?_)
    exact h2 pins s1 σ1 H1 _ _ Q I1 rr q1
def gTup (K:PySem.W.Frag) (n:Nat) (t:TGs):TG:=fun v σ H Q=>∃ a xs,v=.ref a/\SqT K H a xs/\xs.length=n/\t xs σ H Q
theorem pg_tup {es:List Expr} {k:Nat} {t:TGs} {n:Nat} (hc:X.calm=true) (h:PGs X es t)
    (hn:(assignEach es X.env).length=n:=by rfl) (hst:(assignEach es X.env).findIdx? (·.1)=none:=by rfl):PG X (.Tuple es k pos) (gTup X.K n t):=by
  intro pins s σ H v u Q I r hw
  obtain ⟨a,xs,e1,hq,hl,hw⟩:=hw
  subst e1
  cases r
  obtain ⟨its,rv,ht,hz⟩:=I.tuple hq
  refine assign_Tuple_tuple (I.ok.hd hc) ht (by simp [hn,<- hl,rv.length]) hst fun h' hx=>?_
  have I1:Inv X pins σ H { s with heap:=h' }:=I.kept (t':=s.toks) fun b o e=>hx b o (Nat.ne_of_lt (Heap.lt_size e)) e
  exact h pins _ σ H xs _ Q I1 (by simpa using rv) hw
def gSub (to ti:TE) (t:TSet):TG:=fun v σ H Q=>to σ H fun o H1=>ti σ H1 fun i H2=>t o i v H2 fun H3=>Q σ H3
theorem pg_sub {o i:Expr} {to ti:TE} {t:TSet} (ho:PE X o to) (hi:PE X i ti) (hs:PSet X t)
    (ha:∀ v,assign (.Subscript o i pos) X.env v=(do
      let ov <- holding [v] (eval o X.env)
      let iv <- holding [v,ov] (eval i X.env)
      standAt pos
      holding [v,ov,iv] (setItem ov iv v)
      release [v,ov,iv] []):=by intro _;rfl):PG X (.Subscript o i pos) (gSub to ti t):=by
  intro pins s σ H v u Q I r h
  rw [ha]
  refine wpAny_bind (wpAny_holding (thn (ho pins s σ H _ I h) fun ov s1 ⟨x,H1,I1,r1,q1⟩=>?_))
  refine wpAny_bind (wpAny_holding (thn (hi pins s1 σ H1 _ I1 q1) fun iv s2 ⟨y,H2,I2,r2,q2⟩=>?_))
  refine wpAny_bind (wpAny_standAt (wpAny_bind (wpAny_holding (thn (hs pins s2 σ H2 x y v ov iv u _ I2 r1 r2 r q2) fun _ s3 ⟨H3,I3,q3⟩=>?_))))
  exact wpAny_release ⟨σ,H3,I3,q3⟩
def tAsg (te:TE) (g:TG):TS:=fun D σ H=>te σ H fun x H1=>g x σ H1 D.nx
theorem ps_asg {tg e:Expr} {te:TE} {g:TG} (he:PE X e te) (hg:PG X tg g) (hs:swapsWithSole [tg] e pos.line X.env=pure false:=by rfl) (hw:swappedStores [tg] e X.env=pure none:=by rfl)
    (h1:(assignEach [tg] X.env).map (·.2)=[assign tg X.env]:=by rfl):PS X (.Assign [tg] e pos) (tAsg te g):=by
  intro pins s σ H D I h
  refine wpAny_Assign_stores (thn (he pins s σ H _ I h) fun v s1 ⟨x,H1,I1,r1,q1⟩=>?_) hs hw
  rw [h1]
  exact thn (hg pins s1 σ H1 x v _ I1 r1 q1) fun _ s2 q=>q
theorem ps_set {i:Nat} {x:Str} {e:Expr} {te:TE} {pos':Pos} (hN:X.N.Nodup) (hi:X.N[i]?=some x) (hx:Loc X.env.scope x) (he:PE X e te) (hs:swapsWith e (some (.Name x pos')) pos.line X.env=pure false:=by rfl) (hf:X.fn x=true ∨ X.env.scope.names.lookup x=some .local:=by first | exact .inl rfl | exact .inr rfl | assumption) :
    PS X (.Assign [.Name x pos'] e pos) (tAsg te (gName i)):=by
  intro pins s σ H D I h
  refine wpAny_Assign_Name (thn (he pins s σ H _ I h) fun v s1 ⟨y,H1,I1,r1,q1⟩=>?_) hs
  exact store_ok I1 hN hi hx r1 (fun s2 I2=>⟨_,H1,I2,q1⟩) hf
end
section
variable {X:Cx} {pos:Pos}
end
structure It where
  go:Nat->Hp->Prop
  yld:Nat->Hp->V->Hp->Prop
  stop:Nat->Hp->Prop
def FpOk (X:Cx) (pins:List (Addr × Obj)) (H:Hp) (b:Addr):Prop :=
  H b=none/\b ≠ X.env.locals/\b ∉ X.fs/\(b ∈ X.ex ∨ X.s₀.heap.objs.size <= b)/\(∀ x c,X.env.cells.lookup x=some c->c ≠ b)/\∀ p ∈ X.pn ++ pins,p.1 ≠ b
theorem Inv.fpOk {X:Cx} {pins:List (Addr × Obj)} {σ:St} {H H':Hp} {s:Shared} {b:Addr} (I:Inv X pins σ H s) (hb:s.heap.objs.size <= b) (hn:H' b=none):FpOk X pins H' b:=by
  refine ⟨hn,Nat.ne_of_gt (Nat.lt_of_lt_of_le I.lt hb),I.nofs hb,.inr (Nat.le_trans I.sz hb),fun x c e z=>?_,fun p hp z=>?_⟩
  · obtain ⟨v,q⟩:=I.cell x c e
    exact absurd (Nat.lt_of_lt_of_le q.lt (by rw [z];exact hb)) (Nat.lt_irrefl _)
  · exact absurd (Nat.lt_of_lt_of_le (Heap.lt_size (I.pin p hp).1) (by rw [z];exact hb)) (Nat.lt_irrefl _)
structure Turn (P:Program) (w:World) (K:PySem.W.Frag) (tg:Expr) (J:It) (fp:List Addr) (it:Addr) (tn:Nat->Heap->Prop):Prop where
  mem:it ∈ fp
  obj:∀ i h,tn i h->∀ b ∈ fp,∃ o,h.get? b=some o/\∀ v,o.data ≠ .cell v
  keep:∀ i h h',tn i h->(∀ b ∈ fp,∀ o,h.get? b=some o->h'.get? b=some o)->tn i h'
  item:∀ (X:Cx),X.prog=P->X.w=w->X.K=K->X.calm=true->∀ (i:Nat) (pins:List (Addr × Obj)) (s:Shared) (σ:St) (H:Hp) (E:Value->Shared->Prop),Inv X pins σ H s->(∀ b ∈ fp,FpOk X pins H b)->tn i s.heap->J.go i H ->
    wpAny (model P w) X.A (pyNext (.ref it)) (fun r s1=>∃ u,r=some u /\
      wpAny (model P w) X.A (letOwnedTupleGo tg (.ref it) u) (fun _ s2=>∃ x H',Inv X pins σ H' s2/\RelV x u/\J.yld i H x H'/\tn (i + 1) s2.heap/\∀ b ∈ fp,H' b=none) E s1) E s
  done:∀ (X:Cx),X.prog=P->X.w=w->X.K=K->X.calm=true->∀ (i:Nat) (pins:List (Addr × Obj)) (s:Shared) (σ:St) (H:Hp) (E:Value->Shared->Prop),Inv X pins σ H s->(∀ b ∈ fp,FpOk X pins H b)->tn i s.heap->J.stop i H ->
    wpAny (model P w) X.A (pyNext (.ref it)) (fun r s1=>r=none/\Inv X pins σ H s1) E s
  self:∀ (A:Around) (i:Nat) (s:Shared) (Q:Value->Shared->Prop) (E:Value->Shared->Prop),tn i s.heap->Q (.ref it) s->wpAny (model P w) A (pyIter (.ref it)) Q E s
abbrev TI:=St->Hp->(It->Hp->Prop)->Prop
def PIE (X:Cx) (pins:List (Addr × Obj)) (σ:St) (tg:Expr) (R:It->Hp->Prop) (itv:Value) (s2:Shared):Prop :=
  ∃ (it:Addr) (fp:List Addr) (tn:Nat->Heap->Prop) (J:It) (H':Hp),itv=.ref it/\Inv X pins σ H' s2/\Turn X.prog X.w X.K tg J fp it tn/\tn 0 s2.heap/\(∀ b ∈ fp,FpOk X pins H' b)/\R J H'
def PI (X:Cx) (tg iter:Expr) (wi:TI):Prop :=
  ∀ (pins:List (Addr × Obj)) (s:Shared) (σ:St) (H:Hp) (R:It->Hp->Prop),Inv X pins σ H s->wi σ H R ->
    wpAny (model X.prog X.w) X.A (eval iter X.env) (fun v s1=>wpAny (model X.prog X.w) X.A (pyIter v) (PIE X pins σ tg R) X.xe s1) X.xe s
theorem go_of {M:Model} {A:Around} {E:Value->Shared->Prop} {s:Shared} {tg:Expr} {it:Addr} {u:Value} {o:Obj} {n:String} {vs:Array Value} {Q:Unit->Shared->Prop} (ho:s.heap.get? it=some o) (hc:o.cls=.type n) (hd:o.data=.fields vs)
    (hn:["enumerate","zip","dict_itemiterator","dict_reverseitemiterator","odict_iterator","itertools.zip_longest","itertools.pairwise"].contains n=false) (hQ:Q () s):wpAny M A (letOwnedTupleGo tg (.ref it) u) Q E s:=by
  unfold letOwnedTupleGo
  cases tg <;> first
    | exact wpAny_pure hQ
    | (cases u <;> first
        | exact wpAny_pure hQ
        | (refine wpAny_bind (wpAny_load ho ?_)
           rw [hc,hd]
           show wpAny M A (if (["enumerate","zip","dict_itemiterator","dict_reverseitemiterator","odict_iterator","itertools.zip_longest","itertools.pairwise"].contains n && vs[0]? == some (rawInt _))=true then _ else _) Q E s
           rw [if_neg (by intro h;rw [hn,Bool.false_and] at h;cases h)]
           exact wpAny_pure hQ))
def Itl (K:PySem.W.Frag) (a:Addr):It :=
  ⟨fun i H=>∃ xs x,SqL K H a xs/\xs[i]?=some x,fun i H x H'=>H'=H/\∀ xs,SqL K H a xs->xs[i]?=some x,fun i H=>∃ xs,SqL K H a xs/\xs.length <= i⟩
def Itt (K:PySem.W.Frag) (a:Addr):It :=
  ⟨fun i H=>∃ xs x,SqT K H a xs/\xs[i]?=some x,fun i H x H'=>H'=H/\∀ xs,SqT K H a xs->xs[i]?=some x,fun i H=>∃ xs,SqT K H a xs/\xs.length <= i⟩
def Itr (lo:Int) (n:Nat):It:=⟨fun i _=>i < n,fun i H x H'=>H'=H/\x=.int (lo + i),fun i _=>n <= i⟩
theorem turn_list {P:Program} {w:World} {K:PySem.W.Frag} {tg:Expr} (a it:Addr):Turn P w K tg (Itl K a) [it] it (fun i h=>h.IsListIter it a i) where
  mem:=by simp
  obj:=fun i h st b hb=>by
    have e:b=it:=by simpa using hb
    subst e
    obtain ⟨o,e,c,d⟩:=st
    exact ⟨o,e,fun v z=>by rw [d] at z;cases z⟩
  keep:=fun i h h' st k=>st.at fun o e=>k it (by simp) o e
  item:=by
    intro X hP hw hK hc i pins s σ H E I hf st hg
    subst hP hw hK
    obtain ⟨xs,x,hq,hx⟩:=hg
    obtain ⟨its,rv,p,hz⟩:=I.list hq
    obtain ⟨u,hu,ru⟩:=rv.get hx
    obtain ⟨f0,f1,f2,f3,f4,f5⟩:=hf it (by simp)
    refine wpAny_pyNext_list_item st p.isList (x:=u) (by simpa using hu) fun h' st' sb=>?_
    have I1:Inv X pins σ H { s with heap:=h' }:=I.turned (t':=s.toks) (fun b o hb e=>(sb.2 b hb).trans e) f0 f1 f3 f4 f5
    obtain ⟨o,e,c,d⟩:=id st'
    exact ⟨u,rfl,go_of (s:={ s with heap:=h' }) e c d (by decide) ⟨x,H,I1,ru,⟨rfl,fun ys hy=>by rw [I.list_inj hy hq];exact hx⟩,st',fun b hb=>(hf b hb).1⟩⟩
  done:=by
    intro X hP hw hK hc i pins s σ H E I hf st hg
    subst hP hw hK
    obtain ⟨xs,hq,hx⟩:=hg
    obtain ⟨its,rv,p,hz⟩:=I.list hq
    obtain ⟨f0,f1,f2,f3,f4,f5⟩:=hf it (by simp)
    have hl:=rv.length
    exact wpAny_pyNext_list_end (I.ok.hd hc) st p.isList (by simp;omega) fun h' eb=>⟨rfl,I.turned (t':=s.toks) (fun b o hb e=>eb b o hb e) f0 f1 f3 f4 f5⟩
  self:=fun _ _ _ _ _ st h=>wpAny_pyIter_listiter st h
theorem turn_tuple {P:Program} {w:World} {K:PySem.W.Frag} {tg:Expr} (a it:Addr):Turn P w K tg (Itt K a) [it] it (fun i h=>h.IsTupleIter it a i) where
  mem:=by simp
  obj:=fun i h st b hb=>by
    have e:b=it:=by simpa using hb
    subst e
    obtain ⟨o,e,c,d⟩:=st
    exact ⟨o,e,fun v z=>by rw [d] at z;cases z⟩
  keep:=fun i h h' st k=>st.at fun o e=>k it (by simp) o e
  item:=by
    intro X hP hw hK hc i pins s σ H E I hf st hg
    subst hP hw hK
    obtain ⟨xs,x,hq,hx⟩:=hg
    obtain ⟨its,rv,p,hz⟩:=I.tuple hq
    obtain ⟨u,hu,ru⟩:=rv.get hx
    obtain ⟨f0,f1,f2,f3,f4,f5⟩:=hf it (by simp)
    refine wpAny_pyNext_tuple_item st (show s.heap.IsTuple a its.toArray from p) (x:=u) (by simpa using hu) fun h' st' sb=>?_
    have I1:Inv X pins σ H { s with heap:=h' }:=I.turned (t':=s.toks) (fun b o hb e=>(sb.2 b hb).trans e) f0 f1 f3 f4 f5
    obtain ⟨o,e,c,d⟩:=id st'
    exact ⟨u,rfl,go_of (s:={ s with heap:=h' }) e c d (by decide) ⟨x,H,I1,ru,⟨rfl,fun ys hy=>by rw [I.tuple_inj hy hq];exact hx⟩,st',fun b hb=>(hf b hb).1⟩⟩
  done:=by
    intro X hP hw hK hc i pins s σ H E I hf st hg
    subst hP hw hK
    obtain ⟨xs,hq,hx⟩:=hg
    obtain ⟨its,rv,p,hz⟩:=I.tuple hq
    obtain ⟨f0,f1,f2,f3,f4,f5⟩:=hf it (by simp)
    have hl:=rv.length
    exact wpAny_pyNext_tuple_end (I.ok.hd hc) st (show s.heap.IsTuple a its.toArray from p) (by simp;omega) fun h' eb=>⟨rfl,I.turned (t':=s.toks) (fun b o hb e=>eb b o hb e) f0 f1 f3 f4 f5⟩
  self:=fun _ _ _ _ _ st h=>wpAny_pyIter_tupleiter st h
theorem turn_range {P:Program} {w:World} {K:PySem.W.Frag} {tg:Expr} (it:Addr) (lo:Int) (n:Nat):Turn P w K tg (Itr lo n) [it] it (fun i h=>IsRangeIter h it (lo + (i:Nat) * 1) ((n:Int) - (i:Nat)) 1) where
  mem:=by simp
  obj:=fun i h st b hb=>by
    have e:b=it:=by simpa using hb
    subst e
    exact ⟨_,st,fun v z=>by
      have z':Data.fields _=Data.cell v:=z
      cases z'⟩
  keep:=fun i h h' st k=>k it (by simp) _ st
  item:=by
    intro X hP hw hK hc i pins s σ H E I hf st hg
    subst hP hw hK
    obtain ⟨f0,f1,f2,f3,f4,f5⟩:=hf it (by simp)
    have W:=Walks.range (prog:=X.prog) (w:=X.w) (I.ok.hd hc) it lo 1 n
    refine W.item i s _ _ hg st fun v h' tk hv st' kk=>?_
    obtain ⟨t,rfl⟩:=hv
    have I1:Inv X pins σ H { s with heap:=h',toks:=tk }:=I.turned (fun b o hb e=>kk b o (by simpa using hb) e) f0 f1 f3 f4 f5
    refine ⟨_,rfl,go_of (s:={ s with heap:=h',toks:=tk }) (n:="range_iterator") st' rfl rfl (by decide) ⟨.int (lo + i),H,I1,⟨t,?_⟩,⟨rfl,rfl⟩,st',fun b hb=>(hf b hb).1⟩⟩
    rw [Int.mul_one]
  done:=by
    intro X hP hw hK hc i pins s σ H E I hf st hg
    subst hP hw hK
    obtain ⟨f0,f1,f2,f3,f4,f5⟩:=hf it (by simp)
    exact wpAny_pyNext_range_end (I.ok.hd hc) st (by have:n <= i:=hg;omega) fun h' eb=>⟨rfl,I.turned (t':=s.toks) (fun b o hb e=>eb b o hb e) f0 f1 f3 f4 f5⟩
  self:=fun _ _ _ _ _ st h=>wpAny_pyIter_rangeiter st h
end L2
namespace L2
open PySem PySem.Spec PyProof.Rows
section
variable {X:Cx} {tg:Expr}
def iList (K:PySem.W.Frag) (tl:TE):TI:=fun σ H R=>tl σ H fun x H1=>∃ a,x=.ref a/\(∃ xs,SqL K H1 a xs)/\R (Itl K a) H1
def iTup (K:PySem.W.Frag) (tl:TE):TI:=fun σ H R=>tl σ H fun x H1=>∃ a,x=.ref a/\(∃ xs,SqT K H1 a xs)/\R (Itt K a) H1
theorem pi_list {l:Expr} {tl:TE} (hl:PE X l tl):PI X tg l (iList X.K tl):=by
  intro pins s σ H R I h
  refine thn (hl pins s σ H _ I h) fun v s1 ⟨x,H1,I1,r1,q1⟩=>?_
  obtain ⟨a,e,⟨xs,hq⟩,q⟩:=q1
  subst e
  cases r1
  obtain ⟨its,rv,p,hz⟩:=I1.list hq
  refine wpAny_pyIter_list p.isList ?_
  refine ⟨s1.heap.objs.size,[s1.heap.objs.size],_,_,H1,rfl,I1.kept (t':=s1.toks) fun b o e=>Heap.get?_push_of_some _ e,turn_list a _,⟨_,Heap.get?_push_size _ rfl,rfl,rfl⟩,fun b hb=>?_,q⟩
  have e:b=s1.heap.objs.size:=by simpa using hb
  subst e
  exact I1.fpOk (Nat.le_refl _) (I1.hok.fresh (Nat.le_refl _))
theorem pi_tup {l:Expr} {tl:TE} (hl:PE X l tl):PI X tg l (iTup X.K tl):=by
  intro pins s σ H R I h
  refine thn (hl pins s σ H _ I h) fun v s1 ⟨x,H1,I1,r1,q1⟩=>?_
  obtain ⟨a,e,⟨xs,hq⟩,q⟩:=q1
  subst e
  cases r1
  obtain ⟨its,rv,p,hz⟩:=I1.tuple hq
  refine wpAny_pyIter_tuple (show s1.heap.IsTuple a its.toArray from p) ?_
  refine ⟨s1.heap.objs.size,[s1.heap.objs.size],_,_,H1,rfl,I1.kept (t':=s1.toks) fun b o e=>Heap.get?_push_of_some _ e,turn_tuple a _,⟨_,Heap.get?_push_size _ rfl,rfl,rfl⟩,fun b hb=>?_,q⟩
  have e:b=s1.heap.objs.size:=by simpa using hb
  subst e
  exact I1.fpOk (Nat.le_refl _) (I1.hok.fresh (Nat.le_refl _))
theorem range_it {pins:List (Addr × Obj)} {σ:St} {H:Hp} {s:Shared} {R:It->Hp->Prop} {E:Value->Shared->Prop} {lo hi:Int} {t u v:Tok} {tk:Nat} (I:Inv X pins σ H s) (h1:-(2 ^ 62) <= lo) (h2:lo < 2 ^ 62) (h3:-(2 ^ 62) <= hi) (h4:hi < 2 ^ 62)
    (q:R (Itr lo (hi - lo).toNat) H):wpAny (model X.prog X.w) X.A (pyIter (.ref s.heap.objs.size)) (PIE X pins σ tg R) E { s with heap:=s.heap.push { cls:=.type "range",data:=.fields #[.int lo t,.int hi u,.int 1 v] },toks:=tk }:=by
  refine wpAny_pyIter_range (IsRange.new ..) (small_one h1 h2 h3 h4) ?_
  have I1:Inv X pins σ H { s with heap:=s.heap.push { cls:=.type "range",data:=.fields #[.int lo t,.int hi u,.int 1 v] },toks:=tk }:=I.kept fun b o e=>Heap.get?_push_of_some _ e
  refine ⟨(s.heap.push { cls:=.type "range",data:=.fields #[.int lo t,.int hi u,.int 1 v] }).objs.size,[(s.heap.push { cls:=.type "range",data:=.fields #[.int lo t,.int hi u,.int 1 v] }).objs.size],_,_,H,rfl,
    I1.kept (t':=tk) fun b o e=>Heap.get?_push_of_some _ e,turn_range _ lo (hi - lo).toNat,?_,fun b hb=>?_,q⟩
  · have e1:lo + ((0:Nat):Int) * 1=lo:=by simp
    have e2:(((hi - lo).toNat:Nat):Int) - ((0:Nat):Int)=Builtin.Range.rangeSize lo hi 1:=by rw [rangeSize_one];split <;> omega
    show IsRangeIter _ _ (lo + ((0:Nat):Int) * 1) ((((hi - lo).toNat:Nat):Int) - ((0:Nat):Int)) 1
    rw [e1,e2]
    exact Heap.get?_push_size _ rfl
  · have e:b=(s.heap.push { cls:=.type "range",data:=.fields #[.int lo t,.int hi u,.int 1 v] }).objs.size:=by simpa using hb
    subst e
    exact I1.fpOk (Nat.le_refl _) (I1.hok.fresh (Nat.le_refl _))
def iRng1 (ta:TA):TI:=fun σ H R=>ta σ H fun vs H1=>∃ j:Int,vs=[.int j]/\-(2 ^ 62) <= j/\j < 2 ^ 62/\R (Itr 0 j.toNat) H1
theorem pi_range1 {a:Expr} {ta:TA} {p pos:Pos} (hg:Gl X "range") (hm:X.mg "range"=none) (ha:PA X [a] ta) (hs:starEach [a] X.env=[(false,eval a X.env)]:=by rfl):PI X tg (.Call (.Name "range" p) [a] [] pos) (iRng1 ta):=by
  intro pins s σ H R I h
  refine Call_ (ld_blt I hg hm boot_range (PyProof.Rows.callWith_type1 (thn (ha pos pins s σ H _ I h) fun us s1 ⟨vs,H1,I1,r1,q1⟩=>?_) hs rfl))
  obtain ⟨j,e,q1,q2,q⟩:=q1
  subst e
  cases r1 with
  | cons r rr =>
    cases rr
    obtain ⟨t,rfl⟩:=r
    exact call_range_1 (range_it I1 (by omega) (by omega) q1 q2 (by simpa using q))
def tFor (wi:TI) (g:TG) (tb:TS):TS:=fun D σ H=>wi σ H fun J H1=>∃ W:Nat->Nat->St->Hp->Prop,(∃ m,W 0 m σ H1)/\∀ i m σ H,W i m σ H ->
  (J.stop i H/\D.nx σ H) ∨ (J.go i H/\∃ N:St->Hp->Prop,(∀ σ' H',N σ' H'->∃ m',m' < m/\W (i + 1) m' σ' H')/\∀ x H',J.yld i H x H'->g x σ H' fun σ2 H2=>tb { D with nx:=N,ct:=N,bk:=D.nx } σ2 H2)
def pinsAt (fp:List Addr) (h:Heap):List (Addr × Obj):=fp.filterMap fun b=>(h.get? b).map fun o=>(b,o)
theorem mem_pinsAt {fp:List Addr} {h:Heap} {b:Addr} {o:Obj} (hb:b ∈ fp) (e:h.get? b=some o):(b,o) ∈ pinsAt fp h:=List.mem_filterMap.mpr ⟨b,hb,by rw [e];rfl⟩
theorem of_pinsAt {fp:List Addr} {h:Heap} {p:Addr × Obj} (hp:p ∈ pinsAt fp h):p.1 ∈ fp/\h.get? p.1=some p.2:=by
  obtain ⟨b,hb,e⟩:=List.mem_filterMap.mp hp
  cases q:h.get? b with
  | none=>rw [q] at e;cases e
  | some o =>
    rw [q] at e
    have e':(b,o)=p:=Option.some.inj e
    subst e'
    exact ⟨hb,q⟩
theorem Inv.pinned {pins:List (Addr × Obj)} {σ:St} {H:Hp} {s:Shared} {fp:List Addr} (I:Inv X pins σ H s) (hf:∀ b ∈ fp,FpOk X pins H b) (ho:∀ b ∈ fp,∃ o,s.heap.get? b=some o/\∀ v,o.data ≠ .cell v):Inv X (pins ++ pinsAt fp s.heap) σ H s :=
  I.pins_of fun p hp=>(List.mem_append.mp hp).elim (fun z=>I.pin p (List.mem_append_right _ z)) fun z=>by
    obtain ⟨hb,e⟩:=of_pinsAt z
    obtain ⟨f0,f1,f2,_⟩:=hf p.1 hb
    obtain ⟨o,e',d⟩:=ho p.1 hb
    rw [e] at e';cases e'
    exact ⟨e,f0,f1,f2,d⟩
theorem Inv.unpinned {pins pl:List (Addr × Obj)} {σ:St} {H:Hp} {s:Shared} (I:Inv X (pins ++ pl) σ H s):Inv X pins σ H s:=I.pins_of fun p hp=>I.pin p (List.mem_append_right _ (List.mem_append_left _ hp))
theorem ps_for {iter:Expr} {body:List Stmt} {wi:TI} {g:TG} {tb:TS} {pos:Pos} (hp:PassesOwn (model X.prog X.w) X.A X.env X.xe) (hc:X.calm=true) (hi:PI X tg iter wi) (hg:PG X tg g) (hb:PSs X body tb)
    (hs:∀ x,foldedSetIterable iter X.env x=pure x:=by intro _;rfl):PS X (.For tg iter body [] pos) (tFor wi g tb):=by
  intro pins s σ H D I h
  refine wpAny_For (thn (hi pins s σ H _ I h) fun v s1 h1=>thn h1 fun itv s2 h2=>?_) hs
  obtain ⟨it,fp,tn,J,H2,e,I2,T,st2,f2,W,⟨m0,w0⟩,turn⟩:=h2
  subst e
  have stat:∀ {H':Hp},(∀ b ∈ fp,H' b=none)->∀ b ∈ fp,FpOk X pins H' b:=fun hn b hb=>⟨hn b hb,(f2 b hb).2⟩
  refine codeAny_forLoop_any (fun n s'=>∃ i σ' H',Inv X pins σ' H' s'/\tn i s'.heap/\(∀ b ∈ fp,H' b=none)/\W i n σ' H') ?_ m0 ⟨0,σ,H2,I2,st2,fun b hb=>(f2 b hb).1,w0⟩
  rintro n s3 ⟨i,σ3,H3,I3,st3,fr3,w3⟩
  rcases turn i n σ3 H3 w3 with ⟨stop,qn⟩ | ⟨go,N,hN,step⟩
  · refine wpAny_passesOwn hp (thn (T.done X rfl rfl rfl hc i pins s3 σ3 H3 X.xe I3 (stat fr3) st3 stop) fun r s4 ⟨hr,I4⟩=>?_)
    subst hr
    exact wpAny_execs_nil ⟨σ3,H3,I4,qn⟩
  · refine wpAny_passesOwn hp (thn (T.item X rfl rfl rfl hc i pins s3 σ3 H3 X.xe I3 (stat fr3) st3 go) fun r s4 ⟨u,hr,h4⟩=>?_)
    subst hr
    refine wpAny_passesOwn hp (thn h4 fun _ s5 ⟨x,H5,I5,r5,y5,st5,fr5⟩=>?_)
    have I5':=I5.pinned (stat fr5) (T.obj _ _ st5)
    refine wpAny_passesOwn hp (thn (hg _ s5 σ3 H5 x u _ I5' r5 (step x H5 y5)) fun _ s6 ⟨σ6,H6,I6,q6⟩=>?_)
    refine wpAny_passesOwn hp (thn (hb _ s6 σ6 H6 _ I6 q6) fun f s7 q7=>?_)
    have again:∀ {σ7:St} {H7:Hp},Inv X (pins ++ pinsAt fp s5.heap) σ7 H7 s7->N σ7 H7->∃ m,m < n/\∃ i σ' H',Inv X pins σ' H' s7/\tn i s7.heap/\(∀ b ∈ fp,H' b=none)/\W i m σ' H':=fun {σ7 H7} I7 n7=>by
      obtain ⟨m',hm,w7⟩:=hN σ7 H7 n7
      refine ⟨m',hm,i + 1,σ7,H7,I7.unpinned,T.keep _ _ _ st5 fun b hb o e=>(I7.pin (b,o) (List.mem_append_right _ (List.mem_append_right _ (mem_pinsAt hb e)))).1,fun b hb=>?_,w7⟩
      obtain ⟨o,e,d⟩:=T.obj _ _ st5 b hb
      exact (I7.pin (b,o) (List.mem_append_right _ (List.mem_append_right _ (mem_pinsAt hb e)))).2.1
    cases f with
    | next=>obtain ⟨σ7,H7,I7,n7⟩:=q7;exact again I7 n7
    | cont=>obtain ⟨σ7,H7,I7,n7⟩:=q7;exact again I7 n7
    | brk=>obtain ⟨σ7,H7,I7,q7⟩:=q7;exact ⟨σ7,H7,I7.unpinned,q7⟩
    | ret v=>obtain ⟨x7,σ7,H7,I7,r7,q7⟩:=q7;exact ⟨x7,σ7,H7,I7.unpinned,r7,q7⟩
end
theorem for_tup {K:PySem.W.Frag} {a:Addr} {xs:List V} {g:TG} {tb:TS} {D:Ends} {σ:St} {H:Hp} (Pv:Nat->St->Hp->Prop) (h0:Pv 0 σ H) (hl:∀ i σ H,i <= xs.length->Pv i σ H->SqT K H a xs)
    (hs:∀ i x σ H,xs[i]?=some x->Pv i σ H->g x σ H fun σ2 H2=>tb { D with nx:=Pv (i + 1),ct:=Pv (i + 1),bk:=D.nx } σ2 H2) (hd:∀ σ H,Pv xs.length σ H->D.nx σ H) :
    ∃ W:Nat->Nat->St->Hp->Prop,(∃ m,W 0 m σ H)/\∀ i m σ H,W i m σ H ->
      ((Itt K a).stop i H/\D.nx σ H) ∨ ((Itt K a).go i H/\∃ N:St->Hp->Prop,(∀ σ' H',N σ' H'->∃ m',m' < m/\W (i + 1) m' σ' H')/\∀ x H',(Itt K a).yld i H x H'->g x σ H' fun σ2 H2=>tb { D with nx:=N,ct:=N,bk:=D.nx } σ2 H2):=by
  refine ⟨fun i m σ H=>m=xs.length - i/\i <= xs.length/\Pv i σ H,⟨xs.length,by simp,Nat.zero_le _,h0⟩,?_⟩
  rintro i m σ H ⟨rfl,hi,p⟩
  have q:=hl i σ H hi p
  by_cases hlt:i < xs.length
  · refine .inr ⟨⟨xs,xs[i],q,by simp [hlt]⟩,Pv (i + 1),fun σ' H' p'=>⟨xs.length - (i + 1),by omega,rfl,hlt,p'⟩,fun x H' y=>?_⟩
    obtain ⟨e,y⟩:=y
    subst e
    exact hs i x σ _ (y xs q) p
  · have e:i=xs.length:=by omega
    subst e
    exact .inl ⟨⟨xs,q,Nat.le_refl _⟩,hd σ H p⟩
theorem for_range {lo:Int} {n:Nat} {g:TG} {tb:TS} {D:Ends} {σ:St} {H:Hp} (Pv:Nat->St->Hp->Prop) (h0:Pv 0 σ H)
    (hs:∀ i σ H,i < n->Pv i σ H->g (.int (lo + i)) σ H fun σ2 H2=>tb { D with nx:=Pv (i + 1),ct:=Pv (i + 1),bk:=D.nx } σ2 H2) (hd:∀ σ H,Pv n σ H->D.nx σ H) :
    ∃ W:Nat->Nat->St->Hp->Prop,(∃ m,W 0 m σ H)/\∀ i m σ H,W i m σ H ->
      ((Itr lo n).stop i H/\D.nx σ H) ∨ ((Itr lo n).go i H/\∃ N:St->Hp->Prop,(∀ σ' H',N σ' H'->∃ m',m' < m/\W (i + 1) m' σ' H')/\∀ x H',(Itr lo n).yld i H x H'->g x σ H' fun σ2 H2=>tb { D with nx:=N,ct:=N,bk:=D.nx } σ2 H2):=by
  refine ⟨fun i m σ H=>m=n - i/\i <= n/\Pv i σ H,⟨n,by simp,Nat.zero_le _,h0⟩,?_⟩
  rintro i m σ H ⟨rfl,hi,p⟩
  by_cases hlt:i < n
  · refine .inr ⟨hlt,Pv (i + 1),fun σ' H' p'=>⟨n - (i + 1),by omega,rfl,hlt,p'⟩,fun x H' y=>?_⟩
    obtain ⟨e,y⟩:=y
    subst e y
    exact hs i σ _ hlt p
  · have e:i=n:=by omega
    subst e
    exact .inl ⟨Nat.le_refl _,hd σ H p⟩
end L2
namespace L2
open PySem PySem.Spec PyProof.Rows
abbrev R2:=V->V->Hp->VK->Prop
def OpR (X:Cx) (f:Value->Value->Sem Value) (r:R2):Prop :=
  ∀ (pins:List (Addr × Obj)) (s:Shared) (σ:St) (H:Hp) (x y:V) (v u:Value) (Q:VK),Inv X pins σ H s->RelV x v->RelV y u->r x y H Q ->
    wpAny (model X.prog X.w) X.A (f v u) (EP X pins σ Q) X.xe s
def UnR (X:Cx) (f:Value->Sem Value) (r:V->Hp->VK->Prop):Prop :=
  ∀ (pins:List (Addr × Obj)) (s:Shared) (σ:St) (H:Hp) (x:V) (v:Value) (Q:VK),Inv X pins σ H s->RelV x v->r x H Q ->
    wpAny (model X.prog X.w) X.A (f v) (EP X pins σ Q) X.xe s
def CallR (X:Cx) (f:Value) (r:List V->Hp->VK->Prop):Prop :=
  ∀ (pins:List (Addr × Obj)) (s:Shared) (σ:St) (H:Hp) (xs:List V) (us:List Value) (Q:VK),Inv X pins σ H s->Vals xs us->r xs H Q ->
    wpAny (model X.prog X.w) X.A (call f us) (EP X pins σ Q) X.xe s
def tOp (r:R2) (ta tb:TE):TE:=fun σ H Q=>ta σ H fun x H1=>tb σ H1 fun y H2=>r x y H2 Q
def tUn (r:V->Hp->VK->Prop) (ta:TE):TE:=fun σ H Q=>ta σ H fun x H1=>r x H1 Q
def rI (C:Int->Int->Prop) (g:Int->Int->V):R2:=fun x y H Q=>∃ i j,x=.int i/\y=.int j/\C i j/\Q (g i j) H
def rI0 (g:Int->Int->V):R2:=fun x y H Q=>∃ i j,x=.int i/\y=.int j/\Q (g i j) H
def rU (g:Int->V):V->Hp->VK->Prop:=fun x H Q=>∃ i,x=.int i/\Q (g i) H
section
variable {X:Cx} {a b c:Expr} {ta tb tc:TE} {pos:Pos}
theorem binT (ha:PE X a ta) (hb:PE X b tb) {pins:List (Addr × Obj)} {s:Shared} {σ:St} {H:Hp} {R:V->V->Hp->Prop} (I:Inv X pins σ H s)
    (h:ta σ H fun x H1=>tb σ H1 fun y H2=>R x y H2) {Q:Value->Shared->Prop} {f:Value->Value->Sem Value}
    (hf:∀ v u s2 x y H2,Inv X pins σ H2 s2->RelV x v->RelV y u->R x y H2->wpAny (model X.prog X.w) X.A (f v u) Q X.xe s2) :
    wpAny (model X.prog X.w) X.A (eval a X.env) (fun v s₁=>wpAny (model X.prog X.w) X.A (eval b X.env) (fun u s₂=>wpAny (model X.prog X.w) X.A (f v u) Q X.xe s₂) X.xe s₁) X.xe s:=by
  refine thn (ha pins s σ H _ I h) fun v s1 ⟨x,H1,I1,r1,q1⟩=>?_
  refine thn (hb pins s1 σ H1 _ I1 q1) fun u s2 ⟨y,H2,I2,r2,q2⟩=>?_
  exact hf v u s2 x y H2 I2 r1 r2 q2
theorem pe_op {op:Operator} {r:R2} (ho:OpR X (binaryOp op) r) (ha:PE X a ta) (hb:PE X b tb):PE X (.BinOp a op b pos) (tOp r ta tb):=by
  intro pins s σ H Q I h
  exact wpAny_BinOp (binT ha hb I h fun v u s2 x y H2 I2 rx ry q=>ho pins s2 σ H2 x y v u Q I2 rx ry q)
theorem pe_un {op:UnaryOp} {r:V->Hp->VK->Prop} (ho:UnR X (unaryOp op) r) (ha:PE X a ta):PE X (.UnaryOp op a pos) (tUn r ta):=by
  intro pins s σ H Q I h
  exact UnaryOp_ (thn (ha pins s σ H _ I h) fun v s1 ⟨x,H1,I1,r1,q1⟩=>ho pins s1 σ H1 x v Q I1 r1 q1)
theorem opI {f:Value->Value->Sem Value} {C:Int->Int->Prop} {g:Int->Int->Int}
    (rule:∀ (i j:Int) (t u:Tok) (s:Shared) (Q:Value->Shared->Prop) (E:Value->Shared->Prop),C i j->Q (.int (g i j) s.toks) { s with toks:=s.toks + 1 }->wpAny (model X.prog X.w) X.A (f (.int i t) (.int j u)) Q E s) :
    OpR X f (rI C fun i j=>.int (g i j)):=by
  intro pins s σ H x y v u Q I rx ry h
  obtain ⟨i,j,rfl,rfl,hc,q⟩:=h
  obtain ⟨t,rfl⟩:=rx
  obtain ⟨t',rfl⟩:=ry
  exact rule i j t t' s _ _ hc ⟨.int (g i j),H,I.tok _,⟨_,rfl⟩,q⟩
theorem opI0 {f:Value->Value->Sem Value} {g:Int->Int->Int}
    (rule:∀ (i j:Int) (t u:Tok) (s:Shared) (Q:Value->Shared->Prop) (E:Value->Shared->Prop),Q (.int (g i j) s.toks) { s with toks:=s.toks + 1 }->wpAny (model X.prog X.w) X.A (f (.int i t) (.int j u)) Q E s) :
    OpR X f (rI0 fun i j=>.int (g i j)):=by
  intro pins s σ H x y v u Q I rx ry h
  obtain ⟨i,j,rfl,rfl,q⟩:=h
  obtain ⟨t,rfl⟩:=rx
  obtain ⟨t',rfl⟩:=ry
  exact rule i j t t' s _ _ ⟨.int (g i j),H,I.tok _,⟨_,rfl⟩,q⟩
theorem opB0 {f:Value->Value->Sem Value} {g:Int->Int->Bool}
    (rule:∀ (i j:Int) (t u:Tok) (s:Shared) (Q:Value->Shared->Prop) (E:Value->Shared->Prop),Q (.bool (g i j)) s->wpAny (model X.prog X.w) X.A (f (.int i t) (.int j u)) Q E s) :
    OpR X f (rI0 fun i j=>.bl (g i j)):=by
  intro pins s σ H x y v u Q I rx ry h
  obtain ⟨i,j,rfl,rfl,q⟩:=h
  obtain ⟨t,rfl⟩:=rx
  obtain ⟨t',rfl⟩:=ry
  exact rule i j t t' s _ _ ⟨.bl (g i j),H,I,rfl,q⟩
def CDiv (i j:Int):Prop:=0 < j/\j < 1073741824
def CPow (i j:Int):Prop:=0 <= j/\j <= 1000000/\i.natAbs < 2 ^ 64
def CMul (i j:Int):Prop:=(-(2 ^ 64) < i/\i < 2 ^ 64) ∨ (-(2 ^ 64) < j/\j < 2 ^ 64)
theorem CMul.ok {i j:Int} (h:CMul i j):IntMulOk i j:=by
  rcases h with ⟨h1,h2⟩ | ⟨h1,h2⟩
  · exact .of_left (intBits_le_64 h1 h2)
  · exact .of_right (intBits_le_64 h1 h2)
theorem op_add:OpR X (binaryOp .Add) (rI0 fun i j=>.int (i + j)):=opI0 fun _ _ _ _ _ _ _ q=>add_int q
theorem op_sub:OpR X (binaryOp .Sub) (rI0 fun i j=>.int (i - j)):=opI0 fun _ _ _ _ _ _ _ q=>sub_int q
theorem op_mul:OpR X (binaryOp .Mult) (rI CMul fun i j=>.int (i * j)):=opI fun _ _ _ _ _ _ _ hc q=>mul_int q hc.ok
theorem op_fdiv:OpR X (binaryOp .FloorDiv) (rI CDiv fun i j=>.int (i / j)):=opI fun i j _ _ _ _ _ hc q=>by
  have h1:(0:Int) < j:=hc.1
  have h2:j < 1073741824:=hc.2
  exact floordiv_int (by omega) (by rw [Int.fdiv_eq_ediv_of_nonneg i (by omega)];exact q) (.inl (PyProof.noPylong_small (by omega)))
theorem op_mod:OpR X (binaryOp .Mod) (rI (fun _ j=>0 < j) fun i j=>.int (i % j)):=opI fun i j _ _ _ _ _ hc q=>by
  have h1:(0:Int) < j:=hc
  exact mod_int' (by omega) (by rw [Int.fmod_eq_emod_of_nonneg i (by omega)];exact q)
theorem op_pow:OpR X (binaryOp .Pow) (rI CPow fun i j=>.int (i ^ j.toNat)):=opI fun _ _ _ _ _ _ _ hc q=>pow_int_small hc.1 hc.2.1 hc.2.2 q
theorem unI {f:Value->Sem Value} {g:Int->Int}
    (rule:∀ (i:Int) (t:Tok) (s:Shared) (Q:Value->Shared->Prop) (E:Value->Shared->Prop),Q (.int (g i) s.toks) { s with toks:=s.toks + 1 }->wpAny (model X.prog X.w) X.A (f (.int i t)) Q E s) :
    UnR X f (rU fun i=>.int (g i)):=by
  intro pins s σ H x v Q I rx h
  obtain ⟨i,rfl,q⟩:=h
  obtain ⟨t,rfl⟩:=rx
  exact rule i t s _ _ ⟨.int (g i),H,I.tok _,⟨_,rfl⟩,q⟩
theorem un_neg:UnR X (unaryOp .USub) (rU fun i=>.int (-i)):=unI fun _ _ _ _ _ q=>neg_int q
end
def scal:V->V->Bool
  | .non,.non=>true | .non,.int _=>true | .int _,.non=>true | .non,.bl _=>true | .bl _,.non=>true | .non,.str _=>true | .str _,.non=>true
  | .int _,.int _=>true | .bl _,.bl _=>true | .str _,.str _=>true | .byt _,.byt _=>true
  | .int _,.str _=>true | .str _,.int _=>true | .bl _,.str _=>true | .str _,.bl _=>true
  | _,_=>false
def rEq:R2:=fun x y H Q=>scal x y=true/\Q (.bl (decide (x=y))) H
def rNe:R2:=fun x y H Q=>scal x y=true/\Q (.bl (!decide (x=y))) H
theorem dec_int {i j:Int}:decide (V.int i=V.int j)=(i == j):=by
  rw [Bool.eq_iff_iff]
  simp
theorem dec_bl {i j:Bool}:decide (V.bl i=V.bl j)=(i == j):=by
  rw [Bool.eq_iff_iff]
  simp
theorem dec_str {i j:Str}:decide (V.str i=V.str j)=(i == j):=by
  rw [Bool.eq_iff_iff]
  simp
theorem dec_byt {i j:Array UInt8}:decide (V.byt i=V.byt j)=(i.toList == j.toList):=by
  rw [Bool.eq_iff_iff]
  cases i
  cases j
  simp
section
variable {X:Cx} {a b c:Expr} {ta tb tc:TE} {pos:Pos}
theorem fin_bl {pins:List (Addr × Obj)} {σ:St} {H:Hp} {s:Shared} {Q:VK} {k k':Bool} (I:Inv X pins σ H s) (q:Q (.bl k) H) (e:k=k'):EP X pins σ Q (.bool k') s:=by
  subst e
  exact ⟨.bl k,H,I,rfl,q⟩
theorem op_eq:OpR X (compareOp .Eq) rEq:=by
  intro pins s σ H x y v u Q I rx ry h
  obtain ⟨hs,q⟩:=h
  cases x with
  | non =>
    cases rx
    cases y with
    | non=>cases ry;exact PySem.EqNone.eq_none_none (fin_bl I q (by simp))
    | bl j=>cases ry;exact PySem.EqNone.eq_none_bool (fin_bl I q (by simp))
    | int j=>obtain ⟨t',rfl⟩:=ry;exact PySem.EqNone.eq_none_int (fin_bl I q (by simp))
    | str j=>obtain ⟨t',rfl⟩:=ry;exact PySem.EqNone.eq_none_str (fin_bl I q (by simp))
    | _=>exact absurd (show false=true from hs) Bool.false_ne_true
  | bl i =>
    cases rx
    cases y with
    | non=>cases ry;exact PySem.EqNone.eq_bool_none (fin_bl I q (by simp))
    | bl j=>cases ry;exact eq_bool (fin_bl I q dec_bl)
    | str j=>obtain ⟨t',rfl⟩:=ry;exact PySem.EqMixed.eq_bool_str (fin_bl I q (by simp))
    | _=>exact absurd (show false=true from hs) Bool.false_ne_true
  | int i =>
    obtain ⟨t,rfl⟩:=rx
    cases y with
    | non=>cases ry;exact PySem.EqNone.eq_int_none (fin_bl I q (by simp))
    | int j=>obtain ⟨t',rfl⟩:=ry;exact eq_int (fin_bl I q dec_int)
    | str j=>obtain ⟨t',rfl⟩:=ry;exact PySem.EqMixed.eq_int_str (fin_bl I q (by simp))
    | _=>exact absurd (show false=true from hs) Bool.false_ne_true
  | str i =>
    obtain ⟨t,rfl⟩:=rx
    cases y with
    | non=>cases ry;exact PySem.EqNone.eq_str_none (fin_bl I q (by simp))
    | bl j=>cases ry;exact PySem.EqMixed.eq_str_bool (fin_bl I q (by simp))
    | int j=>obtain ⟨t',rfl⟩:=ry;exact PySem.EqMixed.eq_str_int (fin_bl I q (by simp))
    | str j=>obtain ⟨t',rfl⟩:=ry;exact eq_str (fin_bl I q dec_str)
    | _=>exact absurd (show false=true from hs) Bool.false_ne_true
  | byt i =>
    obtain ⟨t,rfl⟩:=rx
    cases y with
    | byt j=>obtain ⟨t',rfl⟩:=ry;exact PySem.W.eq_bytes (fin_bl I q dec_byt)
    | _=>exact absurd (show false=true from hs) Bool.false_ne_true
  | _=>cases y <;> exact absurd (show false=true from hs) Bool.false_ne_true
theorem op_ne:OpR X (compareOp .NotEq) rNe:=by
  intro pins s σ H x y v u Q I rx ry h
  obtain ⟨hs,q⟩:=h
  cases x with
  | non =>
    cases rx
    cases y with
    | non=>cases ry;exact PySem.EqNone.ne_none_none (fin_bl I q (by simp))
    | bl j=>cases ry;exact PySem.EqNone.ne_none_bool (fin_bl I q (by simp))
    | int j=>obtain ⟨t',rfl⟩:=ry;exact PySem.EqNone.ne_none_int (fin_bl I q (by simp))
    | str j=>obtain ⟨t',rfl⟩:=ry;exact PySem.EqNone.ne_none_str (fin_bl I q (by simp))
    | _=>exact absurd (show false=true from hs) Bool.false_ne_true
  | bl i =>
    cases rx
    cases y with
    | non=>cases ry;exact PySem.EqNone.ne_bool_none (fin_bl I q (by simp))
    | bl j=>cases ry;exact ne_bool (fin_bl I q (congrArg not dec_bl))
    | str j=>obtain ⟨t',rfl⟩:=ry;exact PySem.EqMixed.ne_bool_str (fin_bl I q (by simp))
    | _=>exact absurd (show false=true from hs) Bool.false_ne_true
  | int i =>
    obtain ⟨t,rfl⟩:=rx
    cases y with
    | non=>cases ry;exact PySem.EqNone.ne_int_none (fin_bl I q (by simp))
    | int j=>obtain ⟨t',rfl⟩:=ry;exact ne_int (fin_bl I q (congrArg not dec_int))
    | str j=>obtain ⟨t',rfl⟩:=ry;exact PySem.EqMixed.ne_int_str (fin_bl I q (by simp))
    | _=>exact absurd (show false=true from hs) Bool.false_ne_true
  | str i =>
    obtain ⟨t,rfl⟩:=rx
    cases y with
    | non=>cases ry;exact PySem.EqNone.ne_str_none (fin_bl I q (by simp))
    | bl j=>cases ry;exact PySem.EqMixed.ne_str_bool (fin_bl I q (by simp))
    | int j=>obtain ⟨t',rfl⟩:=ry;exact PySem.EqMixed.ne_str_int (fin_bl I q (by simp))
    | str j=>obtain ⟨t',rfl⟩:=ry;exact ne_str (fin_bl I q (congrArg not dec_str))
    | _=>exact absurd (show false=true from hs) Bool.false_ne_true
  | byt i =>
    obtain ⟨t,rfl⟩:=rx
    cases y with
    | byt j=>obtain ⟨t',rfl⟩:=ry;exact PySem.W.ne_bytes (fin_bl I q (congrArg not dec_byt))
    | _=>exact absurd (show false=true from hs) Bool.false_ne_true
  | _=>cases y <;> exact absurd (show false=true from hs) Bool.false_ne_true
theorem op_lt:OpR X (compareOp .Lt) (rI0 fun i j=>.bl (decide (i < j))):=opB0 fun _ _ _ _ _ _ _ q=>lt_int q
theorem op_le:OpR X (compareOp .LtE) (rI0 fun i j=>.bl (decide (i <= j))):=opB0 fun _ _ _ _ _ _ _ q=>le_int q
theorem op_gt:OpR X (compareOp .Gt) (rI0 fun i j=>.bl (decide (j < i))):=opB0 fun _ _ _ _ _ _ _ q=>gt_int q
theorem op_ge:OpR X (compareOp .GtE) (rI0 fun i j=>.bl (decide (j <= i))):=opB0 fun _ _ _ _ _ _ _ q=>ge_int q
theorem nomark (b:Expr) {op:CmpOp} (h:op ≠ .In:=by decide) (h2:op ≠ .NotIn:=by decide):behindInMarks op b=false:=by
  have e1:(op == CmpOp.In)=false:=by cases op <;> first | rfl | exact absurd rfl h
  have e2:(op == CmpOp.NotIn)=false:=by cases op <;> first | rfl | exact absurd rfl h2
  cases b <;> simp [behindInMarks,e1,e2]
theorem pe_cmpR {op:CmpOp} {r:R2} (ho:OpR X (compareOp op) r) (ha:PE X a ta) (hb:PE X b tb) (hm:behindInMarks op b=false):PE X (.Compare a [op] [b] pos) (tOp r ta tb):=by
  intro pins s σ H Q I h
  exact wpAny_Compare1 (binT ha hb I h fun v u s2 x y H2 I2 rx ry q=>ho pins s2 σ H2 x y v u Q I2 rx ry q) hm
def tTest (t:TE):TT:=fun σ H Q=>t σ H fun x H'=>∃ k,x=.bl k/\Q k H'
theorem pt_cmpR {op:CmpOp} {r:R2} (ho:OpR X (compareOp op) r) (ha:PE X a ta) (hb:PE X b tb) (hm:behindInMarks op b=false):PT X (.Compare a [op] [b] pos) (tTest (tOp r ta tb)):=by
  intro pins s σ H Q I h
  refine wpAny_isTrue_Compare1 (thn (ha pins s σ H _ I h) fun v s1 ⟨x,H1,I1,r1,q1⟩=>thn (hb pins s1 σ H1 _ I1 q1) fun u s2 ⟨y,H2,I2,r2,q2⟩ =>
    thn (ho pins s2 σ H2 x y v u _ I2 r1 r2 q2) fun c s3 ⟨z,H3,I3,r3,k,e,q3⟩=>?_) hm
  subst e
  cases r3
  exact wpAny_truthy_bool ⟨H3,I3,q3⟩
def tChain (r r':R2) (ta tb tc:TE):TE:=fun σ H Q=>ta σ H fun x H1=>tb σ H1 fun y H2=>r x y H2 fun z H3=>∃ k,z=.bl k /\
  (if k=true then tc σ H3 fun w' H4=>r' y w' H4 Q else Q (.bl false) H3)
theorem pe_chain {op op':CmpOp} {r r':R2} (ho:OpR X (compareOp op) r) (ho':OpR X (compareOp op') r') (ha:PE X a ta) (hb:PE X b tb) (hc:PE X c tc)
    (hm:lastMarks [op,op'] [b,c]=false:=by with_unfolding_all rfl):PE X (.Compare a [op,op'] [b,c] pos) (tChain r r' ta tb tc):=by
  intro pins s σ H Q I h
  refine Compare_chain (thn (ha pins s σ H _ I h) fun v s1 ⟨x,H1,I1,r1,q1⟩=>chain_link (thn (hb pins s1 σ H1 _ I1 q1) fun u s2 ⟨y,H2,I2,r2,q2⟩ =>
    thn (ho pins s2 σ H2 x y v u _ I2 r1 r2 q2) fun d s3 ⟨z,H3,I3,r3,k,e,q3⟩=>?_)) hm
  subst e
  cases r3
  refine wpAny_truthy_bool ?_
  cases k with
  | false=>exact ite_ff ⟨.bl false,H3,I3,rfl,q3⟩
  | true=>exact ite_tt (chain_last (thn (hc pins s3 σ H3 _ I3 q3) fun w' s4 ⟨z',H4,I4,r4,q4⟩=>ho' pins s4 σ H4 y z' u w' Q I4 r2 r4 q4))
theorem pt_chain {op op':CmpOp} {r r':R2} (ho:OpR X (compareOp op) r) (ho':OpR X (compareOp op') r') (ha:PE X a ta) (hb:PE X b tb) (hc:PE X c tc)
    (hm:lastMarks [op,op'] [b,c]=false:=by with_unfolding_all rfl):PT X (.Compare a [op,op'] [b,c] pos) (tTest (tChain r r' ta tb tc)):=by
  intro pins s σ H Q I h
  refine isTrue_chain (thn (ha pins s σ H _ I h) fun v s1 ⟨x,H1,I1,r1,q1⟩=>test_link (thn (hb pins s1 σ H1 _ I1 q1) fun u s2 ⟨y,H2,I2,r2,q2⟩ =>
    thn (ho pins s2 σ H2 x y v u _ I2 r1 r2 q2) fun d s3 ⟨z,H3,I3,r3,k,e,q3⟩=>?_)) hm
  subst e
  cases r3
  refine wpAny_truthy_bool ?_
  cases k with
  | false =>
    obtain ⟨k',e',q'⟩:=q3
    cases e'
    exact ite_ff ⟨H3,I3,q'⟩
  | true =>
    refine ite_tt (test_last (thn (hc pins s3 σ H3 _ I3 q3) fun w' s4 ⟨z',H4,I4,r4,q4⟩=>thn (ho' pins s4 σ H4 y z' u w' _ I4 r2 r4 q4) fun d' s5 ⟨z2,H5,I5,r5,k2,e2,q5⟩=>?_))
    subst e2
    cases r5
    exact wpAny_truthy_bool ⟨H5,I5,q5⟩
theorem line63:(sizeLine:Nat) < 2 ^ 63:=by rw [sizeLine_eq];decide
theorem op_add_str:OpR X (binaryOp .Add) (fun x y H Q=>∃ i j,x=.str i/\y=.str j/\i.length + j.length <= sizeLine/\Q (.str (i ++ j)) H):=by
  intro pins s σ H x y v u Q I rx ry h
  obtain ⟨i,j,rfl,rfl,hz,q⟩:=h
  obtain ⟨t,rfl⟩:=rx
  obtain ⟨t',rfl⟩:=ry
  exact add_str (fun t' tk=>⟨.str (i ++ j),H,I.tok _,⟨_,rfl⟩,q⟩) hz
theorem vals1 {x:V} {us:List Value} (r:Vals [x] us):∃ u,us=[u]/\RelV x u:=by
  cases r with
  | cons r1 r2=>cases r2;exact ⟨_,rfl,r1⟩
theorem vals2 {x y:V} {us:List Value} (r:Vals [x,y] us):∃ u w',us=[u,w']/\RelV x u/\RelV y w':=by
  cases r with
  | cons r1 r2 =>
    cases r2 with
    | cons r3 r4=>cases r4;exact ⟨_,_,rfl,r1,r3⟩
theorem call_max2 (hc:X.calm=true):CallR X (.builtin "max") (fun xs H Q=>∃ i j,xs=[.int i,.int j]/\Q (.int (if j > i then j else i)) H):=by
  intro pins s σ H xs us Q I r h
  obtain ⟨i,j,rfl,q⟩:=h
  obtain ⟨u,w',rfl,⟨t,rfl⟩,⟨t',rfl⟩⟩:=vals2 r
  refine max_two_ints (I.ok.hd hc) fun h' tk k=>⟨_,H,I.kept k,?_,q⟩
  by_cases hj:j > i
  · rw [if_pos hj,if_pos hj];exact ⟨_,rfl⟩
  · rw [if_neg hj,if_neg hj];exact ⟨_,rfl⟩
theorem call_min2 (hc:X.calm=true):CallR X (.builtin "min") (fun xs H Q=>∃ i j,xs=[.int i,.int j]/\Q (.int (if j < i then j else i)) H):=by
  intro pins s σ H xs us Q I r h
  obtain ⟨i,j,rfl,q⟩:=h
  obtain ⟨u,w',rfl,⟨t,rfl⟩,⟨t',rfl⟩⟩:=vals2 r
  refine min_two_ints (I.ok.hd hc) fun h' tk k=>⟨_,H,I.kept k,?_,q⟩
  by_cases hj:j < i
  · rw [if_pos hj,if_pos hj];exact ⟨_,rfl⟩
  · rw [if_neg hj,if_neg hj];exact ⟨_,rfl⟩
theorem call_int1:CallR X (.type "int") (fun xs H Q=>(∃ i,xs=[.int i]/\Q (.int i) H) ∨ ∃ k,xs=[.bl k]/\Q (.int (if k then 1 else 0)) H):=by
  intro pins s σ H xs us Q I r h
  rcases h with ⟨i,rfl,q⟩ | ⟨k,rfl,q⟩
  · obtain ⟨u,rfl,t,rfl⟩:=vals1 r
    exact call_int_int ⟨.int i,H,I,⟨_,rfl⟩,q⟩
  · obtain ⟨u,rfl,r1⟩:=vals1 r
    cases r1
    exact call_int_bool ⟨.int (if k then 1 else 0),H,I.tok _,⟨_,rfl⟩,q⟩
theorem call_str_int:CallR X (.type "str") (fun xs H Q=>∃ i,xs=[.int i]/\i.natAbs.log2 < 1920/\Q (.str (toString i)) H):=by
  intro pins s σ H xs us Q I r h
  obtain ⟨i,rfl,hz,q⟩:=h
  obtain ⟨u,rfl,t,rfl⟩:=vals1 r
  exact PySem.P.str_of_int hz ⟨.str _,H,I.tok _,⟨_,rfl⟩,q⟩
end
end L2
namespace L2
open PySem PySem.Spec PyProof.Rows
structure ObjM (h:Heap) (x dx C:Addr) (mA:Str->Option Value):Prop where
  obj:h.get? x=some (PySem.W.instObj C dx)
  ns:h.Ns1 dx mA
  ne:dx ≠ x
theorem lookIn_ns {h:Heap} {dx:Addr} {mA:Str->Option Value} (n:h.Ns1 dx mA):∃ od,h.get? dx=some od/\∀ name,PySem.W.lookIn name od=some (mA name):=by
  obtain ⟨o,es,ep,ho,hd,hk,_,hm⟩:=n
  refine ⟨o,ho,fun name=>?_⟩
  have e:=hm name
  unfold nsFind findBy at e
  rw [<- Array.find?_toList] at e
  unfold PySem.W.lookIn
  rw [hd]
  dsimp only
  split
  · rename_i y q
    rw [q] at e
    exact congrArg some e
  · rename_i q
    rw [q] at e
    have a:es.toList.any (·.refKey)=false:=by
      rw [List.any_eq_false]
      intro y hy
      obtain ⟨z,t,hkey⟩:=hk y (Array.mem_toList_iff.mp hy)
      simp [DictEntry.refKey,hkey]
    have a':¬ es.toList.any (·.refKey)=true:=by rw [a];exact Bool.false_ne_true
    rw [if_neg a']
    exact congrArg some e
theorem ObjM.look {h:Heap} {x dx C:Addr} {mA:Str->Option Value} (I:ObjM h x dx C mA):∃ od,PySem.W.InstAt h x (PySem.W.instObj C dx) C (some od)/\∀ name,PySem.W.lookIn name od=some (mA name) :=
  let ⟨od,ho,hl⟩:=lookIn_ns I.ns
  ⟨od,⟨I.obj,rfl,rfl,ho⟩,hl⟩
section
variable {prog:Program} {w:World} {A:Around} {E:Value->Shared->Prop} {s:Shared} {K:PySem.W.Frag} {x dx C f:Addr} {mA:Str->Option Value} {name:Str} {v:Value}
end
section
variable {P:Program} {w:World} {H H':Hp} {h h':Heap} {a C dx:Addr} {fs fs':List (Str × V)}
theorem ins_get (hok:HOk P w H h) (e:H a=some (.ins C dx fs)):∃ mA,ObjM h a dx C mA/\(∀ f,RelO (fs.lookup f) (mA f))/\PySem.Within mA (fs.map (·.1))/\fs.length <= 1000/\H dx=some (.own a):=by
  obtain ⟨d,z,ne,ob,mA,n,r,q⟩:=(show ObjOk P w H h a (.ins C dx fs) from hok a _ e)
  exact ⟨mA,⟨ob,n,ne⟩,r,q,z,d⟩
end
structure Cls (K:PySem.W.Frag) (C:Addr):Prop where
  pg:PySem.W.plainGet K C Str.empty=true
  hd:PySem.W.hasDictIn K C=true
  po:PySem.W.plainOver K C=true
  sa:PySem.W.findIn K (.ref C) "__setattr__"=some (some (.builtin "object.__setattr__"))
theorem Cls.get {K:PySem.W.Frag} {C:Addr} (c:Cls K C) (f:Str):PySem.W.plainGet K C f=true:=c.pg
structure Con (K:PySem.W.Frag) (C:Addr) (f:Str) (v:V) (u:Value):Prop where
  at_:PySem.W.findIn K (.ref C) f=some (some u)
  rel:RelV v u
  get:PySem.W.specialIn K u "__get__"=some none
  cp:PySem.W.copiedNames.contains f=false
structure Meth (K:PySem.W.Frag) (C:Addr) (m:Str) (f:Addr):Prop where
  at_:PySem.W.findIn K (.ref C) m=some (some (.ref f))
  fn:PySem.W.isFn K (.ref f)=true
  kp:PySem.W.keepIn K (.ref f)=true
section
variable {X:Cx} {pins:List (Addr × Obj)} {σ:St} {H:Hp} {s:Shared} {a C dx:Addr} {fs:List (Str × V)} {f:Str} {v:V} {A:Around} {E:Value->Shared->Prop}
end
section
variable {X:Cx} {o e value:Expr} {f:Str} {pos pos' tpos:Pos} {ta tv:TE}
end
section
variable {X:Cx} {pins:List (Addr × Obj)} {σ:St} {H:Hp} {s:Shared} {A:Around} {E:Value->Shared->Prop} {Q:Value->Shared->Prop} {c:Value} {b:Bool}
inductive TyOf (K:PySem.W.Frag) (H:Hp):V->Value->Prop where
  | non:TyOf K H .non (.type "NoneType")
  | bl (x:Bool):TyOf K H (.bl x) (.type "bool")
  | int (i:Int):TyOf K H (.int i) (.type "int")
  | str (x:Str):TyOf K H (.str x) (.type "str")
  | flt (x:UInt64):TyOf K H (.flt x) (.type "float")
  | lst {a:Addr} {xs:List V} (e:H a=some (.lst xs)):TyOf K H (.ref a) (.type "list")
  | frz {a:Addr} {o:Obj} {xs:List V} (e:H a=some (.frz o (.lst xs))):TyOf K H (.ref a) (.type "list")
  | tup {a:Addr} {xs:List V} (e:H a=some (.tup xs)):TyOf K H (.ref a) (.type "tuple")
  | dK {a:Addr} {kvs:List (Key × V)} (e:H a=some (.dK kvs)):TyOf K H (.ref a) (.type "dict")
  | dT {a:Addr} {kvs:List (List Key × V)} (e:H a=some (.dT kvs)):TyOf K H (.ref a) (.type "dict")
  | ins {a C dx:Addr} {fs:List (Str × V)} (e:H a=some (.ins C dx fs)) (cl:Cls K C) (ha:PySem.W.findIn K (.ref C) "__class__"=some (some (.builtin "object.__class__")))
      (hn:PySem.W.specialIn K (.builtin "object.__class__") "__get__"=some (some (.builtin "getset_descriptor.__get__"))) (htk:PySem.W.takesIn K (.builtin "object.__class__")=some true)
      (hm:PySem.W.mroIn K C (.type "object")=some true):TyOf K H (.ref a) (.ref C)
theorem isinst_ok {x:V} {u t:Value} (I:Inv X pins σ H s) (rx:RelV x u) (ty:TyOf X.K H x t) (e:PySem.W.kitOne X.K t c=some b) (h:∀ tk,Q (.bool b) { s with toks:=tk }) :
    wpAny (model X.prog X.w) A (call (.builtin "isinstance") [u,c]) Q E s:=by
  cases ty with
  | non=>cases (show u=Value.none from rx);exact PySem.W.kia_one PySem.W.kitx_none I.kIn True.intro e (fun z=>nomatch z) h
  | bl y=>cases (show u=Value.bool y from rx);exact PySem.W.kia_one PySem.W.kitx_bool I.kIn True.intro e (fun z=>nomatch z) h
  | int i=>obtain ⟨t,q⟩:=(show ∃ t,u=Value.int i t from rx);cases q;exact PySem.W.kia_one PySem.W.kitx_int I.kIn True.intro e (fun z=>nomatch z) h
  | str y=>obtain ⟨t,q⟩:=(show ∃ t,u=Value.str y t from rx);cases q;exact PySem.W.kia_one PySem.W.kitx_str I.kIn True.intro e (fun z=>nomatch z) h
  | flt y=>obtain ⟨t,q⟩:=(show ∃ t,u=Value.float y t from rx);cases q;exact PySem.W.kia_one PySem.W.kitx_float I.kIn True.intro e (fun z=>nomatch z) h
  | @lst a xs ea =>
    cases (show u=Value.ref a from rx)
    obtain ⟨_,_,n,_,h1⟩:=(show ObjOk X.prog X.w H s.heap a (.lst xs) from I.hok a _ ea)
    exact PySem.W.kia_one PySem.W.kitx_list I.kIn ⟨_,h1,rfl⟩ e (fun z=>nomatch z) h
  | @frz a ob xs ea =>
    cases (show u=Value.ref a from rx)
    obtain ⟨_,_,_,n,_,h1⟩:=(show ObjOk X.prog X.w H s.heap a (.frz ob (.lst xs)) from I.hok a _ ea)
    exact PySem.W.kia_one PySem.W.kitx_list I.kIn ⟨_,h1,rfl⟩ e (fun z=>nomatch z) h
  | @tup a xs ea =>
    cases (show u=Value.ref a from rx)
    obtain ⟨_,_,_,p⟩:=(show ObjOk X.prog X.w H s.heap a (.tup xs) from I.hok a _ ea)
    obtain ⟨o,h1,h2,_⟩:=p
    exact PySem.W.kia_one PySem.W.kitx_tuple I.kIn ⟨o,h1,h2⟩ e (fun z=>nomatch z) h
  | @dK a kvs ea =>
    cases (show u=Value.ref a from rx)
    obtain ⟨_,_,vs,_,p⟩:=(show ObjOk X.prog X.w H s.heap a (.dK kvs) from I.hok a _ ea)
    obtain ⟨o,es,ep,h1,h2,_⟩:=p
    exact PySem.W.kia_one PySem.W.kitx_dict I.kIn ⟨o,h1,h2.1⟩ e (fun z=>nomatch z) h
  | @dT a kvs ea =>
    cases (show u=Value.ref a from rx)
    obtain ⟨_,_,xs,_,o,es,ep,h1,h2,_⟩:=(show ObjOk X.prog X.w H s.heap a (.dT kvs) from I.hok a _ ea)
    exact PySem.W.kia_one PySem.W.kitx_dict I.kIn ⟨o,h1,h2.1⟩ e (fun z=>nomatch z) h
  | @ins a C dx fs ea cl ha hn htk hm =>
    cases (show u=Value.ref a from rx)
    obtain ⟨mA,O,_⟩:=ins_get I.hok ea
    obtain ⟨od,J,_⟩:=O.look
    exact PySem.W.kia_one (PySem.W.kitx_own (cl.get _) cl.hd ha hn htk hm) I.kIn J e (fun z=>nomatch z) h
end
end L2
namespace L2
open PySem PySem.Spec PyProof.Rows
structure Room (k:Nat) (A:Around):Prop where
  hd:A.handled=none
  dp:A.depth + 3 * k + 5 < recursionLimit
  un:A.units + 16 * k + 200 < cLine
theorem Room.mono {j k:Nat} {A:Around} (r:Room k A) (h:j <= k):Room j A:=⟨r.hd,by have:=r.dp;omega,by have:=r.un;omega⟩
theorem Room.deeper {k:Nat} {A:Around} (r:Room (k + 1) A) (env:Env):Room k (A.deeper env) :=
  ⟨r.hd,by have:=r.dp;show A.depth + 1 + 3 * k + 5 < _;omega,by have:=r.un;show A.units + 3 + 16 * k + 200 < _;omega⟩
theorem Room.depth {k:Nat} {A:Around} (r:Room k A):A.depth < recursionLimit:=by have:=r.dp;omega
theorem Room.units {k:Nat} {A:Around} (r:Room k A):A.units + 64 < cLine:=by have:=r.un;omega
def tNil:TA:=fun _ H Q=>Q [] H
def tCons (ta:TE) (tr:TA):TA:=fun σ H Q=>ta σ H fun x H1=>tr σ H1 fun xs H2=>Q (x :: xs) H2
section
variable {X:Cx} {e:Expr} {es:List Expr} {te:TE} {t:TA} {pos:Pos}
theorem pa_nil:PA X [] tNil:=fun _ _ _ _ H Q I h=>Calls.spliced_nil ⟨[],H,I,.nil,h⟩
theorem pa_cons (ha:PE X e te) (hr:PA X es t) (hs:starEach (e :: es) X.env=(false,eval e X.env) :: starEach es X.env:=by rfl):PA X (e :: es) (tCons te t):=by
  intro pos pins s σ H Q I h
  rw [hs]
  show wpAny _ _ (spliced ((false,eval e X.env) :: backTo pos (starEach es X.env))) _ _ s
  refine Calls.spliced_cons (thn (ha pins s σ H _ I h) fun u s1 ⟨x,H1,I1,r1,q1⟩=>?_)
  exact thn (hr pos pins s1 σ H1 _ I1 q1) fun us s2 ⟨xs,H2,I2,r2,q2⟩=>⟨x :: xs,H2,I2,.cons r1 r2,q2⟩
def tTup (t:TA):TE:=fun σ H Q=>t σ H fun xs H1=>xs.length <= sizeLine/\∀ p,H1 p=none->Q (.ref p) (upd H1 p (.tup xs))
def tLst (t:TA):TE:=fun σ H Q=>t σ H fun xs H1=>xs.length <= sizeLine/\∀ p,H1 p=none->Q (.ref p) (upd H1 p (.lst xs))
theorem pe_tup {x1} (h:PA X es t):PE X (.Tuple es x1 pos) (tTup t):=by
  intro pins s σ H Q I hq
  refine wpAny_Tuple_spliced (thn (h pos pins s σ H _ I hq) fun us s1 ⟨xs,H1,I1,r,z,q⟩=>⟨by rw [<- r.length];exact z,?_⟩)
  have hf:H1 s1.heap.objs.size=none:=I1.hok.fresh (Nat.le_refl _)
  refine ⟨.ref s1.heap.objs.size,upd H1 s1.heap.objs.size (.tup xs),I1.laid (t':=s1.toks) (fun b u e=>Heap.get?_push_of_some _ e) (Nat.le_refl _) ?_,rfl,q _ hf⟩
  exact ⟨z,us,r,⟨_,Heap.get?_push_size _ rfl,rfl,_,rfl⟩⟩
theorem pe_lst (h:PA X es t):PE X (.List es pos) (tLst t):=by
  intro pins s σ H Q I hq
  refine wpAny_List_spliced (thn (h pos pins s σ H _ I hq) fun us s1 ⟨xs,H1,I1,r,z,q⟩=>⟨by rw [<- r.length];exact z,?_⟩)
  have hf:H1 s1.heap.objs.size=none:=I1.hok.fresh (Nat.le_refl _)
  refine ⟨.ref s1.heap.objs.size,upd H1 s1.heap.objs.size (.lst xs),I1.laid (t':=s1.toks) (fun b u e=>Heap.get?_push_of_some _ e) (Nat.le_refl _) ?_,rfl,q _ hf⟩
  exact ⟨z,us,0,r,Heap.get?_push_size _ rfl⟩
end
abbrev Sp:=List V->Hp->VK->XK->Prop
abbrev CXT:=List Env->Hp->Shared->XK->Value->Shared->Prop
structure Env0 (P:Program) (w:World) (K:PySem.W.Frag) (mg:Str->Option Value) (base:Heap) (A:Around) (outer:List Env) (s:Shared) (H:Hp):Prop where
  frames:A.frames=some outer
  mod:Mod K mg base
  bs:∀ b o,base.get? b=some o->s.heap.get? b=some o/\H b=none
  bsz:base.objs.size <= s.heap.objs.size
  funs:s.heap.FunFrames base outer
  frf:∀ b ∈ frs outer,H b=none
  hok:HOk P w H s.heap
  bare:AllBare s.gens
def CE (outer:List Env) (P:Program) (w:World) (H:Hp) (s:Shared) (Q:VK) (u:Value) (s':Shared):Prop :=
  ∃ v H',s'.os=s.os/\AllBare s'.gens/\Un (frs outer) [] H H' s.heap s'.heap/\HOk P w H' s'.heap/\RelV v u/\Q v H'
def CR (CX:CXT) (outer:List Env) (P:Program) (w:World) (H:Hp) (s:Shared) (Q:VK) (E:XK) (r:Result) (s':Shared):Prop :=
  match r with
  | .ok (.ret u)=>CE outer P w H s Q u s'
  | .ok _=>False
  | .error e=>CX outer H s E e s'
structure FnOk (P:Program) (w:World) (K:PySem.W.Frag) (mg:Str->Option Value) (base:Heap) (CX:CXT) (k:Nat) (f:Addr) (fd:FuncData) (ps:List Str) (sp:Sp):Prop where
  len:∀ vs H Q E,sp vs H Q E->vs.length=ps.length
  run:∀ (A:Around) (outer:List Env) (s:Shared) (H:Hp) (args:Args) (us:List Value) (vs:List V) (Q:VK) (E:XK),Room k A->Env0 P w K mg base A outer s H->BindsTo s fd args (ps.zip us)->Vals vs us->sp vs H Q E ->
    codeAny (model P w) A (.call (.ref f) args) (CR CX outer P w H s Q E) s
theorem FnOk.mono {P:Program} {w:World} {K:PySem.W.Frag} {mg:Str->Option Value} {base:Heap} {CX:CXT} {j k:Nat} {f:Addr} {fd:FuncData} {ps:List Str} {sp:Sp} (F:FnOk P w K mg base CX j f fd ps sp) (h:j <= k) :
    FnOk P w K mg base CX k f fd ps sp:=⟨F.len,fun A outer s H args us vs Q E hr=>F.run A outer s H args us vs Q E (hr.mono h)⟩
section
variable {X:Cx} {pins:List (Addr × Obj)} {σ:St} {H:Hp} {s s':Shared}
theorem Inv.env0 (I:Inv X pins σ H s):Env0 X.prog X.w X.K X.mg X.base X.A X.stack s H :=
  ⟨I.ok.frames,I.ok.mod,I.bs,Nat.le_trans I.ok.bsz I.sz,I.stack,I.stkFree,I.hok,I.bare⟩
theorem Inv.after {Q:VK} {u:Value} (I:Inv X pins σ H s) (h:CE X.stack X.prog X.w H s Q u s'):EP X pins σ Q u s':=by
  obtain ⟨v,H',os,bare,un,hok,r,q⟩:=h
  obtain ⟨hh,g,d,t,os'⟩:=s'
  obtain rfl:os'=s.os:=os
  exact ⟨v,H',I.call (h':=hh) (g':=g) (d':=d) (t':=t) (ch:=[]) un hok bare (fun b z=>absurd z (by simp)),r,q⟩
end
def tCall (sp:Sp) (dvs:List V) (E:XK) (t:TA):TE:=fun σ H Q=>t σ H fun vs H1=>sp (vs ++ dvs) H1 Q E
def Binds (K:PySem.W.Frag) (fd:FuncData) (ps:List Str) (ds:List Value):Prop :=
  ∀ (s:Shared) (us:List Value),K.In s.heap->(us ++ ds).length=ps.length->BindsTo s fd ⟨us,[]⟩ (ps.zip (us ++ ds))
theorem Binds.all {K:PySem.W.Frag} {fd:FuncData} {ps:List Str} (h:∀ us:List Value,us.length=ps.length->bindArgs fd ⟨us,[]⟩=pure (ps.zip us)):Binds K fd ps []:=fun s us _ hl=>by
  rw [List.append_nil] at hl ⊢
  exact .of_eq (h us hl)
def Passes (CX:CXT) (X:Cx) (E:XK):Prop:=∀ (pins:List (Addr × Obj)) (σ:St) (H:Hp) (s:Shared) (e:Value) (s':Shared),Inv X pins σ H s->CX X.stack H s E e s'->X.xe e s'
section
variable {X:Cx} {CX:CXT} {k:Nat} {f C:Addr} {fd:FuncData} {ps:List Str} {sp:Sp} {dvs:List V} {ds:List Value} {E:XK} {x m:Str} {p pos apos:Pos} {e o:Expr} {es:List Expr} {ta:TE} {t:TA}
theorem run_fn {pins:List (Addr × Obj)} {σ:St} {H:Hp} {s:Shared} {Q:VK} {us:List Value} {vs:List V} (F:FnOk X.prog X.w X.K X.mg X.base CX k f fd ps sp) (hr:Room k X.A) (hb:Binds X.K fd ps ds) (hd:Vals dvs ds) (hx:Passes CX X E)
    (I:Inv X pins σ H s) (r:Vals vs us) (h:sp (vs ++ dvs) H Q E):wpAny (model X.prog X.w) X.A (call (.ref f) us) (EP X pins σ Q) X.xe s:=by
  have r2:Vals (vs ++ dvs) (us ++ ds):=r.append hd
  have hl:(us ++ ds).length=ps.length:=by rw [<- r2.length];exact F.len _ _ _ _ h
  refine wpAny_call (codeAny_mono (F.run X.A X.stack s H ⟨us,[]⟩ (us ++ ds) (vs ++ dvs) Q E hr I.env0 (hb s us I.kIn hl) r2 h) fun r s' hq=>?_)
  cases r with
  | error e=>exact hx pins σ H s e s' I hq
  | ok fl =>
    cases fl with
    | ret u=>exact I.after hq
    | next=>exact False.elim hq
    | brk=>exact False.elim hq
    | cont=>exact False.elim hq
theorem pe_call (F:FnOk X.prog X.w X.K X.mg X.base CX k f fd ps sp) (hr:Room k X.A) (hg:Gl X x) (hm:X.mg x=some (.ref f)) (hk:PySem.W.keepIn X.K (.ref f)=true) (hb:Binds X.K fd ps ds) (hd:Vals dvs ds) (hx:Passes CX X E)
    (ha:PA X (e :: es) t) (hdb:(x == ("__debug__":Str))=false:=by decide) (he:starEach (e :: es) X.env=(false,eval e X.env) :: starEach es X.env:=by rfl) (hpl:(backTo pos (starEach es X.env)).any (·.1)=false:=by rfl) :
    PE X (.Call (.Name x p) (e :: es) [] pos) (tCall sp dvs E t):=by
  intro pins s σ H Q I h
  refine wpAny_Call_Name_kw (ld_glob I hg hm ?_ hdb)
  refine PySem.W.callWith_K (h₀:=X.base) I.ok.mod.kin hk (thn (ha pos pins s σ H _ I h) fun us s1 ⟨vs,H1,I1,r,q⟩=>⟨I1.kIn,?_⟩) he hpl
  exact run_fn F hr hb hd hx I1 r q
structure Mk (K:PySem.W.Frag) (C f:Addr):Prop where
  makes:PySem.W.makesIn K C=true
  init:PySem.W.findIn K (.ref C) "__init__"=some (some (.ref f))
  fn:PySem.W.isFn K (.ref f)=true
  kp:PySem.W.keepIn K (.ref C)=true
end
section
variable {X:Cx} {CX:CXT} {k:Nat} {f C:Addr} {fd:FuncData} {ps ks:List Str} {sp:Sp} {E:XK} {x m:Str} {p pos apos kpos:Pos} {e o:Expr} {es:List Expr} {kws:List Keyword} {te ta:TE} {t tk:TA} {nm:Option Str}
structure KBinds (K:PySem.W.Frag) (fd:FuncData) (ps ks:List Str) (g:List Value->List Value->List Value) (gV:List V->List V->List V):Prop where
  to:∀ (s:Shared) (us ws:List Value),K.In s.heap->(g us ws).length=ps.length->BindsTo s fd ⟨us,ks.zip ws⟩ (ps.zip (g us ws))
  rel:∀ {vs:List V} {us:List Value} {zs:List V} {ws:List Value},Vals vs us->Vals zs ws->Vals (gV vs zs) (g us ws)
variable {g:List Value->List Value->List Value} {gV:List V->List V->List V}
end
structure FnScope (N P:List Str) (sc:Scope):Prop where
  kind:sc.kind=.function
  co:sc.isCoroutine=false
  gen:sc.isGenerator=false
  nd:N.Nodup
  pre:N.take P.length=P
  par:∀ x ∈ P,sc.names.lookup x=some .local ∨ sc.names.lookup x=some .cell
  nofree:∀ y ∈ sc.names,y.2 ≠ .free
theorem bindL_out {kindOf:Str->Option NameKind} {x:Str}:∀ {binds:List (Str × Value)} {m:Str->Option Value},(∀ v,(x,v) ∉ binds)->bindL kindOf binds m x=m x
  | [],_,_=>rfl
  | (n,v) :: r,m,h=>by
    unfold bindL
    rw [bindL_out fun w hw=>h w (List.mem_cons_of_mem _ hw)]
    split
    · have:x ≠ n:=by rintro rfl;exact h v List.mem_cons_self
      simp [this]
    · rfl
theorem bindC_out {kindOf:Str->Option NameKind} {x:Str}:∀ {binds:List (Str × Value)} {m:Str->Option Value},(∀ v,(x,v) ∉ binds)->bindC kindOf binds m x=m x
  | [],_,_=>rfl
  | (n,v) :: r,m,h=>by
    unfold bindC
    rw [bindC_out fun w hw=>h w (List.mem_cons_of_mem _ hw)]
    split
    · rfl
    · have:x ≠ n:=by rintro rfl;exact h v List.mem_cons_self
      simp [this]
theorem bindL_get {kindOf:Str->Option NameKind} {x:Str} {v:Value}:∀ {P:List Str} {vs:List Value} {i:Nat} {m:Str->Option Value},P.Nodup->P[i]?=some x->vs[i]?=some v->kindOf x=some .local ->
    bindL kindOf (P.zip vs) m x=some v
  | [],_,_,_,_,h,_,_=>by simp at h
  | _ :: _,[],_,_,_,_,h,_=>by simp at h
  | p :: P,w :: vs,0,m,nd,h1,h2,hk=>by
    simp at h1 h2;subst h1;subst h2
    show bindL kindOf ((p,w) :: P.zip vs) m p=_
    unfold bindL
    rw [bindL_out fun v hv=>(List.nodup_cons.mp nd).1 (List.of_mem_zip hv).1,if_pos hk]
    simp
  | p :: P,w :: vs,i + 1,m,nd,h1,h2,hk=>by
    show bindL kindOf ((p,w) :: P.zip vs) m x=_
    unfold bindL
    exact bindL_get (i:=i) (List.nodup_cons.mp nd).2 (by simpa using h1) (by simpa using h2) hk
theorem bindC_get {kindOf:Str->Option NameKind} {x:Str} {v:Value}:∀ {P:List Str} {vs:List Value} {i:Nat} {m:Str->Option Value},P.Nodup->P[i]?=some x->vs[i]?=some v->kindOf x ≠ some .local ->
    bindC kindOf (P.zip vs) m x=some v
  | [],_,_,_,_,h,_,_=>by simp at h
  | _ :: _,[],_,_,_,_,h,_=>by simp at h
  | p :: P,w :: vs,0,m,nd,h1,h2,hk=>by
    simp at h1 h2;subst h1;subst h2
    show bindC kindOf ((p,w) :: P.zip vs) m p=_
    unfold bindC
    rw [bindC_out fun v hv=>(List.nodup_cons.mp nd).1 (List.of_mem_zip hv).1,if_neg hk]
    simp
  | p :: P,w :: vs,i + 1,m,nd,h1,h2,hk=>by
    show bindC kindOf ((p,w) :: P.zip vs) m x=_
    unfold bindC
    exact bindC_get (i:=i) (List.nodup_cons.mp nd).2 (by simpa using h1) (by simpa using h2) hk
def start (N:List Str) (vs:List V):St:=vs.map some ++ List.replicate (N.length - vs.length) none
def cxOf (CX:CXT) (P:Program) (w:World) (K:PySem.W.Frag) (mg:Str->Option Value) (base:Heap) (N:List Str) (qual:Str) (scope:Scope) (f:Addr) (cd:Value) (A:Around) (outer:List Env) (s:Shared) (H:Hp) (E:XK):Cx where
  prog:=P
  w:=w
  K:=K
  mg:=mg
  base:=base
  A:=A.deeper (envOfC qual scope s.heap.objs.size f cd)
  N:=N
  s₀:=s
  H₀:=H
  env:=envOfC qual scope s.heap.objs.size f cd
  outer:=outer
  stack:=envOfC qual scope s.heap.objs.size f cd :: outer
  ex:=[]
  calm:=true
  fn:=fun _=>true
  pn:=[]
  xe:=fun e s'=>wpAny (model P w) (A.deeper (envOfC qual scope s.heap.objs.size f cd)) (leaving (envOfC qual scope s.heap.objs.size f cd) e) (fun _ s''=>CX outer H s E e s'') (fun e' s''=>CX outer H s E e' s'') s'
theorem cell_has {sc:Scope} {n:Nat} {x:Str} (h:sc.names.lookup x=some .cell):∃ c,(cellsFrom n sc.names []).lookup x=some c:=by
  have q:=PySem.W.cellsFrom_some sc.names n [] (.inl h)
  exact Option.isSome_iff_exists.mp q
theorem inv_start {CX:CXT} {P:Program} {w:World} {K:PySem.W.Frag} {mg:Str->Option Value} {base:Heap} {N ps:List Str} {qual:Str} {scope:Scope} {f:Addr} {cd:Value} {A:Around} {outer:List Env} {s s1:Shared} {H:Hp} {E:XK} {us:List Value} {vs:List V}
    (S:FnScope N ps scope) (hd:A.handled=none) (e0:Env0 P w K mg base A outer s H) (hl:vs.length=ps.length) (r:Vals vs us)
    (x:InCallC s s.heap.objs.size (bindL (envOfC qual scope s.heap.objs.size f cd).kindOf (ps.zip us) fun _=>none) (cellsFrom (s.heap.objs.size + 1) scope.names []) (bindC (envOfC qual scope s.heap.objs.size f cd).kindOf (ps.zip us) fun _=>none) s1) :
    Inv (cxOf CX P w K mg base N qual scope f cd A outer s H E) [] (start N vs) H s1:=by
  have hpl:ps.length <= N.length:=by have:=congrArg List.length S.pre;rw [List.length_take] at this;omega
  obtain ⟨h1,tk,rfl,hk⟩:=x.done
  have noA:∀ b:Addr,b ∉ (cxOf CX P w K mg base N qual scope f cd A outer s H E).ex:=fun b z=>absurd (show b ∈ ([]:List Addr) from z) (by simp)
  refine ⟨⟨e0.mod,S.kind,rfl,rfl,Nat.le_refl _,fun y z c h1 h2=>?_,fun y hy=>?_,fun y c _ h=>?_,fun _=>hd,Around.frames_deeper e0.frames,.inr ⟨rfl,rfl⟩,fun b z=>absurd z (noA b),e0.bs,e0.bsz,fun b _ _=>noA b,fun b z=>absurd z (noA b),e0.funs,e0.frf⟩,
    rfl,e0.bare,Un.kept hk,⟨_,x.toInCall.ns,fun i y v h1 h2 h3=>?_⟩,fun y c h=>⟨_,x.cell y c h⟩,e0.hok.fresh (Nat.le_refl _),fun y c h=>?_,fun p hp=>absurd (show p ∈ ([]:List (Addr × Obj)) from hp) (by simp),e0.hok.kept hk,?_⟩
  · exact name_of_addr x.apart (PySem.mem_of_lookup h1) (PySem.mem_of_lookup h2)
  · have hy:scope.names.lookup y=some .cell ∨ scope.names.lookup y=some .free:=hy
    rcases hy with hy | hy
    · exact cell_has hy
    · exact absurd rfl (S.nofree _ (PySem.mem_of_lookup hy))
  · exact Nat.le_of_lt (x.above y c (PySem.mem_of_lookup h))
  · have hi:i < vs.length:=by
      unfold start at h2
      by_cases hi:i < vs.length
      · exact hi
      · rw [List.getElem?_append_right (by simpa using hi)] at h2
        rw [List.getElem?_replicate] at h2
        split at h2 <;> cases h2
    have ha:vs[i]?=some v:=by
      unfold start at h2
      rw [List.getElem?_append_left (by simpa using hi),List.getElem?_map] at h2
      cases e:vs[i]? with
      | none=>rw [e] at h2;cases h2
      | some a=>rw [e] at h2;cases h2;rfl
    obtain ⟨u,hu,rv⟩:=r.get ha
    have hp:ps[i]?=some y:=by
      rw [<- S.pre,List.getElem?_take_of_lt (by omega)];exact h1
    have ndP:ps.Nodup:=by rw [<- S.pre];exact S.nd.sublist (List.take_sublist _ _)
    refine ⟨u,rv,?_⟩
    rcases S.par y (List.mem_of_getElem? hp) with k | k
    · exact .inl ⟨k,bindL_get ndP hp hu k⟩
    · obtain ⟨c,e⟩:=cell_has (n:=s.heap.objs.size + 1) k
      refine .inr ⟨.inl k,c,e,?_⟩
      have q:=x.cell y c e
      rw [bindC_get ndP hp hu (by show scope.names.lookup y ≠ _;rw [k];decide)] at q
      exact q
  · exact e0.hok.fresh (Nat.le_of_lt (x.above y c (PySem.mem_of_lookup h)))
  · unfold start
    show _=N.length
    rw [List.length_append,List.length_map,List.length_replicate]
    omega
theorem fn_of {CX:CXT} {P:Program} {w:World} {K:PySem.W.Frag} {mg:Str->Option Value} {base:Heap} {k:Nat} {f:Addr} {name qual:Str} {params:Arguments} {body:List Stmt} {scope:Scope} {dV kV doc pm cdv ct oc:Value} {an od:Option Addr}
    {osl:Array (Option Value)} {N ps:List Str} {sp:Sp} (lk:K.lookup f=some ⟨oc,od,.func (PySem.W.fnOf name qual params body scope dV kV doc pm an cdv ct),osl⟩) (hcd:PySem.W.codeIn K cdv qual=true) (S:FnScope N ps scope)
    (len:∀ vs H Q E,sp vs H Q E->vs.length=ps.length)
    (hbody:∀ (A:Around) (outer:List Env) (s:Shared) (H:Hp) (vs:List V) (Q:VK) (E:XK),Room k (A.deeper (envOfC qual scope s.heap.objs.size f cdv))->sp vs H Q E ->
      ∃ t,PSs (cxOf CX P w K mg base N qual scope f cdv A outer s H E) body t/\t { nx:=fun _ H'=>Q .non H',rt:=Q } (start N vs) H) :
    FnOk P w K mg base CX (k + 1) f (PySem.W.fnOf name qual params body scope dV kV doc pm an cdv ct) ps sp:=by
  refine ⟨len,fun A outer s H args us vs Q E hr e0 hb r hsp=>?_⟩
  have hl:=len _ _ _ _ hsp
  have KX:K.In s.heap:=e0.mod.kin.keeps fun b o e=>(e0.bs b o e).1
  have lim:s.heap.NoLimit:=e0.mod.nolimit.keeps fun b o e=>(e0.bs b o e).1
  have hkind:∀ y ∈ ps.zip us,scope.names.lookup y.1=some .local ∨ (scope.names.lookup y.1=some .cell/\((cellsFrom (s.heap.objs.size + 1) scope.names []).lookup y.1).isSome=true):=fun ⟨n,v⟩ hy=>by
    rcases S.par n (List.of_mem_zip hy).1 with q | q
    · exact .inl q
    · exact .inr ⟨q,PySem.W.cellsFrom_some _ _ _ (.inl q)⟩
  refine codeAny_call_function hr.depth (KX _ _ lk) rfl S.co S.gen rfl (PySem.W.codeRec_of KX hcd) (hb _ _ _ _ ?_)
  refine wpAny_newFunctionEnv_cells S.kind hkind fun env he s1 x=>?_
  subst he
  refine ⟨lim.keeps x.toInCall.keep,codeAny_func ?_⟩
  obtain ⟨t,ht,hq⟩:=hbody A outer s H vs Q E (hr.deeper _) hsp
  have I:Inv (cxOf CX P w K mg base N qual scope f cdv A outer s H E) [] (start N vs) H s1:=inv_start S hr.hd e0 hl r x
  refine wpAny_mono (ht [] s1 (start N vs) H _ I hq) (fun fl s' hs=>?_) fun e s' hs=>hs
  have fin:∀ {σ':St} {H':Hp} {v:V} {u:Value},Inv (cxOf CX P w K mg base N qual scope f cdv A outer s H E) [] σ' H' s'->RelV v u->Q v H'->CE outer P w H s Q u s' :=
    fun {σ' H' v u} J rv q=>⟨v,H',J.os,J.bare,J.base,J.hok,rv,q⟩
  cases fl with
  | ret u =>
    obtain ⟨v,σ',H',J,rv,q⟩:=hs
    exact fin J rv q
  | next =>
    obtain ⟨σ',H',J,q⟩:=hs
    exact fin (v:=V.non) (u:=Value.none) J rfl q
  | brk =>
    obtain ⟨_,_,_,q⟩:=hs
    exact False.elim q
  | cont =>
    obtain ⟨_,_,_,q⟩:=hs
    exact False.elim q
end L2
namespace L2
open PySem PySem.Spec PyProof.Rows
section
variable {X:Cx} {x:Str} {p pos:Pos} {e:Expr} {es:List Expr} {t:TA} {id T:String} {r:List V->Hp->VK->Prop}
def tCB (r:List V->Hp->VK->Prop) (t:TA):TE:=fun σ H Q=>t σ H fun vs H1=>r vs H1 Q
theorem pe_callB (hc:CallR X (.builtin id) r) (hg:Gl X x) (hm:X.mg x=none) (hv:bootBuiltins x=some (.builtin id)) (ha:PA X (e :: es) t) (hn:x ≠ "__name__":=by decide) (hdb:(x == ("__debug__":Str))=false:=by decide)
    (he:starEach (e :: es) X.env=(false,eval e X.env) :: starEach es X.env:=by rfl) (hpl:(backTo pos (starEach es X.env)).any (·.1)=false:=by rfl):PE X (.Call (.Name x p) (e :: es) [] pos) (tCB r t):=by
  intro pins s σ H Q I h
  refine wpAny_Call_Name_kw (ld_blt I hg hm hv ?_ hn hdb)
  exact PyProof.Rows.callWith_builtin1 (thn (ha pos pins s σ H _ I h) fun us s1 ⟨vs,H1,I1,r1,q1⟩=>hc pins s1 σ H1 vs us Q I1 r1 q1) he hpl
theorem pe_callTy (hc:CallR X (.type T) r) (hg:Gl X x) (hm:X.mg x=none) (hv:bootBuiltins x=some (.type T)) (ha:PA X (e :: es) t) (hn:x ≠ "__name__":=by decide) (hdb:(x == ("__debug__":Str))=false:=by decide)
    (he:starEach (e :: es) X.env=(false,eval e X.env) :: starEach es X.env:=by rfl) (hpl:(backTo pos (starEach es X.env)).any (·.1)=false:=by rfl):PE X (.Call (.Name x p) (e :: es) [] pos) (tCB r t):=by
  intro pins s σ H Q I h
  refine wpAny_Call_Name_kw (ld_blt I hg hm hv ?_ hn hdb)
  exact PyProof.Rows.callWith_type1 (thn (ha pos pins s σ H _ I h) fun us s1 ⟨vs,H1,I1,r1,q1⟩=>hc pins s1 σ H1 vs us Q I1 r1 q1) he hpl
end
end L2
namespace HT
open PySem PyProof.Rows
section
open PySem.SeqAt
open PySem.AutoSeq1 (wpAny_loadPart')
open PySem.MeetsSeq PySem.MeetsSeq2 PySem.MeetsSeq3
end
section
variable {prog:Program} {w:World} {A:Around} {E:Value->Shared->Prop} {s:Shared}
def sIx (n d:Nat):Option Int->Nat
  | none=>d
  | some v=>if v < 0 then (v + (n:Int)).toNat else min v.toNat n
theorem sIx_none (n d:Nat):sIx n d none=d:=rfl
theorem sIx_nat (n d k:Nat):sIx n d (some (k:Int))=min k n:=by
  show (if (k:Int) < 0 then ((k:Int) + (n:Int)).toNat else min (k:Int).toNat n)=min k n
  rw [if_neg (by omega),Int.toNat_natCast]
end
end HT
namespace L2
open PySem PySem.Spec PyProof.Rows
abbrev TO:=St->Hp->(Option Int->Hp->Prop)->Prop
def PO (X:Cx) (e:Option Expr) (t:TO):Prop :=
  ∀ (pins:List (Addr × Obj)) (s:Shared) (σ:St) (H:Hp) (Q:Option Int->Hp->Prop),Inv X pins σ H s->t σ H Q ->
    wpAny (model X.prog X.w) X.A (evalPart e X.env) (fun u s'=>∃ o H',Inv X pins σ H' s'/\IsPart u o/\Q o H') X.xe s
def tNoPart:TO:=fun _ H Q=>Q none H
def tPart (t:TE):TO:=fun σ H Q=>t σ H fun x H1=>∃ i,x=.int i/\Q (some i) H1
section
variable {X:Cx} {e:Expr} {te:TE} {lo hi:Option Expr} {tl th:TO} {pos p2:Pos}
theorem po_none:PO X none tNoPart:=by
  intro pins s σ H Q I h
  rw [evalPart_none]
  exact wpAny_pure ⟨none,H,I,.none,h⟩
theorem po_some (h:PE X e te):PO X (some e) (tPart te):=by
  intro pins s σ H Q I hw
  rw [evalPart_some]
  refine thn (h pins s σ H _ I hw) fun u s1 ⟨x,H1,I1,r1,q1⟩=>?_
  obtain ⟨i,rfl,q⟩:=q1
  obtain ⟨t,rfl⟩:=r1
  exact ⟨some i,H1,I1,.int i t,q⟩
def SlR (X:Cx) (r:V->Option Int->Option Int->Hp->VK->Prop):Prop :=
  ∀ (pins:List (Addr × Obj)) (s:Shared) (σ:St) (H:Hp) (x:V) (v vl vu:Value) (lo hi:Option Int) (sl:Addr) (Q:VK),Inv X pins σ H s->RelV x v->s.heap.IsSliceOf sl vl vu .none->IsPart vl lo->IsPart vu hi->r x lo hi H Q ->
    ∃ T id,typeLookup (.type T) "__getitem__"=pure (some (.builtin id))/\s.TypeIs v T/\wpAny (model X.prog X.w) X.A (getItem v (.ref sl)) (EP X pins σ Q) X.xe s
def tSl (r:V->Option Int->Option Int->Hp->VK->Prop) (te:TE) (tl th:TO):TE:=fun σ H Q=>te σ H fun x H1=>tl σ H1 fun l H2=>th σ H2 fun u H3=>r x l u H3 Q
theorem pe_slice {r:V->Option Int->Option Int->Hp->VK->Prop} (hr:SlR X r) (he:PE X e te) (hl:PO X lo tl) (hu:PO X hi th):PE X (.Subscript e (.Slice lo hi none p2) pos) (tSl r te tl th):=by
  intro pins s σ H Q I h
  refine Subscript_ (thn (he pins s σ H _ I h) fun v s1 ⟨x,H1,I1,r1,q1⟩=>?_)
  refine wpAny_Slice (thn (hl pins s1 σ H1 _ I1 q1) fun vl s2 ⟨l,H2,I2,pl,q2⟩=>thn (hu pins s2 σ H2 _ I2 q2) fun vu s3 ⟨u,H3,I3,pu,q3⟩=>?_)
  rw [evalPart_none]
  refine wpAny_pure ?_
  have I4:Inv X pins σ H3 { s3 with heap:=s3.heap.push { cls:=.type "slice",data:=.fields #[vl,vu,.none] } }:=I3.kept (t':=s3.toks) fun b ob q=>Heap.get?_push_of_some _ q
  obtain ⟨T,id,hT,ht,hg⟩:=hr pins { s3 with heap:=s3.heap.push { cls:=.type "slice",data:=.fields #[vl,vu,.none] } } σ H3 x v vl vu l u s3.heap.objs.size Q I4 r1 (Heap.IsSliceOf.new ..) pl pu q3
  show wpAny (model X.prog X.w) X.A (subscriptTail e (.Slice lo hi none p2) v (.ref s3.heap.objs.size)) (EP X pins σ Q) X.xe { s3 with heap:=s3.heap.push { cls:=.type "slice",data:=.fields #[vl,vu,.none] } }
  exact tail_any (ops:=[.ref s3.heap.objs.size,v]) ht hT hg (by with_unfolding_all rfl)
def cutV (xs:List V) (lo hi:Option Int):List V:=(xs.drop (HT.sIx xs.length 0 lo)).take (HT.sIx xs.length xs.length hi - HT.sIx xs.length 0 lo)
theorem cutV_length (xs:List V) (lo hi:Option Int):(cutV xs lo hi).length <= xs.length:=by
  unfold cutV
  rw [List.length_take,List.length_drop]
  omega
end
end L2
namespace L2
open PySem PySem.Spec PyProof.Rows
def ixN (n:Nat) (i:Int):Option Nat:=if 0 <= i then (if i < n then some i.toNat else none) else if -(n:Int) <= i then some (i + n).toNat else none
def atI {α:Type} (xs:List α) (i:Int):Option α:=(ixN xs.length i).bind fun j=>xs[j]?
theorem ixN_seq {n:Nat} {i:Int} {j:Nat} (h:ixN n i=some j):seqIndex? i n=some j/\j < n/\-(n:Int) <= i/\i < n:=by
  unfold ixN at h
  by_cases h0:0 <= i
  · rw [if_pos h0] at h
    by_cases h1:i < n
    · rw [if_pos h1] at h
      have e:i.toNat=j:=Option.some.inj h
      exact ⟨by rw [seqIndex_of h0 h1,e],by omega,by omega,h1⟩
    · rw [if_neg h1] at h;cases h
  · rw [if_neg h0] at h
    by_cases h1:-(n:Int) <= i
    · rw [if_pos h1] at h
      have e:(i + n).toNat=j:=Option.some.inj h
      exact ⟨by rw [seqIndex_neg (by omega) h1,e],by omega,h1,by omega⟩
    · rw [if_neg h1] at h;cases h
theorem atI_get {α:Type} {xs:List α} {i:Int} {v:α} (h:atI xs i=some v):∃ j,seqIndex? i xs.length=some j/\xs[j]?=some v/\j < xs.length/\-(xs.length:Int) <= i/\i < xs.length:=by
  unfold atI at h
  cases e:ixN xs.length i with
  | none=>rw [e] at h;cases h
  | some j =>
    rw [e] at h
    obtain ⟨h1,h2,h3,h4⟩:=ixN_seq e
    exact ⟨j,h1,h,h2,h3,h4⟩
theorem atI_nat {α:Type} {xs:List α} {j:Nat} {v:α} (h:xs[j]?=some v):atI xs (j:Int)=some v:=by
  have hj:j < xs.length:=(List.getElem?_eq_some_iff.mp h).1
  have e:ixN xs.length (j:Int)=some j:=by
    unfold ixN
    rw [if_pos (by omega),if_pos (by omega)];simp
  unfold atI;rw [e];exact h
def PlainIx (b:Expr):Prop:=∀ o i,subscripted b false o i=operate [o,i] (getItem o i)
def IxR (X:Cx) (r:R2):Prop :=
  ∀ (value slice:Expr) (pins:List (Addr × Obj)) (s:Shared) (σ:St) (H:Hp) (x y:V) (v u:Value) (Q:VK),Inv X pins σ H s->RelV x v->RelV y u->r x y H Q ->
    subscripted slice false v u=operate [v,u] (getItem v u)->wpAny (model X.prog X.w) X.A (subscriptTail value slice v u) (EP X pins σ Q) X.xe s
def MtR (X:Cx) (id:String) (r:V->List V->Hp->VK->Prop):Prop :=
  ∀ (pins:List (Addr × Obj)) (s:Shared) (σ:St) (H:Hp) (x:V) (xs:List V) (v:Value) (us:List Value) (Q:VK),Inv X pins σ H s->RelV x v->Vals xs us->r x xs H Q ->
    wpAny (model X.prog X.w) X.A (call (.builtin id) (v :: us)) (EP X pins σ Q) X.xe s
section
variable {X:Cx} {a b:Expr} {ta tb:TE} {pos:Pos}
theorem pe_ix {r:R2} (hr:IxR X r) (ha:PE X a ta) (hb:PE X b tb) (hs:PlainIx b):PE X (.Subscript a b pos) (tOp r ta tb):=by
  intro pins s σ H Q I h
  exact Subscript_ (binT ha hb I h fun v u s2 x y H2 I2 rx ry q=>hr a b pins s2 σ H2 x y v u Q I2 rx ry q (hs _ _))
def rIxL (K:PySem.W.Frag):R2:=fun x y H Q=>∃ p xs i v,x=.ref p/\y=.int i/\SqL K H p xs/\atI xs i=some v/\Q v H
def rIxS:R2:=fun x y H Q=>∃ z i c,x=.str z/\y=.int i/\z.length <= sizeLine/\atI z.cps.toList i=some c/\Q (.str ⟨#[c]⟩) H
theorem ix_list:IxR X (rIxL X.K):=by
  intro value slice pins s σ H x y v u Q I rx ry h hs
  obtain ⟨p,xs,i,z,rfl,rfl,hq,he,q⟩:=h
  cases rx
  obtain ⟨t,rfl⟩:=ry
  obtain ⟨its,r,pl,hz⟩:=I.list hq
  obtain ⟨j,h1,h2,h3,h4,h5⟩:=atI_get he
  obtain ⟨w,ew,rw'⟩:=r.get h2
  have hl:=r.length
  have hn:=line63
  have fin:EP X pins σ Q w s:=⟨z,H,I,rw',q⟩
  by_cases h0:0 <= i
  · have hj:i.toNat=j:=by
      rw [seqIndex_of h0 h5] at h1
      exact Option.some.inj h1
    exact item_listR pl.isList h0 (by omega) (by rw [hj];simpa using ew) fin hs
  · have hj:(i + (its.toArray.size:Int)).toNat=j:=by
      rw [seqIndex_neg (by omega) h4] at h1
      rw [List.size_toArray,<- hl]
      exact Option.some.inj h1
    exact subscriptTail_builtinR (x:=w) pl.isList.typeIs slot_list_getitem.lookup
      (wpAny_getItem_list_neg (Q:=fun r s'=>r=w/\EP X pins σ Q r s') pl.isList (by omega) (by rw [List.size_toArray] <;> omega) (by omega) (by rw [hj];simpa using ew) ⟨rfl,fin⟩) hs
theorem ix_str:IxR X rIxS:=by
  intro value slice pins s σ H x y v u Q I rx ry h hs
  obtain ⟨z,i,c,rfl,rfl,hz,he,q⟩:=h
  obtain ⟨t,rfl⟩:=rx
  obtain ⟨t',rfl⟩:=ry
  obtain ⟨j,h1,h2,h3,h4,h5⟩:=atI_get he
  have hl:z.cps.toList.length=z.length:=by simp [Str.length]
  rw [hl] at h1 h4 h5
  have hn:=line63
  exact tail_any (typeIs_str s z t) slot_str_getitem.lookup (getItem_str (c:=c) (by
    have e1:decide (i < -(2 ^ 63:Int))=false:=decide_eq_false (by omega)
    have e2:decide (i ≥ 2 ^ 63)=false:=decide_eq_false (by omega)
    rw [e1,e2,Bool.or_false]) (by rw [h1];simpa using h2) ⟨.str ⟨#[c]⟩,H,I.tok _,⟨_,rfl⟩,q⟩) hs
theorem mapSeq_set (its:List Value) (n j:Nat) (u:Value):Obj.mapSeq (·.setIfInBounds j u) { cls:=.type "list",data:=.seq its.toArray n }={ cls:=.type "list",data:=.seq (its.set j u).toArray n }:=by
  simp [Obj.mapSeq]
theorem Inv.lst {pins:List (Addr × Obj)} {σ:St} {H:Hp} {s:Shared} {p:Addr} {xs:List V} (I:Inv X pins σ H s) (h:H p=some (.lst xs)) :
    ∃ (its:List Value) (n:Nat),Vals xs its/\s.heap.get? p=some { cls:=.type "list",data:=.seq its.toArray n }/\xs.length <= sizeLine:=by
  obtain ⟨z,its,n,r,e⟩:=I.hok p _ h
  exact ⟨its,n,r,e,z⟩
theorem Inv.lstUpd {pins:List (Addr × Obj)} {σ:St} {H:Hp} {s:Shared} {p:Addr} {xs ys:List V} {its its':List Value} {n n':Nat} {f:Obj->Obj} (I:Inv X pins σ H s) (h:H p=some (.lst xs))
    (ho:s.heap.get? p=some { cls:=.type "list",data:=.seq its.toArray n }) (hf:f { cls:=.type "list",data:=.seq its.toArray n }={ cls:=.type "list",data:=.seq its'.toArray n' }) (r:Vals ys its') (hz:ys.length <= sizeLine) (t:Nat) :
    Inv X pins σ (upd H p (.lst ys)) { s with heap:=s.heap.update p f,toks:=t }:=by
  have e:(s.heap.update p f).get? p=some { cls:=.type "list",data:=.seq its'.toArray n' }:=by
    rw [Heap.get?_update_self f ho (by rw [hf] <;> rfl),hf]
  refine I.write (x:=p) (e:=p) (by rw [h];trivial) (.inl rfl) (fun b u hb q=>(Heap.get?_update_other _ _ (Ne.symm hb)).trans q) ⟨_,e⟩ ?_
  exact ⟨hz,its',n',r,e⟩
def rSetL:V->V->V->Hp->(Hp->Prop)->Prop:=fun o i v H Q=>∃ p xs k j,o=.ref p/\i=.int k/\H p=some (.lst xs)/\ixN xs.length k=some j/\Q (upd H p (.lst (xs.set j v)))
theorem set_list:PSet X rSetL:=by
  intro pins s σ H o i v ov iv u Q I ro ri rv h
  obtain ⟨p,xs,k,j,rfl,rfl,hp,hj,q⟩:=h
  cases ro
  obtain ⟨t,rfl⟩:=ri
  obtain ⟨its,n,r,ho,hz⟩:=I.lst hp
  obtain ⟨h1,h2,h3,h4⟩:=ixN_seq hj
  have hl:=r.length
  have hn:=line63
  have I':Inv X pins σ (upd H p (.lst (xs.set j v))) { s with heap:=s.heap.update p (Obj.mapSeq (·.setIfInBounds j u)) } :=
    I.lstUpd hp ho (mapSeq_set its n j u) (r.set rv j) (by rw [List.length_set];exact hz) s.toks
  by_cases h0:0 <= k
  · have hk:k.toNat=j:=by
      rw [seqIndex_of h0 h4] at h1
      exact Option.some.inj h1
    exact PySem.W.ki_setAt ho h0 (by omega) (by rw [List.size_toArray,<- hl];exact h4) (by rw [hk];exact ⟨_,I',q⟩)
  · have hk:(k + (its.toArray.size:Int)).toNat=j:=by
      rw [seqIndex_neg (by omega) h3] at h1
      rw [List.size_toArray,<- hl]
      exact Option.some.inj h1
    exact PySem.W.ki_setBack ho (by omega) (by rw [List.size_toArray,<- hl];exact h3) (by omega) (by rw [hk];exact ⟨_,I',q⟩)
theorem slice_bounds (lo hi:Option Int) (n:Nat):(sliceBounds lo hi none n).1=((HT.sIx n 0 lo:Nat):Int)/\(sliceBounds lo hi none n).2.1=((HT.sIx n n hi:Nat):Int)/\(sliceBounds lo hi none n).2.2=1:=by
  refine ⟨?_,?_,rfl⟩
  · cases lo with
    | none=>simp [sliceBounds,HT.sIx]
    | some i =>
      simp only [sliceBounds,HT.sIx,Option.getD_none,show (1:Int) > 0 by decide,if_true]
      by_cases h:i < 0
      · simp only [h,if_true] <;> omega
      · simp only [h,if_false] <;> omega
  · cases hi with
    | none=>simp [sliceBounds,HT.sIx]
    | some i =>
      simp only [sliceBounds,HT.sIx,Option.getD_none,show (1:Int) > 0 by decide,if_true]
      by_cases h:i < 0
      · simp only [h,if_true] <;> omega
      · simp only [h,if_false] <;> omega
theorem slicePick_cut (its:List Value) (lo hi:Option Int):slicePick its.toArray lo hi none=((its.drop (HT.sIx its.length 0 lo)).take (HT.sIx its.length its.length hi - HT.sIx its.length 0 lo)).toArray:=by
  obtain ⟨h1,h2,h3⟩:=slice_bounds lo hi its.toArray.size
  unfold slicePick
  rw [h1,h2,h3]
  simp only [sliceRange_one,pick_run,List.size_toArray] <;> rfl
def rSlL (K:PySem.W.Frag):V->Option Int->Option Int->Hp->VK->Prop:=fun x lo hi H Q=>∃ a xs,x=.ref a/\SqL K H a xs/\∀ p,H p=none->Q (.ref p) (upd H p (.lst (cutV xs lo hi)))
theorem sl_list:SlR X (rSlL X.K):=by
  intro pins s σ H x v vl vu lo hi sl Q I rx hs pl pu h
  obtain ⟨a,xs,rfl,hx,q⟩:=h
  cases rx
  obtain ⟨its,r,ht,hz⟩:=I.list hx
  have hlen:=r.length
  refine ⟨"list",_,slot_list_getitem.lookup,ht.isList.typeIs,?_⟩
  refine wpAny_getItem_list_slice ht.isList hs pl pu .none (by simp) ?_ (by rw [List.size_toArray] <;> omega)
  rw [slicePick_cut,<- hlen]
  refine ⟨.ref s.heap.objs.size,_,I.laid (t':=s.toks) (o:=.lst (cutV xs lo hi)) (fun b ob q=>Heap.get?_push_of_some _ q) (Nat.le_refl _) ?_,rfl,q _ (I.hok.fresh (Nat.le_refl _))⟩
  exact ⟨Nat.le_trans (cutV_length xs lo hi) hz,_,0,(r.drop (HT.sIx xs.length 0 lo)).take (HT.sIx xs.length xs.length hi - HT.sIx xs.length 0 lo),Heap.get?_push_size _ rfl⟩
def flatV:V->Bool
  | .non=>true
  | .bl _=>true
  | .int _=>true
  | .str _=>true
  | _=>false
def eqV:V->V->Bool
  | .non,.non=>true
  | .bl a,.bl b=>a == b
  | .bl a,.int b=>(if a then 1 else 0) == b
  | .int a,.bl b=>a == (if b then 1 else 0)
  | .int a,.int b=>a == b
  | .str a,.str b=>a == b
  | _,_=>false
theorem eqAt_V {A:Around} {s:Shared} {y x:V} {u v:Value} (ry:RelV y u) (rx:RelV x v) (fy:flatV y=true) (fx:flatV x=true):SeqAt.EqAt A s u v (eqV y x):=by
  cases y with
  | non =>
    cases ry
    cases x with
    | non=>cases rx;exact SeqAt.EqAt.same _
    | bl b=>cases rx;exact SeqAt.EqAt.none_bool b
    | int b=>obtain ⟨t,rfl⟩:=rx;exact SeqAt.EqAt.none_int b t
    | str b=>obtain ⟨t,rfl⟩:=rx;exact SeqAt.EqAt.none_str b t
    | _=>exact absurd (show false=true from fx) Bool.false_ne_true
  | bl a =>
    cases ry
    cases x with
    | non=>cases rx;exact SeqAt.EqAt.bool_none a
    | bl b=>cases rx;exact SeqAt.EqAt.bool_bool a b
    | int b=>obtain ⟨t,rfl⟩:=rx;exact SeqAt.EqAt.bool_int a b t
    | str b=>obtain ⟨t,rfl⟩:=rx;exact SeqAt.EqAt.bool_str a b t
    | _=>exact absurd (show false=true from fx) Bool.false_ne_true
  | int a =>
    obtain ⟨t',rfl⟩:=ry
    cases x with
    | non=>cases rx;exact SeqAt.EqAt.int_none a t'
    | bl b=>cases rx;exact SeqAt.EqAt.int_bool a t' b
    | int b=>obtain ⟨t,rfl⟩:=rx;exact SeqAt.EqAt.int_int a t' b t
    | str b=>obtain ⟨t,rfl⟩:=rx;exact SeqAt.EqAt.int_str a t' b t
    | _=>exact absurd (show false=true from fx) Bool.false_ne_true
  | str a =>
    obtain ⟨t',rfl⟩:=ry
    cases x with
    | non=>cases rx;exact SeqAt.EqAt.str_none a t'
    | bl b=>cases rx;exact SeqAt.EqAt.str_bool a t' b
    | int b=>obtain ⟨t,rfl⟩:=rx;exact SeqAt.EqAt.str_int a t' b t
    | str b=>obtain ⟨t,rfl⟩:=rx;exact SeqAt.EqAt.str_str a t' b t
    | _=>exact absurd (show false=true from fx) Bool.false_ne_true
  | _=>exact absurd (show false=true from fy) Bool.false_ne_true
def eqU (x:V) (u:Value):Bool:=match u with
  | .none=>eqV .non x
  | .bool b=>eqV (.bl b) x
  | .int i _=>eqV (.int i) x
  | .str z _=>eqV (.str z) x
  | _=>false
theorem eqU_of {x y:V} {u:Value} (r:RelV y u) (f:flatV y=true):eqU x u=eqV y x:=by
  cases y with
  | non=>cases r;rfl
  | bl b=>cases r;rfl
  | int i=>obtain ⟨t,rfl⟩:=r;rfl
  | str z=>obtain ⟨t,rfl⟩:=r;rfl
  | _=>exact absurd (show false=true from f) Bool.false_ne_true
theorem any_eqU {x:V}:∀ {xs:List V} {us:List Value},Vals xs us->xs.all flatV=true->us.any (eqU x)=xs.any fun y=>eqV y x
  | _,_,.nil,_=>rfl
  | y :: xs,u :: us,.cons r t,f=>by
    rw [List.all_cons,Bool.and_eq_true] at f
    rw [List.any_cons,List.any_cons,eqU_of r f.1,any_eqU t f.2]
theorem mem_eqAt {A:Around} {s:Shared} {x:V} {v:Value} (rx:RelV x v) (fx:flatV x=true):∀ {xs:List V} {us:List Value},Vals xs us->xs.all flatV=true->∀ u ∈ us,SeqAt.EqAt A s u v (eqU x u)
  | _,_,.nil,_=>fun u hu=>by cases hu
  | y :: xs,u :: us,.cons r t,f=>fun u' hu=>by
    rw [List.all_cons,Bool.and_eq_true] at f
    rcases List.mem_cons.mp hu with rfl | hu
    · rw [eqU_of r f.1];exact eqAt_V r rx f.1 fx
    · exact mem_eqAt rx fx t f.2 u' hu
def inV (x:V) (xs:List V):Bool:=xs.any fun y=>eqV y x
def rIn (K:PySem.W.Frag) (neg:Bool):R2:=fun x y H Q=>∃ p xs,y=.ref p/\(SqL K H p xs ∨ SqT K H p xs)/\flatV x=true/\xs.all flatV=true/\Q (.bl (if neg then !inV x xs else inV x xs)) H
theorem op_in_seq:OpR X (compareOp .In) (rIn X.K false):=by
  intro pins s σ H x y v u Q I rx ry h
  obtain ⟨p,xs,rfl,hq,fx,fs,q⟩:=h
  cases ry
  rcases hq with hq | hq
  · obtain ⟨its,r,pl,hz⟩:=I.list hq
    refine SeqAt.in_listAt (eqU x) pl.isList (fun w hw=>mem_eqAt rx fx r fs w (by simpa using hw)) ⟨.bl _,H,I,rfl,?_⟩
    rw [show its.toArray.any (eqU x)=its.any (eqU x) by simp,any_eqU r fs]
    exact q
  · obtain ⟨its,r,pl,hz⟩:=I.tuple hq
    refine SeqAt.in_tupleAt (eqU x) pl (fun w hw=>mem_eqAt rx fx r fs w (by simpa using hw)) ⟨.bl _,H,I,rfl,?_⟩
    rw [show its.toArray.any (eqU x)=its.any (eqU x) by simp,any_eqU r fs]
    exact q
theorem call_len_seq:CallR X (.builtin "len") (fun xs H Q=>∃ p ys,xs=[.ref p]/\(SqL X.K H p ys ∨ SqT X.K H p ys)/\Q (.int ys.length) H):=by
  intro pins s σ H xs us Q I r h
  obtain ⟨p,ys,rfl,hq,q⟩:=h
  obtain ⟨u,rfl,rx⟩:=vals1 r
  cases rx
  have hn:=line63
  rcases hq with hq | hq
  · obtain ⟨its,r',pl,hz⟩:=I.list hq
    have hlen:=r'.length
    exact Calls.call_len_list pl.isList (by simp only [List.size_toArray] <;> omega) ⟨.int ys.length,H,I.tok _,⟨s.toks + 1,by rw [List.size_toArray,hlen]⟩,q⟩
  · obtain ⟨its,r',pl,hz⟩:=I.tuple hq
    have hlen:=r'.length
    exact len_tuple pl (by simp only [List.size_toArray] <;> omega) ⟨.int ys.length,H,I.tok _,⟨s.toks + 1,by rw [List.size_toArray,hlen]⟩,q⟩
theorem call_len_str:CallR X (.builtin "len") (fun xs H Q=>∃ z,xs=[.str z]/\z.length <= sizeLine/\Q (.int z.length) H):=by
  intro pins s σ H xs us Q I r h
  obtain ⟨z,rfl,hz,q⟩:=h
  obtain ⟨u,rfl,t,rfl⟩:=vals1 r
  have hn:=line63
  exact len_str (by omega) ⟨.int z.length,H,I.tok _,⟨_,rfl⟩,q⟩
theorem call_tuple_of:CallR X (.type "tuple") (fun xs H Q=>∃ p ys,xs=[.ref p]/\((SqL X.K H p ys/\∀ l,H l=none->Q (.ref l) (upd H l (.tup ys))) ∨ (SqT X.K H p ys/\Q (.ref p) H))):=by
  intro pins s σ H xs us Q I r h
  obtain ⟨p,ys,rfl,h⟩:=h
  obtain ⟨u,rfl,rx⟩:=vals1 r
  cases rx
  rcases h with ⟨hq,q⟩ | ⟨hq,q⟩
  · obtain ⟨its,r',pl,hz⟩:=I.list hq
    have hlen:=r'.length
    refine call_tuple_list pl.isList (fun h' kp=>?_) (by simp only [List.size_toArray] <;> omega)
    have I1:Inv X pins σ H { s with heap:=h' }:=I.kept (t':=s.toks) kp
    have I2:Inv X pins σ (upd H h'.objs.size (.tup ys)) { s with heap:=h'.push { cls:=.type "tuple",data:=.seq its.toArray } } :=
      I1.laid (t':=s.toks) (fun b o e=>Heap.get?_push_of_some _ e) (Nat.le_refl _) (show ObjOk X.prog X.w _ _ _ (.tup ys) from ⟨hz,its,r',IsTup.new _ _⟩)
    exact ⟨.ref h'.objs.size,_,I2,rfl,q _ (I1.hok.fresh (Nat.le_refl _))⟩
  · obtain ⟨its,r',pl,hz⟩:=I.tuple hq
    exact call_tuple_same pl ⟨.ref p,H,I,rfl,q⟩
def tyV (K:PySem.W.Frag) (T:String) (x:V) (H:Hp):Prop:=match x with
  | .str _=>T="str"
  | .int _=>T="int"
  | .ref p=>(T="list"/\∃ xs,SqL K H p xs) ∨ (T="tuple"/\∃ o,K.lookup p=some o/\o.cls=.type "tuple"/\o.dict=none) ∨
      (T="dict"/\((∃ kvs,H p=some (.dK kvs)) ∨ ∃ kvs,H p=some (.dT kvs))) ∨ (T="set"/\∃ S n,H p=some (.set S n))
  | _=>False
theorem tyV_is {pins:List (Addr × Obj)} {σ:St} {H:Hp} {s:Shared} {T:String} {x:V} {v:Value} (I:Inv X pins σ H s) (r:RelV x v) (ty:tyV X.K T x H) :
    s.TypeIs v T/\∀ a,v=.ref a->∃ ob,s.heap.get? a=some ob/\ob.dict=none:=by
  cases x with
  | str z =>
    obtain ⟨t,rfl⟩:=r
    cases (show T="str" from ty)
    exact ⟨typeIs_str s z t,fun _ e=>nomatch e⟩
  | int i =>
    obtain ⟨t,rfl⟩:=r
    cases (show T="int" from ty)
    exact ⟨typeIs_int s i t,fun _ e=>nomatch e⟩
  | ref p =>
    cases r
    rcases ty with ⟨rfl,xs,hq⟩ | ⟨rfl,o,hk,hc,hd⟩ | ⟨rfl,hk⟩ | ⟨rfl,S,n,hk⟩
    · obtain ⟨its,_,pl,_⟩:=I.list hq
      refine ⟨pl.isList.typeIs,fun a e=>?_⟩
      cases e
      obtain ⟨o,n,e,c,hd,_⟩:=pl
      exact ⟨o,e,hd⟩
    · refine ⟨⟨o,I.kIn p o hk,hc⟩,fun a e=>?_⟩
      cases e
      exact ⟨o,I.kIn _ o hk,hd⟩
    · have z:∃ o,s.heap.get? p=some o/\o.ExactDict:=by
        rcases hk with ⟨kvs,hk⟩ | ⟨kvs,hk⟩
        · obtain ⟨_,_,_,_,o,_,_,e,ex,_⟩:=I.hok p _ hk
          exact ⟨o,e,ex⟩
        · obtain ⟨_,_,_,_,o,_,_,e,ex,_⟩:=I.hok p _ hk
          exact ⟨o,e,ex⟩
      obtain ⟨o,e,ex⟩:=z
      refine ⟨⟨o,e,ex.1⟩,fun a e2=>?_⟩
      cases e2
      exact ⟨o,e,ex.2.1⟩
    · obtain ⟨o,_,_,_,e,ex,_⟩:=I.hok p _ hk
      refine ⟨⟨o,e,ex.1⟩,fun a e2=>?_⟩
      cases e2
      exact ⟨o,e,ex.2.1⟩
  | _=>exact False.elim ty
def tBM (K:PySem.W.Frag) (T:String) (r:V->List V->Hp->VK->Prop) (to:TE) (t:TA):TE:=fun σ H Q=>to σ H fun x H1=>tyV K T x H1/\t σ H1 fun xs H2=>r x xs H2 Q
variable {o e:Expr} {es:List Expr} {to:TE} {t:TA} {name:Str} {apos cpos:Pos} {T id:String} {r:V->List V->Hp->VK->Prop}
theorem pe_bm (pa:PlainAttrs T) (slot:Slot T name id) (hty:typeOf (.builtin id)=pure (.type "method_descriptor")) (hm:MtR X id r) (ho:PE X o to) (ha:PA X (e :: es) t)
    (hbase:attributeBase o name X.env (eval o X.env)=eval o X.env:=by rfl)
    (hfew:((backTo cpos (starEach (e :: es) X.env)).all (fun x=>!x.1) && (backToKw cpos (keywordEach [] X.env)).all (fun x=>x.1.isSome)
      && decide ((e :: es).length + ([]:List Keyword).length + (if ([]:List Keyword).isEmpty then 0 else 1) < 30))=true:=by rfl)
    (hline:(apos.endLine == cpos.line)=true:=by rfl) (hs:starEach (e :: es) X.env=(false,eval e X.env) :: starEach es X.env:=by rfl) (hplain:(backTo cpos (starEach es X.env)).any (·.1)=false:=by rfl) :
    PE X (.Call (.Attribute o name apos) (e :: es) [] cpos) (tBM X.K T r to t):=by
  intro pins s σ H Q I h
  refine wpAny_Call_method_late hbase hfew hline rfl (thn (ho pins s σ H _ I h) fun v s1 ⟨x,H1,I1,r1,ty,q1⟩=>?_)
  obtain ⟨h1,h2⟩:=tyV_is I1 r1 ty
  refine ⟨T,id,pa,slot,hty,h1,h2,?_⟩
  have hA:=ha cpos pins s1 σ H1 _ I1 q1
  rw [hs] at hA ⊢
  refine Calls.callWith_builtin (by show (false || (backTo cpos (starEach es X.env)).any (·.1))=false;rw [hplain] <;> rfl) (Calls.evalArgs_plain ?_)
  exact thn hA fun us s2 ⟨vs,H2,I2,r2,q2⟩=>hm pins s2 σ H2 x vs v us Q I2 r1 r2 q2
/- xs.append(e),list.index on a module's tuple .. are MtR facts of 06m -/
end
end L2
namespace L2
open PySem PySem.Spec PyProof.Rows
def MtM (X:Cx) (id:String) (r:V->List V->Hp->VK->Prop):Prop :=
  ∀ (pins:List (Addr × Obj)) (s:Shared) (σ:St) (H:Hp) (x:V) (xs:List V) (v:Value) (us:List Value) (Q:VK),Inv X pins σ H s->RelV x v->Vals xs us->r x xs H Q ->
    wpAny (model X.prog X.w) X.A (call (.builtin id) (v :: us)) (EP X pins σ Q) X.xe s
theorem Vals.one:∀ {x:V} {us:List Value},Vals [x] us->∃ u,us=[u]/\RelV x u
  | _,_,.cons r .nil=>⟨_,rfl,r⟩
theorem Vals.two:∀ {x y:V} {us:List Value},Vals [x,y] us->∃ u v,us=[u,v]/\RelV x u/\RelV y v
  | _,_,_,.cons r (.cons q .nil)=>⟨_,_,rfl,r,q⟩
theorem Vals.eraseIdx:∀ {xs:List V} {us:List Value} (i:Nat),Vals xs us->Vals (xs.eraseIdx i) (us.eraseIdx i)
  | _,_,_,.nil=>.nil
  | _,_,0,.cons _ t=>t
  | _,_,i + 1,.cons r t=>.cons r (Vals.eraseIdx i t)
theorem len_erase {α:Type}:∀ (l:List α) (i:Nat),(l.eraseIdx i).length <= l.length
  | [],_=>Nat.le_refl _
  | _ :: _,0=>Nat.le_succ _
  | _ :: r,i + 1=>Nat.succ_le_succ (len_erase r i)
section
variable {X:Cx} {pins:List (Addr × Obj)} {σ:St} {H:Hp} {s:Shared} {l b:Addr} {xs ys zs:List V}
theorem Inv.lset {its its':List Value} {n:Nat} {f:Array Value->Array Value} {t':Nat} (I:Inv X pins σ H s) (hH:H l=some (.lst xs))
    (e:s.heap.get? l=some { cls:=.type "list",data:=.seq its.toArray n }) (hf:f its.toArray=its'.toArray) (hv:Vals ys its') (hz:ys.length <= sizeLine) :
    Inv X pins σ (upd H l (.lst ys)) { s with heap:=s.heap.update l (Obj.mapSeq f),toks:=t' }:=by
  have q:=PySem.IsL.update e f
  rw [hf] at q
  refine I.write (x:=l) (e:=l) (by rw [hH];exact trivial) (.inl rfl) (fun b' u hb hu=>(Heap.get?_update_other s.heap (Obj.mapSeq f) (Ne.symm hb)).trans hu) ⟨_,q⟩ ?_
  exact ⟨hz,its',_,hv,q⟩
theorem Inv.lnew {its:List Value} {t':Nat} (I:Inv X pins σ H s) (hv:Vals ys its) (hz:ys.length <= sizeLine) :
    Inv X pins σ (upd H s.heap.objs.size (.lst ys)) { s with heap:=s.heap.push { cls:=.type "list",data:=.seq its.toArray },toks:=t' } :=
  I.laid (fun _ _ q=>Heap.get?_push_of_some _ q) (Nat.le_refl _) ⟨hz,its,0,hv,Heap.get?_push_size _ rfl⟩
theorem Inv.fresh (I:Inv X pins σ H s):H s.heap.objs.size=none:=I.hok.fresh (Nat.le_refl _)
theorem Inv.lstM (I:Inv X pins σ H s) (hH:H l=some (.lst xs)):xs.length <= sizeLine/\∃ (its:List Value) (n:Nat),Vals xs its/\xs.length=its.length/\s.heap.get? l=some { cls:=.type "list",data:=.seq its.toArray n }:=by
  obtain ⟨z,its,n,r,e⟩:=I.hok l _ hH
  exact ⟨z,its,n,r,r.length,e⟩
end
section
variable {X:Cx}
def rAppend:V->List V->Hp->VK->Prop:=fun x vs H Q=>∃ l xs y,x=.ref l/\vs=[y]/\H l=some (.lst xs)/\xs.length < sizeLine/\Q .non (upd H l (.lst (xs ++ [y])))
theorem mt_append:MtM X "list.append" rAppend:=by
  intro pins s σ H x vs v us Q I rx rv h
  obtain ⟨l,xs,y,rfl,rfl,hH,hz,q⟩:=h
  cases rx
  obtain ⟨u,rfl,ru⟩:=rv.one
  obtain ⟨z,its,n,r,hl,e⟩:=I.lstM hH
  refine call_meets F.slot_list_append ⟨_,e,rfl⟩ F.entry_list_append (F.args_list_append_2 _ _) (PySem.list_append l its.toArray n u (by rw [List.size_toArray];omega)) ⟨e,?_⟩
  refine ⟨.non,_,I.lset (its':=its ++ [u]) hH e (by simp) (r.append (.cons ru .nil)) ?_,rfl,q⟩
  rw [List.length_append,List.length_singleton]
  omega
def rPopAt:V->List V->Hp->VK->Prop:=fun x vs H Q=>∃ l xs i k y,x=.ref l/\vs=[.int i]/\H l=some (.lst xs)/\-(2 ^ 63) <= i/\i < 2 ^ 63/\seqIndex? i xs.length=some k/\xs[k]?=some y/\Q y (upd H l (.lst (xs.eraseIdx k)))
theorem mt_popAt:MtM X "list.pop" rPopAt:=by
  intro pins s σ H x vs v us Q I rx rv h
  obtain ⟨l,xs,i,k,y,rfl,rfl,hH,h1,h2,hk,hy,q⟩:=h
  cases rx
  obtain ⟨u,rfl,ru⟩:=rv.one
  obtain ⟨t,rfl⟩:=ru
  obtain ⟨z,its,n,r,hl,e⟩:=I.lstM hH
  obtain ⟨w,hw,rw'⟩:=r.get hy
  refine call_meets F.slot_list_pop ⟨_,e,rfl⟩ F.entry_list_pop (F.args_list_pop_2 _ _)
    (MeetsSeq.list_pop_at l its.toArray n i t k w (fitsIndex_both h1 h2) (by rw [List.size_toArray,<- hl];exact hk) (by rw [<- Array.getElem?_toList];exact hw) (by rw [List.size_toArray];omega)) ⟨e,?_⟩
  refine ⟨y,_,I.lset (its':=its.eraseIdx k) hH e ?_ (r.eraseIdx k) ?_,rw',q⟩
  · show its.toArray.eraseIdxIfInBounds k=(its.eraseIdx k).toArray
    rw [List.eraseIdxIfInBounds_toArray]
  · have:=len_erase xs k
    omega
def rCat:R2:=fun x y H Q=>∃ l b xs zs,x=.ref l/\y=.ref b/\H l=some (.lst xs)/\H b=some (.lst zs)/\xs.length + zs.length <= sizeLine/\∀ p,H p=none->Q (.ref p) (upd H p (.lst (xs ++ zs)))
theorem op_cat:OpR X (binaryOp .Add) rCat:=by
  intro pins s σ H x y v u Q I rx ry h
  obtain ⟨l,b,xs,zs,rfl,rfl,hH,hB,hz,q⟩:=h
  cases rx
  cases ry
  obtain ⟨z,its,n,r,hl,e⟩:=I.lstM hH
  obtain ⟨z2,its2,n2,r2,hl2,e2⟩:=I.lstM hB
  refine PySem.P.add_list e e2 ?_ (by rw [List.size_toArray,List.size_toArray];omega)
  have ea:its.toArray ++ its2.toArray=(its ++ its2).toArray:=by simp
  rw [ea]
  exact ⟨.ref _,_,I.lnew (t':=s.toks) (r.append r2) (by rw [List.length_append];omega),rfl,q _ I.fresh⟩
end
section
variable {prog:Program} {w:World} {A:Around} {E:Value->Shared->Prop} {s:Shared}
set_option maxRecDepth 100000 in
end
section
variable {X:Cx}
end
end L2
namespace Att
open PySem PySem.W PySem.Calls PyProof.Rows
theorem ints_of_wellAll {P:Params} {h:Heap}:∀ (ns:List Int) (vs:List Value),WellAll P h vs (ns.map WData.int)->IntsAre vs ns:=by
  intro ns
  induction ns with
  | nil =>
    intro vs w
    rw [List.map_nil] at w
    cases w
    exact .nil
  | cons n ns ih =>
    intro vs w
    rw [List.map_cons] at w
    cases w with
    | cons a b =>
      cases a
      exact .cons _ _ (ih _ b)
theorem script_of {l:OpenLaw} {n:Nat} (hn:l.most=some n) {P:Params} {h:Heap} {args:List WData} {vals:List Value}
    (hpre:l.row.toRowW.claim.pre args=true) (hwl:WellAll P h vals args) :
    ∃ a vs ns,vals=[Value.ref a]/\args=[WData.list (ns.map WData.int)]/\h.get? a=some { cls:=.type "list",data:=.seq vs.toArray }/\IntsAre vs ns/\ns.length <= n:=by
  have hsh:WShape.hasAll [] args [.list .int]=true:=(pre_splitW hpre).1
  have hc:l.pre.holds [] { args:=args }=true:=(pre_splitW hpre).2
  obtain ⟨d,r,rfl,h1,h2⟩:=hasAllW_cons hsh
  obtain rfl:=hasAllW_nil h2
  obtain ⟨xs,rfl,h3⟩:=hasW_list h1
  obtain ⟨ns,rfl⟩:=items_int h3
  have hlen:ns.length <= n:=by
    unfold OpenLaw.pre at hc
    have h4:(WTm.not (.lt (.lit (.int (n:Int))) (.len (.arg 0)))).holds [] { args:=[.list (ns.map .int)] }=true:=by
      have h4:=(holds_andW hc).1
      rw [hn] at h4
      exact h4
    have h5:=condW_of h4 (w_not (w_lt w_lit (w_len_list (w_arg rfl))))
    rw [List.length_map] at h5
    refine Nat.le_of_not_lt fun q=>?_
    have q':(n:Int) < ((ns.length:Nat):Int):=by omega
    first
      | (rw [decide_eq_true q'] at h5;exact absurd h5 (by decide))
      | (simp at h5;omega)
  cases hwl with
  | cons w1 w2 =>
    cases w2
    cases w1 with
    | list ho hall=>exact ⟨_,_,ns,rfl,rfl,ho,ints_of_wellAll ns _ hall,hlen⟩
theorem post_true (l:OpenLaw) (args:List WData):l.row.toRowW.claim.post args (.bool true) args=true :=
  postW_of (r:=l.row.toRowW) (X:=(true == true))
    (show WShape.has [] (.bool true) .bool=true by first | rfl | decide | simp [WShape.has,WShape.arms,WShape.armsAll])
    (show (WTm.eq .res (.lit (.bool true))).value [] { args:=args,res:=some (.bool true),after:=args }=some (.bool (true == true)) from w_eq_bool (w_res rfl) w_lit) rfl
theorem attach_call {l:OpenLaw} {n:Nat} {q:Program} {loose:List Str} {XP:(Str->Option Value)->Heap->Prop} {YP:World->Heap->Prop} {d:DefRec}
    (hn:l.most=some n) (hdf:d.params.defaults=[])
    (call:∀ (w:World) (s₀ s₁:Shared) (mg mb:Str->Option Value) (fa:Addr) (o:Obj) (pm cd doc:Value) (a:Addr) (vs:List Value) (ns:List Int),
      Ground q loose [] XP w s₀ mg mb s₁.heap->YP w s₁.heap ->
      s₁.heap.get? fa=some o->o.data=.func (docDef d.name d.params d.body d.scope pm cd doc)->s₁.heap.CodeRec cd d.name->mg d.name=some (.ref fa) ->
      s₁.heap.get? a=some { cls:=.type "list",data:=.seq vs.toArray }->IntsAre vs ns->ns.length <= n->s₁.gens=#[] ->
      codeAny (model l.prog w) callerA (.call (.ref fa) ⟨[.ref a],[]⟩) (fun r s'=>r=.ok (.ret (.bool true))/\OldK s₁.heap s'.heap/\s'.os=s₁.os/\AllBare s'.gens) s₁) :
    WalkO q loose XP YP l.row.toRowW d [] (fun f vs=>PySem.call f vs):=by
  intro w s₀ s₁ mg mb G Y fa o pm cd doc dV kV ho hd hcd hD hmg hg args vals as hpre hlay hrd hwl hlo
  obtain rfl:dV=.none:=Dflts.none hD hdf
  obtain rfl:kV=.none:=Dflts.noKw hD
  obtain ⟨a,vs,ns,rfl,rfl,hobj,hints,hlen⟩:=script_of hn hpre hwl
  refine enter_call (codeAny_mono (call w s₀ s₁ mg mb fa o pm cd doc a vs ns G Y ho (fd_plain hd) hcd hmg hobj hints hlen hg) fun r s' hq=>?_)
  obtain ⟨rfl,h2,h3,h4⟩:=hq
  exact ⟨.inl ⟨.bool true,.bool true,[],rfl,fun _=>rfl,.bool true,post_true l _,fun _=>⟨List.Pairwise.nil,fun _ hm=>(nomatch hm)⟩⟩,h2,h3,h4⟩
section
variable {prog:Program} {w:World} {A:Around} {E:Value->Shared->Prop} {s:Shared} {K:Frag}
end
end Att
namespace L2
open PySem PySem.Spec PyProof.Rows
theorem vals_ints:∀ {vs:List Value} {ns:List Int},IntsAre vs ns->Vals (ns.map V.int) vs
  | _,_,.nil=>.nil
  | _,_,.cons n t h=>.cons ⟨t,rfl⟩ (vals_ints h)
end L2
namespace L2
open PySem PySem.Spec PyProof.Rows
abbrev KOf {K:PySem.W.Frag} {h:Heap} (_:K.In h):PySem.W.Frag:=K
end L2
/- THE LAST THEOREM (shape;LID,My.* are yours):
   My.Adr: a structure of the addresses that your layer names (classes,functions);My.Txt K t: a structure (Prop) of the equations over K;
   My.txt_mk:{K} {implicit addresses ..} (e1:nsIn K mainGlobals "law"=some (some (.ref f))) (e2:K.lookup f=some ⟨oc,od,.func (fnOf "law" "law" params body scope dV kV doc pm an cdv ct),sl⟩) (e3:codeIn K cdv "law"=true) ..:∃ t,My.Txt K t
set_option maxRecDepth 100000 in
set_option maxHeartbeats 0 in
theorem PySem.Challenge.cw_LID_holds:PySem.Challenge.rw_LID.Holds:=by
  w_on;o_law;k_head;(case hw=>w_witness2)
  k_fill
  refine L2.walk_of (l:=PySem.Challenge.rw_LID) (n:=63) (k:=40) (x:="script") (CX:=fun w=>..) (sp:=fun _=>My.sp_law) rfl (by decide) rfl ⟨rfl,by decide,by decide⟩ (fun w h Y=>PySem.W.kIn_of Y) ?F ?S ?C
  case F =>
    intro w mg fa h KX G hmg
    have T:∃ t,My.Txt (L2.KOf KX) t:=by
      dsimp only [L2.KOf]                          -- K must stand as «<heap const> w.params» for k_is
      refine' My.txt_mk ?e1 ?e2 ?e3 ..
      (case e1=>PySem.W.k_is)                    -- in the order: a name->its address->its object->its parts
      (case e2=>PySem.W.k_is)
      ..
    obtain ⟨t,T⟩:=T
    have e0:=hmg.symm.trans (PySem.W.mg_of KX G T.law)
    cases e0                                       -- fa is the law's own address
    exact ⟨_,fun s u=>.of_eq rfl,fun base kb nb=>My.law_fn T kb nb⟩     -- if «.of_eq rfl» comes too early: refine' ⟨_,?b,fun base kb nb=>My.law_fn T kb nb⟩;exact fun s u=>.of_eq rfl
  case S=>exact fun w H a ns hl hO hS=>..
  case C=>exact ..
(the tactic k_is has no namespace: write k_is) -/
namespace L2
open PySem PySem.Spec PyProof.Rows
def defArgs (s:Stmt):Arguments:=match s with
  | .FunctionDef _ a _ _ _ _ _ _ _ _=>a
  | _=>{ posonlyargs:=[],args:=[],vararg:=none,kwonlyargs:=[],kw_defaults:=[],kwarg:=none,defaults:=[] }
def defBody (s:Stmt):List Stmt:=match s with
  | .FunctionDef _ _ b _ _ _ _ _ _ _=>b
  | _=>[]
def defScope (s:Stmt):Scope:=match s with
  | .FunctionDef _ _ _ _ _ _ sc _ _ _=>sc
  | _=>{ kind:=.function,names:=[],isGenerator:=false,isCoroutine:=false }
abbrev CX0:CXT:=fun _ _ _ _ _ _=>False
abbrev E0:XK:=fun _ _ _=>False
theorem pass0 {X:Cx}:Passes CX0 X E0:=fun _ _ _ _ _ _ _ h=>h.elim
structure Fun (K:PySem.W.Frag) (x qual:Str) (st:Stmt) (f:Addr) (fd:FuncData):Prop where
  ex:∃ (oc:Value) (od:Option Addr) (kV doc pm:Value) (an:Option Addr) (cdv ct:Value) (osl:Array (Option Value)),
    fd=PySem.W.fnOf x qual (defArgs st) (defBody st) (defScope st) .none kV doc pm an cdv ct/\K.lookup f=some ⟨oc,od,.func fd,osl⟩/\PySem.W.codeIn K cdv qual=true
  kp:PySem.W.keepIn K (.ref f)=true
section
variable {P:Program} {w:World} {K:PySem.W.Frag} {mg:Str->Option Value} {base:Heap}
theorem Fun.ok {x qual:Str} {st:Stmt} {f:Addr} {fd:FuncData} {N ps:List Str} {k:Nat} {sp:Sp} (F:Fun K x qual st f fd) (S:FnScope N ps (defScope st)) (len:∀ vs H Q E,sp vs H Q E->vs.length=ps.length)
    (hbody:∀ (cdv:Value) (A:Around) (outer:List Env) (s:Shared) (H:Hp) (vs:List V) (Q:VK) (E:XK),Room k (A.deeper (envOfC qual (defScope st) s.heap.objs.size f cdv))->sp vs H Q E ->
      ∃ t,PSs (cxOf CX0 P w K mg base N qual (defScope st) f cdv A outer s H E).nox (defBody st) t/\t { nx:=fun _ H'=>Q .non H',rt:=Q } (start N vs) H):FnOk P w K mg base CX0 (k + 1) f fd ps sp:=by
  obtain ⟨oc,od,kV,doc,pm,an,cdv,ct,osl,rfl,lk,hcd⟩:=F.ex
  refine fn_of lk hcd S len fun A outer s H vs Q E hr hsp=>?_
  obtain ⟨t,h,q⟩:=hbody cdv A outer s H vs Q E hr hsp
  exact ⟨t,h.nox,q⟩
theorem Fun.binds {x qual:Str} {st:Stmt} {f:Addr} {fd:FuncData} {ps:List Str} (F:Fun K x qual st f fd)
    (h:∀ (kV doc pm:Value) (an:Option Addr) (cdv ct:Value) (us:List Value),us.length=ps.length->bindArgs (PySem.W.fnOf x qual (defArgs st) (defBody st) (defScope st) .none kV doc pm an cdv ct) ⟨us,[]⟩=pure (ps.zip us)):Binds K fd ps []:=by
  obtain ⟨oc,od,kV,doc,pm,an,cdv,ct,osl,rfl,lk,hcd⟩:=F.ex
  exact .all (h kV doc pm an cdv ct)
theorem fun_mk {x qual:Str} {st:Stmt} {f:Addr} {oc:Value} {od an:Option Addr} {osl:Array (Option Value)} {kV doc pm cdv ct:Value} (l:K.lookup f=some ⟨oc,od,.func (PySem.W.fnOf x qual (defArgs st) (defBody st) (defScope st) .none kV doc pm an cdv ct),osl⟩)
    (c:PySem.W.codeIn K cdv qual=true) (k:PySem.W.keepIn K (.ref f)=true):Fun K x qual st f (PySem.W.fnOf x qual (defArgs st) (defBody st) (defScope st) .none kV doc pm an cdv ct):=⟨⟨oc,od,kV,doc,pm,an,cdv,ct,osl,rfl,l,c⟩,k⟩
end
theorem hu_of {A:Around} {k:Nat} (hr:Room k A):A.units + 1 < cLine:=Nat.lt_of_le_of_lt (Nat.add_le_add_left (by decide:1 <= 64) _) hr.units
theorem small1000 {n:Nat} (h:n <= 1000):n < sizeLine:=Nat.lt_of_le_of_lt h (by decide)
section
variable {X:Cx}
theorem pv (i:Nat) {x:Str} {pos:Pos} (hN:X.N[i]?=some x:=by rfl) (hv:Vis X.env.scope x:=by first | exact Or.inl rfl | exact Or.inr (Or.inl rfl) | exact Or.inr (Or.inr rfl)) (hd:(x == ("__debug__":Str))=false:=by decide)
    (hcd:(x == ("__classdict__":Str))=false:=by decide):PE X (.Name x pos) (tVar i):=pe_var hN hv hd hcd
end
theorem iteF {A B:Prop} (h:B):if false=true then A else B:=by
  rw [if_neg Bool.false_ne_true]
  exact h
theorem iteT {A B:Prop} (h:A):if true=true then A else B:=by
  rw [if_pos rfl]
  exact h
theorem ite2 {c A B:Prop} [Decidable c] (h1:c->A) (h2:¬ c->B):if c then A else B:=by
  by_cases h:c
  · rw [if_pos h]
    exact h1 h
  · rw [if_neg h]
    exact h2 h
theorem iteNS {c A B:Prop} [Decidable c] (hc:c) (h:B):if (!decide c)=true then A else B:=by
  rw [decide_eq_true hc]
  exact iteF h
def Same (H H':Hp):Prop:=∀ b o,H b=some o->H' b=some o
theorem Same.refl (H:Hp):Same H H:=fun _ _ h=>h
theorem Same.trans {H H1 H2:Hp} (a:Same H H1) (b:Same H1 H2):Same H H2:=fun c o h=>b c o (a c o h)
theorem Same.free {H H':Hp} (e:Same H H') {l:Addr} (h:H' l=Option.none):H l=Option.none:=by
  cases q:H l with
  | none=>rfl
  | some o =>
    rw [e l o q] at h
    cases h
end L2
set_option maxHeartbeats 4000000
namespace L2
open PySem PySem.Spec PyProof.Rows
theorem cellsFrom_app:∀ (names:List (Str × NameKind)) (n:Nat) (acc:List (Str × Addr)),cellsFrom n names acc=cellsFrom n names [] ++ acc
  | [],n,acc=>rfl
  | (x,k) :: r,n,acc=>by
    unfold cellsFrom
    split
    · rw [cellsFrom_app r (n + 1) ((x,n) :: acc),cellsFrom_app r (n + 1) [(x,n)],List.append_assoc]
      rfl
    · exact cellsFrom_app r n acc
def closL (env:Env):List (Str × NameKind)->List (Str × Addr)->List (Str × Addr)
  | [],acc=>acc
  | (x,k) :: r,acc=>if k == .free then closL env r ((x,(env.cells.lookup x).getD 0) :: acc) else closL env r acc
theorem closL_eq {env:Env} (f:Str × NameKind->List (Str × Addr)->Sem (ForInStep (List (Str × Addr))))
    (hf:∀ name kind cs,f (name,kind) cs=if kind == .free then (do let a <- cellOf env name;pure (.yield ((name,a) :: cs))) else pure (.yield cs)) :
    ∀ (names:List (Str × NameKind)) (acc:List (Str × Addr)),(∀ x ∈ names,x.2=.free->∃ c,env.cells.lookup x.1=some c)->forIn names acc f=pure (closL env names acc)
  | [],acc,_=>by rw [List.forIn_nil];rfl
  | (x,k) :: r,acc,h=>by
    have ih:=fun acc=>closL_eq f hf r acc fun y hy=>h y (List.mem_cons_of_mem _ hy)
    rw [List.forIn_cons,hf]
    unfold closL
    by_cases hk:(k == NameKind.free)=true
    · rw [if_pos hk,if_pos hk]
      obtain ⟨c,hc⟩:=h (x,k) List.mem_cons_self (beq_iff_eq.mp hk)
      have hc':env.cells.lookup x=some c:=hc
      have:cellOf env x=pure c:=by unfold cellOf;rw [hc']
      rw [this,hc']
      simp only [pure_bind,Option.getD_some]
      exact ih _
    · rw [if_neg hk,if_neg hk]
      simp only [pure_bind]
      exact ih _
theorem closureFor_eq {scope:Scope} {env:Env} (h:∀ x ∈ scope.names,x.2=.free->∃ c,env.cells.lookup x.1=some c):closureFor scope env=pure (closL env scope.names []):=by
  simp only [closureFor]
  rw [closL_eq (env:=env) _ (fun name kind cs=>by cases hk:kind == NameKind.free <;> simp [hk]) scope.names [] h]
  rfl
theorem closL_mem {env:Env}:∀ {names:List (Str × NameKind)} {acc:List (Str × Addr)} {x:Str} {c:Addr},(∀ x ∈ names,x.2=.free->∃ c,env.cells.lookup x.1=some c) ->
    (x,c) ∈ closL env names acc->(x,c) ∈ acc ∨ env.cells.lookup x=some c
  | [],acc,x,c,_,hm=>.inl hm
  | (y,k) :: r,acc,x,c,h,hm=>by
    have hr:∀ x ∈ r,x.2=.free->∃ c,env.cells.lookup x.1=some c:=fun z hz=>h z (List.mem_cons_of_mem _ hz)
    unfold closL at hm
    by_cases hk:(k == NameKind.free)=true
    · rw [if_pos hk] at hm
      obtain ⟨d,hd⟩:=h (y,k) List.mem_cons_self (beq_iff_eq.mp hk)
      have hd':env.cells.lookup y=some d:=hd
      rcases closL_mem hr hm with q | q
      · rcases List.mem_cons.mp q with e | q
        · cases e
          right;rw [hd'];rfl
        · exact .inl q
      · exact .inr q
    · rw [if_neg hk] at hm
      exact closL_mem hr hm
theorem closL_acc {env:Env}:∀ {names:List (Str × NameKind)} {acc:List (Str × Addr)} {p:Str × Addr},p ∈ acc->p ∈ closL env names acc
  | [],_,_,h=>h
  | (y,k) :: r,acc,p,h=>by
    unfold closL
    split
    · exact closL_acc (List.mem_cons_of_mem _ h)
    · exact closL_acc h
theorem closL_has {env:Env}:∀ {names:List (Str × NameKind)} {acc:List (Str × Addr)} {x:Str},(x,NameKind.free) ∈ names->∃ c,(x,c) ∈ closL env names acc
  | [],_,_,h=>by cases h
  | (y,k) :: r,acc,x,h=>by
    unfold closL
    rcases List.mem_cons.mp h with e | h
    · cases e
      rw [if_pos (by rfl)]
      exact ⟨_,closL_acc List.mem_cons_self⟩
    · split
      · exact closL_has h
      · exact closL_has h
theorem lookup_of_mem {α:Type}:∀ {l:List (Str × α)} {x:Str} {c:α},(x,c) ∈ l->∃ d,l.lookup x=some d
  | (k,v) :: r,x,c,h=>by
    rw [List.lookup_cons]
    cases hb:x == k with
    | true=>exact ⟨v,rfl⟩
    | false =>
      rcases List.mem_cons.mp h with e | h
      · cases e;simp at hb
      · exact lookup_of_mem h
theorem lookup_append_some {α:Type}:∀ {l l':List (Str × α)} {x:Str} {c:α},(l ++ l').lookup x=some c->l.lookup x=some c ∨ (l.lookup x=none/\l'.lookup x=some c)
  | [],l',x,c,h=>.inr ⟨rfl,h⟩
  | (k,v) :: r,l',x,c,h=>by
    rw [List.cons_append,List.lookup_cons] at h
    rw [List.lookup_cons]
    cases hb:x == k with
    | true=>rw [hb] at h;exact .inl h
    | false=>rw [hb] at h;exact lookup_append_some h
theorem lookup_append_left {α:Type}:∀ {l l':List (Str × α)} {x:Str} {c:α},l.lookup x=some c->(l ++ l').lookup x=some c
  | [],l',x,c,h=>by cases h
  | (k,v) :: r,l',x,c,h=>by
    rw [List.cons_append,List.lookup_cons]
    rw [List.lookup_cons] at h
    cases hb:x == k with
    | true=>rw [hb] at h;exact h
    | false=>rw [hb] at h;exact lookup_append_left h
theorem lookup_append_right {α:Type}:∀ {l l':List (Str × α)} {x:Str},l.lookup x=none->(l ++ l').lookup x=l'.lookup x
  | [],l',x,h=>rfl
  | (k,v) :: r,l',x,h=>by
    rw [List.cons_append,List.lookup_cons]
    rw [List.lookup_cons] at h
    cases hb:x == k with
    | true=>rw [hb] at h;cases h
    | false=>rw [hb] at h;exact lookup_append_right h
theorem lookup_relabel {env:Env}:∀ (names:List (Str × NameKind)) (x:Str),
    (names.map fun (n,k)=>if (k == NameKind.free && env.scope.kind == .function && env.kindOf n == some .cell) then (n,NameKind.cell) else (n,k)).lookup x
     =(names.lookup x).map fun k=>if (k == NameKind.free && env.scope.kind == .function && env.kindOf x == some .cell)=true then NameKind.cell else k
  | [],x=>rfl
  | (n,k) :: r,x=>by
    have ih:=lookup_relabel (env:=env) r x
    rw [List.map_cons]
    cases hx:x == n with
    | true =>
      have e:x=n:=beq_iff_eq.mp hx
      subst e
      by_cases hc:(k == NameKind.free && env.scope.kind == .function && env.kindOf x == some .cell)=true
      · simp only [hc,if_true,List.lookup_cons,hx,Option.map_some]
      · simp only [hc,List.lookup_cons,hx,Option.map_some]
        simp
    | false =>
      show List.lookup x ((if (k == NameKind.free && env.scope.kind == .function && env.kindOf n == some .cell)=true then (n,NameKind.cell) else (n,k)) :: _)=_
      by_cases hc:(k == NameKind.free && env.scope.kind == .function && env.kindOf n == some .cell)=true
      · rw [if_pos hc]
        simp only [List.lookup_cons,hx]
        exact ih
      · rw [if_neg hc]
        simp only [List.lookup_cons,hx]
        exact ih
theorem cellsFrom_in:∀ {names:List (Str × NameKind)} {n:Nat} {acc:List (Str × Addr)} {x:Str} {d:Addr},(x,d) ∈ cellsFrom n names acc->(x,d) ∈ acc ∨ (x,NameKind.cell) ∈ names
  | [],_,_,_,_,h=>.inl h
  | (y,k) :: r,n,acc,x,d,h=>by
    unfold cellsFrom at h
    by_cases hk:(k == NameKind.cell)=true
    · rw [if_pos hk] at h
      have e:k=.cell:=beq_iff_eq.mp hk
      subst e
      rcases cellsFrom_in h with q | q
      · rcases List.mem_cons.mp q with z | z
        · cases z;exact .inr List.mem_cons_self
        · exact .inl z
      · exact .inr (List.mem_cons_of_mem _ q)
    · rw [if_neg hk] at h
      rcases cellsFrom_in h with q | q
      · exact .inl q
      · exact .inr (List.mem_cons_of_mem _ q)
def okNames (scope:Scope):Bool:=scope.names.all fun x=>scope.names.lookup x.1 == some x.2
theorem okNames_get {scope:Scope} (h:okNames scope=true) {x:Str × NameKind} (hx:x ∈ scope.names):scope.names.lookup x.1=some x.2:=beq_iff_eq.mp (List.all_eq_true.mp h x hx)
theorem relabel_kind {scope:Scope} {env:Env} {x:Str} (h:(relabel scope env).names.lookup x=some .cell ∨ (relabel scope env).names.lookup x=some .free) :
    scope.names.lookup x=some .cell ∨ scope.names.lookup x=some .free:=by
  unfold relabel at h
  rw [lookup_relabel] at h
  cases e:scope.names.lookup x with
  | none=>rw [e] at h;rcases h with h | h <;> cases h
  | some k =>
    rw [e,Option.map_some] at h
    by_cases hc:(k == NameKind.free && env.scope.kind == .function && env.kindOf x == some .cell)=true
    · rw [Bool.and_eq_true,Bool.and_eq_true] at hc
      exact .inr (by rw [beq_iff_eq.mp hc.1.1])
    · simp only [hc] at h
      simpa using h
theorem newEnv_comp {M:Model} {A:Around} {E:Value->Shared->Prop} {s:Shared} {scope:Scope} {globals:Addr} {cl:List (Str × Addr)} {qual:Str} {env:Env} {Q:Env->Shared->Prop}
    (h:Q (newEnv scope s.heap.objs.size globals (cellsFrom (s.heap.objs.size + 1) scope.names [] ++ cl) qual none .none (some env) builtinsNs)
      { s with heap:=pushCells (s.heap.push { cls:=.type "dict",data:=.dict #[] }) scope.names }) :
    wpAny M A (newFunctionEnv scope globals cl [] qual none .none (some env)) Q E s:=by
  simp only [newFunctionEnv,Option.isSome_some,if_true]
  refine wpAny_bind (wpAny_alloc ?_)
  refine wpAny_bind (wpAny_layCells _ (fun name kind cells=>by cases hkc:kind == NameKind.cell <;> simp [hkc]) _ _ _ _ ?_)
  rw [show ({ s with heap:=s.heap.push { cls:=.type "dict",data:=.dict #[] } }:Shared).heap.objs.size=s.heap.objs.size + 1 from Heap.size_push ..,cellsFrom_app]
  exact wpAny_bind (wpAny_pure (wpAny_pure h))
def Cx.comp (X:Cx) (scope:Scope) (N:List Str) (s:Shared) (H:Hp) (ex:List Addr):Cx where
  prog:=X.prog
  w:=X.w
  K:=X.K
  mg:=X.mg
  base:=X.base
  A:=X.A
  N:=N
  s₀:=s
  H₀:=H
  env:=compEnvC scope (cellsFrom (s.heap.objs.size + 1) scope.names [] ++ closL X.env scope.names []) s.heap.objs.size X.env
  outer:=X.stack
  stack:=X.stack
  ex:=ex
  fn:=fun x=>scope.names.lookup x == some .cell
  calm:=X.calm
  pn:=[]
  xe:=fun _ _=>False
def pick (ix:List (Option Nat)) (σ:St):St:=ix.map fun o=>o.bind fun i=>(σ[i]?).join
def okIx (scope:Scope) (N:List Str):List Str->List (Option Nat)->Bool
  | [],[]=>true
  | _ :: N',none :: ix=>okIx scope N N' ix
  | x :: N',some i :: ix=>N[i]? == some x && scope.names.lookup x == some .free && okIx scope N N' ix
  | _,_=>false
theorem okIx_len {scope:Scope} {N:List Str}:∀ {N':List Str} {ix:List (Option Nat)},okIx scope N N' ix=true->ix.length=N'.length
  | [],[],_=>rfl
  | _ :: N',none :: ix,h=>by simp [okIx_len (N':=N') (ix:=ix) h]
  | x :: N',some i :: ix,h=>by
    unfold okIx at h
    rw [Bool.and_eq_true] at h
    simp [okIx_len (N':=N') (ix:=ix) h.2]
  | [],_ :: _,h=>by simp [okIx] at h
  | _ :: _,[],h=>by simp [okIx] at h
theorem okIx_get {scope:Scope} {N:List Str}:∀ {N':List Str} {ix:List (Option Nat)} {j i:Nat},okIx scope N N' ix=true->ix[j]?=some (some i) ->
    ∃ x,N'[j]?=some x/\N[i]?=some x/\scope.names.lookup x=some .free
  | [],[],j,i,_,e=>by simp at e
  | y :: N',none :: ix,0,i,h,e=>by simp at e
  | y :: N',none :: ix,j + 1,i,h,e=>by
    obtain ⟨x,h1,h2⟩:=okIx_get (N':=N') (ix:=ix) (j:=j) (i:=i) h (by simpa using e)
    exact ⟨x,by simpa using h1,h2⟩
  | y :: N',some k :: ix,0,i,h,e=>by
    unfold okIx at h
    rw [Bool.and_eq_true,Bool.and_eq_true] at h
    simp at e
    subst e
    exact ⟨y,rfl,beq_iff_eq.mp h.1.1,beq_iff_eq.mp h.1.2⟩
  | y :: N',some k :: ix,j + 1,i,h,e=>by
    unfold okIx at h
    rw [Bool.and_eq_true] at h
    obtain ⟨x,h1,h2⟩:=okIx_get (N':=N') (ix:=ix) (j:=j) (i:=i) h.2 (by simpa using e)
    exact ⟨x,by simpa using h1,h2⟩
  | [],_ :: _,_,_,h,_=>by simp [okIx] at h
  | _ :: _,[],_,_,h,_=>by simp [okIx] at h
def okFree (scope:Scope) (env:Env):Bool:=scope.names.all fun x=>!(x.2 == .free) || env.kindOf x.1 == some .cell || env.kindOf x.1 == some .free
theorem okFree_get {scope:Scope} {env:Env} (h:okFree scope env=true) {x:Str × NameKind} (hx:x ∈ scope.names) (hk:x.2=.free):env.kindOf x.1=some .cell ∨ env.kindOf x.1=some .free:=by
  have:=List.all_eq_true.mp h x hx
  rw [hk] at this
  simpa using this
section
variable {X:Cx} {pins:List (Addr × Obj)} {σ:St} {H:Hp} {s:Shared} {scope:Scope} {N:List Str} {ix:List (Option Nat)} {ex:List Addr}
theorem Inv.closed (I:Inv X pins σ H s) (hf:okFree scope X.env=true):∀ x ∈ scope.names,x.2=.free->∃ c,X.env.cells.lookup x.1=some c :=
  fun x hx hk=>I.ok.has x.1 (okFree_get hf hx hk)
theorem pick_get {j:Nat} {v:V} (h:(pick ix σ)[j]?=some (some v)):∃ i,ix[j]?=some (some i)/\σ[i]?=some (some v):=by
  unfold pick at h
  rw [List.getElem?_map] at h
  cases e:ix[j]? with
  | none=>rw [e] at h;cases h
  | some o =>
    rw [e] at h
    cases o with
    | none=>cases h
    | some i =>
      refine ⟨i,rfl,?_⟩
      have h':(σ[i]?).join=some v:=Option.some.inj h
      cases q:σ[i]? with
      | none=>rw [q] at h';cases h'
      | some z=>rw [q] at h';exact congrArg some h'
theorem Inv.comp (I:Inv X pins σ H s) (hk:scope.kind=.function) (hnm:okNames scope=true) (hf:okFree scope X.env=true) (hx:okIx scope X.N N ix=true)
    (hex:∀ b ∈ ex,H b=none/\b ≠ X.env.locals/\b ∉ X.fs/\(b ∈ X.ex ∨ X.s₀.heap.objs.size <= b)/\(∀ x c,X.env.cells.lookup x=some c->c ≠ b)/\b < s.heap.objs.size) :
    Inv (X.comp scope N s H ex) [] (pick ix σ) H { s with heap:=pushCells (s.heap.push { cls:=.type "dict",data:=.dict #[] }) scope.names }:=by
  have hcl:=I.closed hf
  have hkeep:∀ b o,s.heap.get? b=some o->(pushCells (s.heap.push { cls:=.type "dict",data:=.dict #[] }) scope.names).get? b=some o:=fun b o e=>pushCells_keeps _ _ b o (Heap.get?_push_of_some _ e)
  have ok:=cellsFrom_ok scope.names (s.heap.push { cls:=.type "dict",data:=.dict #[] }) (s.heap.objs.size + 1) [] ⟨fun _ _ hm=>(nomatch hm),List.Pairwise.nil⟩ (by rw [Heap.size_push];exact Nat.le_refl _)
  rw [Heap.size_push] at ok
  have hns:(pushCells (s.heap.push { cls:=.type "dict",data:=.dict #[] }) scope.names).Ns s.heap.objs.size (fun _=>none):=(Heap.Ns.new s.heap (.type "dict")).keeps (pushCells_keeps _ _)
  have cells:∀ x c,(X.comp scope N s H ex).env.cells.lookup x=some c->(x,c) ∈ cellsFrom (s.heap.objs.size + 1) scope.names [] ∨ X.env.cells.lookup x=some c:=fun x c e=>by
    have e':(cellsFrom (s.heap.objs.size + 1) scope.names [] ++ closL X.env scope.names []).lookup x=some c:=e
    rcases lookup_append_some e' with q | ⟨_,q⟩
    · exact .inl (mem_of_lookup q)
    · rcases closL_mem hcl (mem_of_lookup q) with z | z
      · cases z
      · exact .inr z
  have old:∀ x c,X.env.cells.lookup x=some c->c + 1 <= s.heap.objs.size:=fun x c e=>let ⟨v,q⟩:=I.cell x c e;q.lt
  have own:∀ x c,(x,c) ∈ cellsFrom (s.heap.objs.size + 1) scope.names []->s.heap.objs.size + 1 <= c:=fun x c e=>(ok.empty x c e).2
  refine ⟨⟨I.ok.mod,hk,I.ok.glob,I.ok.blt,Nat.le_refl _,fun x y c h1 h2=>?_,fun x h1=>?_,fun x c h1 h2=>?_,I.ok.hd,I.ok.frames,.inl rfl,fun b hb=>⟨?_,fun x c e=>?_⟩,I.bs,Nat.le_trans I.ok.bsz I.sz,fun b o e hb=>?_,fun b hb hb'=>?_,I.stack,I.stkFree⟩,
    rfl,I.bare,Un.kept hkeep,⟨_,hns,fun j x v h1 h2 h3=>?_⟩,fun x c e=>?_,I.hok.fresh (Nat.le_refl _),fun x c e=>?_,fun p hp=>absurd (show p ∈ ([]:List (Addr × Obj)) from hp) (by simp),I.hok.kept hkeep,?_⟩
  · rcases cells x c h1 with q1 | q1 <;> rcases cells y c h2 with q2 | q2
    · exact name_of_addr ok.apart q1 q2
    · exact absurd (Nat.le_trans (own _ _ q1) (Nat.le_trans (Nat.le_succ _) (old _ _ q2))) (Nat.not_succ_le_self _)
    · exact absurd (Nat.le_trans (own _ _ q2) (Nat.le_trans (Nat.le_succ _) (old _ _ q1))) (Nat.not_succ_le_self _)
    · exact I.ok.inj x y c q1 q2
  · have h1':scope.names.lookup x=some .cell ∨ scope.names.lookup x=some .free:=relabel_kind h1
    rcases h1' with q | q
    · obtain ⟨c,e⟩:=cell_has (n:=s.heap.objs.size + 1) (sc:=scope) q
      exact ⟨c,lookup_append_left e⟩
    · obtain ⟨c,e⟩:=closL_has (env:=X.env) (acc:=[]) (mem_of_lookup q)
      cases z:(cellsFrom (s.heap.objs.size + 1) scope.names []).lookup x with
      | some d=>exact ⟨d,lookup_append_left z⟩
      | none =>
        obtain ⟨d,e'⟩:=lookup_of_mem e
        exact ⟨d,(lookup_append_right z).trans e'⟩
  · have h1':scope.names.lookup x=some .cell:=beq_iff_eq.mp h1
    obtain ⟨d,e⟩:=cell_has (n:=s.heap.objs.size + 1) (sc:=scope) h1'
    have e':(cellsFrom (s.heap.objs.size + 1) scope.names [] ++ closL X.env scope.names []).lookup x=some c:=h2
    rw [lookup_append_left e] at e'
    cases e'
    exact Nat.le_trans (Nat.le_succ _) (own _ _ (mem_of_lookup e))
  · exact Nat.ne_of_lt (hex b hb).2.2.2.2.2
  · rcases cells x c e with q | q
    · exact Nat.ne_of_gt (Nat.lt_of_lt_of_le (hex b hb).2.2.2.2.2 (Nat.le_trans (Nat.le_succ _) (own _ _ q)))
    · exact (hex b hb).2.2.2.2.1 x c q
  · rcases (hex b hb).2.2.2.1 with z | z
    · exact I.ok.noex b o e z
    · exact absurd (Nat.lt_of_lt_of_le (Heap.lt_size e) (Nat.le_trans I.ok.bsz z)) (Nat.lt_irrefl _)
  · rcases List.mem_cons.mp (I.stkSub b hb') with z | z
    · exact (hex b hb).2.1 z
    · exact (hex b hb).2.2.1 z
  · obtain ⟨i,e1,e2⟩:=pick_get h2
    obtain ⟨y,f1,f2,f3⟩:=okIx_get hx e1
    have exy:x=y:=by
      have h1':N[j]?=some x:=h1
      rw [f1] at h1';exact (Option.some.inj h1').symm
    subst exy
    obtain ⟨m,hm,hl⟩:=I.loc
    have kx:=okFree_get hf (mem_of_lookup f3) rfl
    have vis:Vis X.env.scope x:=by
      rcases kx with k | k
      · exact .inr (.inl k)
      · exact .inr (.inr k)
    obtain ⟨u,ru,l⟩:=hl i x v f2 e2 vis
    refine ⟨u,ru,.inr ?_⟩
    have hv:(relabel scope X.env).names.lookup x=some .cell ∨ (relabel scope X.env).names.lookup x=some .free:=by
      unfold relabel
      rw [lookup_relabel,f3,Option.map_some]
      split
      · exact .inl rfl
      · exact .inr rfl
    refine ⟨hv,?_⟩
    rcases l with ⟨k,_⟩ | ⟨k,c,ec,z⟩
    · have k':X.env.kindOf x=some .local:=k
      rcases kx with q | q <;> rw [q] at k' <;> cases k'
    · obtain ⟨d,ed⟩:=closL_has (env:=X.env) (acc:=[]) (mem_of_lookup f3)
      have nocell:(cellsFrom (s.heap.objs.size + 1) scope.names []).lookup x=none ∨ ∃ d,(cellsFrom (s.heap.objs.size + 1) scope.names []).lookup x=some d:=by
        cases (cellsFrom (s.heap.objs.size + 1) scope.names []).lookup x with
        | none=>exact .inl rfl
        | some d=>exact .inr ⟨d,rfl⟩
      rcases nocell with q | ⟨d',q⟩
      · obtain ⟨d2,ed2⟩:=lookup_of_mem ed
        have hd2:X.env.cells.lookup x=some d2:=by
          rcases closL_mem hcl (mem_of_lookup ed2) with z | z
          · cases z
          · exact z
        rw [ec] at hd2
        cases hd2
        exact ⟨c,(lookup_append_right q).trans ed2,z.keeps hkeep⟩
      · -- a name is not both free and a cell of the block
        exfalso
        rcases cellsFrom_in (mem_of_lookup q) with z | z
        · cases z
        · have z':=okNames_get hnm z
          rw [f3] at z'
          cases z'
  · rcases cells x c e with q | q
    · exact ⟨none,(ok.empty x c q).1⟩
    · obtain ⟨v,z⟩:=I.cell x c q
      exact ⟨v,z.keeps hkeep⟩
  · rcases cells x c e with q | q
    · exact I.hok.fresh (Nat.le_trans (Nat.le_succ _) (own x c q))
    · exact I.freeC x c q
  · show (pick ix σ).length=N.length
    unfold pick
    rw [List.length_map]
    exact okIx_len hx
end
end L2
namespace L2
open PySem PySem.Spec PyProof.Rows
section
variable {prog:Program} {w:World} {A:Around} {R:Result->Shared->Prop} {s:Shared}
theorem compLoop_any {elt target iter:Expr} {ifs:List Expr} {scope:Scope} {pos:Pos} {it acc:Value} {env:Env} (I:Nat->Shared->Prop)
    (turn:∀ n s,I n s->wpAny (model prog w) A (pyNext it) (fun r s₁=>match r with
      | none=>R (.ok .next) s₁
      | some v=>wpAny (model prog w) A (letOwnedTupleGo target it v) (fun _ s₁'=>wpAny (model prog w) A (assign target env v) (fun _ s₂ =>
          wpAny (model prog w) A (forIn ifs true fun c r=>if r=true then do let ok <- isTrue c env (eval c env);pure (ForInStep.yield ok) else pure (ForInStep.yield r)) (fun ok s₃ =>
            if ok=true then wpAny (model prog w) A (eval elt env) (fun x s₄ =>
              wpAny (model prog w) A (call (.builtin "list.append") [acc,x]) (fun _ s₅=>∃ m,m < n/\I m s₅) (fun _ _=>False) s₄) (fun _ _=>False) s₃
            else ∃ m,m < n/\I m s₃) (fun _ _=>False) s₂) (fun _ _=>False) s₁') (fun _ _=>False) s₁) (fun _ _=>False) s)
    (n:Nat) (h:I n s) :
    codeAny (model prog w) A (.compLoop (.ListComp elt [⟨target,iter,ifs,0⟩] scope pos) 0 it acc env) R s:=by
  refine codeAny_loop rfl I (fun n s hI=>?_) n h
  show wpAny _ A ((compTurn (.ListComp elt [⟨target,iter,ifs,0⟩] scope pos) 0 it acc env).onRaise (fun x=>do noteFrame x env;theTreesLotGoes x)) _ _ s
  refine wpAny_noted ?_
  rw [compTurn_list]
  refine wpAny_bind (wpAny_standAt (wpAny_bind (wpAny_mono (turn n s hI) (fun r s₁ h₁=>?_) fun _ _ h'=>h'.elim)))
  cases r with
  | none=>exact wpAny_pure h₁
  | some v =>
    refine wpAny_bind (wpAny_mono h₁ (fun _ s₁' h₁'=>?_) fun _ _ h'=>h'.elim)
    refine wpAny_bind (wpAny_mono h₁' (fun _ s₂ h₂=>wpAny_bind (wpAny_mono h₂ (fun ok s₃ h₃=>?_) fun _ _ h'=>h'.elim)) fun _ _ h'=>h'.elim)
    cases ok with
    | false=>exact wpAny_pure ⟨rfl,h₃⟩
    | true =>
      exact wpAny_bind (wpAny_bind (wpAny_mono h₃ (fun x s₄ h₄=>wpAny_bind (wpAny_mono h₄ (fun _ s₅ h₅=>wpAny_pure (wpAny_pure ⟨rfl,h₅⟩)) fun _ _ h'=>h'.elim)) fun _ _ h'=>h'.elim))
end
def Wk (σ σ2:St):Prop:=σ.length=σ2.length/\∀ (i:Nat) v,σ[i]?=some (some v)->σ2[i]?=some (some v)
theorem Wk.set {σ:St} {i:Nat} {v:V} (h:σ[i]?=some none ∨ σ[i]?=none):Wk σ (σ.set i (some v)):=by
  refine ⟨by simp,fun j u e=>?_⟩
  by_cases hj:j=i
  · subst hj
    rcases h with h | h <;> rw [h] at e <;> cases e
  · rw [List.getElem?_set_ne (Ne.symm hj)]
    exact e
section
variable {X:Cx} {pins:List (Addr × Obj)} {σ:St} {H H':Hp} {s s':Shared} {scope:Scope} {N:List Str} {ix:List (Option Nat)} {fp:List Addr}
abbrev accS (s:Shared):Shared:={ s with heap:=s.heap.push { cls:=.type "list",dict:=none,data:=.seq ([]:List Value).toArray } }
theorem acc_size (s:Shared):(accS s).heap.objs.size=s.heap.objs.size + 1:=Heap.size_push ..
theorem Inv.comp_end {pins':List (Addr × Obj)} {σ':St} {ys:List V} {its:List Value} {n:Nat} {h':Heap} (I:Inv X pins σ H s) (J:Inv (X.comp scope N (accS s) H (s.heap.objs.size :: fp)) pins' σ' H' s') (hfp:∀ b ∈ fp,FpOk X pins H b)
    (hD:H' s.heap.objs.size=none) (hl:s'.heap.get? s.heap.objs.size=some { cls:=.type "list",data:=.seq its.toArray n }) (hv:Vals ys its) (hz:ys.length <= sizeLine)
    (hs:Heap.SameBut (accS s).heap.objs.size s'.heap h'):Inv X pins σ (upd H' s.heap.objs.size (.lst ys)) { s' with heap:=h' }:=by
  have oldC:∀ b,b < s.heap.objs.size->b ≠ (accS s).heap.objs.size:=fun b hb=>by rw [acc_size];exact Nat.ne_of_lt (Nat.lt_succ_of_lt hb)
  have DC:s.heap.objs.size ≠ (accS s).heap.objs.size:=by rw [acc_size];exact Nat.ne_of_lt (Nat.lt_succ_self _)
  have pushed:∀ b o,s.heap.get? b=some o->(accS s).heap.get? b=some o:=fun b o e=>Heap.get?_push_of_some _ e
  have nex:∀ b o,s.heap.get? b=some o->b ∉ fp->b ∉ (X.comp scope N (accS s) H (s.heap.objs.size :: fp)).ex:=fun b o e hb z=>by
    rcases List.mem_cons.mp (show b ∈ s.heap.objs.size :: fp from z) with z | z
    · rw [z] at e;exact absurd (Heap.lt_size e) (Nat.lt_irrefl _)
    · exact hb z
  have U:=J.base
  have un:Un (frs X.stack) fp H (upd H' s.heap.objs.size (.lst ys)) s.heap h':=by
    refine ⟨fun b o e n hb hx=>?_,fun b o e n hb hx=>?_,fun b o e n hx=>?_,fun b o e hx=>?_,fun b xs e=>?_,fun b o u e=>?_,fun b ps e=>?_⟩
    · exact (hs.2 b (oldC b (Heap.lt_size e))).trans (U.keep b o (pushed b o e) n hb (nex b o e hx))
    · obtain ⟨sl,q⟩:=U.slot b o (pushed b o e) n hb (nex b o e hx)
      exact ⟨sl,(hs.2 b (oldC b (Heap.lt_size e))).trans q⟩
    · rw [upd_ne (Nat.ne_of_lt (Heap.lt_size e))]
      exact U.free b o (pushed b o e) n (nex b o e hx)
    · obtain ⟨o',q⟩:=U.there b o (pushed b o e) (nex b o e hx)
      exact ⟨o',(hs.2 b (oldC b (Heap.lt_size e))).trans q⟩
    · have q:=U.tups b xs e
      rw [upd_ne (ne_of_none q hD)];exact q
    · have q:=U.frzs b o u e
      rw [upd_ne (ne_of_none q hD)];exact q
    · obtain ⟨m,q⟩:=U.tbls b ps e
      exact ⟨m,by rw [upd_ne (ne_of_none q hD)];exact q⟩
  have hC:H' (accS s).heap.objs.size=none:=J.free
  have hok:HOk X.prog X.w (upd H' s.heap.objs.size (.lst ys)) h':=fun b u e=>by
    by_cases hb:b=s.heap.objs.size
    · subst hb
      rw [upd_same] at e;cases e
      exact ⟨hz,its,n,hv,(hs.2 _ DC).trans hl⟩
    · rw [upd_ne hb] at e
      refine (J.hok b u e).stay (fun c v hc q=>(hs.2 c ?_).trans q) (fun c q=>by rw [upd_ne (ne_of_none q hD)];exact q) fun c xs q=>by rw [upd_ne (ne_of_none q hD)];exact q
      rintro rfl
      rcases hc with z | z
      · rw [<- z,hC] at e;cases e
      · rw [hC] at z;cases z
  exact I.call' (s':={ s' with heap:=h' }) (ch:=fp) J.os un hok J.bare fun b hb=>⟨(hfp b hb).2.2.2.1,(hfp b hb).2.1,(hfp b hb).2.2.2.2.1,(hfp b hb).2.2.2.2.2⟩
end
section
variable {X:Cx} {scope:Scope} {N:List Str} {ix:List (Option Nat)} {elt target iter:Expr} {ifs:List Expr} {pos:Pos} {wi:TI} {g:TG} {te:TE} {tc:TT}
def PIfs (X:Cx) (ifs:List Expr) (t:TT):Prop :=
  ∀ (pins:List (Addr × Obj)) (s:Shared) (σ:St) (H:Hp) (Q:Bool->Hp->Prop),Inv X pins σ H s->t σ H Q ->
    wpAny (model X.prog X.w) X.A (forIn ifs true fun c r=>if r=true then do let ok <- isTrue c X.env (eval c X.env);pure (ForInStep.yield ok) else pure (ForInStep.yield r)) (TP X pins σ Q) X.xe s
def tTrue:TT:=fun _ H Q=>Q true H
theorem pifs_nil:PIfs X [] tTrue:=fun _ _ _ H _ I h=>wpAny_tests_nil ⟨H,I,h⟩
def Blk (J:It) (σ0:St) (g:TG) (tc:TT) (te:TE) (H1:Hp) (F:List V->Hp->Prop):Prop:=∃ W:Nat->Nat->List V->Hp->Prop,(∃ m,W 0 m [] H1)/\∀ i m ys H2,W i m ys H2->ys.length <= sizeLine /\
  ((J.stop i H2/\F ys H2) ∨
   (J.go i H2/\∃ (Ny:V->Hp->Prop) (Nn:Hp->Prop),(∀ y H,Ny y H->∃ m',m' < m/\W (i + 1) m' (ys ++ [y]) H)/\(∀ H,Nn H->∃ m',m' < m/\W (i + 1) m' ys H) /\
     ∀ x H3,J.yld i H2 x H3->g x σ0 H3 fun σ2 H4=>Wk σ0 σ2/\tc σ2 H4 fun b H5=>if b=true then te σ2 H5 Ny else Nn H5))
theorem comp_run {pins:List (Addr × Obj)} {σ:St} {H:Hp} {s:Shared} {it:Addr} {fp:List Addr} {tn:Nat->Heap->Prop} {J:It} {F:List V->Hp->Prop} {E:Value->Shared->Prop} {RR:Value->Addr->Result->Shared->Prop}
    (hc:X.calm=true) (hk:scope.kind=.function) (hnm:okNames scope=true) (hf:okFree scope X.env=true) (hx:okIx scope X.N N ix=true)
    (hg:∀ s H ex,PG (X.comp scope N s H ex) target g) (ht:∀ s H ex,PIfs (X.comp scope N s H ex) ifs tc) (he:PE (X.comp scope N (accS s) H (s.heap.objs.size :: fp)) elt te)
    (I:Inv X pins σ H s) (T:Turn X.prog X.w X.K target J fp it tn) (st:tn 0 s.heap) (hfp:∀ b ∈ fp,FpOk X pins H b) (B:Blk J (pick ix σ) g tc te H F)
    (fin:∀ (ys:List V) (H':Hp) (s':Shared) (σ':St) (its:List Value) (n:Nat),Inv (X.comp scope N (accS s) H (s.heap.objs.size :: fp)) [] σ' H' s'->H' s.heap.objs.size=none ->
      s'.heap.get? s.heap.objs.size=some { cls:=.type "list",data:=.seq its.toArray n }->Vals ys its->ys.length <= sizeLine->F ys H'->RR (.ref s.heap.objs.size) (accS s).heap.objs.size (.ok .next) s') :
    wpAny (model X.prog X.w) X.A (newList []) (fun acc s₃=>wpAny (model X.prog X.w) X.A (newFunctionEnv scope X.env.globals (closL X.env scope.names []) [] X.env.qual none .none (some X.env)) (fun cenv s₄ =>
      codeAny (model X.prog X.w) X.A (.compStart (.ListComp elt [⟨target,iter,ifs,0⟩] scope pos) 0 (.ref it) acc { cenv with scope:=relabel scope X.env }) (RR acc cenv.locals) s₄) E s₃) E s:=by
  refine wpAny_newObj_type (newEnv_comp ?_) (by show ([]:List Value).toArray.size <= sizeLine;exact Nat.zero_le _)
  obtain ⟨W,⟨m0,w0⟩,turn⟩:=B
  have I1:Inv X pins σ H (accS s):=I.kept (t':=s.toks) fun b o e=>Heap.get?_push_of_some _ e
  have fpLt:∀ b ∈ fp,b < s.heap.objs.size:=fun b hb=>let ⟨o,e,_⟩:=T.obj 0 _ st b hb;Heap.lt_size e
  have accE:(accS s).heap.get? s.heap.objs.size=some { cls:=.type "list",dict:=none,data:=.seq ([]:List Value).toArray }:=Heap.get?_push_size _ rfl
  have fD:FpOk X pins H s.heap.objs.size:=I.fpOk (Nat.le_refl _) (I.hok.fresh (Nat.le_refl _))
  have J0:Inv (X.comp scope N (accS s) H (s.heap.objs.size :: fp)) [] (pick ix σ) H _:=I1.comp (N:=N) (ix:=ix) (ex:=s.heap.objs.size :: fp) hk hnm hf hx fun b hb=>by
    rcases List.mem_cons.mp hb with z | z
    · subst z
      exact ⟨fD.1,fD.2.1,fD.2.2.1,fD.2.2.2.1,fD.2.2.2.2.1,by rw [acc_size];exact Nat.lt_succ_self _⟩
    · obtain ⟨f0,f1,f2,f3,f4,_⟩:=hfp b z
      exact ⟨f0,f1,f2,f3,f4,by rw [acc_size];exact Nat.lt_succ_of_lt (fpLt b z)⟩
  have keep0:∀ b o,(accS s).heap.get? b=some o->(pushCells ((accS s).heap.push { cls:=.type "dict",data:=.dict #[] }) scope.names).get? b=some o:=fun b o e=>pushCells_keeps _ _ b o (Heap.get?_push_of_some _ e)
  have st0:tn 0 (pushCells ((accS s).heap.push { cls:=.type "dict",data:=.dict #[] }) scope.names):=T.keep 0 _ _ st fun b hb o e=>keep0 b o (Heap.get?_push_of_some _ e)
  have exOk:∀ b ∈ s.heap.objs.size :: fp,b ≠ (X.comp scope N (accS s) H (s.heap.objs.size :: fp)).env.locals/\b ∉ (X.comp scope N (accS s) H (s.heap.objs.size :: fp)).fs /\
      ∀ x c,(X.comp scope N (accS s) H (s.heap.objs.size :: fp)).env.cells.lookup x=some c->c ≠ b:=fun b hb=>⟨(J0.ok.exf b hb).1,J0.ok.exfs b hb,(J0.ok.exf b hb).2⟩
  have stat:∀ {H':Hp} {o:Obj},(∀ b ∈ fp,H' b=none)->∀ b ∈ fp,FpOk (X.comp scope N (accS s) H (s.heap.objs.size :: fp)) [(s.heap.objs.size,o)] H' b:=fun {H' o} hn b hb=>by
    obtain ⟨e1,e2,e3⟩:=exOk b (List.mem_cons_of_mem _ hb)
    refine ⟨hn b hb,e1,e2,.inl (List.mem_cons_of_mem _ hb),e3,fun p hp=>?_⟩
    have hp':p ∈ [(s.heap.objs.size,o)]:=(List.mem_append.mp hp).elim (fun z=>absurd (show p ∈ ([]:List (Addr × Obj)) from z) (by simp)) id
    rw [List.mem_singleton.mp hp']
    exact Nat.ne_of_gt (fpLt b hb)
  have loop:codeAny (model X.prog X.w) X.A (.compLoop (.ListComp elt [⟨target,iter,ifs,0⟩] scope pos) 0 (.ref it) (.ref s.heap.objs.size) (X.comp scope N (accS s) H (s.heap.objs.size :: fp)).env) (RR (.ref s.heap.objs.size) (accS s).heap.objs.size)
      { accS s with heap:=pushCells ((accS s).heap.push { cls:=.type "dict",data:=.dict #[] }) scope.names }:=by
    refine compLoop_any (fun n s'=>∃ i ys its k H',Inv (X.comp scope N (accS s) H (s.heap.objs.size :: fp)) [] (pick ix σ) H' s'/\tn i s'.heap/\(∀ b ∈ fp,H' b=none)/\H' s.heap.objs.size=none /\
      s'.heap.get? s.heap.objs.size=some { cls:=.type "list",data:=.seq (its:List Value).toArray k }/\Vals ys its/\W i n ys H') ?_ m0
      ⟨0,[],[],0,H,J0,st0,fun b hb=>(hfp b hb).1,fD.1,keep0 _ _ accE,.nil,w0⟩
    rintro n s3 ⟨i,ys,its,k,H3,I3,st3,fr3,d3,l3,v3,w3⟩
    obtain ⟨hz,hw⟩:=turn i n ys H3 w3
    have pinD:Inv (X.comp scope N (accS s) H (s.heap.objs.size :: fp)) [(s.heap.objs.size,{ cls:=.type "list",data:=.seq its.toArray k })] (pick ix σ) H3 s3:=I3.pins_of fun p hp=>by
      rw [List.mem_singleton.mp hp]
      exact ⟨l3,d3,(exOk _ List.mem_cons_self).1,(exOk _ List.mem_cons_self).2.1,fun v z=>by cases z⟩
    rcases hw with ⟨stop,fy⟩ | ⟨go,Ny,Nn,hNy,hNn,step⟩
    · refine thn (T.done (X.comp scope N (accS s) H (s.heap.objs.size :: fp)) rfl rfl rfl hc i _ s3 (pick ix σ) H3 (fun _ _=>False) pinD (stat fr3) st3 stop) fun r s4 ⟨hr,I4⟩=>?_
      subst hr
      have q:=(I4.pin (s.heap.objs.size,_) (List.mem_append_right _ List.mem_cons_self)).1
      exact fin ys H3 s4 _ its k (I4.pins_of fun p hp=>by cases hp) d3 q v3 hz fy
    · refine thn (T.item (X.comp scope N (accS s) H (s.heap.objs.size :: fp)) rfl rfl rfl hc i _ s3 (pick ix σ) H3 (fun _ _=>False) pinD (stat fr3) st3 go) fun r s4 ⟨u,hr,h4⟩=>?_
      subst hr
      refine thn h4 fun _ s5 ⟨x,H5,I5,r5,y5,st5,fr5⟩=>?_
      have I5':=I5.pinned (stat fr5) (T.obj _ _ st5)
      refine thn (hg (accS s) H (s.heap.objs.size :: fp) _ s5 (pick ix σ) H5 x u _ I5' r5 (step x H5 y5)) fun _ s6 ⟨σ6,H6,I6,wk6,q6⟩=>?_
      refine thn (ht (accS s) H (s.heap.objs.size :: fp) _ s6 σ6 H6 _ I6 q6) fun ok s7 ⟨H7,I7,q7⟩=>?_
      cases ok with
      | false =>
        obtain ⟨m',hm,w7⟩:=hNn H7 q7
        refine ⟨m',hm,i + 1,ys,its,k,H7,(I7.weak wk6.1 wk6.2).pins_of (fun p hp=>by cases hp),?_,fun b hb=>?_,?_,?_,v3,w7⟩
        · exact T.keep _ _ _ st5 fun b hb o e=>(I7.pin (b,o) (List.mem_append_right _ (List.mem_append_right _ (mem_pinsAt hb e)))).1
        · obtain ⟨o,e,d⟩:=T.obj _ _ st5 b hb
          exact (I7.pin (b,o) (List.mem_append_right _ (List.mem_append_right _ (mem_pinsAt hb e)))).2.1
        · exact (I7.pin (s.heap.objs.size,_) (List.mem_append_right _ (List.mem_append_left _ List.mem_cons_self))).2.1
        · exact (I7.pin (s.heap.objs.size,_) (List.mem_append_right _ (List.mem_append_left _ List.mem_cons_self))).1
      | true =>
        show wpAny _ _ _ _ _ _
        refine thn (he _ s7 σ6 H7 _ I7 q7) fun yv s8 ⟨y,H8,I8,r8,q8'⟩=>?_
        obtain ⟨m',hm,w8⟩:=hNy y H8 q8'
        have q8:=I8.pin (s.heap.objs.size,_) (List.mem_append_right _ (List.mem_append_left _ List.mem_cons_self))
        refine wpAny_list_append_plain (l:=s.heap.objs.size) (items:=its.toArray) ⟨k,q8.1⟩ (fun h' hl' sb=>?_) (by rw [List.size_toArray,<- v3.length];exact hz)
        obtain ⟨k',hl'⟩:=hl'
        have I9:Inv (X.comp scope N (accS s) H (s.heap.objs.size :: fp)) [] (pick ix σ) H8 { s8 with heap:=h' }:=((I8.weak wk6.1 wk6.2).pins_of (pins':=[]) (fun p hp=>by cases hp)).turned (t':=s8.toks) (it:=s.heap.objs.size)
          (fun b o hb e=>(sb.2 b hb).trans e) q8.2.1 (exOk _ List.mem_cons_self).1 (.inl List.mem_cons_self) (exOk _ List.mem_cons_self).2.2 (fun p hp=>absurd (show p ∈ ([]:List (Addr × Obj)) from hp) (by simp))
        refine ⟨m',hm,i + 1,ys ++ [y],its ++ [yv],k',H8,I9,?_,fun b hb=>?_,q8.2.1,?_,v3.append (.cons r8 .nil),w8⟩
        · refine T.keep _ _ _ st5 fun b hb o e=>(sb.2 b (Nat.ne_of_lt (fpLt b hb))).trans (I8.pin (b,o) (List.mem_append_right _ (List.mem_append_right _ (mem_pinsAt hb e)))).1
        · obtain ⟨o,e,d⟩:=T.obj _ _ st5 b hb
          exact (I8.pin (b,o) (List.mem_append_right _ (List.mem_append_right _ (mem_pinsAt hb e)))).2.1
        · have e:its.toArray.push yv=(its ++ [yv]).toArray:=by simp
          rw [<- e];exact hl'
  exact codeAny_compStart_list loop (T.self _ 0 _ _ _ st0 loop)
theorem pe_compG (hc:X.calm=true) (hi:PI X target iter wi) (hg:∀ s H ex,PG (X.comp scope N s H ex) target g) (ht:∀ s H ex,PIfs (X.comp scope N s H ex) ifs tc) (he:∀ s H ex,PE (X.comp scope N s H ex) elt te)
    (hk:scope.kind=.function) (hnm:okNames scope=true) (hf:okFree scope X.env=true) (hx:okIx scope X.N N ix=true) (hs:∀ x,foldedSetIterable iter X.env x=pure x) :
    PE X (.ListComp elt [⟨target,iter,ifs,0⟩] scope pos) (fun σ H Q=>wi σ H fun J H1=>Blk J (pick ix σ) g tc te H1 fun ys H2=>∀ p,H2 p=none->Q (.ref p) (upd H2 p (.lst ys))):=by
  intro pins s σ H Q I h
  rw [eval_ListComp]
  refine wpAny_comprehension_free (use:=none) rfl hs (closureFor_eq (I.closed hf)) hk (fun x hx hl=>(okNames_get hnm hx).trans (by rw [hl])) ?_
  refine thn (hi pins s σ H _ I h) fun v s1 h1=>thn h1 fun itv s2 h2=>?_
  obtain ⟨it,fp,tn,J,H2,e,I2,T,st2,f2,B⟩:=h2
  subst e
  refine comp_run (RR:=fun acc C=>compPost (model X.prog X.w) X.A X.xe none (EP X pins σ Q) acc C) hc hk hnm hf hx hg ht (he _ _ _) I2 T st2 f2 B ?_
  intro ys H' s' σ' its n J' hD hl hv hz hF
  obtain ⟨m,hm,_⟩:=J'.loc
  exact ⟨m,hm,fun h' hs'=>⟨.ref s2.heap.objs.size,_,I2.comp_end J' f2 hD hl hv hz hs',rfl,hF _ hD⟩⟩
theorem ps_setcompG {i:Nat} {y:Str} {py spos:Pos} (hc:X.calm=true) (hN:X.N.Nodup) (hn:X.N[i]?=some y) (hy:X.env.scope.names.lookup y=some .local)
    (hi:PI X target iter wi) (hg:∀ s H ex,PG (X.comp scope N s H ex) target g) (ht:∀ s H ex,PIfs (X.comp scope N s H ex) ifs tc) (he:∀ s H ex,PE (X.comp scope N s H ex) elt te)
    (hk:scope.kind=.function) (hnm:okNames scope=true) (hf:okFree scope X.env=true) (hx:okIx scope X.N N ix=true) (hs:∀ x,foldedSetIterable iter X.env x=pure x)
    (hsw:swapsWith (.ListComp elt [⟨target,iter,ifs,0⟩] scope pos) (some (.Name y py)) spos.line X.env=pure true) :
    PS X (.Assign [.Name y py] (.ListComp elt [⟨target,iter,ifs,0⟩] scope pos) spos) (fun D σ H=>wi σ H fun J H1=>Blk J (pick ix σ) g tc te H1 fun ys H2=>∀ p,H2 p=none->D.nx (σ.set i (some (.ref p))) (upd H2 p (.lst ys))):=by
  intro pins s σ H D I h
  rw [exec_Assign_Name_used _ _ _ _ hsw]
  refine wpAny_bind (wpAny_standAt (wpAny_bind ?_))
  show wpAny _ X.A (do let _ <- comprehension (.ListComp elt [⟨target,iter,ifs,0⟩] scope pos) scope X.env _ (newList []) false (eval iter X.env) (some (assign (.Name y py) X.env))) _ _ s
  refine wpAny_bind (thn (wpAny_comprehension_free (use:=some (assign (.Name y py) X.env)) (Q:=fun _ s'=>SP X pins D .next s') rfl hs (closureFor_eq (I.closed hf)) hk (fun x hx hl=>(okNames_get hnm hx).trans (by rw [hl])) ?_) fun _ s' hq=>wpAny_pure (wpAny_pure hq))
  refine thn (hi pins s σ H _ I h) fun v s1 h1=>thn h1 fun itv s2 h2=>?_
  obtain ⟨it,fp,tn,J,H2,e,I2,T,st2,f2,B⟩:=h2
  subst e
  refine comp_run (RR:=fun acc C=>compPost (model X.prog X.w) X.A X.xe (some (assign (.Name y py) X.env)) (fun _ s'=>SP X pins D .next s') acc C) hc hk hnm hf hx hg ht (he _ _ _) I2 T st2 f2 B ?_
  intro ys H' s' σ' its n J' hD hl hv hz hF
  obtain ⟨m,hm,_⟩:=J'.loc
  have I3:=I2.comp_end (h':=s'.heap) J' f2 hD hl hv hz (.refl ..)
  show wpAny _ X.A (assign (.Name y py) X.env (.ref s2.heap.objs.size)) _ _ _
  refine wpAny_assign_Name (store_ok2 (v:=.ref s2.heap.objs.size) I3 hN hn (.inl hy) rfl (fun s'' I4 hsb=>?_) (.inr hy))
  obtain ⟨a,sb,ha⟩:=hsb
  have hCa:(accS s2).heap.objs.size ≠ a:=by
    rw [acc_size]
    rcases ha with z | z
    · rw [z];exact Nat.ne_of_gt (Nat.lt_succ_of_lt I2.lt)
    · obtain ⟨v,q⟩:=I2.cell y a z
      exact Nat.ne_of_gt (Nat.lt_succ_of_lt q.lt)
  have hC2:(upd H' s2.heap.objs.size (.lst ys)) (accS s2).heap.objs.size=none:=by
    rw [upd_ne (by rw [acc_size];exact Nat.ne_of_gt (Nat.lt_succ_self _))]
    exact J'.free
  refine ⟨m,hm.sameBut sb hCa,fun h' hs'=>?_⟩
  refine ⟨_,_,?_,hF _ hD⟩
  obtain ⟨m2,n2,_⟩:=id I4.loc
  refine I4.turned (t':=s''.toks) (it:=(accS s2).heap.objs.size) (fun b o hb e=>(hs'.2 b hb).trans e) hC2 ?_ ?_ ?_ ?_
  · rw [acc_size];exact Nat.ne_of_gt (Nat.lt_succ_of_lt I2.lt)
  · rw [acc_size];exact .inr (Nat.le_trans I2.sz (Nat.le_succ _))
  · intro x c e
    obtain ⟨v,q⟩:=I2.cell x c e
    rw [acc_size];exact Nat.ne_of_lt (Nat.lt_succ_of_lt q.lt)
  · intro p hp
    rw [acc_size];exact Nat.ne_of_lt (Nat.lt_succ_of_lt (Heap.lt_size (I2.pin p hp).1))
end
end L2
namespace L2
open PySem PySem.Spec PyProof.Rows
section
variable {X:Cx} {pins:List (Addr × Obj)} {σ:St} {H:Hp} {s:Shared} {p:Addr} {xs:List V}
theorem seq_walk {A:Around} {E:Value->Shared->Prop} {Q:Value->Shared->Prop} (I:Inv X pins σ H s) (hh:A.handled=none) (hs:SqL X.K H p xs ∨ SqT X.K H p xs)
    (h:∀ (its:List Value) (it:Addr) (fp wr:List Addr) (St:Nat->Heap->Prop) (h2:Heap),Vals xs its->Walks X.prog X.w A it fp wr its.length (fun i v=>its[i]?=some v) St->St 0 h2->(∀ b ∈ fp,b < h2.objs.size) ->
      (∀ h':Heap,(∀ b o,b ∉ wr->h2.get? b=some o->h'.get? b=some o)->∀ b o,s.heap.get? b=some o->h'.get? b=some o)->Q (.ref it) { s with heap:=h2 }) :
    wpAny (model X.prog X.w) A (pyIter (.ref p)) Q E s:=by
  have keep:∀ (o:Obj) (h':Heap),(∀ b u,b ∉ [s.heap.objs.size]->(s.heap.push o).get? b=some u->h'.get? b=some u)->∀ b u,s.heap.get? b=some u->h'.get? b=some u:=fun o h' hk b u e =>
    hk b u (fun hm=>by rw [List.mem_singleton.mp hm] at e;exact Nat.lt_irrefl _ (Heap.lt_size e)) (Heap.get?_push_of_some _ e)
  rcases hs with hs | hs
  · obtain ⟨its,rv,pl,hz⟩:=I.list hs
    have hlt:p < s.heap.objs.size:=by obtain ⟨_,e,_⟩:=pl.isList;exact Heap.lt_size e
    refine wpAny_pyIter_list pl.isList ?_
    have W:=Walks.list (prog:=X.prog) (w:=X.w) (A:=A) hh s.heap.objs.size p (Nat.ne_of_lt hlt) its.toArray
    refine h its s.heap.objs.size [s.heap.objs.size,p] [s.heap.objs.size] (fun i h=>h.IsListIter s.heap.objs.size p i/\h.IsList p its.toArray) _ rv (by simpa using W) ⟨⟨_,Heap.get?_push_size _ rfl,rfl,rfl⟩,pl.isList.push _⟩ (fun b hb=>?_) (keep _)
    rw [Heap.size_push]
    rcases List.mem_cons.mp hb with rfl | hb
    · exact Nat.lt_succ_self _
    · rw [List.mem_singleton.mp hb];exact Nat.lt_succ_of_lt hlt
  · obtain ⟨its,rv,pl,hz⟩:=I.tuple hs
    have pl':s.heap.IsTuple p its.toArray:=pl
    have hlt:p < s.heap.objs.size:=pl.lt
    refine wpAny_pyIter_tuple pl' ?_
    have W:=Walks.tuple (prog:=X.prog) (w:=X.w) (A:=A) hh s.heap.objs.size p (Nat.ne_of_lt hlt) its.toArray
    refine h its s.heap.objs.size [s.heap.objs.size,p] [s.heap.objs.size] (fun i h=>h.IsTupleIter s.heap.objs.size p i/\h.IsTuple p its.toArray) _ rv (by simpa using W) ⟨⟨_,Heap.get?_push_size _ rfl,rfl,rfl⟩,pl'.push _⟩ (fun b hb=>?_) (keep _)
    rw [Heap.size_push]
    rcases List.mem_cons.mp hb with rfl | hb
    · exact Nat.lt_succ_self _
    · rw [List.mem_singleton.mp hb];exact Nat.lt_succ_of_lt hlt
def nth (ns:List Int) (i:Nat):Int:=(ns[i]?).getD 0
theorem preSum_nth (ns:List Int):∀ k,preSum (nth ns) k=(ns.take k).sum
  | 0=>by simp [preSum]
  | k + 1=>by
    rw [preSum,preSum_nth ns k,List.take_add_one,List.sum_append]
    unfold nth
    cases ns[k]? <;> simp
theorem vals_int {ns:List Int} {its:List Value} (r:Vals (ns.map V.int) its) {i:Nat} {v:Value} (e:its[i]?=some v):∃ t,v=.int (nth ns i) t:=by
  have hl:=r.length
  rw [List.length_map] at hl
  have hi:i < ns.length:=by rw [hl];exact (List.getElem?_eq_some_iff.mp e).1
  obtain ⟨u,hu,ru⟩:=r.get (i:=i) (x:=.int ns[i]) (by rw [List.getElem?_map,List.getElem?_eq_getElem hi];rfl)
  rw [e] at hu;cases hu
  obtain ⟨t,rfl⟩:=ru
  exact ⟨t,by unfold nth;rw [List.getElem?_eq_getElem hi];rfl⟩
theorem call_sum_seq (hc:X.calm=true):CallR X (.builtin "sum") (fun xs H Q=>∃ (p:Addr) (ns:List Int),xs=[.ref p]/\(SqL X.K H p (ns.map V.int) ∨ SqT X.K H p (ns.map V.int))/\Q (.int ns.sum) H):=by
  intro pins s σ H xs us Q I r h
  obtain ⟨p,ns,rfl,hs,q⟩:=h
  obtain ⟨u,rfl,ru⟩:=vals1 r
  cases ru
  refine call_sum_walkG (seq_walk (A:=X.A.in1) I (I.ok.hd hc) hs fun its it fp wr St h2 rv W st hfp keep=>?_)
  refine ⟨it,fp,wr,its.length,_,St,nth ns,rfl,W,st,hfp,fun i v e=>vals_int rv e,fun h' tk t' hk=>?_⟩
  have e:preSum (nth ns) its.length=ns.sum:=by
    rw [preSum_nth,<- rv.length,List.length_map,List.take_length]
  rw [e]
  exact ⟨.int ns.sum,H,I.kept (keep h' hk),⟨_,rfl⟩,q⟩
def truV:V->Bool
  | .bl b=>b
  | .int i=>i != 0
  | .non=>false
  | _=>true
def okTru:V->Bool
  | .bl _=>true
  | .int _=>true
  | .non=>true
  | _=>false
theorem truth_V {A:Around} {E:Value->Shared->Prop} {x:V} {v:Value} {s:Shared} {Q:Bool->Shared->Prop} (r:RelV x v) (ok:okTru x=true) (h:Q (truV x) s):wpAny (model X.prog X.w) A (truthy v) Q E s:=by
  cases x with
  | bl b=>cases r;exact wpAny_truthy_bool h
  | int i=>obtain ⟨t,rfl⟩:=r;exact PyProof.Rows.truthy_int h
  | non=>cases r;exact PyProof.Rows.truthy_none h
  | _=>exact absurd (show false=true from ok) Bool.false_ne_true
def tnth (d:Bool) (xs:List V) (i:Nat):Bool:=((xs[i]?).map truV).getD d
theorem all_nth (xs:List V):(List.range xs.length).all (tnth true xs)=xs.all truV:=by
  rw [Bool.eq_iff_iff,List.all_eq_true,List.all_eq_true]
  constructor
  · intro h b hb
    obtain ⟨i,hi,e⟩:=List.getElem_of_mem hb
    have:=h i (List.mem_range.mpr hi)
    unfold tnth at this
    rw [List.getElem?_eq_getElem hi,e] at this
    exact this
  · intro h i hi
    have hi':=List.mem_range.mp hi
    unfold tnth
    rw [List.getElem?_eq_getElem hi']
    exact h _ (List.getElem_mem hi')
theorem truthOf_nth {A:Around} {its:List Value} (d:Bool) (rv:Vals xs its) (ok:xs.all okTru=true):TruthOf X.prog X.w A (fun i v=>its[i]?=some v) (tnth d xs):=by
  intro i v s Q E e hQ
  have hi:i < xs.length:=by rw [rv.length];exact (List.getElem?_eq_some_iff.mp e).1
  obtain ⟨u,hu,ru⟩:=rv.get (i:=i) (x:=xs[i]) (by rw [List.getElem?_eq_getElem hi])
  rw [e] at hu;cases hu
  refine truth_V (X:=X) ru (List.all_eq_true.mp ok _ (List.getElem_mem hi)) ?_
  unfold tnth at hQ
  rw [List.getElem?_eq_getElem hi] at hQ
  exact hQ
theorem call_all_seq (hc:X.calm=true):CallR X (.builtin "all") (fun xs H Q=>∃ (p:Addr) (ys:List V),xs=[.ref p]/\(SqL X.K H p ys ∨ SqT X.K H p ys)/\ys.all okTru=true/\Q (.bl (ys.all truV)) H):=by
  intro pins s σ H xs us Q I r h
  obtain ⟨p,ys,rfl,hs,ok,q⟩:=h
  obtain ⟨u,rfl,ru⟩:=vals1 r
  cases ru
  refine call_all_walk (seq_walk (A:=X.A.in1) I (I.ok.hd hc) hs fun its it fp wr St h2 rv W st hfp keep=>?_)
  refine ⟨it,fp,wr,its.length,_,St,tnth true ys,rfl,W,st,truthOf_nth true rv ok,fun h' tk hk=>?_⟩
  rw [<- rv.length,all_nth]
  exact ⟨.bl _,H,I.kept (keep h' hk),rfl,q⟩
theorem call_max_seq (hc:X.calm=true):CallR X (.builtin "max") (fun xs H Q=>∃ (p:Addr) (ns:List Int),xs=[.ref p]/\(SqL X.K H p (ns.map V.int) ∨ SqT X.K H p (ns.map V.int))/\ns ≠ []/\∀ m,m ∈ ns->(∀ n ∈ ns,n <= m)->Q (.int m) H):=by
  intro pins s σ H xs us Q I r h
  obtain ⟨p,ns,rfl,hs,hne,q⟩:=h
  obtain ⟨u,rfl,ru⟩:=vals1 r
  cases ru
  refine call_max_walk (seq_walk (A:=X.A.in1) I (I.ok.hd hc) hs fun its it fp wr St h2 rv W st hfp keep=>?_)
  have hl:its.length=ns.length:=by rw [<- rv.length,List.length_map]
  have hp:0 < ns.length:=List.length_pos_iff.mpr hne
  refine ⟨it,fp,wr,its.length,_,St,_,rfl,W,st,hfp,by rw [hl];exact hp,CmpOf.ints_gt (nth ns) (fun i v e=>vals_int rv e),fun v h' tk e hk=>?_⟩
  obtain ⟨t,rfl⟩:=vals_int rv e
  obtain ⟨a1,a2⟩:=argBest_gt (nth ns) (its.length - 1)
  have hb:argBest (fun i j=>decide (nth ns i > nth ns j)) (its.length - 1) < ns.length:=by omega
  have e1:nth ns (argBest (fun i j=>decide (nth ns i > nth ns j)) (its.length - 1)) ∈ ns:=by
    generalize hg:argBest (fun i j=>decide (nth ns i > nth ns j)) (its.length - 1)=k at hb
    unfold nth
    rw [List.getElem?_eq_getElem hb]
    exact List.getElem_mem hb
  refine ⟨.int _,H,I.kept (keep h' hk),⟨_,rfl⟩,q _ e1 fun n hn=>?_⟩
  obtain ⟨j,hj,rfl⟩:=List.getElem_of_mem hn
  have:=a2 j (by omega)
  have e2:nth ns j=ns[j]:=by unfold nth;rw [List.getElem?_eq_getElem hj];rfl
  rw [e2] at this
  exact this
end
end L2
namespace L2
open PySem PySem.Spec PyProof.Rows
section
variable {prog:Program} {w:World} {A:Around} {E:Value->Shared->Prop} {s:Shared}
theorem nextT_item {it t:Addr} {i:Nat} {its:Array Value} {x:Value} {Q:Value->Shared->Prop} (hit:s.heap.IsTupleIter it t i) (ht:s.heap.IsTuple t its) (hx:its[i]?=some x)
    (hQ:∀ h',h'.IsTupleIter it t (i + 1)->Heap.SameBut it s.heap h'->Q x { s with heap:=h' }):wpAny (model prog w) A (Builtin.SmallTypes.nextOf (.ref it)) Q E s:=by
  obtain ⟨o,ho,hc,hd⟩:=id hit
  obtain ⟨ol,hol,_,nl,hdl⟩:=ht
  unfold Builtin.SmallTypes.nextOf
  refine wpAny_bind (wpAny_callSpecial?_slot (name:=Str.ofString "__next__") hit.typeIs F.slot_tuple_iterator_next
    (wpAny_call_entry F.slot_tuple_iterator_next hit.typeIs F.entry_tuple_iterator_next ?_ (F.args_tuple_iterator_next_1 _)))
  show wpAny _ _ (field (.ref it) 0 >>= _) _ _ s
  refine wpAny_bind (wpAny_field ho hd (x:=.ref t) rfl ?_)
  show wpAny _ _ (if (Value.ref t == Value.none)=true then _ else _) _ _ s
  rw [if_neg (show ¬ ((Value.ref t == Value.none)=true) from Bool.false_ne_true)]
  show wpAny _ _ (field (.ref it) 1 >>= _) _ _ s
  refine wpAny_bind (wpAny_field ho hd (x:=.int i 0) rfl ?_)
  show wpAny _ _ (seqItems? (.ref t) >>= _) _ _ s
  refine wpAny_bind (wpAny_seqItems hol hdl ?_)
  simp only [Int.toNat_natCast,hx]
  refine wpAny_bind (wpAny_setField ho hd (by simp) (wpAny_pure ⟨x,rfl,wpAny_pure (hQ _ ?_ (Heap.SameBut.update ..))⟩))
  exact ⟨_,Heap.get?_update_self _ ho (Obj.isFreed_of_fields (Obj.data_mapFields hd _)),(Obj.cls_mapFields ..).trans hc,by
    rw [Obj.data_mapFields hd];simp [rawInt]⟩
end
end L2
namespace L2
open PySem PySem.Spec PyProof.Rows
section
variable {prog:Program} {w:World} {A:Around} {E:Value->Shared->Prop} {s:Shared}
theorem nextT_end {it t:Addr} {i:Nat} {its:Array Value} {Q:Value->Shared->Prop} (hh:A.handled=none) (hit:s.heap.IsTupleIter it t i) (ht:s.heap.IsTuple t its) (hx:its[i]?=none)
    (hE:∀ h' e,Heap.ExtBut it s.heap h'->(∃ o,h'.get? e=some o/\o.cls=.type "StopIteration")->E (.ref e) { s with heap:=h' }):wpAny (model prog w) A (Builtin.SmallTypes.nextOf (.ref it)) Q E s:=by
  obtain ⟨o,ho,hc,hd⟩:=id hit
  obtain ⟨ol,hol,_,nl,hdl⟩:=ht
  unfold Builtin.SmallTypes.nextOf
  refine wpAny_bind (wpAny_callSpecial?_slot (name:=Str.ofString "__next__") hit.typeIs F.slot_tuple_iterator_next
    (wpAny_call_entry F.slot_tuple_iterator_next hit.typeIs F.entry_tuple_iterator_next ?_ (F.args_tuple_iterator_next_1 _)))
  show wpAny _ _ (field (.ref it) 0 >>= _) _ _ s
  refine wpAny_bind (wpAny_field ho hd (x:=.ref t) rfl ?_)
  show wpAny _ _ (if (Value.ref t == Value.none)=true then _ else _) _ _ s
  rw [if_neg (show ¬ ((Value.ref t == Value.none)=true) from Bool.false_ne_true)]
  show wpAny _ _ (field (.ref it) 1 >>= _) _ _ s
  refine wpAny_bind (wpAny_field ho hd (x:=.int i 0) rfl ?_)
  show wpAny _ _ (seqItems? (.ref t) >>= _) _ _ s
  refine wpAny_bind (wpAny_seqItems hol hdl ?_)
  simp only [Int.toNat_natCast,hx]
  refine wpAny_bind (wpAny_rule (wpAny_bind (wpAny_setField ho hd (by simp) ?_)))
  show wpAny _ _ (newExc (.type "StopIteration") [] >>= _) _ _ _
  refine wpAny_bind ?_
  simp only [newExc,newTuple]
  refine wpAny_bind (wpAny_newObj_type ?_ (by size_fits))
  refine wpAny_bind (m:=firstArgMember _ _) (wpAny_of_eq (a:=Value.none) (by first | rfl | (simp only [firstArgMember];rfl)) ?_)
  refine wpAny_newObj_type ?_ (by size_fits)
  simp only [raiseNew]
  refine wpAny_bind (wpAny_handled ?_)
  first | rw [show A.in1.handled=none from hh] | rw [hh]
  exact wpAny_bind (wpAny_pure (wpAny_throw (hE _ _ (((Heap.SameBut.update ..).extBut.push _).push _) ⟨_,Heap.get?_push_size _ rfl,rfl⟩)))
structure ZipT (h:Heap) (z TI TO i1 i2 t1 t2:Addr) (k:Nat):Prop where
  zz:IsZip h z TI TO .none
  ti:IsPair h TI (.ref i1) (.ref i2)
  tO:∃ a b,IsPair h TO a b
  it1:h.IsTupleIter i1 t1 k
  it2:h.IsTupleIter i2 t2 k
structure ZipD (z TI TO i1 i2 t1 t2:Addr):Prop where
  a1:TI ≠ z
  a2:TO ≠ z
  a3:i1 ≠ z
  a4:i2 ≠ z
  b1:TI ≠ TO
  b2:TI ≠ i1
  b3:TI ≠ i2
  c1:TO ≠ i1
  c2:TO ≠ i2
  d1:i1 ≠ i2
  e1:t1 ≠ z
  e2:t1 ≠ TO
  e3:t1 ≠ i1
  e4:t1 ≠ i2
  f1:t2 ≠ z
  f2:t2 ≠ TO
  f3:t2 ≠ i1
  f4:t2 ≠ i2
theorem ne_add {n a b:Nat} (h:a ≠ b):n + a ≠ n + b:=by omega
theorem ne_lo {n a t:Nat} (h:t < n):t ≠ n + a:=by omega
theorem ZipD.new {n t1 t2:Nat} (h1:t1 < n) (h2:t2 < n):ZipD (n + 4) (n + 2) (n + 3) n (n + 1) t1 t2 where
  a1:=ne_add (by decide)
  a2:=ne_add (by decide)
  a3:=ne_add (n:=n) (a:=0) (by decide)
  a4:=ne_add (by decide)
  b1:=ne_add (by decide)
  b2:=ne_add (n:=n) (b:=0) (by decide)
  b3:=ne_add (by decide)
  c1:=ne_add (n:=n) (b:=0) (by decide)
  c2:=ne_add (by decide)
  d1:=ne_add (n:=n) (a:=0) (by decide)
  e1:=ne_lo h1
  e2:=ne_lo h1
  e3:=ne_lo (a:=0) h1
  e4:=ne_lo h1
  f1:=ne_lo h2
  f2:=ne_lo h2
  f3:=ne_lo (a:=0) h2
  f4:=ne_lo h2
theorem zipT_item {z TI TO i1 i2 t1 t2:Addr} {xs ys:Array Value} {k:Nat} {x y:Value} {Q:Option Value->Shared->Prop} (D:ZipD z TI TO i1 i2 t1 t2) (Z:ZipT s.heap z TI TO i1 i2 t1 t2 k) (hl1:s.heap.IsTuple t1 xs) (hl2:s.heap.IsTuple t2 ys)
    (hx:xs[k]?=some x) (hy:ys[k]?=some y)
    (hQ:∀ h',IsZip h' z TI TO (rawInt s.heap.objs.size)->IsPair h' TO x y->h'.IsTupleIter i1 t1 (k + 1)->h'.IsTupleIter i2 t2 (k + 1)->IsPair h' s.heap.objs.size x y->h'.objs.size=s.heap.objs.size + 1 ->
      (∀ c o,c ∉ [z,TO,i1,i2]->s.heap.get? c=some o->h'.get? c=some o)->Q (some (.ref s.heap.objs.size)) { s with heap:=h' }) :
    wpAny (model prog w) A (pyNext (.ref z)) Q E s:=by
  obtain ⟨hz,hTI,⟨a,b,hTO⟩,h1,h2⟩:=Z
  have hT:s.TypeIs (.ref z) "zip":=⟨_,hz,rfl⟩
  unfold pyNext
  refine wpAny_bind (wpAny_attempt (wpAny_callSpecial?_slot (name:=Str.ofString "__next__") hT F.slot_zip_next (wpAny_call_entry F.slot_zip_next hT F.entry_zip_next ?_ (F.args_zip_next_1 _))))
  show wpAny _ _ (field (.ref z) 2 >>= _) _ _ _
  refine wpAny_bind (wpAny_field hz rfl (x:=.bool false) rfl ?_)
  show wpAny _ _ (field (.ref z) 3 >>= _) _ _ _
  refine wpAny_bind (wpAny_field hz rfl (x:=.ref TI) rfl (wpAny_bind (wpAny_seqItems hTI rfl ?_)))
  show wpAny _ _ (Builtin.SmallTypes.ownedTupleIsFree (.ref z) >>= _) _ _ _
  refine wpAny_bind ?_
  unfold Builtin.SmallTypes.ownedTupleIsFree
  refine wpAny_bind (wpAny_field hz rfl (x:=.none) rfl (wpAny_pure ?_))
  simp only [if_true]
  refine wpAny_bind (wpAny_rule (wpAny_bind (wpAny_field hz rfl (x:=.ref TO) rfl (wpAny_bind (wpAny_setField_rec hz (by simp) fun g1 z1 s1=>?_)))))
  replace z1:IsZip g1 z TI TO .ellipsis:=z1
  refine wpAny_bind ?_
  simp only [List.zipIdx_cons,List.zipIdx_nil,List.forIn_cons,List.forIn_nil]
  refine wpAny_bind (wpAny_bind (wpAny_onRaise ?_))
  show wpAny _ _ (Builtin.SmallTypes.nextOf (.ref i1) >>= _) _ _ _
  refine wpAny_bind (nextT_item (h1.at fun o e=>s1.extBut _ o D.a3 e) (hl1.at fun o e=>s1.extBut _ o D.e1 e) hx fun g2 j1 s2=>wpAny_pure ?_)
  have o2:IsPair g2 TO a b:=s2.extBut _ _ D.c1 (s1.extBut _ _ D.a2 hTO)
  refine wpAny_bind (wpAny_seqItems o2 rfl (wpAny_bind (wpAny_updateSeq_pair o2 fun g3 o3 s3=>?_)))
  replace o3:IsPair g3 TO x b:=o3
  refine wpAny_bind (wpAny_letGo (wpAny_pure (wpAny_bind (wpAny_bind (wpAny_onRaise ?_)))))
  show wpAny _ _ (Builtin.SmallTypes.nextOf (.ref i2) >>= _) _ _ _
  refine wpAny_bind (nextT_item (h2.at fun o e=>s3.extBut _ o D.c2.symm (s2.extBut _ o D.d1.symm (s1.extBut _ o D.a4 e))) (hl2.at fun o e=>s3.extBut _ o D.f2 (s2.extBut _ o D.f3 (s1.extBut _ o D.f1 e))) hy fun g4 j2 s4=>wpAny_pure ?_)
  have o4:IsPair g4 TO x b:=s4.extBut _ _ D.c2 o3
  refine wpAny_bind (wpAny_seqItems o4 rfl (wpAny_bind (wpAny_updateSeq_pair o4 fun g5 o5 s5=>?_)))
  replace o5:IsPair g5 TO x y:=o5
  refine wpAny_bind (wpAny_letGo (wpAny_pure (wpAny_pure ?_)))
  refine wpAny_bind (wpAny_seqItems o5 rfl (wpAny_bind (wpAny_newTuple ?_)))
  have hsz:g5.objs.size=s.heap.objs.size:=by rw [s5.1,s4.1,s3.1,s2.1,s1.1]
  have z5:IsZip g5 z TI TO .ellipsis:=s5.extBut _ _ D.a2.symm (s4.extBut _ _ D.a4.symm (s3.extBut _ _ D.a2.symm (s2.extBut _ _ D.a3.symm z1)))
  have k5:∀ c o,c ∉ [z,TO,i1,i2]->s.heap.get? c=some o->g5.get? c=some o:=fun c o hc e=>by
    simp only [List.mem_cons,List.not_mem_nil,or_false,not_or] at hc
    exact s5.extBut _ _ hc.2.1 (s4.extBut _ _ hc.2.2.2 (s3.extBut _ _ hc.2.1 (s2.extBut _ _ hc.2.2.1 (s1.extBut _ _ hc.1 e))))
  have m1:g5.IsTupleIter i1 t1 (k + 1):=j1.at fun o e=>s5.extBut _ o D.c1.symm (s4.extBut _ o D.d1 (s3.extBut _ o D.c1.symm e))
  have m2:g5.IsTupleIter i2 t2 (k + 1):=j2.at fun o e=>s5.extBut _ o D.c2.symm e
  show wpAny _ _ (Builtin.SmallTypes.ownedTupleHandOut (.ref z) (.ref g5.objs.size) >>= _) _ _ _
  refine wpAny_bind ?_
  unfold Builtin.SmallTypes.ownedTupleHandOut
  have z6:IsZip (g5.push { cls:=.type "tuple",data:=.seq #[x,y] }) z TI TO .ellipsis:=Heap.get?_push_of_some _ z5
  refine wpAny_bind (wpAny_setField_rec z6 (by simp) fun g7 z7 s7=>?_)
  replace z7:IsZip g7 z TI TO (rawInt g5.objs.size):=z7
  refine wpAny_setField_rec z7 (by simp) fun g8 z8 s8=>?_
  replace z8:IsZip g8 z TI TO (rawInt g5.objs.size):=z8
  have up:∀ c o,c ≠ z->g5.get? c=some o->g8.get? c=some o:=fun c o hc e=>s8.extBut _ _ hc (s7.extBut _ _ hc (Heap.get?_push_of_some _ e))
  have new8:IsPair g8 g5.objs.size x y:=s8.extBut _ _ (Nat.ne_of_gt (Heap.lt_size z5)) (s7.extBut _ _ (Nat.ne_of_gt (Heap.lt_size z5)) (Heap.get?_push_size _ rfl))
  have size8:g8.objs.size=g5.objs.size + 1:=by rw [s8.1,s7.1,Heap.size_push]
  rw [hsz] at z8 new8 size8
  refine wpAny_pure ⟨_,rfl,wpAny_pure ?_⟩
  show Q (some (.ref g5.objs.size)) _
  rw [hsz]
  exact hQ g8 z8 (up _ _ D.a2 o5) (m1.at fun o e=>up _ o D.a3 e) (m2.at fun o e=>up _ o D.a4 e) new8 size8 fun c o hc e=>up c o (fun q=>hc (by simp [q])) (k5 c o hc e)
theorem zipT_end {z TI TO i1 i2 t1 t2:Addr} {xs:Array Value} {k:Nat} {Q:Option Value->Shared->Prop} (hh:A.handled=none) (D:ZipD z TI TO i1 i2 t1 t2) (Z:ZipT s.heap z TI TO i1 i2 t1 t2 k) (hl1:s.heap.IsTuple t1 xs)
    (hx:xs[k]?=none) (hQ:∀ h',(∀ c o,c ∉ [z,TO,i1,i2]->s.heap.get? c=some o->h'.get? c=some o)->Q none { s with heap:=h' }):wpAny (model prog w) A (pyNext (.ref z)) Q E s:=by
  obtain ⟨hz,hTI,⟨a,b,hTO⟩,h1,h2⟩:=Z
  have hT:s.TypeIs (.ref z) "zip":=⟨_,hz,rfl⟩
  unfold pyNext
  refine wpAny_bind (wpAny_attempt (wpAny_callSpecial?_slot (name:=Str.ofString "__next__") hT F.slot_zip_next (wpAny_call_entry F.slot_zip_next hT F.entry_zip_next ?_ (F.args_zip_next_1 _))))
  show wpAny _ _ (field (.ref z) 2 >>= _) _ _ _
  refine wpAny_bind (wpAny_field hz rfl (x:=.bool false) rfl ?_)
  show wpAny _ _ (field (.ref z) 3 >>= _) _ _ _
  refine wpAny_bind (wpAny_field hz rfl (x:=.ref TI) rfl (wpAny_bind (wpAny_seqItems hTI rfl ?_)))
  show wpAny _ _ (Builtin.SmallTypes.ownedTupleIsFree (.ref z) >>= _) _ _ _
  refine wpAny_bind ?_
  unfold Builtin.SmallTypes.ownedTupleIsFree
  refine wpAny_bind (wpAny_field hz rfl (x:=.none) rfl (wpAny_pure ?_))
  simp only [if_true]
  refine wpAny_bind (wpAny_rule (wpAny_bind (wpAny_field hz rfl (x:=.ref TO) rfl (wpAny_bind (wpAny_setField_rec hz (by simp) fun g1 z1 s1=>?_)))))
  replace z1:IsZip g1 z TI TO .ellipsis:=z1
  refine wpAny_bind ?_
  simp only [List.zipIdx_cons,List.zipIdx_nil,List.forIn_cons,List.forIn_nil]
  refine wpAny_bind (wpAny_bind (wpAny_onRaise ?_))
  show wpAny _ _ (Builtin.SmallTypes.nextOf (.ref i1) >>= _) _ _ _
  refine wpAny_bind (nextT_end hh (h1.at fun o e=>s1.extBut _ o D.a3 e) (hl1.at fun o e=>s1.extBut _ o D.e1 e) hx fun g2 e s2 he=>?_)
  obtain ⟨oe,hoe,hce⟩:=he
  have z2:IsZip g2 z TI TO .ellipsis:=s2 _ _ D.a3.symm z1
  have hez:e ≠ z:=fun q=>by subst q;rw [z2] at hoe;cases hoe;simp at hce
  refine wpAny_setField_rec z2 (by simp) fun g3 _ s3=>?_
  refine wpAny_bind (wpAny_isInstance (T:="StopIteration") (b:=true) ⟨oe,s3.extBut _ _ hez hoe,hce⟩ isSubtype_stop (wpAny_pure (hQ g3 fun c o hc q=>?_)))
  simp only [List.mem_cons,List.not_mem_nil,or_false,not_or] at hc
  exact s3.extBut _ _ hc.1 (s2 _ _ hc.2.2.1 (s1.extBut _ _ hc.1 q))
abbrev tit (t:Addr):Obj:={ cls:=.type "tuple_iterator",data:=.fields #[.ref t,.int 0 0] }
abbrev tpr (a b:Value):Obj:={ cls:=.type "tuple",data:=.seq #[a,b] }
abbrev zob (a b:Addr):Obj:={ cls:=.type "zip",data:=.fields #[.none,.bool false,.bool false,.ref a,.ref b] }
abbrev zipHp (h:Heap) (t1 t2:Addr):Heap:=((((h.push (tit t1)).push (tit t2)).push (tpr (.ref h.objs.size) (.ref (h.objs.size + 1)))).push (tpr .none .none)).push (zob (h.objs.size + 2) (h.objs.size + 3))
theorem zip_newT (t1 t2:Addr) (xs ys:Array Value) :
    Meets (Builtin.«zip.__new__» ⟨[.type "zip",.ref t1,.ref t2],[]⟩) (fun _ R s=>s.heap.IsTuple t1 xs/\s.heap.IsTuple t2 ys/\R (.ok (.ret (.ref (s.heap.objs.size + 4)))) { s with heap:=zipHp s.heap t1 t2 }) :=
  .of_wp fun prog w A R s h=>by
    obtain ⟨hp,g,d,tk,os⟩:=s;obtain ⟨hl1,hl2,h⟩:=h
    have hsub:=sub_zip
    have hL1:Heap.IsTuple (Shared.heap ⟨hp,g,d,tk,os⟩) t1 xs:=hl1
    have hL2:Heap.IsTuple (Shared.heap ⟨hp.push (tit t1),g,d,tk,os⟩) t2 ys:=Heap.IsTuple.push hl2 _
    wp_walk using wpAny_pyIter_tuple hL1,wpAny_pyIter_tuple hL2
    simp only [Heap.size_push]
    exact ⟨_,rfl,h⟩
theorem call_zipT {t1 t2:Addr} {xs ys:Array Value} {Q:Value->Shared->Prop} (hl1:s.heap.IsTuple t1 xs) (hl2:s.heap.IsTuple t2 ys)
    (h:∀ h',ZipT h' (s.heap.objs.size + 4) (s.heap.objs.size + 2) (s.heap.objs.size + 3) s.heap.objs.size (s.heap.objs.size + 1) t1 t2 0->(∀ c o,s.heap.get? c=some o->h'.get? c=some o)->h'.objs.size=s.heap.objs.size + 5 ->
      Q (.ref (s.heap.objs.size + 4)) { s with heap:=h' }):wpAny (model prog w) A (call (.type "zip") [.ref t1,.ref t2]) Q E s:=by
  refine callType_new F.called_zip (by decide) (F.typeCall_zip_2 _ _) (F.newCall_zip_2 _ _) (fun obj=>F.args_object_init_3 obj _ _) F.entry_zip_new (zip_newT t1 t2 xs ys) ⟨hl1,hl2,?_⟩
  have up:∀ {b:Addr} {o:Obj} (h0:Heap) (x:Obj),h0.get? b=some o->(h0.push x).get? b=some o:=fun _ _ e=>Heap.get?_push_of_some _ e
  have here:∀ (h0:Heap) (x:Obj) (n:Nat),x.isFreed=false->h0.objs.size=n->(h0.push x).get? n=some x:=fun h0 x n hf e=>by subst e;exact Heap.get?_push_size _ hf
  have Z:ZipT (zipHp s.heap t1 t2) (s.heap.objs.size + 4) (s.heap.objs.size + 2) (s.heap.objs.size + 3) s.heap.objs.size (s.heap.objs.size + 1) t1 t2 0 :=
    ⟨here _ _ _ rfl (by simp only [Heap.size_push]),up _ _ (up _ _ (here _ _ _ rfl (by simp only [Heap.size_push]))),⟨_,_,up _ _ (here _ _ _ rfl (by simp only [Heap.size_push]))⟩,
      ⟨_,up _ _ (up _ _ (up _ _ (up _ _ (here _ _ _ rfl rfl)))),rfl,rfl⟩,⟨_,up _ _ (up _ _ (up _ _ (here _ _ _ rfl (by simp only [Heap.size_push])))),rfl,rfl⟩⟩
  exact ⟨⟨_,Z.zz,rfl⟩,h _ Z (fun c o e=>up _ _ (up _ _ (up _ _ (up _ _ (up _ _ e))))) (by simp only [Heap.size_push])⟩
end
section
variable {X:Cx} {pins:List (Addr × Obj)} {σ:St} {H:Hp} {s:Shared}
theorem Inv.turnedL {h':Heap} {t':Nat} {ch:List Addr} (I:Inv X pins σ H s) (k:∀ b o,b ∉ ch->s.heap.get? b=some o->h'.get? b=some o) (hf:∀ b ∈ ch,FpOk X pins H b):Inv X pins σ H { s with heap:=h',toks:=t' }:=by
  have nit:∀ b u,H b=some u->b ∉ ch:=fun b u e z=>by rw [(hf b z).1] at e;cases e
  refine I.step (g':=s.gens) (d':=s.drawn) (ch:=ch) (fun b hb=>⟨(hf b hb).2.2.2.1,(hf b hb).2.1,(hf b hb).2.2.2.2.1,(hf b hb).2.2.2.2.2⟩) (fun b o _ _ hc e _=>k b o hc e) (fun b o _ _ hc e _=>⟨o.slots,k b o hc e⟩) (fun _ _ _ _ n=>n)
    (fun b o hc e=>⟨o,k b o hc e⟩) (fun _ _ e=>e) (fun _ _ _ e=>e) (fun b ps e=>⟨#[],by rw [e];simp⟩) (fun m hm=>?_) (fun b u e=>?_) I.bare
  · obtain ⟨o,es,ep,ho,r⟩:=hm
    exact ⟨o,es,ep,k _ o (fun z=>(hf _ z).2.1 rfl) ho,r⟩
  · refine (I.hok b u e).stay (fun c v hc q=>k c v ?_ q) (fun _ q=>q) fun _ _ q=>q
    rcases hc with z | z
    · rw [z];exact nit b u e
    · exact nit c _ z
def Itz (K:PySem.W.Frag) (a b:Addr):It :=
  ⟨fun i H=>∃ xs ys x y,SqT K H a xs/\SqT K H b ys/\xs[i]?=some x/\ys[i]?=some y,fun i H v H'=>∃ p x y,H p=none/\v=.ref p/\H'=upd H p (.tup [x,y])/\(∀ xs,SqT K H a xs->xs[i]?=some x)/\∀ ys,SqT K H b ys->ys[i]?=some y,
    fun i H=>∃ xs,SqT K H a xs/\xs.length <= i⟩
theorem turn_zip {P:Program} {w:World} {K:PySem.W.Frag} {es:List Expr} {kk:Nat} {pos:Pos} {a b z TI TO i1 i2:Addr} (D:ZipD z TI TO i1 i2 a b) :
    Turn P w K (.Tuple es kk pos) (Itz K a b) [z,TI,TO,i1,i2] z (fun i h=>ZipT h z TI TO i1 i2 a b i) where
  mem:=by simp
  obj:=fun i h st c hc=>by
    obtain ⟨hz,hTI,⟨_,_,hTO⟩,⟨_,h1,_,d1⟩,⟨_,h2,_,d2⟩⟩:=st
    simp only [List.mem_cons,List.not_mem_nil,or_false] at hc
    rcases hc with rfl | rfl | rfl | rfl | rfl
    · exact ⟨_,hz,fun v q=>by cases q⟩
    · exact ⟨_,hTI,fun v q=>by cases q⟩
    · exact ⟨_,hTO,fun v q=>by cases q⟩
    · exact ⟨_,h1,fun v q=>by rw [d1] at q;cases q⟩
    · exact ⟨_,h2,fun v q=>by rw [d2] at q;cases q⟩
  keep:=fun i h h' st k=>by
    obtain ⟨hz,hTI,⟨_,_,hTO⟩,h1,h2⟩:=st
    exact ⟨k _ (by simp) _ hz,k _ (by simp) _ hTI,⟨_,_,k _ (by simp) _ hTO⟩,h1.at fun o e=>k _ (by simp) o e,h2.at fun o e=>k _ (by simp) o e⟩
  item:=by
    intro X hP hw hK hc i pins s σ H E I hf st hg
    subst hP hw hK
    obtain ⟨xs,ys,x,y,ha,hb,hx,hy⟩:=hg
    obtain ⟨its,r1,p1,_⟩:=I.tuple ha
    obtain ⟨its2,r2,p2,_⟩:=I.tuple hb
    obtain ⟨u,hu,ru⟩:=r1.get hx
    obtain ⟨v,hv,rv⟩:=r2.get hy
    refine zipT_item D st (show s.heap.IsTuple a its.toArray from p1) (show s.heap.IsTuple b its2.toArray from p2) (x:=u) (y:=v) (by simpa using hu) (by simpa using hv) fun h' z1 o1 j1 j2 new sz keep=>?_
    refine ⟨_,rfl,wpAny_letOwnedTupleGo_zip (s:={ s with heap:=h' }) z1 fun h2 z2 sb=>?_⟩
    have hn:H s.heap.objs.size=none:=I.hok.fresh (Nat.le_refl _)
    have zlt:z < s.heap.objs.size:=Heap.lt_size st.zz
    have k2:∀ c o,c ∉ [z,TI,TO,i1,i2]->s.heap.get? c=some o->h2.get? c=some o:=fun c o hc e=>by
      simp only [List.mem_cons,List.not_mem_nil,or_false,not_or] at hc
      exact sb.extBut _ _ hc.1 (keep c o (by simp only [List.mem_cons,List.not_mem_nil,or_false,not_or];exact ⟨hc.1,hc.2.2.1,hc.2.2.2.1,hc.2.2.2.2⟩) e)
    have e0:h2.get? s.heap.objs.size=some { cls:=.type "tuple",data:=.seq #[u,v] }:=sb.extBut _ _ (Nat.ne_of_gt zlt) new
    have pne:∀ c o,s.heap.get? c=some o->c ≠ s.heap.objs.size:=fun c o e=>Nat.ne_of_lt (Heap.lt_size e)
    have nit:∀ c u,H c=some u->c ∉ [z,TI,TO,i1,i2]:=fun c u e q=>by rw [(hf c q).1] at e;cases e
    have hok:HOk X.prog X.w (upd H s.heap.objs.size (.tup [x,y])) h2:=fun c ob e=>by
      by_cases hq:c=s.heap.objs.size
      · subst hq
        rw [upd_same] at e;cases e
        exact ⟨by show 2 <= sizeLine;decide,[u,v],.cons ru (.cons rv .nil),⟨_,e0,rfl,_,rfl⟩⟩
      · rw [upd_ne hq] at e
        refine (I.hok c ob e).stay (fun d w' hd q=>k2 d w' ?_ q) (fun d q=>by rw [upd_ne (ne_of_none q hn)];exact q) fun d xs q=>by rw [upd_ne (ne_of_none q hn)];exact q
        rcases hd with rfl | hd
        · exact nit d ob e
        · exact nit d _ hd
    have I2:Inv X pins σ (upd H s.heap.objs.size (.tup [x,y])) { s with heap:=h2 }:=by
      refine I.step (g':=s.gens) (d':=s.drawn) (t':=s.toks) (ch:=[z,TI,TO,i1,i2]) (fun c hc=>⟨(hf c hc).2.2.2.1,(hf c hc).2.1,(hf c hc).2.2.2.2.1,(hf c hc).2.2.2.2.2⟩) (fun c o _ _ hc e _=>k2 c o hc e) (fun c o _ _ hc e _=>⟨o.slots,k2 c o hc e⟩)
        (fun c o _ e n=>by rw [upd_ne (pne c o e)];exact n) (fun c o hc e=>⟨o,k2 c o hc e⟩) (fun c xs e=>by rw [upd_ne (ne_of_none e hn)];exact e) (fun c o u e=>by rw [upd_ne (ne_of_none e hn)];exact e) (fun c ps e=>⟨#[],by rw [upd_ne (ne_of_none e hn),e];simp⟩) (fun m hm=>?_) hok I.bare
      obtain ⟨o,es,ep,ho,r⟩:=hm
      exact ⟨o,es,ep,k2 _ o (fun q=>(hf _ q).2.1 rfl) ho,r⟩
    refine ⟨.ref s.heap.objs.size,_,I2,rfl,⟨_,x,y,hn,rfl,rfl,fun xs' h'=>by rw [I.tuple_inj h' ha];exact hx,fun ys' h'=>by rw [I.tuple_inj h' hb];exact hy⟩,?_,fun c hc=>?_⟩
    · exact ⟨z2,sb.extBut _ _ D.a1 (keep _ _ (by simp only [List.mem_cons,List.not_mem_nil,or_false,not_or];exact ⟨D.a1,D.b1,D.b2,D.b3⟩) st.ti),⟨_,_,sb.extBut _ _ D.a2 o1⟩,j1.at fun o e=>sb.extBut _ o D.a3 e,j2.at fun o e=>sb.extBut _ o D.a4 e⟩
    · have hlt:c < s.heap.objs.size:=by
        obtain ⟨hz,hTI,⟨_,_,hTO⟩,⟨_,h1,_⟩,⟨_,h2,_⟩⟩:=st
        simp only [List.mem_cons,List.not_mem_nil,or_false] at hc
        rcases hc with rfl | rfl | rfl | rfl | rfl
        · exact Heap.lt_size hz
        · exact Heap.lt_size hTI
        · exact Heap.lt_size hTO
        · exact Heap.lt_size h1
        · exact Heap.lt_size h2
      rw [upd_ne (Nat.ne_of_lt hlt)]
      exact (hf c hc).1
  done:=by
    intro X hP hw hK hc i pins s σ H E I hf st hg
    subst hP hw hK
    obtain ⟨xs,ha,hx⟩:=hg
    obtain ⟨its,r1,p1,_⟩:=I.tuple ha
    have hl:=r1.length
    refine zipT_end (I.ok.hd hc) D st (show s.heap.IsTuple a its.toArray from p1) (by simp;omega) fun h' keep=>⟨rfl,I.turnedL (t':=s.toks) (ch:=[z,TI,TO,i1,i2]) (fun c o hc e=>keep c o (fun q=>hc ?_) e) hf⟩
    simp only [List.mem_cons,List.not_mem_nil,or_false] at q ⊢
    rcases q with q | q | q | q
    · exact .inl q
    · exact .inr (.inr (.inl q))
    · exact .inr (.inr (.inr (.inl q)))
    · exact .inr (.inr (.inr (.inr q)))
  self:=fun _ _ _ _ _ st h=>wpAny_pyIter_zip st.zz h
def iZip (K:PySem.W.Frag) (ta:TA):TI:=fun σ H R=>ta σ H fun vs H1=>∃ a b xs ys,vs=[.ref a,.ref b]/\SqT K H1 a xs/\SqT K H1 b ys/\R (Itz K a b) H1
theorem pi_zip {e1 e2:Expr} {es:List Expr} {kk:Nat} {pt p pos:Pos} {ta:TA} (hg:Gl X "zip") (hm:X.mg "zip"=none) (ha:PA X [e1,e2] ta) (hs:starEach [e1,e2] X.env=[(false,eval e1 X.env),(false,eval e2 X.env)]:=by rfl) (hs2:starEach [e2] X.env=[(false,eval e2 X.env)]:=by rfl) :
    PI X (.Tuple es kk pt) (.Call (.Name "zip" p) [e1,e2] [] pos) (iZip X.K ta):=by
  intro pins s σ H R I h
  refine Call_ (ld_blt I hg hm boot_zip (PyProof.Rows.callWith_type1 (thn (ha pos pins s σ H _ I h) fun us s1 ⟨vs,H1,I1,r1,q1⟩=>?_) (by rw [hs,hs2]) (by rw [hs2];rfl)))
  obtain ⟨a,b,xs,ys,rfl,hx,hy,q⟩:=q1
  cases r1 with
  | cons ra rr =>
    cases rr with
    | cons rb rr =>
      cases rr
      cases ra
      cases rb
      obtain ⟨its,r1,p1,_⟩:=I1.tuple hx
      obtain ⟨its2,r2,p2,_⟩:=I1.tuple hy
      refine call_zipT (show s1.heap.IsTuple a its.toArray from p1) (show s1.heap.IsTuple b its2.toArray from p2) fun h' Z keep sz=>?_
      refine wpAny_pyIter_zip (s:={ s1 with heap:=h' }) Z.zz ?_
      have I2:Inv X pins σ H1 { s1 with heap:=h' }:=I1.kept (t':=s1.toks) keep
      refine ⟨s1.heap.objs.size + 4,[s1.heap.objs.size + 4,s1.heap.objs.size + 2,s1.heap.objs.size + 3,s1.heap.objs.size,s1.heap.objs.size + 1],_,_,H1,rfl,I2,turn_zip (ZipD.new p1.lt p2.lt),Z,fun c hc=>?_,q⟩
      have hge:s1.heap.objs.size <= c:=by
        simp only [List.mem_cons,List.not_mem_nil,or_false] at hc
        rcases hc with rfl | rfl | rfl | rfl | rfl <;> first | exact Nat.le_add_right _ _ | exact Nat.le_refl _
      exact I1.fpOk hge (I1.hok.fresh hge)
end
end L2
namespace L2
open PySem PySem.Spec PyProof.Rows
mutual
def Dt (st:Addr) (H:Hp):PyData->V->Prop
  | .none,v=>v=.non
  | .bool b,v=>v=.bl b
  | .int i,v=>v=.int i
  | .str x,v=>v=.str x
  | .tuple ds,v=>∃ a xs,v=.ref a/\a ≠ st/\H a=some (.tup xs)/\Dts st H ds xs
  | .list ds,v=>∃ a xs,v=.ref a/\a ≠ st/\H a=some (.lst xs)/\Dts st H ds xs
  | .dict _,v=>∃ a ks,v=.ref a/\a ≠ st/\H a=some (.dK ks)
def Dts (st:Addr) (H:Hp):List PyData->List V->Prop
  | [],xs=>xs=[]
  | d :: ds,xs=>∃ x r,xs=x :: r/\Dt st H d x/\Dts st H ds r
end
def Kp (st:Addr) (H H':Hp):Prop:=∀ b o,b ≠ st->H b=some o->H' b=some o
theorem Kp.refl (st:Addr) (H:Hp):Kp st H H:=fun _ _ _ e=>e
theorem Kp.trans {st:Addr} {H H1 H2:Hp} (a:Kp st H H1) (b:Kp st H1 H2):Kp st H H2:=fun c o n e=>b c o n (a c o n e)
theorem Same.kp {H H':Hp} (a:Same H H') (st:Addr):Kp st H H':=fun b o _ e=>a b o e
theorem Same.new {H:Hp} {p:Addr} {o:HO} (h:H p=none):Same H (upd H p o):=fun b u q=>by rw [upd_ne (ne_of_none q h)];exact q
theorem Kp.new {st:Addr} {H:Hp} {p:Addr} {o:HO} (h:H p=none):Kp st H (upd H p o):=(Same.new h).kp st
theorem Kp.at {st:Addr} {H:Hp} {o:HO}:Kp st H (upd H st o):=fun b u n q=>by rw [upd_ne n];exact q
mutual
theorem Dt.kp {st:Addr} {H H':Hp} (k:Kp st H H'):∀ {d:PyData} {v:V},Dt st H d v->Dt st H' d v
  | .none,_,h=>by unfold Dt at h ⊢;exact h
  | .bool _,_,h=>by unfold Dt at h ⊢;exact h
  | .int _,_,h=>by unfold Dt at h ⊢;exact h
  | .str _,_,h=>by unfold Dt at h ⊢;exact h
  | .tuple ds,_,h=>by
    unfold Dt at h ⊢
    obtain ⟨a,xs,e,n,q,r⟩:=h
    exact ⟨a,xs,e,n,k a _ n q,Dts.kp k r⟩
  | .list ds,_,h=>by
    unfold Dt at h ⊢
    obtain ⟨a,xs,e,n,q,r⟩:=h
    exact ⟨a,xs,e,n,k a _ n q,Dts.kp k r⟩
  | .dict kvs,_,h=>by
    unfold Dt at h ⊢
    obtain ⟨a,ks,e,n,q⟩:=h
    exact ⟨a,ks,e,n,k a _ n q⟩
theorem Dts.kp {st:Addr} {H H':Hp} (k:Kp st H H'):∀ {ds:List PyData} {xs:List V},Dts st H ds xs->Dts st H' ds xs
  | [],_,h=>by unfold Dts at h ⊢;exact h
  | d :: ds,_,h=>by
    unfold Dts at h ⊢
    obtain ⟨x,r,e,q1,q2⟩:=h
    exact ⟨x,r,e,Dt.kp k q1,Dts.kp k q2⟩
end
theorem Dt.int (st:Addr) (H:Hp) (i:Int):Dt st H (.int i) (.int i):=by unfold Dt;rfl
theorem Dt.bl (st:Addr) (H:Hp) (b:Bool):Dt st H (.bool b) (.bl b):=by unfold Dt;rfl
theorem Dt.non (st:Addr) (H:Hp):Dt st H .none .non:=by unfold Dt;rfl
theorem Dt.str (st:Addr) (H:Hp) (x:Str):Dt st H (.str x) (.str x):=by unfold Dt;rfl
theorem Dt.tup {st:Addr} {H:Hp} {a:Addr} {xs:List V} {ds:List PyData} (n:a ≠ st) (h:H a=some (.tup xs)) (r:Dts st H ds xs):Dt st H (.tuple ds) (.ref a):=by unfold Dt;exact ⟨a,xs,rfl,n,h,r⟩
theorem Dt.lst {st:Addr} {H:Hp} {a:Addr} {xs:List V} {ds:List PyData} (n:a ≠ st) (h:H a=some (.lst xs)) (r:Dts st H ds xs):Dt st H (.list ds) (.ref a):=by unfold Dt;exact ⟨a,xs,rfl,n,h,r⟩
theorem Dts.nil (st:Addr) (H:Hp):Dts st H [] []:=by unfold Dts;rfl
theorem Dts.cons {st:Addr} {H:Hp} {d:PyData} {ds:List PyData} {x:V} {xs:List V} (h:Dt st H d x) (r:Dts st H ds xs):Dts st H (d :: ds) (x :: xs):=by unfold Dts;exact ⟨x,xs,rfl,h,r⟩
theorem Dts.uncons {st:Addr} {H:Hp} {d:PyData} {ds:List PyData} {xs:List V} (h:Dts st H (d :: ds) xs):∃ x r,xs=x :: r/\Dt st H d x/\Dts st H ds r:=by unfold Dts at h;exact h
theorem Dts.len {st:Addr} {H:Hp}:∀ {ds:List PyData} {xs:List V},Dts st H ds xs->ds.length=xs.length
  | [],_,h=>by unfold Dts at h;subst h;rfl
  | d :: ds,_,h=>by
    obtain ⟨x,r,e,_,q⟩:=h.uncons
    subst e
    rw [List.length_cons,List.length_cons,Dts.len q]
theorem Dts.append {st:Addr} {H:Hp}:∀ {ds es:List PyData} {xs ys:List V},Dts st H ds xs->Dts st H es ys->Dts st H (ds ++ es) (xs ++ ys)
  | [],_,_,_,h,q=>by unfold Dts at h;subst h;exact q
  | d :: ds,_,_,_,h,q=>by
    obtain ⟨x,r,e,h1,h2⟩:=h.uncons
    subst e
    exact Dts.cons h1 (Dts.append h2 q)
theorem Dts.get {st:Addr} {H:Hp}:∀ {ds:List PyData} {xs:List V} {i:Nat} {x:V},Dts st H ds xs->xs[i]?=some x->∃ d,ds[i]?=some d/\Dt st H d x
  | [],_,i,x,h,e=>by unfold Dts at h;subst h;simp at e
  | d :: ds,_,0,x,h,e=>by
    obtain ⟨y,r,e1,h1,h2⟩:=h.uncons
    subst e1
    simp at e;subst e
    exact ⟨d,rfl,h1⟩
  | d :: ds,_,i + 1,x,h,e=>by
    obtain ⟨y,r,e1,h1,h2⟩:=h.uncons
    subst e1
    obtain ⟨d',e2,h3⟩:=Dts.get (i:=i) (x:=x) h2 (by simpa using e)
    exact ⟨d',by simpa using e2,h3⟩
theorem Dts.ints (st:Addr) (H:Hp):∀ ns:List Int,Dts st H (ns.map PyData.int) (ns.map V.int)
  | []=>Dts.nil st H
  | n :: ns=>Dts.cons (Dt.int st H n) (Dts.ints st H ns)
theorem Dts.ints_eq {st:Addr} {H:Hp}:∀ {ns:List Int} {xs:List V},Dts st H (ns.map PyData.int) xs->xs=ns.map V.int
  | [],_,h=>by unfold Dts at h;exact h
  | n :: ns,_,h=>by
    rw [List.map_cons] at h
    obtain ⟨x,r,e,h1,h2⟩:=h.uncons
    unfold Dt at h1
    rw [e,h1,Dts.ints_eq h2,List.map_cons]
abbrev DI (ns:List Int):PyData:=.tuple (ns.map .int)
theorem Dt.di {st:Addr} {H:Hp} {ns:List Int} {v:V} (h:Dt st H (DI ns) v):∃ a,v=.ref a/\a ≠ st/\H a=some (.tup (ns.map V.int)):=by
  unfold DI Dt at h
  obtain ⟨a,xs,e,n,q,r⟩:=h
  exact ⟨a,e,n,by rw [q,r.ints_eq]⟩
theorem Dt.mkI {st:Addr} {H:Hp} {ns:List Int} {a:Addr} (n:a ≠ st) (h:H a=some (.tup (ns.map V.int))):Dt st H (DI ns) (.ref a):=Dt.tup n h (Dts.ints st H ns)
mutual
theorem Dt.reads {P:Program} {w:World} {st:Addr} {H:Hp} {h:Heap} (ok:HOk P w H h):∀ {d:PyData} {v:V} {u:Value},d.canLay0=true->Dt st H d v->RelV v u->∃ as,Reads h u d as
  | .none,_,u,_,q,r=>by unfold Dt at q;subst q;cases r;exact ⟨[],.none⟩
  | .bool b,_,u,_,q,r=>by unfold Dt at q;subst q;cases r;exact ⟨[],.bool b⟩
  | .int i,_,u,_,q,r=>by unfold Dt at q;subst q;obtain ⟨t,rfl⟩:=r;exact ⟨[],.int i t⟩
  | .str x,_,u,_,q,r=>by unfold Dt at q;subst q;obtain ⟨t,rfl⟩:=r;exact ⟨[],.str x t⟩
  | .tuple ds,_,u,cl,q,r=>by
    unfold PyData.canLay0 at cl
    unfold Dt at q
    obtain ⟨a,xs,e,n,hq,rs⟩:=q
    subst e
    cases r
    obtain ⟨_,its,rv,o,ho,hc,m,hd⟩:=ok a _ hq
    obtain ⟨as,ra⟩:=Dts.reads ok cl rs rv
    exact ⟨as,.tuple ho hc hd (by simpa using ra)⟩
  | .list ds,_,u,cl,q,r=>by
    unfold PyData.canLay0 at cl
    unfold Dt at q
    obtain ⟨a,xs,e,n,hq,rs⟩:=q
    subst e
    cases r
    obtain ⟨_,its,m,rv,ho⟩:=ok a _ hq
    obtain ⟨as,ra⟩:=Dts.reads ok cl rs rv
    exact ⟨a :: as,.list ho rfl rfl (by simpa using ra)⟩
  | .dict kvs,_,u,cl,q,r=>by unfold PyData.canLay0 at cl;cases cl
theorem Dts.reads {P:Program} {w:World} {st:Addr} {H:Hp} {h:Heap} (ok:HOk P w H h):∀ {ds:List PyData} {xs:List V} {us:List Value},PyData.canLayAll0 ds=true->Dts st H ds xs->Vals xs us->∃ as,ReadsAll h us ds as
  | [],_,us,_,q,r=>by unfold Dts at q;subst q;cases r;exact ⟨[],.nil⟩
  | d :: ds,_,us,cl,q,r=>by
    unfold PyData.canLayAll0 at cl
    rw [Bool.and_eq_true] at cl
    obtain ⟨x,rr,e,h1,h2⟩:=q.uncons
    subst e
    cases r with
    | cons r1 r2 =>
      obtain ⟨as,ra⟩:=Dt.reads ok cl.1 h1 r1
      obtain ⟨bs,rb⟩:=Dts.reads ok cl.2 h2 r2
      exact ⟨as ++ bs,.cons ra rb⟩
end
section
variable {X:Cx}
def tyN:PyData->String
  | .none=>"NoneType"
  | .bool _=>"bool"
  | .int _=>"int"
  | .str _=>"str"
  | .list _=>"list"
  | .tuple _=>"tuple"
  | .dict _=>"dict"
theorem Dt.ty {K:PySem.W.Frag} {st:Addr} {H:Hp} {d:PyData} {v:V} (h:Dt st H d v):TyOf K H v (.type (tyN d)):=by
  cases d with
  | none=>unfold Dt at h;subst h;exact .non
  | bool b=>unfold Dt at h;subst h;exact .bl b
  | int i=>unfold Dt at h;subst h;exact .int i
  | str x=>unfold Dt at h;subst h;exact .str x
  | list ds=>unfold Dt at h;obtain ⟨a,xs,e,_,q,_⟩:=h;subst e;exact .lst q
  | tuple ds=>unfold Dt at h;obtain ⟨a,xs,e,_,q,_⟩:=h;subst e;exact .tup q
  | dict kvs=>unfold Dt at h;obtain ⟨a,ks,e,_,q⟩:=h;subst e;exact .dK q
def isBoolD:PyData->Bool
  | .bool _=>true
  | _=>false
def isIntD:PyData->Bool
  | .bool _=>true
  | .int _=>true
  | _=>false
def isTupD:PyData->Bool
  | .tuple _=>true
  | _=>false
def isListD:PyData->Bool
  | .list _=>true
  | _=>false
theorem kit_bool (K:PySem.W.Frag) (d:PyData):PySem.W.kitOne K (.type (tyN d)) (.type "bool")=some (isBoolD d):=by cases d <;> kernel_rfl
theorem kit_int (K:PySem.W.Frag) (d:PyData):PySem.W.kitOne K (.type (tyN d)) (.type "int")=some (isIntD d):=by cases d <;> kernel_rfl
theorem kit_tup (K:PySem.W.Frag) (d:PyData):PySem.W.kitOne K (.type (tyN d)) (.type "tuple")=some (isTupD d):=by cases d <;> kernel_rfl
theorem kit_list (K:PySem.W.Frag) (d:PyData):PySem.W.kitOne K (.type (tyN d)) (.type "list")=some (isListD d):=by cases d <;> kernel_rfl
theorem call_isi {T:String} {f:PyData->Bool} (hk:∀ K d,PySem.W.kitOne K (.type (tyN d)) (.type T)=some (f d)) :
    CallR X (.builtin "isinstance") (fun xs H Q=>∃ x st d,xs=[x,.ty T]/\Dt st H d x/\Q (.bl (f d)) H):=by
  intro pins s σ H xs us Q I r h
  obtain ⟨x,st,d,rfl,hd,q⟩:=h
  cases r with
  | cons r1 rr =>
    cases rr with
    | cons r2 rr =>
      cases rr
      cases r2
      exact isinst_ok I r1 (hd.ty (K:=X.K)) (hk X.K d) fun tk=>⟨.bl (f d),H,I.tok tk,rfl,q⟩
end
end L2
namespace L2
open PySem PySem.Spec PyProof.Rows
section
variable {prog:Program} {w:World} {A:Around} {E:Value->Shared->Prop} {s:Shared}
end
section
variable {X:Cx}
end
end L2
namespace L2
open PySem PySem.Spec PyProof.Rows
structure Cal (P:Program) (w:World) (K:PySem.W.Frag) (mg:Str->Option Value) (base:Heap) (k:Nat) (x:Str) (ps:List Str) (sp:Sp):Prop where
  ex:∃ f fd,mg x=some (.ref f)/\PySem.W.keepIn K (.ref f)=true/\Binds K fd ps []/\FnOk P w K mg base CX0 k f fd ps sp
theorem Cal.up {P:Program} {w:World} {K:PySem.W.Frag} {mg:Str->Option Value} {base:Heap} {j k:Nat} {x:Str} {ps:List Str} {sp:Sp} (C:Cal P w K mg base j x ps sp) (h:j <= k):Cal P w K mg base k x ps sp :=
  let ⟨f,fd,a,b,c,d⟩:=C.ex;⟨f,fd,a,b,c,d.mono h⟩
def tCb (sp:Sp) (t:TA):TE:=fun σ H Q=>t σ H fun vs H1=>sp vs H1 Q E0
section
variable {X:Cx} {k:Nat} {x:Str} {ps:List Str} {sp:Sp} {p pos:Pos} {e:Expr} {es:List Expr} {t:TA}
theorem pe_cal (C:Cal X.prog X.w X.K X.mg X.base k x ps sp) (hr:Room k X.A) (hg:Gl X x) (ha:PA X (e :: es) t)
    (hdb:(x == ("__debug__":Str))=false:=by decide) (he:starEach (e :: es) X.env=(false,eval e X.env) :: starEach es X.env:=by rfl) (hpl:(backTo pos (starEach es X.env)).any (·.1)=false:=by rfl) :
    PE X (.Call (.Name x p) (e :: es) [] pos) (tCb sp t):=by
  obtain ⟨f,fd,hm,hk,hb,F⟩:=C.ex
  have h:=pe_call (x:=x) (p:=p) (pos:=pos) F hr hg hm hk hb .nil pass0 ha hdb he hpl
  have e:tCall sp [] E0 t=tCb sp t:=by
    funext σ H Q
    show t σ H (fun vs H1=>sp (vs ++ []) H1 Q E0)=t σ H (fun vs H1=>sp vs H1 Q E0)
    congr 1
    funext vs H1
    rw [List.append_nil]
  rw [<- e];exact h
end
section
variable {K:PySem.W.Frag} {σ0:St} {te:TE} {H:Hp} {F:List V->Hp->Prop}
theorem blk_range {lo:Int} {n:Nat} (hn:n <= sizeLine) (Pv:Nat->List V->Hp->Prop) (h0:Pv 0 [] H) (hl:∀ i ys H,Pv i ys H->ys.length=i) (hσ:σ0[0]?=some none)
    (hs:∀ i ys H,i < n->Pv i ys H->te (σ0.set 0 (some (.int (lo + i)))) H fun y H'=>Pv (i + 1) (ys ++ [y]) H') (hd:∀ ys H,Pv n ys H->F ys H):Blk (Itr lo n) σ0 (gName 0) tTrue te H F:=by
  refine ⟨fun i m ys H=>m=n - i/\i <= n/\Pv i ys H,⟨n,by simp,Nat.zero_le _,h0⟩,?_⟩
  rintro i m ys H2 ⟨rfl,hi,p⟩
  refine ⟨by rw [hl i ys H2 p];omega,?_⟩
  by_cases hlt:i < n
  · refine .inr ⟨hlt,fun y H'=>Pv (i + 1) (ys ++ [y]) H',fun _=>False,fun y H' q=>⟨n - (i + 1),by omega,rfl,hlt,q⟩,fun _ q=>q.elim,fun x H3 y=>?_⟩
    obtain ⟨rfl,rfl⟩:=y
    exact ⟨Wk.set (.inl hσ),hs i ys _ hlt p⟩
  · have e:i=n:=by omega
    subst e
    exact .inl ⟨Nat.le_refl _,hd ys H2 p⟩
theorem blk_tup {a:Addr} {xs:List V} (hn:xs.length <= sizeLine) (Pv:Nat->List V->Hp->Prop) (h0:Pv 0 [] H) (hl:∀ i ys H,Pv i ys H->ys.length=i) (hq:∀ i ys H,i <= xs.length->Pv i ys H->SqT K H a xs) (hσ:σ0[0]?=some none)
    (hs:∀ i ys H x,xs[i]?=some x->Pv i ys H->te (σ0.set 0 (some x)) H fun y H'=>Pv (i + 1) (ys ++ [y]) H') (hd:∀ ys H,Pv xs.length ys H->F ys H):Blk (Itt K a) σ0 (gName 0) tTrue te H F:=by
  refine ⟨fun i m ys H=>m=xs.length - i/\i <= xs.length/\Pv i ys H,⟨xs.length,by simp,Nat.zero_le _,h0⟩,?_⟩
  rintro i m ys H2 ⟨rfl,hi,p⟩
  have q:=hq i ys H2 hi p
  refine ⟨by rw [hl i ys H2 p];omega,?_⟩
  by_cases hlt:i < xs.length
  · refine .inr ⟨⟨xs,xs[i],q,by simp [hlt]⟩,fun y H'=>Pv (i + 1) (ys ++ [y]) H',fun _=>False,fun y H' q=>⟨xs.length - (i + 1),by omega,rfl,hlt,q⟩,fun _ q=>q.elim,fun x H3 y=>?_⟩
    obtain ⟨rfl,y⟩:=y
    exact ⟨Wk.set (.inl hσ),hs i ys _ x (y xs q) p⟩
  · have e:i=xs.length:=by omega
    subst e
    exact .inl ⟨⟨xs,q,Nat.le_refl _⟩,hd ys H2 p⟩
theorem blk_zip {a b:Addr} {xs ys:List V} (hn:xs.length <= sizeLine) (hxy:xs.length=ys.length) (Pv:Nat->List V->Hp->Prop) (h0:Pv 0 [] H) (hl:∀ i zs H,Pv i zs H->zs.length=i)
    (hq:∀ i zs H,i <= xs.length->Pv i zs H->SqT K H a xs/\SqT K H b ys) (hσ:σ0[0]?=some none/\σ0[1]?=some none)
    (hs:∀ i zs H x y p,xs[i]?=some x->ys[i]?=some y->H p=none->Pv i zs H->te ((σ0.set 0 (some x)).set 1 (some y)) (upd H p (.tup [x,y])) fun z H'=>Pv (i + 1) (zs ++ [z]) H') (hd:∀ zs H,Pv xs.length zs H->F zs H) :
    Blk (Itz K a b) σ0 (gTup K 2 (gCons (gName 0) (gCons (gName 1) gNil))) tTrue te H F:=by
  refine ⟨fun i m zs H=>m=xs.length - i/\i <= xs.length/\Pv i zs H,⟨xs.length,by simp,Nat.zero_le _,h0⟩,?_⟩
  rintro i m zs H2 ⟨rfl,hi,p⟩
  obtain ⟨q1,q2⟩:=hq i zs H2 hi p
  refine ⟨by rw [hl i zs H2 p];omega,?_⟩
  by_cases hlt:i < xs.length
  · refine .inr ⟨⟨xs,ys,xs[i],ys[i]'(by omega),q1,q2,by simp [hlt],by rw [List.getElem?_eq_getElem (by omega)]⟩,fun y H'=>Pv (i + 1) (zs ++ [y]) H',fun _=>False,fun y H' q=>⟨xs.length - (i + 1),by omega,rfl,hlt,q⟩,fun _ q=>q.elim,fun v H3 yld=>?_⟩
    obtain ⟨r,x,y,hr,rfl,rfl,hx,hy⟩:=yld
    refine ⟨r,[x,y],rfl,.of upd_same,rfl,x,[y],rfl,y,[],rfl,rfl,?_,?_⟩
    · refine ⟨by simp,fun j u e=>?_⟩
      by_cases h1:j=1
      · subst h1;rw [hσ.2] at e;cases e
      · rw [List.getElem?_set_ne (Ne.symm h1)]
        by_cases h2:j=0
        · subst h2;rw [hσ.1] at e;cases e
        · rw [List.getElem?_set_ne (Ne.symm h2)];exact e
    · exact hs i zs _ x y r (hx xs q1) (hy ys q2) hr p
  · have e:i=xs.length:=by omega
    subst e
    exact .inl ⟨⟨xs,q1,Nat.le_refl _⟩,hd zs H2 p⟩
end
section
variable {X:Cx}
theorem pe_bty {x:Str} {T:String} {pos:Pos} (hg:Gl X x) (hm:X.mg x=none) (hv:bootBuiltins x=some (.type T)) (hn:x ≠ "__name__":=by decide) (hd:(x == ("__debug__":Str))=false:=by decide):PE X (.Name x pos) (tC (.ty T)):=pe_bltn hg hm hv (v:=.ty T) rfl hn hd
theorem pg_c {scope:Scope} {N:List Str} {s:Shared} {H:Hp} {ex:List Addr} {i:Nat} {x:Str} {pos:Pos} (hN:N.Nodup) (hi:N[i]?=some x) (hx:Loc (X.comp scope N s H ex).env.scope x)
    (hf:(X.comp scope N s H ex).fn x=true ∨ (X.comp scope N s H ex).env.scope.names.lookup x=some .local):PG (X.comp scope N s H ex) (.Name x pos) (gName i):=pg_name hN hi hx hf
end
theorem sz {n:Nat} (h:n <= 1000):n <= sizeLine:=Nat.le_of_lt (small1000 h)
end L2
namespace L2
open PySem PySem.Spec PyProof.Rows
section
variable {X:Cx} {K:PySem.W.Frag}
theorem lenK (h:X.K=K):CallR X (.builtin "len") (fun xs H Q=>∃ p ys,xs=[.ref p]/\(SqL K H p ys ∨ SqT K H p ys)/\Q (.int ys.length) H):=by subst h;exact call_len_seq
theorem tupK (h:X.K=K):CallR X (.type "tuple") (fun xs H Q=>∃ p ys,xs=[.ref p]/\((SqL K H p ys/\∀ l,H l=none->Q (.ref l) (upd H l (.tup ys))) ∨ (SqT K H p ys/\Q (.ref p) H))):=by subst h;exact call_tuple_of
theorem ixLK (h:X.K=K):IxR X (rIxL K):=by subst h;exact ix_list
theorem pgtK (h:X.K=K) {es:List Expr} {k:Nat} {t:TGs} {n:Nat} {pos:Pos} (hc:X.calm=true) (hp:PGs X es t)
    (hn:(assignEach es X.env).length=n:=by rfl) (hst:(assignEach es X.env).findIdx? (·.1)=none:=by rfl):PG X (.Tuple es k pos) (gTup K n t):=by subst h;exact pg_tup hc hp hn hst
end
end L2
namespace L2
open PySem PySem.Spec PyProof.Rows
def Hd (h:Heap) (a C:Addr):Option Addr->Prop
  | none=>∃ oe vs,h.get? a=some oe/\oe.cls=.ref C/\oe.dict=none/\oe.data=.fields vs/\vs[1]?=some .none
  | some T=>∃ oe vs oT ts,h.get? a=some oe/\oe.cls=.ref C/\oe.dict=none/\oe.data=.fields vs/\vs[1]?=some (.ref T)/\T ≠ a/\h.get? T=some oT/\oT.data=.fields ts/\ts[3]?=some .none
theorem Hd.at {h:Heap} {a C:Addr} {x:Option Addr} (q:Hd h a C x):∃ oe vs,h.get? a=some oe/\oe.cls=.ref C/\oe.dict=none/\oe.data=.fields vs:=by
  cases x with
  | none=>obtain ⟨oe,vs,e1,e2,e3,e4,_⟩:=q;exact ⟨oe,vs,e1,e2,e3,e4⟩
  | some T=>obtain ⟨oe,vs,_,_,e1,e2,e3,e4,_⟩:=q;exact ⟨oe,vs,e1,e2,e3,e4⟩
theorem dict_mapFields (f:Array Value->Array Value) (o:Obj):(Obj.mapFields f o).dict=o.dict:=by
  obtain ⟨c,d,dt,sl⟩:=o
  cases dt <;> rfl
theorem entry_x {M:Model} {A:Around} {E:Value->Shared->Prop} {s:Shared} {bs:Heap} {ev:Env} {out:List Env} {L a C:Addr} {ob:Obj} {us:Array Value} {hdv:Value} {hn:Bool} {Q:Unit->Shared->Prop}
    (fr:A.frames=some (ev :: out)) (ff:s.heap.FunFrames bs (ev :: out)) (fl:ev.frame=some L) (ga:s.heap.get? a=some ob) (gc:ob.cls=.ref C) (gd:ob.dict=none) (gf:ob.data=.fields us) (sz:1 < us.size)
    (k:∀ h' T,Hd h' a C (some T)->s.heap.objs.size <= T->(∀ b o,b ≠ a->b ∉ frs (ev :: out)->s.heap.get? b=some o->h'.get? b=some o) ->
      (∀ b o,b ≠ a->s.heap.get? b=some o->∃ sl,h'.get? b=some { o with slots:=sl })->Q () { s with heap:=h' }) :
    wpAny M A (do let x <- frameOf ev;let pl <- entryPlaceOf L hn;let b <- EntryCells.newEntry hdv x .none (rawInt L) .none pl;setField (.ref a) 1 b) (fun _ s'=>wpAny M A (setFlight (.ref a) none) Q E s') E s:=by
  have na:a ∉ (ev :: out).filterMap (·.frame):=fun hm=>by
    obtain ⟨_,o,ho,hnf⟩:=ff.mem hm
    rw [ga] at ho
    cases ho
    exact hnf us gf
  refine wpAny_bind (wpAny_frameOf_fun fr ff fl fun g1 hs=>?_)
  refine wpAny_bind (wpAny_entryPlaceOf fun pl hpl=>?_)
  unfold EntryCells.newEntry newFields
  refine wpAny_bind (wpAny_newObj_type ?_ (hpl.sizeOk5 _ _ _ _ _))
  have ga1:g1.get? a=some ob:=(hs.2.1 a na).trans ga
  generalize hnew:({ cls:=.type "traceback",dict:=none,data:=.fields ([hdv,.ref L,.none,rawInt L,.none] ++ (if pl.isEmpty then List.replicate 6 Value.none else pl)).toArray }:Obj)=ot
  have ga2:(g1.push ot).get? a=some ob:=Heap.get?_push_of_some (h:=g1) ot ga1
  have gt2:(g1.push ot).get? g1.objs.size=some ot:=Heap.get?_push_size g1 (by rw [<- hnew];rfl)
  have otd:∃ ts,ot.data=.fields ts/\3 < ts.size:=by
    refine ⟨_,by rw [<- hnew],?_⟩
    simp only [List.size_toArray,List.length_append,List.length_cons,List.length_nil]
    omega
  obtain ⟨ts,otd,tsz⟩:=otd
  refine wpAny_setField ga2 gf sz ?_
  have neT:g1.objs.size ≠ a:=Nat.ne_of_gt (Heap.lt_size ga1)
  have d3:=Obj.data_mapFields gf (·.setIfInBounds 1 (Value.ref g1.objs.size))
  have ga3:=Heap.get?_update_self (Obj.mapFields (·.setIfInBounds 1 (Value.ref g1.objs.size))) ga2 (Obj.isFreed_of_fields d3)
  have gt3:((g1.push ot).update a (Obj.mapFields (·.setIfInBounds 1 (Value.ref g1.objs.size)))).get? g1.objs.size=some ot :=
    (Heap.get?_update_other (g1.push ot) (Obj.mapFields (·.setIfInBounds 1 (Value.ref g1.objs.size))) (Ne.symm neT)).trans gt2
  unfold setFlight
  refine wpAny_bind (wpAny_field ga3 d3 (x:=.ref g1.objs.size) (by simp [sz]) ?_)
  rw [if_pos (show (Value.ref g1.objs.size != Value.none)=true from by simp)]
  refine wpAny_setField gt3 otd tsz ?_
  have kp:∀ b o,b ≠ a->g1.get? b=some o ->
      (((g1.push ot).update a (Obj.mapFields (·.setIfInBounds 1 (Value.ref g1.objs.size)))).update g1.objs.size (Obj.mapFields (·.setIfInBounds 3 ((none:Option Addr).elim Value.none fun f=>rawInt f)))).get? b=some o:=by
    intro b o hb e
    have hbT:g1.objs.size ≠ b:=Nat.ne_of_gt (Heap.lt_size e)
    rw [Heap.get?_update_other _ _ hbT,Heap.get?_update_other _ _ (Ne.symm hb)]
    exact Heap.get?_push_of_some _ e
  refine k _ g1.objs.size ⟨_,_,_,_,(Heap.get?_update_other _ _ neT).trans ga3,?_,?_,d3,by simp [sz],neT,Heap.get?_update_self _ gt3 (Obj.isFreed_of_fields (Obj.data_mapFields otd _)),Obj.data_mapFields otd _,?_⟩ (by rw [hs.1];exact Nat.le_refl _) (fun b o hb hf e=>?_) (fun b o hb e=>?_)
  · rw [Obj.cls_mapFields]
    exact gc
  · rw [dict_mapFields]
    exact gd
  · rw [Array.getElem?_setIfInBounds_self_of_lt tsz]
    rfl
  · exact kp b o hb ((hs.2.1 b hf).trans e)
  · obtain ⟨sl,e1⟩:=hs.2.2 b o e
    exact ⟨sl,kp b _ hb e1⟩
theorem note_x {M:Model} {A:Around} {E:Value->Shared->Prop} {s:Shared} {bs:Heap} {ev:Env} {out:List Env} {L a C:Addr} {hd:Option Addr} {Q:Unit->Shared->Prop}
    (fr:A.frames=some (ev :: out)) (ff:s.heap.FunFrames bs (ev :: out)) (fl:ev.frame=some L) (x:Hd s.heap a C hd)
    (k:∀ h' T,Hd h' a C (some T)->s.heap.objs.size <= T->(∀ b o,b ≠ a->hd ≠ some b->b ∉ frs (ev :: out)->s.heap.get? b=some o->h'.get? b=some o) ->
      (∀ b o,b ≠ a->hd ≠ some b->s.heap.get? b=some o->∃ sl,h'.get? b=some { o with slots:=sl })->Q () { s with heap:=h' }) :
    wpAny M A (noteFrame (.ref a) ev) (fun _ s'=>wpAny M A (setFlight (.ref a) none) Q E s') E s:=by
  unfold noteFrame
  simp only [fl]
  cases hd with
  | none =>
    obtain ⟨oe,vs,e1,e2,e3,e4,e5⟩:=x
    refine wpAny_bind (wpAny_field e1 e4 e5 ?_)
    rw [if_neg (by decide)]
    exact entry_x fr ff fl e1 e2 e3 e4 (Array.getElem?_eq_some_iff.mp e5).1 fun h' T q1 q2 q3 q4=>k h' T q1 q2 (fun b o hb _=>q3 b o hb) (fun b o hb _=>q4 b o hb)
  | some T0 =>
    obtain ⟨oe,vs,oT,ts,e1,e2,e3,e4,e5,ne,t1,t2,t3⟩:=x
    refine wpAny_bind (wpAny_field e1 e4 e5 ?_)
    rw [if_pos (show (Value.ref T0 != Value.none)=true from by simp)]
    refine wpAny_bind (wpAny_field t1 t2 t3 ?_)
    rw [if_neg (show ¬ ((Value.none == rawInt L)=true) from by simp [rawInt])]
    refine wpAny_bind (wpAny_setField t1 t2 (Array.getElem?_eq_some_iff.mp t3).1 ?_)
    have ot:∀ b,b ≠ T0->(s.heap.update T0 (Obj.mapFields (·.setIfInBounds 3 Value.none))).get? b=s.heap.get? b:=fun b hb=>Heap.get?_update_other _ _ (Ne.symm hb)
    have nr:∀ b o,s.heap.get? b=some o->(∀ vs,o.data ≠ .fields vs)->b ≠ T0:=fun b o hb hnf q=>by
      rw [q,t1] at hb
      cases hb
      exact hnf ts t2
    refine entry_x fr (ff.of_keeps fun b o hb hnf=>⟨o,(ot b (nr b o hb hnf)).trans hb,rfl⟩) fl ((ot a (Ne.symm ne)).trans e1) e2 e3 e4 (Array.getElem?_eq_some_iff.mp e5).1 fun h' T q1 q2 q3 q4=>?_
    have q2':s.heap.objs.size <= T:=by
      have z:=Heap.size_after_update s.heap T0 (Obj.mapFields (·.setIfInBounds 3 Value.none))
      rw [<- z];exact q2
    exact k h' T q1 q2' (fun b o hb hx hf e=>q3 b o hb hf ((ot b fun z=>hx (by rw [z])).trans e)) (fun b o hb hx e=>q4 b o hb ((ot b fun z=>hx (by rw [z])).trans e))
theorem leave_x {M:Model} {A:Around} {E:Value->Shared->Prop} {s:Shared} {bs:Heap} {ev:Env} {out:List Env} {L a C:Addr} {hd:Option Addr} {Q:Unit->Shared->Prop}
    (fr:A.frames=some (ev :: out)) (ff:s.heap.FunFrames bs (ev :: out)) (fl:ev.frame=some L) (x:Hd s.heap a C hd)
    (k:∀ h' T,Hd h' a C (some T)->s.heap.objs.size <= T->(∀ b o,b ≠ a->hd ≠ some b->b ∉ frs (ev :: out)->s.heap.get? b=some o->h'.get? b=some o) ->
      (∀ b o,b ≠ a->hd ≠ some b->s.heap.get? b=some o->∃ sl,h'.get? b=some { o with slots:=sl })->Q () { s with heap:=h' }) :
    wpAny M A (leaving ev (.ref a)) Q E s:=by
  unfold leaving
  exact wpAny_bind (note_x fr ff fl x k)
end L2
namespace L2
open PySem PySem.Spec PyProof.Rows
theorem ObjOk.there {P:Program} {w:World} {H:Hp} {h:Heap} {a:Addr} {o:HO} (x:ObjOk P w H h a o):∃ u,h.get? a=some u:=by
  cases o with
  | lst xs=>obtain ⟨_,_,_,_,e⟩:=x;exact ⟨_,e⟩
  | tup xs=>obtain ⟨_,_,_,ob,e,_⟩:=x;exact ⟨_,e⟩
  | dK kvs=>obtain ⟨_,_,_,_,ob,_,_,e,_⟩:=x;exact ⟨_,e⟩
  | dT kvs=>obtain ⟨_,_,_,_,ob,_,_,e,_⟩:=x;exact ⟨_,e⟩
  | set S n=>obtain ⟨ob,_,_,_,e,_⟩:=x;exact ⟨_,e⟩
  | ins C dx fs=>obtain ⟨_,_,_,e,_⟩:=x;exact ⟨_,e⟩
  | own y=>exact x
  | xd fs=>obtain ⟨_,⟨_,_,_,e,_⟩,_⟩:=x;exact ⟨_,e⟩
  | rng lo hi=>obtain ⟨_,_,_,e⟩:=x;exact ⟨_,e⟩
  | frz ob u=>obtain ⟨e,_⟩:=x;exact ⟨_,e⟩
  | tbl ps=>exact ⟨_,(show h.get? a=some _ from x)⟩
  | met f y=>exact ⟨_,(show h.get? a=some _ from x)⟩
  | ext φ=>obtain ⟨_,e,_⟩:=x;exact e
theorem HOk.none_of {P:Program} {w:World} {H:Hp} {h:Heap} {a:Addr} (x:HOk P w H h) (e:h.get? a=none):H a=none:=by
  cases z:H a with
  | none=>rfl
  | some u =>
    obtain ⟨o,eo⟩:=(x a u z).there
    rw [e] at eo
    cases eo
structure Fly (P:Program) (w:World) (fs:List Addr) (H:Hp) (s:Shared) (a C:Addr) (H':Hp) (s':Shared):Prop where
  os:s'.os=s.os
  bare:AllBare s'.gens
  un:Un fs [] H H' s.heap s'.heap
  hok:HOk P w H' s'.heap
  exc:∃ T,Hd s'.heap a C (some T)/\s.heap.get? a=none/\s.heap.get? T=none/\H' a=none/\H' T=none
def CX1 (P:Program) (w:World):CXT:=fun outer H s E e s'=>∃ a C H',e=.ref a/\Fly P w (frs outer) H s a C H' s'/\E (.ref C) none H'
theorem un_x {fs:List Addr} {H:Hp} {h h':Heap} {a:Addr} {hd:Option Addr} (ha:H a=none) (ht:∀ T,hd=some T->H T=none) (hf:∀ b ∈ fs,H b=none)
    (k1:∀ b o,b ≠ a->hd ≠ some b->b ∉ fs->h.get? b=some o->h'.get? b=some o) {P:Program} {w:World} (ok:HOk P w H h):HOk P w H h':=fun b o e=>by
  have nt:∀ c u,H c=some u->c ≠ a/\hd ≠ some c/\c ∉ fs:=fun c u q=>by
    refine ⟨fun z=>?_,fun z=>?_,fun z=>?_⟩
    · rw [z,ha] at q;cases q
    · rw [ht c z] at q;cases q
    · rw [hf c z] at q;cases q
  refine (ok b o e).stay (fun c u hc q=>?_) (fun _ q=>q) fun _ _ q=>q
  rcases hc with z | z
  · subst z
    obtain ⟨n1,n2,n3⟩:=nt _ _ e
    exact k1 _ u n1 n2 n3 q
  · obtain ⟨n1,n2,n3⟩:=nt _ _ z
    exact k1 _ u n1 n2 n3 q
theorem fly_out {X:Cx} {pins:List (Addr × Obj)} {σ:St} {H:Hp} {s:Shared} {a C:Addr} {hd:Option Addr} {M:Model} {Q:Unit->Shared->Prop} {E:Value->Shared->Prop} (I:Inv X pins σ H s) (hs:X.stack=X.env :: X.outer) (hf:X.env.frame=some X.env.locals) (hex:X.ex=[])
    (x:Hd s.heap a C hd) (na:X.s₀.heap.get? a=none) (nT:∀ T,hd=some T->X.s₀.heap.get? T=none) (ha:H a=none) (ht:∀ T,hd=some T->H T=none)
    (q:∀ s',Fly X.prog X.w X.fs X.H₀ X.s₀ a C H s'->Q () s'):wpAny M X.A (leaving X.env (.ref a)) Q E s:=by
  have fr:X.A.frames=some (X.env :: X.outer):=by rw [I.ok.frames,hs]
  have ff:s.heap.FunFrames X.base (X.env :: X.outer):=by rw [<- hs];exact I.stack
  have hfs:frs (X.env :: X.outer)=X.env.locals :: X.fs:=by
    unfold frs
    rw [List.filterMap_cons,hf]
    rfl
  refine leave_x fr ff hf x fun h' T k0 k00 k1 k2=>q _ ?_
  have exN:∀ b,b ∉ X.ex:=fun b z=>by rw [hex] at z;cases z
  have neA:∀ b o,X.s₀.heap.get? b=some o->b ≠ a/\hd ≠ some b/\b ≠ X.env.locals:=fun b o e=>by
    refine ⟨fun z=>?_,fun z=>?_,Nat.ne_of_lt (Nat.lt_of_lt_of_le (Heap.lt_size e) I.ok.above)⟩
    · rw [z,na] at e;cases e
    · rw [nT b z] at e;cases e
  refine ⟨I.os,I.bare,⟨fun b o e n hb _=>?_,fun b o e n hb _=>?_,fun b o e n _=>I.base.free b o e n (exN b),fun b o e _=>?_,I.base.tups,I.base.frzs,I.base.tbls⟩,un_x (fs:=frs (X.env :: X.outer)) ha ht (fun b hb=>I.stkFree b (by rw [hs];exact hb)) k1 I.hok,T,k0,na,?_,ha,I.hok.fresh k00⟩
  · obtain ⟨n1,n2,n3⟩:=neA b o e
    exact k1 b o n1 n2 (by rw [hfs];intro z;rcases List.mem_cons.mp z with z | z;exact n3 z;exact hb z) (I.base.keep b o e n hb (exN b))
  · obtain ⟨n1,n2,n3⟩:=neA b o e
    obtain ⟨sl,e1⟩:=I.base.slot b o e n hb (exN b)
    obtain ⟨sl',e2⟩:=k2 b _ n1 n2 e1
    exact ⟨sl',e2⟩
  · obtain ⟨n1,n2,n3⟩:=neA b o e
    obtain ⟨o',e1⟩:=I.base.there b o e (exN b)
    obtain ⟨sl',e2⟩:=k2 b _ n1 n2 e1
    exact ⟨_,e2⟩
  · exact Heap.get?_none_of_le (Nat.le_trans I.sz k00)
theorem none_back {fs:List Addr} {H H':Hp} {h h':Heap} (u:Un fs [] H H' h h') {b:Addr} (e:h'.get? b=none):h.get? b=none:=by
  cases q:h.get? b with
  | none=>rfl
  | some o =>
    obtain ⟨o',e'⟩:=u.there b o q (by simp)
    rw [e'] at e
    cases e
section
variable {P:Program} {w:World} {K:PySem.W.Frag} {mg:Str->Option Value} {base:Heap} {N:List Str} {qual:Str} {scope:Scope} {f:Addr} {cd:Value} {A:Around} {outer:List Env} {s₀:Shared} {H₀:Hp} {E:XK}
theorem passes1:Passes (CX1 P w) (cxOf (CX1 P w) P w K mg base N qual scope f cd A outer s₀ H₀ E) E:=by
  intro pins σ H s e s' I h
  obtain ⟨a,C,H',rfl,F,hE⟩:=h
  obtain ⟨T,x,n1,n2,n3,n4⟩:=F.exc
  have I':=I.call' (ch:=[]) F.os F.un F.hok F.bare (fun b z=>absurd z (by simp))
  exact fly_out I' rfl rfl rfl x (none_back I.base n1) (fun T' z=>by cases z;exact none_back I.base n2) n3 (fun T' z=>by cases z;exact n4) fun s'' F'=>⟨a,C,H',rfl,F',hE⟩
def vE:List Value:=[.type "ValueError",.type "Exception",.type "BaseException",.type "object"]
def XC (K:PySem.W.Frag) (C:Addr):Prop:=PySem.W.excIn K C vE "ValueError.__new__"=true
theorem exc_obj {K:PySem.W.Frag} {h:Heap} {C:Addr} (X:K.In h) (q:XC K C) :
    ∃ bm N nm q bs hdct sn sub ab col dd k0 k1 k2 k3 k5 mN,h.get? C=some (excClassObj nm q C N bs bm hdct sn sub ab col dd k0 k1 k2 k3 k5 "ValueError.__new__")/\h.Ns N mN/\mN "__init__"=none/\OwnTail h vE bm:=by
  unfold XC PySem.W.excIn at q
  split at q
  case h_2=>cases q
  case h_1 dd cd sl ho =>
    split at q
    case h_2=>cases q
    case h_1 C' bm k0 k1 k2 k3 n k5 hm hs =>
      simp only [Bool.and_eq_true,beq_iff_eq,Bool.not_eq_true'] at q
      obtain ⟨⟨⟨⟨⟨z1,z2⟩,hdel⟩,ht⟩,hok⟩,hni⟩:=q
      subst z1
      subst z2
      obtain ⟨nm,bs,mro,ns,qn,hd,sn,sub,ab,col,del⟩:=cd
      dsimp only at hm hdel hok hni
      subst hm hdel
      have hsl:sl=#[k0,k1,k2,k3,some (.builtin "ValueError.__new__"),k5]:=by
        obtain ⟨l⟩:=sl
        simp only at hs
        rw [hs]
      subst hsl
      exact ⟨bm,ns,nm,qn,bs,hd,sn,sub,ab,col,dd,k0,k1,k2,k3,k5,_,X _ _ ho,.of_isNs (PySem.W.isNs_of_in X hok),PySem.W.nsMap_none_of_in X hok hni,PySem.W.tail_of_in X ht⟩
def tRaise (C:Addr) (E:XK) (t:TA):TS:=fun _ σ H=>t σ H fun _ H1=>E (.ref C) none H1
theorem ps_raise {x:Str} {C:Addr} {e:Expr} {es:List Expr} {t:TA} {np cpos pos:Pos} (hg:Gl (cxOf (CX1 P w) P w K mg base N qual scope f cd A outer s₀ H₀ E) x) (hm:mg x=some (.ref C)) (hc:XC K C)
    (ha:PA (cxOf (CX1 P w) P w K mg base N qual scope f cd A outer s₀ H₀ E) (e :: es) t) (hl:(e :: es).length <= 1:=by decide)
    (hdb:(x == ("__debug__":Str))=false:=by decide)
    (he:starEach (e :: es) (envOfC qual scope s₀.heap.objs.size f cd)=(false,eval e (envOfC qual scope s₀.heap.objs.size f cd)) :: starEach es (envOfC qual scope s₀.heap.objs.size f cd):=by rfl)
    (hpl:(backTo cpos (starEach es (envOfC qual scope s₀.heap.objs.size f cd))).any (·.1)=false:=by rfl)
    (hvl:∀ σ H Q,t σ H Q->t σ H fun vs H1=>vs.length <= sizeLine/\Q vs H1) :
    PS (cxOf (CX1 P w) P w K mg base N qual scope f cd A outer s₀ H₀ E) (.Raise (some (.Call (.Name x np) (e :: es) [] cpos)) none pos) (tRaise C E t):=by
  intro pins s σ H D I h
  obtain ⟨bm,NN,nm,q,bs,hdct,sn,sub,ab,col,dd,k0,k1,k2,k3,k5,mN,hC,hN,hni,T⟩:=exc_obj I.ok.mod.kin hc
  have FB:=PySem.F.excBase_ValueError
  refine wpAny_Raise_call_subT (C:=C) (nm:=nm) (q:=q) (N:=NN) (bs:=bs) (bm:=bm) (hdct:=hdct) (sn:=sn) (sub:=sub) (ab:=ab) (col:=col) (dd:=dd) (k0:=k0) (k1:=k1) (k2:=k2) (k3:=k3) (k5:=k5)
    FB (mN:=mN) (T.hasType FB.hasBase) (I.ok.hd rfl) ?_ hni (ld_glob I hg hm ⟨rfl,?_⟩ hdb)
  · show (backTo cpos (starEach (e :: es) (envOfC qual scope s₀.heap.objs.size f cd))).any (·.1)=false
    rw [he]
    show (false || (backTo cpos (starEach es (envOfC qual scope s₀.heap.objs.size f cd))).any (·.1))=false
    rw [hpl]
    rfl
  · have hq:=ha cpos pins s σ H _ I (hvl _ _ _ h)
    show wpAny _ _ (evalArgs (.ref C) true (backTo cpos (starEach (e :: es) (envOfC qual scope s₀.heap.objs.size f cd))) []) _ _ s
    have hq':wpAny (model P w) (A.deeper (envOfC qual scope s₀.heap.objs.size f cd)) (spliced (backTo cpos (starEach (e :: es) (envOfC qual scope s₀.heap.objs.size f cd)))) _ _ s:=hq
    rw [he] at hq' ⊢
    refine Calls.evalArgs_plain (wpAny_mono hq' (fun us s2 ⟨vs,H2,I2,r,lv,hE⟩=>⟨rfl,?_,I2.bk _ _ hC,hN.keeps I2.bk,T.keeps I2.bk,fun h' a mk=>?_⟩) fun _ _ y=>y)
    · show us.length <= sizeLine
      rw [<- r.length]
      exact lv
    · obtain ⟨t,ea,tn,et⟩:=mk.there
      have ha:H2 a=none:=I2.hok.none_of mk.new
      have I3:Inv (cxOf (CX1 P w) P w K mg base N qual scope f cd A outer s₀ H₀ E) pins σ H2 { s2 with heap:=h' }:=I2.kept mk.keeps
      exact fly_out (hd:=none) I3 rfl rfl rfl ⟨_,_,ea,rfl,rfl,rfl,rfl⟩ (none_back I2.base mk.new) (fun T' z=>by cases z) ha (fun T' z=>by cases z) fun s'' F'=>⟨a,C,H2,rfl,F',hE⟩
end
end L2
namespace L2
open PySem PySem.Spec PyProof.Rows
abbrev KN (o:Obj):HO:=.frz o (.ext fun _=>True)
theorem kn_ok {P:Program} {w:World} {H:Hp} {h:Heap} {a:Addr} {o:Obj} (e:h.get? a=some o):ObjOk P w H h a (KN o):=⟨e,trivial,⟨o,e⟩,fun _ _ _ _=>trivial⟩
theorem HOk.kn {P:Program} {w:World} {H:Hp} {h:Heap} {a:Addr} {o:Obj} (x:HOk P w H h) (e:H a=some (KN o)):h.get? a=some o:=(x a _ e).1
theorem HOk.know {P:Program} {w:World} {H:Hp} {h:Heap} {a:Addr} {o:Obj} (x:HOk P w H h) (n:H a=none) (e:h.get? a=some o):HOk P w (upd H a (KN o)) h:=fun b u q=>by
  by_cases hb:b=a
  · subst hb
    rw [upd_same] at q
    cases q
    exact kn_ok e
  · rw [upd_ne hb] at q
    exact (x b u q).stay (fun _ _ _ z=>z) (fun c z=>by rw [upd_ne (ne_of_none z n)];exact z) fun c xs z=>by rw [upd_ne (ne_of_none z n)];exact z
theorem Un.know {fs ex:List Addr} {H H':Hp} {h h':Heap} {a:Addr} {o:HO} (u:Un fs ex H H' h h') (n:H' a=none) (na:h.get? a=none):Un fs ex H (upd H' a o) h h' where
  keep:=u.keep
  slot:=u.slot
  free:=fun b ob q m hx=>by
    rw [upd_ne (fun z=>by rw [z,na] at q;cases q)]
    exact u.free b ob q m hx
  there:=u.there
  tups:=fun b xs q=>by
    rw [upd_ne (ne_of_none (u.tups b xs q) n)]
    exact u.tups b xs q
  frzs:=fun b ob xs q=>by
    rw [upd_ne (ne_of_none (u.frzs b ob xs q) n)]
    exact u.frzs b ob xs q
  tbls:=fun b ps q=>by
    obtain ⟨m,e⟩:=u.tbls b ps q
    exact ⟨m,by rw [upd_ne (ne_of_none e n)];exact e⟩
section
variable {P:Program} {w:World} {fs:List Addr} {H H':Hp} {s s':Shared} {a C:Addr} {M:Model} {A:Around} {E:Value->Shared->Prop} {Q:Unit->Shared->Prop}
theorem Fly.noteW {bs:Heap} {ev:Env} {out:List Env} {L:Addr} (F:Fly P w (frs (ev :: out)) H s a C H' s') (fr:A.frames=some (ev :: out)) (ff:s'.heap.FunFrames bs (ev :: out)) (fl:ev.frame=some L) (hfs:∀ b ∈ frs (ev :: out),H' b=none)
    (q:∀ s'',Fly P w (frs (ev :: out)) H s a C H' s''->Q () s''):wpAny M A (noteFrame (.ref a) ev) (fun _ s2=>wpAny M A (setFlight (.ref a) none) Q E s2) E s':=by
  obtain ⟨T0,x,n1,n2,n3,n4⟩:=F.exc
  refine note_x fr ff fl x fun h' T k0 k00 k1 k2=>q _ ?_
  have neA:∀ b o,s.heap.get? b=some o->b ≠ a/\some T0 ≠ some b:=fun b o e=>by
    refine ⟨fun z=>?_,fun z=>?_⟩
    · rw [z,n1] at e;cases e
    · have z':=Option.some.inj z
      rw [<- z',n2] at e;cases e
  refine ⟨F.os,F.bare,⟨fun b o e n hb hx=>?_,fun b o e n hb hx=>?_,F.un.free,fun b o e hx=>?_,F.un.tups,F.un.frzs,F.un.tbls⟩,un_x (hd:=some T0) n3 (fun T' z=>by cases z;exact n4) hfs k1 F.hok,T,k0,n1,?_,n3,F.hok.fresh k00⟩
  · obtain ⟨m1,m2⟩:=neA b o e
    exact k1 b o m1 m2 hb (F.un.keep b o e n hb hx)
  · obtain ⟨m1,m2⟩:=neA b o e
    obtain ⟨sl,e1⟩:=F.un.slot b o e n hb hx
    obtain ⟨sl',e2⟩:=k2 b _ m1 m2 e1
    exact ⟨sl',e2⟩
  · obtain ⟨m1,m2⟩:=neA b o e
    obtain ⟨o',e1⟩:=F.un.there b o e hx
    obtain ⟨sl',e2⟩:=k2 b _ m1 m2 e1
    exact ⟨_,e2⟩
  · exact none_back F.un (Heap.get?_none_of_le k00)
theorem Fly.landW (F:Fly P w fs H s a C H' s') (hfs:∀ b ∈ fs,H' b=none) (q:∀ s'',Fly P w fs H s a C H' s''->Q () s''):wpAny M A (setFlight (.ref a) none) Q E s':=by
  obtain ⟨T,⟨oe,vs,oT,ts,e1,e2,e3,e4,e5,ne,t1,t2,t3⟩,n1,n2,n3,n4⟩:=F.exc
  refine wpAny_setFlight_none e1 e4 e5 t1 t2 (Array.getElem?_eq_some_iff.mp t3).1 (q _ ?_)
  have ot:∀ b,b ≠ T->(s'.heap.update T (Obj.mapFields (·.setIfInBounds 3 Value.none))).get? b=s'.heap.get? b:=fun b hb=>Heap.get?_update_other _ _ (Ne.symm hb)
  have nT:∀ b o,s.heap.get? b=some o->b ≠ T:=fun b o e z=>by rw [z,n2] at e;cases e
  refine ⟨F.os,F.bare,⟨fun b o e n hb hx=>(ot b (nT b o e)).trans (F.un.keep b o e n hb hx),fun b o e n hb hx=>?_,F.un.free,fun b o e hx=>?_,F.un.tups,F.un.frzs,F.un.tbls⟩,?_,T,?_,n1,n2,n3,n4⟩
  · obtain ⟨sl,z⟩:=F.un.slot b o e n hb hx
    exact ⟨sl,(ot b (nT b o e)).trans z⟩
  · obtain ⟨o',z⟩:=F.un.there b o e hx
    exact ⟨o',(ot b (nT b o e)).trans z⟩
  · exact un_x (fs:=fs) (hd:=some T) n3 (fun T' z=>by cases z;exact n4) hfs (fun b o _ hb _ e=>(ot b fun z=>hb (by rw [z])).trans e) F.hok
  · exact ⟨oe,vs,_,_,(ot a (Ne.symm ne)).trans e1,e2,e3,e4,e5,ne,Heap.get?_update_self _ t1 (Obj.isFreed_of_fields (Obj.data_mapFields t2 _)),Obj.data_mapFields t2 _,by
      rw [Array.getElem?_setIfInBounds_self_of_lt (Array.getElem?_eq_some_iff.mp t3).1]⟩
end
theorem exc_match {K:PySem.W.Frag} {M:Model} {A:Around} {E:Value->Shared->Prop} {s:Shared} {a C D:Addr} {oe:Obj} {Q:Bool->Shared->Prop} (X:K.In s.heap) (he:s.heap.get? a=some oe) (hc:oe.cls=.ref C)
    (h1:PySem.W.kitCls K (.ref C) (.ref D)=some true) (h2:PySem.W.subIn K (.ref D) (.type "BaseException")=some true) (q:Q true s):wpAny M A (excMatches (.ref a) (.ref D)) Q E s:=by
  obtain ⟨l1,l2,l3⟩:=PySem.W.kit_cls (M:=M) X h1
  have l4:=PySem.W.looks_subIn (M:=M) X h2
  have l5:PySem.W.Looks M s.heap (typeOf (.ref a)) (.ref C):=hc ▸ (PySem.W.Looks.ld he).andThen .now
  have l6:PySem.W.Looks M s.heap (isInstance (.ref D) (.type "tuple")) false:=l1.andThen (PySem.W.Looks.of_pure tc_notTuple)
  have l7:PySem.W.Looks M s.heap (isExcClass (.ref D)) true:=l2.andThen (by simpa using l4)
  unfold excMatches
  refine wpAny_bind (l6.here ?_)
  simp only [Bool.false_eq_true,if_false]
  refine wpAny_bind (wpAny_pure ?_)
  simp only [List.forIn_cons,List.forIn_nil]
  refine wpAny_bind (wpAny_bind (wpAny_bind (l7.here ?_)))
  simp only [Bool.not_true,Bool.false_eq_true,if_false]
  refine wpAny_pure (wpAny_pure (wpAny_bind (l5.here (wpAny_bind (wpAny_bind (wpAny_bind (l3.here ?_)))))))
  simp only [if_true]
  exact wpAny_pure (wpAny_pure (wpAny_pure q))
end L2
namespace L2
open PySem PySem.Spec PyProof.Rows
abbrev Cx.marked (X:Cx) (v:Value):Cx:={ X with A:=X.A.mark (some v),calm:=false,xe:=fun _ _=>False }
theorem Inv.marked {X:Cx} {pins:List (Addr × Obj)} {σ:St} {H:Hp} {s:Shared} (I:Inv X pins σ H s) (v:Value):Inv (X.marked v) pins σ H s :=
  ⟨⟨I.ok.mod,I.ok.kind,I.ok.glob,I.ok.blt,I.ok.above,I.ok.inj,I.ok.has,I.ok.cab,(fun z=>absurd z (by simp)),I.ok.frames,I.ok.stk,I.ok.exf,I.ok.bs,I.ok.bsz,I.ok.noex,I.ok.exfs,I.ok.funs,I.ok.frf⟩,
    I.os,I.bare,I.base,I.loc,I.cell,I.free,I.freeC,I.pin,I.hok,I.len⟩
theorem Inv.unmarked {X:Cx} {pins:List (Addr × Obj)} {σ:St} {H:Hp} {s:Shared} {v:Value} (ok:X.Ok) (I:Inv (X.marked v) pins σ H s):Inv X pins σ H s :=
  ⟨ok,I.os,I.bare,I.base,I.loc,I.cell,I.free,I.freeC,I.pin,I.hok,I.len⟩
theorem unbind_ok {X:Cx} {pins:List (Addr × Obj)} {σ:St} {H:Hp} {s:Shared} {i:Nat} {n:Str} {pos:Pos} {M:Model} {A:Around} {E:Value->Shared->Prop} {Q:Unit->Shared->Prop} (I:Inv X pins σ H s) (hN:X.N.Nodup) (hi:X.N[i]?=some n) (hl:X.env.scope.names.lookup n=some .local)
    (q:∀ s',Inv X pins (σ.set i none) H s'->Q () s'):wpAny M A (do bindName X.env n .none;unbindBehindTheSuite X.env n pos) Q E s:=by
  refine wpAny_bind (wpAny_bindName (store_ok I hN hi (.inl hl) (v:=.non) rfl (fun s1 I1=>?_) (.inr hl)))
  unfold unbindBehindTheSuite
  refine wpAny_onRaise ?_
  obtain ⟨m,hn,hlk⟩:=id I1.loc
  have hcls:(X.env.scope.kind == .class || (X.env.scope.kind == .module && X.env.locals != X.env.globals))=false:=by rw [I.ok.kind];rfl
  have hiσ:i < σ.length:=by rw [I.len];exact (List.getElem?_eq_some_iff.mp hi).1
  obtain ⟨u0,_,lk0⟩:=hlk i n .non hi (List.getElem?_set_self hiσ) (.inl hl)
  have hv:m n=some u0:=by
    rcases lk0 with ⟨_,z⟩ | ⟨z,_⟩
    · exact z
    · have z':X.env.scope.names.lookup n=some .cell ∨ X.env.scope.names.lookup n=some .free:=z
      rw [hl] at z'
      rcases z' with z' | z' <;> cases z'
  have cne:=I1.cne
  obtain ⟨oL,_,_,hoL,_⟩:=id hn
  refine wpAny_unbindName_local (show X.env.kindOf n=some .local from hl) hn hv hcls fun h' u hn' hs=>q _ ?_
  have neL:∀ b o,X.s₀.heap.get? b=some o->b ≠ X.env.locals:=fun b o e=>Nat.ne_of_lt (Nat.lt_of_lt_of_le (Heap.lt_size e) I.ok.above)
  refine ⟨I.ok,I1.os,I1.bare,⟨fun b o e n hb hx=>(hs.2 b (neL b o e)).trans (I1.base.keep b o e n hb hx),fun b o e n hb hx=>?_,I1.base.free,fun b o e hx=>?_,I1.base.tups,I1.base.frzs,I1.base.tbls⟩,⟨_,hn',fun j y v' e1 e2 e3=>?_⟩,fun y c e=>?_,I1.free,I1.freeC,fun p hp=>?_,fun b ob e=>?_,by simpa using I.len⟩
  · obtain ⟨sl,z⟩:=I1.base.slot b o e n hb hx
    exact ⟨sl,(hs.2 b (neL b o e)).trans z⟩
  · obtain ⟨o',z⟩:=I1.base.there b o e hx
    exact ⟨o',(hs.2 b (neL b o e)).trans z⟩
  · by_cases hj:j=i
    · subst hj
      rw [List.getElem?_set_self hiσ] at e2
      cases e2
    · rw [List.getElem?_set_ne (Ne.symm hj)] at e2
      have e2':(σ.set i (some V.non))[j]?=some (some v'):=by rw [List.getElem?_set_ne (Ne.symm hj)];exact e2
      obtain ⟨u',r',z⟩:=hlk j y v' e1 e2' e3
      refine ⟨u',r',?_⟩
      rcases z with ⟨k,e⟩ | ⟨k,c,e,z⟩
      · refine .inl ⟨k,?_⟩
        have ny:y ≠ n:=fun e=>hj (nodup_ix hN e1 (e ▸ hi))
        simp [ny,e]
      · exact .inr ⟨k,c,e,z.sameBut hs (cne y c e)⟩
  · obtain ⟨w',z⟩:=I1.cell y c e
    exact ⟨w',z.sameBut hs (cne y c e)⟩
  · obtain ⟨e,n,ne,nf,d⟩:=I1.pin p hp
    exact ⟨(hs.2 p.1 ne).trans e,n,ne,nf,d⟩
  · refine (I1.hok b ob e).stay (fun c w' hc z=>(hs.2 c ?_).trans z) (fun _ z=>z) fun _ _ z=>z
    rintro rfl
    have fr:=I1.free
    rcases hc with rfl | hc
    · rw [fr] at e;cases e
    · rw [fr] at hc;cases hc
def Callee (X:Cx) (k:Nat) (fa:Addr) (sp:Sp) (H:Hp):Prop :=
  ∃ fo fd,H fa=some (KN fo)/\fo.data=.func fd/\bindArgs fd ⟨[],[]⟩=pure []/\FnOk X.prog X.w X.K X.mg X.base (CX1 X.prog X.w) k fa fd [] sp
def ExcObj (oe:Obj) (C:Addr):Prop:=oe.cls=.ref C/\oe.dict=none/\∃ vs,oe.data=.fields vs
def tTry (X:Cx) (k iC iE iR:Nat) (B:Addr):TS:=fun D σ H=>∃ fa sp,σ[iC]?=some (some (.ref fa))/\Callee X k fa sp H /\
  sp [] H (fun _ H1=>D.nx σ H1) (fun c _ H1=>∃ C,c=.ref C/\PySem.W.kitCls X.K (.ref C) (.ref B)=some true/\∀ a oe,ExcObj oe C->H1 a=none->D.nx ((σ.set iR (some (.ref a))).set iE none) (upd H1 a (KN oe)))
theorem ps_tryX {X:Cx} {k iC iE iR:Nat} {xc xT n xr:Str} {B:Addr} {p1 p2 p3 p4 p5 p6 p7 p8 p9:Pos} (hs:X.stack=X.env :: X.outer) (hfl:X.env.frame=some X.env.locals) (hr:Room k X.A) (hN:X.N.Nodup)
    (hC:X.N[iC]?=some xc) (hCv:Vis X.env.scope xc) (hE:X.N[iE]?=some n) (hEl:X.env.scope.names.lookup n=some .local) (hR:X.N[iR]?=some xr) (hRl:X.env.scope.names.lookup xr=some .local) (hne:iE ≠ iR)
    (hg:Gl X xT) (hm:X.mg xT=some (.ref B)) (hB:PySem.W.subIn X.K (.ref B) (.type "BaseException")=some true)
    (d1:(xc == ("__debug__":Str))=false:=by decide) (d2:(xc == ("__classdict__":Str))=false:=by decide) (d3:(xT == ("__debug__":Str))=false:=by decide) (d4:(n == ("__debug__":Str))=false:=by decide) (d5:(n == ("__classdict__":Str))=false:=by decide)
    (w1:swapsWith (.Call (.Name xc p1) [] [] p2) none p3.line X.env=pure false:=by rfl) (w2:swapsWith (.Name n p6) (some (.Name xr p5)) p7.line X.env=pure false:=by rfl)
    (w3:swappedStores [.Name xr p5] (.Name n p6) X.env=pure none:=by rfl) :
    PS X (.Try [.Expr (.Call (.Name xc p1) [] [] p2) p3] [.ExceptHandler (some (.Name xT p4)) (some n) [.Assign [.Name xr p5] (.Name n p6) p7] p8] [] [] p9) (tTry X k iC iE iR B):=by
  intro pins s σ H D I h
  obtain ⟨fa,sp,e0,⟨fo,fd,kn,hfd,bnd,F⟩,hsp⟩:=h
  refine wpAny_Try_except (wpAny_execs_cons (wpAny_Expr_any (wpAny_Call_Name_kw ?_) I.quiet w1))
  have hv:=pe_var (X:=X.nox) (i:=iC) (x:=xc) (pos:=p1) hC hCv d1 d2 pins s σ H (fun v H1=>v=.ref fa/\H1=H) (I.wish _) ⟨_,e0,rfl,rfl⟩
  refine wpAny_mono hv (fun u s1 ⟨v,H1,I1,r,ev,eH⟩=>?_) fun _ _ z=>False.elim z
  subst ev
  subst eH
  obtain rfl:u=Value.ref fa:=r
  have I2:Inv X pins σ H1 s1:=I1.unwish
  have hfa:PySem.W.FnAt fa s1.heap:=by
    have z:=I2.hok.kn kn
    obtain ⟨c,d,dt,sl⟩:=fo
    dsimp only at hfd
    subst hfd
    exact ⟨c,d,fd,sl,z⟩
  refine PySem.W.callWith_F0 hfa (wpAny_call (codeAny_mono (F.run X.A X.stack s1 H1 ⟨[],[]⟩ [] [] _ _ hr I2.env0 (.of_eq bnd) .nil hsp) fun res s' hq=>?_))
  cases res with
  | ok fl =>
    cases fl with
    | ret u =>
      obtain ⟨v,H',I3,rv,q3⟩:=I2.after hq
      exact wpAny_execs_nil (wpAny_execs_nil ⟨σ,H',I3,q3⟩)
    | next=>exact False.elim hq
    | brk=>exact False.elim hq
    | cont=>exact False.elim hq
  | error e =>
    obtain ⟨a,C,H',rfl,F1,C',ec,hk,hnx⟩:=hq
    cases ec
    have hfr:frs X.stack=frs (X.env :: X.outer):=by rw [hs]
    have I3:Inv X pins σ H' s':=I2.call' (ch:=[]) F1.os F1.un F1.hok F1.bare (fun b z=>absurd z (by simp))
    have F1':Fly X.prog X.w (frs (X.env :: X.outer)) H1 s1 a C H' s':=by rw [<- hfr];exact F1
    have fr0:∀ b ∈ frs (X.env :: X.outer),H' b=none:=fun b hb=>I3.stkFree b (by rw [hfr];exact hb)
    refine F1'.noteW (bs:=X.base) (by rw [I.ok.frames,hs]) (by rw [<- hs];exact I3.stack) hfl fr0 fun s3 F3=>?_
    have inv:∀ s4,Fly X.prog X.w (frs (X.env :: X.outer)) H1 s1 a C H' s4->Inv X pins σ H' s4:=fun s4 F4=>I2.call' (ch:=[]) F4.os (by rw [hfr];exact F4.un) F4.hok F4.bare (fun b z=>absurd z (by simp))
    refine wpAny_handleBy_cons (codeAny_handlers_test (ld_glob (X:=X.marked (.ref a)) ((inv s3 F3).marked _) hg hm ?_ d3)) (by intro q;cases q)
    obtain ⟨T3,x3,n1,n2,n3,n4⟩:=F3.exc
    obtain ⟨oe3,vs3,e31,e32,e33,e34⟩:=x3.at
    refine exc_match (inv s3 F3).kIn e31 e32 hk hB ?_
    show codeAny _ _ _ _ s3
    refine codeAny_handlers_suite_as (F3.landW fr0 fun s4 F4=>?_)
    obtain ⟨T4,x4,m1,m2,m3,m4⟩:=F4.exc
    obtain ⟨oe,vs,e41,e42,e43,e44⟩:=x4.at
    have I4:Inv X pins σ (upd H' a (KN oe)) s4:=I2.call' (ch:=[]) F4.os (by rw [hfr];exact F4.un.know m3 m1) (F4.hok.know m3 e41) F4.bare (fun b z=>absurd z (by simp))
    refine store_ok (X:=X.marked (.ref a)) (I4.marked _) hN hE (.inl hEl) (v:=.ref a) rfl (fun s5 I5=>?_) (.inr hEl)
    have hst:PSs (X.marked (.ref a)) [.Assign [.Name xr p5] (.Name n p6) p7] (tAsg (tVar iE) (gName iR)):=pss_one (ps_set hN hR (.inl hRl) (pe_var hE (.inl hEl) d4 d5) w2 (.inr hRl))
    have hlen:iE < σ.length:=by rw [I.len];exact (List.getElem?_eq_some_iff.mp hE).1
    refine wpAny_mono (hst pins s5 _ _ { nx:=fun σ' H2=>σ'=(σ.set iE (some (.ref a))).set iR (some (.ref a))/\H2=upd H' a (KN oe),rt:=fun _ _=>False } I5 ⟨.ref a,List.getElem?_set_self hlen,rfl,rfl⟩) (fun f s6 q=>?_) fun _ _ z=>False.elim z
    cases f with
    | ret v=>obtain ⟨_,_,_,_,_,z⟩:=q;exact False.elim z
    | brk=>obtain ⟨_,_,_,z⟩:=q;exact False.elim z
    | cont=>obtain ⟨_,_,_,z⟩:=q;exact False.elim z
    | next =>
      obtain ⟨σ6,H6,I6,eσ,eH⟩:=q
      subst eσ
      subst eH
      refine unbind_ok (I6.unmarked I.ok) hN hE hEl fun s7 I7=>⟨_,_,I7,?_⟩
      have z:=hnx a oe ⟨e42,e43,vs,e44⟩ m3
      have hσ:((σ.set iE (some (V.ref a))).set iR (some (V.ref a))).set iE none=(σ.set iR (some (V.ref a))).set iE none:=by
        apply List.ext_getElem?
        intro j
        simp only [List.getElem?_set,List.length_set]
        by_cases z1:iE=j <;> by_cases z2:iR=j <;> simp [z1,z2]
      rw [hσ]
      exact z
end L2
namespace L2
open PySem PySem.Spec PyProof.Rows
structure XI (K:PySem.W.Frag) (C:Addr):Prop where
  ga:PySem.W.findIn K (.ref C) "__getattribute__"=some (some (.builtin "BaseException.__getattribute__"))
  gt:PySem.W.findIn K (.ref C) "__getattr__"=some none
  sb:PySem.W.subIn K (.ref C) (.type "BaseException")=some true
  hc:(PySem.W.clsIn K C).isSome=true
  ha:PySem.W.findIn K (.ref C) "__class__"=some (some (.builtin "object.__class__"))
  hn:PySem.W.specialIn K (.builtin "object.__class__") "__get__"=some (some (.builtin "getset_descriptor.__get__"))
  tk:PySem.W.takesIn K (.builtin "object.__class__")=some true
  hm:PySem.W.mroIn K C (.type "object")=some true
theorem findObj_none {K:PySem.W.Frag} {C:Addr} {name:Str} {a g:Value} (hc:(PySem.W.clsIn K C).isSome=true) (ha:PySem.W.findIn K (.ref C) name=some (some a)) (hg:PySem.W.specialIn K a "__get__"=some (some g)) (ht:PySem.W.takesIn K a=some true) :
    PySem.W.findObj K C none name=some (.bind g a):=by
  obtain ⟨cd,hc⟩:=Option.isSome_iff_exists.mp hc
  unfold PySem.W.findObj
  rw [hc,Option.bind_some,ha,Option.bind_some]
  simp [hg,ht]
theorem kin_openX {prog:Program} {w:World} {A:Around} {E:Value->Shared->Prop} {s:Shared} {K:PySem.W.Frag} {a C:Addr} {oe:Obj} {g d:Value} {name:Str} (X:K.In s.heap) (I:PySem.W.InstAt s.heap a oe C none)
    (hga:PySem.W.findIn K (.ref C) "__getattribute__"=some (some (.builtin "BaseException.__getattribute__"))) (hgt:PySem.W.findIn K (.ref C) "__getattr__"=some none) (hs:PySem.W.subIn K (.ref C) (.type "BaseException")=some true)
    (hf:PySem.W.findObj K C none name=some (.bind g d)) {Q:Option Value->Shared->Prop}
    (h:wpAny (model prog w) A.in1 (call g [d,.ref a,.ref C]) (fun v s'=>wpAny (model prog w) A (handedOut v) (fun v s''=>Q (some v) s'') (fun _ _=>False) s') (fun _ _=>False) { s with toks:=s.toks + 1 }) :
    wpAny (model prog w) A (getAttr? (.ref a) name) Q E s:=by
  obtain ⟨hh,gg,dr,t,os⟩:=s
  have L0:=I.type (M:=model prog w)
  have L1:=PySem.W.looks_findIn (M:=model prog w) X hga
  have L2:=PySem.W.looks_findIn (M:=model prog w) X hgt
  have L3:=PySem.W.looks_find (M:=model prog w) X I hf
  have L4:PySem.W.Looks (model prog w) hh (isInstance (.ref a) (.type "BaseException")) true:=L0.andThen (PySem.W.looks_subIn X hs)
  have f3:=PySem.F.excAttr_ValueError.ga.bind (.ref a)
  unfold getAttr? getAttrBy? getAttrBy
  refine wpAny_bind (wpAny_mkText (wpAny_bind (wpAny_attempt (wpAny_holding (wpAny_bind (L0.at (wpAny_bind (L1.at ?_))))))))
  have hx2:(Value.builtin "BaseException.__getattribute__" == Value.builtin "object.__getattribute__")=false:=by decide +kernel
  have hx3:(onTheHeap (Value.ref C) && Value.builtin "BaseException.__getattribute__" == Value.builtin "object.__getattribute__")=false:=by rw [hx2];rfl
  show wpAny _ _ (if (onTheHeap (Value.ref C) && Value.builtin "BaseException.__getattribute__" == Value.builtin "object.__getattribute__")=true then _ else getAttrByItsOwn _ _ _ _ _ _) _ _ _
  rw [hx3,if_neg (by decide)]
  unfold getAttrByItsOwn hookBefore
  simp only [onTheHeap,if_true]
  refine wpAny_bind (L2.at (wpAny_bind (wpAny_attempt (wpAny_holding ?_))))
  unfold callGetattribute
  rw [if_neg (by decide)]
  unfold boundAndCalled
  refine wpAny_bind (wpAny_of_eq f3 (wpAny_call ?_))
  refine codeAny_call_builtin PySem.F.excAttr_ValueError.ga.plain PySem.F.entry_bexc_ga ?_
  have hk:builtinKind "BaseException.__getattribute__"=some .slot:=by decide +kernel
  have hsplit:splitId "BaseException.__getattribute__"=some ("BaseException","__getattribute__"):=by decide +kernel
  have ha:=PySem.F.args_bexc_ga (.ref a) (.str name t)
  simp only [checkBuiltinCall,hk,hsplit]
  refine wpAny_bind (L4.at ?_)
  repeat (first | wp_step)
  refine wpAny_loadPart I.at_ (wpAny_pure ?_)
  rw [I.cls]
  refine wpAny_bind (L3.at ?_)
  show wpAny _ _ (Builtin.ObjectAttr.bindTo g d (.ref a) (.ref C)) _ _ _
  unfold Builtin.ObjectAttr.bindTo
  dsimp only
  exact wpAny_bind (wpAny_holding (wpAny_mono h (fun v s' z=>wpAny_pure (wpAny_mono z (fun v s'' q=>wpAny_pure q) (fun _ _ z=>z.elim))) (fun _ _ z=>z.elim)))
theorem ExcObj.inst {h:Heap} {a C:Addr} {oe:Obj} (x:ExcObj oe C) (e:h.get? a=some oe):PySem.W.InstAt h a oe C none:=by
  obtain ⟨c,d,vs,hv⟩:=x
  refine ⟨e,c,?_,?_⟩
  · obtain ⟨c0,d0,dt,sl⟩:=oe
    dsimp only at hv
    subst hv
    rfl
  · rw [d]
    trivial
theorem kitx_exc {K:PySem.W.Frag} {a C:Addr} {oe:Obj} (Z:XI K C) (x:ExcObj oe C):PySem.W.KitX K (.ref a) (.ref C) (fun h=>h.get? a=some oe) where
  ty:=fun _ _ _ e=>(x.inst e).type
  it:=fun _ _ X _=>by
    obtain ⟨cd,hcD⟩:=Option.isSome_iff_exists.mp Z.hc
    unfold PySem.W.clsIn at hcD
    split at hcD
    case h_2=>cases hcD
    case h_1 c' d' cd' sl' ho =>
      intro A' Q' E' s' k q
      unfold isType loadHead
      exact wpAny_bind (wpAny_loadPart (k _ _ (X _ _ ho)) (wpAny_pure q))
  ne:=fun h tp dd its n sl X htp=>by
    obtain ⟨cd,hcD⟩:=Option.isSome_iff_exists.mp Z.hc
    refine Bool.eq_false_iff.mpr fun q=>?_
    have e:C=tp:=Value.ref.inj (beq_iff_eq.mp q)
    subst e
    unfold PySem.W.clsIn at hcD
    split at hcD
    case h_2=>cases hcD
    case h_1 c' d' cd' sl' ho =>
      have z:=(X _ _ ho).symm.trans htp
      cases z
  ca:=fun {_ _ _ _ _ s} X e k=>by
    have hf:=findObj_none Z.hc Z.ha Z.hn Z.tk
    have I:=x.inst e
    exact kin_openX X I Z.ga Z.gt Z.sb hf (wpAny_call (PySem.W.class_get (s:={ s with toks:=s.toks + 1 }) (ox:=oe) (od:=none) X I Z.hm (PySem.W.handed_on rfl k)))
def clV:V->Option Value
  | .ref D=>some (.ref D)
  | .ty T=>some (.type T)
  | _=>none
def rIsX (K:PySem.W.Frag):List V->Hp->VK->Prop:=fun xs H Q=>∃ a oe C c cv b,xs=[.ref a,c]/\H a=some (KN oe)/\ExcObj oe C/\XI K C/\clV c=some cv/\PySem.W.kitOne K (.ref C) cv=some b/\Q (.bl b) H
theorem call_isx {X:Cx}:CallR X (.builtin "isinstance") (rIsX X.K):=by
  intro pins s σ H xs us Q I r h
  obtain ⟨a,oe,C,c,cv,b,rfl,ha,x,Z,hcv,hk,q⟩:=h
  cases r with
  | cons r1 rr =>
    cases rr with
    | cons r2 rr =>
      cases rr
      cases r1
      have ec:∀ u,RelV c u->u=cv:=fun u ru=>by
        cases c with
        | ref D=>cases hcv;exact ru
        | ty T=>cases hcv;exact ru
        | _=>cases hcv
      have eu:=ec _ r2
      subst eu
      exact PySem.W.kia_one (kitx_exc Z x) I.kIn (I.hok.kn ha) hk (by intro z;cases z) fun tk=>⟨.bl b,H,I.tok tk,rfl,q⟩
theorem vals_bl:∀ {bs:List Bool} {us:List Value},Vals (bs.map V.bl) us->us=bs.map Value.bool
  | [],_,.nil=>rfl
  | _ :: _,_,.cons r t=>by rw [vals_bl t];cases r;rfl
def rIdxB:V->List V->Hp->VK->Prop:=fun x vs H Q=>∃ (l:Addr) (bs:List Bool) (j:Nat),x=.ref l/\vs=[.bl true]/\H l=some (.lst (bs.map V.bl))/\bs[j]?=some true/\(∀ m,m < j->bs[m]?=some false)/\Q (.int j) H
theorem mt_indexB {X:Cx}:MtR X "list.index" rIdxB:=by
  intro pins s σ H x vs v us Q I rx rv h
  obtain ⟨l,bs,j,rfl,rfl,hH,hj,hno,q⟩:=h
  cases rx
  obtain ⟨u,rfl,ru⟩:=rv.one
  cases ru
  obtain ⟨z,its,n,r,hl,e⟩:=I.lstM hH
  have ei:=vals_bl r
  subst ei
  obtain ⟨j1,j2⟩:=List.getElem?_eq_some_iff.mp hj
  have z':bs.length <= sizeLine:=by simpa using z
  have hsz:sizeLine < 2 ^ 63 - 1:=by decide
  refine call_meets F.slot_list_index ⟨_,e,rfl⟩ F.entry_list_index (F.args_list_index_2 _ _)
    (SeqAt.list_indexAt l (bs.map Value.bool).toArray n none #[] (.bool true) (fun y=>y == Value.bool true) j (by simpa using j1) (by omega) ?_ ?_) ⟨e,fun y hy=>?_,?_⟩
  · simp [j2]
  · intro m hm hlt
    have:=hno m hlt
    obtain ⟨m1,m2⟩:=List.getElem?_eq_some_iff.mp this
    simp [m2]
  · obtain ⟨b,hb,rfl⟩:∃ b,b ∈ bs/\Value.bool b=y:=by simpa using hy
    have eb:(Value.bool b == Value.bool true)=(b == true):=by cases b <;> rfl
    show SeqAt.EqAt _ _ _ _ (Value.bool b == Value.bool true)
    rw [eb]
    exact SeqAt.EqAt.bool_bool b true
  · exact ⟨.int j,H,I.tok _,⟨_,rfl⟩,q⟩
end L2
namespace L2
open PySem PySem.Spec PyProof.Rows
def Cel (cl:List (Str × Addr)) (b:Addr):Prop:=∃ x,cl.lookup x=some b
open Classical in
noncomputable def offC (cl:List (Str × Addr)) (H:Hp):Hp:=fun b=>if Cel cl b then none else H b
open Classical in
noncomputable def onC (cl:List (Str × Addr)) (H H':Hp):Hp:=fun b=>if Cel cl b then H b else H' b
theorem offC_in {cl:List (Str × Addr)} {H:Hp} {b:Addr} (h:Cel cl b):offC cl H b=none:=by unfold offC;rw [if_pos h]
theorem offC_out {cl:List (Str × Addr)} {H:Hp} {b:Addr} (h:¬ Cel cl b):offC cl H b=H b:=by unfold offC;rw [if_neg h]
theorem onC_in {cl:List (Str × Addr)} {H H':Hp} {b:Addr} (h:Cel cl b):onC cl H H' b=H b:=by unfold onC;rw [if_pos h]
theorem onC_out {cl:List (Str × Addr)} {H H':Hp} {b:Addr} (h:¬ Cel cl b):onC cl H H' b=H' b:=by unfold onC;rw [if_neg h]
def CelK (cl:List (Str × Addr)) (H:Hp):Prop:=∀ x c,cl.lookup x=some c->∃ oc v,H c=some (KN oc)/\oc.data=.cell v
section
variable {P:Program} {w:World} {fs:List Addr} {cl:List (Str × Addr)} {H H':Hp} {h h':Heap}
theorem offC_hok (ok:HOk P w H h) (ck:CelK cl H):HOk P w (offC cl H) h:=fun b o e=>by
  have nb:¬ Cel cl b:=fun z=>by rw [offC_in z] at e;cases e
  rw [offC_out nb] at e
  have nk:∀ c u,H c=some u->(∀ oc,u ≠ KN oc)->¬ Cel cl c:=fun c u q n ⟨x,z⟩=>by
    obtain ⟨oc,v,q',_⟩:=ck x c z
    rw [q] at q'
    exact n oc (Option.some.inj q')
  refine (ok b o e).stay (fun _ _ _ q=>q) (fun c q=>?_) fun c xs q=>?_
  · rw [offC_out (nk c _ q (by intro oc z;cases z))];exact q
  · rw [offC_out (nk c _ q (by intro oc z;cases z))];exact q
theorem un_on (u:Un fs [] (offC cl H) H' h h') (ok:HOk P w H h) (ck:CelK cl H) (hfs:∀ b ∈ fs,H b=none):Un fs [] H (onC cl H H') h h':=by
  have nc:∀ b,H b=none->¬ Cel cl b:=fun b n ⟨x,z⟩=>by
    obtain ⟨oc,v,q,_⟩:=ck x b z
    rw [n] at q;cases q
  have nk:∀ c u,H c=some u->(∀ oc,u ≠ KN oc)->¬ Cel cl c:=fun c u q n ⟨x,z⟩=>by
    obtain ⟨oc,v,q',_⟩:=ck x c z
    rw [q] at q'
    exact n oc (Option.some.inj q')
  refine ⟨fun b o e n hb hx=>u.keep b o e (by rw [offC_out (nc b n)];exact n) hb hx,fun b o e n hb hx=>u.slot b o e (by rw [offC_out (nc b n)];exact n) hb hx,fun b o e n hx=>?_,u.there,fun b xs q=>?_,fun b o xs q=>?_,fun b ps q=>?_⟩
  · rw [onC_out (nc b n)]
    exact u.free b o e (by rw [offC_out (nc b n)];exact n) hx
  · have z:=nk b _ q (by intro oc z;cases z)
    rw [onC_out z]
    exact u.tups b xs (by rw [offC_out z];exact q)
  · by_cases z:Cel cl b
    · rw [onC_in z];exact q
    · rw [onC_out z]
      exact u.frzs b o xs (by rw [offC_out z];exact q)
  · have z:=nk b _ q (by intro oc z;cases z)
    obtain ⟨m,e⟩:=u.tbls b ps (by rw [offC_out z];exact q)
    exact ⟨m,by rw [onC_out z];exact e⟩
theorem hok_on (u:Un fs [] (offC cl H) H' h h') (ok:HOk P w H h) (ok':HOk P w H' h') (ck:CelK cl H) (hfs:∀ b ∈ fs,H b=none):HOk P w (onC cl H H') h':=fun b o e=>by
  have hn:∀ c,Cel cl c->H' c=none/\∃ oc v,H c=some (KN oc)/\oc.data=.cell v/\h'.get? c=some oc:=fun c z=>by
    obtain ⟨x,zx⟩:=z
    obtain ⟨oc,v,q,d⟩:=ck x c zx
    have g:=ok.kn q
    exact ⟨u.free c oc g (offC_in ⟨x,zx⟩) (by simp),oc,v,q,d,u.keep c oc g (offC_in ⟨x,zx⟩) (fun hb=>by rw [hfs c hb] at q;cases q) (by simp)⟩
  by_cases z:Cel cl b
  · rw [onC_in z] at e
    obtain ⟨_,oc,v,q,d,g⟩:=hn b z
    rw [q] at e
    cases e
    exact kn_ok g
  · rw [onC_out z] at e
    refine (ok' b o e).stay (fun _ _ _ q=>q) (fun c q=>?_) fun c xs q=>?_
    · rw [onC_out (fun zc=>by rw [(hn c zc).1] at q;cases q)];exact q
    · rw [onC_out (fun zc=>by rw [(hn c zc).1] at q;cases q)];exact q
theorem un_off {Hf:Hp} (u:Un fs [] Hf H' h h') (ok:HOk P w Hf h) (ok':HOk P w H' h') (ck:CelK cl Hf) (hc:∀ b,Cel cl b->H b=none) (ho:∀ b,¬ Cel cl b->Hf b=H b):Un fs [] H (offC cl H') h h'/\HOk P w (offC cl H') h':=by
  have hk:∀ b,Cel cl b->∃ oc v,H' b=some (KN oc)/\oc.data=.cell v/\h.get? b=some oc/\h'.get? b=some oc:=fun b z=>by
    obtain ⟨x,zx⟩:=z
    obtain ⟨oc,v,q,d⟩:=ck x b zx
    have q':=u.frzs b _ _ q
    exact ⟨oc,v,q',d,ok.kn q,ok'.kn q'⟩
  have nk:∀ c u,H' c=some u->(∀ oc,u ≠ KN oc)->¬ Cel cl c:=fun c u q n z=>by
    obtain ⟨oc,v,q',_⟩:=hk c z
    rw [q] at q'
    exact n oc (Option.some.inj q')
  have nh:∀ c u,H c=some u->¬ Cel cl c:=fun c u q z=>by rw [hc c z] at q;cases q
  refine ⟨⟨fun b o e n hb hx=>?_,fun b o e n hb hx=>?_,fun b o e n hx=>?_,u.there,fun b xs q=>?_,fun b o xs q=>?_,fun b ps q=>?_⟩,fun b o e=>?_⟩
  · by_cases z:Cel cl b
    · obtain ⟨oc,v,_,_,g,g'⟩:=hk b z
      rw [e] at g;cases g
      exact g'
    · exact u.keep b o e (by rw [ho b z];exact n) hb hx
  · by_cases z:Cel cl b
    · obtain ⟨oc,v,_,_,g,g'⟩:=hk b z
      rw [e] at g;cases g
      exact ⟨o.slots,g'⟩
    · exact u.slot b o e (by rw [ho b z];exact n) hb hx
  · by_cases z:Cel cl b
    · exact offC_in z
    · rw [offC_out z]
      exact u.free b o e (by rw [ho b z];exact n) hx
  · have z:=nh b _ q
    rw [offC_out z]
    exact u.tups b xs (by rw [ho b z];exact q)
  · have z:=nh b _ q
    rw [offC_out z]
    exact u.frzs b o xs (by rw [ho b z];exact q)
  · have z:=nh b _ q
    obtain ⟨m,e⟩:=u.tbls b ps (by rw [ho b z];exact q)
    exact ⟨m,by rw [offC_out z];exact e⟩
  · have z:¬ Cel cl b:=fun z=>by rw [offC_in z] at e;cases e
    rw [offC_out z] at e
    refine (ok' b o e).stay (fun _ _ _ q=>q) (fun c q=>?_) fun c xs q=>?_
    · rw [offC_out (nk c _ q (by intro oc z;cases z))];exact q
    · rw [offC_out (nk c _ q (by intro oc z;cases z))];exact q
end
def CTab (q:Str) (T:Addr) (H:Hp):Prop:=∃ ps,H T=some (.tbl ps)/\TriplesOk ps.toList /\
  ∀ pos v,codeAmong pos ps.toList=some v->∃ c oc vs t,v=.ref c/\H c=some (KN oc)/\oc.data=.fields vs/\vs[1]?=some (.str q t)
theorem triples_inv {l:List Value} (h:TriplesOk l):l=[] ∨ ∃ i t j u c r,l=.int i t :: .int j u :: c :: r/\TriplesOk r:=by
  unfold TriplesOk at h
  split at h
  · exact .inl rfl
  · exact .inr ⟨_,_,_,_,_,_,rfl,h⟩
  · exact h.elim
theorem triples_app {l:List Value} {i j:Int} {t u:Tok} {c:Value} (h:TriplesOk l):TriplesOk (l ++ [.int i t,.int j u,c]):=by
  generalize hn:l.length=n
  induction n using Nat.strongRecOn generalizing l with
  | _ n ih =>
    rcases triples_inv h with e | ⟨a,ta,b,tb,x,r,e,hr⟩
    · subst e;trivial
    · subst e
      have z:TriplesOk (r ++ [.int i t,.int j u,c]):=ih r.length (by rw [<- hn];simp only [List.length_cons];omega) hr rfl
      exact z
theorem among_app {pos:Pos} {l:List Value} {i j:Int} {t u:Tok} {c v:Value} (h:TriplesOk l) (e:codeAmong pos (l ++ [.int i t,.int j u,c])=some v):codeAmong pos l=some v ∨ v=c:=by
  generalize hn:l.length=n
  induction n using Nat.strongRecOn generalizing l with
  | _ n ih =>
    rcases triples_inv h with q | ⟨a,ta,b,tb,x,r,q,hr⟩
    · subst q
      have e':(if (i == (pos.line:Int) && j == (pos.col:Int))=true then some c else codeAmong pos [])=some v:=e
      by_cases z:(i == (pos.line:Int) && j == (pos.col:Int))=true
      · rw [if_pos z] at e';exact .inr (Option.some.inj e').symm
      · rw [if_neg z] at e';cases e'
    · subst q
      have e':(if (a == (pos.line:Int) && b == (pos.col:Int))=true then some x else codeAmong pos (r ++ [.int i t,.int j u,c]))=some v:=e
      show (if (a == (pos.line:Int) && b == (pos.col:Int))=true then some x else codeAmong pos r)=some v ∨ v=c
      by_cases z:(a == (pos.line:Int) && b == (pos.col:Int))=true
      · rw [if_pos z] at e'
        rw [if_pos z]
        exact .inl e'
      · rw [if_neg z] at e'
        rw [if_neg z]
        exact ih r.length (by rw [<- hn];simp only [List.length_cons];omega) hr e' rfl
structure LamX (X:Cx) (T:Addr):Prop where
  code:∃ c,X.env.code=.ref c/\PySem.W.CodeHd X.base c T
  blt:X.base.BuiltinsAt X.mg T
abbrev lamQ (X:Cx):Str:=X.env.qual ++ "<lambda>"
abbrev lamO (X:Cx) (params:Arguments) (body:Expr) (scope:Scope) (c:Addr) (ctv:Value):Obj:=PySem.W.kla_obj "<lambda>" (lamQ X) params body scope (closL X.env scope.names []) ((X.mg "__name__").getD .none) c ctv
def CodeK (q:Str) (H:Hp) (c:Addr):Prop:=∃ oc vs t,H c=some (KN oc)/\oc.data=.fields vs/\vs[1]?=some (.str q t)
def tLam (X:Cx) (T:Addr) (params:Arguments) (body:Expr) (scope:Scope):TE:=fun σ H Q=>CTab (lamQ X) T H /\
  ∀ f c ctv H',(∀ b o,b ≠ T->H b=some o->H' b=some o)->CTab (lamQ X) T H'->H f=none->H' f=some (KN (lamO X params body scope c ctv))->CodeK (lamQ X) H' c->Q (.ref f) H'
theorem pe_lambda {X:Cx} {T:Addr} {params:Arguments} {body:Expr} {scope:Scope} {pos:Pos} (Z:LamX X T) (hdef:defaultsOf params X.env=([],[]):=by rfl) (hf:okFree scope X.env=true:=by rfl) :
    PE X (.Lambda params body scope pos) (tLam X T params body scope):=by
  intro pins s σ H Q I h
  obtain ⟨⟨ps,hP,ht,hk⟩,q⟩:=h
  obtain ⟨c,hc,C⟩:=Z.code
  obtain ⟨bm,ob,b1,b2,b3,b4,b5,b6⟩:=Z.blt
  have hcl:=closureFor_eq (I.closed hf)
  have hg:=I.mod.glob.keeps I.bk
  have gP:s.heap.get? T=some (PySem.W.tabObj ps):=I.hok T _ hP
  have hgT:mainGlobals ≠ T:=fun z=>by
    obtain ⟨o,es,ep,e,hd,_⟩:=hg
    rw [z,gP] at e;cases e;cases hd
  have hB:s.heap.BuiltinsAt X.mg T:=⟨bm,ob,b1,b2,b3,b4,I.bk _ _ b5,b6⟩
  refine PySem.W.kla_eval hdef ?_
  cases e:codeAmong pos ps.toList with
  | none =>
    refine PySem.W.kla_makeFunction (mg:=X.mg) hcl I.ok.glob hg hc (C.keeps I.bk) gP ht e hgT hB fun c' ctv h' tk hx hge hlt hrec htb=>?_
    obtain ⟨c2,oc,vs,t,e2,hoc,hd,hv⟩:=hrec
    cases e2
    have nT:T < s.heap.objs.size:=Heap.lt_size gP
    have cT:c' ≠ T:=fun z=>absurd hge (by rw [z];exact Nat.not_le_of_lt nT)
    have fT:h'.objs.size ≠ T:=fun z=>absurd (Nat.lt_of_le_of_lt hge hlt) (by rw [z];exact Nat.lt_asymm nT)
    have fc:c' ≠ h'.objs.size:=Nat.ne_of_lt hlt
    have sz:s.heap.objs.size <= h'.objs.size:=Nat.le_trans hge (Nat.le_of_lt hlt)
    have nc:H c'=none:=I.hok.fresh hge
    have nf:H h'.objs.size=none:=I.hok.fresh sz
    generalize hfo:PySem.W.kla_obj "<lambda>" (X.env.qual ++ "<lambda>") params body scope (closL X.env scope.names []) ((X.mg "__name__").getD .none) c' ctv=fo
    generalize hps:ps ++ #[rawInt pos.line,rawInt pos.col,.ref c']=ps' at htb
    have hfree:fo.isFreed=false:=by rw [<- hfo];rfl
    have kp:∀ b o,b ≠ T->s.heap.get? b=some o->(h'.push fo).get? b=some o:=fun b o hb eb=>Heap.get?_push_of_some _ (hx b o hb eb)
    let H1:Hp:=upd (upd (upd H T (.tbl ps')) c' (KN oc)) h'.objs.size (KN fo)
    have hT1:H1 T=some (.tbl ps'):=by
      show upd (upd (upd H T (.tbl ps')) c' (KN oc)) h'.objs.size (KN fo) T=_
      rw [upd_ne (Ne.symm fT),upd_ne (Ne.symm cT),upd_same]
    have hc1:H1 c'=some (KN oc):=by
      show upd (upd (upd H T (.tbl ps')) c' (KN oc)) h'.objs.size (KN fo) c'=_
      rw [upd_ne fc,upd_same]
    have hf1:H1 h'.objs.size=some (KN fo):=upd_same
    have ho1:∀ b,b ≠ T->b ≠ c'->b ≠ h'.objs.size->H1 b=H b:=fun b z1 z2 z3=>by
      show upd (upd (upd H T (.tbl ps')) c' (KN oc)) h'.objs.size (KN fo) b=_
      rw [upd_ne z3,upd_ne z2,upd_ne z1]
    have hs1:∀ b o,b ≠ T->H b=some o->H1 b=some o:=fun b o z eb=>by
      rw [ho1 b z (ne_of_none eb nc) (ne_of_none eb nf)];exact eb
    have old:∀ b o,s.heap.get? b=some o->b ≠ c'/\b ≠ h'.objs.size:=fun b o eb=>⟨Nat.ne_of_lt (Nat.lt_of_lt_of_le (Heap.lt_size eb) hge),Nat.ne_of_lt (Nat.lt_of_lt_of_le (Heap.lt_size eb) sz)⟩
    have uT:∀ b,H b=none->b ≠ T:=fun b n z=>by rw [z,hP] at n;cases n
    have U:Un X.fs [] H H1 s.heap (h'.push fo):=by
      refine ⟨fun b o eb n _ _=>kp b o (uT b n) eb,fun b o eb n _ _=>⟨o.slots,kp b o (uT b n) eb⟩,fun b o eb n _=>?_,fun b o eb _=>?_,fun b xs eb=>?_,fun b o u eb=>?_,fun b qs eb=>?_⟩
      · rw [ho1 b (uT b n) (old b o eb).1 (old b o eb).2];exact n
      · by_cases z:b=T
        · subst z;exact ⟨_,Heap.get?_push_of_some _ htb⟩
        · exact ⟨o,kp b o z eb⟩
      · exact hs1 b _ (fun z=>by rw [z,hP] at eb;cases eb) eb
      · exact hs1 b _ (fun z=>by rw [z,hP] at eb;cases eb) eb
      · by_cases z:b=T
        · subst z
          rw [hP] at eb;cases eb
          exact ⟨_,by rw [hT1,<- hps]⟩
        · exact ⟨#[],by rw [hs1 b _ z eb];simp⟩
    have OK:HOk X.prog X.w H1 (h'.push fo):=fun b o eb=>by
      by_cases z1:b=T
      · subst z1
        rw [hT1] at eb;cases eb
        exact Heap.get?_push_of_some _ htb
      · by_cases z2:b=c'
        · subst z2
          rw [hc1] at eb;cases eb
          exact kn_ok (Heap.get?_push_of_some _ hoc)
        · by_cases z3:b=h'.objs.size
          · subst z3
            rw [hf1] at eb;cases eb
            exact kn_ok (Heap.get?_push_size _ hfree)
          · rw [ho1 b z1 z2 z3] at eb
            refine (I.hok b o eb).stay (fun d v hd qd=>kp d v ?_ qd) (fun d qd=>hs1 d _ (fun z=>by rw [z,hP] at qd;cases qd) qd) fun d xs qd=>hs1 d _ (fun z=>by rw [z,hP] at qd;cases qd) qd
            rcases hd with hd | hd
            · rw [hd];exact z1
            · intro z;rw [z,hP] at hd;cases hd
    have I1:=I.un (t':=tk) U OK
    have fin:=q h'.objs.size c' ctv H1 hs1 ⟨ps',hT1,?_,fun pos' v ev=>?_⟩ nf (by rw [hf1,<- hfo]) ⟨oc,vs,t,hc1,hd,hv⟩
    · exact ⟨.ref h'.objs.size,H1,I1,rfl,fin⟩
    · rw [<- hps]
      have z:=triples_app (i:=pos.line) (j:=pos.col) (t:=0) (u:=0) (c:=.ref c') ht
      simpa [rawInt] using z
    · rw [<- hps] at ev
      have ev':codeAmong pos' (ps.toList ++ [.int pos.line 0,.int pos.col 0,.ref c'])=some v:=by simpa [rawInt] using ev
      rcases among_app ht ev' with z | z
      · obtain ⟨c3,oc3,vs3,t3,y1,y2,y3,y4⟩:=hk pos' v z
        exact ⟨c3,oc3,vs3,t3,y1,hs1 c3 _ (fun z=>by rw [z,hP] at y2;cases y2) y2,y3,y4⟩
      · exact ⟨c',oc,vs,t,z,hc1,hd,hv⟩
  | some cv =>
    obtain ⟨c3,oc3,vs3,t3,y1,y2,y3,y4⟩:=hk pos cv e
    subst y1
    refine PySem.W.kla_makeFunctionHit (mg:=X.mg) hcl I.ok.glob hg hc (C.keeps I.bk) gP ht e hB fun ctv h' tk hkp sz=>?_
    have nf:H h'.objs.size=none:=I.hok.fresh sz
    have kp:∀ b o,s.heap.get? b=some o->(h'.push (lamO X params body scope c3 ctv)).get? b=some o:=fun b o eb=>Heap.get?_push_of_some _ (hkp b o eb)
    have I1:=I.laid (t':=tk) (o:=KN (lamO X params body scope c3 ctv)) kp sz (kn_ok (Heap.get?_push_size _ rfl))
    have hs1:∀ b o,H b=some o->upd H h'.objs.size (KN (lamO X params body scope c3 ctv)) b=some o:=fun b o eb=>by rw [upd_ne (ne_of_none eb nf)];exact eb
    refine ⟨.ref h'.objs.size,_,I1,rfl,q h'.objs.size c3 ctv _ (fun b o _ eb=>hs1 b o eb) ⟨ps,hs1 _ _ hP,ht,fun pos' v ev=>?_⟩ nf upd_same ⟨oc3,vs3,t3,hs1 _ _ y2,y3,y4⟩⟩
    obtain ⟨c4,oc4,vs4,t4,x1,x2,x3,x4⟩:=hk pos' v ev
    exact ⟨c4,oc4,vs4,t4,x1,hs1 _ _ x2,x3,x4⟩
end L2
namespace L2
open PySem PySem.Spec PyProof.Rows
def cxLam (P:Program) (w:World) (K:PySem.W.Frag) (mg:Str->Option Value) (base:Heap) (N:List Str) (qual:Str) (scope:Scope) (f:Addr) (cd:Value) (cl:List (Str × Addr)) (A:Around) (outer:List Env) (s:Shared) (H:Hp) (E:XK):Cx where
  prog:=P
  w:=w
  K:=K
  mg:=mg
  base:=base
  A:=A.deeper (PySem.W.envX qual scope s.heap.objs.size f cd cl)
  N:=N
  s₀:=s
  H₀:=H
  env:=PySem.W.envX qual scope s.heap.objs.size f cd cl
  outer:=outer
  stack:=PySem.W.envX qual scope s.heap.objs.size f cd cl :: outer
  ex:=[]
  calm:=true
  fn:=fun _=>false
  pn:=[]
  xe:=fun e s'=>wpAny (model P w) (A.deeper (PySem.W.envX qual scope s.heap.objs.size f cd cl)) (leaving (PySem.W.envX qual scope s.heap.objs.size f cd cl) e) (fun _ s''=>CX1 P w outer H s E e s'') (fun e' s''=>CX1 P w outer H s E e' s'') s'
section
variable {P:Program} {w:World} {K:PySem.W.Frag} {mg:Str->Option Value} {base:Heap} {N:List Str} {qual:Str} {scope:Scope} {f:Addr} {cd:Value} {cl:List (Str × Addr)} {A:Around} {outer:List Env} {s₀:Shared} {H₀:Hp} {E:XK}
theorem passesL:Passes (CX1 P w) (cxLam P w K mg base N qual scope f cd cl A outer s₀ H₀ E) E:=by
  intro pins σ H s e s' I h
  obtain ⟨a,C,H',rfl,F,hE⟩:=h
  obtain ⟨T,x,n1,n2,n3,n4⟩:=F.exc
  have I':=I.call' (ch:=[]) F.os F.un F.hok F.bare (fun b z=>absurd z (by simp))
  exact fly_out I' rfl rfl rfl x (none_back I.base n1) (fun T' z=>by cases z;exact none_back I.base n2) n3 (fun T' z=>by cases z;exact n4) fun s'' F'=>⟨a,C,H',rfl,F',hE⟩
end
def LamSt (cl:List (Str × Addr)) (scope:Scope) (N:List Str) (H:Hp) (σ:St):Prop:=σ.length=N.length /\
  ∀ (i:Nat) (x:Str) (v:V),N[i]?=some x->σ[i]?=some (some v)->scope.names.lookup x=some .free/\∃ c oc u,cl.lookup x=some c/\H c=some (KN oc)/\oc.data=.cell (some u)/\RelV v u
structure LamScope (cl:List (Str × Addr)) (scope:Scope):Prop where
  kind:scope.kind=.function
  co:scope.isCoroutine=false
  gen:scope.isGenerator=false
  nocell:∀ x ∈ scope.names,x.2 ≠ .cell
  inj:∀ x y c,cl.lookup x=some c->cl.lookup y=some c->x=y
  has:∀ x,scope.names.lookup x=some .free->∃ c,cl.lookup x=some c
theorem lookup_mem' {α:Type}:∀ {l:List (Str × α)} {x:Str} {c:α},l.lookup x=some c->∃ y,(y,c) ∈ l/\y=x
  | [],_,_,h=>by cases h
  | (y,d) :: r,x,c,h=>by
    by_cases z:(x == y)=true
    · rw [List.lookup_cons,z] at h
      cases h
      exact ⟨y,List.mem_cons_self,(beq_iff_eq.mp z).symm⟩
    · rw [List.lookup_cons,Bool.eq_false_iff.mpr z] at h
      obtain ⟨y',m,e⟩:=lookup_mem' h
      exact ⟨y',List.mem_cons_of_mem _ m,e⟩
theorem LamScope.nc {cl:List (Str × Addr)} {scope:Scope} (S:LamScope cl scope) {x:Str} (h:scope.names.lookup x=some .cell):False:=by
  obtain ⟨y,m,_⟩:=lookup_mem' h
  exact S.nocell _ m rfl
theorem fnL {P:Program} {w:World} {K:PySem.W.Frag} {mg:Str->Option Value} {base:Heap} {k:Nat} {f c:Addr} {name qual:Str} {params:Arguments} {body:Expr} {scope:Scope} {cl:List (Str × Addr)} {pm ct:Value} {N:List Str} {sp:Sp}
    (S:LamScope cl scope)
    (hsp:∀ vs H Q E,sp vs H Q E->vs=[]/\H f=some (KN (PySem.W.kla_obj name qual params body scope cl pm c ct))/\CodeK qual H c/\CelK cl H/\∃ σ,LamSt cl scope N H σ /\
      ∀ (A:Around) (outer:List Env) (s:Shared),Room k (A.deeper (PySem.W.envX qual scope s.heap.objs.size f (.ref c) cl))->∃ t,PE (cxLam P w K mg base N qual scope f (.ref c) cl A outer s (offC cl H) (fun C d H'=>E C d (onC cl H H'))) body t/\t σ (offC cl H) (fun v H'=>Q v (onC cl H H'))) :
    FnOk P w K mg base (CX1 P w) (k + 1) f (PySem.W.kla_fn name qual params body scope cl pm (.ref c) ct) [] sp:=by
  refine ⟨fun vs H Q E q=>by rw [(hsp vs H Q E q).1];rfl,fun A outer s H args us vs Q E hr e0 hb r hq=>?_⟩
  obtain ⟨rfl,hf,⟨oc,cvs,t,hc,hcd,hcv⟩,ck,σ,hσ,hrun⟩:=hsp _ _ _ _ hq
  have lim:s.heap.NoLimit:=e0.mod.nolimit.keeps fun b o e=>(e0.bs b o e).1
  have gf:=e0.hok.kn hf
  have gc:=e0.hok.kn hc
  refine PySem.W.kla_callFunE hr.depth gf rfl S.co S.gen rfl ⟨c,oc,cvs,t,rfl,gc,hcd,hcv⟩ (hb _ _ _ _ ?_)
  refine wpAny_newFunctionEnv S.nocell (fun x hx=>absurd hx (by simp)) (fun h1 hns hsb=>⟨lim.fresh _ hsb,?_⟩) S.kind
  show codeAny _ _ (.expr body (PySem.W.envX qual scope s.heap.objs.size f (.ref c) cl)) _ _
  have hk1:∀ b o,s.heap.get? b=some o->h1.get? b=some o:=fun b o e=>hsb.extBut b o (Nat.ne_of_lt (Heap.lt_size e)) (Heap.get?_push_of_some _ e)
  obtain ⟨tt,hbody,ht⟩:=hrun A outer s (hr.deeper _)
  have hfs:∀ b ∈ frs outer,H b=none:=e0.frf
  have ok0:=offC_hok e0.hok ck
  have noff:∀ b,H b=none->offC cl H b=none:=fun b n=>by
    by_cases z:Cel cl b
    · exact offC_in z
    · rw [offC_out z];exact n
  have nL:∀ x d,cl.lookup x=some d->d < s.heap.objs.size/\∃ oc v,s.heap.get? d=some oc/\oc.data=.cell v:=fun x d e=>by
    obtain ⟨oc,v,q,dd⟩:=ck x d e
    have g:=e0.hok.kn q
    exact ⟨Heap.lt_size g,oc,v,g,dd⟩
  have I:Inv (cxLam P w K mg base N qual scope f (.ref c) cl A outer s (offC cl H) (fun C d H'=>E C d (onC cl H H'))) [] σ (offC cl H) { s with heap:=h1,toks:=s.toks + ([]:List (Str × Value)).length }:=by
    have noA:∀ b:Addr,b ∉ (cxLam P w K mg base N qual scope f (.ref c) cl A outer s (offC cl H) (fun C d H'=>E C d (onC cl H H'))).ex:=fun b z=>absurd (show b ∈ ([]:List Addr) from z) (by simp)
    refine ⟨⟨e0.mod,S.kind,rfl,rfl,Nat.le_refl _,S.inj,fun y hy=>?_,fun y d hy _=>absurd (show false=true from hy) (by simp),fun _=>hr.hd,Around.frames_deeper e0.frames,.inr ⟨rfl,rfl⟩,fun b z=>absurd z (noA b),fun b o e=>⟨(e0.bs b o e).1,noff b (e0.bs b o e).2⟩,e0.bsz,fun b _ _=>noA b,fun b z=>absurd z (noA b),e0.funs,fun b hb=>noff b (e0.frf b hb)⟩,
      rfl,e0.bare,Un.kept hk1,⟨_,hns,fun i y v h1' h2 h3=>?_⟩,fun y d h=>?_,noff _ (e0.hok.fresh (Nat.le_refl _)),fun y d h=>offC_in ⟨y,h⟩,fun p hp=>absurd (show p ∈ ([]:List (Addr × Obj)) from hp) (by simp),ok0.kept hk1,hσ.1⟩
    · have hy':scope.names.lookup y=some .cell ∨ scope.names.lookup y=some .free:=hy
      rcases hy' with hy' | hy'
      · exact (S.nc hy').elim
      · exact S.has y hy'
    · obtain ⟨kf,d,oc',u,e1,e2,e3,rv⟩:=hσ.2 i y v h1' h2
      exact ⟨u,rv,.inr ⟨.inr kf,d,e1,oc',hk1 _ _ (e0.hok.kn e2),e3⟩⟩
    · obtain ⟨_,oc',v,g,dd⟩:=nL y d h
      exact ⟨v,oc',hk1 _ _ g,dd⟩
  refine PySem.W.kla_codeExpr (wpAny_mono (hbody [] _ σ (offC cl H) _ I ht) (fun u s' ⟨v,H',J,rv,q⟩=>?_) fun e s' hx=>?_)
  · exact ⟨v,onC cl H H',J.os,J.bare,un_on J.base e0.hok ck hfs,hok_on J.base e0.hok J.hok ck hfs,rv,q⟩
  · have conv:∀ e s'',CX1 P w outer (offC cl H) s (fun C d H'=>E C d (onC cl H H')) e s''->CX1 P w outer H s E e s'':=fun e s'' h=>by
      obtain ⟨a,C,H',rfl,F,hE⟩:=h
      obtain ⟨T,x,n1,n2,n3,n4⟩:=F.exc
      have nC:∀ b,s.heap.get? b=none->¬ Cel cl b:=fun b n ⟨x,z⟩=>by
        obtain ⟨_,oc',v,g,_⟩:=nL x b z
        rw [n] at g;cases g
      exact ⟨a,C,onC cl H H',rfl,⟨F.os,F.bare,un_on F.un e0.hok ck hfs,hok_on F.un e0.hok F.hok ck hfs,T,x,n1,n2,by rw [onC_out (nC a n1)];exact n3,by rw [onC_out (nC T n2)];exact n4⟩,hE⟩
    exact wpAny_mono hx (fun _ s'' h=>conv e s'' h) fun e' s'' h=>conv e' s'' h
structure FrzX (X:Cx) (σ:St) (H Hf:Hp):Prop where
  out:∀ b,¬ Cel X.env.cells b->Hf b=H b
  none:∀ b,Cel X.env.cells b->H b=none
  cell:CelK X.env.cells Hf
  val:∀ (i:Nat) (x:Str) (v:V),X.N[i]?=some x->σ[i]?=some (some v)->(X.env.kindOf x=some .cell ∨ X.env.kindOf x=some .free)->∃ c oc u,X.env.cells.lookup x=some c/\Hf c=some (KN oc)/\oc.data=.cell (some u)/\RelV v u
open Classical in
noncomputable def frzAll (cl:List (Str × Addr)) (h:Heap) (H:Hp):Hp:=fun b=>if Cel cl b then (h.get? b).map (fun o=>KN o) else H b
theorem Inv.frz {X:Cx} {pins:List (Addr × Obj)} {σ:St} {H:Hp} {s:Shared} (I:Inv X pins σ H s):FrzX X σ H (frzAll X.env.cells s.heap H)/\HOk X.prog X.w (frzAll X.env.cells s.heap H) s.heap:=by
  have hin:∀ b,Cel X.env.cells b->∃ o v,s.heap.get? b=some o/\o.data=.cell v/\frzAll X.env.cells s.heap H b=some (KN o):=fun b z=>by
    obtain ⟨x,zx⟩:=z
    obtain ⟨v,o,e,d⟩:=I.cell x b zx
    refine ⟨o,v,e,d,?_⟩
    unfold frzAll
    rw [if_pos ⟨x,zx⟩,e]
    rfl
  have hout:∀ b,¬ Cel X.env.cells b->frzAll X.env.cells s.heap H b=H b:=fun b z=>by unfold frzAll;rw [if_neg z]
  have hno:∀ b,Cel X.env.cells b->H b=none:=fun b ⟨x,z⟩=>I.freeC x b z
  refine ⟨⟨hout,hno,fun x c z=>?_,fun i x v h1 h2 h3=>?_⟩,fun b o e=>?_⟩
  · obtain ⟨o,v,_,d,q⟩:=hin c ⟨x,z⟩
    exact ⟨o,v,q,d⟩
  · obtain ⟨m,hn,hl⟩:=I.loc
    obtain ⟨u,r,lk⟩:=hl i x v h1 h2 (by rcases h3 with h3 | h3;exact .inr (.inl h3);exact .inr (.inr h3))
    rcases lk with ⟨z,_⟩ | ⟨_,c,e,oc,g,d⟩
    · rw [z] at h3
      rcases h3 with h3 | h3 <;> cases h3
    · obtain ⟨o,v',g',d',q⟩:=hin c ⟨x,e⟩
      rw [g] at g';cases g'
      exact ⟨c,oc,u,e,q,d,r⟩
  · by_cases z:Cel X.env.cells b
    · obtain ⟨o',v,g,d,q⟩:=hin b z
      rw [q] at e;cases e
      exact kn_ok g
    · rw [hout b z] at e
      refine (I.hok b o e).stay (fun _ _ _ q=>q) (fun c q=>?_) fun c xs q=>?_
      · rw [hout c (fun zc=>by rw [hno c zc] at q;cases q)];exact q
      · rw [hout c (fun zc=>by rw [hno c zc] at q;cases q)];exact q
def tCallF (X:Cx) (sp:Sp) (t:TA):TE:=fun σ H Q=>t σ H fun vs H1=>∀ Hf,FrzX X σ H1 Hf->sp vs Hf (fun v H'=>Q v (offC X.env.cells H')) E0
theorem pe_callF {X:Cx} {k:Nat} {f:Addr} {fd:FuncData} {ps:List Str} {sp:Sp} {x:Str} {p pos:Pos} {e:Expr} {es:List Expr} {t:TA} (F:FnOk X.prog X.w X.K X.mg X.base CX0 k f fd ps sp) (hr:Room k X.A) (hg:Gl X x) (hm:X.mg x=some (.ref f)) (hk:PySem.W.keepIn X.K (.ref f)=true) (hb:Binds X.K fd ps [])
    (hfn:∀ y,X.fn y=true:=by intro y;rfl)
    (ha:PA X (e :: es) t) (hdb:(x == ("__debug__":Str))=false:=by decide) (he:starEach (e :: es) X.env=(false,eval e X.env) :: starEach es X.env:=by rfl) (hpl:(backTo pos (starEach es X.env)).any (·.1)=false:=by rfl) :
    PE X (.Call (.Name x p) (e :: es) [] pos) (tCallF X sp t):=by
  intro pins s σ H Q I h
  refine wpAny_Call_Name_kw (ld_glob I hg hm ?_ hdb)
  refine PySem.W.callWith_K (h₀:=X.base) I.ok.mod.kin hk (thn (ha pos pins s σ H _ I h) fun us s1 ⟨vs,H1,I1,r,q⟩=>⟨I1.kIn,?_⟩) he hpl
  obtain ⟨fz,hokf⟩:=I1.frz
  have q':=q _ fz
  have r2:Vals (vs ++ []) (us ++ []):=r.append .nil
  have hl:(us ++ []).length=ps.length:=by rw [<- r2.length,List.append_nil];exact F.len _ _ _ _ q'
  have e0:=I1.env0
  have nof:∀ b o,X.base.get? b=some o->¬ Cel X.env.cells b:=fun b o eb ⟨y,z⟩=>absurd (Nat.lt_of_lt_of_le (Heap.lt_size eb) I.ok.bsz) (Nat.not_lt_of_le (I.ok.cab y b (hfn y) z))
  have hfr:∀ b ∈ frs X.stack,¬ Cel X.env.cells b:=fun b hb ⟨y,z⟩=>by
    rcases List.mem_cons.mp (I1.stkSub b hb) with e | hb
    · exact I1.cne y b z e
    · obtain ⟨_,o,ho,_⟩:=I1.ok.funs.mem hb
      exact absurd (Heap.lt_size ho) (Nat.not_lt_of_le (I.ok.cab y b (hfn y) z))
  have e1:Env0 X.prog X.w X.K X.mg X.base X.A X.stack s1 (frzAll X.env.cells s1.heap H1):=⟨e0.frames,e0.mod,fun b o eb=>⟨(e0.bs b o eb).1,by rw [fz.out b (nof b o eb)];exact (e0.bs b o eb).2⟩,e0.bsz,e0.funs,fun b hb=>by rw [fz.out b (hfr b hb)];exact e0.frf b hb,hokf,e0.bare⟩
  refine wpAny_call (codeAny_mono (F.run X.A X.stack s1 _ ⟨us,[]⟩ us vs _ E0 hr e1 (by have z:=hb s1 us I1.kIn hl;rw [List.append_nil] at z;exact z) r q') fun res s' hq=>?_)
  cases res with
  | error e=>exact False.elim hq
  | ok fl =>
    cases fl with
    | ret u =>
      obtain ⟨v,H',os,bare,un,hok,rv,qq⟩:=hq
      obtain ⟨un',hok'⟩:=un_off (H:=H1) un hokf hok fz.cell fz.none fz.out
      exact I1.after ⟨v,_,os,bare,un',hok',rv,qq⟩
    | next=>exact False.elim hq
    | brk=>exact False.elim hq
    | cont=>exact False.elim hq
end L2
namespace L2
open PySem PySem.Spec PyProof.Rows
abbrev TJ:=St->Hp->(Hp->Prop)->Prop
def PJ (X:Cx) (es:List Expr) (n:Nat) (t:TJ):Prop :=
  ∀ (acc:Str),acc.length <= n->∀ (pins:List (Addr × Obj)) (s:Shared) (σ:St) (H:Hp) (Q:Hp->Prop),Inv X pins σ H s->t σ H Q ->
    wpAny (model X.prog X.w) X.A (joinParts acc (evalEach es X.env)) (fun u s'=>∃ z H',Inv X pins σ H' s'/\RelV (.str z) u/\Q H') X.xe s
section
variable {X:Cx} {es:List Expr} {n:Nat} {t:TJ}
theorem pj_nil (h:n <= sizeLine:=by decide):PJ X [] n (fun _ H Q=>Q H):=by
  intro acc ha pins s σ H Q I q
  exact joinParts_nil (s:=s) ⟨acc,H,I.tok _,⟨_,rfl⟩,q⟩ (Nat.le_trans ha h)
theorem pj_str {x:Str} {j:Nat} {pos:Pos} (h:PJ X es (n + x.length) t) (hz:n + x.length <= sizeLine:=by decide):PJ X (.Constant (.str x) j pos :: es) n t:=by
  intro acc ha pins s σ H Q I q
  show wpAny _ _ (joinParts acc (eval (.Constant (.str x) j pos) X.env :: evalEach es X.env)) _ _ _
  refine joinParts_cons (Calls.Constant_str ⟨?_,?_⟩)
  · rw [strLen_append];omega
  · exact h (acc ++ x) (by rw [strLen_append];omega) pins _ σ H Q (I.tok _) q
theorem pj_fmt {e:Expr} {te:TE} {pos:Pos} (he:PE X e te) (h:PJ X es (n + 100) t) (hz:n + 100 <= sizeLine:=by decide) :
    PJ X (.FormattedValue e (-1) none pos :: es) n (fun σ H Q=>te σ H fun v H1=>∃ i:Int,v=.int i/\i.natAbs.log2 < 1920/\(toString i:Str).length <= 100/\t σ H1 Q):=by
  intro acc ha pins s σ H Q I q
  show wpAny _ _ (joinParts acc (eval (.FormattedValue e (-1) none pos) X.env :: evalEach es X.env)) _ _ _
  refine joinParts_cons (FormattedValue_plain (thn (he pins s σ H _ I q) fun u s1 ⟨v,H1,I1,r,i,ev,hl,hz',q1⟩=>?_))
  subst ev
  obtain ⟨tk,rfl⟩:=r
  refine formatField_int_small hl ⟨?_,?_⟩
  · rw [strLen_append];omega
  · exact h _ (by rw [strLen_append];omega) pins _ σ H1 Q (I1.tok _) q1
theorem pe_fstr {v1 v2:Expr} {rest:List Expr} {pos:Pos} (h:PJ X (v1 :: v2 :: rest) 0 t):PE X (.JoinedStr (v1 :: v2 :: rest) pos) (fun σ H Q=>t σ H fun H1=>∀ z,Q (.str z) H1):=by
  intro pins s σ H Q I q
  exact JoinedStr_many (thn (h Str.empty (Nat.le_refl _) pins s σ H _ I q) fun u s1 ⟨z,H1,I1,r,q1⟩=>⟨.str z,H1,I1,r,q1 z⟩)
end
section
variable {P:Program} {w:World} {K:PySem.W.Frag} {mg:Str->Option Value} {base:Heap}
theorem Fun.okX {x qual:Str} {st:Stmt} {f:Addr} {fd:FuncData} {N ps:List Str} {k:Nat} {sp:Sp} (F:Fun K x qual st f fd) (S:FnScope N ps (defScope st)) (len:∀ vs H Q E,sp vs H Q E->vs.length=ps.length)
    (hbody:∀ (cdv:Value) (A:Around) (outer:List Env) (s:Shared) (H:Hp) (vs:List V) (Q:VK) (E:XK),Room k (A.deeper (envOfC qual (defScope st) s.heap.objs.size f cdv))->sp vs H Q E ->
      ∃ t,PSs (cxOf (CX1 P w) P w K mg base N qual (defScope st) f cdv A outer s H E) (defBody st) t/\t { nx:=fun _ H'=>Q .non H',rt:=Q } (start N vs) H):FnOk P w K mg base (CX1 P w) (k + 1) f fd ps sp:=by
  obtain ⟨oc,od,kV,doc,pm,an,cdv,ct,osl,rfl,lk,hcd⟩:=F.ex
  exact fn_of lk hcd S len fun A outer s H vs Q E hr hsp=>hbody cdv A outer s H vs Q E hr hsp
theorem Fun.okC {x qual:Str} {st:Stmt} {f:Addr} {fd:FuncData} {N ps:List Str} {k:Nat} {sp:Sp} (F:Fun K x qual st f fd) (S:FnScope N ps (defScope st)) (len:∀ vs H Q E,sp vs H Q E->vs.length=ps.length)
    (hbody:∀ (cdv:Value) (A:Around) (outer:List Env) (s:Shared) (H:Hp) (vs:List V) (Q:VK) (E:XK),fd.code=cdv->Room k (A.deeper (envOfC qual (defScope st) s.heap.objs.size f cdv))->sp vs H Q E ->
      ∃ t,PSs (cxOf CX0 P w K mg base N qual (defScope st) f cdv A outer s H E).nox (defBody st) t/\t { nx:=fun _ H'=>Q .non H',rt:=Q } (start N vs) H):FnOk P w K mg base CX0 (k + 1) f fd ps sp:=by
  obtain ⟨oc,od,kV,doc,pm,an,cdv,ct,osl,rfl,lk,hcd⟩:=F.ex
  refine fn_of lk hcd S len fun A outer s H vs Q E hr hsp=>?_
  obtain ⟨t,h,q⟩:=hbody cdv A outer s H vs Q E rfl hr hsp
  exact ⟨t,h.nox,q⟩
end
section
variable {P:Program} {w:World} {K:PySem.W.Frag} {mg:Str->Option Value} {base:Heap} {N:List Str} {qual:Str} {scope:Scope} {f:Addr} {cd:Value} {A:Around} {outer:List Env} {s₀:Shared} {H₀:Hp} {E:XK}
theorem ps_raise1 {x:Str} {C:Addr} {e:Expr} {te:TE} {np cpos pos:Pos} (hm:mg x=some (.ref C)) (hc:XC K C) (he:PE (cxOf (CX1 P w) P w K mg base N qual scope f cd A outer s₀ H₀ E) e te)
    (hmono:∀ σ H (Q Q':VK),(∀ v H1,Q v H1->Q' v H1)->te σ H Q->te σ H Q')
    (hg:Gl (cxOf (CX1 P w) P w K mg base N qual scope f cd A outer s₀ H₀ E) x:=by rfl)
    (hdb:(x == ("__debug__":Str))=false:=by decide)
    (hst:starEach [e] (envOfC qual scope s₀.heap.objs.size f cd)=(false,eval e (envOfC qual scope s₀.heap.objs.size f cd)) :: starEach [] (envOfC qual scope s₀.heap.objs.size f cd):=by rfl) :
    PS (cxOf (CX1 P w) P w K mg base N qual scope f cd A outer s₀ H₀ E) (.Raise (some (.Call (.Name x np) [e] [] cpos)) none pos) (fun _ σ H=>te σ H fun _ H1=>E (.ref C) none H1):=by
  have h:=ps_raise (E:=E) (pos:=pos) (np:=np) (cpos:=cpos) (t:=tCons te tNil) hg hm hc (pa_cons he pa_nil (hs:=hst)) (Nat.le_refl _) hdb hst rfl (fun σ H Q q=>hmono _ _ _ _ (fun v H1 z=>⟨by show 1 <= sizeLine;decide,z⟩) q)
  exact h
end
end L2
namespace L2
open PySem PySem.Spec PyProof.Rows
def OnlyT (ts:List Addr) (H:Hp):Prop:=(∀ b,H b=none ∨ (∃ o xs,H b=some (.frz o (.lst xs))) ∨ (b ∈ ts/\H b=some (.tbl #[])))/\∀ T ∈ ts,H T=some (.tbl #[])
theorem law_callT {P:Program} {w:World} {K:PySem.W.Frag} {mg mb:Str->Option Value} {k:Nat} {fa a:Addr} {fd:FuncData} {x:Str} {sp:Sp} {s1:Shared} {vs:List Value} {ns:List Int} {ts:List Addr}
    (KX:K.In s1.heap) (hns:s1.heap.Ns mainGlobals mg) (hb:s1.heap.Ns builtinsNs mb) (hbb:∀ x:Str,x ≠ "__name__"->mb x=bootBuiltins x) (hlim:s1.heap.NoLimit) (hg:s1.gens=#[])
    (hbm:∃ bm ob,mg "__builtins__"=some (.ref bm)/\bm ≠ builtinsNs/\s1.heap.get? bm=some ob/\ob.cls=.type "module"/\ob.dict=some builtinsNs/\ob.data=.plain)
    (ha:s1.heap.get? a=some { cls:=.type "list",data:=.seq vs.toArray }) (hi:IntsAre vs ns) (hl:ns.length <= sizeLine) (hr:Room k callerA)
    (tabs:∀ T ∈ ts,s1.heap.get? T=some (PySem.W.tabObj #[])/\isCodeTable s1.heap T/\K.lookup T=none)
    (F:∀ base:Heap,K.In base->base.Ns mainGlobals mg->(∀ T ∈ ts,base.BuiltinsAt mg T)->FnOk P w K mg base CX0 k fa fd [x] sp) (hbind:∀ (s:Shared) (u:Value),BindsTo s fd ⟨[u],[]⟩ [(x,u)])
    (hsp:∀ H:Hp,OnlyT ts H->SqL K H a (ns.map V.int)->sp [.ref a] H (fun v _=>v=.bl true) fun _ _ _=>False) :
    codeAny (model P w) callerA (.call (.ref fa) ⟨[.ref a],[]⟩) (fun r s'=>r=.ok (.ret (.bool true))/\OldK s1.heap s'.heap/\s'.os=s1.os/\AllBare s'.gens) s1:=by
  have rv:=vals_ints hi
  have lenV:=hi.length
  have aT:a ∉ ts:=fun z=>by
    have e:=(tabs a z).1
    rw [ha] at e;cases e
  have core:∀ H:Hp,OnlyT ts H->SqL K H a (ns.map V.int)->HOk P w H s1.heap->(∀ b,H b ≠ none->b=a ∨ b ∈ ts)->(H a ≠ none->K.lookup a=none) ->
      codeAny (model P w) callerA (.call (.ref fa) ⟨[.ref a],[]⟩) (fun r s'=>r=.ok (.ret (.bool true))/\OldK s1.heap s'.heap/\s'.os=s1.os/\AllBare s'.gens) s1:=by
    intro H hO hS hok hA hK
    have base_of:∀ {b:Addr} {o:Obj},s1.heap.get? b=some o->H b=none->(hidT s1.heap H).get? b=some o:=fun e n=>hidT_get e n
    have noB:∀ {b:Addr} {o:Obj},s1.heap.get? b=some o->(∀ xs n,o.data ≠ .seq xs n)->(∀ xs,o.data ≠ .fields xs)->H b=none:=fun {b o} e d1 d2=>by
      cases q:H b with
      | none=>rfl
      | some u =>
        rcases hA b (by rw [q];simp) with e' | e'
        · subst e'
          rw [ha] at e;cases e
          exact absurd rfl (d1 _ _)
        · rw [(tabs b e').1] at e;cases e
          exact absurd rfl (d2 _)
    have noA:∀ {b:Addr} {o:Obj} {es:Array DictEntry} {ep:Nat},s1.heap.get? b=some o->o.data=.dict es ep->H b=none:=fun {b o es ep} e d =>
      noB e (fun xs n z=>by rw [d] at z;cases z) (fun xs z=>by rw [d] at z;cases z)
    have nsK:∀ {b:Addr} {m:Str->Option Value},s1.heap.Ns b m->(hidT s1.heap H).Ns b m:=fun {b m} ⟨o,es,ep,e,d,r⟩=>⟨o,es,ep,base_of e (noA e d),d,r⟩
    have hKb:K.In (hidT s1.heap H):=fun b o e=>base_of (KX b o e) (by
      cases q:H b with
      | none=>rfl
      | some u =>
        rcases hA b (by rw [q];simp) with e' | e'
        · subst e'
          rw [hK (by rw [q];simp)] at e;cases e
        · rw [(tabs b e').2.2] at e;cases e)
    have hM:Mod K mg (hidT s1.heap H):=⟨hKb,nsK hns,⟨mb,nsK hb,hbb⟩,let ⟨mc,h1,h2⟩:=hlim;⟨mc,nsK h1,h2⟩⟩
    have hBM:∀ T ∈ ts,(hidT s1.heap H).BuiltinsAt mg T:=fun T hT=>by
      obtain ⟨bm,ob,b1,b2,b3,b4,b5,b6⟩:=hbm
      refine ⟨bm,ob,b1,b2,fun z=>?_,fun z=>?_,base_of b3 (noB b3 (fun xs n z=>by rw [b6] at z;cases z) (fun xs z=>by rw [b6] at z;cases z)),b4,b5,b6⟩
      · obtain ⟨o,es,ep,e,d,_⟩:=hns
        rw [<- z,b3] at e;cases e
        rw [b6] at d;cases d
      · rw [z,(tabs T hT).1] at b3;cases b3;cases b4
    have e0:Env0 P w K mg (hidT s1.heap H) callerA [] s1 H:=⟨rfl,hM,fun b o e=>of_hidT e,Nat.le_of_eq (hidT_size _ _),trivial,fun b hb=>absurd (show b ∈ ([]:List Addr) from hb) (by simp),hok,.of_eq hg⟩
    refine codeAny_mono ((F _ hKb (nsK hns) hBM).run callerA [] s1 H ⟨[.ref a],[]⟩ [.ref a] [.ref a] _ _ hr e0 (hbind s1 (.ref a)) (.cons rfl .nil) (hsp H hO hS)) fun r s' h=>?_
    cases r with
    | error e=>exact False.elim h
    | ok fl =>
      cases fl with
      | next=>exact False.elim h
      | brk=>exact False.elim h
      | cont=>exact False.elim h
      | ret u =>
        obtain ⟨v,H',os,bare,un,hok',r',q⟩:=h
        have q':v=.bl true:=q
        subst q'
        obtain rfl:u=Value.bool true:=r'
        refine ⟨rfl,⟨fun b o e=>?_,fun b o e=>un.there b o e (by simp)⟩,os,bare⟩
        cases q:H b with
        | none=>exact .inl (un.keep b o e q (by intro z;exact absurd (show b ∈ ([]:List Addr) from z) (by simp)) (by simp))
        | some u =>
          rcases hO.1 b with z | ⟨ob,xs,z⟩ | ⟨hT,z⟩
          · rw [q] at z;cases z
          · have z2:=un.frzs b ob _ z
            obtain ⟨e1,_⟩:=hok b _ z
            obtain ⟨e2,_⟩:=hok' b _ z2
            rw [e] at e1;cases e1
            exact .inl e2
          · obtain ⟨more,z2⟩:=un.tbls b _ z
            have e1:s1.heap.get? b=some { cls:=.none,data:=.fields #[] }:=hok b _ z
            have e2:s'.heap.get? b=some { cls:=.none,data:=.fields (#[] ++ more) }:=hok' b _ z2
            rw [e] at e1;cases e1
            exact .inr (.inl ⟨(tabs b hT).2.1,rfl,#[],more,rfl,e2⟩)
  have tabOk:∀ (H:Hp) (T:Addr),T ∈ ts->ObjOk P w H s1.heap T (.tbl #[]):=fun H T hT=>(tabs T hT).1
  cases hk:K.lookup a with
  | some o =>
    have e:=KX a o hk
    rw [ha] at e
    cases e
    refine core (fun b=>if b ∈ ts then some (.tbl #[]) else none) ⟨fun b=>?_,fun T hT=>if_pos hT⟩ (.inr ⟨_,vs.toArray,_,hk,rfl,rfl,rfl,by rw [List.size_toArray,lenV];exact hl,by simpa using rv⟩) (fun b u z=>?_) (fun b z=>?_) fun z=>absurd (if_neg aT) z
    · by_cases hb:b ∈ ts
      · exact .inr (.inr ⟨hb,if_pos hb⟩)
      · exact .inl (if_neg hb)
    · by_cases hb:b ∈ ts
      · have z':=(if_pos hb).symm.trans z
        cases z'
        exact tabOk _ b hb
      · have z':=(if_neg hb).symm.trans z
        cases z'
    · by_cases hb:b ∈ ts
      · exact .inr hb
      · exact absurd (if_neg hb) z
  | none =>
    refine core (fun b=>if b=a then some (.frz { cls:=.type "list",data:=.seq vs.toArray } (.lst (ns.map V.int))) else if b ∈ ts then some (.tbl #[]) else none) ⟨fun b=>?_,fun T hT=>?_⟩ (.inl (.inr ⟨{ cls:=.type "list",data:=.seq vs.toArray },if_pos rfl⟩)) (fun b u z=>?_) (fun b z=>?_) fun _=>hk
    · by_cases hb:b=a
      · exact .inr (.inl ⟨_,_,if_pos hb⟩)
      · by_cases hc:b ∈ ts
        · exact .inr (.inr ⟨hc,(if_neg hb).trans (if_pos hc)⟩)
        · exact .inl ((if_neg hb).trans (if_neg hc))
    · exact (if_neg (fun z=>aT (by rw [<- z];exact hT))).trans (if_pos hT)
    · by_cases hb:b=a
      · have z':=(if_pos hb).symm.trans z
        cases z'
        subst hb
        exact ⟨ha,by rw [List.length_map];exact hl,vs,_,rv,ha⟩
      · have z':=(if_neg hb).symm.trans z
        by_cases hc:b ∈ ts
        · have z2:=(if_pos hc).symm.trans z'
          cases z2
          exact tabOk _ b hc
        · have z2:=(if_neg hc).symm.trans z'
          cases z2
    · by_cases hb:b=a
      · exact .inl hb
      · by_cases hc:b ∈ ts
        · exact .inr hc
        · exact absurd ((if_neg hb).trans (if_neg hc)) z
theorem walk_ofT {l:PySem.W.OpenLaw} {n k:Nat} {q:Program} {loose:List Str} {XP:(Str->Option Value)->Heap->Prop} {YP:World->Heap->Prop} {d:DefRec} {K:Params->PySem.W.Frag} {sp:World->Sp} {x:Str} {ts:List Addr}
    (hn:l.most=some n) (hn2:n <= sizeLine) (hdf:d.params.defaults=[]) (hr:Room k callerA)
    (hY:∀ (w:World) (h:Heap),YP w h->(K w.params).In h) (hT:∀ (w:World) (h:Heap),YP w h->∀ T ∈ ts,h.get? T=some (PySem.W.tabObj #[]))
    (F:∀ (w:World) (mg:Str->Option Value) (fa:Addr) (h:Heap),(K w.params).In h->h.Ns mainGlobals mg->mg d.name=some (.ref fa) ->
      ∃ fd:FuncData,(∀ (s:Shared) (u:Value),BindsTo s fd ⟨[u],[]⟩ [(x,u)])/\(∀ T ∈ ts,(K w.params).lookup T=none/\∃ c,PySem.W.codeHdIn (K w.params) c T=true) /\
        ∀ base:Heap,(K w.params).In base->base.Ns mainGlobals mg->(∀ T ∈ ts,base.BuiltinsAt mg T)->FnOk l.prog w (K w.params) mg base CX0 k fa fd [x] (sp w))
    (hsp:∀ (w:World) (H:Hp) (a:Addr) (ns:List Int),ns.length <= n->OnlyT ts H->SqL (K w.params) H a (ns.map V.int)->sp w [.ref a] H (fun v _=>v=.bl true) fun _ _ _=>False) :
    PySem.W.WalkO q loose XP YP l.row.toRowW d [] (fun f vs=>PySem.call f vs):=by
  refine Att.attach_call hn hdf fun w s₀ s₁ mg mb fa o pm cd doc a vs ns G Y ho hd hcd hmg hobj hints hlen hg=>?_
  have KX:=hY w _ Y
  obtain ⟨fd,hb,ht,hF⟩:=F w mg fa _ KX G.T.g hmg
  refine law_callT KX G.T.g G.T.b G.T.builtins G.T.nolimit hg G.T.bmain hobj hints (Nat.le_trans hlen hn2) hr (fun T hm=>?_) hF hb (fun H hO hS=>hsp w H a ns hlen hO hS)
  obtain ⟨h1,c,h2⟩:=ht T hm
  have hP:=hT w _ Y T hm
  exact ⟨hP,((PySem.W.codeHd_of_K KX h2).tab hP).isCodeTable,h1⟩
end L2
namespace L2
open PySem PySem.Spec PyProof.Rows
structure CalX (P:Program) (w:World) (K:PySem.W.Frag) (mg:Str->Option Value) (base:Heap) (k:Nat) (x:Str) (ps:List Str) (sp:Sp):Prop where
  ex:∃ f fd,mg x=some (.ref f)/\PySem.W.keepIn K (.ref f)=true/\Binds K fd ps []/\FnOk P w K mg base (CX1 P w) k f fd ps sp
theorem CalX.up {P:Program} {w:World} {K:PySem.W.Frag} {mg:Str->Option Value} {base:Heap} {j k:Nat} {x:Str} {ps:List Str} {sp:Sp} (C:CalX P w K mg base j x ps sp) (h:j <= k):CalX P w K mg base k x ps sp :=
  let ⟨f,fd,a,b,c,d⟩:=C.ex;⟨f,fd,a,b,c,d.mono h⟩
def tCx (sp:Sp) (E:XK) (t:TA):TE:=fun σ H Q=>t σ H fun vs H1=>sp vs H1 Q E
section
variable {X:Cx} {k:Nat} {x:Str} {ps:List Str} {sp:Sp} {p pos:Pos} {e:Expr} {es:List Expr} {t:TA} {E:XK}
theorem pe_calx (C:CalX X.prog X.w X.K X.mg X.base k x ps sp) (hr:Room k X.A) (hg:Gl X x) (hx:Passes (CX1 X.prog X.w) X E) (ha:PA X (e :: es) t)
    (hdb:(x == ("__debug__":Str))=false:=by decide) (he:starEach (e :: es) X.env=(false,eval e X.env) :: starEach es X.env:=by rfl) (hpl:(backTo pos (starEach es X.env)).any (·.1)=false:=by rfl) :
    PE X (.Call (.Name x p) (e :: es) [] pos) (tCx sp E t):=by
  obtain ⟨f,fd,hm,hk,hb,F⟩:=C.ex
  have h:=pe_call (x:=x) (p:=p) (pos:=pos) F hr hg hm hk hb .nil hx ha hdb he hpl
  have e:tCall sp [] E t=tCx sp E t:=by
    funext σ H Q
    show t σ H (fun vs H1=>sp (vs ++ []) H1 Q E)=t σ H (fun vs H1=>sp vs H1 Q E)
    congr 1
    funext vs H1
    rw [List.append_nil]
  rw [<- e];exact h
end
structure Errs (K:PySem.W.Frag) (mg:Str->Option Value) (c:Nat->Addr) (B:Addr):Prop where
  e0:mg "NoUrn"=some (.ref (c 0))
  e1:mg "NoRule"=some (.ref (c 1))
  e2:mg "NoKind"=some (.ref (c 2))
  e3:mg "NoBall"=some (.ref (c 3))
  e4:mg "NoDraws"=some (.ref (c 4))
  e5:mg "NoNumber"=some (.ref (c 5))
  e6:mg "NotEven"=some (.ref (c 6))
  e7:mg "NoCounts"=some (.ref (c 7))
  e8:mg "NotAlike"=some (.ref (c 8))
  e9:mg "BadNote"=some (.ref (c 9))
  eb:mg "UrnError"=some (.ref B)
  xc:∀ i,i < 10->XC K (c i)
  xi:∀ i,i < 10->XI K (c i)
  sub:∀ i,i < 10->PySem.W.kitCls K (.ref (c i)) (.ref B)=some true
  bb:PySem.W.subIn K (.ref B) (.type "BaseException")=some true
  one:∀ i j,i < 10->j < 10->PySem.W.kitOne K (.ref (c i)) (.ref (c j))=some (decide (i=j))
  val:∀ i,i < 10->PySem.W.kitOne K (.ref (c i)) (.type "ValueError")=some true
def Sm (i:Int):Prop:=i.natAbs.log2 < 1920/\(toString i:Str).length <= 100
end L2
namespace L2
open PySem PySem.Spec PyProof.Rows
section
variable {X:Cx} {pins:List (Addr × Obj)} {σ:St} {H:Hp} {s:Shared}
end
section
variable {K:PySem.W.Frag} {σ0:St} {te:TE} {H:Hp} {F:List V->Hp->Prop}
theorem blk_list {a:Addr} {xs:List V} (hn:xs.length <= sizeLine) (Pv:Nat->List V->Hp->Prop) (h0:Pv 0 [] H) (hl:∀ i ys H,Pv i ys H->ys.length=i) (hq:∀ i ys H,i <= xs.length->Pv i ys H->SqL K H a xs) (hσ:σ0[0]?=some none)
    (hs:∀ i ys H x,xs[i]?=some x->Pv i ys H->te (σ0.set 0 (some x)) H fun y H'=>Pv (i + 1) (ys ++ [y]) H') (hd:∀ ys H,Pv xs.length ys H->F ys H):Blk (Itl K a) σ0 (gName 0) tTrue te H F:=by
  refine ⟨fun i m ys H=>m=xs.length - i/\i <= xs.length/\Pv i ys H,⟨xs.length,by simp,Nat.zero_le _,h0⟩,?_⟩
  rintro i m ys H2 ⟨rfl,hi,p⟩
  have q:=hq i ys H2 hi p
  refine ⟨by rw [hl i ys H2 p];omega,?_⟩
  by_cases hlt:i < xs.length
  · refine .inr ⟨⟨xs,xs[i],q,by simp [hlt]⟩,fun y H'=>Pv (i + 1) (ys ++ [y]) H',fun _=>False,fun y H' q=>⟨xs.length - (i + 1),by omega,rfl,hlt,q⟩,fun _ q=>q.elim,fun x H3 y=>?_⟩
    obtain ⟨rfl,y⟩:=y
    exact ⟨Wk.set (.inl hσ),hs i ys _ x (y xs q) p⟩
  · have e:i=xs.length:=by omega
    subst e
    exact .inl ⟨⟨xs,q,Nat.le_refl _⟩,hd ys H2 p⟩
end
end L2
namespace L2
open PySem PySem.Spec PyProof.Rows
section
variable {X:Cx} {es:List Expr} {te:TE} {t:TA}
end
end L2
namespace L2
open PySem PySem.Spec PyProof.Rows
end L2
namespace L2
open PySem PySem.Spec PyProof.Rows
structure Clo (X:Cx):Prop where
  inj:∀ x y c,X.env.cells.lookup x=some c->X.env.cells.lookup y=some c->x=y
  has:∀ x,(X.env.kindOf x=some .cell ∨ X.env.kindOf x=some .free)->∃ c,X.env.cells.lookup x=some c
theorem pe_clo {X:Cx} {e:Expr} {t:TE} (h:PE X e t):PE X e (fun σ H Q=>Clo X->t σ H Q):=fun pins s σ H Q I q=>h pins s σ H Q I (q ⟨I.ok.inj,I.ok.has⟩)
section
variable {X:Cx} {σ:L2.St} {H Hf:Hp} {scope:Scope}
theorem Clo.closed (Z:Clo X) (hf:okFree scope X.env=true):∀ x ∈ scope.names,x.2=.free->∃ c,X.env.cells.lookup x.1=some c:=fun x hx hk=>Z.has x.1 (okFree_get hf hx hk)
theorem Clo.sub (Z:Clo X) (hf:okFree scope X.env=true) {x:Str} {c:Addr} (h:(closL X.env scope.names []).lookup x=some c):X.env.cells.lookup x=some c:=by
  obtain ⟨y,hm,e⟩:=lookup_mem' h
  subst e
  rcases closL_mem (Z.closed hf) hm with q | q
  · cases q
  · exact q
theorem Clo.cel (Z:Clo X) (hf:okFree scope X.env=true) {b:Addr} (h:Cel (closL X.env scope.names []) b):Cel X.env.cells b:=let ⟨x,e⟩:=h;⟨x,Z.sub hf e⟩
theorem Clo.lsc (Z:Clo X) (hf:okFree scope X.env=true) (k1:scope.kind=.function) (k2:scope.isCoroutine=false) (k3:scope.isGenerator=false) (k4:∀ x ∈ scope.names,x.2 ≠ .cell):LamScope (closL X.env scope.names []) scope :=
  ⟨k1,k2,k3,k4,fun x y c h1 h2=>Z.inj x y c (Z.sub hf h1) (Z.sub hf h2),fun x h=>by
    obtain ⟨y,hm,e⟩:=lookup_mem' h
    subst e
    obtain ⟨c,hc⟩:=closL_has (env:=X.env) (acc:=[]) hm
    exact lookup_of_mem hc⟩
theorem Clo.celk (Z:Clo X) (hf:okFree scope X.env=true) (fz:FrzX X σ H Hf):CelK (closL X.env scope.names []) Hf:=fun x c h=>fz.cell x c (Z.sub hf h)
theorem Clo.st (Z:Clo X) (hf:okFree scope X.env=true) (fz:FrzX X σ H Hf) {N:List Str} {ix:List (Option Nat)} (hx:okIx scope X.N N ix=true):LamSt (closL X.env scope.names []) scope N Hf (pick ix σ):=by
  refine ⟨by unfold pick;rw [List.length_map];exact okIx_len hx,fun j x v h1 h2=>?_⟩
  obtain ⟨i,h3,h4⟩:=pick_get h2
  obtain ⟨y,e1,e2,e3⟩:=okIx_get hx h3
  rw [h1] at e1
  cases e1
  obtain ⟨y,hm,e⟩:=lookup_mem' e3
  subst e
  obtain ⟨c,oc,u,c1,c2,c3,c4⟩:=fz.val i y v e2 h4 (okFree_get hf hm rfl)
  obtain ⟨d,hd⟩:=closL_has (env:=X.env) (acc:=[]) hm
  obtain ⟨d',hd'⟩:=lookup_of_mem hd
  have z:=Z.sub hf hd'
  rw [c1] at z
  cases z
  exact ⟨e3,c,oc,u,hd',c2,c3,c4⟩
theorem FrzX.same (fz:FrzX X σ H Hf):Same H Hf:=fun b o e=>by rw [fz.out b (fun z=>by rw [fz.none b z] at e;cases e)];exact e
theorem FrzX.inner (fz:FrzX X σ H Hf) (Z:Clo X) (hf:okFree scope X.env=true):Same H (offC (closL X.env scope.names []) Hf):=fun b o e=>by
  have nc:¬ Cel X.env.cells b:=fun z=>by rw [fz.none b z] at e;cases e
  rw [offC_out fun z=>nc (Z.cel hf z)]
  exact fz.same b o e
theorem FrzX.back (fz:FrzX X σ H Hf) {H':Hp} (g:Same Hf H'):Same H (offC X.env.cells H'):=fun b o e=>by
  have nc:¬ Cel X.env.cells b:=fun z=>by rw [fz.none b z] at e;cases e
  rw [offC_out nc]
  exact g b o (fz.same b o e)
end
theorem on_same {cl:List (Str × Addr)} {H H':Hp} (g:Same (offC cl H) H'):Same H (onC cl H H'):=fun b o e=>by
  by_cases z:Cel cl b
  · rw [onC_in z];exact e
  · rw [onC_out z];exact g b o (by rw [offC_out z];exact e)
def spLam (P:Program) (w:World) (K:PySem.W.Frag) (mg:Str->Option Value) (base:Heap) (k:Nat) (f c:Addr) (name qual:Str) (params:Arguments) (body:Expr) (scope:Scope) (cl:List (Str × Addr)) (pm ct:Value) (N:List Str):Sp:=fun vs H Q E =>
  vs=[]/\H f=some (KN (PySem.W.kla_obj name qual params body scope cl pm c ct))/\CodeK qual H c/\CelK cl H/\∃ σ,LamSt cl scope N H σ /\
    ∀ (A:Around) (outer:List Env) (s:Shared),Room k (A.deeper (PySem.W.envX qual scope s.heap.objs.size f (.ref c) cl))->∃ t,PE (cxLam P w K mg base N qual scope f (.ref c) cl A outer s (offC cl H) (fun C d H'=>E C d (onC cl H H'))) body t/\t σ (offC cl H) (fun v H'=>Q v (onC cl H H'))
theorem CTab.kp {q:Str} {T l:Addr} {H H':Hp} {xs:List V} (h:CTab q T H) (hl:H l=some (.lst xs)) (k:Kp l H H'):CTab q T H':=by
  obtain ⟨ps,h1,h2,h3⟩:=h
  refine ⟨ps,k T _ (fun e=>by rw [e,hl] at h1;cases h1) h1,h2,fun pos v e=>?_⟩
  obtain ⟨c,oc,vs,t,e1,e2,e3,e4⟩:=h3 pos v e
  exact ⟨c,oc,vs,t,e1,k c _ (fun z=>by rw [z,hl] at e2;cases e2) e2,e3,e4⟩
theorem CTab.same {q:Str} {T:Addr} {H H':Hp} (h:CTab q T H) (g:Same H H'):CTab q T H':=by
  obtain ⟨ps,h1,h2,h3⟩:=h
  refine ⟨ps,g _ _ h1,h2,fun pos v e=>?_⟩
  obtain ⟨c,oc,vs,t,e1,e2,e3,e4⟩:=h3 pos v e
  exact ⟨c,oc,vs,t,e1,g _ _ e2,e3,e4⟩
theorem pe_callR {X:Cx} {k:Nat} {ps:List Str} {sp:Sp} {x:Str} {p pos:Pos} {e:Expr} {es:List Expr} {t:TA} (C:Cal X.prog X.w X.K X.mg X.base k x ps sp) (hr:Room k X.A) (hg:Gl X x) (ha:PA X (e :: es) t)
    (hfn:∀ y,X.fn y=true:=by intro y;rfl) (hdb:(x == ("__debug__":Str))=false:=by decide) (he:starEach (e :: es) X.env=(false,eval e X.env) :: starEach es X.env:=by rfl) (hpl:(backTo pos (starEach es X.env)).any (·.1)=false:=by rfl) :
    PE X (.Call (.Name x p) (e :: es) [] pos) (fun σ H Q=>Clo X->tCallF X sp t σ H Q):=by
  obtain ⟨f,fd,hm,hk,hb,F⟩:=C.ex
  exact pe_clo (pe_callF F hr hg hm hk hb hfn ha hdb he hpl)
end L2
namespace L2
open PySem PySem.Spec PyProof.Rows
def isSeqD:PyData->Bool
  | .list _=>true
  | .tuple _=>true
  | _=>false
theorem kit_seq (K:PySem.W.Frag) (d:PyData):PySem.W.kitAny K (.type (tyN d)) [.type "list",.type "tuple"]=some (isSeqD d):=by cases d <;> kernel_rfl
section
variable {X:Cx}
end
end L2
namespace L2
open PySem PySem.Spec PyProof.Rows
section
variable {X:Cx} {scope:Scope} {N:List Str} {ix:List (Option Nat)} {elt target iter:Expr} {ifs:List Expr} {pos:Pos} {wi:TI} {g:TG} {tc:TT}
end
end L2
namespace L2
open PySem PySem.Spec PyProof.Rows
section
variable {X:Cx}
end
end L2
namespace L2
open PySem PySem.Spec PyProof.Rows
end L2
namespace L2
open PySem PySem.Spec PyProof.Rows
section
variable (P:Program) (w:World)
end
section
variable {P:Program} {w:World} {H H':Hp} {h h':Heap} {a:Addr} {o:HO}
end
section
variable {P:Program} {w:World} {H:Hp} {h h':Heap} {x e:Addr} {o':HO}
end
section
variable {fs fs' ex ex':List Addr} {H H1 H2:Hp} {h h1 h2 h':Heap} {a x e:Addr} {o:HO}
end
end L2
namespace L2
open PySem PySem.Spec PyProof.Rows
section
variable {X:Cx} {pins:List (Addr × Obj)} {σ:List (Option V)} {H H':Hp} {s:Shared} {h':Heap}
end
end L2
namespace L2
open PySem PySem.Spec PyProof.Rows
section
variable {X:Cx}
variable {a b:Expr} {ta tb:TE} {pos:Pos}
variable {tA tB':TT} {rest:List Expr}
end
end L2
namespace L2
open PySem PySem.Spec PyProof.Rows
section
variable {X:Cx} {pins:List (Addr × Obj)} {σ:St} {H:Hp} {s:Shared} {a:Addr} {xs ys:List V}
end
section
variable {X:Cx} {pins:List (Addr × Obj)} {σ:St} {H:Hp} {s:Shared} {E:Value->Shared->Prop}
end
section
variable {X:Cx} {st:Stmt} {rest:List Stmt} {t u:TS} {e:Expr} {te:TE} {pos:Pos}
end
section
variable {X:Cx} {pos:Pos}
end
section
variable {X:Cx} {pos:Pos}
end
end L2
namespace L2
open PySem PySem.Spec PyProof.Rows
section
variable {X:Cx} {tg:Expr}
end
end L2
namespace L2
open PySem PySem.Spec PyProof.Rows
section
variable {X:Cx} {a b c:Expr} {ta tb tc:TE} {pos:Pos}
end
section
variable {X:Cx} {a b c:Expr} {ta tb tc:TE} {pos:Pos}
end
end L2
namespace L2
open PySem PySem.Spec PyProof.Rows
section
variable {prog:Program} {w:World} {A:Around} {E:Value->Shared->Prop} {s:Shared} {K:PySem.W.Frag} {x dx C f:Addr} {mA:Str->Option Value} {name:Str} {v:Value}
end
section
variable {P:Program} {w:World} {H H':Hp} {h h':Heap} {a C dx:Addr} {fs fs':List (Str × V)}
end
section
variable {X:Cx} {pins:List (Addr × Obj)} {σ:St} {H:Hp} {s:Shared} {a C dx:Addr} {fs:List (Str × V)} {f:Str} {v:V} {A:Around} {E:Value->Shared->Prop}
end
section
variable {X:Cx} {o e value:Expr} {f:Str} {pos pos' tpos:Pos} {ta tv:TE}
end
section
variable {X:Cx} {pins:List (Addr × Obj)} {σ:St} {H:Hp} {s:Shared} {A:Around} {E:Value->Shared->Prop} {Q:Value->Shared->Prop} {c:Value} {b:Bool}
end
end L2
namespace L2
open PySem PySem.Spec PyProof.Rows
section
variable {X:Cx} {e:Expr} {es:List Expr} {te:TE} {t:TA} {pos:Pos}
end
section
variable {X:Cx} {pins:List (Addr × Obj)} {σ:St} {H:Hp} {s s':Shared}
end
section
variable {X:Cx} {CX:CXT} {k:Nat} {f C:Addr} {fd:FuncData} {ps:List Str} {sp:Sp} {dvs:List V} {ds:List Value} {E:XK} {x m:Str} {p pos apos:Pos} {e o:Expr} {es:List Expr} {ta:TE} {t:TA}
end
section
variable {X:Cx} {CX:CXT} {k:Nat} {f C:Addr} {fd:FuncData} {ps ks:List Str} {sp:Sp} {E:XK} {x m:Str} {p pos apos kpos:Pos} {e o:Expr} {es:List Expr} {kws:List Keyword} {te ta:TE} {t tk:TA} {nm:Option Str}
variable {g:List Value->List Value->List Value} {gV:List V->List V->List V}
end
end L2
namespace L2
open PySem PySem.Spec PyProof.Rows
section
variable {X:Cx} {x:Str} {p pos:Pos} {e:Expr} {es:List Expr} {t:TA} {id T:String} {r:List V->Hp->VK->Prop}
end
end L2
namespace L2
open PySem PySem.Spec PyProof.Rows
section
variable {κ:Type} [DecidableEq κ]
def valV (kvs:List (κ × V)) (k:κ):Option V:=(kvs.find? fun kv=>decide (kv.1=k)).map (·.2)
def putK (kvs:List (κ × V)) (k:κ) (v:V):List (κ × V) :=
  if (kvs.any fun kv=>decide (kv.1=k))=true then kvs.map (fun kv=>if kv.1=k then (kv.1,v) else kv) else kvs ++ [(k,v)]
theorem valV_pos {p:κ × V} {r:List (κ × V)} {k:κ} (e:p.1=k):valV (p :: r) k=some p.2:=by simp [valV,List.find?_cons,e]
theorem valV_neg {p:κ × V} {r:List (κ × V)} {k:κ} (e:¬ p.1=k):valV (p :: r) k=valV r k:=by simp [valV,List.find?_cons,e]
theorem valV_any (k:κ):∀ kvs:List (κ × V),(kvs.any fun kv=>decide (kv.1=k))=(valV kvs k).isSome
  | []=>rfl
  | p :: r=>by
    rw [List.any_cons]
    by_cases e:p.1=k
    · simp only [valV_pos e,decide_eq_true e,Bool.true_or,Option.isSome_some]
    · rw [valV_neg e,decide_eq_false e,Bool.false_or];exact valV_any k r
theorem length_putK (kvs:List (κ × V)) (k:κ) (v:V):(putK kvs k v).length <= kvs.length + 1:=by
  unfold putK
  split
  · rw [List.length_map];omega
  · rw [List.length_append,List.length_cons,List.length_nil];omega
theorem putK_new {kvs:List (κ × V)} {k:κ} (v:V) (h:valV kvs k=none):putK kvs k v=kvs ++ [(k,v)]:=by
  unfold putK
  rw [valV_any,h]
  exact if_neg (by decide)
theorem RelO.getD {o:Option V} {u:Option Value} {d:V} {d':Value} (r:RelO o u) (rd:RelV d d'):RelV (o.getD d) (u.getD d'):=by
  cases o with
  | none=>cases u with
    | none=>exact rd
    | some _=>exact (show False from r).elim
  | some _=>cases u with
    | none=>exact (show False from r).elim
    | some _=>exact r
theorem KV.val {kvs:List (κ × V)} {vs:List (κ × Value)} (r:KV kvs vs) (k:κ):RelO (valV kvs k) (valueAt vs k):=by
  unfold KV at r
  induction r with
  | nil=>exact True.intro
  | @cons p q ps qs h t ih =>
    obtain ⟨h1,h2⟩:=h
    by_cases e:p.1=k
    · have e':q.1=k:=h1.symm.trans e
      have b:valueAt (q :: qs) k=some q.2:=by simp [valueAt,List.find?_cons,e']
      rw [valV_pos e,b];exact h2
    · have e':¬ q.1=k:=fun z=>e (h1.trans z)
      have b:valueAt (q :: qs) k=valueAt qs k:=by simp [valueAt,List.find?_cons,e']
      rw [valV_neg e,b];exact ih
theorem KV.any {kvs:List (κ × V)} {vs:List (κ × Value)} (r:KV kvs vs) (k:κ):(kvs.any fun kv=>decide (kv.1=k))=vs.any fun kv=>decide (kv.1=k):=by
  unfold KV at r
  induction r with
  | nil=>rfl
  | cons h t ih=>rw [List.any_cons,List.any_cons,ih,h.1]
theorem KV.repl {kvs:List (κ × V)} {vs:List (κ × Value)} (r:KV kvs vs) (k:κ) {y:V} {u:Value} (ry:RelV y u) :
    KV (kvs.map fun kv=>if kv.1=k then (kv.1,y) else kv) (vs.map fun kv=>if kv.1=k then (kv.1,u) else kv):=by
  unfold KV at r ⊢
  induction r with
  | nil=>exact .nil
  | @cons p q ps qs h t ih =>
    rw [List.map_cons,List.map_cons]
    refine .cons ?_ ih
    obtain ⟨h1,h2⟩:=h
    by_cases e:p.1=k
    · rw [if_pos e,if_pos (h1.symm.trans e)];exact ⟨h1,ry⟩
    · rw [if_neg e,if_neg (fun z=>e (h1.trans z))];exact ⟨h1,h2⟩
theorem KV.put {kvs:List (κ × V)} {vs:List (κ × Value)} (r:KV kvs vs) (k:κ) {y:V} {u:Value} (ry:RelV y u):KV (putK kvs k y) (stored vs k u):=by
  unfold putK stored
  rw [r.any k]
  by_cases e:(vs.any fun kv=>decide (kv.1=k))=true
  · rw [if_pos e,if_pos e];exact r.repl k ry
  · rw [if_neg e,if_neg e];exact Paired.snoc r ⟨rfl,ry⟩
theorem KV.length {kvs:List (κ × V)} {vs:List (κ × Value)} (r:KV kvs vs):kvs.length=vs.length:=Paired.length r
end
theorem kV_is {P:Program} {w:World} {k:Key} {u:Value} (r:RelV (kV k) u):(mixKind P w).is k u=true:=by
  cases k with
  | inl i=>obtain ⟨t,e⟩:=(show ∃ t,u=Value.int i t from r);subst e;exact mixKind_int P w i t
  | inr x=>obtain ⟨t,e⟩:=(show ∃ t,u=Value.str x t from r);subst e;exact mixKind_str P w x t
theorem items_are {P:Program} {w:World}:∀ {ks:List Key} {us:List Value},Vals (ks.map kV) us->ItemsAre (mixKind P w) ks us
  | [],_,r=>by rw [List.map_nil] at r;cases r;exact .nil
  | k :: ks,_,r=>by
    rw [List.map_cons] at r
    cases r with
    | cons h t=>exact .cons (kV_is h) (items_are t)
abbrev KT (H:Hp):List (List Key × V)->List (List Key × Addr × Value)->Prop:=Paired fun p q=>p.1=q.1/\H q.2.1=some (.tup (p.1.map kV))/\RelV p.2 q.2.2
theorem KT.val {H:Hp} {kvs:List (List Key × V)} {xs:List (List Key × Addr × Value)} (r:KT H kvs xs) (k:List Key):RelO (valV kvs k) ((atKey xs k).map (·.2)):=by
  induction r with
  | nil=>exact True.intro
  | @cons p q ps qs h t ih =>
    obtain ⟨h1,_,h2⟩:=h
    by_cases e:p.1=k
    · have e':q.1=k:=h1.symm.trans e
      have b:atKey (q :: qs) k=some q.2:=by simp [atKey,List.find?_cons,e']
      rw [valV_pos e,b];exact h2
    · have e':¬ q.1=k:=fun z=>e (h1.trans z)
      have b:atKey (q :: qs) k=atKey qs k:=by simp [atKey,List.find?_cons,e']
      rw [valV_neg e,b];exact ih
section
variable {P:Program} {w:World} {H:Hp} {h:Heap} {a:Addr}
theorem rd_of {u:HO} (ok:HOk P w H h) (e:Rd H a u):ObjOk P w H h a u:=e.ok ok
theorem dk_rd {kvs:List (Key × V)} (ok:HOk P w H h) (e:Rd H a (.dK kvs)):kvs.length <= sizeLine/\(a == sysModules)=false/\∃ vs,KV kvs vs/\h.DictOf (mixKind P w) a vs :=
  show ObjOk P w H h a (.dK kvs) from rd_of ok e
theorem dk_of {kvs:List (Key × V)} (ok:HOk P w H h) (e:H a=some (.dK kvs)):kvs.length <= sizeLine/\(a == sysModules)=false/\∃ vs,KV kvs vs/\h.DictOf (mixKind P w) a vs:=dk_rd ok (.inl e)
theorem key_of {ks:List Key} (ok:HOk P w H h) (e:H a=some (.tup (ks.map kV))):(tupleKind (mixKind P w)).is h ks a:=by
  obtain ⟨_,its,r,o,h1,h2,n,h3⟩:=(show ObjOk P w H h a (.tup (ks.map kV)) from ok a _ e)
  exact ⟨o,its.toArray,n,h1,h2,h3,by simpa using items_are r⟩
theorem dt_rd {kvs:List (List Key × V)} (ok:HOk P w H h) (e:Rd H a (.dT kvs)):kvs.length <= sizeLine/\(a == sysModules)=false /\
    ∃ xs,KT H kvs xs/\h.DictOfH (tupleKind (mixKind P w)) a xs:=by
  obtain ⟨z,y,xs,r,o,es,ep,h1,h2,h3,h4,h5⟩:=(show ObjOk P w H h a (.dT kvs) from rd_of ok e)
  refine ⟨z,y,xs,r,o,es,ep,h1,h2,h3,h4,fun x hx=>?_,h5⟩
  have all:∀ {l:List (List Key × V)} {m:List (List Key × Addr × Value)},KT H l m->∀ x ∈ m,(tupleKind (mixKind P w)).is h x.1 x.2.1:=by
    intro l m q
    induction q with
    | nil=>intro x hx;exact nomatch hx
    | @cons p q ps qs hq t ih =>
      intro x hx
      rcases List.mem_cons.mp hx with e | hx
      · subst e
        exact key_of ok (by rw [<- hq.1];exact hq.2.1)
      · exact ih x hx
  exact all r x hx
end
def DGet (H:Hp) (a:Addr) (y:V) (r:Option V):Prop :=
  (∃ kvs k,Rd H a (.dK kvs)/\y=kV k/\r=valV kvs k) ∨ ∃ kvs k b,Rd H a (.dT kvs)/\y=.ref b/\H b=some (.tup (k.map kV))/\r=valV kvs k
theorem DGet.k {H:Hp} {a:Addr} {kvs:List (Key × V)} {k:Key} (e:H a=some (.dK kvs)):DGet H a (kV k) (valV kvs k):=.inl ⟨kvs,k,.inl e,rfl,rfl⟩
section
variable {X:Cx} {pins:List (Addr × Obj)} {σ:St} {H:Hp} {s:Shared} {a:Addr} {y v:V} {u r:Value} {o:Option V} {A:Around} {E:Value->Shared->Prop}
theorem Inv.big (I:Inv X pins σ H s):sysModules < s.heap.objs.size:=by
  have h:mainGlobals < s.heap.objs.size:=(I.mod.glob.keeps I.bk).lt
  exact Nat.lt_trans (by decide) h
theorem d_write {h':Heap} {t':Nat} {ob:HO} (I:Inv X pins σ H s) (mu:Mut (H a)) (hs:Heap.SameBut a s.heap h') (he:∃ q,h'.get? a=some q) (new:ObjOk X.prog X.w (upd H a ob) h' a ob) :
    Inv X pins σ (upd H a ob) { s with heap:=h',toks:=t' } :=
  I.write (x:=a) (e:=a) mu (.inl rfl) (fun b q hb z=>(hs.2 b hb).trans z) he new
theorem dk_new {P:Program} {w:World} {H':Hp} {h':Heap} {kvs:List (Key × V)} {vs:List (Key × Value)} (z:kvs.length <= sizeLine) (hd:(a == sysModules)=false) (rel:KV kvs vs) (dd:h'.DictOf (mixKind P w) a vs) :
    ObjOk P w H' h' a (.dK kvs):=⟨z,hd,vs,rel,dd⟩
end
section
variable {X:Cx} {pins:List (Addr × Obj)} {σ:St} {H:Hp} {s:Shared} {a:Addr} {kvs:List (Key × V)} {k:Key} {u:Value} {A:Around} {E:Value->Shared->Prop}
end
section
variable {X:Cx} {o i e value:Expr} {pos pos' tpos:Pos} {td ty tv:TE}
end
theorem dk_empty {P:Program} {w:World} {H:Hp} (h:Heap) (hb:sysModules < h.objs.size):ObjOk P w H (h.push { cls:=.type "dict",data:=.dict #[] }) h.objs.size (.dK []) :=
  ⟨Nat.zero_le _,beq_eq_false_iff_ne.mpr (Ne.symm (Nat.ne_of_lt hb)),[],.nil,Heap.DictOf.new h⟩
def tDNewK:TE:=fun _ H Q=>∀ p,H p=none->Q (.ref p) (upd H p (.dK []))
section
variable {X:Cx} {pos:Pos}
theorem pe_dnewK:PE X (.Dict [] [] pos) tDNewK:=fun pins s σ H Q I h =>
  wpAny_Dict_empty ⟨.ref s.heap.objs.size,_,I.laid (a:=s.heap.objs.size) (o:=.dK []) (t':=s.toks) (fun _ _ q=>Heap.get?_push_of_some _ q) (Nat.le_refl _) (dk_empty s.heap I.big),rfl,h _ (I.hok.fresh (Nat.le_refl _))⟩
end
def mergeK (kvs more:List (Key × V)):List (Key × V):=more.foldl (fun acc kv=>putK acc kv.1 kv.2) kvs
theorem length_mergeK:∀ (more kvs:List (Key × V)),(mergeK kvs more).length <= kvs.length + more.length
  | [],kvs=>by show kvs.length <= kvs.length + 0;omega
  | p :: r,kvs=>by
    have h1:=length_mergeK r (putK kvs p.1 p.2)
    have h2:=length_putK kvs p.1 p.2
    show (mergeK (putK kvs p.1 p.2) r).length <= _
    rw [List.length_cons];omega
structure M1 (X:Cx) (o:Expr) (m:Str) (apos:Pos) (e:Expr) (cpos:Pos):Prop where
  base:attributeBase o m X.env (eval o X.env)=eval o X.env
  few:((backTo cpos (starEach [e] X.env)).all (fun x=>!x.1) && (backToKw cpos (keywordEach [] X.env)).all (fun x=>x.1.isSome)
    && decide (([e]:List Expr).length + ([]:List Keyword).length + (if ([]:List Keyword).isEmpty then 0 else 1) < 30))=true
  line:(apos.endLine == cpos.line)=true
  trees:backTo cpos (starEach [e] X.env)=[(false,eval e X.env)]
structure M2 (X:Cx) (o:Expr) (m:Str) (apos:Pos) (e f:Expr) (cpos:Pos):Prop where
  base:attributeBase o m X.env (eval o X.env)=eval o X.env
  few:((backTo cpos (starEach [e,f] X.env)).all (fun x=>!x.1) && (backToKw cpos (keywordEach [] X.env)).all (fun x=>x.1.isSome)
    && decide (([e,f]:List Expr).length + ([]:List Keyword).length + (if ([]:List Keyword).isEmpty then 0 else 1) < 30))=true
  line:(apos.endLine == cpos.line)=true
  trees:backTo cpos (starEach [e,f] X.env)=[(false,eval e X.env),(false,eval f X.env)]
def IsD (H:Hp) (a:Addr):Prop:=(∃ kvs,Rd H a (.dK kvs)) ∨ ∃ kvs,Rd H a (.dT kvs)
theorem isD_at {X:Cx} {pins:List (Addr × Obj)} {σ:St} {H:Hp} {s:Shared} {a:Addr} (I:Inv X pins σ H s) (d:IsD H a) :
    s.TypeIs (.ref a) "dict"/\(∀ b,Value.ref a=.ref b->∃ ob,s.heap.get? b=some ob/\ob.dict=none)/\(a == sysModules)=false:=by
  rcases d with ⟨kvs,e⟩ | ⟨kvs,e⟩
  · obtain ⟨_,hd,vs,_,dd⟩:=dk_rd I.hok e
    refine ⟨dd.typeIs,fun b q=>?_,hd⟩
    cases q
    obtain ⟨ob,_,_,h1,h2,_⟩:=dd
    exact ⟨ob,h1,h2.2.1⟩
  · obtain ⟨_,hd,xs,_,dd⟩:=dt_rd I.hok e
    refine ⟨dd.typeIs,fun b q=>?_,hd⟩
    cases q
    obtain ⟨ob,_,_,h1,h2,_⟩:=dd
    exact ⟨ob,h1,h2.2.1⟩
section
variable {X:Cx} {pins:List (Addr × Obj)} {σ:St} {H:Hp} {s:Shared} {a:Addr} {y d:V} {u r:Value} {o:Option V} {A:Around} {E:Value->Shared->Prop}
theorem d_get1 {Q:Value->Shared->Prop} (hu:A.units + 1 < cLine) (I:Inv X pins σ H s) (g:DGet H a y o) (ry:RelV y u) (h:∀ w' s',Inv X pins σ H s'->RelV (o.getD .non) w'->Q w' s') :
    wpAny (model X.prog X.w) A (call (.builtin "dict.get") [.ref a,u]) Q E s:=by
  rcases g with ⟨kvs,k,e,ey,l⟩ | ⟨kvs,k,b,e,ey,eb,l⟩
  · subst ey
    obtain ⟨z,hd,vs,rel,dd⟩:=dk_rd I.hok e
    refine call_meetsIn PySem.F.slot_dict_get dd.typeIs PySem.F.entry_dict_get (PySem.F.args_dict_get_2 _ _) (meets_dict_get (mixKind X.prog X.w) a (kV_is ry) hd) ⟨_,dd.mapOf,h _ _ (I.tok _) ?_⟩
    rw [l]
    exact (rel.val k).getD rfl
  · subst ey
    cases (show u=Value.ref b from ry)
    obtain ⟨z,hd,xs,rel,dd⟩:=dt_rd I.hok e
    refine call_meetsIn PySem.F.slot_dict_get dd.typeIs PySem.F.entry_dict_get (PySem.F.args_dict_get_2 _ _) (meetsH_dict_get (tupleKind (mixKind X.prog X.w)) a b hd) ⟨tupleKind_room_in1 hu,k,xs,key_of I.hok eb,dd,h _ _ (I.tok _) ?_⟩
    rw [l]
    exact (rel.val k).getD rfl
theorem d_get2 {Q:Value->Shared->Prop} (hu:A.units + 1 < cLine) (I:Inv X pins σ H s) (g:DGet H a y o) (ry:RelV y u) (rd:RelV d r) (h:∀ w' s',Inv X pins σ H s'->RelV (o.getD d) w'->Q w' s') :
    wpAny (model X.prog X.w) A (call (.builtin "dict.get") [.ref a,u,r]) Q E s:=by
  rcases g with ⟨kvs,k,e,ey,l⟩ | ⟨kvs,k,b,e,ey,eb,l⟩
  · subst ey
    obtain ⟨z,hd,vs,rel,dd⟩:=dk_rd I.hok e
    refine call_meetsIn PySem.F.slot_dict_get dd.typeIs PySem.F.entry_dict_get (PySem.F.args_dict_get_3 _ _ _) (meets_dict_get_default (mixKind X.prog X.w) a (kV_is ry) hd r) ⟨_,dd.mapOf,h _ _ (I.tok _) ?_⟩
    rw [l]
    exact (rel.val k).getD rd
  · subst ey
    cases (show u=Value.ref b from ry)
    obtain ⟨z,hd,xs,rel,dd⟩:=dt_rd I.hok e
    refine call_meetsIn PySem.F.slot_dict_get dd.typeIs PySem.F.entry_dict_get (PySem.F.args_dict_get_3 _ _ _) (meetsH_dict_get_default (tupleKind (mixKind X.prog X.w)) a b hd r) ⟨tupleKind_room_in1 hu,k,xs,key_of I.hok eb,dd,h _ _ (I.tok _) ?_⟩
    rw [l]
    exact (rel.val k).getD rd
end
def tDGet1 (td ty:TE):TE:=fun σ H Q=>td σ H fun x H1=>∃ a,x=.ref a/\IsD H1 a/\ty σ H1 fun y H2=>∃ o,DGet H2 a y o/\Q (o.getD .non) H2
def tDGet2 (td ty tx:TE):TE:=fun σ H Q=>td σ H fun x H1=>∃ a,x=.ref a/\IsD H1 a/\ty σ H1 fun y H2=>tx σ H2 fun z H3=>∃ o,DGet H3 a y o/\Q (o.getD z) H3
section
variable {X:Cx} {o e f:Expr} {apos cpos:Pos} {td ty tx:TE}
theorem pe_dget1 (hu:X.A.units + 1 < cLine) (ho:PE X o td) (he:PE X e ty) (m:M1 X o "get" apos e cpos):PE X (.Call (.Attribute o "get" apos) [e] [] cpos) (tDGet1 td ty):=by
  intro pins s σ H Q I h
  refine wpAny_Call_method m.base m.few m.line PySem.F.plainAttrs_dict PySem.F.slot_dict_get PySem.F.type_dict_get (thn (ho pins s σ H _ I h) fun u s1 ⟨x,H1,I1,rx,a,ex,d,q1⟩=>?_)
  subst ex
  obtain rfl:u=Value.ref a:=rx
  obtain ⟨t1,t2,_⟩:=isD_at I1 d
  refine ⟨t1,t2,?_⟩
  rw [m.trees]
  refine Calls.callWith_builtin rfl (Calls.evalArgs_plain (Calls.spliced_cons (thn (he pins s1 σ H1 _ I1 q1) fun iv s2 ⟨y,H2,I2,ry,ov,g,q2⟩=>Calls.spliced_nil ?_)))
  exact d_get1 hu I2 g ry fun w' s3 I3 rw'=>⟨_,H2,I3,rw',q2⟩
theorem pe_dget2 (hu:X.A.units + 1 < cLine) (ho:PE X o td) (he:PE X e ty) (hf:PE X f tx) (m:M2 X o "get" apos e f cpos):PE X (.Call (.Attribute o "get" apos) [e,f] [] cpos) (tDGet2 td ty tx):=by
  intro pins s σ H Q I h
  refine wpAny_Call_method m.base m.few m.line PySem.F.plainAttrs_dict PySem.F.slot_dict_get PySem.F.type_dict_get (thn (ho pins s σ H _ I h) fun u s1 ⟨x,H1,I1,rx,a,ex,d,q1⟩=>?_)
  subst ex
  obtain rfl:u=Value.ref a:=rx
  obtain ⟨t1,t2,_⟩:=isD_at I1 d
  refine ⟨t1,t2,?_⟩
  rw [m.trees]
  refine Calls.callWith_builtin rfl (Calls.evalArgs_plain (Calls.spliced_cons (thn (he pins s1 σ H1 _ I1 q1) fun iv s2 ⟨y,H2,I2,ry,q2⟩ =>
    Calls.spliced_cons (thn (hf pins s2 σ H2 _ I2 q2) fun fv s3 ⟨z,H3,I3,rz,ov,g,q3⟩=>Calls.spliced_nil ?_))))
  exact d_get2 hu I3 g ry rz fun w' s4 I4 rw'=>⟨_,H3,I4,rw',q3⟩
end
section
variable {X:Cx} {pins:List (Addr × Obj)} {σ:St} {H:Hp} {s:Shared} {a:Addr} {kvs:List (Key × V)} {A:Around} {E:Value->Shared->Prop}
end
section
variable {X:Cx} {pins:List (Addr × Obj)} {σ:St} {H:Hp} {s:Shared} {a:Addr} {y:V} {u:Value} {A:Around} {E:Value->Shared->Prop}
end
end L2
namespace Att
open PySem PySem.W PySem.Calls PyProof.Rows
section
variable {prog:Program} {w:World} {A:Around} {E:Value->Shared->Prop} {s:Shared} {K:Frag}
end
end Att
namespace L2
open PySem PySem.Spec PyProof.Rows
end L2
namespace L2
open PySem PySem.Spec PyProof.Rows
end L2
namespace L2
open PySem PySem.Spec PyProof.Rows
section
variable {P:Program} {w:World} {K:PySem.W.Frag} {mg:Str->Option Value} {base:Heap}
end
section
variable {X:Cx}
end
section
variable {κ:Type} [DecidableEq κ]
end
end L2
namespace L2
open PySem PySem.Spec PyProof.Rows
section
variable {prog:Program} {w:World} {A:Around} {E:Value->Shared->Prop} {s:Shared}
structure EnT (h:Heap) (e it t:Addr) (k:Nat):Prop where
  en:∃ old,IsEnum h e it k old
  it:h.IsTupleIter it t k
end
section
variable {X:Cx} {pins:List (Addr × Obj)} {σ:St} {H:Hp} {s:Shared}
end
end L2
namespace L2
open PySem PySem.Spec PyProof.Rows
section
variable {prog:Program} {w:World} {A:Around} {E:Value->Shared->Prop} {s:Shared}
end
section
variable {X:Cx} {pins:List (Addr × Obj)} {σ:St} {H:Hp} {s:Shared}
end
end L2
namespace L2
open PySem PySem.Spec PyProof.Rows
section
variable {X:Cx}
end
section
end
end L2
namespace Mt
def fr (q:Rat):List Int:=[q.num,(q.den:Int)]
structure Bd (n:Nat) (q:Rat):Prop where
  num:q.num.natAbs <= 2 ^ n
  den:q.den <= 2 ^ n
structure Urn (n m:Nat) (ns:List Int):Prop where
  len:ns.length=n
  nn:∀ x ∈ ns,0 <= x/\x <= m
  pos:0 < ns.sum
structure Row (n m:Nat) (r:List Int):Prop where
  len:r.length=n
  nn:∀ x ∈ r,0 <= x/\x <= m
structure Rul (n m:Nat) (rs:List (List Int)):Prop where
  len:rs.length=n
  row:∀ r ∈ rs,Row n m r
theorem sum_nonneg:∀ {l:List Int},(∀ x ∈ l,0 <= x)->0 <= l.sum
  | [],_=>by simp
  | a :: l,h=>by
    rw [List.sum_cons]
    have h1:=h a List.mem_cons_self
    have h2:=sum_nonneg fun x hx=>h x (List.mem_cons_of_mem _ hx)
    omega
end Mt
namespace Md
open PySem PySem.Spec L2 Mt
end Md
namespace L2
open PySem PySem.Spec PyProof.Rows
section
variable {prog:Program} {w:World} {A:Around} {E:Value->Shared->Prop} {s:Shared}
structure ZipL (h:Heap) (z TI TO i1 i2 t1 t2:Addr) (k:Nat):Prop where
  zz:IsZip h z TI TO .none
  ti:IsPair h TI (.ref i1) (.ref i2)
  tO:∃ a b,IsPair h TO a b
  it1:h.IsListIter i1 t1 k
  it2:h.IsTupleIter i2 t2 k
abbrev lit (t:Addr):Obj:={ cls:=.type "list_iterator",data:=.fields #[.ref t,.int 0 0] }
end
section
variable {X:Cx} {pins:List (Addr × Obj)} {σ:St} {H:Hp} {s:Shared}
end
end L2
namespace L2
open PySem PySem.Spec PyProof.Rows
section
variable {X:Cx} {K:PySem.W.Frag}
end
section
variable {prog:Program} {w:World} {A:Around} {E:Value->Shared->Prop} {s:Shared}
end
section
variable {X:Cx}
end
end L2
namespace L2
open PySem PySem.Spec PyProof.Rows
theorem fn_of0 {CX:CXT} {P:Program} {w:World} {K:PySem.W.Frag} {mg:Str->Option Value} {base:Heap} {f:Addr} {name qual:Str} {params:Arguments} {body:List Stmt} {scope:Scope} {dV kV doc pm cdv ct oc:Value} {an od:Option Addr}
    {osl:Array (Option Value)} {N ps:List Str} {sp:Sp} (lk:K.lookup f=some ⟨oc,od,.func (PySem.W.fnOf name qual params body scope dV kV doc pm an cdv ct),osl⟩) (hcd:PySem.W.codeIn K cdv qual=true) (S:FnScope N ps scope)
    (len:∀ vs H Q E,sp vs H Q E->vs.length=ps.length)
    (hbody:∀ (A:Around) (outer:List Env) (s:Shared) (H:Hp) (vs:List V) (Q:VK) (E:XK),sp vs H Q E ->
      ∃ t,PSs (cxOf CX P w K mg base N qual scope f cdv A outer s H E) body t/\t { nx:=fun _ H'=>Q .non H',rt:=Q } (start N vs) H) :
    FnOk P w K mg base CX 0 f (PySem.W.fnOf name qual params body scope dV kV doc pm an cdv ct) ps sp:=by
  refine ⟨len,fun A outer s H args us vs Q E hr e0 hb r hsp=>?_⟩
  have hl:=len _ _ _ _ hsp
  have KX:K.In s.heap:=e0.mod.kin.keeps fun b o e=>(e0.bs b o e).1
  have lim:s.heap.NoLimit:=e0.mod.nolimit.keeps fun b o e=>(e0.bs b o e).1
  have hkind:∀ y ∈ ps.zip us,scope.names.lookup y.1=some .local ∨ (scope.names.lookup y.1=some .cell/\((cellsFrom (s.heap.objs.size + 1) scope.names []).lookup y.1).isSome=true):=fun ⟨n,v⟩ hy=>by
    rcases S.par n (List.of_mem_zip hy).1 with q | q
    · exact .inl q
    · exact .inr ⟨q,PySem.W.cellsFrom_some _ _ _ (.inl q)⟩
  refine codeAny_call_function hr.depth (KX _ _ lk) rfl S.co S.gen rfl (PySem.W.codeRec_of KX hcd) (hb _ _ _ _ ?_)
  refine wpAny_newFunctionEnv_cells S.kind hkind fun env he s1 x=>?_
  subst he
  refine ⟨lim.keeps x.toInCall.keep,codeAny_func ?_⟩
  obtain ⟨t,ht,hq⟩:=hbody A outer s H vs Q E hsp
  have I:Inv (cxOf CX P w K mg base N qual scope f cdv A outer s H E) [] (start N vs) H s1:=inv_start S hr.hd e0 hl r x
  refine wpAny_mono (ht [] s1 (start N vs) H _ I hq) (fun fl s' hs=>?_) fun e s' hs=>hs
  have fin:∀ {σ':St} {H':Hp} {v:V} {u:Value},Inv (cxOf CX P w K mg base N qual scope f cdv A outer s H E) [] σ' H' s'->RelV v u->Q v H'->CE outer P w H s Q u s' :=
    fun {σ' H' v u} J rv q=>⟨v,H',J.os,J.bare,J.base,J.hok,rv,q⟩
  cases fl with
  | ret u =>
    obtain ⟨v,σ',H',J,rv,q⟩:=hs
    exact fin J rv q
  | next =>
    obtain ⟨σ',H',J,q⟩:=hs
    exact fin (v:=V.non) (u:=Value.none) J rfl q
  | brk =>
    obtain ⟨_,_,_,q⟩:=hs
    exact False.elim q
  | cont =>
    obtain ⟨_,_,_,q⟩:=hs
    exact False.elim q
theorem Fun.ok0 {P:Program} {w:World} {K:PySem.W.Frag} {mg:Str->Option Value} {base:Heap} {x qual:Str} {st:Stmt} {f:Addr} {fd:FuncData} {N ps:List Str} {sp:Sp} (F:Fun K x qual st f fd) (S:FnScope N ps (defScope st)) (len:∀ vs H Q E,sp vs H Q E->vs.length=ps.length)
    (hbody:∀ (cdv:Value) (A:Around) (outer:List Env) (s:Shared) (H:Hp) (vs:List V) (Q:VK) (E:XK),sp vs H Q E ->
      ∃ t,PSs (cxOf CX0 P w K mg base N qual (defScope st) f cdv A outer s H E).nox (defBody st) t/\t { nx:=fun _ H'=>Q .non H',rt:=Q } (start N vs) H):FnOk P w K mg base CX0 0 f fd ps sp:=by
  obtain ⟨oc,od,kV,doc,pm,an,cdv,ct,osl,rfl,lk,hcd⟩:=F.ex
  refine fn_of0 lk hcd S len fun A outer s H vs Q E hsp=>?_
  obtain ⟨t,h,q⟩:=hbody cdv A outer s H vs Q E hsp
  exact ⟨t,h.nox,q⟩
section
variable {X:Cx}
end
end L2
namespace G
open PySem PySem.Spec PyProof.Rows L2 Mt
def top (i:Nat):Stmt:=PySem.Challenge.pw_growurns_k92_texts_that_write_none.main.body.getD i (.Pass ⟨0,0,0,0⟩)
structure Bt (mg:Str->Option Value):Prop where
  isinstance:mg "isinstance"=none
  bool:mg "bool"=none
  int:mg "int"=none
  tuple:mg "tuple"=none
  list:mg "list"=none
  all:mg "all"=none
  sum:mg "sum"=none
  len:mg "len"=none
  range:mg "range"=none
  max:mg "max"=none
  min:mg "min"=none
  abs:mg "abs"=none
  zip:mg "zip"=none
def wholeD (lo hi:Int):PyData->Bool
  | .int i=>decide (lo <= i) && decide (i <= hi)
  | _=>false
section
variable {P:Program} {w:World} {K:PySem.W.Frag} {mg:Str->Option Value} {base:Heap} {f:Addr} {fd:FuncData}
def numD:PyData->Bool
  | .int _=>true
  | _=>false
def sp_is_number:Sp:=fun vs H Q _=>∃ (v:V) (st:Addr) (d:PyData),vs=[v]/\Dt st H d v/\Q (.bl (numD d)) H
abbrev s_is_number:Stmt:=top 13
theorem sc_is_number:FnScope ["thing"] ["thing"] (defScope s_is_number):=⟨rfl,rfl,rfl,by decide +kernel,rfl,by decide +kernel,by decide +kernel⟩
theorem ok_is_number (F:Fun K "is_number" "is_number" s_is_number f fd) (B:Bt mg):FnOk P w K mg base CX0 0 f fd ["thing"] sp_is_number:=by
  refine F.ok0 sc_is_number (fun vs H Q E h=>?_) (fun cdv A outer s H vs Q E h=>?_)
  · obtain ⟨v,st,d,rfl,_⟩:=h
    rfl
  obtain ⟨v,st,d,rfl,hd,q⟩:=h
  refine ⟨_,pss_one (ps_ret (pe_and (pe_callB (call_isi kit_int) rfl B.isinstance boot_isinstance (pa_cons (pv 0) (pa_cons (pe_bty rfl B.int boot_int) pa_nil)))
    (pe_one (pe_not (pe_callB (call_isi kit_bool) rfl B.isinstance boot_isinstance (pa_cons (pv 0) (pa_cons (pe_bty rfl B.bool boot_bool) pa_nil))))))),?_⟩
  refine ⟨_,rfl,v,st,d,rfl,hd,_,rfl,?_⟩
  cases d with
  | bool b=>exact ⟨_,rfl,v,st,_,rfl,hd,_,rfl,q⟩
  | int i=>exact ⟨_,rfl,v,st,_,rfl,hd,_,rfl,q⟩
  | none=>exact q
  | str x=>exact q
  | list ds=>exact q
  | tuple ds=>exact q
  | dict kvs=>exact q
def sp_is_whole:Sp:=fun vs H Q _=>∃ (v:V) (st:Addr) (d:PyData) (lo hi:Int),vs=[v,.int lo,.int hi]/\Dt st H d v/\Q (.bl (wholeD lo hi d)) H
abbrev s_is_whole:Stmt:=top 14
theorem sc_is_whole:FnScope ["thing","low","high"] ["thing","low","high"] (defScope s_is_whole):=⟨rfl,rfl,rfl,by decide +kernel,rfl,by decide +kernel,by decide +kernel⟩
theorem ok_is_whole (F:Fun K "is_whole" "is_whole" s_is_whole f fd) (c1:Cal P w K mg base 0 "is_number" ["thing"] sp_is_number):FnOk P w K mg base CX0 1 f fd ["thing","low","high"] sp_is_whole:=by
  refine F.ok sc_is_whole (fun vs H Q E h=>?_) (fun cdv A outer s H vs Q E hr h=>?_)
  · obtain ⟨v,st,d,lo,hi,rfl,_⟩:=h
    rfl
  obtain ⟨v,st,d,lo,hi,rfl,hd,q⟩:=h
  refine ⟨_,pss_one (ps_ret (pe_and (pe_cal c1 hr rfl (pa_cons (pv 0) pa_nil)) (pe_one (pe_chain op_le op_le (pv 1) (pv 0) (pv 2))))),?_⟩
  refine ⟨_,rfl,v,st,d,rfl,hd,_,rfl,?_⟩
  cases d with
  | int i =>
    refine iteT ?_
    unfold Dt at hd
    subst hd
    refine ⟨_,rfl,_,rfl,lo,i,rfl,rfl,_,rfl,?_⟩
    have q':Q (.bl (decide (lo <= i) && decide (i <= hi))) H:=q
    by_cases h1:lo <= i
    · rw [decide_eq_true h1,Bool.true_and] at q'
      rw [decide_eq_true h1]
      exact iteT ⟨_,rfl,i,hi,rfl,rfl,q'⟩
    · rw [decide_eq_false h1,Bool.false_and] at q'
      rw [decide_eq_false h1]
      exact iteF q'
  | bool b=>exact q
  | none=>exact q
  | str x=>exact q
  | list ds=>exact q
  | tuple ds=>exact q
  | dict kvs=>exact q
def wholesD (lo hi:Int):PyData->Bool
  | .tuple ds=>ds.all (wholeD lo hi)
  | _=>false
def sp_are_wholes:Sp:=fun vs H Q _=>∃ (v:V) (st:Addr) (d:PyData) (lo hi:Int),vs=[v,.int lo,.int hi]/\Dt st H d v/\(∀ ds,d=.tuple ds->ds.length <= 1000)/\∀ H',Same H H'->Q (.bl (wholesD lo hi d)) H'
abbrev s_are_wholes:Stmt:=top 15
theorem sc_are_wholes:FnScope ["thing","low","high"] ["thing","low","high"] (defScope s_are_wholes):=⟨rfl,rfl,rfl,by decide +kernel,rfl,by decide +kernel,by decide +kernel⟩
theorem ok_are_wholes (F:Fun K "are_wholes" "are_wholes" s_are_wholes f fd) (B:Bt mg) (c1:Cal P w K mg base 1 "is_whole" ["thing","low","high"] sp_is_whole):FnOk P w K mg base CX0 2 f fd ["thing","low","high"] sp_are_wholes:=by
  refine F.ok sc_are_wholes (fun vs H Q E h=>?_) (fun cdv A outer s H vs Q E hr h=>?_)
  · obtain ⟨v,st,d,lo,hi,rfl,_⟩:=h
    rfl
  obtain ⟨v,st,d,lo,hi,rfl,hd,hl,q⟩:=h
  refine ⟨_,pss_one (ps_ret (pe_and (pe_callB (call_isi kit_tup) rfl B.isinstance boot_isinstance (pa_cons (pv 0) (pa_cons (pe_bty rfl B.tuple boot_tuple) pa_nil)))
    (pe_one (pe_callB (call_all_seq rfl) rfl B.all boot_all (pa_cons (pe_compG (N:=["part","low","high"]) (ix:=[none,some 1,some 2]) (ifs:=[]) (tc:=tTrue) rfl (pi_tup (pv 0))
      (fun s H ex=>pg_c (i:=0) (by decide +kernel) rfl (Or.inl rfl) (.inr rfl)) (fun s H ex=>pifs_nil) (fun s H ex=>pe_cal c1 hr rfl (pa_cons (pv 0) (pa_cons (pv 1) (pa_cons (pv 2) pa_nil)))) rfl (by decide +kernel) (by rfl) (by rfl) (fun _=>rfl)) pa_nil))))),?_⟩
  refine ⟨_,rfl,v,st,d,rfl,hd,_,rfl,?_⟩
  cases d with
  | tuple ds =>
    refine iteT ?_
    obtain ⟨a,xs,rfl,ne,ha,hds⟩:∃ a xs,v=.ref a/\a ≠ st/\H a=some (.tup xs)/\Dts st H ds xs:=by unfold Dt at hd;exact hd
    have hlen:=hds.len
    have hl':=hl ds rfl
    refine ⟨_,rfl,a,rfl,⟨xs,.of ha⟩,blk_tup (K:=K) (a:=a) (xs:=xs) (sz (by omega)) (fun i ys H2=>Same H H2/\i <= ds.length/\ys=(ds.take i).map fun d=>V.bl (wholeD lo hi d)) ⟨Same.refl H,Nat.zero_le _,rfl⟩ (fun i ys H2 h=>?_) (fun i ys H2 _ h=>.of (h.1 _ _ ha)) rfl (fun i ys H2 x hx h=>?_) (fun ys H2 h=>?_)⟩
    · obtain ⟨_,hi,rfl⟩:=h
      rw [List.length_map,List.length_take];omega
    · obtain ⟨hS,hil,rfl⟩:=h
      obtain ⟨d,hd',dt⟩:=hds.get hx
      refine ⟨_,rfl,_,rfl,_,rfl,x,st,d,lo,hi,rfl,dt.kp (hS.kp st),hS,(List.getElem?_eq_some_iff.mp hd').1,?_⟩
      rw [List.take_add_one,hd',List.map_append];rfl
    · obtain ⟨hS,hil,rfl⟩:=h
      intro p hp
      refine ⟨p,_,rfl,.inl (.of upd_same),?_,?_⟩
      · rw [List.all_map];exact List.all_eq_true.mpr fun _ _=>rfl
      · have e:(((ds.take xs.length).map fun d=>V.bl (wholeD lo hi d)).all truV)=wholesD lo hi (.tuple ds):=by
          rw [<- hlen,List.take_length,List.all_map];rfl
        rw [e]
        exact q _ (hS.trans (Same.new hp))
  | _=>exact q H (Same.refl H)
end
end G
namespace G
open PySem PySem.Spec PyProof.Rows L2 Mt
structure Ct (mg:Str->Option Value):Prop where
  kinds:∃ t,mg "MOST_KINDS"=some (.int 4 t)
  balls:∃ t,mg "MOST_BALLS"=some (.int 20 t)
  puts:∃ t,mg "MOST_PUT_IN"=some (.int 5 t)
theorem _root_.L2.Dt.untup {st:Addr} {H:Hp} {ds:List PyData} {v:V} (h:Dt st H (.tuple ds) v):∃ a xs,v=.ref a/\a ≠ st/\H a=some (.tup xs)/\Dts st H ds xs:=by unfold Dt at h;exact h
theorem _root_.L2.Dt.unint {st:Addr} {H:Hp} {i:Int} {v:V} (h:Dt st H (.int i) v):v=.int i:=by unfold Dt at h;exact h
theorem wholeD_int {lo hi:Int} {d:PyData} (h:wholeD lo hi d=true):∃ i,d=.int i/\lo <= i/\i <= hi:=by
  cases d with
  | int i =>
    have h':(decide (lo <= i) && decide (i <= hi))=true:=h
    rw [Bool.and_eq_true] at h'
    exact ⟨i,rfl,of_decide_eq_true h'.1,of_decide_eq_true h'.2⟩
  | _=>cases (show false=true from h)
theorem all_ints {lo hi:Int}:∀ {ds:List PyData},ds.all (wholeD lo hi)=true->∃ ns:List Int,ds=ns.map .int/\∀ x ∈ ns,lo <= x/\x <= hi
  | [],_=>⟨[],rfl,by simp⟩
  | d :: ds,h=>by
    rw [List.all_cons,Bool.and_eq_true] at h
    obtain ⟨i,e,h1,h2⟩:=wholeD_int h.1
    obtain ⟨ns,e2,h3⟩:=all_ints h.2
    subst e e2
    exact ⟨i :: ns,rfl,fun x hx=>by
      rcases List.mem_cons.mp hx with z | z
      · subst z;exact ⟨h1,h2⟩
      · exact h3 x z⟩
theorem wholesD_ints {lo hi:Int} {d:PyData} (h:wholesD lo hi d=true):∃ ns:List Int,d=DI ns/\∀ x ∈ ns,lo <= x/\x <= hi:=by
  cases d with
  | tuple ds =>
    obtain ⟨ns,e,h2⟩:=all_ints (ds:=ds) h
    subst e
    exact ⟨ns,rfl,h2⟩
  | _=>cases (show false=true from h)
def intD:PyData->Int
  | .int i=>i
  | _=>0
def lenD:PyData->Nat
  | .tuple ds=>ds.length
  | _=>0
def sumD:PyData->Int
  | .tuple ds=>(ds.map intD).sum
  | _=>0
theorem sumD_DI (ns:List Int):sumD (DI ns)=ns.sum:=by
  show ((ns.map PyData.int).map intD).sum=ns.sum
  rw [List.map_map]
  have e:(intD ∘ PyData.int)=id:=by funext i;rfl
  rw [e,List.map_id]
theorem lenD_DI (ns:List Int):lenD (DI ns)=ns.length:=by show (ns.map PyData.int).length=_;rw [List.length_map]
def urnD (m:Int) (d:PyData):Bool:=wholesD 0 m d && ((decide ((1:Int) <= lenD d) && decide ((lenD d:Int) <= 4)) && decide ((0:Int) < sumD d))
def ruleD (k:Int) (d:PyData):Bool:=match d with
  | .tuple ds=>decide ((ds.length:Int)=k) && ds.all (fun r=>wholesD 0 5 r && decide ((lenD r:Int)=k))
  | _=>false
def short (d:PyData):Prop:=∀ ds,d=.tuple ds->ds.length <= 1000
section
variable {P:Program} {w:World} {K:PySem.W.Frag} {mg:Str->Option Value} {base:Heap} {f:Addr} {fd:FuncData}
def sp_is_urn_up_to:Sp:=fun vs H Q _=>∃ (v:V) (st:Addr) (d:PyData) (m:Int),vs=[v,.int m]/\Dt st H d v/\short d/\∀ H',Same H H'->Q (.bl (urnD m d)) H'
abbrev s_is_urn_up_to:Stmt:=top 22
theorem sc_is_urn_up_to:FnScope ["thing","most"] ["thing","most"] (defScope s_is_urn_up_to):=⟨rfl,rfl,rfl,by decide +kernel,rfl,by decide +kernel,by decide +kernel⟩
theorem ok_is_urn_up_to (F:Fun K "is_urn_up_to" "is_urn_up_to" s_is_urn_up_to f fd) (B:Bt mg) (C:Ct mg) (c1:Cal P w K mg base 2 "are_wholes" ["thing","low","high"] sp_are_wholes):FnOk P w K mg base CX0 3 f fd ["thing","most"] sp_is_urn_up_to:=by
  refine F.ok sc_is_urn_up_to (fun vs H Q E h=>?_) (fun cdv A outer s H vs Q E hr h=>?_)
  · obtain ⟨v,st,d,m,rfl,_⟩:=h
    rfl
  obtain ⟨v,st,d,m,rfl,hd,hl,q⟩:=h
  obtain ⟨tk,hk⟩:=C.kinds
  refine ⟨_,pss_cons (ps_if (pt_not (pt_val (pe_cal c1 hr rfl (pa_cons (pv 0) (pa_cons pe_int (pa_cons (pv 1) pa_nil)))))) (pss_one (ps_ret pe_bl)) pss_nil)
    (pss_one (ps_ret (pe_and (pe_chain op_le op_le pe_int (pe_callB call_len_seq rfl B.len PySem.boot_len (pa_cons (pv 0) pa_nil)) (pe_glob (v:=.int 4) rfl hk ⟨tk,rfl⟩))
      (pe_one (pe_cmpR op_gt (pe_callB (call_sum_seq rfl) rfl B.sum boot_sum (pa_cons (pv 0) pa_nil)) pe_int (nomark _)))))),?_⟩
  refine ⟨_,rfl,_,rfl,v,st,d,0,m,rfl,hd,hl,fun H1 g1=>⟨_,rfl,?_⟩⟩
  have q1:=q H1 g1
  unfold urnD at q1
  cases hw:wholesD 0 m d with
  | false =>
    rw [hw,Bool.false_and] at q1
    exact iteT q1
  | true =>
    rw [hw,Bool.true_and] at q1
    refine iteF ?_
    obtain ⟨ns,e,hns⟩:=wholesD_ints hw
    subst e
    obtain ⟨a,e,ne,ha⟩:=hd.di
    subst e
    rw [lenD_DI,sumD_DI] at q1
    have ha1:=g1 _ _ ha
    refine ⟨_,rfl,a,_,rfl,.inr (.of ha1),_,_,rfl,rfl,_,rfl,?_⟩
    rw [List.length_map]
    by_cases h1:(1:Int) <= (ns.length:Int)
    · rw [decide_eq_true h1,Bool.true_and] at q1
      rw [decide_eq_true h1]
      refine iteT ⟨_,_,rfl,rfl,_,rfl,?_⟩
      by_cases h2:(ns.length:Int) <= 4
      · rw [decide_eq_true h2,Bool.true_and] at q1
        rw [decide_eq_true h2]
        exact iteT ⟨_,rfl,a,ns,rfl,.inr (.of ha1),_,_,rfl,rfl,q1⟩
      · rw [decide_eq_false h2,Bool.false_and] at q1
        rw [decide_eq_false h2]
        exact iteF q1
    · rw [decide_eq_false h1,Bool.false_and,Bool.false_and] at q1
      rw [decide_eq_false h1]
      exact iteF ⟨_,rfl,iteF q1⟩
def sp_is_urn:Sp:=fun vs H Q _=>∃ (v:V) (st:Addr) (d:PyData),vs=[v]/\Dt st H d v/\short d/\∀ H',Same H H'->Q (.bl (urnD 20 d)) H'
abbrev s_is_urn:Stmt:=top 21
theorem sc_is_urn:FnScope ["thing"] ["thing"] (defScope s_is_urn):=⟨rfl,rfl,rfl,by decide +kernel,rfl,by decide +kernel,by decide +kernel⟩
theorem ok_is_urn (F:Fun K "is_urn" "is_urn" s_is_urn f fd) (C:Ct mg) (c1:Cal P w K mg base 3 "is_urn_up_to" ["thing","most"] sp_is_urn_up_to):FnOk P w K mg base CX0 4 f fd ["thing"] sp_is_urn:=by
  refine F.ok sc_is_urn (fun vs H Q E h=>?_) (fun cdv A outer s H vs Q E hr h=>?_)
  · obtain ⟨v,st,d,rfl,_⟩:=h
    rfl
  obtain ⟨v,st,d,rfl,hd,hl,q⟩:=h
  obtain ⟨tk,hk⟩:=C.balls
  refine ⟨_,pss_one (ps_ret (pe_cal c1 hr rfl (pa_cons (pv 0) (pa_cons (pe_glob (v:=.int 20) rfl hk ⟨tk,rfl⟩) pa_nil)))),?_⟩
  exact ⟨_,rfl,v,st,d,20,rfl,hd,hl,q⟩
def sp_need_number (c:Nat->Addr):Sp:=fun vs H Q E=>∃ (v:V) (st:Addr) (d:PyData) (lo hi:Int),vs=[v,.int lo,.int hi]/\Dt st H d v/\Sm lo/\Sm hi/\(wholeD lo hi d=true->Q .non H)/\(wholeD lo hi d=false->E (.ref (c 5)) none H)
abbrev s_need_number:Stmt:=top 16
theorem sc_need_number:FnScope ["thing","low","high"] ["thing","low","high"] (defScope s_need_number):=⟨rfl,rfl,rfl,by decide +kernel,rfl,by decide +kernel,by decide +kernel⟩
theorem ok_need_number {c:Nat->Addr} {B:Addr} (F:Fun K "need_number" "need_number" s_need_number f fd) (R:Errs K mg c B) (c1:Cal P w K mg base 1 "is_whole" ["thing","low","high"] sp_is_whole):FnOk P w K mg base (CX1 P w) 2 f fd ["thing","low","high"] (sp_need_number c):=by
  refine F.okX sc_need_number (fun vs H Q E h=>?_) (fun cdv A outer s H vs Q E hr h=>?_)
  · obtain ⟨v,st,d,lo,hi,rfl,_⟩:=h
    rfl
  obtain ⟨v,st,d,lo,hi,rfl,hd,slo,shi,q1,q2⟩:=h
  refine ⟨_,pss_one (ps_if (pt_not (pt_val (pe_cal c1 hr rfl (pa_cons (pv 0) (pa_cons (pv 1) (pa_cons (pv 2) pa_nil)))))) (pss_one (ps_raise1 R.e5 (R.xc 5 (by decide)) (pe_fstr (pj_str (pj_fmt (pv 1) (pj_str (pj_fmt (pv 2) pj_nil))))) (fun σ H Q Q' m q=>?_))) pss_nil),?_⟩
  · obtain ⟨v1,z1,i1,z2,z3,z4,v2,z5,i2,z6,z7,z8,z9⟩:=q
    exact ⟨v1,z1,i1,z2,z3,z4,v2,z5,i2,z6,z7,z8,fun z=>m _ _ (z9 z)⟩
  refine ⟨_,rfl,_,rfl,_,rfl,v,st,d,lo,hi,rfl,hd,_,rfl,?_⟩
  cases hw:wholeD lo hi d with
  | true=>exact iteF (q1 hw)
  | false=>exact iteT ⟨_,rfl,lo,rfl,slo.1,slo.2,_,rfl,hi,rfl,shi.1,shi.2,fun z=>q2 hw⟩
def sp_is_rule (c:Nat->Addr):Sp:=fun vs H Q E=>∃ (u v:V) (st:Addr) (dk d:PyData),vs=[u,v]/\Dt st H dk u/\(wholeD 1 4 dk=false->E (.ref (c 5)) none H) /\
  (∀ k,dk=.int k->1 <= k->k <= 4->Dt st H d v/\short d/\(∀ ds,d=.tuple ds->∀ r ∈ ds,short r)/\∀ H',Same H H'->Q (.bl (ruleD k d)) H')
abbrev s_is_rule:Stmt:=top 23
theorem sc_is_rule:FnScope ["kinds","thing"] ["kinds","thing"] (defScope s_is_rule):=⟨rfl,rfl,rfl,by decide +kernel,rfl,by decide +kernel,by decide +kernel⟩
theorem sm1:Sm 1:=by unfold Sm;decide +kernel
theorem sm4:Sm 4:=by unfold Sm;decide +kernel
theorem ok_is_rule {c:Nat->Addr} (F:Fun K "is_rule" "is_rule" s_is_rule f fd) (B:Bt mg) (C:Ct mg) (c1:Cal P w K mg base 2 "are_wholes" ["thing","low","high"] sp_are_wholes) (c2:CalX P w K mg base 2 "need_number" ["thing","low","high"] (sp_need_number c)):FnOk P w K mg base (CX1 P w) 3 f fd ["kinds","thing"] (sp_is_rule c):=by
  refine F.okX sc_is_rule (fun vs H Q E h=>?_) (fun cdv A outer s H vs Q E hr h=>?_)
  · obtain ⟨u,v,st,dk,d,rfl,_⟩:=h
    rfl
  obtain ⟨u,v,st,dk,d,rfl,hu,qE,qQ⟩:=h
  obtain ⟨tk,hk⟩:=C.kinds
  obtain ⟨tp,hp⟩:=C.puts
  refine ⟨_,pss_cons (ps_expr (pe_calx c2 hr rfl passes1 (pa_cons (pv 0) (pa_cons pe_int (pa_cons (pe_glob (v:=.int 4) rfl hk ⟨tk,rfl⟩) pa_nil)))))
    (PSs.nox (pss_cons (ps_if (PW.pt (pw_or (pt_not (pt_val (pe_callB (call_isi kit_tup) rfl B.isinstance boot_isinstance (pa_cons (pv 1) (pa_cons (pe_bty rfl B.tuple boot_tuple) pa_nil)))))
      (pw_or1 (pt_cmpR op_ne (pe_callB call_len_seq rfl B.len PySem.boot_len (pa_cons (pv 1) pa_nil)) (pv 0) (nomark _))))) (pss_one (ps_ret pe_bl)) pss_nil)
    (pss_one (ps_ret (pe_callB (call_all_seq rfl) rfl B.all boot_all (pa_cons (pe_compG (N:=["row","kinds"]) (ix:=[none,some 0]) (ifs:=[]) (tc:=tTrue) rfl (pi_tup (pv 1))
      (fun s H ex=>pg_c (i:=0) (by decide +kernel) rfl (Or.inl rfl) (.inr rfl)) (fun s H ex=>pifs_nil)
      (fun s H ex=>pe_and (pe_cal c1 hr rfl (pa_cons (pv 0) (pa_cons pe_int (pa_cons (pe_glob (v:=.int 5) rfl hp ⟨tp,rfl⟩) pa_nil)))) (pe_one (pe_cmpR op_eq (pe_callB (lenK (K:=K) rfl) rfl B.len PySem.boot_len (pa_cons (pv 0) pa_nil)) (pv 1) (nomark _)))) rfl (by decide +kernel) (by rfl) (by rfl) (fun _=>rfl)) pa_nil)))))),?_⟩
  refine ⟨_,rfl,u,st,dk,1,4,rfl,hu,sm1,sm4,fun hw=>?_,qE⟩
  obtain ⟨k,e,k1,k4⟩:=wholeD_int hw
  subst e
  obtain rfl:=hu.unint
  obtain ⟨hd,hl,hl2,q⟩:=qQ k rfl k1 k4
  refine ⟨_,rfl,v,st,d,rfl,hd,_,rfl,?_⟩
  cases d with
  | tuple ds =>
    obtain ⟨a,xs,e,ne,ha,hds⟩:=hd.untup
    subst e
    have hlen:=hds.len
    have hl':=hl ds rfl
    refine iteF ⟨_,rfl,a,xs,rfl,.inr (.of ha),_,rfl,rfl,_,rfl,?_⟩
    have q0:=fun H' g=>q H' g
    unfold ruleD at q0
    by_cases hk':(ds.length:Int)=k
    · have e1:V.int (xs.length:Int)=V.int k:=by rw [<- hlen,hk']
      rw [decide_eq_true e1]
      refine iteF ?_
      have q1:∀ H',Same H H'->Q (.bl (ds.all (fun r=>wholesD 0 5 r && decide ((lenD r:Int)=k)))) H':=fun H' g=>by
        have:=q0 H' g
        simp only [decide_eq_true hk',Bool.true_and] at this
        exact this
      refine ⟨_,rfl,a,rfl,⟨xs,.of ha⟩,blk_tup (K:=K) (a:=a) (xs:=xs) (sz (by omega)) (fun i ys H2=>Same H H2/\i <= ds.length/\ys=(ds.take i).map fun r=>V.bl (wholesD 0 5 r && decide ((lenD r:Int)=k))) ⟨Same.refl H,Nat.zero_le _,rfl⟩ (fun i ys H2 h=>?_) (fun i ys H2 _ h=>.of (h.1 _ _ ha)) rfl (fun i ys H2 x hx h=>?_) (fun ys H2 h=>?_)⟩
      · obtain ⟨_,hil,rfl⟩:=h
        rw [List.length_map,List.length_take];omega
      · obtain ⟨hS,hil,rfl⟩:=h
        obtain ⟨d,hd',dt⟩:=hds.get hx
        have dt2:=dt.kp (hS.kp st)
        refine ⟨_,rfl,x,st,d,0,5,rfl,dt2,hl2 ds rfl d (List.mem_of_getElem? hd'),fun H3 g3=>⟨_,rfl,?_⟩⟩
        have fin:∀ b:Bool,b=(wholesD 0 5 d && decide ((lenD d:Int)=k))->Same H H3/\i + 1 <= ds.length/\((ds.take i).map fun r=>V.bl (wholesD 0 5 r && decide ((lenD r:Int)=k))) ++ [V.bl b]=(ds.take (i + 1)).map fun r=>V.bl (wholesD 0 5 r && decide ((lenD r:Int)=k)):=fun b e=>by
          subst e
          refine ⟨hS.trans g3,(List.getElem?_eq_some_iff.mp hd').1,?_⟩
          rw [List.take_add_one,hd',List.map_append];rfl
        cases hw:wholesD 0 5 d with
        | false=>exact iteF (fin false (by rw [hw];rfl))
        | true =>
          obtain ⟨ns,e,_⟩:=wholesD_ints hw
          subst e
          obtain ⟨b,e,_,hb⟩:=dt2.di
          subst e
          refine iteT ⟨_,rfl,b,_,rfl,.inr (.of (g3 _ _ hb)),_,rfl,rfl,?_⟩
          refine fin _ ?_
          rw [hw,Bool.true_and,lenD_DI,List.length_map]
          rw [decide_eq_decide]
          constructor
          · intro e;injection e
          · intro e;rw [e]
      · obtain ⟨hS,hil,rfl⟩:=h
        intro p hp
        refine ⟨p,_,rfl,.inl (.of upd_same),?_,?_⟩
        · rw [List.all_map];exact List.all_eq_true.mpr fun _ _=>rfl
        · have e:(((ds.take xs.length).map fun r=>V.bl (wholesD 0 5 r && decide ((lenD r:Int)=k))).all truV)=ds.all (fun r=>wholesD 0 5 r && decide ((lenD r:Int)=k)):=by
            rw [<- hlen,List.take_length,List.all_map];rfl
          rw [e]
          exact q1 _ (hS.trans (Same.new hp))
    · have e1:¬ V.int (xs.length:Int)=V.int k:=fun e=>hk' (by rw [hlen];injection e)
      rw [decide_eq_false e1]
      refine iteT ?_
      have:=q0 H (Same.refl H)
      simp only [decide_eq_false hk',Bool.false_and] at this
      exact this
  | _=>exact iteT (iteT (q H (Same.refl H)))
end
end G
namespace G
open PySem PySem.Spec PyProof.Rows L2 Mt
theorem boot_VE:bootBuiltins "ValueError"=some (.type "ValueError"):=by decide +kernel
def bsL (i:Nat):List Bool:=[decide (i=0),decide (i=1),decide (i=2),decide (i=3),decide (i=4),decide (i=5),decide (i=6),decide (i=7),decide (i=8),decide (i=9)]
theorem bsL_len (i:Nat):(bsL i).length=10:=rfl
theorem bs_len (i:Nat):(bsL i).length <= sizeLine:=by rw [bsL_len];decide
theorem bs_sum:∀ i:Nat,i < 10->((bsL i).map (fun b=>if b then (1:Int) else 0)).sum=1:=by decide
theorem bs_at:∀ i:Nat,i < 10->(bsL i)[i]?=some true/\∀ m,m < i->(bsL i)[m]?=some false:=by decide
section
variable {P:Program} {w:World} {K:PySem.W.Frag} {mg:Str->Option Value} {base:Heap} {f:Addr} {fd:FuncData}
def outV:Option Nat->V
  | none=>.non
  | some i=>.int i
def Out (c:Nat->Addr) (H:Hp) (Q:VK) (E:XK):Option Nat->Prop
  | none=>∀ v H1,Same H H1->Q v H1
  | some i=>∀ H1,Same H H1->E (.ref (c i)) none H1
def sp_refused (P:Program) (w:World) (K:PySem.W.Frag) (mg:Str->Option Value) (base:Heap) (k:Nat) (c:Nat->Addr):Sp:=fun vs H Q _=>∃ (fa:Addr) (spL:Sp) (fo:Obj) (fd:FuncData) (o:Option Nat),vs=[.ref fa]/\H fa=some (KN fo)/\fo.data=.func fd /\
  bindArgs fd ⟨[],[]⟩=pure []/\FnOk P w K mg base (CX1 P w) k fa fd [] spL/\(∀ i,o=some i->i < 10)/\(∀ Q' E',Out c H Q' E' o->spL [] H Q' E')/\∀ H',Same H H'->Q (outV o) H'
abbrev s_refused:Stmt:=top 33
theorem sc_refused:FnScope ["_law_call","_law_error","e","_law_sorts"] ["_law_call"] (defScope s_refused):=⟨rfl,rfl,rfl,by decide +kernel,rfl,by decide +kernel,by decide +kernel⟩
theorem ok_refused {c:Nat->Addr} {Bs:Addr} {k:Nat} (FF:Fun K "_law_refused" "_law_refused" s_refused f fd) (B:Bt mg) (R:Errs K mg c Bs) (hVE:mg "ValueError"=none):FnOk P w K mg base CX0 (k + 1) f fd ["_law_call"] (sp_refused P w K mg base k c):=by
  refine FF.ok sc_refused (fun vs H Q E h=>?_) (fun cdv A outer s H vs Q E hr h=>?_)
  · obtain ⟨fa,spL,fo,fd,o,rfl,_⟩:=h
    rfl
  obtain ⟨fa,spL,fo,fd',o,rfl,kn,hfd,bnd,FL,ho,hsp,q⟩:=h
  refine ⟨_,pss_cons (ps_set (i:=1) sc_refused.nd rfl (Or.inl rfl) pe_non)
    (pss_cons (ps_tryX (k:=k) (iC:=0) (iE:=2) (iR:=1) rfl rfl hr sc_refused.nd rfl (Or.inl rfl) rfl rfl rfl rfl (by decide) rfl R.eb R.bb)
    (pss_cons (ps_if (pt_cmp (pc_isN (pv 1))) (pss_one (ps_ret pe_non)) pss_nil)
    (pss_cons (ps_set (i:=3) sc_refused.nd rfl (Or.inl rfl) (pe_lst (pa_cons (pe_callB call_isx rfl B.isinstance boot_isinstance (pa_cons (pv 1) (pa_cons (pe_glob (v:=.ref (c 0)) rfl R.e0 rfl) pa_nil)))
      (pa_cons (pe_callB call_isx rfl B.isinstance boot_isinstance (pa_cons (pv 1) (pa_cons (pe_glob (v:=.ref (c 1)) rfl R.e1 rfl) pa_nil))) (pa_cons (pe_callB call_isx rfl B.isinstance boot_isinstance (pa_cons (pv 1) (pa_cons (pe_glob (v:=.ref (c 2)) rfl R.e2 rfl) pa_nil))) pa_nil)))))
    (pss_cons (ps_set (i:=3) sc_refused.nd rfl (Or.inl rfl) (pe_op op_cat (pv 3) (pe_lst (pa_cons (pe_callB call_isx rfl B.isinstance boot_isinstance (pa_cons (pv 1) (pa_cons (pe_glob (v:=.ref (c 3)) rfl R.e3 rfl) pa_nil)))
      (pa_cons (pe_callB call_isx rfl B.isinstance boot_isinstance (pa_cons (pv 1) (pa_cons (pe_glob (v:=.ref (c 4)) rfl R.e4 rfl) pa_nil))) (pa_cons (pe_callB call_isx rfl B.isinstance boot_isinstance (pa_cons (pv 1) (pa_cons (pe_glob (v:=.ref (c 5)) rfl R.e5 rfl) pa_nil))) pa_nil))))))
    (pss_cons (ps_set (i:=3) sc_refused.nd rfl (Or.inl rfl) (pe_op op_cat (pv 3) (pe_lst (pa_cons (pe_callB call_isx rfl B.isinstance boot_isinstance (pa_cons (pv 1) (pa_cons (pe_glob (v:=.ref (c 6)) rfl R.e6 rfl) pa_nil)))
      (pa_cons (pe_callB call_isx rfl B.isinstance boot_isinstance (pa_cons (pv 1) (pa_cons (pe_glob (v:=.ref (c 7)) rfl R.e7 rfl) pa_nil))) (pa_cons (pe_callB call_isx rfl B.isinstance boot_isinstance (pa_cons (pv 1) (pa_cons (pe_glob (v:=.ref (c 8)) rfl R.e8 rfl) pa_nil))) pa_nil))))))
    (pss_cons (ps_expr (pe_bm PySem.F.plainAttrs_list PySem.F.slot_list_append PySem.F.type_list_append mt_append (pv 3) (pa_cons (pe_callB call_isx rfl B.isinstance boot_isinstance (pa_cons (pv 1) (pa_cons (pe_glob (v:=.ref (c 9)) rfl R.e9 rfl) pa_nil))) pa_nil)))
    (pss_cons (ps_if (PW.pt (pw_or (pt_not (pt_val (pe_callB call_isx rfl B.isinstance boot_isinstance (pa_cons (pv 1) (pa_cons (pe_bty rfl hVE boot_VE) pa_nil)))))
      (pw_or1 (pt_cmpR op_ne (pe_callB (call_sum_seq rfl) rfl B.sum boot_sum (pa_cons (pe_compG (N:=["_law_one"]) (ix:=[none]) (ifs:=[]) (tc:=tTrue) rfl (pi_list (pv 3))
        (fun s H ex=>pg_c (i:=0) (by decide +kernel) rfl (Or.inl rfl) (.inr rfl)) (fun s H ex=>pifs_nil) (fun s H ex=>pe_callTy call_int1 rfl B.int boot_int (pa_cons (pv 0) pa_nil)) rfl (by decide +kernel) (by rfl) (by rfl) (fun _=>rfl)) pa_nil)) pe_int (nomark _)))))
      (pss_one (ps_ret (pe_un un_neg pe_int))) pss_nil)
    (pss_one (ps_ret (pe_bm PySem.F.plainAttrs_list PySem.F.slot_list_index PySem.F.type_list_index mt_indexB (pv 3) (pa_cons pe_bl pa_nil))))))))))),?_⟩
  refine ⟨fa,spL,rfl,⟨fo,fd',kn,hfd,bnd,FL⟩,hsp _ _ ?_⟩
  cases o with
  | none=>exact fun v H1 g1=>⟨_,rfl,_,rfl,iteT (q H1 g1)⟩
  | some i =>
    have hi:=ho i rfl
    intro H1 g1
    refine ⟨c i,rfl,R.sub i hi,fun a oe x na=>?_⟩
    have g2:Same H (upd H1 a (KN oe)):=g1.trans (Same.new na)
    have ha2:upd H1 a (KN oe) a=some (KN oe):=upd_same
    generalize upd H1 a (KN oe)=H2 at g2 ha2
    refine ⟨_,rfl,_,rfl,iteF ?_⟩
    refine ⟨_,rfl,a,oe,c i,_,_,_,rfl,ha2,x,R.xi i hi,rfl,R.one i 0 hi (by decide),_,rfl,a,oe,c i,_,_,_,rfl,ha2,x,R.xi i hi,rfl,R.one i 1 hi (by decide),_,rfl,a,oe,c i,_,_,_,rfl,ha2,x,R.xi i hi,rfl,R.one i 2 hi (by decide),(by show 3 <= sizeLine;decide),fun p hp=>?_⟩
    have ap:a ≠ p:=ne_of_none ha2 hp
    have g3:Same H (upd H2 p (.lst [.bl (decide (i=0)),.bl (decide (i=1)),.bl (decide (i=2))])):=g2.trans (Same.new hp)
    have ha3:upd H2 p (.lst [.bl (decide (i=0)),.bl (decide (i=1)),.bl (decide (i=2))]) a=some (KN oe):=by rw [upd_ne ap];exact ha2
    have hp3:upd H2 p (.lst [.bl (decide (i=0)),.bl (decide (i=1)),.bl (decide (i=2))]) p=some (.lst [.bl (decide (i=0)),.bl (decide (i=1)),.bl (decide (i=2))]):=upd_same
    generalize upd H2 p (.lst [.bl (decide (i=0)),.bl (decide (i=1)),.bl (decide (i=2))])=H3 at g3 ha3 hp3
    refine ⟨_,rfl,_,rfl,a,oe,c i,_,_,_,rfl,ha3,x,R.xi i hi,rfl,R.one i 3 hi (by decide),_,rfl,a,oe,c i,_,_,_,rfl,ha3,x,R.xi i hi,rfl,R.one i 4 hi (by decide),_,rfl,a,oe,c i,_,_,_,rfl,ha3,x,R.xi i hi,rfl,R.one i 5 hi (by decide),(by show 3 <= sizeLine;decide),fun p2 hp2=>⟨p,p2,_,_,rfl,rfl,(by rw [upd_ne (ne_of_none hp3 hp2)];exact hp3),upd_same,(by show 3 + 3 <= sizeLine;decide),fun p4 hp4=>?_⟩⟩
    obtain ⟨H5,g5,ha5,hp5,e5⟩:∃ H5,Same H H5/\H5 a=some (KN oe)/\H5 p4=some (.lst [.bl (decide (i=0)),.bl (decide (i=1)),.bl (decide (i=2)),.bl (decide (i=3)),.bl (decide (i=4)),.bl (decide (i=5))])/\H5=upd (upd H3 p2 (.lst [.bl (decide (i=3)),.bl (decide (i=4)),.bl (decide (i=5))])) p4 (.lst [.bl (decide (i=0)),.bl (decide (i=1)),.bl (decide (i=2)),.bl (decide (i=3)),.bl (decide (i=4)),.bl (decide (i=5))]) :=
      ⟨_,(g3.trans (Same.new hp2)).trans (Same.new hp4),(by rw [upd_ne (ne_of_none (by rw [upd_ne (ne_of_none ha3 hp2)];exact ha3) hp4),upd_ne (ne_of_none ha3 hp2)];exact ha3),upd_same,rfl⟩
    show tSeq _ _ _ _ (upd (upd H3 p2 (.lst [.bl (decide (i=3)),.bl (decide (i=4)),.bl (decide (i=5))])) p4 (.lst [.bl (decide (i=0)),.bl (decide (i=1)),.bl (decide (i=2)),.bl (decide (i=3)),.bl (decide (i=4)),.bl (decide (i=5))]))
    rw [<- e5]
    clear e5
    refine ⟨_,rfl,_,rfl,a,oe,c i,_,_,_,rfl,ha5,x,R.xi i hi,rfl,R.one i 6 hi (by decide),_,rfl,a,oe,c i,_,_,_,rfl,ha5,x,R.xi i hi,rfl,R.one i 7 hi (by decide),_,rfl,a,oe,c i,_,_,_,rfl,ha5,x,R.xi i hi,rfl,R.one i 8 hi (by decide),(by show 3 <= sizeLine;decide),fun p5 hp5'=>⟨p4,p5,_,_,rfl,rfl,(by rw [upd_ne (ne_of_none hp5 hp5')];exact hp5),upd_same,(by show 6 + 3 <= sizeLine;decide),fun p6 hp6=>?_⟩⟩
    have h6n:H p6=none:=(g5.trans (Same.new hp5')).free hp6
    obtain ⟨H6,g6,ha6,hl6,e6⟩:∃ H6,Same H H6/\H6 a=some (KN oe)/\H6 p6=some (.lst [.bl (decide (i=0)),.bl (decide (i=1)),.bl (decide (i=2)),.bl (decide (i=3)),.bl (decide (i=4)),.bl (decide (i=5)),.bl (decide (i=6)),.bl (decide (i=7)),.bl (decide (i=8))])/\H6=upd (upd H5 p5 (.lst [.bl (decide (i=6)),.bl (decide (i=7)),.bl (decide (i=8))])) p6 (.lst [.bl (decide (i=0)),.bl (decide (i=1)),.bl (decide (i=2)),.bl (decide (i=3)),.bl (decide (i=4)),.bl (decide (i=5)),.bl (decide (i=6)),.bl (decide (i=7)),.bl (decide (i=8))]) :=
      ⟨_,(g5.trans (Same.new hp5')).trans (Same.new hp6),(by rw [upd_ne (ne_of_none (by rw [upd_ne (ne_of_none ha5 hp5')];exact ha5) hp6),upd_ne (ne_of_none ha5 hp5')];exact ha5),upd_same,rfl⟩
    show tSeq _ _ _ _ (upd (upd H5 p5 (.lst [.bl (decide (i=6)),.bl (decide (i=7)),.bl (decide (i=8))])) p6 (.lst [.bl (decide (i=0)),.bl (decide (i=1)),.bl (decide (i=2)),.bl (decide (i=3)),.bl (decide (i=4)),.bl (decide (i=5)),.bl (decide (i=6)),.bl (decide (i=7)),.bl (decide (i=8))]))
    rw [<- e6]
    clear e6
    refine ⟨_,rfl,.inl ⟨rfl,_,.of hl6⟩,_,rfl,a,oe,c i,_,_,_,rfl,ha6,x,R.xi i hi,rfl,R.one i 9 hi (by decide),p6,_,_,rfl,rfl,hl6,(by show 9 < sizeLine;decide),?_⟩
    have hbs:([.bl (decide (i=0)),.bl (decide (i=1)),.bl (decide (i=2)),.bl (decide (i=3)),.bl (decide (i=4)),.bl (decide (i=5)),.bl (decide (i=6)),.bl (decide (i=7)),.bl (decide (i=8))] ++ [.bl (decide (i=9))]:List V)=(bsL i).map V.bl:=rfl
    show tSeq _ _ _ _ (upd H6 p6 (.lst ([.bl (decide (i=0)),.bl (decide (i=1)),.bl (decide (i=2)),.bl (decide (i=3)),.bl (decide (i=4)),.bl (decide (i=5)),.bl (decide (i=6)),.bl (decide (i=7)),.bl (decide (i=8))] ++ [.bl (decide (i=9))])))
    rw [hbs]
    have hap:a ≠ p6:=fun z=>by rw [z,hl6] at ha6;cases ha6
    obtain ⟨H7,g7,ha7,hl7,e7⟩:∃ H7,Same H H7/\H7 a=some (KN oe)/\H7 p6=some (.lst ((bsL i).map V.bl))/\H7=upd H6 p6 (.lst ((bsL i).map V.bl)) :=
      ⟨_,fun b u hb=>by rw [upd_ne (fun z=>by rw [z,h6n] at hb;cases hb)];exact g6 b u hb,by rw [upd_ne hap];exact ha6,upd_same,rfl⟩
    rw [<- e7]
    clear e7
    refine ⟨_,rfl,a,oe,c i,_,_,_,rfl,ha7,x,R.xi i hi,rfl,R.val i hi,_,rfl,iteF ?_⟩
    refine ⟨_,rfl,p6,rfl,⟨_,.of hl7⟩,blk_list (K:=K) (a:=p6) (xs:=(bsL i).map V.bl) (by rw [List.length_map];exact bs_len i) (fun j ys H2=>Same H7 H2/\j <= 10/\ys=((bsL i).take j).map fun b=>V.int (if b then 1 else 0)) ⟨Same.refl _,Nat.zero_le _,rfl⟩ (fun j ys H2 h=>?_) (fun j ys H2 _ h=>.of (h.1 _ _ hl7)) rfl (fun j ys H2 v hv h=>?_) (fun ys H2 h=>?_)⟩
    · obtain ⟨_,hj,rfl⟩:=h
      rw [List.length_map,List.length_take,bsL_len];omega
    · obtain ⟨hS,hj,rfl⟩:=h
      rw [List.getElem?_map] at hv
      obtain ⟨b,hb,ev⟩:=Option.map_eq_some_iff.mp hv
      subst ev
      refine ⟨_,rfl,.inr ⟨b,rfl,hS,?_,?_⟩⟩
      · have:=(List.getElem?_eq_some_iff.mp hb).1
        rw [bsL_len] at this
        exact this
      · rw [List.take_add_one,hb,List.map_append];rfl
    · obtain ⟨hS,hj,rfl⟩:=h
      intro pz hpz
      refine ⟨pz,((bsL i).take ((bsL i).map V.bl).length).map (fun b=>if b then 1 else 0),rfl,.inl (.of (by rw [upd_same,List.map_map];rfl)),rfl,_,rfl,?_⟩
      rw [List.length_map,List.take_length,bs_sum i hi]
      refine iteF ⟨_,rfl,.inl ⟨rfl,_,.of (by rw [upd_ne (ne_of_none (hS _ _ hl7) hpz)];exact hS _ _ hl7)⟩,p6,bsL i,i,rfl,rfl,(by rw [upd_ne (ne_of_none (hS _ _ hl7) hpz)];exact hS _ _ hl7),(bs_at i hi).1,(bs_at i hi).2,q _ ((g7.trans hS).trans (Same.new hpz))⟩
end
end G
namespace G
open PySem PySem.Spec PyProof.Rows L2 Mt
theorem atI_int {ns:List Int} {k:Nat} (h:k < ns.length):atI (ns.map V.int) (k:Int)=some (.int (ns.getD k 0)):=by
  refine atI_nat ?_
  rw [List.getElem?_map,List.getElem?_eq_getElem h,List.getD_eq_getElem?_getD,List.getElem?_eq_getElem h];rfl
def StOk (x:Int) (b:Bool):Prop:=b=false->0 <= x/\x < 2147483647
section
variable {P:Program} {w:World} {K:PySem.W.Frag} {mg:Str->Option Value} {base:Heap} {f:Addr} {fd:FuncData}
def sp_cell_at (K:PySem.W.Frag):Sp:=fun vs H Q _=>∃ (a:Addr) (ns:List Int) (k:Nat),vs=[.ref a,.int k]/\SqL K H a (ns.map V.int)/\∀ x,Q (.int x) H
abbrev s_cell_at:Stmt:=top 30
theorem sc_cell_at:FnScope ["_law_script","_law_k"] ["_law_script","_law_k"] (defScope s_cell_at):=⟨rfl,rfl,rfl,by decide +kernel,rfl,by decide +kernel,by decide +kernel⟩
theorem ok_cell_at (F:Fun K "_law_cell_at" "_law_cell_at" s_cell_at f fd) (B:Bt mg):FnOk P w K mg base CX0 1 f fd ["_law_script","_law_k"] (sp_cell_at K):=by
  refine F.ok sc_cell_at (fun vs H Q E h=>?_) (fun cdv A outer s H vs Q E hr h=>?_)
  · obtain ⟨a,ns,k,rfl,_⟩:=h
    rfl
  obtain ⟨a,ns,k,rfl,ha,q⟩:=h
  refine ⟨_,pss_cons (ps_if (pt_cmpR op_lt (pv 1) (pe_callB call_len_seq rfl B.len PySem.boot_len (pa_cons (pv 0) pa_nil)) (nomark _)) (pss_one (ps_ret (pe_ix ix_list (pv 0) (pv 1) (fun _ _=>rfl)))) pss_nil)
    (pss_one (ps_ret pe_int)),?_⟩
  refine ⟨_,rfl,_,rfl,a,_,rfl,.inl ha,_,_,rfl,rfl,_,rfl,?_⟩
  refine ite2 (fun c=>?_) (fun c=>q 0)
  have c':(k:Int) < (((ns.map V.int).length:Nat):Int):=of_decide_eq_true c
  rw [List.length_map] at c'
  exact ⟨_,rfl,_,rfl,a,_,_,_,rfl,rfl,ha,atI_int (by omega),q _⟩
def sp_state (K:PySem.W.Frag):Sp:=fun vs H Q _=>∃ (a:Addr) (ns:List Int) (k:Nat),vs=[.ref a,.int k]/\SqL K H a (ns.map V.int)/\∀ l x b,H l=none->StOk x b->Q (.ref l) (upd H l (.lst [.int x,.bl b]))
abbrev s_state:Stmt:=top 31
theorem sc_state:FnScope ["_law_script","_law_k","_law_cell"] ["_law_script","_law_k"] (defScope s_state):=⟨rfl,rfl,rfl,by decide +kernel,rfl,by decide +kernel,by decide +kernel⟩
theorem ok_state (F:Fun K "_law_state" "_law_state" s_state f fd) (c1:Cal P w K mg base 1 "_law_cell_at" ["_law_script","_law_k"] (sp_cell_at K)):FnOk P w K mg base CX0 2 f fd ["_law_script","_law_k"] (sp_state K):=by
  refine F.ok sc_state (fun vs H Q E h=>?_) (fun cdv A outer s H vs Q E hr h=>?_)
  · obtain ⟨a,ns,k,rfl,_⟩:=h
    rfl
  obtain ⟨a,ns,k,rfl,ha,q⟩:=h
  refine ⟨_,pss_cons (ps_set (i:=2) sc_state.nd rfl (Or.inl rfl) (pe_cal c1 hr rfl (pa_cons (pv 0) (pa_cons (pv 1) pa_nil))))
    (pss_cons (ps_if (pt_cmpR op_ge (pv 2) (pe_op op_pow pe_int pe_int) (nomark _)) (pss_one (ps_ret (pe_lst (pa_cons (pe_op op_sub (pv 2) (pe_op op_pow pe_int pe_int)) (pa_cons pe_bl pa_nil))))) pss_nil)
    (pss_one (ps_ret (pe_lst (pa_cons (pe_op op_mod (pv 2) pe_int) (pa_cons pe_bl pa_nil)))))),?_⟩
  have hp:CPow 10 18:=⟨by decide,by decide,by decide⟩
  refine ⟨_,rfl,_,rfl,a,ns,k,rfl,ha,fun x=>?_⟩
  refine ⟨_,rfl,_,_,rfl,rfl,hp,_,_,rfl,rfl,_,rfl,?_⟩
  refine ite2 (fun c=>?_) (fun c=>?_)
  · exact ⟨_,rfl,_,_,rfl,rfl,hp,_,_,rfl,rfl,(by show 2 <= sizeLine;decide),fun l hl=>q l _ _ hl (fun z=>by cases z)⟩
  · exact ⟨_,rfl,_,_,rfl,rfl,(by show (0:Int) < 2147483647;decide),(by show 2 <= sizeLine;decide),fun l hl=>q l _ _ hl (fun _=>⟨Int.emod_nonneg _ (by decide),Int.emod_lt_of_pos _ (by decide)⟩)⟩
def sp_take:Sp:=fun vs H Q _=>∃ (l:Addr) (m x:Int) (b:Bool),vs=[.ref l,.int m]/\H l=some (.lst [.int x,.bl b])/\StOk x b/\1 <= m/\m <= 1000 /\
  ∀ (y:Nat) (x':Int),(y:Int) < m->StOk x' b->Q (.int y) (upd H l (.lst [.int x',.bl b]))
abbrev s_take:Stmt:=top 32
theorem sc_take:FnScope ["_law_state_here","_law_many","_law_found","_law_mixed"] ["_law_state_here","_law_many"] (defScope s_take):=⟨rfl,rfl,rfl,by decide +kernel,rfl,by decide +kernel,by decide +kernel⟩
theorem ok_take (F:Fun K "_law_take" "_law_take" s_take f fd):FnOk P w K mg base CX0 1 f fd ["_law_state_here","_law_many"] sp_take:=by
  refine F.ok sc_take (fun vs H Q E h=>?_) (fun cdv A outer s H vs Q E hr h=>?_)
  · obtain ⟨l,m,x,b,rfl,_⟩:=h
    rfl
  obtain ⟨l,m,x,b,rfl,hl,hst,m1,m2,q⟩:=h
  refine ⟨_,pss_cons (ps_if (pt_val (pe_ix ix_list (pv 0) pe_int (fun _ _=>rfl)))
      (pss_cons (ps_set (i:=2) sc_take.nd rfl (Or.inl rfl) (pe_op op_mod (pe_ix ix_list (pv 0) pe_int (fun _ _=>rfl)) (pv 1)))
      (pss_cons (ps_asg (pe_op op_fdiv (pe_ix ix_list (pv 0) pe_int (fun _ _=>rfl)) (pv 1)) (pg_sub (pv 0) pe_int set_list))
      (pss_one (ps_ret (pv 2))))) pss_nil)
    (pss_cons (ps_asg (pe_op op_mod (pe_op op_add (pe_op op_mul (pe_ix ix_list (pv 0) pe_int (fun _ _=>rfl)) pe_int) pe_int) pe_int) (pg_sub (pv 0) pe_int set_list))
    (pss_cons (ps_set (i:=3) sc_take.nd rfl (Or.inl rfl) (pe_op op_mod (pe_op op_add (pe_op op_add (pe_op op_mul (pe_ix ix_list (pv 0) pe_int (fun _ _=>rfl)) (pe_ix ix_list (pv 0) pe_int (fun _ _=>rfl))) (pe_op op_mul pe_int (pe_ix ix_list (pv 0) pe_int (fun _ _=>rfl)))) pe_int) pe_int))
    (pss_cons (ps_set (i:=3) sc_take.nd rfl (Or.inl rfl) (pe_op op_mod (pe_op op_add (pe_op op_mul (pv 3) (pv 3)) (pe_op op_mul pe_int (pv 3))) pe_int))
    (pss_one (ps_ret (pe_op op_mod (pe_op op_fdiv (pv 3) pe_int) (pv 1))))))),?_⟩
  have fin:∀ (z x':Int),StOk x' b->Q (.int (z % m)) (upd H l (.lst [.int x',.bl b])):=fun z x' h=>by
    have h1:=Int.emod_nonneg z (show m ≠ 0 by omega)
    have h2:=Int.emod_lt_of_pos z (show 0 < m by omega)
    have e:z % m=(((z % m).toNat:Nat):Int):=by omega
    rw [e]
    exact q _ x' (by omega) h
  refine ⟨_,rfl,l,_,_,_,rfl,rfl,.of hl,atI_nat (j:=1) rfl,_,rfl,?_⟩
  cases b with
  | true =>
    refine iteT ⟨_,rfl,l,_,_,_,rfl,rfl,.of hl,atI_nat (j:=0) rfl,_,rfl,_,_,rfl,rfl,(by omega),?_⟩
    refine ⟨_,rfl,l,_,_,_,rfl,rfl,.of hl,atI_nat (j:=0) rfl,_,rfl,_,_,rfl,rfl,⟨by omega,by omega⟩,_,rfl,l,_,_,0,rfl,rfl,hl,rfl,?_⟩
    exact ⟨_,rfl,fin _ _ (fun z=>by cases z)⟩
  | false =>
    obtain ⟨x0,x1⟩:=hst rfl
    refine iteF ⟨_,rfl,l,_,_,_,rfl,rfl,.of hl,atI_nat (j:=0) rfl,_,_,rfl,rfl,.inl ⟨by omega,by omega⟩,_,_,rfl,rfl,_,_,rfl,rfl,(by show (0:Int) < 2147483647;decide),_,rfl,l,_,_,0,rfl,rfl,hl,rfl,?_⟩
    have y0:=Int.emod_nonneg (x * 48271 + 29) (show (2147483647:Int) ≠ 0 by decide)
    have y1:=Int.emod_lt_of_pos (x * 48271 + 29) (show (0:Int) < 2147483647 by decide)
    show tSeq _ _ _ _ (upd H l (.lst [.int ((x * 48271 + 29) % 2147483647),.bl false]))
    generalize (x * 48271 + 29) % 2147483647=y at y0 y1
    have hl2:upd H l (.lst [.int y,.bl false]) l=some (.lst [.int y,.bl false]):=upd_same
    refine ⟨_,rfl,l,_,_,_,rfl,rfl,.of hl2,atI_nat (j:=0) rfl,_,rfl,l,_,_,_,rfl,rfl,.of hl2,atI_nat (j:=0) rfl,_,_,rfl,rfl,.inl ⟨by omega,by omega⟩,_,rfl,l,_,_,_,rfl,rfl,.of hl2,atI_nat (j:=0) rfl,_,_,rfl,rfl,.inr ⟨by omega,by omega⟩,_,_,rfl,rfl,_,_,rfl,rfl,_,_,rfl,rfl,(by show (0:Int) < 2147483629;decide),?_⟩
    have z0:=Int.emod_nonneg (y * y + 39373 * y + 7) (show (2147483629:Int) ≠ 0 by decide)
    have z1:=Int.emod_lt_of_pos (y * y + 39373 * y + 7) (show (0:Int) < 2147483629 by decide)
    generalize (y * y + 39373 * y + 7) % 2147483629=z at z0 z1
    refine ⟨_,rfl,_,rfl,_,_,rfl,rfl,.inl ⟨by omega,by omega⟩,_,rfl,_,_,rfl,rfl,.inr ⟨by omega,by omega⟩,_,_,rfl,rfl,_,_,rfl,rfl,(by show (0:Int) < 2147483587;decide),?_⟩
    exact ⟨_,rfl,_,_,rfl,rfl,⟨by decide,by decide⟩,_,rfl,_,_,rfl,rfl,(by omega),fin _ _ (fun _=>⟨y0,y1⟩)⟩
end
end G
namespace G
open PySem PySem.Spec PyProof.Rows L2 Mt
theorem sum_pos:∀ {ns:List Int} {m:Int},(∀ x ∈ ns,0 <= x)->m ∈ ns->(∀ n ∈ ns,n <= m)->(0 < m ↔ 0 < ns.sum):=by
  intro ns m h0 hm hle
  constructor
  · intro hp
    have:∀ {l:List Int},(∀ x ∈ l,0 <= x)->m ∈ l->m <= l.sum:=by
      intro l
      induction l with
      | nil=>intro _ z;cases z
      | cons a l ih =>
        intro h z
        rw [List.sum_cons]
        have h1:=h a List.mem_cons_self
        have h2:=Mt.sum_nonneg (l:=l) fun x hx=>h x (List.mem_cons_of_mem _ hx)
        rcases List.mem_cons.mp z with z | z
        · subst z;omega
        · have:=ih (fun x hx=>h x (List.mem_cons_of_mem _ hx)) z;omega
    have:=this h0 hm
    omega
  · intro hs
    by_cases hp:0 < m
    · exact hp
    · exfalso
      have:∀ {l:List Int},(∀ x ∈ l,x <= 0)->l.sum <= 0:=by
        intro l
        induction l with
        | nil=>intro _;decide
        | cons a l ih =>
          intro h
          rw [List.sum_cons]
          have h1:=h a List.mem_cons_self
          have h2:=ih fun x hx=>h x (List.mem_cons_of_mem _ hx)
          omega
      have:=this (l:=ns) fun x hx=>by have:=hle x hx;omega
      omega
section
variable {P:Program} {w:World} {K:PySem.W.Frag} {mg:Str->Option Value} {base:Heap} {f:Addr} {fd:FuncData}
abbrev s_whole:Stmt:=top 36
theorem sc_whole:FnScope ["_law_thing","_law_least","_law_most"] ["_law_thing","_law_least","_law_most"] (defScope s_whole):=⟨rfl,rfl,rfl,by decide +kernel,rfl,by decide +kernel,by decide +kernel⟩
theorem ok_whole (F:Fun K "_law_whole" "_law_whole" s_whole f fd) (B:Bt mg):FnOk P w K mg base CX0 1 f fd ["_law_thing","_law_least","_law_most"] sp_is_whole:=by
  refine F.ok sc_whole (fun vs H Q E h=>?_) (fun cdv A outer s H vs Q E hr h=>?_)
  · obtain ⟨v,st,d,lo,hi,rfl,_⟩:=h
    rfl
  obtain ⟨v,st,d,lo,hi,rfl,hd,q⟩:=h
  refine ⟨_,pss_one (ps_ret (pe_and (pe_callB (call_isi kit_int) rfl B.isinstance boot_isinstance (pa_cons (pv 0) (pa_cons (pe_bty rfl B.int boot_int) pa_nil)))
    (pe_and (pe_not (pe_callB (call_isi kit_bool) rfl B.isinstance boot_isinstance (pa_cons (pv 0) (pa_cons (pe_bty rfl B.bool boot_bool) pa_nil)))) (pe_one (pe_chain op_le op_le (pv 1) (pv 0) (pv 2)))))),?_⟩
  refine ⟨_,rfl,v,st,d,rfl,hd,_,rfl,?_⟩
  cases d with
  | bool b=>exact iteT ⟨_,rfl,v,st,_,rfl,hd,_,rfl,_,rfl,iteF q⟩
  | int i =>
    refine iteT ⟨_,rfl,v,st,.int i,rfl,hd,_,rfl,_,rfl,iteT ?_⟩
    unfold Dt at hd
    subst hd
    refine ⟨_,rfl,_,rfl,lo,i,rfl,rfl,_,rfl,?_⟩
    have q':Q (.bl (decide (lo <= i) && decide (i <= hi))) H:=q
    by_cases h1:lo <= i
    · rw [decide_eq_true h1,Bool.true_and] at q'
      rw [decide_eq_true h1]
      exact iteT ⟨_,rfl,i,hi,rfl,rfl,q'⟩
    · rw [decide_eq_false h1,Bool.false_and] at q'
      rw [decide_eq_false h1]
      exact iteF q'
  | _=>exact iteF q
abbrev s_lis_urn:Stmt:=top 37
theorem sc_lis_urn:FnScope ["_law_thing","_law_many"] ["_law_thing"] (defScope s_lis_urn):=⟨rfl,rfl,rfl,by decide +kernel,rfl,by decide +kernel,by decide +kernel⟩
theorem ok_lis_urn (F:Fun K "_law_is_urn" "_law_is_urn" s_lis_urn f fd) (B:Bt mg) (c1:Cal P w K mg base 1 "_law_whole" ["_law_thing","_law_least","_law_most"] sp_is_whole):FnOk P w K mg base CX0 2 f fd ["_law_thing"] sp_is_urn:=by
  refine F.ok sc_lis_urn (fun vs H Q E h=>?_) (fun cdv A outer s H vs Q E hr h=>?_)
  · obtain ⟨v,st,d,rfl,_⟩:=h
    rfl
  obtain ⟨v,st,d,rfl,hd,hl,q⟩:=h
  refine ⟨_,pss_cons (ps_if (PW.pt (pw_or (pt_not (pt_val (pe_callB (call_isi kit_tup) rfl B.isinstance boot_isinstance (pa_cons (pv 0) (pa_cons (pe_bty rfl B.tuple boot_tuple) pa_nil)))))
      (pw_or1 (pt_not (pt_chain op_le op_le pe_int (pe_callB call_len_seq rfl B.len PySem.boot_len (pa_cons (pv 0) pa_nil)) pe_int))))) (pss_one (ps_ret pe_bl)) pss_nil)
    (pss_cons (ps_for PassesOwn.never rfl (pi_tup (pv 0)) (pg_name (i:=1) sc_lis_urn.nd rfl (Or.inl rfl))
      (pss_one (ps_if (pt_not (pt_val (pe_cal c1 hr rfl (pa_cons (pv 1) (pa_cons pe_int (pa_cons pe_int pa_nil)))))) (pss_one (ps_ret pe_bl)) pss_nil)))
    (pss_one (ps_ret (pe_cmpR op_gt (pe_callB (call_max_seq rfl) rfl B.max boot_max (pa_cons (pv 0) pa_nil)) pe_int (nomark _))))),?_⟩
  refine ⟨_,rfl,v,st,d,rfl,hd,_,rfl,?_⟩
  have no:(∀ ds,d=.tuple ds->¬ (1 <= ds.length/\ds.length <= 4) ∨ ds.all (wholeD 0 20)=false)->urnD 20 d=false:=fun h=>by
    unfold urnD
    cases d with
    | tuple ds =>
      rcases h ds rfl with z | z
      · show (ds.all (wholeD 0 20) && ((decide ((1:Int) <= (ds.length:Int)) && decide ((ds.length:Int) <= 4)) && _))=false
        have:(decide ((1:Int) <= (ds.length:Int)) && decide ((ds.length:Int) <= 4))=false:=by
          rw [Bool.and_eq_false_iff,decide_eq_false_iff_not,decide_eq_false_iff_not];omega
        rw [this,Bool.false_and,Bool.and_false]
      · show (ds.all (wholeD 0 20) && _)=false
        rw [z,Bool.false_and]
    | _=>rfl
  cases d with
  | tuple ds =>
    obtain ⟨a,xs,e,ne,ha,hds⟩:=hd.untup
    subst e
    have hlen:=hds.len
    refine iteF ⟨_,rfl,a,xs,rfl,.inr (.of ha),_,_,rfl,rfl,_,rfl,?_⟩
    have bad:¬ (1 <= ds.length/\ds.length <= 4)->Q (.bl false) H:=fun z=>by
      have:=q H (Same.refl H)
      rw [no fun ds' e=>by cases e;exact .inl z] at this
      exact this
    rw [<- hlen]
    by_cases h1:(1:Int) <= (ds.length:Int)
    · rw [decide_eq_true h1]
      refine iteT ⟨_,_,rfl,rfl,_,rfl,?_⟩
      by_cases h4:(ds.length:Int) <= 4
      · rw [decide_eq_true h4]
        refine iteF ⟨_,rfl,a,rfl,⟨xs,.of ha⟩,?_⟩
        refine for_tup (K:=K) (a:=a) (xs:=xs) (fun i σ H2=>Same H H2/\i <= ds.length/\(∃ o,σ=[some (.ref a),o])/\(ds.take i).all (wholeD 0 20)=true) ⟨Same.refl H,Nat.zero_le _,⟨_,rfl⟩,rfl⟩ (fun i σ H2 _ h=>.of (h.1 _ _ ha)) (fun i x σ H2 hx h=>?_) (fun σ H2 h=>?_)
        · obtain ⟨g2,hi,⟨o,rfl⟩,hal⟩:=h
          obtain ⟨d,hd',dt⟩:=hds.get hx
          refine ⟨_,rfl,x,st,d,0,20,rfl,dt.kp (g2.kp st),_,rfl,?_⟩
          cases hw:wholeD 0 20 d with
          | true =>
            refine iteF ⟨g2,(List.getElem?_eq_some_iff.mp hd').1,⟨_,rfl⟩,?_⟩
            rw [List.take_add_one,hd',List.all_append,hal]
            show (true && ([d].all (wholeD 0 20)))=true
            rw [List.all_cons,hw];rfl
          | false =>
            refine iteT ?_
            have:=q H2 g2
            rw [no fun ds' e=>by
              cases e
              refine .inr (Bool.eq_false_iff.mpr fun z=>?_)
              rw [List.all_eq_true.mp z d (List.mem_of_getElem? hd')] at hw
              cases hw] at this
            exact this
        · obtain ⟨g2,_,⟨o,rfl⟩,hal⟩:=h
          rw [<- hlen,List.take_length] at hal
          obtain ⟨ns,e,hns⟩:=all_ints hal
          subst e
          have hxs:=hds.ints_eq
          subst hxs
          have hlen2:(ns.map PyData.int).length=ns.length:=List.length_map ..
          refine ⟨_,rfl,a,ns,rfl,.inr (.of (g2 _ _ ha)),(fun z=>by rw [hlen2,z] at h1;exact absurd h1 (by decide)),fun m hm hle=>⟨_,_,rfl,rfl,?_⟩⟩
          have:=q H2 g2
          unfold urnD at this
          rw [lenD_DI,sumD_DI,show wholesD 0 20 (.tuple (ns.map PyData.int))=true from hal,Bool.true_and] at this
          rw [hlen2] at h1 h4
          rw [decide_eq_true h1,decide_eq_true h4,Bool.true_and,Bool.true_and] at this
          have e2:decide (0 < m)=decide ((0:Int) < ns.sum):=decide_eq_decide.mpr (sum_pos (fun x hx=>(hns x hx).1) hm hle)
          show Q (.bl (decide (0 < m))) H2
          rw [e2];exact this
      · rw [decide_eq_false h4]
        exact iteT (bad fun z=>h4 (by omega))
    · rw [decide_eq_false h1]
      exact iteF ⟨_,rfl,iteT (bad fun z=>h1 (by omega))⟩
  | _=>exact iteT (iteT (by have:=q H (Same.refl H);rw [no fun ds e=>by cases e] at this;exact this))
def sp_lis_rule:Sp:=fun vs H Q _=>∃ (v:V) (st:Addr) (d:PyData) (k:Int),vs=[.int k,v]/\Dt st H d v/\∀ H',Same H H'->Q (.bl (ruleD k d)) H'
abbrev s_lis_rule:Stmt:=top 38
theorem sc_lis_rule:FnScope ["_law_kinds","_law_thing","_law_line","_law_many"] ["_law_kinds","_law_thing"] (defScope s_lis_rule):=⟨rfl,rfl,rfl,by decide +kernel,rfl,by decide +kernel,by decide +kernel⟩
theorem ok_lis_rule (F:Fun K "_law_is_rule" "_law_is_rule" s_lis_rule f fd) (B:Bt mg) (c1:Cal P w K mg base 1 "_law_whole" ["_law_thing","_law_least","_law_most"] sp_is_whole):FnOk P w K mg base CX0 2 f fd ["_law_kinds","_law_thing"] sp_lis_rule:=by
  refine F.ok sc_lis_rule (fun vs H Q E h=>?_) (fun cdv A outer s H vs Q E hr h=>?_)
  · obtain ⟨v,st,d,k,rfl,_⟩:=h
    rfl
  obtain ⟨v,st,d,k,rfl,hd,q⟩:=h
  refine ⟨_,pss_cons (ps_if (PW.pt (pw_or (pt_not (pt_val (pe_callB (call_isi kit_tup) rfl B.isinstance boot_isinstance (pa_cons (pv 1) (pa_cons (pe_bty rfl B.tuple boot_tuple) pa_nil)))))
      (pw_or1 (pt_cmpR op_ne (pe_callB call_len_seq rfl B.len PySem.boot_len (pa_cons (pv 1) pa_nil)) (pv 0) (nomark _))))) (pss_one (ps_ret pe_bl)) pss_nil)
    (pss_cons (ps_for PassesOwn.never rfl (pi_tup (pv 1)) (pg_name (i:=2) sc_lis_rule.nd rfl (Or.inl rfl))
      (pss_cons (ps_if (PW.pt (pw_or (pt_not (pt_val (pe_callB (call_isi kit_tup) rfl B.isinstance boot_isinstance (pa_cons (pv 2) (pa_cons (pe_bty rfl B.tuple boot_tuple) pa_nil)))))
      (pw_or1 (pt_cmpR op_ne (pe_callB call_len_seq rfl B.len PySem.boot_len (pa_cons (pv 2) pa_nil)) (pv 0) (nomark _))))) (pss_one (ps_ret pe_bl)) pss_nil)
      (pss_one (ps_for PassesOwn.never rfl (pi_tup (pv 2)) (pg_name (i:=3) sc_lis_rule.nd rfl (Or.inl rfl))
        (pss_one (ps_if (pt_not (pt_val (pe_cal c1 hr rfl (pa_cons (pv 3) (pa_cons pe_int (pa_cons pe_int pa_nil)))))) (pss_one (ps_ret pe_bl)) pss_nil))))))
    (pss_one (ps_ret pe_bl))),?_⟩
  refine ⟨_,rfl,v,st,d,rfl,hd,_,rfl,?_⟩
  cases d with
  | tuple ds =>
    obtain ⟨a,xs,e,ne,ha,hds⟩:=hd.untup
    subst e
    have hlen:=hds.len
    have qr:∀ (b:Bool) (H':Hp),Same H H'->b=(decide ((ds.length:Int)=k) && ds.all (fun r=>wholesD 0 5 r && decide ((lenD r:Int)=k)))->Q (.bl b) H':=fun b H' g e=>by
      have:=q H' g
      rw [e]
      exact this
    refine iteF ⟨_,rfl,a,xs,rfl,.inr (.of ha),_,rfl,rfl,_,rfl,?_⟩
    by_cases hk:(ds.length:Int)=k
    · have e1:V.int (xs.length:Int)=V.int k:=by rw [<- hlen,hk]
      rw [decide_eq_true e1]
      refine iteF ⟨_,rfl,a,rfl,⟨xs,.of ha⟩,?_⟩
      refine for_tup (K:=K) (a:=a) (xs:=xs) (fun i σ H2=>Same H H2/\i <= ds.length/\(∃ o o',σ=[some (.int k),some (.ref a),o,o'])/\(ds.take i).all (fun r=>wholesD 0 5 r && decide ((lenD r:Int)=k))=true) ⟨Same.refl H,Nat.zero_le _,⟨_,_,rfl⟩,rfl⟩ (fun i σ H2 _ h=>.of (h.1 _ _ ha)) (fun i x σ H2 hx h=>?_) (fun σ H2 h=>?_)
      · obtain ⟨g2,hi,⟨o,o',rfl⟩,hal⟩:=h
        obtain ⟨r,hd',dt0⟩:=hds.get hx
        have dt:=dt0.kp (g2.kp st)
        have bad:(wholesD 0 5 r && decide ((lenD r:Int)=k))=false->∀ H3,Same H H3->Q (.bl false) H3:=fun z H3 g3=>qr _ _ g3 (by
          rw [decide_eq_true hk,Bool.true_and]
          refine (Bool.eq_false_iff.mpr fun y=>?_).symm
          rw [List.all_eq_true.mp y r (List.mem_of_getElem? hd')] at z
          cases z)
        refine ⟨_,rfl,x,st,r,rfl,dt,_,rfl,?_⟩
        cases r with
        | tuple rs =>
          obtain ⟨b,ys,e,_,hb,hrs⟩:=dt.untup
          subst e
          have hl2:=hrs.len
          refine iteF ⟨_,rfl,b,ys,rfl,.inr (.of hb),_,rfl,rfl,_,rfl,?_⟩
          by_cases hk2:(rs.length:Int)=k
          · have e2:V.int (ys.length:Int)=V.int k:=by rw [<- hl2,hk2]
            rw [decide_eq_true e2]
            refine iteF ⟨_,rfl,b,rfl,⟨ys,.of hb⟩,?_⟩
            refine for_tup (K:=K) (a:=b) (xs:=ys) (fun j σ H3=>Same H2 H3/\j <= rs.length/\(∃ o',σ=[some (.int k),some (.ref a),some (.ref b),o'])/\(rs.take j).all (wholeD 0 5)=true) ⟨Same.refl H2,Nat.zero_le _,⟨_,rfl⟩,rfl⟩ (fun i σ H3 _ h=>.of (h.1 _ _ hb)) (fun j y σ H3 hy h=>?_) (fun σ H3 h=>?_)
            · obtain ⟨g3,hj,⟨o',rfl⟩,hal3⟩:=h
              obtain ⟨d,hd3,dt3⟩:=hrs.get hy
              refine ⟨_,rfl,y,st,d,0,5,rfl,dt3.kp (g3.kp st),_,rfl,?_⟩
              cases hw:wholeD 0 5 d with
              | true =>
                refine iteF ⟨g3,(List.getElem?_eq_some_iff.mp hd3).1,⟨_,rfl⟩,?_⟩
                rw [List.take_add_one,hd3,List.all_append,hal3]
                show (true && ([d].all (wholeD 0 5)))=true
                rw [List.all_cons,hw];rfl
              | false =>
                refine iteT (bad ?_ H3 (g2.trans g3))
                have:wholesD 0 5 (.tuple rs)=false:=Bool.eq_false_iff.mpr fun z=>by
                  rw [List.all_eq_true.mp (show rs.all (wholeD 0 5)=true from z) d (List.mem_of_getElem? hd3)] at hw
                  cases hw
                rw [this,Bool.false_and]
            · obtain ⟨g3,_,⟨o',rfl⟩,hal3⟩:=h
              rw [<- hl2,List.take_length] at hal3
              refine ⟨g2.trans g3,(List.getElem?_eq_some_iff.mp hd').1,⟨_,_,rfl⟩,?_⟩
              rw [List.take_add_one,hd',List.all_append,hal]
              show (true && ([PyData.tuple rs].all _))=true
              rw [List.all_cons,show wholesD 0 5 (.tuple rs)=true from hal3,show decide ((lenD (.tuple rs):Int)=k)=true from decide_eq_true hk2];rfl
          · have e2:¬ V.int (ys.length:Int)=V.int k:=fun e=>hk2 (by rw [hl2];injection e)
            rw [decide_eq_false e2]
            refine iteT (bad ?_ H2 g2)
            rw [show decide ((lenD (.tuple rs):Int)=k)=false from decide_eq_false hk2,Bool.and_false]
        | _=>exact iteT (iteT (bad rfl H2 g2))
      · obtain ⟨g2,_,⟨o,o',rfl⟩,hal⟩:=h
        rw [<- hlen,List.take_length] at hal
        exact qr _ _ g2 (by rw [decide_eq_true hk,hal];rfl)
    · have e1:¬ V.int (xs.length:Int)=V.int k:=fun e=>hk (by rw [hlen];injection e)
      rw [decide_eq_false e1]
      exact iteT (qr _ _ (Same.refl H) (by rw [decide_eq_false hk];rfl))
  | _=>exact iteT (iteT (q H (Same.refl H)))
end
end G
namespace G
open PySem PySem.Spec PyProof.Rows L2 Mt
theorem ixN_nat {n k:Nat} (h:k < n):ixN n (k:Int)=some k:=by
  unfold ixN
  rw [if_pos (by omega),if_pos (by omega)];simp
theorem set_pos':∀ {l:List Int} {y:Nat} {v:Int},(∀ x ∈ l,0 <= x)->0 < v->y < l.length->0 < (l.set y v).sum
  | [],y,_,_,_,h=>by simp at h
  | a :: l,0,v,h,hv,_=>by
    rw [List.set_cons_zero,List.sum_cons]
    have:=Mt.sum_nonneg (l:=l) fun x hx=>h x (List.mem_cons_of_mem _ hx)
    omega
  | a :: l,y + 1,v,h,hv,hy=>by
    rw [List.set_cons_succ,List.sum_cons]
    have h1:=set_pos' (l:=l) (y:=y) (fun x hx=>h x (List.mem_cons_of_mem _ hx)) hv (by simpa using hy)
    have h2:=h a List.mem_cons_self
    omega
abbrev DR (rs:List (List Int)):PyData:=.tuple (rs.map DI)
theorem short_DI {ns:List Int} (h:ns.length <= 1000):short (DI ns):=fun ds e=>by
  injection e with e
  rw [<- e,List.length_map];exact h
section
variable {X:Cx}
def rSlS:V->Option Int->Option Int->Hp->VK->Prop:=fun x lo hi H Q=>∃ (a:Addr) (xs:List V),x=.ref a/\H a=some (.tup xs)/\∀ p H',Same H H'->H' p=some (.tup (cutV xs lo hi))->Q (.ref p) H'
end
section
variable {P:Program} {w:World} {K:PySem.W.Frag} {mg:Str->Option Value} {base:Heap} {f:Addr} {fd:FuncData}
def Sta (l:Addr) (b:Bool) (H H':Hp):Prop:=Kp l H H'/\∃ x,H' l=some (.lst [.int x,.bl b])/\StOk x b
theorem Sta.start {l:Addr} {b:Bool} {H:Hp} {x:Int} (h:H l=some (.lst [.int x,.bl b])) (ok:StOk x b):Sta l b H H:=⟨Kp.refl l H,x,h,ok⟩
theorem Sta.same {l:Addr} {b:Bool} {H H1 H2:Hp} (s:Sta l b H H1) (g:Same H1 H2):Sta l b H H2:=by
  obtain ⟨k,x,h,ok⟩:=s
  exact ⟨k.trans (g.kp l),x,g _ _ h,ok⟩
theorem Sta.new {l:Addr} {b:Bool} {H H1:Hp} {p:Addr} {o:HO} (s:Sta l b H H1) (h:H1 p=none):Sta l b H (upd H1 p o):=s.same (Same.new h)
theorem Sta.ne {l:Addr} {b:Bool} {H H1:Hp} {p:Addr} (s:Sta l b H H1) (h:H1 p=none):l ≠ p:=by
  obtain ⟨_,x,e,_⟩:=s
  exact ne_of_none e h
theorem Sta.go {l:Addr} {b:Bool} {H H1:Hp} {x:Int} (s:Sta l b H H1) (ok:StOk x b):Sta l b H (upd H1 l (.lst [.int x,.bl b])):=⟨s.1.trans Kp.at,x,upd_same,ok⟩
def sp_lurn:Sp:=fun vs H Q _=>∃ (l:Addr) (n:Nat) (x:Int) (b:Bool),vs=[.ref l,.int n]/\H l=some (.lst [.int x,.bl b])/\StOk x b/\1 <= n/\n <= 4 /\
  ∀ (p:Addr) (H':Hp) (ns:List Int),Sta l b H H'->H' p=some (.tup (ns.map V.int))->Mt.Urn n 20 ns->Q (.ref p) H'
abbrev s_lurn:Stmt:=top 34
theorem sc_lurn:FnScope ["_law_state_here","_law_kinds","_law_most","_law_found"] ["_law_state_here","_law_kinds"] (defScope s_lurn):=⟨rfl,rfl,rfl,by decide +kernel,rfl,by decide +kernel,by decide +kernel⟩
theorem ok_lurn (F:Fun K "_law_urn" "_law_urn" s_lurn f fd) (B:Bt mg) (c1:Cal P w K mg base 1 "_law_take" ["_law_state_here","_law_many"] sp_take):FnOk P w K mg base CX0 2 f fd ["_law_state_here","_law_kinds"] sp_lurn:=by
  refine F.ok sc_lurn (fun vs H Q E h=>?_) (fun cdv A outer s H vs Q E hr h=>?_)
  · obtain ⟨l,n,x,b,rfl,_⟩:=h
    rfl
  obtain ⟨l,n,x,b,rfl,hl,hst,n1,n4,q⟩:=h
  refine ⟨_,pss_cons (ps_set (i:=2) sc_lurn.nd rfl (Or.inr rfl) (pe_ix ix_list (pe_lst (pa_cons pe_int (pa_cons pe_int (pa_cons pe_int pa_nil)))) (pe_cal c1 hr rfl (pa_cons (pv 0) (pa_cons pe_int pa_nil))) (fun _ _=>rfl)))
    (pss_cons (ps_setcompG (N:=["_law_kind","_law_state_here","_law_most"]) (ix:=[none,some 0,some 2]) (ifs:=[]) (tc:=tTrue) (i:=3) rfl sc_lurn.nd rfl rfl (pi_range1 rfl B.range (pa_cons (pv 1) pa_nil))
      (fun s H ex=>pg_c (i:=0) (by decide +kernel) rfl (Or.inl rfl) (.inr rfl)) (fun s H ex=>pifs_nil) (fun s H ex=>pe_cal c1 hr rfl (pa_cons (pv 1) (pa_cons (pv 2) pa_nil))) rfl (by decide +kernel) (by rfl) (by rfl) (fun _=>rfl) (by rfl))
    (pss_cons (ps_if (pt_cmpR op_eq (pe_callB (call_sum_seq rfl) rfl B.sum boot_sum (pa_cons (pv 3) pa_nil)) pe_int (nomark _)) (pss_one (ps_asg (pe_op op_add pe_int (pe_cal c1 hr rfl (pa_cons (pv 0) (pa_cons pe_int pa_nil)))) (pg_sub (pv 3) (pe_cal c1 hr rfl (pa_cons (pv 0) (pa_cons (pv 1) pa_nil))) set_list))) pss_nil)
    (pss_one (ps_ret (pe_callTy call_tuple_of rfl B.tuple boot_tuple (pa_cons (pv 3) pa_nil)))))),?_⟩
  have s0:Sta l b H H:=Sta.start hl hst
  refine ⟨(by show 3 <= sizeLine;decide),fun p0 hp0=>⟨_,rfl,?_⟩⟩
  have s1:Sta l b H (upd H p0 (.lst [.int 3,.int 8,.int 21])):=s0.new hp0
  obtain ⟨_,x1,hx1,ok1⟩:=id s1
  refine ⟨l,3,x1,b,rfl,hx1,ok1,by decide,by decide,fun y x2 hy ok2=>?_⟩
  have s2:=s1.go ok2
  have k2:Kp l (upd H p0 (.lst [.int 3,.int 8,.int 21])) (upd (upd H p0 (.lst [.int 3,.int 8,.int 21])) l (.lst [.int x2,.bl b])):=Kp.at
  generalize upd (upd H p0 (.lst [.int 3,.int 8,.int 21])) l (.lst [.int x2,.bl b])=H1 at s2 k2
  have hp1:H1 p0=some (.lst [.int 3,.int 8,.int 21]):=k2 _ _ (s0.ne hp0).symm upd_same
  obtain ⟨m,hm,m1,m2⟩:∃ m:Int,([.int 3,.int 8,.int 21]:List V)[y]?=some (.int m)/\1 <= m/\m <= 21:=by
    have hy':y < 3:=by omega
    match y,hy' with
    | 0,_=>exact ⟨3,rfl,by decide,by decide⟩
    | 1,_=>exact ⟨8,rfl,by decide,by decide⟩
    | 2,_=>exact ⟨21,rfl,by decide,by decide⟩
  refine ⟨p0,_,_,_,rfl,rfl,.of hp1,atI_nat hm,?_⟩
  refine ⟨_,rfl,(n:Int),rfl,by omega,by omega,?_⟩
  refine blk_range (lo:=0) (n:=n) (sz (by omega)) (fun i ys H2=>Sta l b H H2/\∃ ns:List Int,ys=ns.map V.int/\ns.length=i/\∀ z ∈ ns,0 <= z/\z <= 20)
    ⟨s2,[],rfl,rfl,by simp⟩ (fun i ys H2 h=>?_) rfl (fun i ys H2 hi h=>?_) (fun ys H2 h=>?_)
  · obtain ⟨_,ns,rfl,hn,_⟩:=h
    rw [List.length_map];exact hn
  · obtain ⟨s3,ns,rfl,hn,hb⟩:=h
    obtain ⟨_,x3,hx3,ok3⟩:=id s3
    refine ⟨_,rfl,_,rfl,l,m,x3,b,rfl,hx3,ok3,m1,by omega,fun y x4 hy ok4=>?_⟩
    refine ⟨s3.go ok4,ns ++ [(y:Int)],by rw [List.map_append];rfl,by rw [List.length_append,hn];rfl,fun z hz=>?_⟩
    rcases List.mem_append.mp hz with h | h
    · exact hb z h
    · rw [List.mem_singleton.mp h];omega
  · obtain ⟨s3,ns,rfl,hn,hb⟩:=h
    intro p hp
    have s4:Sta l b H (upd H2 p (.lst (ns.map V.int))):=s3.new hp
    have hpl:p ≠ l:=(s3.ne hp).symm
    refine ⟨_,rfl,p,ns,rfl,.inl (.of upd_same),rfl,_,rfl,?_⟩
    by_cases hz:ns.sum=0
    · rw [hz,decide_eq_true rfl]
      obtain ⟨_,x4,hx4,ok4⟩:=id s4
      refine iteT ⟨_,rfl,l,20,x4,b,rfl,hx4,ok4,by decide,by decide,fun v x5 hv ok5=>?_⟩
      have s5:=s4.go ok5
      have k5:Kp l (upd H2 p (.lst (ns.map V.int))) (upd (upd H2 p (.lst (ns.map V.int))) l (.lst [.int x5,.bl b])):=Kp.at
      generalize upd (upd H2 p (.lst (ns.map V.int))) l (.lst [.int x5,.bl b])=H4 at s5 k5
      obtain ⟨_,x6,hx6,ok6⟩:=id s5
      refine ⟨_,_,rfl,rfl,_,rfl,_,rfl,_,rfl,l,n,x6,b,rfl,hx6,ok6,by omega,by omega,fun y x7 hy ok7=>?_⟩
      have s6:=s5.go ok7
      have k6:Kp l H4 (upd H4 l (.lst [.int x7,.bl b])):=Kp.at
      generalize upd H4 l (.lst [.int x7,.bl b])=H5 at s6 k6
      have hp5:H5 p=some (.lst (ns.map V.int)):=k6 _ _ hpl (k5 _ _ hpl upd_same)
      have hpn:H p=none:=by
        cases e:H p with
        | none=>rfl
        | some o=>rw [s3.1 p o hpl e] at hp;cases hp
      have hy':y < ns.length:=by omega
      refine ⟨p,_,_,y,rfl,rfl,hp5,ixN_nat (by rw [List.length_map];exact hy'),?_⟩
      refine ⟨_,rfl,p,_,rfl,.inl ⟨.of upd_same,fun t ht=>?_⟩⟩
      have s7:Sta l b H (upd H5 p (.lst ((ns.map V.int).set y (.int (1 + v))))):=by
        obtain ⟨k,x',e,ok⟩:=s6
        exact ⟨fun c o hc hco=>by rw [upd_ne (fun z=>by rw [z,hpn] at hco;cases hco)];exact k c o hc hco,x',by rw [upd_ne hpl.symm];exact e,ok⟩
      refine q t _ (ns.set y (1 + v)) (s7.new ht) (by rw [upd_same,List.map_set]) ⟨by rw [List.length_set];exact hn,fun z hz=>?_,set_pos' (fun z hz=>(hb z hz).1) (by omega) hy'⟩
      rcases List.mem_or_eq_of_mem_set hz with h | h
      · exact hb z h
      · rw [h];omega
    · rw [decide_eq_false (show ¬ V.int ns.sum=V.int 0 from fun z=>hz (by injection z))]
      refine iteF ⟨_,rfl,p,_,rfl,.inl ⟨.of upd_same,fun t ht=>?_⟩⟩
      refine q t _ ns (s4.new ht) upd_same ⟨hn,hb,?_⟩
      have:=Mt.sum_nonneg (l:=ns) fun z hz=>(hb z hz).1
      omega
end
end G
namespace G
open PySem PySem.Spec PyProof.Rows L2 Mt
theorem cut_drop {xs:List V} {y:Nat} (h:y <= xs.length):cutV xs (some (y:Int)) none=xs.drop y:=by
  unfold cutV
  have e1:HT.sIx xs.length 0 (some (y:Int))=y:=by rw [HT.sIx_nat];omega
  rw [e1,HT.sIx_none]
  exact List.take_of_length_le (by rw [List.length_drop];omega)
theorem cut_take {xs:List V} {y:Nat} (h:y <= xs.length):cutV xs none (some (y:Int))=xs.take y:=by
  unfold cutV
  have e1:HT.sIx xs.length xs.length (some (y:Int))=y:=by rw [HT.sIx_nat];omega
  rw [e1,HT.sIx_none,List.drop_zero,Nat.sub_zero]
theorem Dts_but {st pr:Addr} {H H':Hp} (k:∀ c o,c ≠ pr->H c=some o->H' c=some o) (hp:∀ xs,H pr=some (.tup xs)->False):∀ {rs:List (List Int)} {xs:List V},Dts st H (rs.map DI) xs->Dts st H' (rs.map DI) xs
  | [],_,h=>by unfold Dts at h;subst h;exact Dts.nil _ _
  | r :: rs,_,h=>by
    rw [List.map_cons] at h ⊢
    obtain ⟨x,r',e,h1,h2⟩:=h.uncons
    subst e
    obtain ⟨a,ea,ne,ha⟩:=h1.di
    subst ea
    exact Dts.cons (Dt.mkI ne (k a _ (fun z=>by rw [z] at ha;exact hp _ ha) ha)) (Dts_but k hp h2)
section
variable {P:Program} {w:World} {K:PySem.W.Frag} {mg:Str->Option Value} {base:Heap} {f:Addr} {fd:FuncData}
def sp_lrule:Sp:=fun vs H Q _=>∃ (l:Addr) (n:Nat) (x:Int) (b:Bool),vs=[.ref l,.int n]/\H l=some (.lst [.int x,.bl b])/\StOk x b/\1 <= n/\n <= 4 /\
  ∀ (v:V) (H':Hp) (rs:List (List Int)),Sta l b H H'->Dt l H' (DR rs) v->Mt.Rul n 5 rs->Q v H'
abbrev s_lrule:Stmt:=top 35
theorem sc_lrule:FnScope ["_law_state_here","_law_kinds","_law_way","_law_more","_law_line","_law_rows","_law_kind","_law_at"] ["_law_state_here","_law_kinds"] (defScope s_lrule):=⟨rfl,rfl,rfl,by decide +kernel,rfl,by decide +kernel,by decide +kernel⟩
theorem ok_lrule (F:Fun K "_law_rule" "_law_rule" s_lrule f fd) (B:Bt mg) (c1:Cal P w K mg base 1 "_law_take" ["_law_state_here","_law_many"] sp_take):FnOk P w K mg base CX0 2 f fd ["_law_state_here","_law_kinds"] sp_lrule:=by
  refine F.ok sc_lrule (fun vs H Q E h=>?_) (fun cdv A outer s H vs Q E hr h=>?_)
  · obtain ⟨l,n,x,b,rfl,_⟩:=h
    rfl
  obtain ⟨l,n,x,b,rfl,hl,hst,n1,n4,q⟩:=h
  refine ⟨_,pss_cons (ps_set (i:=2) sc_lrule.nd rfl (Or.inr rfl) (pe_cal c1 hr rfl (pa_cons (pv 0) (pa_cons pe_int pa_nil))))
    (pss_cons (ps_set (i:=3) sc_lrule.nd rfl (Or.inr rfl) (pe_cal c1 hr rfl (pa_cons (pv 0) (pa_cons pe_int pa_nil))))
    (pss_cons (ps_if (pt_cmpR op_eq (pv 2) pe_int (nomark _)) (pss_one (ps_ret (pe_callTy call_tuple_of rfl B.tuple boot_tuple (pa_cons (pe_compG (N:=["_law_one","_law_kinds","_law_more"]) (ix:=[none,some 1,some 3]) (ifs:=[]) (tc:=tTrue) rfl (pi_range1 rfl B.range (pa_cons (pv 1) pa_nil))
        (fun s H ex=>pg_c (i:=0) (by decide +kernel) rfl (Or.inr rfl) (.inl rfl)) (fun s H ex=>pifs_nil)
        (fun s H ex=>pe_callTy (tupK (K:=K) rfl) rfl B.tuple boot_tuple (pa_cons (pe_compG (N:=["_law_other","_law_more","_law_one"]) (ix:=[none,some 2,some 0]) (ifs:=[]) (tc:=tTrue) rfl (pi_range1 rfl B.range (pa_cons (pv 1) pa_nil))
          (fun s H ex=>pg_c (i:=0) (by decide +kernel) rfl (Or.inl rfl) (.inr rfl)) (fun s H ex=>pifs_nil)
          (fun s H ex=>pe_op op_mul (pv 1) (pe_callTy call_int1 rfl B.int boot_int (pa_cons (pe_cmpR op_eq (pv 2) (pv 0) (nomark _)) pa_nil))) rfl (by decide +kernel) (by rfl) (by rfl) (fun _=>rfl)) pa_nil)) rfl (by decide +kernel) (by rfl) (by rfl) (fun _=>rfl)) pa_nil)))) pss_nil)
    (pss_cons (ps_if (pt_cmpR op_eq (pv 2) pe_int (nomark _))
      (pss_cons (ps_setcompG (N:=["_law_kind","_law_state_here"]) (ix:=[none,some 0]) (ifs:=[]) (tc:=tTrue) (i:=4) rfl sc_lrule.nd rfl rfl (pi_range1 rfl B.range (pa_cons (pv 1) pa_nil))
        (fun s H ex=>pg_c (i:=0) (by decide +kernel) rfl (Or.inl rfl) (.inr rfl)) (fun s H ex=>pifs_nil) (fun s H ex=>pe_cal c1 hr rfl (pa_cons (pv 1) (pa_cons pe_int pa_nil))) rfl (by decide +kernel) (by rfl) (by rfl) (fun _=>rfl) (by rfl))
      (pss_cons (ps_set (i:=5) sc_lrule.nd rfl (Or.inl rfl) (pe_lst pa_nil))
      (pss_cons (ps_for PassesOwn.never rfl (pi_range1 rfl B.range (pa_cons (pv 1) pa_nil)) (pg_name (i:=6) sc_lrule.nd rfl (Or.inl rfl))
        (pss_cons (ps_set (i:=7) sc_lrule.nd rfl (Or.inl rfl) (pe_cal c1 hr rfl (pa_cons (pv 0) (pa_cons (pv 1) pa_nil))))
        (pss_one (ps_expr (pe_bm PySem.F.plainAttrs_list PySem.F.slot_list_append PySem.F.type_list_append mt_append (pv 5) (pa_cons (pe_callTy call_tuple_of rfl B.tuple boot_tuple (pa_cons (pe_op op_cat (pe_slice sl_list (pv 4) (po_some (pv 7)) po_none) (pe_slice sl_list (pv 4) po_none (po_some (pv 7)))) pa_nil)) pa_nil))))))
      (pss_one (ps_ret (pe_callTy call_tuple_of rfl B.tuple boot_tuple (pa_cons (pv 5) pa_nil))))))) pss_nil)
    (pss_one (ps_ret (pe_callTy call_tuple_of rfl B.tuple boot_tuple (pa_cons (pe_compG (N:=["_law_one","_law_kinds","_law_state_here","_law_way"]) (ix:=[none,some 1,some 0,some 2]) (ifs:=[]) (tc:=tTrue) rfl (pi_range1 rfl B.range (pa_cons (pv 1) pa_nil))
        (fun s H ex=>pg_c (i:=0) (by decide +kernel) rfl (Or.inl rfl) (.inr rfl)) (fun s H ex=>pifs_nil)
        (fun s H ex=>pe_callTy (tupK (K:=K) rfl) rfl B.tuple boot_tuple (pa_cons (pe_compG (N:=["_law_other","_law_state_here","_law_way"]) (ix:=[none,some 2,some 3]) (ifs:=[]) (tc:=tTrue) rfl (pi_range1 rfl B.range (pa_cons (pv 1) pa_nil))
          (fun s H ex=>pg_c (i:=0) (by decide +kernel) rfl (Or.inl rfl) (.inr rfl)) (fun s H ex=>pifs_nil)
          (fun s H ex=>pe_cal c1 hr rfl (pa_cons (pv 1) (pa_cons (pe_ix (ixLK (K:=K) rfl) (pe_lst (pa_cons pe_int (pa_cons pe_int pa_nil))) (pe_op op_sub (pv 2) pe_int) (fun _ _=>rfl)) pa_nil))) rfl (by decide +kernel) (by rfl) (by rfl) (fun _=>rfl)) pa_nil)) rfl (by decide +kernel) (by rfl) (by rfl) (fun _=>rfl)) pa_nil))))))),?_⟩
  have lo62:-(2 ^ 62) <= ((n:Nat):Int):=by omega
  have hi62:((n:Nat):Int) < 2 ^ 62:=by omega
  have s0:Sta l b H H:=Sta.start hl hst
  have fin:∀ (rs:List (List Int)) (ys:List V) (H3:Hp) (p ra:Addr),Sta l b H H3->rs.length=n->(∀ r ∈ rs,Mt.Row n 5 r)->Dts l H3 (rs.map DI) ys->H3 p=none->upd H3 p (.lst ys) ra=none->Q (.ref ra) (upd (upd H3 p (.lst ys)) ra (.tup ys)):=fun rs ys H3 p ra s3 h1 h2 h3 hp hra=>by
    have s4:Sta l b H (upd H3 p (.lst ys)):=s3.new hp
    exact q _ _ rs (s4.new hra) (Dt.tup (s4.ne hra).symm upd_same (h3.kp ((Kp.new hp).trans (Kp.new hra)))) ⟨h1,h2⟩
  refine ⟨_,rfl,l,4,x,b,rfl,hl,hst,by decide,by decide,fun wy x1 hwy ok1=>?_⟩
  have s1:=s0.go ok1
  show tSeq _ _ _ _ (upd H l (.lst [.int x1,.bl b]))
  generalize upd H l (.lst [.int x1,.bl b])=H1 at s1
  obtain ⟨_,x2,hx2,ok2⟩:=id s1
  refine ⟨_,rfl,l,6,x2,b,rfl,hx2,ok2,by decide,by decide,fun mo x3 hmo ok3=>?_⟩
  have s2:=s1.go ok3
  show tSeq _ _ _ _ (upd H1 l (.lst [.int x3,.bl b]))
  generalize upd H1 l (.lst [.int x3,.bl b])=H2 at s2
  refine ⟨_,rfl,rfl,_,rfl,ite2 (fun c=>?_) (fun c=>?_)⟩
  · refine ⟨_,rfl,(n:Int),rfl,lo62,hi62,?_⟩
    refine blk_range (lo:=0) (n:=n) (sz (by omega)) (fun i ys H3=>Sta l b H H3/\∃ rs:List (List Int),rs.length=i/\(∀ r ∈ rs,Mt.Row n 5 r)/\Dts l H3 (rs.map DI) ys)
      ⟨s2,[],rfl,by simp,Dts.nil _ _⟩ (fun i ys H3 h=>?_) rfl (fun i ys H3 hi h=>?_) (fun ys H3 h=>?_)
    · obtain ⟨_,rs,hr1,_,hd⟩:=h
      rw [<- hd.len,List.length_map];exact hr1
    · obtain ⟨s3,rs,hr1,hr2,hd⟩:=h
      refine ⟨_,rfl,(n:Int),rfl,lo62,hi62,?_⟩
      refine blk_range (lo:=0) (n:=n) (sz (by omega)) (fun j zs H4=>Sta l b H H4/\Kp l H3 H4/\∃ r:List Int,zs=r.map V.int/\r.length=j/\∀ z ∈ r,0 <= z/\z <= 5)
        ⟨s3,Kp.refl _ _,[],rfl,rfl,by simp⟩ (fun j zs H4 h=>?_) rfl (fun j zs H4 hj h=>?_) (fun zs H4 h=>?_)
      · obtain ⟨_,_,r,rfl,hr,_⟩:=h
        rw [List.length_map];exact hr
      · obtain ⟨s4,k4,r,rfl,hr,hz⟩:=h
        refine ⟨_,rfl,_,rfl,_,rfl,rfl,.inr ⟨_,rfl,_,_,rfl,rfl,.inl ⟨by omega,by omega⟩,?_⟩⟩
        refine ⟨s4,k4,r ++ [_],by rw [List.map_append];rfl,by rw [List.length_append,hr];rfl,fun z hz'=>?_⟩
        rcases List.mem_append.mp hz' with h | h
        · exact hz z h
        · rw [List.mem_singleton.mp h]
          split <;> omega
      · obtain ⟨s4,k4,r,rfl,hr,hz⟩:=h
        intro p hp
        have s5:Sta l b H (upd H4 p (.lst (r.map V.int))):=s4.new hp
        refine ⟨p,_,rfl,.inl ⟨.of upd_same,fun t ht=>?_⟩⟩
        have kk:Kp l H3 (upd (upd H4 p (.lst (r.map V.int))) t (.tup (r.map V.int))):=(k4.trans (Kp.new hp)).trans (Kp.new ht)
        refine ⟨s5.new ht,rs ++ [r],by rw [List.length_append,hr1];rfl,fun r' hr'=>?_,?_⟩
        · rcases List.mem_append.mp hr' with h | h
          · exact hr2 r' h
          · rw [List.mem_singleton.mp h];exact ⟨hr,hz⟩
        · rw [List.map_append]
          exact (hd.kp kk).append (Dts.cons (Dt.mkI (s5.ne ht).symm upd_same) (Dts.nil _ _))
    · obtain ⟨s3,rs,hr1,hr2,hd⟩:=h
      exact fun p hp=>⟨p,_,rfl,.inl ⟨.of upd_same,fun ra hra=>fin rs ys H3 p ra s3 hr1 hr2 hd hp hra⟩⟩
  · refine ⟨_,rfl,rfl,_,rfl,ite2 (fun c2=>?_) (fun c2=>?_)⟩
    · refine ⟨_,rfl,(n:Int),rfl,lo62,hi62,?_⟩
      refine blk_range (lo:=0) (n:=n) (sz (by omega)) (fun i ys H3=>Sta l b H H3/\∃ ns:List Int,ys=ns.map V.int/\ns.length=i/\∀ z ∈ ns,0 <= z/\z <= 2)
        ⟨s2,[],rfl,rfl,by simp⟩ (fun i ys H3 h=>?_) rfl (fun i ys H3 hi h=>?_) (fun ys H3 h=>?_)
      · obtain ⟨_,ns,rfl,hn,_⟩:=h
        rw [List.length_map];exact hn
      · obtain ⟨s3,ns,rfl,hn,hb⟩:=h
        obtain ⟨_,x4,hx4,ok4⟩:=id s3
        refine ⟨_,rfl,l,3,x4,b,rfl,hx4,ok4,by decide,by decide,fun y x5 hy ok5=>?_⟩
        refine ⟨s3.go ok5,ns ++ [(y:Int)],by rw [List.map_append];rfl,by rw [List.length_append,hn];rfl,fun z hz=>?_⟩
        rcases List.mem_append.mp hz with h | h
        · exact hb z h
        · rw [List.mem_singleton.mp h];omega
      · obtain ⟨s3,ns,rfl,hn,hb⟩:=h
        intro pl hpl
        have s4:Sta l b H (upd H3 pl (.lst (ns.map V.int))):=s3.new hpl
        have npl:pl ≠ l:=(s3.ne hpl).symm
        have hL4:upd H3 pl (.lst (ns.map V.int)) pl=some (.lst (ns.map V.int)):=upd_same
        show tSeq _ _ _ _ (upd H3 pl (.lst (ns.map V.int)))
        generalize upd H3 pl (.lst (ns.map V.int))=H4 at s4 hL4
        refine ⟨by show 0 <= sizeLine;decide,fun pr hpr=>?_⟩
        have s5:Sta l b H (upd H4 pr (.lst [])):=s4.new hpr
        have npr:pr ≠ l:=(s4.ne hpr).symm
        have hL5:upd H4 pr (.lst []) pl=some (.lst (ns.map V.int)):=by rw [upd_ne (ne_of_none hL4 hpr)];exact hL4
        have hR5:upd H4 pr (.lst []) pr=some (.lst []):=upd_same
        have nlr:pl ≠ pr:=ne_of_none hL4 hpr
        have hRn:H pr=none:=by
          cases e:H pr with
          | none=>rfl
          | some o=>rw [s4.1 pr o npr e] at hpr;cases hpr
        show tSeq _ _ _ _ (upd H4 pr (.lst []))
        generalize upd H4 pr (.lst [])=H5 at s5 hL5 hR5
        refine ⟨_,rfl,(n:Int),rfl,lo62,hi62,?_⟩
        refine for_range (lo:=0) (n:=n) (fun i σ H6=>Sta l b H H6/\(∃ o6 o7,σ=[some (.ref l),some (.int n),some (.int wy),some (.int mo),some (.ref pl),some (.ref pr),o6,o7])/\H6 pl=some (.lst (ns.map V.int))/\∃ (rs:List (List Int)) (ys:List V),H6 pr=some (.lst ys)/\rs.length=i/\(∀ r ∈ rs,Mt.Row n 5 r)/\Dts l H6 (rs.map DI) ys)
          ⟨s5,⟨none,none,rfl⟩,hL5,[],[],hR5,rfl,by simp,Dts.nil _ _⟩ (fun i σ H6 hi h=>?_) (fun σ H6 h=>?_)
        · obtain ⟨s6,⟨o6,o7,rfl⟩,hL6,rs,ys,hR6,hr1,hr2,hd⟩:=h
          obtain ⟨_,x6,hx6,ok6⟩:=id s6
          refine ⟨_,rfl,_,rfl,l,n,x6,b,rfl,hx6,ok6,by omega,by omega,fun y x7 hy ok7=>?_⟩
          have s7:=s6.go ok7
          have k7:Kp l H6 (upd H6 l (.lst [.int x7,.bl b])):=Kp.at
          dsimp only [gName]
          generalize upd H6 l (.lst [.int x7,.bl b])=H7 at s7 k7
          have hL7:=k7 _ _ npl hL6
          have hR7:=k7 _ _ npr hR6
          have hd7:=hd.kp k7
          have hy':y <= (ns.map V.int).length:=by rw [List.length_map];omega
          refine ⟨_,rfl,.inl ⟨rfl,_,.of hR7⟩,_,rfl,_,rfl,_,rfl,pl,_,rfl,.of hL7,fun p1 hp1=>⟨_,rfl,_,rfl,_,rfl,pl,_,rfl,.of (by rw [upd_ne (ne_of_none hL7 hp1)];exact hL7),fun p2 hp2=>?_⟩⟩
          have ea:cutV (ns.map V.int) (some (y:Int)) none=(ns.drop y).map V.int:=by rw [cut_drop hy',List.map_drop]
          have eb:cutV (ns.map V.int) none (some (y:Int))=(ns.take y).map V.int:=by rw [cut_take hy',List.map_take]
          rw [ea,eb]
          rw [ea] at hp2
          have s8:Sta l b H (upd H7 p1 (.lst ((ns.drop y).map V.int))):=s7.new hp1
          have s9:Sta l b H (upd (upd H7 p1 (.lst ((ns.drop y).map V.int))) p2 (.lst ((ns.take y).map V.int))):=s8.new hp2
          refine ⟨p1,p2,_,_,rfl,rfl,(by rw [upd_ne (fun e=>by rw [<- e,upd_same] at hp2;cases hp2),upd_same]),upd_same,(by rw [List.length_map,List.length_map,List.length_drop,List.length_take];exact sz (by omega)),fun p3 hp3=>?_⟩
          have s10:=s9.new (o:=.lst ((ns.drop y).map V.int ++ (ns.take y).map V.int)) hp3
          have k10:Kp l H7 (upd (upd (upd H7 p1 (.lst ((ns.drop y).map V.int))) p2 (.lst ((ns.take y).map V.int))) p3 (.lst ((ns.drop y).map V.int ++ (ns.take y).map V.int))):=((Kp.new hp1).trans (Kp.new hp2)).trans (Kp.new hp3)
          have hp10:upd (upd (upd H7 p1 (.lst ((ns.drop y).map V.int))) p2 (.lst ((ns.take y).map V.int))) p3 (.lst ((ns.drop y).map V.int ++ (ns.take y).map V.int)) p3=some (.lst ((ns.drop y ++ ns.take y).map V.int)):=by rw [upd_same,List.map_append]
          generalize upd (upd (upd H7 p1 (.lst ((ns.drop y).map V.int))) p2 (.lst ((ns.take y).map V.int))) p3 (.lst ((ns.drop y).map V.int ++ (ns.take y).map V.int))=H8 at s10 k10 hp10
          refine ⟨p3,_,rfl,.inl ⟨.of hp10,fun t ht=>?_⟩⟩
          have k11:Kp l H7 (upd H8 t (.tup ((ns.drop y ++ ns.take y).map V.int))):=k10.trans (Kp.new ht)
          have s11:=s10.new (o:=.tup ((ns.drop y ++ ns.take y).map V.int)) ht
          have ht11:upd H8 t (.tup ((ns.drop y ++ ns.take y).map V.int)) t=some (.tup ((ns.drop y ++ ns.take y).map V.int)):=upd_same
          have ntl:t ≠ l:=(s10.ne ht).symm
          have hR11:=k11 _ _ npr hR7
          have hL11:=k11 _ _ npl hL7
          have hd11:=hd7.kp k11
          generalize upd H8 t (.tup ((ns.drop y ++ ns.take y).map V.int))=H9 at k11 s11 ht11 hR11 hL11 hd11
          have hyl:ys.length=i:=by rw [<- hd.len,List.length_map];exact hr1
          refine ⟨pr,_,_,rfl,rfl,hR11,small1000 (by omega),?_⟩
          have ntr:t ≠ pr:=fun e=>by rw [e,hR11] at ht11;cases ht11
          have k12:∀ c o,c ≠ pr->H9 c=some o->upd H9 pr (.lst (ys ++ [.ref t])) c=some o:=fun c o hc ho=>by rw [upd_ne hc];exact ho
          have s12:Sta l b H (upd H9 pr (.lst (ys ++ [.ref t]))):=by
            obtain ⟨k,x',e,ok⟩:=s11
            exact ⟨fun c o hc hco=>by rw [upd_ne (fun z=>by rw [z,hRn] at hco;cases hco)];exact k c o hc hco,x',by rw [upd_ne npr.symm];exact e,ok⟩
          refine ⟨s12,⟨_,_,rfl⟩,k12 _ _ nlr hL11,rs ++ [ns.drop y ++ ns.take y],_,upd_same,by rw [List.length_append,hr1];rfl,fun r' hr'=>?_,?_⟩
          · rcases List.mem_append.mp hr' with h | h
            · exact hr2 r' h
            · rw [List.mem_singleton.mp h]
              refine ⟨by rw [List.length_append,List.length_drop,List.length_take];omega,fun z hz=>?_⟩
              have hz':z ∈ ns:=by
                rcases List.mem_append.mp hz with h | h
                · exact List.mem_of_mem_drop h
                · exact List.mem_of_mem_take h
              have:=hb z hz'
              omega
          · rw [List.map_append]
            refine Dts.append (Dts_but k12 (fun xs hc=>?_) hd11) (Dts.cons (Dt.mkI ntl (k12 _ _ ntr ht11)) (Dts.nil _ _))
            rw [hR11] at hc;cases hc
        · obtain ⟨s6,⟨o6,o7,rfl⟩,hL6,rs,ys,hR6,hr1,hr2,hd⟩:=h
          refine ⟨_,rfl,pr,_,rfl,.inl ⟨.of hR6,fun ra hra=>?_⟩⟩
          exact q _ _ rs (s6.new hra) (Dt.tup (s6.ne hra).symm upd_same (hd.kp (Kp.new hra))) ⟨hr1,hr2⟩
    · have w2:wy=2 ∨ wy=3:=by
        have h0:¬ (V.int (wy:Int)=V.int 0):=fun e=>c (decide_eq_true e)
        have h1:¬ (V.int (wy:Int)=V.int 1):=fun e=>c2 (decide_eq_true e)
        have h0':wy ≠ 0:=fun e=>h0 (by rw [e];rfl)
        have h1':wy ≠ 1:=fun e=>h1 (by rw [e];rfl)
        omega
      refine ⟨_,rfl,(n:Int),rfl,lo62,hi62,?_⟩
      refine blk_range (lo:=0) (n:=n) (sz (by omega)) (fun i ys H3=>Sta l b H H3/\∃ rs:List (List Int),rs.length=i/\(∀ r ∈ rs,Mt.Row n 5 r)/\Dts l H3 (rs.map DI) ys)
        ⟨s2,[],rfl,by simp,Dts.nil _ _⟩ (fun i ys H3 h=>?_) rfl (fun i ys H3 hi h=>?_) (fun ys H3 h=>?_)
      · obtain ⟨_,rs,hr1,_,hd⟩:=h
        rw [<- hd.len,List.length_map];exact hr1
      · obtain ⟨s3,rs,hr1,hr2,hd⟩:=h
        refine ⟨_,rfl,(n:Int),rfl,lo62,hi62,?_⟩
        refine blk_range (lo:=0) (n:=n) (sz (by omega)) (fun j zs H4=>Sta l b H H4/\Kp l H3 H4/\∃ r:List Int,zs=r.map V.int/\r.length=j/\∀ z ∈ r,0 <= z/\z <= 5)
          ⟨s3,Kp.refl _ _,[],rfl,rfl,by simp⟩ (fun j zs H4 h=>?_) rfl (fun j zs H4 hj h=>?_) (fun zs H4 h=>?_)
        · obtain ⟨_,_,r,rfl,hr,_⟩:=h
          rw [List.length_map];exact hr
        · obtain ⟨s4,k4,r,rfl,hr,hz⟩:=h
          refine ⟨_,rfl,(by show 2 <= sizeLine;decide),fun p5 hp5=>?_⟩
          have s5:Sta l b H (upd H4 p5 (.lst [.int 2,.int 6])):=s4.new hp5
          have k5:Kp l H3 (upd H4 p5 (.lst [.int 2,.int 6])):=k4.trans (Kp.new hp5)
          obtain ⟨_,x5,hx5,ok5⟩:=id s5
          obtain ⟨m,hm,m1,m2⟩:∃ m:Int,atI ([.int 2,.int 6]:List V) ((wy:Int) - 2)=some (.int m)/\1 <= m/\m <= 6:=by
            rcases w2 with e | e
            · subst e;exact ⟨2,rfl,by decide,by decide⟩
            · subst e;exact ⟨6,rfl,by decide,by decide⟩
          refine ⟨_,rfl,_,_,rfl,rfl,p5,_,_,_,rfl,rfl,.of upd_same,hm,l,m,x5,b,rfl,hx5,ok5,m1,by omega,fun y x6 hy ok6=>?_⟩
          refine ⟨s5.go ok6,k5.trans Kp.at,r ++ [(y:Int)],by rw [List.map_append];rfl,by rw [List.length_append,hr];rfl,fun z hz'=>?_⟩
          rcases List.mem_append.mp hz' with h | h
          · exact hz z h
          · rw [List.mem_singleton.mp h];omega
        · obtain ⟨s4,k4,r,rfl,hr,hz⟩:=h
          intro p hp
          have s5:Sta l b H (upd H4 p (.lst (r.map V.int))):=s4.new hp
          refine ⟨p,_,rfl,.inl ⟨.of upd_same,fun t ht=>?_⟩⟩
          have kk:Kp l H3 (upd (upd H4 p (.lst (r.map V.int))) t (.tup (r.map V.int))):=(k4.trans (Kp.new hp)).trans (Kp.new ht)
          refine ⟨s5.new ht,rs ++ [r],by rw [List.length_append,hr1];rfl,fun r' hr'=>?_,?_⟩
          · rcases List.mem_append.mp hr' with h | h
            · exact hr2 r' h
            · rw [List.mem_singleton.mp h];exact ⟨hr,hz⟩
          · rw [List.map_append]
            exact (hd.kp kk).append (Dts.cons (Dt.mkI (s5.ne ht).symm upd_same) (Dts.nil _ _))
      · obtain ⟨s3,rs,hr1,hr2,hd⟩:=h
        exact fun p hp=>⟨p,_,rfl,.inl ⟨.of upd_same,fun ra hra=>fin rs ys H3 p ra s3 hr1 hr2 hd hp hra⟩⟩
end
end G
namespace G
open PySem PySem.Spec PyProof.Rows L2 Mt
def ok2 (d:PyData):Prop:=short d/\∀ ds,d=.tuple ds->∀ r ∈ ds,short r
section
variable {Pr:Hp->V->Prop} {m m1 m2:Nat} {ta tb te:TE} {σ:L2.St} {H:Hp}
end
end G
namespace L2
open PySem PySem.Spec PyProof.Rows
end L2
namespace L2
open PySem PySem.Spec PyProof.Rows
open PySem.W (KasT)
section
variable {n:Nat} (hn:0 < n)
include hn
end
end L2
namespace L2
open PySem PySem.Spec PyProof.Rows
section
variable {prog:Program} {w:World} {A:Around} {E:Value->Shared->Prop} {s:Shared}
end
end L2
namespace L2
open PySem PySem.Spec PyProof.Rows
section
variable {prog:Program} {w:World} {A:Around} {E:Value->Shared->Prop} {s:Shared} {v d:Addr} {od:Obj} {es:Array DictEntry} {ep:Nat}
end
section
variable {prog:Program} {w:World} {A:Around} {E:Value->Shared->Prop} {s:Shared}
end
end L2
namespace L2
open PySem PySem.Spec PyProof.Rows
section
variable {prog:Program} {w:World} {A:Around} {E:Value->Shared->Prop} {s:Shared}
end
end L2
namespace L2
open PySem PySem.Spec PyProof.Rows
section
variable {X:Cx} {pins:List (Addr × Obj)} {σ:St} {H:Hp} {s:Shared}
end
end L2
set_option maxHeartbeats 1000000
namespace So
open PySem PyProof.Rows
section
variable {prog:Program} {w:World} {A:Around} {E:Value->Shared->Prop} {s:Shared} {rk:Keyed->Int} {M:Keyed->Prop} {κ:SortKind}
end
end So
namespace So
open PySem PyProof.Rows
def Up (rk:Keyed->Int) (l:List Keyed):Prop:=l.Pairwise fun x y=>rk x <= rk y
structure Mg (rk:Keyed->Int) (la lb O:List Keyed) (ia ib:Nat):Prop where
  perm:O.Perm (la.take ia ++ lb.take ib)
  up:Up rk O
  low:∀ x ∈ O,∀ y ∈ la.drop ia ++ lb.drop ib,rk x <= rk y
end So
set_option maxHeartbeats 4000000
namespace So
open PySem PyProof.Rows
def Gl (st st':SortSt):Prop:=kindOf st'=kindOf st/\arrOf st'=arrOf st/\pendingOf st'=pendingOf st/\failedOf st'=failedOf st
section
variable {rk:Keyed->Int} {a b out:Array Keyed} {ia ib:Nat}
end
section
variable {prog:Program} {w:World} {A:Around} {E:Value->Shared->Prop} {s:Shared} {rk:Keyed->Int} {M:Keyed->Prop} {κ:SortKind}
end
end So
namespace So
open PySem PyProof.Rows
section
variable {prog:Program} {w:World} {A:Around} {E:Value->Shared->Prop} {s:Shared} {rk:Keyed->Int} {M:Keyed->Prop} {κ:SortKind}
end
end So
namespace So
open PySem PyProof.Rows
structure Mh (rk:Keyed->Int) (la lb O:List Keyed) (na nb:Nat):Prop where
  perm:O.Perm (la.drop na ++ lb.drop nb)
  up:Up rk O
  hi:∀ x ∈ la.take na ++ lb.take nb,∀ y ∈ O,rk x <= rk y
section
variable {rk:Keyed->Int} {a b out:Array Keyed} {na nb:Nat}
end
section
variable {prog:Program} {w:World} {A:Around} {E:Value->Shared->Prop} {s:Shared} {rk:Keyed->Int} {M:Keyed->Prop} {κ:SortKind}
end
end So
namespace So
open PySem PyProof.Rows
section
variable {prog:Program} {w:World} {A:Around} {E:Value->Shared->Prop} {s:Shared} {rk:Keyed->Int} {M:Keyed->Prop} {κ:SortKind}
end
end So
namespace So
open PySem PyProof.Rows
section
variable {prog:Program} {w:World} {A:Around} {E:Value->Shared->Prop} {s:Shared} {rk:Keyed->Int} {M:Keyed->Prop} {κ:SortKind}
end
end So
namespace So
open PySem PyProof.Rows
structure Kpt (lo:Nat) (a b:Array Keyed):Prop where
  perm:b.toList.Perm a.toList
  low:∀ i,i < lo->b[i]?=a[i]?
section
variable {prog:Program} {w:World} {A:Around} {E:Value->Shared->Prop} {s:Shared} {rk:Keyed->Int} {M:Keyed->Prop} {κ:SortKind} {pd:Array (Nat × Nat × Nat)} {mg:Nat}
end
end So
namespace So
open PySem PyProof.Rows
section
variable {prog:Program} {w:World} {A:Around} {E:Value->Shared->Prop} {s:Shared} {rk:Keyed->Int} {M:Keyed->Prop} {κ:SortKind} {pd:Array (Nat × Nat × Nat)} {mg:Nat}
end
end So
namespace So
open PySem PyProof.Rows
section
variable {prog:Program} {w:World} {A:Around} {E:Value->Shared->Prop} {s:Shared} {rk:Keyed->Int} {M:Keyed->Prop} {κ:SortKind}
end
end So
namespace So
open PySem PyProof.Rows PySem.Spec L2
section
variable {prog:Program} {w:World} {A:Around} {E:Value->Shared->Prop} {s:Shared} {rk:Keyed->Int} {M:Keyed->Prop} {κ:SortKind}
end
end So
namespace L2
open PySem PySem.Spec PyProof.Rows HT
section
variable {prog:Program} {w:World} {A:Around} {E:Value->Shared->Prop} {s:Shared}
end
end L2
namespace L2
open PySem PySem.Spec PyProof.Rows HT
section
variable {X:Cx} {H:Hp}
end
end L2
namespace L2
open PySem PySem.Spec PyProof.Rows HT
section
variable {X:Cx} {H:Hp}
end
end L2
namespace L2
open PySem PySem.Spec PyProof.Rows
section
variable {K:PySem.W.Frag} {σ0:St} {te:TE} {H:Hp} {F:List V->Hp->Prop}
end
end L2
namespace L2
open PySem PySem.Spec PyProof.Rows
section
variable {K:PySem.W.Frag} {σ0:St} {te:TE} {H:Hp} {F:List V->Hp->Prop}
end
end L2
namespace L2
open PySem PySem.Spec PyProof.Rows
section
variable {prog:Program} {w:World} {A:Around} {E:Value->Shared->Prop} {s:Shared}
structure ZipTL (h:Heap) (z TI TO i1 i2 t1 t2:Addr) (k:Nat):Prop where
  zz:IsZip h z TI TO .none
  ti:IsPair h TI (.ref i1) (.ref i2)
  tO:∃ a b,IsPair h TO a b
  it1:h.IsTupleIter i1 t1 k
  it2:h.IsListIter i2 t2 k
end
section
variable {X:Cx} {pins:List (Addr × Obj)} {σ:St} {H:Hp} {s:Shared}
end
section
variable {X:Cx} {K:PySem.W.Frag}
end
section
variable {X:Cx} {K:PySem.W.Frag}
end
section
variable {prog:Program} {w:World} {A:Around} {E:Value->Shared->Prop} {s:Shared}
structure ZipLM (h:Heap) (z TI TO i1 i2 t1 t2:Addr) (k:Nat):Prop where
  zz:IsZip h z TI TO .none
  ti:IsPair h TI (.ref i1) (.ref i2)
  tO:∃ a b,IsPair h TO a b
  it1:h.IsListIter i1 t1 k
  it2:h.IsListIter i2 t2 k
end
section
variable {X:Cx} {pins:List (Addr × Obj)} {σ:St} {H:Hp} {s:Shared}
end
section
variable {X:Cx} {K:PySem.W.Frag}
end
end L2
namespace L2
open PySem PySem.Spec PyProof.Rows
section
variable {prog:Program} {w:World} {A:Around} {E:Value->Shared->Prop} {s:Shared}
end
section
variable {X:Cx} {pins:List (Addr × Obj)} {σ:St} {H:Hp} {s:Shared}
end
end L2
namespace L2
open PySem PySem.Spec PyProof.Rows
section
variable {prog:Program} {w:World} {A:Around} {E:Value->Shared->Prop} {s:Shared}
end
section
variable {X:Cx} {pins:List (Addr × Obj)} {σ:St} {H:Hp} {s:Shared}
end
section
variable {X:Cx}
open Classical in
end
end L2
namespace So
open PySem PyProof.Rows PySem.Spec L2
section
variable {prog:Program} {w:World} {A:Around} {E:Value->Shared->Prop} {s:Shared} {rk:Keyed->Int} {M:Keyed->Prop} {κ:SortKind}
end
end So
namespace L2
open PySem PySem.Spec PyProof.Rows HT
section
variable {X:Cx} {H:Hp}
end
end L2
namespace L2
open PySem PySem.Spec PyProof.Rows
section
variable {X:Cx}
open Classical in
end
end L2
namespace L2
open PySem PySem.Spec PyProof.Rows
section
variable {X:Cx}
def rInsert:V->List V->Hp->VK->Prop:=fun x vs H Q=>∃ (l:Addr) (i:Int) (xs:List V) (y:V),x=.ref l/\vs=[.int i,y]/\H l=some (.lst xs)/\0 <= i/\i.toNat <= xs.length/\xs.length < 1000/\Q .non (upd H l (.lst (xs.take i.toNat ++ y :: xs.drop i.toNat)))
theorem mt_insert:MtM X "list.insert" rInsert:=by
  intro pins s σ H x vs v us Q I rx rv h
  obtain ⟨l,i,xs,y,rfl,rfl,hH,h0,hk,hz,q⟩:=h
  cases rx
  obtain ⟨u,w,rfl,ru,rw'⟩:=rv.two
  obtain ⟨t,rfl⟩:=ru
  obtain ⟨z,its,n,r,hl,e⟩:=I.lstM hH
  have hzz:its.toArray.size <= sizeLine:=by rw [List.size_toArray,<- hl];exact z
  have hfit:¬ (!Builtin.List.listFitsIndex i)=true:=by
    have:Builtin.List.listFitsIndex i=true:=by
      unfold Builtin.List.listFitsIndex
      simp
      omega
    rw [this];decide
  refine call_meets PySem.F.slot_list_insert ⟨_,e,rfl⟩ PySem.F.entry_list_insert (PySem.F.args_list_insert_3 _ _ _)
    (AutoSeq1.list_insert_list_int_val_1 l its.toArray n i t w hfit hzz) ⟨e,?_⟩
  refine ⟨.non,_,I.lset (its':=its.take i.toNat ++ w :: its.drop i.toNat) hH e ?_ ((r.take i.toNat).append (.cons rw' (r.drop i.toNat))) ?_,rfl,q⟩
  · apply Array.toList_inj.mp
    have hkk:(if i < 0 then (i + (its.toArray.size:Int)).toNat else min i.toNat its.toArray.size)=i.toNat:=by
      rw [if_neg (by omega),List.size_toArray];omega
    simp only [hkk]
    simp
    exact List.take_of_length_le (by rw [List.length_drop];exact Nat.le_refl _)
  · rw [List.length_append,List.length_cons,List.length_take,List.length_drop]
    have:=sz (show xs.length + 1 <= 1000 by omega)
    omega
end
end L2
namespace L2
open PySem PySem.Spec PyProof.Rows
section
variable {prog:Program} {w:World} {A:Around} {R:Result->Shared->Prop} {s:Shared}
theorem compLoop_anyD {kx vx target iter:Expr} {scope:Scope} {pos:Pos} {it:Value} {D:Addr} {env:Env} (I:Nat->Shared->Prop)
    (turn:∀ n s,I n s->wpAny (model prog w) A (pyNext it) (fun r s₁=>match r with
      | none=>R (.ok .next) s₁
      | some v=>wpAny (model prog w) A (letOwnedTupleGo target it v) (fun _ s₁'=>wpAny (model prog w) A (assign target env v) (fun _ s₃ =>
            wpAny (model prog w) A (eval kx env) (fun kv s₄=>wpAny (model prog w) A (eval vx env) (fun vv s₅ =>
              wpAny (model prog w) A (dictSet D kv vv) (fun _ s₆=>∃ m,m < n/\I m s₆) (fun _ _=>False) s₅) (fun _ _=>False) s₄) (fun _ _=>False) s₃) (fun _ _=>False) s₁') (fun _ _=>False) s₁) (fun _ _=>False) s)
    (n:Nat) (h:I n s) :
    codeAny (model prog w) A (.compLoop (.DictComp kx vx [⟨target,iter,[],0⟩] scope pos) 0 it (.ref D) env) R s:=by
  refine codeAny_loop rfl I (fun n s hI=>?_) n h
  show wpAny _ A ((compTurn (.DictComp kx vx [⟨target,iter,[],0⟩] scope pos) 0 it (.ref D) env).onRaise (fun x=>do noteFrame x env;theTreesLotGoes x)) _ _ s
  refine wpAny_noted ?_
  rw [compTurn_dict]
  refine wpAny_bind (wpAny_standAt (wpAny_bind (wpAny_mono (turn n s hI) (fun r s₁ h₁=>?_) fun _ _ h'=>h'.elim)))
  cases r with
  | none=>exact wpAny_pure h₁
  | some v =>
    refine wpAny_bind (wpAny_mono h₁ (fun _ s₁' h₁'=>?_) fun _ _ h'=>h'.elim)
    refine wpAny_bind (wpAny_mono h₁' (fun _ s₂ h₂=>?_) fun _ _ h'=>h'.elim)
    simp only [List.forIn_nil]
    refine wpAny_bind (wpAny_pure ?_)
    simp only [if_true]
    refine wpAny_bind (wpAny_bind (wpAny_mono h₂ (fun kv s₄ h₄=>wpAny_bind (wpAny_holding (wpAny_mono h₄ (fun vv s₅ h₅=>wpAny_bind (wpAny_standAt (wpAny_holding (wpAny_mono h₅ (fun _ s₆ h₆=>wpAny_pure ⟨rfl,h₆⟩) fun _ _ h'=>h'.elim)))) fun _ _ h'=>h'.elim))) fun _ _ h'=>h'.elim))
end
section
variable {X:Cx} {pins:List (Addr × Obj)} {σ:St} {H H':Hp} {s s':Shared} {scope:Scope} {N:List Str} {ix:List (Option Nat)} {fp:List Addr}
theorem Inv.comp_endD {pins':List (Addr × Obj)} {σ':St} {h':Heap} (I:Inv X pins σ H s) (J:Inv (X.comp scope N s H fp) pins' σ' H' s') (hfp:∀ b ∈ fp,FpOk X pins H b)
    (hs:Heap.SameBut s.heap.objs.size s'.heap h'):Inv X pins σ H' { s' with heap:=h' }:=by
  have oldC:∀ b,b < s.heap.objs.size->b ≠ s.heap.objs.size:=fun b hb=>Nat.ne_of_lt hb
  have U:=J.base
  have un:Un (frs X.stack) fp H H' s.heap h':=by
    refine ⟨fun b o e n hb hx=>?_,fun b o e n hb hx=>?_,fun b o e n hx=>?_,fun b o e hx=>?_,fun b xs e=>?_,fun b o u e=>?_,fun b ps e=>?_⟩
    · exact (hs.2 b (oldC b (Heap.lt_size e))).trans (U.keep b o e n hb hx)
    · obtain ⟨sl,q⟩:=U.slot b o e n hb hx
      exact ⟨sl,(hs.2 b (oldC b (Heap.lt_size e))).trans q⟩
    · exact U.free b o e n hx
    · obtain ⟨o',q⟩:=U.there b o e hx
      exact ⟨o',(hs.2 b (oldC b (Heap.lt_size e))).trans q⟩
    · exact U.tups b xs e
    · exact U.frzs b o u e
    · exact U.tbls b ps e
  have hC:H' s.heap.objs.size=none:=J.free
  have hok:HOk X.prog X.w H' h':=fun b u e=>by
    refine (J.hok b u e).stay (fun c v hc q=>(hs.2 c ?_).trans q) (fun c q=>q) fun c xs q=>q
    rintro rfl
    rcases hc with z | z
    · rw [<- z,hC] at e;cases e
    · rw [hC] at z;cases z
  exact I.call' (s':={ s' with heap:=h' }) (ch:=fp) J.os un hok J.bare fun b hb=>⟨(hfp b hb).2.2.2.1,(hfp b hb).2.1,(hfp b hb).2.2.2.2.1,(hfp b hb).2.2.2.2.2⟩
end
section
variable {X:Cx} {scope:Scope} {N:List Str} {ix:List (Option Nat)} {kx vx target iter:Expr} {pos:Pos} {wi:TI} {g:TG} {tk tv:TE}
def BlkD (J:It) (σ0:St) (g:TG) (tk tv:TE) (p:Addr) (H1:Hp) (F:Hp->Prop):Prop:=∃ W:Nat->Nat->Hp->Prop,(∃ m,W 0 m H1)/\∀ i m H2,W i m H2 ->
  ((J.stop i H2/\F H2) ∨
   (J.go i H2/\∃ Ny:Hp->Prop,(∀ H,Ny H->∃ m',m' < m/\W (i + 1) m' H) /\
     ∀ x H3,J.yld i H2 x H3->g x σ0 H3 fun σ2 H4=>Wk σ0 σ2/\tk σ2 H4 fun y H5=>tv σ2 H5 fun v H6=>∃ H7,(∃ kvs k,H6 p=some (.dK kvs)/\y=kV k/\kvs.length < sizeLine/\H7=upd H6 p (.dK (putK kvs k v)))/\Ny H7))
abbrev accD (s:Shared):Shared:={ s with heap:=s.heap.push { cls:=.type "dict",data:=.dict #[] } }
theorem accD_size (s:Shared):(accD s).heap.objs.size=s.heap.objs.size + 1:=Heap.size_push ..
theorem dset_at {pins:List (Addr × Obj)} {σ:St} {H:Hp} {s:Shared} {a:Addr} {kvs:List (Key × V)} {k:Key} {v:V} {u r:Value} {E:Value->Shared->Prop} {Q:Unit->Shared->Prop} {A:Around} (I:Inv X pins σ H s) (e:H a=some (.dK kvs)) (l:kvs.length < sizeLine) (ry:RelV (kV k) u) (rv:RelV v r) (h:∀ s',Inv X pins σ (upd H a (.dK (putK kvs k v))) s'->(∀ b q,b ≠ a->s.heap.get? b=some q->s'.heap.get? b=some q)->Q () s') :
    wpAny (model X.prog X.w) A (dictSet a u r) Q E s:=by
  obtain ⟨z,hd,vs,rel,dd⟩:=dk_of I.hok e
  have hz:vs.length <= sizeLine:=by rw [<- rel.length];exact z
  have hl:(putK kvs k v).length <= sizeLine:=by have:=length_putK kvs k v;omega
  refine wpAny_dictSet_pairs (hsz:=hz) (kV_is ry) dd fun h' dd' hs=>h _ ?_ (fun b q hb hq=>(hs.2 b hb).trans hq)
  have he:∃ q,h'.get? a=some q:=let ⟨q,_,_,hq,_⟩:=dd';⟨q,hq⟩
  exact d_write I (by rw [e];exact True.intro) hs he (dk_new hl hd (rel.put k rv) dd')
theorem comp_runD {pins:List (Addr × Obj)} {σ:St} {H:Hp} {s:Shared} {it:Addr} {fp:List Addr} {tn:Nat->Heap->Prop} {J:It} {F:Hp->Prop} {E:Value->Shared->Prop} {RR:Value->Addr->Result->Shared->Prop}
    (hc:X.calm=true) (hk:scope.kind=.function) (hnm:okNames scope=true) (hf:okFree scope X.env=true) (hx:okIx scope X.N N ix=true)
    (hg:∀ s H ex,PG (X.comp scope N s H ex) target g) (hkx:∀ s H ex,PE (X.comp scope N s H ex) kx tk) (hvx:∀ s H ex,PE (X.comp scope N s H ex) vx tv)
    (I:Inv X pins σ H s) (T:Turn X.prog X.w X.K target J fp it tn) (st:tn 0 s.heap) (hfp:∀ b ∈ fp,FpOk X pins H b) (B:BlkD J (pick ix σ) g tk tv s.heap.objs.size (upd H s.heap.objs.size (.dK [])) F)
    (fin:∀ (H':Hp) (s':Shared) (σ':St),Inv X pins σ (upd H s.heap.objs.size (.dK [])) (accD s)->(∀ b ∈ fp,FpOk X pins (upd H s.heap.objs.size (.dK [])) b)->Inv (X.comp scope N (accD s) (upd H s.heap.objs.size (.dK [])) fp) [] σ' H' s'->F H'->RR (.ref s.heap.objs.size) (accD s).heap.objs.size (.ok .next) s') :
    wpAny (model X.prog X.w) X.A newDict (fun acc s₃=>wpAny (model X.prog X.w) X.A (newFunctionEnv scope X.env.globals (closL X.env scope.names []) [] X.env.qual none .none (some X.env)) (fun cenv s₄ =>
      codeAny (model X.prog X.w) X.A (.compStart (.DictComp kx vx [⟨target,iter,[],0⟩] scope pos) 0 (.ref it) acc { cenv with scope:=relabel scope X.env }) (RR acc cenv.locals) s₄) E s₃) E s:=by
  obtain ⟨W,⟨m0,w0⟩,turn⟩:=B
  have I1:Inv X pins σ (upd H s.heap.objs.size (.dK [])) (accD s):=I.laid (a:=s.heap.objs.size) (o:=.dK []) (h':=s.heap.push { cls:=.type "dict",data:=.dict #[] }) (t':=s.toks) (fun _ _ q=>Heap.get?_push_of_some _ q) (Nat.le_refl _) (dk_empty s.heap I.big)
  refine wpAny_newObj_type (newEnv_comp ?_) (by show (#[]:Array DictEntry).size <= _;exact Nat.zero_le _)
  have fpLt:∀ b ∈ fp,b < s.heap.objs.size:=fun b hb=>let ⟨o,e,_⟩:=T.obj 0 _ st b hb;Heap.lt_size e
  generalize hH0:upd H s.heap.objs.size (.dK [])=H0 at *
  have hfp1:∀ b ∈ fp,FpOk X pins H0 b:=fun b hb=>by
    obtain ⟨f0,f1,f2,f3,f4,f5⟩:=hfp b hb
    refine ⟨?_,f1,f2,f3,f4,f5⟩
    rw [<- hH0,upd_ne (Nat.ne_of_lt (fpLt b hb))];exact f0
  have J0:Inv (X.comp scope N (accD s) H0 fp) [] (pick ix σ) H0 _:=I1.comp (N:=N) (ix:=ix) (ex:=fp) hk hnm hf hx fun b hb=>by
    obtain ⟨f0,f1,f2,f3,f4,_⟩:=hfp1 b hb
    exact ⟨f0,f1,f2,f3,f4,by rw [accD_size];exact Nat.lt_succ_of_lt (fpLt b hb)⟩
  have keep0:∀ b o,(accD s).heap.get? b=some o->(pushCells ((accD s).heap.push { cls:=.type "dict",data:=.dict #[] }) scope.names).get? b=some o:=fun b o e=>pushCells_keeps _ _ b o (Heap.get?_push_of_some _ e)
  have st0:tn 0 (pushCells ((accD s).heap.push { cls:=.type "dict",data:=.dict #[] }) scope.names):=T.keep 0 _ _ st fun b hb o e=>keep0 b o (Heap.get?_push_of_some _ e)
  have exOk:∀ b ∈ fp,b ≠ (X.comp scope N (accD s) H0 fp).env.locals/\b ∉ (X.comp scope N (accD s) H0 fp).fs /\
      ∀ x c,(X.comp scope N (accD s) H0 fp).env.cells.lookup x=some c->c ≠ b:=fun b hb=>⟨(J0.ok.exf b hb).1,J0.ok.exfs b hb,(J0.ok.exf b hb).2⟩
  have stat:∀ {H':Hp},(∀ b ∈ fp,H' b=none)->∀ b ∈ fp,FpOk (X.comp scope N (accD s) H0 fp) [] H' b:=fun {H'} hn b hb=>by
    obtain ⟨e1,e2,e3⟩:=exOk b hb
    exact ⟨hn b hb,e1,e2,.inl hb,e3,fun p hp=>absurd (show p ∈ ([]:List (Addr × Obj)) from (List.mem_append.mp hp).elim (fun z=>z) id) (by simp)⟩
  have loop:codeAny (model X.prog X.w) X.A (.compLoop (.DictComp kx vx [⟨target,iter,[],0⟩] scope pos) 0 (.ref it) (.ref s.heap.objs.size) (X.comp scope N (accD s) H0 fp).env) (RR (.ref s.heap.objs.size) (accD s).heap.objs.size)
      { accD s with heap:=pushCells ((accD s).heap.push { cls:=.type "dict",data:=.dict #[] }) scope.names }:=by
    refine compLoop_anyD (fun n s'=>∃ i H',Inv (X.comp scope N (accD s) H0 fp) [] (pick ix σ) H' s'/\tn i s'.heap/\(∀ b ∈ fp,H' b=none)/\W i n H') ?_ m0
      ⟨0,H0,J0,st0,fun b hb=>(hfp1 b hb).1,w0⟩
    rintro n s3 ⟨i,H3,I3,st3,fr3,w3⟩
    rcases turn i n H3 w3 with ⟨stop,fy⟩ | ⟨go,Ny,hNy,step⟩
    · refine thn (T.done (X.comp scope N (accD s) H0 fp) rfl rfl rfl hc i _ s3 (pick ix σ) H3 (fun _ _=>False) I3 (stat fr3) st3 stop) fun r s4 ⟨hr,I4⟩=>?_
      subst hr
      exact fin H3 s4 _ I1 hfp1 I4 fy
    · refine thn (T.item (X.comp scope N (accD s) H0 fp) rfl rfl rfl hc i _ s3 (pick ix σ) H3 (fun _ _=>False) I3 (stat fr3) st3 go) fun r s4 ⟨u,hr,h4⟩=>?_
      subst hr
      refine thn h4 fun _ s5 ⟨x,H5,I5,r5,y5,st5,fr5⟩=>?_
      have I5':=I5.pinned (stat fr5) (T.obj _ _ st5)
      refine thn (hg (accD s) H0 fp _ s5 (pick ix σ) H5 x u _ I5' r5 (step x H5 y5)) fun _ s6 ⟨σ6,H6,I6,wk6,q6⟩=>?_
      refine thn (hkx (accD s) H0 fp _ s6 σ6 H6 _ I6 q6) fun kv s7 ⟨y,H7,I7,r7,q7⟩=>?_
      refine thn (hvx (accD s) H0 fp _ s7 σ6 H7 _ I7 q7) fun vv s8 ⟨v,H8,I8,r8,q8⟩=>?_
      obtain ⟨H9,⟨kvs,k,hD,ey,hl,e9⟩,hN9⟩:=q8
      subst ey e9
      refine dset_at (X:=X.comp scope N (accD s) H0 fp) (A:=X.A) I8 hD hl r7 r8 fun s9 I9 kp9=>?_
      obtain ⟨m',hm,w9⟩:=hNy _ hN9
      refine ⟨m',hm,i + 1,_,(I9.weak wk6.1 wk6.2).pins_of (fun p hp=>by cases hp),?_,fun b hb=>?_,w9⟩
      · exact T.keep _ _ _ st5 fun b hb o e=>(I9.pin (b,o) (List.mem_append_right _ (List.mem_append_right _ (mem_pinsAt hb e)))).1
      · obtain ⟨o,e,d⟩:=T.obj _ _ st5 b hb
        exact (I9.pin (b,o) (List.mem_append_right _ (List.mem_append_right _ (mem_pinsAt hb e)))).2.1
  exact codeAny_compStart_dict loop (T.self _ 0 _ _ _ st0 loop)
theorem eval_DictComp1 {env:Env}:eval (.DictComp kx vx [⟨target,iter,[],0⟩] scope pos) env=comprehension (.DictComp kx vx [⟨target,iter,[],0⟩] scope pos) scope env (firstIterPos [⟨target,iter,[],0⟩] pos) newDict (firstAsync [⟨target,iter,[],0⟩]) (firstIter [⟨target,iter,[],0⟩] env):=arm_eval_DictComp ..
theorem pe_dcomp (hc:X.calm=true) (hi:PI X target iter wi) (hg:∀ s H ex,PG (X.comp scope N s H ex) target g) (hkx:∀ s H ex,PE (X.comp scope N s H ex) kx tk) (hvx:∀ s H ex,PE (X.comp scope N s H ex) vx tv)
    (hk:scope.kind=.function) (hnm:okNames scope=true) (hf:okFree scope X.env=true) (hx:okIx scope X.N N ix=true) (hs:∀ x,foldedSetIterable iter X.env x=pure x) :
    PE X (.DictComp kx vx [⟨target,iter,[],0⟩] scope pos) (fun σ H Q=>wi σ H fun J H1=>∀ p,H1 p=none->BlkD J (pick ix σ) g tk tv p (upd H1 p (.dK [])) fun H2=>Q (.ref p) H2):=by
  intro pins s σ H Q I h
  rw [eval_DictComp1]
  refine wpAny_comprehension_free (use:=none) rfl hs (closureFor_eq (I.closed hf)) hk (fun x hx hl=>(okNames_get hnm hx).trans (by rw [hl])) ?_
  refine thn (hi pins s σ H _ I h) fun v s1 h1=>thn h1 fun itv s2 h2=>?_
  obtain ⟨it,fp,tn,J,H2,e,I2,T,st2,f2,B⟩:=h2
  subst e
  have hn2:=I2.hok.fresh (Nat.le_refl s2.heap.objs.size)
  refine comp_runD (RR:=fun acc C=>compPost (model X.prog X.w) X.A X.xe none (EP X pins σ Q) acc C) hc hk hnm hf hx hg hkx hvx I2 T st2 f2 (B _ hn2) ?_
  intro H' s' σ' I1 hfp1 J' hF
  obtain ⟨m,hm,_⟩:=J'.loc
  exact ⟨m,hm,fun h' hs'=>⟨.ref s2.heap.objs.size,_,I1.comp_endD J' hfp1 hs',rfl,hF⟩⟩
theorem blkD_range {lo:Int} {n:Nat} {σ0:St} {p:Addr} {H:Hp} {F:Hp->Prop} (Pv:Nat->Hp->Prop) (h0:Pv 0 H) (hσ:σ0[0]?=some none)
    (hs:∀ i H,i < n->Pv i H->tk (σ0.set 0 (some (.int (lo + i)))) H fun y H5=>tv (σ0.set 0 (some (.int (lo + i)))) H5 fun v H6=>∃ H7,(∃ kvs k,H6 p=some (.dK kvs)/\y=kV k/\kvs.length < sizeLine/\H7=upd H6 p (.dK (putK kvs k v)))/\Pv (i + 1) H7) (hd:∀ H,Pv n H->F H):BlkD (Itr lo n) σ0 (gName 0) tk tv p H F:=by
  refine ⟨fun i m H=>m=n - i/\i <= n/\Pv i H,⟨n,by simp,Nat.zero_le _,h0⟩,?_⟩
  rintro i m H2 ⟨rfl,hi,q⟩
  by_cases hlt:i < n
  · refine .inr ⟨hlt,fun H'=>Pv (i + 1) H',fun H' q=>⟨n - (i + 1),by omega,rfl,hlt,q⟩,fun x H3 y=>?_⟩
    obtain ⟨rfl,rfl⟩:=y
    exact ⟨Wk.set (.inl hσ),hs i _ hlt q⟩
  · have e:i=n:=by omega
    subst e
    exact .inl ⟨Nat.le_refl _,hd H2 q⟩
end
end L2
namespace L2
open PySem PySem.Spec PyProof.Rows
section
variable {X:Cx}
theorem strs_are:∀ {ys:List Str} {us:List Value},Vals (ys.map V.str) us->StrsAre us ys
  | [],_,h=>by cases h;exact .nil
  | y :: ys,_,h=>by
    cases h with
    | cons r rs =>
      obtain ⟨t,rfl⟩:=r
      exact .cons y t (strs_are rs)
theorem strs_vals:∀ (k:Nat) (ys:List Str),Vals (ys.map V.str) (strsFrom k ys)
  | _,[]=>.nil
  | k,y :: ys=>.cons ⟨_,rfl⟩ (strs_vals (k + 1) ys)
def rJoin (K:PySem.W.Frag):V->List V->Hp->VK->Prop:=fun x vs H Q=>∃ (sep:Str) (p:Addr) (ys:List Str),x=.str sep/\vs=[.ref p]/\SqL K H p (ys.map V.str)/\(ys.map fun y=>y.length).sum + ys.length * sep.length <= 16777216/\Q (.str (Txt.join sep ys)) H
theorem mt_join:MtR X "str.join" (rJoin X.K):=by
  intro pins s σ H x vs v us Q I rx rv h
  obtain ⟨sep,p,ys,rfl,rfl,hp,hz,q⟩:=h
  obtain ⟨t,rfl⟩:=rx
  obtain ⟨u,rfl,ru⟩:=rv.one
  cases ru
  obtain ⟨its,r,pl,_⟩:=I.list hp
  exact join_list pl.isList (by simpa using strs_are r) hz fun t' k=>⟨.str _,H,I.tok k,⟨_,rfl⟩,q⟩
def rSplit:V->List V->Hp->VK->Prop:=fun x vs H Q=>∃ (a sep:Str),x=.str a/\vs=[.str sep]/\(sep.length == 0)=false/\a.length <= 900/\∀ p,H p=none->Q (.ref p) (upd H p (.lst ((Txt.split a sep).map V.str)))
theorem mt_split:MtR X "str.split" rSplit:=by
  intro pins s σ H x vs v us Q I rx rv h
  obtain ⟨a,sep,rfl,rfl,h0,hl,q⟩:=h
  obtain ⟨t,rfl⟩:=rx
  obtain ⟨u,rfl,ru⟩:=rv.one
  obtain ⟨t2,rfl⟩:=ru
  have hn:=I.hok.fresh (Nat.le_refl s.heap.objs.size)
  have big:=sz (show 1000 <= 1000 by decide)
  have lay:∀ (its:List Value) (k:Nat),Vals ((Txt.split a sep).map V.str) its->(Txt.split a sep).length <= sizeLine->EP X pins σ Q (.ref s.heap.objs.size) { s with heap:=s.heap.push { cls:=.type "list",data:=.seq its.toArray },toks:=k }:=fun its k hv hz =>
    ⟨.ref s.heap.objs.size,_,I.laid (a:=s.heap.objs.size) (o:=.lst ((Txt.split a sep).map V.str)) (t':=k) (fun _ _ q=>Heap.get?_push_of_some _ q) (Nat.le_refl _) ⟨by rw [List.length_map];exact hz,its,0,hv,Heap.get?_push_size _ rfl⟩,rfl,q _ hn⟩
  have one:∀ k,Txt.split a sep=[a]->EP X pins σ Q (.ref s.heap.objs.size) { s with heap:=s.heap.push { cls:=.type "list",data:=.seq #[Value.str a t] },toks:=k }:=fun k e=>by
    have:=lay [Value.str a t] k (by rw [e];exact .cons ⟨t,rfl⟩ .nil) (by rw [e];exact Nat.le_trans (show 1 <= 1000 by decide) big)
    exact this
  by_cases hc:(decide (a.length < sep.length) || decide (Builtin.Str.strKind a < Builtin.Str.strKind sep))=true
  · have e:Txt.split a sep=[a]:=by unfold Txt.split;rw [if_pos hc]
    refine call_meets PySem.F.slot_str_split (typeIs_str s a t) PySem.F.entry_str_split (PySem.F.args_str_split_2 _ _) (meets_str_split_cannot_occur a sep t t2 hc) (one _ e)
  · have hc':=Bool.eq_false_iff.mpr hc
    by_cases ho:(Builtin.Str.occurrences a sep 0 a.length (a.length + 1)).isEmpty=true
    · have e:Txt.split a sep=[a]:=by unfold Txt.split;rw [if_neg hc,if_pos ho]
      refine call_meets PySem.F.slot_str_split (typeIs_str s a t) PySem.F.entry_str_split (PySem.F.args_str_split_2 _ _) (meets_str_split_not_found a sep t t2 hc' h0 ho) (one _ e)
    · have e:Txt.split a sep=Builtin.Str.partsBetween a (Builtin.Str.occurrences a sep 0 a.length (a.length + 1)) sep.length:=by unfold Txt.split;rw [if_neg hc,if_neg ho]
      have hz:(Builtin.Str.partsBetween a (Builtin.Str.occurrences a sep 0 a.length (a.length + 1)) sep.length).length <= sizeLine:=by
        have h1:=split_weight a sep (by have:=bne_iff_ne.mp (show (sep.length != 0)=true by unfold bne;rw [h0];rfl);omega)
        rw [e] at h1
        exact Nat.le_trans (show _ <= 1000 by omega) big
      refine call_meets PySem.F.slot_str_split (typeIs_str s a t) PySem.F.entry_str_split (PySem.F.args_str_split_2 _ _) (meets_str_split_sep a sep t t2 hc' h0 (Bool.eq_false_iff.mpr ho) (Nat.le_trans hl (Nat.le_trans (by decide) big)) hz) ?_
      rw [<- e]
      exact lay _ _ (strs_vals _ _) (by rw [e];exact hz)
abbrev TJx:=St->Hp->(Str->Hp->Prop)->Prop
section
variable {es:List Expr} {n:Nat} {t:TJx}
end
end
end L2
namespace L2
open PySem PySem.Spec PyProof.Rows
def isStrD:PyData->Bool
  | .str _=>true
  | _=>false
theorem kit_str (K:PySem.W.Frag) (d:PyData):PySem.W.kitOne K (.type (tyN d)) (.type "str")=some (isStrD d):=by cases d <;> kernel_rfl
end L2
namespace G
open PySem PySem.Spec PyProof.Rows L2 Mt
structure Bt2 (mg:Str->Option Value):Prop where
  str:mg "str"=none
def tx (i:Int):Str:=Str.ofString (toString i)
theorem tx_okF:∀ i:Fin 41,(tx (i.1:Int)).cps.toList.contains 44=false/\(tx (i.1:Int)).cps.toList.contains 47=false/\(tx (i.1:Int)).length <= 2:=by decide +kernel
theorem tx_injF:∀ i j:Fin 21,tx (i.1:Int)=tx (j.1:Int)->i=j:=by decide +kernel
theorem tx_ok {i:Int} (h0:0 <= i) (h:i <= 40):44 ∉ (tx i).cps.toList/\47 ∉ (tx i).cps.toList/\(tx i).length <= 2:=by
  have e:((i.toNat:Nat):Int)=i:=Int.toNat_of_nonneg h0
  have:=tx_okF ⟨i.toNat,by omega⟩
  dsimp only at this
  rw [e] at this
  obtain ⟨h1,h2,h3⟩:=this
  exact ⟨fun z=>(by rw [List.contains_iff_mem.mpr z] at h1;cases h1),fun z=>(by rw [List.contains_iff_mem.mpr z] at h2;cases h2),h3⟩
theorem tx_inj {i j:Nat} (hi:i <= 20) (hj:j <= 20) (h:tx (i:Int)=tx (j:Int)):i=j:=by
  have:=tx_injF ⟨i,by omega⟩ ⟨j,by omega⟩ h
  exact congrArg Fin.val this
theorem log_s {i:Int} (h0:0 <= i) (h:i <= 1000):i.natAbs.log2 < 1920:=by
  rcases Nat.eq_zero_or_pos i.natAbs with e | e
  · rw [e];decide
  · exact Nat.lt_of_lt_of_le ((Nat.log2_lt (by omega)).mpr (show i.natAbs < 2 ^ 10 by omega)) (by decide)
def knw (n:Nat):List (Key × V):=(List.range n).map fun j:Nat=>((Sum.inr (tx (j:Int)):Key),V.int (j:Int))
theorem valV_mapN {α:Type} [DecidableEq α] {f:Nat->α} {g:Nat->V} {k:α}:∀ {l:List Nat},(∀ i ∈ l,f i ≠ k)->valV (l.map fun i=>(f i,g i)) k=none
  | [],_=>rfl
  | a :: l,h=>by
    rw [List.map_cons,valV_neg (h a List.mem_cons_self)]
    exact valV_mapN fun i hi=>h i (List.mem_cons_of_mem _ hi)
theorem knw_new {n:Nat} (hn:n <= 20):putK (knw n) (Sum.inr (tx (n:Int))) (.int (n:Int))=knw (n + 1):=by
  rw [putK_new]
  · unfold knw;rw [List.range_succ,List.map_append];rfl
  · exact valV_mapN (f:=fun j:Nat=>(Sum.inr (tx (j:Int)):Key)) (g:=fun j:Nat=>V.int (j:Int)) fun i hi e=>by
      have h1:=List.mem_range.mp hi
      have:=tx_inj (by omega) (by omega) (Sum.inr.inj e)
      omega
def rdO (n:Nat) (x:Str):Option Nat:=(List.range n).find? fun j:Nat=>decide ((Sum.inr (tx (j:Int)):Key)=Sum.inr x)
def rdV (n:Nat) (x:Str):V:=match rdO n x with
  | none=>.non
  | some j=>.int (j:Int)
def rdL (n:Nat):List Str->Option (List Int)
  | []=>some []
  | x :: xs=>match rdO n x,rdL n xs with
    | some j,some ns=>some ((j:Int) :: ns)
    | _,_=>none
theorem knw_val (n:Nat) (x:Str):(valV (knw n) (Sum.inr x)).getD .non=rdV n x:=by
  unfold valV knw rdV rdO
  rw [List.find?_map,Option.map_map]
  generalize hq:(List.find? ((fun kv:Key × V=>decide (kv.1=Sum.inr x)) ∘ fun j:Nat=>((Sum.inr (tx (j:Int)):Key),V.int (j:Int))) (List.range n))=r
  have hq':(List.range n).find? (fun j:Nat=>decide ((Sum.inr (tx (j:Int)):Key)=Sum.inr x))=r:=hq
  rw [hq']
  cases r <;> rfl
theorem rdO_lt {n j:Nat} {x:Str} (h:rdO n x=some j):j < n:=List.mem_range.mp (List.mem_of_find?_eq_some h)
theorem rdL_some {n:Nat}:∀ {xs:List Str} {ns:List Int},rdL n xs=some ns->xs.map (rdV n)=ns.map V.int/\ns.length=xs.length/\∀ z ∈ ns,0 <= z/\z < (n:Int)
  | [],ns,h=>by
    cases h
    exact ⟨rfl,rfl,by simp⟩
  | x :: xs,ns,h=>by
    unfold rdL at h
    cases h1:rdO n x with
    | none=>rw [h1] at h;cases h
    | some j =>
      cases h2:rdL n xs with
      | none=>rw [h1,h2] at h;cases h
      | some ms =>
        rw [h1,h2] at h
        cases h
        obtain ⟨e1,e2,e3⟩:=rdL_some h2
        refine ⟨?_,by rw [List.length_cons,List.length_cons,e2],fun z hz=>?_⟩
        · rw [List.map_cons,List.map_cons,e1]
          unfold rdV
          rw [h1]
        · have:=rdO_lt h1
          rcases List.mem_cons.mp hz with e | e
          · rw [e];omega
          · exact e3 z e
theorem rdV_flat (n:Nat) (x:Str):flatV (rdV n x)=true:=by
  unfold rdV
  cases rdO n x <;> rfl
theorem rdL_in {n:Nat}:∀ xs:List Str,inV .non (xs.map (rdV n))=(rdL n xs).isNone
  | []=>rfl
  | x :: xs=>by
    have ih:=rdL_in (n:=n) xs
    unfold inV at ih ⊢
    rw [List.map_cons,List.any_cons,ih]
    have e:rdL n (x :: xs)=(match rdO n x,rdL n xs with
      | some j,some ns=>some ((j:Int) :: ns)
      | _,_=>none):=rfl
    rw [e]
    unfold rdV
    generalize rdL n xs=r
    cases rdO n x with
    | none=>simp [eqV]
    | some j=>cases r <;> simp [eqV]
theorem split_len (t:Str):(Txt.split t ",").length <= t.length + 1:=by
  have:=split_weight t "," (by decide +kernel)
  omega
section
variable {P:Program} {w:World} {K:PySem.W.Frag} {mg:Str->Option Value} {base:Heap} {f:Addr} {fd:FuncData} {ec:Nat->Addr} {Bs:Addr}
def sp_ntx (ec:Nat->Addr):Sp:=fun vs H Q E=>∃ (st:Addr) (d:PyData) (v:V),vs=[v]/\Dt st H d v/\(isStrD d=true->Q .non H)/\(isStrD d=false->E (.ref (ec 9)) none H)
abbrev s_ntx:Stmt:=top 26
theorem sc_ntx:FnScope ["thing"] ["thing"] (defScope s_ntx):=⟨rfl,rfl,rfl,by decide +kernel,rfl,by decide +kernel,by decide +kernel⟩
theorem ok_ntx (F:Fun K "need_text" "need_text" s_ntx f fd) (B:Bt mg) (B2:Bt2 mg) (R:Errs K mg ec Bs):FnOk P w K mg base (CX1 P w) 1 f fd ["thing"] (sp_ntx ec):=by
  refine F.okX sc_ntx (fun vs H Q E h=>?_) (fun cdv A outer s H vs Q E hr h=>?_)
  · obtain ⟨st,d,v,rfl,_⟩:=h
    rfl
  obtain ⟨st,d,v,rfl,hd,q1,q2⟩:=h
  refine ⟨_,(@pss_one _ _ _ (ps_if (pt_not (pt_val (pe_callB (call_isi kit_str) rfl B.isinstance boot_isinstance (@pa_cons _ _ _ _ _ (pv 0) (@pa_cons _ _ _ _ _ (pe_bty rfl B2.str boot_str) pa_nil (by rfl)) (by rfl))))) (@pss_one _ _ _ (ps_raise1 R.e9 (R.xc 9 (by decide)) pe_str (fun σ H Q Q' m q=>m _ _ q))) pss_nil)),?_⟩
  refine ⟨_,rfl,v,st,d,rfl,hd,_,rfl,?_⟩
  cases hs:isStrD d with
  | true=>exact iteF (q1 hs)
  | false=>exact iteT (q2 hs)
def sp_nr:Sp:=fun vs H Q _=>∃ (t:Str) (m:Nat),vs=[.str t,.int m]/\m <= 20/\t.length <= 900/\(rdL (m + 1) (Txt.split t ",")=none->∀ H',Same H H'->Q .non H') /\
  ∀ ns,rdL (m + 1) (Txt.split t ",")=some ns->∀ p H',Same H H'->(∀ b o,H b=some o->b ≠ p)->H' p=some (.tup (ns.map V.int))->Q (.ref p) H'
abbrev s_nr:Stmt:=top 25
theorem sc_nr:FnScope ["text","most","known","numbers"] ["text","most"] (defScope s_nr):=⟨rfl,rfl,rfl,by decide +kernel,rfl,by decide +kernel,by decide +kernel⟩
theorem ok_nr (F:Fun K "numbers_read" "numbers_read" s_nr f fd) (B:Bt mg) (B2:Bt2 mg):FnOk P w K mg base CX0 1 f fd ["text","most"] sp_nr:=by
  refine F.ok sc_nr (fun vs H Q E h=>?_) (fun cdv A outer s H vs Q E hr h=>?_)
  · obtain ⟨t,m,rfl,_⟩:=h
    rfl
  obtain ⟨t,m,rfl,hm,hl,q0,q⟩:=h
  refine ⟨_,(@pss_cons _ _ _ _ _ (@ps_set _ _ 2 _ _ _ _ sc_nr.nd rfl (Or.inr rfl) (pe_dcomp (N:=["number"]) (ix:=[none]) rfl (pi_range1 rfl B.range (@pa_cons _ _ _ _ _ (@pe_op _ _ _ _ _ _ _ _ op_add (pv 1) pe_int) pa_nil (by rfl)))
      (fun s H ex=>pg_c (i:=0) (by decide +kernel) rfl (Or.inl rfl) (.inr rfl)) (fun s H ex=>(pe_callTy call_str_int rfl B2.str boot_str (@pa_cons _ _ _ _ _ (pv 0) pa_nil (by rfl)))) (fun s H ex=>(pv 0)) rfl (by decide +kernel) (by rfl) (by rfl) (fun _=>rfl)) (by rfl) (by first | exact .inl rfl | exact .inr rfl))
    (@pss_cons _ _ _ _ _ (ps_setcompG (N:=["word","known"]) (ix:=[none,some 2]) (ifs:=[]) (tc:=tTrue) (i:=3) rfl sc_nr.nd rfl rfl  (pi_list (pe_bm PySem.F.plainAttrs_str PySem.F.slot_str_split PySem.F.type_str_split mt_split (pv 0) (@pa_cons _ _ _ _ _ pe_str pa_nil (by rfl))))
      (fun s H ex=>pg_c (i:=0) (by decide +kernel) rfl (Or.inl rfl) (.inr rfl)) (fun s H ex=>pifs_nil) (fun s H ex=>(pe_dget1 (hu_of hr) (pv 1) (pv 0) ⟨rfl,rfl,rfl,rfl⟩)) rfl (by decide +kernel) (by rfl) (by rfl) (fun _=>rfl) (by rfl))
    (@pss_one _ _ _ (ps_ret (pe_ifExp (@pt_cmpR _ _ _ _ _ _ _ _ op_in_seq pe_non (pv 3) (by rfl)) pe_non (pe_callTy call_tuple_of rfl B.tuple boot_tuple (@pa_cons _ _ _ _ _ (pv 3) pa_nil (by rfl)))))))),?_⟩
  refine ⟨_,rfl,_,_,rfl,rfl,((m + 1:Nat):Int),rfl,by omega,by omega,fun pk hpk=>?_⟩
  rw [Int.toNat_natCast]
  refine blkD_range (lo:=0) (n:=m + 1) (fun i Hi=>Same H Hi/\Hi pk=some (.dK (knw i))) ⟨Same.new hpk,upd_same⟩ rfl (fun i Hi hi h=>?_) (fun H2 h=>?_)
  · obtain ⟨gi,hpi⟩:=h
    have ei:(0:Int) + (i:Int)=(i:Int):=by omega
    rw [ei]
    refine ⟨_,rfl,(i:Int),rfl,log_s (by omega) (by omega),_,rfl,_,⟨knw i,Sum.inr (tx (i:Int)),hpi,rfl,?_,rfl⟩,?_,?_⟩
    · have:(knw i).length=i:=by unfold knw;rw [List.length_map,List.length_range]
      rw [this]
      have:=sz (show i + 1 <= 1000 by omega)
      omega
    · exact fun b o e=>Kp.at _ _ (fun z=>by rw [z,hpk] at e;cases e) (gi _ _ e)
    · rw [upd_same,knw_new (by omega)]
  obtain ⟨g2,hpk2⟩:=h
  have hsl:=split_len t
  refine ⟨_,rfl,rfl,t,_,rfl,rfl,by decide +kernel,hl,fun ps hps=>?_⟩
  generalize Txt.split t ","=wds at hsl q0 q
  have g3:Same H2 (upd H2 ps (.lst (wds.map V.str))):=Same.new hps
  have hps3:upd H2 ps (.lst (wds.map V.str)) ps=some (.lst (wds.map V.str)):=upd_same
  try dsimp -proj only
  generalize upd H2 ps (.lst (wds.map V.str))=H3 at g3 hps3
  have hpk3:=g3 _ _ hpk2
  refine ⟨ps,rfl,⟨_,.of hps3⟩,?_⟩
  refine blk_list (K:=K) (a:=ps) (xs:=wds.map V.str) (sz (by rw [List.length_map];omega)) (fun j ys Hj=>Same H3 Hj/\ys=(wds.take j).map (rdV (m + 1))/\ys.length=j)
    ⟨Same.refl _,rfl,rfl⟩ (fun j ys Hj h=>h.2.2) (fun j ys Hj _ h=>.of (h.1 _ _ hps3)) rfl (fun j ys Hj v hv h=>?_) (fun ys Hj h=>?_)
  · obtain ⟨gj,hy,hyl⟩:=h
    rw [List.getElem?_map] at hv
    obtain ⟨x,hx,ex⟩:=Option.map_eq_some_iff.mp hv
    subst ex
    have hD:=DGet.k (k:=Sum.inr x) (gj _ _ hpk3)
    refine ⟨_,rfl,pk,rfl,.inl ⟨_,.inl (gj _ _ hpk3)⟩,_,rfl,_,hD,gj,?_,by rw [List.length_append,hyl];rfl⟩
    rw [hy,List.take_add_one,hx,List.map_append,knw_val]
    rfl
  obtain ⟨gj,hy,hyl⟩:=h
  rw [List.length_map,List.take_of_length_le (Nat.le_refl _)] at hy
  subst hy
  intro pn hpn
  have g4:Same Hj (upd Hj pn (.lst (wds.map (rdV (m + 1))))):=Same.new hpn
  have hpn4:upd Hj pn (.lst (wds.map (rdV (m + 1)))) pn=some (.lst (wds.map (rdV (m + 1)))):=upd_same
  try dsimp -proj only
  generalize upd Hj pn (.lst (wds.map (rdV (m + 1))))=H4 at g4 hpn4
  have gT:Same H H4:=(g2.trans g3).trans (gj.trans g4)
  refine ⟨_,rfl,pn,_,rfl,.inl (.of hpn4),rfl,?_,_,rfl,?_⟩
  · rw [List.all_map]
    exact List.all_eq_true.mpr fun x _=>rdV_flat _ x
  rw [rdL_in]
  cases hr':rdL (m + 1) wds with
  | none=>exact iteT (q0 hr' _ gT)
  | some ns =>
    refine iteF ⟨_,rfl,pn,_,rfl,.inl ⟨.of hpn4,fun t' ht=>?_⟩⟩
    have e:=(rdL_some hr').1
    refine q ns hr' t' _ (gT.trans (Same.new ht)) (fun b o e=>ne_of_none (gT _ _ e) ht) ?_
    rw [upd_same,e]
end
end G
namespace G
open PySem PySem.Spec PyProof.Rows L2 Mt
theorem sm_k' {k:Int} (h1:1 <= k) (h4:k <= 4):Sm k:=by
  have h:k=1 ∨ k=2 ∨ k=3 ∨ k=4:=by omega
  rcases h with rfl | rfl | rfl | rfl <;> (unfold Sm;decide +kernel)
def urT (t:Str):Option (List Int):=match rdL 21 (Txt.split t ",") with
  | none=>none
  | some ns=>if urnD 20 (DI ns)=true then some ns else none
def rsL:List Str->Option (List (List Int))
  | []=>some []
  | x :: xs=>match rdL 6 (Txt.split x ","),rsL xs with
    | some r,some rs=>some (r :: rs)
    | _,_=>none
def ruT (n:Int) (t:Str):Option (List (List Int)):=match rsL (Txt.split t "/") with
  | none=>none
  | some rs=>if ruleD n (DR rs)=true then some rs else none
def rwD (x:Str):PyData:=match rdL 6 (Txt.split x ",") with
  | none=>.none
  | some ns=>DI ns
theorem rwD_some:∀ {xs:List Str} {rs:List (List Int)},rsL xs=some rs->xs.map rwD=rs.map DI
  | [],rs,h=>by cases h;rfl
  | x :: xs,rs,h=>by
    have e:rsL (x :: xs)=(match rdL 6 (Txt.split x ","),rsL xs with
      | some r,some rs=>some (r :: rs)
      | _,_=>none):=rfl
    rw [e] at h
    cases h1:rdL 6 (Txt.split x ",") with
    | none=>rw [h1] at h;cases h
    | some r =>
      cases h2:rsL xs with
      | none=>rw [h1,h2] at h;cases h
      | some ms =>
        rw [h1,h2] at h
        cases h
        rw [List.map_cons,List.map_cons,rwD_some h2]
        unfold rwD
        rw [h1]
theorem rwD_none:∀ {xs:List Str},rsL xs=none->PyData.none ∈ xs.map rwD
  | [],h=>by cases h
  | x :: xs,h=>by
    have e:rsL (x :: xs)=(match rdL 6 (Txt.split x ","),rsL xs with
      | some r,some rs=>some (r :: rs)
      | _,_=>none):=rfl
    rw [e] at h
    cases h1:rdL 6 (Txt.split x ",") with
    | none =>
      rw [List.map_cons]
      have:rwD x=.none:=by unfold rwD;rw [h1]
      rw [this];exact List.mem_cons_self
    | some r =>
      cases h2:rsL xs with
      | none=>exact List.mem_cons_of_mem _ (rwD_none h2)
      | some ms=>rw [h1,h2] at h;cases h
theorem ruT_not {n:Int} {t:Str} (h:ruT n t=none):ruleD n (.tuple ((Txt.split t "/").map rwD))=false:=by
  unfold ruT at h
  cases h1:rsL (Txt.split t "/") with
  | none =>
    cases h2:ruleD n (.tuple ((Txt.split t "/").map rwD)) with
    | false=>rfl
    | true =>
      have h3:(decide ((((Txt.split t "/").map rwD).length:Int)=n) && ((Txt.split t "/").map rwD).all (fun r=>wholesD 0 5 r && decide ((lenD r:Int)=n)))=true:=h2
      rw [Bool.and_eq_true] at h3
      have:=List.all_eq_true.mp h3.2 _ (rwD_none h1)
      cases this
  | some rs =>
    rw [h1] at h
    dsimp only at h
    rw [rwD_some h1]
    show ruleD n (DR rs)=false
    by_cases h2:ruleD n (DR rs)=true
    · rw [if_pos h2] at h;cases h
    · exact Bool.eq_false_iff.mpr h2
theorem ruT_is {n:Int} {t:Str} {rs:List (List Int)} (h:ruT n t=some rs):(Txt.split t "/").map rwD=rs.map DI/\ruleD n (DR rs)=true:=by
  unfold ruT at h
  cases h1:rsL (Txt.split t "/") with
  | none=>rw [h1] at h;cases h
  | some rs' =>
    rw [h1] at h
    dsimp only at h
    by_cases h2:ruleD n (DR rs')=true
    · rw [if_pos h2] at h
      cases h
      exact ⟨rwD_some h1,h2⟩
    · rw [if_neg h2] at h;cases h
theorem rdO_sz {t:Str}:∀ x ∈ Txt.split t "/",x.length <= t.length:=fun x hx=>by
  have h:=split_weight t "/" (by decide +kernel)
  have:∀ (l:List Str),x ∈ l->x.length <= (l.map fun y=>y.length).sum:=fun l=>by
    induction l with
    | nil=>intro h;cases h
    | cons a l ih =>
      intro h
      rw [List.map_cons,List.sum_cons]
      rcases List.mem_cons.mp h with e | e
      · rw [e];omega
      · have:=ih e;omega
  have h1:=this _ hx
  have h2:=List.length_pos_of_mem hx
  omega
theorem split_lenS (t:Str):(Txt.split t "/").length <= t.length + 1:=by
  have:=split_weight t "/" (by decide +kernel)
  omega
section
variable {P:Program} {w:World} {K:PySem.W.Frag} {mg:Str->Option Value} {base:Heap} {f:Addr} {fd:FuncData} {ec:Nat->Addr} {Bs:Addr}
def sp_ur (ec:Nat->Addr):Sp:=fun vs H Q E=>∃ (st:Addr) (d:PyData) (v:V),vs=[v]/\Dt st H d v/\(isStrD d=false->∀ H',Same H H'->E (.ref (ec 9)) none H') /\
  ∀ t,d=.str t->t.length <= 900/\(urT t=none->∀ H',Same H H'->E (.ref (ec 9)) none H')/\∀ ns,urT t=some ns->∀ p H',Same H H'->(∀ b o,H b=some o->b ≠ p)->H' p=some (.tup (ns.map V.int))->Q (.ref p) H'
abbrev s_ur:Stmt:=top 27
theorem sc_ur:FnScope ["text","urn"] ["text"] (defScope s_ur):=⟨rfl,rfl,rfl,by decide +kernel,rfl,by decide +kernel,by decide +kernel⟩
theorem ok_ur (F:Fun K "urn_read" "urn_read" s_ur f fd) (C:Ct mg) (R:Errs K mg ec Bs) (c1:CalX P w K mg base 5 "need_text" ["thing"] (sp_ntx ec)) (c2:Cal P w K mg base 5 "numbers_read" ["text","most"] sp_nr) (c3:Cal P w K mg base 5 "is_urn" ["thing"] sp_is_urn):FnOk P w K mg base (CX1 P w) 6 f fd ["text"] (sp_ur ec):=by
  refine F.okX sc_ur (fun vs H Q E h=>?_) (fun cdv A outer s H vs Q E hr h=>?_)
  · obtain ⟨st,d,v,rfl,_⟩:=h
    rfl
  obtain ⟨st,d,v,rfl,hd,q1,q2⟩:=h
  obtain ⟨tbl,hbl⟩:=C.balls
  refine ⟨_,(@pss_cons _ _ _ _ _ (ps_expr (pe_calx c1 hr rfl passes1 (@pa_cons _ _ _ _ _ (pv 0) pa_nil (by rfl))))
    (@pss_cons _ _ _ _ _ (@ps_set _ _ 1 _ _ _ _ sc_ur.nd rfl (Or.inl rfl) (pe_cal c2 hr rfl (@pa_cons _ _ _ _ _ (pv 0) (@pa_cons _ _ _ _ _ (pe_glob (v:=.int 20) rfl hbl ⟨tbl,rfl⟩) pa_nil (by rfl)) (by rfl))) (by rfl) (by first | exact .inl rfl | exact .inr rfl))
    (@pss_cons _ _ _ _ _ (ps_if (pt_not (pt_val (pe_cal c3 hr rfl (@pa_cons _ _ _ _ _ (pv 1) pa_nil (by rfl))))) (@pss_one _ _ _ (ps_raise1 R.e9 (R.xc 9 (by decide)) pe_str (fun σ H Q Q' m q=>m _ _ q))) pss_nil)
    (@pss_one _ _ _ (ps_ret (pv 1)))))),?_⟩
  refine ⟨_,rfl,st,d,v,rfl,hd,fun hs=>?_,fun hs=>q1 hs H (Same.refl H)⟩
  obtain ⟨t,ed⟩:∃ t,d=.str t:=by
    cases d with
    | str x=>exact ⟨x,rfl⟩
    | _=>cases hs
  subst ed
  have ev:v=.str t:=by unfold Dt at hd;exact hd
  subst ev
  obtain ⟨hl,qn,qs⟩:=q2 t rfl
  unfold urT at qn qs
  refine ⟨_,rfl,t,20,rfl,by decide,hl,fun e H1 g1=>?_,fun ns e p H1 g1 fr hp=>?_⟩
  · refine ⟨_,rfl,_,0,.none,rfl,by unfold Dt;rfl,(fun ds z=>by cases z),fun H2 g2=>⟨_,rfl,iteT ?_⟩⟩
    refine qn ?_ H2 (g1.trans g2)
    rw [e]
  · obtain ⟨e1,e2,e3⟩:=rdL_some e
    have hsl:=split_len t
    refine ⟨_,rfl,_,p + 1,DI ns,rfl,Dt.mkI (Nat.ne_of_lt (Nat.lt_succ_self p)) hp,short_DI (by omega),fun H2 g2=>⟨_,rfl,?_⟩⟩
    cases hu:urnD 20 (DI ns) with
    | true =>
      refine iteF ⟨_,rfl,qs ns ?_ p H2 (g1.trans g2) fr (g2 _ _ hp)⟩
      rw [e]
      show (if urnD 20 (DI ns)=true then some ns else none)=_
      rw [hu];rfl
    | false =>
      refine iteT (qn ?_ H2 (g1.trans g2))
      rw [e]
      show (if urnD 20 (DI ns)=true then some ns else none)=_
      rw [hu];rfl
def sp_rr (ec:Nat->Addr):Sp:=fun vs H Q E=>∃ (l:Addr) (o:HO) (dk d:PyData) (u v:V),vs=[u,v]/\H l=some o/\Dt l H dk u/\Dt l H d v/\(wholeD 1 4 dk=false->∀ H',Same H H'->E (.ref (ec 5)) none H') /\
  ∀ n:Int,dk=.int n->1 <= n->n <= 4->(isStrD d=false->∀ H',Same H H'->E (.ref (ec 9)) none H') /\
    ∀ t,d=.str t->t.length <= 900/\(ruT n t=none->∀ H',Same H H'->E (.ref (ec 9)) none H')/\∀ rs,ruT n t=some rs->∀ p H',Same H H'->Dt l H' (DR rs) (.ref p)->Q (.ref p) H'
abbrev s_rr:Stmt:=top 28
theorem sc_rr:FnScope ["kinds","text","rule"] ["kinds","text"] (defScope s_rr):=⟨rfl,rfl,rfl,by decide +kernel,rfl,by decide +kernel,by decide +kernel⟩
theorem ok_rr (F:Fun K "rule_read" "rule_read" s_rr f fd) (B:Bt mg) (C:Ct mg) (R:Errs K mg ec Bs) (c1:CalX P w K mg base 5 "need_number" ["thing","low","high"] (sp_need_number ec)) (c2:CalX P w K mg base 5 "need_text" ["thing"] (sp_ntx ec)) (c3:Cal P w K mg base 5 "numbers_read" ["text","most"] sp_nr) (c4:CalX P w K mg base 5 "is_rule" ["kinds","thing"] (sp_is_rule ec)):FnOk P w K mg base (CX1 P w) 6 f fd ["kinds","text"] (sp_rr ec):=by
  refine F.okX sc_rr (fun vs H Q E h=>?_) (fun cdv A outer s H vs Q E hr h=>?_)
  · obtain ⟨l,o,dk,d,u,v,rfl,_⟩:=h
    rfl
  obtain ⟨l,o,dk,d,u,v,rfl,hlo,hdk,hd,q5,q9⟩:=h
  obtain ⟨tkd,hkd⟩:=C.kinds
  obtain ⟨tpt,hpt⟩:=C.puts
  refine ⟨_,(@pss_cons _ _ _ _ _ (ps_expr (pe_calx c1 hr rfl passes1 (@pa_cons _ _ _ _ _ (pv 0) (@pa_cons _ _ _ _ _ pe_int (@pa_cons _ _ _ _ _ (pe_glob (v:=.int 4) rfl hkd ⟨tkd,rfl⟩) pa_nil (by rfl)) (by rfl)) (by rfl))))
    (@pss_cons _ _ _ _ _ (ps_expr (pe_calx c2 hr rfl passes1 (@pa_cons _ _ _ _ _ (pv 1) pa_nil (by rfl))))
    (@pss_cons _ _ _ _ _ (@ps_set _ _ 2 _ _ _ _ sc_rr.nd rfl (Or.inl rfl) (pe_callTy call_tuple_of rfl B.tuple boot_tuple (@pa_cons _ _ _ _ _ (pe_compG (N:=["row"]) (ix:=[none]) (ifs:=[]) (tc:=tTrue) rfl (pi_list (pe_bm PySem.F.plainAttrs_str PySem.F.slot_str_split PySem.F.type_str_split mt_split (pv 1) (@pa_cons _ _ _ _ _ pe_str pa_nil (by rfl))))
      (fun s H ex=>pg_c (i:=0) (by decide +kernel) rfl (Or.inl rfl) (.inr rfl)) (fun s H ex=>pifs_nil) (fun s H ex=>(pe_cal c3 hr rfl (@pa_cons _ _ _ _ _ (pv 0) (@pa_cons _ _ _ _ _ (pe_glob (v:=.int 5) rfl hpt ⟨tpt,rfl⟩) pa_nil (by rfl)) (by rfl)))) rfl (by decide +kernel) (by rfl) (by rfl) (fun _=>rfl)) pa_nil (by rfl))) (by rfl) (by first | exact .inl rfl | exact .inr rfl))
    (@pss_cons _ _ _ _ _ (ps_if (pt_not (pt_val (pe_calx c4 hr rfl passes1 (@pa_cons _ _ _ _ _ (pv 0) (@pa_cons _ _ _ _ _ (pv 2) pa_nil (by rfl)) (by rfl))))) (@pss_one _ _ _ (ps_raise1 R.e9 (R.xc 9 (by decide)) (pe_fstr (pj_str (pj_fmt (pv 0) (pj_str pj_nil)))) (fun σ H Q Q' m q=>?_))) pss_nil)
    (@pss_one _ _ _ (ps_ret (pv 2))))))),?_⟩
  · obtain ⟨v1,z1,i1,z2,z3,z4,z5⟩:=q
    exact ⟨v1,z1,i1,z2,z3,z4,fun z=>m _ _ (z5 z)⟩
  refine ⟨_,rfl,u,l,dk,1,4,rfl,hdk,sm_k' (by decide) (by decide),sm_k' (by decide) (by decide),fun hw=>?_,fun hw=>q5 hw H (Same.refl H)⟩
  obtain ⟨n,ed,n1,n4⟩:=wholeD_int hw
  subst ed
  have eu:u=.int n:=hdk.unint
  subst eu
  obtain ⟨qb,qt⟩:=q9 n rfl n1 n4
  refine ⟨_,rfl,l,d,v,rfl,hd,fun hs=>?_,fun hs=>qb hs H (Same.refl H)⟩
  obtain ⟨t,ed⟩:∃ t,d=.str t:=by
    cases d with
    | str x=>exact ⟨x,rfl⟩
    | _=>cases hs
  subst ed
  have ev:v=.str t:=by unfold Dt at hd;exact hd
  subst ev
  obtain ⟨hl,qn,qs⟩:=qt t rfl
  have hsl:=split_lenS t
  have hsz:∀ x ∈ Txt.split t "/",x.length <= 900:=fun x hx=>Nat.le_trans (rdO_sz x hx) hl
  refine ⟨_,rfl,rfl,t,_,rfl,rfl,by decide +kernel,hl,fun ps hps=>?_⟩
  have hrn:=ruT_not (n:=n) (t:=t)
  have hri:=fun rs=>ruT_is (n:=n) (t:=t) (rs:=rs)
  generalize Txt.split t "/"=wds at hsl hsz hrn hri
  have g3:Same H (upd H ps (.lst (wds.map V.str))):=Same.new hps
  have hps3:upd H ps (.lst (wds.map V.str)) ps=some (.lst (wds.map V.str)):=upd_same
  try dsimp -proj only
  generalize upd H ps (.lst (wds.map V.str))=H3 at g3 hps3
  refine ⟨ps,rfl,⟨_,.of hps3⟩,?_⟩
  refine blk_list (K:=K) (a:=ps) (xs:=wds.map V.str) (sz (by rw [List.length_map];omega)) (fun j ys Hj=>Same H3 Hj/\Dts l Hj ((wds.take j).map rwD) ys/\ys.length=j)
    ⟨Same.refl _,Dts.nil _ _,rfl⟩ (fun j ys Hj h=>h.2.2) (fun j ys Hj _ h=>.of (h.1 _ _ hps3)) rfl (fun j ys Hj v hv h=>?_) (fun ys Hj h=>?_)
  · obtain ⟨gj,hD,hyl⟩:=h
    rw [List.getElem?_map] at hv
    obtain ⟨x,hx,ex⟩:=Option.map_eq_some_iff.mp hv
    subst ex
    have step:∀ (z:V) (Hk:Hp),Same Hj Hk->Dt l Hk (rwD x) z->Same H3 Hk/\Dts l Hk ((wds.take (j + 1)).map rwD) (ys ++ [z])/\(ys ++ [z]).length=j + 1:=fun z Hk gk hz=>by
      refine ⟨gj.trans gk,?_,by rw [List.length_append,hyl];rfl⟩
      rw [List.take_add_one,hx,List.map_append]
      exact (hD.kp (gk.kp l)).append (Dts.cons hz (Dts.nil _ _))
    refine ⟨_,rfl,x,5,rfl,by decide,hsz x (List.mem_of_getElem? hx),fun e Hk gk=>step _ Hk gk ?_,fun ns e p1 Hk gk fr hp1=>step _ Hk gk ?_⟩
    · have:rwD x=.none:=by unfold rwD;rw [e]
      rw [this];unfold Dt;rfl
    · have:rwD x=DI ns:=by unfold rwD;rw [e]
      rw [this];exact Dt.mkI (fr l o ((g3.trans gj) _ _ hlo)).symm hp1
  obtain ⟨gj,hD,hyl⟩:=h
  rw [List.length_map,List.take_of_length_le (Nat.le_refl _)] at hD
  intro p2 hp2
  have g4:Same Hj (upd Hj p2 (.lst ys)):=Same.new hp2
  have hp2':upd Hj p2 (.lst ys) p2=some (.lst ys):=upd_same
  try dsimp -proj only
  generalize upd Hj p2 (.lst ys)=Ha at g4 hp2'
  refine ⟨p2,_,rfl,.inl ⟨.of hp2',fun t' ht=>?_⟩⟩
  have g5:Same Ha (upd Ha t' (.tup ys)):=Same.new ht
  have gA:=(g3.trans gj).trans g4
  have hdt:Dt l (upd Ha t' (.tup ys)) (.tuple (wds.map rwD)) (.ref t'):=Dt.tup (ne_of_none (gA _ _ hlo) ht).symm upd_same (hD.kp ((g4.trans g5).kp l))
  try dsimp -proj only
  generalize upd Ha t' (.tup ys)=Hb at g5 hdt
  refine ⟨_,rfl,_,rfl,.int n,.ref t',l,.int n,_,rfl,Dt.int _ _ _,fun e=>?_,fun k ek k1 k4=>⟨hdt,?_,?_,fun Hc gc=>⟨_,rfl,?_⟩⟩⟩
  · exfalso
    rw [hw] at e;cases e
  · intro ds e
    cases e
    rw [List.length_map];omega
  · intro ds e r hr'
    cases e
    obtain ⟨x,hx,ex⟩:=List.mem_map.mp hr'
    subst ex
    intro ds e
    unfold rwD at e
    cases h6:rdL 6 (Txt.split x ",") with
    | none=>rw [h6] at e;cases e
    | some ns =>
      rw [h6] at e
      cases e
      have:=(rdL_some h6).2.1
      have h7:=split_len x
      have h8:=hsz x hx
      rw [List.length_map];omega
  · cases ek
    cases hu:ruT n t with
    | none =>
      rw [hrn hu]
      exact iteT ⟨_,rfl,n,rfl,(sm_k' n1 n4).1,(sm_k' n1 n4).2,fun z=>qn hu Hc ((gA.trans g5).trans gc)⟩
    | some rs =>
      obtain ⟨e1,e2⟩:=hri rs hu
      rw [e1]
      rw [show ruleD n (.tuple (rs.map DI))=true from e2]
      refine iteF ⟨_,rfl,qs rs hu t' Hc ((gA.trans g5).trans gc) ?_⟩
      have:=hdt.kp (gc.kp l)
      rw [e1] at this
      exact this
end
end G
namespace L2
open PySem PySem.Spec PyProof.Rows
theorem en_loop:entryFor table "dict.update.loop"=some Builtin.«dict.update.loop»:=by kernel_rfl
theorem ck_dnew (a:Value):checkBuiltinCall "dict.__new__" { pos:=[.type "dict",a] }=pure ():=by kernel_rfl
theorem dnew (a:Value):Builtin.«dict.__new__» ⟨[.type "dict",a],[]⟩=(do let o <- newObj (.type "dict") (.dict #[]);ret o):=by kernel_rfl
section
variable {prog:Program} {w:World} {A:Around} {E:Value->Shared->Prop} {s:Shared}
theorem lk_keys:typeLookup (Value.type "list") (Str.ofString "keys")=pure none:=by kernel_rfl
theorem lk_getattr:typeLookup (Value.type "list") (Str.ofString "__getattr__")=pure none:=by kernel_rfl
theorem ty_lga:typeOf (.builtin "list.__getattribute__")=pure (.type "wrapper_descriptor"):=by kernel_rfl
theorem attr_keys {p:Addr} {xs:Array Value} {k:Nat} {sl:Array (Option Value)} {Q:Option Value->Shared->Prop} (ho:s.heap.get? p=some { cls:=.type "list",data:=.seq xs k,slots:=sl }) (hh:A.handled=none)
    (h:∀ h' tk,(∀ b o,s.heap.get? b=some o->h'.get? b=some o)->Q none { s with heap:=h',toks:=tk }):wpAny (model prog w) A (getAttr? (.ref p) (Str.ofString "keys")) Q E s:=by
  have hT:s.TypeIs (.ref p) "list":=⟨_,ho,rfl⟩
  unfold getAttr?
  refine wpAny_bind (wpAny_mkText ?_)
  unfold getAttrBy?
  refine wpAny_bind (wpAny_attempt ?_)
  unfold getAttrBy
  refine wpAny_holding (wpAny_bind (wpAny_typeOf (T:="list") hT ?_))
  rw [list_getattribute]
  refine wpAny_bind (wpAny_pure ?_)
  dsimp only
  rw [if_neg (by decide)]
  unfold getAttrByItsOwn hookBefore
  rw [if_neg (by decide)]
  refine wpAny_bind (wpAny_pure (wpAny_bind (wpAny_attempt (wpAny_holding ?_))))
  unfold callGetattribute
  rw [if_neg (by decide)]
  unfold boundAndCalled bindSpecial
  rw [ty_lga]
  refine wpAny_bind (wpAny_bind (wpAny_pure ?_))
  rw [if_pos (by decide)]
  refine wpAny_pure ?_
  dsimp only
  show wpAny (model prog w) A (call (.builtin "list.__getattribute__") [.ref p,.str (Str.ofString "keys") s.toks]) _ _ _
  refine call_meets PySem.F.slot_list_getattribute (⟨_,ho,rfl⟩:Shared.TypeIs _ (.ref p) "list") am_entry_list_getattribute (PySem.F.args_list_getattribute_2 _ _)
    (meets_getattribute_miss_list p xs k sl (Str.ofString "keys") s.toks lk_keys (by decide +kernel) (by decide +kernel)) ⟨ho,hh,fun h' tk e hE=>?_⟩
  dsimp only at hE
  obtain ⟨t,u,he⟩:=hE.there
  show wpAny (model prog w) A (getattributeRaised (.ref p) (.str (Str.ofString "keys") s.toks) (.type "list") (.ref e) none false false) _ _ _
  unfold getattributeRaised
  refine wpAny_bind (wpAny_isInstance (T:="AttributeError") (b:=true) ⟨_,he,rfl⟩ sub_AttributeError ?_)
  rw [if_pos rfl]
  unfold hookBehind
  rw [if_neg (by decide),lk_getattr]
  refine wpAny_bind (wpAny_pure ?_)
  unfold hookOrError attributeErrorLeaves
  dsimp only
  rw [if_pos (show (!false)=true from rfl)]
  refine wpAny_bind (wpAny_throw ?_)
  refine wpAny_bind (wpAny_isInstance (T:="AttributeError") (b:=true) ⟨_,he,rfl⟩ sub_AttributeError ?_)
  rw [if_pos rfl]
  exact wpAny_pure (h h' tk hE.keeps)
end
end L2
namespace L2
open PySem PySem.Spec PyProof.Rows
theorem quiet_loop (args:Args):(Code.builtin "dict.update.loop" args).quiet=true:=by kernel_rfl
section
variable {X:Cx} {pins:List (Addr × Obj)} {σ:St} {H:Hp} {p d it:Addr} {rs:List Addr} {kvs:List (Key × V)} {A:Around} {R:Result->Shared->Prop}
theorem upd_loop (hh:A.handled=none) (hn:kvs.length <= 1000) (hlen:rs.length=kvs.length) (hp:H p=some (.lst (rs.map V.ref))) (hd:H d=none) (hpr:∀ (j:Nat) r,rs[j]?=some r->∃ k v,kvs[j]?=some (k,v)/\H r=some (.tup [kV k,v])) (hF:FpOk X pins H it) (hitd:it ≠ d)
    (fin:∀ s',Inv X pins σ (upd H d (.dK (mergeK [] kvs))) s'->R (.ok (.ret .none)) s'):∀ (m i:Nat) (s:Shared),kvs.length - i=m->i <= kvs.length->Inv X pins σ (upd H d (.dK (mergeK [] (kvs.take i)))) s->s.heap.IsListIter it p i ->
    codeAny (model X.prog X.w) A (.builtin "dict.update.loop" ⟨[.ref d,.ref it,rawInt i,.none],[]⟩) R s
  | m,i,s,hm,hi,I,hit=>by
    have npd:p ≠ d:=fun e=>by rw [e,hd] at hp;cases hp
    have hp':upd H d (.dK (mergeK [] (kvs.take i))) p=some (.lst (rs.map V.ref)):=by rw [upd_ne npd];exact hp
    obtain ⟨its,rv,pl,hz⟩:=I.list (.of hp')
    have hil:=rv.length
    rw [List.length_map] at hil
    refine codeAny_builtin en_loop ?_
    unfold Builtin.«dict.update.loop» rawInt
    dsimp only
    by_cases hlt:i < kvs.length
    · have hri:i < rs.length:=by omega
      obtain ⟨k,v,hkv,hr⟩:=hpr i rs[i] (List.getElem?_eq_getElem hri)
      have hiv:i < its.length:=by omega
      have hx:its[i]?=some (.ref rs[i]):=by
        have:=rv.get (i:=i) (x:=.ref rs[i]) (by rw [List.getElem?_map,List.getElem?_eq_getElem hri];rfl)
        obtain ⟨u,hu,ru⟩:=this
        cases ru
        exact hu
      generalize rs[i]=r at hr hx
      refine wpAny_bind (wpAny_pyNext_list_item hit pl.isList (by simpa using hx) fun h' hit' sb=>?_)
      dsimp only
      obtain ⟨f0,f1,f2,f3,f4,f5⟩:=hF
      have f0':upd H d (.dK (mergeK [] (kvs.take i))) it=none:=by rw [upd_ne hitd];exact f0
      have I1:Inv X pins σ (upd H d (.dK (mergeK [] (kvs.take i)))) { s with heap:=h' }:=I.turned (t':=s.toks) (it:=it) (fun b o hb e=>(sb.2 b hb).trans e) f0' f1 f3 f4 f5
      have nrd:r ≠ d:=fun e=>by rw [e,hd] at hr;cases hr
      have hr':upd H d (.dK (mergeK [] (kvs.take i))) r=some (.tup [kV k,v]):=by rw [upd_ne nrd];exact hr
      obtain ⟨its2,rv2,⟨o,ho,hc,n,hdt⟩,_⟩:=I1.tuple (.of hr')
      obtain ⟨kk,vv,e2,rk,rvv⟩:=rv2.two
      subst e2
      refine wpAny_bind (wpAny_holding (wpAny_bind (wpAny_tryCatch ?_)))
      unfold Builtin.Dict.pairItems
      refine wpAny_bind (wpAny_typeOf (T:="tuple") ⟨o,ho,hc⟩ ?_)
      rw [if_pos (by decide)]
      unfold seqItems?
      dsimp only
      refine wpAny_bind (wpAny_bind (wpAny_load ho ?_))
      rw [hdt]
      dsimp only
      refine wpAny_pure (wpAny_pure ?_)
      dsimp only [Option.getD]
      show wpAny _ _ (holding [kk,vv] (dictSet d kk vv)) _ _ _
      refine wpAny_holding (dset_at I1 upd_same ?_ rk rvv fun s2 I2 kp2=>?_)
      · have:=length_mergeK (kvs.take i) []
        rw [List.length_take,List.length_nil] at this
        have:=sz (show kvs.length + 0 <= 1000 by omega)
        omega
      refine wpAny_pure ⟨quiet_loop _,?_⟩
      refine upd_loop hh hn hlen hp hd hpr ⟨f0,f1,f2,f3,f4,f5⟩ hitd fin (m - 1) (i + 1) s2 (by omega) (by omega) ?_ ?_
      · have e1:mergeK [] (kvs.take (i + 1))=putK (mergeK [] (kvs.take i)) k v:=by
          unfold mergeK
          rw [List.take_add_one,hkv,List.foldl_append]
          rfl
        rw [e1]
        have e2:upd (upd H d (.dK (mergeK [] (kvs.take i)))) d (.dK (putK (mergeK [] (kvs.take i)) k v))=upd H d (.dK (putK (mergeK [] (kvs.take i)) k v)):=by
          funext b
          by_cases hb:b=d
          · rw [hb,upd_same,upd_same]
          · rw [upd_ne hb,upd_ne hb,upd_ne hb]
        rw [<- e2]
        exact I2
      · obtain ⟨oi,h1,h2,h3⟩:=hit'
        exact ⟨oi,kp2 _ _ hitd h1,h2,h3⟩
    · have ei:i=kvs.length:=by omega
      subst ei
      refine wpAny_bind (wpAny_pyNext_list_end hh hit pl.isList (by
        rw [List.getElem?_toArray]
        exact List.getElem?_eq_none (by omega)) fun h' sb=>?_)
      dsimp only
      unfold Builtin.Dict.addKeywords
      simp only [List.forIn_nil]
      refine wpAny_bind (wpAny_bind (wpAny_pure (wpAny_pure ?_)))
      rw [List.take_length] at I
      obtain ⟨f0,f1,f2,f3,f4,f5⟩:=hF
      exact wpAny_pure (fin _ (I.turned (t':=s.toks) (it:=it) (fun b o hb e=>sb b o hb e) (by rw [upd_ne hitd];exact f0) f1 f3 f4 f5))
  termination_by m=>m
def rDictP (K:PySem.W.Frag):List V->Hp->VK->Prop:=fun xs H Q=>∃ (p:Addr) (rs:List Addr) (kvs:List (Key × V)),xs=[.ref p]/\H p=some (.lst (rs.map V.ref))/\rs.length=kvs.length/\kvs.length <= 1000/\(∀ (j:Nat) r,rs[j]?=some r->∃ k v,kvs[j]?=some (k,v)/\H r=some (.tup [kV k,v]))/\∀ d,H d=none->Q (.ref d) (upd H d (.dK (mergeK [] kvs)))
theorem call_dictP (hc:X.calm=true):CallR X (.type "dict") (rDictP X.K):=by
  intro pins s σ H xs us Q I r h
  obtain ⟨p,rs,kvs,rfl,hp,hlen,hn,hpr,q⟩:=h
  obtain ⟨u,rfl,rx⟩:=vals1 r
  cases rx
  have hd:=I.hok.fresh (Nat.le_refl s.heap.objs.size)
  refine callType_codes (Q₁:=fun obj s₁=>obj=.ref s.heap.objs.size/\s₁=accD s) PySem.F.kt_called_dict (PySem.F.kt_typeCall_dict_1 _) PySem.F.entry_dict_init ?_ ?_
  · refine codeAny_call_builtin PySem.F.kt_plain_dict_new PySem.F.kt_entry_dict_new ?_
    rw [ck_dnew]
    refine wpAny_pure ?_
    rw [dnew]
    exact wpAny_bind (wpAny_newObj_type (wpAny_pure ⟨rfl,rfl⟩) (by show (#[]:Array DictEntry).size <= _;exact Nat.zero_le _))
  · rintro obj s₁ ⟨rfl,rfl⟩
    have I1:Inv X pins σ (upd H s.heap.objs.size (.dK [])) (accD s):=I.laid (a:=s.heap.objs.size) (o:=.dK []) (h':=s.heap.push { cls:=.type "dict",data:=.dict #[] }) (t':=s.toks) (fun _ _ q=>Heap.get?_push_of_some _ q) (Nat.le_refl _) (dk_empty s.heap I.big)
    refine ⟨⟨_,Heap.get?_push_size _ rfl,rfl⟩,PySem.F.args_dict_init_2 _ _,?_⟩
    have npd:p ≠ s.heap.objs.size:=fun e=>by rw [e,hd] at hp;cases hp
    have hp1:upd H s.heap.objs.size (.dK []) p=some (.lst (rs.map V.ref)):=by rw [upd_ne npd];exact hp
    obtain ⟨its,rv,⟨o,n,ho,hc1,hc2,hc3⟩,hz⟩:=I1.list (.of hp1)
    obtain ⟨c,dt,sl⟩:=o
    dsimp only at hc1 hc2 hc3
    subst hc1 hc2 hc3
    have hh:X.A.handled=none:=I.ok.hd hc
    unfold Builtin.«dict.__init__» Builtin.Dict.selfAndRest Builtin.Dict.notOrdered
    rw [if_pos (by decide)]
    refine wpAny_bind (wpAny_bind (wpAny_bind (wpAny_typeOf (T:="dict") ⟨_,Heap.get?_push_size _ rfl,rfl⟩ ?_)))
    rw [if_neg (by decide)]
    refine wpAny_pure ?_
    dsimp only
    unfold Builtin.Dict.addrOf
    refine wpAny_bind (wpAny_pure (wpAny_pure ?_))
    dsimp only
    unfold Builtin.Dict.updateCommon
    dsimp only
    unfold Builtin.Dict.updateFrom
    refine wpAny_bind (wpAny_typeOf (T:="list") ⟨_,ho,rfl⟩ ?_)
    rw [if_pos (by decide)]
    refine wpAny_bind (attr_keys ho hh fun h' tk kp=>?_)
    rw [if_pos (show (none:Option Value).isNone=true from rfl)]
    refine wpAny_bind (wpAny_rule ?_)
    have I2:=I1.kept (t':=tk) kp
    obtain ⟨its2,rv2,pl2,hz2⟩:=I2.list (.of hp1)
    refine wpAny_bind (wpAny_pyIter_list pl2.isList ?_)
    have hsz:s.heap.objs.size < h'.objs.size:=Heap.lt_size (kp _ _ (Heap.get?_push_size s.heap (o:={ cls:=.type "dict",data:=.dict #[] }) rfl))
    refine wpAny_pure ⟨quiet_loop _,?_⟩
    have hit:H h'.objs.size=none:=by
      have:=I2.hok.fresh (Nat.le_refl h'.objs.size)
      rw [upd_ne (Nat.ne_of_gt hsz)] at this
      exact this
    refine upd_loop (X:=X) (pins:=pins) (σ:=σ) (H:=H) (A:=X.A.in1) hh hn hlen hp hd hpr (I2.fpOk (Nat.le_refl _) hit) (Nat.ne_of_gt hsz) ?_ kvs.length 0 _ rfl (Nat.zero_le _) ?_ ?_
    · exact fun s' Ie=>⟨rfl,.ref s.heap.objs.size,_,Ie,rfl,q _ hd⟩
    · exact I2.kept (t':=tk) fun _ _ e=>Heap.get?_push_of_some _ e
    · exact ⟨_,Heap.get?_push_size _ rfl,rfl,rfl⟩
end
end L2
namespace L2
open PySem PySem.Spec PyProof.Rows
def noV:V->Bool
  | .non=>true
  | _=>false
def noU:Value->Bool
  | .none=>true
  | _=>false
section
variable {X:Cx} {pins:List (Addr × Obj)} {σ:St} {H:Hp} {s:Shared}
theorem any_noU:∀ {xs:List V} {us:List Value},Vals xs us->(∀ y ∈ xs,y=.non ∨ ∃ q ys,y=.ref q/\SqT X.K H q ys)->us.any noU=xs.any noV
  | _,_,.nil,_=>rfl
  | y :: xs,u :: us,.cons r t,f=>by
    rw [List.any_cons,List.any_cons,any_noU t fun y hy=>f y (List.mem_cons_of_mem _ hy)]
    rcases f y List.mem_cons_self with rfl | ⟨q,ys,rfl,_⟩ <;> cases r <;> rfl
theorem mem_noU {A:Around} (I:Inv X pins σ H s) (hu:A.units < cLine):∀ {xs:List V} {us:List Value},Vals xs us->(∀ y ∈ xs,y=.non ∨ ∃ q ys,y=.ref q/\SqT X.K H q ys)->∀ u ∈ us,SeqAt.EqAt A s u .none (noU u)
  | _,_,.nil,_=>fun u hu=>by cases hu
  | y :: xs,u :: us,.cons r t,f=>fun u' hu'=>by
    rcases List.mem_cons.mp hu' with rfl | hm
    · rcases f y List.mem_cons_self with rfl | ⟨q,ys,rfl,hq⟩
      · cases r;exact SeqAt.EqAt.same _
      · cases r
        obtain ⟨its,_,pl,_⟩:=I.tuple hq
        exact SeqAt.EqAt.tuple_none pl hu
    · exact mem_noU I hu t (fun y hy=>f y (List.mem_cons_of_mem _ hy)) u' hm
def rInN (K:PySem.W.Frag):R2:=fun x y H Q=>x=.non/\∃ p xs,y=.ref p/\SqT K H p xs/\(∀ y ∈ xs,y=.non ∨ ∃ q ys,y=.ref q/\SqT K H q ys)/\Q (.bl (xs.any noV)) H
theorem op_in_non (hu:X.A.units + 64 < cLine):OpR X (compareOp .In) (rInN X.K):=by
  intro pins s σ H x y v u Q I rx ry h
  obtain ⟨rfl,p,xs,rfl,hq,fs,q⟩:=h
  cases rx
  cases ry
  obtain ⟨its,r,pl,hz⟩:=I.tuple hq
  refine SeqAt.in_tupleAt noU pl (fun w hw=>mem_noU I ?_ r fs w (by simpa using hw)) ⟨.bl _,H,I,rfl,?_⟩
  · show _ < cLine
    exact Nat.lt_of_le_of_lt (by show X.A.units + _ <= X.A.units + 64;exact Nat.add_le_add_left (by decide) _) hu
  rw [show its.toArray.any noU=its.any noU by simp,any_noU r fs]
  exact q
end
end L2
namespace G
open PySem PySem.Spec PyProof.Rows L2 Mt
def rdW (n:Nat) (x:Str):V:=match rdO n x with
  | none=>.int (-1)
  | some j=>.int (j:Int)
theorem knw_valW (n:Nat) (x:Str):(valV (knw n) (Sum.inr x)).getD (.int (-1))=rdW n x:=by
  unfold valV knw rdW rdO
  rw [List.find?_map,Option.map_map]
  generalize hq:(List.find? ((fun kv:Key × V=>decide (kv.1=Sum.inr x)) ∘ fun j:Nat=>((Sum.inr (tx (j:Int)):Key),V.int (j:Int))) (List.range n))=r
  have hq':(List.range n).find? (fun j:Nat=>decide ((Sum.inr (tx (j:Int)):Key)=Sum.inr x))=r:=hq
  rw [hq']
  cases r <;> rfl
theorem rdW_some {n:Nat}:∀ {xs:List Str} {ns:List Int},rdL n xs=some ns->xs.map (rdW n)=ns.map V.int
  | [],ns,h=>by cases h;rfl
  | x :: xs,ns,h=>by
    unfold rdL at h
    cases h1:rdO n x with
    | none=>rw [h1] at h;cases h
    | some j =>
      cases h2:rdL n xs with
      | none=>rw [h1,h2] at h;cases h
      | some ms =>
        rw [h1,h2] at h
        cases h
        rw [List.map_cons,List.map_cons,rdW_some h2]
        unfold rdW
        rw [h1]
theorem rdW_flat (n:Nat) (x:Str):flatV (rdW n x)=true:=by
  unfold rdW
  cases rdO n x <;> rfl
theorem rdW_in {n:Nat}:∀ xs:List Str,inV (.int (-1)) (xs.map (rdW n))=(rdL n xs).isNone
  | []=>rfl
  | x :: xs=>by
    have ih:=rdW_in (n:=n) xs
    unfold inV at ih ⊢
    rw [List.map_cons,List.any_cons,ih]
    have e:rdL n (x :: xs)=(match rdO n x,rdL n xs with
      | some j,some ns=>some ((j:Int) :: ns)
      | _,_=>none):=rfl
    rw [e]
    unfold rdW
    generalize rdL n xs=r
    cases rdO n x with
    | none=>simp [eqV]
    | some j =>
      have hj:eqV (.int (j:Int)) (.int (-1))=false:=by
        unfold eqV
        first | exact decide_eq_false (by omega) | (simp;try omega)
      dsimp only
      rw [hj]
      cases r <;> rfl
theorem mergeK_knw:∀ {n:Nat},n <= 21->mergeK [] (knw n)=knw n
  | 0,_=>rfl
  | n + 1,h=>by
    have e:knw (n + 1)=knw n ++ [((Sum.inr (tx (n:Int)):Key),V.int (n:Int))]:=by unfold knw;rw [List.range_succ,List.map_append];rfl
    have ih:=mergeK_knw (n:=n) (by omega)
    unfold mergeK at ih ⊢
    rw [e,List.foldl_append,ih]
    show putK (knw n) (Sum.inr (tx (n:Int))) (.int (n:Int))=_
    rw [knw_new (by omega),e]
theorem boot_dc:bootBuiltins "dict"=some (.type "dict"):=by decide +kernel
section
variable {P:Program} {w:World} {K:PySem.W.Frag} {mg:Str->Option Value} {base:Heap} {f:Addr} {fd:FuncData} {ec:Nat->Addr} {Bs:Addr}
def sp_ld:Sp:=fun vs H Q _=>∃ t:Str,vs=[.str t]/\t.length <= 900/\(rdL 21 (Txt.split t ",")=none->∀ H',Same H H'->Q .non H') /\
  ∀ ns,rdL 21 (Txt.split t ",")=some ns->∀ p H',Same H H'->(∀ b o,H b=some o->b ≠ p)->H' p=some (.tup (ns.map V.int))->Q (.ref p) H'
abbrev s_ld:Stmt:=top 43
theorem sc_ld:FnScope ["_law_text","_law_good","_law_found"] ["_law_text"] (defScope s_ld):=⟨rfl,rfl,rfl,by decide +kernel,rfl,by decide +kernel,by decide +kernel⟩
theorem ok_ld (F:Fun K "_law_line_due" "_law_line_due" s_ld f fd) (B:Bt mg) (B2:Bt2 mg) (hDc:mg "dict"=none):FnOk P w K mg base CX0 1 f fd ["_law_text"] sp_ld:=by
  refine F.ok sc_ld (fun vs H Q E h=>?_) (fun cdv A outer s H vs Q E hr h=>?_)
  · obtain ⟨t,rfl,_⟩:=h
    rfl
  obtain ⟨t,rfl,hl,q0,q⟩:=h
  refine ⟨_,(@pss_cons _ _ _ _ _ (@ps_set _ _ 1 _ _ _ _ sc_ld.nd rfl (Or.inr rfl) (pe_callTy (call_dictP rfl) rfl hDc boot_dc (@pa_cons _ _ _ _ _ (pe_compG (N:=["_law_number"]) (ix:=[none]) (ifs:=[]) (tc:=tTrue) rfl (pi_range1 rfl B.range (@pa_cons _ _ _ _ _ pe_int pa_nil (by rfl)))
      (fun s H ex=>pg_c (i:=0) (by decide +kernel) rfl (Or.inl rfl) (.inr rfl)) (fun s H ex=>pifs_nil) (fun s H ex=>(@pe_tup _ _ _ _ _ (@pa_cons _ _ _ _ _ (pe_callTy call_str_int rfl B2.str boot_str (@pa_cons _ _ _ _ _ (pv 0) pa_nil (by rfl))) (@pa_cons _ _ _ _ _ (pv 0) pa_nil (by rfl)) (by rfl)))) rfl (by decide +kernel) (by rfl) (by rfl) (fun _=>rfl)) pa_nil (by rfl))) (by rfl) (by first | exact .inl rfl | exact .inr rfl))
    (@pss_cons _ _ _ _ _ (ps_setcompG (N:=["_law_word","_law_good"]) (ix:=[none,some 1]) (ifs:=[]) (tc:=tTrue) (i:=2) rfl sc_ld.nd rfl rfl  (pi_list (pe_bm PySem.F.plainAttrs_str PySem.F.slot_str_split PySem.F.type_str_split mt_split (pv 0) (@pa_cons _ _ _ _ _ pe_str pa_nil (by rfl))))
      (fun s H ex=>pg_c (i:=0) (by decide +kernel) rfl (Or.inl rfl) (.inr rfl)) (fun s H ex=>pifs_nil) (fun s H ex=>(pe_dget2 (hu_of hr) (pv 1) (pv 0) (pe_un un_neg pe_int) ⟨rfl,rfl,rfl,rfl⟩)) rfl (by decide +kernel) (by rfl) (by rfl) (fun _=>rfl) (by rfl))
    (@pss_cons _ _ _ _ _ (ps_if (@pt_cmpR _ _ _ _ _ _ _ _ op_in_seq (pe_un un_neg pe_int) (pv 2) (by rfl)) (@pss_one _ _ _ (ps_ret pe_non)) pss_nil)
    (@pss_one _ _ _ (ps_ret (pe_callTy call_tuple_of rfl B.tuple boot_tuple (@pa_cons _ _ _ _ _ (pv 2) pa_nil (by rfl)))))))),?_⟩
  refine ⟨21,rfl,by decide,by decide,?_⟩
  rw [show (21:Int).toNat=21 from rfl]
  refine blk_range (lo:=0) (n:=21) (sz (by omega)) (fun i ys Hi=>Same H Hi/\∃ rs:List Addr,ys=rs.map V.ref/\rs.length=i/\∀ (j:Nat) r,rs[j]?=some r->Hi r=some (.tup [.str (tx (j:Int)),.int (j:Int)]))
    ⟨Same.refl _,[],rfl,rfl,fun j r z=>by cases z⟩ (fun i ys Hi h=>?_) rfl (fun i ys Hi hi h=>?_) (fun ys H1 h=>?_)
  · obtain ⟨_,rs,e,e2,_⟩:=h
    rw [e,List.length_map,e2]
  · obtain ⟨gi,rs,e1,e2,e3⟩:=h
    have ei:(0:Int) + (i:Int)=(i:Int):=by omega
    rw [ei]
    refine ⟨_,rfl,(i:Int),rfl,log_s (by omega) (by omega),_,rfl,(by show 2 <= sizeLine;decide),fun r hr'=>?_⟩
    have gn:Same Hi (upd Hi r (.tup [.str (tx (i:Int)),.int (i:Int)])):=Same.new hr'
    refine ⟨gi.trans gn,rs ++ [r],by rw [e1,List.map_append];rfl,by rw [List.length_append,e2];rfl,fun j r' hj=>?_⟩
    rcases Nat.lt_or_ge j rs.length with hlt | hge
    · rw [List.getElem?_append_left hlt] at hj
      exact gn _ _ (e3 j r' hj)
    · rw [List.getElem?_append_right hge] at hj
      have e0:j - rs.length=0:=by
        cases h0:j - rs.length with
        | zero=>rfl
        | succ k=>rw [h0] at hj;cases hj
      rw [e0] at hj
      cases hj
      have:j=i:=by omega
      subst this
      exact upd_same
  obtain ⟨g1,rs,e1,e2,e3⟩:=h
  subst e1
  intro p1 hp1
  have g1':Same H1 (upd H1 p1 (.lst (rs.map V.ref))):=Same.new hp1
  have hp1':upd H1 p1 (.lst (rs.map V.ref)) p1=some (.lst (rs.map V.ref)):=upd_same
  try dsimp -proj only
  generalize upd H1 p1 (.lst (rs.map V.ref))=Ha at g1' hp1'
  have lk:(knw 21).length=21:=by unfold knw;rw [List.length_map,List.length_range]
  refine ⟨p1,rs,knw 21,rfl,hp1',by rw [lk,e2],by rw [lk];decide,fun j r hj=>?_,fun pk hpk=>?_⟩
  · have hj21:j < 21:=by
      rcases Nat.lt_or_ge j 21 with h | h
      · exact h
      · rw [List.getElem?_eq_none (by omega)] at hj;cases hj
    refine ⟨Sum.inr (tx (j:Int)),.int (j:Int),?_,g1' _ _ (e3 j r hj)⟩
    unfold knw
    rw [List.getElem?_map,List.getElem?_range hj21];rfl
  rw [mergeK_knw (by decide)]
  have g2:Same H (upd Ha pk (.dK (knw 21))):=(g1.trans g1').trans (Same.new hpk)
  have hpk2:upd Ha pk (.dK (knw 21)) pk=some (.dK (knw 21)):=upd_same
  try dsimp -proj only
  generalize upd Ha pk (.dK (knw 21))=H2 at g2 hpk2
  have hsl:=split_len t
  refine ⟨_,rfl,rfl,t,_,rfl,rfl,by decide +kernel,hl,fun ps hps=>?_⟩
  generalize Txt.split t ","=wds at hsl q0 q
  have g3:Same H2 (upd H2 ps (.lst (wds.map V.str))):=Same.new hps
  have hps3:upd H2 ps (.lst (wds.map V.str)) ps=some (.lst (wds.map V.str)):=upd_same
  try dsimp -proj only
  generalize upd H2 ps (.lst (wds.map V.str))=H3 at g3 hps3
  have hpk3:=g3 _ _ hpk2
  refine ⟨ps,rfl,⟨_,.of hps3⟩,?_⟩
  refine blk_list (K:=K) (a:=ps) (xs:=wds.map V.str) (sz (by rw [List.length_map];omega)) (fun j ys Hj=>Same H3 Hj/\ys=(wds.take j).map (rdW 21)/\ys.length=j)
    ⟨Same.refl _,rfl,rfl⟩ (fun j ys Hj h=>h.2.2) (fun j ys Hj _ h=>.of (h.1 _ _ hps3)) rfl (fun j ys Hj v hv h=>?_) (fun ys Hj h=>?_)
  · obtain ⟨gj,hy,hyl⟩:=h
    rw [List.getElem?_map] at hv
    obtain ⟨x,hx,ex⟩:=Option.map_eq_some_iff.mp hv
    subst ex
    have hD:=DGet.k (k:=Sum.inr x) (gj _ _ hpk3)
    refine ⟨_,rfl,pk,rfl,.inl ⟨_,.inl (gj _ _ hpk3)⟩,_,rfl,1,rfl,_,hD,gj,?_,by rw [List.length_append,hyl];rfl⟩
    rw [hy,List.take_add_one,hx,List.map_append]
    show _ ++ [(valV (knw 21) (Sum.inr x)).getD (.int (-1))]=_
    rw [knw_valW]
    rfl
  obtain ⟨gj,hy,hyl⟩:=h
  rw [List.length_map,List.take_of_length_le (Nat.le_refl _)] at hy
  subst hy
  intro pn hpn
  have g4:Same Hj (upd Hj pn (.lst (wds.map (rdW 21)))):=Same.new hpn
  have hpn4:upd Hj pn (.lst (wds.map (rdW 21))) pn=some (.lst (wds.map (rdW 21))):=upd_same
  try dsimp -proj only
  generalize upd Hj pn (.lst (wds.map (rdW 21)))=H4 at g4 hpn4
  have gT:Same H H4:=(g2.trans g3).trans (gj.trans g4)
  refine ⟨1,rfl,_,rfl,pn,_,rfl,.inl (.of hpn4),rfl,?_,_,rfl,?_⟩
  · rw [List.all_map]
    exact List.all_eq_true.mpr fun x _=>rdW_flat _ x
  rw [rdW_in]
  cases hr':rdL 21 wds with
  | none=>exact iteT (q0 hr' _ gT)
  | some ns =>
    refine iteF ⟨_,rfl,pn,_,rfl,.inl ⟨.of hpn4,fun t' ht=>?_⟩⟩
    refine q ns hr' t' _ (gT.trans (Same.new ht)) (fun b o e=>ne_of_none (gT _ _ e) ht) ?_
    rw [upd_same,rdW_some hr']
end
def rwE (x:Str):PyData:=match rdL 21 (Txt.split x ",") with
  | none=>.none
  | some ns=>DI ns
theorem range_21:List.range 21=List.range 6 ++ [6,7,8,9,10,11,12,13,14,15,16,17,18,19,20]:=by decide
theorem rdO_up {x:Str} {j:Nat} (h:rdO 6 x=some j):rdO 21 x=some j:=by
  unfold rdO at h ⊢
  rw [range_21,List.find?_append,h];rfl
theorem rdO_dn {x:Str} {j:Nat} (h:rdO 21 x=some j) (hj:j <= 5):rdO 6 x=some j:=by
  cases h6:rdO 6 x with
  | some i =>
    rw [rdO_up h6] at h
    exact h
  | none =>
    exfalso
    unfold rdO at h h6
    rw [range_21,List.find?_append,h6] at h
    have:=List.mem_of_find?_eq_some (show List.find? _ _=some j from h)
    simp at this
    omega
theorem rdL_up:∀ {xs:List Str} {ns:List Int},rdL 6 xs=some ns->rdL 21 xs=some ns
  | [],ns,h=>h
  | x :: xs,ns,h=>by
    unfold rdL at h ⊢
    cases h1:rdO 6 x with
    | none=>rw [h1] at h;cases h
    | some j =>
      cases h2:rdL 6 xs with
      | none=>rw [h1,h2] at h;cases h
      | some ms =>
        rw [h1,h2] at h
        rw [rdO_up h1,rdL_up h2]
        exact h
theorem rdL_dn:∀ {xs:List Str} {ns:List Int},rdL 21 xs=some ns->(∀ z ∈ ns,z <= 5)->rdL 6 xs=some ns
  | [],ns,h,_=>h
  | x :: xs,ns,h,hz=>by
    unfold rdL at h ⊢
    cases h1:rdO 21 x with
    | none=>rw [h1] at h;cases h
    | some j =>
      cases h2:rdL 21 xs with
      | none=>rw [h1,h2] at h;cases h
      | some ms =>
        rw [h1,h2] at h
        cases h
        have:=hz _ List.mem_cons_self
        rw [rdO_dn h1 (by omega),rdL_dn h2 fun z hm=>hz z (List.mem_cons_of_mem _ hm)]
theorem wholes_DI {ns:List Int} (h:wholesD 0 5 (DI ns)=true):∀ z ∈ ns,z <= 5:=by
  intro z hz
  have h':((ns.map PyData.int).all (wholeD 0 5))=true:=h
  have:=List.all_eq_true.mp h' _ (List.mem_map_of_mem hz)
  obtain ⟨n,e,_,h5⟩:=wholeD_int this
  cases e
  exact h5
theorem rwE_up {x:Str} (h:wholesD 0 5 (rwD x)=true):rwE x=rwD x:=by
  unfold rwD at h ⊢
  unfold rwE
  cases h6:rdL 6 (Txt.split x ",") with
  | none=>rw [h6] at h;cases h
  | some ns=>rw [rdL_up h6]
theorem rwE_dn {x:Str} (h:wholesD 0 5 (rwE x)=true):rwE x=rwD x:=by
  unfold rwE at h ⊢
  unfold rwD
  cases h21:rdL 21 (Txt.split x ",") with
  | none=>rw [h21] at h;cases h
  | some ns =>
    rw [h21] at h
    rw [rdL_dn h21 (wholes_DI h)]
theorem ruleE {n:Int} {wds:List Str} (h:ruleD n (.tuple (wds.map rwE))=true):wds.map rwE=wds.map rwD:=by
  have h3:(decide (((wds.map rwE).length:Int)=n) && (wds.map rwE).all (fun r=>wholesD 0 5 r && decide ((lenD r:Int)=n)))=true:=h
  rw [Bool.and_eq_true] at h3
  refine List.map_congr_left fun x hx=>?_
  have:=List.all_eq_true.mp h3.2 _ (List.mem_map_of_mem hx)
  rw [Bool.and_eq_true] at this
  exact rwE_dn this.1
theorem ruleD_E {n:Int} {wds:List Str} (h:ruleD n (.tuple (wds.map rwD))=true):wds.map rwE=wds.map rwD:=by
  have h3:(decide (((wds.map rwD).length:Int)=n) && (wds.map rwD).all (fun r=>wholesD 0 5 r && decide ((lenD r:Int)=n)))=true:=h
  rw [Bool.and_eq_true] at h3
  refine List.map_congr_left fun x hx=>?_
  have:=List.all_eq_true.mp h3.2 _ (List.mem_map_of_mem hx)
  rw [Bool.and_eq_true] at this
  exact rwE_up this.1
section
variable {P:Program} {w:World} {K:PySem.W.Frag} {mg:Str->Option Value} {base:Heap} {f:Addr} {fd:FuncData} {ec:Nat->Addr} {Bs:Addr}
def sp_ud:Sp:=fun vs H Q _=>∃ t:Str,vs=[.str t]/\t.length <= 900/\(urT t=none->∀ H',Same H H'->Q .non H') /\
  ∀ ns,urT t=some ns->∀ p H',Same H H'->(∀ b o,H b=some o->b ≠ p)->H' p=some (.tup (ns.map V.int))->Q (.ref p) H'
abbrev s_ud:Stmt:=top 45
theorem sc_ud:FnScope ["_law_text","_law_found"] ["_law_text"] (defScope s_ud):=⟨rfl,rfl,rfl,by decide +kernel,rfl,by decide +kernel,by decide +kernel⟩
theorem ok_ud (F:Fun K "_law_urn_due" "_law_urn_due" s_ud f fd) (c1:Cal P w K mg base 2 "_law_line_due" ["_law_text"] sp_ld) (c2:Cal P w K mg base 2 "_law_is_urn" ["_law_thing"] sp_is_urn):FnOk P w K mg base CX0 3 f fd ["_law_text"] sp_ud:=by
  refine F.ok sc_ud (fun vs H Q E h=>?_) (fun cdv A outer s H vs Q E hr h=>?_)
  · obtain ⟨t,rfl,_⟩:=h
    rfl
  obtain ⟨t,rfl,hl,qn,qs⟩:=h
  unfold urT at qn qs
  refine ⟨_,(@pss_cons _ _ _ _ _ (@ps_set _ _ 1 _ _ _ _ sc_ud.nd rfl (Or.inl rfl) (pe_cal c1 hr rfl (@pa_cons _ _ _ _ _ (pv 0) pa_nil (by rfl))) (by rfl) (by first | exact .inl rfl | exact .inr rfl))
    (@pss_cons _ _ _ _ _ (ps_if (PW.pt (pw_or (pt_cmp (pc_isN (pv 1))) (pw_or1 (pt_not (pt_val (pe_cal c2 hr rfl (@pa_cons _ _ _ _ _ (pv 1) pa_nil (by rfl)))))))) (@pss_one _ _ _ (ps_ret pe_non)) pss_nil)
    (@pss_one _ _ _ (ps_ret (pv 1))))),?_⟩
  refine ⟨_,rfl,t,rfl,hl,fun e H1 g1=>?_,fun ns e p H1 g1 fr hp=>?_⟩
  · refine ⟨_,rfl,_,rfl,?_⟩
    rw [decide_eq_true rfl]
    refine iteT (iteT (qn ?_ H1 g1))
    rw [e]
  · obtain ⟨e1,e2,e3⟩:=rdL_some e
    have hsl:=split_len t
    refine ⟨_,rfl,_,rfl,?_⟩
    rw [decide_eq_false (fun z=>by cases z)]
    refine iteF ⟨_,rfl,_,p + 1,DI ns,rfl,Dt.mkI (Nat.ne_of_lt (Nat.lt_succ_self p)) hp,short_DI (by omega),fun H2 g2=>⟨_,rfl,?_⟩⟩
    cases hu:urnD 20 (DI ns) with
    | true =>
      refine iteF ⟨_,rfl,qs ns ?_ p H2 (g1.trans g2) fr (g2 _ _ hp)⟩
      rw [e]
      show (if urnD 20 (DI ns)=true then some ns else none)=_
      rw [hu];rfl
    | false =>
      refine iteT (qn ?_ H2 (g1.trans g2))
      rw [e]
      show (if urnD 20 (DI ns)=true then some ns else none)=_
      rw [hu];rfl
def sp_rd:Sp:=fun vs H Q _=>∃ (l:Addr) (o:HO) (n:Int) (t:Str),vs=[.int n,.str t]/\H l=some o/\t.length <= 900/\(ruT n t=none->∀ H',Same H H'->Q .non H') /\
  ∀ rs,ruT n t=some rs->∀ p H',Same H H'->Dt l H' (DR rs) (.ref p)->Q (.ref p) H'
abbrev s_rd:Stmt:=top 44
theorem sc_rd:FnScope ["_law_kinds","_law_text","_law_found"] ["_law_kinds","_law_text"] (defScope s_rd):=⟨rfl,rfl,rfl,by decide +kernel,rfl,by decide +kernel,by decide +kernel⟩
theorem ok_rd (F:Fun K "_law_rule_due" "_law_rule_due" s_rd f fd) (B:Bt mg) (c1:Cal P w K mg base 2 "_law_line_due" ["_law_text"] sp_ld) (c2:Cal P w K mg base 2 "_law_is_rule" ["_law_kinds","_law_thing"] sp_lis_rule):FnOk P w K mg base CX0 3 f fd ["_law_kinds","_law_text"] sp_rd:=by
  refine F.ok sc_rd (fun vs H Q E h=>?_) (fun cdv A outer s H vs Q E hr h=>?_)
  · obtain ⟨l,o,n,t,rfl,_⟩:=h
    rfl
  obtain ⟨l,o,n,t,rfl,hlo,hl,qn,qs⟩:=h
  refine ⟨_,(@pss_cons _ _ _ _ _ (@ps_set _ _ 2 _ _ _ _ sc_rd.nd rfl (Or.inl rfl) (pe_callTy call_tuple_of rfl B.tuple boot_tuple (@pa_cons _ _ _ _ _ (pe_compG (N:=["_law_line"]) (ix:=[none]) (ifs:=[]) (tc:=tTrue) rfl (pi_list (pe_bm PySem.F.plainAttrs_str PySem.F.slot_str_split PySem.F.type_str_split mt_split (pv 1) (@pa_cons _ _ _ _ _ pe_str pa_nil (by rfl))))
      (fun s H ex=>pg_c (i:=0) (by decide +kernel) rfl (Or.inl rfl) (.inr rfl)) (fun s H ex=>pifs_nil) (fun s H ex=>(pe_cal c1 hr rfl (@pa_cons _ _ _ _ _ (pv 0) pa_nil (by rfl)))) rfl (by decide +kernel) (by rfl) (by rfl) (fun _=>rfl)) pa_nil (by rfl))) (by rfl) (by first | exact .inl rfl | exact .inr rfl))
    (@pss_cons _ _ _ _ _ (ps_if (PW.pt (pw_or (@pt_cmpR _ _ _ _ _ _ _ _ (op_in_non hr.units) pe_non (pv 2) (by rfl)) (pw_or1 (pt_not (pt_val (pe_cal c2 hr rfl (@pa_cons _ _ _ _ _ (pv 0) (@pa_cons _ _ _ _ _ (pv 2) pa_nil (by rfl)) (by rfl)))))))) (@pss_one _ _ _ (ps_ret pe_non)) pss_nil)
    (@pss_one _ _ _ (ps_ret (pv 2))))),?_⟩
  have hsl:=split_lenS t
  have hsz:∀ x ∈ Txt.split t "/",x.length <= 900:=fun x hx=>Nat.le_trans (rdO_sz x hx) hl
  refine ⟨_,rfl,rfl,t,_,rfl,rfl,by decide +kernel,hl,fun ps hps=>?_⟩
  have hrn:=ruT_not (n:=n) (t:=t)
  have hri:=fun rs=>ruT_is (n:=n) (t:=t) (rs:=rs)
  generalize Txt.split t "/"=wds at hsl hsz hrn hri
  have g3:Same H (upd H ps (.lst (wds.map V.str))):=Same.new hps
  have hps3:upd H ps (.lst (wds.map V.str)) ps=some (.lst (wds.map V.str)):=upd_same
  try dsimp -proj only
  generalize upd H ps (.lst (wds.map V.str))=H3 at g3 hps3
  refine ⟨ps,rfl,⟨_,.of hps3⟩,?_⟩
  refine blk_list (K:=K) (a:=ps) (xs:=wds.map V.str) (sz (by rw [List.length_map];omega)) (fun j ys Hj=>Same H3 Hj/\Dts l Hj ((wds.take j).map rwE) ys/\ys.length=j)
    ⟨Same.refl _,Dts.nil _ _,rfl⟩ (fun j ys Hj h=>h.2.2) (fun j ys Hj _ h=>.of (h.1 _ _ hps3)) rfl (fun j ys Hj v hv h=>?_) (fun ys Hj h=>?_)
  · obtain ⟨gj,hD,hyl⟩:=h
    rw [List.getElem?_map] at hv
    obtain ⟨x,hx,ex⟩:=Option.map_eq_some_iff.mp hv
    subst ex
    have step:∀ (z:V) (Hk:Hp),Same Hj Hk->Dt l Hk (rwE x) z->Same H3 Hk/\Dts l Hk ((wds.take (j + 1)).map rwE) (ys ++ [z])/\(ys ++ [z]).length=j + 1:=fun z Hk gk hz=>by
      refine ⟨gj.trans gk,?_,by rw [List.length_append,hyl];rfl⟩
      rw [List.take_add_one,hx,List.map_append]
      exact (hD.kp (gk.kp l)).append (Dts.cons hz (Dts.nil _ _))
    refine ⟨_,rfl,x,rfl,hsz x (List.mem_of_getElem? hx),fun e Hk gk=>step _ Hk gk ?_,fun ns e p1 Hk gk fr hp1=>step _ Hk gk ?_⟩
    · have:rwE x=.none:=by unfold rwE;rw [e]
      rw [this];unfold Dt;rfl
    · have:rwE x=DI ns:=by unfold rwE;rw [e]
      rw [this];exact Dt.mkI (fr l o ((g3.trans gj) _ _ hlo)).symm hp1
  obtain ⟨gj,hD,hyl⟩:=h
  rw [List.length_map,List.take_of_length_le (Nat.le_refl _)] at hD
  intro p2 hp2
  have g4:Same Hj (upd Hj p2 (.lst ys)):=Same.new hp2
  have hp2':upd Hj p2 (.lst ys) p2=some (.lst ys):=upd_same
  try dsimp -proj only
  generalize upd Hj p2 (.lst ys)=Ha at g4 hp2'
  refine ⟨p2,_,rfl,.inl ⟨.of hp2',fun t' ht=>?_⟩⟩
  have g5:Same Ha (upd Ha t' (.tup ys)):=Same.new ht
  have gA:=(g3.trans gj).trans g4
  have hD5:=hD.kp ((g4.trans g5).kp l)
  have ht5:upd Ha t' (.tup ys) t'=some (.tup ys):=upd_same
  have hdt:Dt l (upd Ha t' (.tup ys)) (.tuple (wds.map rwE)) (.ref t'):=Dt.tup (ne_of_none (gA _ _ hlo) ht).symm upd_same hD5
  try dsimp -proj only
  generalize upd Ha t' (.tup ys)=Hb at g5 hdt hD5 ht5
  have hy:∀ y ∈ ys,∃ x ∈ wds,Dt l Hb (rwE x) y:=fun y hy=>by
    obtain ⟨i,hi⟩:=List.getElem?_of_mem hy
    obtain ⟨d,e1,h1⟩:=hD5.get hi
    rw [List.getElem?_map] at e1
    obtain ⟨x,ex,ed⟩:=Option.map_eq_some_iff.mp e1
    subst ed
    exact ⟨x,List.mem_of_getElem? ex,h1⟩
  have hE:∀ rs,ruT n t=some rs->wds.map rwE=rs.map DI/\ruleD n (.tuple (wds.map rwE))=true:=fun rs hu=>by
    obtain ⟨e1,e2⟩:=hri rs hu
    have e3:wds.map rwE=wds.map rwD:=ruleD_E (by rw [e1];exact e2)
    rw [e3,e1]
    exact ⟨rfl,e2⟩
  refine ⟨_,rfl,rfl,t',ys,rfl,.of ht5,fun y hm=>?_,_,rfl,?_⟩
  · obtain ⟨x,_,h1⟩:=hy y hm
    unfold rwE at h1
    cases h2:rdL 21 (Txt.split x ",") with
    | none =>
      rw [h2] at h1
      exact .inl (by unfold Dt at h1;exact h1)
    | some ns =>
      rw [h2] at h1
      obtain ⟨p,e,_,hp⟩:=h1.di
      exact .inr ⟨p,_,e,.of hp⟩
  cases hn:ys.any noV with
  | true =>
    refine iteT (iteT ?_)
    cases hu:ruT n t with
    | none=>exact qn hu Hb (gA.trans g5)
    | some rs =>
      exfalso
      obtain ⟨y,hm,hv⟩:=List.any_eq_true.mp hn
      obtain ⟨x,hx,h1⟩:=hy y hm
      have hmm:=List.mem_map_of_mem (f:=rwE) hx
      rw [(hE rs hu).1] at hmm
      obtain ⟨ns,_,e⟩:=List.mem_map.mp hmm
      rw [<- e] at h1
      obtain ⟨p,e,_,_⟩:=h1.di
      subst e
      cases hv
  | false =>
    refine iteF ⟨_,rfl,_,rfl,.ref t',l,_,n,rfl,hdt,fun Hc gc=>⟨_,rfl,?_⟩⟩
    cases hu:ruT n t with
    | none =>
      have:ruleD n (.tuple (wds.map rwE))=false:=by
        cases h:ruleD n (.tuple (wds.map rwE)) with
        | false=>rfl
        | true =>
          have h2:=hrn hu
          rw [<- ruleE h,h] at h2
          cases h2
      rw [this]
      exact iteT (qn hu Hc ((gA.trans g5).trans gc))
    | some rs =>
      obtain ⟨e1,e2⟩:=hE rs hu
      rw [e2]
      refine iteF ⟨_,rfl,qs rs hu t' Hc ((gA.trans g5).trans gc) ?_⟩
      have:=hdt.kp (gc.kp l)
      rw [e1] at this
      exact this
end
end G
namespace L2
open PySem PySem.Spec PyProof.Rows
section
variable {X:Cx}
def rSlS:V->Option Int->Option Int->Hp->VK->Prop:=fun x lo hi H Q=>∃ a,x=.str a/\a.length <= sizeLine/\Q (.str (Txt.slice a lo hi)) H
theorem part_of {v:Value} {o:Option Int} (h:IsPart v o):∃ l:Option (Int × Tok),v=partValue l/\l.map (·.1)=o:=by
  cases h
  · exact ⟨none,rfl,rfl⟩
  · exact ⟨some (_,_),rfl,rfl⟩
theorem sl_str:SlR X rSlS:=by
  intro pins s σ H x v vl vu lo hi sl Q I rx hs pl pu h
  obtain ⟨a,rfl,hz,q⟩:=h
  obtain ⟨t,rfl⟩:=rx
  obtain ⟨l,rfl,rfl⟩:=part_of pl
  obtain ⟨u,rfl,rfl⟩:=part_of pu
  refine ⟨"str",_,PySem.F.slot_str_getitem.lookup,typeIs_str _ _ _,wpAny_getItem_str_slice (l:=l) (u:=u) (st:=none) hs rfl (post_val_or_str ⟨Nat.le_trans (Txt.slice_le a _ _) hz,fun t' k=>?_⟩)⟩
  exact ⟨.str _,H,I.kept (t':=k) fun _ _ e=>e,⟨t',rfl⟩,q⟩
end
end L2
namespace G
open PySem PySem.Spec PyProof.Rows L2 Mt
section
variable {P:Program} {w:World} {K:PySem.W.Frag} {mg:Str->Option Value} {base:Heap} {f:Addr} {fd:FuncData} {ec:Nat->Addr} {Bs:Addr}
abbrev s_lb:Stmt:=top 46
theorem sc_lb:FnScope ["_law_state_here","_law_text","_law_mark","_law_kind","_law_at","_law_signs","_law_sign","_law_words","_law_one","_law_other"] ["_law_state_here","_law_text","_law_mark"] (defScope s_lb):=⟨rfl,rfl,rfl,by decide +kernel,rfl,by decide +kernel,by decide +kernel⟩
abbrev nm_lb:List Str:=["_law_state_here","_law_text","_law_mark","_law_kind","_law_at","_law_signs","_law_sign","_law_words","_law_one","_law_other"]
def tm_lb {cdv:Value} {A:Around} {outer:List Env} {s:Shared} {H:Hp} {E:XK} (B:Bt mg) (c1:Cal P w K mg base 1 "_law_take" ["_law_state_here","_law_many"] sp_take)
    (hr:Room 1 (A.deeper (envOfC "_law_bent" (defScope s_lb) s.heap.objs.size f cdv))):{t:TS // PSs (cxOf CX0 P w K mg base nm_lb "_law_bent" (defScope s_lb) f cdv A outer s H E).nox (defBody s_lb) t} :=
  ⟨_,(@pss_cons _ _ _ _ _ (@ps_set _ _ 3 _ _ _ _ sc_lb.nd rfl (Or.inl rfl) (pe_cal c1 hr rfl (@pa_cons _ _ _ _ _ (pv 0) (@pa_cons _ _ _ _ _ pe_int pa_nil (by rfl)) (by rfl))) (by rfl) (by first | exact .inl rfl | exact .inr rfl))
    (@pss_cons _ _ _ _ _ (@ps_set _ _ 4 _ _ _ _ sc_lb.nd rfl (Or.inl rfl) (pe_cal c1 hr rfl (@pa_cons _ _ _ _ _ (pv 0) (@pa_cons _ _ _ _ _ (@pe_op _ _ _ _ _ _ _ _ op_add (pe_callB call_len_str rfl B.len PySem.boot_len (@pa_cons _ _ _ _ _ (pv 1) pa_nil (by rfl))) pe_int) pa_nil (by rfl)) (by rfl))) (by rfl) (by first | exact .inl rfl | exact .inr rfl))
    (@pss_cons _ _ _ _ _ (@ps_set _ _ 5 _ _ _ _ sc_lb.nd rfl (Or.inl rfl) pe_str (by rfl) (by first | exact .inl rfl | exact .inr rfl))
    (@pss_cons _ _ _ _ _ (@ps_set _ _ 5 _ _ _ _ sc_lb.nd rfl (Or.inl rfl) (@pe_op _ _ _ _ _ _ _ _ op_add_str (pv 5) pe_str) (by rfl) (by first | exact .inl rfl | exact .inr rfl))
    (@pss_cons _ _ _ _ _ (@ps_set _ _ 6 _ _ _ _ sc_lb.nd rfl (Or.inl rfl) (@pe_ix _ _ _ _ _ _ _ ix_str (pv 5) (pe_cal c1 hr rfl (@pa_cons _ _ _ _ _ (pv 0) (@pa_cons _ _ _ _ _ (@pe_ix _ _ _ _ _ _ _ ix_list (@pe_lst _ _ _ _ (@pa_cons _ _ _ _ _ pe_int (@pa_cons _ _ _ _ _ (pe_callB call_len_str rfl B.len PySem.boot_len (@pa_cons _ _ _ _ _ (pv 5) pa_nil (by rfl))) pa_nil (by rfl)) (by rfl))) (pe_cal c1 hr rfl (@pa_cons _ _ _ _ _ (pv 0) (@pa_cons _ _ _ _ _ pe_int pa_nil (by rfl)) (by rfl))) (fun _ _=>rfl)) pa_nil (by rfl)) (by rfl))) (fun _ _=>rfl)) (by rfl) (by first | exact .inl rfl | exact .inr rfl))
    (@pss_cons _ _ _ _ _ (ps_if (@pt_cmpR _ _ _ _ _ _ _ _ op_lt (pv 3) pe_int (nomark _)) (@pss_one _ _ _ (ps_ret (@pe_ix _ _ _ _ _ _ _ ix_list (@pe_lst _ _ _ _ (@pa_cons _ _ _ _ _ (@pe_op _ _ _ _ _ _ _ _ op_add_str (@pe_slice _ _ _ _ _ _ _ _ _ _ sl_str (pv 1) po_none (po_some (pv 4))) (@pe_slice _ _ _ _ _ _ _ _ _ _ sl_str (pv 1) (po_some (@pe_op _ _ _ _ _ _ _ _ op_add (pv 4) pe_int)) po_none)) (@pa_cons _ _ _ _ _ (@pe_op _ _ _ _ _ _ _ _ op_add_str (@pe_op _ _ _ _ _ _ _ _ op_add_str (@pe_slice _ _ _ _ _ _ _ _ _ _ sl_str (pv 1) po_none (po_some (pv 4))) (pv 6)) (@pe_slice _ _ _ _ _ _ _ _ _ _ sl_str (pv 1) (po_some (pv 4)) po_none)) (@pa_cons _ _ _ _ _ (@pe_op _ _ _ _ _ _ _ _ op_add_str (@pe_op _ _ _ _ _ _ _ _ op_add_str (@pe_slice _ _ _ _ _ _ _ _ _ _ sl_str (pv 1) po_none (po_some (pv 4))) (pv 6)) (@pe_slice _ _ _ _ _ _ _ _ _ _ sl_str (pv 1) (po_some (@pe_op _ _ _ _ _ _ _ _ op_add (pv 4) pe_int)) po_none)) (@pa_cons _ _ _ _ _ (pv 1) pa_nil (by rfl)) (by rfl)) (by rfl)) (by rfl))) (pv 3) (fun _ _=>rfl)))) pss_nil)
    (@pss_cons _ _ _ _ _ (@ps_set _ _ 7 _ _ _ _ sc_lb.nd rfl (Or.inl rfl) (pe_bm PySem.F.plainAttrs_str PySem.F.slot_str_split PySem.F.type_str_split mt_split (pv 1) (@pa_cons _ _ _ _ _ (pv 2) pa_nil (by rfl))) (by rfl) (by first | exact .inl rfl | exact .inr rfl))
    (@pss_cons _ _ _ _ _ (@ps_set _ _ 8 _ _ _ _ sc_lb.nd rfl (Or.inl rfl) (pe_cal c1 hr rfl (@pa_cons _ _ _ _ _ (pv 0) (@pa_cons _ _ _ _ _ (pe_callB call_len_seq rfl B.len PySem.boot_len (@pa_cons _ _ _ _ _ (pv 7) pa_nil (by rfl))) pa_nil (by rfl)) (by rfl))) (by rfl) (by first | exact .inl rfl | exact .inr rfl))
    (@pss_cons _ _ _ _ _ (@ps_set _ _ 9 _ _ _ _ sc_lb.nd rfl (Or.inl rfl) (pe_cal c1 hr rfl (@pa_cons _ _ _ _ _ (pv 0) (@pa_cons _ _ _ _ _ (pe_callB call_len_seq rfl B.len PySem.boot_len (@pa_cons _ _ _ _ _ (pv 7) pa_nil (by rfl))) pa_nil (by rfl)) (by rfl))) (by rfl) (by first | exact .inl rfl | exact .inr rfl))
    (@pss_cons _ _ _ _ _ (ps_if (@pt_cmpR _ _ _ _ _ _ _ _ op_eq (pv 3) pe_int (nomark _)) (@pss_one _ _ _ (ps_expr (pe_bm PySem.F.plainAttrs_list PySem.F.slot_list_pop PySem.F.type_list_pop mt_popAt (pv 7) (@pa_cons _ _ _ _ _ (pv 8) pa_nil (by rfl))))) (@pss_one _ _ _ (ps_if (@pt_cmpR _ _ _ _ _ _ _ _ op_eq (pv 3) pe_int (nomark _)) (@pss_one _ _ _ (ps_expr (pe_bm PySem.F.plainAttrs_list PySem.F.slot_list_insert PySem.F.type_list_insert mt_insert (pv 7) (@pa_cons _ _ _ _ _ (pv 9) (@pa_cons _ _ _ _ _ (@pe_ix _ _ _ _ _ _ _ ix_list (pv 7) (pv 8) (fun _ _=>rfl)) pa_nil (by rfl)) (by rfl))))) (@pss_one _ _ _ (ps_if (@pt_cmpR _ _ _ _ _ _ _ _ op_eq (pv 3) pe_int (nomark _)) (@pss_one _ _ _ (ps_asg (@pe_tup _ _ _ _ _ (@pa_cons _ _ _ _ _ (@pe_ix _ _ _ _ _ _ _ ix_list (pv 7) (pv 9) (fun _ _=>rfl)) (@pa_cons _ _ _ _ _ (@pe_ix _ _ _ _ _ _ _ ix_list (pv 7) (pv 8) (fun _ _=>rfl)) pa_nil (by rfl)) (by rfl))) (pg_tup rfl (pgs_cons (pg_sub (pv 7) (pv 8) set_list) (pgs_cons (pg_sub (pv 7) (pv 9) set_list) pgs_nil))))) (@pss_one _ _ _ (ps_asg (@pe_ix _ _ _ _ _ _ _ ix_list (@pe_lst _ _ _ _ (@pa_cons _ _ _ _ _ pe_str (@pa_cons _ _ _ _ _ pe_str (@pa_cons _ _ _ _ _ pe_str (@pa_cons _ _ _ _ _ pe_str (@pa_cons _ _ _ _ _ pe_str (@pa_cons _ _ _ _ _ pe_str (@pa_cons _ _ _ _ _ pe_str (@pa_cons _ _ _ _ _ pe_str (@pa_cons _ _ _ _ _ pe_str (@pa_cons _ _ _ _ _ pe_str (@pa_cons _ _ _ _ _ pe_str pa_nil (by rfl)) (by rfl)) (by rfl)) (by rfl)) (by rfl)) (by rfl)) (by rfl)) (by rfl)) (by rfl)) (by rfl)) (by rfl))) (pe_cal c1 hr rfl (@pa_cons _ _ _ _ _ (pv 0) (@pa_cons _ _ _ _ _ pe_int pa_nil (by rfl)) (by rfl))) (fun _ _=>rfl)) (pg_sub (pv 7) (pv 8) set_list))))))))
    (@pss_one _ _ _ (ps_ret (pe_bm PySem.F.plainAttrs_str PySem.F.slot_str_join PySem.F.type_str_join mt_join (pv 2) (@pa_cons _ _ _ _ _ (pv 7) pa_nil (by rfl)))))))))))))))⟩
end
end G
namespace G
open PySem PySem.Spec PyProof.Rows L2 Mt
section
variable {P:Program} {w:World} {K:PySem.W.Frag} {mg:Str->Option Value} {base:Heap} {f:Addr} {fd:FuncData} {ec:Nat->Addr} {Bs:Addr}
def sp_lb:Sp:=fun vs H Q _=>∃ (l:Addr) (t m:Str) (x:Int) (b:Bool),vs=[.ref l,.str t,.str m]/\H l=some (.lst [.int x,.bl b])/\StOk x b/\t.length <= 900/\m.length=1/\∀ t' H',Sta l b H H'->t'.length <= 3 * t.length + 5->Q (.str t') H'
theorem sg1:(Str.ofString "0123456789,/- .:+_abcdefghijklmnopqrstuvwxyz").length=44:=by decide +kernel
theorem sg2:(Str.ofString "ABCDEFGHIJKLMNOPQRSTUVWXYZ!#$&'()*;<=>?\x40[]^|~`{}\\\"").length=50:=by decide +kernel
def wt (ws:List Str):Nat:=(ws.map (·.length)).sum + ws.length
theorem wt_cons (a:Str) (ws:List Str):wt (a :: ws)=wt ws + a.length + 1:=by
  unfold wt;rw [List.map_cons,List.sum_cons,List.length_cons];omega
theorem wt_mem {a:Str}:∀ {ws:List Str},a ∈ ws->a.length <= wt ws
  | c :: ws,h=>by
    rw [wt_cons]
    rcases List.mem_cons.mp h with e | e
    · rw [e];omega
    · have:=wt_mem e;omega
theorem wt_erase:∀ (ws:List Str) (j:Nat),wt (ws.eraseIdx j) <= wt ws
  | [],_=>Nat.le_refl _
  | a :: ws,0=>by rw [List.eraseIdx_cons_zero,wt_cons];omega
  | a :: ws,j + 1=>by
    have:=wt_erase ws j
    rw [List.eraseIdx_cons_succ,wt_cons,wt_cons];omega
theorem wt_set (a:Str):∀ (ws:List Str) (j:Nat),wt (ws.set j a) <= wt ws + a.length
  | [],_=>Nat.zero_le _
  | c :: ws,0=>by rw [List.set_cons_zero,wt_cons,wt_cons];omega
  | c :: ws,j + 1=>by
    have:=wt_set a ws j
    rw [List.set_cons_succ,wt_cons,wt_cons];omega
theorem wt_ins (a:Str):∀ (ws:List Str) (j:Nat),wt (ws.take j ++ a :: ws.drop j)=wt ws + a.length + 1
  | ws,0=>by rw [List.take_zero,List.drop_zero,List.nil_append,wt_cons]
  | [],j + 1=>by rw [List.take_nil,List.drop_nil,List.nil_append,wt_cons]
  | c :: ws,j + 1=>by
    have:=wt_ins a ws j
    rw [List.take_succ_cons,List.drop_succ_cons,List.cons_append,wt_cons,wt_cons,this];omega
theorem len_joinW {m:Str} (hm:m.length=1) (ws:List Str):(Txt.join m ws).length <= wt ws:=by
  show (Builtin.Str.glued m ws).length <= _
  rw [StrLaws.glued_eq_join]
  cases ws with
  | nil=>exact Nat.zero_le _
  | cons a l =>
    unfold wt
    rw [len_join_cons,hm,List.length_cons]
    omega
theorem wt_fit {m:Str} {ws:List Str} (hm:m.length=1) (h:wt ws <= 100000):(ws.map fun y=>y.length).sum + ws.length * m.length <= 16777216:=by
  unfold wt at h
  rw [hm];omega
theorem erase_map:∀ (ws:List Str) (j:Nat),(ws.map V.str).eraseIdx j=(ws.eraseIdx j).map V.str
  | [],_=>rfl
  | a :: ws,0=>rfl
  | a :: ws,j + 1=>by
    rw [List.map_cons,List.eraseIdx_cons_succ,List.eraseIdx_cons_succ,List.map_cons,erase_map]
theorem Sta.put {l pw:Addr} {b:Bool} {H H':Hp} {o:HO} (S:Sta l b H H') (hn:∀ u,H pw ≠ some u) (hp:pw ≠ l):Sta l b H (upd H' pw o):=by
  obtain ⟨k,x,h,ok⟩:=S
  refine ⟨fun c u hc e=>?_,x,by rw [upd_ne hp.symm];exact h,ok⟩
  rw [upd_ne (fun z=>hn u (by rw [<- z];exact e))]
  exact k c u hc e
theorem ok_lb (F:Fun K "_law_bent" "_law_bent" s_lb f fd) (B:Bt mg) (c1:Cal P w K mg base 1 "_law_take" ["_law_state_here","_law_many"] sp_take):FnOk P w K mg base CX0 2 f fd ["_law_state_here","_law_text","_law_mark"] sp_lb:=by
  refine F.ok sc_lb (fun vs H Q E h=>?_) (fun cdv A outer s H vs Q E hr h=>?_)
  · obtain ⟨l,t,m,x,b,rfl,_⟩:=h
    rfl
  obtain ⟨l,t,m,x,b,rfl,hl,ok,ht,hm,q⟩:=h
  refine ⟨_,(tm_lb B c1 hr).2,?_⟩
  delta tm_lb
  have big:100000 <= sizeLine:=by decide
  refine ⟨_,rfl,l,8,x,b,rfl,hl,ok,by decide,by decide,fun kd x1 hkd ok1=>?_⟩
  have S1:Sta l b H (upd H l (.lst [.int x1,.bl b])):=(Sta.start hl ok).go ok1
  have h1:upd H l (.lst [.int x1,.bl b]) l=some (.lst [.int x1,.bl b]):=upd_same
  try dsimp -proj only
  generalize upd H l (.lst [.int x1,.bl b])=H1 at S1 h1
  refine ⟨_,rfl,_,rfl,t,rfl,by omega,_,_,rfl,rfl,l,_,x1,b,rfl,h1,ok1,by omega,by omega,fun ix x2 hix ok2=>?_⟩
  have S2:Sta l b H (upd H1 l (.lst [.int x2,.bl b])):=S1.go ok2
  have h2:upd H1 l (.lst [.int x2,.bl b]) l=some (.lst [.int x2,.bl b]):=upd_same
  try dsimp -proj only
  generalize upd H1 l (.lst [.int x2,.bl b])=H2 at S2 h2
  have e1:=sg1
  have e2:=sg2
  generalize Str.ofString "0123456789,/- .:+_abcdefghijklmnopqrstuvwxyz"=s1 at e1
  generalize Str.ofString "ABCDEFGHIJKLMNOPQRSTUVWXYZ!#$&'()*;<=>?\x40[]^|~`{}\\\""=s2 at e2
  refine ⟨_,rfl,_,_,rfl,rfl,by rw [e1,e2];omega,?_⟩
  have e3:(s1 ++ s2).length=94:=by rw [strLen_append,e1,e2]
  generalize s1 ++ s2=sg at e3
  refine ⟨_,rfl,_,rfl,_,rfl,sg,rfl,by omega,by show 2 <= sizeLine;omega,fun p hp=>?_⟩
  have S3:Sta l b H (upd H2 p (.lst [.int 13,.int (sg.length:Int)])):=S2.new hp
  have h3:upd H2 p (.lst [.int 13,.int (sg.length:Int)]) l=some (.lst [.int x2,.bl b]):=by rw [upd_ne (S2.ne hp)];exact h2
  have p3:upd H2 p (.lst [.int 13,.int (sg.length:Int)]) p=some (.lst [.int 13,.int (sg.length:Int)]):=upd_same
  have npl:p ≠ l:=(S2.ne hp).symm
  try dsimp -proj only
  generalize upd H2 p (.lst [.int 13,.int (sg.length:Int)])=H3 at S3 h3 p3
  refine ⟨_,rfl,l,2,x2,b,rfl,h3,ok2,by decide,by decide,fun y3 x3 hy3 ok3=>?_⟩
  have S4:Sta l b H (upd H3 l (.lst [.int x3,.bl b])):=S3.go ok3
  have h4:upd H3 l (.lst [.int x3,.bl b]) l=some (.lst [.int x3,.bl b]):=upd_same
  have p4:upd H3 l (.lst [.int x3,.bl b]) p=some (.lst [.int 13,.int (sg.length:Int)]):=by rw [upd_ne npl];exact p3
  try dsimp -proj only
  generalize upd H3 l (.lst [.int x3,.bl b])=H4 at S4 h4 p4
  obtain ⟨v,v1,v2,hv⟩:∃ v:Int,1 <= v/\v <= 94/\[V.int 13,V.int (sg.length:Int)][y3]?=some (.int v):=by
    have:y3=0 ∨ y3=1:=by omega
    rcases this with rfl | rfl
    · exact ⟨13,by decide,by decide,rfl⟩
    · exact ⟨sg.length,by omega,by omega,rfl⟩
  refine ⟨p,_,_,_,rfl,rfl,.of p4,atI_nat hv,l,v,x3,b,rfl,h4,ok3,v1,by omega,fun y4 x4 hy4 ok4=>?_⟩
  have S5:Sta l b H (upd H4 l (.lst [.int x4,.bl b])):=S4.go ok4
  have h5:upd H4 l (.lst [.int x4,.bl b]) l=some (.lst [.int x4,.bl b]):=upd_same
  try dsimp -proj only
  generalize upd H4 l (.lst [.int x4,.bl b])=H5 at S5 h5
  have lsg:sg.cps.toList.length=94:=by rw [Array.length_toList];exact e3
  refine ⟨sg,_,sg.cps.toList[y4]'(by omega),rfl,rfl,by omega,atI_nat (List.getElem?_eq_getElem _),?_⟩
  obtain ⟨sn,hsn,hs1⟩:∃ sn:Str,sn=⟨#[sg.cps.toList[y4]'(by omega)]⟩/\sn.length=1:=⟨_,rfl,rfl⟩
  rw [<- hsn]
  have L0:=Txt.slice_le t none (some (ix:Int))
  have L1:=Txt.slice_le t (some ((ix:Int) + 1)) none
  have L2:=Txt.slice_le t (some (ix:Int)) none
  refine ⟨_,rfl,_,_,rfl,rfl,_,rfl,?_⟩
  by_cases hk:(kd:Int) < 4
  · rw [decide_eq_true hk]
    refine iteT ?_
    refine ⟨_,rfl,_,rfl,_,rfl,t,rfl,by omega,_,rfl,_,rfl,_,_,rfl,rfl,_,rfl,t,rfl,by omega,_,_,rfl,rfl,by omega,?_⟩
    refine ⟨_,rfl,_,rfl,_,rfl,t,rfl,by omega,_,rfl,_,_,rfl,rfl,by omega,_,rfl,_,rfl,_,rfl,t,rfl,by omega,_,_,rfl,rfl,by rw [strLen_append];omega,?_⟩
    refine ⟨_,rfl,_,rfl,_,rfl,t,rfl,by omega,_,rfl,_,_,rfl,rfl,by omega,_,rfl,_,rfl,_,_,rfl,rfl,_,rfl,t,rfl,by omega,_,_,rfl,rfl,by rw [strLen_append];omega,?_⟩
    refine ⟨_,rfl,by show 4 <= sizeLine;omega,fun p6 hp6=>?_⟩
    have key:∃ t':Str,[V.str (Txt.slice t none (some (ix:Int)) ++ Txt.slice t (some ((ix:Int) + 1)) none),V.str (Txt.slice t none (some (ix:Int)) ++ sn ++ Txt.slice t (some (ix:Int)) none),V.str (Txt.slice t none (some (ix:Int)) ++ sn ++ Txt.slice t (some ((ix:Int) + 1)) none),V.str t][kd]?=some (.str t')/\t'.length <= 3 * t.length + 5:=by
      have:kd=0 ∨ kd=1 ∨ kd=2 ∨ kd=3:=by omega
      rcases this with rfl | rfl | rfl | rfl
      · exact ⟨_,rfl,by rw [strLen_append];omega⟩
      · exact ⟨_,rfl,by rw [strLen_append,strLen_append];omega⟩
      · exact ⟨_,rfl,by rw [strLen_append,strLen_append];omega⟩
      · exact ⟨_,rfl,by omega⟩
    obtain ⟨t',ht',hlt⟩:=key
    exact ⟨_,rfl,p6,_,_,_,rfl,rfl,.of upd_same,atI_nat ht',q _ _ (S5.new hp6) hlt⟩
  rw [decide_eq_false hk]
  refine iteF ?_
  refine ⟨_,rfl,rfl,_,rfl,t,m,rfl,rfl,by rw [hm];rfl,ht,fun pw hpw=>?_⟩
  have hW:wt (Txt.split t m) <= t.length + 1:=split_weight t m (by omega)
  have hne:1 <= (Txt.split t m).length:=split_pos t m
  have nwl:pw ≠ l:=(S5.ne hpw).symm
  have hHw:∀ u,H pw ≠ some u:=fun u e=>by have:=S5.1 pw u nwl e;rw [hpw] at this;cases this
  generalize Txt.split t m=wds at hW hne hpw
  have hwl:wds.length <= wt wds:=Nat.le_add_left _ _
  have S6:Sta l b H (upd H5 pw (.lst (wds.map V.str))):=S5.new hpw
  have h6:upd H5 pw (.lst (wds.map V.str)) l=some (.lst [.int x4,.bl b]):=by rw [upd_ne (S5.ne hpw)];exact h5
  have w6:upd H5 pw (.lst (wds.map V.str)) pw=some (.lst (wds.map V.str)):=upd_same
  try dsimp -proj only
  generalize upd H5 pw (.lst (wds.map V.str))=H6 at S6 h6 w6
  refine ⟨_,rfl,_,rfl,pw,_,rfl,.inl (.of w6),l,_,x4,b,rfl,h6,ok4,by rw [List.length_map];omega,by rw [List.length_map];omega,fun j1 x5 hj1 ok5=>?_⟩
  have S7:Sta l b H (upd H6 l (.lst [.int x5,.bl b])):=S6.go ok5
  have h7:upd H6 l (.lst [.int x5,.bl b]) l=some (.lst [.int x5,.bl b]):=upd_same
  have w7:upd H6 l (.lst [.int x5,.bl b]) pw=some (.lst (wds.map V.str)):=by rw [upd_ne nwl];exact w6
  try dsimp -proj only
  generalize upd H6 l (.lst [.int x5,.bl b])=H7 at S7 h7 w7
  refine ⟨_,rfl,_,rfl,pw,_,rfl,.inl (.of w7),l,_,x5,b,rfl,h7,ok5,by rw [List.length_map];omega,by rw [List.length_map];omega,fun j2 x6 hj2 ok6=>?_⟩
  have S8:Sta l b H (upd H7 l (.lst [.int x6,.bl b])):=S7.go ok6
  have h8:upd H7 l (.lst [.int x6,.bl b]) l=some (.lst [.int x6,.bl b]):=upd_same
  have w8:upd H7 l (.lst [.int x6,.bl b]) pw=some (.lst (wds.map V.str)):=by rw [upd_ne nwl];exact w7
  try dsimp -proj only
  generalize upd H7 l (.lst [.int x6,.bl b])=H8 at S8 h8 w8
  rw [List.length_map] at hj1 hj2
  have g1:j1 < wds.length:=by omega
  have g2:j2 < wds.length:=by omega
  have m1:=wt_mem (List.getElem_mem g1)
  have m2:=wt_mem (List.getElem_mem g2)
  have a1:(wds.map V.str)[j1]?=some (.str wds[j1]):=by rw [List.getElem?_map,List.getElem?_eq_getElem g1];rfl
  have a2:(wds.map V.str)[j2]?=some (.str wds[j2]):=by rw [List.getElem?_map,List.getElem?_eq_getElem g2];rfl
  refine ⟨_,rfl,rfl,_,rfl,?_⟩
  by_cases k4:(kd:Int)=4
  · rw [decide_eq_true (congrArg V.int k4)]
    refine iteT ⟨_,rfl,.inl ⟨rfl,_,.of w8⟩,_,rfl,pw,_,j1,j1,_,rfl,rfl,w8,by omega,by omega,?_,a1,?_⟩
    · rw [PySem.StrLaws.seqIndex_nonneg (by omega) (by rw [List.length_map];omega),Int.toNat_natCast]
    have wE:=wt_erase wds j1
    have jE:=len_joinW hm (wds.eraseIdx j1)
    refine ⟨_,rfl,rfl,_,rfl,m,pw,wds.eraseIdx j1,rfl,rfl,.of ?_,wt_fit hm (by omega),q _ _ (S8.put hHw nwl) (by omega)⟩
    rw [upd_same,erase_map]
  rw [decide_eq_false (fun z=>k4 (V.int.inj z))]
  refine iteF ⟨_,rfl,rfl,_,rfl,?_⟩
  by_cases k5:(kd:Int)=5
  · rw [decide_eq_true (congrArg V.int k5)]
    refine iteT ⟨_,rfl,.inl ⟨rfl,_,.of w8⟩,_,rfl,_,rfl,_,rfl,pw,_,_,_,rfl,rfl,.of w8,atI_nat a1,pw,(j2:Int),_,_,rfl,rfl,w8,by omega,by rw [List.length_map,Int.toNat_natCast];omega,by rw [List.length_map];omega,?_⟩
    have wE:=wt_ins wds[j1] wds j2
    have jE:=len_joinW hm (wds.take j2 ++ wds[j1] :: wds.drop j2)
    refine ⟨_,rfl,rfl,_,rfl,m,pw,wds.take j2 ++ wds[j1] :: wds.drop j2,rfl,rfl,.of ?_,wt_fit hm (by omega),q _ _ (S8.put hHw nwl) (by omega)⟩
    rw [upd_same,Int.toNat_natCast,List.map_append,List.map_cons,List.map_take,List.map_drop]
  rw [decide_eq_false (fun z=>k5 (V.int.inj z))]
  refine iteF ⟨_,rfl,rfl,_,rfl,?_⟩
  by_cases k6:(kd:Int)=6
  · rw [decide_eq_true (congrArg V.int k6)]
    refine iteT ⟨_,rfl,_,rfl,pw,_,_,_,rfl,rfl,.of w8,atI_nat a2,_,rfl,_,rfl,pw,_,_,_,rfl,rfl,.of w8,atI_nat a1,by show 2 <= sizeLine;omega,fun p9 hp9=>?_⟩
    have S9:Sta l b H (upd H8 p9 (.tup [.str wds[j2],.str wds[j1]])):=S8.new hp9
    have w9:upd H8 p9 (.tup [.str wds[j2],.str wds[j1]]) pw=some (.lst (wds.map V.str)):=by rw [upd_ne (ne_of_none w8 hp9)];exact w8
    have p9':upd H8 p9 (.tup [.str wds[j2],.str wds[j1]]) p9=some (.tup [.str wds[j2],.str wds[j1]]):=upd_same
    try dsimp -proj only
    generalize upd H8 p9 (.tup [.str wds[j2],.str wds[j1]])=H9 at S9 w9 p9'
    have i1:ixN (wds.map V.str).length (j1:Int)=some j1:=by
      unfold ixN
      rw [List.length_map,if_pos (by omega),if_pos (by omega),Int.toNat_natCast]
    refine ⟨p9,_,rfl,.of p9',rfl,?_⟩
    refine ⟨_,_,rfl,_,rfl,_,rfl,pw,_,_,j1,rfl,rfl,w9,i1,?_⟩
    have i2:ixN ((wds.map V.str).set j1 (.str wds[j2])).length (j2:Int)=some j2:=by
      unfold ixN
      rw [List.length_set,List.length_map,if_pos (by omega),if_pos (by omega),Int.toNat_natCast]
    refine ⟨_,_,rfl,_,rfl,_,rfl,pw,_,_,j2,rfl,rfl,upd_same,i2,?_⟩
    have wE:=wt_set wds[j2] wds j1
    have wF:=wt_set wds[j1] (wds.set j1 wds[j2]) j2
    have jE:=len_joinW hm ((wds.set j1 wds[j2]).set j2 wds[j1])
    refine ⟨rfl,_,rfl,rfl,_,rfl,m,pw,(wds.set j1 wds[j2]).set j2 wds[j1],rfl,rfl,.of ?_,wt_fit hm (by omega),q _ _ ((S9.put hHw nwl).put hHw nwl) (by omega)⟩
    rw [upd_same,List.map_set,List.map_set]
  rw [decide_eq_false (fun z=>k6 (V.int.inj z))]
  refine iteF ?_
  refine ⟨by show 11 <= sizeLine;omega,fun p9 hp9=>?_⟩
  have key:∀ y:Nat,(y:Int) < 11->∃ z:Str,([V.str (Str.ofString ""),V.str (Str.ofString "0"),V.str (Str.ofString "20"),V.str (Str.ofString "21"),V.str (Str.ofString "5"),V.str (Str.ofString "6"),V.str (Str.ofString "00"),V.str (Str.ofString "05"),V.str (Str.ofString "-1"),V.str (Str.ofString "1/1"),V.str (Str.ofString "none")])[y]?=some (.str z)/\z.length <= 4:=fun y hy=>by
    have:y=0 ∨ y=1 ∨ y=2 ∨ y=3 ∨ y=4 ∨ y=5 ∨ y=6 ∨ y=7 ∨ y=8 ∨ y=9 ∨ y=10:=by omega
    rcases this with rfl | rfl | rfl | rfl | rfl | rfl | rfl | rfl | rfl | rfl | rfl <;> exact ⟨_,rfl,by decide +kernel⟩
  generalize [V.str (Str.ofString ""),V.str (Str.ofString "0"),V.str (Str.ofString "20"),V.str (Str.ofString "21"),V.str (Str.ofString "5"),V.str (Str.ofString "6"),V.str (Str.ofString "00"),V.str (Str.ofString "05"),V.str (Str.ofString "-1"),V.str (Str.ofString "1/1"),V.str (Str.ofString "none")]=L at key
  have S9:Sta l b H (upd H8 p9 (.lst L)):=S8.new hp9
  have w9:upd H8 p9 (.lst L) pw=some (.lst (wds.map V.str)):=by rw [upd_ne (ne_of_none w8 hp9)];exact w8
  have h9:upd H8 p9 (.lst L) l=some (.lst [.int x6,.bl b]):=by rw [upd_ne (S8.ne hp9)];exact h8
  have p9':upd H8 p9 (.lst L) p9=some (.lst L):=upd_same
  have n9:p9 ≠ l:=(S8.ne hp9).symm
  try dsimp -proj only
  generalize upd H8 p9 (.lst L)=H9 at S9 w9 p9' h9
  refine ⟨_,rfl,l,11,x6,b,rfl,h9,ok6,by decide,by decide,fun y9 x9 hy9 ok9=>?_⟩
  obtain ⟨z,hz,z4⟩:=key y9 hy9
  have S10:Sta l b H (upd H9 l (.lst [.int x9,.bl b])):=S9.go ok9
  have w10:upd H9 l (.lst [.int x9,.bl b]) pw=some (.lst (wds.map V.str)):=by rw [upd_ne nwl];exact w9
  have p10:upd H9 l (.lst [.int x9,.bl b]) p9=some (.lst L):=by rw [upd_ne n9];exact p9'
  try dsimp -proj only
  generalize upd H9 l (.lst [.int x9,.bl b])=Hx at S10 w10 p10
  have i1:ixN (wds.map V.str).length (j1:Int)=some j1:=by
    unfold ixN
    rw [List.length_map,if_pos (by omega),if_pos (by omega),Int.toNat_natCast]
  refine ⟨p9,_,_,_,rfl,rfl,.of p10,atI_nat hz,_,rfl,_,rfl,pw,_,_,j1,rfl,rfl,w10,i1,?_⟩
  have wE:=wt_set z wds j1
  have jE:=len_joinW hm (wds.set j1 z)
  refine ⟨_,rfl,rfl,_,rfl,m,pw,wds.set j1 z,rfl,rfl,.of ?_,wt_fit hm (by omega),q _ _ (S10.put hHw nwl) (by omega)⟩
  rw [upd_same,List.map_set]
end
end G
namespace L2
open PySem PySem.Spec PyProof.Rows
def tCallL (X:Cx) (k iC:Nat):TE:=fun σ H Q=>∃ fa sp,σ[iC]?=some (some (.ref fa))/\Callee X k fa sp H/\sp [] H Q (fun _ _ _=>False)
theorem pe_callL {X:Cx} {k iC:Nat} {xc:Str} {p1 p2:Pos} (hr:Room k X.A) (hC:X.N[iC]?=some xc) (hCv:Vis X.env.scope xc)
    (d1:(xc == ("__debug__":Str))=false:=by decide) (d2:(xc == ("__classdict__":Str))=false:=by decide):PE X (.Call (.Name xc p1) [] [] p2) (tCallL X k iC):=by
  intro pins s σ H Q I h
  obtain ⟨fa,sp,e0,⟨fo,fd,kn,hfd,bnd,F⟩,hsp⟩:=h
  refine wpAny_Call_Name_kw ?_
  have hv:=pe_var (X:=X.nox) (i:=iC) (x:=xc) (pos:=p1) hC hCv d1 d2 pins s σ H (fun v H1=>v=.ref fa/\H1=H) (I.wish _) ⟨_,e0,rfl,rfl⟩
  refine wpAny_mono hv (fun u s1 ⟨v,H1,I1,r,ev,eH⟩=>?_) fun _ _ z=>False.elim z
  subst ev
  subst eH
  obtain rfl:u=Value.ref fa:=r
  have I2:Inv X pins σ H1 s1:=I1.unwish
  have hfa:PySem.W.FnAt fa s1.heap:=by
    have z:=I2.hok.kn kn
    obtain ⟨c,d,dt,sl⟩:=fo
    dsimp only at hfd
    subst hfd
    exact ⟨c,d,fd,sl,z⟩
  refine PySem.W.callWith_F0 hfa (wpAny_call (codeAny_mono (F.run X.A X.stack s1 H1 ⟨[],[]⟩ [] [] _ _ hr I2.env0 (.of_eq bnd) .nil hsp) fun res s' hq=>?_))
  cases res with
  | ok fl =>
    cases fl with
    | ret u =>
      obtain ⟨v,H',I3,rv,q3⟩:=I2.after hq
      exact ⟨v,H',I3,rv,q3⟩
    | next=>exact False.elim hq
    | brk=>exact False.elim hq
    | cont=>exact False.elim hq
  | error e =>
    obtain ⟨a,C,H',rfl,F1,z⟩:=hq
    exact z.elim
end L2
namespace L2
open PySem PySem.Spec PyProof.Rows
section
variable {X:Cx} {K:PySem.W.Frag}
end
end L2
namespace L2
open PySem PySem.Spec PyProof.Rows PySem.SeqAt
section
variable {X:Cx} {K:PySem.W.Frag}
end
end L2
namespace L2
open PySem PySem.Spec PyProof.Rows
section
variable {prog:Program} {w:World} {A:Around} {E:Value->Shared->Prop} {s:Shared}
structure ZipLL (h:Heap) (z TI TO i1 i2 t1 t2:Addr) (k:Nat):Prop where
  zz:IsZip h z TI TO .none
  ti:IsPair h TI (.ref i1) (.ref i2)
  tO:∃ a b,IsPair h TO a b
  it1:h.IsListIter i1 t1 k
  it2:h.IsListIter i2 t2 k
end
section
variable {X:Cx} {pins:List (Addr × Obj)} {σ:St} {H:Hp} {s:Shared}
end
section
variable {X:Cx} {K:PySem.W.Frag}
end
section
variable {X:Cx} {K:PySem.W.Frag}
end
end L2
namespace L2
open PySem PySem.Spec PyProof.Rows
section
variable {X:Cx}
def okSeq3:PyData->Bool
  | .dict _=>false
  | _=>true
theorem call_isi3:CallR X (.builtin "isinstance") (fun xs H Q=>∃ x st d p,xs=[x,.ref p]/\Dt st H d x/\okSeq3 d=true/\H p=some (.tup [.ty "list",.ty "tuple"])/\Q (.bl (isSeqD d)) H):=by
  intro pins s σ H xs us Q I r h
  obtain ⟨x,st,d,p,rfl,hd,ok,hp,q⟩:=h
  cases r with
  | cons r1 rr =>
    cases rr with
    | cons r2 rr =>
      cases rr
      cases r2
      have e:=kit_seq X.K d
      obtain ⟨_,its,rv,ob,ho,hc,n,hdt⟩:=(show ObjOk X.prog X.w H s.heap p (.tup [.ty "list",.ty "tuple"]) from I.hok p _ hp)
      cases rv with
      | cons q1 rv =>
        cases rv with
        | cons q2 rv =>
          cases rv
          cases q1
          cases q2
          obtain ⟨oc,od,dt,sl⟩:=ob
          simp only at hc hdt
          subst hc hdt
          have fin:∀ tk,EP X pins σ Q (.bool (isSeqD d)) { s with toks:=tk }:=fun tk=>⟨.bl (isSeqD d),H,I.tok tk,rfl,q⟩
          cases d with
          | none =>
            unfold Dt at hd
            subst hd
            cases r1
            exact PySem.W.kia_tup PySem.W.kitx_none I.kIn True.intro ho e (fun z=>nomatch z) fin
          | bool i =>
            unfold Dt at hd
            subst hd
            cases r1
            exact PySem.W.kia_tup PySem.W.kitx_bool I.kIn True.intro ho e (fun z=>nomatch z) fin
          | int i =>
            unfold Dt at hd
            subst hd
            obtain ⟨t,rfl⟩:=r1
            exact PySem.W.kia_tup PySem.W.kitx_int I.kIn True.intro ho e (fun z=>nomatch z) fin
          | str i =>
            unfold Dt at hd
            subst hd
            obtain ⟨t,rfl⟩:=r1
            exact PySem.W.kia_tup PySem.W.kitx_str I.kIn True.intro ho e (fun z=>nomatch z) fin
          | tuple ds =>
            unfold Dt at hd
            obtain ⟨a,xs,e1,_,ha,_⟩:=hd
            subst e1
            cases r1
            obtain ⟨_,_,_,o,h1,h2,_⟩:=(show ObjOk X.prog X.w H s.heap a (.tup xs) from I.hok a _ ha)
            exact PySem.W.kia_tup PySem.W.kitx_tuple I.kIn ⟨o,h1,h2⟩ ho e (fun z=>nomatch z) fin
          | list ds =>
            unfold Dt at hd
            obtain ⟨a,xs,e1,_,ha,_⟩:=hd
            subst e1
            cases r1
            obtain ⟨_,_,_,_,h1⟩:=(show ObjOk X.prog X.w H s.heap a (.lst xs) from I.hok a _ ha)
            exact PySem.W.kia_tup PySem.W.kitx_list I.kIn ⟨_,h1,rfl⟩ ho e (fun z=>nomatch z) fin
          | dict _=>cases (show false=true from ok)
end
end L2
namespace G
open PySem PySem.Spec PyProof.Rows L2 Mt
theorem sum_lensB {m:Nat}:∀ {ys:List Str},(∀ y ∈ ys,y.length <= m)->wt ys <= ys.length * m + ys.length
  | [],_=>Nat.zero_le _
  | y :: ys,h=>by
    have h1:=h y List.mem_cons_self
    have h2:=sum_lensB (ys:=ys) fun z hz=>h z (List.mem_cons_of_mem _ hz)
    rw [wt_cons,List.length_cons,Nat.add_mul]
    omega
section
variable {P:Program} {w:World} {K:PySem.W.Frag} {mg:Str->Option Value} {base:Heap} {f:Addr} {fd:FuncData} {ec:Nat->Addr}
abbrev s_same:Stmt:=top 42
theorem sc_same:FnScope ["_law_found","_law_due"] ["_law_found","_law_due"] (defScope s_same):=⟨rfl,rfl,rfl,by decide +kernel,rfl,by decide +kernel,by decide +kernel⟩
def sp_same0:Sp:=fun vs H Q _=>∃ v,vs=[v,v]/\((∃ i:Int,v=.int i) ∨ ∃ x:Str,v=.str x)/\∀ H',Same H H'->Q (.bl true) H'
theorem ok_same0 (F:Fun K "_law_same" "_law_same" s_same f fd) (B:Bt mg):FnOk P w K mg base CX0 1 f fd ["_law_found","_law_due"] sp_same0:=by
  refine F.ok sc_same (fun vs H Q E h=>?_) (fun cdv A outer s H vs Q E hr h=>?_)
  · obtain ⟨v,rfl,_⟩:=h
    rfl
  obtain ⟨v,rfl,hv,q⟩:=h
  refine ⟨_,pss_cons (ps_if (pt_val (pe_callB call_isi3 rfl B.isinstance boot_isinstance (pa_cons (pv 1) (pa_cons (pe_tup (pa_cons (pe_bty rfl B.list boot_list) (pa_cons (pe_bty rfl B.tuple boot_tuple) pa_nil))) pa_nil)))) pss_never pss_nil)
    (pss_one (ps_ret (pe_and (pe_cmpR op_eq (pe_callB (call_isi kit_bool) rfl B.isinstance boot_isinstance (pa_cons (pv 0) (pa_cons (pe_bty rfl B.bool boot_bool) pa_nil))) (pe_callB (call_isi kit_bool) rfl B.isinstance boot_isinstance (pa_cons (pv 1) (pa_cons (pe_bty rfl B.bool boot_bool) pa_nil))) (nomark _)) (pe_one (pe_cmpR op_eq (pv 0) (pv 1) (nomark _)))))),?_⟩
  obtain ⟨d,hd,h1,h2,h3⟩:∃ d:PyData,(∀ (st:Addr) (H':Hp),Dt st H' d v)/\okSeq3 d=true/\isSeqD d=false/\scal v v=true:=by
    rcases hv with ⟨i,rfl⟩ | ⟨x,rfl⟩
    · exact ⟨.int i,fun st H'=>Dt.int _ _ _,rfl,rfl,rfl⟩
    · exact ⟨.str x,fun st H'=>by unfold Dt;rfl,rfl,rfl,rfl⟩
  refine ⟨_,rfl,(by show 2 <= sizeLine;decide),fun p hp=>⟨v,0,d,p,rfl,hd 0 _,h1,upd_same,_,rfl,?_⟩⟩
  rw [h2]
  refine iteF ⟨_,rfl,v,0,d,rfl,hd 0 _,_,rfl,v,0,d,rfl,hd 0 _,rfl,_,rfl,?_⟩
  rw [decide_eq_true rfl]
  refine iteT ⟨_,rfl,_,rfl,h3,?_⟩
  rw [decide_eq_true rfl]
  exact q _ (Same.new hp)
def sp_sameT (A:V->V->Hp->Prop):Sp:=fun vs H Q _=>∃ (d:PyData) (st p r:Addr) (xs ys:List V),vs=[.ref p,.ref r]/\okSeq3 d=true/\isSeqD d=true/\Dt st H d (.ref p)/\Dt st H d (.ref r)/\H p=some (.tup xs)/\H r=some (.tup ys)/\xs.length=ys.length/\xs.length <= 1000 /\
  (∀ (i:Nat) x y H',xs[i]?=some x->ys[i]?=some y->Same H H'->A x y H')/\∀ H',Same H H'->Q (.bl true) H'
theorem ok_sameT {k:Nat} {sp:Sp} {A:V->V->Hp->Prop} (F:Fun K "_law_same" "_law_same" s_same f fd) (B:Bt mg) (c1:Cal P w K mg base k "_law_same" ["_law_found","_law_due"] sp) (hA:∀ x y H (Q:VK) (E:XK),A x y H->(∀ H',Same H H'->Q (.bl true) H')->sp [x,y] H Q E):FnOk P w K mg base CX0 (k + 1) f fd ["_law_found","_law_due"] (sp_sameT A):=by
  refine F.ok sc_same (fun vs H Q E h=>?_) (fun cdv A0 outer s H vs Q E hr h=>?_)
  · obtain ⟨d,st,p,r,xs,ys,rfl,_⟩:=h
    rfl
  obtain ⟨d,st,p,r,xs,ys,rfl,hok,hsq,dp0,dr0,hp,hr2,hxy,hlx,hall,q⟩:=h
  refine ⟨_,pss_cons (ps_if (pt_val (pe_callB call_isi3 rfl B.isinstance boot_isinstance (pa_cons (pv 1) (pa_cons (pe_tup (pa_cons (pe_bty rfl B.list boot_list) (pa_cons (pe_bty rfl B.tuple boot_tuple) pa_nil))) pa_nil))))
      (pss_cons (ps_if (PW.pt (pw_or (pt_cmpR op_ne (pe_callB (call_isi kit_list) rfl B.isinstance boot_isinstance (pa_cons (pv 0) (pa_cons (pe_bty rfl B.list boot_list) pa_nil))) (pe_callB (call_isi kit_list) rfl B.isinstance boot_isinstance (pa_cons (pv 1) (pa_cons (pe_bty rfl B.list boot_list) pa_nil))) (nomark _))
        (pw_or1 (pt_cmpR op_ne (pe_callB (call_isi kit_tup) rfl B.isinstance boot_isinstance (pa_cons (pv 0) (pa_cons (pe_bty rfl B.tuple boot_tuple) pa_nil))) (pe_callB (call_isi kit_tup) rfl B.isinstance boot_isinstance (pa_cons (pv 1) (pa_cons (pe_bty rfl B.tuple boot_tuple) pa_nil))) (nomark _))))) (pss_one (ps_ret pe_bl)) pss_nil)
      (pss_one (ps_ret (pe_and (pe_cmpR op_eq (pe_callB call_len_seq rfl B.len PySem.boot_len (pa_cons (pv 0) pa_nil)) (pe_callB call_len_seq rfl B.len PySem.boot_len (pa_cons (pv 1) pa_nil)) (nomark _))
        (pe_one (pe_callB (call_all_seq rfl) rfl B.all boot_all (pa_cons (pe_compG (N:=["_law_one","_law_other"]) (ix:=[none,none]) (ifs:=[]) (tc:=tTrue) rfl (pi_zip rfl B.zip (pa_cons (pv 0) (pa_cons (pv 1) pa_nil)))
          (fun s H ex=>pgtK (K:=K) (n:=2) rfl rfl (pgs_cons (pg_c (i:=0) (by decide +kernel) rfl (Or.inl rfl) (.inr rfl)) (pgs_cons (pg_c (i:=1) (by decide +kernel) rfl (Or.inl rfl) (.inr rfl)) pgs_nil))) (fun s H ex=>pifs_nil)
          (fun s H ex=>pe_cal c1 hr rfl (pa_cons (pv 0) (pa_cons (pv 1) pa_nil))) rfl (by decide +kernel) (by rfl) (by rfl) (fun _=>rfl)) pa_nil))))))) pss_nil) pss_never,?_⟩
  have dp:∀ H',Same H H'->Dt st H' d (.ref p):=fun H' g=>dp0.kp (g.kp st)
  have dr:∀ H',Same H H'->Dt st H' d (.ref r):=fun H' g=>dr0.kp (g.kp st)
  refine ⟨_,rfl,(by show 2 <= sizeLine;decide),fun t ht=>?_⟩
  have g1:Same H (upd H t (.tup [.ty "list",.ty "tuple"])):=Same.new ht
  refine ⟨.ref r,_,_,t,rfl,dr _ g1,hok,upd_same,_,rfl,?_⟩
  rw [hsq]
  refine iteT ?_
  generalize upd H t (.tup [.ty "list",.ty "tuple"])=H1 at g1
  refine ⟨_,rfl,.ref p,_,_,rfl,dp _ g1,_,rfl,.ref r,_,_,rfl,dr _ g1,rfl,_,rfl,?_⟩
  rw [decide_eq_true rfl]
  refine iteF ⟨_,rfl,.ref p,_,_,rfl,dp _ g1,_,rfl,.ref r,_,_,rfl,dr _ g1,rfl,_,rfl,?_⟩
  rw [decide_eq_true rfl]
  refine iteF ⟨_,rfl,p,_,rfl,.inr (.of (g1 _ _ hp)),_,rfl,r,_,rfl,.inr (.of (g1 _ _ hr2)),rfl,_,rfl,?_⟩
  rw [decide_eq_true (by rw [hxy])]
  refine iteT ⟨_,rfl,_,rfl,p,r,_,_,rfl,.of (g1 _ _ hp),.of (g1 _ _ hr2),?_⟩
  refine blk_zip (K:=K) (a:=p) (b:=r) (xs:=xs) (ys:=ys) (sz hlx) hxy
    (fun i zs H2=>Same H H2/\zs=List.replicate i (.bl true)) ⟨g1,rfl⟩ (fun i zs H2 h=>by rw [h.2,List.length_replicate]) (fun i zs H2 _ h=>⟨.of (h.1 _ _ hp),.of (h.1 _ _ hr2)⟩) ⟨rfl,rfl⟩ (fun i zs H2 x y p' hx hy hp' h=>?_) (fun zs H2 h=>?_)
  · obtain ⟨hS,rfl⟩:=h
    have hS':=hS.trans (Same.new (o:=.tup [x,y]) hp')
    refine ⟨_,rfl,_,rfl,hA _ _ _ _ _ (hall i x y _ hx hy hS') fun H3 g3=>⟨hS'.trans g3,?_⟩⟩
    rw [List.replicate_succ']
  · obtain ⟨hS,rfl⟩:=h
    intro pz hpz
    refine ⟨pz,_,rfl,.inl (.of upd_same),?_,?_⟩
    · rw [List.all_replicate];simp [okTru]
    · rw [show ((List.replicate xs.length (V.bl true)).all truV)=true by rw [List.all_replicate];simp [truV]]
      exact q _ (hS.trans (Same.new hpz))
def A0:V->V->Hp->Prop:=fun x y _=>∃ i:Int,x=.int i/\y=.int i
theorem A0_sp {x y:V} {H:Hp} {Q:VK} {E:XK} (h:A0 x y H) (q:∀ H',Same H H'->Q (.bl true) H'):sp_same0 [x,y] H Q E:=by
  obtain ⟨i,rfl,rfl⟩:=h
  exact ⟨_,rfl,.inl ⟨i,rfl⟩,q⟩
def A1:V->V->Hp->Prop:=fun x y H=>∃ (st:Addr) (ns:List Int),Dt st H (DI ns) x/\Dt st H (DI ns) y/\ns.length <= 1000
theorem A1_sp {x y:V} {H:Hp} {Q:VK} {E:XK} (h:A1 x y H) (q:∀ H',Same H H'->Q (.bl true) H'):sp_sameT A0 [x,y] H Q E:=by
  obtain ⟨st,ns,dx,dy,hl⟩:=h
  obtain ⟨p,rfl,_,hp⟩:=id dx.di
  obtain ⟨r,rfl,_,hr⟩:=id dy.di
  refine ⟨DI ns,st,p,r,_,_,rfl,rfl,rfl,dx,dy,hp,hr,rfl,by rw [List.length_map];exact hl,fun i x y H' hx hy _=>?_,q⟩
  rw [hx] at hy
  cases hy
  rw [List.getElem?_map] at hx
  obtain ⟨z,_,ez⟩:=Option.map_eq_some_iff.mp hx
  exact ⟨z,ez.symm,ez.symm⟩
theorem sameR {st p r:Addr} {H:Hp} {zs:List (List Int)} {Q:VK} {E:XK} (dp:Dt st H (DR zs) (.ref p)) (dr:Dt st H (DR zs) (.ref r)) (hl:zs.length <= 1000) (hz:∀ z ∈ zs,z.length <= 1000) (q:∀ H',Same H H'->Q (.bl true) H'):sp_sameT A1 [.ref p,.ref r] H Q E:=by
  obtain ⟨p',xs,e,_,hp,hx⟩:=dp.untup
  cases e
  obtain ⟨r',ys,e,_,hr,hy⟩:=dr.untup
  cases e
  have lx:=hx.len
  have ly:=hy.len
  rw [List.length_map] at lx ly
  refine ⟨DR zs,st,p,r,xs,ys,rfl,rfl,rfl,dp,dr,hp,hr,by omega,by omega,fun i x y H' ex ey g=>?_,q⟩
  obtain ⟨d1,e1,h1⟩:=hx.get ex
  obtain ⟨d2,e2,h2⟩:=hy.get ey
  rw [e1] at e2
  cases e2
  rw [List.getElem?_map] at e1
  obtain ⟨z,ez,ed⟩:=Option.map_eq_some_iff.mp e1
  subst ed
  exact ⟨st,z,h1.kp (g.kp st),h2.kp (g.kp st),hz z (List.mem_of_getElem? ez)⟩
def sp_lut:Sp:=fun vs H Q _=>∃ (a:Addr) (ns:List Int),vs=[.ref a]/\H a=some (.tup (ns.map V.int))/\ns.length <= 4/\(∀ x ∈ ns,0 <= x/\x <= 20)/\∀ t H',Same H H'->t.length <= 12->Q (.str t) H'
abbrev s_lut:Stmt:=top 39
theorem sc_lut:FnScope ["_law_urn_here"] ["_law_urn_here"] (defScope s_lut):=⟨rfl,rfl,rfl,by decide +kernel,rfl,by decide +kernel,by decide +kernel⟩
theorem ok_lut (F:Fun K "_law_urn_text" "_law_urn_text" s_lut f fd) (B2:Bt2 mg):FnOk P w K mg base CX0 1 f fd ["_law_urn_here"] sp_lut:=by
  refine F.ok sc_lut (fun vs H Q E h=>?_) (fun cdv A outer s H vs Q E hr h=>?_)
  · obtain ⟨a,ns,rfl,_⟩:=h
    rfl
  obtain ⟨a,ns,rfl,ha,hl,hb,q⟩:=h
  refine ⟨_,(@pss_one _ _ _ (ps_ret (pe_bm PySem.F.plainAttrs_str PySem.F.slot_str_join PySem.F.type_str_join mt_join pe_str (@pa_cons _ _ _ _ _ (pe_compG (N:=["_law_many"]) (ix:=[none]) (ifs:=[]) (tc:=tTrue) rfl (pi_tup (pv 0))
      (fun s H ex=>pg_c (i:=0) (by decide +kernel) rfl (Or.inl rfl) (.inr rfl)) (fun s H ex=>pifs_nil) (fun s H ex=>(pe_callTy call_str_int rfl B2.str boot_str (@pa_cons _ _ _ _ _ (pv 0) pa_nil (by rfl)))) rfl (by decide +kernel) (by rfl) (by rfl) (fun _=>rfl)) pa_nil (by rfl))))),?_⟩
  refine ⟨rfl,_,rfl,a,rfl,⟨_,.of ha⟩,?_⟩
  refine blk_tup (K:=K) (a:=a) (xs:=ns.map V.int) (sz (by rw [List.length_map];omega)) (fun i ys H2=>Same H H2/\ys=((ns.take i).map tx).map V.str/\ys.length=i)
    ⟨Same.refl _,rfl,rfl⟩ (fun i ys H2 h=>h.2.2) (fun i ys H2 _ h=>.of (h.1 _ _ ha)) rfl (fun i ys H2 v hv h=>?_) (fun ys H2 h=>?_)
  · obtain ⟨g2,hy,hyl⟩:=h
    rw [List.getElem?_map] at hv
    obtain ⟨x,hx,ex⟩:=Option.map_eq_some_iff.mp hv
    subst ex
    have hxb:=hb x (List.mem_of_getElem? hx)
    refine ⟨_,rfl,x,rfl,log_s hxb.1 (by omega),g2,?_,by rw [List.length_append,hyl];rfl⟩
    rw [hy,List.take_add_one,hx,List.map_append,List.map_append]
    rfl
  · obtain ⟨g2,hy,hyl⟩:=h
    rw [List.length_map,List.take_of_length_le (Nat.le_refl _)] at hy
    subst hy
    intro p hp
    have hsl:=sum_lensB (m:=2) (ys:=ns.map tx) fun y hy=>by
      obtain ⟨x,hx,e⟩:=List.mem_map.mp hy
      have:=hb x hx
      rw [<- e];exact (tx_ok this.1 (by omega)).2.2
    rw [List.length_map] at hsl
    have hc1:(Str.ofString ",").length=1:=by decide +kernel
    have hj:=len_joinW hc1 (ns.map tx)
    exact ⟨_,p,ns.map tx,rfl,rfl,.of upd_same,wt_fit hc1 (by omega),q _ _ (g2.trans (Same.new hp)) (by omega)⟩
def sp_lrt:Sp:=fun vs H Q _=>∃ (st:Addr) (v:V) (rs:List (List Int)) (n:Nat),vs=[v]/\Dt st H (DR rs) v/\Mt.Rul n 5 rs/\n <= 4/\∀ t H',Same H H'->t.length <= 52->Q (.str t) H'
abbrev s_lrt:Stmt:=top 40
theorem sc_lrt:FnScope ["_law_rule_here"] ["_law_rule_here"] (defScope s_lrt):=⟨rfl,rfl,rfl,by decide +kernel,rfl,by decide +kernel,by decide +kernel⟩
theorem ok_lrt (F:Fun K "_law_rule_text" "_law_rule_text" s_lrt f fd) (c1:Cal P w K mg base 1 "_law_urn_text" ["_law_urn_here"] sp_lut):FnOk P w K mg base CX0 2 f fd ["_law_rule_here"] sp_lrt:=by
  refine F.ok sc_lrt (fun vs H Q E h=>?_) (fun cdv A outer s H vs Q E hr h=>?_)
  · obtain ⟨st,v,rs,n,rfl,_⟩:=h
    rfl
  obtain ⟨st,v,rs,n,rfl,hd,hR,n4,q⟩:=h
  refine ⟨_,(@pss_one _ _ _ (ps_ret (pe_bm PySem.F.plainAttrs_str PySem.F.slot_str_join PySem.F.type_str_join mt_join pe_str (@pa_cons _ _ _ _ _ (pe_compG (N:=["_law_line"]) (ix:=[none]) (ifs:=[]) (tc:=tTrue) rfl (pi_tup (pv 0))
      (fun s H ex=>pg_c (i:=0) (by decide +kernel) rfl (Or.inl rfl) (.inr rfl)) (fun s H ex=>pifs_nil) (fun s H ex=>(pe_cal c1 hr rfl (@pa_cons _ _ _ _ _ (pv 0) pa_nil (by rfl)))) rfl (by decide +kernel) (by rfl) (by rfl) (fun _=>rfl)) pa_nil (by rfl))))),?_⟩
  have hl:=hR.len
  obtain ⟨ra,rxs,era,_,hra,hds⟩:=hd.untup
  subst era
  have hrl:=hds.len
  rw [List.length_map,hl] at hrl
  refine ⟨rfl,_,rfl,ra,rfl,⟨_,.of hra⟩,?_⟩
  refine blk_tup (K:=K) (a:=ra) (xs:=rxs) (sz (by omega)) (fun i ys H2=>Same H H2/\ys.length=i/\∃ zs:List Str,ys=zs.map V.str/\∀ z ∈ zs,z.length <= 12)
    ⟨Same.refl _,rfl,[],rfl,by simp⟩ (fun i ys H2 h=>h.2.1) (fun i ys H2 _ h=>.of (h.1 _ _ hra)) rfl (fun i ys H2 v hv h=>?_) (fun ys H2 h=>?_)
  · obtain ⟨g2,hyl,zs,hy,hz⟩:=h
    obtain ⟨d,hd',dt⟩:=hds.get hv
    rw [List.getElem?_map] at hd'
    obtain ⟨row,hrow,ed⟩:=Option.map_eq_some_iff.mp hd'
    subst ed
    obtain ⟨bb,eb,_,hbr⟩:=dt.di
    subst eb
    have hrw:=hR.row row (List.mem_of_getElem? hrow)
    refine ⟨_,rfl,bb,row,rfl,g2 _ _ hbr,by rw [hrw.len];omega,fun x hx=>?_,fun t H3 g3 ht=>⟨g2.trans g3,by rw [List.length_append,hyl];rfl,zs ++ [t],by rw [hy,List.map_append];rfl,fun z hm=>?_⟩⟩
    · have:=hrw.nn x hx
      omega
    · rcases List.mem_append.mp hm with e | e
      · exact hz z e
      · rw [List.mem_singleton.mp e];exact ht
  · obtain ⟨g2,hyl,zs,hy,hz⟩:=h
    subst hy
    intro p hp
    rw [List.length_map,<- hrl] at hyl
    have hsl:=sum_lensB hz
    rw [hyl] at hsl
    have h12:n * 12 + n <= 52:=by omega
    have hc1:(Str.ofString "/").length=1:=by decide +kernel
    have hj:=len_joinW hc1 zs
    exact ⟨_,p,zs,rfl,rfl,.of upd_same,wt_fit hc1 (by omega),q _ _ (g2.trans (Same.new hp)) (by omega)⟩
end
end G
namespace G
open PySem PySem.Spec PyProof.Rows L2 Mt
def DueOk (d:PyData):Prop:=(∃ ns,d=DI ns/\ns.length <= 1000) ∨ ∃ rs,d=DR rs/\rs.length <= 1000/\∀ z ∈ rs,z.length <= 1000
section
variable {P:Program} {w:World} {K:PySem.W.Frag} {mg:Str->Option Value} {base:Heap} {f:Addr} {fd:FuncData} {ec:Nat->Addr}
def Rgt (c:Nat->Addr) (spL:Sp) (H:Hp) (due:V):Prop :=
  (due=.non/\∀ Q' E',(∀ H1,Same H H1->E' (.ref (c 9)) none H1)->spL [] H Q' E') ∨
  ∃ (l:Addr) (d:PyData),DueOk d/\Dt l H d due/\∀ Q' E',(∀ p H1,Same H H1->Dt l H1 d (.ref p)->Q' (.ref p) H1)->spL [] H Q' E'
def sp_right (P:Program) (w:World) (K:PySem.W.Frag) (mg:Str->Option Value) (base:Heap) (k:Nat) (c:Nat->Addr):Sp:=fun vs H Q _=>∃ (fa:Addr) (due:V) (spL:Sp) (fo:Obj) (fd:FuncData),vs=[.ref fa,due]/\H fa=some (KN fo)/\fo.data=.func fd /\
  bindArgs fd ⟨[],[]⟩=pure []/\FnOk P w K mg base (CX1 P w) k fa fd [] spL/\Rgt c spL H due/\∀ H',Same H H'->Q (.bl true) H'
abbrev s_right:Stmt:=top 47
theorem sc_right:FnScope ["_law_call","_law_due"] ["_law_call","_law_due"] (defScope s_right):=⟨rfl,rfl,rfl,by decide +kernel,rfl,by decide +kernel,by decide +kernel⟩
theorem ok_right {c:Nat->Addr} {k:Nat} (FF:Fun K "_law_right" "_law_right" s_right f fd) (c1:Cal P w K mg base (k + 1) "_law_refused" ["_law_call"] (sp_refused P w K mg base k c))
    (c2:Cal P w K mg base (k + 1) "_law_same" ["_law_found","_law_due"] (sp_sameT A0)) (c3:Cal P w K mg base (k + 1) "_law_same" ["_law_found","_law_due"] (sp_sameT A1)):FnOk P w K mg base CX0 (k + 2) f fd ["_law_call","_law_due"] (sp_right P w K mg base k c):=by
  refine FF.ok sc_right (fun vs H Q E h=>?_) (fun cdv A outer s H vs Q E hr h=>?_)
  · obtain ⟨fa,due,spL,fo,fd,rfl,_⟩:=h
    rfl
  obtain ⟨fa,due,spL,fo,fd',rfl,kn,hfd,bnd,FL,hR,q⟩:=h
  have hr0:Room k (A.deeper (envOfC "_law_right" (defScope s_right) s.heap.objs.size f cdv)):=hr.mono (Nat.le_succ k)
  rcases hR with ⟨rfl,hsp⟩ | ⟨l,d,hd,dt,hsp⟩
  · refine ⟨_,pss_cons (ps_if (pt_cmp (pc_isN (pv 1))) (pss_one (ps_ret (pe_cmpR op_eq (pe_cal c1 hr rfl (pa_cons (pv 0) pa_nil)) pe_int (nomark _)))) pss_nil) pss_never,?_⟩
    refine ⟨_,rfl,_,rfl,iteT ?_⟩
    refine ⟨_,rfl,fa,spL,fo,fd',some 9,rfl,kn,hfd,bnd,FL,fun i e=>by cases e;decide,hsp,fun H1 g1=>⟨rfl,?_⟩⟩
    exact q H1 g1
  · obtain ⟨p0,hp0⟩:∃ p,due=.ref p:=by
      rcases hd with ⟨ns,rfl,_⟩ | ⟨rs,rfl,_⟩
      · obtain ⟨p,e,_⟩:=dt.di;exact ⟨p,e⟩
      · obtain ⟨p,_,e,_⟩:=dt.untup;exact ⟨p,e⟩
    subst hp0
    rcases hd with ⟨ns,rfl,hl⟩ | ⟨rs,rfl,hl,hz⟩
    · refine ⟨_,pss_cons (ps_if (pt_cmp (pc_isN (pv 1))) pss_never pss_nil) (pss_one (ps_ret (pe_cal c2 hr rfl (pa_cons (pe_callL (iC:=0) hr0 rfl (Or.inl rfl)) (pa_cons (pv 1) pa_nil))))),?_⟩
      refine ⟨_,rfl,_,rfl,iteF ?_⟩
      refine ⟨fa,spL,rfl,⟨fo,fd',kn,hfd,bnd,FL⟩,hsp _ _ fun p H1 g1 dp=>⟨_,rfl,?_⟩⟩
      exact A1_sp (E:=E0) ⟨l,ns,dp,dt.kp (g1.kp l),hl⟩ fun H2 g2=>q H2 (g1.trans g2)
    · refine ⟨_,pss_cons (ps_if (pt_cmp (pc_isN (pv 1))) pss_never pss_nil) (pss_one (ps_ret (pe_cal c3 hr rfl (pa_cons (pe_callL (iC:=0) hr0 rfl (Or.inl rfl)) (pa_cons (pv 1) pa_nil))))),?_⟩
      refine ⟨_,rfl,_,rfl,iteF ?_⟩
      refine ⟨fa,spL,rfl,⟨fo,fd',kn,hfd,bnd,FL⟩,hsp _ _ fun p H1 g1 dp=>⟨_,rfl,?_⟩⟩
      exact sameR (E:=E0) dp (dt.kp (g1.kp l)) hl hz fun H2 g2=>q H2 (g1.trans g2)
end
end G
namespace L2
open PySem PySem.Spec PyProof.Rows
section
variable {prog:Program} {w:World} {A:Around} {E:Value->Shared->Prop} {s:Shared}
theorem draw_list {it t:Addr} {items:Array Value} (hne:t ≠ it):∀ (n i:Nat) (s:Shared) (Q:List Value->Shared->Prop),s.heap.IsListIter it t i->s.heap.IsList t items->i + n <= items.size ->
    (∀ h',h'.IsListIter it t (i + n)->Heap.SameBut it s.heap h'->Q ((items.toList.drop i).take n) { s with heap:=h' })->wpAny (model prog w) A (draw (.ref it) n) Q E s
  | 0,i,s,Q,hit,_,_,hQ=>by
    show wpAny _ _ (pure []) Q E s
    exact wpAny_pure (by simpa using hQ s.heap hit (Heap.SameBut.refl ..))
  | n + 1,i,s,Q,hit,ht,hle,hQ=>by
    have hlt:i < items.size:=by omega
    show wpAny _ _ (pyNext (.ref it) >>= _) Q E s
    refine wpAny_bind (wpAny_pyNext_list_item hit ht (x:=items[i]) (by simp [hlt]) fun h₁ hit₁ hs₁=>?_)
    refine wpAny_bind (wpAny_holding (draw_list hne n (i + 1) _ _ hit₁ (ht.at fun o e=>hs₁.extBut _ _ hne e) (by omega) fun h₂ hit₂ hs₂=>wpAny_pure ?_))
    have hd:items.toList.drop i=items[i] :: items.toList.drop (i + 1):=by simp [List.drop_eq_getElem_cons,hlt]
    have:=hQ h₂ (by rw [show i + (n + 1)=i + 1 + n by omega];exact hit₂) (hs₁.trans hs₂)
    rw [hd,List.take_succ_cons] at this
    exact this
theorem unpackItems_list {t:Addr} {items:Array Value} {Q:List Value->Shared->Prop} (hh:A.handled=none) (ht:s.heap.IsList t items)
    (hQ:∀ h',Heap.ExtBut s.heap.objs.size s.heap h'->Q items.toList { s with heap:=h' }):wpAny (model prog w) A (unpackItems (.ref t) items.size none) Q E s:=by
  have hlt:t ≠ s.heap.objs.size:=by obtain ⟨o,ho,_⟩:=ht;exact Nat.ne_of_lt (Heap.lt_size ho)
  unfold unpackItems
  refine wpAny_bind ?_
  · unfold notIterableAtAll
    refine wpAny_bind (wpAny_specialOf ht.typeIs PySem.F.slot_list_iter.lookup ?_)
    refine wpAny_pure ?_
    simp only [Bool.false_eq_true,if_false]
    refine wpAny_bind (wpAny_holding (wpAny_pyIter_list ht ?_))
    refine wpAny_bind (wpAny_holding (draw_list hlt items.size 0 _ _ ⟨_,Heap.get?_push_size _ rfl,rfl,rfl⟩ (ht.push _) (by omega) fun h₁ hit₁ hs₁=>?_))
    have hall:List.take items.size (List.drop 0 items.toList)=items.toList:=by
      rw [List.drop_zero];exact List.take_of_length_le (by simp)
    rw [hall]
    rw [if_neg (by simp)]
    have ht₁:h₁.IsList t items:=(ht.push _).at fun o e=>hs₁.extBut _ _ hlt e
    refine wpAny_bind (wpAny_holding (wpAny_pyNext_list_end hh hit₁ ht₁ (by simp) fun h₂ he₂=>?_))
    simp only [Option.isSome_none,Bool.false_eq_true,if_false]
    refine wpAny_pure (hQ h₂ fun b o hb e=>he₂ b o hb (hs₁.extBut b o hb (Heap.get?_push_of_some _ e)))
end
section
variable {X:Cx} {pos:Pos}
def gLst (K:PySem.W.Frag) (n:Nat) (t:TGs):TG:=fun v σ H Q=>∃ a xs,v=.ref a/\SqL K H a xs/\xs.length=n/\t xs σ H Q
theorem pg_lst {es:List Expr} {k:Nat} {t:TGs} {n:Nat} (hc:X.calm=true) (h:PGs X es t)
    (hn:(assignEach es X.env).length=n:=by rfl) (hst:(assignEach es X.env).findIdx? (·.1)=none:=by rfl):PG X (.Tuple es k pos) (gLst X.K n t):=by
  intro pins s σ H v u Q I r hw
  obtain ⟨a,xs,e1,hq,hl,hw⟩:=hw
  subst e1
  cases r
  obtain ⟨its,rv,pl,hz⟩:=I.list hq
  have hsz:(assignEach es X.env).length=its.toArray.size:=by simp [hn,<- hl,rv.length]
  rw [arm_assign_Tuple]
  refine wpAny_bind (wpAny_standAt ?_)
  unfold unpack
  rw [hsz,hst]
  refine wpAny_bind (wpAny_holding (unpackItems_list (I.ok.hd hc) pl.isList fun h' hx=>?_))
  have I1:Inv X pins σ H { s with heap:=h' }:=I.kept (t':=s.toks) fun b o e=>hx b o (Nat.ne_of_lt (Heap.lt_size e)) e
  exact h pins _ σ H xs _ Q I1 (by simpa using rv) hw
end
end L2
namespace L2
open PySem PySem.Spec PyProof.Rows
theorem pe_cells {X:Cx} {e:Expr} {t:TE} (h:PE X e t):PE X e (fun σ H Q=>t σ H fun v H'=>(∀ b,Cel X.env.cells b->H' b=none)->Q v H'):=fun pins s σ H Q I q =>
  thn (h pins s σ H _ I q) fun u s' ⟨v,H',I',r,q'⟩=>⟨v,H',I',r,q' fun b ⟨y,e⟩=>I'.freeC y b e⟩
theorem same_on {cl:List (Str × Addr)} {H H':Hp} (h:∀ b,Cel cl b->H' b=none):Same H' (onC cl H H'):=fun b o e=>by
  rw [onC_out fun z=>by rw [h b z] at e;cases e]
  exact e
end L2
set_option maxHeartbeats 8000000
namespace G
open PySem PySem.Spec PyProof.Rows L2 Mt
mutual
theorem Dt_to {l T:Addr} {H:Hp} {ps:Array Value} (hT:H T=some (.tbl ps)):∀ {d:PyData} {v:V},Dt l H d v->Dt T H d v
  | .none,_,h=>by unfold Dt at h ⊢;exact h
  | .bool _,_,h=>by unfold Dt at h ⊢;exact h
  | .int _,_,h=>by unfold Dt at h ⊢;exact h
  | .str _,_,h=>by unfold Dt at h ⊢;exact h
  | .tuple ds,_,h=>by
    unfold Dt at h ⊢
    obtain ⟨a,xs,e,n,q,r⟩:=h
    exact ⟨a,xs,e,(fun z=>by rw [z,hT] at q;cases q),q,Dts_to hT r⟩
  | .list ds,_,h=>by
    unfold Dt at h ⊢
    obtain ⟨a,xs,e,n,q,r⟩:=h
    exact ⟨a,xs,e,(fun z=>by rw [z,hT] at q;cases q),q,Dts_to hT r⟩
  | .dict kvs,_,h=>by
    unfold Dt at h ⊢
    obtain ⟨z,a,e,n,q⟩:=h
    exact ⟨z,a,e,(fun z=>by rw [z,hT] at q;cases q),q⟩
theorem Dts_to {l T:Addr} {H:Hp} {ps:Array Value} (hT:H T=some (.tbl ps)):∀ {ds:List PyData} {xs:List V},Dts l H ds xs->Dts T H ds xs
  | [],_,h=>by unfold Dts at h ⊢;exact h
  | d :: ds,_,h=>by
    unfold Dts at h ⊢
    obtain ⟨x,r,e,q1,q2⟩:=h
    exact ⟨x,r,e,Dt_to hT q1,Dts_to hT q2⟩
end
theorem SqL_kp {K:PySem.W.Frag} {T a:Addr} {H H':Hp} {xs:List V} {ps:Array Value} (hT:H T=some (.tbl ps)) (k:Kp T H H') (h:SqL K H a xs):SqL K H' a xs:=by
  rcases h with (h | ⟨o,h⟩) | h
  · exact .inl (.inl (k _ _ (fun z=>by rw [z,hT] at h;cases h) h))
  · exact .inl (.inr ⟨o,k _ _ (fun z=>by rw [z,hT] at h;cases h) h⟩)
  · exact .inr h
abbrev lq:Str:=(("law":Str) ++ ".<locals>.") ++ "<lambda>"
mutual
theorem Dt_keep {l T:Addr} {H H':Hp} {ps:Array Value} (hT:H T=some (.tbl ps)) (k:Kp T H H'):∀ {d:PyData} {v:V},Dt l H d v->Dt l H' d v
  | .none,_,h=>by unfold Dt at h ⊢;exact h
  | .bool _,_,h=>by unfold Dt at h ⊢;exact h
  | .int _,_,h=>by unfold Dt at h ⊢;exact h
  | .str _,_,h=>by unfold Dt at h ⊢;exact h
  | .tuple ds,_,h=>by
    unfold Dt at h ⊢
    obtain ⟨a,xs,e,n,q,r⟩:=h
    exact ⟨a,xs,e,n,k _ _ (fun z=>by rw [z,hT] at q;cases q) q,Dts_keep hT k r⟩
  | .list ds,_,h=>by
    unfold Dt at h ⊢
    obtain ⟨a,xs,e,n,q,r⟩:=h
    exact ⟨a,xs,e,n,k _ _ (fun z=>by rw [z,hT] at q;cases q) q,Dts_keep hT k r⟩
  | .dict kvs,_,h=>by
    unfold Dt at h ⊢
    obtain ⟨z,a,e,n,q⟩:=h
    exact ⟨z,a,e,n,k _ _ (fun z=>by rw [z,hT] at q;cases q) q⟩
theorem Dts_keep {l T:Addr} {H H':Hp} {ps:Array Value} (hT:H T=some (.tbl ps)) (k:Kp T H H'):∀ {ds:List PyData} {xs:List V},Dts l H ds xs->Dts l H' ds xs
  | [],_,h=>by unfold Dts at h ⊢;exact h
  | d :: ds,_,h=>by
    unfold Dts at h ⊢
    obtain ⟨x,r,e,q1,q2⟩:=h
    exact ⟨x,r,e,Dt_keep hT k q1,Dts_keep hT k q2⟩
end
def LamAt (X:Cx) (params:Arguments) (body:Expr) (scope:Scope) (H:Hp) (f:Addr):Prop:=∃ c ctv,H f=some (KN (lamO X params body scope c ctv))/\CodeK (lamQ X) H c
section
variable {X:Cx} {params:Arguments} {body:Expr} {scope:Scope} {H H':Hp} {f0 T p:Addr}
theorem lam_out {σ:L2.St} {Hf:Hp} {N:List Str} {ix:List (Option Nat)} {k:Nat} {c:Nat->Addr} {Q:VK} {o:Option Nat}
    (Zc:Clo X) (fz:FrzX X σ H Hf) (hL:LamAt X params body scope H f0) (hfr:okFree scope X.env=true) (k1:scope.kind=.function) (k2:scope.isCoroutine=false) (k3:scope.isGenerator=false) (k4:∀ x ∈ scope.names,x.2 ≠ .cell) (hx:okIx scope X.N N ix=true) (hi:∀ i,o=some i->i < 10)
    (hba:∀ c0 ctv,bindArgs (PySem.W.kla_fn "<lambda>" (lamQ X) params body scope (closL X.env scope.names []) ((X.mg "__name__").getD .none) (.ref c0) ctv) ⟨[],[]⟩=pure [])
    (hrun:∀ (c0:Addr) (A':Around) (outer':List Env) (s':Shared) (E1:XK) (Q1:VK),Room k (A'.deeper (PySem.W.envX (lamQ X) scope s'.heap.objs.size f0 (.ref c0) (closL X.env scope.names [])))->Same H (offC (closL X.env scope.names []) Hf)->Out c (offC (closL X.env scope.names []) Hf) Q1 E1 o ->
      ∃ t,PE (cxLam X.prog X.w X.K X.mg X.base N (lamQ X) scope f0 (.ref c0) (closL X.env scope.names []) A' outer' s' (offC (closL X.env scope.names []) Hf) E1) body t/\t (pick ix σ) (offC (closL X.env scope.names []) Hf) Q1)
    (q:∀ H',Same Hf H'->Q (outV o) H'):sp_refused X.prog X.w X.K X.mg X.base (k + 1) c [.ref f0] Hf Q E0:=by
  obtain ⟨c0,ctv,hf0,oc,ovs,ot,hoc,hod1,hod2⟩:=hL
  refine ⟨f0,spLam X.prog X.w X.K X.mg X.base k f0 c0 _ _ _ _ _ _ _ _ N,_,_,o,rfl,fz.same _ _ hf0,rfl,hba c0 ctv,fnL (Zc.lsc hfr k1 k2 k3 k4) (fun _ _ _ _ h=>h),hi,fun Q' E' ho=>?_,q⟩
  refine ⟨rfl,fz.same _ _ hf0,⟨oc,ovs,ot,fz.same _ _ hoc,hod1,hod2⟩,Zc.celk hfr fz,_,Zc.st hfr fz hx,fun A' outer' s' hr'=>?_⟩
  refine hrun c0 A' outer' s' _ _ hr' (fz.inner Zc hfr) ?_
  cases o with
  | none=>exact fun v H'' g=>ho v _ (on_same g)
  | some i=>exact fun H'' g=>ho _ (on_same g)
end
section
variable {X:Cx} {params:Arguments} {body:Expr} {scope:Scope} {H H':Hp} {f0 T p:Addr}
theorem lam_rightN {σ:L2.St} {Hf:Hp} {N:List Str} {ix:List (Option Nat)} {k:Nat} {c:Nat->Addr} {Q:VK}
    (Zc:Clo X) (fz:FrzX X σ H Hf) (hL:LamAt X params body scope H f0) (hfr:okFree scope X.env=true) (k1:scope.kind=.function) (k2:scope.isCoroutine=false) (k3:scope.isGenerator=false) (k4:∀ x ∈ scope.names,x.2 ≠ .cell) (hx:okIx scope X.N N ix=true)
    (hba:∀ c0 ctv,bindArgs (PySem.W.kla_fn "<lambda>" (lamQ X) params body scope (closL X.env scope.names []) ((X.mg "__name__").getD .none) (.ref c0) ctv) ⟨[],[]⟩=pure [])
    (hrun:∀ (c0:Addr) (A':Around) (outer':List Env) (s':Shared) (E1:XK) (Q1:VK),Room k (A'.deeper (PySem.W.envX (lamQ X) scope s'.heap.objs.size f0 (.ref c0) (closL X.env scope.names [])))->Same H (offC (closL X.env scope.names []) Hf) ->
      (∀ H1,Same (offC (closL X.env scope.names []) Hf) H1->E1 (.ref (c 9)) none H1) ->
      ∃ t,PE (cxLam X.prog X.w X.K X.mg X.base N (lamQ X) scope f0 (.ref c0) (closL X.env scope.names []) A' outer' s' (offC (closL X.env scope.names []) Hf) E1) body t/\t (pick ix σ) (offC (closL X.env scope.names []) Hf) Q1)
    (q:∀ H',Same Hf H'->Q (.bl true) H'):sp_right X.prog X.w X.K X.mg X.base (k + 1) c [.ref f0,.non] Hf Q E0:=by
  obtain ⟨c0,ctv,hf0,oc,ovs,ot,hoc,hod1,hod2⟩:=hL
  refine ⟨f0,.non,spLam X.prog X.w X.K X.mg X.base k f0 c0 _ _ _ _ _ _ _ _ N,_,_,rfl,fz.same _ _ hf0,rfl,hba c0 ctv,fnL (Zc.lsc hfr k1 k2 k3 k4) (fun _ _ _ _ h=>h),?_,q⟩
  refine .inl ⟨rfl,fun Q' E' ho=>⟨rfl,fz.same _ _ hf0,⟨oc,ovs,ot,fz.same _ _ hoc,hod1,hod2⟩,Zc.celk hfr fz,_,Zc.st hfr fz hx,fun A' outer' s' hr'=>?_⟩⟩
  exact hrun c0 A' outer' s' _ _ hr' (fz.inner Zc hfr) (fun H1 g=>ho _ (on_same g))
theorem lam_rightV {σ:L2.St} {Hf:Hp} {N:List Str} {ix:List (Option Nat)} {k:Nat} {c:Nat->Addr} {Q:VK} {due:V} {l:Addr} {d:PyData}
    (Zc:Clo X) (fz:FrzX X σ H Hf) (hL:LamAt X params body scope H f0) (hfr:okFree scope X.env=true) (k1:scope.kind=.function) (k2:scope.isCoroutine=false) (k3:scope.isGenerator=false) (k4:∀ x ∈ scope.names,x.2 ≠ .cell) (hx:okIx scope X.N N ix=true)
    (hba:∀ c0 ctv,bindArgs (PySem.W.kla_fn "<lambda>" (lamQ X) params body scope (closL X.env scope.names []) ((X.mg "__name__").getD .none) (.ref c0) ctv) ⟨[],[]⟩=pure [])
    (hd:DueOk d) (dt:Dt l Hf d due)
    (hrun:∀ (c0:Addr) (A':Around) (outer':List Env) (s':Shared) (E1:XK) (Q1:VK),Room k (A'.deeper (PySem.W.envX (lamQ X) scope s'.heap.objs.size f0 (.ref c0) (closL X.env scope.names [])))->Same H (offC (closL X.env scope.names []) Hf) ->
      (∀ p H1,Same (offC (closL X.env scope.names []) Hf) H1->Dt l H1 d (.ref p)->(∀ b,Cel (closL X.env scope.names []) b->H1 b=none)->Q1 (.ref p) H1) ->
      ∃ t,PE (cxLam X.prog X.w X.K X.mg X.base N (lamQ X) scope f0 (.ref c0) (closL X.env scope.names []) A' outer' s' (offC (closL X.env scope.names []) Hf) E1) body t/\t (pick ix σ) (offC (closL X.env scope.names []) Hf) Q1)
    (q:∀ H',Same Hf H'->Q (.bl true) H'):sp_right X.prog X.w X.K X.mg X.base (k + 1) c [.ref f0,due] Hf Q E0:=by
  obtain ⟨c0,ctv,hf0,oc,ovs,ot,hoc,hod1,hod2⟩:=hL
  refine ⟨f0,due,spLam X.prog X.w X.K X.mg X.base k f0 c0 _ _ _ _ _ _ _ _ N,_,_,rfl,fz.same _ _ hf0,rfl,hba c0 ctv,fnL (Zc.lsc hfr k1 k2 k3 k4) (fun _ _ _ _ h=>h),?_,q⟩
  refine .inr ⟨l,d,hd,dt,fun Q' E' ho=>⟨rfl,fz.same _ _ hf0,⟨oc,ovs,ot,fz.same _ _ hoc,hod1,hod2⟩,Zc.celk hfr fz,_,Zc.st hfr fz hx,fun A' outer' s' hr'=>?_⟩⟩
  exact hrun c0 A' outer' s' _ _ hr' (fz.inner Zc hfr) (fun p H1 g d1 hc=>ho p _ (on_same g) (d1.kp ((same_on hc).kp l)))
end
end G
namespace G
open PySem PySem.Spec PyProof.Rows L2 Mt
structure Wd (K:PySem.W.Frag) (a:Addr) (scr:List Int) (l:Addr) (b:Bool) (T:Addr) (H:Hp):Prop where
  sq:SqL K H a (scr.map V.int)
  ct:CTab lq T H
  st:∃ x,H l=some (.lst [.int x,.bl b])/\StOk x b
section
variable {K:PySem.W.Frag} {a l T:Addr} {scr:List Int} {b:Bool} {H H':Hp}
theorem no_st {x:Int} {b:Bool} {ns:List Int} (h:[V.int x,V.bl b]=ns.map V.int):False:=by
  cases ns with
  | nil=>cases h
  | cons n ns =>
    cases ns with
    | nil=>cases h
    | cons m ns=>cases h
theorem Wd.same (h:Wd K a scr l b T H) (g:Same H H'):Wd K a scr l b T H':=by
  obtain ⟨sq,ct,x,st,ok⟩:=h
  refine ⟨?_,ct.same g,x,g _ _ st,ok⟩
  rcases sq with (h | ⟨o,h⟩) | h
  · exact .inl (.inl (g _ _ h))
  · exact .inl (.inr ⟨o,g _ _ h⟩)
  · exact .inr h
theorem Wd.sta (h:Wd K a scr l b T H) (g:Sta l b H H'):Wd K a scr l b T H':=by
  obtain ⟨sq,ct,x,st,ok⟩:=h
  refine ⟨?_,ct.kp st g.1,g.2⟩
  rcases sq with (h | ⟨o,h⟩) | h
  · exact .inl (.inl (g.1 _ _ (fun z=>no_st (by rw [z,st] at h;exact (HO.lst.inj (Option.some.inj h)))) h))
  · exact .inl (.inr ⟨o,g.1 _ _ (fun z=>by rw [z,st] at h;cases h) h⟩)
  · exact .inr h
theorem Wd.kpT (h:Wd K a scr l b T H) (k:Kp T H H') (c:CTab lq T H'):Wd K a scr l b T H':=by
  obtain ⟨sq,ct,x,st,ok⟩:=h
  obtain ⟨ps,hT,_⟩:=id ct
  exact ⟨SqL_kp hT k sq,c,x,k _ _ (fun z=>by rw [z,hT] at st;cases st) st,ok⟩
end
theorem next_nx {N:L2.St->Hp->Prop} {D:Ends} {σ:L2.St} {H:Hp} (h:N σ H):tNext { D with nx:=N } σ H:=h
theorem nx_in {N:L2.St->Hp->Prop} {D:Ends} {σ:L2.St} {H:Hp} (h:N σ H):({ D with nx:=N }:Ends).nx σ H:=h
theorem seq_joinU {t u:TS} {D:Ends} {σ:L2.St} {H:Hp} (R:L2.St->Hp->Prop) (h1:∀ N:L2.St->Hp->Prop,(∀ σ' Hx,R σ' Hx->N σ' Hx)->t { D with nx:=N } σ H) (h2:∀ σ' Hx,R σ' Hx->u D σ' Hx):tSeq t u D σ H:=h1 (u D) h2
theorem urT_len {t:Str} {ns:List Int} (h:urT t=some ns):ns.length <= t.length + 1:=by
  unfold urT at h
  cases h1:rdL 21 (Txt.split t ",") with
  | none=>rw [h1] at h;cases h
  | some ms =>
    rw [h1] at h
    dsimp only at h
    split at h
    · cases h
      have:=(rdL_some h1).2.1
      have:=split_len t
      omega
    · cases h
theorem ruT_len {n:Int} {t:Str} {rs:List (List Int)} (h:ruT n t=some rs) (hn:n <= 4):rs.length <= 1000/\∀ z ∈ rs,z.length <= 1000:=by
  have h2:=(ruT_is h).2
  have h3:(decide (((rs.map DI).length:Int)=n) && (rs.map DI).all (fun r=>wholesD 0 5 r && decide ((lenD r:Int)=n)))=true:=h2
  rw [Bool.and_eq_true] at h3
  have h4:=of_decide_eq_true h3.1
  rw [List.length_map] at h4
  refine ⟨by omega,fun z hz=>?_⟩
  have h5:=List.all_eq_true.mp h3.2 _ (List.mem_map_of_mem hz)
  rw [Bool.and_eq_true] at h5
  have h6:((lenD (DI z):Nat):Int)=n:=of_decide_eq_true h5.2
  have h7:lenD (DI z)=z.length:=List.length_map _
  omega
theorem code_same {q:Str} {H H':Hp} {c:Addr} (h:CodeK q H c) (g:Same H H'):CodeK q H' c:=by
  obtain ⟨oc,vs,t,h1,h2,h3⟩:=h
  exact ⟨oc,vs,t,g _ _ h1,h2,h3⟩
section
variable {P:Program} {w:World} {K:PySem.W.Frag} {mg:Str->Option Value} {base:Heap} {f:Addr} {fd:FuncData}
structure Cals (P:Program) (w:World) (K:PySem.W.Frag) (mg:Str->Option Value) (base:Heap) (c:Nat->Addr):Prop where
  state:Cal P w K mg base 10 "_law_state" ["_law_script","_law_k"] (sp_state K)
  take:Cal P w K mg base 10 "_law_take" ["_law_state_here","_law_many"] sp_take
  urn:Cal P w K mg base 10 "_law_urn" ["_law_state_here","_law_kinds"] sp_lurn
  rule:Cal P w K mg base 10 "_law_rule" ["_law_state_here","_law_kinds"] sp_lrule
  lut:Cal P w K mg base 10 "_law_urn_text" ["_law_urn_here"] sp_lut
  lrt:Cal P w K mg base 10 "_law_rule_text" ["_law_rule_here"] sp_lrt
  ud:Cal P w K mg base 10 "_law_urn_due" ["_law_text"] sp_ud
  rd:Cal P w K mg base 10 "_law_rule_due" ["_law_kinds","_law_text"] sp_rd
  bent:Cal P w K mg base 10 "_law_bent" ["_law_state_here","_law_text","_law_mark"] sp_lb
  ur8:CalX P w K mg base 7 "urn_read" ["text"] (sp_ur c)
  rr8:CalX P w K mg base 7 "rule_read" ["kinds","text"] (sp_rr c)
  right:Cal P w K mg base 10 "_law_right" ["_law_call","_law_due"] (sp_right P w K mg base 8 c)
  refused:Cal P w K mg base 10 "_law_refused" ["_law_call"] (sp_refused P w K mg base 8 c)
def spLaw (K:PySem.W.Frag) (T:Addr):Sp:=fun vs H Q _=>∃ (a:Addr) (ns:List Int),vs=[.ref a]/\SqL K H a (ns.map V.int)/\ns.length <= 63/\CTab lq T H/\∀ H',Q (.bl true) H'
abbrev s_law:Stmt:=top 48
theorem sc_law:FnScope ["_law_script","_law_k","_law_state_here","_law_kinds","_law_texts","_law_turn","_law_first","_law_second","_law_many","_law_odd","_law_bad"] ["_law_script"] (defScope s_law):=⟨rfl,rfl,rfl,by decide +kernel,rfl,by decide +kernel,by decide +kernel⟩
theorem ok_law {c:Nat->Addr} {T:Addr} (F:Fun K "law" "law" s_law f fd) (B:Bt mg) (C:Cals P w K mg base c) (hcode:∃ cc,fd.code=.ref cc/\PySem.W.codeHdIn K cc T=true) (hKb:K.In base) (hbm:base.BuiltinsAt mg T):FnOk P w K mg base CX0 11 f fd ["_law_script"] (spLaw K T):=by
  obtain ⟨cc,hcc,hcd⟩:=hcode
  refine F.okC sc_law (fun vs H Q E h=>?_) (fun cdv A outer s H vs Q E hcv hr h=>?_)
  · obtain ⟨a,ns,rfl,_⟩:=h
    rfl
  obtain ⟨a,scr,rfl,hS,h63,hCT,q⟩:=h
  have Z:∀ (X:Cx),X.env.code=cdv->X.base=base->X.mg=mg->LamX X T:=fun X e1 e2 e3=>⟨⟨cc,by rw [e1,<- hcv,hcc],by rw [e2];exact PySem.W.codeHd_of_K hKb hcd⟩,by rw [e2,e3];exact hbm⟩
  refine ⟨_,(@pss_cons _ _ _ _ _ (ps_for PassesOwn.never rfl (pi_range1 rfl B.range (@pa_cons _ _ _ _ _ (pe_callB (call_max2 rfl) rfl B.max boot_max (@pa_cons _ _ _ _ _ pe_int (@pa_cons _ _ _ _ _ (pe_callB (call_min2 rfl) rfl B.min boot_min (@pa_cons _ _ _ _ _ (pe_callB call_len_seq rfl B.len PySem.boot_len (@pa_cons _ _ _ _ _ (pv 0) pa_nil (by rfl))) (@pa_cons _ _ _ _ _ pe_int pa_nil (by rfl)) (by rfl))) pa_nil (by rfl)) (by rfl))) pa_nil (by rfl))) (pg_name (i:=1) sc_law.nd rfl (Or.inl rfl))
    (@pss_cons _ _ _ _ _ (@ps_set _ _ 2 _ _ _ _ sc_law.nd rfl (Or.inl rfl) (pe_cal C.state hr rfl (@pa_cons _ _ _ _ _ (pv 0) (@pa_cons _ _ _ _ _ (pv 1) pa_nil (by rfl)) (by rfl))) (by rfl) (by first | exact .inl rfl | exact .inr rfl))
    (@pss_cons _ _ _ _ _ (@ps_set _ _ 3 _ _ _ _ sc_law.nd rfl (Or.inr rfl) (@pe_op _ _ _ _ _ _ _ _ op_add pe_int (pe_cal C.take hr rfl (@pa_cons _ _ _ _ _ (pv 2) (@pa_cons _ _ _ _ _ pe_int pa_nil (by rfl)) (by rfl)))) (by rfl) (by first | exact .inl rfl | exact .inr rfl))
    (@pss_cons _ _ _ _ _ (@ps_set _ _ 4 _ _ _ _ sc_law.nd rfl (Or.inl rfl) (@pe_lst _ _ _ _ (@pa_cons _ _ _ _ _ (pe_cal C.lut hr rfl (@pa_cons _ _ _ _ _ (pe_cal C.urn hr rfl (@pa_cons _ _ _ _ _ (pv 2) (@pa_cons _ _ _ _ _ (pv 3) pa_nil (by rfl)) (by rfl))) pa_nil (by rfl))) (@pa_cons _ _ _ _ _ (pe_cal C.lrt hr rfl (@pa_cons _ _ _ _ _ (pe_cal C.rule hr rfl (@pa_cons _ _ _ _ _ (pv 2) (@pa_cons _ _ _ _ _ (pv 3) pa_nil (by rfl)) (by rfl))) pa_nil (by rfl))) pa_nil (by rfl)) (by rfl))) (by rfl) (by first | exact .inl rfl | exact .inr rfl))
    (@pss_cons _ _ _ _ _ (ps_for PassesOwn.never rfl (pi_range1 rfl B.range (@pa_cons _ _ _ _ _ pe_int pa_nil (by rfl))) (pg_name (i:=5) sc_law.nd rfl (Or.inl rfl))
    (@pss_cons _ _ _ _ _ (ps_asg (pv 4) (pg_lst rfl (pgs_cons (pg_name (i:=6) sc_law.nd rfl (Or.inr rfl)) (pgs_cons (pg_name (i:=7) sc_law.nd rfl (Or.inr rfl)) pgs_nil))))
    (@pss_cons _ _ _ _ _ (ps_if (pt_not (pt_val (pe_callR C.right hr rfl (@pa_cons _ _ _ _ _ (pe_lambda (Z _ rfl rfl rfl)) (@pa_cons _ _ _ _ _ (pe_cal C.ud hr rfl (@pa_cons _ _ _ _ _ (pv 6) pa_nil (by rfl))) pa_nil (by rfl)) (by rfl))))) (@pss_one _ _ _ (ps_ret pe_bl)) pss_nil)
    (@pss_cons _ _ _ _ _ (@ps_set _ _ 8 _ _ _ _ sc_law.nd rfl (Or.inr rfl) (@pe_ix _ _ _ _ _ _ _ ix_list (@pe_lst _ _ _ _ (@pa_cons _ _ _ _ _ (pv 3) (@pa_cons _ _ _ _ _ (pv 3) (@pa_cons _ _ _ _ _ (@pe_op _ _ _ _ _ _ _ _ op_add pe_int (pe_cal C.take hr rfl (@pa_cons _ _ _ _ _ (pv 2) (@pa_cons _ _ _ _ _ pe_int pa_nil (by rfl)) (by rfl)))) pa_nil (by rfl)) (by rfl)) (by rfl))) (pe_cal C.take hr rfl (@pa_cons _ _ _ _ _ (pv 2) (@pa_cons _ _ _ _ _ pe_int pa_nil (by rfl)) (by rfl))) (fun _ _=>rfl)) (by rfl) (by first | exact .inl rfl | exact .inr rfl))
    (@pss_cons _ _ _ _ _ (ps_if (pt_not (pt_val (pe_callR C.right hr rfl (@pa_cons _ _ _ _ _ (pe_lambda (Z _ rfl rfl rfl)) (@pa_cons _ _ _ _ _ (pe_cal C.rd hr rfl (@pa_cons _ _ _ _ _ (pv 8) (@pa_cons _ _ _ _ _ (pv 7) pa_nil (by rfl)) (by rfl))) pa_nil (by rfl)) (by rfl))))) (@pss_one _ _ _ (ps_ret pe_bl)) pss_nil)
    (@pss_one _ _ _ (@ps_set _ _ 4 _ _ _ _ sc_law.nd rfl (Or.inl rfl) (@pe_lst _ _ _ _ (@pa_cons _ _ _ _ _ (pe_cal C.bent hr rfl (@pa_cons _ _ _ _ _ (pv 2) (@pa_cons _ _ _ _ _ (pv 6) (@pa_cons _ _ _ _ _ pe_str pa_nil (by rfl)) (by rfl)) (by rfl))) (@pa_cons _ _ _ _ _ (pe_cal C.bent hr rfl (@pa_cons _ _ _ _ _ (pv 2) (@pa_cons _ _ _ _ _ (pv 7) (@pa_cons _ _ _ _ _ (@pe_ix _ _ _ _ _ _ _ ix_list (@pe_lst _ _ _ _ (@pa_cons _ _ _ _ _ pe_str (@pa_cons _ _ _ _ _ pe_str pa_nil (by rfl)) (by rfl))) (pe_cal C.take hr rfl (@pa_cons _ _ _ _ _ (pv 2) (@pa_cons _ _ _ _ _ pe_int pa_nil (by rfl)) (by rfl))) (fun _ _=>rfl)) pa_nil (by rfl)) (by rfl)) (by rfl))) pa_nil (by rfl)) (by rfl))) (by rfl) (by first | exact .inl rfl | exact .inr rfl))))))))
    (@pss_cons _ _ _ _ _ (@ps_set _ _ 9 _ _ _ _ sc_law.nd rfl (Or.inr rfl) (@pe_ix _ _ _ _ _ _ _ ix_list (@pe_lst _ _ _ _ (@pa_cons _ _ _ _ _ pe_non (@pa_cons _ _ _ _ _ pe_int (@pa_cons _ _ _ _ _ (@pe_tup _ _ _ _ _ (@pa_cons _ _ _ _ _ pe_int pa_nil (by rfl))) (@pa_cons _ _ _ _ _ (@pe_lst _ _ _ _ (@pa_cons _ _ _ _ _ pe_str pa_nil (by rfl))) (@pa_cons _ _ _ _ _ pe_bl (@pa_cons _ _ _ _ _ pe_dnewK (@pa_cons _ _ _ _ _ (@pe_tup _ _ _ _ _ pa_nil) pa_nil (by rfl)) (by rfl)) (by rfl)) (by rfl)) (by rfl)) (by rfl)) (by rfl))) (pe_cal C.take hr rfl (@pa_cons _ _ _ _ _ (pv 2) (@pa_cons _ _ _ _ _ pe_int pa_nil (by rfl)) (by rfl))) (fun _ _=>rfl)) (by rfl) (by first | exact .inl rfl | exact .inr rfl))
    (@pss_cons _ _ _ _ _ (@ps_set _ _ 10 _ _ _ _ sc_law.nd rfl (Or.inr rfl) (@pe_ix _ _ _ _ _ _ _ ix_list (@pe_lst _ _ _ _ (@pa_cons _ _ _ _ _ pe_int (@pa_cons _ _ _ _ _ pe_int (@pa_cons _ _ _ _ _ pe_bl (@pa_cons _ _ _ _ _ pe_non (@pa_cons _ _ _ _ _ pe_str (@pa_cons _ _ _ _ _ (@pe_tup _ _ _ _ _ (@pa_cons _ _ _ _ _ pe_int pa_nil (by rfl))) (@pa_cons _ _ _ _ _ (@pe_op _ _ _ _ _ _ _ _ op_pow pe_int pe_int) pa_nil (by rfl)) (by rfl)) (by rfl)) (by rfl)) (by rfl)) (by rfl)) (by rfl))) (pe_cal C.take hr rfl (@pa_cons _ _ _ _ _ (pv 2) (@pa_cons _ _ _ _ _ pe_int pa_nil (by rfl)) (by rfl))) (fun _ _=>rfl)) (by rfl) (by first | exact .inl rfl | exact .inr rfl))
    (@pss_cons _ _ _ _ _ (ps_if (@pt_cmpR _ _ _ _ _ _ _ _ op_ne (pe_callR C.refused hr rfl (@pa_cons _ _ _ _ _ (pe_lambda (Z _ rfl rfl rfl)) pa_nil (by rfl))) pe_int (nomark _)) (@pss_one _ _ _ (ps_ret pe_bl)) pss_nil)
    (@pss_cons _ _ _ _ _ (ps_if (@pt_cmpR _ _ _ _ _ _ _ _ op_ne (pe_callR C.refused hr rfl (@pa_cons _ _ _ _ _ (pe_lambda (Z _ rfl rfl rfl)) pa_nil (by rfl))) pe_int (nomark _)) (@pss_one _ _ _ (ps_ret pe_bl)) pss_nil)
    (@pss_one _ _ _ (ps_if (@pt_cmpR _ _ _ _ _ _ _ _ op_ne (pe_callR C.refused hr rfl (@pa_cons _ _ _ _ _ (pe_lambda (Z _ rfl rfl rfl)) pa_nil (by rfl))) pe_int (nomark _)) (@pss_one _ _ _ (ps_ret pe_bl)) pss_nil)))))))))))
    (@pss_one _ _ _ (ps_ret pe_bl))),?_⟩
  refine ⟨_,rfl,a,_,rfl,.inl hS,_,_,rfl,_,_,rfl,_,rfl,?_,?_,?_⟩
  · split <;> split <;> omega
  · rw [List.length_map];split <;> split <;> omega
  refine for_range (lo:=0) (fun i σ H2=>SqL K H2 a (scr.map V.int)/\CTab lq T H2/\∃ o1 o2 o3 o4 o5 o6 o7 o8 o9 o10,σ=[some (.ref a),o1,o2,o3,o4,o5,o6,o7,o8,o9,o10])
    ⟨hS,hCT,none,none,none,none,none,none,none,none,none,none,rfl⟩ (fun i σ H2 hi h=>?_) (fun σ H2 h=>q _)
  obtain ⟨hS2,hCT2,o1,o2,o3,o4,o5,o6,o7,o8,o9,o10,rfl⟩:=h
  have e0:(0:Int) + (i:Int)=(i:Int):=by omega
  rw [e0]
  refine ⟨_,rfl,_,rfl,a,scr,i,rfl,hS2,fun l x b hl hst=>?_⟩
  have W3:Wd K a scr l b T (upd H2 l (.lst [.int x,.bl b])):=by
    refine ⟨?_,hCT2.same (Same.new hl),x,upd_same,hst⟩
    rcases hS2 with (h | ⟨o,h⟩) | h
    · exact .inl (.inl (Same.new hl _ _ h))
    · exact .inl (.inr ⟨o,Same.new hl _ _ h⟩)
    · exact .inr h
  show tSeq _ _ _ _ (upd H2 l (.lst [.int x,.bl b]))
  generalize upd H2 l (.lst [.int x,.bl b])=H3 at W3
  clear hS2 hCT2 hl hst
  obtain ⟨x3,hx3,ok3⟩:=W3.st
  refine ⟨_,rfl,l,4,x3,b,rfl,hx3,ok3,by decide,by decide,fun y x1 hy ok1=>⟨_,_,rfl,rfl,?_⟩⟩
  have en:(1:Int) + (y:Int)=((1 + y:Nat):Int):=by omega
  try dsimp only
  rw [en]
  have n1:1 <= 1 + y:=by omega
  have n4:1 + y <= 4:=by omega
  generalize 1 + y=n at n1 n4
  have W4:=W3.sta ((Sta.start hx3 ok3).go ok1)
  generalize upd H3 l (.lst [.int x1,.bl b])=H4 at W4
  clear W3 hx3 ok3 ok1
  obtain ⟨x4,hx4,ok4⟩:=W4.st
  refine ⟨_,rfl,_,rfl,l,n,x4,b,rfl,hx4,ok4,n1,n4,fun ua H5 ns s5 hua hU=>?_⟩
  have W5:=W4.sta s5
  refine ⟨ua,ns,rfl,hua,by rw [hU.len];omega,hU.nn,fun t1 H6 g6 l1=>?_⟩
  have W6:=W5.same g6
  obtain ⟨x6,hx6,ok6⟩:=W6.st
  refine ⟨_,rfl,_,rfl,l,n,x6,b,rfl,hx6,ok6,n1,n4,fun rv H7 rs s7 hrd hR=>?_⟩
  have W7:=W6.sta s7
  refine ⟨l,rv,rs,n,rfl,hrd,hR,n4,fun t2 H8 g8 l2=>⟨by show 2 <= sizeLine;decide,fun pt hpt=>?_⟩⟩
  have W9:=(W7.same g8).same (Same.new (o:=.lst [.str t1,.str t2]) hpt)
  have hpt9:upd H8 pt (.lst [.str t1,.str t2]) pt=some (.lst [.str t1,.str t2]):=upd_same
  try dsimp -proj only
  generalize upd H8 pt (.lst [.str t1,.str t2])=H9 at W9 hpt9
  clear W4 W5 W6 W7 g6 g8 s5 s7 hua hrd hx4 hx6 ok4 ok6 hpt
  refine ⟨(3:Int),rfl,by decide,by decide,?_⟩
  rw [show (3:Int).toNat=3 from rfl]
  refine for_range (lo:=0) (fun j σ H2=>Wd K a scr l b T H2/\∃ (pt:Addr) (t1 t2:Str) (o5 o6 o7 o8 o9 o10:Option V),H2 pt=some (.lst [.str t1,.str t2])/\t1.length <= [52,161,488,1469].getD j 0/\t2.length <= [52,161,488,1469].getD j 0/\σ=[some (.ref a),some (.int i),some (.ref l),some (.int n),some (.ref pt),o5,o6,o7,o8,o9,o10])
    ⟨W9,pt,t1,t2,_,_,_,_,_,_,hpt9,by show _ <= 52;omega,by show _ <= 52;omega,rfl⟩ (fun j σ Ha hj h=>?_) (fun σ Ha h=>?_)
  · clear W9 hpt9 l1 l2
    obtain ⟨W,pt,t1,t2,p5,p6,p7,p8,p9,p10,hpt,l1,l2,rfl⟩:=h
    refine ⟨_,rfl,pt,_,rfl,.of hpt,rfl,_,_,rfl,_,_,rfl,rfl,?_⟩
    have b900:t1.length <= 900/\t2.length <= 900:=by
      have:j=0 ∨ j=1 ∨ j=2:=by omega
      rcases this with rfl | rfl | rfl
      · have l1':t1.length <= 52:=l1
        have l2':t2.length <= 52:=l2
        omega
      · have l1':t1.length <= 161:=l1
        have l2':t2.length <= 161:=l2
        omega
      · have l1':t1.length <= 488:=l1
        have l2':t2.length <= 488:=l2
        omega
    refine nx_in ?_
    refine seq_joinU (fun σ' Hu=>Wd K a scr l b T Hu/\σ'=[some (.ref a),some (.int i),some (.ref l),some (.int n),some (.ref pt),some (.int (0 + (j:Int))),some (.str t1),some (.str t2),p8,p9,p10]) (fun N hN=>?_) (fun σ' Hu h=>?_)
    · refine fun Zc=>⟨W.ct,fun f0 c0 ctv Hl hkl hCTl hfn hf0 hc0=>?_⟩
      have Wl:=W.kpT hkl hCTl
      refine ⟨_,rfl,t1,rfl,b900.1,fun hu H1 g1 Hf frz=>?_,fun ns hu p H1 g1 fr hp Hf frz=>?_⟩
      · refine lam_rightN (k:=7) (N:=["_law_first"]) (ix:=[some 6]) Zc frz ⟨c0,ctv,g1 _ _ hf0,code_same hc0 g1⟩ rfl rfl rfl rfl (by decide +kernel) rfl (fun _ _=>rfl) (fun c1 A' outer' s' E1 Q1 hr' hin hE=>⟨_,pe_calx C.ur8 hr' rfl passesL (pa_cons (pv 0) pa_nil),?_⟩) (fun Ho gO=>⟨_,rfl,iteF (next_nx (hN _ _ ⟨(Wl.same g1).same (frz.back gO),rfl⟩))⟩)
        exact ⟨_,rfl,0,.str t1,.str t1,rfl,by unfold Dt;rfl,(fun z=>by cases z),fun t e=>by
          cases e
          exact ⟨b900.1,fun _ H' g=>hE H' g,fun ns hs=>by rw [hu] at hs;cases hs⟩⟩
      · obtain ⟨xl,hxl,_⟩:=Wl.st
        have hl1:=g1 _ _ hxl
        have hlp:l ≠ p:=fr l _ hxl
        refine lam_rightV (k:=7) (N:=["_law_first"]) (ix:=[some 6]) (l:=l) (d:=DI ns) Zc frz ⟨c0,ctv,g1 _ _ hf0,code_same hc0 g1⟩ rfl rfl rfl rfl (by decide +kernel) rfl (fun _ _=>rfl) (.inl ⟨ns,rfl,by have:=urT_len hu;omega⟩) (Dt.mkI hlp.symm (frz.same _ _ hp)) (fun c1 A' outer' s' E1 Q1 hr' hin hE=>⟨_,pe_cells (pe_calx C.ur8 hr' rfl passesL (pa_cons (pv 0) pa_nil)),?_⟩) (fun Ho gO=>⟨_,rfl,iteF (next_nx (hN _ _ ⟨(Wl.same g1).same (frz.back gO),rfl⟩))⟩)
        refine ⟨_,rfl,0,.str t1,.str t1,rfl,by unfold Dt;rfl,(fun z=>by cases z),fun t e=>?_⟩
        cases e
        refine ⟨b900.1,fun hz=>absurd (hz.symm.trans hu) (by simp),fun ns' hs p' H' g fr' hp'=>?_⟩
        have hns:=Option.some.inj (hs.symm.trans hu)
        subst hns
        exact fun hce=>hE p' H' g (Dt.mkI (fr' l _ (hin _ _ hl1)).symm hp') hce
    obtain ⟨Wu,rfl⟩:=h
    clear W hpt
    obtain ⟨xa,hxa,oka⟩:=Wu.st
    refine ⟨_,rfl,_,rfl,_,rfl,l,4,xa,b,rfl,hxa,oka,by decide,by decide,fun y1 xb hy1 okb=>⟨_,_,rfl,rfl,by show 3 <= sizeLine;decide,fun pm hpm=>?_⟩⟩
    have Wb:=Wu.sta ((Sta.start hxa oka).go okb)
    have Wc:=Wb.same (Same.new (o:=.lst [.int n,.int n,.int (1 + (y1:Int))]) hpm)
    have hpmc:upd (upd Hu l (.lst [.int xb,.bl b])) pm (.lst [.int n,.int n,.int (1 + (y1:Int))]) pm=some (.lst [.int n,.int n,.int (1 + (y1:Int))]):=upd_same
    have npl:pm ≠ l:=fun z=>by obtain ⟨xz,hz,_⟩:=Wb.st;rw [z,hz] at hpm;cases hpm
    try dsimp -proj only
    generalize upd (upd Hu l (.lst [.int xb,.bl b])) pm (.lst [.int n,.int n,.int (1 + (y1:Int))])=Hc at Wc hpmc
    obtain ⟨xc,hxc,okc⟩:=Wc.st
    obtain ⟨hvm⟩:Nonempty (∀ y:Nat,(y:Int) < 3->∃ m:Int,[V.int n,V.int n,V.int (1 + (y1:Int))][y]?=some (.int m)/\1 <= m/\m <= 4):=⟨fun y hy=>by
      have:y=0 ∨ y=1 ∨ y=2:=by omega
      rcases this with rfl | rfl | rfl
      · exact ⟨_,rfl,by omega,by omega⟩
      · exact ⟨_,rfl,by omega,by omega⟩
      · exact ⟨_,rfl,by omega,by omega⟩⟩
    refine ⟨_,rfl,l,3,xc,b,rfl,hxc,okc,by decide,by decide,fun y2 xd hy2 okd=>?_⟩
    obtain ⟨m,hm,m1,m4⟩:=hvm y2 hy2
    have Wd':=Wc.sta ((Sta.start hxc okc).go okd)
    have hpmd:upd Hc l (.lst [.int xd,.bl b]) pm=some (.lst [.int n,.int n,.int (1 + (y1:Int))]):=by rw [upd_ne npl];exact hpmc
    try dsimp -proj only
    generalize upd Hc l (.lst [.int xd,.bl b])=Hd at Wd' hpmd
    refine ⟨pm,_,_,_,rfl,rfl,.of hpmd,atI_nat hm,?_⟩
    clear hvm hm hpmc hpmd Wc Wb Wu hxa oka okb hxc okc okd hpm
    refine nx_in ?_
    refine seq_joinU (fun σ' Hu=>Wd K a scr l b T Hu/\σ'=[some (.ref a),some (.int i),some (.ref l),some (.int n),some (.ref pt),some (.int (0 + (j:Int))),some (.str t1),some (.str t2),some (.int m),p9,p10]) (fun N hN=>?_) (fun σ' Hu h=>?_)
    · refine fun Zc=>⟨Wd'.ct,fun f0 c0 ctv Hl hkl hCTl hfn hf0 hc0=>?_⟩
      have Wl:=Wd'.kpT hkl hCTl
      obtain ⟨xl,hxl,_⟩:=Wl.st
      have hw4:wholeD 1 4 (.int m)=true:=by
        show (decide (1 <= m) && decide (m <= 4))=true
        rw [decide_eq_true m1,decide_eq_true m4];rfl
      refine ⟨_,rfl,_,rfl,l,_,m,t2,rfl,hxl,b900.2,fun hu H1 g1 Hf frz=>?_,fun rs hu p H1 g1 dt Hf frz=>?_⟩
      · have hl1:=g1 _ _ hxl
        refine lam_rightN (k:=7) (N:=["_law_many","_law_second"]) (ix:=[some 8,some 7]) Zc frz ⟨c0,ctv,g1 _ _ hf0,code_same hc0 g1⟩ rfl rfl rfl rfl (by decide +kernel) rfl (fun _ _=>rfl) (fun c1 A' outer' s' E1 Q1 hr' hin hE=>⟨_,pe_calx C.rr8 hr' rfl passesL (pa_cons (pv 0) (pa_cons (pv 1) pa_nil)),?_⟩) (fun Ho gO=>⟨_,rfl,iteF (next_nx (hN _ _ ⟨(Wl.same g1).same (frz.back gO),rfl⟩))⟩)
        refine ⟨_,rfl,_,rfl,l,_,.int m,.str t2,.int m,.str t2,rfl,hin _ _ hl1,Dt.int _ _ _,by unfold Dt;rfl,(fun z=>by rw [hw4] at z;cases z),fun k ek _ _=>⟨(fun z=>by cases z),fun t e=>?_⟩⟩
        cases ek
        cases e
        exact ⟨b900.2,fun _ H' g=>hE H' g,fun rs hs=>absurd (hs.symm.trans hu) (by simp)⟩
      · have hl1:=g1 _ _ hxl
        have hrl:=ruT_len hu m4
        refine lam_rightV (k:=7) (N:=["_law_many","_law_second"]) (ix:=[some 8,some 7]) (l:=l) (d:=DR rs) Zc frz ⟨c0,ctv,g1 _ _ hf0,code_same hc0 g1⟩ rfl rfl rfl rfl (by decide +kernel) rfl (fun _ _=>rfl) (.inr ⟨rs,rfl,hrl⟩) (dt.kp (frz.same.kp l)) (fun c1 A' outer' s' E1 Q1 hr' hin hE=>⟨_,pe_cells (pe_calx C.rr8 hr' rfl passesL (pa_cons (pv 0) (pa_cons (pv 1) pa_nil))),?_⟩) (fun Ho gO=>⟨_,rfl,iteF (next_nx (hN _ _ ⟨(Wl.same g1).same (frz.back gO),rfl⟩))⟩)
        refine ⟨_,rfl,_,rfl,l,_,.int m,.str t2,.int m,.str t2,rfl,hin _ _ hl1,Dt.int _ _ _,by unfold Dt;rfl,(fun z=>by rw [hw4] at z;cases z),fun k ek _ _=>⟨(fun z=>by cases z),fun t e=>?_⟩⟩
        cases ek
        cases e
        refine ⟨b900.2,fun hz=>absurd (hz.symm.trans hu) (by simp),fun rs' hs p' H' g dp=>?_⟩
        have hns:=Option.some.inj (hs.symm.trans hu)
        subst hns
        exact fun hce=>hE p' H' g dp hce
    obtain ⟨We,rfl⟩:=h
    clear Wd'
    obtain ⟨xe,hxe,oke⟩:=We.st
    refine ⟨_,rfl,_,rfl,l,t1,_,xe,b,rfl,hxe,oke,b900.1,by decide +kernel,fun t1' Hf sf lf=>⟨_,rfl,_,rfl,by show 2 <= sizeLine;decide,fun pc hpc=>?_⟩⟩
    have Wg:=(We.sta sf).same (Same.new (o:=.lst [.str (Str.ofString ","),.str (Str.ofString "/")]) hpc)
    have hpcg:upd Hf pc (.lst [.str (Str.ofString ","),.str (Str.ofString "/")]) pc=some (.lst [.str (Str.ofString ","),.str (Str.ofString "/")]):=upd_same
    have ncl:pc ≠ l:=fun z=>by obtain ⟨xz,hz,_⟩:=(We.sta sf).st;rw [z,hz] at hpc;cases hpc
    try dsimp -proj only
    generalize upd Hf pc (.lst [.str (Str.ofString ","),.str (Str.ofString "/")])=Hg at Wg hpcg
    obtain ⟨xg,hxg,okg⟩:=Wg.st
    refine ⟨_,rfl,l,2,xg,b,rfl,hxg,okg,by decide,by decide,fun y3 xh hy3 okh=>?_⟩
    have Wh:=Wg.sta ((Sta.start hxg okg).go okh)
    have hpch:upd Hg l (.lst [.int xh,.bl b]) pc=some (.lst [.str (Str.ofString ","),.str (Str.ofString "/")]):=by rw [upd_ne ncl];exact hpcg
    try dsimp -proj only
    generalize upd Hg l (.lst [.int xh,.bl b])=Hh at Wh hpch
    obtain ⟨mk,hmk,hm1⟩:∃ mk:Str,[V.str (Str.ofString ","),V.str (Str.ofString "/")][y3]?=some (.str mk)/\mk.length=1:=by
      have:y3=0 ∨ y3=1:=by omega
      rcases this with rfl | rfl
      · exact ⟨_,rfl,by decide +kernel⟩
      · exact ⟨_,rfl,by decide +kernel⟩
    obtain ⟨xi,hxi,oki⟩:=Wh.st
    refine ⟨pc,_,_,_,rfl,rfl,.of hpch,atI_nat hmk,l,t2,mk,xi,b,rfl,hxi,oki,b900.2,hm1,fun t2' Hi si li=>⟨by show 2 <= sizeLine;decide,fun pt' hpt'=>?_⟩⟩
    refine ⟨(Wh.sta si).same (Same.new hpt'),pt',t1',t2',_,_,_,_,_,_,upd_same,?_,?_,rfl⟩
    · have:j=0 ∨ j=1 ∨ j=2:=by omega
      rcases this with rfl | rfl | rfl
      · have l1':t1.length <= 52:=l1
        show _ <= 161
        omega
      · have l1':t1.length <= 161:=l1
        show _ <= 488
        omega
      · have l1':t1.length <= 488:=l1
        show _ <= 1469
        omega
    · have:j=0 ∨ j=1 ∨ j=2:=by omega
      rcases this with rfl | rfl | rfl
      · have l1':t2.length <= 52:=l2
        show _ <= 161
        omega
      · have l1':t2.length <= 161:=l2
        show _ <= 488
        omega
      · have l1':t2.length <= 488:=l2
        show _ <= 1469
        omega
  clear W9 hpt9 l1 l2
  obtain ⟨W,pt,t1,t2,p5,p6,p7,p8,p9,p10,-,-,-,rfl⟩:=h
  refine nx_in ?_
  have sz1:∀ k:Nat,k <= 10->k <= sizeLine:=fun k h=>Nat.le_trans h (by decide)
  obtain ⟨xw,hxw,okw⟩:=W.st
  refine ⟨sz1 1 (by decide),fun q1 hq1=>?_⟩
  have G1:Same Ha (upd Ha q1 (.tup [.int 1])):=Same.new hq1
  have f1:upd Ha q1 (.tup [.int 1]) q1=some (.tup ([1].map V.int)):=upd_same
  have n1':q1 ≠ l:=(ne_of_none hxw hq1).symm
  try dsimp -proj only
  generalize upd Ha q1 (.tup [.int 1])=A1 at G1 f1
  refine ⟨sz1 1 (by decide),fun q2 hq2=>?_⟩
  have G2:Same A1 (upd A1 q2 (.lst [.str (Str.ofString "1")])):=Same.new hq2
  have f2:upd A1 q2 (.lst [.str (Str.ofString "1")]) q2=some (.lst [.str (Str.ofString "1")]):=upd_same
  have n2':q2 ≠ l:=(ne_of_none (G1 _ _ hxw) hq2).symm
  try dsimp -proj only
  generalize upd A1 q2 (.lst [.str (Str.ofString "1")])=A2 at G2 f2
  refine fun q3 hq3=>?_
  have G3:Same A2 (upd A2 q3 (.dK [])):=Same.new hq3
  have f3:upd A2 q3 (.dK []) q3=some (.dK []):=upd_same
  have n3':q3 ≠ l:=(ne_of_none (G2 _ _ (G1 _ _ hxw)) hq3).symm
  try dsimp -proj only
  generalize upd A2 q3 (.dK [])=A3 at G3 f3
  refine ⟨sz1 0 (by decide),fun q4 hq4=>?_⟩
  have G4:Same A3 (upd A3 q4 (.tup [])):=Same.new hq4
  have f4:upd A3 q4 (.tup []) q4=some (.tup (([]:List Int).map V.int)):=upd_same
  have n4':q4 ≠ l:=(ne_of_none (G3 _ _ (G2 _ _ (G1 _ _ hxw))) hq4).symm
  try dsimp -proj only
  generalize upd A3 q4 (.tup [])=A4 at G4 f4
  refine ⟨sz1 7 (by decide),fun q5 hq5=>?_⟩
  have hod:∀ y:Nat,(y:Int) < 7->∃ (od:V) (d:PyData),[V.non,V.int 7,V.ref q1,V.ref q2,V.bl true,V.ref q3,V.ref q4][y]?=some od/\Dt l A4 d od/\isStrD d=false:=fun y hy=>by
    have:y=0 ∨ y=1 ∨ y=2 ∨ y=3 ∨ y=4 ∨ y=5 ∨ y=6:=by omega
    rcases this with rfl | rfl | rfl | rfl | rfl | rfl | rfl
    · exact ⟨_,_,rfl,Dt.non _ _,rfl⟩
    · exact ⟨_,_,rfl,Dt.int _ _ _,rfl⟩
    · exact ⟨_,_,rfl,Dt.mkI n1' (G4 _ _ (G3 _ _ (G2 _ _ f1))),rfl⟩
    · exact ⟨_,_,rfl,Dt.lst n2' (G4 _ _ (G3 _ _ f2)) (Dts.cons (Dt.str _ _ _) (Dts.nil _ _)),rfl⟩
    · exact ⟨_,_,rfl,Dt.bl _ _ _,rfl⟩
    · exact ⟨_,.dict [],rfl,by unfold Dt;exact ⟨q3,[],rfl,n3',G4 _ _ f3⟩,rfl⟩
    · exact ⟨_,_,rfl,Dt.mkI n4' f4,rfl⟩
  have W5:=((((W.same G1).same G2).same G3).same G4)
  generalize [V.non,V.int 7,V.ref q1,V.ref q2,V.bl true,V.ref q3,V.ref q4]=L at hod
  have G5:Same A4 (upd A4 q5 (.lst L)):=Same.new hq5
  have f5:upd A4 q5 (.lst L) q5=some (.lst L):=upd_same
  have n5':q5 ≠ l:=(ne_of_none (G4 _ _ (G3 _ _ (G2 _ _ (G1 _ _ hxw)))) hq5).symm
  try dsimp -proj only
  generalize upd A4 q5 (.lst L)=A5 at G5 f5
  have W6:=W5.same G5
  obtain ⟨x6,hx6,ok6⟩:=W6.st
  refine ⟨_,rfl,l,7,x6,b,rfl,hx6,ok6,by decide,by decide,fun y6 x7 hy6 ok7=>?_⟩
  obtain ⟨od,dod,hod1,hod2,hod3⟩:=hod y6 hy6
  have W7:=W6.sta ((Sta.start hx6 ok6).go ok7)
  have D7:Dt l (upd A5 l (.lst [.int x7,.bl b])) dod od:=(hod2.kp (G5.kp l)).kp Kp.at
  have f7:upd A5 l (.lst [.int x7,.bl b]) q5=some (.lst L):=by rw [upd_ne n5'];exact f5
  try dsimp -proj only
  generalize upd A5 l (.lst [.int x7,.bl b])=A7 at W7 D7 f7
  refine ⟨q5,_,_,_,rfl,rfl,.of f7,atI_nat hod1,?_⟩
  clear hod hod1 hod2 f1 f2 f3 f4 f5 f7 G1 G2 G3 G4 G5 W5 W6 hq1 hq2 hq3 hq4 hq5 n1' n2' n3' n4' n5' hx6 ok6 ok7 hxw okw W
  obtain ⟨xw,hxw,okw⟩:=W7.st
  refine ⟨sz1 1 (by decide),fun q1 hq1=>?_⟩
  have G1:Same A7 (upd A7 q1 (.tup [.int 1])):=Same.new hq1
  have f1:upd A7 q1 (.tup [.int 1]) q1=some (.tup ([1].map V.int)):=upd_same
  have n1':q1 ≠ l:=(ne_of_none hxw hq1).symm
  try dsimp -proj only
  generalize upd A7 q1 (.tup [.int 1])=A8 at G1 f1
  refine ⟨10,29,rfl,rfl,by unfold CPow;decide,sz1 7 (by decide),fun q5 hq5=>?_⟩
  have hbd:∀ y:Nat,(y:Int) < 7->∃ (bd:V) (d:PyData),[V.int 0,V.int 5,V.bl true,V.non,V.str (Str.ofString "1"),V.ref q1,V.int (10 ^ (29:Int).toNat)][y]?=some bd/\Dt l A8 d bd/\wholeD 1 4 d=false:=fun y hy=>by
    have:y=0 ∨ y=1 ∨ y=2 ∨ y=3 ∨ y=4 ∨ y=5 ∨ y=6:=by omega
    rcases this with rfl | rfl | rfl | rfl | rfl | rfl | rfl
    · exact ⟨_,_,rfl,Dt.int _ _ _,rfl⟩
    · exact ⟨_,_,rfl,Dt.int _ _ _,rfl⟩
    · exact ⟨_,_,rfl,Dt.bl _ _ _,rfl⟩
    · exact ⟨_,_,rfl,Dt.non _ _,rfl⟩
    · exact ⟨_,_,rfl,Dt.str _ _ _,rfl⟩
    · exact ⟨_,_,rfl,Dt.mkI n1' f1,rfl⟩
    · exact ⟨_,_,rfl,Dt.int _ _ _,by decide⟩
  have W8:=W7.same G1
  have D8:=D7.kp (G1.kp l)
  generalize [V.int 0,V.int 5,V.bl true,V.non,V.str (Str.ofString "1"),V.ref q1,V.int (10 ^ (29:Int).toNat)]=L2' at hbd
  have G5:Same A8 (upd A8 q5 (.lst L2')):=Same.new hq5
  have f5:upd A8 q5 (.lst L2') q5=some (.lst L2'):=upd_same
  have n5':q5 ≠ l:=(ne_of_none (G1 _ _ hxw) hq5).symm
  try dsimp -proj only
  generalize upd A8 q5 (.lst L2')=A9 at G5 f5
  have W9:=W8.same G5
  obtain ⟨x9,hx9,ok9⟩:=W9.st
  refine ⟨_,rfl,l,7,x9,b,rfl,hx9,ok9,by decide,by decide,fun y9 x10 hy9 ok10=>?_⟩
  obtain ⟨bd,dbd,hbd1,hbd2,hbd3⟩:=hbd y9 hy9
  have W10:=W9.sta ((Sta.start hx9 ok9).go ok10)
  have B10:Dt l (upd A9 l (.lst [.int x10,.bl b])) dbd bd:=(hbd2.kp (G5.kp l)).kp Kp.at
  have D10:Dt l (upd A9 l (.lst [.int x10,.bl b])) dod od:=(D8.kp (G5.kp l)).kp Kp.at
  have f10:upd A9 l (.lst [.int x10,.bl b]) q5=some (.lst L2'):=by rw [upd_ne n5'];exact f5
  try dsimp -proj only
  generalize upd A9 l (.lst [.int x10,.bl b])=A10 at W10 B10 D10 f10
  refine ⟨q5,_,_,_,rfl,rfl,.of f10,atI_nat hbd1,?_⟩
  clear hbd hbd1 hbd2 f1 f5 f10 G1 G5 W7 W8 W9 hq1 hq5 n1' n5' hx9 ok9 ok10 hxw okw D7 D8
  refine nx_in ?_
  obtain ⟨psA,hTA,_⟩:=id W10.ct
  refine fun Zc=>⟨W10.ct,fun f0 c0 ctv Hl hkl hCTl hfn hf0 hc0 Hf frz=>?_⟩
  refine lam_out (k:=7) (N:=["_law_odd"]) (ix:=[some 9]) (o:=some 9) Zc frz ⟨c0,ctv,hf0,hc0⟩ rfl rfl rfl rfl (by decide +kernel) rfl (fun i e=>by cases e;decide) (fun _ _=>rfl) (fun c1 A' outer' s' E1 Q1 hr' hin hE=>⟨_,pe_calx C.ur8 hr' rfl passesL (pa_cons (pv 0) pa_nil),?_⟩) (fun Ho gO=>⟨rfl,_,rfl,iteNS rfl (next_nx ?_)⟩)
  · exact ⟨_,rfl,l,dod,od,rfl,(Dt_keep hTA hkl D10).kp (hin.kp l),fun _ H' g=>hE H' g,fun t e=>by rw [e] at hod3;cases hod3⟩
  have W11:=(W10.kpT hkl hCTl).same (frz.back gO)
  have D11:=(Dt_keep hTA hkl D10).kp ((frz.back gO).kp l)
  have B11:=(Dt_keep hTA hkl B10).kp ((frz.back gO).kp l)
  try dsimp -proj only
  generalize offC _ Ho=A11 at W11 D11 B11
  clear frz gO hf0 hc0 hfn hkl hCTl hTA D10 B10 W10
  obtain ⟨psA,hTA,_⟩:=id W11.ct
  refine fun Zc=>⟨W11.ct,fun f0 c0 ctv Hl hkl hCTl hfn hf0 hc0 Hf frz=>?_⟩
  have Wl:=W11.kpT hkl hCTl
  obtain ⟨xl,hxl,_⟩:=Wl.st
  have hw4:wholeD 1 4 (.int (n:Int))=true:=by
    show (decide ((1:Int) <= n) && decide ((n:Int) <= 4))=true
    rw [decide_eq_true (show (1:Int) <= n by omega),decide_eq_true (show (n:Int) <= 4 by omega)];rfl
  refine lam_out (k:=7) (N:=["_law_kinds","_law_odd"]) (ix:=[some 3,some 9]) (o:=some 9) Zc frz ⟨c0,ctv,hf0,hc0⟩ rfl rfl rfl rfl (by decide +kernel) rfl (fun i e=>by cases e;decide) (fun _ _=>rfl) (fun c1 A' outer' s' E1 Q1 hr' hin hE=>⟨_,pe_calx C.rr8 hr' rfl passesL (pa_cons (pv 0) (pa_cons (pv 1) pa_nil)),?_⟩) (fun Ho gO=>⟨rfl,_,rfl,iteNS rfl (next_nx ?_)⟩)
  · exact ⟨_,rfl,_,rfl,l,_,.int n,dod,.int n,od,rfl,hin _ _ hxl,Dt.int _ _ _,(Dt_keep hTA hkl D11).kp (hin.kp l),(fun z=>by rw [hw4] at z;cases z),fun k ek _ _=>⟨fun _ H' g=>hE H' g,fun t e=>by rw [e] at hod3;cases hod3⟩⟩
  have W12:=Wl.same (frz.back gO)
  have D12:=(Dt_keep hTA hkl D11).kp ((frz.back gO).kp l)
  have B12:=(Dt_keep hTA hkl B11).kp ((frz.back gO).kp l)
  try dsimp -proj only
  generalize offC _ Ho=A12 at W12 D12 B12
  clear frz gO hf0 hc0 hfn hkl hCTl hTA D11 B11 W11 Wl hxl
  obtain ⟨psA,hTA,_⟩:=id W12.ct
  refine fun Zc=>⟨W12.ct,fun f0 c0 ctv Hl hkl hCTl hfn hf0 hc0 Hf frz=>?_⟩
  have Wl:=W12.kpT hkl hCTl
  obtain ⟨xl,hxl,_⟩:=Wl.st
  refine lam_out (k:=7) (N:=["_law_bad","_law_odd"]) (ix:=[some 10,some 9]) (o:=some 5) Zc frz ⟨c0,ctv,hf0,hc0⟩ rfl rfl rfl rfl (by decide +kernel) rfl (fun i e=>by cases e;decide) (fun _ _=>rfl) (fun c1 A' outer' s' E1 Q1 hr' hin hE=>⟨_,pe_calx C.rr8 hr' rfl passesL (pa_cons (pv 0) (pa_cons (pv 1) pa_nil)),?_⟩) (fun Ho gO=>⟨rfl,_,rfl,iteNS rfl ?_⟩)
  · refine ⟨_,rfl,_,rfl,l,_,dbd,dod,bd,od,rfl,hin _ _ hxl,(Dt_keep hTA hkl B12).kp (hin.kp l),(Dt_keep hTA hkl D12).kp (hin.kp l),fun _ H' g=>hE H' g,fun k ek k1 k4=>?_⟩
    exfalso
    rw [ek] at hbd3
    have:(decide (1 <= k) && decide (k <= 4))=false:=hbd3
    rw [decide_eq_true k1,decide_eq_true k4] at this
    cases this
  have W13:=Wl.same (frz.back gO)
  exact ⟨W13.sq,W13.ct,_,_,_,_,_,_,_,_,_,_,rfl⟩
end
end G
set_option maxHeartbeats 4000000
namespace G
open PySem PySem.Spec PyProof.Rows L2 Mt
def Has (K:PySem.W.Frag) (x:Str) (st:Stmt):Prop:=∃ (f:Addr) (oc:Value) (od:Option Addr) (kV doc pm:Value) (an:Option Addr) (cdv ct:Value) (sl:Array (Option Value)),
  PySem.W.nsIn K mainGlobals x=some (some (.ref f))/\K.lookup f=some ⟨oc,od,.func (PySem.W.fnOf x x (defArgs st) (defBody st) (defScope st) .none kV doc pm an cdv ct),sl⟩/\PySem.W.codeIn K cdv x=true/\PySem.W.keepIn K (.ref f)=true
theorem has_mk {K:PySem.W.Frag} {x:Str} {st:Stmt} {f:Addr} {oc:Value} {od:Option Addr} {kV doc pm:Value} {an:Option Addr} {cdv ct:Value} {sl:Array (Option Value)}
    (a:PySem.W.nsIn K mainGlobals x=some (some (.ref f))) (l:K.lookup f=some ⟨oc,od,.func (PySem.W.fnOf x x (defArgs st) (defBody st) (defScope st) .none kV doc pm an cdv ct),sl⟩) (c:PySem.W.codeIn K cdv x=true) (k:PySem.W.keepIn K (.ref f)=true):Has K x st :=
  ⟨f,oc,od,kV,doc,pm,an,cdv,ct,sl,a,l,c,k⟩
def HasC (K:PySem.W.Frag) (x:Str) (st:Stmt) (T:Addr):Prop:=∃ (f:Addr) (oc:Value) (od:Option Addr) (kV doc pm:Value) (an:Option Addr) (cc:Addr) (ct:Value) (sl:Array (Option Value)),
  PySem.W.nsIn K mainGlobals x=some (some (.ref f))/\K.lookup f=some ⟨oc,od,.func (PySem.W.fnOf x x (defArgs st) (defBody st) (defScope st) .none kV doc pm an (.ref cc) ct),sl⟩/\PySem.W.codeIn K (.ref cc) x=true/\PySem.W.keepIn K (.ref f)=true/\PySem.W.codeHdIn K cc T=true/\K.lookup T=none
theorem hasC_mk {K:PySem.W.Frag} {x:Str} {st:Stmt} {f T:Addr} {oc:Value} {od:Option Addr} {kV doc pm:Value} {an:Option Addr} {cc:Addr} {ct:Value} {sl:Array (Option Value)}
    (a:PySem.W.nsIn K mainGlobals x=some (some (.ref f))) (l:K.lookup f=some ⟨oc,od,.func (PySem.W.fnOf x x (defArgs st) (defBody st) (defScope st) .none kV doc pm an (.ref cc) ct),sl⟩) (c:PySem.W.codeIn K (.ref cc) x=true) (k:PySem.W.keepIn K (.ref f)=true) (t:PySem.W.codeHdIn K cc T=true) (n:K.lookup T=none):HasC K x st T :=
  ⟨f,oc,od,kV,doc,pm,an,cc,ct,sl,a,l,c,k,t,n⟩
theorem cal_mk {P:Program} {w:World} {K:PySem.W.Frag} {mg:Str->Option Value} {base h:Heap} {x:Str} {st:Stmt} {ps:List Str} {k:Nat} {sp:Sp} (X:K.In h) (G:h.Ns mainGlobals mg) (H:Has K x st)
    (hb:∀ (f:Addr) (fd:FuncData),Fun K x x st f fd->Binds K fd ps []) (ok:∀ (f:Addr) (fd:FuncData),Fun K x x st f fd->FnOk P w K mg base CX0 k f fd ps sp):Cal P w K mg base k x ps sp:=by
  obtain ⟨f,oc,od,kV,doc,pm,an,cdv,ct,sl,a,l,c,kp⟩:=H
  have F:=fun_mk (st:=st) l c kp
  exact ⟨f,_,PySem.W.mg_of X G a,kp,hb _ _ F,ok _ _ F⟩
theorem calx_mk {P:Program} {w:World} {K:PySem.W.Frag} {mg:Str->Option Value} {base h:Heap} {x:Str} {st:Stmt} {ps:List Str} {k:Nat} {sp:Sp} (X:K.In h) (G:h.Ns mainGlobals mg) (H:Has K x st)
    (hb:∀ (f:Addr) (fd:FuncData),Fun K x x st f fd->Binds K fd ps []) (ok:∀ (f:Addr) (fd:FuncData),Fun K x x st f fd->FnOk P w K mg base (CX1 P w) k f fd ps sp):CalX P w K mg base k x ps sp:=by
  obtain ⟨f,oc,od,kV,doc,pm,an,cdv,ct,sl,a,l,c,kp⟩:=H
  have F:=fun_mk (st:=st) l c kp
  exact ⟨f,_,PySem.W.mg_of X G a,kp,hb _ _ F,ok _ _ F⟩
def errA (K:PySem.W.Frag) (B:Addr):List Addr->Bool
  | []=>true
  | C :: cs=>PySem.W.excIn K C vE "ValueError.__new__" && PySem.W.findIn K (.ref C) "__getattribute__" == some (some (.builtin "BaseException.__getattribute__")) && PySem.W.findIn K (.ref C) "__getattr__" == some none && PySem.W.subIn K (.ref C) (.type "BaseException") == some true && (PySem.W.clsIn K C).isSome && PySem.W.findIn K (.ref C) "__class__" == some (some (.builtin "object.__class__")) &&
      PySem.W.mroIn K C (.type "object") == some true && PySem.W.kitCls K (.ref C) (.ref B) == some true && PySem.W.kitOne K (.ref C) (.type "ValueError") == some true && errA K B cs
def errB (K:PySem.W.Frag) (B:Addr):Bool:=PySem.W.specialIn K (.builtin "object.__class__") "__get__" == some (some (.builtin "getset_descriptor.__get__")) && PySem.W.takesIn K (.builtin "object.__class__") == some true && PySem.W.subIn K (.ref B) (.type "BaseException") == some true
def errC (K:PySem.W.Frag) (cs:List Addr):Bool:=(List.range 10).all fun i=>(List.range 10).all fun j=>PySem.W.kitOne K (.ref (cs.getD i 0)) (.ref (cs.getD j 0)) == some (decide (i=j))
theorem errA_get {K:PySem.W.Frag} {B:Addr}:∀ {cs:List Addr} {i:Nat},errA K B cs=true->i < cs.length->errA K B [cs.getD i 0]=true
  | C :: cs,0,h,_=>by
    unfold errA at h
    rw [Bool.and_eq_true] at h
    unfold errA
    rw [Bool.and_eq_true]
    exact ⟨h.1,rfl⟩
  | C :: cs,i + 1,h,hi=>by
    unfold errA at h
    rw [Bool.and_eq_true] at h
    have:=errA_get (cs:=cs) (i:=i) h.2 (by simpa using hi)
    simpa using this
theorem errs_mk {K:PySem.W.Frag} {h:Heap} {mg:Str->Option Value} {a0 a1 a2 a3 a4 a5 a6 a7 a8 a9 B:Addr} (X:K.In h) (G:h.Ns mainGlobals mg)
    (e0:PySem.W.nsIn K mainGlobals "NoUrn"=some (some (.ref a0))) (e1:PySem.W.nsIn K mainGlobals "NoRule"=some (some (.ref a1))) (e2:PySem.W.nsIn K mainGlobals "NoKind"=some (some (.ref a2))) (e3:PySem.W.nsIn K mainGlobals "NoBall"=some (some (.ref a3))) (e4:PySem.W.nsIn K mainGlobals "NoDraws"=some (some (.ref a4)))
    (e5:PySem.W.nsIn K mainGlobals "NoNumber"=some (some (.ref a5))) (e6:PySem.W.nsIn K mainGlobals "NotEven"=some (some (.ref a6))) (e7:PySem.W.nsIn K mainGlobals "NoCounts"=some (some (.ref a7))) (e8:PySem.W.nsIn K mainGlobals "NotAlike"=some (some (.ref a8))) (e9:PySem.W.nsIn K mainGlobals "BadNote"=some (some (.ref a9)))
    (eb:PySem.W.nsIn K mainGlobals "UrnError"=some (some (.ref B))) (hA:errA K B [a0,a1,a2,a3,a4,a5,a6,a7,a8,a9]=true) (hB:errB K B=true) (hC:errC K [a0,a1,a2,a3,a4,a5,a6,a7,a8,a9]=true) :
    Errs K mg (fun i=>[a0,a1,a2,a3,a4,a5,a6,a7,a8,a9].getD i 0) B:=by
  unfold errB at hB
  simp only [Bool.and_eq_true,beq_iff_eq] at hB
  obtain ⟨⟨b1,b2⟩,b3⟩:=hB
  have A:∀ i,i < 10->_:=fun i hi=>errA_get (i:=i) hA hi
  have A':∀ i,i < 10->((((((((PySem.W.excIn K ([a0,a1,a2,a3,a4,a5,a6,a7,a8,a9].getD i 0) vE "ValueError.__new__"=true/\PySem.W.findIn K (.ref ([a0,a1,a2,a3,a4,a5,a6,a7,a8,a9].getD i 0)) "__getattribute__"=some (some (.builtin "BaseException.__getattribute__")))/\PySem.W.findIn K (.ref ([a0,a1,a2,a3,a4,a5,a6,a7,a8,a9].getD i 0)) "__getattr__"=some none)/\PySem.W.subIn K (.ref ([a0,a1,a2,a3,a4,a5,a6,a7,a8,a9].getD i 0)) (.type "BaseException")=some true)/\(PySem.W.clsIn K ([a0,a1,a2,a3,a4,a5,a6,a7,a8,a9].getD i 0)).isSome=true) /\
      PySem.W.findIn K (.ref ([a0,a1,a2,a3,a4,a5,a6,a7,a8,a9].getD i 0)) "__class__"=some (some (.builtin "object.__class__")))/\PySem.W.mroIn K ([a0,a1,a2,a3,a4,a5,a6,a7,a8,a9].getD i 0) (.type "object")=some true)/\PySem.W.kitCls K (.ref ([a0,a1,a2,a3,a4,a5,a6,a7,a8,a9].getD i 0)) (.ref B)=some true) /\
      PySem.W.kitOne K (.ref ([a0,a1,a2,a3,a4,a5,a6,a7,a8,a9].getD i 0)) (.type "ValueError")=some true):=fun i hi=>by
    have z:=A i hi
    unfold errA at z
    rw [Bool.and_eq_true] at z
    have z1:=z.1
    simp only [Bool.and_eq_true,beq_iff_eq] at z1
    exact z1
  exact ⟨PySem.W.mg_of X G e0,PySem.W.mg_of X G e1,PySem.W.mg_of X G e2,PySem.W.mg_of X G e3,PySem.W.mg_of X G e4,PySem.W.mg_of X G e5,PySem.W.mg_of X G e6,PySem.W.mg_of X G e7,PySem.W.mg_of X G e8,PySem.W.mg_of X G e9,PySem.W.mg_of X G eb,
    fun i hi=>(A' i hi).1.1.1.1.1.1.1.1,fun i hi=>⟨(A' i hi).1.1.1.1.1.1.1.2,(A' i hi).1.1.1.1.1.1.2,(A' i hi).1.1.1.1.1.2,(A' i hi).1.1.1.1.2,(A' i hi).1.1.1.2,b1,b2,(A' i hi).1.1.2⟩,fun i hi=>(A' i hi).1.2,b3,
    fun i j hi hj=>by
      have z:=List.all_eq_true.mp (List.all_eq_true.mp hC i (List.mem_range.mpr hi)) j (List.mem_range.mpr hj)
      exact beq_iff_eq.mp z,fun i hi=>(A' i hi).2⟩
theorem all_mk {l:PySem.W.OpenLaw} {w:World} {K:PySem.W.Frag} {h:Heap} {mg:Str->Option Value} {fa T Bs:Addr} {c:Nat->Addr} (X:K.In h) (G:h.Ns mainGlobals mg) (hfa:mg "law"=some (.ref fa)) (R:Errs K mg c Bs)
    (h1:Has K "is_number" s_is_number) (h2:Has K "is_whole" s_is_whole) (h3:Has K "are_wholes" s_are_wholes) (h4:Has K "need_number" s_need_number) (h5:Has K "is_urn_up_to" s_is_urn_up_to) (h6:Has K "is_urn" s_is_urn) (h7:Has K "is_rule" s_is_rule) (h8:Has K "need_text" s_ntx) (h9:Has K "numbers_read" s_nr) (h10:Has K "urn_read" s_ur) (h11:Has K "rule_read" s_rr) (h12:Has K "_law_cell_at" s_cell_at) (h13:Has K "_law_state" s_state) (h14:Has K "_law_take" s_take) (h15:Has K "_law_refused" s_refused) (h16:Has K "_law_urn" s_lurn) (h17:Has K "_law_rule" s_lrule) (h18:Has K "_law_whole" s_whole) (h19:Has K "_law_is_urn" s_lis_urn) (h20:Has K "_law_is_rule" s_lis_rule) (h21:Has K "_law_line_due" s_ld) (h22:Has K "_law_urn_due" s_ud) (h23:Has K "_law_rule_due" s_rd) (h24:Has K "_law_bent" s_lb) (h25:Has K "_law_urn_text" s_lut) (h26:Has K "_law_rule_text" s_lrt) (h27:Has K "_law_same" s_same) (h28:Has K "_law_same" s_same) (h29:Has K "_law_same" s_same) (h30:Has K "_law_right" s_right)
    (hlaw:HasC K "law" s_law T)
    (z1:PySem.W.nsIn K mainGlobals "isinstance"=some none) (z2:PySem.W.nsIn K mainGlobals "bool"=some none) (z3:PySem.W.nsIn K mainGlobals "int"=some none) (z4:PySem.W.nsIn K mainGlobals "tuple"=some none) (z5:PySem.W.nsIn K mainGlobals "list"=some none) (z6:PySem.W.nsIn K mainGlobals "all"=some none) (z7:PySem.W.nsIn K mainGlobals "sum"=some none) (z8:PySem.W.nsIn K mainGlobals "len"=some none) (z9:PySem.W.nsIn K mainGlobals "range"=some none) (z10:PySem.W.nsIn K mainGlobals "max"=some none) (z11:PySem.W.nsIn K mainGlobals "min"=some none) (z12:PySem.W.nsIn K mainGlobals "abs"=some none) (z13:PySem.W.nsIn K mainGlobals "zip"=some none) (z14:PySem.W.nsIn K mainGlobals "str"=some none) (z15:PySem.W.nsIn K mainGlobals "dict"=some none) (zV:PySem.W.nsIn K mainGlobals "ValueError"=some none)
    {t1:Tok} (m1:PySem.W.nsIn K mainGlobals "MOST_KINDS"=some (some (.int 4 t1))) {t2:Tok} (m2:PySem.W.nsIn K mainGlobals "MOST_BALLS"=some (some (.int 20 t2))) {t3:Tok} (m3:PySem.W.nsIn K mainGlobals "MOST_PUT_IN"=some (some (.int 5 t3))) :
    ∃ fd:FuncData,(∀ (s:Shared) (v:Value),BindsTo s fd ⟨[v],[]⟩ [("_law_script",v)])/\(K.lookup T=none/\∃ cc,PySem.W.codeHdIn K cc T=true)/\∀ base:Heap,K.In base->base.Ns mainGlobals mg->base.BuiltinsAt mg T->FnOk l.prog w K mg base CX0 11 fa fd ["_law_script"] (spLaw K T):=by
  obtain ⟨f,oc,od,kV,doc,pm,an,cc,ct,sl,a,lk,c',kp,hcd,hTn⟩:=hlaw
  have e:=hfa.symm.trans (PySem.W.mg_of X G a)
  cases e
  have F:=fun_mk (st:=s_law) lk c' kp
  have B:Bt mg:=⟨PySem.W.mg_none_of X G z1,PySem.W.mg_none_of X G z2,PySem.W.mg_none_of X G z3,PySem.W.mg_none_of X G z4,PySem.W.mg_none_of X G z5,PySem.W.mg_none_of X G z6,PySem.W.mg_none_of X G z7,PySem.W.mg_none_of X G z8,PySem.W.mg_none_of X G z9,PySem.W.mg_none_of X G z10,PySem.W.mg_none_of X G z11,PySem.W.mg_none_of X G z12,PySem.W.mg_none_of X G z13⟩
  have B2:Bt2 mg:=⟨PySem.W.mg_none_of X G z14⟩
  have hDc:=PySem.W.mg_none_of X G z15
  have C:Ct mg:=⟨⟨_,PySem.W.mg_of X G m1⟩,⟨_,PySem.W.mg_of X G m2⟩,⟨_,PySem.W.mg_of X G m3⟩⟩
  have hVE:=PySem.W.mg_none_of X G zV
  refine ⟨PySem.W.fnOf "law" "law" (defArgs s_law) (defBody s_law) (defScope s_law) .none kV doc pm an (.ref cc) ct,fun s v=>.of_eq rfl,⟨hTn,cc,hcd⟩,fun base hKb _ hbm=>?_⟩
  have c_is_number:Cal l.prog w K mg base 0 "is_number" ["thing"] sp_is_number:=cal_mk X G h1 (fun f fd F=>F.binds (ps:=["thing"]) fun _ _ _ _ _ _ us hl=>match us,hl with | [_],_=>rfl) (fun f fd F=>ok_is_number F B)
  have c_is_whole:Cal l.prog w K mg base 1 "is_whole" ["thing","low","high"] sp_is_whole:=cal_mk X G h2 (fun f fd F=>F.binds (ps:=["thing","low","high"]) fun _ _ _ _ _ _ us hl=>match us,hl with | [_,_,_],_=>rfl) (fun f fd F=>ok_is_whole F c_is_number)
  have c_are_wholes:Cal l.prog w K mg base 2 "are_wholes" ["thing","low","high"] sp_are_wholes:=cal_mk X G h3 (fun f fd F=>F.binds (ps:=["thing","low","high"]) fun _ _ _ _ _ _ us hl=>match us,hl with | [_,_,_],_=>rfl) (fun f fd F=>ok_are_wholes F B c_is_whole)
  have c_need_number:CalX l.prog w K mg base 2 "need_number" ["thing","low","high"] (sp_need_number c):=calx_mk X G h4 (fun f fd F=>F.binds (ps:=["thing","low","high"]) fun _ _ _ _ _ _ us hl=>match us,hl with | [_,_,_],_=>rfl) (fun f fd F=>ok_need_number F R c_is_whole)
  have c_is_urn_up_to:Cal l.prog w K mg base 3 "is_urn_up_to" ["thing","most"] sp_is_urn_up_to:=cal_mk X G h5 (fun f fd F=>F.binds (ps:=["thing","most"]) fun _ _ _ _ _ _ us hl=>match us,hl with | [_,_],_=>rfl) (fun f fd F=>ok_is_urn_up_to F B C c_are_wholes)
  have c_is_urn:Cal l.prog w K mg base 4 "is_urn" ["thing"] sp_is_urn:=cal_mk X G h6 (fun f fd F=>F.binds (ps:=["thing"]) fun _ _ _ _ _ _ us hl=>match us,hl with | [_],_=>rfl) (fun f fd F=>ok_is_urn F C c_is_urn_up_to)
  have c_is_rule:CalX l.prog w K mg base 3 "is_rule" ["kinds","thing"] (sp_is_rule c):=calx_mk X G h7 (fun f fd F=>F.binds (ps:=["kinds","thing"]) fun _ _ _ _ _ _ us hl=>match us,hl with | [_,_],_=>rfl) (fun f fd F=>ok_is_rule F B C c_are_wholes c_need_number)
  have c_need_text:CalX l.prog w K mg base 1 "need_text" ["thing"] (sp_ntx c):=calx_mk X G h8 (fun f fd F=>F.binds (ps:=["thing"]) fun _ _ _ _ _ _ us hl=>match us,hl with | [_],_=>rfl) (fun f fd F=>ok_ntx F B B2 R)
  have c_numbers_read:Cal l.prog w K mg base 1 "numbers_read" ["text","most"] sp_nr:=cal_mk X G h9 (fun f fd F=>F.binds (ps:=["text","most"]) fun _ _ _ _ _ _ us hl=>match us,hl with | [_,_],_=>rfl) (fun f fd F=>ok_nr F B B2)
  have c_urn_read:CalX l.prog w K mg base 6 "urn_read" ["text"] (sp_ur c):=calx_mk X G h10 (fun f fd F=>F.binds (ps:=["text"]) fun _ _ _ _ _ _ us hl=>match us,hl with | [_],_=>rfl) (fun f fd F=>ok_ur F C R (c_need_text.up (by decide)) (c_numbers_read.up (by decide)) (c_is_urn.up (by decide)))
  have c_rule_read:CalX l.prog w K mg base 6 "rule_read" ["kinds","text"] (sp_rr c):=calx_mk X G h11 (fun f fd F=>F.binds (ps:=["kinds","text"]) fun _ _ _ _ _ _ us hl=>match us,hl with | [_,_],_=>rfl) (fun f fd F=>ok_rr F B C R (c_need_number.up (by decide)) (c_need_text.up (by decide)) (c_numbers_read.up (by decide)) (c_is_rule.up (by decide)))
  have c__law_cell_at:Cal l.prog w K mg base 1 "_law_cell_at" ["_law_script","_law_k"] (sp_cell_at K):=cal_mk X G h12 (fun f fd F=>F.binds (ps:=["_law_script","_law_k"]) fun _ _ _ _ _ _ us hl=>match us,hl with | [_,_],_=>rfl) (fun f fd F=>ok_cell_at F B)
  have c__law_state:Cal l.prog w K mg base 2 "_law_state" ["_law_script","_law_k"] (sp_state K):=cal_mk X G h13 (fun f fd F=>F.binds (ps:=["_law_script","_law_k"]) fun _ _ _ _ _ _ us hl=>match us,hl with | [_,_],_=>rfl) (fun f fd F=>ok_state F c__law_cell_at)
  have c__law_take:Cal l.prog w K mg base 1 "_law_take" ["_law_state_here","_law_many"] sp_take:=cal_mk X G h14 (fun f fd F=>F.binds (ps:=["_law_state_here","_law_many"]) fun _ _ _ _ _ _ us hl=>match us,hl with | [_,_],_=>rfl) (fun f fd F=>ok_take F )
  have c__law_refused:Cal l.prog w K mg base 9 "_law_refused" ["_law_call"] (sp_refused l.prog w K mg base 8 c):=cal_mk X G h15 (fun f fd F=>F.binds (ps:=["_law_call"]) fun _ _ _ _ _ _ us hl=>match us,hl with | [_],_=>rfl) (fun f fd F=>ok_refused F B R hVE)
  have c__law_urn:Cal l.prog w K mg base 2 "_law_urn" ["_law_state_here","_law_kinds"] sp_lurn:=cal_mk X G h16 (fun f fd F=>F.binds (ps:=["_law_state_here","_law_kinds"]) fun _ _ _ _ _ _ us hl=>match us,hl with | [_,_],_=>rfl) (fun f fd F=>ok_lurn F B c__law_take)
  have c__law_rule:Cal l.prog w K mg base 2 "_law_rule" ["_law_state_here","_law_kinds"] sp_lrule:=cal_mk X G h17 (fun f fd F=>F.binds (ps:=["_law_state_here","_law_kinds"]) fun _ _ _ _ _ _ us hl=>match us,hl with | [_,_],_=>rfl) (fun f fd F=>ok_lrule F B c__law_take)
  have c__law_whole:Cal l.prog w K mg base 1 "_law_whole" ["_law_thing","_law_least","_law_most"] sp_is_whole:=cal_mk X G h18 (fun f fd F=>F.binds (ps:=["_law_thing","_law_least","_law_most"]) fun _ _ _ _ _ _ us hl=>match us,hl with | [_,_,_],_=>rfl) (fun f fd F=>ok_whole F B)
  have c__law_is_urn:Cal l.prog w K mg base 2 "_law_is_urn" ["_law_thing"] sp_is_urn:=cal_mk X G h19 (fun f fd F=>F.binds (ps:=["_law_thing"]) fun _ _ _ _ _ _ us hl=>match us,hl with | [_],_=>rfl) (fun f fd F=>ok_lis_urn F B c__law_whole)
  have c__law_is_rule:Cal l.prog w K mg base 2 "_law_is_rule" ["_law_kinds","_law_thing"] sp_lis_rule:=cal_mk X G h20 (fun f fd F=>F.binds (ps:=["_law_kinds","_law_thing"]) fun _ _ _ _ _ _ us hl=>match us,hl with | [_,_],_=>rfl) (fun f fd F=>ok_lis_rule F B c__law_whole)
  have c__law_line_due:Cal l.prog w K mg base 1 "_law_line_due" ["_law_text"] sp_ld:=cal_mk X G h21 (fun f fd F=>F.binds (ps:=["_law_text"]) fun _ _ _ _ _ _ us hl=>match us,hl with | [_],_=>rfl) (fun f fd F=>ok_ld F B B2 hDc)
  have c__law_urn_due:Cal l.prog w K mg base 3 "_law_urn_due" ["_law_text"] sp_ud:=cal_mk X G h22 (fun f fd F=>F.binds (ps:=["_law_text"]) fun _ _ _ _ _ _ us hl=>match us,hl with | [_],_=>rfl) (fun f fd F=>ok_ud F (c__law_line_due.up (by decide)) c__law_is_urn)
  have c__law_rule_due:Cal l.prog w K mg base 3 "_law_rule_due" ["_law_kinds","_law_text"] sp_rd:=cal_mk X G h23 (fun f fd F=>F.binds (ps:=["_law_kinds","_law_text"]) fun _ _ _ _ _ _ us hl=>match us,hl with | [_,_],_=>rfl) (fun f fd F=>ok_rd F B (c__law_line_due.up (by decide)) c__law_is_rule)
  have c__law_bent:Cal l.prog w K mg base 2 "_law_bent" ["_law_state_here","_law_text","_law_mark"] sp_lb:=cal_mk X G h24 (fun f fd F=>F.binds (ps:=["_law_state_here","_law_text","_law_mark"]) fun _ _ _ _ _ _ us hl=>match us,hl with | [_,_,_],_=>rfl) (fun f fd F=>ok_lb F B c__law_take)
  have c__law_urn_text:Cal l.prog w K mg base 1 "_law_urn_text" ["_law_urn_here"] sp_lut:=cal_mk X G h25 (fun f fd F=>F.binds (ps:=["_law_urn_here"]) fun _ _ _ _ _ _ us hl=>match us,hl with | [_],_=>rfl) (fun f fd F=>ok_lut F B2)
  have c__law_rule_text:Cal l.prog w K mg base 2 "_law_rule_text" ["_law_rule_here"] sp_lrt:=cal_mk X G h26 (fun f fd F=>F.binds (ps:=["_law_rule_here"]) fun _ _ _ _ _ _ us hl=>match us,hl with | [_],_=>rfl) (fun f fd F=>ok_lrt F c__law_urn_text)
  have c__law_same:Cal l.prog w K mg base 1 "_law_same" ["_law_found","_law_due"] sp_same0:=cal_mk X G h27 (fun f fd F=>F.binds (ps:=["_law_found","_law_due"]) fun _ _ _ _ _ _ us hl=>match us,hl with | [_,_],_=>rfl) (fun f fd F=>ok_same0 F B)
  have c__law_same_0:=c__law_same
  have c__law_same:Cal l.prog w K mg base 2 "_law_same" ["_law_found","_law_due"] (sp_sameT A0):=cal_mk X G h28 (fun f fd F=>F.binds (ps:=["_law_found","_law_due"]) fun _ _ _ _ _ _ us hl=>match us,hl with | [_,_],_=>rfl) (fun f fd F=>ok_sameT F B c__law_same (fun _ _ _ _ _=>A0_sp))
  have c__law_same_1:=c__law_same
  have c__law_same:Cal l.prog w K mg base 3 "_law_same" ["_law_found","_law_due"] (sp_sameT A1):=cal_mk X G h29 (fun f fd F=>F.binds (ps:=["_law_found","_law_due"]) fun _ _ _ _ _ _ us hl=>match us,hl with | [_,_],_=>rfl) (fun f fd F=>ok_sameT F B c__law_same (fun _ _ _ _ _=>A1_sp))
  have c__law_right:Cal l.prog w K mg base 10 "_law_right" ["_law_call","_law_due"] (sp_right l.prog w K mg base 8 c):=cal_mk X G h30 (fun f fd F=>F.binds (ps:=["_law_call","_law_due"]) fun _ _ _ _ _ _ us hl=>match us,hl with | [_,_],_=>rfl) (fun f fd F=>ok_right F c__law_refused (c__law_same_1.up (by decide)) (c__law_same.up (by decide)))
  exact ok_law F B ⟨(c__law_state.up (by decide)),(c__law_take.up (by decide)),(c__law_urn.up (by decide)),(c__law_rule.up (by decide)),(c__law_urn_text.up (by decide)),(c__law_rule_text.up (by decide)),(c__law_urn_due.up (by decide)),(c__law_rule_due.up (by decide)),(c__law_bent.up (by decide)),(c_urn_read.up (by decide)),(c_rule_read.up (by decide)),c__law_right,(c__law_refused.up (by decide))⟩ ⟨cc,rfl,hcd⟩ hKb hbm
theorem walk {l:PySem.W.OpenLaw} {q:Program} {loose:List Str} {XP:(Str->Option Value)->Heap->Prop} {YP:World->Heap->Prop} {d:DefRec} {K:Params->PySem.W.Frag} {T:Addr} (hn:l.most=some 63) (hdf:d.params.defaults=[])
    (hY:∀ (w:World) (h:Heap),YP w h->(K w.params).In h) (hT:∀ (w:World) (h:Heap),YP w h->∀ t ∈ [T],h.get? t=some (PySem.W.tabObj #[]))
    (F:∀ (w:World) (mg:Str->Option Value) (fa:Addr) (h:Heap),(K w.params).In h->h.Ns mainGlobals mg->mg d.name=some (.ref fa) ->
      ∃ fd:FuncData,(∀ (s:Shared) (u:Value),BindsTo s fd ⟨[u],[]⟩ [("_law_script",u)])/\((K w.params).lookup T=none/\∃ c,PySem.W.codeHdIn (K w.params) c T=true)/\∀ base:Heap,(K w.params).In base->base.Ns mainGlobals mg->base.BuiltinsAt mg T->FnOk l.prog w (K w.params) mg base CX0 11 fa fd ["_law_script"] (spLaw (K w.params) T)) :
    PySem.W.WalkO q loose XP YP l.row.toRowW d [] (fun f vs=>PySem.call f vs) :=
  L2.walk_ofT (n:=63) (k:=11) (x:="_law_script") (ts:=[T]) (sp:=fun w=>spLaw (K w.params) T) hn (by decide) hdf ⟨rfl,by decide,by decide⟩ hY hT
    (fun w mg fa h kx ns hm=>by
      obtain ⟨fd,b1,b2,b3⟩:=F w mg fa h kx ns hm
      exact ⟨fd,b1,fun t ht=>by rw [List.mem_singleton.mp ht];exact b2,fun base k1 k2 k3=>b3 base k1 k2 (k3 T (List.mem_singleton.mpr rfl))⟩)
    (fun _ _ a ns hl hO hS=>⟨a,ns,rfl,hS,hl,⟨#[],hO.2 T (List.mem_singleton.mpr rfl),trivial,fun pos v e=>by cases e⟩,fun _=>rfl⟩)
end G
def PySem.Challenge.cw_growurns_k92_texts_that_write_none_holds.tw10140314944126319334 : Unit := ()
def PySem.Challenge.cw_growurns_k92_texts_that_write_none_holds.tw4457645096152825047 : Unit := ()
def PySem.Challenge.cw_growurns_k92_texts_that_write_none_holds.tw5859237867687918951 : Unit := ()
def PySem.Challenge.cw_growurns_k92_texts_that_write_none_holds.tw1068718871914932631 : Unit := ()
def PySem.Challenge.cw_growurns_k92_texts_that_write_none_holds.tw12597855612865058136 : Unit := ()
def PySem.Challenge.cw_growurns_k92_texts_that_write_none_holds.tw10702980273846578287 : Unit := ()
def PySem.Challenge.cw_growurns_k92_texts_that_write_none_holds.tw11335439625757564141 : Unit := ()
def PySem.Challenge.cw_growurns_k92_texts_that_write_none_holds.tw6800099417535712341 : Unit := ()
def PySem.Challenge.cw_growurns_k92_texts_that_write_none_holds.tw18435334278204617986 : Unit := ()
def PySem.Challenge.cw_growurns_k92_texts_that_write_none_holds.tw5629691606500802937 : Unit := ()
def PySem.Challenge.cw_growurns_k92_texts_that_write_none_holds.tw16194066306373919756 : Unit := ()
def PySem.Challenge.cw_growurns_k92_texts_that_write_none_holds.tw4487640406599808949 : Unit := ()
def PySem.Challenge.cw_growurns_k92_texts_that_write_none_holds.tw4446883214568327683 : Unit := ()
def PySem.Challenge.cw_growurns_k92_texts_that_write_none_holds.tw6083904824966043656 : Unit := ()
def PySem.Challenge.cw_growurns_k92_texts_that_write_none_holds.tw15154541288139569128 : Unit := ()
def PySem.Challenge.cw_growurns_k92_texts_that_write_none_holds.tw9749694595332211531 : Unit := ()
def PySem.Challenge.cw_growurns_k92_texts_that_write_none_holds.tw7006126171577350200 : Unit := ()
def PySem.Challenge.cw_growurns_k92_texts_that_write_none_holds.tw3674090832557169430 : Unit := ()
def PySem.Challenge.cw_growurns_k92_texts_that_write_none_holds.tw1965926658061214436 : Unit := ()
def PySem.Challenge.cw_growurns_k92_texts_that_write_none_holds.tw11458934538114868511 : Unit := ()
def PySem.Challenge.cw_growurns_k92_texts_that_write_none_holds.tw13579631072216906700 : Unit := ()
def PySem.Challenge.cw_growurns_k92_texts_that_write_none_holds.tw8320872504157537848 : Unit := ()
def PySem.Challenge.cw_growurns_k92_texts_that_write_none_holds.tw11802539646743237067 : Unit := ()
def PySem.Challenge.cw_growurns_k92_texts_that_write_none_holds.tw12129141814275481646 : Unit := ()
def PySem.Challenge.cw_growurns_k92_texts_that_write_none_holds.tw1923260030751039237 : Unit := ()
def PySem.Challenge.cw_growurns_k92_texts_that_write_none_holds.tw15688894191643057820 : Unit := ()
def PySem.Challenge.cw_growurns_k92_texts_that_write_none_holds.tw3212776606314344713 : Unit := ()
def PySem.Challenge.cw_growurns_k92_texts_that_write_none_holds.tw15836455375199912105 : Unit := ()
def PySem.Challenge.cw_growurns_k92_texts_that_write_none_holds.tw10944146230193753962 : Unit := ()
def PySem.Challenge.cw_growurns_k92_texts_that_write_none_holds.tw4936561908011398005 : Unit := ()
def PySem.Challenge.cw_growurns_k92_texts_that_write_none_holds.tw7192308450973774340 : Unit := ()
def PySem.Challenge.cw_growurns_k92_texts_that_write_none_holds.tw12186072510221780696 : Unit := ()
def PySem.Challenge.cw_growurns_k92_texts_that_write_none_holds.tw2164088415487514431 : Unit := ()
def PySem.Challenge.cw_growurns_k92_texts_that_write_none_holds.tw14312946281188629041 : Unit := ()
set_option Elab.async true
open PySem PySem.W PyProof.Rows
set_option maxRecDepth 100000 in
set_option maxHeartbeats 0 in
theorem PySem.Challenge.cw_growurns_k92_texts_that_write_none_holds : PySem.Challenge.rw_growurns_k92_texts_that_write_none.Holds := by
  w_on; o_law; k_head; (case hw => w_witness2)
  k_fill
  refine G.walk (l := PySem.Challenge.rw_growurns_k92_texts_that_write_none) rfl rfl (fun w h Y => PySem.W.km_in_of Y) (fun w h Y => PySem.W.km_tabs_of Y) ?F
  case F =>
    intro w mg fa h KX NS hmg
    refine' G.all_mk KX NS hmg (G.errs_mk KX NS ?e0 ?e1 ?e2 ?e3 ?e4 ?e5 ?e6 ?e7 ?e8 ?e9 ?eb ?eA ?eB ?eC) (G.has_mk ?a1 ?l1 ?c1 ?k1) (G.has_mk ?a2 ?l2 ?c2 ?k2) (G.has_mk ?a3 ?l3 ?c3 ?k3) (G.has_mk ?a4 ?l4 ?c4 ?k4) (G.has_mk ?a5 ?l5 ?c5 ?k5) (G.has_mk ?a6 ?l6 ?c6 ?k6) (G.has_mk ?a7 ?l7 ?c7 ?k7) (G.has_mk ?a8 ?l8 ?c8 ?k8) (G.has_mk ?a9 ?l9 ?c9 ?k9) (G.has_mk ?a10 ?l10 ?c10 ?k10) (G.has_mk ?a11 ?l11 ?c11 ?k11) (G.has_mk ?a12 ?l12 ?c12 ?k12) (G.has_mk ?a13 ?l13 ?c13 ?k13) (G.has_mk ?a14 ?l14 ?c14 ?k14) (G.has_mk ?a15 ?l15 ?c15 ?k15) (G.has_mk ?a16 ?l16 ?c16 ?k16) (G.has_mk ?a17 ?l17 ?c17 ?k17) (G.has_mk ?a18 ?l18 ?c18 ?k18) (G.has_mk ?a19 ?l19 ?c19 ?k19) (G.has_mk ?a20 ?l20 ?c20 ?k20) (G.has_mk ?a21 ?l21 ?c21 ?k21) (G.has_mk ?a22 ?l22 ?c22 ?k22) (G.has_mk ?a23 ?l23 ?c23 ?k23) (G.has_mk ?a24 ?l24 ?c24 ?k24) (G.has_mk ?a25 ?l25 ?c25 ?k25) (G.has_mk ?a26 ?l26 ?c26 ?k26) (G.has_mk ?a27 ?l27 ?c27 ?k27) (G.has_mk ?a28 ?l28 ?c28 ?k28) (G.has_mk ?a29 ?l29 ?c29 ?k29) (G.has_mk ?a30 ?l30 ?c30 ?k30) (G.hasC_mk ?la ?ll ?lc ?lk ?lt ?ln) ?z1 ?z2 ?z3 ?z4 ?z5 ?z6 ?z7 ?z8 ?z9 ?z10 ?z11 ?z12 ?z13 ?z14 ?z15 ?zV ?m1 ?m2 ?m3
    (case e0 => k_is); (case e1 => k_is); (case e2 => k_is); (case e3 => k_is); (case e4 => k_is); (case e5 => k_is); (case e6 => k_is); (case e7 => k_is); (case e8 => k_is); (case e9 => k_is); (case eb => k_is)
    (case eA => kernel_rfl)
    (case eB => kernel_rfl)
    (case eC => kernel_rfl)
    (case a1 => k_is); (case l1 => k_is); (case c1 => k_is); (case k1 => k_is)
    (case a2 => k_is); (case l2 => k_is); (case c2 => k_is); (case k2 => k_is)
    (case a3 => k_is); (case l3 => k_is); (case c3 => k_is); (case k3 => k_is)
    (case a4 => k_is); (case l4 => k_is); (case c4 => k_is); (case k4 => k_is)
    (case a5 => k_is); (case l5 => k_is); (case c5 => k_is); (case k5 => k_is)
    (case a6 => k_is); (case l6 => k_is); (case c6 => k_is); (case k6 => k_is)
    (case a7 => k_is); (case l7 => k_is); (case c7 => k_is); (case k7 => k_is)
    (case a8 => k_is); (case l8 => k_is); (case c8 => k_is); (case k8 => k_is)
    (case a9 => k_is); (case l9 => k_is); (case c9 => k_is); (case k9 => k_is)
    (case a10 => k_is); (case l10 => k_is); (case c10 => k_is); (case k10 => k_is)
    (case a11 => k_is); (case l11 => k_is); (case c11 => k_is); (case k11 => k_is)
    (case a12 => k_is); (case l12 => k_is); (case c12 => k_is); (case k12 => k_is)
    (case a13 => k_is); (case l13 => k_is); (case c13 => k_is); (case k13 => k_is)
    (case a14 => k_is); (case l14 => k_is); (case c14 => k_is); (case k14 => k_is)
    (case a15 => k_is); (case l15 => k_is); (case c15 => k_is); (case k15 => k_is)
    (case a16 => k_is); (case l16 => k_is); (case c16 => k_is); (case k16 => k_is)
    (case a17 => k_is); (case l17 => k_is); (case c17 => k_is); (case k17 => k_is)
    (case a18 => k_is); (case l18 => k_is); (case c18 => k_is); (case k18 => k_is)
    (case a19 => k_is); (case l19 => k_is); (case c19 => k_is); (case k19 => k_is)
    (case a20 => k_is); (case l20 => k_is); (case c20 => k_is); (case k20 => k_is)
    (case a21 => k_is); (case l21 => k_is); (case c21 => k_is); (case k21 => k_is)
    (case a22 => k_is); (case l22 => k_is); (case c22 => k_is); (case k22 => k_is)
    (case a23 => k_is); (case l23 => k_is); (case c23 => k_is); (case k23 => k_is)
    (case a24 => k_is); (case l24 => k_is); (case c24 => k_is); (case k24 => k_is)
    (case a25 => k_is); (case l25 => k_is); (case c25 => k_is); (case k25 => k_is)
    (case a26 => k_is); (case l26 => k_is); (case c26 => k_is); (case k26 => k_is)
    (case a27 => k_is); (case l27 => k_is); (case c27 => k_is); (case k27 => k_is)
    (case a28 => k_is); (case l28 => k_is); (case c28 => k_is); (case k28 => k_is)
    (case a29 => k_is); (case l29 => k_is); (case c29 => k_is); (case k29 => k_is)
    (case a30 => k_is); (case l30 => k_is); (case c30 => k_is); (case k30 => k_is)
    (case la => k_is); (case ll => k_is); (case lc => k_is); (case lk => k_is); (case lt => kernel_rfl); (case ln => kernel_rfl)
    (case z1 => k_is); (case z2 => k_is); (case z3 => k_is); (case z4 => k_is); (case z5 => k_is); (case z6 => k_is); (case z7 => k_is); (case z8 => k_is); (case z9 => k_is); (case z10 => k_is); (case z11 => k_is); (case z12 => k_is); (case z13 => k_is); (case z14 => k_is); (case z15 => k_is); (case zV => k_is)
    (case m1 => k_is); (case m2 => k_is); (case m3 => k_is)
#print axioms PySem.Challenge.cw_growurns_k92_texts_that_write_none_holds
