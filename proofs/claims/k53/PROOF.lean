import PyProof.Rows.All
import Wide.All
import OpenK.AllK
import Wide.FinOn
import Lean
import PyProof.EqAt
import PyProof.EqKinds
import PyProof.TupleCall
import KE.KIsAll
import KE.KLam
import KE.KTryDeep
import PyProof.ExcAttrAll.ValueError
import KE.KSortTup
import KE.KItemsList
import KE.KDictList
import PySem.Challenge.RW_growurns_k53_whole_simple_urns
set_option Elab.async false
set_option linter.all false
set_option maxRecDepth 100000
namespace L2
open PySem PySem.Spec PyProof.Rows
abbrev Key:=Sum Int Str
def keyIs:Key->Value->Bool
  | .inl k,v=>Value.isInt k v
  | .inr x,v=>Value.isStrOf x v
def keyH (w:World):Key->Int
  | .inl k=>hashInt k
  | .inr x=>hashStr w x
theorem keyIs_shape:∀ {k:Key} {v:Value},keyIs k v=true->(∃ i t,k=Sum.inl i/\v=Value.int i t) ∨ (∃ x t,k=Sum.inr x/\v=Value.str x t)
  | .inl i,v,h=>by
    obtain ⟨t,e⟩:=Value.isInt_shape (k:=i) (v:=v) h
    exact .inl ⟨i,t,rfl,e⟩
  | .inr x,v,h=>by
    obtain ⟨t,e⟩:=Value.isStrOf_shape (x:=x) (v:=v) h
    exact .inr ⟨x,t,rfl,e⟩
theorem keyIs_int (i:Int) (t:Tok):keyIs (.inl i) (.int i t)=true:=by simp [keyIs,Value.isInt]
theorem keyIs_str (x:Str) (t:Tok):keyIs (.inr x) (.str x t)=true:=by simp [keyIs,Value.isStrOf]
theorem key_ll (a b:Int):decide ((Sum.inl a:Key)=Sum.inl b)=(a == b):=by
  by_cases e:a=b
  · subst e;simp
  · have h:¬ (Sum.inl a:Key)=Sum.inl b:=fun q=>e (Sum.inl.inj q)
    rw [decide_eq_false h]
    exact (beq_eq_false_iff_ne.mpr e).symm
theorem key_rr (a b:Str):decide ((Sum.inr a:Key)=Sum.inr b)=decide (a=b):=by
  by_cases e:a=b
  · subst e;simp
  · have h:¬ (Sum.inr a:Key)=Sum.inr b:=fun q=>e (Sum.inr.inj q)
    rw [decide_eq_false h,decide_eq_false e]
theorem key_lr (a:Int) (b:Str):decide ((Sum.inl a:Key)=Sum.inr b)=false:=decide_eq_false (fun q=>nomatch q)
theorem key_rl (a:Str) (b:Int):decide ((Sum.inr a:Key)=Sum.inl b)=false:=decide_eq_false (fun q=>nomatch q)
def mixKind (prog:Program) (w:World):PySem.KeyKind prog w Key where
  is:=keyIs
  hash:=keyH w
  inj:=fun v a b ha hb=>by
    rcases keyIs_shape ha with ⟨i,t,rfl,rfl⟩ | ⟨x,t,rfl,rfl⟩
    · rcases keyIs_shape hb with ⟨j,u,rfl,e⟩ | ⟨y,u,rfl,e⟩
      · injection e with e1 _;rw [e1]
      · exact nomatch e
    · rcases keyIs_shape hb with ⟨j,u,rfl,e⟩ | ⟨y,u,rfl,e⟩
      · exact nomatch e
      · injection e with e1 _;rw [e1]
  byValue:=fun k v h=>by
    rcases keyIs_shape h with ⟨i,t,rfl,rfl⟩ | ⟨x,t,rfl,rfl⟩ <;> rfl
  pyHash:=fun hv h=>by
    rcases keyIs_shape hv with ⟨i,t,rfl,rfl⟩ | ⟨x,t,rfl,rfl⟩
    · exact wpAny_pyHash_int h
    · exact wpAny_pyHash_str h
  eqBool:=fun hu hv h=>by
    rcases keyIs_shape hu with ⟨i,t,rfl,rfl⟩ | ⟨x,t,rfl,rfl⟩
    · rcases keyIs_shape hv with ⟨j,u,rfl,rfl⟩ | ⟨y,u,rfl,rfl⟩
      · rw [key_ll] at h;exact wpAny_eqBool_int h
      · rw [key_lr] at h;exact SeqAt.EqAt.int_str i t y u _ _ _ _ h
    · rcases keyIs_shape hv with ⟨j,u,rfl,rfl⟩ | ⟨y,u,rfl,rfl⟩
      · rw [key_rl] at h;exact SeqAt.EqAt.str_int x t j u _ _ _ _ h
      · rw [key_rr] at h;exact wpAny_eqBool_str h
  «strs»:=fun k x t v h=>by
    rcases keyIs_shape h with ⟨i,u,rfl,e⟩ | ⟨y,u,rfl,e⟩
    · exact nomatch e
    · injection e with e1 _
      subst e1
      cases v <;> rfl
theorem mixKind_int (prog:Program) (w:World) (i:Int) (t:Tok):(mixKind prog w).is (.inl i) (.int i t)=true:=keyIs_int i t
theorem mixKind_str (prog:Program) (w:World) (x:Str) (t:Tok):(mixKind prog w).is (.inr x) (.str x t)=true:=keyIs_str x t
end L2
namespace L2
open PySem PySem.Spec PyProof.Rows
inductive V where
  | non | bl (b:Bool) | int (i:Int) | str (x:Str) | byt (b:Array UInt8) | flt (b:UInt64) | ref (a:Addr) | ty (n:String)
  deriving DecidableEq
def RelV:V->Value->Prop
  | .non,u=>u=Value.none
  | .bl b,u=>u=Value.bool b
  | .int i,u=>∃ t,u=Value.int i t
  | .str x,u=>∃ t,u=Value.str x t
  | .byt b,u=>∃ t,u=Value.bytes b t
  | .flt b,u=>∃ t,u=Value.float b t
  | .ref a,u=>u=Value.ref a
  | .ty n,u=>u=Value.type n
abbrev Vals:List V->List Value->Prop:=Paired RelV
theorem Vals.length {xs:List V} {us:List Value} (r:Vals xs us):xs.length=us.length:=Paired.length r
theorem Vals.get:∀ {xs:List V} {us:List Value} {i:Nat} {x:V},Vals xs us->xs[i]?=some x->∃ u,us[i]?=some u/\RelV x u
  | _,_,_,_,.nil,e=>by simp at e
  | _,_,0,_,.cons r _,e=>by simp at e;subst e;exact ⟨_,rfl,r⟩
  | _,_,i + 1,x,.cons _ t,e=>by
    obtain ⟨u,h1,h2⟩:=Vals.get (i:=i) (x:=x) t (by simpa using e)
    exact ⟨u,by simpa using h1,h2⟩
theorem Vals.set {x:V} {u:Value} (r:RelV x u):∀ {xs:List V} {us:List Value} (i:Nat),Vals xs us->Vals (xs.set i x) (us.set i u)
  | _,_,_,.nil=>.nil
  | _,_,0,.cons _ t=>.cons r t
  | _,_,i + 1,.cons q t=>.cons q (Vals.set r i t)
theorem Vals.append:∀ {xs ys:List V} {us ws:List Value},Vals xs us->Vals ys ws->Vals (xs ++ ys) (us ++ ws)
  | _,_,_,_,.nil,s=>s
  | _,_,_,_,.cons r t,s=>.cons r (Vals.append t s)
theorem Vals.take:∀ {xs:List V} {us:List Value} (n:Nat),Vals xs us->Vals (xs.take n) (us.take n)
  | _,_,0,_=>.nil
  | _,_,_ + 1,.nil=>.nil
  | _,_,n + 1,.cons r t=>.cons r (Vals.take n t)
theorem Vals.drop:∀ {xs:List V} {us:List Value} (n:Nat),Vals xs us->Vals (xs.drop n) (us.drop n)
  | _,_,0,r=>r
  | _,_,_ + 1,.nil=>.nil
  | _,_,n + 1,.cons _ t=>Vals.drop n t
def RelO:Option V->Option Value->Prop
  | some v,some u=>RelV v u
  | none,none=>True
  | _,_=>False
def KV {κ:Type}:List (κ × V)->List (κ × Value)->Prop:=Paired fun (p:κ × V) (q:κ × Value)=>p.1=q.1/\RelV p.2 q.2
def kV:Key->V
  | .inl i=>.int i
  | .inr x=>.str x
inductive HO where
  | lst (xs:List V)
  | tup (xs:List V)
  | dK (kvs:List (Key × V)) | dT (kvs:List (List Key × V))
  | set (S:Int->Bool) (n:Nat)
  | ins (C dx:Addr) (fs:List (Str × V))
  | own (x:Addr)
  | xd (fs:List (Str × V))
  | met (f x:Addr)
  | rng (lo hi:Int)
  | frz (o:Obj) (u:HO)
  | tbl (ps:Array Value)
  | ext (φ:Heap->Prop)
abbrev Hp:=Addr->Option HO
def upd (H:Hp) (a:Addr) (o:HO):Hp:=fun b=>if b=a then some o else H b
theorem upd_same {H:Hp} {a:Addr} {o:HO}:upd H a o a=some o:=by unfold upd;rw [if_pos rfl]
theorem upd_ne {H:Hp} {a b:Addr} {o:HO} (h:b ≠ a):upd H a o b=H b:=by unfold upd;rw [if_neg h]
theorem ne_of {H:Hp} {a b:Addr} {o u:HO} (h:H a=some o) (h':H b=some u) (d:o ≠ u):a ≠ b:=by
  intro e;subst e;rw [h] at h';exact d (Option.some.inj h')
theorem ne_of_none {H:Hp} {a b:Addr} {o:HO} (h:H a=some o) (h':H b=none):a ≠ b:=by
  intro e;subst e;rw [h] at h';cases h'
section
variable (P:Program) (w:World)
def ObjOk (H:Hp) (h:Heap) (a:Addr):HO->Prop
  | .lst xs=>xs.length <= sizeLine/\∃ (its:List Value) (n:Nat),Vals xs its/\h.get? a=some { cls:=.type "list",data:=.seq its.toArray n }
  | .tup xs=>xs.length <= sizeLine/\∃ its:List Value,Vals xs its/\IsTup h a its.toArray
  | .dK kvs=>kvs.length <= sizeLine/\(a == sysModules)=false/\∃ vs,KV kvs vs/\h.DictOf (mixKind P w) a vs
  | .dT kvs=>kvs.length <= sizeLine/\(a == sysModules)=false/\∃ xs:List (List Key × Addr × Value),
      Paired (fun (p:List Key × V) (q:List Key × Addr × Value)=>p.1=q.1/\H q.2.1=some (.tup (p.1.map kV))/\RelV p.2 q.2.2) kvs xs /\
      ∃ o es ep,h.get? a=some o/\o.ExactDict/\o.data=.dict es ep/\es.toList=xs.map (entryOfKey (tupleKind (mixKind P w)))/\(xs.map (·.1)).Nodup
  | .set S n=>h.SetOf (intKind P w) a S n
  | .ins C dx fs=>H dx=some (.own a)/\fs.length <= 1000/\dx ≠ a/\h.get? a=some (PySem.W.instObj C dx) /\
      ∃ mA,h.Ns1 dx mA/\(∀ f,RelO (fs.lookup f) (mA f))/\PySem.Within mA (fs.map (·.1))
  | .own _=>∃ o,h.get? a=some o
  | .xd fs=>∃ mA,h.Ns1 a mA/\∀ f,RelO (fs.lookup f) (mA f)
  | .rng lo hi=>∃ t u v,h.get? a=some { cls:=.type "range",data:=.fields #[.int lo t,.int hi u,.int 1 v] }
  | .frz o u=>h.get? a=some o/\ObjOk H h a u
  | .tbl ps=>h.get? a=some { cls:=.none,data:=.fields ps }
  | .met f x=>h.get? a=some (PySem.W.methodObj (.ref f) (.ref x))
  | .ext φ=>φ h/\(∃ o,h.get? a=some o)/\∀ h1 h2:Heap,φ h1->(∀ o,h1.get? a=some o->h2.get? a=some o)->φ h2
def HOk (H:Hp) (h:Heap):Prop:=∀ a o,H a=some o->ObjOk P w H h a o
end
section
variable {P:Program} {w:World} {H H':Hp} {h h':Heap} {a:Addr} {o:HO}
theorem ObjOk.lt (x:ObjOk P w H h a o):a < h.objs.size:=by
  cases o with
  | lst xs=>obtain ⟨_,_,_,_,e⟩:=x;exact Heap.lt_size e
  | tup xs=>obtain ⟨_,_,_,p⟩:=x;exact p.lt
  | dK kvs=>obtain ⟨_,_,_,_,o,_,_,e,_⟩:=x;exact Heap.lt_size e
  | dT kvs=>obtain ⟨_,_,_,_,o,_,_,e,_⟩:=x;exact Heap.lt_size e
  | set S n=>obtain ⟨o,_,_,_,e,_⟩:=x;exact Heap.lt_size e
  | ins C dx fs=>obtain ⟨_,_,_,e,_⟩:=x;exact Heap.lt_size e
  | own y=>obtain ⟨_,e⟩:=x;exact Heap.lt_size e
  | xd fs=>obtain ⟨_,⟨_,_,_,e,_⟩,_⟩:=x;exact Heap.lt_size e
  | rng lo hi=>obtain ⟨_,_,_,e⟩:=x;exact Heap.lt_size e
  | frz ob u=>obtain ⟨e,_⟩:=x;exact Heap.lt_size e
  | tbl ps=>exact Heap.lt_size (show h.get? a=some _ from x)
  | met f y=>exact Heap.lt_size (show h.get? a=some _ from x)
  | ext φ=>obtain ⟨_,⟨_,e⟩,_⟩:=x;exact Heap.lt_size e
theorem Paired.mapP {α β:Type} {F G:α->β->Prop}:∀ {l₁:List α} {l₂:List β},Paired F l₁ l₂->(∀ a b,F a b->G a b)->Paired G l₁ l₂
  | _,_,.nil,_=>.nil
  | _,_,.cons r t,f=>.cons (f _ _ r) (Paired.mapP t f)
theorem ObjOk.stay (x:ObjOk P w H h a o) (k:∀ b u,(b=a ∨ H b=some (.own a))->h.get? b=some u->h'.get? b=some u)
    (ho:∀ b,H b=some (.own a)->H' b=some (.own a)) (ht:∀ b xs,H b=some (.tup xs)->H' b=some (.tup xs)):ObjOk P w H' h' a o:=by
  induction o with
  | lst xs=>obtain ⟨z,its,n,r,e⟩:=x;exact ⟨z,its,n,r,k _ _ (.inl rfl) e⟩
  | tup xs=>obtain ⟨z,its,r,ob,e,c⟩:=x;exact ⟨z,its,r,ob,k _ _ (.inl rfl) e,c⟩
  | dK kvs=>obtain ⟨z,y,vs,r,ob,es,ep,e,c⟩:=x;exact ⟨z,y,vs,r,ob,es,ep,k _ _ (.inl rfl) e,c⟩
  | dT kvs =>
    obtain ⟨z,y,xs,r,ob,es,ep,e,c⟩:=x
    exact ⟨z,y,xs,Paired.mapP r fun p q z=>⟨z.1,ht _ _ z.2.1,z.2.2⟩,ob,es,ep,k _ _ (.inl rfl) e,c⟩
  | set S n=>obtain ⟨ob,es,ep,t,e,c⟩:=x;exact ⟨ob,es,ep,t,k _ _ (.inl rfl) e,c⟩
  | ins C dx fs =>
    obtain ⟨d,z,ne,e,mA,⟨od,es,ep,e2,c⟩,r⟩:=x
    exact ⟨ho _ d,z,ne,k _ _ (.inl rfl) e,mA,⟨od,es,ep,k _ _ (.inr d) e2,c⟩,r⟩
  | own y=>obtain ⟨ob,e⟩:=x;exact ⟨ob,k _ _ (.inl rfl) e⟩
  | xd fs=>obtain ⟨mA,⟨od,es,ep,e,c⟩,r⟩:=x;exact ⟨mA,⟨od,es,ep,k _ _ (.inl rfl) e,c⟩,r⟩
  | rng lo hi=>obtain ⟨t,u,v,e⟩:=x;exact ⟨t,u,v,k _ _ (.inl rfl) e⟩
  | frz ob u ih=>obtain ⟨e,q⟩:=x;exact ⟨k _ _ (.inl rfl) e,ih q⟩
  | tbl ps =>
    have e:h.get? a=some { cls:=.none,data:=.fields ps }:=x
    show h'.get? a=some { cls:=.none,data:=.fields ps }
    exact k a _ (.inl rfl) e
  | met f y =>
    have e:h.get? a=some (PySem.W.methodObj (.ref f) (.ref y)):=x
    show h'.get? a=some (PySem.W.methodObj (.ref f) (.ref y))
    exact k a _ (.inl rfl) e
  | ext φ=>obtain ⟨p,⟨o,e⟩,st⟩:=x;exact ⟨st _ _ p fun o q=>k _ _ (.inl rfl) q,⟨o,k _ _ (.inl rfl) e⟩,st⟩
theorem HOk.lt (x:HOk P w H h) (e:H a=some o):a < h.objs.size:=(x a o e).lt
theorem HOk.fresh (x:HOk P w H h) (e:h.objs.size <= a):H a=none:=by
  cases q:H a with
  | none=>rfl
  | some u=>exact absurd (Nat.lt_of_lt_of_le (x.lt q) e) (Nat.lt_irrefl _)
theorem HOk.kept (x:HOk P w H h) (k:∀ b u,h.get? b=some u->h'.get? b=some u):HOk P w H h':=fun a o e =>
  (x a o e).stay (fun b u _ q=>k b u q) (fun _ q=>q) fun _ _ q=>q
theorem HOk.laid (x:HOk P w H h) (k:∀ b u,h.get? b=some u->h'.get? b=some u) (hp:h.objs.size <= a) (new:ObjOk P w (upd H a o) h' a o):HOk P w (upd H a o) h':=fun b u e=>by
  have hn:=x.fresh hp
  by_cases hb:b=a
  · subst hb;rw [upd_same] at e;cases e;exact new
  · rw [upd_ne hb] at e
    exact (x b u e).stay (fun c v _ q=>k c v q) (fun c q=>by rw [upd_ne (ne_of_none q hn)];exact q) fun c xs q=>by rw [upd_ne (ne_of_none q hn)];exact q
end
def Rd (H:Hp) (a:Addr) (u:HO):Prop:=H a=some u ∨ ∃ o,H a=some (.frz o u)
theorem Rd.ok {P:Program} {w:World} {H:Hp} {h:Heap} {a:Addr} {u:HO} (r:Rd H a u) (x:HOk P w H h):ObjOk P w H h a u:=by
  rcases r with r | ⟨o,r⟩
  · exact x a u r
  · obtain ⟨_,q⟩:=x a _ r
    exact q
def Mut:Option HO->Prop
  | some (.lst _)=>True
  | some (.dK _)=>True
  | some (.dT _)=>True
  | some (.set _ _)=>True
  | some (.ins _ _ _)=>True
  | some (.ext _)=>True
  | _=>False
section
variable {P:Program} {w:World} {H:Hp} {h h':Heap} {x e:Addr} {o':HO}
theorem HOk.write (ok:HOk P w H h) (mu:Mut (H x)) (he:e=x ∨ H e=some (.own x)) (k:∀ b u,b ≠ e->h.get? b=some u->h'.get? b=some u) (heo:∃ u,h'.get? e=some u)
    (new:ObjOk P w (upd H x o') h' x o'):HOk P w (upd H x o') h':=fun b u q=>by
  have nown:∀ c y,H c=some (.own y)->c ≠ x:=fun c y r z=>by subst z;rw [r] at mu;exact mu
  have ntup:∀ c xs,H c=some (.tup xs)->c ≠ x:=fun c xs r z=>by subst z;rw [r] at mu;exact mu
  by_cases hb:b=x
  · subst hb;rw [upd_same] at q;cases q;exact new
  · rw [upd_ne hb] at q
    by_cases hbe:b=e
    · have q':H b=some (.own x):=by
        rcases he with z | z
        · exact absurd (hbe.trans z) hb
        · rw [hbe];exact z
      rw [q] at q';cases q'
      obtain ⟨v,hv⟩:=heo
      exact ⟨v,by rw [hbe];exact hv⟩
    · refine (ok b u q).stay (fun c v hc r=>k c v ?_ r) (fun c r=>by rw [upd_ne (nown c b r)];exact r) fun c xs r=>by rw [upd_ne (ntup c xs r)];exact r
      rcases hc with rfl | hc
      · exact hbe
      · rintro rfl
        rcases he with z | z
        · exact nown c b hc z
        · rw [hc] at z;cases z;exact hb rfl
end
structure Un (fs ex:List Addr) (H H':Hp) (h h':Heap):Prop where
  keep:∀ b o,h.get? b=some o->H b=none->b ∉ fs->b ∉ ex->h'.get? b=some o
  slot:∀ b o,h.get? b=some o->H b=none->b ∈ fs->b ∉ ex->∃ sl,h'.get? b=some { o with slots:=sl }
  free:∀ b o,h.get? b=some o->H b=none->b ∉ ex->H' b=none
  there:∀ b o,h.get? b=some o->b ∉ ex->∃ o',h'.get? b=some o'
  tups:∀ b xs,H b=some (.tup xs)->H' b=some (.tup xs)
  frzs:∀ b o u,H b=some (.frz o u)->H' b=some (.frz o u)
  tbls:∀ b ps,H b=some (.tbl ps)->∃ more,H' b=some (.tbl (ps ++ more))
section
variable {fs fs' ex ex':List Addr} {H H1 H2:Hp} {h h1 h2 h':Heap} {a x e:Addr} {o:HO}
theorem Un.any (u:Un fs ex H H1 h h1) {b:Addr} {ob:Obj} (q:h.get? b=some ob) (n:H b=none) (hx:b ∉ ex):∃ sl,h1.get? b=some { ob with slots:=sl }:=by
  by_cases hb:b ∈ fs
  · exact u.slot b ob q n hb hx
  · exact ⟨ob.slots,u.keep b ob q n hb hx⟩
theorem Un.kept (k:∀ b u,h.get? b=some u->h'.get? b=some u):Un fs ex H H h h' :=
  ⟨fun b ob q _ _ _=>k b ob q,fun b ob q _ _ _=>⟨ob.slots,k b ob q⟩,fun _ _ _ n _=>n,fun b ob q _=>⟨ob,k b ob q⟩,fun _ _ q=>q,fun _ _ _ q=>q,fun _ ps q=>⟨#[],by rw [q];simp⟩⟩
theorem Un.refl:Un fs ex H H h h:=Un.kept fun _ _ q=>q
theorem Un.laid (k:∀ b u,h.get? b=some u->h'.get? b=some u) (hp:h.objs.size <= a) (hn:H a=none):Un fs ex H (upd H a o) h h' where
  keep:=fun b u q _ _ _=>k b u q
  slot:=fun b u q _ _ _=>⟨u.slots,k b u q⟩
  free:=fun b u q n _=>by rw [upd_ne (Nat.ne_of_lt (Nat.lt_of_lt_of_le (Heap.lt_size q) hp))];exact n
  there:=fun b u q _=>⟨u,k b u q⟩
  tups:=fun b xs q=>by rw [upd_ne (ne_of_none q hn)];exact q
  frzs:=fun b u xs q=>by rw [upd_ne (ne_of_none q hn)];exact q
  tbls:=fun b ps q=>⟨#[],by rw [upd_ne (ne_of_none q hn),q];simp⟩
theorem Un.write (mu:Mut (H x)) (he:e=x ∨ H e=some (.own x)) (k:∀ b u,b ≠ e->h.get? b=some u->h'.get? b=some u) (heo:∃ u,h'.get? e=some u):Un fs ex H (upd H x o) h h':=by
  have hx:∀ b,H b=none->b ≠ x:=fun b n z=>by subst z;rw [n] at mu;exact mu
  have hb:∀ b,H b=none->b ≠ e:=fun b n z=>by
    subst z
    rcases he with r | r
    · exact hx b n r
    · rw [n] at r;cases r
  have hm:∀ b u,H b=some u->¬ Mut (some u)->b ≠ x:=fun b u q nm z=>by subst z;rw [q] at mu;exact nm mu
  refine ⟨fun b u q n _ _=>k b u (hb b n) q,fun b u q n _ _=>⟨u.slots,k b u (hb b n) q⟩,fun b u q n _=>by rw [upd_ne (hx b n)];exact n,fun b u q _=>?_,
    fun b xs q=>by rw [upd_ne (hm b _ q fun z=>z)];exact q,fun b u xs q=>by rw [upd_ne (hm b _ q fun z=>z)];exact q,fun b ps q=>⟨#[],by rw [upd_ne (hm b _ q fun z=>z),q];simp⟩⟩
  by_cases hbe:b=e
  · subst hbe;exact heo
  · exact ⟨u,k b u hbe q⟩
end
def trk (h:Heap) (H:Hp):List Addr:=(List.range h.objs.size).filter fun a=>(H a).isSome
def hidT (h:Heap) (H:Hp):Heap:=PySem.W.hideAll h (trk h H)
theorem hidT_size (h:Heap) (H:Hp):(hidT h H).objs.size=h.objs.size:=PySem.W.hideAll_size _ _
theorem hidT_get {h:Heap} {H:Hp} {b:Addr} {o:Obj} (e:h.get? b=some o) (n:H b=none):(hidT h H).get? b=some o :=
  PySem.W.hideAll_get _ e fun hm=>by
    have q:(H b).isSome=true:=(List.mem_filter.mp hm).2
    rw [n] at q;simp at q
theorem of_hidT {h:Heap} {H:Hp} {b:Addr} {o:Obj} (e:(hidT h H).get? b=some o):h.get? b=some o/\H b=none:=by
  have e':h.get? b=some o:=PySem.W.of_hideAll (trk h H) e
  refine ⟨e',?_⟩
  cases q:H b with
  | none=>rfl
  | some x =>
    have hm:b ∈ trk h H:=List.mem_filter.mpr ⟨List.mem_range.mpr (Heap.lt_size e'),by simp [q]⟩
    have z:(hidT h H).get? b=none:=PySem.W.hideAll_none (trk h H) hm
    rw [z] at e;cases e
def allNews (g h:Heap) (L:Addr):List (Addr × Obj):=(List.range h.objs.size).filterMap fun a=>if a=L ∨ (g.get? a).isSome=true then none else (h.get? a).map fun o=>(a,o)
def rest (g h:Heap) (L d:Addr):List (Addr × Obj):=(allNews g h L).filter fun p=>decide (p.1 ≠ d)
end L2
namespace L2
open PySem PySem.Spec PyProof.Rows
structure Mod (K:PySem.W.Frag) (mg:Str->Option Value) (base:Heap):Prop where
  kin:K.In base
  glob:base.Ns mainGlobals mg
  blt:∃ mb,base.Ns builtinsNs mb/\∀ x:Str,x ≠ "__name__"->mb x=bootBuiltins x
  nolimit:base.NoLimit
structure Cx where
  prog:Program
  w:World
  K:PySem.W.Frag
  mg:Str->Option Value
  base:Heap
  A:Around
  N:List Str
  s₀:Shared
  H₀:Hp
  env:Env
  outer:List Env
  stack:List Env
  ex:List Addr
  fn:Str->Bool
  calm:Bool
  pn:List (Addr × Obj)
  xe:Value->Shared->Prop
def frs (l:List Env):List Addr:=l.filterMap (·.frame)
abbrev Cx.fs (X:Cx):List Addr:=frs X.outer
def Vis (sc:Scope) (x:Str):Prop:=sc.names.lookup x=some .local ∨ sc.names.lookup x=some .cell ∨ sc.names.lookup x=some .free
def Loc (sc:Scope) (x:Str):Prop:=sc.names.lookup x=some .local ∨ sc.names.lookup x=some .cell
def Look (env:Env) (h:Heap) (m:Str->Option Value) (x:Str) (u:Value):Prop :=
  (env.kindOf x=some .local/\m x=some u) ∨ ((env.kindOf x=some .cell ∨ env.kindOf x=some .free)/\∃ c,env.cells.lookup x=some c/\h.IsCell c (some u))
structure Cx.Ok (X:Cx):Prop where
  mod:Mod X.K X.mg X.base
  kind:X.env.scope.kind=.function
  glob:X.env.globals=mainGlobals
  blt:X.env.builtins=builtinsNs
  above:X.s₀.heap.objs.size <= X.env.locals
  inj:∀ x y c,X.env.cells.lookup x=some c->X.env.cells.lookup y=some c->x=y
  has:∀ x,(X.env.kindOf x=some .cell ∨ X.env.kindOf x=some .free)->∃ c,X.env.cells.lookup x=some c
  cab:∀ x c,X.fn x=true->X.env.cells.lookup x=some c->X.s₀.heap.objs.size <= c
  hd:X.calm=true->X.A.handled=none
  frames:X.A.frames=some X.stack
  stk:X.stack=X.outer ∨ (X.stack=X.env :: X.outer/\X.env.frame=some X.env.locals)
  exf:∀ b ∈ X.ex,b ≠ X.env.locals/\∀ x c,X.env.cells.lookup x=some c->c ≠ b
  bs:∀ b o,X.base.get? b=some o->X.s₀.heap.get? b=some o/\X.H₀ b=none
  bsz:X.base.objs.size <= X.s₀.heap.objs.size
  noex:∀ b o,X.base.get? b=some o->b ∉ X.ex
  exfs:∀ b ∈ X.ex,b ∉ X.fs
  funs:X.s₀.heap.FunFrames X.base X.outer
  frf:∀ b ∈ X.fs,X.H₀ b=none
structure Inv (X:Cx) (pins:List (Addr × Obj)) (σ:List (Option V)) (H:Hp) (s:Shared):Prop where
  ok:X.Ok
  os:s.os=X.s₀.os
  bare:AllBare s.gens
  base:Un X.fs X.ex X.H₀ H X.s₀.heap s.heap
  loc:∃ m,s.heap.Ns X.env.locals m/\∀ (i:Nat) (x:Str) (v:V),X.N[i]?=some x->σ[i]?=some (some v)->Vis X.env.scope x->∃ u,RelV v u/\Look X.env s.heap m x u
  cell:∀ x c,X.env.cells.lookup x=some c->∃ v,s.heap.IsCell c v
  free:H X.env.locals=none
  freeC:∀ x c,X.env.cells.lookup x=some c->H c=none
  pin:∀ p ∈ X.pn ++ pins,s.heap.get? p.1=some p.2/\H p.1=none/\p.1 ≠ X.env.locals/\p.1 ∉ X.fs/\∀ v,p.2.data ≠ .cell v
  hok:HOk X.prog X.w H s.heap
  len:σ.length=X.N.length
section
variable {X:Cx} {pins:List (Addr × Obj)} {σ:List (Option V)} {H H':Hp} {s:Shared} {h':Heap}
theorem Cx.Ok.nofr (ok:X.Ok) {b:Addr} {o:Obj} (e:X.base.get? b=some o):b ∉ X.fs:=fun hb=>by
  have:=(ok.funs.mem hb).1
  rw [e] at this;cases this
theorem Inv.bs (I:Inv X pins σ H s):∀ b o,X.base.get? b=some o->s.heap.get? b=some o/\H b=none:=fun b o e =>
  ⟨I.base.keep b o (I.ok.bs b o e).1 (I.ok.bs b o e).2 (I.ok.nofr e) (I.ok.noex b o e),I.base.free b o (I.ok.bs b o e).1 (I.ok.bs b o e).2 (I.ok.noex b o e)⟩
theorem Inv.bk (I:Inv X pins σ H s):∀ b o,X.base.get? b=some o->s.heap.get? b=some o:=fun b o e=>(I.bs b o e).1
theorem Inv.mod (I:Inv X pins σ H s):Mod X.K X.mg X.base:=I.ok.mod
theorem Inv.kIn (I:Inv X pins σ H s):X.K.In s.heap:=I.ok.mod.kin.keeps I.bk
theorem Inv.lt (I:Inv X pins σ H s):X.env.locals < s.heap.objs.size:=let ⟨_,hn,_⟩:=I.loc;hn.lt
theorem Inv.sz (I:Inv X pins σ H s):X.s₀.heap.objs.size <= s.heap.objs.size:=Nat.le_trans I.ok.above (Nat.le_of_lt I.lt)
theorem Inv.nofs (I:Inv X pins σ H s) {a:Addr} (h:s.heap.objs.size <= a):a ∉ X.fs:=fun hb=>by
  obtain ⟨_,o,ho,_⟩:=I.ok.funs.mem hb
  exact absurd (Nat.lt_of_lt_of_le (Heap.lt_size ho) (Nat.le_trans I.sz h)) (Nat.lt_irrefl _)
theorem Inv.cne (I:Inv X pins σ H s):∀ x c,X.env.cells.lookup x=some c->c ≠ X.env.locals:=fun x c e z=>by
  obtain ⟨v,o,ho,hd⟩:=I.cell x c e
  obtain ⟨m,⟨o',es,ep,ho',hd',_⟩,_⟩:=I.loc
  rw [z,ho'] at ho;cases ho;rw [hd'] at hd;cases hd
theorem Inv.funs (I:Inv X pins σ H s):s.heap.FunFrames X.base X.outer:=by
  have all:∀ (l:List Env),(∀ b ∈ frs l,b ∈ X.fs)->X.s₀.heap.FunFrames X.base l->s.heap.FunFrames X.base l:=by
    intro l
    induction l with
    | nil=>intro _ _;trivial
    | cons env r ih =>
      intro hs hl
      obtain ⟨hk,⟨L,o,hf,hn,ho,hd⟩,hr⟩:=hl
      have hL:L ∈ X.fs:=hs L (by unfold frs;rw [List.filterMap_cons,hf];exact List.mem_cons_self)
      obtain ⟨sl,e⟩:=I.base.slot L o ho (I.ok.frf L hL) hL fun z=>I.ok.exfs L z hL
      exact ⟨hk,⟨L,_,hf,hn,e,hd⟩,ih (fun b hb=>hs b (by unfold frs;rw [List.filterMap_cons,hf];exact List.mem_cons_of_mem _ hb)) hr⟩
  exact all X.outer (fun _ hb=>hb) I.ok.funs
theorem Inv.stack (I:Inv X pins σ H s):s.heap.FunFrames X.base X.stack:=by
  rcases I.ok.stk with e | ⟨e,hf⟩
  · rw [e];exact I.funs
  · rw [e]
    obtain ⟨m,hn,_⟩:=I.loc
    refine .cons (by rw [I.ok.kind];decide) hf hn ?_ I.funs
    exact Heap.get?_none_of_le (Nat.le_trans I.ok.bsz I.ok.above)
theorem Inv.stkSub (I:Inv X pins σ H s):∀ b ∈ frs X.stack,b ∈ X.env.locals :: X.fs:=fun b hb=>by
  rcases I.ok.stk with e | ⟨e,hf⟩
  · rw [e] at hb;exact List.mem_cons_of_mem _ hb
  · rw [e] at hb
    unfold frs at hb
    rw [List.filterMap_cons,hf] at hb
    exact hb
theorem Inv.stkFree (I:Inv X pins σ H s):∀ b ∈ frs X.stack,H b=none:=fun b hb=>by
  rcases List.mem_cons.mp (I.stkSub b hb) with e | hb
  · rw [e];exact I.free
  · obtain ⟨_,o,ho,_⟩:=I.ok.funs.mem hb
    exact I.base.free b o ho (I.ok.frf b hb) fun z=>I.ok.exfs b z hb
theorem Inv.step {g':Array GenState} {t':Nat} {d':Drawn} {ch:List Addr} (I:Inv X pins σ H s)
    (hch:∀ b ∈ ch,(b ∈ X.ex ∨ X.s₀.heap.objs.size <= b)/\b ≠ X.env.locals/\(∀ x c,X.env.cells.lookup x=some c->c ≠ b)/\∀ p ∈ X.pn ++ pins,p.1 ≠ b)
    (keep:∀ b o,b ≠ X.env.locals->b ∉ X.fs->b ∉ ch->s.heap.get? b=some o->H b=none->h'.get? b=some o)
    (slot:∀ b o,b ≠ X.env.locals->b ∈ X.fs->b ∉ ch->s.heap.get? b=some o->H b=none->∃ sl,h'.get? b=some { o with slots:=sl }) (free:∀ b o,b ∉ ch->s.heap.get? b=some o->H b=none->H' b=none)
    (there:∀ b o,b ∉ ch->s.heap.get? b=some o->∃ o',h'.get? b=some o')
    (tups:∀ b xs,H b=some (.tup xs)->H' b=some (.tup xs)) (frzs:∀ b o u,H b=some (.frz o u)->H' b=some (.frz o u)) (tbls:∀ b ps,H b=some (.tbl ps)->∃ more,H' b=some (.tbl (ps ++ more)))
    (ns:∀ m,s.heap.Ns X.env.locals m->h'.Ns X.env.locals m) (hok:HOk X.prog X.w H' h') (hg:AllBare g') :
    Inv X pins σ H' { s with heap:=h',gens:=g',drawn:=d',toks:=t' }:=by
  have neL:∀ b o,X.s₀.heap.get? b=some o->b ≠ X.env.locals:=fun b o e=>Nat.ne_of_lt (Nat.lt_of_lt_of_le (Heap.lt_size e) I.ok.above)
  have neC:∀ b o,X.s₀.heap.get? b=some o->b ∉ X.ex->b ∉ ch:=fun b o e hx hb=>by
    rcases (hch b hb).1 with z | z
    · exact hx z
    · exact absurd (Nat.lt_of_lt_of_le (Heap.lt_size e) z) (Nat.lt_irrefl _)
  have cellK:∀ x c,X.env.cells.lookup x=some c->∀ v,s.heap.IsCell c v->h'.IsCell c v:=fun x c e v ⟨o,ho,hd⟩=>by
    have nch:c ∉ ch:=fun z=>(hch c z).2.2.1 x c e rfl
    by_cases hc:c ∈ X.fs
    · obtain ⟨sl,q⟩:=slot c o (I.cne x c e) hc nch ho (I.freeC x c e)
      exact ⟨_,q,hd⟩
    · exact ⟨o,keep c o (I.cne x c e) hc nch ho (I.freeC x c e),hd⟩
  refine ⟨I.ok,I.os,hg,⟨fun b o e n hb hx=>?_,fun b o e n hb hx=>?_,fun b o e n hx=>?_,fun b o e hx=>?_,fun b xs e=>tups b xs (I.base.tups b xs e),fun b o xs e=>frzs b o xs (I.base.frzs b o xs e),fun b ps e=>?_⟩,?_,fun x c e=>?_,?_,fun x c e=>?_,fun p hp=>?_,hok,I.len⟩
  · exact keep b o (neL b o e) hb (neC b o e hx) (I.base.keep b o e n hb hx) (I.base.free b o e n hx)
  · obtain ⟨sl,e1⟩:=I.base.slot b o e n hb hx
    obtain ⟨sl',e2⟩:=slot b _ (neL b o e) hb (neC b o e hx) e1 (I.base.free b o e n hx)
    exact ⟨sl',e2⟩
  · obtain ⟨o',e1⟩:=I.base.there b o e hx
    exact free b o' (neC b o e hx) e1 (I.base.free b o e n hx)
  · obtain ⟨o',e1⟩:=I.base.there b o e hx
    exact there b o' (neC b o e hx) e1
  · obtain ⟨m1,e1⟩:=I.base.tbls b ps e
    obtain ⟨m2,e2⟩:=tbls b _ e1
    exact ⟨m1 ++ m2,by rw [e2,Array.append_assoc]⟩
  · obtain ⟨m,hn,hl⟩:=I.loc
    refine ⟨m,ns m hn,fun i x v e1 e2 e3=>?_⟩
    obtain ⟨u,r,l⟩:=hl i x v e1 e2 e3
    refine ⟨u,r,?_⟩
    rcases l with l | ⟨k,c,e,z⟩
    · exact .inl l
    · exact .inr ⟨k,c,e,cellK x c e _ z⟩
  · obtain ⟨v,z⟩:=I.cell x c e
    exact ⟨v,cellK x c e v z⟩
  · obtain ⟨m,⟨o,_,_,ho,_⟩,_⟩:=I.loc
    exact free _ o (fun z=>(hch _ z).2.1 rfl) ho I.free
  · obtain ⟨v,o,ho,hd⟩:=I.cell x c e
    exact free c o (fun z=>(hch c z).2.2.1 x c e rfl) ho (I.freeC x c e)
  · obtain ⟨e,n,ne,nf,d⟩:=I.pin p hp
    have nch:p.1 ∉ ch:=fun z=>(hch p.1 z).2.2.2 p hp rfl
    exact ⟨keep p.1 p.2 ne nf nch e n,free p.1 p.2 nch e n,ne,nf,d⟩
theorem Inv.un {t':Nat} (I:Inv X pins σ H s) (u:Un X.fs [] H H' s.heap h') (hok:HOk X.prog X.w H' h'):Inv X pins σ H' { s with heap:=h',toks:=t' }:=by
  obtain ⟨m,⟨o,es,ep,ho,r⟩,_⟩:=id I.loc
  obtain ⟨sl,hL⟩:=u.any ho I.free (by simp)
  exact I.step (g':=s.gens) (d':=s.drawn) (ch:=[]) (fun _ z=>nomatch z) (fun b o _ hb _ e n=>u.keep b o e n hb (by simp)) (fun b o _ hb _ e n=>u.slot b o e n hb (by simp)) (fun b o _ e n=>u.free b o e n (by simp)) (fun b o _ e=>u.there b o e (by simp)) u.tups u.frzs u.tbls (fun m' hm=>by
    obtain ⟨o',es',ep',ho',r'⟩:=hm
    rw [ho] at ho';cases ho'
    exact ⟨_,es',ep',hL,r'⟩) hok I.bare
theorem Inv.call {g':Array GenState} {t':Nat} {d':Drawn} {ch:List Addr} (I:Inv X pins σ H s) (u:Un (frs X.stack) ch H H' s.heap h') (hok:HOk X.prog X.w H' h') (hg:AllBare g')
    (hch:∀ b ∈ ch,(b ∈ X.ex ∨ X.s₀.heap.objs.size <= b)/\b ≠ X.env.locals/\(∀ x c,X.env.cells.lookup x=some c->c ≠ b)/\∀ p ∈ X.pn ++ pins,p.1 ≠ b) :
    Inv X pins σ H' { s with heap:=h',gens:=g',drawn:=d',toks:=t' }:=by
  obtain ⟨m,⟨o,es,ep,ho,r⟩,_⟩:=id I.loc
  obtain ⟨sl,hL⟩:=u.any ho I.free fun z=>(hch _ z).2.1 rfl
  exact I.step (ch:=ch) hch (fun b o hL hb hc e n=>u.keep b o e n (fun z=>(List.mem_cons.mp (I.stkSub b z)).elim hL hb) hc) (fun b o _ _ hc e n=>u.any e n hc) (fun b o hc e n=>u.free b o e n hc) (fun b o hc e=>u.there b o e hc) u.tups u.frzs u.tbls (fun m' hm=>by
    obtain ⟨o',es',ep',ho',r'⟩:=hm
    rw [ho] at ho';cases ho'
    exact ⟨_,es',ep',hL,r'⟩) hok hg
theorem Inv.turned {t':Nat} {it:Addr} (I:Inv X pins σ H s) (k:∀ b o,b ≠ it->s.heap.get? b=some o->h'.get? b=some o) (hn:H it=none) (hL:it ≠ X.env.locals)
    (h1:it ∈ X.ex ∨ X.s₀.heap.objs.size <= it) (h2:∀ x c,X.env.cells.lookup x=some c->c ≠ it) (h3:∀ p ∈ X.pn ++ pins,p.1 ≠ it):Inv X pins σ H { s with heap:=h',toks:=t' }:=by
  have nit:∀ b u,H b=some u->b ≠ it:=fun b u e z=>by rw [z,hn] at e;cases e
  refine I.step (g':=s.gens) (d':=s.drawn) (ch:=[it]) (fun b hb=>?_) (fun b o _ _ hc e _=>k b o (fun z=>hc (by simp [z])) e) (fun b o _ _ hc e _=>⟨o.slots,k b o (fun z=>hc (by simp [z])) e⟩) (fun _ _ _ _ n=>n)
    (fun b o hc e=>⟨o,k b o (fun z=>hc (by simp [z])) e⟩) (fun _ _ e=>e) (fun _ _ _ e=>e) (fun b ps e=>⟨#[],by rw [e];simp⟩) (fun m hm=>?_) (fun b u e=>?_) I.bare
  · have e:b=it:=by simpa using hb
    subst e
    exact ⟨h1,hL,h2,h3⟩
  · obtain ⟨o,es,ep,ho,r⟩:=hm
    exact ⟨o,es,ep,k _ o (Ne.symm hL) ho,r⟩
  · refine (I.hok b u e).stay (fun c v hc q=>k c v ?_ q) (fun _ q=>q) fun _ _ q=>q
    rcases hc with z | z
    · rw [z];exact nit b u e
    · exact nit c _ z
theorem Inv.tok (I:Inv X pins σ H s) (t:Nat):Inv X pins σ H { s with toks:=t }:=I.un (h':=s.heap) (t':=t) Un.refl I.hok
theorem Inv.kept {t':Nat} (I:Inv X pins σ H s) (k:∀ b u,s.heap.get? b=some u->h'.get? b=some u):Inv X pins σ H { s with heap:=h',toks:=t' }:=I.un (Un.kept k) (I.hok.kept k)
theorem Inv.laid {a:Addr} {o:HO} {t':Nat} (I:Inv X pins σ H s) (k:∀ b u,s.heap.get? b=some u->h'.get? b=some u) (hp:s.heap.objs.size <= a) (new:ObjOk X.prog X.w (upd H a o) h' a o) :
    Inv X pins σ (upd H a o) { s with heap:=h',toks:=t' }:=I.un (Un.laid k hp (I.hok.fresh hp)) (I.hok.laid k hp new)
theorem Inv.write {x e:Addr} {o:HO} {t':Nat} (I:Inv X pins σ H s) (mu:Mut (H x)) (he:e=x ∨ H e=some (.own x)) (k:∀ b u,b ≠ e->s.heap.get? b=some u->h'.get? b=some u) (heo:∃ u,h'.get? e=some u)
    (new:ObjOk X.prog X.w (upd H x o) h' x o):Inv X pins σ (upd H x o) { s with heap:=h',toks:=t' }:=I.un (Un.write mu he k heo) (I.hok.write mu he k heo new)
theorem Inv.weak {σ':List (Option V)} (I:Inv X pins σ H s) (hl:σ'.length=σ.length) (w:∀ (i:Nat) v,σ'[i]?=some (some v)->σ[i]?=some (some v)):Inv X pins σ' H s :=
  ⟨I.ok,I.os,I.bare,I.base,let ⟨m,hn,hl'⟩:=I.loc;⟨m,hn,fun i x v e1 e2 e3=>hl' i x v e1 (w i v e2) e3⟩,I.cell,I.free,I.freeC,I.pin,I.hok,hl.trans I.len⟩
theorem Inv.pins_of {pins':List (Addr × Obj)} (I:Inv X pins σ H s) (h:∀ p ∈ pins',s.heap.get? p.1=some p.2/\H p.1=none/\p.1 ≠ X.env.locals/\p.1 ∉ X.fs/\∀ v,p.2.data ≠ .cell v):Inv X pins' σ H s :=
  ⟨I.ok,I.os,I.bare,I.base,I.loc,I.cell,I.free,I.freeC,fun p hp=>(List.mem_append.mp hp).elim (fun z=>I.pin p (List.mem_append_left _ z)) (h p),I.hok,I.len⟩
theorem nodup_ix {N:List Str} (hN:N.Nodup) {i j:Nat} {x:Str} (a:N[i]?=some x) (b:N[j]?=some x):i=j:=by
  obtain ⟨h1,e1⟩:=List.getElem?_eq_some_iff.mp a
  obtain ⟨h2,e2⟩:=List.getElem?_eq_some_iff.mp b
  exact (List.getElem_inj hN).mp (e1.trans e2.symm)
theorem store_ok2 {M:Model} {A:Around} {E:Value->Shared->Prop} {i:Nat} {x:Str} {v:V} {u:Value} {Q:Unit->Shared->Prop} (I:Inv X pins σ H s) (hN:X.N.Nodup) (hi:X.N[i]?=some x) (hx:Loc X.env.scope x) (r:RelV v u)
    (h:∀ s',Inv X pins (σ.set i (some v)) H s'->(∃ a,Heap.SameBut a s.heap s'.heap/\(a=X.env.locals ∨ X.env.cells.lookup x=some a))->Q () s') (hf:X.fn x=true ∨ X.env.scope.names.lookup x=some .local:=by first | exact .inl rfl | exact .inr rfl | assumption):wpAny M A (storeName X.env x u) Q E s:=by
  obtain ⟨m,hn,hl⟩:=id I.loc
  have hcls:(X.env.scope.kind == .class || (X.env.scope.kind == .module && X.env.locals != X.env.globals))=false:=by rw [I.ok.kind];rfl
  have hiσ:i < σ.length:=by rw [I.len];exact (List.getElem?_eq_some_iff.mp hi).1
  have cne:=I.cne
  have tracked:∀ {a:Addr} {h':Heap},(∃ o,s.heap.get? a=some o/\H a=none)->Heap.SameBut a s.heap h'->HOk X.prog X.w H h':=fun {a h'} ha hs b ob e=>by
    obtain ⟨_,_,hfree⟩:=ha
    refine (I.hok b ob e).stay (fun c w' hc q=>(hs.2 c ?_).trans q) (fun _ q=>q) fun _ _ q=>q
    rintro rfl
    rcases hc with rfl | hc
    · rw [hfree] at e;cases e
    · rw [hfree] at hc;cases hc
  rcases hx with hk | hk
  · refine wpAny_storeName_local hk hn (fun h' hn' hs=>?_) hcls
    obtain ⟨oL,_,_,hoL,_⟩:=id hn
    refine h _ ⟨I.ok,I.os,I.bare,⟨fun b o e n hb hx=>?_,fun b o e n hb hx=>?_,I.base.free,fun b o e hx=>?_,I.base.tups,I.base.frzs,I.base.tbls⟩,⟨_,hn',fun j y v' e1 e2 e3=>?_⟩,fun y c e=>?_,I.free,I.freeC,fun p hp=>?_,tracked ⟨oL,hoL,I.free⟩ hs,by simpa using I.len⟩ ⟨_,hs,.inl rfl⟩
    · exact (hs.2 b (Nat.ne_of_lt (Nat.lt_of_lt_of_le (Heap.lt_size e) I.ok.above))).trans (I.base.keep b o e n hb hx)
    · obtain ⟨sl,e1⟩:=I.base.slot b o e n hb hx
      exact ⟨sl,(hs.2 b (Nat.ne_of_lt (Nat.lt_of_lt_of_le (Heap.lt_size e) I.ok.above))).trans e1⟩
    · obtain ⟨o',e1⟩:=I.base.there b o e hx
      exact ⟨o',(hs.2 b (Nat.ne_of_lt (Nat.lt_of_lt_of_le (Heap.lt_size e) I.ok.above))).trans e1⟩
    · by_cases hj:j=i
      · subst hj
        rw [hi] at e1;cases e1
        rw [List.getElem?_set_self hiσ] at e2
        cases e2
        exact ⟨u,r,.inl ⟨hk,by simp⟩⟩
      · rw [List.getElem?_set_ne (Ne.symm hj)] at e2
        obtain ⟨u',r',q⟩:=hl j y v' e1 e2 e3
        refine ⟨u',r',?_⟩
        rcases q with ⟨k,e⟩ | ⟨k,c,e,z⟩
        · refine .inl ⟨k,?_⟩
          have:y ≠ x:=fun e=>hj (nodup_ix hN e1 (e ▸ hi))
          simp [this,e]
        · exact .inr ⟨k,c,e,z.sameBut hs (cne y c e)⟩
    · obtain ⟨w',z⟩:=I.cell y c e
      exact ⟨w',z.sameBut hs (cne y c e)⟩
    · obtain ⟨e,n,ne,nf,d⟩:=I.pin p hp
      exact ⟨(hs.2 p.1 ne).trans e,n,ne,nf,d⟩
  · have hfn:X.fn x=true:=by
      rcases hf with z | z
      · exact z
      · rw [z] at hk;cases hk
    obtain ⟨c,hc⟩:=I.ok.has x (.inl hk)
    obtain ⟨w',z⟩:=I.cell x c hc
    refine wpAny_storeName_cell I.ok.kind hk hc z (fun h' hc' hs=>?_)
    obtain ⟨oc,hoc,hocd⟩:=id z
    refine h { s with heap:=h' } ⟨I.ok,I.os,I.bare,⟨fun b o e n hb hx=>?_,fun b o e n hb hx=>?_,I.base.free,fun b o e hx=>?_,I.base.tups,I.base.frzs,I.base.tbls⟩,⟨m,hn.sameBut hs (Ne.symm (cne x c hc)),fun j y v' e1 e2 e3=>?_⟩,fun y c' e=>?_,I.free,I.freeC,fun p hp=>?_,tracked ⟨oc,hoc,I.freeC x c hc⟩ hs,by simpa using I.len⟩ ⟨c,hs,.inr hc⟩
    · exact (hs.2 b (Nat.ne_of_lt (Nat.lt_of_lt_of_le (Heap.lt_size e) (I.ok.cab x c hfn hc)))).trans (I.base.keep b o e n hb hx)
    · obtain ⟨sl,e1⟩:=I.base.slot b o e n hb hx
      exact ⟨sl,(hs.2 b (Nat.ne_of_lt (Nat.lt_of_lt_of_le (Heap.lt_size e) (I.ok.cab x c hfn hc)))).trans e1⟩
    · obtain ⟨o',e1⟩:=I.base.there b o e hx
      exact ⟨o',(hs.2 b (Nat.ne_of_lt (Nat.lt_of_lt_of_le (Heap.lt_size e) (I.ok.cab x c hfn hc)))).trans e1⟩
    · by_cases hj:j=i
      · subst hj
        rw [hi] at e1;cases e1
        rw [List.getElem?_set_self hiσ] at e2
        cases e2
        exact ⟨u,r,.inr ⟨.inl hk,c,hc,hc'⟩⟩
      · rw [List.getElem?_set_ne (Ne.symm hj)] at e2
        obtain ⟨u',r',q⟩:=hl j y v' e1 e2 e3
        refine ⟨u',r',?_⟩
        rcases q with q | ⟨k,c',e,z'⟩
        · exact .inl q
        · refine .inr ⟨k,c',e,z'.sameBut hs ?_⟩
          rintro rfl
          exact hj (nodup_ix hN e1 (I.ok.inj _ _ _ e hc ▸ hi))
    · by_cases hcc:c'=c
      · subst hcc;exact ⟨_,hc'⟩
      · obtain ⟨w2,z2⟩:=I.cell y c' e
        exact ⟨w2,z2.sameBut hs hcc⟩
    · obtain ⟨e,n,ne,nf,d⟩:=I.pin p hp
      refine ⟨(hs.2 p.1 ?_).trans e,n,ne,nf,d⟩
      intro q
      rw [q,hoc] at e
      have q':oc=p.2:=Option.some.inj e
      exact d w' (by rw [<- q'];exact hocd)
theorem store_ok {M:Model} {A:Around} {E:Value->Shared->Prop} {i:Nat} {x:Str} {v:V} {u:Value} {Q:Unit->Shared->Prop} (I:Inv X pins σ H s) (hN:X.N.Nodup) (hi:X.N[i]?=some x) (hx:Loc X.env.scope x) (r:RelV v u)
    (h:∀ s',Inv X pins (σ.set i (some v)) H s'->Q () s') (hf:X.fn x=true ∨ X.env.scope.names.lookup x=some .local:=by first | exact .inl rfl | exact .inr rfl | assumption):wpAny M A (storeName X.env x u) Q E s :=
  store_ok2 I hN hi hx r (fun s' I' _=>h s' I') hf
theorem Inv.call' {s':Shared} {ch:List Addr} (I:Inv X pins σ H s) (ho:s'.os=s.os) (u:Un (frs X.stack) ch H H' s.heap s'.heap) (hok:HOk X.prog X.w H' s'.heap) (hg:AllBare s'.gens)
    (hch:∀ b ∈ ch,(b ∈ X.ex ∨ X.s₀.heap.objs.size <= b)/\b ≠ X.env.locals/\(∀ x c,X.env.cells.lookup x=some c->c ≠ b)/\∀ p ∈ X.pn ++ pins,p.1 ≠ b):Inv X pins σ H' s':=by
  obtain ⟨h',g',d',t',o'⟩:=s'
  have e:o'=s.os:=ho
  subst e
  exact I.call (g':=g') (t':=t') (d':=d') u hok hg hch
end
abbrev XK:=Value->Option Addr->Hp->Prop
abbrev St:=List (Option V)
abbrev VK:=V->Hp->Prop
abbrev TE:=St->Hp->VK->Prop
abbrev TT:=St->Hp->(Bool->Hp->Prop)->Prop
abbrev TA:=St->Hp->(List V->Hp->Prop)->Prop
structure Ends where
  nx:St->Hp->Prop
  rt:VK
  bk:St->Hp->Prop:=fun _ _=>False
  ct:St->Hp->Prop:=fun _ _=>False
abbrev TS:=Ends->St->Hp->Prop
def EP (X:Cx) (pins:List (Addr × Obj)) (σ:St) (Q:VK) (u:Value) (s':Shared):Prop:=∃ v H',Inv X pins σ H' s'/\RelV v u/\Q v H'
def TP (X:Cx) (pins:List (Addr × Obj)) (σ:St) (Q:Bool->Hp->Prop) (b:Bool) (s':Shared):Prop:=∃ H',Inv X pins σ H' s'/\Q b H'
def AP (X:Cx) (pins:List (Addr × Obj)) (σ:St) (Q:List V->Hp->Prop) (us:List Value) (s':Shared):Prop:=∃ vs H',Inv X pins σ H' s'/\Vals vs us/\Q vs H'
def SP (X:Cx) (pins:List (Addr × Obj)) (D:Ends) (f:Flow) (s':Shared):Prop :=
  match f with
  | .next=>∃ σ' H',Inv X pins σ' H' s'/\D.nx σ' H'
  | .brk=>∃ σ' H',Inv X pins σ' H' s'/\D.bk σ' H'
  | .cont=>∃ σ' H',Inv X pins σ' H' s'/\D.ct σ' H'
  | .ret u=>∃ v σ' H',Inv X pins σ' H' s'/\RelV v u/\D.rt v H'
def PE (X:Cx) (e:Expr) (t:TE):Prop :=
  ∀ (pins:List (Addr × Obj)) (s:Shared) (σ:St) (H:Hp) (Q:VK),Inv X pins σ H s->t σ H Q->wpAny (model X.prog X.w) X.A (eval e X.env) (EP X pins σ Q) X.xe s
def PT (X:Cx) (e:Expr) (t:TT):Prop :=
  ∀ (pins:List (Addr × Obj)) (s:Shared) (σ:St) (H:Hp) (Q:Bool->Hp->Prop),Inv X pins σ H s->t σ H Q->wpAny (model X.prog X.w) X.A (isTrue e X.env (eval e X.env)) (TP X pins σ Q) X.xe s
def PW (X:Cx) (e:Expr) (t:TT):Prop :=
  ∀ (whole:Sem Value) (pins:List (Addr × Obj)) (s:Shared) (σ:St) (H:Hp) (Q:Bool->Hp->Prop),Inv X pins σ H s->t σ H Q->wpAny (model X.prog X.w) X.A (isTrue e X.env whole) (TP X pins σ Q) X.xe s
theorem PW.pt {X:Cx} {e:Expr} {t:TT} (h:PW X e t):PT X e t:=h _
def PA (X:Cx) (es:List Expr) (t:TA):Prop :=
  ∀ (pos:Pos) (pins:List (Addr × Obj)) (s:Shared) (σ:St) (H:Hp) (Q:List V->Hp->Prop),Inv X pins σ H s->t σ H Q->wpAny (model X.prog X.w) X.A (spliced (backTo pos (starEach es X.env))) (AP X pins σ Q) X.xe s
def PS (X:Cx) (st:Stmt) (t:TS):Prop :=
  ∀ (pins:List (Addr × Obj)) (s:Shared) (σ:St) (H:Hp) (D:Ends),Inv X pins σ H s->t D σ H->wpAny (model X.prog X.w) X.A (exec st X.env) (SP X pins D) X.xe s
def PSs (X:Cx) (st:List Stmt) (t:TS):Prop :=
  ∀ (pins:List (Addr × Obj)) (s:Shared) (σ:St) (H:Hp) (D:Ends),Inv X pins σ H s->t D σ H->wpAny (model X.prog X.w) X.A (execs st X.env) (SP X pins D) X.xe s
theorem thn {α:Type} {t:Sem α} {Q Q':α->Shared->Prop} {M:Model} {A:Around} {E:Value->Shared->Prop} {s:Shared} (h:wpAny M A t Q E s) (hQ:∀ a s,Q a s->Q' a s):wpAny M A t Q' E s:=wpAny_mono h hQ fun _ _ x=>x
end L2
namespace L2
open PySem PySem.Spec PyProof.Rows
section
variable {X:Cx}
def tVar (i:Nat):TE:=fun σ H Q=>∃ v,σ[i]?=some (some v)/\Q v H
def tC (v:V):TE:=fun _ H Q=>Q v H
theorem pe_var {i:Nat} {x:Str} {pos:Pos} (hN:X.N[i]?=some x) (hv:Vis X.env.scope x) (hd:(x == ("__debug__":Str))=false:=by decide) (hcd:(x == ("__classdict__":Str))=false:=by decide):PE X (.Name x pos) (tVar i):=by
  intro pins s σ H Q I h
  obtain ⟨v,e,h⟩:=h
  obtain ⟨m,hn,hl⟩:=I.loc
  obtain ⟨u,r,l⟩:=hl i x v hN e hv
  have fin:EP X pins σ Q u s:=⟨v,H,I,r,h⟩
  rcases l with ⟨hk,hm⟩ | ⟨hk,c,hc,hcell⟩
  · exact wpAny_Name (wpAny_loadName_local I.ok.kind hk hn hm fin) hd
  · rcases hk with hk | hk
    · exact wpAny_Name (wpAny_loadName_cell I.ok.kind hk hc hcell fin) hd
    · exact wpAny_Name (wpAny_loadName_free I.ok.kind hk hc hcell fin hcd) hd
theorem pe_int {i j pos}:PE X (.Constant (.int i) j pos) (tC (.int i)):=fun _ _ _ H _ I h=>wpAny_Constant_int ⟨.int i,H,I.tok _,⟨_,rfl⟩,h⟩
theorem pe_bl {b j pos}:PE X (.Constant (.bool b) j pos) (tC (.bl b)):=fun _ _ _ H _ I h=>Constant_bool ⟨.bl b,H,I,rfl,h⟩
theorem pe_non {j pos}:PE X (.Constant .none j pos) (tC .non):=fun _ _ _ H _ I h=>Constant_none ⟨.non,H,I,rfl,h⟩
theorem pe_str {x j pos}:PE X (.Constant (.str x) j pos) (tC (.str x)):=fun _ _ _ H _ I h=>Calls.Constant_str ⟨.str x,H,I.tok _,⟨_,rfl⟩,h⟩
def Gl (X:Cx) (x:Str):Prop:=X.env.kindOf x=some .globalImplicit
theorem ld_glob {E:Value->Shared->Prop} {pins:List (Addr × Obj)} {s:Shared} {σ:St} {H:Hp} {x:Str} {u:Value} {pos:Pos} {Q:Value->Shared->Prop} (I:Inv X pins σ H s) (hg:Gl X x) (hm:X.mg x=some u) (h:Q u s)
    (hd:(x == ("__debug__":Str))=false:=by decide):wpAny (model X.prog X.w) X.A (eval (.Name x pos) X.env) Q E s :=
  Calls.Name_function_global I.ok.kind hg (Calls.loadGlobal_global (by rw [I.ok.glob];exact I.mod.glob.keeps I.bk) hm h) hd
theorem ld_blt {E:Value->Shared->Prop} {pins:List (Addr × Obj)} {s:Shared} {σ:St} {H:Hp} {x:Str} {u:Value} {pos:Pos} {Q:Value->Shared->Prop} (I:Inv X pins σ H s) (hg:Gl X x) (hm:X.mg x=none) (hv:bootBuiltins x=some u) (h:Q u s)
    (hn:x ≠ "__name__":=by decide) (hd:(x == ("__debug__":Str))=false:=by decide):wpAny (model X.prog X.w) X.A (eval (.Name x pos) X.env) Q E s:=by
  obtain ⟨mb,h1,h2⟩:=I.mod.blt
  exact Calls.Name_function_global I.ok.kind hg (Calls.loadGlobal_builtin (by rw [I.ok.glob];exact I.mod.glob.keeps I.bk) hm (by rw [I.ok.blt];exact h1.keeps I.bk) ((h2 x hn).trans hv) h) hd
theorem pe_glob {x:Str} {v:V} {u:Value} {pos:Pos} (hg:Gl X x) (hm:X.mg x=some u) (r:RelV v u) (hd:(x == ("__debug__":Str))=false:=by decide):PE X (.Name x pos) (tC v) :=
  fun _ _ _ H _ I h=>ld_glob I hg hm ⟨v,H,I,r,h⟩ hd
theorem pe_bltn {x:Str} {v:V} {u:Value} {pos:Pos} (hg:Gl X x) (hm:X.mg x=none) (hv:bootBuiltins x=some u) (r:RelV v u) (hn:x ≠ "__name__":=by decide) (hd:(x == ("__debug__":Str))=false:=by decide):PE X (.Name x pos) (tC v) :=
  fun _ _ _ H _ I h=>ld_blt I hg hm hv ⟨v,H,I,r,h⟩ hn hd
variable {a b:Expr} {ta tb:TE} {pos:Pos}
def PC (X:Cx) (op:CmpOp) (a b:Expr) (t:TE):Prop :=
  ∀ (pins:List (Addr × Obj)) (s:Shared) (σ:St) (H:Hp) (Q:VK),Inv X pins σ H s->t σ H Q ->
    wpAny (model X.prog X.w) X.A (eval a X.env) (fun v s₁=>wpAny (model X.prog X.w) X.A (eval b X.env) (fun u s₂=>wpAny (model X.prog X.w) X.A (compareOp op v u) (EP X pins σ Q) X.xe s₂) X.xe s₁) X.xe s
theorem nobehind (b:Expr) {op:CmpOp} (h:op ≠ .In) (h2:op ≠ .NotIn):behindInMarks op b=false:=by
  have e1:(op == CmpOp.In)=false:=by cases op <;> first | rfl | exact absurd rfl h
  have e2:(op == CmpOp.NotIn)=false:=by cases op <;> first | rfl | exact absurd rfl h2
  cases b <;> simp [behindInMarks,e1,e2]
def tIsN (ta:TE):TE:=fun σ H Q=>ta σ H fun x H1=>Q (.bl (decide (x=.non))) H1
def tNotN (ta:TE):TE:=fun σ H Q=>ta σ H fun x H1=>Q (.bl (!decide (x=.non))) H1
theorem RelV.none_iff {x:V} {v:Value} (r:RelV x v):(v == Value.none)=decide (x=.non):=by
  cases x with
  | non=>cases r;rfl
  | bl _=>cases r;rfl
  | int _=>obtain ⟨t,rfl⟩:=r;rfl
  | str _=>obtain ⟨t,rfl⟩:=r;rfl
  | byt _=>obtain ⟨t,rfl⟩:=r;rfl
  | flt _=>obtain ⟨t,rfl⟩:=r;rfl
  | ref _=>cases r;rfl
  | ty _=>cases r;rfl
theorem pc_isN {j pos'} (ha:PE X a ta):PC X .Is a (.Constant .none j pos') (tIsN ta):=by
  intro pins s σ H Q I h
  refine thn (ha pins s σ H _ I h) fun v s1 ⟨x,H1,I1,r1,q1⟩=>?_
  exact Constant_none (is_none_gen ⟨.bl _,H1,I1,by rw [r1.none_iff];rfl,q1⟩)
theorem pc_notN {j pos'} (ha:PE X a ta):PC X .IsNot a (.Constant .none j pos') (tNotN ta):=by
  intro pins s σ H Q I h
  refine thn (ha pins s σ H _ I h) fun v s1 ⟨x,H1,I1,r1,q1⟩=>?_
  exact Constant_none (isnot_none_gen ⟨.bl _,H1,I1,by rw [r1.none_iff];rfl,q1⟩)
def tB (t:TE):TT:=fun σ H Q=>t σ H fun x H1=>∃ c,x=.bl c/\Q c H1
theorem pe_cmp {op:CmpOp} {t:TE} (h:PC X op a b t) (h1:behindInMarks op b=false:=by first | exact nobehind _ (by decide) (by decide) | rfl):PE X (.Compare a [op] [b] pos) t:=fun pins s σ H Q I hw=>wpAny_Compare1 (h pins s σ H Q I hw) h1
theorem pt_cmp {op:CmpOp} {t:TE} (h:PC X op a b t) (h1:behindInMarks op b=false:=by first | exact nobehind _ (by decide) (by decide) | rfl):PT X (.Compare a [op] [b] pos) (tB t):=by
  intro pins s σ H Q I hw
  refine wpAny_isTrue_Compare1 (thn (h pins s σ H _ I hw) fun v s1 h1=>thn h1 fun u s2 h2=>thn h2 fun c s3 ⟨x,H1,I1,r1,q1⟩=>?_) h1
  obtain ⟨d,rfl,q⟩:=q1
  cases r1
  exact wpAny_truthy_bool ⟨H1,I1,q⟩
theorem pt_val {e:Expr} {t:TE} (h:PE X e t) (he:∀ whole,isTrue e X.env whole=(do let v <- whole;standAt e.pos;holding [v] (truthy v)):=by intro _;rfl):PT X e (tB t):=by
  intro pins s σ H Q I hw
  refine isTrue_plain (thn (h pins s σ H _ I hw) fun v s1 ⟨x,H1,I1,r1,q1⟩=>?_) (he _)
  obtain ⟨d,rfl,q⟩:=q1
  cases r1
  exact wpAny_truthy_bool ⟨H1,I1,q⟩
variable {tA tB':TT} {rest:List Expr}
def tOr (t u:TT):TT:=fun σ H Q=>t σ H fun c H1=>if c=true then Q true H1 else u σ H1 Q
def tNot (t:TT):TT:=fun σ H Q=>t σ H fun c H1=>Q (!c) H1
theorem pw_or1 (ha:PT X a tA):PW X (.BoolOp .Or [a] pos) tA:=by
  intro wh pins s σ H Q I h
  refine isTrue_or (thn (ha pins s σ H Q I h) fun c s1 e=>?_)
  cases c with
  | false=>exact isTrue_or_nil e
  | true=>exact e
theorem pw_or (ha:PT X a tA) (hb:PW X (.BoolOp .Or (b :: rest) pos) tB'):PW X (.BoolOp .Or (a :: b :: rest) pos) (tOr tA tB'):=by
  intro wh pins s σ H Q I h
  refine isTrue_or (thn (ha pins s σ H _ I h) fun c s1 ⟨H1,I1,q1⟩=>?_)
  cases c with
  | true=>exact ⟨H1,I1,q1⟩
  | false=>exact hb wh pins s1 σ H1 Q I1 q1
theorem pt_not (ha:PT X a tA):PT X (.UnaryOp .Not a pos) (tNot tA):=by
  intro pins s σ H Q I h
  exact isTrue_not (ha pins s σ H (fun c H1=>Q (!c) H1) I h)
def tAndV (ta tb:TE):TE:=fun σ H Q=>ta σ H fun x H1=>∃ c,x=.bl c/\if c=true then tb σ H1 Q else Q (.bl false) H1
def tNotV (ta:TE):TE:=fun σ H Q=>ta σ H fun x H1=>∃ c,x=.bl c/\Q (.bl (!c)) H1
theorem pe_one {op} {t:TE} (h:PE X a t):PE X (.BoolOp op [a] pos) t:=fun pins s σ H Q I hw=>BoolOp_one (h pins s σ H Q I hw)
theorem pe_and (ha:PE X a ta) (hb:PE X (.BoolOp .And (b :: rest) pos) tb):PE X (.BoolOp .And (a :: b :: rest) pos) (tAndV ta tb):=by
  intro pins s σ H Q I h
  refine BoolOp_and (thn (ha pins s σ H _ I h) fun v s1 ⟨x,H1,I1,r1,q1⟩=>?_)
  obtain ⟨c,rfl,q1⟩:=q1
  cases r1
  refine wpAny_truthy_bool ?_
  cases c with
  | true=>exact hb pins s1 σ H1 Q I1 q1
  | false=>exact ⟨.bl false,H1,I1,rfl,q1⟩
theorem pe_not (ha:PE X a ta):PE X (.UnaryOp .Not a pos) (tNotV ta):=by
  intro pins s σ H Q I h
  refine UnaryOp_ (thn (ha pins s σ H _ I h) fun v s1 ⟨x,H1,I1,r1,q1⟩=>?_)
  obtain ⟨c,rfl,q1⟩:=q1
  cases r1
  exact not_of (wpAny_truthy_bool ⟨.bl (!c),H1,I1,rfl,q1⟩)
def tIf (t:TT) (ta tb:TE):TE:=fun σ H Q=>t σ H fun c H1=>if c=true then ta σ H1 Q else tb σ H1 Q
theorem pe_ifExp {c:Expr} (hc:PT X c tA) (ha:PE X a ta) (hb:PE X b tb):PE X (.IfExp c a b pos) (tIf tA ta tb):=by
  intro pins s σ H Q I h
  refine wpAny_IfExp (thn (hc pins s σ H _ I h) fun d s1 ⟨H1,I1,q1⟩=>?_)
  cases d with
  | true=>exact ha pins s1 σ H1 Q I1 q1
  | false=>exact hb pins s1 σ H1 Q I1 q1
end
end L2
namespace L2
open PySem PySem.Spec PyProof.Rows
def SqL (K:PySem.W.Frag) (H:Hp) (a:Addr) (xs:List V):Prop :=
  Rd H a (.lst xs) ∨
    ∃ (o:Obj) (its:Array Value) (n:Nat),K.lookup a=some o/\o.cls=.type "list"/\o.dict=none/\o.data=.seq its n/\its.size <= sizeLine/\Vals xs its.toList
def SqT (K:PySem.W.Frag) (H:Hp) (a:Addr) (xs:List V):Prop :=
  Rd H a (.tup xs) ∨
    ∃ (o:Obj) (its:Array Value) (n:Nat),K.lookup a=some o/\o.cls=.type "tuple"/\o.data=.seq its n/\its.size <= sizeLine/\Vals xs its.toList
def absV:Value->Option V
  | .none=>some .non
  | .bool b=>some (.bl b)
  | .int i _=>some (.int i)
  | .str x _=>some (.str x)
  | .bytes b _=>some (.byt b)
  | .float b _=>some (.flt b)
  | .ref a=>some (.ref a)
  | .type n=>some (.ty n)
  | _=>none
theorem RelV.abs {x:V} {u:Value} (r:RelV x u):absV u=some x:=by
  cases x with
  | non=>cases r;rfl
  | bl _=>cases r;rfl
  | int _=>obtain ⟨t,rfl⟩:=r;rfl
  | str _=>obtain ⟨t,rfl⟩:=r;rfl
  | byt _=>obtain ⟨t,rfl⟩:=r;rfl
  | flt _=>obtain ⟨t,rfl⟩:=r;rfl
  | ref _=>cases r;rfl
  | ty _=>cases r;rfl
theorem RelV.inj {x y:V} {u:Value} (r:RelV x u) (q:RelV y u):x=y:=Option.some.inj (r.abs.symm.trans q.abs)
theorem Vals.inj:∀ {xs ys:List V} {us:List Value},Vals xs us->Vals ys us->xs=ys
  | _,_,_,.nil,.nil=>rfl
  | _,_,_,.cons r t,.cons r' t'=>by rw [r.inj r',Vals.inj t t']
section
variable {X:Cx} {pins:List (Addr × Obj)} {σ:St} {H:Hp} {s:Shared} {a:Addr} {xs ys:List V}
theorem SqL.of {K:PySem.W.Frag} (h:H a=some (.lst xs)):SqL K H a xs:=.inl (.inl h)
theorem SqT.of {K:PySem.W.Frag} (h:H a=some (.tup xs)):SqT K H a xs:=.inl (.inl h)
theorem Inv.list (I:Inv X pins σ H s) (h:SqL X.K H a xs):∃ its:List Value,Vals xs its/\PlainL s.heap a its.toArray/\xs.length <= sizeLine:=by
  rcases h with h | ⟨o,its,n,hk,hc,hd,hs,hz,r⟩
  · obtain ⟨z,its,n,r,e⟩:=h.ok I.hok
    exact ⟨its,r,⟨_,n,e,rfl,rfl,rfl⟩,z⟩
  · refine ⟨its.toList,r,⟨o,n,I.kIn a o hk,hc,hd,by simpa using hs⟩,?_⟩
    have e:=r.length
    simp only [Array.length_toList] at e
    omega
theorem Inv.tuple (I:Inv X pins σ H s) (h:SqT X.K H a xs):∃ its:List Value,Vals xs its/\IsTup s.heap a its.toArray/\xs.length <= sizeLine:=by
  rcases h with h | ⟨o,its,n,hk,hc,hs,hz,r⟩
  · obtain ⟨z,its,r,p⟩:=h.ok I.hok
    exact ⟨its,r,p,z⟩
  · refine ⟨its.toList,r,⟨o,I.kIn a o hk,hc,n,by simpa using hs⟩,?_⟩
    have e:=r.length
    simp only [Array.length_toList] at e
    omega
theorem Inv.list_inj (I:Inv X pins σ H s) (h:SqL X.K H a xs) (h':SqL X.K H a ys):xs=ys:=by
  obtain ⟨its,r,⟨o,n,e,_,_,d⟩,_⟩:=I.list h
  obtain ⟨its',r',⟨o',n',e',_,_,d'⟩,_⟩:=I.list h'
  rw [e] at e';cases e'
  rw [d] at d'
  injection d' with d1 _
  have:its=its':=by simpa using congrArg Array.toList d1
  subst this
  exact r.inj r'
theorem Inv.tuple_inj (I:Inv X pins σ H s) (h:SqT X.K H a xs) (h':SqT X.K H a ys):xs=ys:=by
  obtain ⟨its,r,⟨o,e,_,n,d⟩,_⟩:=I.tuple h
  obtain ⟨its',r',⟨o',e',_,n',d'⟩,_⟩:=I.tuple h'
  rw [e] at e';cases e'
  rw [d] at d'
  injection d' with d1 _
  have:its=its':=by simpa using congrArg Array.toList d1
  subst this
  exact r.inj r'
end
abbrev Cx.wish (X:Cx) (E:Value->Shared->Prop):Cx:={ X with xe:=E }
abbrev Cx.nox (X:Cx):Cx:=X.wish fun _ _=>False
theorem Cx.Ok.wish {X:Cx} (ok:X.Ok) (E:Value->Shared->Prop):(X.wish E).Ok :=
  ⟨ok.mod,ok.kind,ok.glob,ok.blt,ok.above,ok.inj,ok.has,ok.cab,ok.hd,ok.frames,ok.stk,ok.exf,ok.bs,ok.bsz,ok.noex,ok.exfs,ok.funs,ok.frf⟩
theorem Cx.Ok.unwish {X:Cx} {E:Value->Shared->Prop} (ok:(X.wish E).Ok):X.Ok :=
  ⟨ok.mod,ok.kind,ok.glob,ok.blt,ok.above,ok.inj,ok.has,ok.cab,ok.hd,ok.frames,ok.stk,ok.exf,ok.bs,ok.bsz,ok.noex,ok.exfs,ok.funs,ok.frf⟩
section
variable {X:Cx} {pins:List (Addr × Obj)} {σ:St} {H:Hp} {s:Shared} {E:Value->Shared->Prop}
theorem Inv.wish (I:Inv X pins σ H s) (E:Value->Shared->Prop):Inv (X.wish E) pins σ H s:=⟨I.ok.wish E,I.os,I.bare,I.base,I.loc,I.cell,I.free,I.freeC,I.pin,I.hok,I.len⟩
theorem Inv.unwish (I:Inv (X.wish E) pins σ H s):Inv X pins σ H s:=⟨I.ok.unwish,I.os,I.bare,I.base,I.loc,I.cell,I.free,I.freeC,I.pin,I.hok,I.len⟩
theorem SP.unwish {D:Ends} {f:Flow} {s':Shared} (h:SP (X.wish E) pins D f s'):SP X pins D f s':=by
  cases f with
  | next=>obtain ⟨σ',H',I,q⟩:=h;exact ⟨σ',H',I.unwish,q⟩
  | brk=>obtain ⟨σ',H',I,q⟩:=h;exact ⟨σ',H',I.unwish,q⟩
  | cont=>obtain ⟨σ',H',I,q⟩:=h;exact ⟨σ',H',I.unwish,q⟩
  | ret u=>obtain ⟨v,σ',H',I,r,q⟩:=h;exact ⟨v,σ',H',I.unwish,r,q⟩
theorem PSs.nox {st:List Stmt} {t:TS} (h:PSs X.nox st t):PSs X st t:=fun pins s σ H D I hw =>
  wpAny_mono (h pins s σ H D (I.wish _) hw) (fun _ _ q=>q.unwish) fun _ _ z=>False.elim z
end
section
variable {X:Cx} {st:Stmt} {rest:List Stmt} {t u:TS} {e:Expr} {te:TE} {pos:Pos}
def tNext:TS:=fun D σ H=>D.nx σ H
def tSeq (t u:TS):TS:=fun D σ H=>t { D with nx:=u D } σ H
theorem pss_nil:PSs X [] tNext:=fun _ _ σ H _ I h=>wpAny_execs_nil ⟨σ,H,I,h⟩
theorem pss_cons (h1:PS X st t) (h2:PSs X rest u):PSs X (st :: rest) (tSeq t u):=by
  intro pins s σ H D I h
  refine wpAny_execs_cons (thn (h1 pins s σ H { D with nx:=u D } I h) fun f s1 q=>?_)
  cases f with
  | next =>
    obtain ⟨σ',H',I',q⟩:=q
    exact h2 pins s1 σ' H' D I' q
  | ret v=>exact q
  | brk=>exact q
  | cont=>exact q
theorem pss_one (h1:PS X st t):PSs X [st] t:=by
  intro pins s σ H D I h
  refine wpAny_execs_cons (thn (h1 pins s σ H D I h) fun f s1 q=>?_)
  cases f with
  | next=>exact wpAny_execs_nil q
  | ret v=>exact q
  | brk=>exact q
  | cont=>exact q
theorem Inv.quiet {pins:List (Addr × Obj)} {σ:St} {H:Hp} {s:Shared} (I:Inv X pins σ H s):interactive X.env=false:=by simp [interactive,I.ok.kind]
def tDrop (te:TE):TS:=fun D σ H=>te σ H fun _ H1=>D.nx σ H1
theorem ps_expr (he:PE X e te) (hs:swapsWith e none pos.line X.env=pure false:=by rfl):PS X (.Expr e pos) (tDrop te):=by
  intro pins s σ H D I h
  exact wpAny_Expr_any (thn (he pins s σ H _ I h) fun v s1 ⟨x,H1,I1,r1,q1⟩=>⟨σ,H1,I1,q1⟩) I.quiet hs
def tRet (te:TE):TS:=fun D σ H=>te σ H D.rt
theorem ps_ret (he:PE X e te):PS X (.Return (some e) pos) (tRet te):=by
  intro pins s σ H D I h
  exact wpAny_Return_some (thn (he pins s σ H _ I h) fun v s1 ⟨x,H1,I1,r1,q1⟩=>⟨x,σ,H1,I1,r1,q1⟩)
def tIfS (c:TT) (t u:TS):TS:=fun D σ H=>c σ H fun b H1=>if b=true then t D σ H1 else u D σ H1
theorem ps_if {c:Expr} {a b:List Stmt} {tc:TT} (hc:PT X c tc) (ha:PSs X a t) (hb:PSs X b u):PS X (.If c a b pos) (tIfS tc t u):=by
  intro pins s σ H D I h
  refine wpAny_If (thn (hc pins s σ H _ I h) fun d s1 ⟨H1,I1,q1⟩=>?_)
  cases d with
  | true=>exact ha pins s1 σ H1 D I1 q1
  | false=>exact hb pins s1 σ H1 D I1 q1
end
abbrev TG:=V->St->Hp->(St->Hp->Prop)->Prop
abbrev TGs:=List V->St->Hp->(St->Hp->Prop)->Prop
def PG (X:Cx) (target:Expr) (t:TG):Prop :=
  ∀ (pins:List (Addr × Obj)) (s:Shared) (σ:St) (H:Hp) (v:V) (u:Value) (Q:St->Hp->Prop),Inv X pins σ H s->RelV v u->t v σ H Q ->
    wpAny (model X.prog X.w) X.A (assign target X.env u) (fun _ s'=>∃ σ' H',Inv X pins σ' H' s'/\Q σ' H') X.xe s
def PGs (X:Cx) (ts:List Expr) (t:TGs):Prop :=
  ∀ (pins:List (Addr × Obj)) (s:Shared) (σ:St) (H:Hp) (vs:List V) (us:List Value) (Q:St->Hp->Prop),Inv X pins σ H s->Vals vs us->t vs σ H Q ->
    wpAny (model X.prog X.w) X.A (assignInOrder ((assignEach ts X.env).map (·.2)) us) (fun _ s'=>∃ σ' H',Inv X pins σ' H' s'/\Q σ' H') X.xe s
abbrev TSet:=V->V->V->Hp->(Hp->Prop)->Prop
def PSet (X:Cx) (t:TSet):Prop :=
  ∀ (pins:List (Addr × Obj)) (s:Shared) (σ:St) (H:Hp) (o i v:V) (ov iv u:Value) (Q:Hp->Prop),Inv X pins σ H s->RelV o ov->RelV i iv->RelV v u->t o i v H Q ->
    wpAny (model X.prog X.w) X.A (setItem ov iv u) (fun _ s'=>∃ H',Inv X pins σ H' s'/\Q H') X.xe s
abbrev TIp:=V->V->Hp->VK->Prop
def PIp (X:Cx) (op:Operator) (t:TIp):Prop :=
  ∀ (pins:List (Addr × Obj)) (s:Shared) (σ:St) (H:Hp) (x y:V) (v u:Value) (Q:VK),Inv X pins σ H s->RelV x v->RelV y u->t x y H Q ->
    wpAny (model X.prog X.w) X.A (inplaceOp op v u) (EP X pins σ Q) X.xe s
section
variable {X:Cx} {pos:Pos}
def gName (i:Nat):TG:=fun v σ H Q=>Q (σ.set i (some v)) H
theorem pg_name {i:Nat} {x:Str} (hN:X.N.Nodup) (hi:X.N[i]?=some x) (hx:Loc X.env.scope x) (hf:X.fn x=true ∨ X.env.scope.names.lookup x=some .local:=by first | exact .inl rfl | exact .inr rfl | assumption):PG X (.Name x pos) (gName i):=by
  intro pins s σ H v u Q I r h
  exact wpAny_assign_Name (store_ok I hN hi hx r (fun s' I'=>⟨_,H,I',h⟩) hf)
def gNil:TGs:=fun vs σ H Q=>vs=[]/\Q σ H
def gCons (t:TG) (u:TGs):TGs:=fun vs σ H Q=>∃ v r,vs=v :: r/\t v σ H fun σ' H'=>u r σ' H' Q
theorem pgs_nil:PGs X [] gNil:=by
  intro pins s σ H vs us Q I r h
  obtain ⟨e,h⟩:=h
  subst e
  cases r
  exact assignInOrder_nil ⟨σ,H,I,h⟩
theorem pgs_cons {e:Expr} {es:List Expr} {t:TG} {u:TGs} (h1:PG X e t) (h2:PGs X es u)
    (hs:(assignEach (e :: es) X.env).map (·.2)=assign e X.env :: (assignEach es X.env).map (·.2):=by rfl):PGs X (e :: es) (gCons t u):=by
  intro pins s σ H vs us Q I r h
  obtain ⟨v,vr,e1,h⟩:=h
  subst e1
  cases r with
  | cons r rr =>
    rw [hs]
    refine assignInOrder_cons (thn (h1 pins s σ H _ _ _ I r h) fun _ s1 ⟨σ1,H1,I1,q1⟩=>?_)
    exact h2 pins s1 σ1 H1 _ _ Q I1 rr q1
def gTup (K:PySem.W.Frag) (n:Nat) (t:TGs):TG:=fun v σ H Q=>∃ a xs,v=.ref a/\SqT K H a xs/\xs.length=n/\t xs σ H Q
theorem pg_tup {es:List Expr} {k:Nat} {t:TGs} {n:Nat} (hc:X.calm=true) (h:PGs X es t)
    (hn:(assignEach es X.env).length=n:=by rfl) (hst:(assignEach es X.env).findIdx? (·.1)=none:=by rfl):PG X (.Tuple es k pos) (gTup X.K n t):=by
  intro pins s σ H v u Q I r hw
  obtain ⟨a,xs,e1,hq,hl,hw⟩:=hw
  subst e1
  cases r
  obtain ⟨its,rv,ht,hz⟩:=I.tuple hq
  refine assign_Tuple_tuple (I.ok.hd hc) ht (by simp [hn,<- hl,rv.length]) hst fun h' hx=>?_
  have I1:Inv X pins σ H { s with heap:=h' }:=I.kept (t':=s.toks) fun b o e=>hx b o (Nat.ne_of_lt (Heap.lt_size e)) e
  exact h pins _ σ H xs _ Q I1 (by simpa using rv) hw
def gSub (to ti:TE) (t:TSet):TG:=fun v σ H Q=>to σ H fun o H1=>ti σ H1 fun i H2=>t o i v H2 fun H3=>Q σ H3
theorem pg_sub {o i:Expr} {to ti:TE} {t:TSet} (ho:PE X o to) (hi:PE X i ti) (hs:PSet X t)
    (ha:∀ v,assign (.Subscript o i pos) X.env v=(do
      let ov <- holding [v] (eval o X.env)
      let iv <- holding [v,ov] (eval i X.env)
      standAt pos
      holding [v,ov,iv] (setItem ov iv v)
      release [v,ov,iv] []):=by intro _;rfl):PG X (.Subscript o i pos) (gSub to ti t):=by
  intro pins s σ H v u Q I r h
  rw [ha]
  refine wpAny_bind (wpAny_holding (thn (ho pins s σ H _ I h) fun ov s1 ⟨x,H1,I1,r1,q1⟩=>?_))
  refine wpAny_bind (wpAny_holding (thn (hi pins s1 σ H1 _ I1 q1) fun iv s2 ⟨y,H2,I2,r2,q2⟩=>?_))
  refine wpAny_bind (wpAny_standAt (wpAny_bind (wpAny_holding (thn (hs pins s2 σ H2 x y v ov iv u _ I2 r1 r2 r q2) fun _ s3 ⟨H3,I3,q3⟩=>?_))))
  exact wpAny_release ⟨σ,H3,I3,q3⟩
def tAsg (te:TE) (g:TG):TS:=fun D σ H=>te σ H fun x H1=>g x σ H1 D.nx
theorem ps_asg {tg e:Expr} {te:TE} {g:TG} (he:PE X e te) (hg:PG X tg g) (hs:swapsWithSole [tg] e pos.line X.env=pure false:=by rfl) (hw:swappedStores [tg] e X.env=pure none:=by rfl)
    (h1:(assignEach [tg] X.env).map (·.2)=[assign tg X.env]:=by rfl):PS X (.Assign [tg] e pos) (tAsg te g):=by
  intro pins s σ H D I h
  refine wpAny_Assign_stores (thn (he pins s σ H _ I h) fun v s1 ⟨x,H1,I1,r1,q1⟩=>?_) hs hw
  rw [h1]
  exact thn (hg pins s1 σ H1 x v _ I1 r1 q1) fun _ s2 q=>q
theorem ps_set {i:Nat} {x:Str} {e:Expr} {te:TE} {pos':Pos} (hN:X.N.Nodup) (hi:X.N[i]?=some x) (hx:Loc X.env.scope x) (he:PE X e te) (hs:swapsWith e (some (.Name x pos')) pos.line X.env=pure false:=by rfl) (hf:X.fn x=true ∨ X.env.scope.names.lookup x=some .local:=by first | exact .inl rfl | exact .inr rfl | assumption) :
    PS X (.Assign [.Name x pos'] e pos) (tAsg te (gName i)):=by
  intro pins s σ H D I h
  refine wpAny_Assign_Name (thn (he pins s σ H _ I h) fun v s1 ⟨y,H1,I1,r1,q1⟩=>?_) hs
  exact store_ok I1 hN hi hx r1 (fun s2 I2=>⟨_,H1,I2,q1⟩) hf
def tPar (i j:Nat) (ta:TA):TS:=fun D σ H=>ta σ H fun vs H1=>∃ v w,vs=[v,w]/\D.nx ((σ.set i (some v)).set j (some w)) H1
theorem ps_par {i j:Nat} {x y:Str} {a b:Expr} {ta:TA} {px py pt:Pos} {kt k2 pt2} (hc:X.calm=true) (hN:X.N.Nodup) (hi:X.N[i]?=some x) (hj:X.N[j]?=some y) (hij:i ≠ j)
    (hx:X.env.scope.names.lookup x=some .local) (hy:X.env.scope.names.lookup y=some .local) (ha:PA X [a,b] ta)
    (hw:swappedStores [.Tuple [.Name x px,.Name y py] kt pt] (.Tuple [a,b] k2 pt2) X.env=pure (some [x,y]))
    (hs:swapsWithSole [.Tuple [.Name x px,.Name y py] kt pt] (.Tuple [a,b] k2 pt2) pos.line X.env=pure false:=by rfl) :
    PS X (.Assign [.Tuple [.Name x px,.Name y py] kt pt] (.Tuple [a,b] k2 pt2) pos) (tPar i j ta):=by
  intro pins s σ H D I h
  rw [exec_Assign_arm]
  refine wpAny_bind (wpAny_standAt ?_)
  rw [hs]
  refine wpAny_bind (wpAny_pure ?_)
  rw [if_neg (by decide)]
  refine wpAny_bind (Tuple_ (thn (ha _ pins s σ H _ I h) fun us s1 ⟨vs,H1,I1,r1,q1⟩=>?_))
  obtain ⟨v,w,e1,q1⟩:=q1
  subst e1
  obtain ⟨u1,u2,rfl,rv,rw'⟩:∃ u1 u2,us=[u1,u2]/\RelV v u1/\RelV w u2:=by
    cases r1 with
    | cons p q =>
      cases q with
      | cons p' q' =>
        cases q'
        exact ⟨_,_,rfl,p,p'⟩
  refine wpAny_newObj_type ?_ (by show 2 <= sizeLine;decide)
  have I2:Inv X pins σ H1 { s1 with heap:=s1.heap.push { cls:=.type "tuple",data:=.seq [u1,u2].toArray } }:=I1.kept (t':=s1.toks) fun b o e=>Heap.get?_push_of_some _ e
  rw [hw]
  refine wpAny_bind (wpAny_pure ?_)
  show wpAny (model X.prog X.w) X.A (do rule "assign.swapped-stores";let items <- unpackItems (.ref s1.heap.objs.size) 2 none;assignInOrder [fun v=>bindName X.env y v,fun v=>bindName X.env x v] items.reverse;pure Flow.next) _ _ _
  refine wpAny_bind (wpAny_rule (wpAny_bind (unpackItems_tuple (items:=#[u1,u2]) (I.ok.hd hc) (IsTup.new s1.heap _) fun h' hx'=>?_)))
  have I3:=I2.kept (h':=h') (t':=s1.toks) fun b o e=>hx' b o (Nat.ne_of_lt (Heap.lt_size e)) e
  show wpAny _ _ (assignInOrder [fun v=>bindName X.env y v,fun v=>bindName X.env x v] [u2,u1] >>= fun _=>pure Flow.next) _ _ _
  refine wpAny_bind (assignInOrder_cons (wpAny_bindName (store_ok I3 hN hj (.inl hy) rw' (fun s2 I4=>?_) (.inr hy))))
  refine assignInOrder_cons (wpAny_bindName (store_ok I4 hN hi (.inl hx) rv (fun s3 I5=>assignInOrder_nil (wpAny_pure ?_)) (.inr hx)))
  rw [List.set_comm _ _ (Ne.symm hij)] at I5
  exact ⟨_,H1,I5,q1⟩
def tAug (i:Nat) (te:TE) (ti:TIp):TS:=fun D σ H=>∃ x,σ[i]?=some (some x)/\te σ H fun y H1=>ti x y H1 fun z H2=>D.nx (σ.set i (some z)) H2
theorem ps_aug {i:Nat} {x:Str} {e:Expr} {te:TE} {op:Operator} {ti:TIp} {pos':Pos} (hN:X.N.Nodup) (hi:X.N[i]?=some x) (hx:Loc X.env.scope x) (he:PE X e te) (ho:PIp X op ti) (hf:X.fn x=true ∨ X.env.scope.names.lookup x=some .local:=by first | exact .inl rfl | exact .inr rfl | assumption) :
    PS X (.AugAssign (.Name x pos') op e pos) (tAug i te ti):=by
  intro pins s σ H D I h
  obtain ⟨v,e1,h⟩:=h
  obtain ⟨m,hn,hl⟩:=I.loc
  have vis:Vis X.env.scope x:=by rcases hx with k | k;exact .inl k;exact .inr (.inl k)
  obtain ⟨u,r,l⟩:=hl i x v hi e1 vis
  refine wpAny_AugAssign_Name ?_
  have go:wpAny (model X.prog X.w) X.A (eval e X.env) (fun w s₂=>wpAny (model X.prog X.w) X.A (inplaceOp op u w) (fun r s₃=>wpAny (model X.prog X.w) X.A (storeName X.env x r) (fun _=>SP X pins D .next) X.xe s₃) X.xe s₂) X.xe s:=by
    refine thn (he pins s σ H _ I h) fun w s1 ⟨y,H1,I1,r1,q1⟩=>?_
    refine thn (ho pins s1 σ H1 v y u w _ I1 r r1 q1) fun z s2 ⟨zv,H2,I2,r2,q2⟩=>?_
    exact store_ok I2 hN hi hx r2 (fun s3 I3=>⟨_,H2,I3,q2⟩) hf
  rcases l with ⟨hk,hm⟩ | ⟨hk,c,hc,hcell⟩
  · exact wpAny_loadName_local I.ok.kind hk hn hm go
  · rcases hk with hk | hk
    · exact wpAny_loadName_cell I.ok.kind hk hc hcell go
    · rcases hx with k | k
      · have:X.env.scope.names.lookup x=some .free:=hk
        rw [k] at this;cases this
      · have:X.env.scope.names.lookup x=some .free:=hk
        rw [k] at this;cases this
end
section
variable {X:Cx} {pos:Pos}
def tWhile (c:TT) (tb:TS):TS:=fun D σ H=>∃ W:Nat->St->Hp->Prop,(∃ m,W m σ H)/\∀ m σ H,W m σ H ->
  c σ H fun b H1=>if b=true then ∃ N:St->Hp->Prop,(∀ σ' H',N σ' H'->∃ m',m' < m/\W m' σ' H')/\tb { D with nx:=N,ct:=N,bk:=D.nx } σ H1 else D.nx σ H1
theorem ps_while {c:Expr} {body:List Stmt} {tc:TT} {tb:TS} (hp:PassesOwn (model X.prog X.w) X.A X.env X.xe) (hc:PT X c tc) (hb:PSs X body tb):PS X (.While c body [] pos) (tWhile tc tb):=by
  intro pins s σ H D I h
  obtain ⟨W,⟨m0,w0⟩,turn⟩:=h
  refine wpAny_While (codeAny_whileLoop (fun n s'=>∃ σ' H',Inv X pins σ' H' s'/\W n σ' H') ?_ m0 ⟨σ,H,I,w0⟩)
  rintro n s1 ⟨σ1,H1,I1,w1⟩
  refine wpAny_passesOwn hp (thn (hc pins s1 σ1 H1 _ I1 (turn n σ1 H1 w1)) fun b s2 ⟨H2,I2,q2⟩=>?_)
  cases b with
  | true =>
    obtain ⟨N,hN,q2⟩:=q2
    rw [if_pos rfl]
    refine wpAny_passesOwn hp (thn (hb pins s2 σ1 H2 _ I2 q2) fun f s3 q3=>?_)
    cases f with
    | next =>
      obtain ⟨σ3,H3,I3,n3⟩:=q3
      obtain ⟨m',hm,w3⟩:=hN σ3 H3 n3
      exact ⟨m',hm,σ3,H3,I3,w3⟩
    | cont =>
      obtain ⟨σ3,H3,I3,n3⟩:=q3
      obtain ⟨m',hm,w3⟩:=hN σ3 H3 n3
      exact ⟨m',hm,σ3,H3,I3,w3⟩
    | brk=>exact q3
    | ret v=>exact q3
  | false =>
    rw [if_neg Bool.false_ne_true]
    exact wpAny_execs_nil ⟨σ1,H2,I2,q2⟩
end
structure It where
  go:Nat->Hp->Prop
  yld:Nat->Hp->V->Hp->Prop
  stop:Nat->Hp->Prop
def FpOk (X:Cx) (pins:List (Addr × Obj)) (H:Hp) (b:Addr):Prop :=
  H b=none/\b ≠ X.env.locals/\b ∉ X.fs/\(b ∈ X.ex ∨ X.s₀.heap.objs.size <= b)/\(∀ x c,X.env.cells.lookup x=some c->c ≠ b)/\∀ p ∈ X.pn ++ pins,p.1 ≠ b
theorem Inv.fpOk {X:Cx} {pins:List (Addr × Obj)} {σ:St} {H H':Hp} {s:Shared} {b:Addr} (I:Inv X pins σ H s) (hb:s.heap.objs.size <= b) (hn:H' b=none):FpOk X pins H' b:=by
  refine ⟨hn,Nat.ne_of_gt (Nat.lt_of_lt_of_le I.lt hb),I.nofs hb,.inr (Nat.le_trans I.sz hb),fun x c e z=>?_,fun p hp z=>?_⟩
  · obtain ⟨v,q⟩:=I.cell x c e
    exact absurd (Nat.lt_of_lt_of_le q.lt (by rw [z];exact hb)) (Nat.lt_irrefl _)
  · exact absurd (Nat.lt_of_lt_of_le (Heap.lt_size (I.pin p hp).1) (by rw [z];exact hb)) (Nat.lt_irrefl _)
structure Turn (P:Program) (w:World) (K:PySem.W.Frag) (tg:Expr) (J:It) (fp:List Addr) (it:Addr) (tn:Nat->Heap->Prop):Prop where
  mem:it ∈ fp
  obj:∀ i h,tn i h->∀ b ∈ fp,∃ o,h.get? b=some o/\∀ v,o.data ≠ .cell v
  keep:∀ i h h',tn i h->(∀ b ∈ fp,∀ o,h.get? b=some o->h'.get? b=some o)->tn i h'
  item:∀ (X:Cx),X.prog=P->X.w=w->X.K=K->X.calm=true->∀ (i:Nat) (pins:List (Addr × Obj)) (s:Shared) (σ:St) (H:Hp) (E:Value->Shared->Prop),Inv X pins σ H s->(∀ b ∈ fp,FpOk X pins H b)->tn i s.heap->J.go i H ->
    wpAny (model P w) X.A (pyNext (.ref it)) (fun r s1=>∃ u,r=some u /\
      wpAny (model P w) X.A (letOwnedTupleGo tg (.ref it) u) (fun _ s2=>∃ x H',Inv X pins σ H' s2/\RelV x u/\J.yld i H x H'/\tn (i + 1) s2.heap/\∀ b ∈ fp,H' b=none) E s1) E s
  done:∀ (X:Cx),X.prog=P->X.w=w->X.K=K->X.calm=true->∀ (i:Nat) (pins:List (Addr × Obj)) (s:Shared) (σ:St) (H:Hp) (E:Value->Shared->Prop),Inv X pins σ H s->(∀ b ∈ fp,FpOk X pins H b)->tn i s.heap->J.stop i H ->
    wpAny (model P w) X.A (pyNext (.ref it)) (fun r s1=>r=none/\Inv X pins σ H s1) E s
  self:∀ (A:Around) (i:Nat) (s:Shared) (Q:Value->Shared->Prop) (E:Value->Shared->Prop),tn i s.heap->Q (.ref it) s->wpAny (model P w) A (pyIter (.ref it)) Q E s
abbrev TI:=St->Hp->(It->Hp->Prop)->Prop
def PIE (X:Cx) (pins:List (Addr × Obj)) (σ:St) (tg:Expr) (R:It->Hp->Prop) (itv:Value) (s2:Shared):Prop :=
  ∃ (it:Addr) (fp:List Addr) (tn:Nat->Heap->Prop) (J:It) (H':Hp),itv=.ref it/\Inv X pins σ H' s2/\Turn X.prog X.w X.K tg J fp it tn/\tn 0 s2.heap/\(∀ b ∈ fp,FpOk X pins H' b)/\R J H'
def PI (X:Cx) (tg iter:Expr) (wi:TI):Prop :=
  ∀ (pins:List (Addr × Obj)) (s:Shared) (σ:St) (H:Hp) (R:It->Hp->Prop),Inv X pins σ H s->wi σ H R ->
    wpAny (model X.prog X.w) X.A (eval iter X.env) (fun v s1=>wpAny (model X.prog X.w) X.A (pyIter v) (PIE X pins σ tg R) X.xe s1) X.xe s
theorem go_of {M:Model} {A:Around} {E:Value->Shared->Prop} {s:Shared} {tg:Expr} {it:Addr} {u:Value} {o:Obj} {n:String} {vs:Array Value} {Q:Unit->Shared->Prop} (ho:s.heap.get? it=some o) (hc:o.cls=.type n) (hd:o.data=.fields vs)
    (hn:["enumerate","zip","dict_itemiterator","dict_reverseitemiterator","odict_iterator","itertools.zip_longest","itertools.pairwise"].contains n=false) (hQ:Q () s):wpAny M A (letOwnedTupleGo tg (.ref it) u) Q E s:=by
  unfold letOwnedTupleGo
  cases tg <;> first
    | exact wpAny_pure hQ
    | (cases u <;> first
        | exact wpAny_pure hQ
        | (refine wpAny_bind (wpAny_load ho ?_)
           rw [hc,hd]
           show wpAny M A (if (["enumerate","zip","dict_itemiterator","dict_reverseitemiterator","odict_iterator","itertools.zip_longest","itertools.pairwise"].contains n && vs[0]? == some (rawInt _))=true then _ else _) Q E s
           rw [if_neg (by intro h;rw [hn,Bool.false_and] at h;cases h)]
           exact wpAny_pure hQ))
def Itl (K:PySem.W.Frag) (a:Addr):It :=
  ⟨fun i H=>∃ xs x,SqL K H a xs/\xs[i]?=some x,fun i H x H'=>H'=H/\∀ xs,SqL K H a xs->xs[i]?=some x,fun i H=>∃ xs,SqL K H a xs/\xs.length <= i⟩
def Itt (K:PySem.W.Frag) (a:Addr):It :=
  ⟨fun i H=>∃ xs x,SqT K H a xs/\xs[i]?=some x,fun i H x H'=>H'=H/\∀ xs,SqT K H a xs->xs[i]?=some x,fun i H=>∃ xs,SqT K H a xs/\xs.length <= i⟩
def Itr (lo:Int) (n:Nat):It:=⟨fun i _=>i < n,fun i H x H'=>H'=H/\x=.int (lo + i),fun i _=>n <= i⟩
theorem turn_list {P:Program} {w:World} {K:PySem.W.Frag} {tg:Expr} (a it:Addr):Turn P w K tg (Itl K a) [it] it (fun i h=>h.IsListIter it a i) where
  mem:=by simp
  obj:=fun i h st b hb=>by
    have e:b=it:=by simpa using hb
    subst e
    obtain ⟨o,e,c,d⟩:=st
    exact ⟨o,e,fun v z=>by rw [d] at z;cases z⟩
  keep:=fun i h h' st k=>st.at fun o e=>k it (by simp) o e
  item:=by
    intro X hP hw hK hc i pins s σ H E I hf st hg
    subst hP hw hK
    obtain ⟨xs,x,hq,hx⟩:=hg
    obtain ⟨its,rv,p,hz⟩:=I.list hq
    obtain ⟨u,hu,ru⟩:=rv.get hx
    obtain ⟨f0,f1,f2,f3,f4,f5⟩:=hf it (by simp)
    refine wpAny_pyNext_list_item st p.isList (x:=u) (by simpa using hu) fun h' st' sb=>?_
    have I1:Inv X pins σ H { s with heap:=h' }:=I.turned (t':=s.toks) (fun b o hb e=>(sb.2 b hb).trans e) f0 f1 f3 f4 f5
    obtain ⟨o,e,c,d⟩:=id st'
    exact ⟨u,rfl,go_of (s:={ s with heap:=h' }) e c d (by decide) ⟨x,H,I1,ru,⟨rfl,fun ys hy=>by rw [I.list_inj hy hq];exact hx⟩,st',fun b hb=>(hf b hb).1⟩⟩
  done:=by
    intro X hP hw hK hc i pins s σ H E I hf st hg
    subst hP hw hK
    obtain ⟨xs,hq,hx⟩:=hg
    obtain ⟨its,rv,p,hz⟩:=I.list hq
    obtain ⟨f0,f1,f2,f3,f4,f5⟩:=hf it (by simp)
    have hl:=rv.length
    exact wpAny_pyNext_list_end (I.ok.hd hc) st p.isList (by simp;omega) fun h' eb=>⟨rfl,I.turned (t':=s.toks) (fun b o hb e=>eb b o hb e) f0 f1 f3 f4 f5⟩
  self:=fun _ _ _ _ _ st h=>wpAny_pyIter_listiter st h
theorem turn_tuple {P:Program} {w:World} {K:PySem.W.Frag} {tg:Expr} (a it:Addr):Turn P w K tg (Itt K a) [it] it (fun i h=>h.IsTupleIter it a i) where
  mem:=by simp
  obj:=fun i h st b hb=>by
    have e:b=it:=by simpa using hb
    subst e
    obtain ⟨o,e,c,d⟩:=st
    exact ⟨o,e,fun v z=>by rw [d] at z;cases z⟩
  keep:=fun i h h' st k=>st.at fun o e=>k it (by simp) o e
  item:=by
    intro X hP hw hK hc i pins s σ H E I hf st hg
    subst hP hw hK
    obtain ⟨xs,x,hq,hx⟩:=hg
    obtain ⟨its,rv,p,hz⟩:=I.tuple hq
    obtain ⟨u,hu,ru⟩:=rv.get hx
    obtain ⟨f0,f1,f2,f3,f4,f5⟩:=hf it (by simp)
    refine wpAny_pyNext_tuple_item st (show s.heap.IsTuple a its.toArray from p) (x:=u) (by simpa using hu) fun h' st' sb=>?_
    have I1:Inv X pins σ H { s with heap:=h' }:=I.turned (t':=s.toks) (fun b o hb e=>(sb.2 b hb).trans e) f0 f1 f3 f4 f5
    obtain ⟨o,e,c,d⟩:=id st'
    exact ⟨u,rfl,go_of (s:={ s with heap:=h' }) e c d (by decide) ⟨x,H,I1,ru,⟨rfl,fun ys hy=>by rw [I.tuple_inj hy hq];exact hx⟩,st',fun b hb=>(hf b hb).1⟩⟩
  done:=by
    intro X hP hw hK hc i pins s σ H E I hf st hg
    subst hP hw hK
    obtain ⟨xs,hq,hx⟩:=hg
    obtain ⟨its,rv,p,hz⟩:=I.tuple hq
    obtain ⟨f0,f1,f2,f3,f4,f5⟩:=hf it (by simp)
    have hl:=rv.length
    exact wpAny_pyNext_tuple_end (I.ok.hd hc) st (show s.heap.IsTuple a its.toArray from p) (by simp;omega) fun h' eb=>⟨rfl,I.turned (t':=s.toks) (fun b o hb e=>eb b o hb e) f0 f1 f3 f4 f5⟩
  self:=fun _ _ _ _ _ st h=>wpAny_pyIter_tupleiter st h
theorem turn_range {P:Program} {w:World} {K:PySem.W.Frag} {tg:Expr} (it:Addr) (lo:Int) (n:Nat):Turn P w K tg (Itr lo n) [it] it (fun i h=>IsRangeIter h it (lo + (i:Nat) * 1) ((n:Int) - (i:Nat)) 1) where
  mem:=by simp
  obj:=fun i h st b hb=>by
    have e:b=it:=by simpa using hb
    subst e
    exact ⟨_,st,fun v z=>by
      have z':Data.fields _=Data.cell v:=z
      cases z'⟩
  keep:=fun i h h' st k=>k it (by simp) _ st
  item:=by
    intro X hP hw hK hc i pins s σ H E I hf st hg
    subst hP hw hK
    obtain ⟨f0,f1,f2,f3,f4,f5⟩:=hf it (by simp)
    have W:=Walks.range (prog:=X.prog) (w:=X.w) (I.ok.hd hc) it lo 1 n
    refine W.item i s _ _ hg st fun v h' tk hv st' kk=>?_
    obtain ⟨t,rfl⟩:=hv
    have I1:Inv X pins σ H { s with heap:=h',toks:=tk }:=I.turned (fun b o hb e=>kk b o (by simpa using hb) e) f0 f1 f3 f4 f5
    refine ⟨_,rfl,go_of (s:={ s with heap:=h',toks:=tk }) (n:="range_iterator") st' rfl rfl (by decide) ⟨.int (lo + i),H,I1,⟨t,?_⟩,⟨rfl,rfl⟩,st',fun b hb=>(hf b hb).1⟩⟩
    rw [Int.mul_one]
  done:=by
    intro X hP hw hK hc i pins s σ H E I hf st hg
    subst hP hw hK
    obtain ⟨f0,f1,f2,f3,f4,f5⟩:=hf it (by simp)
    exact wpAny_pyNext_range_end (I.ok.hd hc) st (by have:n <= i:=hg;omega) fun h' eb=>⟨rfl,I.turned (t':=s.toks) (fun b o hb e=>eb b o hb e) f0 f1 f3 f4 f5⟩
  self:=fun _ _ _ _ _ st h=>wpAny_pyIter_rangeiter st h
end L2
namespace L2
open PySem PySem.Spec PyProof.Rows
section
variable {X:Cx} {tg:Expr}
def iList (K:PySem.W.Frag) (tl:TE):TI:=fun σ H R=>tl σ H fun x H1=>∃ a,x=.ref a/\(∃ xs,SqL K H1 a xs)/\R (Itl K a) H1
def iTup (K:PySem.W.Frag) (tl:TE):TI:=fun σ H R=>tl σ H fun x H1=>∃ a,x=.ref a/\(∃ xs,SqT K H1 a xs)/\R (Itt K a) H1
theorem pi_list {l:Expr} {tl:TE} (hl:PE X l tl):PI X tg l (iList X.K tl):=by
  intro pins s σ H R I h
  refine thn (hl pins s σ H _ I h) fun v s1 ⟨x,H1,I1,r1,q1⟩=>?_
  obtain ⟨a,e,⟨xs,hq⟩,q⟩:=q1
  subst e
  cases r1
  obtain ⟨its,rv,p,hz⟩:=I1.list hq
  refine wpAny_pyIter_list p.isList ?_
  refine ⟨s1.heap.objs.size,[s1.heap.objs.size],_,_,H1,rfl,I1.kept (t':=s1.toks) fun b o e=>Heap.get?_push_of_some _ e,turn_list a _,⟨_,Heap.get?_push_size _ rfl,rfl,rfl⟩,fun b hb=>?_,q⟩
  have e:b=s1.heap.objs.size:=by simpa using hb
  subst e
  exact I1.fpOk (Nat.le_refl _) (I1.hok.fresh (Nat.le_refl _))
theorem pi_tup {l:Expr} {tl:TE} (hl:PE X l tl):PI X tg l (iTup X.K tl):=by
  intro pins s σ H R I h
  refine thn (hl pins s σ H _ I h) fun v s1 ⟨x,H1,I1,r1,q1⟩=>?_
  obtain ⟨a,e,⟨xs,hq⟩,q⟩:=q1
  subst e
  cases r1
  obtain ⟨its,rv,p,hz⟩:=I1.tuple hq
  refine wpAny_pyIter_tuple (show s1.heap.IsTuple a its.toArray from p) ?_
  refine ⟨s1.heap.objs.size,[s1.heap.objs.size],_,_,H1,rfl,I1.kept (t':=s1.toks) fun b o e=>Heap.get?_push_of_some _ e,turn_tuple a _,⟨_,Heap.get?_push_size _ rfl,rfl,rfl⟩,fun b hb=>?_,q⟩
  have e:b=s1.heap.objs.size:=by simpa using hb
  subst e
  exact I1.fpOk (Nat.le_refl _) (I1.hok.fresh (Nat.le_refl _))
theorem range_it {pins:List (Addr × Obj)} {σ:St} {H:Hp} {s:Shared} {R:It->Hp->Prop} {E:Value->Shared->Prop} {lo hi:Int} {t u v:Tok} {tk:Nat} (I:Inv X pins σ H s) (h1:-(2 ^ 62) <= lo) (h2:lo < 2 ^ 62) (h3:-(2 ^ 62) <= hi) (h4:hi < 2 ^ 62)
    (q:R (Itr lo (hi - lo).toNat) H):wpAny (model X.prog X.w) X.A (pyIter (.ref s.heap.objs.size)) (PIE X pins σ tg R) E { s with heap:=s.heap.push { cls:=.type "range",data:=.fields #[.int lo t,.int hi u,.int 1 v] },toks:=tk }:=by
  refine wpAny_pyIter_range (IsRange.new ..) (small_one h1 h2 h3 h4) ?_
  have I1:Inv X pins σ H { s with heap:=s.heap.push { cls:=.type "range",data:=.fields #[.int lo t,.int hi u,.int 1 v] },toks:=tk }:=I.kept fun b o e=>Heap.get?_push_of_some _ e
  refine ⟨(s.heap.push { cls:=.type "range",data:=.fields #[.int lo t,.int hi u,.int 1 v] }).objs.size,[(s.heap.push { cls:=.type "range",data:=.fields #[.int lo t,.int hi u,.int 1 v] }).objs.size],_,_,H,rfl,
    I1.kept (t':=tk) fun b o e=>Heap.get?_push_of_some _ e,turn_range _ lo (hi - lo).toNat,?_,fun b hb=>?_,q⟩
  · have e1:lo + ((0:Nat):Int) * 1=lo:=by simp
    have e2:(((hi - lo).toNat:Nat):Int) - ((0:Nat):Int)=Builtin.Range.rangeSize lo hi 1:=by rw [rangeSize_one];split <;> omega
    show IsRangeIter _ _ (lo + ((0:Nat):Int) * 1) ((((hi - lo).toNat:Nat):Int) - ((0:Nat):Int)) 1
    rw [e1,e2]
    exact Heap.get?_push_size _ rfl
  · have e:b=(s.heap.push { cls:=.type "range",data:=.fields #[.int lo t,.int hi u,.int 1 v] }).objs.size:=by simpa using hb
    subst e
    exact I1.fpOk (Nat.le_refl _) (I1.hok.fresh (Nat.le_refl _))
def iRng1 (ta:TA):TI:=fun σ H R=>ta σ H fun vs H1=>∃ j:Int,vs=[.int j]/\-(2 ^ 62) <= j/\j < 2 ^ 62/\R (Itr 0 j.toNat) H1
theorem pi_range1 {a:Expr} {ta:TA} {p pos:Pos} (hg:Gl X "range") (hm:X.mg "range"=none) (ha:PA X [a] ta) (hs:starEach [a] X.env=[(false,eval a X.env)]:=by rfl):PI X tg (.Call (.Name "range" p) [a] [] pos) (iRng1 ta):=by
  intro pins s σ H R I h
  refine Call_ (ld_blt I hg hm boot_range (PyProof.Rows.callWith_type1 (thn (ha pos pins s σ H _ I h) fun us s1 ⟨vs,H1,I1,r1,q1⟩=>?_) hs rfl))
  obtain ⟨j,e,q1,q2,q⟩:=q1
  subst e
  cases r1 with
  | cons r rr =>
    cases rr
    obtain ⟨t,rfl⟩:=r
    exact call_range_1 (range_it I1 (by omega) (by omega) q1 q2 (by simpa using q))
def tFor (wi:TI) (g:TG) (tb:TS):TS:=fun D σ H=>wi σ H fun J H1=>∃ W:Nat->Nat->St->Hp->Prop,(∃ m,W 0 m σ H1)/\∀ i m σ H,W i m σ H ->
  (J.stop i H/\D.nx σ H) ∨ (J.go i H/\∃ N:St->Hp->Prop,(∀ σ' H',N σ' H'->∃ m',m' < m/\W (i + 1) m' σ' H')/\∀ x H',J.yld i H x H'->g x σ H' fun σ2 H2=>tb { D with nx:=N,ct:=N,bk:=D.nx } σ2 H2)
def pinsAt (fp:List Addr) (h:Heap):List (Addr × Obj):=fp.filterMap fun b=>(h.get? b).map fun o=>(b,o)
theorem mem_pinsAt {fp:List Addr} {h:Heap} {b:Addr} {o:Obj} (hb:b ∈ fp) (e:h.get? b=some o):(b,o) ∈ pinsAt fp h:=List.mem_filterMap.mpr ⟨b,hb,by rw [e];rfl⟩
theorem of_pinsAt {fp:List Addr} {h:Heap} {p:Addr × Obj} (hp:p ∈ pinsAt fp h):p.1 ∈ fp/\h.get? p.1=some p.2:=by
  obtain ⟨b,hb,e⟩:=List.mem_filterMap.mp hp
  cases q:h.get? b with
  | none=>rw [q] at e;cases e
  | some o =>
    rw [q] at e
    have e':(b,o)=p:=Option.some.inj e
    subst e'
    exact ⟨hb,q⟩
theorem Inv.pinned {pins:List (Addr × Obj)} {σ:St} {H:Hp} {s:Shared} {fp:List Addr} (I:Inv X pins σ H s) (hf:∀ b ∈ fp,FpOk X pins H b) (ho:∀ b ∈ fp,∃ o,s.heap.get? b=some o/\∀ v,o.data ≠ .cell v):Inv X (pins ++ pinsAt fp s.heap) σ H s :=
  I.pins_of fun p hp=>(List.mem_append.mp hp).elim (fun z=>I.pin p (List.mem_append_right _ z)) fun z=>by
    obtain ⟨hb,e⟩:=of_pinsAt z
    obtain ⟨f0,f1,f2,_⟩:=hf p.1 hb
    obtain ⟨o,e',d⟩:=ho p.1 hb
    rw [e] at e';cases e'
    exact ⟨e,f0,f1,f2,d⟩
theorem Inv.unpinned {pins pl:List (Addr × Obj)} {σ:St} {H:Hp} {s:Shared} (I:Inv X (pins ++ pl) σ H s):Inv X pins σ H s:=I.pins_of fun p hp=>I.pin p (List.mem_append_right _ (List.mem_append_left _ hp))
theorem ps_for {iter:Expr} {body:List Stmt} {wi:TI} {g:TG} {tb:TS} {pos:Pos} (hp:PassesOwn (model X.prog X.w) X.A X.env X.xe) (hc:X.calm=true) (hi:PI X tg iter wi) (hg:PG X tg g) (hb:PSs X body tb)
    (hs:∀ x,foldedSetIterable iter X.env x=pure x:=by intro _;rfl):PS X (.For tg iter body [] pos) (tFor wi g tb):=by
  intro pins s σ H D I h
  refine wpAny_For (thn (hi pins s σ H _ I h) fun v s1 h1=>thn h1 fun itv s2 h2=>?_) hs
  obtain ⟨it,fp,tn,J,H2,e,I2,T,st2,f2,W,⟨m0,w0⟩,turn⟩:=h2
  subst e
  have stat:∀ {H':Hp},(∀ b ∈ fp,H' b=none)->∀ b ∈ fp,FpOk X pins H' b:=fun hn b hb=>⟨hn b hb,(f2 b hb).2⟩
  refine codeAny_forLoop_any (fun n s'=>∃ i σ' H',Inv X pins σ' H' s'/\tn i s'.heap/\(∀ b ∈ fp,H' b=none)/\W i n σ' H') ?_ m0 ⟨0,σ,H2,I2,st2,fun b hb=>(f2 b hb).1,w0⟩
  rintro n s3 ⟨i,σ3,H3,I3,st3,fr3,w3⟩
  rcases turn i n σ3 H3 w3 with ⟨stop,qn⟩ | ⟨go,N,hN,step⟩
  · refine wpAny_passesOwn hp (thn (T.done X rfl rfl rfl hc i pins s3 σ3 H3 X.xe I3 (stat fr3) st3 stop) fun r s4 ⟨hr,I4⟩=>?_)
    subst hr
    exact wpAny_execs_nil ⟨σ3,H3,I4,qn⟩
  · refine wpAny_passesOwn hp (thn (T.item X rfl rfl rfl hc i pins s3 σ3 H3 X.xe I3 (stat fr3) st3 go) fun r s4 ⟨u,hr,h4⟩=>?_)
    subst hr
    refine wpAny_passesOwn hp (thn h4 fun _ s5 ⟨x,H5,I5,r5,y5,st5,fr5⟩=>?_)
    have I5':=I5.pinned (stat fr5) (T.obj _ _ st5)
    refine wpAny_passesOwn hp (thn (hg _ s5 σ3 H5 x u _ I5' r5 (step x H5 y5)) fun _ s6 ⟨σ6,H6,I6,q6⟩=>?_)
    refine wpAny_passesOwn hp (thn (hb _ s6 σ6 H6 _ I6 q6) fun f s7 q7=>?_)
    have again:∀ {σ7:St} {H7:Hp},Inv X (pins ++ pinsAt fp s5.heap) σ7 H7 s7->N σ7 H7->∃ m,m < n/\∃ i σ' H',Inv X pins σ' H' s7/\tn i s7.heap/\(∀ b ∈ fp,H' b=none)/\W i m σ' H':=fun {σ7 H7} I7 n7=>by
      obtain ⟨m',hm,w7⟩:=hN σ7 H7 n7
      refine ⟨m',hm,i + 1,σ7,H7,I7.unpinned,T.keep _ _ _ st5 fun b hb o e=>(I7.pin (b,o) (List.mem_append_right _ (List.mem_append_right _ (mem_pinsAt hb e)))).1,fun b hb=>?_,w7⟩
      obtain ⟨o,e,d⟩:=T.obj _ _ st5 b hb
      exact (I7.pin (b,o) (List.mem_append_right _ (List.mem_append_right _ (mem_pinsAt hb e)))).2.1
    cases f with
    | next=>obtain ⟨σ7,H7,I7,n7⟩:=q7;exact again I7 n7
    | cont=>obtain ⟨σ7,H7,I7,n7⟩:=q7;exact again I7 n7
    | brk=>obtain ⟨σ7,H7,I7,q7⟩:=q7;exact ⟨σ7,H7,I7.unpinned,q7⟩
    | ret v=>obtain ⟨x7,σ7,H7,I7,r7,q7⟩:=q7;exact ⟨x7,σ7,H7,I7.unpinned,r7,q7⟩
end
theorem for_list {K:PySem.W.Frag} {a:Addr} {xs:List V} {g:TG} {tb:TS} {D:Ends} {σ:St} {H:Hp} (Pv:Nat->St->Hp->Prop) (h0:Pv 0 σ H) (hl:∀ i σ H,i <= xs.length->Pv i σ H->SqL K H a xs)
    (hs:∀ i x σ H,xs[i]?=some x->Pv i σ H->g x σ H fun σ2 H2=>tb { D with nx:=Pv (i + 1),ct:=Pv (i + 1),bk:=D.nx } σ2 H2) (hd:∀ σ H,Pv xs.length σ H->D.nx σ H) :
    ∃ W:Nat->Nat->St->Hp->Prop,(∃ m,W 0 m σ H)/\∀ i m σ H,W i m σ H ->
      ((Itl K a).stop i H/\D.nx σ H) ∨ ((Itl K a).go i H/\∃ N:St->Hp->Prop,(∀ σ' H',N σ' H'->∃ m',m' < m/\W (i + 1) m' σ' H')/\∀ x H',(Itl K a).yld i H x H'->g x σ H' fun σ2 H2=>tb { D with nx:=N,ct:=N,bk:=D.nx } σ2 H2):=by
  refine ⟨fun i m σ H=>m=xs.length - i/\i <= xs.length/\Pv i σ H,⟨xs.length,by simp,Nat.zero_le _,h0⟩,?_⟩
  rintro i m σ H ⟨rfl,hi,p⟩
  have q:=hl i σ H hi p
  by_cases hlt:i < xs.length
  · refine .inr ⟨⟨xs,xs[i],q,by simp [hlt]⟩,Pv (i + 1),fun σ' H' p'=>⟨xs.length - (i + 1),by omega,rfl,hlt,p'⟩,fun x H' y=>?_⟩
    obtain ⟨e,y⟩:=y
    subst e
    exact hs i x σ _ (y xs q) p
  · have e:i=xs.length:=by omega
    subst e
    exact .inl ⟨⟨xs,q,Nat.le_refl _⟩,hd σ H p⟩
theorem for_tup {K:PySem.W.Frag} {a:Addr} {xs:List V} {g:TG} {tb:TS} {D:Ends} {σ:St} {H:Hp} (Pv:Nat->St->Hp->Prop) (h0:Pv 0 σ H) (hl:∀ i σ H,i <= xs.length->Pv i σ H->SqT K H a xs)
    (hs:∀ i x σ H,xs[i]?=some x->Pv i σ H->g x σ H fun σ2 H2=>tb { D with nx:=Pv (i + 1),ct:=Pv (i + 1),bk:=D.nx } σ2 H2) (hd:∀ σ H,Pv xs.length σ H->D.nx σ H) :
    ∃ W:Nat->Nat->St->Hp->Prop,(∃ m,W 0 m σ H)/\∀ i m σ H,W i m σ H ->
      ((Itt K a).stop i H/\D.nx σ H) ∨ ((Itt K a).go i H/\∃ N:St->Hp->Prop,(∀ σ' H',N σ' H'->∃ m',m' < m/\W (i + 1) m' σ' H')/\∀ x H',(Itt K a).yld i H x H'->g x σ H' fun σ2 H2=>tb { D with nx:=N,ct:=N,bk:=D.nx } σ2 H2):=by
  refine ⟨fun i m σ H=>m=xs.length - i/\i <= xs.length/\Pv i σ H,⟨xs.length,by simp,Nat.zero_le _,h0⟩,?_⟩
  rintro i m σ H ⟨rfl,hi,p⟩
  have q:=hl i σ H hi p
  by_cases hlt:i < xs.length
  · refine .inr ⟨⟨xs,xs[i],q,by simp [hlt]⟩,Pv (i + 1),fun σ' H' p'=>⟨xs.length - (i + 1),by omega,rfl,hlt,p'⟩,fun x H' y=>?_⟩
    obtain ⟨e,y⟩:=y
    subst e
    exact hs i x σ _ (y xs q) p
  · have e:i=xs.length:=by omega
    subst e
    exact .inl ⟨⟨xs,q,Nat.le_refl _⟩,hd σ H p⟩
theorem for_range {lo:Int} {n:Nat} {g:TG} {tb:TS} {D:Ends} {σ:St} {H:Hp} (Pv:Nat->St->Hp->Prop) (h0:Pv 0 σ H)
    (hs:∀ i σ H,i < n->Pv i σ H->g (.int (lo + i)) σ H fun σ2 H2=>tb { D with nx:=Pv (i + 1),ct:=Pv (i + 1),bk:=D.nx } σ2 H2) (hd:∀ σ H,Pv n σ H->D.nx σ H) :
    ∃ W:Nat->Nat->St->Hp->Prop,(∃ m,W 0 m σ H)/\∀ i m σ H,W i m σ H ->
      ((Itr lo n).stop i H/\D.nx σ H) ∨ ((Itr lo n).go i H/\∃ N:St->Hp->Prop,(∀ σ' H',N σ' H'->∃ m',m' < m/\W (i + 1) m' σ' H')/\∀ x H',(Itr lo n).yld i H x H'->g x σ H' fun σ2 H2=>tb { D with nx:=N,ct:=N,bk:=D.nx } σ2 H2):=by
  refine ⟨fun i m σ H=>m=n - i/\i <= n/\Pv i σ H,⟨n,by simp,Nat.zero_le _,h0⟩,?_⟩
  rintro i m σ H ⟨rfl,hi,p⟩
  by_cases hlt:i < n
  · refine .inr ⟨hlt,Pv (i + 1),fun σ' H' p'=>⟨n - (i + 1),by omega,rfl,hlt,p'⟩,fun x H' y=>?_⟩
    obtain ⟨e,y⟩:=y
    subst e y
    exact hs i σ _ hlt p
  · have e:i=n:=by omega
    subst e
    exact .inl ⟨Nat.le_refl _,hd σ H p⟩
end L2
namespace L2
open PySem PySem.Spec PyProof.Rows
abbrev R2:=V->V->Hp->VK->Prop
def OpR (X:Cx) (f:Value->Value->Sem Value) (r:R2):Prop :=
  ∀ (pins:List (Addr × Obj)) (s:Shared) (σ:St) (H:Hp) (x y:V) (v u:Value) (Q:VK),Inv X pins σ H s->RelV x v->RelV y u->r x y H Q ->
    wpAny (model X.prog X.w) X.A (f v u) (EP X pins σ Q) X.xe s
def CallR (X:Cx) (f:Value) (r:List V->Hp->VK->Prop):Prop :=
  ∀ (pins:List (Addr × Obj)) (s:Shared) (σ:St) (H:Hp) (xs:List V) (us:List Value) (Q:VK),Inv X pins σ H s->Vals xs us->r xs H Q ->
    wpAny (model X.prog X.w) X.A (call f us) (EP X pins σ Q) X.xe s
def tOp (r:R2) (ta tb:TE):TE:=fun σ H Q=>ta σ H fun x H1=>tb σ H1 fun y H2=>r x y H2 Q
def rI (C:Int->Int->Prop) (g:Int->Int->V):R2:=fun x y H Q=>∃ i j,x=.int i/\y=.int j/\C i j/\Q (g i j) H
def rI0 (g:Int->Int->V):R2:=fun x y H Q=>∃ i j,x=.int i/\y=.int j/\Q (g i j) H
section
variable {X:Cx} {a b c:Expr} {ta tb tc:TE} {pos:Pos}
theorem binT (ha:PE X a ta) (hb:PE X b tb) {pins:List (Addr × Obj)} {s:Shared} {σ:St} {H:Hp} {R:V->V->Hp->Prop} (I:Inv X pins σ H s)
    (h:ta σ H fun x H1=>tb σ H1 fun y H2=>R x y H2) {Q:Value->Shared->Prop} {f:Value->Value->Sem Value}
    (hf:∀ v u s2 x y H2,Inv X pins σ H2 s2->RelV x v->RelV y u->R x y H2->wpAny (model X.prog X.w) X.A (f v u) Q X.xe s2) :
    wpAny (model X.prog X.w) X.A (eval a X.env) (fun v s₁=>wpAny (model X.prog X.w) X.A (eval b X.env) (fun u s₂=>wpAny (model X.prog X.w) X.A (f v u) Q X.xe s₂) X.xe s₁) X.xe s:=by
  refine thn (ha pins s σ H _ I h) fun v s1 ⟨x,H1,I1,r1,q1⟩=>?_
  refine thn (hb pins s1 σ H1 _ I1 q1) fun u s2 ⟨y,H2,I2,r2,q2⟩=>?_
  exact hf v u s2 x y H2 I2 r1 r2 q2
theorem pe_op {op:Operator} {r:R2} (ho:OpR X (binaryOp op) r) (ha:PE X a ta) (hb:PE X b tb):PE X (.BinOp a op b pos) (tOp r ta tb):=by
  intro pins s σ H Q I h
  exact wpAny_BinOp (binT ha hb I h fun v u s2 x y H2 I2 rx ry q=>ho pins s2 σ H2 x y v u Q I2 rx ry q)
theorem opI {f:Value->Value->Sem Value} {C:Int->Int->Prop} {g:Int->Int->Int}
    (rule:∀ (i j:Int) (t u:Tok) (s:Shared) (Q:Value->Shared->Prop) (E:Value->Shared->Prop),C i j->Q (.int (g i j) s.toks) { s with toks:=s.toks + 1 }->wpAny (model X.prog X.w) X.A (f (.int i t) (.int j u)) Q E s) :
    OpR X f (rI C fun i j=>.int (g i j)):=by
  intro pins s σ H x y v u Q I rx ry h
  obtain ⟨i,j,rfl,rfl,hc,q⟩:=h
  obtain ⟨t,rfl⟩:=rx
  obtain ⟨t',rfl⟩:=ry
  exact rule i j t t' s _ _ hc ⟨.int (g i j),H,I.tok _,⟨_,rfl⟩,q⟩
theorem opI0 {f:Value->Value->Sem Value} {g:Int->Int->Int}
    (rule:∀ (i j:Int) (t u:Tok) (s:Shared) (Q:Value->Shared->Prop) (E:Value->Shared->Prop),Q (.int (g i j) s.toks) { s with toks:=s.toks + 1 }->wpAny (model X.prog X.w) X.A (f (.int i t) (.int j u)) Q E s) :
    OpR X f (rI0 fun i j=>.int (g i j)):=by
  intro pins s σ H x y v u Q I rx ry h
  obtain ⟨i,j,rfl,rfl,q⟩:=h
  obtain ⟨t,rfl⟩:=rx
  obtain ⟨t',rfl⟩:=ry
  exact rule i j t t' s _ _ ⟨.int (g i j),H,I.tok _,⟨_,rfl⟩,q⟩
theorem opB0 {f:Value->Value->Sem Value} {g:Int->Int->Bool}
    (rule:∀ (i j:Int) (t u:Tok) (s:Shared) (Q:Value->Shared->Prop) (E:Value->Shared->Prop),Q (.bool (g i j)) s->wpAny (model X.prog X.w) X.A (f (.int i t) (.int j u)) Q E s) :
    OpR X f (rI0 fun i j=>.bl (g i j)):=by
  intro pins s σ H x y v u Q I rx ry h
  obtain ⟨i,j,rfl,rfl,q⟩:=h
  obtain ⟨t,rfl⟩:=rx
  obtain ⟨t',rfl⟩:=ry
  exact rule i j t t' s _ _ ⟨.bl (g i j),H,I,rfl,q⟩
def CDiv (i j:Int):Prop:=0 < j/\j < 1073741824
def CPow (i j:Int):Prop:=0 <= j/\j <= 1000000/\i.natAbs < 2 ^ 64
def CMul (i j:Int):Prop:=(-(2 ^ 64) < i/\i < 2 ^ 64) ∨ (-(2 ^ 64) < j/\j < 2 ^ 64)
theorem CMul.ok {i j:Int} (h:CMul i j):IntMulOk i j:=by
  rcases h with ⟨h1,h2⟩ | ⟨h1,h2⟩
  · exact .of_left (intBits_le_64 h1 h2)
  · exact .of_right (intBits_le_64 h1 h2)
theorem op_add:OpR X (binaryOp .Add) (rI0 fun i j=>.int (i + j)):=opI0 fun _ _ _ _ _ _ _ q=>add_int q
theorem op_sub:OpR X (binaryOp .Sub) (rI0 fun i j=>.int (i - j)):=opI0 fun _ _ _ _ _ _ _ q=>sub_int q
theorem op_mul:OpR X (binaryOp .Mult) (rI CMul fun i j=>.int (i * j)):=opI fun _ _ _ _ _ _ _ hc q=>mul_int q hc.ok
theorem op_fdiv:OpR X (binaryOp .FloorDiv) (rI CDiv fun i j=>.int (i / j)):=opI fun i j _ _ _ _ _ hc q=>by
  have h1:(0:Int) < j:=hc.1
  have h2:j < 1073741824:=hc.2
  exact floordiv_int (by omega) (by rw [Int.fdiv_eq_ediv_of_nonneg i (by omega)];exact q) (.inl (PyProof.noPylong_small (by omega)))
theorem op_mod:OpR X (binaryOp .Mod) (rI (fun _ j=>0 < j) fun i j=>.int (i % j)):=opI fun i j _ _ _ _ _ hc q=>by
  have h1:(0:Int) < j:=hc
  exact mod_int' (by omega) (by rw [Int.fmod_eq_emod_of_nonneg i (by omega)];exact q)
theorem op_pow:OpR X (binaryOp .Pow) (rI CPow fun i j=>.int (i ^ j.toNat)):=opI fun _ _ _ _ _ _ _ hc q=>pow_int_small hc.1 hc.2.1 hc.2.2 q
end
def scal:V->V->Bool
  | .non,.non=>true | .non,.int _=>true | .int _,.non=>true | .non,.bl _=>true | .bl _,.non=>true | .non,.str _=>true | .str _,.non=>true
  | .int _,.int _=>true | .bl _,.bl _=>true | .str _,.str _=>true | .byt _,.byt _=>true
  | .int _,.str _=>true | .str _,.int _=>true | .bl _,.str _=>true | .str _,.bl _=>true
  | _,_=>false
def rEq:R2:=fun x y H Q=>scal x y=true/\Q (.bl (decide (x=y))) H
def rNe:R2:=fun x y H Q=>scal x y=true/\Q (.bl (!decide (x=y))) H
theorem dec_int {i j:Int}:decide (V.int i=V.int j)=(i == j):=by
  rw [Bool.eq_iff_iff]
  simp
theorem dec_bl {i j:Bool}:decide (V.bl i=V.bl j)=(i == j):=by
  rw [Bool.eq_iff_iff]
  simp
theorem dec_str {i j:Str}:decide (V.str i=V.str j)=(i == j):=by
  rw [Bool.eq_iff_iff]
  simp
theorem dec_byt {i j:Array UInt8}:decide (V.byt i=V.byt j)=(i.toList == j.toList):=by
  rw [Bool.eq_iff_iff]
  cases i
  cases j
  simp
section
variable {X:Cx} {a b c:Expr} {ta tb tc:TE} {pos:Pos}
theorem fin_bl {pins:List (Addr × Obj)} {σ:St} {H:Hp} {s:Shared} {Q:VK} {k k':Bool} (I:Inv X pins σ H s) (q:Q (.bl k) H) (e:k=k'):EP X pins σ Q (.bool k') s:=by
  subst e
  exact ⟨.bl k,H,I,rfl,q⟩
theorem op_eq:OpR X (compareOp .Eq) rEq:=by
  intro pins s σ H x y v u Q I rx ry h
  obtain ⟨hs,q⟩:=h
  cases x with
  | non =>
    cases rx
    cases y with
    | non=>cases ry;exact PySem.EqNone.eq_none_none (fin_bl I q (by simp))
    | bl j=>cases ry;exact PySem.EqNone.eq_none_bool (fin_bl I q (by simp))
    | int j=>obtain ⟨t',rfl⟩:=ry;exact PySem.EqNone.eq_none_int (fin_bl I q (by simp))
    | str j=>obtain ⟨t',rfl⟩:=ry;exact PySem.EqNone.eq_none_str (fin_bl I q (by simp))
    | _=>exact absurd (show false=true from hs) Bool.false_ne_true
  | bl i =>
    cases rx
    cases y with
    | non=>cases ry;exact PySem.EqNone.eq_bool_none (fin_bl I q (by simp))
    | bl j=>cases ry;exact eq_bool (fin_bl I q dec_bl)
    | str j=>obtain ⟨t',rfl⟩:=ry;exact PySem.EqMixed.eq_bool_str (fin_bl I q (by simp))
    | _=>exact absurd (show false=true from hs) Bool.false_ne_true
  | int i =>
    obtain ⟨t,rfl⟩:=rx
    cases y with
    | non=>cases ry;exact PySem.EqNone.eq_int_none (fin_bl I q (by simp))
    | int j=>obtain ⟨t',rfl⟩:=ry;exact eq_int (fin_bl I q dec_int)
    | str j=>obtain ⟨t',rfl⟩:=ry;exact PySem.EqMixed.eq_int_str (fin_bl I q (by simp))
    | _=>exact absurd (show false=true from hs) Bool.false_ne_true
  | str i =>
    obtain ⟨t,rfl⟩:=rx
    cases y with
    | non=>cases ry;exact PySem.EqNone.eq_str_none (fin_bl I q (by simp))
    | bl j=>cases ry;exact PySem.EqMixed.eq_str_bool (fin_bl I q (by simp))
    | int j=>obtain ⟨t',rfl⟩:=ry;exact PySem.EqMixed.eq_str_int (fin_bl I q (by simp))
    | str j=>obtain ⟨t',rfl⟩:=ry;exact eq_str (fin_bl I q dec_str)
    | _=>exact absurd (show false=true from hs) Bool.false_ne_true
  | byt i =>
    obtain ⟨t,rfl⟩:=rx
    cases y with
    | byt j=>obtain ⟨t',rfl⟩:=ry;exact PySem.W.eq_bytes (fin_bl I q dec_byt)
    | _=>exact absurd (show false=true from hs) Bool.false_ne_true
  | _=>cases y <;> exact absurd (show false=true from hs) Bool.false_ne_true
theorem op_ne:OpR X (compareOp .NotEq) rNe:=by
  intro pins s σ H x y v u Q I rx ry h
  obtain ⟨hs,q⟩:=h
  cases x with
  | non =>
    cases rx
    cases y with
    | non=>cases ry;exact PySem.EqNone.ne_none_none (fin_bl I q (by simp))
    | bl j=>cases ry;exact PySem.EqNone.ne_none_bool (fin_bl I q (by simp))
    | int j=>obtain ⟨t',rfl⟩:=ry;exact PySem.EqNone.ne_none_int (fin_bl I q (by simp))
    | str j=>obtain ⟨t',rfl⟩:=ry;exact PySem.EqNone.ne_none_str (fin_bl I q (by simp))
    | _=>exact absurd (show false=true from hs) Bool.false_ne_true
  | bl i =>
    cases rx
    cases y with
    | non=>cases ry;exact PySem.EqNone.ne_bool_none (fin_bl I q (by simp))
    | bl j=>cases ry;exact ne_bool (fin_bl I q (congrArg not dec_bl))
    | str j=>obtain ⟨t',rfl⟩:=ry;exact PySem.EqMixed.ne_bool_str (fin_bl I q (by simp))
    | _=>exact absurd (show false=true from hs) Bool.false_ne_true
  | int i =>
    obtain ⟨t,rfl⟩:=rx
    cases y with
    | non=>cases ry;exact PySem.EqNone.ne_int_none (fin_bl I q (by simp))
    | int j=>obtain ⟨t',rfl⟩:=ry;exact ne_int (fin_bl I q (congrArg not dec_int))
    | str j=>obtain ⟨t',rfl⟩:=ry;exact PySem.EqMixed.ne_int_str (fin_bl I q (by simp))
    | _=>exact absurd (show false=true from hs) Bool.false_ne_true
  | str i =>
    obtain ⟨t,rfl⟩:=rx
    cases y with
    | non=>cases ry;exact PySem.EqNone.ne_str_none (fin_bl I q (by simp))
    | bl j=>cases ry;exact PySem.EqMixed.ne_str_bool (fin_bl I q (by simp))
    | int j=>obtain ⟨t',rfl⟩:=ry;exact PySem.EqMixed.ne_str_int (fin_bl I q (by simp))
    | str j=>obtain ⟨t',rfl⟩:=ry;exact ne_str (fin_bl I q (congrArg not dec_str))
    | _=>exact absurd (show false=true from hs) Bool.false_ne_true
  | byt i =>
    obtain ⟨t,rfl⟩:=rx
    cases y with
    | byt j=>obtain ⟨t',rfl⟩:=ry;exact PySem.W.ne_bytes (fin_bl I q (congrArg not dec_byt))
    | _=>exact absurd (show false=true from hs) Bool.false_ne_true
  | _=>cases y <;> exact absurd (show false=true from hs) Bool.false_ne_true
theorem op_lt:OpR X (compareOp .Lt) (rI0 fun i j=>.bl (decide (i < j))):=opB0 fun _ _ _ _ _ _ _ q=>lt_int q
theorem op_le:OpR X (compareOp .LtE) (rI0 fun i j=>.bl (decide (i <= j))):=opB0 fun _ _ _ _ _ _ _ q=>le_int q
theorem op_gt:OpR X (compareOp .Gt) (rI0 fun i j=>.bl (decide (j < i))):=opB0 fun _ _ _ _ _ _ _ q=>gt_int q
theorem op_ge:OpR X (compareOp .GtE) (rI0 fun i j=>.bl (decide (j <= i))):=opB0 fun _ _ _ _ _ _ _ q=>ge_int q
theorem nomark (b:Expr) {op:CmpOp} (h:op ≠ .In:=by decide) (h2:op ≠ .NotIn:=by decide):behindInMarks op b=false:=by
  have e1:(op == CmpOp.In)=false:=by cases op <;> first | rfl | exact absurd rfl h
  have e2:(op == CmpOp.NotIn)=false:=by cases op <;> first | rfl | exact absurd rfl h2
  cases b <;> simp [behindInMarks,e1,e2]
theorem pe_cmpR {op:CmpOp} {r:R2} (ho:OpR X (compareOp op) r) (ha:PE X a ta) (hb:PE X b tb) (hm:behindInMarks op b=false):PE X (.Compare a [op] [b] pos) (tOp r ta tb):=by
  intro pins s σ H Q I h
  exact wpAny_Compare1 (binT ha hb I h fun v u s2 x y H2 I2 rx ry q=>ho pins s2 σ H2 x y v u Q I2 rx ry q) hm
def tTest (t:TE):TT:=fun σ H Q=>t σ H fun x H'=>∃ k,x=.bl k/\Q k H'
theorem pt_cmpR {op:CmpOp} {r:R2} (ho:OpR X (compareOp op) r) (ha:PE X a ta) (hb:PE X b tb) (hm:behindInMarks op b=false):PT X (.Compare a [op] [b] pos) (tTest (tOp r ta tb)):=by
  intro pins s σ H Q I h
  refine wpAny_isTrue_Compare1 (thn (ha pins s σ H _ I h) fun v s1 ⟨x,H1,I1,r1,q1⟩=>thn (hb pins s1 σ H1 _ I1 q1) fun u s2 ⟨y,H2,I2,r2,q2⟩ =>
    thn (ho pins s2 σ H2 x y v u _ I2 r1 r2 q2) fun c s3 ⟨z,H3,I3,r3,k,e,q3⟩=>?_) hm
  subst e
  cases r3
  exact wpAny_truthy_bool ⟨H3,I3,q3⟩
def tChain (r r':R2) (ta tb tc:TE):TE:=fun σ H Q=>ta σ H fun x H1=>tb σ H1 fun y H2=>r x y H2 fun z H3=>∃ k,z=.bl k /\
  (if k=true then tc σ H3 fun w' H4=>r' y w' H4 Q else Q (.bl false) H3)
theorem pe_chain {op op':CmpOp} {r r':R2} (ho:OpR X (compareOp op) r) (ho':OpR X (compareOp op') r') (ha:PE X a ta) (hb:PE X b tb) (hc:PE X c tc)
    (hm:lastMarks [op,op'] [b,c]=false:=by with_unfolding_all rfl):PE X (.Compare a [op,op'] [b,c] pos) (tChain r r' ta tb tc):=by
  intro pins s σ H Q I h
  refine Compare_chain (thn (ha pins s σ H _ I h) fun v s1 ⟨x,H1,I1,r1,q1⟩=>chain_link (thn (hb pins s1 σ H1 _ I1 q1) fun u s2 ⟨y,H2,I2,r2,q2⟩ =>
    thn (ho pins s2 σ H2 x y v u _ I2 r1 r2 q2) fun d s3 ⟨z,H3,I3,r3,k,e,q3⟩=>?_)) hm
  subst e
  cases r3
  refine wpAny_truthy_bool ?_
  cases k with
  | false=>exact ite_ff ⟨.bl false,H3,I3,rfl,q3⟩
  | true=>exact ite_tt (chain_last (thn (hc pins s3 σ H3 _ I3 q3) fun w' s4 ⟨z',H4,I4,r4,q4⟩=>ho' pins s4 σ H4 y z' u w' Q I4 r2 r4 q4))
theorem line63:(sizeLine:Nat) < 2 ^ 63:=by rw [sizeLine_eq];decide
theorem vals1 {x:V} {us:List Value} (r:Vals [x] us):∃ u,us=[u]/\RelV x u:=by
  cases r with
  | cons r1 r2=>cases r2;exact ⟨_,rfl,r1⟩
theorem vals2 {x y:V} {us:List Value} (r:Vals [x,y] us):∃ u w',us=[u,w']/\RelV x u/\RelV y w':=by
  cases r with
  | cons r1 r2 =>
    cases r2 with
    | cons r3 r4=>cases r4;exact ⟨_,_,rfl,r1,r3⟩
theorem call_abs:CallR X (.builtin "abs") (fun xs H Q=>∃ i,xs=[.int i]/\Q (.int (if i < 0 then -i else i)) H):=by
  intro pins s σ H xs us Q I r h
  obtain ⟨i,rfl,q⟩:=h
  obtain ⟨u,rfl,t,rfl⟩:=vals1 r
  exact call_abs_int fun u tk=>⟨.int (if i < 0 then -i else i),H,I.tok _,⟨_,rfl⟩,q⟩
theorem call_max2 (hc:X.calm=true):CallR X (.builtin "max") (fun xs H Q=>∃ i j,xs=[.int i,.int j]/\Q (.int (if j > i then j else i)) H):=by
  intro pins s σ H xs us Q I r h
  obtain ⟨i,j,rfl,q⟩:=h
  obtain ⟨u,w',rfl,⟨t,rfl⟩,⟨t',rfl⟩⟩:=vals2 r
  refine max_two_ints (I.ok.hd hc) fun h' tk k=>⟨_,H,I.kept k,?_,q⟩
  by_cases hj:j > i
  · rw [if_pos hj,if_pos hj];exact ⟨_,rfl⟩
  · rw [if_neg hj,if_neg hj];exact ⟨_,rfl⟩
theorem call_min2 (hc:X.calm=true):CallR X (.builtin "min") (fun xs H Q=>∃ i j,xs=[.int i,.int j]/\Q (.int (if j < i then j else i)) H):=by
  intro pins s σ H xs us Q I r h
  obtain ⟨i,j,rfl,q⟩:=h
  obtain ⟨u,w',rfl,⟨t,rfl⟩,⟨t',rfl⟩⟩:=vals2 r
  refine min_two_ints (I.ok.hd hc) fun h' tk k=>⟨_,H,I.kept k,?_,q⟩
  by_cases hj:j < i
  · rw [if_pos hj,if_pos hj];exact ⟨_,rfl⟩
  · rw [if_neg hj,if_neg hj];exact ⟨_,rfl⟩
theorem call_int1:CallR X (.type "int") (fun xs H Q=>(∃ i,xs=[.int i]/\Q (.int i) H) ∨ ∃ k,xs=[.bl k]/\Q (.int (if k then 1 else 0)) H):=by
  intro pins s σ H xs us Q I r h
  rcases h with ⟨i,rfl,q⟩ | ⟨k,rfl,q⟩
  · obtain ⟨u,rfl,t,rfl⟩:=vals1 r
    exact call_int_int ⟨.int i,H,I,⟨_,rfl⟩,q⟩
  · obtain ⟨u,rfl,r1⟩:=vals1 r
    cases r1
    exact call_int_bool ⟨.int (if k then 1 else 0),H,I.tok _,⟨_,rfl⟩,q⟩
end
end L2
namespace L2
open PySem PySem.Spec PyProof.Rows
structure ObjM (h:Heap) (x dx C:Addr) (mA:Str->Option Value):Prop where
  obj:h.get? x=some (PySem.W.instObj C dx)
  ns:h.Ns1 dx mA
  ne:dx ≠ x
theorem lookIn_ns {h:Heap} {dx:Addr} {mA:Str->Option Value} (n:h.Ns1 dx mA):∃ od,h.get? dx=some od/\∀ name,PySem.W.lookIn name od=some (mA name):=by
  obtain ⟨o,es,ep,ho,hd,hk,_,hm⟩:=n
  refine ⟨o,ho,fun name=>?_⟩
  have e:=hm name
  unfold nsFind findBy at e
  rw [<- Array.find?_toList] at e
  unfold PySem.W.lookIn
  rw [hd]
  dsimp only
  split
  · rename_i y q
    rw [q] at e
    exact congrArg some e
  · rename_i q
    rw [q] at e
    have a:es.toList.any (·.refKey)=false:=by
      rw [List.any_eq_false]
      intro y hy
      obtain ⟨z,t,hkey⟩:=hk y (Array.mem_toList_iff.mp hy)
      simp [DictEntry.refKey,hkey]
    have a':¬ es.toList.any (·.refKey)=true:=by rw [a];exact Bool.false_ne_true
    rw [if_neg a']
    exact congrArg some e
theorem ObjM.look {h:Heap} {x dx C:Addr} {mA:Str->Option Value} (I:ObjM h x dx C mA):∃ od,PySem.W.InstAt h x (PySem.W.instObj C dx) C (some od)/\∀ name,PySem.W.lookIn name od=some (mA name) :=
  let ⟨od,ho,hl⟩:=lookIn_ns I.ns
  ⟨od,⟨I.obj,rfl,rfl,ho⟩,hl⟩
section
variable {prog:Program} {w:World} {A:Around} {E:Value->Shared->Prop} {s:Shared} {K:PySem.W.Frag} {x dx C f:Addr} {mA:Str->Option Value} {name:Str} {v:Value}
end
theorem RelO.some_of {v:V} {o:Option Value} (r:RelO (some v) o):∃ u,o=some u/\RelV v u:=by
  cases o with
  | none=>exact (show False from r).elim
  | some u=>exact ⟨u,rfl,r⟩
section
variable {P:Program} {w:World} {H H':Hp} {h h':Heap} {a C dx:Addr} {fs fs':List (Str × V)}
theorem ins_get (hok:HOk P w H h) (e:H a=some (.ins C dx fs)):∃ mA,ObjM h a dx C mA/\(∀ f,RelO (fs.lookup f) (mA f))/\PySem.Within mA (fs.map (·.1))/\fs.length <= 1000/\H dx=some (.own a):=by
  obtain ⟨d,z,ne,ob,mA,n,r,q⟩:=(show ObjOk P w H h a (.ins C dx fs) from hok a _ e)
  exact ⟨mA,⟨ob,n,ne⟩,r,q,z,d⟩
end
structure Cls (K:PySem.W.Frag) (C:Addr):Prop where
  pg:PySem.W.plainGet K C Str.empty=true
  hd:PySem.W.hasDictIn K C=true
  po:PySem.W.plainOver K C=true
  sa:PySem.W.findIn K (.ref C) "__setattr__"=some (some (.builtin "object.__setattr__"))
theorem Cls.get {K:PySem.W.Frag} {C:Addr} (c:Cls K C) (f:Str):PySem.W.plainGet K C f=true:=c.pg
structure Con (K:PySem.W.Frag) (C:Addr) (f:Str) (v:V) (u:Value):Prop where
  at_:PySem.W.findIn K (.ref C) f=some (some u)
  rel:RelV v u
  get:PySem.W.specialIn K u "__get__"=some none
  cp:PySem.W.copiedNames.contains f=false
structure Meth (K:PySem.W.Frag) (C:Addr) (m:Str) (f:Addr):Prop where
  at_:PySem.W.findIn K (.ref C) m=some (some (.ref f))
  fn:PySem.W.isFn K (.ref f)=true
  kp:PySem.W.keepIn K (.ref f)=true
section
variable {X:Cx} {pins:List (Addr × Obj)} {σ:St} {H:Hp} {s:Shared} {a C dx:Addr} {fs:List (Str × V)} {f:Str} {v:V} {A:Around} {E:Value->Shared->Prop}
end
section
variable {X:Cx} {o e value:Expr} {f:Str} {pos pos' tpos:Pos} {ta tv:TE}
end
section
variable {X:Cx} {pins:List (Addr × Obj)} {σ:St} {H:Hp} {s:Shared} {A:Around} {E:Value->Shared->Prop} {Q:Value->Shared->Prop} {c:Value} {b:Bool}
inductive TyOf (K:PySem.W.Frag) (H:Hp):V->Value->Prop where
  | non:TyOf K H .non (.type "NoneType")
  | bl (x:Bool):TyOf K H (.bl x) (.type "bool")
  | int (i:Int):TyOf K H (.int i) (.type "int")
  | str (x:Str):TyOf K H (.str x) (.type "str")
  | flt (x:UInt64):TyOf K H (.flt x) (.type "float")
  | lst {a:Addr} {xs:List V} (e:H a=some (.lst xs)):TyOf K H (.ref a) (.type "list")
  | frz {a:Addr} {o:Obj} {xs:List V} (e:H a=some (.frz o (.lst xs))):TyOf K H (.ref a) (.type "list")
  | tup {a:Addr} {xs:List V} (e:H a=some (.tup xs)):TyOf K H (.ref a) (.type "tuple")
  | dK {a:Addr} {kvs:List (Key × V)} (e:H a=some (.dK kvs)):TyOf K H (.ref a) (.type "dict")
  | dT {a:Addr} {kvs:List (List Key × V)} (e:H a=some (.dT kvs)):TyOf K H (.ref a) (.type "dict")
  | ins {a C dx:Addr} {fs:List (Str × V)} (e:H a=some (.ins C dx fs)) (cl:Cls K C) (ha:PySem.W.findIn K (.ref C) "__class__"=some (some (.builtin "object.__class__")))
      (hn:PySem.W.specialIn K (.builtin "object.__class__") "__get__"=some (some (.builtin "getset_descriptor.__get__"))) (htk:PySem.W.takesIn K (.builtin "object.__class__")=some true)
      (hm:PySem.W.mroIn K C (.type "object")=some true):TyOf K H (.ref a) (.ref C)
theorem isinst_ok {x:V} {u t:Value} (I:Inv X pins σ H s) (rx:RelV x u) (ty:TyOf X.K H x t) (e:PySem.W.kitOne X.K t c=some b) (h:∀ tk,Q (.bool b) { s with toks:=tk }) :
    wpAny (model X.prog X.w) A (call (.builtin "isinstance") [u,c]) Q E s:=by
  cases ty with
  | non=>cases (show u=Value.none from rx);exact PySem.W.kia_one PySem.W.kitx_none I.kIn True.intro e (fun z=>nomatch z) h
  | bl y=>cases (show u=Value.bool y from rx);exact PySem.W.kia_one PySem.W.kitx_bool I.kIn True.intro e (fun z=>nomatch z) h
  | int i=>obtain ⟨t,q⟩:=(show ∃ t,u=Value.int i t from rx);cases q;exact PySem.W.kia_one PySem.W.kitx_int I.kIn True.intro e (fun z=>nomatch z) h
  | str y=>obtain ⟨t,q⟩:=(show ∃ t,u=Value.str y t from rx);cases q;exact PySem.W.kia_one PySem.W.kitx_str I.kIn True.intro e (fun z=>nomatch z) h
  | flt y=>obtain ⟨t,q⟩:=(show ∃ t,u=Value.float y t from rx);cases q;exact PySem.W.kia_one PySem.W.kitx_float I.kIn True.intro e (fun z=>nomatch z) h
  | @lst a xs ea =>
    cases (show u=Value.ref a from rx)
    obtain ⟨_,_,n,_,h1⟩:=(show ObjOk X.prog X.w H s.heap a (.lst xs) from I.hok a _ ea)
    exact PySem.W.kia_one PySem.W.kitx_list I.kIn ⟨_,h1,rfl⟩ e (fun z=>nomatch z) h
  | @frz a ob xs ea =>
    cases (show u=Value.ref a from rx)
    obtain ⟨_,_,_,n,_,h1⟩:=(show ObjOk X.prog X.w H s.heap a (.frz ob (.lst xs)) from I.hok a _ ea)
    exact PySem.W.kia_one PySem.W.kitx_list I.kIn ⟨_,h1,rfl⟩ e (fun z=>nomatch z) h
  | @tup a xs ea =>
    cases (show u=Value.ref a from rx)
    obtain ⟨_,_,_,p⟩:=(show ObjOk X.prog X.w H s.heap a (.tup xs) from I.hok a _ ea)
    obtain ⟨o,h1,h2,_⟩:=p
    exact PySem.W.kia_one PySem.W.kitx_tuple I.kIn ⟨o,h1,h2⟩ e (fun z=>nomatch z) h
  | @dK a kvs ea =>
    cases (show u=Value.ref a from rx)
    obtain ⟨_,_,vs,_,p⟩:=(show ObjOk X.prog X.w H s.heap a (.dK kvs) from I.hok a _ ea)
    obtain ⟨o,es,ep,h1,h2,_⟩:=p
    exact PySem.W.kia_one PySem.W.kitx_dict I.kIn ⟨o,h1,h2.1⟩ e (fun z=>nomatch z) h
  | @dT a kvs ea =>
    cases (show u=Value.ref a from rx)
    obtain ⟨_,_,xs,_,o,es,ep,h1,h2,_⟩:=(show ObjOk X.prog X.w H s.heap a (.dT kvs) from I.hok a _ ea)
    exact PySem.W.kia_one PySem.W.kitx_dict I.kIn ⟨o,h1,h2.1⟩ e (fun z=>nomatch z) h
  | @ins a C dx fs ea cl ha hn htk hm =>
    cases (show u=Value.ref a from rx)
    obtain ⟨mA,O,_⟩:=ins_get I.hok ea
    obtain ⟨od,J,_⟩:=O.look
    exact PySem.W.kia_one (PySem.W.kitx_own (cl.get _) cl.hd ha hn htk hm) I.kIn J e (fun z=>nomatch z) h
end
end L2
namespace L2
open PySem PySem.Spec PyProof.Rows
structure Room (k:Nat) (A:Around):Prop where
  hd:A.handled=none
  dp:A.depth + 3 * k + 5 < recursionLimit
  un:A.units + 16 * k + 200 < cLine
theorem Room.mono {j k:Nat} {A:Around} (r:Room k A) (h:j <= k):Room j A:=⟨r.hd,by have:=r.dp;omega,by have:=r.un;omega⟩
theorem Room.deeper {k:Nat} {A:Around} (r:Room (k + 1) A) (env:Env):Room k (A.deeper env) :=
  ⟨r.hd,by have:=r.dp;show A.depth + 1 + 3 * k + 5 < _;omega,by have:=r.un;show A.units + 3 + 16 * k + 200 < _;omega⟩
theorem Room.depth {k:Nat} {A:Around} (r:Room k A):A.depth < recursionLimit:=by have:=r.dp;omega
theorem Room.units {k:Nat} {A:Around} (r:Room k A):A.units + 64 < cLine:=by have:=r.un;omega
def tNil:TA:=fun _ H Q=>Q [] H
def tCons (ta:TE) (tr:TA):TA:=fun σ H Q=>ta σ H fun x H1=>tr σ H1 fun xs H2=>Q (x :: xs) H2
section
variable {X:Cx} {e:Expr} {es:List Expr} {te:TE} {t:TA} {pos:Pos}
theorem pa_nil:PA X [] tNil:=fun _ _ _ _ H Q I h=>Calls.spliced_nil ⟨[],H,I,.nil,h⟩
theorem pa_cons (ha:PE X e te) (hr:PA X es t) (hs:starEach (e :: es) X.env=(false,eval e X.env) :: starEach es X.env:=by rfl):PA X (e :: es) (tCons te t):=by
  intro pos pins s σ H Q I h
  rw [hs]
  show wpAny _ _ (spliced ((false,eval e X.env) :: backTo pos (starEach es X.env))) _ _ s
  refine Calls.spliced_cons (thn (ha pins s σ H _ I h) fun u s1 ⟨x,H1,I1,r1,q1⟩=>?_)
  exact thn (hr pos pins s1 σ H1 _ I1 q1) fun us s2 ⟨xs,H2,I2,r2,q2⟩=>⟨x :: xs,H2,I2,.cons r1 r2,q2⟩
def tTup (t:TA):TE:=fun σ H Q=>t σ H fun xs H1=>xs.length <= sizeLine/\∀ p,H1 p=none->Q (.ref p) (upd H1 p (.tup xs))
def tLst (t:TA):TE:=fun σ H Q=>t σ H fun xs H1=>xs.length <= sizeLine/\∀ p,H1 p=none->Q (.ref p) (upd H1 p (.lst xs))
theorem pe_tup {x1} (h:PA X es t):PE X (.Tuple es x1 pos) (tTup t):=by
  intro pins s σ H Q I hq
  refine wpAny_Tuple_spliced (thn (h pos pins s σ H _ I hq) fun us s1 ⟨xs,H1,I1,r,z,q⟩=>⟨by rw [<- r.length];exact z,?_⟩)
  have hf:H1 s1.heap.objs.size=none:=I1.hok.fresh (Nat.le_refl _)
  refine ⟨.ref s1.heap.objs.size,upd H1 s1.heap.objs.size (.tup xs),I1.laid (t':=s1.toks) (fun b u e=>Heap.get?_push_of_some _ e) (Nat.le_refl _) ?_,rfl,q _ hf⟩
  exact ⟨z,us,r,⟨_,Heap.get?_push_size _ rfl,rfl,_,rfl⟩⟩
theorem pe_lst (h:PA X es t):PE X (.List es pos) (tLst t):=by
  intro pins s σ H Q I hq
  refine wpAny_List_spliced (thn (h pos pins s σ H _ I hq) fun us s1 ⟨xs,H1,I1,r,z,q⟩=>⟨by rw [<- r.length];exact z,?_⟩)
  have hf:H1 s1.heap.objs.size=none:=I1.hok.fresh (Nat.le_refl _)
  refine ⟨.ref s1.heap.objs.size,upd H1 s1.heap.objs.size (.lst xs),I1.laid (t':=s1.toks) (fun b u e=>Heap.get?_push_of_some _ e) (Nat.le_refl _) ?_,rfl,q _ hf⟩
  exact ⟨z,us,0,r,Heap.get?_push_size _ rfl⟩
end
abbrev Sp:=List V->Hp->VK->XK->Prop
abbrev CXT:=List Env->Hp->Shared->XK->Value->Shared->Prop
structure Env0 (P:Program) (w:World) (K:PySem.W.Frag) (mg:Str->Option Value) (base:Heap) (A:Around) (outer:List Env) (s:Shared) (H:Hp):Prop where
  frames:A.frames=some outer
  mod:Mod K mg base
  bs:∀ b o,base.get? b=some o->s.heap.get? b=some o/\H b=none
  bsz:base.objs.size <= s.heap.objs.size
  funs:s.heap.FunFrames base outer
  frf:∀ b ∈ frs outer,H b=none
  hok:HOk P w H s.heap
  bare:AllBare s.gens
def CE (outer:List Env) (P:Program) (w:World) (H:Hp) (s:Shared) (Q:VK) (u:Value) (s':Shared):Prop :=
  ∃ v H',s'.os=s.os/\AllBare s'.gens/\Un (frs outer) [] H H' s.heap s'.heap/\HOk P w H' s'.heap/\RelV v u/\Q v H'
def CR (CX:CXT) (outer:List Env) (P:Program) (w:World) (H:Hp) (s:Shared) (Q:VK) (E:XK) (r:Result) (s':Shared):Prop :=
  match r with
  | .ok (.ret u)=>CE outer P w H s Q u s'
  | .ok _=>False
  | .error e=>CX outer H s E e s'
structure FnOk (P:Program) (w:World) (K:PySem.W.Frag) (mg:Str->Option Value) (base:Heap) (CX:CXT) (k:Nat) (f:Addr) (fd:FuncData) (ps:List Str) (sp:Sp):Prop where
  len:∀ vs H Q E,sp vs H Q E->vs.length=ps.length
  run:∀ (A:Around) (outer:List Env) (s:Shared) (H:Hp) (args:Args) (us:List Value) (vs:List V) (Q:VK) (E:XK),Room k A->Env0 P w K mg base A outer s H->BindsTo s fd args (ps.zip us)->Vals vs us->sp vs H Q E ->
    codeAny (model P w) A (.call (.ref f) args) (CR CX outer P w H s Q E) s
theorem FnOk.mono {P:Program} {w:World} {K:PySem.W.Frag} {mg:Str->Option Value} {base:Heap} {CX:CXT} {j k:Nat} {f:Addr} {fd:FuncData} {ps:List Str} {sp:Sp} (F:FnOk P w K mg base CX j f fd ps sp) (h:j <= k) :
    FnOk P w K mg base CX k f fd ps sp:=⟨F.len,fun A outer s H args us vs Q E hr=>F.run A outer s H args us vs Q E (hr.mono h)⟩
section
variable {X:Cx} {pins:List (Addr × Obj)} {σ:St} {H:Hp} {s s':Shared}
theorem Inv.env0 (I:Inv X pins σ H s):Env0 X.prog X.w X.K X.mg X.base X.A X.stack s H :=
  ⟨I.ok.frames,I.ok.mod,I.bs,Nat.le_trans I.ok.bsz I.sz,I.stack,I.stkFree,I.hok,I.bare⟩
theorem Inv.after {Q:VK} {u:Value} (I:Inv X pins σ H s) (h:CE X.stack X.prog X.w H s Q u s'):EP X pins σ Q u s':=by
  obtain ⟨v,H',os,bare,un,hok,r,q⟩:=h
  obtain ⟨hh,g,d,t,os'⟩:=s'
  obtain rfl:os'=s.os:=os
  exact ⟨v,H',I.call (h':=hh) (g':=g) (d':=d) (t':=t) (ch:=[]) un hok bare (fun b z=>absurd z (by simp)),r,q⟩
end
def tCall (sp:Sp) (dvs:List V) (E:XK) (t:TA):TE:=fun σ H Q=>t σ H fun vs H1=>sp (vs ++ dvs) H1 Q E
def Binds (K:PySem.W.Frag) (fd:FuncData) (ps:List Str) (ds:List Value):Prop :=
  ∀ (s:Shared) (us:List Value),K.In s.heap->(us ++ ds).length=ps.length->BindsTo s fd ⟨us,[]⟩ (ps.zip (us ++ ds))
theorem Binds.all {K:PySem.W.Frag} {fd:FuncData} {ps:List Str} (h:∀ us:List Value,us.length=ps.length->bindArgs fd ⟨us,[]⟩=pure (ps.zip us)):Binds K fd ps []:=fun s us _ hl=>by
  rw [List.append_nil] at hl ⊢
  exact .of_eq (h us hl)
def Passes (CX:CXT) (X:Cx) (E:XK):Prop:=∀ (pins:List (Addr × Obj)) (σ:St) (H:Hp) (s:Shared) (e:Value) (s':Shared),Inv X pins σ H s->CX X.stack H s E e s'->X.xe e s'
section
variable {X:Cx} {CX:CXT} {k:Nat} {f C:Addr} {fd:FuncData} {ps:List Str} {sp:Sp} {dvs:List V} {ds:List Value} {E:XK} {x m:Str} {p pos apos:Pos} {e o:Expr} {es:List Expr} {ta:TE} {t:TA}
theorem run_fn {pins:List (Addr × Obj)} {σ:St} {H:Hp} {s:Shared} {Q:VK} {us:List Value} {vs:List V} (F:FnOk X.prog X.w X.K X.mg X.base CX k f fd ps sp) (hr:Room k X.A) (hb:Binds X.K fd ps ds) (hd:Vals dvs ds) (hx:Passes CX X E)
    (I:Inv X pins σ H s) (r:Vals vs us) (h:sp (vs ++ dvs) H Q E):wpAny (model X.prog X.w) X.A (call (.ref f) us) (EP X pins σ Q) X.xe s:=by
  have r2:Vals (vs ++ dvs) (us ++ ds):=r.append hd
  have hl:(us ++ ds).length=ps.length:=by rw [<- r2.length];exact F.len _ _ _ _ h
  refine wpAny_call (codeAny_mono (F.run X.A X.stack s H ⟨us,[]⟩ (us ++ ds) (vs ++ dvs) Q E hr I.env0 (hb s us I.kIn hl) r2 h) fun r s' hq=>?_)
  cases r with
  | error e=>exact hx pins σ H s e s' I hq
  | ok fl =>
    cases fl with
    | ret u=>exact I.after hq
    | next=>exact False.elim hq
    | brk=>exact False.elim hq
    | cont=>exact False.elim hq
theorem pe_call (F:FnOk X.prog X.w X.K X.mg X.base CX k f fd ps sp) (hr:Room k X.A) (hg:Gl X x) (hm:X.mg x=some (.ref f)) (hk:PySem.W.keepIn X.K (.ref f)=true) (hb:Binds X.K fd ps ds) (hd:Vals dvs ds) (hx:Passes CX X E)
    (ha:PA X (e :: es) t) (hdb:(x == ("__debug__":Str))=false:=by decide) (he:starEach (e :: es) X.env=(false,eval e X.env) :: starEach es X.env:=by rfl) (hpl:(backTo pos (starEach es X.env)).any (·.1)=false:=by rfl) :
    PE X (.Call (.Name x p) (e :: es) [] pos) (tCall sp dvs E t):=by
  intro pins s σ H Q I h
  refine wpAny_Call_Name_kw (ld_glob I hg hm ?_ hdb)
  refine PySem.W.callWith_K (h₀:=X.base) I.ok.mod.kin hk (thn (ha pos pins s σ H _ I h) fun us s1 ⟨vs,H1,I1,r,q⟩=>⟨I1.kIn,?_⟩) he hpl
  exact run_fn F hr hb hd hx I1 r q
structure Mk (K:PySem.W.Frag) (C f:Addr):Prop where
  makes:PySem.W.makesIn K C=true
  init:PySem.W.findIn K (.ref C) "__init__"=some (some (.ref f))
  fn:PySem.W.isFn K (.ref f)=true
  kp:PySem.W.keepIn K (.ref C)=true
end
section
variable {X:Cx} {CX:CXT} {k:Nat} {f C:Addr} {fd:FuncData} {ps ks:List Str} {sp:Sp} {E:XK} {x m:Str} {p pos apos kpos:Pos} {e o:Expr} {es:List Expr} {kws:List Keyword} {te ta:TE} {t tk:TA} {nm:Option Str}
structure KBinds (K:PySem.W.Frag) (fd:FuncData) (ps ks:List Str) (g:List Value->List Value->List Value) (gV:List V->List V->List V):Prop where
  to:∀ (s:Shared) (us ws:List Value),K.In s.heap->(g us ws).length=ps.length->BindsTo s fd ⟨us,ks.zip ws⟩ (ps.zip (g us ws))
  rel:∀ {vs:List V} {us:List Value} {zs:List V} {ws:List Value},Vals vs us->Vals zs ws->Vals (gV vs zs) (g us ws)
variable {g:List Value->List Value->List Value} {gV:List V->List V->List V}
end
structure FnScope (N P:List Str) (sc:Scope):Prop where
  kind:sc.kind=.function
  co:sc.isCoroutine=false
  gen:sc.isGenerator=false
  nd:N.Nodup
  pre:N.take P.length=P
  par:∀ x ∈ P,sc.names.lookup x=some .local ∨ sc.names.lookup x=some .cell
  nofree:∀ y ∈ sc.names,y.2 ≠ .free
theorem bindL_out {kindOf:Str->Option NameKind} {x:Str}:∀ {binds:List (Str × Value)} {m:Str->Option Value},(∀ v,(x,v) ∉ binds)->bindL kindOf binds m x=m x
  | [],_,_=>rfl
  | (n,v) :: r,m,h=>by
    unfold bindL
    rw [bindL_out fun w hw=>h w (List.mem_cons_of_mem _ hw)]
    split
    · have:x ≠ n:=by rintro rfl;exact h v List.mem_cons_self
      simp [this]
    · rfl
theorem bindC_out {kindOf:Str->Option NameKind} {x:Str}:∀ {binds:List (Str × Value)} {m:Str->Option Value},(∀ v,(x,v) ∉ binds)->bindC kindOf binds m x=m x
  | [],_,_=>rfl
  | (n,v) :: r,m,h=>by
    unfold bindC
    rw [bindC_out fun w hw=>h w (List.mem_cons_of_mem _ hw)]
    split
    · rfl
    · have:x ≠ n:=by rintro rfl;exact h v List.mem_cons_self
      simp [this]
theorem bindL_get {kindOf:Str->Option NameKind} {x:Str} {v:Value}:∀ {P:List Str} {vs:List Value} {i:Nat} {m:Str->Option Value},P.Nodup->P[i]?=some x->vs[i]?=some v->kindOf x=some .local ->
    bindL kindOf (P.zip vs) m x=some v
  | [],_,_,_,_,h,_,_=>by simp at h
  | _ :: _,[],_,_,_,_,h,_=>by simp at h
  | p :: P,w :: vs,0,m,nd,h1,h2,hk=>by
    simp at h1 h2;subst h1;subst h2
    show bindL kindOf ((p,w) :: P.zip vs) m p=_
    unfold bindL
    rw [bindL_out fun v hv=>(List.nodup_cons.mp nd).1 (List.of_mem_zip hv).1,if_pos hk]
    simp
  | p :: P,w :: vs,i + 1,m,nd,h1,h2,hk=>by
    show bindL kindOf ((p,w) :: P.zip vs) m x=_
    unfold bindL
    exact bindL_get (i:=i) (List.nodup_cons.mp nd).2 (by simpa using h1) (by simpa using h2) hk
theorem bindC_get {kindOf:Str->Option NameKind} {x:Str} {v:Value}:∀ {P:List Str} {vs:List Value} {i:Nat} {m:Str->Option Value},P.Nodup->P[i]?=some x->vs[i]?=some v->kindOf x ≠ some .local ->
    bindC kindOf (P.zip vs) m x=some v
  | [],_,_,_,_,h,_,_=>by simp at h
  | _ :: _,[],_,_,_,_,h,_=>by simp at h
  | p :: P,w :: vs,0,m,nd,h1,h2,hk=>by
    simp at h1 h2;subst h1;subst h2
    show bindC kindOf ((p,w) :: P.zip vs) m p=_
    unfold bindC
    rw [bindC_out fun v hv=>(List.nodup_cons.mp nd).1 (List.of_mem_zip hv).1,if_neg hk]
    simp
  | p :: P,w :: vs,i + 1,m,nd,h1,h2,hk=>by
    show bindC kindOf ((p,w) :: P.zip vs) m x=_
    unfold bindC
    exact bindC_get (i:=i) (List.nodup_cons.mp nd).2 (by simpa using h1) (by simpa using h2) hk
def start (N:List Str) (vs:List V):St:=vs.map some ++ List.replicate (N.length - vs.length) none
def cxOf (CX:CXT) (P:Program) (w:World) (K:PySem.W.Frag) (mg:Str->Option Value) (base:Heap) (N:List Str) (qual:Str) (scope:Scope) (f:Addr) (cd:Value) (A:Around) (outer:List Env) (s:Shared) (H:Hp) (E:XK):Cx where
  prog:=P
  w:=w
  K:=K
  mg:=mg
  base:=base
  A:=A.deeper (envOfC qual scope s.heap.objs.size f cd)
  N:=N
  s₀:=s
  H₀:=H
  env:=envOfC qual scope s.heap.objs.size f cd
  outer:=outer
  stack:=envOfC qual scope s.heap.objs.size f cd :: outer
  ex:=[]
  calm:=true
  fn:=fun _=>true
  pn:=[]
  xe:=fun e s'=>wpAny (model P w) (A.deeper (envOfC qual scope s.heap.objs.size f cd)) (leaving (envOfC qual scope s.heap.objs.size f cd) e) (fun _ s''=>CX outer H s E e s'') (fun e' s''=>CX outer H s E e' s'') s'
theorem cell_has {sc:Scope} {n:Nat} {x:Str} (h:sc.names.lookup x=some .cell):∃ c,(cellsFrom n sc.names []).lookup x=some c:=by
  have q:=PySem.W.cellsFrom_some sc.names n [] (.inl h)
  exact Option.isSome_iff_exists.mp q
theorem inv_start {CX:CXT} {P:Program} {w:World} {K:PySem.W.Frag} {mg:Str->Option Value} {base:Heap} {N ps:List Str} {qual:Str} {scope:Scope} {f:Addr} {cd:Value} {A:Around} {outer:List Env} {s s1:Shared} {H:Hp} {E:XK} {us:List Value} {vs:List V}
    (S:FnScope N ps scope) (hd:A.handled=none) (e0:Env0 P w K mg base A outer s H) (hl:vs.length=ps.length) (r:Vals vs us)
    (x:InCallC s s.heap.objs.size (bindL (envOfC qual scope s.heap.objs.size f cd).kindOf (ps.zip us) fun _=>none) (cellsFrom (s.heap.objs.size + 1) scope.names []) (bindC (envOfC qual scope s.heap.objs.size f cd).kindOf (ps.zip us) fun _=>none) s1) :
    Inv (cxOf CX P w K mg base N qual scope f cd A outer s H E) [] (start N vs) H s1:=by
  have hpl:ps.length <= N.length:=by have:=congrArg List.length S.pre;rw [List.length_take] at this;omega
  obtain ⟨h1,tk,rfl,hk⟩:=x.done
  have noA:∀ b:Addr,b ∉ (cxOf CX P w K mg base N qual scope f cd A outer s H E).ex:=fun b z=>absurd (show b ∈ ([]:List Addr) from z) (by simp)
  refine ⟨⟨e0.mod,S.kind,rfl,rfl,Nat.le_refl _,fun y z c h1 h2=>?_,fun y hy=>?_,fun y c _ h=>?_,fun _=>hd,Around.frames_deeper e0.frames,.inr ⟨rfl,rfl⟩,fun b z=>absurd z (noA b),e0.bs,e0.bsz,fun b _ _=>noA b,fun b z=>absurd z (noA b),e0.funs,e0.frf⟩,
    rfl,e0.bare,Un.kept hk,⟨_,x.toInCall.ns,fun i y v h1 h2 h3=>?_⟩,fun y c h=>⟨_,x.cell y c h⟩,e0.hok.fresh (Nat.le_refl _),fun y c h=>?_,fun p hp=>absurd (show p ∈ ([]:List (Addr × Obj)) from hp) (by simp),e0.hok.kept hk,?_⟩
  · exact name_of_addr x.apart (PySem.mem_of_lookup h1) (PySem.mem_of_lookup h2)
  · have hy:scope.names.lookup y=some .cell ∨ scope.names.lookup y=some .free:=hy
    rcases hy with hy | hy
    · exact cell_has hy
    · exact absurd rfl (S.nofree _ (PySem.mem_of_lookup hy))
  · exact Nat.le_of_lt (x.above y c (PySem.mem_of_lookup h))
  · have hi:i < vs.length:=by
      unfold start at h2
      by_cases hi:i < vs.length
      · exact hi
      · rw [List.getElem?_append_right (by simpa using hi)] at h2
        rw [List.getElem?_replicate] at h2
        split at h2 <;> cases h2
    have ha:vs[i]?=some v:=by
      unfold start at h2
      rw [List.getElem?_append_left (by simpa using hi),List.getElem?_map] at h2
      cases e:vs[i]? with
      | none=>rw [e] at h2;cases h2
      | some a=>rw [e] at h2;cases h2;rfl
    obtain ⟨u,hu,rv⟩:=r.get ha
    have hp:ps[i]?=some y:=by
      rw [<- S.pre,List.getElem?_take_of_lt (by omega)];exact h1
    have ndP:ps.Nodup:=by rw [<- S.pre];exact S.nd.sublist (List.take_sublist _ _)
    refine ⟨u,rv,?_⟩
    rcases S.par y (List.mem_of_getElem? hp) with k | k
    · exact .inl ⟨k,bindL_get ndP hp hu k⟩
    · obtain ⟨c,e⟩:=cell_has (n:=s.heap.objs.size + 1) k
      refine .inr ⟨.inl k,c,e,?_⟩
      have q:=x.cell y c e
      rw [bindC_get ndP hp hu (by show scope.names.lookup y ≠ _;rw [k];decide)] at q
      exact q
  · exact e0.hok.fresh (Nat.le_of_lt (x.above y c (PySem.mem_of_lookup h)))
  · unfold start
    show _=N.length
    rw [List.length_append,List.length_map,List.length_replicate]
    omega
theorem fn_of {CX:CXT} {P:Program} {w:World} {K:PySem.W.Frag} {mg:Str->Option Value} {base:Heap} {k:Nat} {f:Addr} {name qual:Str} {params:Arguments} {body:List Stmt} {scope:Scope} {dV kV doc pm cdv ct oc:Value} {an od:Option Addr}
    {osl:Array (Option Value)} {N ps:List Str} {sp:Sp} (lk:K.lookup f=some ⟨oc,od,.func (PySem.W.fnOf name qual params body scope dV kV doc pm an cdv ct),osl⟩) (hcd:PySem.W.codeIn K cdv qual=true) (S:FnScope N ps scope)
    (len:∀ vs H Q E,sp vs H Q E->vs.length=ps.length)
    (hbody:∀ (A:Around) (outer:List Env) (s:Shared) (H:Hp) (vs:List V) (Q:VK) (E:XK),Room k (A.deeper (envOfC qual scope s.heap.objs.size f cdv))->sp vs H Q E ->
      ∃ t,PSs (cxOf CX P w K mg base N qual scope f cdv A outer s H E) body t/\t { nx:=fun _ H'=>Q .non H',rt:=Q } (start N vs) H) :
    FnOk P w K mg base CX (k + 1) f (PySem.W.fnOf name qual params body scope dV kV doc pm an cdv ct) ps sp:=by
  refine ⟨len,fun A outer s H args us vs Q E hr e0 hb r hsp=>?_⟩
  have hl:=len _ _ _ _ hsp
  have KX:K.In s.heap:=e0.mod.kin.keeps fun b o e=>(e0.bs b o e).1
  have lim:s.heap.NoLimit:=e0.mod.nolimit.keeps fun b o e=>(e0.bs b o e).1
  have hkind:∀ y ∈ ps.zip us,scope.names.lookup y.1=some .local ∨ (scope.names.lookup y.1=some .cell/\((cellsFrom (s.heap.objs.size + 1) scope.names []).lookup y.1).isSome=true):=fun ⟨n,v⟩ hy=>by
    rcases S.par n (List.of_mem_zip hy).1 with q | q
    · exact .inl q
    · exact .inr ⟨q,PySem.W.cellsFrom_some _ _ _ (.inl q)⟩
  refine codeAny_call_function hr.depth (KX _ _ lk) rfl S.co S.gen rfl (PySem.W.codeRec_of KX hcd) (hb _ _ _ _ ?_)
  refine wpAny_newFunctionEnv_cells S.kind hkind fun env he s1 x=>?_
  subst he
  refine ⟨lim.keeps x.toInCall.keep,codeAny_func ?_⟩
  obtain ⟨t,ht,hq⟩:=hbody A outer s H vs Q E (hr.deeper _) hsp
  have I:Inv (cxOf CX P w K mg base N qual scope f cdv A outer s H E) [] (start N vs) H s1:=inv_start S hr.hd e0 hl r x
  refine wpAny_mono (ht [] s1 (start N vs) H _ I hq) (fun fl s' hs=>?_) fun e s' hs=>hs
  have fin:∀ {σ':St} {H':Hp} {v:V} {u:Value},Inv (cxOf CX P w K mg base N qual scope f cdv A outer s H E) [] σ' H' s'->RelV v u->Q v H'->CE outer P w H s Q u s' :=
    fun {σ' H' v u} J rv q=>⟨v,H',J.os,J.bare,J.base,J.hok,rv,q⟩
  cases fl with
  | ret u =>
    obtain ⟨v,σ',H',J,rv,q⟩:=hs
    exact fin J rv q
  | next =>
    obtain ⟨σ',H',J,q⟩:=hs
    exact fin (v:=V.non) (u:=Value.none) J rfl q
  | brk =>
    obtain ⟨_,_,_,q⟩:=hs
    exact False.elim q
  | cont =>
    obtain ⟨_,_,_,q⟩:=hs
    exact False.elim q
end L2
namespace L2
open PySem PySem.Spec PyProof.Rows
section
variable {X:Cx} {x:Str} {p pos:Pos} {e:Expr} {es:List Expr} {t:TA} {id T:String} {r:List V->Hp->VK->Prop}
def tCB (r:List V->Hp->VK->Prop) (t:TA):TE:=fun σ H Q=>t σ H fun vs H1=>r vs H1 Q
theorem pe_callB (hc:CallR X (.builtin id) r) (hg:Gl X x) (hm:X.mg x=none) (hv:bootBuiltins x=some (.builtin id)) (ha:PA X (e :: es) t) (hn:x ≠ "__name__":=by decide) (hdb:(x == ("__debug__":Str))=false:=by decide)
    (he:starEach (e :: es) X.env=(false,eval e X.env) :: starEach es X.env:=by rfl) (hpl:(backTo pos (starEach es X.env)).any (·.1)=false:=by rfl):PE X (.Call (.Name x p) (e :: es) [] pos) (tCB r t):=by
  intro pins s σ H Q I h
  refine wpAny_Call_Name_kw (ld_blt I hg hm hv ?_ hn hdb)
  exact PyProof.Rows.callWith_builtin1 (thn (ha pos pins s σ H _ I h) fun us s1 ⟨vs,H1,I1,r1,q1⟩=>hc pins s1 σ H1 vs us Q I1 r1 q1) he hpl
theorem pe_callTy (hc:CallR X (.type T) r) (hg:Gl X x) (hm:X.mg x=none) (hv:bootBuiltins x=some (.type T)) (ha:PA X (e :: es) t) (hn:x ≠ "__name__":=by decide) (hdb:(x == ("__debug__":Str))=false:=by decide)
    (he:starEach (e :: es) X.env=(false,eval e X.env) :: starEach es X.env:=by rfl) (hpl:(backTo pos (starEach es X.env)).any (·.1)=false:=by rfl):PE X (.Call (.Name x p) (e :: es) [] pos) (tCB r t):=by
  intro pins s σ H Q I h
  refine wpAny_Call_Name_kw (ld_blt I hg hm hv ?_ hn hdb)
  exact PyProof.Rows.callWith_type1 (thn (ha pos pins s σ H _ I h) fun us s1 ⟨vs,H1,I1,r1,q1⟩=>hc pins s1 σ H1 vs us Q I1 r1 q1) he hpl
end
end L2
namespace HT
open PySem PyProof.Rows
section
open PySem.SeqAt
open PySem.AutoSeq1 (wpAny_loadPart')
open PySem.MeetsSeq PySem.MeetsSeq2 PySem.MeetsSeq3
end
section
variable {prog:Program} {w:World} {A:Around} {E:Value->Shared->Prop} {s:Shared}
theorem cat_tup {t b:Addr} {vs ws:List Value} {Q:Value->Shared->Prop} (ht:IsTup s.heap t vs.toArray) (hb:IsTup s.heap b ws.toArray) (hv:vs ≠ [])
    (h1:ws=[]->Q (.ref t) s) (h2:ws ≠ []->Q (.ref s.heap.objs.size) { s with heap:=s.heap.push { cls:=.type "tuple",data:=.seq (vs ++ ws).toArray } })
    (hsz:vs.length + ws.length <= sizeLine):wpAny (model prog w) A (binaryOp .Add (.ref t) (.ref b)) Q E s:=by
  obtain ⟨⟨cls,dd,data,sl⟩,ho,hc,n,hd⟩:=id ht
  obtain ⟨⟨cls2,dd2,data2,sl2⟩,ho2,hc2,n2,hd2⟩:=id hb
  simp only at hc hd hc2 hd2
  subst hc hd hc2 hd2
  have e:vs.toArray ++ ws.toArray=(vs ++ ws).toArray:=by simp
  by_cases hw:ws=[]
  · exact concat_meets ⟨_,ho,rfl⟩ ⟨_,ho2,rfl⟩ noFill_tuple_add seq_tuple_add PySem.F.slot_tuple_add PySem.F.entry_tuple_add (PySem.F.args_tuple_add_2 _ _)
      (tuple_addW1 t b vs.toArray ws.toArray n n2 dd dd2 sl sl2 (by simpa using hv) (by simp [hw])) ⟨ho,ho2,h1 hw⟩
  · refine concat_meets ⟨_,ho,rfl⟩ ⟨_,ho2,rfl⟩ noFill_tuple_add seq_tuple_add PySem.F.slot_tuple_add PySem.F.entry_tuple_add (PySem.F.args_tuple_add_2 _ _)
      (tuple_addW2 t b vs.toArray ws.toArray n n2 dd dd2 sl sl2 (by simpa using hv) (by simpa using hw) (by rw [List.size_toArray,List.size_toArray];exact hsz)) ⟨ho,ho2,?_⟩
    rw [e]
    exact h2 hw
def sIx (n d:Nat):Option Int->Nat
  | none=>d
  | some v=>if v < 0 then (v + (n:Int)).toNat else min v.toNat n
theorem sIx_none (n d:Nat):sIx n d none=d:=rfl
theorem sIx_nat (n d k:Nat):sIx n d (some (k:Int))=min k n:=by
  show (if (k:Int) < 0 then ((k:Int) + (n:Int)).toNat else min (k:Int).toNat n)=min k n
  rw [if_neg (by omega),Int.toNat_natCast]
theorem sIx_le (n d:Nat) (hd:d <= n) (o:Option Int):sIx n d o <= n:=by
  cases o with
  | none=>exact hd
  | some v =>
    show (if v < 0 then (v + (n:Int)).toNat else min v.toNat n) <= n
    by_cases hv:v < 0
    · rw [if_pos hv];omega
    · rw [if_neg hv];exact Nat.min_le_right _ _
theorem clip_eq (v:Int) (n d:Nat):(if v < 0 then max (v + (n:Int)) 0 else min v (n:Int))=((sIx n d (some v):Nat):Int):=by
  show (if v < 0 then max (v + (n:Int)) 0 else min v (n:Int))=(((if v < 0 then (v + (n:Int)).toNat else min v.toNat n):Nat):Int)
  by_cases hv:v < 0
  · simp only [if_pos hv];omega
  · simp only [if_neg hv];omega
theorem adjust_gen (lo hi:Option Int) (n:Nat):Builtin.Slice.sliceAdjust lo hi 1 (n:Int)=(((sIx n 0 lo:Nat):Int),((sIx n n hi:Nat):Int)):=by
  have h1:¬ ((1:Int) < 0):=by omega
  unfold Builtin.Slice.sliceAdjust
  simp only [h1,if_false]
  refine Prod.ext ?_ ?_
  · cases lo with
    | none=>rfl
    | some v=>exact clip_eq v n 0
  · cases hi with
    | none=>rfl
    | some v=>exact clip_eq v n n
theorem places_gen (i j:Nat):Builtin.Slice.slicePlaces (i:Int) (j:Int) 1=j - i:=by
  unfold Builtin.Slice.slicePlaces
  have h1:(1:Int) > 0:=by omega
  simp only [h1,if_true,Int.ediv_one]
  split <;> omega
theorem slicePart_ {v:Value} {o:Option Int} {Q:Option Int->Shared->Prop} (p:IsPart v o) (h:Q o s):wpAny (model prog w) A (Builtin.Slice.slicePartIndex v) Q E s:=by
  cases p with
  | none=>exact slicePart_none h
  | int i t=>exact slicePart_int h
theorem sliceApplied_gen {sl:Addr} {vl vu:Value} {lo hi:Option Int} {n:Nat} {Q:Int × Int × Nat->Shared->Prop} (hs:s.heap.IsSliceOf sl vl vu .none) (pl:IsPart vl lo) (pu:IsPart vu hi)
    (h:Q (((sIx n 0 lo:Nat):Int),1,sIx n n hi - sIx n 0 lo) s):wpAny (model prog w) A (Builtin.Slice.sliceApplied (.ref sl) (pure (n:Int))) Q E s:=by
  obtain ⟨os,hos,hcs,hds⟩:=id hs
  unfold Builtin.Slice.sliceApplied Builtin.Slice.sliceFields
  refine wpAny_bind (wpAny_bind (wpAny_field hos hds (x:=vl) rfl (wpAny_bind (wpAny_field hos hds (x:=vu) rfl (wpAny_bind (wpAny_field hos hds (x:=.none) rfl (wpAny_pure ?_)))))))
  refine wpAny_bind (slicePart_none ?_)
  show wpAny _ _ (if ((1:Int) == 0)=true then _ else _) _ _ s
  rw [if_neg (by decide)]
  refine wpAny_bind (slicePart_ pl (wpAny_bind (slicePart_ pu (wpAny_bind (wpAny_pure ?_)))))
  show wpAny _ _ (match Builtin.Slice.sliceAdjust lo hi 1 (n:Int) with | (lo,hi)=>pure (lo,(1:Int),Builtin.Slice.slicePlaces lo hi 1)) _ _ s
  rw [adjust_gen lo hi n]
  show wpAny _ _ (pure (((sIx n 0 lo:Nat):Int),(1:Int),Builtin.Slice.slicePlaces ((sIx n 0 lo:Nat):Int) ((sIx n n hi:Nat):Int) 1)) _ _ s
  rw [places_gen]
  exact wpAny_pure h
theorem pick_gen (xs:Array Value) (i k:Nat):((List.range k).filterMap fun (m:Nat)=>xs[((i:Int) + (m:Int) * 1).toNat]?).toArray=((xs.toList.drop i).take k).toArray:=by
  have e:(fun (m:Nat)=>xs[((i:Int) + (m:Int) * 1).toNat]?)=fun m=>xs[i + m]?:=by
    funext m
    have:((i:Int) + (m:Int) * 1).toNat=i + m:=by omega
    rw [this]
  rw [e]
  have:=pick_run xs i k
  rw [List.filterMap_map] at this
  have e2:((fun x=>xs[x]?) ∘ fun x=>i + x)=fun m=>xs[i + m]?:=rfl
  rw [e2] at this
  rw [this]
theorem getItem_tuple_cut {t sl:Addr} {items:Array Value} {vl vu:Value} {lo hi:Option Int} {Q:Value->Shared->Prop} (ht:IsTup s.heap t items) (hs:s.heap.IsSliceOf sl vl vu .none) (pl:IsPart vl lo) (pu:IsPart vu hi)
    (hw:¬ (sIx items.size 0 lo=0/\sIx items.size items.size hi=items.size))
    (h:Q (.ref s.heap.objs.size) { s with heap:=s.heap.push { cls:=.type "tuple",data:=.seq ((items.toList.drop (sIx items.size 0 lo)).take (sIx items.size items.size hi - sIx items.size 0 lo)).toArray } })
    (hsz:items.size <= sizeLine):wpAny (model prog w) A (getItem (.ref t) (.ref sl)) Q E s:=by
  have htake:sizeOk (.seq ((items.toList.drop (sIx items.size 0 lo)).take (sIx items.size items.size hi - sIx items.size 0 lo)).toArray):=by
    show ((items.toList.drop (sIx items.size 0 lo)).take (sIx items.size items.size hi - sIx items.size 0 lo)).toArray.size <= sizeLine
    rw [List.size_toArray,List.length_take,List.length_drop,Array.length_toList]
    omega
  have hj:sIx items.size items.size hi <= items.size:=sIx_le _ _ (Nat.le_refl _) hi
  obtain ⟨os,hos,hcs,hds⟩:=id hs
  have hTs:s.TypeIs (.ref sl) "slice":=⟨os,hos,hcs⟩
  unfold getItem
  try with_reducible refine wpAny_holding ?_
  first | refine wpAny_bind (wpAny_pure ?_) | skip
  refine wpAny_bind (wpAny_sequenceKey ht.typeIs (by decide) ?_)
  refine wpAny_bind (wpAny_callSpecial?_slot (name:=Str.ofString "__getitem__") ht.typeIs PyProof.Rows.slot_tuple_getitem
    (wpAny_call_entry PyProof.Rows.slot_tuple_getitem ht.typeIs entry_tuple_getitem ?_ (args_tuple_getitem _ _)))
  show wpAny _ _ (Builtin.Tuple.tupleItemsOf (.ref t) >>= _) _ _ s
  refine wpAny_bind (tupleItemsOf_ ht ?_)
  refine wpAny_bind (wpAny_typeOf hTs ?_)
  rw [if_pos (by decide)]
  refine wpAny_bind (sliceApplied_gen hs pl pu ?_)
  have hno:¬ ((((sIx items.size 0 lo:Nat):Int) == 0 && (1:Int) == 1 && (sIx items.size items.size hi - sIx items.size 0 lo) == items.size)=true):=by
    intro q
    rw [Bool.and_eq_true,Bool.and_eq_true] at q
    have q1:((sIx items.size 0 lo:Nat):Int)=0:=eq_of_beq q.1.1
    have q2:sIx items.size items.size hi - sIx items.size 0 lo=items.size:=eq_of_beq q.2
    exact hw ⟨by omega,by omega⟩
  show wpAny _ _ (if (((sIx items.size 0 lo:Nat):Int) == 0 && (1:Int) == 1 && (sIx items.size items.size hi - sIx items.size 0 lo) == items.size)=true then _ else _) _ _ s
  rw [if_neg hno,pick_gen]
  first
    | exact wpAny_bind (m:=Builtin.Tuple.tupleExact _) (wpAny_newObj_type (wpAny_pure ⟨_,rfl,wpAny_pure h⟩) htake)
    | exact wpAny_bind (m:=Builtin.Tuple.tupleExact _) (wpAny_newObj_type (wpAny_bind (wpAny_pure (wpAny_pure ⟨_,rfl,wpAny_pure h⟩))) htake)
    | exact wpAny_bind (wpAny_bind (m:=Builtin.Tuple.tupleExact _) (wpAny_newObj_type (wpAny_pure (wpAny_pure ⟨_,rfl,wpAny_pure h⟩)) htake))
    | exact wpAny_bind (wpAny_bind (m:=Builtin.Tuple.tupleExact _) (wpAny_newObj_type (wpAny_pure ⟨_,rfl,wpAny_pure h⟩) htake))
end
end HT
namespace L2
open PySem PySem.Spec PyProof.Rows
abbrev TO:=St->Hp->(Option Int->Hp->Prop)->Prop
def PO (X:Cx) (e:Option Expr) (t:TO):Prop :=
  ∀ (pins:List (Addr × Obj)) (s:Shared) (σ:St) (H:Hp) (Q:Option Int->Hp->Prop),Inv X pins σ H s->t σ H Q ->
    wpAny (model X.prog X.w) X.A (evalPart e X.env) (fun u s'=>∃ o H',Inv X pins σ H' s'/\IsPart u o/\Q o H') X.xe s
def tNoPart:TO:=fun _ H Q=>Q none H
def tPart (t:TE):TO:=fun σ H Q=>t σ H fun x H1=>∃ i,x=.int i/\Q (some i) H1
section
variable {X:Cx} {e:Expr} {te:TE} {lo hi:Option Expr} {tl th:TO} {pos p2:Pos}
theorem po_none:PO X none tNoPart:=by
  intro pins s σ H Q I h
  rw [evalPart_none]
  exact wpAny_pure ⟨none,H,I,.none,h⟩
theorem po_some (h:PE X e te):PO X (some e) (tPart te):=by
  intro pins s σ H Q I hw
  rw [evalPart_some]
  refine thn (h pins s σ H _ I hw) fun u s1 ⟨x,H1,I1,r1,q1⟩=>?_
  obtain ⟨i,rfl,q⟩:=q1
  obtain ⟨t,rfl⟩:=r1
  exact ⟨some i,H1,I1,.int i t,q⟩
def SlR (X:Cx) (r:V->Option Int->Option Int->Hp->VK->Prop):Prop :=
  ∀ (pins:List (Addr × Obj)) (s:Shared) (σ:St) (H:Hp) (x:V) (v vl vu:Value) (lo hi:Option Int) (sl:Addr) (Q:VK),Inv X pins σ H s->RelV x v->s.heap.IsSliceOf sl vl vu .none->IsPart vl lo->IsPart vu hi->r x lo hi H Q ->
    ∃ T id,typeLookup (.type T) "__getitem__"=pure (some (.builtin id))/\s.TypeIs v T/\wpAny (model X.prog X.w) X.A (getItem v (.ref sl)) (EP X pins σ Q) X.xe s
def tSl (r:V->Option Int->Option Int->Hp->VK->Prop) (te:TE) (tl th:TO):TE:=fun σ H Q=>te σ H fun x H1=>tl σ H1 fun l H2=>th σ H2 fun u H3=>r x l u H3 Q
theorem pe_slice {r:V->Option Int->Option Int->Hp->VK->Prop} (hr:SlR X r) (he:PE X e te) (hl:PO X lo tl) (hu:PO X hi th):PE X (.Subscript e (.Slice lo hi none p2) pos) (tSl r te tl th):=by
  intro pins s σ H Q I h
  refine Subscript_ (thn (he pins s σ H _ I h) fun v s1 ⟨x,H1,I1,r1,q1⟩=>?_)
  refine wpAny_Slice (thn (hl pins s1 σ H1 _ I1 q1) fun vl s2 ⟨l,H2,I2,pl,q2⟩=>thn (hu pins s2 σ H2 _ I2 q2) fun vu s3 ⟨u,H3,I3,pu,q3⟩=>?_)
  rw [evalPart_none]
  refine wpAny_pure ?_
  have I4:Inv X pins σ H3 { s3 with heap:=s3.heap.push { cls:=.type "slice",data:=.fields #[vl,vu,.none] } }:=I3.kept (t':=s3.toks) fun b ob q=>Heap.get?_push_of_some _ q
  obtain ⟨T,id,hT,ht,hg⟩:=hr pins { s3 with heap:=s3.heap.push { cls:=.type "slice",data:=.fields #[vl,vu,.none] } } σ H3 x v vl vu l u s3.heap.objs.size Q I4 r1 (Heap.IsSliceOf.new ..) pl pu q3
  show wpAny (model X.prog X.w) X.A (subscriptTail e (.Slice lo hi none p2) v (.ref s3.heap.objs.size)) (EP X pins σ Q) X.xe { s3 with heap:=s3.heap.push { cls:=.type "slice",data:=.fields #[vl,vu,.none] } }
  exact tail_any (ops:=[.ref s3.heap.objs.size,v]) ht hT hg (by with_unfolding_all rfl)
def cutV (xs:List V) (lo hi:Option Int):List V:=(xs.drop (HT.sIx xs.length 0 lo)).take (HT.sIx xs.length xs.length hi - HT.sIx xs.length 0 lo)
theorem cutV_length (xs:List V) (lo hi:Option Int):(cutV xs lo hi).length <= xs.length:=by
  unfold cutV
  rw [List.length_take,List.length_drop]
  omega
def rSlT (K:PySem.W.Frag):V->Option Int->Option Int->Hp->VK->Prop:=fun x lo hi H Q=>∃ a xs,x=.ref a/\SqT K H a xs /\
  ¬ (HT.sIx xs.length 0 lo=0/\HT.sIx xs.length xs.length hi=xs.length)/\∀ p,H p=none->Q (.ref p) (upd H p (.tup (cutV xs lo hi)))
theorem sl_tup:SlR X (rSlT X.K):=by
  intro pins s σ H x v vl vu lo hi sl Q I rx hs pl pu h
  obtain ⟨a,xs,rfl,hx,hw,q⟩:=h
  cases rx
  obtain ⟨its,r,ht,hz⟩:=I.tuple hx
  have hlen:its.toArray.size=xs.length:=by rw [List.size_toArray];exact r.length.symm
  refine ⟨"tuple",_,PyProof.Rows.slot_tuple_getitem.lookup,ht.typeIs,?_⟩
  refine HT.getItem_tuple_cut ht hs pl pu (by rw [hlen];exact hw) ?_ (by rw [hlen];exact hz)
  rw [hlen]
  refine ⟨.ref s.heap.objs.size,_,I.laid (t':=s.toks) (o:=.tup (cutV xs lo hi)) (fun b ob q=>Heap.get?_push_of_some _ q) (Nat.le_refl _) ?_,rfl,q _ (I.hok.fresh (Nat.le_refl _))⟩
  exact ⟨Nat.le_trans (cutV_length xs lo hi) hz,_,(r.drop (HT.sIx xs.length 0 lo)).take (HT.sIx xs.length xs.length hi - HT.sIx xs.length 0 lo),IsTup.new _ _⟩
def rCatT (K:PySem.W.Frag):R2:=fun x y H Q=>∃ a b xs ys,x=.ref a/\y=.ref b/\SqT K H a xs/\SqT K H b ys/\xs ≠ []/\xs.length + ys.length <= sizeLine /\
  (ys=[]->Q (.ref a) H)/\(ys ≠ []->∀ p,H p=none->Q (.ref p) (upd H p (.tup (xs ++ ys))))
theorem Vals.nil_iff {xs:List V} {us:List Value} (r:Vals xs us):us=[] ↔ xs=[]:=by
  cases r with
  | nil=>simp
  | cons _ _=>simp
theorem op_catT:OpR X (binaryOp .Add) (rCatT X.K):=by
  intro pins s σ H x y v u Q I rx ry h
  obtain ⟨a,b,xs,ys,rfl,rfl,ha,hb,hx,hz,q1,q2⟩:=h
  cases rx
  cases ry
  obtain ⟨its,r1,p1,_⟩:=I.tuple ha
  obtain ⟨its2,r2,p2,_⟩:=I.tuple hb
  refine HT.cat_tup p1 p2 (fun z=>hx (r1.nil_iff.mp z)) (fun z=>⟨.ref a,H,I,rfl,q1 (r2.nil_iff.mp z)⟩) (fun z=>?_) (by rw [<- r1.length,<- r2.length];exact hz)
  refine ⟨.ref s.heap.objs.size,_,I.laid (t':=s.toks) (o:=.tup (xs ++ ys)) (fun b ob q=>Heap.get?_push_of_some _ q) (Nat.le_refl _) ?_,rfl,q2 (fun w=>z (r2.nil_iff.mpr w)) _ (I.hok.fresh (Nat.le_refl _))⟩
  exact ⟨by rw [List.length_append];exact hz,_,r1.append r2,IsTup.new _ _⟩
end
end L2
namespace L2
open PySem PySem.Spec PyProof.Rows
def ixN (n:Nat) (i:Int):Option Nat:=if 0 <= i then (if i < n then some i.toNat else none) else if -(n:Int) <= i then some (i + n).toNat else none
def atI {α:Type} (xs:List α) (i:Int):Option α:=(ixN xs.length i).bind fun j=>xs[j]?
theorem ixN_seq {n:Nat} {i:Int} {j:Nat} (h:ixN n i=some j):seqIndex? i n=some j/\j < n/\-(n:Int) <= i/\i < n:=by
  unfold ixN at h
  by_cases h0:0 <= i
  · rw [if_pos h0] at h
    by_cases h1:i < n
    · rw [if_pos h1] at h
      have e:i.toNat=j:=Option.some.inj h
      exact ⟨by rw [seqIndex_of h0 h1,e],by omega,by omega,h1⟩
    · rw [if_neg h1] at h;cases h
  · rw [if_neg h0] at h
    by_cases h1:-(n:Int) <= i
    · rw [if_pos h1] at h
      have e:(i + n).toNat=j:=Option.some.inj h
      exact ⟨by rw [seqIndex_neg (by omega) h1,e],by omega,h1,by omega⟩
    · rw [if_neg h1] at h;cases h
theorem atI_get {α:Type} {xs:List α} {i:Int} {v:α} (h:atI xs i=some v):∃ j,seqIndex? i xs.length=some j/\xs[j]?=some v/\j < xs.length/\-(xs.length:Int) <= i/\i < xs.length:=by
  unfold atI at h
  cases e:ixN xs.length i with
  | none=>rw [e] at h;cases h
  | some j =>
    rw [e] at h
    obtain ⟨h1,h2,h3,h4⟩:=ixN_seq e
    exact ⟨j,h1,h,h2,h3,h4⟩
theorem atI_nat {α:Type} {xs:List α} {j:Nat} {v:α} (h:xs[j]?=some v):atI xs (j:Int)=some v:=by
  have hj:j < xs.length:=(List.getElem?_eq_some_iff.mp h).1
  have e:ixN xs.length (j:Int)=some j:=by
    unfold ixN
    rw [if_pos (by omega),if_pos (by omega)];simp
  unfold atI;rw [e];exact h
def PlainIx (b:Expr):Prop:=∀ o i,subscripted b false o i=operate [o,i] (getItem o i)
def IxR (X:Cx) (r:R2):Prop :=
  ∀ (value slice:Expr) (pins:List (Addr × Obj)) (s:Shared) (σ:St) (H:Hp) (x y:V) (v u:Value) (Q:VK),Inv X pins σ H s->RelV x v->RelV y u->r x y H Q ->
    subscripted slice false v u=operate [v,u] (getItem v u)->wpAny (model X.prog X.w) X.A (subscriptTail value slice v u) (EP X pins σ Q) X.xe s
def MtR (X:Cx) (id:String) (r:V->List V->Hp->VK->Prop):Prop :=
  ∀ (pins:List (Addr × Obj)) (s:Shared) (σ:St) (H:Hp) (x:V) (xs:List V) (v:Value) (us:List Value) (Q:VK),Inv X pins σ H s->RelV x v->Vals xs us->r x xs H Q ->
    wpAny (model X.prog X.w) X.A (call (.builtin id) (v :: us)) (EP X pins σ Q) X.xe s
section
variable {X:Cx} {a b:Expr} {ta tb:TE} {pos:Pos}
theorem pe_ix {r:R2} (hr:IxR X r) (ha:PE X a ta) (hb:PE X b tb) (hs:PlainIx b):PE X (.Subscript a b pos) (tOp r ta tb):=by
  intro pins s σ H Q I h
  exact Subscript_ (binT ha hb I h fun v u s2 x y H2 I2 rx ry q=>hr a b pins s2 σ H2 x y v u Q I2 rx ry q (hs _ _))
def rIxL (K:PySem.W.Frag):R2:=fun x y H Q=>∃ p xs i v,x=.ref p/\y=.int i/\SqL K H p xs/\atI xs i=some v/\Q v H
def rIxT (K:PySem.W.Frag):R2:=fun x y H Q=>∃ p xs i v,x=.ref p/\y=.int i/\SqT K H p xs/\atI xs i=some v/\Q v H
theorem ix_list:IxR X (rIxL X.K):=by
  intro value slice pins s σ H x y v u Q I rx ry h hs
  obtain ⟨p,xs,i,z,rfl,rfl,hq,he,q⟩:=h
  cases rx
  obtain ⟨t,rfl⟩:=ry
  obtain ⟨its,r,pl,hz⟩:=I.list hq
  obtain ⟨j,h1,h2,h3,h4,h5⟩:=atI_get he
  obtain ⟨w,ew,rw'⟩:=r.get h2
  have hl:=r.length
  have hn:=line63
  have fin:EP X pins σ Q w s:=⟨z,H,I,rw',q⟩
  by_cases h0:0 <= i
  · have hj:i.toNat=j:=by
      rw [seqIndex_of h0 h5] at h1
      exact Option.some.inj h1
    exact item_listR pl.isList h0 (by omega) (by rw [hj];simpa using ew) fin hs
  · have hj:(i + (its.toArray.size:Int)).toNat=j:=by
      rw [seqIndex_neg (by omega) h4] at h1
      rw [List.size_toArray,<- hl]
      exact Option.some.inj h1
    exact subscriptTail_builtinR (x:=w) pl.isList.typeIs slot_list_getitem.lookup
      (wpAny_getItem_list_neg (Q:=fun r s'=>r=w/\EP X pins σ Q r s') pl.isList (by omega) (by rw [List.size_toArray] <;> omega) (by omega) (by rw [hj];simpa using ew) ⟨rfl,fin⟩) hs
theorem ix_tup:IxR X (rIxT X.K):=by
  intro value slice pins s σ H x y v u Q I rx ry h hs
  obtain ⟨p,xs,i,z,rfl,rfl,hq,he,q⟩:=h
  cases rx
  obtain ⟨t,rfl⟩:=ry
  obtain ⟨its,r,pl,hz⟩:=I.tuple hq
  obtain ⟨j,h1,h2,h3,h4,h5⟩:=atI_get he
  obtain ⟨w,ew,rw'⟩:=r.get h2
  have hl:=r.length
  have hn:=line63
  have fin:EP X pins σ Q w s:=⟨z,H,I,rw',q⟩
  exact subscriptTail_builtinR (x:=w) pl.typeIs slot_tuple_getitem.lookup
    (getItem_tuple (j:=j) (Q:=fun r s'=>r=w/\EP X pins σ Q r s') pl (by omega) (by omega) (by rw [List.size_toArray,<- hl];exact h1) (by simpa using ew) ⟨rfl,fin⟩) hs
theorem mapSeq_set (its:List Value) (n j:Nat) (u:Value):Obj.mapSeq (·.setIfInBounds j u) { cls:=.type "list",data:=.seq its.toArray n }={ cls:=.type "list",data:=.seq (its.set j u).toArray n }:=by
  simp [Obj.mapSeq]
theorem Inv.lst {pins:List (Addr × Obj)} {σ:St} {H:Hp} {s:Shared} {p:Addr} {xs:List V} (I:Inv X pins σ H s) (h:H p=some (.lst xs)) :
    ∃ (its:List Value) (n:Nat),Vals xs its/\s.heap.get? p=some { cls:=.type "list",data:=.seq its.toArray n }/\xs.length <= sizeLine:=by
  obtain ⟨z,its,n,r,e⟩:=I.hok p _ h
  exact ⟨its,n,r,e,z⟩
theorem Inv.lstUpd {pins:List (Addr × Obj)} {σ:St} {H:Hp} {s:Shared} {p:Addr} {xs ys:List V} {its its':List Value} {n n':Nat} {f:Obj->Obj} (I:Inv X pins σ H s) (h:H p=some (.lst xs))
    (ho:s.heap.get? p=some { cls:=.type "list",data:=.seq its.toArray n }) (hf:f { cls:=.type "list",data:=.seq its.toArray n }={ cls:=.type "list",data:=.seq its'.toArray n' }) (r:Vals ys its') (hz:ys.length <= sizeLine) (t:Nat) :
    Inv X pins σ (upd H p (.lst ys)) { s with heap:=s.heap.update p f,toks:=t }:=by
  have e:(s.heap.update p f).get? p=some { cls:=.type "list",data:=.seq its'.toArray n' }:=by
    rw [Heap.get?_update_self f ho (by rw [hf] <;> rfl),hf]
  refine I.write (x:=p) (e:=p) (by rw [h];trivial) (.inl rfl) (fun b u hb q=>(Heap.get?_update_other _ _ (Ne.symm hb)).trans q) ⟨_,e⟩ ?_
  exact ⟨hz,its',n',r,e⟩
def rSetL:V->V->V->Hp->(Hp->Prop)->Prop:=fun o i v H Q=>∃ p xs k j,o=.ref p/\i=.int k/\H p=some (.lst xs)/\ixN xs.length k=some j/\Q (upd H p (.lst (xs.set j v)))
theorem set_list:PSet X rSetL:=by
  intro pins s σ H o i v ov iv u Q I ro ri rv h
  obtain ⟨p,xs,k,j,rfl,rfl,hp,hj,q⟩:=h
  cases ro
  obtain ⟨t,rfl⟩:=ri
  obtain ⟨its,n,r,ho,hz⟩:=I.lst hp
  obtain ⟨h1,h2,h3,h4⟩:=ixN_seq hj
  have hl:=r.length
  have hn:=line63
  have I':Inv X pins σ (upd H p (.lst (xs.set j v))) { s with heap:=s.heap.update p (Obj.mapSeq (·.setIfInBounds j u)) } :=
    I.lstUpd hp ho (mapSeq_set its n j u) (r.set rv j) (by rw [List.length_set];exact hz) s.toks
  by_cases h0:0 <= k
  · have hk:k.toNat=j:=by
      rw [seqIndex_of h0 h4] at h1
      exact Option.some.inj h1
    exact PySem.W.ki_setAt ho h0 (by omega) (by rw [List.size_toArray,<- hl];exact h4) (by rw [hk];exact ⟨_,I',q⟩)
  · have hk:(k + (its.toArray.size:Int)).toNat=j:=by
      rw [seqIndex_neg (by omega) h3] at h1
      rw [List.size_toArray,<- hl]
      exact Option.some.inj h1
    exact PySem.W.ki_setBack ho (by omega) (by rw [List.size_toArray,<- hl];exact h3) (by omega) (by rw [hk];exact ⟨_,I',q⟩)
def flatV:V->Bool
  | .non=>true
  | .bl _=>true
  | .int _=>true
  | .str _=>true
  | _=>false
def eqV:V->V->Bool
  | .non,.non=>true
  | .bl a,.bl b=>a == b
  | .bl a,.int b=>(if a then 1 else 0) == b
  | .int a,.bl b=>a == (if b then 1 else 0)
  | .int a,.int b=>a == b
  | .str a,.str b=>a == b
  | _,_=>false
theorem eqAt_V {A:Around} {s:Shared} {y x:V} {u v:Value} (ry:RelV y u) (rx:RelV x v) (fy:flatV y=true) (fx:flatV x=true):SeqAt.EqAt A s u v (eqV y x):=by
  cases y with
  | non =>
    cases ry
    cases x with
    | non=>cases rx;exact SeqAt.EqAt.same _
    | bl b=>cases rx;exact SeqAt.EqAt.none_bool b
    | int b=>obtain ⟨t,rfl⟩:=rx;exact SeqAt.EqAt.none_int b t
    | str b=>obtain ⟨t,rfl⟩:=rx;exact SeqAt.EqAt.none_str b t
    | _=>exact absurd (show false=true from fx) Bool.false_ne_true
  | bl a =>
    cases ry
    cases x with
    | non=>cases rx;exact SeqAt.EqAt.bool_none a
    | bl b=>cases rx;exact SeqAt.EqAt.bool_bool a b
    | int b=>obtain ⟨t,rfl⟩:=rx;exact SeqAt.EqAt.bool_int a b t
    | str b=>obtain ⟨t,rfl⟩:=rx;exact SeqAt.EqAt.bool_str a b t
    | _=>exact absurd (show false=true from fx) Bool.false_ne_true
  | int a =>
    obtain ⟨t',rfl⟩:=ry
    cases x with
    | non=>cases rx;exact SeqAt.EqAt.int_none a t'
    | bl b=>cases rx;exact SeqAt.EqAt.int_bool a t' b
    | int b=>obtain ⟨t,rfl⟩:=rx;exact SeqAt.EqAt.int_int a t' b t
    | str b=>obtain ⟨t,rfl⟩:=rx;exact SeqAt.EqAt.int_str a t' b t
    | _=>exact absurd (show false=true from fx) Bool.false_ne_true
  | str a =>
    obtain ⟨t',rfl⟩:=ry
    cases x with
    | non=>cases rx;exact SeqAt.EqAt.str_none a t'
    | bl b=>cases rx;exact SeqAt.EqAt.str_bool a t' b
    | int b=>obtain ⟨t,rfl⟩:=rx;exact SeqAt.EqAt.str_int a t' b t
    | str b=>obtain ⟨t,rfl⟩:=rx;exact SeqAt.EqAt.str_str a t' b t
    | _=>exact absurd (show false=true from fx) Bool.false_ne_true
  | _=>exact absurd (show false=true from fy) Bool.false_ne_true
def eqU (x:V) (u:Value):Bool:=match u with
  | .none=>eqV .non x
  | .bool b=>eqV (.bl b) x
  | .int i _=>eqV (.int i) x
  | .str z _=>eqV (.str z) x
  | _=>false
theorem eqU_of {x y:V} {u:Value} (r:RelV y u) (f:flatV y=true):eqU x u=eqV y x:=by
  cases y with
  | non=>cases r;rfl
  | bl b=>cases r;rfl
  | int i=>obtain ⟨t,rfl⟩:=r;rfl
  | str z=>obtain ⟨t,rfl⟩:=r;rfl
  | _=>exact absurd (show false=true from f) Bool.false_ne_true
theorem any_eqU {x:V}:∀ {xs:List V} {us:List Value},Vals xs us->xs.all flatV=true->us.any (eqU x)=xs.any fun y=>eqV y x
  | _,_,.nil,_=>rfl
  | y :: xs,u :: us,.cons r t,f=>by
    rw [List.all_cons,Bool.and_eq_true] at f
    rw [List.any_cons,List.any_cons,eqU_of r f.1,any_eqU t f.2]
theorem mem_eqAt {A:Around} {s:Shared} {x:V} {v:Value} (rx:RelV x v) (fx:flatV x=true):∀ {xs:List V} {us:List Value},Vals xs us->xs.all flatV=true->∀ u ∈ us,SeqAt.EqAt A s u v (eqU x u)
  | _,_,.nil,_=>fun u hu=>by cases hu
  | y :: xs,u :: us,.cons r t,f=>fun u' hu=>by
    rw [List.all_cons,Bool.and_eq_true] at f
    rcases List.mem_cons.mp hu with rfl | hu
    · rw [eqU_of r f.1];exact eqAt_V r rx f.1 fx
    · exact mem_eqAt rx fx t f.2 u' hu
def inV (x:V) (xs:List V):Bool:=xs.any fun y=>eqV y x
def rIn (K:PySem.W.Frag) (neg:Bool):R2:=fun x y H Q=>∃ p xs,y=.ref p/\(SqL K H p xs ∨ SqT K H p xs)/\flatV x=true/\xs.all flatV=true/\Q (.bl (if neg then !inV x xs else inV x xs)) H
theorem op_in_seq:OpR X (compareOp .In) (rIn X.K false):=by
  intro pins s σ H x y v u Q I rx ry h
  obtain ⟨p,xs,rfl,hq,fx,fs,q⟩:=h
  cases ry
  rcases hq with hq | hq
  · obtain ⟨its,r,pl,hz⟩:=I.list hq
    refine SeqAt.in_listAt (eqU x) pl.isList (fun w hw=>mem_eqAt rx fx r fs w (by simpa using hw)) ⟨.bl _,H,I,rfl,?_⟩
    rw [show its.toArray.any (eqU x)=its.any (eqU x) by simp,any_eqU r fs]
    exact q
  · obtain ⟨its,r,pl,hz⟩:=I.tuple hq
    refine SeqAt.in_tupleAt (eqU x) pl (fun w hw=>mem_eqAt rx fx r fs w (by simpa using hw)) ⟨.bl _,H,I,rfl,?_⟩
    rw [show its.toArray.any (eqU x)=its.any (eqU x) by simp,any_eqU r fs]
    exact q
theorem call_len_seq:CallR X (.builtin "len") (fun xs H Q=>∃ p ys,xs=[.ref p]/\(SqL X.K H p ys ∨ SqT X.K H p ys)/\Q (.int ys.length) H):=by
  intro pins s σ H xs us Q I r h
  obtain ⟨p,ys,rfl,hq,q⟩:=h
  obtain ⟨u,rfl,rx⟩:=vals1 r
  cases rx
  have hn:=line63
  rcases hq with hq | hq
  · obtain ⟨its,r',pl,hz⟩:=I.list hq
    have hlen:=r'.length
    exact Calls.call_len_list pl.isList (by simp only [List.size_toArray] <;> omega) ⟨.int ys.length,H,I.tok _,⟨s.toks + 1,by rw [List.size_toArray,hlen]⟩,q⟩
  · obtain ⟨its,r',pl,hz⟩:=I.tuple hq
    have hlen:=r'.length
    exact len_tuple pl (by simp only [List.size_toArray] <;> omega) ⟨.int ys.length,H,I.tok _,⟨s.toks + 1,by rw [List.size_toArray,hlen]⟩,q⟩
theorem call_tuple_of:CallR X (.type "tuple") (fun xs H Q=>∃ p ys,xs=[.ref p]/\((SqL X.K H p ys/\∀ l,H l=none->Q (.ref l) (upd H l (.tup ys))) ∨ (SqT X.K H p ys/\Q (.ref p) H))):=by
  intro pins s σ H xs us Q I r h
  obtain ⟨p,ys,rfl,h⟩:=h
  obtain ⟨u,rfl,rx⟩:=vals1 r
  cases rx
  rcases h with ⟨hq,q⟩ | ⟨hq,q⟩
  · obtain ⟨its,r',pl,hz⟩:=I.list hq
    have hlen:=r'.length
    refine call_tuple_list pl.isList (fun h' kp=>?_) (by simp only [List.size_toArray] <;> omega)
    have I1:Inv X pins σ H { s with heap:=h' }:=I.kept (t':=s.toks) kp
    have I2:Inv X pins σ (upd H h'.objs.size (.tup ys)) { s with heap:=h'.push { cls:=.type "tuple",data:=.seq its.toArray } } :=
      I1.laid (t':=s.toks) (fun b o e=>Heap.get?_push_of_some _ e) (Nat.le_refl _) (show ObjOk X.prog X.w _ _ _ (.tup ys) from ⟨hz,its,r',IsTup.new _ _⟩)
    exact ⟨.ref h'.objs.size,_,I2,rfl,q _ (I1.hok.fresh (Nat.le_refl _))⟩
  · obtain ⟨its,r',pl,hz⟩:=I.tuple hq
    exact call_tuple_same pl ⟨.ref p,H,I,rfl,q⟩
def tyV (K:PySem.W.Frag) (T:String) (x:V) (H:Hp):Prop:=match x with
  | .str _=>T="str"
  | .int _=>T="int"
  | .ref p=>(T="list"/\∃ xs,SqL K H p xs) ∨ (T="tuple"/\∃ o,K.lookup p=some o/\o.cls=.type "tuple"/\o.dict=none) ∨
      (T="dict"/\((∃ kvs,H p=some (.dK kvs)) ∨ ∃ kvs,H p=some (.dT kvs))) ∨ (T="set"/\∃ S n,H p=some (.set S n))
  | _=>False
theorem tyV_is {pins:List (Addr × Obj)} {σ:St} {H:Hp} {s:Shared} {T:String} {x:V} {v:Value} (I:Inv X pins σ H s) (r:RelV x v) (ty:tyV X.K T x H) :
    s.TypeIs v T/\∀ a,v=.ref a->∃ ob,s.heap.get? a=some ob/\ob.dict=none:=by
  cases x with
  | str z =>
    obtain ⟨t,rfl⟩:=r
    cases (show T="str" from ty)
    exact ⟨typeIs_str s z t,fun _ e=>nomatch e⟩
  | int i =>
    obtain ⟨t,rfl⟩:=r
    cases (show T="int" from ty)
    exact ⟨typeIs_int s i t,fun _ e=>nomatch e⟩
  | ref p =>
    cases r
    rcases ty with ⟨rfl,xs,hq⟩ | ⟨rfl,o,hk,hc,hd⟩ | ⟨rfl,hk⟩ | ⟨rfl,S,n,hk⟩
    · obtain ⟨its,_,pl,_⟩:=I.list hq
      refine ⟨pl.isList.typeIs,fun a e=>?_⟩
      cases e
      obtain ⟨o,n,e,c,hd,_⟩:=pl
      exact ⟨o,e,hd⟩
    · refine ⟨⟨o,I.kIn p o hk,hc⟩,fun a e=>?_⟩
      cases e
      exact ⟨o,I.kIn _ o hk,hd⟩
    · have z:∃ o,s.heap.get? p=some o/\o.ExactDict:=by
        rcases hk with ⟨kvs,hk⟩ | ⟨kvs,hk⟩
        · obtain ⟨_,_,_,_,o,_,_,e,ex,_⟩:=I.hok p _ hk
          exact ⟨o,e,ex⟩
        · obtain ⟨_,_,_,_,o,_,_,e,ex,_⟩:=I.hok p _ hk
          exact ⟨o,e,ex⟩
      obtain ⟨o,e,ex⟩:=z
      refine ⟨⟨o,e,ex.1⟩,fun a e2=>?_⟩
      cases e2
      exact ⟨o,e,ex.2.1⟩
    · obtain ⟨o,_,_,_,e,ex,_⟩:=I.hok p _ hk
      refine ⟨⟨o,e,ex.1⟩,fun a e2=>?_⟩
      cases e2
      exact ⟨o,e,ex.2.1⟩
  | _=>exact False.elim ty
def tBM (K:PySem.W.Frag) (T:String) (r:V->List V->Hp->VK->Prop) (to:TE) (t:TA):TE:=fun σ H Q=>to σ H fun x H1=>tyV K T x H1/\t σ H1 fun xs H2=>r x xs H2 Q
variable {o e:Expr} {es:List Expr} {to:TE} {t:TA} {name:Str} {apos cpos:Pos} {T id:String} {r:V->List V->Hp->VK->Prop}
theorem pe_bm (pa:PlainAttrs T) (slot:Slot T name id) (hty:typeOf (.builtin id)=pure (.type "method_descriptor")) (hm:MtR X id r) (ho:PE X o to) (ha:PA X (e :: es) t)
    (hbase:attributeBase o name X.env (eval o X.env)=eval o X.env:=by rfl)
    (hfew:((backTo cpos (starEach (e :: es) X.env)).all (fun x=>!x.1) && (backToKw cpos (keywordEach [] X.env)).all (fun x=>x.1.isSome)
      && decide ((e :: es).length + ([]:List Keyword).length + (if ([]:List Keyword).isEmpty then 0 else 1) < 30))=true:=by rfl)
    (hline:(apos.endLine == cpos.line)=true:=by rfl) (hs:starEach (e :: es) X.env=(false,eval e X.env) :: starEach es X.env:=by rfl) (hplain:(backTo cpos (starEach es X.env)).any (·.1)=false:=by rfl) :
    PE X (.Call (.Attribute o name apos) (e :: es) [] cpos) (tBM X.K T r to t):=by
  intro pins s σ H Q I h
  refine wpAny_Call_method_late hbase hfew hline rfl (thn (ho pins s σ H _ I h) fun v s1 ⟨x,H1,I1,r1,ty,q1⟩=>?_)
  obtain ⟨h1,h2⟩:=tyV_is I1 r1 ty
  refine ⟨T,id,pa,slot,hty,h1,h2,?_⟩
  have hA:=ha cpos pins s1 σ H1 _ I1 q1
  rw [hs] at hA ⊢
  refine Calls.callWith_builtin (by show (false || (backTo cpos (starEach es X.env)).any (·.1))=false;rw [hplain] <;> rfl) (Calls.evalArgs_plain ?_)
  exact thn hA fun us s2 ⟨vs,H2,I2,r2,q2⟩=>hm pins s2 σ H2 x vs v us Q I2 r1 r2 q2
/- xs.append(e),list.index on a module's tuple .. are MtR facts of 06m -/
end
end L2
namespace L2
open PySem PySem.Spec PyProof.Rows
def MtM (X:Cx) (id:String) (r:V->List V->Hp->VK->Prop):Prop :=
  ∀ (pins:List (Addr × Obj)) (s:Shared) (σ:St) (H:Hp) (x:V) (xs:List V) (v:Value) (us:List Value) (Q:VK),Inv X pins σ H s->RelV x v->Vals xs us->r x xs H Q ->
    wpAny (model X.prog X.w) X.A (call (.builtin id) (v :: us)) (EP X pins σ Q) X.xe s
theorem Vals.one:∀ {x:V} {us:List Value},Vals [x] us->∃ u,us=[u]/\RelV x u
  | _,_,.cons r .nil=>⟨_,rfl,r⟩
theorem Vals.rep {xs:List V} {us:List Value} (h:Vals xs us):∀ k:Nat,Vals (List.replicate k xs).flatten (List.replicate k us).flatten
  | 0=>.nil
  | k + 1=>by
    rw [List.replicate_succ,List.replicate_succ,List.flatten_cons,List.flatten_cons]
    exact Vals.append h (Vals.rep h k)
theorem foldl_rep (its:List Value):∀ (k:Nat) (acc:List Value),
    List.foldl (fun x1 x2=>x1 ++ x2) acc.toArray (List.replicate k its.toArray)=(acc ++ (List.replicate k its).flatten).toArray
  | 0,acc=>by simp
  | k + 1,acc=>by
    have e:acc.toArray ++ its.toArray=(acc ++ its).toArray:=by simp
    have e2:(acc ++ its) ++ (List.replicate k its).flatten=acc ++ (List.replicate (k + 1) its).flatten:=by
      rw [List.replicate_succ,List.flatten_cons,List.append_assoc]
    rw [<- e2,<- foldl_rep its k (acc ++ its),<- e,List.replicate_succ,List.foldl_cons]
section
variable {X:Cx} {pins:List (Addr × Obj)} {σ:St} {H:Hp} {s:Shared} {l b:Addr} {xs ys zs:List V}
theorem Inv.lset {its its':List Value} {n:Nat} {f:Array Value->Array Value} {t':Nat} (I:Inv X pins σ H s) (hH:H l=some (.lst xs))
    (e:s.heap.get? l=some { cls:=.type "list",data:=.seq its.toArray n }) (hf:f its.toArray=its'.toArray) (hv:Vals ys its') (hz:ys.length <= sizeLine) :
    Inv X pins σ (upd H l (.lst ys)) { s with heap:=s.heap.update l (Obj.mapSeq f),toks:=t' }:=by
  have q:=PySem.IsL.update e f
  rw [hf] at q
  refine I.write (x:=l) (e:=l) (by rw [hH];exact trivial) (.inl rfl) (fun b' u hb hu=>(Heap.get?_update_other s.heap (Obj.mapSeq f) (Ne.symm hb)).trans hu) ⟨_,q⟩ ?_
  exact ⟨hz,its',_,hv,q⟩
theorem Inv.lnew {its:List Value} {t':Nat} (I:Inv X pins σ H s) (hv:Vals ys its) (hz:ys.length <= sizeLine) :
    Inv X pins σ (upd H s.heap.objs.size (.lst ys)) { s with heap:=s.heap.push { cls:=.type "list",data:=.seq its.toArray },toks:=t' } :=
  I.laid (fun _ _ q=>Heap.get?_push_of_some _ q) (Nat.le_refl _) ⟨hz,its,0,hv,Heap.get?_push_size _ rfl⟩
theorem Inv.fresh (I:Inv X pins σ H s):H s.heap.objs.size=none:=I.hok.fresh (Nat.le_refl _)
theorem Inv.lstM (I:Inv X pins σ H s) (hH:H l=some (.lst xs)):xs.length <= sizeLine/\∃ (its:List Value) (n:Nat),Vals xs its/\xs.length=its.length/\s.heap.get? l=some { cls:=.type "list",data:=.seq its.toArray n }:=by
  obtain ⟨z,its,n,r,e⟩:=I.hok l _ hH
  exact ⟨z,its,n,r,r.length,e⟩
theorem notLongL {n:Nat} (h:n <= sizeLine):Builtin.List.listTooLong n=false:=by
  unfold Builtin.List.listTooLong
  exact decide_eq_false (by omega)
end
section
variable {X:Cx}
def rExtend:V->List V->Hp->VK->Prop:=fun x vs H Q=>∃ l b xs zs,x=.ref l/\vs=[.ref b]/\H l=some (.lst xs)/\H b=some (.lst zs)/\xs.length + zs.length <= sizeLine/\Q .non (upd H l (.lst (xs ++ zs)))
theorem mt_extend:MtM X "list.extend" rExtend:=by
  intro pins s σ H x vs v us Q I rx rv h
  obtain ⟨l,b,xs,zs,rfl,rfl,hH,hB,hz,q⟩:=h
  cases rx
  obtain ⟨u,rfl,ru⟩:=rv.one
  cases ru
  obtain ⟨z,its,n,r,hl,e⟩:=I.lstM hH
  obtain ⟨z2,its2,n2,r2,hl2,e2⟩:=I.lstM hB
  have hsz:its.toArray.size + its2.toArray.size <= sizeLine:=by rw [List.size_toArray,List.size_toArray];omega
  have hlong:¬ (!its.toArray.isEmpty && Builtin.List.listTooLong (its.toArray.size + its2.toArray.size))=true:=by
    rw [notLongL hsz,Bool.and_false]
    exact Bool.false_ne_true
  refine call_meets F.slot_list_extend ⟨_,e,rfl⟩ F.entry_list_extend (F.args_list_extend_2 _ _)
    (AutoSeq1.list_extend_list_list_0 l its.toArray n b its2.toArray n2 hlong (by rw [List.size_toArray];omega) (by omega)) ⟨e,e2,?_⟩
  refine ⟨.non,_,I.lset (its':=its ++ its2) hH e (by simp) (r.append r2) ?_,rfl,q⟩
  rw [List.length_append]
  omega
def rCat:R2:=fun x y H Q=>∃ l b xs zs,x=.ref l/\y=.ref b/\H l=some (.lst xs)/\H b=some (.lst zs)/\xs.length + zs.length <= sizeLine/\∀ p,H p=none->Q (.ref p) (upd H p (.lst (xs ++ zs)))
theorem op_cat:OpR X (binaryOp .Add) rCat:=by
  intro pins s σ H x y v u Q I rx ry h
  obtain ⟨l,b,xs,zs,rfl,rfl,hH,hB,hz,q⟩:=h
  cases rx
  cases ry
  obtain ⟨z,its,n,r,hl,e⟩:=I.lstM hH
  obtain ⟨z2,its2,n2,r2,hl2,e2⟩:=I.lstM hB
  refine PySem.P.add_list e e2 ?_ (by rw [List.size_toArray,List.size_toArray];omega)
  have ea:its.toArray ++ its2.toArray=(its ++ its2).toArray:=by simp
  rw [ea]
  exact ⟨.ref _,_,I.lnew (t':=s.toks) (r.append r2) (by rw [List.length_append];omega),rfl,q _ I.fresh⟩
def rRep:R2:=fun x y H Q=>∃ l k xs,x=.ref l/\y=.int k/\H l=some (.lst xs)/\-(2 ^ 63) <= k/\k < 2 ^ 63/\xs.length * k.toNat <= sizeLine /\
  ∀ p,H p=none->Q (.ref p) (upd H p (.lst (List.replicate k.toNat xs).flatten))
theorem len_rep {α:Type} (xs:List α) (k:Nat):(List.replicate k xs).flatten.length=k * xs.length:=by
  induction k with
  | zero=>simp
  | succ k ih=>rw [List.replicate_succ,List.flatten_cons,List.length_append,ih,Nat.succ_mul,Nat.add_comm]
theorem op_rep:OpR X (binaryOp .Mult) rRep:=by
  intro pins s σ H x y v u Q I rx ry h
  obtain ⟨l,k,xs,rfl,rfl,hH,h1,h2,hz,q⟩:=h
  cases rx
  obtain ⟨t,rfl⟩:=ry
  obtain ⟨z,its,n,r,hl,e⟩:=I.lstM hH
  have hlen:its.toArray.size * k.toNat <= sizeLine:=by rw [List.size_toArray,<- hl];exact hz
  have hcap:¬ its.toArray.size * k.toNat > (2 ^ 63 - 1) / 8:=by
    have:(sizeLine:Nat) <= (2 ^ 63 - 1) / 8:=by decide
    omega
  have hfit:¬ (!Builtin.List.listFitsIndex k)=true:=by
    rw [fitsIndex_both h1 h2]
    exact Bool.false_ne_true
  have hlong:¬ Builtin.List.listTooLong (its.toArray.size * k.toNat)=true:=by
    rw [notLongL hlen]
    exact Bool.false_ne_true
  have hnew:List.foldl (fun x1 x2=>x1 ++ x2) #[] (List.replicate (if its.toArray.isEmpty=true then 0 else k.toNat) its.toArray)=(List.replicate k.toNat its).flatten.toArray:=by
    have f0:∀ m:Nat,List.foldl (fun x1 x2=>x1 ++ x2) #[] (List.replicate m its.toArray)=(List.replicate m its).flatten.toArray:=fun m=>by
      have:=foldl_rep its m []
      rw [List.nil_append] at this
      exact this
    rw [f0]
    cases its with
    | nil=>simp
    | cons a r'=>rw [if_neg (by simp)]
  refine wpAny_binaryOp_repeat_ref (T:="list") (U:="int") (by decide) ⟨_,e,rfl⟩ (fun s'=>typeIs_int s' k t) noFill_list_mul F.fills_int_mul F.slot_int_rmul repeat_list F.slot_int_index.lookup
    (call_meets F.slot_int_rmul (typeIs_int s k t) F.entry_int_rmul (F.args_int_rmul_2 _ _) (int___rmul___int_list k t l its.toArray n)
      ⟨e,rfl,⟨_,e,rfl⟩,call_meets F.slot_list_mul ⟨_,e,rfl⟩ F.entry_list_mul (F.args_list_mul_2 _ _) (AutoListH.list___mul___list_int_3 l its.toArray n k t hfit hcap hlong) ⟨e,?_⟩⟩)
  rw [hnew]
  exact ⟨.ref _,_,I.lnew (t':=s.toks) (r.rep k.toNat) (by rw [len_rep,Nat.mul_comm];exact hz),rfl,q _ I.fresh⟩
end
section
variable {prog:Program} {w:World} {A:Around} {E:Value->Shared->Prop} {s:Shared}
set_option maxRecDepth 100000 in
end
section
variable {X:Cx}
end
end L2
namespace Att
open PySem PySem.W PySem.Calls PyProof.Rows
theorem ints_of_wellAll {P:Params} {h:Heap}:∀ (ns:List Int) (vs:List Value),WellAll P h vs (ns.map WData.int)->IntsAre vs ns:=by
  intro ns
  induction ns with
  | nil =>
    intro vs w
    rw [List.map_nil] at w
    cases w
    exact .nil
  | cons n ns ih =>
    intro vs w
    rw [List.map_cons] at w
    cases w with
    | cons a b =>
      cases a
      exact .cons _ _ (ih _ b)
theorem script_of {l:OpenLaw} {n:Nat} (hn:l.most=some n) {P:Params} {h:Heap} {args:List WData} {vals:List Value}
    (hpre:l.row.toRowW.claim.pre args=true) (hwl:WellAll P h vals args) :
    ∃ a vs ns,vals=[Value.ref a]/\args=[WData.list (ns.map WData.int)]/\h.get? a=some { cls:=.type "list",data:=.seq vs.toArray }/\IntsAre vs ns/\ns.length <= n:=by
  have hsh:WShape.hasAll [] args [.list .int]=true:=(pre_splitW hpre).1
  have hc:l.pre.holds [] { args:=args }=true:=(pre_splitW hpre).2
  obtain ⟨d,r,rfl,h1,h2⟩:=hasAllW_cons hsh
  obtain rfl:=hasAllW_nil h2
  obtain ⟨xs,rfl,h3⟩:=hasW_list h1
  obtain ⟨ns,rfl⟩:=items_int h3
  have hlen:ns.length <= n:=by
    unfold OpenLaw.pre at hc
    have h4:(WTm.not (.lt (.lit (.int (n:Int))) (.len (.arg 0)))).holds [] { args:=[.list (ns.map .int)] }=true:=by
      have h4:=(holds_andW hc).1
      rw [hn] at h4
      exact h4
    have h5:=condW_of h4 (w_not (w_lt w_lit (w_len_list (w_arg rfl))))
    rw [List.length_map] at h5
    refine Nat.le_of_not_lt fun q=>?_
    have q':(n:Int) < ((ns.length:Nat):Int):=by omega
    first
      | (rw [decide_eq_true q'] at h5;exact absurd h5 (by decide))
      | (simp at h5;omega)
  cases hwl with
  | cons w1 w2 =>
    cases w2
    cases w1 with
    | list ho hall=>exact ⟨_,_,ns,rfl,rfl,ho,ints_of_wellAll ns _ hall,hlen⟩
theorem post_true (l:OpenLaw) (args:List WData):l.row.toRowW.claim.post args (.bool true) args=true :=
  postW_of (r:=l.row.toRowW) (X:=(true == true))
    (show WShape.has [] (.bool true) .bool=true by first | rfl | decide | simp [WShape.has,WShape.arms,WShape.armsAll])
    (show (WTm.eq .res (.lit (.bool true))).value [] { args:=args,res:=some (.bool true),after:=args }=some (.bool (true == true)) from w_eq_bool (w_res rfl) w_lit) rfl
theorem attach_call {l:OpenLaw} {n:Nat} {q:Program} {loose:List Str} {XP:(Str->Option Value)->Heap->Prop} {YP:World->Heap->Prop} {d:DefRec}
    (hn:l.most=some n) (hdf:d.params.defaults=[])
    (call:∀ (w:World) (s₀ s₁:Shared) (mg mb:Str->Option Value) (fa:Addr) (o:Obj) (pm cd doc:Value) (a:Addr) (vs:List Value) (ns:List Int),
      Ground q loose [] XP w s₀ mg mb s₁.heap->YP w s₁.heap ->
      s₁.heap.get? fa=some o->o.data=.func (docDef d.name d.params d.body d.scope pm cd doc)->s₁.heap.CodeRec cd d.name->mg d.name=some (.ref fa) ->
      s₁.heap.get? a=some { cls:=.type "list",data:=.seq vs.toArray }->IntsAre vs ns->ns.length <= n->s₁.gens=#[] ->
      codeAny (model l.prog w) callerA (.call (.ref fa) ⟨[.ref a],[]⟩) (fun r s'=>r=.ok (.ret (.bool true))/\OldK s₁.heap s'.heap/\s'.os=s₁.os/\AllBare s'.gens) s₁) :
    WalkO q loose XP YP l.row.toRowW d [] (fun f vs=>PySem.call f vs):=by
  intro w s₀ s₁ mg mb G Y fa o pm cd doc dV kV ho hd hcd hD hmg hg args vals as hpre hlay hrd hwl hlo
  obtain rfl:dV=.none:=Dflts.none hD hdf
  obtain rfl:kV=.none:=Dflts.noKw hD
  obtain ⟨a,vs,ns,rfl,rfl,hobj,hints,hlen⟩:=script_of hn hpre hwl
  refine enter_call (codeAny_mono (call w s₀ s₁ mg mb fa o pm cd doc a vs ns G Y ho (fd_plain hd) hcd hmg hobj hints hlen hg) fun r s' hq=>?_)
  obtain ⟨rfl,h2,h3,h4⟩:=hq
  exact ⟨.inl ⟨.bool true,.bool true,[],rfl,fun _=>rfl,.bool true,post_true l _,fun _=>⟨List.Pairwise.nil,fun _ hm=>(nomatch hm)⟩⟩,h2,h3,h4⟩
section
variable {prog:Program} {w:World} {A:Around} {E:Value->Shared->Prop} {s:Shared} {K:Frag}
end
end Att
namespace L2
open PySem PySem.Spec PyProof.Rows
theorem vals_ints:∀ {vs:List Value} {ns:List Int},IntsAre vs ns->Vals (ns.map V.int) vs
  | _,_,.nil=>.nil
  | _,_,.cons n t h=>.cons ⟨t,rfl⟩ (vals_ints h)
def Only (H:Hp):Prop:=∀ b,H b=none ∨ ∃ o xs,H b=some (.frz o (.lst xs))
theorem law_call {P:Program} {w:World} {K:PySem.W.Frag} {mg mb:Str->Option Value} {CX:CXT} {k:Nat} {fa a:Addr} {fd:FuncData} {x:Str} {sp:Sp} {s₁:Shared} {vs:List Value} {ns:List Int}
    (KX:K.In s₁.heap) (hns:s₁.heap.Ns mainGlobals mg) (hb:s₁.heap.Ns builtinsNs mb) (hbb:∀ x:Str,x ≠ "__name__"->mb x=bootBuiltins x) (hlim:s₁.heap.NoLimit) (hg:s₁.gens=#[])
    (ha:s₁.heap.get? a=some { cls:=.type "list",data:=.seq vs.toArray }) (hi:IntsAre vs ns) (hl:ns.length <= sizeLine) (hr:Room k callerA)
    (F:∀ base:Heap,K.In base->base.Ns mainGlobals mg->FnOk P w K mg base CX k fa fd [x] sp) (hbind:∀ (s:Shared) (u:Value),BindsTo s fd ⟨[u],[]⟩ [(x,u)])
    (hsp:∀ H:Hp,Only H->SqL K H a (ns.map V.int)->sp [.ref a] H (fun v _=>v=.bl true) fun _ _ _=>False)
    (hCX:∀ H e s',CX [] H s₁ (fun _ _ _=>False) e s'->False) :
    codeAny (model P w) callerA (.call (.ref fa) ⟨[.ref a],[]⟩) (fun r s'=>r=.ok (.ret (.bool true))/\OldK s₁.heap s'.heap/\s'.os=s₁.os/\AllBare s'.gens) s₁:=by
  have rv:=vals_ints hi
  have lenV:=hi.length
  have core:∀ H:Hp,Only H->SqL K H a (ns.map V.int)->HOk P w H s₁.heap->(∀ b,H b ≠ none->b=a)->(H a ≠ none->K.lookup a=none) ->
      codeAny (model P w) callerA (.call (.ref fa) ⟨[.ref a],[]⟩) (fun r s'=>r=.ok (.ret (.bool true))/\OldK s₁.heap s'.heap/\s'.os=s₁.os/\AllBare s'.gens) s₁:=by
    intro H hO hS hok hA hK
    have base_of:∀ {b:Addr} {o:Obj},s₁.heap.get? b=some o->H b=none->(hidT s₁.heap H).get? b=some o:=fun e n=>hidT_get e n
    have noA:∀ {b:Addr} {o:Obj} {es:Array DictEntry} {ep:Nat},s₁.heap.get? b=some o->o.data=.dict es ep->H b=none:=fun {b o es ep} e d=>by
      cases q:H b with
      | none=>rfl
      | some u =>
        have e':b=a:=hA b (by rw [q];simp)
        subst e'
        rw [ha] at e;cases e
        have d':Data.seq vs.toArray _=Data.dict es ep:=d
        cases d'
    have nsK:∀ {b:Addr} {m:Str->Option Value},s₁.heap.Ns b m->(hidT s₁.heap H).Ns b m:=fun {b m} ⟨o,es,ep,e,d,r⟩=>⟨o,es,ep,base_of e (noA e d),d,r⟩
    have hKb:K.In (hidT s₁.heap H):=fun b o e=>base_of (KX b o e) (by
      cases q:H b with
      | none=>rfl
      | some u =>
        have e':b=a:=hA b (by rw [q];simp)
        subst e'
        rw [hK (by rw [q];simp)] at e;cases e)
    have hM:Mod K mg (hidT s₁.heap H):=⟨hKb,nsK hns,⟨mb,nsK hb,hbb⟩,let ⟨mc,h1,h2⟩:=hlim;⟨mc,nsK h1,h2⟩⟩
    have e0:Env0 P w K mg (hidT s₁.heap H) callerA [] s₁ H:=⟨rfl,hM,fun b o e=>of_hidT e,Nat.le_of_eq (hidT_size _ _),trivial,fun b hb=>absurd (show b ∈ ([]:List Addr) from hb) (by simp),hok,.of_eq hg⟩
    refine codeAny_mono ((F _ hKb (nsK hns)).run callerA [] s₁ H ⟨[.ref a],[]⟩ [.ref a] [.ref a] _ _ hr e0 (hbind s₁ (.ref a)) (.cons rfl .nil) (hsp H hO hS)) fun r s' h=>?_
    cases r with
    | error e=>exact (hCX H e s' h).elim
    | ok fl =>
      cases fl with
      | next=>exact False.elim h
      | brk=>exact False.elim h
      | cont=>exact False.elim h
      | ret u =>
        obtain ⟨v,H',os,bare,un,hok',r',q⟩:=h
        have q':v=.bl true:=q
        subst q'
        obtain rfl:u=Value.bool true:=r'
        refine ⟨rfl,OldK.of_keep fun b o e=>?_,os,bare⟩
        cases q:H b with
        | none=>exact un.keep b o e q (by intro z;exact absurd (show b ∈ ([]:List Addr) from z) (by simp)) (by simp)
        | some u =>
          rcases hO b with z | ⟨ob,xs,z⟩
          · rw [q] at z;cases z
          · have z2:=un.frzs b ob _ z
            obtain ⟨e1,_⟩:=hok b _ z
            obtain ⟨e2,_⟩:=hok' b _ z2
            rw [e] at e1;cases e1
            exact e2
  cases hk:K.lookup a with
  | some o =>
    have e:=KX a o hk
    rw [ha] at e
    cases e
    refine core (fun _=>none) (fun _=>.inl rfl) (.inr ⟨_,vs.toArray,_,hk,rfl,rfl,rfl,by rw [List.size_toArray,lenV];exact hl,by simpa using rv⟩) (fun b u z=>by have z':(none:Option HO)=some u:=z;cases z') (fun b z=>absurd rfl z) fun z=>absurd rfl z
  | none =>
    refine core (fun b=>if b=a then some (.frz { cls:=.type "list",data:=.seq vs.toArray } (.lst (ns.map V.int))) else none) (fun b=>?_) (.inl (.inr ⟨{ cls:=.type "list",data:=.seq vs.toArray },if_pos rfl⟩)) (fun b u z=>?_) (fun b z=>?_) fun _=>hk
    · by_cases hb:b=a
      · exact .inr ⟨_,_,if_pos hb⟩
      · exact .inl (if_neg hb)
    · by_cases hb:b=a
      · have z':=(if_pos hb).symm.trans z
        cases z'
        subst hb
        exact ⟨ha,by rw [List.length_map];exact hl,vs,_,rv,ha⟩
      · have z':=(if_neg hb).symm.trans z
        cases z'
    · by_cases hb:b=a
      · exact hb
      · exact absurd (if_neg hb) z
end L2
namespace L2
open PySem PySem.Spec PyProof.Rows
abbrev KOf {K:PySem.W.Frag} {h:Heap} (_:K.In h):PySem.W.Frag:=K
theorem walk_of {l:PySem.W.OpenLaw} {n k:Nat} {q:Program} {loose:List Str} {XP:(Str->Option Value)->Heap->Prop} {YP:World->Heap->Prop} {d:DefRec} {K:Params->PySem.W.Frag} {CX:World->CXT} {sp:World->Sp} {x:Str}
    (hn:l.most=some n) (hn2:n <= sizeLine) (hdf:d.params.defaults=[]) (hr:Room k callerA)
    (hY:∀ (w:World) (h:Heap),YP w h->(K w.params).In h)
    (F:∀ (w:World) (mg:Str->Option Value) (fa:Addr) (h:Heap),(K w.params).In h->h.Ns mainGlobals mg->mg d.name=some (.ref fa) ->
      ∃ fd:FuncData,(∀ (s:Shared) (u:Value),BindsTo s fd ⟨[u],[]⟩ [(x,u)]) /\
        ∀ base:Heap,(K w.params).In base->base.Ns mainGlobals mg->FnOk l.prog w (K w.params) mg base (CX w) k fa fd [x] (sp w))
    (hsp:∀ (w:World) (H:Hp) (a:Addr) (ns:List Int),ns.length <= n->Only H->SqL (K w.params) H a (ns.map V.int)->sp w [.ref a] H (fun v _=>v=.bl true) fun _ _ _=>False)
    (hCX:∀ (w:World) (H:Hp) (s:Shared) (e:Value) (s':Shared),CX w [] H s (fun _ _ _=>False) e s'->False) :
    PySem.W.WalkO q loose XP YP l.row.toRowW d [] (fun f vs=>PySem.call f vs):=by
  refine Att.attach_call hn hdf fun w s₀ s₁ mg mb fa o pm cd doc a vs ns G Y ho hd hcd hmg hobj hints hlen hg=>?_
  have KX:=hY w _ Y
  obtain ⟨fd,hb,hF⟩:=F w mg fa _ KX G.T.g hmg
  exact law_call KX G.T.g G.T.b G.T.builtins G.T.nolimit hg hobj hints (Nat.le_trans hlen hn2) hr hF hb (fun H hO hS=>hsp w H a ns hlen hO hS) fun H e s'=>hCX w H s₁ e s'
end L2
/- THE LAST THEOREM (shape;LID,My.* are yours):
   My.Adr: a structure of the addresses that your layer names (classes,functions);My.Txt K t: a structure (Prop) of the equations over K;
   My.txt_mk:{K} {implicit addresses ..} (e1:nsIn K mainGlobals "law"=some (some (.ref f))) (e2:K.lookup f=some ⟨oc,od,.func (fnOf "law" "law" params body scope dV kV doc pm an cdv ct),sl⟩) (e3:codeIn K cdv "law"=true) ..:∃ t,My.Txt K t
set_option maxRecDepth 100000 in
set_option maxHeartbeats 0 in
theorem PySem.Challenge.cw_LID_holds:PySem.Challenge.rw_LID.Holds:=by
  w_on;o_law;k_head;(case hw=>w_witness2)
  k_fill
  refine L2.walk_of (l:=PySem.Challenge.rw_LID) (n:=63) (k:=40) (x:="script") (CX:=fun w=>..) (sp:=fun _=>My.sp_law) rfl (by decide) rfl ⟨rfl,by decide,by decide⟩ (fun w h Y=>PySem.W.kIn_of Y) ?F ?S ?C
  case F =>
    intro w mg fa h KX G hmg
    have T:∃ t,My.Txt (L2.KOf KX) t:=by
      dsimp only [L2.KOf]                          -- K must stand as «<heap const> w.params» for k_is
      refine' My.txt_mk ?e1 ?e2 ?e3 ..
      (case e1=>PySem.W.k_is)                    -- in the order: a name->its address->its object->its parts
      (case e2=>PySem.W.k_is)
      ..
    obtain ⟨t,T⟩:=T
    have e0:=hmg.symm.trans (PySem.W.mg_of KX G T.law)
    cases e0                                       -- fa is the law's own address
    exact ⟨_,fun s u=>.of_eq rfl,fun base kb nb=>My.law_fn T kb nb⟩     -- if «.of_eq rfl» comes too early: refine' ⟨_,?b,fun base kb nb=>My.law_fn T kb nb⟩;exact fun s u=>.of_eq rfl
  case S=>exact fun w H a ns hl hO hS=>..
  case C=>exact ..
(the tactic k_is has no namespace: write k_is) -/
namespace L2
open PySem PySem.Spec PyProof.Rows
def defArgs (s:Stmt):Arguments:=match s with
  | .FunctionDef _ a _ _ _ _ _ _ _ _=>a
  | _=>{ posonlyargs:=[],args:=[],vararg:=none,kwonlyargs:=[],kw_defaults:=[],kwarg:=none,defaults:=[] }
def defBody (s:Stmt):List Stmt:=match s with
  | .FunctionDef _ _ b _ _ _ _ _ _ _=>b
  | _=>[]
def defScope (s:Stmt):Scope:=match s with
  | .FunctionDef _ _ _ _ _ _ sc _ _ _=>sc
  | _=>{ kind:=.function,names:=[],isGenerator:=false,isCoroutine:=false }
abbrev CX0:CXT:=fun _ _ _ _ _ _=>False
abbrev E0:XK:=fun _ _ _=>False
theorem pass0 {X:Cx}:Passes CX0 X E0:=fun _ _ _ _ _ _ _ h=>h.elim
structure Fun (K:PySem.W.Frag) (x qual:Str) (st:Stmt) (f:Addr) (fd:FuncData):Prop where
  ex:∃ (oc:Value) (od:Option Addr) (kV doc pm:Value) (an:Option Addr) (cdv ct:Value) (osl:Array (Option Value)),
    fd=PySem.W.fnOf x qual (defArgs st) (defBody st) (defScope st) .none kV doc pm an cdv ct/\K.lookup f=some ⟨oc,od,.func fd,osl⟩/\PySem.W.codeIn K cdv qual=true
  kp:PySem.W.keepIn K (.ref f)=true
section
variable {P:Program} {w:World} {K:PySem.W.Frag} {mg:Str->Option Value} {base:Heap}
theorem Fun.ok {x qual:Str} {st:Stmt} {f:Addr} {fd:FuncData} {N ps:List Str} {k:Nat} {sp:Sp} (F:Fun K x qual st f fd) (S:FnScope N ps (defScope st)) (len:∀ vs H Q E,sp vs H Q E->vs.length=ps.length)
    (hbody:∀ (cdv:Value) (A:Around) (outer:List Env) (s:Shared) (H:Hp) (vs:List V) (Q:VK) (E:XK),Room k (A.deeper (envOfC qual (defScope st) s.heap.objs.size f cdv))->sp vs H Q E ->
      ∃ t,PSs (cxOf CX0 P w K mg base N qual (defScope st) f cdv A outer s H E).nox (defBody st) t/\t { nx:=fun _ H'=>Q .non H',rt:=Q } (start N vs) H):FnOk P w K mg base CX0 (k + 1) f fd ps sp:=by
  obtain ⟨oc,od,kV,doc,pm,an,cdv,ct,osl,rfl,lk,hcd⟩:=F.ex
  refine fn_of lk hcd S len fun A outer s H vs Q E hr hsp=>?_
  obtain ⟨t,h,q⟩:=hbody cdv A outer s H vs Q E hr hsp
  exact ⟨t,h.nox,q⟩
theorem Fun.binds {x qual:Str} {st:Stmt} {f:Addr} {fd:FuncData} {ps:List Str} (F:Fun K x qual st f fd)
    (h:∀ (kV doc pm:Value) (an:Option Addr) (cdv ct:Value) (us:List Value),us.length=ps.length->bindArgs (PySem.W.fnOf x qual (defArgs st) (defBody st) (defScope st) .none kV doc pm an cdv ct) ⟨us,[]⟩=pure (ps.zip us)):Binds K fd ps []:=by
  obtain ⟨oc,od,kV,doc,pm,an,cdv,ct,osl,rfl,lk,hcd⟩:=F.ex
  exact .all (h kV doc pm an cdv ct)
theorem fun_mk {x qual:Str} {st:Stmt} {f:Addr} {oc:Value} {od an:Option Addr} {osl:Array (Option Value)} {kV doc pm cdv ct:Value} (l:K.lookup f=some ⟨oc,od,.func (PySem.W.fnOf x qual (defArgs st) (defBody st) (defScope st) .none kV doc pm an cdv ct),osl⟩)
    (c:PySem.W.codeIn K cdv qual=true) (k:PySem.W.keepIn K (.ref f)=true):Fun K x qual st f (PySem.W.fnOf x qual (defArgs st) (defBody st) (defScope st) .none kV doc pm an cdv ct):=⟨⟨oc,od,kV,doc,pm,an,cdv,ct,osl,rfl,l,c⟩,k⟩
end
theorem hu_of {A:Around} {k:Nat} (hr:Room k A):A.units + 1 < cLine:=Nat.lt_of_le_of_lt (Nat.add_le_add_left (by decide:1 <= 64) _) hr.units
theorem small1000 {n:Nat} (h:n <= 1000):n < sizeLine:=Nat.lt_of_le_of_lt h (by decide)
section
variable {X:Cx}
theorem pv (i:Nat) {x:Str} {pos:Pos} (hN:X.N[i]?=some x:=by rfl) (hv:Vis X.env.scope x:=by first | exact Or.inl rfl | exact Or.inr (Or.inl rfl) | exact Or.inr (Or.inr rfl)) (hd:(x == ("__debug__":Str))=false:=by decide)
    (hcd:(x == ("__classdict__":Str))=false:=by decide):PE X (.Name x pos) (tVar i):=pe_var hN hv hd hcd
end
theorem iteF {A B:Prop} (h:B):if false=true then A else B:=by
  rw [if_neg Bool.false_ne_true]
  exact h
theorem iteT {A B:Prop} (h:A):if true=true then A else B:=by
  rw [if_pos rfl]
  exact h
theorem ite2 {c A B:Prop} [Decidable c] (h1:c->A) (h2:¬ c->B):if c then A else B:=by
  by_cases h:c
  · rw [if_pos h]
    exact h1 h
  · rw [if_neg h]
    exact h2 h
def Same (H H':Hp):Prop:=∀ b o,H b=some o->H' b=some o
theorem Same.refl (H:Hp):Same H H:=fun _ _ h=>h
theorem Same.trans {H H1 H2:Hp} (a:Same H H1) (b:Same H1 H2):Same H H2:=fun c o h=>b c o (a c o h)
theorem Same.free {H H':Hp} (e:Same H H') {l:Addr} (h:H' l=Option.none):H l=Option.none:=by
  cases q:H l with
  | none=>rfl
  | some o =>
    rw [e l o q] at h
    cases h
end L2
set_option maxHeartbeats 4000000
namespace L2
open PySem PySem.Spec PyProof.Rows
theorem cellsFrom_app:∀ (names:List (Str × NameKind)) (n:Nat) (acc:List (Str × Addr)),cellsFrom n names acc=cellsFrom n names [] ++ acc
  | [],n,acc=>rfl
  | (x,k) :: r,n,acc=>by
    unfold cellsFrom
    split
    · rw [cellsFrom_app r (n + 1) ((x,n) :: acc),cellsFrom_app r (n + 1) [(x,n)],List.append_assoc]
      rfl
    · exact cellsFrom_app r n acc
def closL (env:Env):List (Str × NameKind)->List (Str × Addr)->List (Str × Addr)
  | [],acc=>acc
  | (x,k) :: r,acc=>if k == .free then closL env r ((x,(env.cells.lookup x).getD 0) :: acc) else closL env r acc
theorem closL_eq {env:Env} (f:Str × NameKind->List (Str × Addr)->Sem (ForInStep (List (Str × Addr))))
    (hf:∀ name kind cs,f (name,kind) cs=if kind == .free then (do let a <- cellOf env name;pure (.yield ((name,a) :: cs))) else pure (.yield cs)) :
    ∀ (names:List (Str × NameKind)) (acc:List (Str × Addr)),(∀ x ∈ names,x.2=.free->∃ c,env.cells.lookup x.1=some c)->forIn names acc f=pure (closL env names acc)
  | [],acc,_=>by rw [List.forIn_nil];rfl
  | (x,k) :: r,acc,h=>by
    have ih:=fun acc=>closL_eq f hf r acc fun y hy=>h y (List.mem_cons_of_mem _ hy)
    rw [List.forIn_cons,hf]
    unfold closL
    by_cases hk:(k == NameKind.free)=true
    · rw [if_pos hk,if_pos hk]
      obtain ⟨c,hc⟩:=h (x,k) List.mem_cons_self (beq_iff_eq.mp hk)
      have hc':env.cells.lookup x=some c:=hc
      have:cellOf env x=pure c:=by unfold cellOf;rw [hc']
      rw [this,hc']
      simp only [pure_bind,Option.getD_some]
      exact ih _
    · rw [if_neg hk,if_neg hk]
      simp only [pure_bind]
      exact ih _
theorem closureFor_eq {scope:Scope} {env:Env} (h:∀ x ∈ scope.names,x.2=.free->∃ c,env.cells.lookup x.1=some c):closureFor scope env=pure (closL env scope.names []):=by
  simp only [closureFor]
  rw [closL_eq (env:=env) _ (fun name kind cs=>by cases hk:kind == NameKind.free <;> simp [hk]) scope.names [] h]
  rfl
theorem closL_mem {env:Env}:∀ {names:List (Str × NameKind)} {acc:List (Str × Addr)} {x:Str} {c:Addr},(∀ x ∈ names,x.2=.free->∃ c,env.cells.lookup x.1=some c) ->
    (x,c) ∈ closL env names acc->(x,c) ∈ acc ∨ env.cells.lookup x=some c
  | [],acc,x,c,_,hm=>.inl hm
  | (y,k) :: r,acc,x,c,h,hm=>by
    have hr:∀ x ∈ r,x.2=.free->∃ c,env.cells.lookup x.1=some c:=fun z hz=>h z (List.mem_cons_of_mem _ hz)
    unfold closL at hm
    by_cases hk:(k == NameKind.free)=true
    · rw [if_pos hk] at hm
      obtain ⟨d,hd⟩:=h (y,k) List.mem_cons_self (beq_iff_eq.mp hk)
      have hd':env.cells.lookup y=some d:=hd
      rcases closL_mem hr hm with q | q
      · rcases List.mem_cons.mp q with e | q
        · cases e
          right;rw [hd'];rfl
        · exact .inl q
      · exact .inr q
    · rw [if_neg hk] at hm
      exact closL_mem hr hm
theorem closL_acc {env:Env}:∀ {names:List (Str × NameKind)} {acc:List (Str × Addr)} {p:Str × Addr},p ∈ acc->p ∈ closL env names acc
  | [],_,_,h=>h
  | (y,k) :: r,acc,p,h=>by
    unfold closL
    split
    · exact closL_acc (List.mem_cons_of_mem _ h)
    · exact closL_acc h
theorem closL_has {env:Env}:∀ {names:List (Str × NameKind)} {acc:List (Str × Addr)} {x:Str},(x,NameKind.free) ∈ names->∃ c,(x,c) ∈ closL env names acc
  | [],_,_,h=>by cases h
  | (y,k) :: r,acc,x,h=>by
    unfold closL
    rcases List.mem_cons.mp h with e | h
    · cases e
      rw [if_pos (by rfl)]
      exact ⟨_,closL_acc List.mem_cons_self⟩
    · split
      · exact closL_has h
      · exact closL_has h
theorem lookup_of_mem {α:Type}:∀ {l:List (Str × α)} {x:Str} {c:α},(x,c) ∈ l->∃ d,l.lookup x=some d
  | (k,v) :: r,x,c,h=>by
    rw [List.lookup_cons]
    cases hb:x == k with
    | true=>exact ⟨v,rfl⟩
    | false =>
      rcases List.mem_cons.mp h with e | h
      · cases e;simp at hb
      · exact lookup_of_mem h
theorem lookup_append_some {α:Type}:∀ {l l':List (Str × α)} {x:Str} {c:α},(l ++ l').lookup x=some c->l.lookup x=some c ∨ (l.lookup x=none/\l'.lookup x=some c)
  | [],l',x,c,h=>.inr ⟨rfl,h⟩
  | (k,v) :: r,l',x,c,h=>by
    rw [List.cons_append,List.lookup_cons] at h
    rw [List.lookup_cons]
    cases hb:x == k with
    | true=>rw [hb] at h;exact .inl h
    | false=>rw [hb] at h;exact lookup_append_some h
theorem lookup_append_left {α:Type}:∀ {l l':List (Str × α)} {x:Str} {c:α},l.lookup x=some c->(l ++ l').lookup x=some c
  | [],l',x,c,h=>by cases h
  | (k,v) :: r,l',x,c,h=>by
    rw [List.cons_append,List.lookup_cons]
    rw [List.lookup_cons] at h
    cases hb:x == k with
    | true=>rw [hb] at h;exact h
    | false=>rw [hb] at h;exact lookup_append_left h
theorem lookup_append_right {α:Type}:∀ {l l':List (Str × α)} {x:Str},l.lookup x=none->(l ++ l').lookup x=l'.lookup x
  | [],l',x,h=>rfl
  | (k,v) :: r,l',x,h=>by
    rw [List.cons_append,List.lookup_cons]
    rw [List.lookup_cons] at h
    cases hb:x == k with
    | true=>rw [hb] at h;cases h
    | false=>rw [hb] at h;exact lookup_append_right h
theorem lookup_relabel {env:Env}:∀ (names:List (Str × NameKind)) (x:Str),
    (names.map fun (n,k)=>if (k == NameKind.free && env.scope.kind == .function && env.kindOf n == some .cell) then (n,NameKind.cell) else (n,k)).lookup x
     =(names.lookup x).map fun k=>if (k == NameKind.free && env.scope.kind == .function && env.kindOf x == some .cell)=true then NameKind.cell else k
  | [],x=>rfl
  | (n,k) :: r,x=>by
    have ih:=lookup_relabel (env:=env) r x
    rw [List.map_cons]
    cases hx:x == n with
    | true =>
      have e:x=n:=beq_iff_eq.mp hx
      subst e
      by_cases hc:(k == NameKind.free && env.scope.kind == .function && env.kindOf x == some .cell)=true
      · simp only [hc,if_true,List.lookup_cons,hx,Option.map_some]
      · simp only [hc,List.lookup_cons,hx,Option.map_some]
        simp
    | false =>
      show List.lookup x ((if (k == NameKind.free && env.scope.kind == .function && env.kindOf n == some .cell)=true then (n,NameKind.cell) else (n,k)) :: _)=_
      by_cases hc:(k == NameKind.free && env.scope.kind == .function && env.kindOf n == some .cell)=true
      · rw [if_pos hc]
        simp only [List.lookup_cons,hx]
        exact ih
      · rw [if_neg hc]
        simp only [List.lookup_cons,hx]
        exact ih
theorem cellsFrom_in:∀ {names:List (Str × NameKind)} {n:Nat} {acc:List (Str × Addr)} {x:Str} {d:Addr},(x,d) ∈ cellsFrom n names acc->(x,d) ∈ acc ∨ (x,NameKind.cell) ∈ names
  | [],_,_,_,_,h=>.inl h
  | (y,k) :: r,n,acc,x,d,h=>by
    unfold cellsFrom at h
    by_cases hk:(k == NameKind.cell)=true
    · rw [if_pos hk] at h
      have e:k=.cell:=beq_iff_eq.mp hk
      subst e
      rcases cellsFrom_in h with q | q
      · rcases List.mem_cons.mp q with z | z
        · cases z;exact .inr List.mem_cons_self
        · exact .inl z
      · exact .inr (List.mem_cons_of_mem _ q)
    · rw [if_neg hk] at h
      rcases cellsFrom_in h with q | q
      · exact .inl q
      · exact .inr (List.mem_cons_of_mem _ q)
def okNames (scope:Scope):Bool:=scope.names.all fun x=>scope.names.lookup x.1 == some x.2
theorem okNames_get {scope:Scope} (h:okNames scope=true) {x:Str × NameKind} (hx:x ∈ scope.names):scope.names.lookup x.1=some x.2:=beq_iff_eq.mp (List.all_eq_true.mp h x hx)
theorem relabel_kind {scope:Scope} {env:Env} {x:Str} (h:(relabel scope env).names.lookup x=some .cell ∨ (relabel scope env).names.lookup x=some .free) :
    scope.names.lookup x=some .cell ∨ scope.names.lookup x=some .free:=by
  unfold relabel at h
  rw [lookup_relabel] at h
  cases e:scope.names.lookup x with
  | none=>rw [e] at h;rcases h with h | h <;> cases h
  | some k =>
    rw [e,Option.map_some] at h
    by_cases hc:(k == NameKind.free && env.scope.kind == .function && env.kindOf x == some .cell)=true
    · rw [Bool.and_eq_true,Bool.and_eq_true] at hc
      exact .inr (by rw [beq_iff_eq.mp hc.1.1])
    · simp only [hc] at h
      simpa using h
theorem newEnv_comp {M:Model} {A:Around} {E:Value->Shared->Prop} {s:Shared} {scope:Scope} {globals:Addr} {cl:List (Str × Addr)} {qual:Str} {env:Env} {Q:Env->Shared->Prop}
    (h:Q (newEnv scope s.heap.objs.size globals (cellsFrom (s.heap.objs.size + 1) scope.names [] ++ cl) qual none .none (some env) builtinsNs)
      { s with heap:=pushCells (s.heap.push { cls:=.type "dict",data:=.dict #[] }) scope.names }) :
    wpAny M A (newFunctionEnv scope globals cl [] qual none .none (some env)) Q E s:=by
  simp only [newFunctionEnv,Option.isSome_some,if_true]
  refine wpAny_bind (wpAny_alloc ?_)
  refine wpAny_bind (wpAny_layCells _ (fun name kind cells=>by cases hkc:kind == NameKind.cell <;> simp [hkc]) _ _ _ _ ?_)
  rw [show ({ s with heap:=s.heap.push { cls:=.type "dict",data:=.dict #[] } }:Shared).heap.objs.size=s.heap.objs.size + 1 from Heap.size_push ..,cellsFrom_app]
  exact wpAny_bind (wpAny_pure (wpAny_pure h))
def Cx.comp (X:Cx) (scope:Scope) (N:List Str) (s:Shared) (H:Hp) (ex:List Addr):Cx where
  prog:=X.prog
  w:=X.w
  K:=X.K
  mg:=X.mg
  base:=X.base
  A:=X.A
  N:=N
  s₀:=s
  H₀:=H
  env:=compEnvC scope (cellsFrom (s.heap.objs.size + 1) scope.names [] ++ closL X.env scope.names []) s.heap.objs.size X.env
  outer:=X.stack
  stack:=X.stack
  ex:=ex
  fn:=fun x=>scope.names.lookup x == some .cell
  calm:=X.calm
  pn:=[]
  xe:=fun _ _=>False
def pick (ix:List (Option Nat)) (σ:St):St:=ix.map fun o=>o.bind fun i=>(σ[i]?).join
def okIx (scope:Scope) (N:List Str):List Str->List (Option Nat)->Bool
  | [],[]=>true
  | _ :: N',none :: ix=>okIx scope N N' ix
  | x :: N',some i :: ix=>N[i]? == some x && scope.names.lookup x == some .free && okIx scope N N' ix
  | _,_=>false
theorem okIx_len {scope:Scope} {N:List Str}:∀ {N':List Str} {ix:List (Option Nat)},okIx scope N N' ix=true->ix.length=N'.length
  | [],[],_=>rfl
  | _ :: N',none :: ix,h=>by simp [okIx_len (N':=N') (ix:=ix) h]
  | x :: N',some i :: ix,h=>by
    unfold okIx at h
    rw [Bool.and_eq_true] at h
    simp [okIx_len (N':=N') (ix:=ix) h.2]
  | [],_ :: _,h=>by simp [okIx] at h
  | _ :: _,[],h=>by simp [okIx] at h
theorem okIx_get {scope:Scope} {N:List Str}:∀ {N':List Str} {ix:List (Option Nat)} {j i:Nat},okIx scope N N' ix=true->ix[j]?=some (some i) ->
    ∃ x,N'[j]?=some x/\N[i]?=some x/\scope.names.lookup x=some .free
  | [],[],j,i,_,e=>by simp at e
  | y :: N',none :: ix,0,i,h,e=>by simp at e
  | y :: N',none :: ix,j + 1,i,h,e=>by
    obtain ⟨x,h1,h2⟩:=okIx_get (N':=N') (ix:=ix) (j:=j) (i:=i) h (by simpa using e)
    exact ⟨x,by simpa using h1,h2⟩
  | y :: N',some k :: ix,0,i,h,e=>by
    unfold okIx at h
    rw [Bool.and_eq_true,Bool.and_eq_true] at h
    simp at e
    subst e
    exact ⟨y,rfl,beq_iff_eq.mp h.1.1,beq_iff_eq.mp h.1.2⟩
  | y :: N',some k :: ix,j + 1,i,h,e=>by
    unfold okIx at h
    rw [Bool.and_eq_true] at h
    obtain ⟨x,h1,h2⟩:=okIx_get (N':=N') (ix:=ix) (j:=j) (i:=i) h.2 (by simpa using e)
    exact ⟨x,by simpa using h1,h2⟩
  | [],_ :: _,_,_,h,_=>by simp [okIx] at h
  | _ :: _,[],_,_,h,_=>by simp [okIx] at h
def okFree (scope:Scope) (env:Env):Bool:=scope.names.all fun x=>!(x.2 == .free) || env.kindOf x.1 == some .cell || env.kindOf x.1 == some .free
theorem okFree_get {scope:Scope} {env:Env} (h:okFree scope env=true) {x:Str × NameKind} (hx:x ∈ scope.names) (hk:x.2=.free):env.kindOf x.1=some .cell ∨ env.kindOf x.1=some .free:=by
  have:=List.all_eq_true.mp h x hx
  rw [hk] at this
  simpa using this
section
variable {X:Cx} {pins:List (Addr × Obj)} {σ:St} {H:Hp} {s:Shared} {scope:Scope} {N:List Str} {ix:List (Option Nat)} {ex:List Addr}
theorem Inv.closed (I:Inv X pins σ H s) (hf:okFree scope X.env=true):∀ x ∈ scope.names,x.2=.free->∃ c,X.env.cells.lookup x.1=some c :=
  fun x hx hk=>I.ok.has x.1 (okFree_get hf hx hk)
theorem pick_get {j:Nat} {v:V} (h:(pick ix σ)[j]?=some (some v)):∃ i,ix[j]?=some (some i)/\σ[i]?=some (some v):=by
  unfold pick at h
  rw [List.getElem?_map] at h
  cases e:ix[j]? with
  | none=>rw [e] at h;cases h
  | some o =>
    rw [e] at h
    cases o with
    | none=>cases h
    | some i =>
      refine ⟨i,rfl,?_⟩
      have h':(σ[i]?).join=some v:=Option.some.inj h
      cases q:σ[i]? with
      | none=>rw [q] at h';cases h'
      | some z=>rw [q] at h';exact congrArg some h'
theorem Inv.comp (I:Inv X pins σ H s) (hk:scope.kind=.function) (hnm:okNames scope=true) (hf:okFree scope X.env=true) (hx:okIx scope X.N N ix=true)
    (hex:∀ b ∈ ex,H b=none/\b ≠ X.env.locals/\b ∉ X.fs/\(b ∈ X.ex ∨ X.s₀.heap.objs.size <= b)/\(∀ x c,X.env.cells.lookup x=some c->c ≠ b)/\b < s.heap.objs.size) :
    Inv (X.comp scope N s H ex) [] (pick ix σ) H { s with heap:=pushCells (s.heap.push { cls:=.type "dict",data:=.dict #[] }) scope.names }:=by
  have hcl:=I.closed hf
  have hkeep:∀ b o,s.heap.get? b=some o->(pushCells (s.heap.push { cls:=.type "dict",data:=.dict #[] }) scope.names).get? b=some o:=fun b o e=>pushCells_keeps _ _ b o (Heap.get?_push_of_some _ e)
  have ok:=cellsFrom_ok scope.names (s.heap.push { cls:=.type "dict",data:=.dict #[] }) (s.heap.objs.size + 1) [] ⟨fun _ _ hm=>(nomatch hm),List.Pairwise.nil⟩ (by rw [Heap.size_push];exact Nat.le_refl _)
  rw [Heap.size_push] at ok
  have hns:(pushCells (s.heap.push { cls:=.type "dict",data:=.dict #[] }) scope.names).Ns s.heap.objs.size (fun _=>none):=(Heap.Ns.new s.heap (.type "dict")).keeps (pushCells_keeps _ _)
  have cells:∀ x c,(X.comp scope N s H ex).env.cells.lookup x=some c->(x,c) ∈ cellsFrom (s.heap.objs.size + 1) scope.names [] ∨ X.env.cells.lookup x=some c:=fun x c e=>by
    have e':(cellsFrom (s.heap.objs.size + 1) scope.names [] ++ closL X.env scope.names []).lookup x=some c:=e
    rcases lookup_append_some e' with q | ⟨_,q⟩
    · exact .inl (mem_of_lookup q)
    · rcases closL_mem hcl (mem_of_lookup q) with z | z
      · cases z
      · exact .inr z
  have old:∀ x c,X.env.cells.lookup x=some c->c + 1 <= s.heap.objs.size:=fun x c e=>let ⟨v,q⟩:=I.cell x c e;q.lt
  have own:∀ x c,(x,c) ∈ cellsFrom (s.heap.objs.size + 1) scope.names []->s.heap.objs.size + 1 <= c:=fun x c e=>(ok.empty x c e).2
  refine ⟨⟨I.ok.mod,hk,I.ok.glob,I.ok.blt,Nat.le_refl _,fun x y c h1 h2=>?_,fun x h1=>?_,fun x c h1 h2=>?_,I.ok.hd,I.ok.frames,.inl rfl,fun b hb=>⟨?_,fun x c e=>?_⟩,I.bs,Nat.le_trans I.ok.bsz I.sz,fun b o e hb=>?_,fun b hb hb'=>?_,I.stack,I.stkFree⟩,
    rfl,I.bare,Un.kept hkeep,⟨_,hns,fun j x v h1 h2 h3=>?_⟩,fun x c e=>?_,I.hok.fresh (Nat.le_refl _),fun x c e=>?_,fun p hp=>absurd (show p ∈ ([]:List (Addr × Obj)) from hp) (by simp),I.hok.kept hkeep,?_⟩
  · rcases cells x c h1 with q1 | q1 <;> rcases cells y c h2 with q2 | q2
    · exact name_of_addr ok.apart q1 q2
    · exact absurd (Nat.le_trans (own _ _ q1) (Nat.le_trans (Nat.le_succ _) (old _ _ q2))) (Nat.not_succ_le_self _)
    · exact absurd (Nat.le_trans (own _ _ q2) (Nat.le_trans (Nat.le_succ _) (old _ _ q1))) (Nat.not_succ_le_self _)
    · exact I.ok.inj x y c q1 q2
  · have h1':scope.names.lookup x=some .cell ∨ scope.names.lookup x=some .free:=relabel_kind h1
    rcases h1' with q | q
    · obtain ⟨c,e⟩:=cell_has (n:=s.heap.objs.size + 1) (sc:=scope) q
      exact ⟨c,lookup_append_left e⟩
    · obtain ⟨c,e⟩:=closL_has (env:=X.env) (acc:=[]) (mem_of_lookup q)
      cases z:(cellsFrom (s.heap.objs.size + 1) scope.names []).lookup x with
      | some d=>exact ⟨d,lookup_append_left z⟩
      | none =>
        obtain ⟨d,e'⟩:=lookup_of_mem e
        exact ⟨d,(lookup_append_right z).trans e'⟩
  · have h1':scope.names.lookup x=some .cell:=beq_iff_eq.mp h1
    obtain ⟨d,e⟩:=cell_has (n:=s.heap.objs.size + 1) (sc:=scope) h1'
    have e':(cellsFrom (s.heap.objs.size + 1) scope.names [] ++ closL X.env scope.names []).lookup x=some c:=h2
    rw [lookup_append_left e] at e'
    cases e'
    exact Nat.le_trans (Nat.le_succ _) (own _ _ (mem_of_lookup e))
  · exact Nat.ne_of_lt (hex b hb).2.2.2.2.2
  · rcases cells x c e with q | q
    · exact Nat.ne_of_gt (Nat.lt_of_lt_of_le (hex b hb).2.2.2.2.2 (Nat.le_trans (Nat.le_succ _) (own _ _ q)))
    · exact (hex b hb).2.2.2.2.1 x c q
  · rcases (hex b hb).2.2.2.1 with z | z
    · exact I.ok.noex b o e z
    · exact absurd (Nat.lt_of_lt_of_le (Heap.lt_size e) (Nat.le_trans I.ok.bsz z)) (Nat.lt_irrefl _)
  · rcases List.mem_cons.mp (I.stkSub b hb') with z | z
    · exact (hex b hb).2.1 z
    · exact (hex b hb).2.2.1 z
  · obtain ⟨i,e1,e2⟩:=pick_get h2
    obtain ⟨y,f1,f2,f3⟩:=okIx_get hx e1
    have exy:x=y:=by
      have h1':N[j]?=some x:=h1
      rw [f1] at h1';exact (Option.some.inj h1').symm
    subst exy
    obtain ⟨m,hm,hl⟩:=I.loc
    have kx:=okFree_get hf (mem_of_lookup f3) rfl
    have vis:Vis X.env.scope x:=by
      rcases kx with k | k
      · exact .inr (.inl k)
      · exact .inr (.inr k)
    obtain ⟨u,ru,l⟩:=hl i x v f2 e2 vis
    refine ⟨u,ru,.inr ?_⟩
    have hv:(relabel scope X.env).names.lookup x=some .cell ∨ (relabel scope X.env).names.lookup x=some .free:=by
      unfold relabel
      rw [lookup_relabel,f3,Option.map_some]
      split
      · exact .inl rfl
      · exact .inr rfl
    refine ⟨hv,?_⟩
    rcases l with ⟨k,_⟩ | ⟨k,c,ec,z⟩
    · have k':X.env.kindOf x=some .local:=k
      rcases kx with q | q <;> rw [q] at k' <;> cases k'
    · obtain ⟨d,ed⟩:=closL_has (env:=X.env) (acc:=[]) (mem_of_lookup f3)
      have nocell:(cellsFrom (s.heap.objs.size + 1) scope.names []).lookup x=none ∨ ∃ d,(cellsFrom (s.heap.objs.size + 1) scope.names []).lookup x=some d:=by
        cases (cellsFrom (s.heap.objs.size + 1) scope.names []).lookup x with
        | none=>exact .inl rfl
        | some d=>exact .inr ⟨d,rfl⟩
      rcases nocell with q | ⟨d',q⟩
      · obtain ⟨d2,ed2⟩:=lookup_of_mem ed
        have hd2:X.env.cells.lookup x=some d2:=by
          rcases closL_mem hcl (mem_of_lookup ed2) with z | z
          · cases z
          · exact z
        rw [ec] at hd2
        cases hd2
        exact ⟨c,(lookup_append_right q).trans ed2,z.keeps hkeep⟩
      · -- a name is not both free and a cell of the block
        exfalso
        rcases cellsFrom_in (mem_of_lookup q) with z | z
        · cases z
        · have z':=okNames_get hnm z
          rw [f3] at z'
          cases z'
  · rcases cells x c e with q | q
    · exact ⟨none,(ok.empty x c q).1⟩
    · obtain ⟨v,z⟩:=I.cell x c q
      exact ⟨v,z.keeps hkeep⟩
  · rcases cells x c e with q | q
    · exact I.hok.fresh (Nat.le_trans (Nat.le_succ _) (own x c q))
    · exact I.freeC x c q
  · show (pick ix σ).length=N.length
    unfold pick
    rw [List.length_map]
    exact okIx_len hx
end
end L2
namespace L2
open PySem PySem.Spec PyProof.Rows
section
variable {prog:Program} {w:World} {A:Around} {R:Result->Shared->Prop} {s:Shared}
theorem compLoop_any {elt target iter:Expr} {ifs:List Expr} {scope:Scope} {pos:Pos} {it acc:Value} {env:Env} (I:Nat->Shared->Prop)
    (turn:∀ n s,I n s->wpAny (model prog w) A (pyNext it) (fun r s₁=>match r with
      | none=>R (.ok .next) s₁
      | some v=>wpAny (model prog w) A (letOwnedTupleGo target it v) (fun _ s₁'=>wpAny (model prog w) A (assign target env v) (fun _ s₂ =>
          wpAny (model prog w) A (forIn ifs true fun c r=>if r=true then do let ok <- isTrue c env (eval c env);pure (ForInStep.yield ok) else pure (ForInStep.yield r)) (fun ok s₃ =>
            if ok=true then wpAny (model prog w) A (eval elt env) (fun x s₄ =>
              wpAny (model prog w) A (call (.builtin "list.append") [acc,x]) (fun _ s₅=>∃ m,m < n/\I m s₅) (fun _ _=>False) s₄) (fun _ _=>False) s₃
            else ∃ m,m < n/\I m s₃) (fun _ _=>False) s₂) (fun _ _=>False) s₁') (fun _ _=>False) s₁) (fun _ _=>False) s)
    (n:Nat) (h:I n s) :
    codeAny (model prog w) A (.compLoop (.ListComp elt [⟨target,iter,ifs,0⟩] scope pos) 0 it acc env) R s:=by
  refine codeAny_loop rfl I (fun n s hI=>?_) n h
  show wpAny _ A ((compTurn (.ListComp elt [⟨target,iter,ifs,0⟩] scope pos) 0 it acc env).onRaise (fun x=>do noteFrame x env;theTreesLotGoes x)) _ _ s
  refine wpAny_noted ?_
  rw [compTurn_list]
  refine wpAny_bind (wpAny_standAt (wpAny_bind (wpAny_mono (turn n s hI) (fun r s₁ h₁=>?_) fun _ _ h'=>h'.elim)))
  cases r with
  | none=>exact wpAny_pure h₁
  | some v =>
    refine wpAny_bind (wpAny_mono h₁ (fun _ s₁' h₁'=>?_) fun _ _ h'=>h'.elim)
    refine wpAny_bind (wpAny_mono h₁' (fun _ s₂ h₂=>wpAny_bind (wpAny_mono h₂ (fun ok s₃ h₃=>?_) fun _ _ h'=>h'.elim)) fun _ _ h'=>h'.elim)
    cases ok with
    | false=>exact wpAny_pure ⟨rfl,h₃⟩
    | true =>
      exact wpAny_bind (wpAny_bind (wpAny_mono h₃ (fun x s₄ h₄=>wpAny_bind (wpAny_mono h₄ (fun _ s₅ h₅=>wpAny_pure (wpAny_pure ⟨rfl,h₅⟩)) fun _ _ h'=>h'.elim)) fun _ _ h'=>h'.elim))
end
def Wk (σ σ2:St):Prop:=σ.length=σ2.length/\∀ (i:Nat) v,σ[i]?=some (some v)->σ2[i]?=some (some v)
theorem Wk.set {σ:St} {i:Nat} {v:V} (h:σ[i]?=some none ∨ σ[i]?=none):Wk σ (σ.set i (some v)):=by
  refine ⟨by simp,fun j u e=>?_⟩
  by_cases hj:j=i
  · subst hj
    rcases h with h | h <;> rw [h] at e <;> cases e
  · rw [List.getElem?_set_ne (Ne.symm hj)]
    exact e
section
variable {X:Cx} {pins:List (Addr × Obj)} {σ:St} {H H':Hp} {s s':Shared} {scope:Scope} {N:List Str} {ix:List (Option Nat)} {fp:List Addr}
abbrev accS (s:Shared):Shared:={ s with heap:=s.heap.push { cls:=.type "list",dict:=none,data:=.seq ([]:List Value).toArray } }
theorem acc_size (s:Shared):(accS s).heap.objs.size=s.heap.objs.size + 1:=Heap.size_push ..
theorem Inv.comp_end {pins':List (Addr × Obj)} {σ':St} {ys:List V} {its:List Value} {n:Nat} {h':Heap} (I:Inv X pins σ H s) (J:Inv (X.comp scope N (accS s) H (s.heap.objs.size :: fp)) pins' σ' H' s') (hfp:∀ b ∈ fp,FpOk X pins H b)
    (hD:H' s.heap.objs.size=none) (hl:s'.heap.get? s.heap.objs.size=some { cls:=.type "list",data:=.seq its.toArray n }) (hv:Vals ys its) (hz:ys.length <= sizeLine)
    (hs:Heap.SameBut (accS s).heap.objs.size s'.heap h'):Inv X pins σ (upd H' s.heap.objs.size (.lst ys)) { s' with heap:=h' }:=by
  have oldC:∀ b,b < s.heap.objs.size->b ≠ (accS s).heap.objs.size:=fun b hb=>by rw [acc_size];exact Nat.ne_of_lt (Nat.lt_succ_of_lt hb)
  have DC:s.heap.objs.size ≠ (accS s).heap.objs.size:=by rw [acc_size];exact Nat.ne_of_lt (Nat.lt_succ_self _)
  have pushed:∀ b o,s.heap.get? b=some o->(accS s).heap.get? b=some o:=fun b o e=>Heap.get?_push_of_some _ e
  have nex:∀ b o,s.heap.get? b=some o->b ∉ fp->b ∉ (X.comp scope N (accS s) H (s.heap.objs.size :: fp)).ex:=fun b o e hb z=>by
    rcases List.mem_cons.mp (show b ∈ s.heap.objs.size :: fp from z) with z | z
    · rw [z] at e;exact absurd (Heap.lt_size e) (Nat.lt_irrefl _)
    · exact hb z
  have U:=J.base
  have un:Un (frs X.stack) fp H (upd H' s.heap.objs.size (.lst ys)) s.heap h':=by
    refine ⟨fun b o e n hb hx=>?_,fun b o e n hb hx=>?_,fun b o e n hx=>?_,fun b o e hx=>?_,fun b xs e=>?_,fun b o u e=>?_,fun b ps e=>?_⟩
    · exact (hs.2 b (oldC b (Heap.lt_size e))).trans (U.keep b o (pushed b o e) n hb (nex b o e hx))
    · obtain ⟨sl,q⟩:=U.slot b o (pushed b o e) n hb (nex b o e hx)
      exact ⟨sl,(hs.2 b (oldC b (Heap.lt_size e))).trans q⟩
    · rw [upd_ne (Nat.ne_of_lt (Heap.lt_size e))]
      exact U.free b o (pushed b o e) n (nex b o e hx)
    · obtain ⟨o',q⟩:=U.there b o (pushed b o e) (nex b o e hx)
      exact ⟨o',(hs.2 b (oldC b (Heap.lt_size e))).trans q⟩
    · have q:=U.tups b xs e
      rw [upd_ne (ne_of_none q hD)];exact q
    · have q:=U.frzs b o u e
      rw [upd_ne (ne_of_none q hD)];exact q
    · obtain ⟨m,q⟩:=U.tbls b ps e
      exact ⟨m,by rw [upd_ne (ne_of_none q hD)];exact q⟩
  have hC:H' (accS s).heap.objs.size=none:=J.free
  have hok:HOk X.prog X.w (upd H' s.heap.objs.size (.lst ys)) h':=fun b u e=>by
    by_cases hb:b=s.heap.objs.size
    · subst hb
      rw [upd_same] at e;cases e
      exact ⟨hz,its,n,hv,(hs.2 _ DC).trans hl⟩
    · rw [upd_ne hb] at e
      refine (J.hok b u e).stay (fun c v hc q=>(hs.2 c ?_).trans q) (fun c q=>by rw [upd_ne (ne_of_none q hD)];exact q) fun c xs q=>by rw [upd_ne (ne_of_none q hD)];exact q
      rintro rfl
      rcases hc with z | z
      · rw [<- z,hC] at e;cases e
      · rw [hC] at z;cases z
  exact I.call' (s':={ s' with heap:=h' }) (ch:=fp) J.os un hok J.bare fun b hb=>⟨(hfp b hb).2.2.2.1,(hfp b hb).2.1,(hfp b hb).2.2.2.2.1,(hfp b hb).2.2.2.2.2⟩
end
section
variable {X:Cx} {scope:Scope} {N:List Str} {ix:List (Option Nat)} {elt target iter:Expr} {ifs:List Expr} {pos:Pos} {wi:TI} {g:TG} {te:TE} {tc:TT}
def PIfs (X:Cx) (ifs:List Expr) (t:TT):Prop :=
  ∀ (pins:List (Addr × Obj)) (s:Shared) (σ:St) (H:Hp) (Q:Bool->Hp->Prop),Inv X pins σ H s->t σ H Q ->
    wpAny (model X.prog X.w) X.A (forIn ifs true fun c r=>if r=true then do let ok <- isTrue c X.env (eval c X.env);pure (ForInStep.yield ok) else pure (ForInStep.yield r)) (TP X pins σ Q) X.xe s
def tTrue:TT:=fun _ H Q=>Q true H
theorem pifs_nil:PIfs X [] tTrue:=fun _ _ _ H _ I h=>wpAny_tests_nil ⟨H,I,h⟩
theorem pifs_one {c:Expr} (h:PT X c tc):PIfs X [c] tc:=fun pins s σ H Q I hq=>wpAny_tests_one (h pins s σ H Q I hq)
def Blk (J:It) (σ0:St) (g:TG) (tc:TT) (te:TE) (H1:Hp) (F:List V->Hp->Prop):Prop:=∃ W:Nat->Nat->List V->Hp->Prop,(∃ m,W 0 m [] H1)/\∀ i m ys H2,W i m ys H2->ys.length <= sizeLine /\
  ((J.stop i H2/\F ys H2) ∨
   (J.go i H2/\∃ (Ny:V->Hp->Prop) (Nn:Hp->Prop),(∀ y H,Ny y H->∃ m',m' < m/\W (i + 1) m' (ys ++ [y]) H)/\(∀ H,Nn H->∃ m',m' < m/\W (i + 1) m' ys H) /\
     ∀ x H3,J.yld i H2 x H3->g x σ0 H3 fun σ2 H4=>Wk σ0 σ2/\tc σ2 H4 fun b H5=>if b=true then te σ2 H5 Ny else Nn H5))
theorem comp_run {pins:List (Addr × Obj)} {σ:St} {H:Hp} {s:Shared} {it:Addr} {fp:List Addr} {tn:Nat->Heap->Prop} {J:It} {F:List V->Hp->Prop} {E:Value->Shared->Prop} {RR:Value->Addr->Result->Shared->Prop}
    (hc:X.calm=true) (hk:scope.kind=.function) (hnm:okNames scope=true) (hf:okFree scope X.env=true) (hx:okIx scope X.N N ix=true)
    (hg:∀ s H ex,PG (X.comp scope N s H ex) target g) (ht:∀ s H ex,PIfs (X.comp scope N s H ex) ifs tc) (he:PE (X.comp scope N (accS s) H (s.heap.objs.size :: fp)) elt te)
    (I:Inv X pins σ H s) (T:Turn X.prog X.w X.K target J fp it tn) (st:tn 0 s.heap) (hfp:∀ b ∈ fp,FpOk X pins H b) (B:Blk J (pick ix σ) g tc te H F)
    (fin:∀ (ys:List V) (H':Hp) (s':Shared) (σ':St) (its:List Value) (n:Nat),Inv (X.comp scope N (accS s) H (s.heap.objs.size :: fp)) [] σ' H' s'->H' s.heap.objs.size=none ->
      s'.heap.get? s.heap.objs.size=some { cls:=.type "list",data:=.seq its.toArray n }->Vals ys its->ys.length <= sizeLine->F ys H'->RR (.ref s.heap.objs.size) (accS s).heap.objs.size (.ok .next) s') :
    wpAny (model X.prog X.w) X.A (newList []) (fun acc s₃=>wpAny (model X.prog X.w) X.A (newFunctionEnv scope X.env.globals (closL X.env scope.names []) [] X.env.qual none .none (some X.env)) (fun cenv s₄ =>
      codeAny (model X.prog X.w) X.A (.compStart (.ListComp elt [⟨target,iter,ifs,0⟩] scope pos) 0 (.ref it) acc { cenv with scope:=relabel scope X.env }) (RR acc cenv.locals) s₄) E s₃) E s:=by
  refine wpAny_newObj_type (newEnv_comp ?_) (by show ([]:List Value).toArray.size <= sizeLine;exact Nat.zero_le _)
  obtain ⟨W,⟨m0,w0⟩,turn⟩:=B
  have I1:Inv X pins σ H (accS s):=I.kept (t':=s.toks) fun b o e=>Heap.get?_push_of_some _ e
  have fpLt:∀ b ∈ fp,b < s.heap.objs.size:=fun b hb=>let ⟨o,e,_⟩:=T.obj 0 _ st b hb;Heap.lt_size e
  have accE:(accS s).heap.get? s.heap.objs.size=some { cls:=.type "list",dict:=none,data:=.seq ([]:List Value).toArray }:=Heap.get?_push_size _ rfl
  have fD:FpOk X pins H s.heap.objs.size:=I.fpOk (Nat.le_refl _) (I.hok.fresh (Nat.le_refl _))
  have J0:Inv (X.comp scope N (accS s) H (s.heap.objs.size :: fp)) [] (pick ix σ) H _:=I1.comp (N:=N) (ix:=ix) (ex:=s.heap.objs.size :: fp) hk hnm hf hx fun b hb=>by
    rcases List.mem_cons.mp hb with z | z
    · subst z
      exact ⟨fD.1,fD.2.1,fD.2.2.1,fD.2.2.2.1,fD.2.2.2.2.1,by rw [acc_size];exact Nat.lt_succ_self _⟩
    · obtain ⟨f0,f1,f2,f3,f4,_⟩:=hfp b z
      exact ⟨f0,f1,f2,f3,f4,by rw [acc_size];exact Nat.lt_succ_of_lt (fpLt b z)⟩
  have keep0:∀ b o,(accS s).heap.get? b=some o->(pushCells ((accS s).heap.push { cls:=.type "dict",data:=.dict #[] }) scope.names).get? b=some o:=fun b o e=>pushCells_keeps _ _ b o (Heap.get?_push_of_some _ e)
  have st0:tn 0 (pushCells ((accS s).heap.push { cls:=.type "dict",data:=.dict #[] }) scope.names):=T.keep 0 _ _ st fun b hb o e=>keep0 b o (Heap.get?_push_of_some _ e)
  have exOk:∀ b ∈ s.heap.objs.size :: fp,b ≠ (X.comp scope N (accS s) H (s.heap.objs.size :: fp)).env.locals/\b ∉ (X.comp scope N (accS s) H (s.heap.objs.size :: fp)).fs /\
      ∀ x c,(X.comp scope N (accS s) H (s.heap.objs.size :: fp)).env.cells.lookup x=some c->c ≠ b:=fun b hb=>⟨(J0.ok.exf b hb).1,J0.ok.exfs b hb,(J0.ok.exf b hb).2⟩
  have stat:∀ {H':Hp} {o:Obj},(∀ b ∈ fp,H' b=none)->∀ b ∈ fp,FpOk (X.comp scope N (accS s) H (s.heap.objs.size :: fp)) [(s.heap.objs.size,o)] H' b:=fun {H' o} hn b hb=>by
    obtain ⟨e1,e2,e3⟩:=exOk b (List.mem_cons_of_mem _ hb)
    refine ⟨hn b hb,e1,e2,.inl (List.mem_cons_of_mem _ hb),e3,fun p hp=>?_⟩
    have hp':p ∈ [(s.heap.objs.size,o)]:=(List.mem_append.mp hp).elim (fun z=>absurd (show p ∈ ([]:List (Addr × Obj)) from z) (by simp)) id
    rw [List.mem_singleton.mp hp']
    exact Nat.ne_of_gt (fpLt b hb)
  have loop:codeAny (model X.prog X.w) X.A (.compLoop (.ListComp elt [⟨target,iter,ifs,0⟩] scope pos) 0 (.ref it) (.ref s.heap.objs.size) (X.comp scope N (accS s) H (s.heap.objs.size :: fp)).env) (RR (.ref s.heap.objs.size) (accS s).heap.objs.size)
      { accS s with heap:=pushCells ((accS s).heap.push { cls:=.type "dict",data:=.dict #[] }) scope.names }:=by
    refine compLoop_any (fun n s'=>∃ i ys its k H',Inv (X.comp scope N (accS s) H (s.heap.objs.size :: fp)) [] (pick ix σ) H' s'/\tn i s'.heap/\(∀ b ∈ fp,H' b=none)/\H' s.heap.objs.size=none /\
      s'.heap.get? s.heap.objs.size=some { cls:=.type "list",data:=.seq (its:List Value).toArray k }/\Vals ys its/\W i n ys H') ?_ m0
      ⟨0,[],[],0,H,J0,st0,fun b hb=>(hfp b hb).1,fD.1,keep0 _ _ accE,.nil,w0⟩
    rintro n s3 ⟨i,ys,its,k,H3,I3,st3,fr3,d3,l3,v3,w3⟩
    obtain ⟨hz,hw⟩:=turn i n ys H3 w3
    have pinD:Inv (X.comp scope N (accS s) H (s.heap.objs.size :: fp)) [(s.heap.objs.size,{ cls:=.type "list",data:=.seq its.toArray k })] (pick ix σ) H3 s3:=I3.pins_of fun p hp=>by
      rw [List.mem_singleton.mp hp]
      exact ⟨l3,d3,(exOk _ List.mem_cons_self).1,(exOk _ List.mem_cons_self).2.1,fun v z=>by cases z⟩
    rcases hw with ⟨stop,fy⟩ | ⟨go,Ny,Nn,hNy,hNn,step⟩
    · refine thn (T.done (X.comp scope N (accS s) H (s.heap.objs.size :: fp)) rfl rfl rfl hc i _ s3 (pick ix σ) H3 (fun _ _=>False) pinD (stat fr3) st3 stop) fun r s4 ⟨hr,I4⟩=>?_
      subst hr
      have q:=(I4.pin (s.heap.objs.size,_) (List.mem_append_right _ List.mem_cons_self)).1
      exact fin ys H3 s4 _ its k (I4.pins_of fun p hp=>by cases hp) d3 q v3 hz fy
    · refine thn (T.item (X.comp scope N (accS s) H (s.heap.objs.size :: fp)) rfl rfl rfl hc i _ s3 (pick ix σ) H3 (fun _ _=>False) pinD (stat fr3) st3 go) fun r s4 ⟨u,hr,h4⟩=>?_
      subst hr
      refine thn h4 fun _ s5 ⟨x,H5,I5,r5,y5,st5,fr5⟩=>?_
      have I5':=I5.pinned (stat fr5) (T.obj _ _ st5)
      refine thn (hg (accS s) H (s.heap.objs.size :: fp) _ s5 (pick ix σ) H5 x u _ I5' r5 (step x H5 y5)) fun _ s6 ⟨σ6,H6,I6,wk6,q6⟩=>?_
      refine thn (ht (accS s) H (s.heap.objs.size :: fp) _ s6 σ6 H6 _ I6 q6) fun ok s7 ⟨H7,I7,q7⟩=>?_
      cases ok with
      | false =>
        obtain ⟨m',hm,w7⟩:=hNn H7 q7
        refine ⟨m',hm,i + 1,ys,its,k,H7,(I7.weak wk6.1 wk6.2).pins_of (fun p hp=>by cases hp),?_,fun b hb=>?_,?_,?_,v3,w7⟩
        · exact T.keep _ _ _ st5 fun b hb o e=>(I7.pin (b,o) (List.mem_append_right _ (List.mem_append_right _ (mem_pinsAt hb e)))).1
        · obtain ⟨o,e,d⟩:=T.obj _ _ st5 b hb
          exact (I7.pin (b,o) (List.mem_append_right _ (List.mem_append_right _ (mem_pinsAt hb e)))).2.1
        · exact (I7.pin (s.heap.objs.size,_) (List.mem_append_right _ (List.mem_append_left _ List.mem_cons_self))).2.1
        · exact (I7.pin (s.heap.objs.size,_) (List.mem_append_right _ (List.mem_append_left _ List.mem_cons_self))).1
      | true =>
        show wpAny _ _ _ _ _ _
        refine thn (he _ s7 σ6 H7 _ I7 q7) fun yv s8 ⟨y,H8,I8,r8,q8'⟩=>?_
        obtain ⟨m',hm,w8⟩:=hNy y H8 q8'
        have q8:=I8.pin (s.heap.objs.size,_) (List.mem_append_right _ (List.mem_append_left _ List.mem_cons_self))
        refine wpAny_list_append_plain (l:=s.heap.objs.size) (items:=its.toArray) ⟨k,q8.1⟩ (fun h' hl' sb=>?_) (by rw [List.size_toArray,<- v3.length];exact hz)
        obtain ⟨k',hl'⟩:=hl'
        have I9:Inv (X.comp scope N (accS s) H (s.heap.objs.size :: fp)) [] (pick ix σ) H8 { s8 with heap:=h' }:=((I8.weak wk6.1 wk6.2).pins_of (pins':=[]) (fun p hp=>by cases hp)).turned (t':=s8.toks) (it:=s.heap.objs.size)
          (fun b o hb e=>(sb.2 b hb).trans e) q8.2.1 (exOk _ List.mem_cons_self).1 (.inl List.mem_cons_self) (exOk _ List.mem_cons_self).2.2 (fun p hp=>absurd (show p ∈ ([]:List (Addr × Obj)) from hp) (by simp))
        refine ⟨m',hm,i + 1,ys ++ [y],its ++ [yv],k',H8,I9,?_,fun b hb=>?_,q8.2.1,?_,v3.append (.cons r8 .nil),w8⟩
        · refine T.keep _ _ _ st5 fun b hb o e=>(sb.2 b (Nat.ne_of_lt (fpLt b hb))).trans (I8.pin (b,o) (List.mem_append_right _ (List.mem_append_right _ (mem_pinsAt hb e)))).1
        · obtain ⟨o,e,d⟩:=T.obj _ _ st5 b hb
          exact (I8.pin (b,o) (List.mem_append_right _ (List.mem_append_right _ (mem_pinsAt hb e)))).2.1
        · have e:its.toArray.push yv=(its ++ [yv]).toArray:=by simp
          rw [<- e];exact hl'
  exact codeAny_compStart_list loop (T.self _ 0 _ _ _ st0 loop)
theorem pe_compG (hc:X.calm=true) (hi:PI X target iter wi) (hg:∀ s H ex,PG (X.comp scope N s H ex) target g) (ht:∀ s H ex,PIfs (X.comp scope N s H ex) ifs tc) (he:∀ s H ex,PE (X.comp scope N s H ex) elt te)
    (hk:scope.kind=.function) (hnm:okNames scope=true) (hf:okFree scope X.env=true) (hx:okIx scope X.N N ix=true) (hs:∀ x,foldedSetIterable iter X.env x=pure x) :
    PE X (.ListComp elt [⟨target,iter,ifs,0⟩] scope pos) (fun σ H Q=>wi σ H fun J H1=>Blk J (pick ix σ) g tc te H1 fun ys H2=>∀ p,H2 p=none->Q (.ref p) (upd H2 p (.lst ys))):=by
  intro pins s σ H Q I h
  rw [eval_ListComp]
  refine wpAny_comprehension_free (use:=none) rfl hs (closureFor_eq (I.closed hf)) hk (fun x hx hl=>(okNames_get hnm hx).trans (by rw [hl])) ?_
  refine thn (hi pins s σ H _ I h) fun v s1 h1=>thn h1 fun itv s2 h2=>?_
  obtain ⟨it,fp,tn,J,H2,e,I2,T,st2,f2,B⟩:=h2
  subst e
  refine comp_run (RR:=fun acc C=>compPost (model X.prog X.w) X.A X.xe none (EP X pins σ Q) acc C) hc hk hnm hf hx hg ht (he _ _ _) I2 T st2 f2 B ?_
  intro ys H' s' σ' its n J' hD hl hv hz hF
  obtain ⟨m,hm,_⟩:=J'.loc
  exact ⟨m,hm,fun h' hs'=>⟨.ref s2.heap.objs.size,_,I2.comp_end J' f2 hD hl hv hz hs',rfl,hF _ hD⟩⟩
theorem ps_setcompG {i:Nat} {y:Str} {py spos:Pos} (hc:X.calm=true) (hN:X.N.Nodup) (hn:X.N[i]?=some y) (hy:X.env.scope.names.lookup y=some .local)
    (hi:PI X target iter wi) (hg:∀ s H ex,PG (X.comp scope N s H ex) target g) (ht:∀ s H ex,PIfs (X.comp scope N s H ex) ifs tc) (he:∀ s H ex,PE (X.comp scope N s H ex) elt te)
    (hk:scope.kind=.function) (hnm:okNames scope=true) (hf:okFree scope X.env=true) (hx:okIx scope X.N N ix=true) (hs:∀ x,foldedSetIterable iter X.env x=pure x)
    (hsw:swapsWith (.ListComp elt [⟨target,iter,ifs,0⟩] scope pos) (some (.Name y py)) spos.line X.env=pure true) :
    PS X (.Assign [.Name y py] (.ListComp elt [⟨target,iter,ifs,0⟩] scope pos) spos) (fun D σ H=>wi σ H fun J H1=>Blk J (pick ix σ) g tc te H1 fun ys H2=>∀ p,H2 p=none->D.nx (σ.set i (some (.ref p))) (upd H2 p (.lst ys))):=by
  intro pins s σ H D I h
  rw [exec_Assign_Name_used _ _ _ _ hsw]
  refine wpAny_bind (wpAny_standAt (wpAny_bind ?_))
  show wpAny _ X.A (do let _ <- comprehension (.ListComp elt [⟨target,iter,ifs,0⟩] scope pos) scope X.env _ (newList []) false (eval iter X.env) (some (assign (.Name y py) X.env))) _ _ s
  refine wpAny_bind (thn (wpAny_comprehension_free (use:=some (assign (.Name y py) X.env)) (Q:=fun _ s'=>SP X pins D .next s') rfl hs (closureFor_eq (I.closed hf)) hk (fun x hx hl=>(okNames_get hnm hx).trans (by rw [hl])) ?_) fun _ s' hq=>wpAny_pure (wpAny_pure hq))
  refine thn (hi pins s σ H _ I h) fun v s1 h1=>thn h1 fun itv s2 h2=>?_
  obtain ⟨it,fp,tn,J,H2,e,I2,T,st2,f2,B⟩:=h2
  subst e
  refine comp_run (RR:=fun acc C=>compPost (model X.prog X.w) X.A X.xe (some (assign (.Name y py) X.env)) (fun _ s'=>SP X pins D .next s') acc C) hc hk hnm hf hx hg ht (he _ _ _) I2 T st2 f2 B ?_
  intro ys H' s' σ' its n J' hD hl hv hz hF
  obtain ⟨m,hm,_⟩:=J'.loc
  have I3:=I2.comp_end (h':=s'.heap) J' f2 hD hl hv hz (.refl ..)
  show wpAny _ X.A (assign (.Name y py) X.env (.ref s2.heap.objs.size)) _ _ _
  refine wpAny_assign_Name (store_ok2 (v:=.ref s2.heap.objs.size) I3 hN hn (.inl hy) rfl (fun s'' I4 hsb=>?_) (.inr hy))
  obtain ⟨a,sb,ha⟩:=hsb
  have hCa:(accS s2).heap.objs.size ≠ a:=by
    rw [acc_size]
    rcases ha with z | z
    · rw [z];exact Nat.ne_of_gt (Nat.lt_succ_of_lt I2.lt)
    · obtain ⟨v,q⟩:=I2.cell y a z
      exact Nat.ne_of_gt (Nat.lt_succ_of_lt q.lt)
  have hC2:(upd H' s2.heap.objs.size (.lst ys)) (accS s2).heap.objs.size=none:=by
    rw [upd_ne (by rw [acc_size];exact Nat.ne_of_gt (Nat.lt_succ_self _))]
    exact J'.free
  refine ⟨m,hm.sameBut sb hCa,fun h' hs'=>?_⟩
  refine ⟨_,_,?_,hF _ hD⟩
  obtain ⟨m2,n2,_⟩:=id I4.loc
  refine I4.turned (t':=s''.toks) (it:=(accS s2).heap.objs.size) (fun b o hb e=>(hs'.2 b hb).trans e) hC2 ?_ ?_ ?_ ?_
  · rw [acc_size];exact Nat.ne_of_gt (Nat.lt_succ_of_lt I2.lt)
  · rw [acc_size];exact .inr (Nat.le_trans I2.sz (Nat.le_succ _))
  · intro x c e
    obtain ⟨v,q⟩:=I2.cell x c e
    rw [acc_size];exact Nat.ne_of_lt (Nat.lt_succ_of_lt q.lt)
  · intro p hp
    rw [acc_size];exact Nat.ne_of_lt (Nat.lt_succ_of_lt (Heap.lt_size (I2.pin p hp).1))
end
end L2
namespace L2
open PySem PySem.Spec PyProof.Rows
section
variable {X:Cx} {pins:List (Addr × Obj)} {σ:St} {H:Hp} {s:Shared} {p:Addr} {xs:List V}
theorem seq_walk {A:Around} {E:Value->Shared->Prop} {Q:Value->Shared->Prop} (I:Inv X pins σ H s) (hh:A.handled=none) (hs:SqL X.K H p xs ∨ SqT X.K H p xs)
    (h:∀ (its:List Value) (it:Addr) (fp wr:List Addr) (St:Nat->Heap->Prop) (h2:Heap),Vals xs its->Walks X.prog X.w A it fp wr its.length (fun i v=>its[i]?=some v) St->St 0 h2->(∀ b ∈ fp,b < h2.objs.size) ->
      (∀ h':Heap,(∀ b o,b ∉ wr->h2.get? b=some o->h'.get? b=some o)->∀ b o,s.heap.get? b=some o->h'.get? b=some o)->Q (.ref it) { s with heap:=h2 }) :
    wpAny (model X.prog X.w) A (pyIter (.ref p)) Q E s:=by
  have keep:∀ (o:Obj) (h':Heap),(∀ b u,b ∉ [s.heap.objs.size]->(s.heap.push o).get? b=some u->h'.get? b=some u)->∀ b u,s.heap.get? b=some u->h'.get? b=some u:=fun o h' hk b u e =>
    hk b u (fun hm=>by rw [List.mem_singleton.mp hm] at e;exact Nat.lt_irrefl _ (Heap.lt_size e)) (Heap.get?_push_of_some _ e)
  rcases hs with hs | hs
  · obtain ⟨its,rv,pl,hz⟩:=I.list hs
    have hlt:p < s.heap.objs.size:=by obtain ⟨_,e,_⟩:=pl.isList;exact Heap.lt_size e
    refine wpAny_pyIter_list pl.isList ?_
    have W:=Walks.list (prog:=X.prog) (w:=X.w) (A:=A) hh s.heap.objs.size p (Nat.ne_of_lt hlt) its.toArray
    refine h its s.heap.objs.size [s.heap.objs.size,p] [s.heap.objs.size] (fun i h=>h.IsListIter s.heap.objs.size p i/\h.IsList p its.toArray) _ rv (by simpa using W) ⟨⟨_,Heap.get?_push_size _ rfl,rfl,rfl⟩,pl.isList.push _⟩ (fun b hb=>?_) (keep _)
    rw [Heap.size_push]
    rcases List.mem_cons.mp hb with rfl | hb
    · exact Nat.lt_succ_self _
    · rw [List.mem_singleton.mp hb];exact Nat.lt_succ_of_lt hlt
  · obtain ⟨its,rv,pl,hz⟩:=I.tuple hs
    have pl':s.heap.IsTuple p its.toArray:=pl
    have hlt:p < s.heap.objs.size:=pl.lt
    refine wpAny_pyIter_tuple pl' ?_
    have W:=Walks.tuple (prog:=X.prog) (w:=X.w) (A:=A) hh s.heap.objs.size p (Nat.ne_of_lt hlt) its.toArray
    refine h its s.heap.objs.size [s.heap.objs.size,p] [s.heap.objs.size] (fun i h=>h.IsTupleIter s.heap.objs.size p i/\h.IsTuple p its.toArray) _ rv (by simpa using W) ⟨⟨_,Heap.get?_push_size _ rfl,rfl,rfl⟩,pl'.push _⟩ (fun b hb=>?_) (keep _)
    rw [Heap.size_push]
    rcases List.mem_cons.mp hb with rfl | hb
    · exact Nat.lt_succ_self _
    · rw [List.mem_singleton.mp hb];exact Nat.lt_succ_of_lt hlt
def nth (ns:List Int) (i:Nat):Int:=(ns[i]?).getD 0
theorem preSum_nth (ns:List Int):∀ k,preSum (nth ns) k=(ns.take k).sum
  | 0=>by simp [preSum]
  | k + 1=>by
    rw [preSum,preSum_nth ns k,List.take_add_one,List.sum_append]
    unfold nth
    cases ns[k]? <;> simp
theorem vals_int {ns:List Int} {its:List Value} (r:Vals (ns.map V.int) its) {i:Nat} {v:Value} (e:its[i]?=some v):∃ t,v=.int (nth ns i) t:=by
  have hl:=r.length
  rw [List.length_map] at hl
  have hi:i < ns.length:=by rw [hl];exact (List.getElem?_eq_some_iff.mp e).1
  obtain ⟨u,hu,ru⟩:=r.get (i:=i) (x:=.int ns[i]) (by rw [List.getElem?_map,List.getElem?_eq_getElem hi];rfl)
  rw [e] at hu;cases hu
  obtain ⟨t,rfl⟩:=ru
  exact ⟨t,by unfold nth;rw [List.getElem?_eq_getElem hi];rfl⟩
theorem call_sum_seq (hc:X.calm=true):CallR X (.builtin "sum") (fun xs H Q=>∃ (p:Addr) (ns:List Int),xs=[.ref p]/\(SqL X.K H p (ns.map V.int) ∨ SqT X.K H p (ns.map V.int))/\Q (.int ns.sum) H):=by
  intro pins s σ H xs us Q I r h
  obtain ⟨p,ns,rfl,hs,q⟩:=h
  obtain ⟨u,rfl,ru⟩:=vals1 r
  cases ru
  refine call_sum_walkG (seq_walk (A:=X.A.in1) I (I.ok.hd hc) hs fun its it fp wr St h2 rv W st hfp keep=>?_)
  refine ⟨it,fp,wr,its.length,_,St,nth ns,rfl,W,st,hfp,fun i v e=>vals_int rv e,fun h' tk t' hk=>?_⟩
  have e:preSum (nth ns) its.length=ns.sum:=by
    rw [preSum_nth,<- rv.length,List.length_map,List.take_length]
  rw [e]
  exact ⟨.int ns.sum,H,I.kept (keep h' hk),⟨_,rfl⟩,q⟩
def truV:V->Bool
  | .bl b=>b
  | .int i=>i != 0
  | .non=>false
  | _=>true
def okTru:V->Bool
  | .bl _=>true
  | .int _=>true
  | .non=>true
  | _=>false
theorem truth_V {A:Around} {E:Value->Shared->Prop} {x:V} {v:Value} {s:Shared} {Q:Bool->Shared->Prop} (r:RelV x v) (ok:okTru x=true) (h:Q (truV x) s):wpAny (model X.prog X.w) A (truthy v) Q E s:=by
  cases x with
  | bl b=>cases r;exact wpAny_truthy_bool h
  | int i=>obtain ⟨t,rfl⟩:=r;exact PyProof.Rows.truthy_int h
  | non=>cases r;exact PyProof.Rows.truthy_none h
  | _=>exact absurd (show false=true from ok) Bool.false_ne_true
def tnth (d:Bool) (xs:List V) (i:Nat):Bool:=((xs[i]?).map truV).getD d
theorem all_nth (xs:List V):(List.range xs.length).all (tnth true xs)=xs.all truV:=by
  rw [Bool.eq_iff_iff,List.all_eq_true,List.all_eq_true]
  constructor
  · intro h b hb
    obtain ⟨i,hi,e⟩:=List.getElem_of_mem hb
    have:=h i (List.mem_range.mpr hi)
    unfold tnth at this
    rw [List.getElem?_eq_getElem hi,e] at this
    exact this
  · intro h i hi
    have hi':=List.mem_range.mp hi
    unfold tnth
    rw [List.getElem?_eq_getElem hi']
    exact h _ (List.getElem_mem hi')
theorem truthOf_nth {A:Around} {its:List Value} (d:Bool) (rv:Vals xs its) (ok:xs.all okTru=true):TruthOf X.prog X.w A (fun i v=>its[i]?=some v) (tnth d xs):=by
  intro i v s Q E e hQ
  have hi:i < xs.length:=by rw [rv.length];exact (List.getElem?_eq_some_iff.mp e).1
  obtain ⟨u,hu,ru⟩:=rv.get (i:=i) (x:=xs[i]) (by rw [List.getElem?_eq_getElem hi])
  rw [e] at hu;cases hu
  refine truth_V (X:=X) ru (List.all_eq_true.mp ok _ (List.getElem_mem hi)) ?_
  unfold tnth at hQ
  rw [List.getElem?_eq_getElem hi] at hQ
  exact hQ
theorem call_all_seq (hc:X.calm=true):CallR X (.builtin "all") (fun xs H Q=>∃ (p:Addr) (ys:List V),xs=[.ref p]/\(SqL X.K H p ys ∨ SqT X.K H p ys)/\ys.all okTru=true/\Q (.bl (ys.all truV)) H):=by
  intro pins s σ H xs us Q I r h
  obtain ⟨p,ys,rfl,hs,ok,q⟩:=h
  obtain ⟨u,rfl,ru⟩:=vals1 r
  cases ru
  refine call_all_walk (seq_walk (A:=X.A.in1) I (I.ok.hd hc) hs fun its it fp wr St h2 rv W st hfp keep=>?_)
  refine ⟨it,fp,wr,its.length,_,St,tnth true ys,rfl,W,st,truthOf_nth true rv ok,fun h' tk hk=>?_⟩
  rw [<- rv.length,all_nth]
  exact ⟨.bl _,H,I.kept (keep h' hk),rfl,q⟩
end
end L2
namespace L2
open PySem PySem.Spec PyProof.Rows
section
variable {prog:Program} {w:World} {A:Around} {E:Value->Shared->Prop} {s:Shared}
theorem nextT_item {it t:Addr} {i:Nat} {its:Array Value} {x:Value} {Q:Value->Shared->Prop} (hit:s.heap.IsTupleIter it t i) (ht:s.heap.IsTuple t its) (hx:its[i]?=some x)
    (hQ:∀ h',h'.IsTupleIter it t (i + 1)->Heap.SameBut it s.heap h'->Q x { s with heap:=h' }):wpAny (model prog w) A (Builtin.SmallTypes.nextOf (.ref it)) Q E s:=by
  obtain ⟨o,ho,hc,hd⟩:=id hit
  obtain ⟨ol,hol,_,nl,hdl⟩:=ht
  unfold Builtin.SmallTypes.nextOf
  refine wpAny_bind (wpAny_callSpecial?_slot (name:=Str.ofString "__next__") hit.typeIs F.slot_tuple_iterator_next
    (wpAny_call_entry F.slot_tuple_iterator_next hit.typeIs F.entry_tuple_iterator_next ?_ (F.args_tuple_iterator_next_1 _)))
  show wpAny _ _ (field (.ref it) 0 >>= _) _ _ s
  refine wpAny_bind (wpAny_field ho hd (x:=.ref t) rfl ?_)
  show wpAny _ _ (if (Value.ref t == Value.none)=true then _ else _) _ _ s
  rw [if_neg (show ¬ ((Value.ref t == Value.none)=true) from Bool.false_ne_true)]
  show wpAny _ _ (field (.ref it) 1 >>= _) _ _ s
  refine wpAny_bind (wpAny_field ho hd (x:=.int i 0) rfl ?_)
  show wpAny _ _ (seqItems? (.ref t) >>= _) _ _ s
  refine wpAny_bind (wpAny_seqItems hol hdl ?_)
  simp only [Int.toNat_natCast,hx]
  refine wpAny_bind (wpAny_setField ho hd (by simp) (wpAny_pure ⟨x,rfl,wpAny_pure (hQ _ ?_ (Heap.SameBut.update ..))⟩))
  exact ⟨_,Heap.get?_update_self _ ho (Obj.isFreed_of_fields (Obj.data_mapFields hd _)),(Obj.cls_mapFields ..).trans hc,by
    rw [Obj.data_mapFields hd];simp [rawInt]⟩
end
end L2
namespace L2
open PySem PySem.Spec PyProof.Rows
section
variable {prog:Program} {w:World} {A:Around} {E:Value->Shared->Prop} {s:Shared}
theorem nextT_end {it t:Addr} {i:Nat} {its:Array Value} {Q:Value->Shared->Prop} (hh:A.handled=none) (hit:s.heap.IsTupleIter it t i) (ht:s.heap.IsTuple t its) (hx:its[i]?=none)
    (hE:∀ h' e,Heap.ExtBut it s.heap h'->(∃ o,h'.get? e=some o/\o.cls=.type "StopIteration")->E (.ref e) { s with heap:=h' }):wpAny (model prog w) A (Builtin.SmallTypes.nextOf (.ref it)) Q E s:=by
  obtain ⟨o,ho,hc,hd⟩:=id hit
  obtain ⟨ol,hol,_,nl,hdl⟩:=ht
  unfold Builtin.SmallTypes.nextOf
  refine wpAny_bind (wpAny_callSpecial?_slot (name:=Str.ofString "__next__") hit.typeIs F.slot_tuple_iterator_next
    (wpAny_call_entry F.slot_tuple_iterator_next hit.typeIs F.entry_tuple_iterator_next ?_ (F.args_tuple_iterator_next_1 _)))
  show wpAny _ _ (field (.ref it) 0 >>= _) _ _ s
  refine wpAny_bind (wpAny_field ho hd (x:=.ref t) rfl ?_)
  show wpAny _ _ (if (Value.ref t == Value.none)=true then _ else _) _ _ s
  rw [if_neg (show ¬ ((Value.ref t == Value.none)=true) from Bool.false_ne_true)]
  show wpAny _ _ (field (.ref it) 1 >>= _) _ _ s
  refine wpAny_bind (wpAny_field ho hd (x:=.int i 0) rfl ?_)
  show wpAny _ _ (seqItems? (.ref t) >>= _) _ _ s
  refine wpAny_bind (wpAny_seqItems hol hdl ?_)
  simp only [Int.toNat_natCast,hx]
  refine wpAny_bind (wpAny_rule (wpAny_bind (wpAny_setField ho hd (by simp) ?_)))
  show wpAny _ _ (newExc (.type "StopIteration") [] >>= _) _ _ _
  refine wpAny_bind ?_
  simp only [newExc,newTuple]
  refine wpAny_bind (wpAny_newObj_type ?_ (by size_fits))
  refine wpAny_bind (m:=firstArgMember _ _) (wpAny_of_eq (a:=Value.none) (by first | rfl | (simp only [firstArgMember];rfl)) ?_)
  refine wpAny_newObj_type ?_ (by size_fits)
  simp only [raiseNew]
  refine wpAny_bind (wpAny_handled ?_)
  first | rw [show A.in1.handled=none from hh] | rw [hh]
  exact wpAny_bind (wpAny_pure (wpAny_throw (hE _ _ (((Heap.SameBut.update ..).extBut.push _).push _) ⟨_,Heap.get?_push_size _ rfl,rfl⟩)))
structure ZipT (h:Heap) (z TI TO i1 i2 t1 t2:Addr) (k:Nat):Prop where
  zz:IsZip h z TI TO .none
  ti:IsPair h TI (.ref i1) (.ref i2)
  tO:∃ a b,IsPair h TO a b
  it1:h.IsTupleIter i1 t1 k
  it2:h.IsTupleIter i2 t2 k
structure ZipD (z TI TO i1 i2 t1 t2:Addr):Prop where
  a1:TI ≠ z
  a2:TO ≠ z
  a3:i1 ≠ z
  a4:i2 ≠ z
  b1:TI ≠ TO
  b2:TI ≠ i1
  b3:TI ≠ i2
  c1:TO ≠ i1
  c2:TO ≠ i2
  d1:i1 ≠ i2
  e1:t1 ≠ z
  e2:t1 ≠ TO
  e3:t1 ≠ i1
  e4:t1 ≠ i2
  f1:t2 ≠ z
  f2:t2 ≠ TO
  f3:t2 ≠ i1
  f4:t2 ≠ i2
theorem ne_add {n a b:Nat} (h:a ≠ b):n + a ≠ n + b:=by omega
theorem ne_lo {n a t:Nat} (h:t < n):t ≠ n + a:=by omega
theorem ZipD.new {n t1 t2:Nat} (h1:t1 < n) (h2:t2 < n):ZipD (n + 4) (n + 2) (n + 3) n (n + 1) t1 t2 where
  a1:=ne_add (by decide)
  a2:=ne_add (by decide)
  a3:=ne_add (n:=n) (a:=0) (by decide)
  a4:=ne_add (by decide)
  b1:=ne_add (by decide)
  b2:=ne_add (n:=n) (b:=0) (by decide)
  b3:=ne_add (by decide)
  c1:=ne_add (n:=n) (b:=0) (by decide)
  c2:=ne_add (by decide)
  d1:=ne_add (n:=n) (a:=0) (by decide)
  e1:=ne_lo h1
  e2:=ne_lo h1
  e3:=ne_lo (a:=0) h1
  e4:=ne_lo h1
  f1:=ne_lo h2
  f2:=ne_lo h2
  f3:=ne_lo (a:=0) h2
  f4:=ne_lo h2
theorem zipT_item {z TI TO i1 i2 t1 t2:Addr} {xs ys:Array Value} {k:Nat} {x y:Value} {Q:Option Value->Shared->Prop} (D:ZipD z TI TO i1 i2 t1 t2) (Z:ZipT s.heap z TI TO i1 i2 t1 t2 k) (hl1:s.heap.IsTuple t1 xs) (hl2:s.heap.IsTuple t2 ys)
    (hx:xs[k]?=some x) (hy:ys[k]?=some y)
    (hQ:∀ h',IsZip h' z TI TO (rawInt s.heap.objs.size)->IsPair h' TO x y->h'.IsTupleIter i1 t1 (k + 1)->h'.IsTupleIter i2 t2 (k + 1)->IsPair h' s.heap.objs.size x y->h'.objs.size=s.heap.objs.size + 1 ->
      (∀ c o,c ∉ [z,TO,i1,i2]->s.heap.get? c=some o->h'.get? c=some o)->Q (some (.ref s.heap.objs.size)) { s with heap:=h' }) :
    wpAny (model prog w) A (pyNext (.ref z)) Q E s:=by
  obtain ⟨hz,hTI,⟨a,b,hTO⟩,h1,h2⟩:=Z
  have hT:s.TypeIs (.ref z) "zip":=⟨_,hz,rfl⟩
  unfold pyNext
  refine wpAny_bind (wpAny_attempt (wpAny_callSpecial?_slot (name:=Str.ofString "__next__") hT F.slot_zip_next (wpAny_call_entry F.slot_zip_next hT F.entry_zip_next ?_ (F.args_zip_next_1 _))))
  show wpAny _ _ (field (.ref z) 2 >>= _) _ _ _
  refine wpAny_bind (wpAny_field hz rfl (x:=.bool false) rfl ?_)
  show wpAny _ _ (field (.ref z) 3 >>= _) _ _ _
  refine wpAny_bind (wpAny_field hz rfl (x:=.ref TI) rfl (wpAny_bind (wpAny_seqItems hTI rfl ?_)))
  show wpAny _ _ (Builtin.SmallTypes.ownedTupleIsFree (.ref z) >>= _) _ _ _
  refine wpAny_bind ?_
  unfold Builtin.SmallTypes.ownedTupleIsFree
  refine wpAny_bind (wpAny_field hz rfl (x:=.none) rfl (wpAny_pure ?_))
  simp only [if_true]
  refine wpAny_bind (wpAny_rule (wpAny_bind (wpAny_field hz rfl (x:=.ref TO) rfl (wpAny_bind (wpAny_setField_rec hz (by simp) fun g1 z1 s1=>?_)))))
  replace z1:IsZip g1 z TI TO .ellipsis:=z1
  refine wpAny_bind ?_
  simp only [List.zipIdx_cons,List.zipIdx_nil,List.forIn_cons,List.forIn_nil]
  refine wpAny_bind (wpAny_bind (wpAny_onRaise ?_))
  show wpAny _ _ (Builtin.SmallTypes.nextOf (.ref i1) >>= _) _ _ _
  refine wpAny_bind (nextT_item (h1.at fun o e=>s1.extBut _ o D.a3 e) (hl1.at fun o e=>s1.extBut _ o D.e1 e) hx fun g2 j1 s2=>wpAny_pure ?_)
  have o2:IsPair g2 TO a b:=s2.extBut _ _ D.c1 (s1.extBut _ _ D.a2 hTO)
  refine wpAny_bind (wpAny_seqItems o2 rfl (wpAny_bind (wpAny_updateSeq_pair o2 fun g3 o3 s3=>?_)))
  replace o3:IsPair g3 TO x b:=o3
  refine wpAny_bind (wpAny_letGo (wpAny_pure (wpAny_bind (wpAny_bind (wpAny_onRaise ?_)))))
  show wpAny _ _ (Builtin.SmallTypes.nextOf (.ref i2) >>= _) _ _ _
  refine wpAny_bind (nextT_item (h2.at fun o e=>s3.extBut _ o D.c2.symm (s2.extBut _ o D.d1.symm (s1.extBut _ o D.a4 e))) (hl2.at fun o e=>s3.extBut _ o D.f2 (s2.extBut _ o D.f3 (s1.extBut _ o D.f1 e))) hy fun g4 j2 s4=>wpAny_pure ?_)
  have o4:IsPair g4 TO x b:=s4.extBut _ _ D.c2 o3
  refine wpAny_bind (wpAny_seqItems o4 rfl (wpAny_bind (wpAny_updateSeq_pair o4 fun g5 o5 s5=>?_)))
  replace o5:IsPair g5 TO x y:=o5
  refine wpAny_bind (wpAny_letGo (wpAny_pure (wpAny_pure ?_)))
  refine wpAny_bind (wpAny_seqItems o5 rfl (wpAny_bind (wpAny_newTuple ?_)))
  have hsz:g5.objs.size=s.heap.objs.size:=by rw [s5.1,s4.1,s3.1,s2.1,s1.1]
  have z5:IsZip g5 z TI TO .ellipsis:=s5.extBut _ _ D.a2.symm (s4.extBut _ _ D.a4.symm (s3.extBut _ _ D.a2.symm (s2.extBut _ _ D.a3.symm z1)))
  have k5:∀ c o,c ∉ [z,TO,i1,i2]->s.heap.get? c=some o->g5.get? c=some o:=fun c o hc e=>by
    simp only [List.mem_cons,List.not_mem_nil,or_false,not_or] at hc
    exact s5.extBut _ _ hc.2.1 (s4.extBut _ _ hc.2.2.2 (s3.extBut _ _ hc.2.1 (s2.extBut _ _ hc.2.2.1 (s1.extBut _ _ hc.1 e))))
  have m1:g5.IsTupleIter i1 t1 (k + 1):=j1.at fun o e=>s5.extBut _ o D.c1.symm (s4.extBut _ o D.d1 (s3.extBut _ o D.c1.symm e))
  have m2:g5.IsTupleIter i2 t2 (k + 1):=j2.at fun o e=>s5.extBut _ o D.c2.symm e
  show wpAny _ _ (Builtin.SmallTypes.ownedTupleHandOut (.ref z) (.ref g5.objs.size) >>= _) _ _ _
  refine wpAny_bind ?_
  unfold Builtin.SmallTypes.ownedTupleHandOut
  have z6:IsZip (g5.push { cls:=.type "tuple",data:=.seq #[x,y] }) z TI TO .ellipsis:=Heap.get?_push_of_some _ z5
  refine wpAny_bind (wpAny_setField_rec z6 (by simp) fun g7 z7 s7=>?_)
  replace z7:IsZip g7 z TI TO (rawInt g5.objs.size):=z7
  refine wpAny_setField_rec z7 (by simp) fun g8 z8 s8=>?_
  replace z8:IsZip g8 z TI TO (rawInt g5.objs.size):=z8
  have up:∀ c o,c ≠ z->g5.get? c=some o->g8.get? c=some o:=fun c o hc e=>s8.extBut _ _ hc (s7.extBut _ _ hc (Heap.get?_push_of_some _ e))
  have new8:IsPair g8 g5.objs.size x y:=s8.extBut _ _ (Nat.ne_of_gt (Heap.lt_size z5)) (s7.extBut _ _ (Nat.ne_of_gt (Heap.lt_size z5)) (Heap.get?_push_size _ rfl))
  have size8:g8.objs.size=g5.objs.size + 1:=by rw [s8.1,s7.1,Heap.size_push]
  rw [hsz] at z8 new8 size8
  refine wpAny_pure ⟨_,rfl,wpAny_pure ?_⟩
  show Q (some (.ref g5.objs.size)) _
  rw [hsz]
  exact hQ g8 z8 (up _ _ D.a2 o5) (m1.at fun o e=>up _ o D.a3 e) (m2.at fun o e=>up _ o D.a4 e) new8 size8 fun c o hc e=>up c o (fun q=>hc (by simp [q])) (k5 c o hc e)
theorem zipT_end {z TI TO i1 i2 t1 t2:Addr} {xs:Array Value} {k:Nat} {Q:Option Value->Shared->Prop} (hh:A.handled=none) (D:ZipD z TI TO i1 i2 t1 t2) (Z:ZipT s.heap z TI TO i1 i2 t1 t2 k) (hl1:s.heap.IsTuple t1 xs)
    (hx:xs[k]?=none) (hQ:∀ h',(∀ c o,c ∉ [z,TO,i1,i2]->s.heap.get? c=some o->h'.get? c=some o)->Q none { s with heap:=h' }):wpAny (model prog w) A (pyNext (.ref z)) Q E s:=by
  obtain ⟨hz,hTI,⟨a,b,hTO⟩,h1,h2⟩:=Z
  have hT:s.TypeIs (.ref z) "zip":=⟨_,hz,rfl⟩
  unfold pyNext
  refine wpAny_bind (wpAny_attempt (wpAny_callSpecial?_slot (name:=Str.ofString "__next__") hT F.slot_zip_next (wpAny_call_entry F.slot_zip_next hT F.entry_zip_next ?_ (F.args_zip_next_1 _))))
  show wpAny _ _ (field (.ref z) 2 >>= _) _ _ _
  refine wpAny_bind (wpAny_field hz rfl (x:=.bool false) rfl ?_)
  show wpAny _ _ (field (.ref z) 3 >>= _) _ _ _
  refine wpAny_bind (wpAny_field hz rfl (x:=.ref TI) rfl (wpAny_bind (wpAny_seqItems hTI rfl ?_)))
  show wpAny _ _ (Builtin.SmallTypes.ownedTupleIsFree (.ref z) >>= _) _ _ _
  refine wpAny_bind ?_
  unfold Builtin.SmallTypes.ownedTupleIsFree
  refine wpAny_bind (wpAny_field hz rfl (x:=.none) rfl (wpAny_pure ?_))
  simp only [if_true]
  refine wpAny_bind (wpAny_rule (wpAny_bind (wpAny_field hz rfl (x:=.ref TO) rfl (wpAny_bind (wpAny_setField_rec hz (by simp) fun g1 z1 s1=>?_)))))
  replace z1:IsZip g1 z TI TO .ellipsis:=z1
  refine wpAny_bind ?_
  simp only [List.zipIdx_cons,List.zipIdx_nil,List.forIn_cons,List.forIn_nil]
  refine wpAny_bind (wpAny_bind (wpAny_onRaise ?_))
  show wpAny _ _ (Builtin.SmallTypes.nextOf (.ref i1) >>= _) _ _ _
  refine wpAny_bind (nextT_end hh (h1.at fun o e=>s1.extBut _ o D.a3 e) (hl1.at fun o e=>s1.extBut _ o D.e1 e) hx fun g2 e s2 he=>?_)
  obtain ⟨oe,hoe,hce⟩:=he
  have z2:IsZip g2 z TI TO .ellipsis:=s2 _ _ D.a3.symm z1
  have hez:e ≠ z:=fun q=>by subst q;rw [z2] at hoe;cases hoe;simp at hce
  refine wpAny_setField_rec z2 (by simp) fun g3 _ s3=>?_
  refine wpAny_bind (wpAny_isInstance (T:="StopIteration") (b:=true) ⟨oe,s3.extBut _ _ hez hoe,hce⟩ isSubtype_stop (wpAny_pure (hQ g3 fun c o hc q=>?_)))
  simp only [List.mem_cons,List.not_mem_nil,or_false,not_or] at hc
  exact s3.extBut _ _ hc.1 (s2 _ _ hc.2.2.1 (s1.extBut _ _ hc.1 q))
abbrev tit (t:Addr):Obj:={ cls:=.type "tuple_iterator",data:=.fields #[.ref t,.int 0 0] }
abbrev tpr (a b:Value):Obj:={ cls:=.type "tuple",data:=.seq #[a,b] }
abbrev zob (a b:Addr):Obj:={ cls:=.type "zip",data:=.fields #[.none,.bool false,.bool false,.ref a,.ref b] }
abbrev zipHp (h:Heap) (t1 t2:Addr):Heap:=((((h.push (tit t1)).push (tit t2)).push (tpr (.ref h.objs.size) (.ref (h.objs.size + 1)))).push (tpr .none .none)).push (zob (h.objs.size + 2) (h.objs.size + 3))
theorem zip_newT (t1 t2:Addr) (xs ys:Array Value) :
    Meets (Builtin.«zip.__new__» ⟨[.type "zip",.ref t1,.ref t2],[]⟩) (fun _ R s=>s.heap.IsTuple t1 xs/\s.heap.IsTuple t2 ys/\R (.ok (.ret (.ref (s.heap.objs.size + 4)))) { s with heap:=zipHp s.heap t1 t2 }) :=
  .of_wp fun prog w A R s h=>by
    obtain ⟨hp,g,d,tk,os⟩:=s;obtain ⟨hl1,hl2,h⟩:=h
    have hsub:=sub_zip
    have hL1:Heap.IsTuple (Shared.heap ⟨hp,g,d,tk,os⟩) t1 xs:=hl1
    have hL2:Heap.IsTuple (Shared.heap ⟨hp.push (tit t1),g,d,tk,os⟩) t2 ys:=Heap.IsTuple.push hl2 _
    wp_walk using wpAny_pyIter_tuple hL1,wpAny_pyIter_tuple hL2
    simp only [Heap.size_push]
    exact ⟨_,rfl,h⟩
theorem call_zipT {t1 t2:Addr} {xs ys:Array Value} {Q:Value->Shared->Prop} (hl1:s.heap.IsTuple t1 xs) (hl2:s.heap.IsTuple t2 ys)
    (h:∀ h',ZipT h' (s.heap.objs.size + 4) (s.heap.objs.size + 2) (s.heap.objs.size + 3) s.heap.objs.size (s.heap.objs.size + 1) t1 t2 0->(∀ c o,s.heap.get? c=some o->h'.get? c=some o)->h'.objs.size=s.heap.objs.size + 5 ->
      Q (.ref (s.heap.objs.size + 4)) { s with heap:=h' }):wpAny (model prog w) A (call (.type "zip") [.ref t1,.ref t2]) Q E s:=by
  refine callType_new F.called_zip (by decide) (F.typeCall_zip_2 _ _) (F.newCall_zip_2 _ _) (fun obj=>F.args_object_init_3 obj _ _) F.entry_zip_new (zip_newT t1 t2 xs ys) ⟨hl1,hl2,?_⟩
  have up:∀ {b:Addr} {o:Obj} (h0:Heap) (x:Obj),h0.get? b=some o->(h0.push x).get? b=some o:=fun _ _ e=>Heap.get?_push_of_some _ e
  have here:∀ (h0:Heap) (x:Obj) (n:Nat),x.isFreed=false->h0.objs.size=n->(h0.push x).get? n=some x:=fun h0 x n hf e=>by subst e;exact Heap.get?_push_size _ hf
  have Z:ZipT (zipHp s.heap t1 t2) (s.heap.objs.size + 4) (s.heap.objs.size + 2) (s.heap.objs.size + 3) s.heap.objs.size (s.heap.objs.size + 1) t1 t2 0 :=
    ⟨here _ _ _ rfl (by simp only [Heap.size_push]),up _ _ (up _ _ (here _ _ _ rfl (by simp only [Heap.size_push]))),⟨_,_,up _ _ (here _ _ _ rfl (by simp only [Heap.size_push]))⟩,
      ⟨_,up _ _ (up _ _ (up _ _ (up _ _ (here _ _ _ rfl rfl)))),rfl,rfl⟩,⟨_,up _ _ (up _ _ (up _ _ (here _ _ _ rfl (by simp only [Heap.size_push])))),rfl,rfl⟩⟩
  exact ⟨⟨_,Z.zz,rfl⟩,h _ Z (fun c o e=>up _ _ (up _ _ (up _ _ (up _ _ (up _ _ e))))) (by simp only [Heap.size_push])⟩
end
section
variable {X:Cx} {pins:List (Addr × Obj)} {σ:St} {H:Hp} {s:Shared}
theorem Inv.turnedL {h':Heap} {t':Nat} {ch:List Addr} (I:Inv X pins σ H s) (k:∀ b o,b ∉ ch->s.heap.get? b=some o->h'.get? b=some o) (hf:∀ b ∈ ch,FpOk X pins H b):Inv X pins σ H { s with heap:=h',toks:=t' }:=by
  have nit:∀ b u,H b=some u->b ∉ ch:=fun b u e z=>by rw [(hf b z).1] at e;cases e
  refine I.step (g':=s.gens) (d':=s.drawn) (ch:=ch) (fun b hb=>⟨(hf b hb).2.2.2.1,(hf b hb).2.1,(hf b hb).2.2.2.2.1,(hf b hb).2.2.2.2.2⟩) (fun b o _ _ hc e _=>k b o hc e) (fun b o _ _ hc e _=>⟨o.slots,k b o hc e⟩) (fun _ _ _ _ n=>n)
    (fun b o hc e=>⟨o,k b o hc e⟩) (fun _ _ e=>e) (fun _ _ _ e=>e) (fun b ps e=>⟨#[],by rw [e];simp⟩) (fun m hm=>?_) (fun b u e=>?_) I.bare
  · obtain ⟨o,es,ep,ho,r⟩:=hm
    exact ⟨o,es,ep,k _ o (fun z=>(hf _ z).2.1 rfl) ho,r⟩
  · refine (I.hok b u e).stay (fun c v hc q=>k c v ?_ q) (fun _ q=>q) fun _ _ q=>q
    rcases hc with z | z
    · rw [z];exact nit b u e
    · exact nit c _ z
def Itz (K:PySem.W.Frag) (a b:Addr):It :=
  ⟨fun i H=>∃ xs ys x y,SqT K H a xs/\SqT K H b ys/\xs[i]?=some x/\ys[i]?=some y,fun i H v H'=>∃ p x y,H p=none/\v=.ref p/\H'=upd H p (.tup [x,y])/\(∀ xs,SqT K H a xs->xs[i]?=some x)/\∀ ys,SqT K H b ys->ys[i]?=some y,
    fun i H=>∃ xs,SqT K H a xs/\xs.length <= i⟩
theorem turn_zip {P:Program} {w:World} {K:PySem.W.Frag} {es:List Expr} {kk:Nat} {pos:Pos} {a b z TI TO i1 i2:Addr} (D:ZipD z TI TO i1 i2 a b) :
    Turn P w K (.Tuple es kk pos) (Itz K a b) [z,TI,TO,i1,i2] z (fun i h=>ZipT h z TI TO i1 i2 a b i) where
  mem:=by simp
  obj:=fun i h st c hc=>by
    obtain ⟨hz,hTI,⟨_,_,hTO⟩,⟨_,h1,_,d1⟩,⟨_,h2,_,d2⟩⟩:=st
    simp only [List.mem_cons,List.not_mem_nil,or_false] at hc
    rcases hc with rfl | rfl | rfl | rfl | rfl
    · exact ⟨_,hz,fun v q=>by cases q⟩
    · exact ⟨_,hTI,fun v q=>by cases q⟩
    · exact ⟨_,hTO,fun v q=>by cases q⟩
    · exact ⟨_,h1,fun v q=>by rw [d1] at q;cases q⟩
    · exact ⟨_,h2,fun v q=>by rw [d2] at q;cases q⟩
  keep:=fun i h h' st k=>by
    obtain ⟨hz,hTI,⟨_,_,hTO⟩,h1,h2⟩:=st
    exact ⟨k _ (by simp) _ hz,k _ (by simp) _ hTI,⟨_,_,k _ (by simp) _ hTO⟩,h1.at fun o e=>k _ (by simp) o e,h2.at fun o e=>k _ (by simp) o e⟩
  item:=by
    intro X hP hw hK hc i pins s σ H E I hf st hg
    subst hP hw hK
    obtain ⟨xs,ys,x,y,ha,hb,hx,hy⟩:=hg
    obtain ⟨its,r1,p1,_⟩:=I.tuple ha
    obtain ⟨its2,r2,p2,_⟩:=I.tuple hb
    obtain ⟨u,hu,ru⟩:=r1.get hx
    obtain ⟨v,hv,rv⟩:=r2.get hy
    refine zipT_item D st (show s.heap.IsTuple a its.toArray from p1) (show s.heap.IsTuple b its2.toArray from p2) (x:=u) (y:=v) (by simpa using hu) (by simpa using hv) fun h' z1 o1 j1 j2 new sz keep=>?_
    refine ⟨_,rfl,wpAny_letOwnedTupleGo_zip (s:={ s with heap:=h' }) z1 fun h2 z2 sb=>?_⟩
    have hn:H s.heap.objs.size=none:=I.hok.fresh (Nat.le_refl _)
    have zlt:z < s.heap.objs.size:=Heap.lt_size st.zz
    have k2:∀ c o,c ∉ [z,TI,TO,i1,i2]->s.heap.get? c=some o->h2.get? c=some o:=fun c o hc e=>by
      simp only [List.mem_cons,List.not_mem_nil,or_false,not_or] at hc
      exact sb.extBut _ _ hc.1 (keep c o (by simp only [List.mem_cons,List.not_mem_nil,or_false,not_or];exact ⟨hc.1,hc.2.2.1,hc.2.2.2.1,hc.2.2.2.2⟩) e)
    have e0:h2.get? s.heap.objs.size=some { cls:=.type "tuple",data:=.seq #[u,v] }:=sb.extBut _ _ (Nat.ne_of_gt zlt) new
    have pne:∀ c o,s.heap.get? c=some o->c ≠ s.heap.objs.size:=fun c o e=>Nat.ne_of_lt (Heap.lt_size e)
    have nit:∀ c u,H c=some u->c ∉ [z,TI,TO,i1,i2]:=fun c u e q=>by rw [(hf c q).1] at e;cases e
    have hok:HOk X.prog X.w (upd H s.heap.objs.size (.tup [x,y])) h2:=fun c ob e=>by
      by_cases hq:c=s.heap.objs.size
      · subst hq
        rw [upd_same] at e;cases e
        exact ⟨by show 2 <= sizeLine;decide,[u,v],.cons ru (.cons rv .nil),⟨_,e0,rfl,_,rfl⟩⟩
      · rw [upd_ne hq] at e
        refine (I.hok c ob e).stay (fun d w' hd q=>k2 d w' ?_ q) (fun d q=>by rw [upd_ne (ne_of_none q hn)];exact q) fun d xs q=>by rw [upd_ne (ne_of_none q hn)];exact q
        rcases hd with rfl | hd
        · exact nit d ob e
        · exact nit d _ hd
    have I2:Inv X pins σ (upd H s.heap.objs.size (.tup [x,y])) { s with heap:=h2 }:=by
      refine I.step (g':=s.gens) (d':=s.drawn) (t':=s.toks) (ch:=[z,TI,TO,i1,i2]) (fun c hc=>⟨(hf c hc).2.2.2.1,(hf c hc).2.1,(hf c hc).2.2.2.2.1,(hf c hc).2.2.2.2.2⟩) (fun c o _ _ hc e _=>k2 c o hc e) (fun c o _ _ hc e _=>⟨o.slots,k2 c o hc e⟩)
        (fun c o _ e n=>by rw [upd_ne (pne c o e)];exact n) (fun c o hc e=>⟨o,k2 c o hc e⟩) (fun c xs e=>by rw [upd_ne (ne_of_none e hn)];exact e) (fun c o u e=>by rw [upd_ne (ne_of_none e hn)];exact e) (fun c ps e=>⟨#[],by rw [upd_ne (ne_of_none e hn),e];simp⟩) (fun m hm=>?_) hok I.bare
      obtain ⟨o,es,ep,ho,r⟩:=hm
      exact ⟨o,es,ep,k2 _ o (fun q=>(hf _ q).2.1 rfl) ho,r⟩
    refine ⟨.ref s.heap.objs.size,_,I2,rfl,⟨_,x,y,hn,rfl,rfl,fun xs' h'=>by rw [I.tuple_inj h' ha];exact hx,fun ys' h'=>by rw [I.tuple_inj h' hb];exact hy⟩,?_,fun c hc=>?_⟩
    · exact ⟨z2,sb.extBut _ _ D.a1 (keep _ _ (by simp only [List.mem_cons,List.not_mem_nil,or_false,not_or];exact ⟨D.a1,D.b1,D.b2,D.b3⟩) st.ti),⟨_,_,sb.extBut _ _ D.a2 o1⟩,j1.at fun o e=>sb.extBut _ o D.a3 e,j2.at fun o e=>sb.extBut _ o D.a4 e⟩
    · have hlt:c < s.heap.objs.size:=by
        obtain ⟨hz,hTI,⟨_,_,hTO⟩,⟨_,h1,_⟩,⟨_,h2,_⟩⟩:=st
        simp only [List.mem_cons,List.not_mem_nil,or_false] at hc
        rcases hc with rfl | rfl | rfl | rfl | rfl
        · exact Heap.lt_size hz
        · exact Heap.lt_size hTI
        · exact Heap.lt_size hTO
        · exact Heap.lt_size h1
        · exact Heap.lt_size h2
      rw [upd_ne (Nat.ne_of_lt hlt)]
      exact (hf c hc).1
  done:=by
    intro X hP hw hK hc i pins s σ H E I hf st hg
    subst hP hw hK
    obtain ⟨xs,ha,hx⟩:=hg
    obtain ⟨its,r1,p1,_⟩:=I.tuple ha
    have hl:=r1.length
    refine zipT_end (I.ok.hd hc) D st (show s.heap.IsTuple a its.toArray from p1) (by simp;omega) fun h' keep=>⟨rfl,I.turnedL (t':=s.toks) (ch:=[z,TI,TO,i1,i2]) (fun c o hc e=>keep c o (fun q=>hc ?_) e) hf⟩
    simp only [List.mem_cons,List.not_mem_nil,or_false] at q ⊢
    rcases q with q | q | q | q
    · exact .inl q
    · exact .inr (.inr (.inl q))
    · exact .inr (.inr (.inr (.inl q)))
    · exact .inr (.inr (.inr (.inr q)))
  self:=fun _ _ _ _ _ st h=>wpAny_pyIter_zip st.zz h
def iZip (K:PySem.W.Frag) (ta:TA):TI:=fun σ H R=>ta σ H fun vs H1=>∃ a b xs ys,vs=[.ref a,.ref b]/\SqT K H1 a xs/\SqT K H1 b ys/\R (Itz K a b) H1
theorem pi_zip {e1 e2:Expr} {es:List Expr} {kk:Nat} {pt p pos:Pos} {ta:TA} (hg:Gl X "zip") (hm:X.mg "zip"=none) (ha:PA X [e1,e2] ta) (hs:starEach [e1,e2] X.env=[(false,eval e1 X.env),(false,eval e2 X.env)]:=by rfl) (hs2:starEach [e2] X.env=[(false,eval e2 X.env)]:=by rfl) :
    PI X (.Tuple es kk pt) (.Call (.Name "zip" p) [e1,e2] [] pos) (iZip X.K ta):=by
  intro pins s σ H R I h
  refine Call_ (ld_blt I hg hm boot_zip (PyProof.Rows.callWith_type1 (thn (ha pos pins s σ H _ I h) fun us s1 ⟨vs,H1,I1,r1,q1⟩=>?_) (by rw [hs,hs2]) (by rw [hs2];rfl)))
  obtain ⟨a,b,xs,ys,rfl,hx,hy,q⟩:=q1
  cases r1 with
  | cons ra rr =>
    cases rr with
    | cons rb rr =>
      cases rr
      cases ra
      cases rb
      obtain ⟨its,r1,p1,_⟩:=I1.tuple hx
      obtain ⟨its2,r2,p2,_⟩:=I1.tuple hy
      refine call_zipT (show s1.heap.IsTuple a its.toArray from p1) (show s1.heap.IsTuple b its2.toArray from p2) fun h' Z keep sz=>?_
      refine wpAny_pyIter_zip (s:={ s1 with heap:=h' }) Z.zz ?_
      have I2:Inv X pins σ H1 { s1 with heap:=h' }:=I1.kept (t':=s1.toks) keep
      refine ⟨s1.heap.objs.size + 4,[s1.heap.objs.size + 4,s1.heap.objs.size + 2,s1.heap.objs.size + 3,s1.heap.objs.size,s1.heap.objs.size + 1],_,_,H1,rfl,I2,turn_zip (ZipD.new p1.lt p2.lt),Z,fun c hc=>?_,q⟩
      have hge:s1.heap.objs.size <= c:=by
        simp only [List.mem_cons,List.not_mem_nil,or_false] at hc
        rcases hc with rfl | rfl | rfl | rfl | rfl <;> first | exact Nat.le_add_right _ _ | exact Nat.le_refl _
      exact I1.fpOk hge (I1.hok.fresh hge)
end
end L2
namespace L2
open PySem PySem.Spec PyProof.Rows
mutual
def Dt (st:Addr) (H:Hp):PyData->V->Prop
  | .none,v=>v=.non
  | .bool b,v=>v=.bl b
  | .int i,v=>v=.int i
  | .str x,v=>v=.str x
  | .tuple ds,v=>∃ a xs,v=.ref a/\a ≠ st/\H a=some (.tup xs)/\Dts st H ds xs
  | .list ds,v=>∃ a xs,v=.ref a/\a ≠ st/\H a=some (.lst xs)/\Dts st H ds xs
  | .dict _,v=>∃ a ks,v=.ref a/\a ≠ st/\H a=some (.dK ks)
def Dts (st:Addr) (H:Hp):List PyData->List V->Prop
  | [],xs=>xs=[]
  | d :: ds,xs=>∃ x r,xs=x :: r/\Dt st H d x/\Dts st H ds r
end
def Kp (st:Addr) (H H':Hp):Prop:=∀ b o,b ≠ st->H b=some o->H' b=some o
theorem Kp.refl (st:Addr) (H:Hp):Kp st H H:=fun _ _ _ e=>e
theorem Kp.trans {st:Addr} {H H1 H2:Hp} (a:Kp st H H1) (b:Kp st H1 H2):Kp st H H2:=fun c o n e=>b c o n (a c o n e)
theorem Same.kp {H H':Hp} (a:Same H H') (st:Addr):Kp st H H':=fun b o _ e=>a b o e
theorem Same.new {H:Hp} {p:Addr} {o:HO} (h:H p=none):Same H (upd H p o):=fun b u q=>by rw [upd_ne (ne_of_none q h)];exact q
theorem Kp.at {st:Addr} {H:Hp} {o:HO}:Kp st H (upd H st o):=fun b u n q=>by rw [upd_ne n];exact q
mutual
theorem Dt.kp {st:Addr} {H H':Hp} (k:Kp st H H'):∀ {d:PyData} {v:V},Dt st H d v->Dt st H' d v
  | .none,_,h=>by unfold Dt at h ⊢;exact h
  | .bool _,_,h=>by unfold Dt at h ⊢;exact h
  | .int _,_,h=>by unfold Dt at h ⊢;exact h
  | .str _,_,h=>by unfold Dt at h ⊢;exact h
  | .tuple ds,_,h=>by
    unfold Dt at h ⊢
    obtain ⟨a,xs,e,n,q,r⟩:=h
    exact ⟨a,xs,e,n,k a _ n q,Dts.kp k r⟩
  | .list ds,_,h=>by
    unfold Dt at h ⊢
    obtain ⟨a,xs,e,n,q,r⟩:=h
    exact ⟨a,xs,e,n,k a _ n q,Dts.kp k r⟩
  | .dict kvs,_,h=>by
    unfold Dt at h ⊢
    obtain ⟨a,ks,e,n,q⟩:=h
    exact ⟨a,ks,e,n,k a _ n q⟩
theorem Dts.kp {st:Addr} {H H':Hp} (k:Kp st H H'):∀ {ds:List PyData} {xs:List V},Dts st H ds xs->Dts st H' ds xs
  | [],_,h=>by unfold Dts at h ⊢;exact h
  | d :: ds,_,h=>by
    unfold Dts at h ⊢
    obtain ⟨x,r,e,q1,q2⟩:=h
    exact ⟨x,r,e,Dt.kp k q1,Dts.kp k q2⟩
end
theorem Dt.int (st:Addr) (H:Hp) (i:Int):Dt st H (.int i) (.int i):=by unfold Dt;rfl
theorem Dt.tup {st:Addr} {H:Hp} {a:Addr} {xs:List V} {ds:List PyData} (n:a ≠ st) (h:H a=some (.tup xs)) (r:Dts st H ds xs):Dt st H (.tuple ds) (.ref a):=by unfold Dt;exact ⟨a,xs,rfl,n,h,r⟩
theorem Dts.nil (st:Addr) (H:Hp):Dts st H [] []:=by unfold Dts;rfl
theorem Dts.cons {st:Addr} {H:Hp} {d:PyData} {ds:List PyData} {x:V} {xs:List V} (h:Dt st H d x) (r:Dts st H ds xs):Dts st H (d :: ds) (x :: xs):=by unfold Dts;exact ⟨x,xs,rfl,h,r⟩
theorem Dts.uncons {st:Addr} {H:Hp} {d:PyData} {ds:List PyData} {xs:List V} (h:Dts st H (d :: ds) xs):∃ x r,xs=x :: r/\Dt st H d x/\Dts st H ds r:=by unfold Dts at h;exact h
theorem Dts.len {st:Addr} {H:Hp}:∀ {ds:List PyData} {xs:List V},Dts st H ds xs->ds.length=xs.length
  | [],_,h=>by unfold Dts at h;subst h;rfl
  | d :: ds,_,h=>by
    obtain ⟨x,r,e,_,q⟩:=h.uncons
    subst e
    rw [List.length_cons,List.length_cons,Dts.len q]
theorem Dts.append {st:Addr} {H:Hp}:∀ {ds es:List PyData} {xs ys:List V},Dts st H ds xs->Dts st H es ys->Dts st H (ds ++ es) (xs ++ ys)
  | [],_,_,_,h,q=>by unfold Dts at h;subst h;exact q
  | d :: ds,_,_,_,h,q=>by
    obtain ⟨x,r,e,h1,h2⟩:=h.uncons
    subst e
    exact Dts.cons h1 (Dts.append h2 q)
theorem Dts.get {st:Addr} {H:Hp}:∀ {ds:List PyData} {xs:List V} {i:Nat} {x:V},Dts st H ds xs->xs[i]?=some x->∃ d,ds[i]?=some d/\Dt st H d x
  | [],_,i,x,h,e=>by unfold Dts at h;subst h;simp at e
  | d :: ds,_,0,x,h,e=>by
    obtain ⟨y,r,e1,h1,h2⟩:=h.uncons
    subst e1
    simp at e;subst e
    exact ⟨d,rfl,h1⟩
  | d :: ds,_,i + 1,x,h,e=>by
    obtain ⟨y,r,e1,h1,h2⟩:=h.uncons
    subst e1
    obtain ⟨d',e2,h3⟩:=Dts.get (i:=i) (x:=x) h2 (by simpa using e)
    exact ⟨d',by simpa using e2,h3⟩
theorem Dts.ints (st:Addr) (H:Hp):∀ ns:List Int,Dts st H (ns.map PyData.int) (ns.map V.int)
  | []=>Dts.nil st H
  | n :: ns=>Dts.cons (Dt.int st H n) (Dts.ints st H ns)
theorem Dts.ints_eq {st:Addr} {H:Hp}:∀ {ns:List Int} {xs:List V},Dts st H (ns.map PyData.int) xs->xs=ns.map V.int
  | [],_,h=>by unfold Dts at h;exact h
  | n :: ns,_,h=>by
    rw [List.map_cons] at h
    obtain ⟨x,r,e,h1,h2⟩:=h.uncons
    unfold Dt at h1
    rw [e,h1,Dts.ints_eq h2,List.map_cons]
abbrev DI (ns:List Int):PyData:=.tuple (ns.map .int)
theorem Dt.di {st:Addr} {H:Hp} {ns:List Int} {v:V} (h:Dt st H (DI ns) v):∃ a,v=.ref a/\a ≠ st/\H a=some (.tup (ns.map V.int)):=by
  unfold DI Dt at h
  obtain ⟨a,xs,e,n,q,r⟩:=h
  exact ⟨a,e,n,by rw [q,r.ints_eq]⟩
theorem Dt.mkI {st:Addr} {H:Hp} {ns:List Int} {a:Addr} (n:a ≠ st) (h:H a=some (.tup (ns.map V.int))):Dt st H (DI ns) (.ref a):=Dt.tup n h (Dts.ints st H ns)
mutual
theorem Dt.reads {P:Program} {w:World} {st:Addr} {H:Hp} {h:Heap} (ok:HOk P w H h):∀ {d:PyData} {v:V} {u:Value},d.canLay0=true->Dt st H d v->RelV v u->∃ as,Reads h u d as
  | .none,_,u,_,q,r=>by unfold Dt at q;subst q;cases r;exact ⟨[],.none⟩
  | .bool b,_,u,_,q,r=>by unfold Dt at q;subst q;cases r;exact ⟨[],.bool b⟩
  | .int i,_,u,_,q,r=>by unfold Dt at q;subst q;obtain ⟨t,rfl⟩:=r;exact ⟨[],.int i t⟩
  | .str x,_,u,_,q,r=>by unfold Dt at q;subst q;obtain ⟨t,rfl⟩:=r;exact ⟨[],.str x t⟩
  | .tuple ds,_,u,cl,q,r=>by
    unfold PyData.canLay0 at cl
    unfold Dt at q
    obtain ⟨a,xs,e,n,hq,rs⟩:=q
    subst e
    cases r
    obtain ⟨_,its,rv,o,ho,hc,m,hd⟩:=ok a _ hq
    obtain ⟨as,ra⟩:=Dts.reads ok cl rs rv
    exact ⟨as,.tuple ho hc hd (by simpa using ra)⟩
  | .list ds,_,u,cl,q,r=>by
    unfold PyData.canLay0 at cl
    unfold Dt at q
    obtain ⟨a,xs,e,n,hq,rs⟩:=q
    subst e
    cases r
    obtain ⟨_,its,m,rv,ho⟩:=ok a _ hq
    obtain ⟨as,ra⟩:=Dts.reads ok cl rs rv
    exact ⟨a :: as,.list ho rfl rfl (by simpa using ra)⟩
  | .dict kvs,_,u,cl,q,r=>by unfold PyData.canLay0 at cl;cases cl
theorem Dts.reads {P:Program} {w:World} {st:Addr} {H:Hp} {h:Heap} (ok:HOk P w H h):∀ {ds:List PyData} {xs:List V} {us:List Value},PyData.canLayAll0 ds=true->Dts st H ds xs->Vals xs us->∃ as,ReadsAll h us ds as
  | [],_,us,_,q,r=>by unfold Dts at q;subst q;cases r;exact ⟨[],.nil⟩
  | d :: ds,_,us,cl,q,r=>by
    unfold PyData.canLayAll0 at cl
    rw [Bool.and_eq_true] at cl
    obtain ⟨x,rr,e,h1,h2⟩:=q.uncons
    subst e
    cases r with
    | cons r1 r2 =>
      obtain ⟨as,ra⟩:=Dt.reads ok cl.1 h1 r1
      obtain ⟨bs,rb⟩:=Dts.reads ok cl.2 h2 r2
      exact ⟨as ++ bs,.cons ra rb⟩
end
theorem shaped_lay {d:PyData} (h:SeqAt.shaped d=true):d.canLay0=true:=by
  unfold SeqAt.shaped at h
  rw [Bool.and_eq_true] at h
  exact h.1
section
variable {X:Cx}
def rEqD:R2:=fun x y H Q=>∃ st d e,Dt st H d x/\Dt st H e y/\SeqAt.shaped d=true/\SeqAt.shaped e=true/\Q (.bl (PyData.eqv d e)) H
def rNeD:R2:=fun x y H Q=>∃ st d e,Dt st H d x/\Dt st H e y/\SeqAt.shaped d=true/\SeqAt.shaped e=true/\Q (.bl (!PyData.eqv d e)) H
theorem op_eqD (hu:X.A.units + 64 < cLine):OpR X (compareOp .Eq) rEqD:=by
  intro pins s σ H x y v u Q I rx ry h
  obtain ⟨st,d,e,h1,h2,s1,s2,q⟩:=h
  obtain ⟨as,ra⟩:=h1.reads I.hok (shaped_lay s1) rx
  obtain ⟨bs,rb⟩:=h2.reads I.hok (shaped_lay s2) ry
  exact eq_dataH ra rb s1 s2 hu (fin_bl I q rfl)
theorem op_neD (hu:X.A.units + 64 < cLine):OpR X (compareOp .NotEq) rNeD:=by
  intro pins s σ H x y v u Q I rx ry h
  obtain ⟨st,d,e,h1,h2,s1,s2,q⟩:=h
  obtain ⟨as,ra⟩:=h1.reads I.hok (shaped_lay s1) rx
  obtain ⟨bs,rb⟩:=h2.reads I.hok (shaped_lay s2) ry
  exact ne_dataH ra rb s1 s2 hu (fin_bl I q rfl)
def tyN:PyData->String
  | .none=>"NoneType"
  | .bool _=>"bool"
  | .int _=>"int"
  | .str _=>"str"
  | .list _=>"list"
  | .tuple _=>"tuple"
  | .dict _=>"dict"
theorem Dt.ty {K:PySem.W.Frag} {st:Addr} {H:Hp} {d:PyData} {v:V} (h:Dt st H d v):TyOf K H v (.type (tyN d)):=by
  cases d with
  | none=>unfold Dt at h;subst h;exact .non
  | bool b=>unfold Dt at h;subst h;exact .bl b
  | int i=>unfold Dt at h;subst h;exact .int i
  | str x=>unfold Dt at h;subst h;exact .str x
  | list ds=>unfold Dt at h;obtain ⟨a,xs,e,_,q,_⟩:=h;subst e;exact .lst q
  | tuple ds=>unfold Dt at h;obtain ⟨a,xs,e,_,q,_⟩:=h;subst e;exact .tup q
  | dict kvs=>unfold Dt at h;obtain ⟨a,ks,e,_,q⟩:=h;subst e;exact .dK q
def isBoolD:PyData->Bool
  | .bool _=>true
  | _=>false
def isIntD:PyData->Bool
  | .bool _=>true
  | .int _=>true
  | _=>false
def isTupD:PyData->Bool
  | .tuple _=>true
  | _=>false
theorem kit_bool (K:PySem.W.Frag) (d:PyData):PySem.W.kitOne K (.type (tyN d)) (.type "bool")=some (isBoolD d):=by cases d <;> kernel_rfl
theorem kit_int (K:PySem.W.Frag) (d:PyData):PySem.W.kitOne K (.type (tyN d)) (.type "int")=some (isIntD d):=by cases d <;> kernel_rfl
theorem kit_tup (K:PySem.W.Frag) (d:PyData):PySem.W.kitOne K (.type (tyN d)) (.type "tuple")=some (isTupD d):=by cases d <;> kernel_rfl
theorem call_isi {T:String} {f:PyData->Bool} (hk:∀ K d,PySem.W.kitOne K (.type (tyN d)) (.type T)=some (f d)) :
    CallR X (.builtin "isinstance") (fun xs H Q=>∃ x st d,xs=[x,.ty T]/\Dt st H d x/\Q (.bl (f d)) H):=by
  intro pins s σ H xs us Q I r h
  obtain ⟨x,st,d,rfl,hd,q⟩:=h
  cases r with
  | cons r1 rr =>
    cases rr with
    | cons r2 rr =>
      cases rr
      cases r2
      exact isinst_ok I r1 (hd.ty (K:=X.K)) (hk X.K d) fun tk=>⟨.bl (f d),H,I.tok tk,rfl,q⟩
theorem op_fdivB:OpR X (binaryOp .FloorDiv) (rI (fun _ j=>0 < j/\j.natAbs.log2 < 9000) fun i j=>.int (i / j)):=opI fun i j _ _ _ _ _ hc q =>
  floordiv_int (by have:=hc.1;omega) (by rw [Int.fdiv_eq_ediv_of_nonneg i (by have:=hc.1;omega)];exact q) (.inl (PyProof.noPylong_of_log2 hc.2))
theorem op_mulB:OpR X (binaryOp .Mult) (rI (fun i j=>Builtin.Int.intBits i <= 2 ^ 20/\Builtin.Int.intBits j <= 2 ^ 20) fun i j=>.int (i * j)):=opI fun _ _ _ _ _ _ _ hc q=>mul_int q (.of_bits hc.1 hc.2)
def rCatA (K:PySem.W.Frag):R2:=fun x y H Q=>∃ a b xs ys,x=.ref a/\y=.ref b/\SqT K H a xs/\SqT K H b ys/\xs.length + ys.length <= sizeLine /\
  (xs=[]->Q (.ref b) H)/\(xs ≠ []->ys=[]->Q (.ref a) H)/\(xs ≠ []->ys ≠ []->∀ p,H p=none->Q (.ref p) (upd H p (.tup (xs ++ ys))))
theorem op_catA:OpR X (binaryOp .Add) (rCatA X.K):=by
  intro pins s σ H x y v u Q I rx ry h
  obtain ⟨a,b,xs,ys,rfl,rfl,ha,hb,hz,q0,q1,q2⟩:=h
  by_cases hx:xs=[]
  · subst hx
    cases rx
    cases ry
    obtain ⟨its,r1,p1,_⟩:=I.tuple ha
    obtain ⟨its2,r2,p2,_⟩:=I.tuple hb
    cases r1
    obtain ⟨⟨cls,dd,data,sl⟩,ho,hc,n,hd⟩:=id p1
    obtain ⟨⟨cls2,dd2,data2,sl2⟩,ho2,hc2,n2,hd2⟩:=id p2
    simp only at hc hd hc2 hd2
    subst hc hd hc2 hd2
    exact concat_meets ⟨_,ho,rfl⟩ ⟨_,ho2,rfl⟩ noFill_tuple_add seq_tuple_add PySem.F.slot_tuple_add PySem.F.entry_tuple_add (PySem.F.args_tuple_add_2 _ _)
      (tuple_addW0 a b _ _ n n2 dd dd2 sl sl2 (by rfl)) ⟨ho,ho2,⟨.ref b,H,I,rfl,q0 rfl⟩⟩
  · exact op_catT pins s σ H _ _ v u Q I rx ry ⟨a,b,xs,ys,rfl,rfl,ha,hb,hx,hz,q1 hx,q2 hx⟩
end
end L2
namespace L2
open PySem PySem.Spec PyProof.Rows
section
variable {prog:Program} {w:World} {A:Around} {E:Value->Shared->Prop} {s:Shared}
theorem getItem_whole {t sl:Addr} {items:Array Value} {vl vu:Value} {lo hi:Option Int} {Q:Value->Shared->Prop} (ht:IsTup s.heap t items) (hs:s.heap.IsSliceOf sl vl vu .none) (pl:IsPart vl lo) (pu:IsPart vu hi)
    (hw:HT.sIx items.size 0 lo=0/\HT.sIx items.size items.size hi=items.size) (h:Q (.ref t) s):wpAny (model prog w) A (getItem (.ref t) (.ref sl)) Q E s:=by
  obtain ⟨os,hos,hcs,hds⟩:=id hs
  have hTs:s.TypeIs (.ref sl) "slice":=⟨os,hos,hcs⟩
  unfold getItem
  try with_reducible refine wpAny_holding ?_
  first | refine wpAny_bind (wpAny_pure ?_) | skip
  refine wpAny_bind (wpAny_sequenceKey ht.typeIs (by decide) ?_)
  refine wpAny_bind (wpAny_callSpecial?_slot (name:=Str.ofString "__getitem__") ht.typeIs PyProof.Rows.slot_tuple_getitem
    (wpAny_call_entry PyProof.Rows.slot_tuple_getitem ht.typeIs entry_tuple_getitem ?_ (args_tuple_getitem _ _)))
  show wpAny _ _ (Builtin.Tuple.tupleItemsOf (.ref t) >>= _) _ _ s
  refine wpAny_bind (tupleItemsOf_ ht (wpAny_bind (wpAny_typeOf hTs ?_)))
  rw [if_pos (by decide)]
  refine wpAny_bind (HT.sliceApplied_gen hs pl pu ?_)
  show wpAny _ _ (if (((HT.sIx items.size 0 lo:Nat):Int) == 0 && (1:Int) == 1 && (HT.sIx items.size items.size hi - HT.sIx items.size 0 lo) == items.size)=true then _ else _) _ _ s
  rw [if_pos (by rw [hw.1,hw.2];simp)]
  refine wpAny_bind (m:=Builtin.Tuple.tupleIsExact (.ref t)) ?_
  unfold Builtin.Tuple.tupleIsExact
  refine wpAny_bind (wpAny_typeOf ht.typeIs (wpAny_pure ?_))
  rw [if_pos (by decide)]
  refine wpAny_bind (wpAny_rule ?_)
  first
    | exact wpAny_pure ⟨_,rfl,wpAny_pure h⟩
    | exact wpAny_bind (wpAny_pure (wpAny_pure ⟨_,rfl,wpAny_pure h⟩))
end
section
variable {X:Cx}
def rSlA (K:PySem.W.Frag):V->Option Int->Option Int->Hp->VK->Prop:=fun x lo hi H Q=>∃ a xs,x=.ref a/\SqT K H a xs /\
  ((HT.sIx xs.length 0 lo=0/\HT.sIx xs.length xs.length hi=xs.length)->Q (.ref a) H) /\
  (¬ (HT.sIx xs.length 0 lo=0/\HT.sIx xs.length xs.length hi=xs.length)->∀ p,H p=none->Q (.ref p) (upd H p (.tup (cutV xs lo hi))))
theorem sl_any:SlR X (rSlA X.K):=by
  intro pins s σ H x v vl vu lo hi sl Q I rx hs pl pu h
  obtain ⟨a,xs,rfl,hx,q1,q2⟩:=h
  by_cases hw:HT.sIx xs.length 0 lo=0/\HT.sIx xs.length xs.length hi=xs.length
  · cases rx
    obtain ⟨its,r,ht,hz⟩:=I.tuple hx
    have hlen:its.toArray.size=xs.length:=by rw [List.size_toArray];exact r.length.symm
    exact ⟨"tuple",_,PyProof.Rows.slot_tuple_getitem.lookup,ht.typeIs,getItem_whole ht hs pl pu (by rw [hlen];exact hw) ⟨.ref a,H,I,rfl,q1 hw⟩⟩
  · exact sl_tup pins s σ H _ v vl vu lo hi sl Q I rx hs pl pu ⟨a,xs,rfl,hx,hw,q2 hw⟩
theorem noR_tuple:typeLookup (.type "tuple") (dunderR "mul")=pure (some (.builtin "tuple.__rmul__")):=by rw [typeLookup_type,builtinLookup_eq_fast];kernel_rfl
theorem noFill_tuple_mul:fillsNumberSlot (.type "tuple") "mul"=pure false :=
  PySem.fillsNumberSlot_seq (id:="tuple.__mul__") (r:=some (.builtin "tuple.__rmul__")) F.slot_tuple_mul.lookup (by decide +kernel) noR_tuple (by decide +kernel)
theorem repeat_tuple:seqRepeat? (.type "tuple")=pure (some (.builtin "tuple.__mul__")):=by
  unfold seqRepeat?
  rw [PySem.seqSlot_of (T:="tuple") (name:="__mul__") (id:="tuple.__mul__") F.slot_tuple_mul.lookup (by decide +kernel),PySem.seqSlot_of (T:="tuple") (name:="__rmul__") (id:="tuple.__rmul__") noR_tuple (by decide +kernel)]
  rfl
theorem rmul_tuple (a:Int) (t:Tok) (l:Addr) (items:Array Value) (n:Nat) (dd:Option Addr) (sl:Array (Option Value)) :
    Meets (Builtin.«int.__rmul__» ⟨[.int a t,.ref l],[]⟩) (fun _ R s=>s.heap.get? l=some { cls:=.type "tuple",dict:=dd,data:=.seq items n,slots:=sl }/\R (.ok (.ret Value.notImplemented)) s) :=
  .of_wp fun prog w A R s h=>by obtain ⟨hp,g,d,tk,os⟩:=s;obtain ⟨hl,h⟩:=h;wp_walk;exact ⟨_,rfl,h⟩
theorem mul_tuple1 (l:Addr) (items:Array Value) (n:Nat) (dd:Option Addr) (sl:Array (Option Value)) (t:Tok) :
    Meets (Builtin.«tuple.__mul__» ⟨[.ref l,.int 1 t],[]⟩) (fun _ R s=>s.heap.get? l=some { cls:=.type "tuple",dict:=dd,data:=.seq items n,slots:=sl }/\R (.ok (.ret (.ref l))) s) :=
  .of_wp fun prog w A R s h=>by
    obtain ⟨hp,g,d,tk,os⟩:=s;obtain ⟨hl,h⟩:=h
    wp_walk
    exact ⟨_,rfl,h⟩
theorem mul_tupleN (l:Addr) (v:Value) (n:Nat) (dd:Option Addr) (sl:Array (Option Value)) (k:Int) (t:Tok) (hk:k=2 ∨ k=3 ∨ k=4) :
    Meets (Builtin.«tuple.__mul__» ⟨[.ref l,.int k t],[]⟩) (fun _ R s=>s.heap.get? l=some { cls:=.type "tuple",dict:=dd,data:=.seq #[v] n,slots:=sl } /\
      R (.ok (.ret (.ref s.heap.objs.size))) { s with heap:=s.heap.push { cls:=.type "tuple",data:=.seq (List.replicate k.toNat v).toArray } }) :=
  .of_wp fun prog w A R s h=>by
    obtain ⟨hp,g,d,tk,os⟩:=s;obtain ⟨hl,h⟩:=h
    rcases hk with rfl | rfl | rfl
    · wp_walk
      exact ⟨_,rfl,h⟩
    · wp_walk
      exact ⟨_,rfl,h⟩
    · wp_walk
      exact ⟨_,rfl,h⟩
def rRep1 (K:PySem.W.Frag):R2:=fun x y H Q=>∃ a v k,x=.ref a/\y=.int k/\SqT K H a [v]/\1 <= k/\k <= 4/\(k=1->Q (.ref a) H)/\(k ≠ 1->∀ p,H p=none->Q (.ref p) (upd H p (.tup (List.replicate k.toNat v))))
theorem vals_rep {v:V} {u:Value} (r:RelV v u):∀ n:Nat,Vals (List.replicate n v) (List.replicate n u)
  | 0=>.nil
  | n + 1=>.cons r (vals_rep r n)
theorem op_rep1:OpR X (binaryOp .Mult) (rRep1 X.K):=by
  intro pins s σ H x y w' u Q I rx ry h
  obtain ⟨a,v,k,rfl,rfl,ha,h1,h4,q1,q2⟩:=h
  cases rx
  obtain ⟨t,rfl⟩:=ry
  obtain ⟨its,r,p1,_⟩:=I.tuple ha
  cases r with
  | cons r1 rr =>
    cases rr
    obtain ⟨⟨cls,dd,data,sl⟩,ho,hc,n,hd⟩:=id p1
    simp only at hc hd
    subst hc hd
    refine wpAny_binaryOp_repeat_ref (T:="tuple") (U:="int") (by decide) ⟨_,ho,rfl⟩ (fun s'=>typeIs_int s' k t) noFill_tuple_mul F.fills_int_mul F.slot_int_rmul repeat_tuple F.slot_int_index.lookup
      (call_meets F.slot_int_rmul (typeIs_int s k t) F.entry_int_rmul (F.args_int_rmul_2 _ _) (rmul_tuple k t a _ n dd sl) ⟨ho,rfl,⟨_,ho,rfl⟩,?_⟩)
    by_cases hk:k=1
    · subst hk
      exact call_meets F.slot_tuple_mul ⟨_,ho,rfl⟩ F.entry_tuple_mul (F.args_tuple_mul_2 _ _) (mul_tuple1 a _ n dd sl t) ⟨ho,⟨.ref a,H,I,rfl,q1 rfl⟩⟩
    · refine call_meets F.slot_tuple_mul ⟨_,ho,rfl⟩ F.entry_tuple_mul (F.args_tuple_mul_2 _ _) (mul_tupleN a _ n dd sl k t (by omega)) ⟨ho,?_⟩
      refine ⟨.ref s.heap.objs.size,_,I.laid (t':=s.toks) (o:=.tup (List.replicate k.toNat v)) (fun b ob q=>Heap.get?_push_of_some _ q) (Nat.le_refl _) ?_,rfl,q2 hk _ (I.hok.fresh (Nat.le_refl _))⟩
      exact ⟨by rw [List.length_replicate];exact Nat.le_trans (show k.toNat <= 1000 by omega) (Nat.le_of_lt (small1000 (Nat.le_refl _))),_,vals_rep r1 _,IsTup.new _ _⟩
end
end L2
namespace L2
open PySem PySem.Spec PyProof.Rows
structure Cal (P:Program) (w:World) (K:PySem.W.Frag) (mg:Str->Option Value) (base:Heap) (k:Nat) (x:Str) (ps:List Str) (sp:Sp):Prop where
  ex:∃ f fd,mg x=some (.ref f)/\PySem.W.keepIn K (.ref f)=true/\Binds K fd ps []/\FnOk P w K mg base CX0 k f fd ps sp
theorem Cal.up {P:Program} {w:World} {K:PySem.W.Frag} {mg:Str->Option Value} {base:Heap} {j k:Nat} {x:Str} {ps:List Str} {sp:Sp} (C:Cal P w K mg base j x ps sp) (h:j <= k):Cal P w K mg base k x ps sp :=
  let ⟨f,fd,a,b,c,d⟩:=C.ex;⟨f,fd,a,b,c,d.mono h⟩
def tCb (sp:Sp) (t:TA):TE:=fun σ H Q=>t σ H fun vs H1=>sp vs H1 Q E0
section
variable {X:Cx} {k:Nat} {x:Str} {ps:List Str} {sp:Sp} {p pos:Pos} {e:Expr} {es:List Expr} {t:TA}
theorem pe_cal (C:Cal X.prog X.w X.K X.mg X.base k x ps sp) (hr:Room k X.A) (hg:Gl X x) (ha:PA X (e :: es) t)
    (hdb:(x == ("__debug__":Str))=false:=by decide) (he:starEach (e :: es) X.env=(false,eval e X.env) :: starEach es X.env:=by rfl) (hpl:(backTo pos (starEach es X.env)).any (·.1)=false:=by rfl) :
    PE X (.Call (.Name x p) (e :: es) [] pos) (tCb sp t):=by
  obtain ⟨f,fd,hm,hk,hb,F⟩:=C.ex
  have h:=pe_call (x:=x) (p:=p) (pos:=pos) F hr hg hm hk hb .nil pass0 ha hdb he hpl
  have e:tCall sp [] E0 t=tCb sp t:=by
    funext σ H Q
    show t σ H (fun vs H1=>sp (vs ++ []) H1 Q E0)=t σ H (fun vs H1=>sp vs H1 Q E0)
    congr 1
    funext vs H1
    rw [List.append_nil]
  rw [<- e];exact h
end
section
variable {K:PySem.W.Frag} {σ0:St} {te:TE} {H:Hp} {F:List V->Hp->Prop}
theorem blk_range {lo:Int} {n:Nat} (hn:n <= sizeLine) (Pv:Nat->List V->Hp->Prop) (h0:Pv 0 [] H) (hl:∀ i ys H,Pv i ys H->ys.length=i) (hσ:σ0[0]?=some none)
    (hs:∀ i ys H,i < n->Pv i ys H->te (σ0.set 0 (some (.int (lo + i)))) H fun y H'=>Pv (i + 1) (ys ++ [y]) H') (hd:∀ ys H,Pv n ys H->F ys H):Blk (Itr lo n) σ0 (gName 0) tTrue te H F:=by
  refine ⟨fun i m ys H=>m=n - i/\i <= n/\Pv i ys H,⟨n,by simp,Nat.zero_le _,h0⟩,?_⟩
  rintro i m ys H2 ⟨rfl,hi,p⟩
  refine ⟨by rw [hl i ys H2 p];omega,?_⟩
  by_cases hlt:i < n
  · refine .inr ⟨hlt,fun y H'=>Pv (i + 1) (ys ++ [y]) H',fun _=>False,fun y H' q=>⟨n - (i + 1),by omega,rfl,hlt,q⟩,fun _ q=>q.elim,fun x H3 y=>?_⟩
    obtain ⟨rfl,rfl⟩:=y
    exact ⟨Wk.set (.inl hσ),hs i ys _ hlt p⟩
  · have e:i=n:=by omega
    subst e
    exact .inl ⟨Nat.le_refl _,hd ys H2 p⟩
theorem blk_tup {a:Addr} {xs:List V} (hn:xs.length <= sizeLine) (Pv:Nat->List V->Hp->Prop) (h0:Pv 0 [] H) (hl:∀ i ys H,Pv i ys H->ys.length=i) (hq:∀ i ys H,i <= xs.length->Pv i ys H->SqT K H a xs) (hσ:σ0[0]?=some none)
    (hs:∀ i ys H x,xs[i]?=some x->Pv i ys H->te (σ0.set 0 (some x)) H fun y H'=>Pv (i + 1) (ys ++ [y]) H') (hd:∀ ys H,Pv xs.length ys H->F ys H):Blk (Itt K a) σ0 (gName 0) tTrue te H F:=by
  refine ⟨fun i m ys H=>m=xs.length - i/\i <= xs.length/\Pv i ys H,⟨xs.length,by simp,Nat.zero_le _,h0⟩,?_⟩
  rintro i m ys H2 ⟨rfl,hi,p⟩
  have q:=hq i ys H2 hi p
  refine ⟨by rw [hl i ys H2 p];omega,?_⟩
  by_cases hlt:i < xs.length
  · refine .inr ⟨⟨xs,xs[i],q,by simp [hlt]⟩,fun y H'=>Pv (i + 1) (ys ++ [y]) H',fun _=>False,fun y H' q=>⟨xs.length - (i + 1),by omega,rfl,hlt,q⟩,fun _ q=>q.elim,fun x H3 y=>?_⟩
    obtain ⟨rfl,y⟩:=y
    exact ⟨Wk.set (.inl hσ),hs i ys _ x (y xs q) p⟩
  · have e:i=xs.length:=by omega
    subst e
    exact .inl ⟨⟨xs,q,Nat.le_refl _⟩,hd ys H2 p⟩
theorem blk_zip {a b:Addr} {xs ys:List V} (hn:xs.length <= sizeLine) (hxy:xs.length=ys.length) (Pv:Nat->List V->Hp->Prop) (h0:Pv 0 [] H) (hl:∀ i zs H,Pv i zs H->zs.length=i)
    (hq:∀ i zs H,i <= xs.length->Pv i zs H->SqT K H a xs/\SqT K H b ys) (hσ:σ0[0]?=some none/\σ0[1]?=some none)
    (hs:∀ i zs H x y p,xs[i]?=some x->ys[i]?=some y->H p=none->Pv i zs H->te ((σ0.set 0 (some x)).set 1 (some y)) (upd H p (.tup [x,y])) fun z H'=>Pv (i + 1) (zs ++ [z]) H') (hd:∀ zs H,Pv xs.length zs H->F zs H) :
    Blk (Itz K a b) σ0 (gTup K 2 (gCons (gName 0) (gCons (gName 1) gNil))) tTrue te H F:=by
  refine ⟨fun i m zs H=>m=xs.length - i/\i <= xs.length/\Pv i zs H,⟨xs.length,by simp,Nat.zero_le _,h0⟩,?_⟩
  rintro i m zs H2 ⟨rfl,hi,p⟩
  obtain ⟨q1,q2⟩:=hq i zs H2 hi p
  refine ⟨by rw [hl i zs H2 p];omega,?_⟩
  by_cases hlt:i < xs.length
  · refine .inr ⟨⟨xs,ys,xs[i],ys[i]'(by omega),q1,q2,by simp [hlt],by rw [List.getElem?_eq_getElem (by omega)]⟩,fun y H'=>Pv (i + 1) (zs ++ [y]) H',fun _=>False,fun y H' q=>⟨xs.length - (i + 1),by omega,rfl,hlt,q⟩,fun _ q=>q.elim,fun v H3 yld=>?_⟩
    obtain ⟨r,x,y,hr,rfl,rfl,hx,hy⟩:=yld
    refine ⟨r,[x,y],rfl,.of upd_same,rfl,x,[y],rfl,y,[],rfl,rfl,?_,?_⟩
    · refine ⟨by simp,fun j u e=>?_⟩
      by_cases h1:j=1
      · subst h1;rw [hσ.2] at e;cases e
      · rw [List.getElem?_set_ne (Ne.symm h1)]
        by_cases h2:j=0
        · subst h2;rw [hσ.1] at e;cases e
        · rw [List.getElem?_set_ne (Ne.symm h2)];exact e
    · exact hs i zs _ x y r (hx xs q1) (hy ys q2) hr p
  · have e:i=xs.length:=by omega
    subst e
    exact .inl ⟨⟨xs,q1,Nat.le_refl _⟩,hd zs H2 p⟩
end
section
variable {X:Cx}
theorem pe_bty {x:Str} {T:String} {pos:Pos} (hg:Gl X x) (hm:X.mg x=none) (hv:bootBuiltins x=some (.type T)) (hn:x ≠ "__name__":=by decide) (hd:(x == ("__debug__":Str))=false:=by decide):PE X (.Name x pos) (tC (.ty T)):=pe_bltn hg hm hv (v:=.ty T) rfl hn hd
theorem pg_c {scope:Scope} {N:List Str} {s:Shared} {H:Hp} {ex:List Addr} {i:Nat} {x:Str} {pos:Pos} (hN:N.Nodup) (hi:N[i]?=some x) (hx:Loc (X.comp scope N s H ex).env.scope x)
    (hf:(X.comp scope N s H ex).fn x=true ∨ (X.comp scope N s H ex).env.scope.names.lookup x=some .local):PG (X.comp scope N s H ex) (.Name x pos) (gName i):=pg_name hN hi hx hf
end
theorem sz {n:Nat} (h:n <= 1000):n <= sizeLine:=Nat.le_of_lt (small1000 h)
end L2
namespace L2
open PySem PySem.Spec PyProof.Rows
section
variable {X:Cx} {K:PySem.W.Frag}
theorem lenK (h:X.K=K):CallR X (.builtin "len") (fun xs H Q=>∃ p ys,xs=[.ref p]/\(SqL K H p ys ∨ SqT K H p ys)/\Q (.int ys.length) H):=by subst h;exact call_len_seq
theorem sumK (h:X.K=K) (hc:X.calm=true):CallR X (.builtin "sum") (fun xs H Q=>∃ (p:Addr) (ns:List Int),xs=[.ref p]/\(SqL K H p (ns.map V.int) ∨ SqT K H p (ns.map V.int))/\Q (.int ns.sum) H):=by subst h;exact call_sum_seq hc
theorem tupK (h:X.K=K):CallR X (.type "tuple") (fun xs H Q=>∃ p ys,xs=[.ref p]/\((SqL K H p ys/\∀ l,H l=none->Q (.ref l) (upd H l (.tup ys))) ∨ (SqT K H p ys/\Q (.ref p) H))):=by subst h;exact call_tuple_of
theorem ixK (h:X.K=K):IxR X (rIxT K):=by subst h;exact ix_tup
theorem pgtK (h:X.K=K) {es:List Expr} {k:Nat} {t:TGs} {n:Nat} {pos:Pos} (hc:X.calm=true) (hp:PGs X es t)
    (hn:(assignEach es X.env).length=n:=by rfl) (hst:(assignEach es X.env).findIdx? (·.1)=none:=by rfl):PG X (.Tuple es k pos) (gTup K n t):=by subst h;exact pg_tup hc hp hn hst
end
end L2
namespace L2
open PySem PySem.Spec PyProof.Rows
def Hd (h:Heap) (a C:Addr):Option Addr->Prop
  | none=>∃ oe vs,h.get? a=some oe/\oe.cls=.ref C/\oe.dict=none/\oe.data=.fields vs/\vs[1]?=some .none
  | some T=>∃ oe vs oT ts,h.get? a=some oe/\oe.cls=.ref C/\oe.dict=none/\oe.data=.fields vs/\vs[1]?=some (.ref T)/\T ≠ a/\h.get? T=some oT/\oT.data=.fields ts/\ts[3]?=some .none
theorem dict_mapFields (f:Array Value->Array Value) (o:Obj):(Obj.mapFields f o).dict=o.dict:=by
  obtain ⟨c,d,dt,sl⟩:=o
  cases dt <;> rfl
theorem entry_x {M:Model} {A:Around} {E:Value->Shared->Prop} {s:Shared} {bs:Heap} {ev:Env} {out:List Env} {L a C:Addr} {ob:Obj} {us:Array Value} {hdv:Value} {hn:Bool} {Q:Unit->Shared->Prop}
    (fr:A.frames=some (ev :: out)) (ff:s.heap.FunFrames bs (ev :: out)) (fl:ev.frame=some L) (ga:s.heap.get? a=some ob) (gc:ob.cls=.ref C) (gd:ob.dict=none) (gf:ob.data=.fields us) (sz:1 < us.size)
    (k:∀ h' T,Hd h' a C (some T)->s.heap.objs.size <= T->(∀ b o,b ≠ a->b ∉ frs (ev :: out)->s.heap.get? b=some o->h'.get? b=some o) ->
      (∀ b o,b ≠ a->s.heap.get? b=some o->∃ sl,h'.get? b=some { o with slots:=sl })->Q () { s with heap:=h' }) :
    wpAny M A (do let x <- frameOf ev;let pl <- entryPlaceOf L hn;let b <- EntryCells.newEntry hdv x .none (rawInt L) .none pl;setField (.ref a) 1 b) (fun _ s'=>wpAny M A (setFlight (.ref a) none) Q E s') E s:=by
  have na:a ∉ (ev :: out).filterMap (·.frame):=fun hm=>by
    obtain ⟨_,o,ho,hnf⟩:=ff.mem hm
    rw [ga] at ho
    cases ho
    exact hnf us gf
  refine wpAny_bind (wpAny_frameOf_fun fr ff fl fun g1 hs=>?_)
  refine wpAny_bind (wpAny_entryPlaceOf fun pl hpl=>?_)
  unfold EntryCells.newEntry newFields
  refine wpAny_bind (wpAny_newObj_type ?_ (hpl.sizeOk5 _ _ _ _ _))
  have ga1:g1.get? a=some ob:=(hs.2.1 a na).trans ga
  generalize hnew:({ cls:=.type "traceback",dict:=none,data:=.fields ([hdv,.ref L,.none,rawInt L,.none] ++ (if pl.isEmpty then List.replicate 6 Value.none else pl)).toArray }:Obj)=ot
  have ga2:(g1.push ot).get? a=some ob:=Heap.get?_push_of_some (h:=g1) ot ga1
  have gt2:(g1.push ot).get? g1.objs.size=some ot:=Heap.get?_push_size g1 (by rw [<- hnew];rfl)
  have otd:∃ ts,ot.data=.fields ts/\3 < ts.size:=by
    refine ⟨_,by rw [<- hnew],?_⟩
    simp only [List.size_toArray,List.length_append,List.length_cons,List.length_nil]
    omega
  obtain ⟨ts,otd,tsz⟩:=otd
  refine wpAny_setField ga2 gf sz ?_
  have neT:g1.objs.size ≠ a:=Nat.ne_of_gt (Heap.lt_size ga1)
  have d3:=Obj.data_mapFields gf (·.setIfInBounds 1 (Value.ref g1.objs.size))
  have ga3:=Heap.get?_update_self (Obj.mapFields (·.setIfInBounds 1 (Value.ref g1.objs.size))) ga2 (Obj.isFreed_of_fields d3)
  have gt3:((g1.push ot).update a (Obj.mapFields (·.setIfInBounds 1 (Value.ref g1.objs.size)))).get? g1.objs.size=some ot :=
    (Heap.get?_update_other (g1.push ot) (Obj.mapFields (·.setIfInBounds 1 (Value.ref g1.objs.size))) (Ne.symm neT)).trans gt2
  unfold setFlight
  refine wpAny_bind (wpAny_field ga3 d3 (x:=.ref g1.objs.size) (by simp [sz]) ?_)
  rw [if_pos (show (Value.ref g1.objs.size != Value.none)=true from by simp)]
  refine wpAny_setField gt3 otd tsz ?_
  have kp:∀ b o,b ≠ a->g1.get? b=some o ->
      (((g1.push ot).update a (Obj.mapFields (·.setIfInBounds 1 (Value.ref g1.objs.size)))).update g1.objs.size (Obj.mapFields (·.setIfInBounds 3 ((none:Option Addr).elim Value.none fun f=>rawInt f)))).get? b=some o:=by
    intro b o hb e
    have hbT:g1.objs.size ≠ b:=Nat.ne_of_gt (Heap.lt_size e)
    rw [Heap.get?_update_other _ _ hbT,Heap.get?_update_other _ _ (Ne.symm hb)]
    exact Heap.get?_push_of_some _ e
  refine k _ g1.objs.size ⟨_,_,_,_,(Heap.get?_update_other _ _ neT).trans ga3,?_,?_,d3,by simp [sz],neT,Heap.get?_update_self _ gt3 (Obj.isFreed_of_fields (Obj.data_mapFields otd _)),Obj.data_mapFields otd _,?_⟩ (by rw [hs.1];exact Nat.le_refl _) (fun b o hb hf e=>?_) (fun b o hb e=>?_)
  · rw [Obj.cls_mapFields]
    exact gc
  · rw [dict_mapFields]
    exact gd
  · rw [Array.getElem?_setIfInBounds_self_of_lt tsz]
    rfl
  · exact kp b o hb ((hs.2.1 b hf).trans e)
  · obtain ⟨sl,e1⟩:=hs.2.2 b o e
    exact ⟨sl,kp b _ hb e1⟩
theorem note_x {M:Model} {A:Around} {E:Value->Shared->Prop} {s:Shared} {bs:Heap} {ev:Env} {out:List Env} {L a C:Addr} {hd:Option Addr} {Q:Unit->Shared->Prop}
    (fr:A.frames=some (ev :: out)) (ff:s.heap.FunFrames bs (ev :: out)) (fl:ev.frame=some L) (x:Hd s.heap a C hd)
    (k:∀ h' T,Hd h' a C (some T)->s.heap.objs.size <= T->(∀ b o,b ≠ a->hd ≠ some b->b ∉ frs (ev :: out)->s.heap.get? b=some o->h'.get? b=some o) ->
      (∀ b o,b ≠ a->hd ≠ some b->s.heap.get? b=some o->∃ sl,h'.get? b=some { o with slots:=sl })->Q () { s with heap:=h' }) :
    wpAny M A (noteFrame (.ref a) ev) (fun _ s'=>wpAny M A (setFlight (.ref a) none) Q E s') E s:=by
  unfold noteFrame
  simp only [fl]
  cases hd with
  | none =>
    obtain ⟨oe,vs,e1,e2,e3,e4,e5⟩:=x
    refine wpAny_bind (wpAny_field e1 e4 e5 ?_)
    rw [if_neg (by decide)]
    exact entry_x fr ff fl e1 e2 e3 e4 (Array.getElem?_eq_some_iff.mp e5).1 fun h' T q1 q2 q3 q4=>k h' T q1 q2 (fun b o hb _=>q3 b o hb) (fun b o hb _=>q4 b o hb)
  | some T0 =>
    obtain ⟨oe,vs,oT,ts,e1,e2,e3,e4,e5,ne,t1,t2,t3⟩:=x
    refine wpAny_bind (wpAny_field e1 e4 e5 ?_)
    rw [if_pos (show (Value.ref T0 != Value.none)=true from by simp)]
    refine wpAny_bind (wpAny_field t1 t2 t3 ?_)
    rw [if_neg (show ¬ ((Value.none == rawInt L)=true) from by simp [rawInt])]
    refine wpAny_bind (wpAny_setField t1 t2 (Array.getElem?_eq_some_iff.mp t3).1 ?_)
    have ot:∀ b,b ≠ T0->(s.heap.update T0 (Obj.mapFields (·.setIfInBounds 3 Value.none))).get? b=s.heap.get? b:=fun b hb=>Heap.get?_update_other _ _ (Ne.symm hb)
    have nr:∀ b o,s.heap.get? b=some o->(∀ vs,o.data ≠ .fields vs)->b ≠ T0:=fun b o hb hnf q=>by
      rw [q,t1] at hb
      cases hb
      exact hnf ts t2
    refine entry_x fr (ff.of_keeps fun b o hb hnf=>⟨o,(ot b (nr b o hb hnf)).trans hb,rfl⟩) fl ((ot a (Ne.symm ne)).trans e1) e2 e3 e4 (Array.getElem?_eq_some_iff.mp e5).1 fun h' T q1 q2 q3 q4=>?_
    have q2':s.heap.objs.size <= T:=by
      have z:=Heap.size_after_update s.heap T0 (Obj.mapFields (·.setIfInBounds 3 Value.none))
      rw [<- z];exact q2
    exact k h' T q1 q2' (fun b o hb hx hf e=>q3 b o hb hf ((ot b fun z=>hx (by rw [z])).trans e)) (fun b o hb hx e=>q4 b o hb ((ot b fun z=>hx (by rw [z])).trans e))
theorem leave_x {M:Model} {A:Around} {E:Value->Shared->Prop} {s:Shared} {bs:Heap} {ev:Env} {out:List Env} {L a C:Addr} {hd:Option Addr} {Q:Unit->Shared->Prop}
    (fr:A.frames=some (ev :: out)) (ff:s.heap.FunFrames bs (ev :: out)) (fl:ev.frame=some L) (x:Hd s.heap a C hd)
    (k:∀ h' T,Hd h' a C (some T)->s.heap.objs.size <= T->(∀ b o,b ≠ a->hd ≠ some b->b ∉ frs (ev :: out)->s.heap.get? b=some o->h'.get? b=some o) ->
      (∀ b o,b ≠ a->hd ≠ some b->s.heap.get? b=some o->∃ sl,h'.get? b=some { o with slots:=sl })->Q () { s with heap:=h' }) :
    wpAny M A (leaving ev (.ref a)) Q E s:=by
  unfold leaving
  exact wpAny_bind (note_x fr ff fl x k)
end L2
namespace L2
open PySem PySem.Spec PyProof.Rows
theorem ObjOk.there {P:Program} {w:World} {H:Hp} {h:Heap} {a:Addr} {o:HO} (x:ObjOk P w H h a o):∃ u,h.get? a=some u:=by
  cases o with
  | lst xs=>obtain ⟨_,_,_,_,e⟩:=x;exact ⟨_,e⟩
  | tup xs=>obtain ⟨_,_,_,ob,e,_⟩:=x;exact ⟨_,e⟩
  | dK kvs=>obtain ⟨_,_,_,_,ob,_,_,e,_⟩:=x;exact ⟨_,e⟩
  | dT kvs=>obtain ⟨_,_,_,_,ob,_,_,e,_⟩:=x;exact ⟨_,e⟩
  | set S n=>obtain ⟨ob,_,_,_,e,_⟩:=x;exact ⟨_,e⟩
  | ins C dx fs=>obtain ⟨_,_,_,e,_⟩:=x;exact ⟨_,e⟩
  | own y=>exact x
  | xd fs=>obtain ⟨_,⟨_,_,_,e,_⟩,_⟩:=x;exact ⟨_,e⟩
  | rng lo hi=>obtain ⟨_,_,_,e⟩:=x;exact ⟨_,e⟩
  | frz ob u=>obtain ⟨e,_⟩:=x;exact ⟨_,e⟩
  | tbl ps=>exact ⟨_,(show h.get? a=some _ from x)⟩
  | met f y=>exact ⟨_,(show h.get? a=some _ from x)⟩
  | ext φ=>obtain ⟨_,e,_⟩:=x;exact e
theorem HOk.none_of {P:Program} {w:World} {H:Hp} {h:Heap} {a:Addr} (x:HOk P w H h) (e:h.get? a=none):H a=none:=by
  cases z:H a with
  | none=>rfl
  | some u =>
    obtain ⟨o,eo⟩:=(x a u z).there
    rw [e] at eo
    cases eo
structure Fly (P:Program) (w:World) (fs:List Addr) (H:Hp) (s:Shared) (a C:Addr) (H':Hp) (s':Shared):Prop where
  os:s'.os=s.os
  bare:AllBare s'.gens
  un:Un fs [] H H' s.heap s'.heap
  hok:HOk P w H' s'.heap
  exc:∃ T,Hd s'.heap a C (some T)/\s.heap.get? a=none/\s.heap.get? T=none/\H' a=none/\H' T=none
def CX1 (P:Program) (w:World):CXT:=fun outer H s E e s'=>∃ a C H',e=.ref a/\Fly P w (frs outer) H s a C H' s'/\E (.ref C) none H'
theorem un_x {fs:List Addr} {H:Hp} {h h':Heap} {a:Addr} {hd:Option Addr} (ha:H a=none) (ht:∀ T,hd=some T->H T=none) (hf:∀ b ∈ fs,H b=none)
    (k1:∀ b o,b ≠ a->hd ≠ some b->b ∉ fs->h.get? b=some o->h'.get? b=some o) {P:Program} {w:World} (ok:HOk P w H h):HOk P w H h':=fun b o e=>by
  have nt:∀ c u,H c=some u->c ≠ a/\hd ≠ some c/\c ∉ fs:=fun c u q=>by
    refine ⟨fun z=>?_,fun z=>?_,fun z=>?_⟩
    · rw [z,ha] at q;cases q
    · rw [ht c z] at q;cases q
    · rw [hf c z] at q;cases q
  refine (ok b o e).stay (fun c u hc q=>?_) (fun _ q=>q) fun _ _ q=>q
  rcases hc with z | z
  · subst z
    obtain ⟨n1,n2,n3⟩:=nt _ _ e
    exact k1 _ u n1 n2 n3 q
  · obtain ⟨n1,n2,n3⟩:=nt _ _ z
    exact k1 _ u n1 n2 n3 q
theorem fly_out {X:Cx} {pins:List (Addr × Obj)} {σ:St} {H:Hp} {s:Shared} {a C:Addr} {hd:Option Addr} {M:Model} {Q:Unit->Shared->Prop} {E:Value->Shared->Prop} (I:Inv X pins σ H s) (hs:X.stack=X.env :: X.outer) (hf:X.env.frame=some X.env.locals) (hex:X.ex=[])
    (x:Hd s.heap a C hd) (na:X.s₀.heap.get? a=none) (nT:∀ T,hd=some T->X.s₀.heap.get? T=none) (ha:H a=none) (ht:∀ T,hd=some T->H T=none)
    (q:∀ s',Fly X.prog X.w X.fs X.H₀ X.s₀ a C H s'->Q () s'):wpAny M X.A (leaving X.env (.ref a)) Q E s:=by
  have fr:X.A.frames=some (X.env :: X.outer):=by rw [I.ok.frames,hs]
  have ff:s.heap.FunFrames X.base (X.env :: X.outer):=by rw [<- hs];exact I.stack
  have hfs:frs (X.env :: X.outer)=X.env.locals :: X.fs:=by
    unfold frs
    rw [List.filterMap_cons,hf]
    rfl
  refine leave_x fr ff hf x fun h' T k0 k00 k1 k2=>q _ ?_
  have exN:∀ b,b ∉ X.ex:=fun b z=>by rw [hex] at z;cases z
  have neA:∀ b o,X.s₀.heap.get? b=some o->b ≠ a/\hd ≠ some b/\b ≠ X.env.locals:=fun b o e=>by
    refine ⟨fun z=>?_,fun z=>?_,Nat.ne_of_lt (Nat.lt_of_lt_of_le (Heap.lt_size e) I.ok.above)⟩
    · rw [z,na] at e;cases e
    · rw [nT b z] at e;cases e
  refine ⟨I.os,I.bare,⟨fun b o e n hb _=>?_,fun b o e n hb _=>?_,fun b o e n _=>I.base.free b o e n (exN b),fun b o e _=>?_,I.base.tups,I.base.frzs,I.base.tbls⟩,un_x (fs:=frs (X.env :: X.outer)) ha ht (fun b hb=>I.stkFree b (by rw [hs];exact hb)) k1 I.hok,T,k0,na,?_,ha,I.hok.fresh k00⟩
  · obtain ⟨n1,n2,n3⟩:=neA b o e
    exact k1 b o n1 n2 (by rw [hfs];intro z;rcases List.mem_cons.mp z with z | z;exact n3 z;exact hb z) (I.base.keep b o e n hb (exN b))
  · obtain ⟨n1,n2,n3⟩:=neA b o e
    obtain ⟨sl,e1⟩:=I.base.slot b o e n hb (exN b)
    obtain ⟨sl',e2⟩:=k2 b _ n1 n2 e1
    exact ⟨sl',e2⟩
  · obtain ⟨n1,n2,n3⟩:=neA b o e
    obtain ⟨o',e1⟩:=I.base.there b o e (exN b)
    obtain ⟨sl',e2⟩:=k2 b _ n1 n2 e1
    exact ⟨_,e2⟩
  · exact Heap.get?_none_of_le (Nat.le_trans I.sz k00)
theorem none_back {fs:List Addr} {H H':Hp} {h h':Heap} (u:Un fs [] H H' h h') {b:Addr} (e:h'.get? b=none):h.get? b=none:=by
  cases q:h.get? b with
  | none=>rfl
  | some o =>
    obtain ⟨o',e'⟩:=u.there b o q (by simp)
    rw [e'] at e
    cases e
section
variable {P:Program} {w:World} {K:PySem.W.Frag} {mg:Str->Option Value} {base:Heap} {N:List Str} {qual:Str} {scope:Scope} {f:Addr} {cd:Value} {A:Around} {outer:List Env} {s₀:Shared} {H₀:Hp} {E:XK}
theorem passes1:Passes (CX1 P w) (cxOf (CX1 P w) P w K mg base N qual scope f cd A outer s₀ H₀ E) E:=by
  intro pins σ H s e s' I h
  obtain ⟨a,C,H',rfl,F,hE⟩:=h
  obtain ⟨T,x,n1,n2,n3,n4⟩:=F.exc
  have I':=I.call' (ch:=[]) F.os F.un F.hok F.bare (fun b z=>absurd z (by simp))
  exact fly_out I' rfl rfl rfl x (none_back I.base n1) (fun T' z=>by cases z;exact none_back I.base n2) n3 (fun T' z=>by cases z;exact n4) fun s'' F'=>⟨a,C,H',rfl,F',hE⟩
def vE:List Value:=[.type "ValueError",.type "Exception",.type "BaseException",.type "object"]
def XC (K:PySem.W.Frag) (C:Addr):Prop:=PySem.W.excIn K C vE "ValueError.__new__"=true
theorem exc_obj {K:PySem.W.Frag} {h:Heap} {C:Addr} (X:K.In h) (q:XC K C) :
    ∃ bm N nm q bs hdct sn sub ab col dd k0 k1 k2 k3 k5 mN,h.get? C=some (excClassObj nm q C N bs bm hdct sn sub ab col dd k0 k1 k2 k3 k5 "ValueError.__new__")/\h.Ns N mN/\mN "__init__"=none/\OwnTail h vE bm:=by
  unfold XC PySem.W.excIn at q
  split at q
  case h_2=>cases q
  case h_1 dd cd sl ho =>
    split at q
    case h_2=>cases q
    case h_1 C' bm k0 k1 k2 k3 n k5 hm hs =>
      simp only [Bool.and_eq_true,beq_iff_eq,Bool.not_eq_true'] at q
      obtain ⟨⟨⟨⟨⟨z1,z2⟩,hdel⟩,ht⟩,hok⟩,hni⟩:=q
      subst z1
      subst z2
      obtain ⟨nm,bs,mro,ns,qn,hd,sn,sub,ab,col,del⟩:=cd
      dsimp only at hm hdel hok hni
      subst hm hdel
      have hsl:sl=#[k0,k1,k2,k3,some (.builtin "ValueError.__new__"),k5]:=by
        obtain ⟨l⟩:=sl
        simp only at hs
        rw [hs]
      subst hsl
      exact ⟨bm,ns,nm,qn,bs,hd,sn,sub,ab,col,dd,k0,k1,k2,k3,k5,_,X _ _ ho,.of_isNs (PySem.W.isNs_of_in X hok),PySem.W.nsMap_none_of_in X hok hni,PySem.W.tail_of_in X ht⟩
def tRaise (C:Addr) (E:XK) (t:TA):TS:=fun _ σ H=>t σ H fun _ H1=>E (.ref C) none H1
theorem ps_raise {x:Str} {C:Addr} {e:Expr} {es:List Expr} {t:TA} {np cpos pos:Pos} (hg:Gl (cxOf (CX1 P w) P w K mg base N qual scope f cd A outer s₀ H₀ E) x) (hm:mg x=some (.ref C)) (hc:XC K C)
    (ha:PA (cxOf (CX1 P w) P w K mg base N qual scope f cd A outer s₀ H₀ E) (e :: es) t) (hl:(e :: es).length <= 1:=by decide)
    (hdb:(x == ("__debug__":Str))=false:=by decide)
    (he:starEach (e :: es) (envOfC qual scope s₀.heap.objs.size f cd)=(false,eval e (envOfC qual scope s₀.heap.objs.size f cd)) :: starEach es (envOfC qual scope s₀.heap.objs.size f cd):=by rfl)
    (hpl:(backTo cpos (starEach es (envOfC qual scope s₀.heap.objs.size f cd))).any (·.1)=false:=by rfl)
    (hvl:∀ σ H Q,t σ H Q->t σ H fun vs H1=>vs.length <= sizeLine/\Q vs H1) :
    PS (cxOf (CX1 P w) P w K mg base N qual scope f cd A outer s₀ H₀ E) (.Raise (some (.Call (.Name x np) (e :: es) [] cpos)) none pos) (tRaise C E t):=by
  intro pins s σ H D I h
  obtain ⟨bm,NN,nm,q,bs,hdct,sn,sub,ab,col,dd,k0,k1,k2,k3,k5,mN,hC,hN,hni,T⟩:=exc_obj I.ok.mod.kin hc
  have FB:=PySem.F.excBase_ValueError
  refine wpAny_Raise_call_subT (C:=C) (nm:=nm) (q:=q) (N:=NN) (bs:=bs) (bm:=bm) (hdct:=hdct) (sn:=sn) (sub:=sub) (ab:=ab) (col:=col) (dd:=dd) (k0:=k0) (k1:=k1) (k2:=k2) (k3:=k3) (k5:=k5)
    FB (mN:=mN) (T.hasType FB.hasBase) (I.ok.hd rfl) ?_ hni (ld_glob I hg hm ⟨rfl,?_⟩ hdb)
  · show (backTo cpos (starEach (e :: es) (envOfC qual scope s₀.heap.objs.size f cd))).any (·.1)=false
    rw [he]
    show (false || (backTo cpos (starEach es (envOfC qual scope s₀.heap.objs.size f cd))).any (·.1))=false
    rw [hpl]
    rfl
  · have hq:=ha cpos pins s σ H _ I (hvl _ _ _ h)
    show wpAny _ _ (evalArgs (.ref C) true (backTo cpos (starEach (e :: es) (envOfC qual scope s₀.heap.objs.size f cd))) []) _ _ s
    have hq':wpAny (model P w) (A.deeper (envOfC qual scope s₀.heap.objs.size f cd)) (spliced (backTo cpos (starEach (e :: es) (envOfC qual scope s₀.heap.objs.size f cd)))) _ _ s:=hq
    rw [he] at hq' ⊢
    refine Calls.evalArgs_plain (wpAny_mono hq' (fun us s2 ⟨vs,H2,I2,r,lv,hE⟩=>⟨rfl,?_,I2.bk _ _ hC,hN.keeps I2.bk,T.keeps I2.bk,fun h' a mk=>?_⟩) fun _ _ y=>y)
    · show us.length <= sizeLine
      rw [<- r.length]
      exact lv
    · obtain ⟨t,ea,tn,et⟩:=mk.there
      have ha:H2 a=none:=I2.hok.none_of mk.new
      have I3:Inv (cxOf (CX1 P w) P w K mg base N qual scope f cd A outer s₀ H₀ E) pins σ H2 { s2 with heap:=h' }:=I2.kept mk.keeps
      exact fly_out (hd:=none) I3 rfl rfl rfl ⟨_,_,ea,rfl,rfl,rfl,rfl⟩ (none_back I2.base mk.new) (fun T' z=>by cases z) ha (fun T' z=>by cases z) fun s'' F'=>⟨a,C,H2,rfl,F',hE⟩
end
end L2
namespace L2
open PySem PySem.Spec PyProof.Rows
abbrev KN (o:Obj):HO:=.frz o (.ext fun _=>True)
section
variable {P:Program} {w:World} {fs:List Addr} {H H':Hp} {s s':Shared} {a C:Addr} {M:Model} {A:Around} {E:Value->Shared->Prop} {Q:Unit->Shared->Prop}
end
end L2
namespace L2
open PySem PySem.Spec PyProof.Rows
end L2
namespace L2
open PySem PySem.Spec PyProof.Rows
structure XI (K:PySem.W.Frag) (C:Addr):Prop where
  ga:PySem.W.findIn K (.ref C) "__getattribute__"=some (some (.builtin "BaseException.__getattribute__"))
  gt:PySem.W.findIn K (.ref C) "__getattr__"=some none
  sb:PySem.W.subIn K (.ref C) (.type "BaseException")=some true
  hc:(PySem.W.clsIn K C).isSome=true
  ha:PySem.W.findIn K (.ref C) "__class__"=some (some (.builtin "object.__class__"))
  hn:PySem.W.specialIn K (.builtin "object.__class__") "__get__"=some (some (.builtin "getset_descriptor.__get__"))
  tk:PySem.W.takesIn K (.builtin "object.__class__")=some true
  hm:PySem.W.mroIn K C (.type "object")=some true
end L2
namespace L2
open PySem PySem.Spec PyProof.Rows
def Cel (cl:List (Str × Addr)) (b:Addr):Prop:=∃ x,cl.lookup x=some b
open Classical in
noncomputable def offC (cl:List (Str × Addr)) (H:Hp):Hp:=fun b=>if Cel cl b then none else H b
open Classical in
noncomputable def onC (cl:List (Str × Addr)) (H H':Hp):Hp:=fun b=>if Cel cl b then H b else H' b
def CelK (cl:List (Str × Addr)) (H:Hp):Prop:=∀ x c,cl.lookup x=some c->∃ oc v,H c=some (KN oc)/\oc.data=.cell v
section
variable {P:Program} {w:World} {fs:List Addr} {cl:List (Str × Addr)} {H H':Hp} {h h':Heap}
end
structure LamX (X:Cx) (T:Addr):Prop where
  code:∃ c,X.env.code=.ref c/\PySem.W.CodeHd X.base c T
  blt:X.base.BuiltinsAt X.mg T
end L2
namespace L2
open PySem PySem.Spec PyProof.Rows
section
variable {P:Program} {w:World} {K:PySem.W.Frag} {mg:Str->Option Value} {base:Heap} {N:List Str} {qual:Str} {scope:Scope} {f:Addr} {cd:Value} {cl:List (Str × Addr)} {A:Around} {outer:List Env} {s₀:Shared} {H₀:Hp} {E:XK}
end
structure LamScope (cl:List (Str × Addr)) (scope:Scope):Prop where
  kind:scope.kind=.function
  co:scope.isCoroutine=false
  gen:scope.isGenerator=false
  nocell:∀ x ∈ scope.names,x.2 ≠ .cell
  inj:∀ x y c,cl.lookup x=some c->cl.lookup y=some c->x=y
  has:∀ x,scope.names.lookup x=some .free->∃ c,cl.lookup x=some c
structure FrzX (X:Cx) (σ:St) (H Hf:Hp):Prop where
  out:∀ b,¬ Cel X.env.cells b->Hf b=H b
  none:∀ b,Cel X.env.cells b->H b=none
  cell:CelK X.env.cells Hf
  val:∀ (i:Nat) (x:Str) (v:V),X.N[i]?=some x->σ[i]?=some (some v)->(X.env.kindOf x=some .cell ∨ X.env.kindOf x=some .free)->∃ c oc u,X.env.cells.lookup x=some c/\Hf c=some (KN oc)/\oc.data=.cell (some u)/\RelV v u
open Classical in
noncomputable def frzAll (cl:List (Str × Addr)) (h:Heap) (H:Hp):Hp:=fun b=>if Cel cl b then (h.get? b).map (fun o=>KN o) else H b
end L2
namespace L2
open PySem PySem.Spec PyProof.Rows
abbrev TJ:=St->Hp->(Hp->Prop)->Prop
def PJ (X:Cx) (es:List Expr) (n:Nat) (t:TJ):Prop :=
  ∀ (acc:Str),acc.length <= n->∀ (pins:List (Addr × Obj)) (s:Shared) (σ:St) (H:Hp) (Q:Hp->Prop),Inv X pins σ H s->t σ H Q ->
    wpAny (model X.prog X.w) X.A (joinParts acc (evalEach es X.env)) (fun u s'=>∃ z H',Inv X pins σ H' s'/\RelV (.str z) u/\Q H') X.xe s
section
variable {X:Cx} {es:List Expr} {n:Nat} {t:TJ}
theorem pj_nil (h:n <= sizeLine:=by decide):PJ X [] n (fun _ H Q=>Q H):=by
  intro acc ha pins s σ H Q I q
  exact joinParts_nil (s:=s) ⟨acc,H,I.tok _,⟨_,rfl⟩,q⟩ (Nat.le_trans ha h)
theorem pj_str {x:Str} {j:Nat} {pos:Pos} (h:PJ X es (n + x.length) t) (hz:n + x.length <= sizeLine:=by decide):PJ X (.Constant (.str x) j pos :: es) n t:=by
  intro acc ha pins s σ H Q I q
  show wpAny _ _ (joinParts acc (eval (.Constant (.str x) j pos) X.env :: evalEach es X.env)) _ _ _
  refine joinParts_cons (Calls.Constant_str ⟨?_,?_⟩)
  · rw [strLen_append];omega
  · exact h (acc ++ x) (by rw [strLen_append];omega) pins _ σ H Q (I.tok _) q
theorem pj_fmt {e:Expr} {te:TE} {pos:Pos} (he:PE X e te) (h:PJ X es (n + 100) t) (hz:n + 100 <= sizeLine:=by decide) :
    PJ X (.FormattedValue e (-1) none pos :: es) n (fun σ H Q=>te σ H fun v H1=>∃ i:Int,v=.int i/\i.natAbs.log2 < 1920/\(toString i:Str).length <= 100/\t σ H1 Q):=by
  intro acc ha pins s σ H Q I q
  show wpAny _ _ (joinParts acc (eval (.FormattedValue e (-1) none pos) X.env :: evalEach es X.env)) _ _ _
  refine joinParts_cons (FormattedValue_plain (thn (he pins s σ H _ I q) fun u s1 ⟨v,H1,I1,r,i,ev,hl,hz',q1⟩=>?_))
  subst ev
  obtain ⟨tk,rfl⟩:=r
  refine formatField_int_small hl ⟨?_,?_⟩
  · rw [strLen_append];omega
  · exact h _ (by rw [strLen_append];omega) pins _ σ H1 Q (I1.tok _) q1
theorem pe_fstr {v1 v2:Expr} {rest:List Expr} {pos:Pos} (h:PJ X (v1 :: v2 :: rest) 0 t):PE X (.JoinedStr (v1 :: v2 :: rest) pos) (fun σ H Q=>t σ H fun H1=>∀ z,Q (.str z) H1):=by
  intro pins s σ H Q I q
  exact JoinedStr_many (thn (h Str.empty (Nat.le_refl _) pins s σ H _ I q) fun u s1 ⟨z,H1,I1,r,q1⟩=>⟨.str z,H1,I1,r,q1 z⟩)
end
theorem pass10 {P:Program} {w:World} {X:Cx}:Passes (CX1 P w) X E0:=fun _ _ _ _ _ _ _ h=>by
  obtain ⟨_,_,_,_,_,z⟩:=h
  exact z.elim
section
variable {P:Program} {w:World} {K:PySem.W.Frag} {mg:Str->Option Value} {base:Heap}
theorem Fun.okX {x qual:Str} {st:Stmt} {f:Addr} {fd:FuncData} {N ps:List Str} {k:Nat} {sp:Sp} (F:Fun K x qual st f fd) (S:FnScope N ps (defScope st)) (len:∀ vs H Q E,sp vs H Q E->vs.length=ps.length)
    (hbody:∀ (cdv:Value) (A:Around) (outer:List Env) (s:Shared) (H:Hp) (vs:List V) (Q:VK) (E:XK),Room k (A.deeper (envOfC qual (defScope st) s.heap.objs.size f cdv))->sp vs H Q E ->
      ∃ t,PSs (cxOf (CX1 P w) P w K mg base N qual (defScope st) f cdv A outer s H E) (defBody st) t/\t { nx:=fun _ H'=>Q .non H',rt:=Q } (start N vs) H):FnOk P w K mg base (CX1 P w) (k + 1) f fd ps sp:=by
  obtain ⟨oc,od,kV,doc,pm,an,cdv,ct,osl,rfl,lk,hcd⟩:=F.ex
  exact fn_of lk hcd S len fun A outer s H vs Q E hr hsp=>hbody cdv A outer s H vs Q E hr hsp
end
section
variable {P:Program} {w:World} {K:PySem.W.Frag} {mg:Str->Option Value} {base:Heap} {N:List Str} {qual:Str} {scope:Scope} {f:Addr} {cd:Value} {A:Around} {outer:List Env} {s₀:Shared} {H₀:Hp} {E:XK}
theorem ps_raise1 {x:Str} {C:Addr} {e:Expr} {te:TE} {np cpos pos:Pos} (hm:mg x=some (.ref C)) (hc:XC K C) (he:PE (cxOf (CX1 P w) P w K mg base N qual scope f cd A outer s₀ H₀ E) e te)
    (hmono:∀ σ H (Q Q':VK),(∀ v H1,Q v H1->Q' v H1)->te σ H Q->te σ H Q')
    (hg:Gl (cxOf (CX1 P w) P w K mg base N qual scope f cd A outer s₀ H₀ E) x:=by rfl)
    (hdb:(x == ("__debug__":Str))=false:=by decide)
    (hst:starEach [e] (envOfC qual scope s₀.heap.objs.size f cd)=(false,eval e (envOfC qual scope s₀.heap.objs.size f cd)) :: starEach [] (envOfC qual scope s₀.heap.objs.size f cd):=by rfl) :
    PS (cxOf (CX1 P w) P w K mg base N qual scope f cd A outer s₀ H₀ E) (.Raise (some (.Call (.Name x np) [e] [] cpos)) none pos) (fun _ σ H=>te σ H fun _ H1=>E (.ref C) none H1):=by
  have h:=ps_raise (E:=E) (pos:=pos) (np:=np) (cpos:=cpos) (t:=tCons te tNil) hg hm hc (pa_cons he pa_nil (hs:=hst)) (Nat.le_refl _) hdb hst rfl (fun σ H Q q=>hmono _ _ _ _ (fun v H1 z=>⟨by show 1 <= sizeLine;decide,z⟩) q)
  exact h
end
end L2
namespace L2
open PySem PySem.Spec PyProof.Rows
end L2
namespace L2
open PySem PySem.Spec PyProof.Rows
structure CalX (P:Program) (w:World) (K:PySem.W.Frag) (mg:Str->Option Value) (base:Heap) (k:Nat) (x:Str) (ps:List Str) (sp:Sp):Prop where
  ex:∃ f fd,mg x=some (.ref f)/\PySem.W.keepIn K (.ref f)=true/\Binds K fd ps []/\FnOk P w K mg base (CX1 P w) k f fd ps sp
theorem CalX.up {P:Program} {w:World} {K:PySem.W.Frag} {mg:Str->Option Value} {base:Heap} {j k:Nat} {x:Str} {ps:List Str} {sp:Sp} (C:CalX P w K mg base j x ps sp) (h:j <= k):CalX P w K mg base k x ps sp :=
  let ⟨f,fd,a,b,c,d⟩:=C.ex;⟨f,fd,a,b,c,d.mono h⟩
def tCx (sp:Sp) (E:XK) (t:TA):TE:=fun σ H Q=>t σ H fun vs H1=>sp vs H1 Q E
section
variable {X:Cx} {k:Nat} {x:Str} {ps:List Str} {sp:Sp} {p pos:Pos} {e:Expr} {es:List Expr} {t:TA} {E:XK}
theorem pe_calx (C:CalX X.prog X.w X.K X.mg X.base k x ps sp) (hr:Room k X.A) (hg:Gl X x) (hx:Passes (CX1 X.prog X.w) X E) (ha:PA X (e :: es) t)
    (hdb:(x == ("__debug__":Str))=false:=by decide) (he:starEach (e :: es) X.env=(false,eval e X.env) :: starEach es X.env:=by rfl) (hpl:(backTo pos (starEach es X.env)).any (·.1)=false:=by rfl) :
    PE X (.Call (.Name x p) (e :: es) [] pos) (tCx sp E t):=by
  obtain ⟨f,fd,hm,hk,hb,F⟩:=C.ex
  have h:=pe_call (x:=x) (p:=p) (pos:=pos) F hr hg hm hk hb .nil hx ha hdb he hpl
  have e:tCall sp [] E t=tCx sp E t:=by
    funext σ H Q
    show t σ H (fun vs H1=>sp (vs ++ []) H1 Q E)=t σ H (fun vs H1=>sp vs H1 Q E)
    congr 1
    funext vs H1
    rw [List.append_nil]
  rw [<- e];exact h
end
structure Errs (K:PySem.W.Frag) (mg:Str->Option Value) (c:Nat->Addr) (B:Addr):Prop where
  e0:mg "NoUrn"=some (.ref (c 0))
  e1:mg "NoRule"=some (.ref (c 1))
  e2:mg "NoKind"=some (.ref (c 2))
  e3:mg "NoBall"=some (.ref (c 3))
  e4:mg "NoDraws"=some (.ref (c 4))
  e5:mg "NoNumber"=some (.ref (c 5))
  e6:mg "NotEven"=some (.ref (c 6))
  e7:mg "NoCounts"=some (.ref (c 7))
  e8:mg "NotAlike"=some (.ref (c 8))
  e9:mg "BadNote"=some (.ref (c 9))
  eb:mg "UrnError"=some (.ref B)
  xc:∀ i,i < 10->XC K (c i)
  xi:∀ i,i < 10->XI K (c i)
  sub:∀ i,i < 10->PySem.W.kitCls K (.ref (c i)) (.ref B)=some true
  bb:PySem.W.subIn K (.ref B) (.type "BaseException")=some true
  one:∀ i j,i < 10->j < 10->PySem.W.kitOne K (.ref (c i)) (.ref (c j))=some (decide (i=j))
  val:∀ i,i < 10->PySem.W.kitOne K (.ref (c i)) (.type "ValueError")=some true
def Sm (i:Int):Prop:=i.natAbs.log2 < 1920/\(toString i:Str).length <= 100
end L2
namespace L2
open PySem PySem.Spec PyProof.Rows
section
variable {X:Cx} {pins:List (Addr × Obj)} {σ:St} {H:Hp} {s:Shared}
def rCatS:R2:=fun x y H Q=>∃ (a b:Addr) (xs ys:List V),x=.ref a/\y=.ref b/\H a=some (.tup xs)/\H b=some (.tup ys)/\xs.length + ys.length <= 1000/\∀ p H',Same H H'->H' p=some (.tup (xs ++ ys))->Q (.ref p) H'
theorem catS:OpR X (binaryOp .Add) rCatS:=by
  intro pins s σ H x y v u Q I rx ry h
  obtain ⟨a,b,xs,ys,rfl,rfl,ha,hb,hz,q⟩:=h
  refine op_catA pins s σ H _ _ v u Q I rx ry ⟨a,b,xs,ys,rfl,rfl,.of ha,.of hb,Nat.le_trans hz (by decide),fun e=>?_,fun _ e=>?_,fun _ _ p hp=>?_⟩
  · subst e
    exact q b H (Same.refl H) hb
  · subst e
    exact q a H (Same.refl H) (by rw [List.append_nil];exact ha)
  · exact q p _ (Same.new hp) upd_same
end
section
variable {K:PySem.W.Frag} {σ0:St} {te:TE} {H:Hp} {F:List V->Hp->Prop}
theorem blk_list {a:Addr} {xs:List V} (hn:xs.length <= sizeLine) (Pv:Nat->List V->Hp->Prop) (h0:Pv 0 [] H) (hl:∀ i ys H,Pv i ys H->ys.length=i) (hq:∀ i ys H,i <= xs.length->Pv i ys H->SqL K H a xs) (hσ:σ0[0]?=some none)
    (hs:∀ i ys H x,xs[i]?=some x->Pv i ys H->te (σ0.set 0 (some x)) H fun y H'=>Pv (i + 1) (ys ++ [y]) H') (hd:∀ ys H,Pv xs.length ys H->F ys H):Blk (Itl K a) σ0 (gName 0) tTrue te H F:=by
  refine ⟨fun i m ys H=>m=xs.length - i/\i <= xs.length/\Pv i ys H,⟨xs.length,by simp,Nat.zero_le _,h0⟩,?_⟩
  rintro i m ys H2 ⟨rfl,hi,p⟩
  have q:=hq i ys H2 hi p
  refine ⟨by rw [hl i ys H2 p];omega,?_⟩
  by_cases hlt:i < xs.length
  · refine .inr ⟨⟨xs,xs[i],q,by simp [hlt]⟩,fun y H'=>Pv (i + 1) (ys ++ [y]) H',fun _=>False,fun y H' q=>⟨xs.length - (i + 1),by omega,rfl,hlt,q⟩,fun _ q=>q.elim,fun x H3 y=>?_⟩
    obtain ⟨rfl,y⟩:=y
    exact ⟨Wk.set (.inl hσ),hs i ys _ x (y xs q) p⟩
  · have e:i=xs.length:=by omega
    subst e
    exact .inl ⟨⟨xs,q,Nat.le_refl _⟩,hd ys H2 p⟩
end
end L2
namespace L2
open PySem PySem.Spec PyProof.Rows
section
variable {X:Cx} {es:List Expr} {te:TE} {t:TA}
end
end L2
namespace L2
open PySem PySem.Spec PyProof.Rows
end L2
namespace L2
open PySem PySem.Spec PyProof.Rows
structure Clo (X:Cx):Prop where
  inj:∀ x y c,X.env.cells.lookup x=some c->X.env.cells.lookup y=some c->x=y
  has:∀ x,(X.env.kindOf x=some .cell ∨ X.env.kindOf x=some .free)->∃ c,X.env.cells.lookup x=some c
section
variable {X:Cx} {σ:L2.St} {H Hf:Hp} {scope:Scope}
end
end L2
namespace L2
open PySem PySem.Spec PyProof.Rows
section
variable {X:Cx}
end
end L2
namespace L2
open PySem PySem.Spec PyProof.Rows
section
variable {X:Cx} {scope:Scope} {N:List Str} {ix:List (Option Nat)} {elt target iter:Expr} {ifs:List Expr} {pos:Pos} {wi:TI} {g:TG} {tc:TT}
end
end L2
namespace L2
open PySem PySem.Spec PyProof.Rows
section
variable {X:Cx}
def ipM:TIp:=fun x y H Q=>∃ i j,x=.int i/\y=.int j/\(Builtin.Int.intBits i <= 2 ^ 20/\Builtin.Int.intBits j <= 2 ^ 20)/\Q (.int (i * j)) H
theorem ip_mul:PIp X .Mult ipM:=by
  intro pins s σ H x y v u Q I r1 r2 h
  obtain ⟨i,j,e1,e2,hb,q⟩:=h
  subst e1;subst e2
  obtain ⟨t,rfl⟩:=r1
  obtain ⟨t',rfl⟩:=r2
  exact imul_int ⟨.int _,H,I.tok _,⟨_,rfl⟩,q⟩ (.of_bits hb.1 hb.2)
end
end L2
namespace L2
open PySem PySem.Spec PyProof.Rows
end L2
namespace L2
open PySem PySem.Spec PyProof.Rows
section
variable (P:Program) (w:World)
end
section
variable {P:Program} {w:World} {H H':Hp} {h h':Heap} {a:Addr} {o:HO}
end
section
variable {P:Program} {w:World} {H:Hp} {h h':Heap} {x e:Addr} {o':HO}
end
section
variable {fs fs' ex ex':List Addr} {H H1 H2:Hp} {h h1 h2 h':Heap} {a x e:Addr} {o:HO}
end
end L2
namespace L2
open PySem PySem.Spec PyProof.Rows
section
variable {X:Cx} {pins:List (Addr × Obj)} {σ:List (Option V)} {H H':Hp} {s:Shared} {h':Heap}
end
end L2
namespace L2
open PySem PySem.Spec PyProof.Rows
section
variable {X:Cx}
variable {a b:Expr} {ta tb:TE} {pos:Pos}
variable {tA tB':TT} {rest:List Expr}
end
end L2
namespace L2
open PySem PySem.Spec PyProof.Rows
section
variable {X:Cx} {pins:List (Addr × Obj)} {σ:St} {H:Hp} {s:Shared} {a:Addr} {xs ys:List V}
end
section
variable {X:Cx} {pins:List (Addr × Obj)} {σ:St} {H:Hp} {s:Shared} {E:Value->Shared->Prop}
end
section
variable {X:Cx} {st:Stmt} {rest:List Stmt} {t u:TS} {e:Expr} {te:TE} {pos:Pos}
end
section
variable {X:Cx} {pos:Pos}
end
section
variable {X:Cx} {pos:Pos}
end
end L2
namespace L2
open PySem PySem.Spec PyProof.Rows
section
variable {X:Cx} {tg:Expr}
end
end L2
namespace L2
open PySem PySem.Spec PyProof.Rows
section
variable {X:Cx} {a b c:Expr} {ta tb tc:TE} {pos:Pos}
end
section
variable {X:Cx} {a b c:Expr} {ta tb tc:TE} {pos:Pos}
end
end L2
namespace L2
open PySem PySem.Spec PyProof.Rows
section
variable {prog:Program} {w:World} {A:Around} {E:Value->Shared->Prop} {s:Shared} {K:PySem.W.Frag} {x dx C f:Addr} {mA:Str->Option Value} {name:Str} {v:Value}
end
section
variable {P:Program} {w:World} {H H':Hp} {h h':Heap} {a C dx:Addr} {fs fs':List (Str × V)}
end
section
variable {X:Cx} {pins:List (Addr × Obj)} {σ:St} {H:Hp} {s:Shared} {a C dx:Addr} {fs:List (Str × V)} {f:Str} {v:V} {A:Around} {E:Value->Shared->Prop}
end
section
variable {X:Cx} {o e value:Expr} {f:Str} {pos pos' tpos:Pos} {ta tv:TE}
end
section
variable {X:Cx} {pins:List (Addr × Obj)} {σ:St} {H:Hp} {s:Shared} {A:Around} {E:Value->Shared->Prop} {Q:Value->Shared->Prop} {c:Value} {b:Bool}
end
end L2
namespace L2
open PySem PySem.Spec PyProof.Rows
section
variable {X:Cx} {e:Expr} {es:List Expr} {te:TE} {t:TA} {pos:Pos}
end
section
variable {X:Cx} {pins:List (Addr × Obj)} {σ:St} {H:Hp} {s s':Shared}
end
section
variable {X:Cx} {CX:CXT} {k:Nat} {f C:Addr} {fd:FuncData} {ps:List Str} {sp:Sp} {dvs:List V} {ds:List Value} {E:XK} {x m:Str} {p pos apos:Pos} {e o:Expr} {es:List Expr} {ta:TE} {t:TA}
end
section
variable {X:Cx} {CX:CXT} {k:Nat} {f C:Addr} {fd:FuncData} {ps ks:List Str} {sp:Sp} {E:XK} {x m:Str} {p pos apos kpos:Pos} {e o:Expr} {es:List Expr} {kws:List Keyword} {te ta:TE} {t tk:TA} {nm:Option Str}
variable {g:List Value->List Value->List Value} {gV:List V->List V->List V}
end
end L2
namespace L2
open PySem PySem.Spec PyProof.Rows
section
variable {X:Cx} {x:Str} {p pos:Pos} {e:Expr} {es:List Expr} {t:TA} {id T:String} {r:List V->Hp->VK->Prop}
end
end L2
namespace L2
open PySem PySem.Spec PyProof.Rows
section
variable {κ:Type} [DecidableEq κ]
def valV (kvs:List (κ × V)) (k:κ):Option V:=(kvs.find? fun kv=>decide (kv.1=k)).map (·.2)
def putK (kvs:List (κ × V)) (k:κ) (v:V):List (κ × V) :=
  if (kvs.any fun kv=>decide (kv.1=k))=true then kvs.map (fun kv=>if kv.1=k then (kv.1,v) else kv) else kvs ++ [(k,v)]
theorem valV_pos {p:κ × V} {r:List (κ × V)} {k:κ} (e:p.1=k):valV (p :: r) k=some p.2:=by simp [valV,List.find?_cons,e]
theorem valV_neg {p:κ × V} {r:List (κ × V)} {k:κ} (e:¬ p.1=k):valV (p :: r) k=valV r k:=by simp [valV,List.find?_cons,e]
theorem valV_any (k:κ):∀ kvs:List (κ × V),(kvs.any fun kv=>decide (kv.1=k))=(valV kvs k).isSome
  | []=>rfl
  | p :: r=>by
    rw [List.any_cons]
    by_cases e:p.1=k
    · simp only [valV_pos e,decide_eq_true e,Bool.true_or,Option.isSome_some]
    · rw [valV_neg e,decide_eq_false e,Bool.false_or];exact valV_any k r
theorem length_putK (kvs:List (κ × V)) (k:κ) (v:V):(putK kvs k v).length <= kvs.length + 1:=by
  unfold putK
  split
  · rw [List.length_map];omega
  · rw [List.length_append,List.length_cons,List.length_nil];omega
theorem RelO.isSome_eq {o:Option V} {u:Option Value} (r:RelO o u):o.isSome=u.isSome:=by
  cases o with
  | none=>cases u with
    | none=>rfl
    | some _=>exact (show False from r).elim
  | some _=>cases u with
    | none=>exact (show False from r).elim
    | some _=>rfl
theorem RelO.getD {o:Option V} {u:Option Value} {d:V} {d':Value} (r:RelO o u) (rd:RelV d d'):RelV (o.getD d) (u.getD d'):=by
  cases o with
  | none=>cases u with
    | none=>exact rd
    | some _=>exact (show False from r).elim
  | some _=>cases u with
    | none=>exact (show False from r).elim
    | some _=>exact r
theorem KV.val {kvs:List (κ × V)} {vs:List (κ × Value)} (r:KV kvs vs) (k:κ):RelO (valV kvs k) (valueAt vs k):=by
  unfold KV at r
  induction r with
  | nil=>exact True.intro
  | @cons p q ps qs h t ih =>
    obtain ⟨h1,h2⟩:=h
    by_cases e:p.1=k
    · have e':q.1=k:=h1.symm.trans e
      have b:valueAt (q :: qs) k=some q.2:=by simp [valueAt,List.find?_cons,e']
      rw [valV_pos e,b];exact h2
    · have e':¬ q.1=k:=fun z=>e (h1.trans z)
      have b:valueAt (q :: qs) k=valueAt qs k:=by simp [valueAt,List.find?_cons,e']
      rw [valV_neg e,b];exact ih
theorem KV.any {kvs:List (κ × V)} {vs:List (κ × Value)} (r:KV kvs vs) (k:κ):(kvs.any fun kv=>decide (kv.1=k))=vs.any fun kv=>decide (kv.1=k):=by
  unfold KV at r
  induction r with
  | nil=>rfl
  | cons h t ih=>rw [List.any_cons,List.any_cons,ih,h.1]
theorem KV.repl {kvs:List (κ × V)} {vs:List (κ × Value)} (r:KV kvs vs) (k:κ) {y:V} {u:Value} (ry:RelV y u) :
    KV (kvs.map fun kv=>if kv.1=k then (kv.1,y) else kv) (vs.map fun kv=>if kv.1=k then (kv.1,u) else kv):=by
  unfold KV at r ⊢
  induction r with
  | nil=>exact .nil
  | @cons p q ps qs h t ih =>
    rw [List.map_cons,List.map_cons]
    refine .cons ?_ ih
    obtain ⟨h1,h2⟩:=h
    by_cases e:p.1=k
    · rw [if_pos e,if_pos (h1.symm.trans e)];exact ⟨h1,ry⟩
    · rw [if_neg e,if_neg (fun z=>e (h1.trans z))];exact ⟨h1,h2⟩
theorem KV.put {kvs:List (κ × V)} {vs:List (κ × Value)} (r:KV kvs vs) (k:κ) {y:V} {u:Value} (ry:RelV y u):KV (putK kvs k y) (stored vs k u):=by
  unfold putK stored
  rw [r.any k]
  by_cases e:(vs.any fun kv=>decide (kv.1=k))=true
  · rw [if_pos e,if_pos e];exact r.repl k ry
  · rw [if_neg e,if_neg e];exact Paired.snoc r ⟨rfl,ry⟩
theorem KV.length {kvs:List (κ × V)} {vs:List (κ × Value)} (r:KV kvs vs):kvs.length=vs.length:=Paired.length r
end
theorem kV_is {P:Program} {w:World} {k:Key} {u:Value} (r:RelV (kV k) u):(mixKind P w).is k u=true:=by
  cases k with
  | inl i=>obtain ⟨t,e⟩:=(show ∃ t,u=Value.int i t from r);subst e;exact mixKind_int P w i t
  | inr x=>obtain ⟨t,e⟩:=(show ∃ t,u=Value.str x t from r);subst e;exact mixKind_str P w x t
theorem items_are {P:Program} {w:World}:∀ {ks:List Key} {us:List Value},Vals (ks.map kV) us->ItemsAre (mixKind P w) ks us
  | [],_,r=>by rw [List.map_nil] at r;cases r;exact .nil
  | k :: ks,_,r=>by
    rw [List.map_cons] at r
    cases r with
    | cons h t=>exact .cons (kV_is h) (items_are t)
abbrev KT (H:Hp):List (List Key × V)->List (List Key × Addr × Value)->Prop:=Paired fun p q=>p.1=q.1/\H q.2.1=some (.tup (p.1.map kV))/\RelV p.2 q.2.2
theorem KT.val {H:Hp} {kvs:List (List Key × V)} {xs:List (List Key × Addr × Value)} (r:KT H kvs xs) (k:List Key):RelO (valV kvs k) ((atKey xs k).map (·.2)):=by
  induction r with
  | nil=>exact True.intro
  | @cons p q ps qs h t ih =>
    obtain ⟨h1,_,h2⟩:=h
    by_cases e:p.1=k
    · have e':q.1=k:=h1.symm.trans e
      have b:atKey (q :: qs) k=some q.2:=by simp [atKey,List.find?_cons,e']
      rw [valV_pos e,b];exact h2
    · have e':¬ q.1=k:=fun z=>e (h1.trans z)
      have b:atKey (q :: qs) k=atKey qs k:=by simp [atKey,List.find?_cons,e']
      rw [valV_neg e,b];exact ih
theorem KT.repl {H:Hp} {kvs:List (List Key × V)} {xs:List (List Key × Addr × Value)} (r:KT H kvs xs) (k:List Key) {y:V} {u:Value} (ry:RelV y u) :
    KT H (kvs.map fun kv=>if kv.1=k then (kv.1,y) else kv) (xs.map (putAt k u)):=by
  induction r with
  | nil=>exact .nil
  | @cons p q ps qs h t ih =>
    rw [List.map_cons,List.map_cons]
    refine .cons ?_ ih
    obtain ⟨h1,h2,h3⟩:=h
    unfold putAt
    by_cases e:p.1=k
    · rw [if_pos e,if_pos (h1.symm.trans e)];exact ⟨h1,h2,ry⟩
    · rw [if_neg e,if_neg (fun z=>e (h1.trans z))];exact ⟨h1,h2,h3⟩
theorem KT.put {H:Hp} {kvs:List (List Key × V)} {xs:List (List Key × Addr × Value)} (r:KT H kvs xs) (k:List Key) {b:Addr} {y:V} {u:Value} (hb:H b=some (.tup (k.map kV))) (ry:RelV y u) :
    KT H (putK kvs k y) (storedH xs k b u):=by
  have e:(kvs.any fun kv=>decide (kv.1=k))=(atKey xs k).isSome:=by
    rw [valV_any,(r.val k).isSome_eq,Option.isSome_map]
  unfold putK storedH
  rw [e]
  by_cases q:(atKey xs k).isSome=true
  · rw [if_pos q,if_pos q];exact r.repl k ry
  · rw [if_neg q,if_neg q];exact Paired.snoc r ⟨rfl,hb,ry⟩
theorem KT.keeps {H H':Hp} {kvs:List (List Key × V)} {xs:List (List Key × Addr × Value)} (r:KT H kvs xs) (ht:∀ b ys,H b=some (.tup ys)->H' b=some (.tup ys)):KT H' kvs xs :=
  Paired.mapP r fun _ _ z=>⟨z.1,ht _ _ z.2.1,z.2.2⟩
section
variable {P:Program} {w:World} {H:Hp} {h:Heap} {a:Addr}
theorem rd_of {u:HO} (ok:HOk P w H h) (e:Rd H a u):ObjOk P w H h a u:=e.ok ok
theorem dk_rd {kvs:List (Key × V)} (ok:HOk P w H h) (e:Rd H a (.dK kvs)):kvs.length <= sizeLine/\(a == sysModules)=false/\∃ vs,KV kvs vs/\h.DictOf (mixKind P w) a vs :=
  show ObjOk P w H h a (.dK kvs) from rd_of ok e
theorem dk_of {kvs:List (Key × V)} (ok:HOk P w H h) (e:H a=some (.dK kvs)):kvs.length <= sizeLine/\(a == sysModules)=false/\∃ vs,KV kvs vs/\h.DictOf (mixKind P w) a vs:=dk_rd ok (.inl e)
theorem key_of {ks:List Key} (ok:HOk P w H h) (e:H a=some (.tup (ks.map kV))):(tupleKind (mixKind P w)).is h ks a:=by
  obtain ⟨_,its,r,o,h1,h2,n,h3⟩:=(show ObjOk P w H h a (.tup (ks.map kV)) from ok a _ e)
  exact ⟨o,its.toArray,n,h1,h2,h3,by simpa using items_are r⟩
theorem dt_rd {kvs:List (List Key × V)} (ok:HOk P w H h) (e:Rd H a (.dT kvs)):kvs.length <= sizeLine/\(a == sysModules)=false /\
    ∃ xs,KT H kvs xs/\h.DictOfH (tupleKind (mixKind P w)) a xs:=by
  obtain ⟨z,y,xs,r,o,es,ep,h1,h2,h3,h4,h5⟩:=(show ObjOk P w H h a (.dT kvs) from rd_of ok e)
  refine ⟨z,y,xs,r,o,es,ep,h1,h2,h3,h4,fun x hx=>?_,h5⟩
  have all:∀ {l:List (List Key × V)} {m:List (List Key × Addr × Value)},KT H l m->∀ x ∈ m,(tupleKind (mixKind P w)).is h x.1 x.2.1:=by
    intro l m q
    induction q with
    | nil=>intro x hx;exact nomatch hx
    | @cons p q ps qs hq t ih =>
      intro x hx
      rcases List.mem_cons.mp hx with e | hx
      · subst e
        exact key_of ok (by rw [<- hq.1];exact hq.2.1)
      · exact ih x hx
  exact all r x hx
theorem dt_of {kvs:List (List Key × V)} (ok:HOk P w H h) (e:H a=some (.dT kvs)):kvs.length <= sizeLine/\(a == sysModules)=false /\
    ∃ xs,KT H kvs xs/\h.DictOfH (tupleKind (mixKind P w)) a xs:=dt_rd ok (.inl e)
end
def DGet (H:Hp) (a:Addr) (y:V) (r:Option V):Prop :=
  (∃ kvs k,Rd H a (.dK kvs)/\y=kV k/\r=valV kvs k) ∨ ∃ kvs k b,Rd H a (.dT kvs)/\y=.ref b/\H b=some (.tup (k.map kV))/\r=valV kvs k
def DPut (H:Hp) (a:Addr) (y v:V) (H':Hp):Prop :=
  (∃ kvs k,H a=some (.dK kvs)/\y=kV k/\kvs.length < sizeLine/\H'=upd H a (.dK (putK kvs k v))) ∨
  ∃ kvs k b,H a=some (.dT kvs)/\y=.ref b/\H b=some (.tup (k.map kV))/\kvs.length < sizeLine/\H'=upd H a (.dT (putK kvs k v))
theorem DGet.t {H:Hp} {a b:Addr} {kvs:List (List Key × V)} {k:List Key} (e:H a=some (.dT kvs)) (eb:H b=some (.tup (k.map kV))):DGet H a (.ref b) (valV kvs k):=.inr ⟨kvs,k,b,.inl e,rfl,eb,rfl⟩
theorem DPut.t {H:Hp} {a b:Addr} {kvs:List (List Key × V)} {k:List Key} {v:V} (e:H a=some (.dT kvs)) (eb:H b=some (.tup (k.map kV))) (hl:kvs.length < sizeLine) :
    DPut H a (.ref b) v (upd H a (.dT (putK kvs k v))):=.inr ⟨kvs,k,b,e,rfl,eb,hl,rfl⟩
section
variable {X:Cx} {pins:List (Addr × Obj)} {σ:St} {H:Hp} {s:Shared} {a:Addr} {y v:V} {u r:Value} {o:Option V} {A:Around} {E:Value->Shared->Prop}
theorem Inv.big (I:Inv X pins σ H s):sysModules < s.heap.objs.size:=by
  have h:mainGlobals < s.heap.objs.size:=(I.mod.glob.keeps I.bk).lt
  exact Nat.lt_trans (by decide) h
theorem d_getItem {Q:Value->Shared->Prop} (hu:A.units + 1 < cLine) (I:Inv X pins σ H s) (g:DGet H a y (some v)) (ry:RelV y u) (h:∀ w' s',Inv X pins σ H s'->RelV v w'->Q w' s') :
    wpAny (model X.prog X.w) A (getItem (.ref a) u) Q E s:=by
  rcases g with ⟨kvs,k,e,ey,l⟩ | ⟨kvs,k,b,e,ey,eb,l⟩
  · subst ey
    obtain ⟨z,hd,vs,rel,dd⟩:=dk_rd I.hok e
    obtain ⟨w',hw,rw'⟩:=RelO.some_of (v:=v) (o:=valueAt vs k) (by rw [l];exact rel.val k)
    exact wpAny_getItem_of (kV_is ry) dd.mapOf hw (h w' _ (I.tok _) rw')
  · subst ey
    cases (show u=Value.ref b from ry)
    obtain ⟨z,hd,xs,rel,dd⟩:=dt_rd I.hok e
    obtain ⟨w',hw,rw'⟩:=RelO.some_of (v:=v) (o:=(atKey xs k).map (·.2)) (by rw [l];exact rel.val k)
    obtain ⟨p,hp,hp2⟩:=Option.map_eq_some_iff.mp hw
    refine wpAny_getItem_heap (tupleKind_room_in1 hu) (key_of I.hok eb) dd hp ?_
    rw [hp2]
    exact h w' _ (I.tok _) rw'
theorem d_write {h':Heap} {t':Nat} {ob:HO} (I:Inv X pins σ H s) (mu:Mut (H a)) (hs:Heap.SameBut a s.heap h') (he:∃ q,h'.get? a=some q) (new:ObjOk X.prog X.w (upd H a ob) h' a ob) :
    Inv X pins σ (upd H a ob) { s with heap:=h',toks:=t' } :=
  I.write (x:=a) (e:=a) mu (.inl rfl) (fun b q hb z=>(hs.2 b hb).trans z) he new
theorem dk_new {P:Program} {w:World} {H':Hp} {h':Heap} {kvs:List (Key × V)} {vs:List (Key × Value)} (z:kvs.length <= sizeLine) (hd:(a == sysModules)=false) (rel:KV kvs vs) (dd:h'.DictOf (mixKind P w) a vs) :
    ObjOk P w H' h' a (.dK kvs):=⟨z,hd,vs,rel,dd⟩
theorem d_setItem {H':Hp} {Q:Unit->Shared->Prop} (hu:A.units + 1 < cLine) (I:Inv X pins σ H s) (g:DPut H a y v H') (ry:RelV y u) (rv:RelV v r) (h:∀ s',Inv X pins σ H' s'->Q () s') :
    wpAny (model X.prog X.w) A (setItem (.ref a) u r) Q E s:=by
  rcases g with ⟨kvs,k,e,ey,l,eH⟩ | ⟨kvs,k,b,e,ey,eb,l,eH⟩
  · subst ey eH
    obtain ⟨z,hd,vs,rel,dd⟩:=dk_of I.hok e
    have hz:vs.length <= sizeLine:=by rw [<- rel.length];exact z
    have hl:(putK kvs k v).length <= sizeLine:=by have:=length_putK kvs k v;omega
    refine wpAny_setItem_pairs (hsz:=hz) (kV_is ry) dd fun h' dd' hs=>h _ ?_
    have he:∃ q,h'.get? a=some q:=let ⟨q,_,_,hq,_⟩:=dd';⟨q,hq⟩
    exact d_write I (by rw [e];exact True.intro) hs he (dk_new hl hd (rel.put k rv) dd')
  · subst ey eH
    cases (show u=Value.ref b from ry)
    obtain ⟨z,hd,xs,rel,dd⟩:=dt_of I.hok e
    have hz:xs.length <= sizeLine:=by rw [<- Paired.length rel];exact z
    have hl:(putK kvs k v).length <= sizeLine:=by have:=length_putK kvs k v;omega
    refine wpAny_setItem_heap (hsz:=hz) (tupleKind_room_in1 hu) (key_of I.hok eb) dd fun h' dd' hs=>h _ ?_
    obtain ⟨q,es,ep,hq,h2,h3,h4,_,h5⟩:=dd'
    refine d_write I (by rw [e];exact True.intro) hs ⟨q,hq⟩ ⟨hl,hd,_,(rel.put k eb rv).keeps fun c ys ec=>?_,q,es,ep,hq,h2,h3,h4,h5⟩
    rw [upd_ne (ne_of ec e (fun z=>nomatch z))]
    exact ec
end
section
variable {X:Cx} {pins:List (Addr × Obj)} {σ:St} {H:Hp} {s:Shared} {a:Addr} {kvs:List (Key × V)} {k:Key} {u:Value} {A:Around} {E:Value->Shared->Prop}
end
def NoSl (i:Expr):Prop:=∀ ov iv,subscripted i false ov iv=operate [ov,iv] (getItem ov iv)
theorem subD_of {prog:Program} {w:World} {A:Around} {E:Value->Shared->Prop} {s:Shared} {env:Env} {value slice:Expr} {pos:Pos} {T id:String} {Q:Value->Shared->Prop}
    (hl:typeLookup (.type T) "__getitem__"=pure (some (.builtin id))) (hs:NoSl slice)
    (h:wpAny (model prog w) A (eval value env) (fun o s₁=>wpAny (model prog w) A (eval slice env) (fun i s₂=>s₂.TypeIs o T/\wpAny (model prog w) A (getItem o i) Q E s₂) E s₁) E s) :
    wpAny (model prog w) A (eval (.Subscript value slice pos) env) Q E s:=by
  refine Subscript_ (wpAny_mono h (fun o s₁ h₁=>wpAny_mono h₁ (fun i s₂ h₂=>?_) fun _ _ x=>x) fun _ _ x=>x)
  obtain ⟨hT,h₂⟩:=h₂
  unfold subscriptTail
  refine wpAny_bind ?_
  rw [getitemInPython_of_ne hT.not_modules]
  refine wpAny_bind (wpAny_specialOf hT hl ?_)
  have fin:wpAny (model prog w) A (subscripted slice false o i) (fun r s₃=>wpAny (model prog w) A (letTemporaryGo value o r >>= fun _=>pure r) Q E s₃) E s₂:=by
    rw [hs o i]
    exact wpAny_operating (wpAny_mono h₂ (fun r s₃ h₃=>wpAny_bind (wpAny_letTemporaryGo (wpAny_pure h₃))) fun _ _ x=>x)
  first
    | exact wpAny_pure (wpAny_bind fin)
    | exact wpAny_bind (wpAny_pure (wpAny_bind fin))
    | exact wpAny_bind fin
theorem dict_typeIs {X:Cx} {pins:List (Addr × Obj)} {σ:St} {H:Hp} {s:Shared} {a:Addr} {y:V} {o:Option V} (I:Inv X pins σ H s) (g:DGet H a y o):s.TypeIs (.ref a) "dict":=by
  rcases g with ⟨kvs,k,e,_,_⟩ | ⟨kvs,k,b,e,_,_,_⟩
  · obtain ⟨_,_,vs,_,dd⟩:=dk_rd I.hok e
    exact dd.typeIs
  · obtain ⟨_,_,xs,_,dd⟩:=dt_rd I.hok e
    exact dd.typeIs
def tDGet (td ty:TE):TE:=fun σ H Q=>td σ H fun x H1=>ty σ H1 fun y H2=>∃ a v,x=.ref a/\DGet H2 a y (some v)/\Q v H2
def sDPut (td ty tv:TE):TS:=fun D σ H=>tv σ H fun v H1=>td σ H1 fun x H2=>ty σ H2 fun y H3=>∃ a H4,x=.ref a/\DPut H3 a y v H4/\D.nx σ H4
section
variable {X:Cx} {o i e value:Expr} {pos pos' tpos:Pos} {td ty tv:TE}
theorem pe_dget (hu:X.A.units + 1 < cLine) (ho:PE X o td) (hi:PE X i ty) (hs:NoSl i):PE X (.Subscript o i pos) (tDGet td ty):=by
  intro pins s σ H Q I h
  refine subD_of PySem.F.slot_dict_getitem.lookup hs (thn (ho pins s σ H _ I h) fun u s1 ⟨x,H1,I1,rx,q1⟩=>thn (hi pins s1 σ H1 _ I1 q1) fun iv s2 ⟨y,H2,I2,ry,a,v,ex,g,q2⟩=>?_)
  subst ex
  obtain rfl:u=Value.ref a:=rx
  exact ⟨dict_typeIs I2 g,d_getItem hu I2 g ry fun w' s3 I3 rw'=>⟨v,H2,I3,rw',q2⟩⟩
theorem ps_dput (hu:X.A.units + 1 < cLine) (ho:PE X o td) (hi:PE X i ty) (hv:PE X value tv) (hs:swapsWith value (some (.Subscript o i pos')) pos.line X.env=pure false) :
    PS X (.Assign [.Subscript o i pos'] value pos) (sDPut td ty tv):=by
  intro pins s σ H D I h
  refine wpAny_Assign_Subscript (thn (hv pins s σ H _ I h) fun r s1 ⟨v,H1,I1,rv,q1⟩=>thn (ho pins s1 σ H1 _ I1 q1) fun u s2 ⟨x,H2,I2,rx,q2⟩=>thn (hi pins s2 σ H2 _ I2 q2) fun iv s3 ⟨y,H3,I3,ry,a,H4,ex,g,q3⟩=>?_) hs
  subst ex
  obtain rfl:u=Value.ref a:=rx
  exact d_setItem hu I3 g ry rv fun s4 I4=>⟨σ,H4,I4,q3⟩
end
theorem dt_empty {P:Program} {w:World} {H:Hp} (h:Heap) (hb:sysModules < h.objs.size):ObjOk P w H (h.push { cls:=.type "dict",data:=.dict #[] }) h.objs.size (.dT []) :=
  ⟨Nat.zero_le _,beq_eq_false_iff_ne.mpr (Ne.symm (Nat.ne_of_lt hb)),[],.nil,_,#[],0,Heap.get?_push_size _ rfl,⟨rfl,rfl,rfl⟩,rfl,rfl,List.nodup_nil⟩
def tDNewT:TE:=fun _ H Q=>∀ p,H p=none->Q (.ref p) (upd H p (.dT []))
section
variable {X:Cx} {pos:Pos}
theorem pe_dnewT:PE X (.Dict [] [] pos) tDNewT:=fun pins s σ H Q I h =>
  wpAny_Dict_empty ⟨.ref s.heap.objs.size,_,I.laid (a:=s.heap.objs.size) (o:=.dT []) (t':=s.toks) (fun _ _ q=>Heap.get?_push_of_some _ q) (Nat.le_refl _) (dt_empty s.heap I.big),rfl,h _ (I.hok.fresh (Nat.le_refl _))⟩
end
structure M1 (X:Cx) (o:Expr) (m:Str) (apos:Pos) (e:Expr) (cpos:Pos):Prop where
  base:attributeBase o m X.env (eval o X.env)=eval o X.env
  few:((backTo cpos (starEach [e] X.env)).all (fun x=>!x.1) && (backToKw cpos (keywordEach [] X.env)).all (fun x=>x.1.isSome)
    && decide (([e]:List Expr).length + ([]:List Keyword).length + (if ([]:List Keyword).isEmpty then 0 else 1) < 30))=true
  line:(apos.endLine == cpos.line)=true
  trees:backTo cpos (starEach [e] X.env)=[(false,eval e X.env)]
structure M2 (X:Cx) (o:Expr) (m:Str) (apos:Pos) (e f:Expr) (cpos:Pos):Prop where
  base:attributeBase o m X.env (eval o X.env)=eval o X.env
  few:((backTo cpos (starEach [e,f] X.env)).all (fun x=>!x.1) && (backToKw cpos (keywordEach [] X.env)).all (fun x=>x.1.isSome)
    && decide (([e,f]:List Expr).length + ([]:List Keyword).length + (if ([]:List Keyword).isEmpty then 0 else 1) < 30))=true
  line:(apos.endLine == cpos.line)=true
  trees:backTo cpos (starEach [e,f] X.env)=[(false,eval e X.env),(false,eval f X.env)]
def IsD (H:Hp) (a:Addr):Prop:=(∃ kvs,Rd H a (.dK kvs)) ∨ ∃ kvs,Rd H a (.dT kvs)
theorem isD_at {X:Cx} {pins:List (Addr × Obj)} {σ:St} {H:Hp} {s:Shared} {a:Addr} (I:Inv X pins σ H s) (d:IsD H a) :
    s.TypeIs (.ref a) "dict"/\(∀ b,Value.ref a=.ref b->∃ ob,s.heap.get? b=some ob/\ob.dict=none)/\(a == sysModules)=false:=by
  rcases d with ⟨kvs,e⟩ | ⟨kvs,e⟩
  · obtain ⟨_,hd,vs,_,dd⟩:=dk_rd I.hok e
    refine ⟨dd.typeIs,fun b q=>?_,hd⟩
    cases q
    obtain ⟨ob,_,_,h1,h2,_⟩:=dd
    exact ⟨ob,h1,h2.2.1⟩
  · obtain ⟨_,hd,xs,_,dd⟩:=dt_rd I.hok e
    refine ⟨dd.typeIs,fun b q=>?_,hd⟩
    cases q
    obtain ⟨ob,_,_,h1,h2,_⟩:=dd
    exact ⟨ob,h1,h2.2.1⟩
section
variable {X:Cx} {pins:List (Addr × Obj)} {σ:St} {H:Hp} {s:Shared} {a:Addr} {y d:V} {u r:Value} {o:Option V} {A:Around} {E:Value->Shared->Prop}
theorem d_get2 {Q:Value->Shared->Prop} (hu:A.units + 1 < cLine) (I:Inv X pins σ H s) (g:DGet H a y o) (ry:RelV y u) (rd:RelV d r) (h:∀ w' s',Inv X pins σ H s'->RelV (o.getD d) w'->Q w' s') :
    wpAny (model X.prog X.w) A (call (.builtin "dict.get") [.ref a,u,r]) Q E s:=by
  rcases g with ⟨kvs,k,e,ey,l⟩ | ⟨kvs,k,b,e,ey,eb,l⟩
  · subst ey
    obtain ⟨z,hd,vs,rel,dd⟩:=dk_rd I.hok e
    refine call_meetsIn PySem.F.slot_dict_get dd.typeIs PySem.F.entry_dict_get (PySem.F.args_dict_get_3 _ _ _) (meets_dict_get_default (mixKind X.prog X.w) a (kV_is ry) hd r) ⟨_,dd.mapOf,h _ _ (I.tok _) ?_⟩
    rw [l]
    exact (rel.val k).getD rd
  · subst ey
    cases (show u=Value.ref b from ry)
    obtain ⟨z,hd,xs,rel,dd⟩:=dt_rd I.hok e
    refine call_meetsIn PySem.F.slot_dict_get dd.typeIs PySem.F.entry_dict_get (PySem.F.args_dict_get_3 _ _ _) (meetsH_dict_get_default (tupleKind (mixKind X.prog X.w)) a b hd r) ⟨tupleKind_room_in1 hu,k,xs,key_of I.hok eb,dd,h _ _ (I.tok _) ?_⟩
    rw [l]
    exact (rel.val k).getD rd
end
def tDGet2 (td ty tx:TE):TE:=fun σ H Q=>td σ H fun x H1=>∃ a,x=.ref a/\IsD H1 a/\ty σ H1 fun y H2=>tx σ H2 fun z H3=>∃ o,DGet H3 a y o/\Q (o.getD z) H3
section
variable {X:Cx} {o e f:Expr} {apos cpos:Pos} {td ty tx:TE}
theorem pe_dget2 (hu:X.A.units + 1 < cLine) (ho:PE X o td) (he:PE X e ty) (hf:PE X f tx) (m:M2 X o "get" apos e f cpos):PE X (.Call (.Attribute o "get" apos) [e,f] [] cpos) (tDGet2 td ty tx):=by
  intro pins s σ H Q I h
  refine wpAny_Call_method m.base m.few m.line PySem.F.plainAttrs_dict PySem.F.slot_dict_get PySem.F.type_dict_get (thn (ho pins s σ H _ I h) fun u s1 ⟨x,H1,I1,rx,a,ex,d,q1⟩=>?_)
  subst ex
  obtain rfl:u=Value.ref a:=rx
  obtain ⟨t1,t2,_⟩:=isD_at I1 d
  refine ⟨t1,t2,?_⟩
  rw [m.trees]
  refine Calls.callWith_builtin rfl (Calls.evalArgs_plain (Calls.spliced_cons (thn (he pins s1 σ H1 _ I1 q1) fun iv s2 ⟨y,H2,I2,ry,q2⟩ =>
    Calls.spliced_cons (thn (hf pins s2 σ H2 _ I2 q2) fun fv s3 ⟨z,H3,I3,rz,ov,g,q3⟩=>Calls.spliced_nil ?_))))
  exact d_get2 hu I3 g ry rz fun w' s4 I4 rw'=>⟨_,H3,I4,rw',q3⟩
end
section
variable {X:Cx} {pins:List (Addr × Obj)} {σ:St} {H:Hp} {s:Shared} {a:Addr} {kvs:List (Key × V)} {A:Around} {E:Value->Shared->Prop}
end
section
variable {X:Cx} {pins:List (Addr × Obj)} {σ:St} {H:Hp} {s:Shared} {a:Addr} {y:V} {u:Value} {A:Around} {E:Value->Shared->Prop}
end
end L2
namespace Att
open PySem PySem.W PySem.Calls PyProof.Rows
section
variable {prog:Program} {w:World} {A:Around} {E:Value->Shared->Prop} {s:Shared} {K:Frag}
end
end Att
namespace L2
open PySem PySem.Spec PyProof.Rows
end L2
namespace L2
open PySem PySem.Spec PyProof.Rows
end L2
namespace L2
open PySem PySem.Spec PyProof.Rows
section
variable {P:Program} {w:World} {K:PySem.W.Frag} {mg:Str->Option Value} {base:Heap}
end
section
variable {X:Cx}
end
section
variable {κ:Type} [DecidableEq κ]
end
end L2
namespace L2
open PySem PySem.Spec PyProof.Rows
section
variable {prog:Program} {w:World} {A:Around} {E:Value->Shared->Prop} {s:Shared}
structure EnT (h:Heap) (e it t:Addr) (k:Nat):Prop where
  en:∃ old,IsEnum h e it k old
  it:h.IsTupleIter it t k
end
section
variable {X:Cx} {pins:List (Addr × Obj)} {σ:St} {H:Hp} {s:Shared}
theorem Inv.yieldPair {h2:Heap} {t':Nat} {fp:List Addr} {x y:V} {u v:Value} (I:Inv X pins σ H s) (hf:∀ b ∈ fp,FpOk X pins H b) (k2:∀ c o,c ∉ fp->s.heap.get? c=some o->h2.get? c=some o)
    (e0:h2.get? s.heap.objs.size=some { cls:=.type "tuple",data:=.seq #[u,v] }) (ru:RelV x u) (rv:RelV y v):Inv X pins σ (upd H s.heap.objs.size (.tup [x,y])) { s with heap:=h2,toks:=t' }:=by
  have hn:H s.heap.objs.size=none:=I.hok.fresh (Nat.le_refl _)
  have pne:∀ c o,s.heap.get? c=some o->c ≠ s.heap.objs.size:=fun c o e=>Nat.ne_of_lt (Heap.lt_size e)
  have nit:∀ c u,H c=some u->c ∉ fp:=fun c u e q=>by rw [(hf c q).1] at e;cases e
  have hok:HOk X.prog X.w (upd H s.heap.objs.size (.tup [x,y])) h2:=fun c ob e=>by
    by_cases hq:c=s.heap.objs.size
    · subst hq
      rw [upd_same] at e;cases e
      exact ⟨by show 2 <= sizeLine;decide,[u,v],.cons ru (.cons rv .nil),⟨_,e0,rfl,_,rfl⟩⟩
    · rw [upd_ne hq] at e
      refine (I.hok c ob e).stay (fun d w' hd q=>k2 d w' ?_ q) (fun d q=>by rw [upd_ne (ne_of_none q hn)];exact q) fun d xs q=>by rw [upd_ne (ne_of_none q hn)];exact q
      rcases hd with rfl | hd
      · exact nit d ob e
      · exact nit d _ hd
  refine I.step (g':=s.gens) (d':=s.drawn) (t':=t') (ch:=fp) (fun c hc=>⟨(hf c hc).2.2.2.1,(hf c hc).2.1,(hf c hc).2.2.2.2.1,(hf c hc).2.2.2.2.2⟩) (fun c o _ _ hc e _=>k2 c o hc e) (fun c o _ _ hc e _=>⟨o.slots,k2 c o hc e⟩)
    (fun c o _ e n=>by rw [upd_ne (pne c o e)];exact n) (fun c o hc e=>⟨o,k2 c o hc e⟩) (fun c xs e=>by rw [upd_ne (ne_of_none e hn)];exact e) (fun c o u e=>by rw [upd_ne (ne_of_none e hn)];exact e) (fun c ps e=>⟨#[],by rw [upd_ne (ne_of_none e hn),e];simp⟩) (fun m hm=>?_) hok I.bare
  obtain ⟨o,es,ep,ho,r⟩:=hm
  exact ⟨o,es,ep,k2 _ o (fun q=>(hf _ q).2.1 rfl) ho,r⟩
end
end L2
namespace L2
open PySem PySem.Spec PyProof.Rows
section
variable {prog:Program} {w:World} {A:Around} {E:Value->Shared->Prop} {s:Shared}
theorem itemsR_new {d:Addr} {Q:Value->Shared->Prop} (hd:(d == sysModules)=false) (hT:s.TypeIs (.ref d) "dict") (h:Q (.ref s.heap.objs.size) { s with heap:=s.heap.push { cls:=.type "dict_items",data:=.fields #[.ref d] } }) :
    wpAny (model prog w) A (call (.builtin "dict.items") [.ref d]) Q E s:=by
  have g:MeetsIn prog w (Builtin.«dict.items» ⟨[.ref d],[]⟩) (fun _ R s=>s.TypeIs (.ref d) "dict"/\R (.ok (.ret (.ref s.heap.objs.size))) { s with heap:=s.heap.push { cls:=.type "dict_items",data:=.fields #[.ref d] } }) :=
    .of_wp fun A R s ⟨hm,h⟩=>by
      unfold Builtin.«dict.items»
      refine wpAny_bind ?_
      unfold Builtin.Dict.noArgs
      refine wpAny_bind (wpAny_notOrdered_dict hm ?_)
      show wpAny _ _ (pure d) _ _ s
      refine wpAny_pure ?_
      show wpAny _ _ (Builtin.Dict.showsAll d >>= _) _ _ s
      unfold Builtin.Dict.showsAll
      rw [if_neg (by rw [hd];exact Bool.false_ne_true)]
      refine wpAny_bind (wpAny_pure ?_)
      exact wpAny_bind (wpAny_newObj_type (wpAny_pure ⟨_,rfl,h⟩))
  exact call_meetsIn PySem.F.slot_dict_items hT PySem.F.entry_dict_items (PySem.F.args_dict_items_1 _) g ⟨hT,h⟩
theorem itemsR_iter {v d:Addr} {od:Obj} {es:Array DictEntry} {ep:Nat} {Q:Value->Shared->Prop} (hv:s.heap.IsItemsView v d) (ho:s.heap.get? d=some od) (hdat:od.data=.dict es ep)
    (hQ:Q (.ref s.heap.objs.size) { s with heap:=s.heap.push { cls:=.type "dict_itemiterator",data:=.fields #[.none,.bool false,.ref d,.int 0 0,.int es.size 0,.int ep 0,.none,.none] } }) :
    wpAny (model prog w) A (pyIter (.ref v)) Q E s:=by
  obtain ⟨ov,hov,hcv,hdv⟩:=id hv
  refine wpAny_pyIter_slot hv.typeIs F.slot_dict_items_iter (wpAny_call_entry F.slot_dict_items_iter hv.typeIs F.entry_dict_items_iter ?_ (F.args_dict_items_iter_1 _))
  unfold Builtin.«dict_items.__iter__»
  refine wpAny_bind (wpAny_pure ?_)
  refine wpAny_bind ?_
  unfold Builtin.Dict_items.dictOf
  refine wpAny_bind (wpAny_field hov hdv (x:=.ref d) rfl (wpAny_pure ?_))
  refine wpAny_bind ?_
  unfold Builtin.Dict_items.newIterator
  refine wpAny_bind (wpAny_dictEntries ho hdat ?_)
  refine wpAny_bind (wpAny_dictEpoch ho hdat ?_)
  have hown:Builtin.Dict_items.ownsTuple "dict_itemiterator"=true:=by decide
  simp only [hown,if_true]
  refine wpAny_newObj_type (wpAny_pure ⟨_,rfl,"dict_itemiterator",_,⟨_,Heap.get?_push_size _ rfl,rfl⟩,F.slot_dict_itemiterator_next.lookup,?_⟩)
    (by simp only [sizeOk,Builtin.Dict_items.ownedTupleFields,List.size_toArray,List.length_append,List.length_cons,List.length_nil,sizeLine_eq];omega)
  simpa [rawInt,Builtin.Dict_items.ownedTupleFields] using hQ
theorem itemsR_item {it d:Addr} {i ep:Nat} {od:Obj} {es:Array DictEntry} {en:DictEntry} {ok ov:Value} {Q:Option Value->Shared->Prop} (hit:IsItemIter s.heap it d i es.size ep ok ov)
    (hod:s.heap.get? d=some od) (hdd:od.data=.dict es ep) (hx:es[i]?=some en)
    (hQ:∀ h',IsItemIterOut h' it d (i + 1) es.size ep en.key en.val s.heap.objs.size->h'.get? s.heap.objs.size=some { cls:=.type "tuple",data:=.seq #[en.key,en.val] }->h'.objs.size=s.heap.objs.size + 1 ->
      (∀ b o,b ≠ it->s.heap.get? b=some o->h'.get? b=some o)->Q (some (.ref s.heap.objs.size)) { s with heap:=h' }):wpAny (model prog w) A (pyNext (.ref it)) Q E s:=by
  obtain ⟨hp,g,dr,tk,os⟩:=s
  have hT:Shared.TypeIs ⟨hp,g,dr,tk,os⟩ (.ref it) "dict_itemiterator":=⟨_,hit,rfl⟩
  unfold pyNext
  refine wpAny_bind (wpAny_attempt (wpAny_callSpecial?_slot (name:=Str.ofString "__next__") hT F.slot_dict_itemiterator_next
    (wpAny_call_entry F.slot_dict_itemiterator_next hT F.entry_dict_itemiterator_next ?_ (F.args_dict_itemiterator_next_1 _))))
  refine wpAny_bind (wpAny_pure ?_)
  refine wpAny_bind ?_
  refine wpAny_bind ?_
  first | refine wpAny_bind (wpAny_typeNameOfWhole_itemiter hT (wpAny_pure ?_)) | refine wpAny_bind (wpAny_typeNameOf_itemiter hT (wpAny_pure ?_))
  refine wpAny_bind (wpAny_fieldsOf hit rfl ?_)
  have hown:Builtin.Dict_items.ownsTuple "dict_itemiterator"=true:=by decide
  simp only [hown,if_true]
  show wpAny _ _ (if (Value.ref d == Value.none)=true then _ else _) _ _ _
  rw [if_neg (show ¬ ((Value.ref d == Value.none)=true) from Bool.false_ne_true)]
  refine wpAny_bind (wpAny_pure ?_)
  refine wpAny_bind (wpAny_dictEntries hod hdd ?_)
  rw [if_neg (by simp)]
  refine wpAny_bind (wpAny_pure ?_)
  refine wpAny_bind (wpAny_dictEpoch hod hdd ?_)
  rw [if_neg (by simp)]
  refine wpAny_pure ?_
  obtain ⟨hlt',hen⟩:=Array.getElem?_eq_some_iff.mp hx
  simp only [show ¬ ((i:Int) < 0) from by omega,if_false,Int.toNat_natCast,hx]
  refine wpAny_bind ?_
  first | refine wpAny_bind (wpAny_typeNameOfWhole_itemiter hT (wpAny_pure ?_)) | refine wpAny_bind (wpAny_typeNameOf_itemiter hT (wpAny_pure ?_))
  refine wpAny_bind (wpAny_isOneOf_itemiter hT ?_)
  show wpAny _ _ (setField (.ref it) 3 (rawInt ((i:Int) + 1)) >>= _) _ _ ⟨hp,g,dr,tk,os⟩
  refine wpAny_bind (wpAny_setField_rec hit (by simp) fun h1 he1 s1=>?_)
  replace s1:Heap.SameBut it hp h1:=s1
  replace he1:IsItemIter h1 it d (i + 1) es.size ep ok ov:=by
    have e:((i + 1:Nat):Int)=(i:Int) + 1:=by omega
    unfold IsItemIter;rw [e];simpa [rawInt] using he1
  have hT1:Shared.TypeIs ⟨h1,g,dr,tk,os⟩ (.ref it) "dict_itemiterator":=⟨_,he1,rfl⟩
  refine wpAny_bind (wpAny_holding ?_)
  refine wpAny_bind (wpAny_isOneOf_itemiter hT1 ?_)
  refine wpAny_bind (wpAny_isOneOf_itemiter hT1 ?_)
  show wpAny _ _ (Builtin.Dict_items.pairFromOwner (.ref it) 6 en.key en.val) _ _ ⟨h1,g,dr,tk,os⟩
  unfold Builtin.Dict_items.pairFromOwner
  refine wpAny_bind (wpAny_newTuple ?_)
  have he2:IsItemIter (h1.push { cls:=.type "tuple",data:=.seq #[en.key,en.val] }) it d (i + 1) es.size ep ok ov:=Heap.get?_push_of_some _ he1
  generalize hh2:h1.push { cls:=.type "tuple",data:=.seq #[en.key,en.val] }=h2 at he2
  have hz1:h1.objs.size=hp.objs.size:=s1.1
  have hil:it < hp.objs.size:=Heap.lt_size hit
  have ht2:h2.get? hp.objs.size=some { cls:=.type "tuple",data:=.seq #[en.key,en.val] }:=by rw [<- hh2,<- hz1];exact Heap.get?_push_size _ rfl
  have hz2:h2.objs.size=hp.objs.size + 1:=by rw [<- hh2,Heap.size_push,hz1]
  have hk2:∀ b o,b ≠ it->hp.get? b=some o->h2.get? b=some o:=fun b o hb e=>by rw [<- hh2];exact Heap.get?_push_of_some _ (s1.extBut b o hb e)
  show wpAny _ _ (Builtin.Dict_items.ownedTupleIsFree (.ref it) >>= _) _ _ ⟨h2,g,dr,tk,os⟩
  rw [hz1]
  clear hh2 he1 s1 hT1 hz1 h1
  refine wpAny_bind ?_
  unfold Builtin.Dict_items.ownedTupleIsFree
  refine wpAny_bind (wpAny_field he2 rfl (x:=.none) rfl (wpAny_pure ?_))
  simp only [if_true]
  refine wpAny_bind (wpAny_field he2 rfl (x:=ok) rfl ?_)
  refine wpAny_bind (wpAny_field he2 rfl (x:=ov) rfl ?_)
  refine wpAny_bind (wpAny_setField_rec he2 (by simp) fun h3 he3 s3=>?_)
  replace s3:Heap.SameBut it h2 h3:=s3
  replace he3:IsItemIter h3 it d (i + 1) es.size ep en.key ov:=he3
  refine wpAny_bind (wpAny_setField_rec he3 (by simp) fun h4 he4 s4=>?_)
  replace s4:Heap.SameBut it h3 h4:=s4
  replace he4:IsItemIter h4 it d (i + 1) es.size ep en.key en.val:=he4
  refine wpAny_bind (wpAny_setField_rec he4 (by simp) fun h5 he5 s5=>?_)
  replace s5:Heap.SameBut it h4 h5:=s5
  replace he5:IsItemIterOut h5 it d (i + 1) es.size ep en.key en.val hp.objs.size:=he5
  refine wpAny_bind (wpAny_setField_rec he5 (by simp) fun h6 he6 s6=>?_)
  replace s6:Heap.SameBut it h5 h6:=s6
  replace he6:IsItemIterOut h6 it d (i + 1) es.size ep en.key en.val hp.objs.size:=he6
  refine wpAny_bind (wpAny_letGo (wpAny_pure (wpAny_pure ⟨_,rfl,wpAny_pure (hQ h6 he6 ?_ ?_ ?_)⟩)))
  · exact s6.extBut _ _ (Nat.ne_of_gt hil) (s5.extBut _ _ (Nat.ne_of_gt hil) (s4.extBut _ _ (Nat.ne_of_gt hil) (s3.extBut _ _ (Nat.ne_of_gt hil) ht2)))
  · show h6.objs.size=hp.objs.size + 1
    rw [s6.1,s5.1,s4.1,s3.1,hz2]
  · exact fun b o hb e=>s6.extBut b o hb (s5.extBut b o hb (s4.extBut b o hb (s3.extBut b o hb (hk2 b o hb e))))
theorem itemsR_end {it d:Addr} {i ep:Nat} {od:Obj} {es:Array DictEntry} {ok ov:Value} {Q:Option Value->Shared->Prop} (hh:A.handled=none) (hit:IsItemIter s.heap it d i es.size ep ok ov)
    (hod:s.heap.get? d=some od) (hdd:od.data=.dict es ep) (hge:es.size <= i) (hQ:∀ h',Heap.ExtBut it s.heap h'->Q none { s with heap:=h' }):wpAny (model prog w) A (pyNext (.ref it)) Q E s:=by
  have hT:s.TypeIs (.ref it) "dict_itemiterator":=⟨_,hit,rfl⟩
  unfold pyNext
  refine wpAny_bind (wpAny_attempt (wpAny_callSpecial?_slot (name:=Str.ofString "__next__") hT F.slot_dict_itemiterator_next
    (wpAny_call_entry F.slot_dict_itemiterator_next hT F.entry_dict_itemiterator_next ?_ (F.args_dict_itemiterator_next_1 _))))
  refine wpAny_bind (wpAny_pure ?_)
  refine wpAny_bind ?_
  refine wpAny_bind ?_
  first | refine wpAny_bind (wpAny_typeNameOfWhole_itemiter hT (wpAny_pure ?_)) | refine wpAny_bind (wpAny_typeNameOf_itemiter hT (wpAny_pure ?_))
  refine wpAny_bind (wpAny_fieldsOf hit rfl ?_)
  have hown:Builtin.Dict_items.ownsTuple "dict_itemiterator"=true:=by decide
  simp only [hown,if_true]
  show wpAny _ _ (if (Value.ref d == Value.none)=true then _ else _) _ _ s
  rw [if_neg (show ¬ ((Value.ref d == Value.none)=true) from Bool.false_ne_true)]
  refine wpAny_bind (wpAny_pure ?_)
  refine wpAny_bind (wpAny_dictEntries hod hdd ?_)
  rw [if_neg (by simp)]
  refine wpAny_bind (wpAny_pure ?_)
  refine wpAny_bind (wpAny_dictEpoch hod hdd ?_)
  rw [if_neg (by simp)]
  refine wpAny_pure ?_
  simp only [show ¬ ((i:Int) < 0) from by omega,if_false,Int.toNat_natCast,Array.getElem?_eq_none hge]
  refine wpAny_bind ?_
  first | refine wpAny_bind (wpAny_typeNameOfWhole_itemiter hT (wpAny_pure ?_)) | refine wpAny_bind (wpAny_typeNameOf_itemiter hT (wpAny_pure ?_))
  show wpAny _ _ (setField (.ref it) 2 .none >>= _) _ _ s
  refine wpAny_bind (wpAny_setField hit rfl (by simp) ?_)
  show wpAny _ _ (newExc (.type "StopIteration") [] >>= _) _ _ _
  refine wpAny_bind ?_
  simp only [newExc,newTuple]
  refine wpAny_bind (wpAny_newObj_type ?_ (by size_fits))
  refine wpAny_bind (m:=firstArgMember _ _) (wpAny_of_eq (a:=Value.none) (by first | rfl | (simp only [firstArgMember];rfl)) ?_)
  refine wpAny_newObj_type ?_ (by size_fits)
  simp only [raiseNew]
  refine wpAny_bind (wpAny_handled ?_)
  rw [show A.in1.handled=none from hh]
  refine wpAny_bind (wpAny_pure (wpAny_throw ?_))
  refine wpAny_bind (wpAny_isInstance (T:="StopIteration") (b:=true) ⟨_,Heap.get?_push_size _ rfl,rfl⟩ isSubtype_stop ?_)
  exact wpAny_pure (hQ _ (((Heap.SameBut.update ..).extBut.push _).push _))
theorem entry_itemiter_iter:entryFor table "dict_itemiterator.__iter__"=some Builtin.«dict_keyiterator.__iter__»:=entryFor_alias (id':="dict_keyiterator.__iter__") (by kernel_rfl) rfl (by decide +kernel) (by kernel_rfl)
theorem iter_itemiter {it d:Addr} {i n ep:Nat} {ok ov:Value} {Q:Value->Shared->Prop} (h:IsItemIter s.heap it d i n ep ok ov) (q:Q (.ref it) s):wpAny (model prog w) A (pyIter (.ref it)) Q E s:=by
  have hT:s.TypeIs (.ref it) "dict_itemiterator":=⟨_,h,rfl⟩
  refine wpAny_pyIter_slot hT F.slot_dict_itemiterator_iter (wpAny_call_entry F.slot_dict_itemiterator_iter hT entry_itemiter_iter ?_ (F.args_dict_itemiterator_iter_1 _))
  exact wpAny_pure ⟨_,rfl,"dict_itemiterator",_,hT,F.slot_dict_itemiterator_next.lookup,q⟩
end
section
variable {X:Cx} {pins:List (Addr × Obj)} {σ:St} {H:Hp} {s:Shared}
def Itd (d:Addr) (o:Obj) (kvs:List (List Key × V)):It :=
  ⟨fun i H=>H d=some (.frz o (.dT kvs))/\i < kvs.length,fun i H v H'=>∃ p ka k x,H p=none/\v=.ref p/\H'=upd H p (.tup [.ref ka,x])/\kvs[i]?=some (k,x)/\H ka=some (.tup (k.map kV)),fun i H=>H d=some (.frz o (.dT kvs))/\kvs.length <= i⟩
theorem Paired.get {α β:Type} {F:α->β->Prop}:∀ {l:List α} {m:List β} {i:Nat} {a:α},Paired F l m->l[i]?=some a->∃ b,m[i]?=some b/\F a b
  | _ :: _,_ :: _,0,_,.cons r _,h=>by cases h;exact ⟨_,rfl,r⟩
  | _ :: _,_ :: _,i + 1,_,.cons _ t,h=>by
    obtain ⟨b,e,r⟩:=Paired.get (i:=i) t (by simpa using h)
    exact ⟨b,by simpa using e,r⟩
theorem Inv.frzT {d:Addr} {o:Obj} {kvs:List (List Key × V)} {es:Array DictEntry} {ep:Nat} (I:Inv X pins σ H s) (e:H d=some (.frz o (.dT kvs))) (hd:o.data=.dict es ep) :
    s.heap.get? d=some o/\es.size=kvs.length/\∀ (i:Nat) (k:List Key) (x:V),kvs[i]?=some (k,x)->∃ (ka:Addr) (u:Value) (en:DictEntry),es[i]?=some en/\en.key=.ref ka/\en.val=u/\H ka=some (.tup (k.map kV))/\RelV x u:=by
  obtain ⟨h1,_,_,xs,r,o',es',ep',h2,_,h3,h4,_⟩:=(show ObjOk X.prog X.w H s.heap d (.frz o (.dT kvs)) from I.hok d _ e)
  rw [h1] at h2
  cases h2
  rw [hd] at h3
  cases h3
  have hl:es.size=kvs.length:=by
    rw [<- Array.length_toList,h4,List.length_map];exact (Paired.length r).symm
  refine ⟨h1,hl,fun i k x hx=>?_⟩
  obtain ⟨q,hq,f1,f2,f3⟩:=Paired.get r hx
  refine ⟨q.2.1,q.2.2,entryOfKey (tupleKind (mixKind X.prog X.w)) q,?_,rfl,rfl,f2,f3⟩
  rw [<- Array.getElem?_toList,h4,List.getElem?_map,hq];rfl
theorem turn_items {P:Program} {w:World} {K:PySem.W.Frag} {els:List Expr} {kk:Nat} {pos:Pos} {d it:Addr} {o:Obj} {kvs:List (List Key × V)} {es:Array DictEntry} {ep:Nat} (hd:o.data=.dict es ep) :
    Turn P w K (.Tuple els kk pos) (Itd d o kvs) [it] it (fun i h=>∃ ok ov,IsItemIter h it d i es.size ep ok ov) where
  mem:=by simp
  obj:=fun i h st c hc=>by
    obtain ⟨ok,ov,he⟩:=st
    simp only [List.mem_cons,List.not_mem_nil,or_false] at hc
    subst hc
    exact ⟨_,he,fun v q=>by cases q⟩
  keep:=fun i h h' st k=>let ⟨ok,ov,he⟩:=st;⟨ok,ov,k _ (by simp) _ he⟩
  item:=by
    intro X hP hw hK hc i pins s σ H E I hf st hg
    subst hP hw hK
    obtain ⟨hF,hi⟩:=hg
    obtain ⟨ok,ov,he⟩:=st
    obtain ⟨h1,hsz,hget⟩:=I.frzT hF hd
    obtain ⟨⟨k,x⟩,hkx⟩:∃ kx,kvs[i]?=some kx:=⟨_,List.getElem?_eq_getElem hi⟩
    obtain ⟨ka,u,en,e1,e2,e3,e4,ru⟩:=hget i k x hkx
    refine itemsR_item he h1 hd e1 fun h' z1 new sz keep=>?_
    rw [e2,e3] at z1 new
    refine ⟨_,rfl,wpAny_letOwnedTupleGo_items (s:={ s with heap:=h' }) z1 fun h2 z2 sb=>?_⟩
    have ilt:it < s.heap.objs.size:=Heap.lt_size he
    have k2:∀ c o,c ∉ [it]->s.heap.get? c=some o->h2.get? c=some o:=fun c o hc q=>sb.extBut _ _ (fun z=>hc (by simp [z])) (keep c o (fun z=>hc (by simp [z])) q)
    have e0:h2.get? s.heap.objs.size=some { cls:=.type "tuple",data:=.seq #[.ref ka,u] }:=sb.extBut _ _ (Nat.ne_of_gt ilt) new
    have hn:H s.heap.objs.size=none:=I.hok.fresh (Nat.le_refl _)
    refine ⟨.ref s.heap.objs.size,_,I.yieldPair (t':=s.toks) (x:=.ref ka) (y:=x) hf k2 e0 rfl ru,rfl,⟨_,ka,k,x,hn,rfl,rfl,hkx,e4⟩,⟨_,_,z2⟩,fun c hc=>?_⟩
    have hlt:c < s.heap.objs.size:=by
      simp only [List.mem_cons,List.not_mem_nil,or_false] at hc
      subst hc;exact ilt
    rw [upd_ne (Nat.ne_of_lt hlt)]
    exact (hf c hc).1
  done:=by
    intro X hP hw hK hc i pins s σ H E I hf st hg
    subst hP hw hK
    obtain ⟨hF,hi⟩:=hg
    obtain ⟨ok,ov,he⟩:=st
    obtain ⟨h1,hsz,_⟩:=I.frzT hF hd
    exact itemsR_end (I.ok.hd hc) he h1 hd (by omega) fun h' keep=>⟨rfl,I.turnedL (t':=s.toks) (ch:=[it]) (fun c o hc e=>keep c o (fun q=>hc (by simp [q])) e) hf⟩
  self:=fun _ _ _ _ _ st h=>let ⟨_,_,he⟩:=st;iter_itemiter he h
theorem Inv.freeze {d:Addr} {kvs:List (List Key × V)} (I:Inv X pins σ H s) (e:H d=some (.dT kvs)):∃ o es ep,o.data=.dict es ep/\s.heap.get? d=some o/\Inv X pins σ (upd H d (.frz o (.dT kvs))) s:=by
  have ok:=(show ObjOk X.prog X.w H s.heap d (.dT kvs) from I.hok d _ e)
  obtain ⟨_,_,_,_,o,es,ep,ho,_,hd,_⟩:=id ok
  refine ⟨o,es,ep,hd,ho,?_⟩
  have tup:∀ b xs,H b=some (.tup xs)->upd H d (.frz o (.dT kvs)) b=some (.tup xs):=fun b xs q=>by
    rw [upd_ne (ne_of q e (by intro z;cases z))];exact q
  have own:∀ b c,H b=some (.own c)->upd H d (.frz o (.dT kvs)) b=some (.own c):=fun b c q=>by
    rw [upd_ne (ne_of q e (by intro z;cases z))];exact q
  have:=I.step (H':=upd H d (.frz o (.dT kvs))) (h':=s.heap) (g':=s.gens) (d':=s.drawn) (t':=s.toks) (ch:=[]) (fun _ z=>nomatch z) (fun b o _ _ _ q _=>q) (fun b o _ _ _ q _=>⟨o.slots,q⟩)
    (fun b o _ _ n=>by
      by_cases hb:b=d
      · subst hb;rw [e] at n;cases n
      · rw [upd_ne hb];exact n) (fun b o _ q=>⟨o,q⟩) tup (fun b o u q=>by rw [upd_ne (ne_of q e (by intro z;cases z))];exact q) (fun b ps q=>⟨#[],by rw [upd_ne (ne_of q e (by intro z;cases z)),q];simp⟩) (fun m hm=>hm)
    (fun b ob q=>by
      by_cases hb:b=d
      · subst hb
        rw [upd_same] at q;cases q
        exact ⟨ho,ok.stay (fun c v _ q=>q) (fun c q=>own c _ q) tup⟩
      · rw [upd_ne hb] at q
        exact (I.hok b ob q).stay (fun c v _ q=>q) (fun c q=>own c _ q) tup) I.bare
  exact this
def iItems (td:TE):TI:=fun σ H R=>td σ H fun x H1=>∃ d kvs,x=.ref d/\H1 d=some (.dT kvs)/\∀ o,R (Itd d o kvs) (upd H1 d (.frz o (.dT kvs)))
theorem pi_items {e:Expr} {els:List Expr} {kk:Nat} {pt apos cpos:Pos} {td:TE} (ho:PE X e td) (hbase:attributeBase e "items" X.env (eval e X.env)=eval e X.env:=by rfl) (hline:(apos.endLine == cpos.line)=true:=by rfl) :
    PI X (.Tuple els kk pt) (.Call (.Attribute e "items" apos) [] [] cpos) (iItems td):=by
  intro pins s σ H R I h
  refine wpAny_Call_method0_late hbase hline (thn (ho pins s σ H _ I h) fun v s1 ⟨x,H1,I1,r1,d,kvs,ex,hd,q⟩=>?_)
  subst ex
  cases r1
  obtain ⟨o,es,ep,hdat,hob,I2⟩:=I1.freeze hd
  obtain ⟨_,hsys,_,_,o',_,_,hob',hex,_⟩:=(show ObjOk X.prog X.w H1 s1.heap d (.dT kvs) from I1.hok d _ hd)
  rw [hob] at hob'
  cases hob'
  refine ⟨"dict","dict.items",PySem.F.plainAttrs_dict,PySem.F.slot_dict_items,PySem.F.type_dict_items,⟨o,hob,hex.1⟩,fun a e=>by cases e;exact ⟨o,hob,hex.2.1⟩,Calls.callWith_builtin rfl (PySem.evalArgs_none ?_)⟩
  refine itemsR_new hsys ⟨o,hob,hex.1⟩ ?_
  refine itemsR_iter (s:={ s1 with heap:=s1.heap.push { cls:=.type "dict_items",data:=.fields #[.ref d] } }) ⟨_,Heap.get?_push_size _ rfl,rfl,rfl⟩ (Heap.get?_push_of_some _ hob) hdat ?_
  have I3:Inv X pins σ (upd H1 d (.frz o (.dT kvs))) { s1 with heap:=s1.heap.push { cls:=.type "dict_items",data:=.fields #[.ref d] } }:=I2.kept (t':=s1.toks) fun b o e=>Heap.get?_push_of_some _ e
  refine ⟨_,[_],_,_,upd H1 d (.frz o (.dT kvs)),rfl,I3.kept (t':=s1.toks) fun b o e=>Heap.get?_push_of_some _ e,turn_items hdat,⟨_,_,Heap.get?_push_size _ rfl⟩,fun b hb=>?_,q o⟩
  have e:b=(s1.heap.push { cls:=.type "dict_items",data:=.fields #[.ref d] }).objs.size:=by simpa using hb
  subst e
  exact I3.fpOk (Nat.le_refl _) (I3.hok.fresh (Nat.le_refl _))
end
end L2
namespace L2
open PySem PySem.Spec PyProof.Rows
section
variable {X:Cx}
def tDT1 (tk tv:TE):TE:=fun σ H Q=>∀ p,H p=none->tk σ (upd H p (.dT [])) fun y H1=>tv σ H1 fun x H2=>H2 p=some (.dT [])/\∃ b ks,y=.ref b/\H2 b=some (.tup (ks.map kV))/\Q (.ref p) (upd H2 p (.dT [(ks,x)]))
theorem pe_dT1 {k v:Expr} {tk tv:TE} {pos:Pos} (hu:X.A.units + 1 < cLine) (hk:PE X k tk) (hv:PE X v tv):PE X (.Dict [some k] [v] pos) (tDT1 tk tv):=by
  intro pins s σ H Q I q
  have hn:=I.hok.fresh (Nat.le_refl s.heap.objs.size)
  have I1:=I.laid (a:=s.heap.objs.size) (o:=.dT []) (h':=s.heap.push { cls:=.type "dict",data:=.dict #[] }) (t':=s.toks) (fun _ _ q=>Heap.get?_push_of_some _ q) (Nat.le_refl _) (dt_empty s.heap I.big)
  refine wpAny_Dict_any rfl rfl (by simp) (by simp) (pairTrees_cons_walk (thn (hk pins _ σ _ _ I1 (q _ hn)) fun u s1 ⟨y,H1,I2,ry,q1⟩=>thn (hv pins s1 σ H1 _ I2 q1) fun r s2 ⟨x,H2,I3,rx,e,b,ks,ey,eb,q2⟩=>pairTrees_nil_walk ?_))
  subst ey
  cases ry
  unfold storeAll
  rw [List.forIn_cons]
  obtain ⟨z,hd,xs,rel,dd⟩:=dt_of I3.hok e
  have hz:xs.length <= sizeLine:=by rw [<- Paired.length rel];exact z
  refine wpAny_bind (wpAny_bind (wpAny_dictSet_heap (hsz:=hz) (knd:=tupleKind (mixKind X.prog X.w)) (show (tupleKind (mixKind X.prog X.w)).room X.A from Nat.lt_of_succ_lt hu) (key_of I3.hok eb) dd fun h' dd' hs=>wpAny_pure ?_))
  show wpAny _ _ (forIn [] PUnit.unit _) _ _ _
  rw [List.forIn_nil]
  refine wpAny_pure ⟨.ref s.heap.objs.size,_,?_,rfl,q2⟩
  obtain ⟨qo,es,ep,hq,h2,h3,h4,_,h5⟩:=dd'
  refine d_write I3 (by rw [e];exact True.intro) hs ⟨qo,hq⟩ ⟨by show 1 <= sizeLine;decide,hd,_,(rel.put ks eb rx).keeps fun c ys ec=>?_,qo,es,ep,hq,h2,h3,h4,h5⟩
  rw [upd_ne (ne_of ec e (fun z=>nomatch z))]
  exact ec
end
section
theorem for_items {d:Addr} {o:Obj} {kvs:List (List Key × V)} {g:TG} {tb:TS} {D:Ends} {σ:St} {H:Hp} (Pv:Nat->St->Hp->Prop) (h0:Pv 0 σ H) (hl:∀ i σ H,i <= kvs.length->Pv i σ H->H d=some (.frz o (.dT kvs)))
    (hs:∀ i k x σ H p ka,kvs[i]?=some (k,x)->H p=none->H ka=some (.tup (k.map kV))->Pv i σ H->g (.ref p) σ (upd H p (.tup [.ref ka,x])) fun σ2 H2=>tb { D with nx:=Pv (i + 1),ct:=Pv (i + 1),bk:=D.nx } σ2 H2) (hd:∀ σ H,Pv kvs.length σ H->D.nx σ H) :
    ∃ W:Nat->Nat->St->Hp->Prop,(∃ m,W 0 m σ H)/\∀ i m σ H,W i m σ H ->
      ((Itd d o kvs).stop i H/\D.nx σ H) ∨ ((Itd d o kvs).go i H/\∃ N:St->Hp->Prop,(∀ σ' H',N σ' H'->∃ m',m' < m/\W (i + 1) m' σ' H')/\∀ x H',(Itd d o kvs).yld i H x H'->g x σ H' fun σ2 H2=>tb { D with nx:=N,ct:=N,bk:=D.nx } σ2 H2):=by
  refine ⟨fun i m σ H=>m=kvs.length - i/\i <= kvs.length/\Pv i σ H,⟨kvs.length,by simp,Nat.zero_le _,h0⟩,?_⟩
  rintro i m σ H ⟨rfl,hi,p⟩
  have q:=hl i σ H hi p
  rcases Nat.lt_or_ge i kvs.length with h | h
  · refine .inr ⟨⟨q,h⟩,Pv (i + 1),fun σ' H' p'=>⟨_,by omega,rfl,by omega,p'⟩,fun x H' y=>?_⟩
    obtain ⟨pp,ka,k,x',hp,rfl,rfl,hx,hk⟩:=y
    exact hs i k x' σ H pp ka hx hp hk p
  · have e:i=kvs.length:=by omega
    subst e
    exact .inl ⟨⟨q,Nat.le_refl _⟩,hd σ H p⟩
theorem wk2 {σ0:St} (hσ:σ0[0]?=some none/\σ0[1]?=some none) (x y:V):Wk σ0 ((σ0.set 0 (some x)).set 1 (some y)):=by
  refine ⟨by simp,fun j u e=>?_⟩
  by_cases h1:j=1
  · subst h1;rw [hσ.2] at e;cases e
  · rw [List.getElem?_set_ne (Ne.symm h1)]
    by_cases h2:j=0
    · subst h2;rw [hσ.1] at e;cases e
    · rw [List.getElem?_set_ne (Ne.symm h2)];exact e
end
end L2
namespace Mt
def fr (q:Rat):List Int:=[q.num,(q.den:Int)]
def cut (t b:Int):Rat:=mkRat t b.toNat
theorem cut_num {t b:Int} (hb:0 < b):(cut t b).num=t / (Int.gcd t b:Int):=by
  have h:b.toNat ≠ 0:=by omega
  unfold cut
  rw [Rat.mkRat_def,dif_neg h,Rat.num_normalize]
  have e:b.toNat=b.natAbs:=by omega
  rw [e];rfl
theorem cut_den {t b:Int} (hb:0 < b):((cut t b).den:Int)=b / (Int.gcd t b:Int):=by
  have h:b.toNat ≠ 0:=by omega
  unfold cut
  rw [Rat.mkRat_def,dif_neg h,Rat.den_normalize]
  have e:b.toNat=b.natAbs:=by omega
  rw [e,Int.natCast_ediv]
  have e2:((b.natAbs:Nat):Int)=b:=by omega
  rw [e2];rfl
theorem fr_cut {t b:Int} (hb:0 < b):fr (cut t b)=[t / (Int.gcd t b:Int),b / (Int.gcd t b:Int)]:=by
  unfold fr;rw [cut_num hb,cut_den hb]
theorem cut_mul (p q:Rat):cut (p.num * q.num) ((p.den:Int) * (q.den:Int))=p * q:=by
  unfold cut
  rw [Rat.mul_def,Rat.mkRat_def]
  have e:((p.den:Int) * (q.den:Int)).toNat=p.den * q.den:=by rw [<- Int.natCast_mul];rfl
  have hp:=p.den_nz;have hq:=q.den_nz
  have h:p.den * q.den ≠ 0:=Nat.mul_ne_zero hp hq
  rw [dif_neg (by rw [e];exact h)]
  congr 1
theorem cut_add (p q:Rat):cut (p.num * (q.den:Int) + q.num * (p.den:Int)) ((p.den:Int) * (q.den:Int))=p + q:=by
  unfold cut
  rw [Rat.add_def,Rat.mkRat_def]
  have e:((p.den:Int) * (q.den:Int)).toNat=p.den * q.den:=by rw [<- Int.natCast_mul];rfl
  have hp:=p.den_nz;have hq:=q.den_nz
  have h:p.den * q.den ≠ 0:=Nat.mul_ne_zero hp hq
  rw [dif_neg (by rw [e];exact h)]
  congr 1
theorem cut_add_same {a b c:Int} (hc:0 < c):cut a c + cut b c=cut (a + b) c:=by
  unfold cut
  have h:c.toNat ≠ 0:=by omega
  rw [Rat.mkRat_add_mkRat _ _ h h,Rat.mkRat_eq_iff (Nat.mul_ne_zero h h) h]
  have e:((c.toNat:Nat):Int)=c:=by omega
  rw [Int.natCast_mul,e]
  grind
theorem cut_zero {c:Int} (hc:0 < c):cut 0 c=0:=by
  unfold cut
  rw [Rat.mkRat_eq_zero (by omega)]
theorem cut_self {c:Int} (hc:0 < c):cut c c=1:=by
  unfold cut
  have h:c.toNat ≠ 0:=by omega
  have e:((c.toNat:Nat):Int)=c:=by omega
  have:mkRat c c.toNat=mkRat 1 1:=by
    rw [Rat.mkRat_eq_iff h (by decide),e];grind
  rw [this];rfl
theorem fr_inj {p q:Rat} (h:fr p=fr q):p=q:=by
  unfold fr at h
  simp only [List.cons.injEq,and_true] at h
  exact Rat.ext h.1 (by omega)
theorem fr_zero:fr 0=[0,1]:=rfl
structure Bd (n:Nat) (q:Rat):Prop where
  num:q.num.natAbs <= 2 ^ n
  den:q.den <= 2 ^ n
theorem Bd.mono {n m:Nat} {q:Rat} (h:Bd n q) (l:n <= m):Bd m q :=
  ⟨Nat.le_trans h.num (Nat.pow_le_pow_right (by decide) l),Nat.le_trans h.den (Nat.pow_le_pow_right (by decide) l)⟩
theorem natAbs_ediv_le (a:Int) (g:Nat):(a / (g:Int)).natAbs <= a.natAbs:=by
  rcases Nat.eq_zero_or_pos g with h | h
  · subst h;simp
  · have h0:(0:Int) < g:=by omega
    rcases Int.le_total 0 a with ha | ha
    · have h1:0 <= a / (g:Int):=Int.ediv_nonneg ha (by omega)
      have h2:a / (g:Int) <= a:=Int.ediv_le_self _ ha
      omega
    · have h1:a <= a / (g:Int):=by
        rw [Int.le_ediv_iff_mul_le h0]
        have:a * (g:Int) <= a * 1:=Int.mul_le_mul_of_nonpos_left ha (by omega)
        omega
      have h2:a / (g:Int) <= 0:=by
        have:=Int.ediv_le_ediv h0 ha
        simpa using this
      omega
theorem Bd.cut {t b:Int} {n:Nat} (hb:0 < b) (h1:t.natAbs <= 2 ^ n) (h2:b.natAbs <= 2 ^ n):Bd n (Mt.cut t b):=by
  refine ⟨?_,?_⟩
  · rw [cut_num hb];exact Nat.le_trans (natAbs_ediv_le _ _) h1
  · have:=cut_den (t:=t) hb
    have l:=natAbs_ediv_le b (Int.gcd t b)
    omega
theorem Bd.mul {n m:Nat} {p q:Rat} (a:Bd n p) (b:Bd m q):Bd (n + m) (p * q):=by
  have hp:=p.den_nz;have hq:=q.den_nz
  rw [<- cut_mul]
  refine Bd.cut ?_ ?_ ?_
  · have:=Nat.mul_pos (Nat.pos_of_ne_zero hp) (Nat.pos_of_ne_zero hq)
    rw [<- Int.natCast_mul];omega
  · rw [Int.natAbs_mul,Nat.pow_add];exact Nat.mul_le_mul a.num b.num
  · rw [Int.natAbs_mul,Nat.pow_add];exact Nat.mul_le_mul a.den b.den
def addL:List Int->List Int->List Int:=List.zipWith (· + ·)
def share (ns:List Int) (k:Nat):Rat:=cut (ns.getD k 0) ns.sum
structure Urn (n m:Nat) (ns:List Int):Prop where
  len:ns.length=n
  nn:∀ x ∈ ns,0 <= x/\x <= m
  pos:0 < ns.sum
structure Row (n m:Nat) (r:List Int):Prop where
  len:r.length=n
  nn:∀ x ∈ r,0 <= x/\x <= m
structure Rul (n m:Nat) (rs:List (List Int)):Prop where
  len:rs.length=n
  row:∀ r ∈ rs,Row n m r
theorem Rul.at {n m:Nat} {rs:List (List Int)} (h:Rul n m rs) {k:Nat} (hk:k < n):Row n m (rs.getD k []):=by
  have hk':k < rs.length:=by rw [h.len];exact hk
  have:rs.getD k []=rs[k]:=by rw [List.getD_eq_getElem?_getD,List.getElem?_eq_getElem hk'];rfl
  rw [this];exact h.row _ (List.getElem_mem hk')
theorem sum_nonneg:∀ {l:List Int},(∀ x ∈ l,0 <= x)->0 <= l.sum
  | [],_=>by simp
  | a :: l,h=>by
    rw [List.sum_cons]
    have h1:=h a List.mem_cons_self
    have h2:=sum_nonneg fun x hx=>h x (List.mem_cons_of_mem _ hx)
    omega
theorem sum_le {m:Int}:∀ {l:List Int},(∀ x ∈ l,x <= m)->l.sum <= m * (l.length:Int)
  | [],_=>by simp
  | a :: l,h=>by
    rw [List.sum_cons,List.length_cons]
    have h1:=h a List.mem_cons_self
    have h2:=sum_le fun x hx=>h x (List.mem_cons_of_mem _ hx)
    have e:m * ((l.length + 1:Nat):Int)=m * (l.length:Int) + m:=by rw [Int.natCast_add,Int.mul_add];simp
    omega
theorem addL_sum:∀ {a b:List Int},a.length=b.length->(addL a b).sum=a.sum + b.sum
  | [],[],_=>by simp [addL]
  | x :: a,y :: b,h=>by
    have ih:=addL_sum (a:=a) (b:=b) (by simpa using h)
    show ((x + y) :: addL a b).sum=_
    rw [List.sum_cons,List.sum_cons,List.sum_cons,ih];omega
  | [],_ :: _,h=>by simp at h
  | _ :: _,[],h=>by simp at h
theorem addL_mem:∀ {a b:List Int} {x:Int},x ∈ addL a b->∃ y ∈ a,∃ z ∈ b,x=y + z
  | [],b,x,h=>by simp [addL] at h
  | _ :: _,[],x,h=>by simp [addL] at h
  | p :: a,q :: b,x,h=>by
    rcases List.mem_cons.mp (show x ∈ (p + q) :: addL a b from h) with e | h
    · exact ⟨p,List.mem_cons_self,q,List.mem_cons_self,e⟩
    · obtain ⟨y,hy,z,hz,e⟩:=addL_mem h
      exact ⟨y,List.mem_cons_of_mem _ hy,z,List.mem_cons_of_mem _ hz,e⟩
theorem Urn.add {n m j:Nat} {ns r:List Int} (h:Urn n m ns) (hr:Row n j r):Urn n (m + j) (addL ns r):=by
  have hl:ns.length=r.length:=by rw [h.len,hr.len]
  refine ⟨?_,fun x hx=>?_,?_⟩
  · unfold addL;rw [List.length_zipWith,h.len,hr.len];omega
  · obtain ⟨y,hy,z,hz,e⟩:=addL_mem hx
    have:=h.nn y hy;have:=hr.nn z hz;omega
  · rw [addL_sum hl]
    have:=sum_nonneg (l:=r) fun x hx=>(hr.nn x hx).1
    have:=h.pos;omega
theorem Urn.getD {n m:Nat} {ns:List Int} (h:Urn n m ns) (k:Nat):0 <= ns.getD k 0/\ns.getD k 0 <= m:=by
  rw [List.getD_eq_getElem?_getD]
  cases e:ns[k]? with
  | none=>simp
  | some x=>exact h.nn x (List.mem_of_getElem? e)
def psh (ns:List Int) (i:Nat):Rat:=cut (ns.take i).sum ns.sum
theorem psh_zero {ns:List Int} (h:0 < ns.sum):psh ns 0=0:=by unfold psh;simp [cut_zero h]
theorem psh_succ {ns:List Int} (h:0 < ns.sum) (i:Nat):psh ns (i + 1)=psh ns i + share ns i:=by
  unfold psh share
  rw [cut_add_same h]
  congr 1
  rw [List.take_add_one,List.sum_append,List.getD_eq_getElem?_getD]
  cases ns[i]? <;> simp
theorem psh_all {ns:List Int} (h:0 < ns.sum):psh ns ns.length=1:=by
  unfold psh;rw [List.take_length,cut_self h]
def sumQ:List Rat->Rat
  | []=>0
  | q :: r=>q + sumQ r
theorem sumQ_append:∀ a b:List Rat,sumQ (a ++ b)=sumQ a + sumQ b
  | [],b=>by show sumQ b=0 + sumQ b;grind
  | q :: a,b=>by show q + sumQ (a ++ b)=q + sumQ a + sumQ b;rw [sumQ_append a b];grind
theorem sumQ_congr {α:Type} {f g:α->Rat}:∀ {l:List α},(∀ a ∈ l,f a=g a)->sumQ (l.map f)=sumQ (l.map g)
  | [],_=>rfl
  | a :: l,h=>by
    show f a + _=g a + _
    rw [h a List.mem_cons_self,sumQ_congr fun x hx=>h x (List.mem_cons_of_mem _ hx)]
end Mt
namespace Md
open PySem PySem.Spec L2 Mt
def kI (ns:List Int):List Key:=ns.map Sum.inl
theorem kI_kV (ns:List Int):(kI ns).map kV=ns.map V.int:=by
  unfold kI;rw [List.map_map];rfl
theorem kI_inj:∀ {a b:List Int},kI a=kI b->a=b
  | [],[],_=>rfl
  | [],_ :: _,h=>by cases h
  | _ :: _,[],h=>by cases h
  | x :: a,y :: b,h=>by
    have h':(Sum.inl x:Key) :: kI a=Sum.inl y :: kI b:=h
    injection h' with h1 h2
    injection h1 with h1
    rw [h1,kI_inj h2]
def dl (k:List Int):List Int->Int:=fun k'=>if k'=k then 1 else 0
def comb (rs:List (List Int)) (i:Nat):List Int->Nat->Int
  | [],_=>0
  | c :: cs,j=>c * (rs.getD j []).getD i 0 + comb rs i cs (j + 1)
def beh (u:List Int) (rs:List (List Int)) (c:List Int):List Int:=(List.range u.length).map fun i=>u.getD i 0 + comb rs i c 0
def inc (c:List Int) (i:Nat):List Int:=c.set i (c.getD i 0 + 1)
theorem comb_inc (rs:List (List Int)) (i:Nat):∀ (c:List Int) (j k:Nat),k < c.length->comb rs i (inc c k) j=comb rs i c j + (rs.getD (j + k) []).getD i 0
  | [],_,_,h=>by simp at h
  | x :: c,j,0,_=>by
    show (x + 1) * _ + comb rs i c (j + 1)=x * _ + comb rs i c (j + 1) + _
    rw [Int.add_mul];simp;omega
  | x :: c,j,k + 1,h=>by
    have ih:=comb_inc rs i c (j + 1) k (by simpa using h)
    show x * _ + comb rs i (inc c k) (j + 1)=x * _ + comb rs i c (j + 1) + _
    rw [ih,show j + 1 + k=j + (k + 1) by omega];omega
theorem beh_inc {n:Nat} {u c:List Int} {rs:List (List Int)} {k:Nat} (hu:u.length=n) (hc:c.length=n) (hR:Rul n 5 rs) (hk:k < n):beh u rs (inc c k)=addL (beh u rs c) (rs.getD k []):=by
  have hr:=hR.at hk
  have l1:(beh u rs c).length=n:=by unfold beh;simp [hu]
  apply List.ext_getElem?
  intro i
  unfold addL
  rw [List.getElem?_zipWith]
  unfold beh
  rw [List.getElem?_map,List.getElem?_map]
  by_cases hi:i < n
  · rw [List.getElem?_range (by omega)]
    rw [List.getElem?_eq_getElem (l:=rs.getD k []) (by rw [hr.len];exact hi)]
    simp only [Option.map_some]
    rw [comb_inc rs i c 0 k (by omega),Nat.zero_add]
    congr 1
    rw [show (rs.getD k []).getD i 0=(rs.getD k [])[i]'(by rw [hr.len];exact hi) by rw [List.getD_eq_getElem?_getD (l:=rs.getD k []),List.getElem?_eq_getElem (by rw [hr.len];exact hi)];rfl]
    omega
  · rw [List.getElem?_eq_none (by simp;omega)]
    simp
theorem comb_zero (rs:List (List Int)) (i:Nat):∀ (n j:Nat),comb rs i (List.replicate n 0) j=0
  | 0,_=>rfl
  | n + 1,j=>by
    show (0:Int) * _ + comb rs i (List.replicate n 0) (j + 1)=0
    rw [comb_zero rs i n (j + 1)];omega
theorem beh_zero (u:List Int) (rs:List (List Int)) (n:Nat):beh u rs (List.replicate n 0)=u:=by
  unfold beh
  apply List.ext_getElem?
  intro i
  rw [List.getElem?_map]
  by_cases hi:i < u.length
  · rw [List.getElem?_range hi,Option.map_some,comb_zero,List.getD_eq_getElem?_getD,List.getElem?_eq_getElem hi];simp
  · rw [List.getElem?_eq_none (by simp;omega),List.getElem?_eq_none (by omega)];rfl
end Md
namespace L2
open PySem PySem.Spec PyProof.Rows
theorem _root_.PySem.Heap.IsList.at' {h h':Heap} {a:Addr} {items:Array Value} (x:h.IsList a items) (e:∀ o,h.get? a=some o->h'.get? a=some o):h'.IsList a items:=let ⟨o,ho,r⟩:=x;⟨o,e _ ho,r⟩
section
variable {prog:Program} {w:World} {A:Around} {E:Value->Shared->Prop} {s:Shared}
theorem _root_.PySem.Heap.IsList.lt' {h:Heap} {a:Addr} {items:Array Value} (x:h.IsList a items):a < h.objs.size:=let ⟨_,ho,_⟩:=x;Heap.lt_size ho
structure ZipL (h:Heap) (z TI TO i1 i2 t1 t2:Addr) (k:Nat):Prop where
  zz:IsZip h z TI TO .none
  ti:IsPair h TI (.ref i1) (.ref i2)
  tO:∃ a b,IsPair h TO a b
  it1:h.IsListIter i1 t1 k
  it2:h.IsTupleIter i2 t2 k
theorem zipL_item {z TI TO i1 i2 t1 t2:Addr} {xs ys:Array Value} {k:Nat} {x y:Value} {Q:Option Value->Shared->Prop} (D:ZipD z TI TO i1 i2 t1 t2) (Z:ZipL s.heap z TI TO i1 i2 t1 t2 k) (hl1:s.heap.IsList t1 xs) (hl2:s.heap.IsTuple t2 ys)
    (hx:xs[k]?=some x) (hy:ys[k]?=some y)
    (hQ:∀ h',IsZip h' z TI TO (rawInt s.heap.objs.size)->IsPair h' TO x y->h'.IsListIter i1 t1 (k + 1)->h'.IsTupleIter i2 t2 (k + 1)->IsPair h' s.heap.objs.size x y->h'.objs.size=s.heap.objs.size + 1 ->
      (∀ c o,c ∉ [z,TO,i1,i2]->s.heap.get? c=some o->h'.get? c=some o)->Q (some (.ref s.heap.objs.size)) { s with heap:=h' }) :
    wpAny (model prog w) A (pyNext (.ref z)) Q E s:=by
  obtain ⟨hz,hTI,⟨a,b,hTO⟩,h1,h2⟩:=Z
  have hT:s.TypeIs (.ref z) "zip":=⟨_,hz,rfl⟩
  unfold pyNext
  refine wpAny_bind (wpAny_attempt (wpAny_callSpecial?_slot (name:=Str.ofString "__next__") hT F.slot_zip_next (wpAny_call_entry F.slot_zip_next hT F.entry_zip_next ?_ (F.args_zip_next_1 _))))
  show wpAny _ _ (field (.ref z) 2 >>= _) _ _ _
  refine wpAny_bind (wpAny_field hz rfl (x:=.bool false) rfl ?_)
  show wpAny _ _ (field (.ref z) 3 >>= _) _ _ _
  refine wpAny_bind (wpAny_field hz rfl (x:=.ref TI) rfl (wpAny_bind (wpAny_seqItems hTI rfl ?_)))
  show wpAny _ _ (Builtin.SmallTypes.ownedTupleIsFree (.ref z) >>= _) _ _ _
  refine wpAny_bind ?_
  unfold Builtin.SmallTypes.ownedTupleIsFree
  refine wpAny_bind (wpAny_field hz rfl (x:=.none) rfl (wpAny_pure ?_))
  simp only [if_true]
  refine wpAny_bind (wpAny_rule (wpAny_bind (wpAny_field hz rfl (x:=.ref TO) rfl (wpAny_bind (wpAny_setField_rec hz (by simp) fun g1 z1 s1=>?_)))))
  replace z1:IsZip g1 z TI TO .ellipsis:=z1
  refine wpAny_bind ?_
  simp only [List.zipIdx_cons,List.zipIdx_nil,List.forIn_cons,List.forIn_nil]
  refine wpAny_bind (wpAny_bind (wpAny_onRaise ?_))
  show wpAny _ _ (Builtin.SmallTypes.nextOf (.ref i1) >>= _) _ _ _
  refine wpAny_bind (wpAny_nextOf_list_item (h1.at fun o e=>s1.extBut _ o D.a3 e) (hl1.at' fun o e=>s1.extBut _ o D.e1 e) hx fun g2 j1 s2=>wpAny_pure ?_)
  have o2:IsPair g2 TO a b:=s2.extBut _ _ D.c1 (s1.extBut _ _ D.a2 hTO)
  refine wpAny_bind (wpAny_seqItems o2 rfl (wpAny_bind (wpAny_updateSeq_pair o2 fun g3 o3 s3=>?_)))
  replace o3:IsPair g3 TO x b:=o3
  refine wpAny_bind (wpAny_letGo (wpAny_pure (wpAny_bind (wpAny_bind (wpAny_onRaise ?_)))))
  show wpAny _ _ (Builtin.SmallTypes.nextOf (.ref i2) >>= _) _ _ _
  refine wpAny_bind (nextT_item (h2.at fun o e=>s3.extBut _ o D.c2.symm (s2.extBut _ o D.d1.symm (s1.extBut _ o D.a4 e))) (hl2.at fun o e=>s3.extBut _ o D.f2 (s2.extBut _ o D.f3 (s1.extBut _ o D.f1 e))) hy fun g4 j2 s4=>wpAny_pure ?_)
  have o4:IsPair g4 TO x b:=s4.extBut _ _ D.c2 o3
  refine wpAny_bind (wpAny_seqItems o4 rfl (wpAny_bind (wpAny_updateSeq_pair o4 fun g5 o5 s5=>?_)))
  replace o5:IsPair g5 TO x y:=o5
  refine wpAny_bind (wpAny_letGo (wpAny_pure (wpAny_pure ?_)))
  refine wpAny_bind (wpAny_seqItems o5 rfl (wpAny_bind (wpAny_newTuple ?_)))
  have hsz:g5.objs.size=s.heap.objs.size:=by rw [s5.1,s4.1,s3.1,s2.1,s1.1]
  have z5:IsZip g5 z TI TO .ellipsis:=s5.extBut _ _ D.a2.symm (s4.extBut _ _ D.a4.symm (s3.extBut _ _ D.a2.symm (s2.extBut _ _ D.a3.symm z1)))
  have k5:∀ c o,c ∉ [z,TO,i1,i2]->s.heap.get? c=some o->g5.get? c=some o:=fun c o hc e=>by
    simp only [List.mem_cons,List.not_mem_nil,or_false,not_or] at hc
    exact s5.extBut _ _ hc.2.1 (s4.extBut _ _ hc.2.2.2 (s3.extBut _ _ hc.2.1 (s2.extBut _ _ hc.2.2.1 (s1.extBut _ _ hc.1 e))))
  have m1:g5.IsListIter i1 t1 (k + 1):=j1.at fun o e=>s5.extBut _ o D.c1.symm (s4.extBut _ o D.d1 (s3.extBut _ o D.c1.symm e))
  have m2:g5.IsTupleIter i2 t2 (k + 1):=j2.at fun o e=>s5.extBut _ o D.c2.symm e
  show wpAny _ _ (Builtin.SmallTypes.ownedTupleHandOut (.ref z) (.ref g5.objs.size) >>= _) _ _ _
  refine wpAny_bind ?_
  unfold Builtin.SmallTypes.ownedTupleHandOut
  have z6:IsZip (g5.push { cls:=.type "tuple",data:=.seq #[x,y] }) z TI TO .ellipsis:=Heap.get?_push_of_some _ z5
  refine wpAny_bind (wpAny_setField_rec z6 (by simp) fun g7 z7 s7=>?_)
  replace z7:IsZip g7 z TI TO (rawInt g5.objs.size):=z7
  refine wpAny_setField_rec z7 (by simp) fun g8 z8 s8=>?_
  replace z8:IsZip g8 z TI TO (rawInt g5.objs.size):=z8
  have up:∀ c o,c ≠ z->g5.get? c=some o->g8.get? c=some o:=fun c o hc e=>s8.extBut _ _ hc (s7.extBut _ _ hc (Heap.get?_push_of_some _ e))
  have new8:IsPair g8 g5.objs.size x y:=s8.extBut _ _ (Nat.ne_of_gt (Heap.lt_size z5)) (s7.extBut _ _ (Nat.ne_of_gt (Heap.lt_size z5)) (Heap.get?_push_size _ rfl))
  have size8:g8.objs.size=g5.objs.size + 1:=by rw [s8.1,s7.1,Heap.size_push]
  rw [hsz] at z8 new8 size8
  refine wpAny_pure ⟨_,rfl,wpAny_pure ?_⟩
  show Q (some (.ref g5.objs.size)) _
  rw [hsz]
  exact hQ g8 z8 (up _ _ D.a2 o5) (m1.at fun o e=>up _ o D.a3 e) (m2.at fun o e=>up _ o D.a4 e) new8 size8 fun c o hc e=>up c o (fun q=>hc (by simp [q])) (k5 c o hc e)
theorem zipL_end {z TI TO i1 i2 t1 t2:Addr} {xs:Array Value} {k:Nat} {Q:Option Value->Shared->Prop} (hh:A.handled=none) (D:ZipD z TI TO i1 i2 t1 t2) (Z:ZipL s.heap z TI TO i1 i2 t1 t2 k) (hl1:s.heap.IsList t1 xs)
    (hx:xs[k]?=none) (hQ:∀ h',(∀ c o,c ∉ [z,TO,i1,i2]->s.heap.get? c=some o->h'.get? c=some o)->Q none { s with heap:=h' }):wpAny (model prog w) A (pyNext (.ref z)) Q E s:=by
  obtain ⟨hz,hTI,⟨a,b,hTO⟩,h1,h2⟩:=Z
  have hT:s.TypeIs (.ref z) "zip":=⟨_,hz,rfl⟩
  unfold pyNext
  refine wpAny_bind (wpAny_attempt (wpAny_callSpecial?_slot (name:=Str.ofString "__next__") hT F.slot_zip_next (wpAny_call_entry F.slot_zip_next hT F.entry_zip_next ?_ (F.args_zip_next_1 _))))
  show wpAny _ _ (field (.ref z) 2 >>= _) _ _ _
  refine wpAny_bind (wpAny_field hz rfl (x:=.bool false) rfl ?_)
  show wpAny _ _ (field (.ref z) 3 >>= _) _ _ _
  refine wpAny_bind (wpAny_field hz rfl (x:=.ref TI) rfl (wpAny_bind (wpAny_seqItems hTI rfl ?_)))
  show wpAny _ _ (Builtin.SmallTypes.ownedTupleIsFree (.ref z) >>= _) _ _ _
  refine wpAny_bind ?_
  unfold Builtin.SmallTypes.ownedTupleIsFree
  refine wpAny_bind (wpAny_field hz rfl (x:=.none) rfl (wpAny_pure ?_))
  simp only [if_true]
  refine wpAny_bind (wpAny_rule (wpAny_bind (wpAny_field hz rfl (x:=.ref TO) rfl (wpAny_bind (wpAny_setField_rec hz (by simp) fun g1 z1 s1=>?_)))))
  replace z1:IsZip g1 z TI TO .ellipsis:=z1
  refine wpAny_bind ?_
  simp only [List.zipIdx_cons,List.zipIdx_nil,List.forIn_cons,List.forIn_nil]
  refine wpAny_bind (wpAny_bind (wpAny_onRaise ?_))
  show wpAny _ _ (Builtin.SmallTypes.nextOf (.ref i1) >>= _) _ _ _
  refine wpAny_bind (wpAny_nextOf_list_end hh (h1.at fun o e=>s1.extBut _ o D.a3 e) (hl1.at' fun o e=>s1.extBut _ o D.e1 e) hx fun g2 e s2 he=>?_)
  obtain ⟨oe,hoe,hce⟩:=he
  have z2:IsZip g2 z TI TO .ellipsis:=s2 _ _ D.a3.symm z1
  have hez:e ≠ z:=fun q=>by subst q;rw [z2] at hoe;cases hoe;simp at hce
  refine wpAny_setField_rec z2 (by simp) fun g3 _ s3=>?_
  refine wpAny_bind (wpAny_isInstance (T:="StopIteration") (b:=true) ⟨oe,s3.extBut _ _ hez hoe,hce⟩ isSubtype_stop (wpAny_pure (hQ g3 fun c o hc q=>?_)))
  simp only [List.mem_cons,List.not_mem_nil,or_false,not_or] at hc
  exact s3.extBut _ _ hc.1 (s2 _ _ hc.2.2.1 (s1.extBut _ _ hc.1 q))
abbrev lit (t:Addr):Obj:={ cls:=.type "list_iterator",data:=.fields #[.ref t,.int 0 0] }
abbrev zipHpL (h:Heap) (t1 t2:Addr):Heap:=((((h.push (lit t1)).push (tit t2)).push (tpr (.ref h.objs.size) (.ref (h.objs.size + 1)))).push (tpr .none .none)).push (zob (h.objs.size + 2) (h.objs.size + 3))
theorem zip_newL (t1 t2:Addr) (xs ys:Array Value) :
    Meets (Builtin.«zip.__new__» ⟨[.type "zip",.ref t1,.ref t2],[]⟩) (fun _ R s=>s.heap.IsList t1 xs/\s.heap.IsTuple t2 ys/\R (.ok (.ret (.ref (s.heap.objs.size + 4)))) { s with heap:=zipHpL s.heap t1 t2 }) :=
  .of_wp fun prog w A R s h=>by
    obtain ⟨hp,g,d,tk,os⟩:=s;obtain ⟨hl1,hl2,h⟩:=h
    have hsub:=sub_zip
    have hL1:Heap.IsList (Shared.heap ⟨hp,g,d,tk,os⟩) t1 xs:=hl1
    have hL2:Heap.IsTuple (Shared.heap ⟨hp.push (lit t1),g,d,tk,os⟩) t2 ys:=Heap.IsTuple.push hl2 _
    wp_walk using wpAny_pyIter_list hL1,wpAny_pyIter_tuple hL2
    simp only [Heap.size_push]
    exact ⟨_,rfl,h⟩
theorem call_zipL {t1 t2:Addr} {xs ys:Array Value} {Q:Value->Shared->Prop} (hl1:s.heap.IsList t1 xs) (hl2:s.heap.IsTuple t2 ys)
    (h:∀ h',ZipL h' (s.heap.objs.size + 4) (s.heap.objs.size + 2) (s.heap.objs.size + 3) s.heap.objs.size (s.heap.objs.size + 1) t1 t2 0->(∀ c o,s.heap.get? c=some o->h'.get? c=some o)->h'.objs.size=s.heap.objs.size + 5 ->
      Q (.ref (s.heap.objs.size + 4)) { s with heap:=h' }):wpAny (model prog w) A (call (.type "zip") [.ref t1,.ref t2]) Q E s:=by
  refine callType_new F.called_zip (by decide) (F.typeCall_zip_2 _ _) (F.newCall_zip_2 _ _) (fun obj=>F.args_object_init_3 obj _ _) F.entry_zip_new (zip_newL t1 t2 xs ys) ⟨hl1,hl2,?_⟩
  have up:∀ {b:Addr} {o:Obj} (h0:Heap) (x:Obj),h0.get? b=some o->(h0.push x).get? b=some o:=fun _ _ e=>Heap.get?_push_of_some _ e
  have here:∀ (h0:Heap) (x:Obj) (n:Nat),x.isFreed=false->h0.objs.size=n->(h0.push x).get? n=some x:=fun h0 x n hf e=>by subst e;exact Heap.get?_push_size _ hf
  have Z:ZipL (zipHpL s.heap t1 t2) (s.heap.objs.size + 4) (s.heap.objs.size + 2) (s.heap.objs.size + 3) s.heap.objs.size (s.heap.objs.size + 1) t1 t2 0 :=
    ⟨here _ _ _ rfl (by simp only [Heap.size_push]),up _ _ (up _ _ (here _ _ _ rfl (by simp only [Heap.size_push]))),⟨_,_,up _ _ (here _ _ _ rfl (by simp only [Heap.size_push]))⟩,
      ⟨_,up _ _ (up _ _ (up _ _ (up _ _ (here _ _ _ rfl rfl)))),rfl,rfl⟩,⟨_,up _ _ (up _ _ (up _ _ (here _ _ _ rfl (by simp only [Heap.size_push])))),rfl,rfl⟩⟩
  exact ⟨⟨_,Z.zz,rfl⟩,h _ Z (fun c o e=>up _ _ (up _ _ (up _ _ (up _ _ (up _ _ e))))) (by simp only [Heap.size_push])⟩
end
section
variable {X:Cx} {pins:List (Addr × Obj)} {σ:St} {H:Hp} {s:Shared}
def ItzL (K:PySem.W.Frag) (a b:Addr):It :=
  ⟨fun i H=>∃ xs ys x y,SqL K H a xs/\SqT K H b ys/\xs[i]?=some x/\ys[i]?=some y,fun i H v H'=>∃ p x y,H p=none/\v=.ref p/\H'=upd H p (.tup [x,y])/\(∀ xs,SqL K H a xs->xs[i]?=some x)/\∀ ys,SqT K H b ys->ys[i]?=some y,
    fun i H=>∃ xs,SqL K H a xs/\xs.length <= i⟩
theorem turn_zipL {P:Program} {w:World} {K:PySem.W.Frag} {es:List Expr} {kk:Nat} {pos:Pos} {a b z TI TO i1 i2:Addr} (D:ZipD z TI TO i1 i2 a b) :
    Turn P w K (.Tuple es kk pos) (ItzL K a b) [z,TI,TO,i1,i2] z (fun i h=>ZipL h z TI TO i1 i2 a b i) where
  mem:=by simp
  obj:=fun i h st c hc=>by
    obtain ⟨hz,hTI,⟨_,_,hTO⟩,⟨_,h1,_,d1⟩,⟨_,h2,_,d2⟩⟩:=st
    simp only [List.mem_cons,List.not_mem_nil,or_false] at hc
    rcases hc with rfl | rfl | rfl | rfl | rfl
    · exact ⟨_,hz,fun v q=>by cases q⟩
    · exact ⟨_,hTI,fun v q=>by cases q⟩
    · exact ⟨_,hTO,fun v q=>by cases q⟩
    · exact ⟨_,h1,fun v q=>by rw [d1] at q;cases q⟩
    · exact ⟨_,h2,fun v q=>by rw [d2] at q;cases q⟩
  keep:=fun i h h' st k=>by
    obtain ⟨hz,hTI,⟨_,_,hTO⟩,h1,h2⟩:=st
    exact ⟨k _ (by simp) _ hz,k _ (by simp) _ hTI,⟨_,_,k _ (by simp) _ hTO⟩,h1.at fun o e=>k _ (by simp) o e,h2.at fun o e=>k _ (by simp) o e⟩
  item:=by
    intro X hP hw hK hc i pins s σ H E I hf st hg
    subst hP hw hK
    obtain ⟨xs,ys,x,y,ha,hb,hx,hy⟩:=hg
    obtain ⟨its,r1,p1,_⟩:=I.list ha
    obtain ⟨its2,r2,p2,_⟩:=I.tuple hb
    obtain ⟨u,hu,ru⟩:=r1.get hx
    obtain ⟨v,hv,rv⟩:=r2.get hy
    refine zipL_item D st (show s.heap.IsList a its.toArray from p1.isList) (show s.heap.IsTuple b its2.toArray from p2) (x:=u) (y:=v) (by simpa using hu) (by simpa using hv) fun h' z1 o1 j1 j2 new sz keep=>?_
    refine ⟨_,rfl,wpAny_letOwnedTupleGo_zip (s:={ s with heap:=h' }) z1 fun h2 z2 sb=>?_⟩
    have hn:H s.heap.objs.size=none:=I.hok.fresh (Nat.le_refl _)
    have zlt:z < s.heap.objs.size:=Heap.lt_size st.zz
    have k2:∀ c o,c ∉ [z,TI,TO,i1,i2]->s.heap.get? c=some o->h2.get? c=some o:=fun c o hc e=>by
      simp only [List.mem_cons,List.not_mem_nil,or_false,not_or] at hc
      exact sb.extBut _ _ hc.1 (keep c o (by simp only [List.mem_cons,List.not_mem_nil,or_false,not_or];exact ⟨hc.1,hc.2.2.1,hc.2.2.2.1,hc.2.2.2.2⟩) e)
    have e0:h2.get? s.heap.objs.size=some { cls:=.type "tuple",data:=.seq #[u,v] }:=sb.extBut _ _ (Nat.ne_of_gt zlt) new
    have pne:∀ c o,s.heap.get? c=some o->c ≠ s.heap.objs.size:=fun c o e=>Nat.ne_of_lt (Heap.lt_size e)
    have nit:∀ c u,H c=some u->c ∉ [z,TI,TO,i1,i2]:=fun c u e q=>by rw [(hf c q).1] at e;cases e
    have hok:HOk X.prog X.w (upd H s.heap.objs.size (.tup [x,y])) h2:=fun c ob e=>by
      by_cases hq:c=s.heap.objs.size
      · subst hq
        rw [upd_same] at e;cases e
        exact ⟨by show 2 <= sizeLine;decide,[u,v],.cons ru (.cons rv .nil),⟨_,e0,rfl,_,rfl⟩⟩
      · rw [upd_ne hq] at e
        refine (I.hok c ob e).stay (fun d w' hd q=>k2 d w' ?_ q) (fun d q=>by rw [upd_ne (ne_of_none q hn)];exact q) fun d xs q=>by rw [upd_ne (ne_of_none q hn)];exact q
        rcases hd with rfl | hd
        · exact nit d ob e
        · exact nit d _ hd
    have I2:Inv X pins σ (upd H s.heap.objs.size (.tup [x,y])) { s with heap:=h2 }:=by
      refine I.step (g':=s.gens) (d':=s.drawn) (t':=s.toks) (ch:=[z,TI,TO,i1,i2]) (fun c hc=>⟨(hf c hc).2.2.2.1,(hf c hc).2.1,(hf c hc).2.2.2.2.1,(hf c hc).2.2.2.2.2⟩) (fun c o _ _ hc e _=>k2 c o hc e) (fun c o _ _ hc e _=>⟨o.slots,k2 c o hc e⟩)
        (fun c o _ e n=>by rw [upd_ne (pne c o e)];exact n) (fun c o hc e=>⟨o,k2 c o hc e⟩) (fun c xs e=>by rw [upd_ne (ne_of_none e hn)];exact e) (fun c o u e=>by rw [upd_ne (ne_of_none e hn)];exact e) (fun c ps e=>⟨#[],by rw [upd_ne (ne_of_none e hn),e];simp⟩) (fun m hm=>?_) hok I.bare
      obtain ⟨o,es,ep,ho,r⟩:=hm
      exact ⟨o,es,ep,k2 _ o (fun q=>(hf _ q).2.1 rfl) ho,r⟩
    refine ⟨.ref s.heap.objs.size,_,I2,rfl,⟨_,x,y,hn,rfl,rfl,fun xs' h'=>by rw [I.list_inj h' ha];exact hx,fun ys' h'=>by rw [I.tuple_inj h' hb];exact hy⟩,?_,fun c hc=>?_⟩
    · exact ⟨z2,sb.extBut _ _ D.a1 (keep _ _ (by simp only [List.mem_cons,List.not_mem_nil,or_false,not_or];exact ⟨D.a1,D.b1,D.b2,D.b3⟩) st.ti),⟨_,_,sb.extBut _ _ D.a2 o1⟩,j1.at fun o e=>sb.extBut _ o D.a3 e,j2.at fun o e=>sb.extBut _ o D.a4 e⟩
    · have hlt:c < s.heap.objs.size:=by
        obtain ⟨hz,hTI,⟨_,_,hTO⟩,⟨_,h1,_⟩,⟨_,h2,_⟩⟩:=st
        simp only [List.mem_cons,List.not_mem_nil,or_false] at hc
        rcases hc with rfl | rfl | rfl | rfl | rfl
        · exact Heap.lt_size hz
        · exact Heap.lt_size hTI
        · exact Heap.lt_size hTO
        · exact Heap.lt_size h1
        · exact Heap.lt_size h2
      rw [upd_ne (Nat.ne_of_lt hlt)]
      exact (hf c hc).1
  done:=by
    intro X hP hw hK hc i pins s σ H E I hf st hg
    subst hP hw hK
    obtain ⟨xs,ha,hx⟩:=hg
    obtain ⟨its,r1,p1,_⟩:=I.list ha
    have hl:=r1.length
    refine zipL_end (I.ok.hd hc) D st (show s.heap.IsList a its.toArray from p1.isList) (by simp;omega) fun h' keep=>⟨rfl,I.turnedL (t':=s.toks) (ch:=[z,TI,TO,i1,i2]) (fun c o hc e=>keep c o (fun q=>hc ?_) e) hf⟩
    simp only [List.mem_cons,List.not_mem_nil,or_false] at q ⊢
    rcases q with q | q | q | q
    · exact .inl q
    · exact .inr (.inr (.inl q))
    · exact .inr (.inr (.inr (.inl q)))
    · exact .inr (.inr (.inr (.inr q)))
  self:=fun _ _ _ _ _ st h=>wpAny_pyIter_zip st.zz h
end
end L2
namespace L2
open PySem PySem.Spec PyProof.Rows
section
variable {X:Cx} {K:PySem.W.Frag}
def iZip2 (K:PySem.W.Frag) (ta:TA):TI:=fun σ H R=>ta σ H fun vs H1=>∃ a b xs ys,vs=[.ref a,.ref b]/\SqT K H1 b ys/\((SqT K H1 a xs/\R (Itz K a b) H1) ∨ (SqL K H1 a xs/\R (ItzL K a b) H1))
theorem pi_zip2 {e1 e2:Expr} {es:List Expr} {kk:Nat} {pt p pos:Pos} {ta:TA} (hg:Gl X "zip") (hm:X.mg "zip"=none) (ha:PA X [e1,e2] ta) (hs:starEach [e1,e2] X.env=[(false,eval e1 X.env),(false,eval e2 X.env)]:=by rfl) (hs2:starEach [e2] X.env=[(false,eval e2 X.env)]:=by rfl) :
    PI X (.Tuple es kk pt) (.Call (.Name "zip" p) [e1,e2] [] pos) (iZip2 X.K ta):=by
  intro pins s σ H R I h
  refine Call_ (ld_blt I hg hm boot_zip (PyProof.Rows.callWith_type1 (thn (ha pos pins s σ H _ I h) fun us s1 ⟨vs,H1,I1,r1,q1⟩=>?_) (by rw [hs,hs2]) (by rw [hs2];rfl)))
  obtain ⟨a,b,xs,ys,rfl,hy,hx⟩:=q1
  cases r1 with
  | cons ra rr =>
    cases rr with
    | cons rb rr =>
      cases rr
      cases ra
      cases rb
      obtain ⟨its2,r2,p2,_⟩:=I1.tuple hy
      have lo:∀ c,c ∈ [s1.heap.objs.size + 4,s1.heap.objs.size + 2,s1.heap.objs.size + 3,s1.heap.objs.size,s1.heap.objs.size + 1]->s1.heap.objs.size <= c:=fun c hc=>by
        simp only [List.mem_cons,List.not_mem_nil,or_false] at hc
        rcases hc with rfl | rfl | rfl | rfl | rfl <;> first | exact Nat.le_add_right _ _ | exact Nat.le_refl _
      rcases hx with ⟨hx,q⟩ | ⟨hx,q⟩
      · obtain ⟨its,r1,p1,_⟩:=I1.tuple hx
        refine call_zipT (show s1.heap.IsTuple a its.toArray from p1) (show s1.heap.IsTuple b its2.toArray from p2) fun h' Z keep sz=>?_
        refine wpAny_pyIter_zip (s:={ s1 with heap:=h' }) Z.zz ?_
        have I2:Inv X pins σ H1 { s1 with heap:=h' }:=I1.kept (t':=s1.toks) keep
        exact ⟨s1.heap.objs.size + 4,[s1.heap.objs.size + 4,s1.heap.objs.size + 2,s1.heap.objs.size + 3,s1.heap.objs.size,s1.heap.objs.size + 1],_,_,H1,rfl,I2,turn_zip (ZipD.new p1.lt p2.lt),Z,fun c hc=>I1.fpOk (lo c hc) (I1.hok.fresh (lo c hc)),q⟩
      · obtain ⟨its,r1,p1,_⟩:=I1.list hx
        refine call_zipL (show s1.heap.IsList a its.toArray from p1.isList) (show s1.heap.IsTuple b its2.toArray from p2) fun h' Z keep sz=>?_
        refine wpAny_pyIter_zip (s:={ s1 with heap:=h' }) Z.zz ?_
        have I2:Inv X pins σ H1 { s1 with heap:=h' }:=I1.kept (t':=s1.toks) keep
        exact ⟨s1.heap.objs.size + 4,[s1.heap.objs.size + 4,s1.heap.objs.size + 2,s1.heap.objs.size + 3,s1.heap.objs.size,s1.heap.objs.size + 1],_,_,H1,rfl,I2,turn_zipL (ZipD.new p1.isList.lt' p2.lt),Z,fun c hc=>I1.fpOk (lo c hc) (I1.hok.fresh (lo c hc)),q⟩
theorem pi_zip2K (h:X.K=K) {e1 e2:Expr} {es:List Expr} {kk:Nat} {pt p pos:Pos} {ta:TA} (hg:Gl X "zip") (hm:X.mg "zip"=none) (ha:PA X [e1,e2] ta) (hs:starEach [e1,e2] X.env=[(false,eval e1 X.env),(false,eval e2 X.env)]:=by rfl) (hs2:starEach [e2] X.env=[(false,eval e2 X.env)]:=by rfl) :
    PI X (.Tuple es kk pt) (.Call (.Name "zip" p) [e1,e2] [] pos) (iZip2 K ta):=by subst h;exact pi_zip2 hg hm ha hs hs2
end
section
variable {prog:Program} {w:World} {A:Around} {E:Value->Shared->Prop} {s:Shared}
end
section
variable {X:Cx}
end
end L2
namespace L2
open PySem PySem.Spec PyProof.Rows
theorem fn_of0 {CX:CXT} {P:Program} {w:World} {K:PySem.W.Frag} {mg:Str->Option Value} {base:Heap} {f:Addr} {name qual:Str} {params:Arguments} {body:List Stmt} {scope:Scope} {dV kV doc pm cdv ct oc:Value} {an od:Option Addr}
    {osl:Array (Option Value)} {N ps:List Str} {sp:Sp} (lk:K.lookup f=some ⟨oc,od,.func (PySem.W.fnOf name qual params body scope dV kV doc pm an cdv ct),osl⟩) (hcd:PySem.W.codeIn K cdv qual=true) (S:FnScope N ps scope)
    (len:∀ vs H Q E,sp vs H Q E->vs.length=ps.length)
    (hbody:∀ (A:Around) (outer:List Env) (s:Shared) (H:Hp) (vs:List V) (Q:VK) (E:XK),sp vs H Q E ->
      ∃ t,PSs (cxOf CX P w K mg base N qual scope f cdv A outer s H E) body t/\t { nx:=fun _ H'=>Q .non H',rt:=Q } (start N vs) H) :
    FnOk P w K mg base CX 0 f (PySem.W.fnOf name qual params body scope dV kV doc pm an cdv ct) ps sp:=by
  refine ⟨len,fun A outer s H args us vs Q E hr e0 hb r hsp=>?_⟩
  have hl:=len _ _ _ _ hsp
  have KX:K.In s.heap:=e0.mod.kin.keeps fun b o e=>(e0.bs b o e).1
  have lim:s.heap.NoLimit:=e0.mod.nolimit.keeps fun b o e=>(e0.bs b o e).1
  have hkind:∀ y ∈ ps.zip us,scope.names.lookup y.1=some .local ∨ (scope.names.lookup y.1=some .cell/\((cellsFrom (s.heap.objs.size + 1) scope.names []).lookup y.1).isSome=true):=fun ⟨n,v⟩ hy=>by
    rcases S.par n (List.of_mem_zip hy).1 with q | q
    · exact .inl q
    · exact .inr ⟨q,PySem.W.cellsFrom_some _ _ _ (.inl q)⟩
  refine codeAny_call_function hr.depth (KX _ _ lk) rfl S.co S.gen rfl (PySem.W.codeRec_of KX hcd) (hb _ _ _ _ ?_)
  refine wpAny_newFunctionEnv_cells S.kind hkind fun env he s1 x=>?_
  subst he
  refine ⟨lim.keeps x.toInCall.keep,codeAny_func ?_⟩
  obtain ⟨t,ht,hq⟩:=hbody A outer s H vs Q E hsp
  have I:Inv (cxOf CX P w K mg base N qual scope f cdv A outer s H E) [] (start N vs) H s1:=inv_start S hr.hd e0 hl r x
  refine wpAny_mono (ht [] s1 (start N vs) H _ I hq) (fun fl s' hs=>?_) fun e s' hs=>hs
  have fin:∀ {σ':St} {H':Hp} {v:V} {u:Value},Inv (cxOf CX P w K mg base N qual scope f cdv A outer s H E) [] σ' H' s'->RelV v u->Q v H'->CE outer P w H s Q u s' :=
    fun {σ' H' v u} J rv q=>⟨v,H',J.os,J.bare,J.base,J.hok,rv,q⟩
  cases fl with
  | ret u =>
    obtain ⟨v,σ',H',J,rv,q⟩:=hs
    exact fin J rv q
  | next =>
    obtain ⟨σ',H',J,q⟩:=hs
    exact fin (v:=V.non) (u:=Value.none) J rfl q
  | brk =>
    obtain ⟨_,_,_,q⟩:=hs
    exact False.elim q
  | cont =>
    obtain ⟨_,_,_,q⟩:=hs
    exact False.elim q
theorem Fun.ok0 {P:Program} {w:World} {K:PySem.W.Frag} {mg:Str->Option Value} {base:Heap} {x qual:Str} {st:Stmt} {f:Addr} {fd:FuncData} {N ps:List Str} {sp:Sp} (F:Fun K x qual st f fd) (S:FnScope N ps (defScope st)) (len:∀ vs H Q E,sp vs H Q E->vs.length=ps.length)
    (hbody:∀ (cdv:Value) (A:Around) (outer:List Env) (s:Shared) (H:Hp) (vs:List V) (Q:VK) (E:XK),sp vs H Q E ->
      ∃ t,PSs (cxOf CX0 P w K mg base N qual (defScope st) f cdv A outer s H E).nox (defBody st) t/\t { nx:=fun _ H'=>Q .non H',rt:=Q } (start N vs) H):FnOk P w K mg base CX0 0 f fd ps sp:=by
  obtain ⟨oc,od,kV,doc,pm,an,cdv,ct,osl,rfl,lk,hcd⟩:=F.ex
  refine fn_of0 lk hcd S len fun A outer s H vs Q E hsp=>?_
  obtain ⟨t,h,q⟩:=hbody cdv A outer s H vs Q E hsp
  exact ⟨t,h.nox,q⟩
theorem for_zip {K:PySem.W.Frag} {a b:Addr} {xs ys:List V} {g:TG} {tb:TS} {D:Ends} {σ:St} {H:Hp} (hxy:xs.length=ys.length) (Pv:Nat->St->Hp->Prop) (h0:Pv 0 σ H) (hl:∀ i σ H,i <= xs.length->Pv i σ H->SqT K H a xs/\SqT K H b ys)
    (hs:∀ i x y σ H p,xs[i]?=some x->ys[i]?=some y->H p=none->Pv i σ H->g (.ref p) σ (upd H p (.tup [x,y])) fun σ2 H2=>tb { D with nx:=Pv (i + 1),ct:=Pv (i + 1),bk:=D.nx } σ2 H2) (hd:∀ σ H,Pv xs.length σ H->D.nx σ H) :
    ∃ W:Nat->Nat->St->Hp->Prop,(∃ m,W 0 m σ H)/\∀ i m σ H,W i m σ H ->
      ((Itz K a b).stop i H/\D.nx σ H) ∨ ((Itz K a b).go i H/\∃ N:St->Hp->Prop,(∀ σ' H',N σ' H'->∃ m',m' < m/\W (i + 1) m' σ' H')/\∀ x H',(Itz K a b).yld i H x H'->g x σ H' fun σ2 H2=>tb { D with nx:=N,ct:=N,bk:=D.nx } σ2 H2):=by
  refine ⟨fun i m σ H=>m=xs.length - i/\i <= xs.length/\Pv i σ H,⟨xs.length,by simp,Nat.zero_le _,h0⟩,?_⟩
  rintro i m σ H ⟨rfl,hi,p⟩
  obtain ⟨q1,q2⟩:=hl i σ H hi p
  by_cases hlt:i < xs.length
  · refine .inr ⟨⟨xs,ys,xs[i],ys[i]'(by omega),q1,q2,by simp [hlt],by rw [List.getElem?_eq_getElem (by omega)]⟩,Pv (i + 1),fun σ' H' p'=>⟨xs.length - (i + 1),by omega,rfl,hlt,p'⟩,fun v H' yld=>?_⟩
    obtain ⟨r,x,y,hr,rfl,rfl,hx,hy⟩:=yld
    exact hs i x y σ _ r (hx xs q1) (hy ys q2) hr p
  · have e:i=xs.length:=by omega
    subst e
    exact .inl ⟨⟨xs,q1,Nat.le_refl _⟩,hd σ H p⟩
section
variable {X:Cx}
def ipD:TIp:=fun x y H Q=>∃ i j,x=.int i/\y=.int j/\(0 < j/\j.natAbs.log2 < 9000)/\Q (.int (i / j)) H
theorem ip_fdiv:PIp X .FloorDiv ipD:=by
  intro pins s σ H x y v u Q I r1 r2 h
  obtain ⟨i,j,e1,e2,hb,q⟩:=h
  subst e1;subst e2
  obtain ⟨t,rfl⟩:=r1
  obtain ⟨t',rfl⟩:=r2
  refine AutoIntOps.ifloordiv_1 (by have:=hb.1;simp;omega) (by rw [PyProof.noPylong_of_log2 hb.2];decide) ?_
  have e:i.fdiv j=i / j:=Int.fdiv_eq_ediv_of_nonneg i (by have:=hb.1;omega)
  rw [e]
  exact ⟨.int _,H,I.tok _,⟨_,rfl⟩,q⟩
end
end L2
namespace G
open PySem PySem.Spec PyProof.Rows L2 Mt
structure Errs (K:PySem.W.Frag) (mg:Str->Option Value) (c:Nat->Addr) (B:Addr):Prop where
  e0:mg "NoUrn"=some (.ref (c 0))
  e1:mg "NoRule"=some (.ref (c 1))
  e4:mg "NoDraws"=some (.ref (c 4))
  e5:mg "NoNumber"=some (.ref (c 5))
  e7:mg "NoCounts"=some (.ref (c 7))
  xc:∀ i,i < 10->XC K (c i)
def top (i:Nat):Stmt:=PySem.Challenge.pw_growurns_k53_whole_simple_urns.main.body.getD i (.Pass ⟨0,0,0,0⟩)
structure Bt (mg:Str->Option Value):Prop where
  isinstance:mg "isinstance"=none
  bool:mg "bool"=none
  int:mg "int"=none
  tuple:mg "tuple"=none
  list:mg "list"=none
  all:mg "all"=none
  sum:mg "sum"=none
  len:mg "len"=none
  range:mg "range"=none
  max:mg "max"=none
  min:mg "min"=none
  abs:mg "abs"=none
  zip:mg "zip"=none
def wholeD (lo hi:Int):PyData->Bool
  | .int i=>decide (lo <= i) && decide (i <= hi)
  | _=>false
section
variable {P:Program} {w:World} {K:PySem.W.Frag} {mg:Str->Option Value} {base:Heap} {f:Addr} {fd:FuncData}
def numD:PyData->Bool
  | .int _=>true
  | _=>false
def sp_is_number:Sp:=fun vs H Q _=>∃ (v:V) (st:Addr) (d:PyData),vs=[v]/\Dt st H d v/\Q (.bl (numD d)) H
abbrev s_is_number:Stmt:=top 8
theorem sc_is_number:FnScope ["thing"] ["thing"] (defScope s_is_number):=⟨rfl,rfl,rfl,by decide +kernel,rfl,by decide +kernel,by decide +kernel⟩
theorem ok_is_number (F:Fun K "is_number" "is_number" s_is_number f fd) (B:Bt mg):FnOk P w K mg base CX0 0 f fd ["thing"] sp_is_number:=by
  refine F.ok0 sc_is_number (fun vs H Q E h=>?_) (fun cdv A outer s H vs Q E h=>?_)
  · obtain ⟨v,st,d,rfl,_⟩:=h
    rfl
  obtain ⟨v,st,d,rfl,hd,q⟩:=h
  refine ⟨_,pss_one (ps_ret (pe_and (pe_callB (call_isi kit_int) rfl B.isinstance boot_isinstance (pa_cons (pv 0) (pa_cons (pe_bty rfl B.int boot_int) pa_nil)))
    (pe_one (pe_not (pe_callB (call_isi kit_bool) rfl B.isinstance boot_isinstance (pa_cons (pv 0) (pa_cons (pe_bty rfl B.bool boot_bool) pa_nil))))))),?_⟩
  refine ⟨_,rfl,v,st,d,rfl,hd,_,rfl,?_⟩
  cases d with
  | bool b=>exact ⟨_,rfl,v,st,_,rfl,hd,_,rfl,q⟩
  | int i=>exact ⟨_,rfl,v,st,_,rfl,hd,_,rfl,q⟩
  | none=>exact q
  | str x=>exact q
  | list ds=>exact q
  | tuple ds=>exact q
  | dict kvs=>exact q
def sp_is_whole:Sp:=fun vs H Q _=>∃ (v:V) (st:Addr) (d:PyData) (lo hi:Int),vs=[v,.int lo,.int hi]/\Dt st H d v/\Q (.bl (wholeD lo hi d)) H
abbrev s_is_whole:Stmt:=top 9
theorem sc_is_whole:FnScope ["thing","low","high"] ["thing","low","high"] (defScope s_is_whole):=⟨rfl,rfl,rfl,by decide +kernel,rfl,by decide +kernel,by decide +kernel⟩
theorem ok_is_whole (F:Fun K "is_whole" "is_whole" s_is_whole f fd) (c1:Cal P w K mg base 0 "is_number" ["thing"] sp_is_number):FnOk P w K mg base CX0 1 f fd ["thing","low","high"] sp_is_whole:=by
  refine F.ok sc_is_whole (fun vs H Q E h=>?_) (fun cdv A outer s H vs Q E hr h=>?_)
  · obtain ⟨v,st,d,lo,hi,rfl,_⟩:=h
    rfl
  obtain ⟨v,st,d,lo,hi,rfl,hd,q⟩:=h
  refine ⟨_,pss_one (ps_ret (pe_and (pe_cal c1 hr rfl (pa_cons (pv 0) pa_nil)) (pe_one (pe_chain op_le op_le (pv 1) (pv 0) (pv 2))))),?_⟩
  refine ⟨_,rfl,v,st,d,rfl,hd,_,rfl,?_⟩
  cases d with
  | int i =>
    refine iteT ?_
    unfold Dt at hd
    subst hd
    refine ⟨_,rfl,_,rfl,lo,i,rfl,rfl,_,rfl,?_⟩
    have q':Q (.bl (decide (lo <= i) && decide (i <= hi))) H:=q
    by_cases h1:lo <= i
    · rw [decide_eq_true h1,Bool.true_and] at q'
      rw [decide_eq_true h1]
      exact iteT ⟨_,rfl,i,hi,rfl,rfl,q'⟩
    · rw [decide_eq_false h1,Bool.false_and] at q'
      rw [decide_eq_false h1]
      exact iteF q'
  | bool b=>exact q
  | none=>exact q
  | str x=>exact q
  | list ds=>exact q
  | tuple ds=>exact q
  | dict kvs=>exact q
def wholesD (lo hi:Int):PyData->Bool
  | .tuple ds=>ds.all (wholeD lo hi)
  | _=>false
def sp_are_wholes:Sp:=fun vs H Q _=>∃ (v:V) (st:Addr) (d:PyData) (lo hi:Int),vs=[v,.int lo,.int hi]/\Dt st H d v/\(∀ ds,d=.tuple ds->ds.length <= 1000)/\∀ H',Same H H'->Q (.bl (wholesD lo hi d)) H'
abbrev s_are_wholes:Stmt:=top 10
theorem sc_are_wholes:FnScope ["thing","low","high"] ["thing","low","high"] (defScope s_are_wholes):=⟨rfl,rfl,rfl,by decide +kernel,rfl,by decide +kernel,by decide +kernel⟩
theorem ok_are_wholes (F:Fun K "are_wholes" "are_wholes" s_are_wholes f fd) (B:Bt mg) (c1:Cal P w K mg base 1 "is_whole" ["thing","low","high"] sp_is_whole):FnOk P w K mg base CX0 2 f fd ["thing","low","high"] sp_are_wholes:=by
  refine F.ok sc_are_wholes (fun vs H Q E h=>?_) (fun cdv A outer s H vs Q E hr h=>?_)
  · obtain ⟨v,st,d,lo,hi,rfl,_⟩:=h
    rfl
  obtain ⟨v,st,d,lo,hi,rfl,hd,hl,q⟩:=h
  refine ⟨_,pss_one (ps_ret (pe_and (pe_callB (call_isi kit_tup) rfl B.isinstance boot_isinstance (pa_cons (pv 0) (pa_cons (pe_bty rfl B.tuple boot_tuple) pa_nil)))
    (pe_one (pe_callB (call_all_seq rfl) rfl B.all boot_all (pa_cons (pe_compG (N:=["part","low","high"]) (ix:=[none,some 1,some 2]) (ifs:=[]) (tc:=tTrue) rfl (pi_tup (pv 0))
      (fun s H ex=>pg_c (i:=0) (by decide +kernel) rfl (Or.inl rfl) (.inr rfl)) (fun s H ex=>pifs_nil) (fun s H ex=>pe_cal c1 hr rfl (pa_cons (pv 0) (pa_cons (pv 1) (pa_cons (pv 2) pa_nil)))) rfl (by decide +kernel) (by rfl) (by rfl) (fun _=>rfl)) pa_nil))))),?_⟩
  refine ⟨_,rfl,v,st,d,rfl,hd,_,rfl,?_⟩
  cases d with
  | tuple ds =>
    refine iteT ?_
    obtain ⟨a,xs,rfl,ne,ha,hds⟩:∃ a xs,v=.ref a/\a ≠ st/\H a=some (.tup xs)/\Dts st H ds xs:=by unfold Dt at hd;exact hd
    have hlen:=hds.len
    have hl':=hl ds rfl
    refine ⟨_,rfl,a,rfl,⟨xs,.of ha⟩,blk_tup (K:=K) (a:=a) (xs:=xs) (sz (by omega)) (fun i ys H2=>Same H H2/\i <= ds.length/\ys=(ds.take i).map fun d=>V.bl (wholeD lo hi d)) ⟨Same.refl H,Nat.zero_le _,rfl⟩ (fun i ys H2 h=>?_) (fun i ys H2 _ h=>.of (h.1 _ _ ha)) rfl (fun i ys H2 x hx h=>?_) (fun ys H2 h=>?_)⟩
    · obtain ⟨_,hi,rfl⟩:=h
      rw [List.length_map,List.length_take];omega
    · obtain ⟨hS,hil,rfl⟩:=h
      obtain ⟨d,hd',dt⟩:=hds.get hx
      refine ⟨_,rfl,_,rfl,_,rfl,x,st,d,lo,hi,rfl,dt.kp (hS.kp st),hS,(List.getElem?_eq_some_iff.mp hd').1,?_⟩
      rw [List.take_add_one,hd',List.map_append];rfl
    · obtain ⟨hS,hil,rfl⟩:=h
      intro p hp
      refine ⟨p,_,rfl,.inl (.of upd_same),?_,?_⟩
      · rw [List.all_map];exact List.all_eq_true.mpr fun _ _=>rfl
      · have e:(((ds.take xs.length).map fun d=>V.bl (wholeD lo hi d)).all truV)=wholesD lo hi (.tuple ds):=by
          rw [<- hlen,List.take_length,List.all_map];rfl
        rw [e]
        exact q _ (hS.trans (Same.new hp))
  | _=>exact q H (Same.refl H)
end
end G
namespace G
open PySem PySem.Spec PyProof.Rows L2 Mt
structure Ct (mg:Str->Option Value):Prop where
  kinds:∃ t,mg "MOST_KINDS"=some (.int 4 t)
  balls:∃ t,mg "MOST_BALLS"=some (.int 20 t)
  puts:∃ t,mg "MOST_PUT_IN"=some (.int 5 t)
theorem _root_.L2.Dt.untup {st:Addr} {H:Hp} {ds:List PyData} {v:V} (h:Dt st H (.tuple ds) v):∃ a xs,v=.ref a/\a ≠ st/\H a=some (.tup xs)/\Dts st H ds xs:=by unfold Dt at h;exact h
theorem _root_.L2.Dt.unint {st:Addr} {H:Hp} {i:Int} {v:V} (h:Dt st H (.int i) v):v=.int i:=by unfold Dt at h;exact h
theorem wholeD_int {lo hi:Int} {d:PyData} (h:wholeD lo hi d=true):∃ i,d=.int i/\lo <= i/\i <= hi:=by
  cases d with
  | int i =>
    have h':(decide (lo <= i) && decide (i <= hi))=true:=h
    rw [Bool.and_eq_true] at h'
    exact ⟨i,rfl,of_decide_eq_true h'.1,of_decide_eq_true h'.2⟩
  | _=>cases (show false=true from h)
theorem all_ints {lo hi:Int}:∀ {ds:List PyData},ds.all (wholeD lo hi)=true->∃ ns:List Int,ds=ns.map .int/\∀ x ∈ ns,lo <= x/\x <= hi
  | [],_=>⟨[],rfl,by simp⟩
  | d :: ds,h=>by
    rw [List.all_cons,Bool.and_eq_true] at h
    obtain ⟨i,e,h1,h2⟩:=wholeD_int h.1
    obtain ⟨ns,e2,h3⟩:=all_ints h.2
    subst e e2
    exact ⟨i :: ns,rfl,fun x hx=>by
      rcases List.mem_cons.mp hx with z | z
      · subst z;exact ⟨h1,h2⟩
      · exact h3 x z⟩
theorem wholesD_ints {lo hi:Int} {d:PyData} (h:wholesD lo hi d=true):∃ ns:List Int,d=DI ns/\∀ x ∈ ns,lo <= x/\x <= hi:=by
  cases d with
  | tuple ds =>
    obtain ⟨ns,e,h2⟩:=all_ints (ds:=ds) h
    subst e
    exact ⟨ns,rfl,h2⟩
  | _=>cases (show false=true from h)
def intD:PyData->Int
  | .int i=>i
  | _=>0
def lenD:PyData->Nat
  | .tuple ds=>ds.length
  | _=>0
def sumD:PyData->Int
  | .tuple ds=>(ds.map intD).sum
  | _=>0
theorem sumD_DI (ns:List Int):sumD (DI ns)=ns.sum:=by
  show ((ns.map PyData.int).map intD).sum=ns.sum
  rw [List.map_map]
  have e:(intD ∘ PyData.int)=id:=by funext i;rfl
  rw [e,List.map_id]
theorem lenD_DI (ns:List Int):lenD (DI ns)=ns.length:=by show (ns.map PyData.int).length=_;rw [List.length_map]
def urnD (m:Int) (d:PyData):Bool:=wholesD 0 m d && ((decide ((1:Int) <= lenD d) && decide ((lenD d:Int) <= 4)) && decide ((0:Int) < sumD d))
def ruleD (k:Int) (d:PyData):Bool:=match d with
  | .tuple ds=>decide ((ds.length:Int)=k) && ds.all (fun r=>wholesD 0 5 r && decide ((lenD r:Int)=k))
  | _=>false
def short (d:PyData):Prop:=∀ ds,d=.tuple ds->ds.length <= 1000
section
variable {P:Program} {w:World} {K:PySem.W.Frag} {mg:Str->Option Value} {base:Heap} {f:Addr} {fd:FuncData}
def sp_is_urn_up_to:Sp:=fun vs H Q _=>∃ (v:V) (st:Addr) (d:PyData) (m:Int),vs=[v,.int m]/\Dt st H d v/\short d/\∀ H',Same H H'->Q (.bl (urnD m d)) H'
abbrev s_is_urn_up_to:Stmt:=top 22
theorem sc_is_urn_up_to:FnScope ["thing","most"] ["thing","most"] (defScope s_is_urn_up_to):=⟨rfl,rfl,rfl,by decide +kernel,rfl,by decide +kernel,by decide +kernel⟩
theorem ok_is_urn_up_to (F:Fun K "is_urn_up_to" "is_urn_up_to" s_is_urn_up_to f fd) (B:Bt mg) (C:Ct mg) (c1:Cal P w K mg base 2 "are_wholes" ["thing","low","high"] sp_are_wholes):FnOk P w K mg base CX0 3 f fd ["thing","most"] sp_is_urn_up_to:=by
  refine F.ok sc_is_urn_up_to (fun vs H Q E h=>?_) (fun cdv A outer s H vs Q E hr h=>?_)
  · obtain ⟨v,st,d,m,rfl,_⟩:=h
    rfl
  obtain ⟨v,st,d,m,rfl,hd,hl,q⟩:=h
  obtain ⟨tk,hk⟩:=C.kinds
  refine ⟨_,pss_cons (ps_if (pt_not (pt_val (pe_cal c1 hr rfl (pa_cons (pv 0) (pa_cons pe_int (pa_cons (pv 1) pa_nil)))))) (pss_one (ps_ret pe_bl)) pss_nil)
    (pss_one (ps_ret (pe_and (pe_chain op_le op_le pe_int (pe_callB call_len_seq rfl B.len PySem.boot_len (pa_cons (pv 0) pa_nil)) (pe_glob (v:=.int 4) rfl hk ⟨tk,rfl⟩))
      (pe_one (pe_cmpR op_gt (pe_callB (call_sum_seq rfl) rfl B.sum boot_sum (pa_cons (pv 0) pa_nil)) pe_int (nomark _)))))),?_⟩
  refine ⟨_,rfl,_,rfl,v,st,d,0,m,rfl,hd,hl,fun H1 g1=>⟨_,rfl,?_⟩⟩
  have q1:=q H1 g1
  unfold urnD at q1
  cases hw:wholesD 0 m d with
  | false =>
    rw [hw,Bool.false_and] at q1
    exact iteT q1
  | true =>
    rw [hw,Bool.true_and] at q1
    refine iteF ?_
    obtain ⟨ns,e,hns⟩:=wholesD_ints hw
    subst e
    obtain ⟨a,e,ne,ha⟩:=hd.di
    subst e
    rw [lenD_DI,sumD_DI] at q1
    have ha1:=g1 _ _ ha
    refine ⟨_,rfl,a,_,rfl,.inr (.of ha1),_,_,rfl,rfl,_,rfl,?_⟩
    rw [List.length_map]
    by_cases h1:(1:Int) <= (ns.length:Int)
    · rw [decide_eq_true h1,Bool.true_and] at q1
      rw [decide_eq_true h1]
      refine iteT ⟨_,_,rfl,rfl,_,rfl,?_⟩
      by_cases h2:(ns.length:Int) <= 4
      · rw [decide_eq_true h2,Bool.true_and] at q1
        rw [decide_eq_true h2]
        exact iteT ⟨_,rfl,a,ns,rfl,.inr (.of ha1),_,_,rfl,rfl,q1⟩
      · rw [decide_eq_false h2,Bool.false_and] at q1
        rw [decide_eq_false h2]
        exact iteF q1
    · rw [decide_eq_false h1,Bool.false_and,Bool.false_and] at q1
      rw [decide_eq_false h1]
      exact iteF ⟨_,rfl,iteF q1⟩
def sp_is_urn:Sp:=fun vs H Q _=>∃ (v:V) (st:Addr) (d:PyData),vs=[v]/\Dt st H d v/\short d/\∀ H',Same H H'->Q (.bl (urnD 20 d)) H'
abbrev s_is_urn:Stmt:=top 21
theorem sc_is_urn:FnScope ["thing"] ["thing"] (defScope s_is_urn):=⟨rfl,rfl,rfl,by decide +kernel,rfl,by decide +kernel,by decide +kernel⟩
theorem ok_is_urn (F:Fun K "is_urn" "is_urn" s_is_urn f fd) (C:Ct mg) (c1:Cal P w K mg base 3 "is_urn_up_to" ["thing","most"] sp_is_urn_up_to):FnOk P w K mg base CX0 4 f fd ["thing"] sp_is_urn:=by
  refine F.ok sc_is_urn (fun vs H Q E h=>?_) (fun cdv A outer s H vs Q E hr h=>?_)
  · obtain ⟨v,st,d,rfl,_⟩:=h
    rfl
  obtain ⟨v,st,d,rfl,hd,hl,q⟩:=h
  obtain ⟨tk,hk⟩:=C.balls
  refine ⟨_,pss_one (ps_ret (pe_cal c1 hr rfl (pa_cons (pv 0) (pa_cons (pe_glob (v:=.int 20) rfl hk ⟨tk,rfl⟩) pa_nil)))),?_⟩
  exact ⟨_,rfl,v,st,d,20,rfl,hd,hl,q⟩
def sp_need_number (c:Nat->Addr):Sp:=fun vs H Q E=>∃ (v:V) (st:Addr) (d:PyData) (lo hi:Int),vs=[v,.int lo,.int hi]/\Dt st H d v/\Sm lo/\Sm hi/\(wholeD lo hi d=true->Q .non H)/\(wholeD lo hi d=false->E (.ref (c 5)) none H)
abbrev s_need_number:Stmt:=top 11
theorem sc_need_number:FnScope ["thing","low","high"] ["thing","low","high"] (defScope s_need_number):=⟨rfl,rfl,rfl,by decide +kernel,rfl,by decide +kernel,by decide +kernel⟩
theorem ok_need_number {c:Nat->Addr} {B:Addr} (F:Fun K "need_number" "need_number" s_need_number f fd) (R:Errs K mg c B) (c1:Cal P w K mg base 1 "is_whole" ["thing","low","high"] sp_is_whole):FnOk P w K mg base (CX1 P w) 2 f fd ["thing","low","high"] (sp_need_number c):=by
  refine F.okX sc_need_number (fun vs H Q E h=>?_) (fun cdv A outer s H vs Q E hr h=>?_)
  · obtain ⟨v,st,d,lo,hi,rfl,_⟩:=h
    rfl
  obtain ⟨v,st,d,lo,hi,rfl,hd,slo,shi,q1,q2⟩:=h
  refine ⟨_,pss_one (ps_if (pt_not (pt_val (pe_cal c1 hr rfl (pa_cons (pv 0) (pa_cons (pv 1) (pa_cons (pv 2) pa_nil)))))) (pss_one (ps_raise1 R.e5 (R.xc 5 (by decide)) (pe_fstr (pj_str (pj_fmt (pv 1) (pj_str (pj_fmt (pv 2) pj_nil))))) (fun σ H Q Q' m q=>?_))) pss_nil),?_⟩
  · obtain ⟨v1,z1,i1,z2,z3,z4,v2,z5,i2,z6,z7,z8,z9⟩:=q
    exact ⟨v1,z1,i1,z2,z3,z4,v2,z5,i2,z6,z7,z8,fun z=>m _ _ (z9 z)⟩
  refine ⟨_,rfl,_,rfl,_,rfl,v,st,d,lo,hi,rfl,hd,_,rfl,?_⟩
  cases hw:wholeD lo hi d with
  | true=>exact iteF (q1 hw)
  | false=>exact iteT ⟨_,rfl,lo,rfl,slo.1,slo.2,_,rfl,hi,rfl,shi.1,shi.2,fun z=>q2 hw⟩
def sp_is_rule (c:Nat->Addr):Sp:=fun vs H Q E=>∃ (u v:V) (st:Addr) (dk d:PyData),vs=[u,v]/\Dt st H dk u/\(wholeD 1 4 dk=false->E (.ref (c 5)) none H) /\
  (∀ k,dk=.int k->1 <= k->k <= 4->Dt st H d v/\short d/\(∀ ds,d=.tuple ds->∀ r ∈ ds,short r)/\∀ H',Same H H'->Q (.bl (ruleD k d)) H')
abbrev s_is_rule:Stmt:=top 23
theorem sc_is_rule:FnScope ["kinds","thing"] ["kinds","thing"] (defScope s_is_rule):=⟨rfl,rfl,rfl,by decide +kernel,rfl,by decide +kernel,by decide +kernel⟩
theorem sm1:Sm 1:=by unfold Sm;decide +kernel
theorem sm4:Sm 4:=by unfold Sm;decide +kernel
theorem ok_is_rule {c:Nat->Addr} (F:Fun K "is_rule" "is_rule" s_is_rule f fd) (B:Bt mg) (C:Ct mg) (c1:Cal P w K mg base 2 "are_wholes" ["thing","low","high"] sp_are_wholes) (c2:CalX P w K mg base 2 "need_number" ["thing","low","high"] (sp_need_number c)):FnOk P w K mg base (CX1 P w) 3 f fd ["kinds","thing"] (sp_is_rule c):=by
  refine F.okX sc_is_rule (fun vs H Q E h=>?_) (fun cdv A outer s H vs Q E hr h=>?_)
  · obtain ⟨u,v,st,dk,d,rfl,_⟩:=h
    rfl
  obtain ⟨u,v,st,dk,d,rfl,hu,qE,qQ⟩:=h
  obtain ⟨tk,hk⟩:=C.kinds
  obtain ⟨tp,hp⟩:=C.puts
  refine ⟨_,pss_cons (ps_expr (pe_calx c2 hr rfl passes1 (pa_cons (pv 0) (pa_cons pe_int (pa_cons (pe_glob (v:=.int 4) rfl hk ⟨tk,rfl⟩) pa_nil)))))
    (PSs.nox (pss_cons (ps_if (PW.pt (pw_or (pt_not (pt_val (pe_callB (call_isi kit_tup) rfl B.isinstance boot_isinstance (pa_cons (pv 1) (pa_cons (pe_bty rfl B.tuple boot_tuple) pa_nil)))))
      (pw_or1 (pt_cmpR op_ne (pe_callB call_len_seq rfl B.len PySem.boot_len (pa_cons (pv 1) pa_nil)) (pv 0) (nomark _))))) (pss_one (ps_ret pe_bl)) pss_nil)
    (pss_one (ps_ret (pe_callB (call_all_seq rfl) rfl B.all boot_all (pa_cons (pe_compG (N:=["row","kinds"]) (ix:=[none,some 0]) (ifs:=[]) (tc:=tTrue) rfl (pi_tup (pv 1))
      (fun s H ex=>pg_c (i:=0) (by decide +kernel) rfl (Or.inl rfl) (.inr rfl)) (fun s H ex=>pifs_nil)
      (fun s H ex=>pe_and (pe_cal c1 hr rfl (pa_cons (pv 0) (pa_cons pe_int (pa_cons (pe_glob (v:=.int 5) rfl hp ⟨tp,rfl⟩) pa_nil)))) (pe_one (pe_cmpR op_eq (pe_callB (lenK (K:=K) rfl) rfl B.len PySem.boot_len (pa_cons (pv 0) pa_nil)) (pv 1) (nomark _)))) rfl (by decide +kernel) (by rfl) (by rfl) (fun _=>rfl)) pa_nil)))))),?_⟩
  refine ⟨_,rfl,u,st,dk,1,4,rfl,hu,sm1,sm4,fun hw=>?_,qE⟩
  obtain ⟨k,e,k1,k4⟩:=wholeD_int hw
  subst e
  obtain rfl:=hu.unint
  obtain ⟨hd,hl,hl2,q⟩:=qQ k rfl k1 k4
  refine ⟨_,rfl,v,st,d,rfl,hd,_,rfl,?_⟩
  cases d with
  | tuple ds =>
    obtain ⟨a,xs,e,ne,ha,hds⟩:=hd.untup
    subst e
    have hlen:=hds.len
    have hl':=hl ds rfl
    refine iteF ⟨_,rfl,a,xs,rfl,.inr (.of ha),_,rfl,rfl,_,rfl,?_⟩
    have q0:=fun H' g=>q H' g
    unfold ruleD at q0
    by_cases hk':(ds.length:Int)=k
    · have e1:V.int (xs.length:Int)=V.int k:=by rw [<- hlen,hk']
      rw [decide_eq_true e1]
      refine iteF ?_
      have q1:∀ H',Same H H'->Q (.bl (ds.all (fun r=>wholesD 0 5 r && decide ((lenD r:Int)=k)))) H':=fun H' g=>by
        have:=q0 H' g
        simp only [decide_eq_true hk',Bool.true_and] at this
        exact this
      refine ⟨_,rfl,a,rfl,⟨xs,.of ha⟩,blk_tup (K:=K) (a:=a) (xs:=xs) (sz (by omega)) (fun i ys H2=>Same H H2/\i <= ds.length/\ys=(ds.take i).map fun r=>V.bl (wholesD 0 5 r && decide ((lenD r:Int)=k))) ⟨Same.refl H,Nat.zero_le _,rfl⟩ (fun i ys H2 h=>?_) (fun i ys H2 _ h=>.of (h.1 _ _ ha)) rfl (fun i ys H2 x hx h=>?_) (fun ys H2 h=>?_)⟩
      · obtain ⟨_,hil,rfl⟩:=h
        rw [List.length_map,List.length_take];omega
      · obtain ⟨hS,hil,rfl⟩:=h
        obtain ⟨d,hd',dt⟩:=hds.get hx
        have dt2:=dt.kp (hS.kp st)
        refine ⟨_,rfl,x,st,d,0,5,rfl,dt2,hl2 ds rfl d (List.mem_of_getElem? hd'),fun H3 g3=>⟨_,rfl,?_⟩⟩
        have fin:∀ b:Bool,b=(wholesD 0 5 d && decide ((lenD d:Int)=k))->Same H H3/\i + 1 <= ds.length/\((ds.take i).map fun r=>V.bl (wholesD 0 5 r && decide ((lenD r:Int)=k))) ++ [V.bl b]=(ds.take (i + 1)).map fun r=>V.bl (wholesD 0 5 r && decide ((lenD r:Int)=k)):=fun b e=>by
          subst e
          refine ⟨hS.trans g3,(List.getElem?_eq_some_iff.mp hd').1,?_⟩
          rw [List.take_add_one,hd',List.map_append];rfl
        cases hw:wholesD 0 5 d with
        | false=>exact iteF (fin false (by rw [hw];rfl))
        | true =>
          obtain ⟨ns,e,_⟩:=wholesD_ints hw
          subst e
          obtain ⟨b,e,_,hb⟩:=dt2.di
          subst e
          refine iteT ⟨_,rfl,b,_,rfl,.inr (.of (g3 _ _ hb)),_,rfl,rfl,?_⟩
          refine fin _ ?_
          rw [hw,Bool.true_and,lenD_DI,List.length_map]
          rw [decide_eq_decide]
          constructor
          · intro e;injection e
          · intro e;rw [e]
      · obtain ⟨hS,hil,rfl⟩:=h
        intro p hp
        refine ⟨p,_,rfl,.inl (.of upd_same),?_,?_⟩
        · rw [List.all_map];exact List.all_eq_true.mpr fun _ _=>rfl
        · have e:(((ds.take xs.length).map fun r=>V.bl (wholesD 0 5 r && decide ((lenD r:Int)=k))).all truV)=ds.all (fun r=>wholesD 0 5 r && decide ((lenD r:Int)=k)):=by
            rw [<- hlen,List.take_length,List.all_map];rfl
          rw [e]
          exact q1 _ (hS.trans (Same.new hp))
    · have e1:¬ V.int (xs.length:Int)=V.int k:=fun e=>hk' (by rw [hlen];injection e)
      rw [decide_eq_false e1]
      refine iteT ?_
      have:=q0 H (Same.refl H)
      simp only [decide_eq_false hk',Bool.false_and] at this
      exact this
  | _=>exact iteT (iteT (q H (Same.refl H)))
end
end G
namespace G
open PySem PySem.Spec PyProof.Rows L2 Mt
theorem atI_int {ns:List Int} {k:Nat} (h:k < ns.length):atI (ns.map V.int) (k:Int)=some (.int (ns.getD k 0)):=by
  refine atI_nat ?_
  rw [List.getElem?_map,List.getElem?_eq_getElem h,List.getD_eq_getElem?_getD,List.getElem?_eq_getElem h];rfl
def StOk (x:Int) (b:Bool):Prop:=b=false->0 <= x/\x < 2147483647
section
variable {P:Program} {w:World} {K:PySem.W.Frag} {mg:Str->Option Value} {base:Heap} {f:Addr} {fd:FuncData}
def sp_cell_at (K:PySem.W.Frag):Sp:=fun vs H Q _=>∃ (a:Addr) (ns:List Int) (k:Nat),vs=[.ref a,.int k]/\SqL K H a (ns.map V.int)/\∀ x,Q (.int x) H
abbrev s_cell_at:Stmt:=top 44
theorem sc_cell_at:FnScope ["_law_script","_law_k"] ["_law_script","_law_k"] (defScope s_cell_at):=⟨rfl,rfl,rfl,by decide +kernel,rfl,by decide +kernel,by decide +kernel⟩
theorem ok_cell_at (F:Fun K "_law_cell_at" "_law_cell_at" s_cell_at f fd) (B:Bt mg):FnOk P w K mg base CX0 1 f fd ["_law_script","_law_k"] (sp_cell_at K):=by
  refine F.ok sc_cell_at (fun vs H Q E h=>?_) (fun cdv A outer s H vs Q E hr h=>?_)
  · obtain ⟨a,ns,k,rfl,_⟩:=h
    rfl
  obtain ⟨a,ns,k,rfl,ha,q⟩:=h
  refine ⟨_,pss_cons (ps_if (pt_cmpR op_lt (pv 1) (pe_callB call_len_seq rfl B.len PySem.boot_len (pa_cons (pv 0) pa_nil)) (nomark _)) (pss_one (ps_ret (pe_ix ix_list (pv 0) (pv 1) (fun _ _=>rfl)))) pss_nil)
    (pss_one (ps_ret pe_int)),?_⟩
  refine ⟨_,rfl,_,rfl,a,_,rfl,.inl ha,_,_,rfl,rfl,_,rfl,?_⟩
  refine ite2 (fun c=>?_) (fun c=>q 0)
  have c':(k:Int) < (((ns.map V.int).length:Nat):Int):=of_decide_eq_true c
  rw [List.length_map] at c'
  exact ⟨_,rfl,_,rfl,a,_,_,_,rfl,rfl,ha,atI_int (by omega),q _⟩
def sp_state (K:PySem.W.Frag):Sp:=fun vs H Q _=>∃ (a:Addr) (ns:List Int) (k:Nat),vs=[.ref a,.int k]/\SqL K H a (ns.map V.int)/\∀ l x b,H l=none->StOk x b->Q (.ref l) (upd H l (.lst [.int x,.bl b]))
abbrev s_state:Stmt:=top 45
theorem sc_state:FnScope ["_law_script","_law_k","_law_cell"] ["_law_script","_law_k"] (defScope s_state):=⟨rfl,rfl,rfl,by decide +kernel,rfl,by decide +kernel,by decide +kernel⟩
theorem ok_state (F:Fun K "_law_state" "_law_state" s_state f fd) (c1:Cal P w K mg base 1 "_law_cell_at" ["_law_script","_law_k"] (sp_cell_at K)):FnOk P w K mg base CX0 2 f fd ["_law_script","_law_k"] (sp_state K):=by
  refine F.ok sc_state (fun vs H Q E h=>?_) (fun cdv A outer s H vs Q E hr h=>?_)
  · obtain ⟨a,ns,k,rfl,_⟩:=h
    rfl
  obtain ⟨a,ns,k,rfl,ha,q⟩:=h
  refine ⟨_,pss_cons (ps_set (i:=2) sc_state.nd rfl (Or.inl rfl) (pe_cal c1 hr rfl (pa_cons (pv 0) (pa_cons (pv 1) pa_nil))))
    (pss_cons (ps_if (pt_cmpR op_ge (pv 2) (pe_op op_pow pe_int pe_int) (nomark _)) (pss_one (ps_ret (pe_lst (pa_cons (pe_op op_sub (pv 2) (pe_op op_pow pe_int pe_int)) (pa_cons pe_bl pa_nil))))) pss_nil)
    (pss_one (ps_ret (pe_lst (pa_cons (pe_op op_mod (pv 2) pe_int) (pa_cons pe_bl pa_nil)))))),?_⟩
  have hp:CPow 10 18:=⟨by decide,by decide,by decide⟩
  refine ⟨_,rfl,_,rfl,a,ns,k,rfl,ha,fun x=>?_⟩
  refine ⟨_,rfl,_,_,rfl,rfl,hp,_,_,rfl,rfl,_,rfl,?_⟩
  refine ite2 (fun c=>?_) (fun c=>?_)
  · exact ⟨_,rfl,_,_,rfl,rfl,hp,_,_,rfl,rfl,(by show 2 <= sizeLine;decide),fun l hl=>q l _ _ hl (fun z=>by cases z)⟩
  · exact ⟨_,rfl,_,_,rfl,rfl,(by show (0:Int) < 2147483647;decide),(by show 2 <= sizeLine;decide),fun l hl=>q l _ _ hl (fun _=>⟨Int.emod_nonneg _ (by decide),Int.emod_lt_of_pos _ (by decide)⟩)⟩
def sp_take:Sp:=fun vs H Q _=>∃ (l:Addr) (m x:Int) (b:Bool),vs=[.ref l,.int m]/\H l=some (.lst [.int x,.bl b])/\StOk x b/\1 <= m/\m <= 1000 /\
  ∀ (y:Nat) (x':Int),(y:Int) < m->StOk x' b->Q (.int y) (upd H l (.lst [.int x',.bl b]))
abbrev s_take:Stmt:=top 46
theorem sc_take:FnScope ["_law_state_here","_law_many","_law_found","_law_mixed"] ["_law_state_here","_law_many"] (defScope s_take):=⟨rfl,rfl,rfl,by decide +kernel,rfl,by decide +kernel,by decide +kernel⟩
theorem ok_take (F:Fun K "_law_take" "_law_take" s_take f fd):FnOk P w K mg base CX0 1 f fd ["_law_state_here","_law_many"] sp_take:=by
  refine F.ok sc_take (fun vs H Q E h=>?_) (fun cdv A outer s H vs Q E hr h=>?_)
  · obtain ⟨l,m,x,b,rfl,_⟩:=h
    rfl
  obtain ⟨l,m,x,b,rfl,hl,hst,m1,m2,q⟩:=h
  refine ⟨_,pss_cons (ps_if (pt_val (pe_ix ix_list (pv 0) pe_int (fun _ _=>rfl)))
      (pss_cons (ps_set (i:=2) sc_take.nd rfl (Or.inl rfl) (pe_op op_mod (pe_ix ix_list (pv 0) pe_int (fun _ _=>rfl)) (pv 1)))
      (pss_cons (ps_asg (pe_op op_fdiv (pe_ix ix_list (pv 0) pe_int (fun _ _=>rfl)) (pv 1)) (pg_sub (pv 0) pe_int set_list))
      (pss_one (ps_ret (pv 2))))) pss_nil)
    (pss_cons (ps_asg (pe_op op_mod (pe_op op_add (pe_op op_mul (pe_ix ix_list (pv 0) pe_int (fun _ _=>rfl)) pe_int) pe_int) pe_int) (pg_sub (pv 0) pe_int set_list))
    (pss_cons (ps_set (i:=3) sc_take.nd rfl (Or.inl rfl) (pe_op op_mod (pe_op op_add (pe_op op_add (pe_op op_mul (pe_ix ix_list (pv 0) pe_int (fun _ _=>rfl)) (pe_ix ix_list (pv 0) pe_int (fun _ _=>rfl))) (pe_op op_mul pe_int (pe_ix ix_list (pv 0) pe_int (fun _ _=>rfl)))) pe_int) pe_int))
    (pss_cons (ps_set (i:=3) sc_take.nd rfl (Or.inl rfl) (pe_op op_mod (pe_op op_add (pe_op op_mul (pv 3) (pv 3)) (pe_op op_mul pe_int (pv 3))) pe_int))
    (pss_one (ps_ret (pe_op op_mod (pe_op op_fdiv (pv 3) pe_int) (pv 1))))))),?_⟩
  have fin:∀ (z x':Int),StOk x' b->Q (.int (z % m)) (upd H l (.lst [.int x',.bl b])):=fun z x' h=>by
    have h1:=Int.emod_nonneg z (show m ≠ 0 by omega)
    have h2:=Int.emod_lt_of_pos z (show 0 < m by omega)
    have e:z % m=(((z % m).toNat:Nat):Int):=by omega
    rw [e]
    exact q _ x' (by omega) h
  refine ⟨_,rfl,l,_,_,_,rfl,rfl,.of hl,atI_nat (j:=1) rfl,_,rfl,?_⟩
  cases b with
  | true =>
    refine iteT ⟨_,rfl,l,_,_,_,rfl,rfl,.of hl,atI_nat (j:=0) rfl,_,rfl,_,_,rfl,rfl,(by omega),?_⟩
    refine ⟨_,rfl,l,_,_,_,rfl,rfl,.of hl,atI_nat (j:=0) rfl,_,rfl,_,_,rfl,rfl,⟨by omega,by omega⟩,_,rfl,l,_,_,0,rfl,rfl,hl,rfl,?_⟩
    exact ⟨_,rfl,fin _ _ (fun z=>by cases z)⟩
  | false =>
    obtain ⟨x0,x1⟩:=hst rfl
    refine iteF ⟨_,rfl,l,_,_,_,rfl,rfl,.of hl,atI_nat (j:=0) rfl,_,_,rfl,rfl,.inl ⟨by omega,by omega⟩,_,_,rfl,rfl,_,_,rfl,rfl,(by show (0:Int) < 2147483647;decide),_,rfl,l,_,_,0,rfl,rfl,hl,rfl,?_⟩
    have y0:=Int.emod_nonneg (x * 48271 + 29) (show (2147483647:Int) ≠ 0 by decide)
    have y1:=Int.emod_lt_of_pos (x * 48271 + 29) (show (0:Int) < 2147483647 by decide)
    show tSeq _ _ _ _ (upd H l (.lst [.int ((x * 48271 + 29) % 2147483647),.bl false]))
    generalize (x * 48271 + 29) % 2147483647=y at y0 y1
    have hl2:upd H l (.lst [.int y,.bl false]) l=some (.lst [.int y,.bl false]):=upd_same
    refine ⟨_,rfl,l,_,_,_,rfl,rfl,.of hl2,atI_nat (j:=0) rfl,_,rfl,l,_,_,_,rfl,rfl,.of hl2,atI_nat (j:=0) rfl,_,_,rfl,rfl,.inl ⟨by omega,by omega⟩,_,rfl,l,_,_,_,rfl,rfl,.of hl2,atI_nat (j:=0) rfl,_,_,rfl,rfl,.inr ⟨by omega,by omega⟩,_,_,rfl,rfl,_,_,rfl,rfl,_,_,rfl,rfl,(by show (0:Int) < 2147483629;decide),?_⟩
    have z0:=Int.emod_nonneg (y * y + 39373 * y + 7) (show (2147483629:Int) ≠ 0 by decide)
    have z1:=Int.emod_lt_of_pos (y * y + 39373 * y + 7) (show (0:Int) < 2147483629 by decide)
    generalize (y * y + 39373 * y + 7) % 2147483629=z at z0 z1
    refine ⟨_,rfl,_,rfl,_,_,rfl,rfl,.inl ⟨by omega,by omega⟩,_,rfl,_,_,rfl,rfl,.inr ⟨by omega,by omega⟩,_,_,rfl,rfl,_,_,rfl,rfl,(by show (0:Int) < 2147483587;decide),?_⟩
    exact ⟨_,rfl,_,_,rfl,rfl,⟨by decide,by decide⟩,_,rfl,_,_,rfl,rfl,(by omega),fin _ _ (fun _=>⟨y0,y1⟩)⟩
end
end G
namespace G
open PySem PySem.Spec PyProof.Rows L2 Mt
section
variable {P:Program} {w:World} {K:PySem.W.Frag} {mg:Str->Option Value} {base:Heap} {f:Addr} {fd:FuncData}
end
end G
namespace G
open PySem PySem.Spec PyProof.Rows L2 Mt
theorem ixN_nat {n k:Nat} (h:k < n):ixN n (k:Int)=some k:=by
  unfold ixN
  rw [if_pos (by omega),if_pos (by omega)];simp
theorem set_pos':∀ {l:List Int} {y:Nat} {v:Int},(∀ x ∈ l,0 <= x)->0 < v->y < l.length->0 < (l.set y v).sum
  | [],y,_,_,_,h=>by simp at h
  | a :: l,0,v,h,hv,_=>by
    rw [List.set_cons_zero,List.sum_cons]
    have:=Mt.sum_nonneg (l:=l) fun x hx=>h x (List.mem_cons_of_mem _ hx)
    omega
  | a :: l,y + 1,v,h,hv,hy=>by
    rw [List.set_cons_succ,List.sum_cons]
    have h1:=set_pos' (l:=l) (y:=y) (fun x hx=>h x (List.mem_cons_of_mem _ hx)) hv (by simpa using hy)
    have h2:=h a List.mem_cons_self
    omega
abbrev DR (rs:List (List Int)):PyData:=.tuple (rs.map DI)
theorem short_DI {ns:List Int} (h:ns.length <= 1000):short (DI ns):=fun ds e=>by
  injection e with e
  rw [<- e,List.length_map];exact h
theorem short_DR {rs:List (List Int)} (h:rs.length <= 1000):short (DR rs):=fun ds e=>by
  injection e with e
  rw [<- e,List.length_map];exact h
theorem shorts_DR {n:Nat} {rs:List (List Int)} (h:Rul n 5 rs) (hn:n <= 1000):∀ ds,DR rs=.tuple ds->∀ r ∈ ds,short r:=fun ds e r hr=>by
  injection e with e
  rw [<- e] at hr
  obtain ⟨row,hrow,e2⟩:=List.mem_map.mp hr
  rw [<- e2]
  exact short_DI (by rw [(h.row row hrow).len];exact hn)
theorem urnD_of {n:Nat} {ns:List Int} (h:Urn n 20 ns) (h1:1 <= n) (h4:n <= 4):urnD 20 (DI ns)=true:=by
  unfold urnD
  rw [lenD_DI,sumD_DI,h.len,decide_eq_true (show (1:Int) <= (n:Int) by omega),decide_eq_true (show (n:Int) <= 4 by omega),decide_eq_true h.pos]
  have:wholesD 0 20 (DI ns)=true:=by
    show (ns.map PyData.int).all (wholeD 0 20)=true
    rw [List.all_map]
    refine List.all_eq_true.mpr fun x hx=>?_
    have:=h.nn x hx
    show (decide ((0:Int) <= x) && decide (x <= 20))=true
    rw [decide_eq_true this.1,decide_eq_true (show x <= 20 by omega)];rfl
  rw [this];rfl
theorem ruleD_of {n:Nat} {rs:List (List Int)} (h:Rul n 5 rs):ruleD n (DR rs)=true:=by
  show (decide (((rs.map DI).length:Int)=n) && (rs.map DI).all (fun r=>wholesD 0 5 r && decide ((lenD r:Int)=n)))=true
  rw [List.length_map,h.len,decide_eq_true rfl,Bool.true_and,List.all_map]
  refine List.all_eq_true.mpr fun r hr=>?_
  have hw:=h.row r hr
  show (wholesD 0 5 (DI r) && decide ((lenD (DI r):Int)=n))=true
  rw [lenD_DI,hw.len,decide_eq_true rfl,Bool.and_true]
  show (r.map PyData.int).all (wholeD 0 5)=true
  rw [List.all_map]
  refine List.all_eq_true.mpr fun x hx=>?_
  have:=hw.nn x hx
  show (decide ((0:Int) <= x) && decide (x <= 5))=true
  rw [decide_eq_true this.1,decide_eq_true (show x <= 5 by omega)];rfl
section
variable {X:Cx}
def rRepS:R2:=fun x y H Q=>∃ (a:Addr) (v:V) (k:Nat),x=.ref a/\y=.int (k:Int)/\H a=some (.tup [v])/\1 <= k/\k <= 4/\∀ p H',Same H H'->H' p=some (.tup (List.replicate k v))->Q (.ref p) H'
theorem repS:OpR X (binaryOp .Mult) rRepS:=by
  intro pins s σ H x y v u Q I rx ry h
  obtain ⟨a,v',k,rfl,rfl,ha,h1,h4,q⟩:=h
  refine op_rep1 pins s σ H _ _ v u Q I rx ry ⟨a,v',(k:Int),rfl,rfl,.of ha,by omega,by omega,fun hk=>?_,fun hk p hp=>?_⟩
  · have hk':k=1:=by omega
    subst hk'
    exact q a H (Same.refl H) ha
  · exact q p _ (Same.new hp) upd_same
def rSlS:V->Option Int->Option Int->Hp->VK->Prop:=fun x lo hi H Q=>∃ (a:Addr) (xs:List V),x=.ref a/\H a=some (.tup xs)/\∀ p H',Same H H'->H' p=some (.tup (cutV xs lo hi))->Q (.ref p) H'
theorem slS:SlR X rSlS:=by
  intro pins s σ H x v vl vu lo hi sl Q I rx hs pl pu h
  obtain ⟨a,xs,rfl,ha,q⟩:=h
  refine sl_any pins s σ H _ v vl vu lo hi sl Q I rx hs pl pu ⟨a,xs,rfl,.of ha,fun hw=>?_,fun hw p hp=>?_⟩
  · refine q a H (Same.refl H) ?_
    unfold cutV
    rw [hw.1,hw.2,List.drop_zero,Nat.sub_zero,List.take_length];exact ha
  · exact q p _ (Same.new hp) upd_same
end
section
variable {P:Program} {w:World} {K:PySem.W.Frag} {mg:Str->Option Value} {base:Heap} {f:Addr} {fd:FuncData}
def Sta (l:Addr) (b:Bool) (H H':Hp):Prop:=Kp l H H'/\∃ x,H' l=some (.lst [.int x,.bl b])/\StOk x b
theorem Sta.start {l:Addr} {b:Bool} {H:Hp} {x:Int} (h:H l=some (.lst [.int x,.bl b])) (ok:StOk x b):Sta l b H H:=⟨Kp.refl l H,x,h,ok⟩
theorem Sta.same {l:Addr} {b:Bool} {H H1 H2:Hp} (s:Sta l b H H1) (g:Same H1 H2):Sta l b H H2:=by
  obtain ⟨k,x,h,ok⟩:=s
  exact ⟨k.trans (g.kp l),x,g _ _ h,ok⟩
theorem Sta.new {l:Addr} {b:Bool} {H H1:Hp} {p:Addr} {o:HO} (s:Sta l b H H1) (h:H1 p=none):Sta l b H (upd H1 p o):=s.same (Same.new h)
theorem Sta.trans {l:Addr} {b:Bool} {H H1 H2:Hp} (s:Sta l b H H1) (t:Sta l b H1 H2):Sta l b H H2:=⟨s.1.trans t.1,t.2⟩
theorem Sta.ne {l:Addr} {b:Bool} {H H1:Hp} {p:Addr} (s:Sta l b H H1) (h:H1 p=none):l ≠ p:=by
  obtain ⟨_,x,e,_⟩:=s
  exact ne_of_none e h
theorem Sta.go {l:Addr} {b:Bool} {H H1:Hp} {x:Int} (s:Sta l b H H1) (ok:StOk x b):Sta l b H (upd H1 l (.lst [.int x,.bl b])):=⟨s.1.trans Kp.at,x,upd_same,ok⟩
theorem Sta.neL {l:Addr} {b:Bool} {H H1:Hp} {p:Addr} {xs:List V} (s:Sta l b H H1) (h:H1 p=some (.tup xs)):p ≠ l:=fun e=>by
  obtain ⟨_,x,q,_⟩:=s
  rw [e,q] at h;cases h
def sp_lurn:Sp:=fun vs H Q _=>∃ (l:Addr) (n:Nat) (x:Int) (b:Bool),vs=[.ref l,.int n]/\H l=some (.lst [.int x,.bl b])/\StOk x b/\1 <= n/\n <= 4 /\
  ∀ (p:Addr) (H':Hp) (ns:List Int),Sta l b H H'->H' p=some (.tup (ns.map V.int))->Mt.Urn n 20 ns->Q (.ref p) H'
abbrev s_lurn:Stmt:=top 47
theorem sc_lurn:FnScope ["_law_state_here","_law_kinds","_law_most","_law_found"] ["_law_state_here","_law_kinds"] (defScope s_lurn):=⟨rfl,rfl,rfl,by decide +kernel,rfl,by decide +kernel,by decide +kernel⟩
theorem ok_lurn (F:Fun K "_law_urn" "_law_urn" s_lurn f fd) (B:Bt mg) (c1:Cal P w K mg base 1 "_law_take" ["_law_state_here","_law_many"] sp_take):FnOk P w K mg base CX0 2 f fd ["_law_state_here","_law_kinds"] sp_lurn:=by
  refine F.ok sc_lurn (fun vs H Q E h=>?_) (fun cdv A outer s H vs Q E hr h=>?_)
  · obtain ⟨l,n,x,b,rfl,_⟩:=h
    rfl
  obtain ⟨l,n,x,b,rfl,hl,hst,n1,n4,q⟩:=h
  refine ⟨_,pss_cons (ps_set (i:=2) sc_lurn.nd rfl (Or.inr rfl) (pe_ix ix_list (pe_lst (pa_cons pe_int (pa_cons pe_int (pa_cons pe_int pa_nil)))) (pe_cal c1 hr rfl (pa_cons (pv 0) (pa_cons pe_int pa_nil))) (fun _ _=>rfl)))
    (pss_cons (ps_setcompG (N:=["_law_kind","_law_state_here","_law_most"]) (ix:=[none,some 0,some 2]) (ifs:=[]) (tc:=tTrue) (i:=3) rfl sc_lurn.nd rfl rfl (pi_range1 rfl B.range (pa_cons (pv 1) pa_nil))
      (fun s H ex=>pg_c (i:=0) (by decide +kernel) rfl (Or.inl rfl) (.inr rfl)) (fun s H ex=>pifs_nil) (fun s H ex=>pe_cal c1 hr rfl (pa_cons (pv 1) (pa_cons (pv 2) pa_nil))) rfl (by decide +kernel) (by rfl) (by rfl) (fun _=>rfl) (by rfl))
    (pss_cons (ps_if (pt_cmpR op_eq (pe_callB (call_sum_seq rfl) rfl B.sum boot_sum (pa_cons (pv 3) pa_nil)) pe_int (nomark _)) (pss_one (ps_asg (pe_op op_add pe_int (pe_cal c1 hr rfl (pa_cons (pv 0) (pa_cons pe_int pa_nil)))) (pg_sub (pv 3) (pe_cal c1 hr rfl (pa_cons (pv 0) (pa_cons (pv 1) pa_nil))) set_list))) pss_nil)
    (pss_one (ps_ret (pe_callTy call_tuple_of rfl B.tuple boot_tuple (pa_cons (pv 3) pa_nil)))))),?_⟩
  have s0:Sta l b H H:=Sta.start hl hst
  refine ⟨(by show 3 <= sizeLine;decide),fun p0 hp0=>⟨_,rfl,?_⟩⟩
  have s1:Sta l b H (upd H p0 (.lst [.int 3,.int 8,.int 21])):=s0.new hp0
  obtain ⟨_,x1,hx1,ok1⟩:=id s1
  refine ⟨l,3,x1,b,rfl,hx1,ok1,by decide,by decide,fun y x2 hy ok2=>?_⟩
  have s2:=s1.go ok2
  have k2:Kp l (upd H p0 (.lst [.int 3,.int 8,.int 21])) (upd (upd H p0 (.lst [.int 3,.int 8,.int 21])) l (.lst [.int x2,.bl b])):=Kp.at
  generalize upd (upd H p0 (.lst [.int 3,.int 8,.int 21])) l (.lst [.int x2,.bl b])=H1 at s2 k2
  have hp1:H1 p0=some (.lst [.int 3,.int 8,.int 21]):=k2 _ _ (s0.ne hp0).symm upd_same
  obtain ⟨m,hm,m1,m2⟩:∃ m:Int,([.int 3,.int 8,.int 21]:List V)[y]?=some (.int m)/\1 <= m/\m <= 21:=by
    have hy':y < 3:=by omega
    match y,hy' with
    | 0,_=>exact ⟨3,rfl,by decide,by decide⟩
    | 1,_=>exact ⟨8,rfl,by decide,by decide⟩
    | 2,_=>exact ⟨21,rfl,by decide,by decide⟩
  refine ⟨p0,_,_,_,rfl,rfl,.of hp1,atI_nat hm,?_⟩
  refine ⟨_,rfl,(n:Int),rfl,by omega,by omega,?_⟩
  refine blk_range (lo:=0) (n:=n) (sz (by omega)) (fun i ys H2=>Sta l b H H2/\∃ ns:List Int,ys=ns.map V.int/\ns.length=i/\∀ z ∈ ns,0 <= z/\z <= 20)
    ⟨s2,[],rfl,rfl,by simp⟩ (fun i ys H2 h=>?_) rfl (fun i ys H2 hi h=>?_) (fun ys H2 h=>?_)
  · obtain ⟨_,ns,rfl,hn,_⟩:=h
    rw [List.length_map];exact hn
  · obtain ⟨s3,ns,rfl,hn,hb⟩:=h
    obtain ⟨_,x3,hx3,ok3⟩:=id s3
    refine ⟨_,rfl,_,rfl,l,m,x3,b,rfl,hx3,ok3,m1,by omega,fun y x4 hy ok4=>?_⟩
    refine ⟨s3.go ok4,ns ++ [(y:Int)],by rw [List.map_append];rfl,by rw [List.length_append,hn];rfl,fun z hz=>?_⟩
    rcases List.mem_append.mp hz with h | h
    · exact hb z h
    · rw [List.mem_singleton.mp h];omega
  · obtain ⟨s3,ns,rfl,hn,hb⟩:=h
    intro p hp
    have s4:Sta l b H (upd H2 p (.lst (ns.map V.int))):=s3.new hp
    have hpl:p ≠ l:=(s3.ne hp).symm
    refine ⟨_,rfl,p,ns,rfl,.inl (.of upd_same),rfl,_,rfl,?_⟩
    by_cases hz:ns.sum=0
    · rw [hz,decide_eq_true rfl]
      obtain ⟨_,x4,hx4,ok4⟩:=id s4
      refine iteT ⟨_,rfl,l,20,x4,b,rfl,hx4,ok4,by decide,by decide,fun v x5 hv ok5=>?_⟩
      have s5:=s4.go ok5
      have k5:Kp l (upd H2 p (.lst (ns.map V.int))) (upd (upd H2 p (.lst (ns.map V.int))) l (.lst [.int x5,.bl b])):=Kp.at
      generalize upd (upd H2 p (.lst (ns.map V.int))) l (.lst [.int x5,.bl b])=H4 at s5 k5
      obtain ⟨_,x6,hx6,ok6⟩:=id s5
      refine ⟨_,_,rfl,rfl,_,rfl,_,rfl,_,rfl,l,n,x6,b,rfl,hx6,ok6,by omega,by omega,fun y x7 hy ok7=>?_⟩
      have s6:=s5.go ok7
      have k6:Kp l H4 (upd H4 l (.lst [.int x7,.bl b])):=Kp.at
      generalize upd H4 l (.lst [.int x7,.bl b])=H5 at s6 k6
      have hp5:H5 p=some (.lst (ns.map V.int)):=k6 _ _ hpl (k5 _ _ hpl upd_same)
      have hpn:H p=none:=by
        cases e:H p with
        | none=>rfl
        | some o=>rw [s3.1 p o hpl e] at hp;cases hp
      have hy':y < ns.length:=by omega
      refine ⟨p,_,_,y,rfl,rfl,hp5,ixN_nat (by rw [List.length_map];exact hy'),?_⟩
      refine ⟨_,rfl,p,_,rfl,.inl ⟨.of upd_same,fun t ht=>?_⟩⟩
      have s7:Sta l b H (upd H5 p (.lst ((ns.map V.int).set y (.int (1 + v))))):=by
        obtain ⟨k,x',e,ok⟩:=s6
        exact ⟨fun c o hc hco=>by rw [upd_ne (fun z=>by rw [z,hpn] at hco;cases hco)];exact k c o hc hco,x',by rw [upd_ne hpl.symm];exact e,ok⟩
      refine q t _ (ns.set y (1 + v)) (s7.new ht) (by rw [upd_same,List.map_set]) ⟨by rw [List.length_set];exact hn,fun z hz=>?_,set_pos' (fun z hz=>(hb z hz).1) (by omega) hy'⟩
      rcases List.mem_or_eq_of_mem_set hz with h | h
      · exact hb z h
      · rw [h];omega
    · rw [decide_eq_false (show ¬ V.int ns.sum=V.int 0 from fun z=>hz (by injection z))]
      refine iteF ⟨_,rfl,p,_,rfl,.inl ⟨.of upd_same,fun t ht=>?_⟩⟩
      refine q t _ ns (s4.new ht) upd_same ⟨hn,hb,?_⟩
      have:=Mt.sum_nonneg (l:=ns) fun z hz=>(hb z hz).1
      omega
end
end G
namespace G
open PySem PySem.Spec PyProof.Rows L2 Mt
theorem cut_drop {xs:List V} {y:Nat} (h:y <= xs.length):cutV xs (some (y:Int)) none=xs.drop y:=by
  unfold cutV
  have e1:HT.sIx xs.length 0 (some (y:Int))=y:=by rw [HT.sIx_nat];omega
  rw [e1,HT.sIx_none]
  exact List.take_of_length_le (by rw [List.length_drop];omega)
theorem cut_take {xs:List V} {y:Nat} (h:y <= xs.length):cutV xs none (some (y:Int))=xs.take y:=by
  unfold cutV
  have e1:HT.sIx xs.length xs.length (some (y:Int))=y:=by rw [HT.sIx_nat];omega
  rw [e1,HT.sIx_none,List.drop_zero,Nat.sub_zero]
section
variable {P:Program} {w:World} {K:PySem.W.Frag} {mg:Str->Option Value} {base:Heap} {f:Addr} {fd:FuncData}
end
end G
namespace G
open PySem PySem.Spec PyProof.Rows L2 Mt
def ok2 (d:PyData):Prop:=short d/\∀ ds,d=.tuple ds->∀ r ∈ ds,short r
section
variable {Pr:Hp->V->Prop} {m m1 m2:Nat} {ta tb te:TE} {σ:L2.St} {H:Hp}
end
end G
namespace L2
open PySem PySem.Spec PyProof.Rows
def TL (H:Hp):List (List Int)->List V->Prop
  | [],[]=>True
  | z :: zs,x :: xs=>(∃ a,x=.ref a/\H a=some (.tup (z.map V.int)))/\TL H zs xs
  | _,_=>False
theorem TL.nil (H:Hp):TL H [] []:=trivial
theorem TL.same {H H':Hp} (g:Same H H'):∀ {zs:List (List Int)} {xs:List V},TL H zs xs->TL H' zs xs
  | [],[],_=>trivial
  | z :: zs,x :: xs,h=>⟨let ⟨a,e,q⟩:=h.1;⟨a,e,g _ _ q⟩,TL.same g h.2⟩
  | [],_ :: _,h=>h.elim
  | _ :: _,[],h=>h.elim
theorem TL.kp {st:Addr} {H H':Hp} {o:HO} (hst:H st=some o) (ho:∀ xs,o ≠ .tup xs) (k:Kp st H H'):∀ {zs:List (List Int)} {xs:List V},TL H zs xs->TL H' zs xs
  | [],[],_=>trivial
  | z :: zs,x :: xs,h=>⟨let ⟨a,e,q⟩:=h.1;⟨a,e,k _ _ (fun z=>by rw [z,hst] at q;exact ho _ (Option.some.inj q)) q⟩,TL.kp hst ho k h.2⟩
  | [],_ :: _,h=>h.elim
  | _ :: _,[],h=>h.elim
theorem TL.len {H:Hp}:∀ {zs:List (List Int)} {xs:List V},TL H zs xs->zs.length=xs.length
  | [],[],_=>rfl
  | z :: zs,x :: xs,h=>by rw [List.length_cons,List.length_cons,TL.len h.2]
  | [],_ :: _,h=>h.elim
  | _ :: _,[],h=>h.elim
theorem TL.get {H:Hp}:∀ {zs:List (List Int)} {xs:List V} {i:Nat} {x:V},TL H zs xs->xs[i]?=some x->∃ z a,zs[i]?=some z/\x=.ref a/\H a=some (.tup (z.map V.int))
  | z :: zs,x :: xs,0,y,h,e=>by
    obtain ⟨a,ea,q⟩:=h.1
    cases e
    exact ⟨z,a,rfl,ea,q⟩
  | z :: zs,x :: xs,i + 1,y,h,e=>TL.get (i:=i) h.2 e
  | [],[],i,y,h,e=>by simp at e
  | [],_ :: _,i,y,h,e=>h.elim
  | _ :: _,[],i,y,h,e=>h.elim
theorem TL.snoc {H:Hp} {z:List Int} {a:Addr} (q:H a=some (.tup (z.map V.int))):∀ {zs:List (List Int)} {xs:List V},TL H zs xs->TL H (zs ++ [z]) (xs ++ [.ref a])
  | [],[],_=>⟨⟨a,rfl,q⟩,trivial⟩
  | w :: zs,x :: xs,h=>⟨h.1,TL.snoc q h.2⟩
  | [],_ :: _,h=>h.elim
  | _ :: _,[],h=>h.elim
theorem eqvI2:∀ a b:List Int,PyData.eqvAll (a.map PyData.int) (b.map PyData.int)=decide (a=b)
  | [],[]=>by unfold PyData.eqvAll;rfl
  | [],y :: b=>by
    show PyData.eqvAll [] (.int y :: b.map PyData.int)=_
    unfold PyData.eqvAll;rfl
  | x :: a,[]=>by
    show PyData.eqvAll (.int x :: a.map PyData.int) []=_
    unfold PyData.eqvAll;rfl
  | x :: a,y :: b=>by
    show PyData.eqvAll (.int x :: a.map PyData.int) (.int y :: b.map PyData.int)=_
    unfold PyData.eqvAll
    rw [eqvI2 a b]
    unfold PyData.eqv
    by_cases h:x=y
    · subst h;simp
    · simp [h]
end L2
namespace L2
open PySem PySem.Spec PyProof.Rows
open PySem.W (KasT)
section
variable {n:Nat} (hn:0 < n)
include hn
end
end L2
namespace L2
open PySem PySem.Spec PyProof.Rows
section
variable {prog:Program} {w:World} {A:Around} {E:Value->Shared->Prop} {s:Shared}
end
end L2
namespace L2
open PySem PySem.Spec PyProof.Rows
section
variable {prog:Program} {w:World} {A:Around} {E:Value->Shared->Prop} {s:Shared} {v d:Addr} {od:Obj} {es:Array DictEntry} {ep:Nat}
end
section
variable {prog:Program} {w:World} {A:Around} {E:Value->Shared->Prop} {s:Shared}
end
end L2
namespace L2
open PySem PySem.Spec PyProof.Rows
section
variable {prog:Program} {w:World} {A:Around} {E:Value->Shared->Prop} {s:Shared}
end
end L2
namespace L2
open PySem PySem.Spec PyProof.Rows
section
variable {X:Cx} {pins:List (Addr × Obj)} {σ:St} {H:Hp} {s:Shared}
end
end L2
namespace L2
open PySem PySem.Spec PyProof.Rows
section
variable {K:PySem.W.Frag} {σ0:St} {te:TE} {H:Hp} {F:List V->Hp->Prop}
end
theorem canLayI':∀ ns:List Int,PyData.canLayAll0 (ns.map PyData.int)=true
  | []=>rfl
  | n :: ns=>by
    show PyData.canLayAll0 (.int n :: ns.map PyData.int)=true
    unfold PyData.canLayAll0
    rw [canLayI' ns]
    first | rfl | simp [PyData.canLay0]
theorem depthI':∀ ns:List Int,PyData.depthAll (ns.map PyData.int) <= 1
  | []=>by first | decide | simp [PyData.depthAll]
  | n :: ns=>by
    have:=depthI' ns
    show PyData.depthAll (.int n :: ns.map PyData.int) <= 1
    unfold PyData.depthAll
    have h:PyData.depth (.int n) <= 1:=by first | decide | simp [PyData.depth]
    omega
theorem layI (ns:List Int):PyData.canLay0 (DI ns)=true/\PyData.depth (DI ns) <= 2:=by
  refine ⟨?_,?_⟩
  · show PyData.canLay0 (.tuple (ns.map PyData.int))=true
    unfold PyData.canLay0
    exact canLayI' ns
  · have:=depthI' ns
    show PyData.depth (.tuple (ns.map PyData.int)) <= 2
    unfold PyData.depth
    omega
theorem shapedI' (ns:List Int):SeqAt.shaped (DI ns)=true:=by
  unfold SeqAt.shaped
  rw [Bool.and_eq_true]
  exact ⟨(layI ns).1,decide_eq_true (by have:=(layI ns).2;omega)⟩
theorem eqvI (a b:List Int):PyData.eqv (DI a) (DI b)=decide (a=b):=by unfold DI PyData.eqv;exact eqvI2 a b
theorem neD_dec {H:Hp} {x y:V} {a b:List Int} {l:Addr} {Q:VK} (hx:Dt l H (DI a) x) (hy:Dt l H (DI b) y) (q:Q (.bl (!decide (a=b))) H):rNeD x y H Q:=by
  refine ⟨l,DI a,DI b,hx,hy,shapedI' a,shapedI' b,?_⟩
  rw [eqvI];exact q
end L2
namespace Mq
open PySem PySem.Spec L2 Mt Md
abbrev TabQ:=List (List Int × Rat)
def addQ:TabQ->List Int->Rat->TabQ
  | [],k,x=>[(k,x)]
  | p :: D,k,x=>if p.1=k then (p.1,p.2 + x) :: D else p :: addQ D k x
def valQ:TabQ->List Int->Rat
  | [],_=>0
  | p :: D,k=>if p.1=k then p.2 else valQ D k
def linQ:TabQ->(List Int->Rat)->Rat
  | [],_=>0
  | p :: D,φ=>p.2 * φ p.1 + linQ D φ
theorem linQ_cons (p:List Int × Rat) (D:TabQ) (φ:List Int->Rat):linQ (p :: D) φ=p.2 * φ p.1 + linQ D φ:=rfl
theorem linQ_add (k:List Int) (x:Rat) (φ:List Int->Rat):∀ D:TabQ,linQ (addQ D k x) φ=linQ D φ + x * φ k
  | []=>by show x * φ k + 0=0 + x * φ k;grind
  | p :: D=>by
    unfold addQ
    split
    · rename_i e
      rw [linQ_cons,linQ_cons]
      show (p.2 + x) * φ p.1 + _=_
      rw [e];grind
    · rw [linQ_cons,linQ_cons,linQ_add k x φ D];grind
theorem keys_addQ {k:List Int} {x:Rat}:∀ {D:TabQ} {p:List Int × Rat},p ∈ addQ D k x->p.1=k ∨ ∃ q ∈ D,q.1=p.1
  | [],p,h=>by
    unfold addQ at h
    rw [List.mem_singleton.mp h];exact .inl rfl
  | q :: D,p,h=>by
    unfold addQ at h
    split at h
    · rcases List.mem_cons.mp h with z | z
      · subst z;exact .inr ⟨q,List.mem_cons_self,rfl⟩
      · exact .inr ⟨p,List.mem_cons_of_mem _ z,rfl⟩
    · rcases List.mem_cons.mp h with z | z
      · subst z;exact .inr ⟨_,List.mem_cons_self,rfl⟩
      · rcases keys_addQ z with y | ⟨r,hr,e⟩
        · exact .inl y
        · exact .inr ⟨r,List.mem_cons_of_mem _ hr,e⟩
theorem len_addQ (k:List Int) (x:Rat):∀ D:TabQ,(addQ D k x).length <= D.length + 1
  | []=>by unfold addQ;simp
  | p :: D=>by
    unfold addQ
    split
    · simp
    · have:=len_addQ k x D
      rw [List.length_cons,List.length_cons];omega
def NDq (D:TabQ):Prop:=(D.map (·.1)).Nodup
theorem nd_addQ {k:List Int} {x:Rat}:∀ {D:TabQ},NDq D->NDq (addQ D k x)
  | [],_=>by unfold addQ NDq;simp
  | p :: D,h=>by
    unfold NDq at h
    rw [List.map_cons,List.nodup_cons] at h
    unfold addQ
    split
    · unfold NDq;rw [List.map_cons,List.nodup_cons];exact h
    · rename_i e
      unfold NDq;rw [List.map_cons,List.nodup_cons]
      refine ⟨fun z=>?_,nd_addQ h.2⟩
      obtain ⟨q,hq,eq⟩:=List.mem_map.mp z
      rcases keys_addQ hq with y | ⟨r,hr,er⟩
      · exact e (by rw [<- eq,y])
      · exact h.1 (List.mem_map.mpr ⟨r,hr,by rw [er,eq]⟩)
def FrAt (H:Hp) (x:Rat) (v:V):Prop:=∃ q,v=.ref q/\H q=some (.tup ((fr x).map V.int))
theorem FrAt.same {H H':Hp} {x:Rat} {v:V} (h:∀ a xs,H a=some (.tup xs)->H' a=some (.tup xs)):FrAt H x v->FrAt H' x v:=fun ⟨q,e,a⟩=>⟨q,e,h _ _ a⟩
def QE (H:Hp):TabQ->List (List Key × V)->Prop
  | [],[]=>True
  | p :: T,kv :: kvs=>kv.1=kI p.1/\FrAt H p.2 kv.2/\QE H T kvs
  | _,_=>False
theorem QE.mono {H H':Hp} (h:∀ a xs,H a=some (.tup xs)->H' a=some (.tup xs)):∀ {T:TabQ} {kvs:List (List Key × V)},QE H T kvs->QE H' T kvs
  | [],[],_=>trivial
  | _ :: _,_ :: _,⟨a,b,c⟩=>⟨a,b.same h,QE.mono h c⟩
  | [],_ :: _,h'=>h'.elim
  | _ :: _,[],h'=>h'.elim
theorem QE.len {H:Hp}:∀ {T:TabQ} {kvs:List (List Key × V)},QE H T kvs->kvs.length=T.length
  | [],[],_=>rfl
  | _ :: _,_ :: _,⟨_,_,c⟩=>by rw [List.length_cons,List.length_cons,QE.len c]
  | [],_ :: _,h'=>h'.elim
  | _ :: _,[],h'=>h'.elim
theorem QE.get {H:Hp}:∀ {T:TabQ} {kvs:List (List Key × V)} {i:Nat} {k:List Key} {x:V},QE H T kvs->kvs[i]?=some (k,x)->∃ p,T[i]?=some p/\k=kI p.1/\FrAt H p.2 x
  | p :: _,_ :: _,0,_,_,⟨a,b,_⟩,h=>by cases h;exact ⟨p,rfl,a,b⟩
  | _ :: _,_ :: _,i + 1,_,_,⟨_,_,c⟩,h=>QE.get (i:=i) c (by simpa using h)
  | [],[],_,_,_,_,h=>by simp at h
  | [],_ :: _,_,_,_,h',_=>h'.elim
  | _ :: _,[],_,_,_,h',_=>h'.elim
theorem QE.val {H:Hp} {k:List Int} {z:V} (hz:FrAt H 0 z):∀ {T:TabQ} {kvs:List (List Key × V)},QE H T kvs->FrAt H (valQ T k) ((valV kvs (kI k)).getD z)
  | [],[],_=>hz
  | p :: T,kv :: kvs,⟨a,b,c⟩=>by
    obtain ⟨kk,x⟩:=kv
    have a:kk=kI p.1:=a
    subst a
    unfold valQ
    by_cases e:p.1=k
    · rw [if_pos e,valV_pos (by rw [e])];exact b
    · rw [if_neg e,valV_neg (fun z=>e (kI_inj z))];exact QE.val hz c
  | [],_ :: _,h'=>h'.elim
  | _ :: _,[],h'=>h'.elim
theorem QE.any {H:Hp} {k:List Int}:∀ {T:TabQ} {kvs:List (List Key × V)},QE H T kvs->(kvs.any fun kv=>decide (kv.1=kI k))=decide (k ∈ T.map (·.1))
  | [],[],_=>rfl
  | p :: T,kv :: kvs,⟨a,_,c⟩=>by
    obtain ⟨kk,x⟩:=kv
    have a:kk=kI p.1:=a
    subst a
    show (decide (kI p.1=kI k) || kvs.any _)=_
    rw [QE.any c]
    by_cases e:p.1=k
    · rw [decide_eq_true (show kI p.1=kI k by rw [e]),Bool.true_or,decide_eq_true (by rw [<- e];simp)]
    · rw [decide_eq_false (fun z=>e (kI_inj z)),Bool.false_or]
      congr 1
      simp [Ne.symm e]
  | [],_ :: _,h'=>h'.elim
  | _ :: _,[],h'=>h'.elim
theorem QE.keep {H:Hp} {k:List Int} {v:V}:∀ {T:TabQ} {kvs:List (List Key × V)},QE H T kvs->¬ k ∈ T.map (·.1)->kvs.map (fun kv=>if kv.1=kI k then (kv.1,v) else kv)=kvs
  | [],[],_,_=>rfl
  | p :: T,kv :: kvs,⟨a,_,c⟩,h=>by
    obtain ⟨kk,x⟩:=kv
    have a:kk=kI p.1:=a
    subst a
    rw [List.map_cons,List.mem_cons,not_or] at h
    show (if kI p.1=kI k then (kI p.1,v) else (kI p.1,x)) :: kvs.map _=(kI p.1,x) :: kvs
    rw [if_neg (fun z=>h.1 (kI_inj z).symm),QE.keep c h.2]
  | [],_ :: _,h',_=>h'.elim
  | _ :: _,[],h',_=>h'.elim
theorem QE.snoc {H:Hp} {k:List Int} {x:Rat} {v:V} (hv:FrAt H x v):∀ {T:TabQ} {kvs:List (List Key × V)},QE H T kvs->QE H (T ++ [(k,x)]) (kvs ++ [(kI k,v)])
  | [],[],_=>⟨rfl,hv,trivial⟩
  | p :: T,kv :: kvs,⟨a,b,c⟩=>⟨a,b,QE.snoc hv c⟩
  | [],_ :: _,h'=>h'.elim
  | _ :: _,[],h'=>h'.elim
theorem addQ_no {k:List Int} {x:Rat}:∀ (D:TabQ),¬ k ∈ D.map (·.1)->addQ D k x=D ++ [(k,x)]
  | [],_=>rfl
  | p :: D,h=>by
    rw [List.map_cons,List.mem_cons,not_or] at h
    unfold addQ
    rw [if_neg (Ne.symm h.1),addQ_no D h.2];rfl
theorem valQ_no {k:List Int}:∀ (D:TabQ),¬ k ∈ D.map (·.1)->valQ D k=0
  | [],_=>rfl
  | p :: D,h=>by
    rw [List.map_cons,List.mem_cons,not_or] at h
    unfold valQ
    rw [if_neg (Ne.symm h.1),valQ_no D h.2]
theorem QE.put {H:Hp} {k:List Int} {x:Rat} {v:V}:∀ {T:TabQ} {kvs:List (List Key × V)},QE H T kvs->NDq T->FrAt H (valQ T k + x) v->QE H (addQ T k x) (putK kvs (kI k) v):=by
  intro T kvs q nd hv
  unfold putK
  rw [q.any]
  by_cases hk:k ∈ T.map (·.1)
  · rw [decide_eq_true hk,if_pos rfl]
    induction T generalizing kvs with
    | nil=>simp at hk
    | cons p T ih =>
      cases kvs with
      | nil=>exact q.elim
      | cons kv kvs =>
        obtain ⟨a,b,c⟩:=q
        obtain ⟨kk,y⟩:=kv
        have a:kk=kI p.1:=a
        subst a
        unfold NDq at nd
        rw [List.map_cons,List.nodup_cons] at nd
        unfold addQ
        by_cases e:p.1=k
        · rw [if_pos e]
          show QE H _ ((if kI p.1=kI k then _ else _) :: kvs.map _)
          rw [if_pos (by rw [e]),c.keep (by rw [<- e];exact nd.1)]
          unfold valQ at hv
          rw [if_pos e] at hv
          exact ⟨rfl,hv,c⟩
        · rw [if_neg e]
          show QE H _ ((if kI p.1=kI k then _ else _) :: kvs.map _)
          rw [if_neg (fun z=>e (kI_inj z))]
          unfold valQ at hv
          rw [if_neg e] at hv
          have hk':k ∈ T.map (·.1):=by
            rw [List.map_cons,List.mem_cons] at hk
            exact hk.resolve_left (Ne.symm e)
          exact ⟨rfl,b,ih c nd.2 hv hk'⟩
  · rw [decide_eq_false hk,if_neg (by decide),addQ_no T hk]
    rw [valQ_no T hk] at hv
    refine QE.snoc ?_ q
    rw [show (0:Rat) + x=x by grind] at hv
    exact hv
def putsQ (x:Rat) (s:Int):List (Int × List Int)->TabQ->TabQ
  | [],D=>D
  | b :: bs,D=>putsQ x s bs (addQ D b.2 (x * cut b.1 s))
theorem putsQ_snoc (x:Rat) (s:Int) (b:Int × List Int):∀ (bs:List (Int × List Int)) (D:TabQ),putsQ x s (bs ++ [b]) D=addQ (putsQ x s bs D) b.2 (x * cut b.1 s)
  | [],D=>rfl
  | c :: bs,D=>by
    show putsQ x s (bs ++ [b]) (addQ D c.2 (x * cut c.1 s))=_
    rw [putsQ_snoc x s b bs];rfl
theorem linQ_puts (x:Rat) (s:Int) (φ:List Int->Rat):∀ (bs:List (Int × List Int)) (D:TabQ),linQ (putsQ x s bs D) φ=linQ D φ + x * sumQ (bs.map fun b=>cut b.1 s * φ b.2)
  | [],D=>by show _=_ + x * 0;unfold putsQ;grind
  | b :: bs,D=>by
    unfold putsQ
    rw [linQ_puts x s φ bs,linQ_add,List.map_cons]
    show _=_ + x * (cut b.1 s * φ b.2 + sumQ _)
    grind
structure Vq (N B:Nat) (x:Rat):Prop where
  nn:0 <= x
  le:x <= (B:Rat)
  dv:∃ z:Int,x * (N:Rat)=(z:Rat)
theorem Vq.mono {N B C:Nat} {x:Rat} (h:Vq N B x) (l:B <= C):Vq N C x:=⟨h.nn,by
  have:((B:Nat):Rat) <= ((C:Nat):Rat):=by exact_mod_cast l
  have:=h.le
  grind,h.dv⟩
theorem Vq.zero (N B:Nat):Vq N B 0:=⟨by grind,by exact_mod_cast Nat.zero_le B,0,by grind⟩
theorem Vq.add {N B C:Nat} {x y:Rat} (h:Vq N B x) (k:Vq N C y):Vq N (B + C) (x + y):=by
  obtain ⟨z,hz⟩:=h.dv
  obtain ⟨t,ht⟩:=k.dv
  have h1:=h.nn;have h2:=h.le;have k1:=k.nn;have k2:=k.le
  refine ⟨by grind,?_,z + t,?_⟩
  · have:((B + C:Nat):Rat)=(B:Rat) + (C:Rat):=by push_cast;rfl
    grind
  · have:((z + t:Int):Rat)=(z:Rat) + (t:Rat):=by push_cast;rfl
    grind
theorem Vq.mul {N M B C:Nat} {x y:Rat} (h:Vq N B x) (k:Vq M C y):Vq (N * M) (B * C) (x * y):=by
  obtain ⟨z,hz⟩:=h.dv
  obtain ⟨t,ht⟩:=k.dv
  have h1:=h.nn;have h2:=h.le;have k1:=k.nn;have k2:=k.le
  have hB:(0:Rat) <= (B:Rat):=by grind
  refine ⟨Rat.mul_nonneg h1 k1,?_,z * t,?_⟩
  · have e:((B * C:Nat):Rat)=(B:Rat) * (C:Rat):=by push_cast;rfl
    rw [e]
    have a1:=Rat.mul_le_mul_of_nonneg_right h2 k1
    have a2:=Rat.mul_le_mul_of_nonneg_left k2 hB
    grind
  · have e1:((N * M:Nat):Rat)=(N:Rat) * (M:Rat):=by push_cast;rfl
    have e2:((z * t:Int):Rat)=(z:Rat) * (t:Rat):=by push_cast;rfl
    rw [e1,e2,<- hz,<- ht];grind
theorem Vq.one (N:Nat):Vq N 1 1:=⟨by grind,by grind,N,by
  have:((N:Int):Rat)=(N:Rat):=by norm_cast
  grind⟩
end Mq
namespace Mq
open PySem PySem.Spec L2 Mt Md
def LL:Nat:=(List.range 200).foldl (fun a i=>Nat.lcm a (i + 1)) 1
theorem LL_dvd {s:Nat} (h0:0 < s) (h:s <= 200):∃ q,LL=s * q:=by
  have h1:(List.range 201).all (fun s=>s == 0 || LL % s == 0)=true:=by decide +kernel
  have h2:=List.all_eq_true.mp h1 s (List.mem_range.mpr (by omega))
  have h3:LL % s=0:=by
    have:(s == 0)=false:=by simp;omega
    rw [this,Bool.false_or] at h2
    exact beq_iff_eq.mp h2
  exact ⟨LL / s,(Nat.mul_div_cancel' (Nat.dvd_of_mod_eq_zero h3)).symm⟩
theorem LL_le:LL <= 2 ^ 300:=by decide +kernel
theorem LL_pos:0 < LL:=by decide +kernel
theorem cut_self_mul {t s:Int} (hs:0 < s):cut t s * (s:Rat)=(t:Rat):=by
  unfold cut
  have e:(((s.toNat:Nat):Int):Rat)=(s:Rat):=by congr 1;omega
  rw [Rat.mkRat_eq_div,<- e]
  have h:((s.toNat:Nat):Rat) ≠ 0:=by
    intro z
    have:s.toNat=0:=by exact_mod_cast z
    omega
  have e2:(((s.toNat:Nat):Int):Rat)=((s.toNat:Nat):Rat):=by norm_cast
  rw [e2]
  exact Rat.div_mul_cancel h
theorem rat_le_of {x y:Rat} {s:Rat} (hs:0 < s) (h:x * s <= y * s):x <= y:=Rat.le_of_mul_le_mul_right h hs
theorem rat_eq_of {x y:Rat} {s:Rat} (hs:0 < s) (h:x * s=y * s):x=y:=by
  have h1:=rat_le_of hs (show x * s <= y * s by grind)
  have h2:=rat_le_of hs (show y * s <= x * s by grind)
  grind
theorem cast_pos {s:Int} (hs:0 < s):(0:Rat) < (s:Rat):=by exact_mod_cast hs
theorem cut_vq {t s:Int} (h0:0 <= t) (h1:t <= s) (hs:0 < s) (h2:s <= 200):Vq LL 1 (cut t s):=by
  have hm:=cut_self_mul (t:=t) hs
  have hp:=cast_pos hs
  obtain ⟨q,hq⟩:=LL_dvd (s:=s.toNat) (by omega) (by omega)
  refine ⟨rat_le_of hp ?_,rat_le_of hp ?_,t * q,?_⟩
  · rw [hm]
    have:(0:Rat) <= (t:Rat):=by exact_mod_cast h0
    grind
  · rw [hm]
    have:(t:Rat) <= (s:Rat):=by exact_mod_cast h1
    have e:((1:Nat):Rat)=1:=rfl
    rw [e];grind
  · rw [hq]
    have e1:((s.toNat * q:Nat):Rat)=((s.toNat:Nat):Rat) * (q:Rat):=by push_cast;rfl
    have e2:((s.toNat:Nat):Rat)=(s:Rat):=by
      have:(((s.toNat:Nat):Int):Rat)=(s:Rat):=by congr 1;omega
      rw [<- this];norm_cast
    have e3:((t * (q:Int):Int):Rat)=(t:Rat) * (q:Rat):=by push_cast;rfl
    rw [e1,e2,e3,<- hm];grind
theorem Vq.bd {N B n:Nat} {x:Rat} (h:Vq N B x) (h0:0 < N) (h1:N * B <= 2 ^ n) (h2:N <= 2 ^ n):Bd n x:=by
  obtain ⟨z,hz⟩:=h.dv
  have hp:(0:Int) < (N:Int):=by omega
  have hm:=cut_self_mul (t:=z) hp
  have e:(((N:Nat):Int):Rat)=(N:Rat):=by norm_cast
  rw [e] at hm
  have hq:(0:Rat) < (N:Rat):=by rw [<- e];exact cast_pos hp
  have ex:x=cut z N:=rat_eq_of hq (by rw [hz,hm])
  have l0:(0:Rat) <= (z:Rat):=by rw [<- hz];exact Rat.mul_nonneg h.nn (by grind)
  have l1:(z:Rat) <= ((B * N:Nat):Rat):=by
    have e2:((B * N:Nat):Rat)=(B:Rat) * (N:Rat):=by push_cast;rfl
    rw [<- hz,e2]
    exact Rat.mul_le_mul_of_nonneg_right h.le (by grind)
  have m0:0 <= z:=by exact_mod_cast l0
  have m1:z <= ((B * N:Nat):Int):=by exact_mod_cast l1
  rw [ex]
  rw [Nat.mul_comm] at h1
  exact Bd.cut hp (by omega) (by omega)
theorem le_sum:∀ {l:List Int},(∀ x ∈ l,0 <= x)->∀ x ∈ l,x <= l.sum
  | [],_,x,h=>by simp at h
  | a :: l,h,x,hx=>by
    have h1:=h a List.mem_cons_self
    have h2:=sum_nonneg fun y hy=>h y (List.mem_cons_of_mem _ hy)
    rw [List.sum_cons]
    rcases List.mem_cons.mp hx with e | e
    · omega
    · have:=le_sum (fun y hy=>h y (List.mem_cons_of_mem _ hy)) x e
      omega
theorem getD_le_sum {n m:Nat} {u:List Int} (h:Urn n m u) (k:Nat):u.getD k 0 <= u.sum:=by
  rw [List.getD_eq_getElem?_getD]
  cases e:u[k]? with
  | none=>have:=h.pos;show (0:Int) <= _;omega
  | some x=>exact le_sum (fun x hx=>(h.nn x hx).1) x (List.mem_of_getElem? e)
theorem sum_200 {n m:Nat} {u:List Int} (h:Urn n m u) (n4:n <= 4) (hm:m <= 50):u.sum <= 200:=by
  have:=Mt.sum_le (m:=50) (l:=u) fun x hx=>by have:=(h.nn x hx).2;omega
  rw [h.len] at this
  omega
def AllQ (N B:Nat) (D:TabQ):Prop:=∀ p ∈ D,Vq N B p.2
theorem AllQ.add {N B C:Nat} {k:List Int} {x:Rat} (hx:Vq N C x):∀ {D:TabQ},AllQ N B D->AllQ N (B + C) (addQ D k x)
  | [],_=>fun p hp=>by
    unfold addQ at hp
    rw [List.mem_singleton.mp hp]
    exact hx.mono (by omega)
  | q :: D,h=>fun p hp=>by
    unfold addQ at hp
    split at hp
    · rcases List.mem_cons.mp hp with z | z
      · rw [z];exact (h q List.mem_cons_self).add hx
      · exact (h p (List.mem_cons_of_mem _ z)).mono (by omega)
    · rcases List.mem_cons.mp hp with z | z
      · rw [z];exact (h q List.mem_cons_self).mono (by omega)
      · exact AllQ.add hx (fun r hr=>h r (List.mem_cons_of_mem _ hr)) p z
theorem AllQ.val {N B:Nat} {k:List Int}:∀ {D:TabQ},AllQ N B D->Vq N B (valQ D k)
  | [],_=>Vq.zero N B
  | q :: D,h=>by
    unfold valQ
    split
    · exact h q List.mem_cons_self
    · exact AllQ.val fun r hr=>h r (List.mem_cons_of_mem _ hr)
theorem AllQ.mono {N B C:Nat} {D:TabQ} (h:AllQ N B D) (l:B <= C):AllQ N C D:=fun p hp=>(h p hp).mono l
theorem LL_pow (k:Nat):LL ^ k <= 2 ^ (300 * k):=by
  rw [Nat.pow_mul];exact Nat.pow_le_pow_left LL_le k
theorem LLp_pos (k:Nat):0 < LL ^ k:=Nat.pow_pos LL_pos
theorem sumQ_vq {N B:Nat}:∀ {xs:List Rat},(∀ x ∈ xs,Vq N B x)->Vq N (B * xs.length) (sumQ xs)
  | [],_=>Vq.zero N _
  | x :: xs,h=>by
    have h1:=sumQ_vq fun y hy=>h y (List.mem_cons_of_mem _ hy)
    have h2:=(h x List.mem_cons_self).add h1
    exact h2.mono (by rw [List.length_cons,Nat.mul_add];omega)
end Mq
namespace G
open PySem PySem.Spec PyProof.Rows L2 Mt Md Mq
structure Ct2 (mg:Str->Option Value):Prop where
  stand:∃ t,mg "MOST_STAND_DRAWS"=some (.int 6 t)
structure Bt3 (mg:Str->Option Value):Prop where
  enumerate:mg "enumerate"=none
  sorted:mg "sorted"=none
theorem sm_k {k:Int} (h1:1 <= k) (h4:k <= 4):Sm k:=by
  have h:k=1 ∨ k=2 ∨ k=3 ∨ k=4:=by omega
  rcases h with rfl | rfl | rfl | rfl <;> (unfold Sm;decide +kernel)
theorem urnD_true {m:Int} {d:PyData} (h:urnD m d=true):∃ ns:List Int,d=DI ns/\1 <= ns.length/\ns.length <= 4/\(∀ x ∈ ns,0 <= x/\x <= m)/\0 < ns.sum:=by
  unfold urnD at h
  rw [Bool.and_eq_true,Bool.and_eq_true,Bool.and_eq_true] at h
  obtain ⟨hw,⟨h1,h4⟩,hs⟩:=h
  obtain ⟨ns,e,hn⟩:=wholesD_ints hw
  subst e
  rw [lenD_DI] at h1 h4
  rw [sumD_DI] at hs
  have h1':=of_decide_eq_true h1
  have h4':=of_decide_eq_true h4
  exact ⟨ns,rfl,by omega,by omega,hn,of_decide_eq_true hs⟩
theorem bits_of {i:Int} {n:Nat} (h:i.natAbs <= 2 ^ n) (hn:n <= 100000):Builtin.Int.intBits i <= 2 ^ 20:=by
  unfold Builtin.Int.intBits
  split
  · exact Nat.zero_le _
  · rename_i hz
    have hz':i.natAbs ≠ 0:=fun e=>hz (by rw [beq_iff_eq];omega)
    have h2:i.natAbs.log2 < n + 1:=(Nat.log2_lt hz').mpr (Nat.lt_of_le_of_lt h (Nat.pow_lt_pow_right (by decide) (by omega)))
    omega
theorem log_of {i:Int} {n:Nat} (h0:0 < i) (h:i.natAbs <= 2 ^ n) (hn:n < 8999):i.natAbs.log2 < 9000:=by
  rw [Nat.log2_lt (by omega)]
  exact Nat.lt_of_le_of_lt h (Nat.pow_lt_pow_right (by decide) (by omega))
theorem gcd_step {x y:Int} (hx:0 <= x) (hy:0 < y):Int.gcd y (x % y)=Int.gcd x y:=by
  have h1:(x % y).natAbs=x.natAbs % y.natAbs:=by
    rw [Int.natAbs_emod_of_nonneg hx]
  unfold Int.gcd
  rw [h1,Nat.gcd_comm x.natAbs,Nat.gcd_rec y.natAbs x.natAbs,Nat.gcd_comm]
theorem Urn.sum_le {n m:Nat} {ns:List Int} (h:Mt.Urn n m ns) (hn:n <= 4):ns.sum <= (m:Int) * 4:=by
  have:=Mt.sum_le (m:=(m:Int)) (l:=ns) fun x hx=>(h.nn x hx).2
  rw [h.len] at this
  refine Int.le_trans this (Int.mul_le_mul_of_nonneg_left (by omega) (by omega))
mutual
theorem Dt_toD {l T:Addr} {H:Hp} {ps:List (List Key × V)} (hT:H T=some (.dT ps)):∀ {d:PyData} {v:V},Dt l H d v->Dt T H d v
  | .none,_,h=>by unfold Dt at h ⊢;exact h
  | .bool _,_,h=>by unfold Dt at h ⊢;exact h
  | .int _,_,h=>by unfold Dt at h ⊢;exact h
  | .str _,_,h=>by unfold Dt at h ⊢;exact h
  | .tuple ds,_,h=>by
    unfold Dt at h ⊢
    obtain ⟨a,xs,e,n,q,r⟩:=h
    exact ⟨a,xs,e,(fun z=>by rw [z,hT] at q;cases q),q,Dts_toD hT r⟩
  | .list ds,_,h=>by
    unfold Dt at h ⊢
    obtain ⟨a,xs,e,n,q,r⟩:=h
    exact ⟨a,xs,e,(fun z=>by rw [z,hT] at q;cases q),q,Dts_toD hT r⟩
  | .dict kvs,_,h=>by
    unfold Dt at h ⊢
    obtain ⟨z,a,e,n,q⟩:=h
    exact ⟨z,a,e,(fun z=>by rw [z,hT] at q;cases q),q⟩
theorem Dts_toD {l T:Addr} {H:Hp} {ps:List (List Key × V)} (hT:H T=some (.dT ps)):∀ {ds:List PyData} {xs:List V},Dts l H ds xs->Dts T H ds xs
  | [],_,h=>by unfold Dts at h ⊢;exact h
  | d :: ds,_,h=>by
    unfold Dts at h ⊢
    obtain ⟨x,r,e,q1,q2⟩:=h
    exact ⟨x,r,e,Dt_toD hT q1,Dts_toD hT q2⟩
end
theorem sm_0:Sm 0:=by unfold Sm;decide +kernel
theorem small_tab {n:Nat} (h:n <= 10000):n < sizeLine:=by rw [sizeLine_eq];omega
section
variable {P:Program} {w:World} {K:PySem.W.Frag} {mg:Str->Option Value} {base:Heap} {f:Addr} {fd:FuncData} {ec:Nat->Addr} {Bs:Addr}
def sp_need_urn (ec:Nat->Addr):Sp:=fun vs H Q E=>∃ (v:V) (st:Addr) (d:PyData),vs=[v]/\Dt st H d v/\short d/\(urnD 20 d=true->∀ H',Same H H'->Q .non H')/\(urnD 20 d=false->∀ H',Same H H'->E (.ref (ec 0)) none H')
abbrev s_need_urn:Stmt:=top 24
theorem sc_need_urn:FnScope ["thing"] ["thing"] (defScope s_need_urn):=⟨rfl,rfl,rfl,by decide +kernel,rfl,by decide +kernel,by decide +kernel⟩
theorem ok_need_urn (F:Fun K "need_urn" "need_urn" s_need_urn f fd) (R:Errs K mg ec Bs) (c1:Cal P w K mg base 4 "is_urn" ["thing"] sp_is_urn):FnOk P w K mg base (CX1 P w) 5 f fd ["thing"] (sp_need_urn ec):=by
  refine F.okX sc_need_urn (fun vs H Q E h=>?_) (fun cdv A outer s H vs Q E hr h=>?_)
  · obtain ⟨v,st,d,rfl,_⟩:=h
    rfl
  obtain ⟨v,st,d,rfl,hd,hs,q1,q2⟩:=h
  refine ⟨_,pss_one (ps_if (pt_not (pt_val (pe_cal c1 hr rfl (pa_cons (pv 0) pa_nil)))) (pss_one (ps_raise1 R.e0 (R.xc 0 (by decide)) pe_str (fun σ H Q Q' m q=>m _ _ q))) pss_nil),?_⟩
  refine ⟨_,rfl,v,st,d,rfl,hd,hs,fun H1 g1=>⟨_,rfl,?_⟩⟩
  cases hw:urnD 20 d with
  | true=>exact iteF (q1 hw H1 g1)
  | false=>exact iteT (q2 hw H1 g1)
def sp_need_rule (ec:Nat->Addr):Sp:=fun vs H Q E=>∃ (v:V) (st:Addr) (d:PyData) (k:Int),vs=[.int k,v]/\1 <= k/\k <= 4/\Dt st H d v/\ok2 d/\(ruleD k d=true->∀ H',Same H H'->Q .non H')/\(ruleD k d=false->∀ H',Same H H'->E (.ref (ec 1)) none H')
abbrev s_need_rule:Stmt:=top 25
theorem sc_need_rule:FnScope ["kinds","thing"] ["kinds","thing"] (defScope s_need_rule):=⟨rfl,rfl,rfl,by decide +kernel,rfl,by decide +kernel,by decide +kernel⟩
theorem ok_need_rule (F:Fun K "need_rule" "need_rule" s_need_rule f fd) (R:Errs K mg ec Bs) (c1:CalX P w K mg base 3 "is_rule" ["kinds","thing"] (sp_is_rule ec)):FnOk P w K mg base (CX1 P w) 4 f fd ["kinds","thing"] (sp_need_rule ec):=by
  refine F.okX sc_need_rule (fun vs H Q E h=>?_) (fun cdv A outer s H vs Q E hr h=>?_)
  · obtain ⟨v,st,d,k,rfl,_⟩:=h
    rfl
  obtain ⟨v,st,d,k,rfl,k1,k4,hd,ok,q1,q2⟩:=h
  refine ⟨_,pss_one (ps_if (pt_not (pt_val (pe_calx c1 hr rfl passes1 (pa_cons (pv 0) (pa_cons (pv 1) pa_nil))))) (pss_one (ps_raise1 R.e1 (R.xc 1 (by decide)) (pe_fstr (pj_str (pj_fmt (pv 0) (pj_str pj_nil)))) (fun σ H Q Q' m q=>?_))) pss_nil),?_⟩
  · obtain ⟨v1,z1,i1,z2,z3,z4,z5⟩:=q
    exact ⟨v1,z1,i1,z2,z3,z4,fun z=>m _ _ (z5 z)⟩
  refine ⟨_,rfl,_,rfl,.int k,v,st,.int k,d,rfl,Dt.int _ _ _,(fun hw=>?_),fun k' e _ _=>?_⟩
  · have hw':(decide ((1:Int) <= k) && decide (k <= 4))=false:=hw
    rw [decide_eq_true k1,decide_eq_true k4] at hw'
    cases hw'
  cases e
  refine ⟨hd,ok.1,ok.2,fun H1 g1=>⟨_,rfl,?_⟩⟩
  cases hw:ruleD k d with
  | true=>exact iteF (q1 hw H1 g1)
  | false=>exact iteT ⟨_,rfl,k,rfl,(sm_k k1 k4).1,(sm_k k1 k4).2,fun z=>q2 hw H1 g1⟩
def sp_nur (ec:Nat->Addr):Sp:=fun vs H Q E=>∃ (u v:V) (st:Addr) (d e:PyData),vs=[u,v]/\Dt st H d u/\short d/\Dt st H e v/\ok2 e/\(urnD 20 d=false->∀ H',Same H H'->E (.ref (ec 0)) none H') /\
  (urnD 20 d=true->ruleD (lenD d) e=false->∀ H',Same H H'->E (.ref (ec 1)) none H')/\(urnD 20 d=true->ruleD (lenD d) e=true->∀ H',Same H H'->Q .non H')
abbrev s_nur:Stmt:=top 26
theorem sc_nur:FnScope ["urn","rule"] ["urn","rule"] (defScope s_nur):=⟨rfl,rfl,rfl,by decide +kernel,rfl,by decide +kernel,by decide +kernel⟩
theorem ok_nur (F:Fun K "need_urn_and_rule" "need_urn_and_rule" s_nur f fd) (B:Bt mg) (c1:CalX P w K mg base 5 "need_urn" ["thing"] (sp_need_urn ec)) (c2:CalX P w K mg base 4 "need_rule" ["kinds","thing"] (sp_need_rule ec)):FnOk P w K mg base (CX1 P w) 6 f fd ["urn","rule"] (sp_nur ec):=by
  refine F.okX sc_nur (fun vs H Q E h=>?_) (fun cdv A outer s H vs Q E hr h=>?_)
  · obtain ⟨u,v,st,d,e,rfl,_⟩:=h
    rfl
  obtain ⟨u,v,st,d,e,rfl,hu,hus,hv,hvo,q0,q1,q2⟩:=h
  refine ⟨_,pss_cons (ps_expr (pe_calx c1 hr rfl passes1 (pa_cons (pv 0) pa_nil))) (pss_one (ps_expr (pe_calx (c2.up (by decide)) hr rfl passes1 (pa_cons (pe_callB call_len_seq rfl B.len PySem.boot_len (pa_cons (pv 0) pa_nil)) (pa_cons (pv 1) pa_nil))))),?_⟩
  refine ⟨_,rfl,u,st,d,rfl,hu,hus,fun hw H1 g1=>?_,q0⟩
  obtain ⟨ns,e1,l1,l4,_⟩:=urnD_true hw
  subst e1
  obtain ⟨a,e2,_,ha⟩:=hu.di
  subst e2
  have q1':=q1 hw
  have q2':=q2 hw
  rw [lenD_DI] at q1' q2'
  refine ⟨_,rfl,a,_,rfl,.inr (.of (g1 _ _ ha)),_,rfl,v,st,e,(ns.length:Int),?_,by omega,by omega,hv.kp (g1.kp st),hvo,fun hr2 H2 g2=>q2' hr2 H2 (g1.trans g2),fun hr2 H2 g2=>q1' hr2 H2 (g1.trans g2)⟩
  rw [List.length_map]
def sp_gd:Sp:=fun vs H Q _=>∃ x y:Int,vs=[.int x,.int y]/\0 <= x/\0 <= y/\Q (.int (Int.gcd x y:Nat)) H
abbrev s_gd:Stmt:=top 12
theorem sc_gd:FnScope ["one","other"] ["one","other"] (defScope s_gd):=⟨rfl,rfl,rfl,by decide +kernel,rfl,by decide +kernel,by decide +kernel⟩
theorem ok_gd (F:Fun K "greatest_divisor" "greatest_divisor" s_gd f fd) (B:Bt mg):FnOk P w K mg base CX0 1 f fd ["one","other"] sp_gd:=by
  refine F.ok sc_gd (fun vs H Q E h=>?_) (fun cdv A outer s H vs Q E hr h=>?_)
  · obtain ⟨x,y,rfl,_⟩:=h
    rfl
  obtain ⟨x,y,rfl,hx,hy,q⟩:=h
  refine ⟨_,pss_cons (ps_while PassesOwn.never (pt_cmpR op_ne (pv 1) pe_int (nomark _)) (pss_one (ps_par (i:=0) (j:=1) rfl sc_gd.nd rfl rfl (by decide) rfl rfl (pa_cons (pv 1) (pa_cons (pe_op op_mod (pv 0) (pv 1)) pa_nil)) rfl)))
    (pss_one (ps_ret (pe_callB call_abs rfl B.abs boot_abs (pa_cons (pv 0) pa_nil)))),?_⟩
  refine ⟨fun m σ H2=>H2=H/\∃ x' y':Int,0 <= x'/\0 <= y'/\σ=[some (.int x'),some (.int y')]/\m=y'.toNat/\Int.gcd x' y'=Int.gcd x y,⟨_,rfl,x,y,hx,hy,rfl,rfl,rfl⟩,?_⟩
  rintro m σ H2 ⟨rfl,x',y',h1,h2,rfl,rfl,e⟩
  refine ⟨_,rfl,rfl,_,rfl,?_⟩
  by_cases hz:y'=0
  · subst hz
    rw [decide_eq_true rfl]
    refine iteF ⟨_,rfl,x',rfl,?_⟩
    have e2:(if x' < 0 then -x' else x')=((Int.gcd x y:Nat):Int):=by
      rw [<- e,Int.gcd_zero_right]
      split <;> omega
    rw [e2];exact q
  · rw [decide_eq_false (show ¬ V.int y'=V.int 0 from fun z=>hz (by injection z))]
    refine iteT ⟨fun σ' H'=>H'=H2/\∃ a b:Int,0 <= a/\0 <= b/\σ'=[some (.int a),some (.int b)]/\b.toNat < y'.toNat/\Int.gcd a b=Int.gcd x y,?_,?_⟩
    · rintro σ' H' ⟨rfl,a,b,ha,hb,rfl,hlt,e2⟩
      exact ⟨_,hlt,rfl,a,b,ha,hb,rfl,rfl,e2⟩
    · have hm:=Int.emod_nonneg x' (show y' ≠ 0 from hz)
      have hm2:=Int.emod_lt_of_pos x' (show 0 < y' by omega)
      refine ⟨_,rfl,_,rfl,_,rfl,_,_,rfl,rfl,(by omega),_,_,rfl,?_⟩
      exact ⟨rfl,y',x' % y',h2,hm,rfl,by omega,by rw [gcd_step h1 (by omega)];exact e⟩
def sp_fraction:Sp:=fun vs H Q _=>∃ t b:Int,vs=[.int t,.int b]/\0 <= t/\0 < b/\b.natAbs.log2 < 9000/\∀ p H',Same H H'->H' p=some (.tup ((fr (cut t b)).map V.int))->Q (.ref p) H'
abbrev s_fraction:Stmt:=top 13
theorem sc_fraction:FnScope ["top","bottom","divisor"] ["top","bottom"] (defScope s_fraction):=⟨rfl,rfl,rfl,by decide +kernel,rfl,by decide +kernel,by decide +kernel⟩
theorem gcd_log {t b:Int} (hb:0 < b) (h:b.natAbs.log2 < 9000):0 < ((Int.gcd t b:Nat):Int)/\((Int.gcd t b:Nat):Int).natAbs.log2 < 9000:=by
  have h0:0 < Int.gcd t b:=Int.gcd_pos_of_ne_zero_right _ (by omega)
  refine ⟨by omega,?_⟩
  rw [Int.natAbs_natCast]
  have l:Int.gcd t b <= b.natAbs:=Nat.le_of_dvd (by omega) (Nat.gcd_dvd_right _ _)
  rw [Nat.log2_lt (by omega)] at h ⊢
  omega
theorem ok_fraction (F:Fun K "fraction" "fraction" s_fraction f fd) (c1:Cal P w K mg base 1 "greatest_divisor" ["one","other"] sp_gd):FnOk P w K mg base CX0 2 f fd ["top","bottom"] sp_fraction:=by
  refine F.ok sc_fraction (fun vs H Q E h=>?_) (fun cdv A outer s H vs Q E hr h=>?_)
  · obtain ⟨x,y,rfl,_⟩:=h
    rfl
  obtain ⟨t,b,rfl,ht,hb,hlog,q⟩:=h
  refine ⟨_,pss_cons (ps_set (i:=2) sc_fraction.nd rfl (Or.inl rfl) (pe_cal c1 hr rfl (pa_cons (pv 0) (pa_cons (pv 1) pa_nil))))
    (pss_one (ps_ret (pe_tup (pa_cons (pe_op op_fdivB (pv 0) (pv 2)) (pa_cons (pe_op op_fdivB (pv 1) (pv 2)) pa_nil))))),?_⟩
  have g:=gcd_log (t:=t) hb hlog
  refine ⟨_,rfl,_,rfl,t,b,rfl,ht,by omega,?_⟩
  refine ⟨_,rfl,_,rfl,_,_,rfl,rfl,g,_,rfl,_,rfl,_,_,rfl,rfl,g,(by show 2 <= sizeLine;decide),fun p hp=>?_⟩
  refine q p _ (Same.new hp) ?_
  rw [upd_same,fr_cut hb];rfl
def sp_times:Sp:=fun vs H Q _=>∃ (p q:Addr) (x y:Rat) (n m:Nat),vs=[.ref p,.ref q]/\H p=some (.tup ((fr x).map V.int))/\H q=some (.tup ((fr y).map V.int))/\0 <= x.num/\0 <= y.num/\Bd n x/\Bd m y/\n + m <= 8000 /\
  ∀ r H',Same H H'->H' r=some (.tup ((fr (x * y)).map V.int))->Q (.ref r) H'
abbrev s_times:Stmt:=top 15
theorem sc_times:FnScope ["one","other"] ["one","other"] (defScope s_times):=⟨rfl,rfl,rfl,by decide +kernel,rfl,by decide +kernel,by decide +kernel⟩
theorem ok_times (F:Fun K "times" "times" s_times f fd) (c1:Cal P w K mg base 2 "fraction" ["top","bottom"] sp_fraction):FnOk P w K mg base CX0 3 f fd ["one","other"] sp_times:=by
  refine F.ok sc_times (fun vs H Q E h=>?_) (fun cdv A outer s H vs Q E hr h=>?_)
  · obtain ⟨p,q,x,y,n,m,rfl,_⟩:=h
    rfl
  obtain ⟨p,q,x,y,n,m,rfl,hp,hq,x0,y0,bx,by',hnm,k⟩:=h
  refine ⟨_,pss_one (ps_ret (pe_cal c1 hr rfl (pa_cons (pe_op op_mulB (pe_ix ix_tup (pv 0) pe_int (fun _ _=>rfl)) (pe_ix ix_tup (pv 1) pe_int (fun _ _=>rfl))) (pa_cons (pe_op op_mulB (pe_ix ix_tup (pv 0) pe_int (fun _ _=>rfl)) (pe_ix ix_tup (pv 1) pe_int (fun _ _=>rfl))) pa_nil)))),?_⟩
  have hp':H p=some (.tup [.int x.num,.int x.den]):=hp
  have hq':H q=some (.tup [.int y.num,.int y.den]):=hq
  have b1:Builtin.Int.intBits x.num <= 2 ^ 20:=bits_of bx.num (by omega)
  have b2:Builtin.Int.intBits y.num <= 2 ^ 20:=bits_of by'.num (by omega)
  have b3:Builtin.Int.intBits (x.den:Int) <= 2 ^ 20:=bits_of (by rw [Int.natAbs_natCast];exact bx.den) (by omega)
  have b4:Builtin.Int.intBits (y.den:Int) <= 2 ^ 20:=bits_of (by rw [Int.natAbs_natCast];exact by'.den) (by omega)
  refine ⟨_,rfl,p,_,_,_,rfl,rfl,.of hp',atI_nat (j:=0) rfl,_,rfl,q,_,_,_,rfl,rfl,.of hq',atI_nat (j:=0) rfl,_,_,rfl,rfl,⟨b1,b2⟩,
    _,rfl,p,_,_,_,rfl,rfl,.of hp',atI_nat (j:=1) rfl,_,rfl,q,_,_,_,rfl,rfl,.of hq',atI_nat (j:=1) rfl,_,_,rfl,rfl,⟨b3,b4⟩,_,_,rfl,Int.mul_nonneg x0 y0,?_,?_,?_⟩
  · have h1:=x.den_nz;have h2:=y.den_nz
    have:=Nat.mul_pos (Nat.pos_of_ne_zero h1) (Nat.pos_of_ne_zero h2)
    rw [<- Int.natCast_mul];omega
  · rw [Nat.log2_lt (by have h1:=x.den_nz;have h2:=y.den_nz;rw [Int.natAbs_mul];exact Nat.mul_ne_zero (by omega) (by omega)),Int.natAbs_mul]
    refine Nat.lt_of_le_of_lt (Nat.mul_le_mul bx.den by'.den) ?_
    rw [<- Nat.pow_add]
    exact Nat.pow_lt_pow_right (by decide) (by omega)
  · rw [cut_mul];exact k
def sp_plus:Sp:=fun vs H Q _=>∃ (p q:Addr) (x y:Rat) (n m:Nat),vs=[.ref p,.ref q]/\H p=some (.tup ((fr x).map V.int))/\H q=some (.tup ((fr y).map V.int))/\0 <= x.num/\0 <= y.num/\Bd n x/\Bd m y/\n + m <= 8000 /\
  ∀ r H',Same H H'->H' r=some (.tup ((fr (x + y)).map V.int))->Q (.ref r) H'
abbrev s_plus:Stmt:=top 14
theorem sc_plus:FnScope ["one","other"] ["one","other"] (defScope s_plus):=⟨rfl,rfl,rfl,by decide +kernel,rfl,by decide +kernel,by decide +kernel⟩
theorem ok_plus (F:Fun K "plus" "plus" s_plus f fd) (c1:Cal P w K mg base 2 "fraction" ["top","bottom"] sp_fraction):FnOk P w K mg base CX0 3 f fd ["one","other"] sp_plus:=by
  refine F.ok sc_plus (fun vs H Q E h=>?_) (fun cdv A outer s H vs Q E hr h=>?_)
  · obtain ⟨p,q,x,y,n,m,rfl,_⟩:=h
    rfl
  obtain ⟨p,q,x,y,n,m,rfl,hp,hq,x0,y0,bx,by',hnm,k⟩:=h
  refine ⟨_,pss_one (ps_ret (pe_cal c1 hr rfl (pa_cons (pe_op op_add (pe_op op_mulB (pe_ix ix_tup (pv 0) pe_int (fun _ _=>rfl)) (pe_ix ix_tup (pv 1) pe_int (fun _ _=>rfl))) (pe_op op_mulB (pe_ix ix_tup (pv 1) pe_int (fun _ _=>rfl)) (pe_ix ix_tup (pv 0) pe_int (fun _ _=>rfl)))) (pa_cons (pe_op op_mulB (pe_ix ix_tup (pv 0) pe_int (fun _ _=>rfl)) (pe_ix ix_tup (pv 1) pe_int (fun _ _=>rfl))) pa_nil)))),?_⟩
  have hp':H p=some (.tup [.int x.num,.int x.den]):=hp
  have hq':H q=some (.tup [.int y.num,.int y.den]):=hq
  have b1:Builtin.Int.intBits x.num <= 2 ^ 20:=bits_of bx.num (by omega)
  have b2:Builtin.Int.intBits y.num <= 2 ^ 20:=bits_of by'.num (by omega)
  have b3:Builtin.Int.intBits (x.den:Int) <= 2 ^ 20:=bits_of (by rw [Int.natAbs_natCast];exact bx.den) (by omega)
  have b4:Builtin.Int.intBits (y.den:Int) <= 2 ^ 20:=bits_of (by rw [Int.natAbs_natCast];exact by'.den) (by omega)
  refine ⟨_,rfl,p,_,_,_,rfl,rfl,.of hp',atI_nat (j:=0) rfl,_,rfl,q,_,_,_,rfl,rfl,.of hq',atI_nat (j:=1) rfl,_,_,rfl,rfl,⟨b1,b4⟩,
    _,rfl,q,_,_,_,rfl,rfl,.of hq',atI_nat (j:=0) rfl,_,rfl,p,_,_,_,rfl,rfl,.of hp',atI_nat (j:=1) rfl,_,_,rfl,rfl,⟨b2,b3⟩,_,_,rfl,rfl,
    _,rfl,p,_,_,_,rfl,rfl,.of hp',atI_nat (j:=1) rfl,_,rfl,q,_,_,_,rfl,rfl,.of hq',atI_nat (j:=1) rfl,_,_,rfl,rfl,⟨b3,b4⟩,_,_,rfl,?_,?_,?_,?_⟩
  · exact Int.add_nonneg (Int.mul_nonneg x0 (by omega)) (Int.mul_nonneg y0 (by omega))
  · have h1:=x.den_nz;have h2:=y.den_nz
    have:=Nat.mul_pos (Nat.pos_of_ne_zero h1) (Nat.pos_of_ne_zero h2)
    rw [<- Int.natCast_mul];omega
  · rw [Nat.log2_lt (by have h1:=x.den_nz;have h2:=y.den_nz;rw [Int.natAbs_mul];exact Nat.mul_ne_zero (by omega) (by omega)),Int.natAbs_mul]
    refine Nat.lt_of_le_of_lt (Nat.mul_le_mul bx.den by'.den) ?_
    rw [<- Nat.pow_add]
    exact Nat.pow_lt_pow_right (by decide) (by omega)
  · rw [cut_add];exact k
def sp_share:Sp:=fun vs H Q _=>∃ (a:Addr) (n m:Nat) (ns:List Int) (k:Nat),vs=[.ref a,.int k]/\H a=some (.tup (ns.map V.int))/\Mt.Urn n m ns/\n <= 4/\m <= 1000/\k < n/\∀ p H',Same H H'->H' p=some (.tup ((fr (Mt.share ns k)).map V.int))->Q (.ref p) H'
abbrev s_share:Stmt:=top 28
theorem sc_share:FnScope ["urn","kind"] ["urn","kind"] (defScope s_share):=⟨rfl,rfl,rfl,by decide +kernel,rfl,by decide +kernel,by decide +kernel⟩
theorem ok_share (F:Fun K "share" "share" s_share f fd) (B:Bt mg) (c1:Cal P w K mg base 2 "fraction" ["top","bottom"] sp_fraction):FnOk P w K mg base CX0 3 f fd ["urn","kind"] sp_share:=by
  refine F.ok sc_share (fun vs H Q E h=>?_) (fun cdv A outer s H vs Q E hr h=>?_)
  · obtain ⟨a,n,m,ns,k,rfl,_⟩:=h
    rfl
  obtain ⟨a,n,m,ns,k,rfl,ha,hu,h4,hm,hk,q⟩:=h
  refine ⟨_,pss_one (ps_ret (pe_cal c1 hr rfl (pa_cons (pe_ix ix_tup (pv 0) (pv 1) (fun _ _=>rfl)) (pa_cons (pe_callB (call_sum_seq rfl) rfl B.sum boot_sum (pa_cons (pv 0) pa_nil)) pa_nil)))),?_⟩
  have h2:=Urn.sum_le hu h4
  have h3:=hu.pos
  refine ⟨_,rfl,_,rfl,a,_,_,_,rfl,rfl,.of ha,atI_int (by rw [hu.len];exact hk),_,rfl,a,ns,rfl,.inr (.of ha),_,_,rfl,(hu.getD k).1,h3,log_of (n:=12) h3 (by show _ <= 4096;omega) (by omega),q⟩
end
end G
namespace G
open PySem PySem.Spec PyProof.Rows L2 Mt Md Mq
theorem kp_tup {l:Addr} {H H':Hp} {o:HO} (hl:H l=some o) (ho:∀ xs,o ≠ .tup xs) (k:Kp l H H'):∀ a xs,H a=some (.tup xs)->H' a=some (.tup xs):=fun a xs e=>k a _ (fun z=>by rw [z,hl] at e;injection e with e;exact ho _ e) e
section
variable {P:Program} {w:World} {K:PySem.W.Frag} {mg:Str->Option Value} {base:Heap} {f:Addr} {fd:FuncData} {ec:Nat->Addr} {Bs:Addr}
end
end G
namespace Mq
open PySem PySem.Spec L2 Mt Md
def dd {α:Type} [DecidableEq α]:List α->List α
  | []=>[]
  | a :: l=>if a ∈ dd l then dd l else a :: dd l
end Mq
namespace Mq
open PySem PySem.Spec L2 Mt Md
theorem share_sum {u:List Int} (h:0 < u.sum):∀ i:Nat,sumQ ((List.range i).map fun k=>share u k * 1)=psh u i
  | 0=>by rw [psh_zero h];rfl
  | i + 1=>by
    rw [List.range_succ,List.map_append,sumQ_append,share_sum h i,psh_succ h]
    show _ + (share u i * 1 + 0)=_
    grind
end Mq
namespace Mq
open PySem PySem.Spec L2 Mt Md
theorem share_all {n m:Nat} {u:List Int} (h:Urn n m u):sumQ ((List.range n).map fun i=>share u i)=1:=by
  have e:=share_sum h.pos n
  have e2:((List.range n).map fun k=>share u k * 1)=(List.range n).map fun i=>share u i:=List.map_congr_left fun k _=>by grind
  rw [e2] at e
  rw [e,<- h.len,psh_all h.pos]
end Mq
namespace Mq
open PySem PySem.Spec L2 Mt Md
def aloR (n:Nat) (c:Int) (i:Nat):List Int:=(List.range n).map fun j=>c * (if i=j then 1 else 0)
def alo (n:Nat) (c:Int):List (List Int):=(List.range n).map fun i=>aloR n c i
theorem alo_get {n:Nat} {c:Int} {i:Nat} (h:i < n):(alo n c).getD i []=aloR n c i:=by
  unfold alo
  rw [List.getD_eq_getElem?_getD,List.getElem?_map,List.getElem?_range h];rfl
theorem aloR_get {n:Nat} {c:Int} {i j:Nat} (h:j < n):(aloR n c i).getD j 0=c * (if i=j then 1 else 0):=by
  unfold aloR
  rw [List.getD_eq_getElem?_getD,List.getElem?_map,List.getElem?_range h];rfl
theorem alo_rul {n:Nat} {c:Int} (h0:0 <= c) (h5:c <= 5):Rul n 5 (alo n c):=by
  refine ⟨by unfold alo;rw [List.length_map,List.length_range],fun r hr=>?_⟩
  obtain ⟨i,_,e⟩:=List.mem_map.mp hr
  rw [<- e]
  refine ⟨by unfold aloR;rw [List.length_map,List.length_range],fun x hx=>?_⟩
  obtain ⟨j,_,e2⟩:=List.mem_map.mp hx
  rw [<- e2]
  split <;> omega
end Mq
set_option maxHeartbeats 1000000
namespace Mq
open PySem PySem.Spec L2 Mt Md
def kinG (g c:List Int) (i:Nat):List Nat:=(List.range i).filter fun j=>decide (c.getD j 0 < g.getD j 0)
def cbo (u:List Int) (rs:List (List Int)) (g c:List Int) (i:Nat):List (Int × List Int):=(kinG g c i).map fun j=>((beh u rs c).getD j 0,inc c j)
def nextCL (u:List Int) (rs:List (List Int)) (g:List Int):TabQ->TabQ->TabQ
  | [],D=>D
  | p :: T,D=>nextCL u rs g T (putsQ p.2 (beh u rs p.1).sum (cbo u rs g p.1 u.length) D)
def cbQ (u:List Int) (rs:List (List Int)) (g:List Int):Nat->TabQ
  | 0=>[(List.replicate u.length 0,1)]
  | k + 1=>nextCL u rs g (cbQ u rs g k) []
theorem nextCL_snoc (u:List Int) (rs:List (List Int)) (g:List Int) (p:List Int × Rat):∀ (T D:TabQ),nextCL u rs g (T ++ [p]) D=putsQ p.2 (beh u rs p.1).sum (cbo u rs g p.1 u.length) (nextCL u rs g T D)
  | [],D=>rfl
  | q :: T,D=>by
    show nextCL u rs g (T ++ [p]) _=putsQ _ _ _ (nextCL u rs g T _)
    exact nextCL_snoc u rs g p T _
theorem kinG_succ (g c:List Int) (i:Nat):kinG g c (i + 1)=if c.getD i 0 < g.getD i 0 then kinG g c i ++ [i] else kinG g c i:=by
  unfold kinG
  rw [List.range_succ,List.filter_append]
  by_cases h:c.getD i 0 < g.getD i 0
  · rw [if_pos h,List.filter_cons,if_pos (decide_eq_true h)];rfl
  · rw [if_neg h,List.filter_cons,if_neg (by rw [decide_eq_false h];decide)];simp
theorem cbo_succ (u:List Int) (rs:List (List Int)) (g c:List Int) (i:Nat):cbo u rs g c (i + 1)=if c.getD i 0 < g.getD i 0 then cbo u rs g c i ++ [((beh u rs c).getD i 0,inc c i)] else cbo u rs g c i:=by
  unfold cbo
  rw [kinG_succ]
  split
  · rw [List.map_append];rfl
  · rfl
theorem kinG_len (g c:List Int) (i:Nat):(kinG g c i).length <= i:=by
  unfold kinG
  exact Nat.le_trans (List.length_filter_le _ _) (by rw [List.length_range];exact Nat.le_refl _)
theorem cbo_len (u:List Int) (rs:List (List Int)) (g c:List Int) (i:Nat):(cbo u rs g c i).length <= i:=by
  unfold cbo;rw [List.length_map];exact kinG_len g c i
structure Cn (u:List Int) (rs:List (List Int)) (n k:Nat) (c:List Int):Prop where
  len:c.length=n
  nn:∀ x ∈ c,0 <= x/\x <= (k:Int)
  urn:Urn n (20 + 5 * k) (beh u rs c)
theorem inc_len (c:List Int) (j:Nat):(inc c j).length=c.length:=by unfold inc;rw [List.length_set]
theorem getD_mem' {c:List Int} {j:Nat} (h:j < c.length):c.getD j 0 ∈ c:=by
  rw [List.getD_eq_getElem?_getD,List.getElem?_eq_getElem h];exact List.getElem_mem h
theorem Cn.inc {u:List Int} {rs:List (List Int)} {n k j:Nat} {c:List Int} (hu:u.length=n) (hR:Rul n 5 rs) (h:Cn u rs n k c) (hj:j < n):Cn u rs n (k + 1) (Md.inc c j):=by
  refine ⟨by rw [inc_len];exact h.len,fun x hx=>?_,?_⟩
  · have hm:=h.nn _ (getD_mem' (show j < c.length by rw [h.len];exact hj))
    unfold Md.inc at hx
    rcases List.mem_or_eq_of_mem_set hx with hx | hx
    · have:=h.nn x hx;omega
    · rw [hx];omega
  · rw [beh_inc hu h.len hR hj,show 20 + 5 * (k + 1)=20 + 5 * k + 5 by omega]
    exact h.urn.add (hR.at hj)
theorem Cn.zero {u:List Int} {rs:List (List Int)} {n:Nat} (h:Urn n 20 u):Cn u rs n 0 (List.replicate u.length 0):=by
  refine ⟨by rw [List.length_replicate];exact h.len,fun x hx=>?_,?_⟩
  · rw [List.eq_of_mem_replicate hx];omega
  · rw [beh_zero];exact h
def KC (u:List Int) (rs:List (List Int)) (n k:Nat) (T:TabQ):Prop:=∀ p ∈ T,Cn u rs n k p.1
theorem KC.add {u:List Int} {rs:List (List Int)} {n k:Nat} {D:TabQ} {c:List Int} {x:Rat} (h:KC u rs n k D) (hk:Cn u rs n k c):KC u rs n k (addQ D c x):=fun p hp=>by
  rcases keys_addQ hp with e | ⟨q,hq,e⟩
  · rw [e];exact hk
  · rw [<- e];exact h q hq
theorem cbo_mem {u:List Int} {rs:List (List Int)} {g c:List Int} {i:Nat} {b:Int × List Int} (h:b ∈ cbo u rs g c i):∃ j,j < i/\b=((beh u rs c).getD j 0,inc c j):=by
  unfold cbo at h
  obtain ⟨j,hj,e⟩:=List.mem_map.mp h
  unfold kinG at hj
  exact ⟨j,List.mem_range.mp (List.mem_filter.mp hj).1,e.symm⟩
theorem putsC_ok {u:List Int} {rs:List (List Int)} {n k N E:Nat} {x:Rat} {s:Int} (hx:Vq N E x) (hs:0 < s) (hs2:s <= 200):∀ (bs:List (Int × List Int)) {D:TabQ} {B:Nat},(∀ b ∈ bs,(0 <= b.1/\b.1 <= s)/\Cn u rs n k b.2)->KC u rs n k D->NDq D->AllQ (N * LL) B D ->
    KC u rs n k (putsQ x s bs D)/\NDq (putsQ x s bs D)/\AllQ (N * LL) (B + E * bs.length) (putsQ x s bs D)/\(putsQ x s bs D).length <= D.length + bs.length
  | [],D,B,_,h1,h2,h3=>⟨h1,h2,h3,by unfold putsQ;simp⟩
  | b :: bs,D,B,h,h1,h2,h3=>by
    unfold putsQ
    have hb:=h b List.mem_cons_self
    have hv:Vq (N * LL) E (x * cut b.1 s):=(hx.mul (cut_vq (by omega) hb.1.2 hs hs2)).mono (by omega)
    obtain ⟨a1,a2,a3,a4⟩:=putsC_ok hx hs hs2 bs (D:=addQ D b.2 (x * cut b.1 s)) (fun c hc=>h c (List.mem_cons_of_mem _ hc)) (h1.add hb.2) (nd_addQ h2) (h3.add hv)
    refine ⟨a1,a2,a3.mono ?_,?_⟩
    · rw [List.length_cons,Nat.mul_add];omega
    · have:=len_addQ b.2 (x * cut b.1 s) D
      rw [List.length_cons];omega
theorem cbo_ok {u:List Int} {rs:List (List Int)} {g:List Int} {n k i:Nat} {c:List Int} (hu:u.length=n) (hR:Rul n 5 rs) (h:Cn u rs n k c) (hi:i <= n):∀ b ∈ cbo u rs g c i,(0 <= b.1/\b.1 <= (beh u rs c).sum)/\Cn u rs n (k + 1) b.2:=fun b hb=>by
  obtain ⟨j,hj,e⟩:=cbo_mem hb
  rw [e]
  exact ⟨⟨(h.urn.getD j).1,getD_le_sum h.urn j⟩,h.inc hu hR (by omega)⟩
theorem nextCL_ok {u:List Int} {rs:List (List Int)} {g:List Int} {n k N E:Nat} (hu:u.length=n) (hR:Rul n 5 rs) (n4:n <= 4) (hk:k <= 6):∀ (T:TabQ) {D:TabQ} {B:Nat},KC u rs n k T->AllQ N E T->KC u rs n (k + 1) D->NDq D->AllQ (N * LL) B D ->
    KC u rs n (k + 1) (nextCL u rs g T D)/\NDq (nextCL u rs g T D)/\AllQ (N * LL) (B + E * (4 * T.length)) (nextCL u rs g T D)/\(nextCL u rs g T D).length <= D.length + n * T.length
  | [],D,B,_,_,h1,h2,h3=>⟨h1,h2,h3,by unfold nextCL;simp⟩
  | p :: T,D,B,h,hE,h1,h2,h3=>by
    unfold nextCL
    have hp:=h p List.mem_cons_self
    obtain ⟨b1,b2,b3,b4⟩:=putsC_ok (k:=k + 1) (hE p List.mem_cons_self) hp.urn.pos (sum_200 hp.urn n4 (by omega)) (cbo u rs g p.1 u.length) (cbo_ok hu hR hp (by omega)) h1 h2 h3
    obtain ⟨a1,a2,a3,a4⟩:=nextCL_ok (g:=g) hu hR n4 hk T (fun q hq=>h q (List.mem_cons_of_mem _ hq)) (fun q hq=>hE q (List.mem_cons_of_mem _ hq)) b1 b2 b3
    have e:=cbo_len u rs g p.1 u.length
    refine ⟨a1,a2,a3.mono ?_,?_⟩
    · have:E * (cbo u rs g p.1 u.length).length <= E * 4:=Nat.mul_le_mul_left _ (by omega)
      rw [List.length_cons,Nat.mul_add 4,Nat.mul_add E];omega
    · rw [List.length_cons,Nat.mul_add,Nat.mul_one];omega
theorem cb_ok {n:Nat} {rs:List (List Int)} {u:List Int} (g:List Int) (hR:Rul n 5 rs) (n4:n <= 4) (hu:Urn n 20 u):∀ k:Nat,k <= 6->KC u rs n k (cbQ u rs g k)/\NDq (cbQ u rs g k)/\AllQ (LL ^ k) (4 ^ (k * k)) (cbQ u rs g k)/\(cbQ u rs g k).length <= 4 ^ k
  | 0,_=>⟨fun p hp=>by rw [List.mem_singleton.mp hp];exact Cn.zero hu,by unfold NDq;simp [cbQ],fun p hp=>by rw [List.mem_singleton.mp hp];exact Vq.one _,by show 1 <= 1;decide⟩
  | k + 1,hk=>by
    obtain ⟨a1,a2,a3,a4⟩:=cb_ok g hR n4 hu k (by omega)
    obtain ⟨b1,b2,b3,b4⟩:=nextCL_ok (D:=[]) (B:=0) (g:=g) hu.len hR n4 (by omega) (cbQ u rs g k) a1 a3 (fun p hp=>by simp at hp) (by unfold NDq;simp) (fun p hp=>by simp at hp)
    refine ⟨b1,b2,?_,?_⟩
    · rw [Nat.pow_succ]
      refine b3.mono ?_
      rw [Nat.zero_add]
      have e1:4 * (cbQ u rs g k).length <= 4 * 4 ^ k:=Nat.mul_le_mul_left _ a4
      have e2:4 ^ (k * k) * (4 * 4 ^ k) <= 4 ^ ((k + 1) * (k + 1)):=by
        rw [show 4 * 4 ^ k=4 ^ (k + 1) by rw [Nat.pow_succ,Nat.mul_comm],<- Nat.pow_add]
        refine Nat.pow_le_pow_right (by decide) ?_
        rw [Nat.add_mul,Nat.mul_add,Nat.mul_one,Nat.one_mul];omega
      exact Nat.le_trans (Nat.mul_le_mul_left _ e1) e2
    · show (nextCL u rs g (cbQ u rs g k) []).length <= 4 ^ (k + 1)
      rw [List.length_nil,Nat.zero_add] at b4
      have:n * (cbQ u rs g k).length <= 4 * 4 ^ k:=Nat.mul_le_mul n4 a4
      rw [Nat.pow_succ];omega
def opC (u:List Int) (rs:List (List Int)) (g:List Int) (φ:List Int->Rat) (c:List Int):Rat:=sumQ ((cbo u rs g c u.length).map fun b=>cut b.1 (beh u rs c).sum * φ b.2)
theorem linQ_nextCL (u:List Int) (rs:List (List Int)) (g:List Int) (φ:List Int->Rat):∀ (T D:TabQ),linQ (nextCL u rs g T D) φ=linQ D φ + linQ T (opC u rs g φ)
  | [],D=>by unfold nextCL;show _=_ + 0;grind
  | p :: T,D=>by
    unfold nextCL
    rw [linQ_nextCL u rs g φ T,linQ_puts,linQ_cons]
    unfold opC
    grind
theorem linQ_cb (u:List Int) (rs:List (List Int)) (g:List Int) (φ:List Int->Rat) (k:Nat):linQ (cbQ u rs g (k + 1)) φ=linQ (cbQ u rs g k) (opC u rs g φ):=by
  show linQ (nextCL u rs g (cbQ u rs g k) []) φ=_
  rw [linQ_nextCL]
  show 0 + _=_
  grind
abbrev DrL:=List (List Nat × List Int × Rat)
def kinU (u:List Int) (i:Nat):List Nat:=(List.range i).filter fun j=>decide (0 < u.getD j 0)
def stepD (rs:List (List Int)) (n:Nat) (A:DrL):DrL:=A.flatMap fun e=>(kinU e.2.1 n).map fun j=>(e.1 ++ [j],addL e.2.1 (rs.getD j []),e.2.2 * cut (e.2.1.getD j 0) e.2.1.sum)
def allD (u:List Int) (rs:List (List Int)):Nat->DrL
  | 0=>[([],u,1)]
  | k + 1=>stepD rs u.length (allD u rs k)
def linD (A:DrL) (φ:List Nat->Rat):Rat:=sumQ (A.map fun e=>e.2.2 * φ e.1)
def cntD (n:Nat) (ds:List Nat):List Int:=(List.range n).map fun j=>((ds.count j:Nat):Int)
theorem cntD_len (n:Nat) (ds:List Nat):(cntD n ds).length=n:=by unfold cntD;rw [List.length_map,List.length_range]
theorem cntD_get {n j:Nat} (ds:List Nat) (h:j < n):(cntD n ds).getD j 0=((ds.count j:Nat):Int):=by
  unfold cntD
  rw [List.getD_eq_getElem?_getD,List.getElem?_map,List.getElem?_range h];rfl
theorem cntD_nil (n:Nat):cntD n []=List.replicate n 0:=by
  unfold cntD
  refine List.ext_getElem (by simp) fun i h1 h2=>by simp
theorem cntD_snoc {n j:Nat} (ds:List Nat) (hj:j < n):cntD n (ds ++ [j])=inc (cntD n ds) j:=by
  show _=(cntD n ds).set j ((cntD n ds).getD j 0 + 1)
  rw [cntD_get ds hj]
  refine List.ext_getElem (by rw [List.length_set,cntD_len,cntD_len]) fun i h1 h2=>?_
  have hi:i < n:=by rw [cntD_len] at h1;exact h1
  have e1:(cntD n (ds ++ [j]))[i]=(((ds ++ [j]).count i:Nat):Int):=by unfold cntD;simp
  rw [e1,List.getElem_set]
  have e2:(cntD n ds)[i]'(by rw [cntD_len];exact hi)=((ds.count i:Nat):Int):=by unfold cntD;simp
  rw [List.count_append]
  by_cases hij:j=i
  · subst hij
    rw [if_pos rfl];simp
  · rw [if_neg hij,e2]
    have:List.count i [j]=0:=by rw [List.count_eq_zero];simp;exact fun z=>hij z.symm
    rw [this];simp
structure DrOk (u:List Int) (rs:List (List Int)) (n k:Nat) (e:List Nat × List Int × Rat):Prop where
  len:e.1.length=k
  lt:∀ j ∈ e.1,j < n
  urn:e.2.1=beh u rs (cntD n e.1)
  ok:Urn n (20 + 5 * k) e.2.1
  vq:Vq (LL ^ k) 1 e.2.2
theorem kinU_mem {u:List Int} {i j:Nat}:j ∈ kinU u i ↔ j < i/\0 < u.getD j 0:=by
  unfold kinU
  rw [List.mem_filter,List.mem_range];simp
theorem kinU_len (u:List Int) (i:Nat):(kinU u i).length <= i:=by
  unfold kinU
  exact Nat.le_trans (List.length_filter_le _ _) (by rw [List.length_range];exact Nat.le_refl _)
theorem allD_ok {n:Nat} {rs:List (List Int)} {u:List Int} (hR:Rul n 5 rs) (n4:n <= 4) (hu:Urn n 20 u):∀ k:Nat,k <= 6->(∀ e ∈ allD u rs k,DrOk u rs n k e)/\(allD u rs k).length <= n ^ k
  | 0,_=>⟨fun e he=>by
      rw [List.mem_singleton.mp he]
      exact ⟨rfl,by simp,by show u=_;rw [cntD_nil,beh_zero],hu,Vq.one _⟩,by show 1 <= 1;decide⟩
  | k + 1,hk=>by
    obtain ⟨a1,a2⟩:=allD_ok hR n4 hu k (by omega)
    constructor
    · intro e he
      obtain ⟨e0,h0,h1⟩:=List.mem_flatMap.mp (show e ∈ (allD u rs k).flatMap _ from he)
      obtain ⟨j,hj,ej⟩:=List.mem_map.mp h1
      have o:=a1 e0 h0
      obtain ⟨hj1,hj2⟩:=kinU_mem.mp hj
      rw [hu.len] at hj1
      subst ej
      refine ⟨by show (e0.1 ++ [j]).length=_;rw [List.length_append,o.len];rfl,fun i hi=>?_,?_,?_,?_⟩
      · rcases List.mem_append.mp (show i ∈ e0.1 ++ [j] from hi) with h | h
        · exact o.lt i h
        · rw [List.mem_singleton.mp h];exact hj1
      · show addL e0.2.1 _=beh u rs (cntD n (e0.1 ++ [j]))
        rw [cntD_snoc _ hj1,beh_inc hu.len (cntD_len n _) hR hj1,<- o.urn]
      · show Urn n _ (addL e0.2.1 _)
        rw [show 20 + 5 * (k + 1)=20 + 5 * k + 5 by omega]
        exact o.ok.add (hR.at hj1)
      · show Vq (LL ^ (k + 1)) 1 (e0.2.2 * cut (e0.2.1.getD j 0) e0.2.1.sum)
        rw [Nat.pow_succ]
        exact (o.vq.mul (cut_vq (by omega) (getD_le_sum o.ok j) o.ok.pos (sum_200 o.ok n4 (by omega)))).mono (by decide)
    · show ((allD u rs k).flatMap _).length <= n ^ (k + 1)
      rw [List.length_flatMap]
      have:∀ (A:DrL),(A.map fun e=>((kinU e.2.1 u.length).map fun j=>((e.1 ++ [j],addL e.2.1 (rs.getD j []),e.2.2 * cut (e.2.1.getD j 0) e.2.1.sum):List Nat × List Int × Rat)).length).sum <= n * A.length:=by
        intro A
        induction A with
        | nil=>simp
        | cons e A ih =>
          rw [List.map_cons,List.sum_cons,List.length_cons,Nat.mul_add,Nat.mul_one,List.length_map]
          have:=kinU_len e.2.1 u.length
          rw [hu.len] at this
          rw [hu.len] at ih ⊢
          omega
      refine Nat.le_trans (this _) ?_
      rw [Nat.pow_succ,Nat.mul_comm]
      exact Nat.mul_le_mul_right _ a2
theorem sumQ_flatMap {α β:Type} (F:β->Rat) (g:α->List β):∀ l:List α,sumQ ((l.flatMap g).map F)=sumQ (l.map fun a=>sumQ ((g a).map F))
  | []=>rfl
  | a :: l=>by
    rw [List.flatMap_cons,List.map_append,sumQ_append,sumQ_flatMap F g l];rfl
theorem sumQ_mulL (c:Rat):∀ l:List Rat,c * sumQ l=sumQ (l.map fun x=>c * x)
  | []=>by show c * 0=0;grind
  | a :: l=>by
    show c * (a + sumQ l)=c * a + sumQ (l.map _)
    rw [<- sumQ_mulL c l];grind
theorem sumQ_filter (p:Nat->Bool) (f:Nat->Rat):∀ l:List Nat,sumQ ((l.filter p).map f)=sumQ (l.map fun j=>if p j=true then f j else 0)
  | []=>rfl
  | a :: l=>by
    rw [List.filter_cons,List.map_cons]
    show _=(if p a=true then f a else 0) + sumQ (l.map _)
    rw [<- sumQ_filter p f l]
    split
    · rfl
    · grind
theorem linD_step (u:List Int) (rs:List (List Int)) (φ:List Nat->Rat) (k:Nat):linD (allD u rs (k + 1)) φ=sumQ ((allD u rs k).map fun e=>e.2.2 * sumQ ((List.range u.length).map fun j=>if 0 < e.2.1.getD j 0 then share e.2.1 j * φ (e.1 ++ [j]) else 0)):=by
  unfold linD
  show sumQ (((allD u rs k).flatMap _).map _)=_
  rw [sumQ_flatMap]
  refine sumQ_congr fun e _=>?_
  rw [List.map_map,sumQ_mulL]
  have:=sumQ_filter (fun j=>decide (0 < e.2.1.getD j 0)) (fun j=>e.2.2 * (share e.2.1 j * φ (e.1 ++ [j]))) (List.range u.length)
  rw [List.map_map]
  refine Eq.trans ?_ (Eq.trans this ?_)
  · refine sumQ_congr fun j _=>?_
    show e.2.2 * cut _ _ * φ (e.1 ++ [j])=e.2.2 * (cut _ _ * φ (e.1 ++ [j]))
    grind
  · refine sumQ_congr fun j _=>?_
    show _=e.2.2 * (if 0 < e.2.1.getD j 0 then share e.2.1 j * φ (e.1 ++ [j]) else 0)
    by_cases h:0 < e.2.1.getD j 0
    · rw [if_pos (decide_eq_true h),if_pos h]
    · rw [if_neg (by rw [decide_eq_false h];decide),if_neg h];grind
def leL (n:Nat) (c g:List Int):Bool:=(List.range n).all fun j=>decide (c.getD j 0 <= g.getD j 0)
theorem leL_iff {n:Nat} {c g:List Int}:leL n c g=true ↔ ∀ j,j < n->c.getD j 0 <= g.getD j 0:=by
  unfold leL
  rw [List.all_eq_true]
  exact ⟨fun h j hj=>by simpa using h j (List.mem_range.mpr hj),fun h j hj=>by simpa using h j (List.mem_range.mp hj)⟩
theorem inc_get {c:List Int} {j i:Nat} (hj:j < c.length):(inc c j).getD i 0=if j=i then c.getD j 0 + 1 else c.getD i 0:=by
  unfold inc
  rw [List.getD_eq_getElem?_getD,List.getElem?_set]
  by_cases h:j=i
  · subst h;rw [if_pos rfl,if_pos rfl,if_pos hj];rfl
  · rw [if_neg h,if_neg h,List.getD_eq_getElem?_getD (i:=i)]
theorem leL_inc {n j:Nat} {c g:List Int} (hc:c.length=n) (hj:j < n):leL n (inc c j) g=(leL n c g && decide (c.getD j 0 < g.getD j 0)):=by
  have hj':j < c.length:=by rw [hc];exact hj
  rw [Bool.eq_iff_iff,Bool.and_eq_true,leL_iff,leL_iff,decide_eq_true_iff]
  constructor
  · intro h
    have h1:=h j hj
    rw [inc_get hj',if_pos rfl] at h1
    refine ⟨fun i hi=>?_,by omega⟩
    have:=h i hi
    rw [inc_get hj'] at this
    split at this
    · rename_i e;subst e;omega
    · exact this
  · rintro ⟨h1,h2⟩ i hi
    rw [inc_get hj']
    split
    · rename_i e;subst e;omega
    · exact h1 i hi
theorem cut_zero' (s:Int):cut 0 s=0:=by
  unfold cut
  exact Rat.zero_mkRat _
theorem cb_all {n:Nat} {rs:List (List Int)} {u:List Int} (g:List Int) (hg:∀ j,0 <= g.getD j 0) (hR:Rul n 5 rs) (n4:n <= 4) (hu:Urn n 20 u):∀ (k:Nat),k <= 6->∀ φ:List Int->Rat,linQ (cbQ u rs g k) φ=linD (allD u rs k) (fun ds=>if leL n (cntD n ds) g=true then φ (cntD n ds) else 0)
  | 0,_,φ=>by
    show 1 * φ (List.replicate u.length 0) + 0=1 * (if leL n (cntD n []) g=true then φ (cntD n []) else 0) + 0
    have:leL n (cntD n []) g=true:=leL_iff.mpr fun j hj=>by rw [cntD_get [] hj];simp;exact hg j
    rw [if_pos this,cntD_nil,hu.len]
  | k + 1,hk,φ=>by
    obtain ⟨a1,_⟩:=allD_ok hR n4 hu k (by omega)
    rw [linQ_cb,cb_all g hg hR n4 hu k (by omega),linD_step]
    unfold linD
    refine sumQ_congr fun e he=>?_
    have o:=a1 e he
    congr 1
    have hl:=cntD_len n e.1
    dsimp only
    by_cases hle:leL n (cntD n e.1) g=true
    · rw [if_pos hle]
      unfold opC cbo kinG
      rw [List.map_map]
      have:=sumQ_filter (fun j=>decide ((cntD n e.1).getD j 0 < g.getD j 0)) (fun j=>cut ((beh u rs (cntD n e.1)).getD j 0) (beh u rs (cntD n e.1)).sum * φ (inc (cntD n e.1) j)) (List.range u.length)
      refine Eq.trans this (sumQ_congr fun j hj=>?_)
      have hjn:j < n:=by rw [<- hu.len];exact List.mem_range.mp hj
      rw [<- o.urn,cntD_snoc _ hjn,leL_inc hl hjn,hle,Bool.true_and]
      unfold share
      by_cases h2:(cntD n e.1).getD j 0 < g.getD j 0
      · rw [decide_eq_true h2,if_pos rfl]
        by_cases h3:0 < e.2.1.getD j 0
        · rw [if_pos h3,if_pos rfl]
        · rw [if_neg h3]
          have:e.2.1.getD j 0=0:=by have:=(o.ok.getD j).1;omega
          rw [this,cut_zero'];grind
      · rw [decide_eq_false h2]
        simp only [Bool.false_eq_true,if_false]
        split
        · grind
        · rfl
    · rw [if_neg hle]
      refine Eq.symm ?_
      have z:∀ l:List Nat,(∀ j ∈ l,j < n)->sumQ (l.map fun j=>if 0 < e.2.1.getD j 0 then share e.2.1 j * (if leL n (cntD n (e.1 ++ [j])) g=true then φ (cntD n (e.1 ++ [j])) else 0) else 0)=0:=by
        intro l
        induction l with
        | nil=>intro _;rfl
        | cons j l ih =>
          intro hl2
          show _ + sumQ (l.map _)=0
          rw [ih fun i hi=>hl2 i (List.mem_cons_of_mem _ hi)]
          have hjn:=hl2 j List.mem_cons_self
          dsimp only
          rw [cntD_snoc _ hjn,leL_inc hl hjn]
          have:leL n (cntD n e.1) g=false:=by simpa using hle
          rw [this,Bool.false_and]
          simp only [Bool.false_eq_true,if_false]
          split <;> grind
      exact z _ fun j hj=>by rw [<- hu.len];exact List.mem_range.mp hj
theorem share_sum1 {n m:Nat} {u:List Int} (h:Urn n m u):sumQ ((List.range n).map fun j=>if 0 < u.getD j 0 then share u j else 0)=1:=by
  rw [<- share_all h]
  refine sumQ_congr fun j _=>?_
  by_cases hj:0 < u.getD j 0
  · rw [if_pos hj]
  · rw [if_neg hj]
    have:u.getD j 0=0:=by have:=(h.getD j).1;omega
    unfold share
    rw [this,cut_zero']
theorem linD_keep {n k:Nat} {rs:List (List Int)} {u:List Int} (hR:Rul n 5 rs) (n4:n <= 4) (hu:Urn n 20 u) (hk:k <= 6) {φ ψ:List Nat->Rat} (h:∀ ds:List Nat,ds.length=k->∀ j,φ (ds ++ [j])=ψ ds):linD (allD u rs (k + 1)) φ=linD (allD u rs k) ψ:=by
  obtain ⟨a1,_⟩:=allD_ok hR n4 hu k hk
  rw [linD_step]
  unfold linD
  refine sumQ_congr fun e he=>?_
  have o:=a1 e he
  congr 1
  have e1:sumQ ((List.range u.length).map fun j=>if 0 < e.2.1.getD j 0 then share e.2.1 j * φ (e.1 ++ [j]) else 0)=sumQ ((List.range n).map fun j=>(if 0 < e.2.1.getD j 0 then share e.2.1 j else 0) * ψ e.1):=by
    rw [hu.len]
    refine sumQ_congr fun j _=>?_
    rw [h e.1 o.len j]
    split
    · rfl
    · grind
  rw [e1]
  have e2:=sumQ_mulL (ψ e.1) ((List.range n).map fun j=>if 0 < e.2.1.getD j 0 then share e.2.1 j else 0)
  rw [share_sum1 o.ok,List.map_map] at e2
  have e3:sumQ ((List.range n).map fun j=>(if 0 < e.2.1.getD j 0 then share e.2.1 j else 0) * ψ e.1)=sumQ ((List.range n).map ((fun x=>ψ e.1 * x) ∘ fun j=>if 0 < e.2.1.getD j 0 then share e.2.1 j else 0)):=by
    refine sumQ_congr fun j _=>?_
    show _=ψ e.1 * _
    grind
  rw [e3,<- e2];grind
theorem linD_nn {n k:Nat} {rs:List (List Int)} {u:List Int} (hR:Rul n 5 rs) (n4:n <= 4) (hu:Urn n 20 u) (hk:k <= 6) {φ:List Nat->Rat} (h:∀ ds:List Nat,ds.length=k->0 <= φ ds):0 <= linD (allD u rs k) φ:=by
  obtain ⟨a1,_⟩:=allD_ok hR n4 hu k hk
  unfold linD
  have:∀ A:DrL,(∀ e ∈ A,DrOk u rs n k e)->0 <= sumQ (A.map fun e=>e.2.2 * φ e.1):=by
    intro A
    induction A with
    | nil=>intro _;show (0:Rat) <= 0;grind
    | cons e A ih =>
      intro hA
      have o:=hA e List.mem_cons_self
      have h1:=ih fun x hx=>hA x (List.mem_cons_of_mem _ hx)
      have h2:=Rat.mul_nonneg o.vq.nn (h e.1 o.len)
      show 0 <= e.2.2 * φ e.1 + sumQ (A.map _)
      grind
  exact this _ a1
theorem linD_sub (A:DrL) (φ ψ:List Nat->Rat):linD A (fun ds=>φ ds - ψ ds)=linD A φ - linD A ψ:=by
  unfold linD
  induction A with
  | nil=>show (0:Rat)=0 - 0;grind
  | cons e A ih =>
    show e.2.2 * (φ e.1 - ψ e.1) + sumQ (A.map _)=(e.2.2 * φ e.1 + sumQ (A.map _)) - (e.2.2 * ψ e.1 + sumQ (A.map _))
    rw [ih];grind
theorem linD_congr {n k:Nat} {rs:List (List Int)} {u:List Int} (hR:Rul n 5 rs) (n4:n <= 4) (hu:Urn n 20 u) (hk:k <= 6) {φ ψ:List Nat->Rat} (h:∀ ds:List Nat,ds.length=k->(∀ j ∈ ds,j < n)->φ ds=ψ ds):linD (allD u rs k) φ=linD (allD u rs k) ψ:=by
  obtain ⟨a1,_⟩:=allD_ok hR n4 hu k hk
  unfold linD
  refine sumQ_congr fun e he=>?_
  have o:=a1 e he
  rw [h e.1 o.len o.lt]
end Mq
set_option maxHeartbeats 4000000
namespace L2
open PySem PySem.Spec PyProof.Rows
section
variable {K:PySem.W.Frag} {σ0:St} {te:TE} {H:Hp} {F:List V->Hp->Prop}
end
end L2
namespace L2
open PySem PySem.Spec PyProof.Rows
section
variable {prog:Program} {w:World} {A:Around} {E:Value->Shared->Prop} {s:Shared}
structure ZipTL (h:Heap) (z TI TO i1 i2 t1 t2:Addr) (k:Nat):Prop where
  zz:IsZip h z TI TO .none
  ti:IsPair h TI (.ref i1) (.ref i2)
  tO:∃ a b,IsPair h TO a b
  it1:h.IsTupleIter i1 t1 k
  it2:h.IsListIter i2 t2 k
theorem zipTL_item {z TI TO i1 i2 t1 t2:Addr} {xs ys:Array Value} {k:Nat} {x y:Value} {Q:Option Value->Shared->Prop} (D:ZipD z TI TO i1 i2 t1 t2) (Z:ZipTL s.heap z TI TO i1 i2 t1 t2 k) (hl1:s.heap.IsTuple t1 xs) (hl2:s.heap.IsList t2 ys)
    (hx:xs[k]?=some x) (hy:ys[k]?=some y)
    (hQ:∀ h',IsZip h' z TI TO (rawInt s.heap.objs.size)->IsPair h' TO x y->h'.IsTupleIter i1 t1 (k + 1)->h'.IsListIter i2 t2 (k + 1)->IsPair h' s.heap.objs.size x y->h'.objs.size=s.heap.objs.size + 1 ->
      (∀ c o,c ∉ [z,TO,i1,i2]->s.heap.get? c=some o->h'.get? c=some o)->Q (some (.ref s.heap.objs.size)) { s with heap:=h' }) :
    wpAny (model prog w) A (pyNext (.ref z)) Q E s:=by
  obtain ⟨hz,hTI,⟨a,b,hTO⟩,h1,h2⟩:=Z
  have hT:s.TypeIs (.ref z) "zip":=⟨_,hz,rfl⟩
  unfold pyNext
  refine wpAny_bind (wpAny_attempt (wpAny_callSpecial?_slot (name:=Str.ofString "__next__") hT F.slot_zip_next (wpAny_call_entry F.slot_zip_next hT F.entry_zip_next ?_ (F.args_zip_next_1 _))))
  show wpAny _ _ (field (.ref z) 2 >>= _) _ _ _
  refine wpAny_bind (wpAny_field hz rfl (x:=.bool false) rfl ?_)
  show wpAny _ _ (field (.ref z) 3 >>= _) _ _ _
  refine wpAny_bind (wpAny_field hz rfl (x:=.ref TI) rfl (wpAny_bind (wpAny_seqItems hTI rfl ?_)))
  show wpAny _ _ (Builtin.SmallTypes.ownedTupleIsFree (.ref z) >>= _) _ _ _
  refine wpAny_bind ?_
  unfold Builtin.SmallTypes.ownedTupleIsFree
  refine wpAny_bind (wpAny_field hz rfl (x:=.none) rfl (wpAny_pure ?_))
  simp only [if_true]
  refine wpAny_bind (wpAny_rule (wpAny_bind (wpAny_field hz rfl (x:=.ref TO) rfl (wpAny_bind (wpAny_setField_rec hz (by simp) fun g1 z1 s1=>?_)))))
  replace z1:IsZip g1 z TI TO .ellipsis:=z1
  refine wpAny_bind ?_
  simp only [List.zipIdx_cons,List.zipIdx_nil,List.forIn_cons,List.forIn_nil]
  refine wpAny_bind (wpAny_bind (wpAny_onRaise ?_))
  show wpAny _ _ (Builtin.SmallTypes.nextOf (.ref i1) >>= _) _ _ _
  refine wpAny_bind (nextT_item (h1.at fun o e=>s1.extBut _ o D.a3 e) (hl1.at fun o e=>s1.extBut _ o D.e1 e) hx fun g2 j1 s2=>wpAny_pure ?_)
  have o2:IsPair g2 TO a b:=s2.extBut _ _ D.c1 (s1.extBut _ _ D.a2 hTO)
  refine wpAny_bind (wpAny_seqItems o2 rfl (wpAny_bind (wpAny_updateSeq_pair o2 fun g3 o3 s3=>?_)))
  replace o3:IsPair g3 TO x b:=o3
  refine wpAny_bind (wpAny_letGo (wpAny_pure (wpAny_bind (wpAny_bind (wpAny_onRaise ?_)))))
  show wpAny _ _ (Builtin.SmallTypes.nextOf (.ref i2) >>= _) _ _ _
  refine wpAny_bind (wpAny_nextOf_list_item (h2.at fun o e=>s3.extBut _ o D.c2.symm (s2.extBut _ o D.d1.symm (s1.extBut _ o D.a4 e))) (hl2.at' fun o e=>s3.extBut _ o D.f2 (s2.extBut _ o D.f3 (s1.extBut _ o D.f1 e))) hy fun g4 j2 s4=>wpAny_pure ?_)
  have o4:IsPair g4 TO x b:=s4.extBut _ _ D.c2 o3
  refine wpAny_bind (wpAny_seqItems o4 rfl (wpAny_bind (wpAny_updateSeq_pair o4 fun g5 o5 s5=>?_)))
  replace o5:IsPair g5 TO x y:=o5
  refine wpAny_bind (wpAny_letGo (wpAny_pure (wpAny_pure ?_)))
  refine wpAny_bind (wpAny_seqItems o5 rfl (wpAny_bind (wpAny_newTuple ?_)))
  have hsz:g5.objs.size=s.heap.objs.size:=by rw [s5.1,s4.1,s3.1,s2.1,s1.1]
  have z5:IsZip g5 z TI TO .ellipsis:=s5.extBut _ _ D.a2.symm (s4.extBut _ _ D.a4.symm (s3.extBut _ _ D.a2.symm (s2.extBut _ _ D.a3.symm z1)))
  have k5:∀ c o,c ∉ [z,TO,i1,i2]->s.heap.get? c=some o->g5.get? c=some o:=fun c o hc e=>by
    simp only [List.mem_cons,List.not_mem_nil,or_false,not_or] at hc
    exact s5.extBut _ _ hc.2.1 (s4.extBut _ _ hc.2.2.2 (s3.extBut _ _ hc.2.1 (s2.extBut _ _ hc.2.2.1 (s1.extBut _ _ hc.1 e))))
  have m1:g5.IsTupleIter i1 t1 (k + 1):=j1.at fun o e=>s5.extBut _ o D.c1.symm (s4.extBut _ o D.d1 (s3.extBut _ o D.c1.symm e))
  have m2:g5.IsListIter i2 t2 (k + 1):=j2.at fun o e=>s5.extBut _ o D.c2.symm e
  show wpAny _ _ (Builtin.SmallTypes.ownedTupleHandOut (.ref z) (.ref g5.objs.size) >>= _) _ _ _
  refine wpAny_bind ?_
  unfold Builtin.SmallTypes.ownedTupleHandOut
  have z6:IsZip (g5.push { cls:=.type "tuple",data:=.seq #[x,y] }) z TI TO .ellipsis:=Heap.get?_push_of_some _ z5
  refine wpAny_bind (wpAny_setField_rec z6 (by simp) fun g7 z7 s7=>?_)
  replace z7:IsZip g7 z TI TO (rawInt g5.objs.size):=z7
  refine wpAny_setField_rec z7 (by simp) fun g8 z8 s8=>?_
  replace z8:IsZip g8 z TI TO (rawInt g5.objs.size):=z8
  have up:∀ c o,c ≠ z->g5.get? c=some o->g8.get? c=some o:=fun c o hc e=>s8.extBut _ _ hc (s7.extBut _ _ hc (Heap.get?_push_of_some _ e))
  have new8:IsPair g8 g5.objs.size x y:=s8.extBut _ _ (Nat.ne_of_gt (Heap.lt_size z5)) (s7.extBut _ _ (Nat.ne_of_gt (Heap.lt_size z5)) (Heap.get?_push_size _ rfl))
  have size8:g8.objs.size=g5.objs.size + 1:=by rw [s8.1,s7.1,Heap.size_push]
  rw [hsz] at z8 new8 size8
  refine wpAny_pure ⟨_,rfl,wpAny_pure ?_⟩
  show Q (some (.ref g5.objs.size)) _
  rw [hsz]
  exact hQ g8 z8 (up _ _ D.a2 o5) (m1.at fun o e=>up _ o D.a3 e) (m2.at fun o e=>up _ o D.a4 e) new8 size8 fun c o hc e=>up c o (fun q=>hc (by simp [q])) (k5 c o hc e)
theorem zipTL_end {z TI TO i1 i2 t1 t2:Addr} {xs:Array Value} {k:Nat} {Q:Option Value->Shared->Prop} (hh:A.handled=none) (D:ZipD z TI TO i1 i2 t1 t2) (Z:ZipTL s.heap z TI TO i1 i2 t1 t2 k) (hl1:s.heap.IsTuple t1 xs)
    (hx:xs[k]?=none) (hQ:∀ h',(∀ c o,c ∉ [z,TO,i1,i2]->s.heap.get? c=some o->h'.get? c=some o)->Q none { s with heap:=h' }):wpAny (model prog w) A (pyNext (.ref z)) Q E s:=by
  obtain ⟨hz,hTI,⟨a,b,hTO⟩,h1,h2⟩:=Z
  have hT:s.TypeIs (.ref z) "zip":=⟨_,hz,rfl⟩
  unfold pyNext
  refine wpAny_bind (wpAny_attempt (wpAny_callSpecial?_slot (name:=Str.ofString "__next__") hT F.slot_zip_next (wpAny_call_entry F.slot_zip_next hT F.entry_zip_next ?_ (F.args_zip_next_1 _))))
  show wpAny _ _ (field (.ref z) 2 >>= _) _ _ _
  refine wpAny_bind (wpAny_field hz rfl (x:=.bool false) rfl ?_)
  show wpAny _ _ (field (.ref z) 3 >>= _) _ _ _
  refine wpAny_bind (wpAny_field hz rfl (x:=.ref TI) rfl (wpAny_bind (wpAny_seqItems hTI rfl ?_)))
  show wpAny _ _ (Builtin.SmallTypes.ownedTupleIsFree (.ref z) >>= _) _ _ _
  refine wpAny_bind ?_
  unfold Builtin.SmallTypes.ownedTupleIsFree
  refine wpAny_bind (wpAny_field hz rfl (x:=.none) rfl (wpAny_pure ?_))
  simp only [if_true]
  refine wpAny_bind (wpAny_rule (wpAny_bind (wpAny_field hz rfl (x:=.ref TO) rfl (wpAny_bind (wpAny_setField_rec hz (by simp) fun g1 z1 s1=>?_)))))
  replace z1:IsZip g1 z TI TO .ellipsis:=z1
  refine wpAny_bind ?_
  simp only [List.zipIdx_cons,List.zipIdx_nil,List.forIn_cons,List.forIn_nil]
  refine wpAny_bind (wpAny_bind (wpAny_onRaise ?_))
  show wpAny _ _ (Builtin.SmallTypes.nextOf (.ref i1) >>= _) _ _ _
  refine wpAny_bind (nextT_end hh (h1.at fun o e=>s1.extBut _ o D.a3 e) (hl1.at fun o e=>s1.extBut _ o D.e1 e) hx fun g2 e s2 he=>?_)
  obtain ⟨oe,hoe,hce⟩:=he
  have z2:IsZip g2 z TI TO .ellipsis:=s2 _ _ D.a3.symm z1
  have hez:e ≠ z:=fun q=>by subst q;rw [z2] at hoe;cases hoe;simp at hce
  refine wpAny_setField_rec z2 (by simp) fun g3 _ s3=>?_
  refine wpAny_bind (wpAny_isInstance (T:="StopIteration") (b:=true) ⟨oe,s3.extBut _ _ hez hoe,hce⟩ isSubtype_stop (wpAny_pure (hQ g3 fun c o hc q=>?_)))
  simp only [List.mem_cons,List.not_mem_nil,or_false,not_or] at hc
  exact s3.extBut _ _ hc.1 (s2 _ _ hc.2.2.1 (s1.extBut _ _ hc.1 q))
abbrev zipHpTL (h:Heap) (t1 t2:Addr):Heap:=((((h.push (tit t1)).push (lit t2)).push (tpr (.ref h.objs.size) (.ref (h.objs.size + 1)))).push (tpr .none .none)).push (zob (h.objs.size + 2) (h.objs.size + 3))
theorem zip_newTL (t1 t2:Addr) (xs ys:Array Value) :
    Meets (Builtin.«zip.__new__» ⟨[.type "zip",.ref t1,.ref t2],[]⟩) (fun _ R s=>s.heap.IsTuple t1 xs/\s.heap.IsList t2 ys/\R (.ok (.ret (.ref (s.heap.objs.size + 4)))) { s with heap:=zipHpTL s.heap t1 t2 }) :=
  .of_wp fun prog w A R s h=>by
    obtain ⟨hp,g,d,tk,os⟩:=s;obtain ⟨hl1,hl2,h⟩:=h
    have hsub:=sub_zip
    have hL1:Heap.IsTuple (Shared.heap ⟨hp,g,d,tk,os⟩) t1 xs:=hl1
    have hL2:Heap.IsList (Shared.heap ⟨hp.push (tit t1),g,d,tk,os⟩) t2 ys:=Heap.IsList.push hl2 _
    wp_walk using wpAny_pyIter_tuple hL1,wpAny_pyIter_list hL2
    simp only [Heap.size_push]
    exact ⟨_,rfl,h⟩
theorem call_zipTL {t1 t2:Addr} {xs ys:Array Value} {Q:Value->Shared->Prop} (hl1:s.heap.IsTuple t1 xs) (hl2:s.heap.IsList t2 ys)
    (h:∀ h',ZipTL h' (s.heap.objs.size + 4) (s.heap.objs.size + 2) (s.heap.objs.size + 3) s.heap.objs.size (s.heap.objs.size + 1) t1 t2 0->(∀ c o,s.heap.get? c=some o->h'.get? c=some o)->h'.objs.size=s.heap.objs.size + 5 ->
      Q (.ref (s.heap.objs.size + 4)) { s with heap:=h' }):wpAny (model prog w) A (call (.type "zip") [.ref t1,.ref t2]) Q E s:=by
  refine callType_new F.called_zip (by decide) (F.typeCall_zip_2 _ _) (F.newCall_zip_2 _ _) (fun obj=>F.args_object_init_3 obj _ _) F.entry_zip_new (zip_newTL t1 t2 xs ys) ⟨hl1,hl2,?_⟩
  have up:∀ {b:Addr} {o:Obj} (h0:Heap) (x:Obj),h0.get? b=some o->(h0.push x).get? b=some o:=fun _ _ e=>Heap.get?_push_of_some _ e
  have here:∀ (h0:Heap) (x:Obj) (n:Nat),x.isFreed=false->h0.objs.size=n->(h0.push x).get? n=some x:=fun h0 x n hf e=>by subst e;exact Heap.get?_push_size _ hf
  have Z:ZipTL (zipHpTL s.heap t1 t2) (s.heap.objs.size + 4) (s.heap.objs.size + 2) (s.heap.objs.size + 3) s.heap.objs.size (s.heap.objs.size + 1) t1 t2 0 :=
    ⟨here _ _ _ rfl (by simp only [Heap.size_push]),up _ _ (up _ _ (here _ _ _ rfl (by simp only [Heap.size_push]))),⟨_,_,up _ _ (here _ _ _ rfl (by simp only [Heap.size_push]))⟩,
      ⟨_,up _ _ (up _ _ (up _ _ (up _ _ (here _ _ _ rfl rfl)))),rfl,rfl⟩,⟨_,up _ _ (up _ _ (up _ _ (here _ _ _ rfl (by simp only [Heap.size_push])))),rfl,rfl⟩⟩
  exact ⟨⟨_,Z.zz,rfl⟩,h _ Z (fun c o e=>up _ _ (up _ _ (up _ _ (up _ _ (up _ _ e))))) (by simp only [Heap.size_push])⟩
end
section
variable {X:Cx} {pins:List (Addr × Obj)} {σ:St} {H:Hp} {s:Shared}
def ItzTL (K:PySem.W.Frag) (a b:Addr):It :=
  ⟨fun i H=>∃ xs ys x y,SqT K H a xs/\SqL K H b ys/\xs[i]?=some x/\ys[i]?=some y,fun i H v H'=>∃ p x y,H p=none/\v=.ref p/\H'=upd H p (.tup [x,y])/\(∀ xs,SqT K H a xs->xs[i]?=some x)/\∀ ys,SqL K H b ys->ys[i]?=some y,
    fun i H=>∃ xs,SqT K H a xs/\xs.length <= i⟩
theorem turn_zipTL {P:Program} {w:World} {K:PySem.W.Frag} {es:List Expr} {kk:Nat} {pos:Pos} {a b z TI TO i1 i2:Addr} (D:ZipD z TI TO i1 i2 a b) :
    Turn P w K (.Tuple es kk pos) (ItzTL K a b) [z,TI,TO,i1,i2] z (fun i h=>ZipTL h z TI TO i1 i2 a b i) where
  mem:=by simp
  obj:=fun i h st c hc=>by
    obtain ⟨hz,hTI,⟨_,_,hTO⟩,⟨_,h1,_,d1⟩,⟨_,h2,_,d2⟩⟩:=st
    simp only [List.mem_cons,List.not_mem_nil,or_false] at hc
    rcases hc with rfl | rfl | rfl | rfl | rfl
    · exact ⟨_,hz,fun v q=>by cases q⟩
    · exact ⟨_,hTI,fun v q=>by cases q⟩
    · exact ⟨_,hTO,fun v q=>by cases q⟩
    · exact ⟨_,h1,fun v q=>by rw [d1] at q;cases q⟩
    · exact ⟨_,h2,fun v q=>by rw [d2] at q;cases q⟩
  keep:=fun i h h' st k=>by
    obtain ⟨hz,hTI,⟨_,_,hTO⟩,h1,h2⟩:=st
    exact ⟨k _ (by simp) _ hz,k _ (by simp) _ hTI,⟨_,_,k _ (by simp) _ hTO⟩,h1.at fun o e=>k _ (by simp) o e,h2.at fun o e=>k _ (by simp) o e⟩
  item:=by
    intro X hP hw hK hc i pins s σ H E I hf st hg
    subst hP hw hK
    obtain ⟨xs,ys,x,y,ha,hb,hx,hy⟩:=hg
    obtain ⟨its,r1,p1,_⟩:=I.tuple ha
    obtain ⟨its2,r2,p2,_⟩:=I.list hb
    obtain ⟨u,hu,ru⟩:=r1.get hx
    obtain ⟨v,hv,rv⟩:=r2.get hy
    refine zipTL_item D st (show s.heap.IsTuple a its.toArray from p1) (show s.heap.IsList b its2.toArray from p2.isList) (x:=u) (y:=v) (by simpa using hu) (by simpa using hv) fun h' z1 o1 j1 j2 new sz keep=>?_
    refine ⟨_,rfl,wpAny_letOwnedTupleGo_zip (s:={ s with heap:=h' }) z1 fun h2 z2 sb=>?_⟩
    have hn:H s.heap.objs.size=none:=I.hok.fresh (Nat.le_refl _)
    have zlt:z < s.heap.objs.size:=Heap.lt_size st.zz
    have k2:∀ c o,c ∉ [z,TI,TO,i1,i2]->s.heap.get? c=some o->h2.get? c=some o:=fun c o hc e=>by
      simp only [List.mem_cons,List.not_mem_nil,or_false,not_or] at hc
      exact sb.extBut _ _ hc.1 (keep c o (by simp only [List.mem_cons,List.not_mem_nil,or_false,not_or];exact ⟨hc.1,hc.2.2.1,hc.2.2.2.1,hc.2.2.2.2⟩) e)
    have e0:h2.get? s.heap.objs.size=some { cls:=.type "tuple",data:=.seq #[u,v] }:=sb.extBut _ _ (Nat.ne_of_gt zlt) new
    have pne:∀ c o,s.heap.get? c=some o->c ≠ s.heap.objs.size:=fun c o e=>Nat.ne_of_lt (Heap.lt_size e)
    have nit:∀ c u,H c=some u->c ∉ [z,TI,TO,i1,i2]:=fun c u e q=>by rw [(hf c q).1] at e;cases e
    have hok:HOk X.prog X.w (upd H s.heap.objs.size (.tup [x,y])) h2:=fun c ob e=>by
      by_cases hq:c=s.heap.objs.size
      · subst hq
        rw [upd_same] at e;cases e
        exact ⟨by show 2 <= sizeLine;decide,[u,v],.cons ru (.cons rv .nil),⟨_,e0,rfl,_,rfl⟩⟩
      · rw [upd_ne hq] at e
        refine (I.hok c ob e).stay (fun d w' hd q=>k2 d w' ?_ q) (fun d q=>by rw [upd_ne (ne_of_none q hn)];exact q) fun d xs q=>by rw [upd_ne (ne_of_none q hn)];exact q
        rcases hd with rfl | hd
        · exact nit d ob e
        · exact nit d _ hd
    have I2:Inv X pins σ (upd H s.heap.objs.size (.tup [x,y])) { s with heap:=h2 }:=by
      refine I.step (g':=s.gens) (d':=s.drawn) (t':=s.toks) (ch:=[z,TI,TO,i1,i2]) (fun c hc=>⟨(hf c hc).2.2.2.1,(hf c hc).2.1,(hf c hc).2.2.2.2.1,(hf c hc).2.2.2.2.2⟩) (fun c o _ _ hc e _=>k2 c o hc e) (fun c o _ _ hc e _=>⟨o.slots,k2 c o hc e⟩)
        (fun c o _ e n=>by rw [upd_ne (pne c o e)];exact n) (fun c o hc e=>⟨o,k2 c o hc e⟩) (fun c xs e=>by rw [upd_ne (ne_of_none e hn)];exact e) (fun c o u e=>by rw [upd_ne (ne_of_none e hn)];exact e) (fun c ps e=>⟨#[],by rw [upd_ne (ne_of_none e hn),e];simp⟩) (fun m hm=>?_) hok I.bare
      obtain ⟨o,es,ep,ho,r⟩:=hm
      exact ⟨o,es,ep,k2 _ o (fun q=>(hf _ q).2.1 rfl) ho,r⟩
    refine ⟨.ref s.heap.objs.size,_,I2,rfl,⟨_,x,y,hn,rfl,rfl,fun xs' h'=>by rw [I.tuple_inj h' ha];exact hx,fun ys' h'=>by rw [I.list_inj h' hb];exact hy⟩,?_,fun c hc=>?_⟩
    · exact ⟨z2,sb.extBut _ _ D.a1 (keep _ _ (by simp only [List.mem_cons,List.not_mem_nil,or_false,not_or];exact ⟨D.a1,D.b1,D.b2,D.b3⟩) st.ti),⟨_,_,sb.extBut _ _ D.a2 o1⟩,j1.at fun o e=>sb.extBut _ o D.a3 e,j2.at fun o e=>sb.extBut _ o D.a4 e⟩
    · have hlt:c < s.heap.objs.size:=by
        obtain ⟨hz,hTI,⟨_,_,hTO⟩,⟨_,h1,_⟩,⟨_,h2,_⟩⟩:=st
        simp only [List.mem_cons,List.not_mem_nil,or_false] at hc
        rcases hc with rfl | rfl | rfl | rfl | rfl
        · exact Heap.lt_size hz
        · exact Heap.lt_size hTI
        · exact Heap.lt_size hTO
        · exact Heap.lt_size h1
        · exact Heap.lt_size h2
      rw [upd_ne (Nat.ne_of_lt hlt)]
      exact (hf c hc).1
  done:=by
    intro X hP hw hK hc i pins s σ H E I hf st hg
    subst hP hw hK
    obtain ⟨xs,ha,hx⟩:=hg
    obtain ⟨its,r1,p1,_⟩:=I.tuple ha
    have hl:=r1.length
    refine zipTL_end (I.ok.hd hc) D st (show s.heap.IsTuple a its.toArray from p1) (by simp;omega) fun h' keep=>⟨rfl,I.turnedL (t':=s.toks) (ch:=[z,TI,TO,i1,i2]) (fun c o hc e=>keep c o (fun q=>hc ?_) e) hf⟩
    simp only [List.mem_cons,List.not_mem_nil,or_false] at q ⊢
    rcases q with q | q | q | q
    · exact .inl q
    · exact .inr (.inr (.inl q))
    · exact .inr (.inr (.inr (.inl q)))
    · exact .inr (.inr (.inr (.inr q)))
  self:=fun _ _ _ _ _ st h=>wpAny_pyIter_zip st.zz h
def iZipTL (K:PySem.W.Frag) (ta:TA):TI:=fun σ H R=>ta σ H fun vs H1=>∃ a b xs ys,vs=[.ref a,.ref b]/\SqT K H1 a xs/\SqL K H1 b ys/\R (ItzTL K a b) H1
theorem pi_zipTL {e1 e2:Expr} {es:List Expr} {kk:Nat} {pt p pos:Pos} {ta:TA} (hg:Gl X "zip") (hm:X.mg "zip"=none) (ha:PA X [e1,e2] ta) (hs:starEach [e1,e2] X.env=[(false,eval e1 X.env),(false,eval e2 X.env)]:=by rfl) (hs2:starEach [e2] X.env=[(false,eval e2 X.env)]:=by rfl) :
    PI X (.Tuple es kk pt) (.Call (.Name "zip" p) [e1,e2] [] pos) (iZipTL X.K ta):=by
  intro pins s σ H R I h
  refine Call_ (ld_blt I hg hm boot_zip (PyProof.Rows.callWith_type1 (thn (ha pos pins s σ H _ I h) fun us s1 ⟨vs,H1,I1,r1,q1⟩=>?_) (by rw [hs,hs2]) (by rw [hs2];rfl)))
  obtain ⟨a,b,xs,ys,rfl,hx,hy,q⟩:=q1
  cases r1 with
  | cons ra rr =>
    cases rr with
    | cons rb rr =>
      cases rr
      cases ra
      cases rb
      obtain ⟨its,r1,p1,_⟩:=I1.tuple hx
      obtain ⟨its2,r2,p2,_⟩:=I1.list hy
      refine call_zipTL (show s1.heap.IsTuple a its.toArray from p1) (show s1.heap.IsList b its2.toArray from p2.isList) fun h' Z keep sz=>?_
      refine wpAny_pyIter_zip (s:={ s1 with heap:=h' }) Z.zz ?_
      have I2:Inv X pins σ H1 { s1 with heap:=h' }:=I1.kept (t':=s1.toks) keep
      refine ⟨s1.heap.objs.size + 4,[s1.heap.objs.size + 4,s1.heap.objs.size + 2,s1.heap.objs.size + 3,s1.heap.objs.size,s1.heap.objs.size + 1],_,_,H1,rfl,I2,turn_zipTL (ZipD.new p1.lt p2.isList.lt'),Z,fun c hc=>?_,q⟩
      have hge:s1.heap.objs.size <= c:=by
        simp only [List.mem_cons,List.not_mem_nil,or_false] at hc
        rcases hc with rfl | rfl | rfl | rfl | rfl <;> first | exact Nat.le_add_right _ _ | exact Nat.le_refl _
      exact I1.fpOk hge (I1.hok.fresh hge)
end
section
variable {X:Cx} {K:PySem.W.Frag}
theorem blk_zipTL {a b:Addr} {xs ys:List V} {σ0:St} {te:TE} {H:Hp} {F:List V->Hp->Prop} (hn:xs.length <= sizeLine) (hxy:xs.length=ys.length) (Pv:Nat->List V->Hp->Prop) (h0:Pv 0 [] H) (hl:∀ i zs H,Pv i zs H->zs.length=i)
    (hq:∀ i zs H,i <= xs.length->Pv i zs H->SqT K H a xs/\SqL K H b ys) (hσ:σ0[0]?=some none/\σ0[1]?=some none)
    (hs:∀ i zs H x y p,xs[i]?=some x->ys[i]?=some y->H p=none->Pv i zs H->te ((σ0.set 0 (some x)).set 1 (some y)) (upd H p (.tup [x,y])) fun z H'=>Pv (i + 1) (zs ++ [z]) H') (hd:∀ zs H,Pv xs.length zs H->F zs H) :
    Blk (ItzTL K a b) σ0 (gTup K 2 (gCons (gName 0) (gCons (gName 1) gNil))) tTrue te H F:=by
  refine ⟨fun i m zs H=>m=xs.length - i/\i <= xs.length/\Pv i zs H,⟨xs.length,by simp,Nat.zero_le _,h0⟩,?_⟩
  rintro i m zs H2 ⟨rfl,hi,p⟩
  obtain ⟨q1,q2⟩:=hq i zs H2 hi p
  refine ⟨by rw [hl i zs H2 p];omega,?_⟩
  by_cases hlt:i < xs.length
  · refine .inr ⟨⟨xs,ys,xs[i],ys[i]'(by omega),q1,q2,by simp [hlt],by rw [List.getElem?_eq_getElem (by omega)]⟩,fun y H'=>Pv (i + 1) (zs ++ [y]) H',fun _=>False,fun y H' q=>⟨xs.length - (i + 1),by omega,rfl,hlt,q⟩,fun _ q=>q.elim,fun v H3 yld=>?_⟩
    obtain ⟨r,x,y,hr,rfl,rfl,hx,hy⟩:=yld
    exact ⟨r,[x,y],rfl,.of upd_same,rfl,x,[y],rfl,y,[],rfl,rfl,wk2 hσ _ _,hs i zs _ x y r (hx xs q1) (hy ys q2) hr p⟩
  · have e:i=xs.length:=by omega
    subst e
    exact .inl ⟨⟨xs,q1,Nat.le_refl _⟩,hd zs H2 p⟩
end
section
variable {X:Cx} {K:PySem.W.Frag}
end
section
variable {prog:Program} {w:World} {A:Around} {E:Value->Shared->Prop} {s:Shared}
structure ZipLM (h:Heap) (z TI TO i1 i2 t1 t2:Addr) (k:Nat):Prop where
  zz:IsZip h z TI TO .none
  ti:IsPair h TI (.ref i1) (.ref i2)
  tO:∃ a b,IsPair h TO a b
  it1:h.IsListIter i1 t1 k
  it2:h.IsListIter i2 t2 k
end
section
variable {X:Cx} {pins:List (Addr × Obj)} {σ:St} {H:Hp} {s:Shared}
end
section
variable {X:Cx} {K:PySem.W.Frag}
end
end L2
namespace G
open PySem PySem.Spec PyProof.Rows L2 Mt Md Mq
def prods (i:Nat) (cs:List Int) (rs:List (List Int)):List Int:=List.zipWith (fun c r=>c * r.getD i 0) cs rs
theorem comb_prods (rs:List (List Int)) (i:Nat):∀ (cs:List Int) (j:Nat),cs.length + j <= rs.length->comb rs i cs j=(prods i cs (rs.drop j)).sum
  | [],_,_=>by unfold comb prods;simp
  | c :: cs,j,h=>by
    rw [List.length_cons] at h
    have hj:j < rs.length:=by omega
    unfold comb
    rw [comb_prods rs i cs (j + 1) (by omega),List.drop_eq_getElem_cons hj]
    unfold prods
    rw [List.zipWith_cons_cons,List.sum_cons,List.getD_eq_getElem?_getD (l:=rs),List.getElem?_eq_getElem hj];rfl
theorem inc_cut:∀ (c:List Int) (k:Nat),k < c.length->inc c k=c.take k ++ [c.getD k 0 + 1] ++ c.drop (k + 1)
  | x :: c,0,_=>rfl
  | x :: c,k + 1,h=>by
    have:=inc_cut c k (by simpa using h)
    show x :: inc c k=x :: (c.take k ++ [c.getD k 0 + 1] ++ c.drop (k + 1))
    rw [this]
def putL (rs:List (List Int)) (cs:List Int) (i:Nat):List Int:=(List.range i).map fun j=>comb rs j cs 0
theorem putL_len (rs:List (List Int)) (cs:List Int) (i:Nat):(putL rs cs i).length=i:=by unfold putL;rw [List.length_map,List.length_range]
section
variable {P:Program} {w:World} {K:PySem.W.Frag} {mg:Str->Option Value} {base:Heap} {f:Addr} {fd:FuncData} {ec:Nat->Addr} {Bs:Addr}
def sp_ubc:Sp:=fun vs H Q _=>∃ (a c st:Addr) (v:V) (n:Nat) (ns cs:List Int) (rs:List (List Int)),vs=[.ref a,v,.ref c]/\H a=some (.tup (ns.map V.int))/\ns.length=n/\Dt st H (DR rs) v/\Mt.Rul n 5 rs/\n <= 4/\cs.length=n/\H c=some (.tup (cs.map V.int))/\(∀ x ∈ cs,0 <= x/\x <= 100) /\
  ∀ p H',Same H H'->H' p=some (.tup ((beh ns rs cs).map V.int))->Q (.ref p) H'
abbrev s_ubc:Stmt:=top 38
theorem sc_ubc:FnScope ["urn","rule","counts","put"] ["urn","rule","counts"] (defScope s_ubc):=⟨rfl,rfl,rfl,by decide +kernel,rfl,by decide +kernel,by decide +kernel⟩
theorem ok_ubc (F:Fun K "urn_by_counts" "urn_by_counts" s_ubc f fd) (B:Bt mg):FnOk P w K mg base CX0 1 f fd ["urn","rule","counts"] sp_ubc:=by
  refine F.ok sc_ubc (fun vs H Q E h=>?_) (fun cdv A outer s H vs Q E hr h=>?_)
  · obtain ⟨a,c,st,v,n,ns,cs,rs,rfl,_⟩:=h
    rfl
  obtain ⟨a,c,st,v,n,ns,cs,rs,rfl,ha,hn,hv,hR,n4,hcl,hc,hcb,q⟩:=h
  refine ⟨_,(@pss_cons _ _ _ _ _ (ps_setcompG (N:=["kind","counts","rule"]) (ix:=[none,some 2,some 1]) (ifs:=[]) (tc:=tTrue) (i:=3) rfl sc_ubc.nd rfl rfl  (pi_range1 rfl B.range (@pa_cons _ _ _ _ _ (pe_callB call_len_seq rfl B.len PySem.boot_len (@pa_cons _ _ _ _ _ (pv 0) pa_nil (by rfl))) pa_nil (by rfl)))
      (fun s H ex=>pg_c (i:=0) (by decide +kernel) rfl (Or.inr rfl) (.inl rfl)) (fun s H ex=>pifs_nil) (fun s H ex=>(pe_callB (sumK (K:=K) rfl rfl) rfl B.sum boot_sum (@pa_cons _ _ _ _ _ (pe_compG (N:=["many","row","kind"]) (ix:=[none,none,some 0]) (ifs:=[]) (tc:=tTrue) rfl (pi_zip2K (K:=K) rfl rfl B.zip (@pa_cons _ _ _ _ _ (pv 1) (@pa_cons _ _ _ _ _ (pv 2) pa_nil (by rfl)) (by rfl)))
      (fun s H ex=>pgtK (K:=K) (n:=2) rfl rfl (pgs_cons (pg_c (i:=0) (by decide +kernel) rfl (Or.inl rfl) (.inr rfl)) (pgs_cons (pg_c (i:=1) (by decide +kernel) rfl (Or.inl rfl) (.inr rfl)) pgs_nil))) (fun s H ex=>pifs_nil) (fun s H ex=>(@pe_op _ _ _ _ _ _ _ _ op_mul (pv 0) (@pe_ix _ _ _ _ _ _ _ (ixK (K:=K) rfl) (pv 1) (pv 2) (fun _ _=>rfl)))) rfl (by decide +kernel) (by rfl) (by rfl) (fun _=>rfl)) pa_nil (by rfl)))) rfl (by decide +kernel) (by rfl) (by rfl) (fun _=>rfl) (by rfl))
    (@pss_one _ _ _ (ps_ret (pe_callTy call_tuple_of rfl B.tuple boot_tuple (@pa_cons _ _ _ _ _ (pe_compG (N:=["balls","more"]) (ix:=[none,none]) (ifs:=[]) (tc:=tTrue) rfl (pi_zipTL rfl B.zip (@pa_cons _ _ _ _ _ (pv 0) (@pa_cons _ _ _ _ _ (pv 3) pa_nil (by rfl)) (by rfl)))
      (fun s H ex=>pgtK (K:=K) (n:=2) rfl rfl (pgs_cons (pg_c (i:=0) (by decide +kernel) rfl (Or.inl rfl) (.inr rfl)) (pgs_cons (pg_c (i:=1) (by decide +kernel) rfl (Or.inl rfl) (.inr rfl)) pgs_nil))) (fun s H ex=>pifs_nil) (fun s H ex=>(@pe_op _ _ _ _ _ _ _ _ op_add (pv 0) (pv 1))) rfl (by decide +kernel) (by rfl) (by rfl) (fun _=>rfl)) pa_nil (by rfl)))))),?_⟩
  obtain ⟨r,xs,er,_,hr2,hds⟩:=hv.untup
  subst er
  have hxl:=hds.len
  rw [List.length_map,hR.len] at hxl
  refine ⟨_,rfl,a,_,rfl,.inr (.of ha),_,rfl,by rw [List.length_map];omega,by rw [List.length_map];omega,?_⟩
  have en:(((ns.map V.int).length:Nat):Int).toNat=n:=by rw [List.length_map];omega
  rw [en]
  have bl:(beh ns rs cs).length=n:=by unfold beh;simp [hn]
  have lx:(cs.map V.int).length=n:=by rw [List.length_map];exact hcl
  refine blk_range (lo:=0) (n:=n) (sz (by omega)) (fun i ys H2=>Same H H2/\i <= n/\ys=(putL rs cs i).map V.int) ⟨Same.refl H,Nat.zero_le _,rfl⟩ (fun i ys H2 h=>?_) rfl (fun i ys H2 hi h=>?_) (fun ys H2 h=>?_)
  · obtain ⟨_,hi,rfl⟩:=h
    rw [List.length_map,putL_len]
  · obtain ⟨g2,hin,rfl⟩:=h
    have e0:(0:Int) + (i:Int)=(i:Int):=by omega
    rw [e0]
    refine ⟨_,rfl,_,rfl,c,r,cs.map V.int,xs,rfl,.of (g2 _ _ hr2),.inl ⟨.of (g2 _ _ hc),?_⟩⟩
    have hpl:(prods i cs rs).length=n:=by unfold prods;rw [List.length_zipWith,hcl,hR.len];omega
    refine blk_zip (K:=K) (a:=c) (b:=r) (xs:=cs.map V.int) (ys:=xs) (sz (by omega)) (by omega) (fun j zs H3=>Same H H3/\j <= n/\zs=((prods i cs rs).take j).map V.int) ⟨g2,Nat.zero_le _,rfl⟩ (fun j zs H3 h=>?_) (fun j zs H3 _ h=>⟨.of (h.1 _ _ hc),.of (h.1 _ _ hr2)⟩) ⟨rfl,rfl⟩ (fun j zs H3 x y p hx hy hp h=>?_) (fun zs H3 h=>?_)
    · obtain ⟨_,hj,rfl⟩:=h
      rw [List.length_map,List.length_take,hpl];omega
    · obtain ⟨g3,hjn,rfl⟩:=h
      rw [List.getElem?_map] at hx
      obtain ⟨cj,hcj,ex⟩:=Option.map_eq_some_iff.mp hx
      subst ex
      obtain ⟨d,hd,dt⟩:=hds.get hy
      rw [List.getElem?_map] at hd
      obtain ⟨row,hrow,ed⟩:=Option.map_eq_some_iff.mp hd
      subst ed
      obtain ⟨rb,eb,_,hb⟩:=dt.di
      subst eb
      have hjl:=(List.getElem?_eq_some_iff.mp hcj).1
      have hrl:row.length=n:=(hR.row row (List.mem_of_getElem? hrow)).len
      have g4:=g3.trans (Same.new hp (o:=.tup [.int cj,.ref rb]))
      have hcb':=hcb cj (List.mem_of_getElem? hcj)
      refine ⟨_,rfl,_,rfl,_,rfl,rb,_,_,_,rfl,rfl,.of (g4 _ _ hb),atI_int (by omega),_,_,rfl,rfl,.inl ⟨by omega,by omega⟩,g4,by omega,?_⟩
      have e2:(prods i cs rs)[j]?=some (cj * row.getD i 0):=by unfold prods;rw [List.getElem?_zipWith,hcj,hrow]
      rw [List.take_add_one,e2,List.map_append];rfl
    · rw [lx] at h
      obtain ⟨g3,_,rfl⟩:=h
      intro p hp
      rw [show (prods i cs rs).take n=prods i cs rs from List.take_of_length_le (by omega)]
      refine ⟨p,prods i cs rs,rfl,.inl (.of upd_same),g3.trans (Same.new hp),by omega,?_⟩
      have e3:putL rs cs (i + 1)=putL rs cs i ++ [(prods i cs rs).sum]:=by
        unfold putL
        rw [List.range_succ,List.map_append]
        congr 1
        show [comb rs i cs 0]=_
        rw [comb_prods rs i cs 0 (by rw [hcl,hR.len];omega),List.drop_zero]
      rw [e3,List.map_append];rfl
  · obtain ⟨g2,_,rfl⟩:=h
    intro pl hpl
    have g3:Same H2 (upd H2 pl (.lst ((putL rs cs n).map V.int))):=Same.new hpl
    have h3:upd H2 pl (.lst ((putL rs cs n).map V.int)) pl=some (.lst ((putL rs cs n).map V.int)):=upd_same
    have g13:=g2.trans g3
    try dsimp -proj only [gName]
    generalize upd H2 pl (.lst ((putL rs cs n).map V.int))=H3 at g3 h3 g13
    refine ⟨_,rfl,_,rfl,a,pl,_,_,rfl,.of (g13 _ _ ha),.of h3,?_⟩
    refine blk_zipTL (K:=K) (a:=a) (b:=pl) (xs:=ns.map V.int) (ys:=(putL rs cs n).map V.int) (sz (by rw [List.length_map];omega)) (by rw [List.length_map,List.length_map,putL_len];exact hn) (fun j zs H4=>Same H3 H4/\j <= n/\zs=((beh ns rs cs).take j).map V.int) ⟨Same.refl _,Nat.zero_le _,rfl⟩ (fun j zs H4 h=>?_) (fun j zs H4 _ h=>⟨.of (h.1 _ _ (g13 _ _ ha)),.of (h.1 _ _ h3)⟩) ⟨rfl,rfl⟩ (fun j zs H4 x y p hx hy hp h=>?_) (fun zs H4 h=>?_)
    · obtain ⟨_,hj,rfl⟩:=h
      rw [List.length_map,List.length_take,bl];omega
    · obtain ⟨g4,hjn,rfl⟩:=h
      rw [List.getElem?_map] at hx hy
      obtain ⟨b0,hb0,ex⟩:=Option.map_eq_some_iff.mp hx
      obtain ⟨m0,hm0,ey⟩:=Option.map_eq_some_iff.mp hy
      subst ex ey
      have hjl:=(List.getElem?_eq_some_iff.mp hb0).1
      refine ⟨_,rfl,_,rfl,_,_,rfl,rfl,g4.trans (Same.new hp),by omega,?_⟩
      have e4:m0=comb rs j cs 0:=by
        unfold putL at hm0
        rw [List.getElem?_map,List.getElem?_range (by omega)] at hm0
        injection hm0 with hm0;exact hm0.symm
      have e5:(beh ns rs cs)[j]?=some (b0 + m0):=by
        unfold beh
        rw [List.getElem?_map,List.getElem?_range (by omega),Option.map_some,e4,List.getD_eq_getElem?_getD,hb0];rfl
      rw [List.take_add_one,e5,List.map_append];rfl
    · obtain ⟨g4,_,rfl⟩:=h
      intro p hp
      refine ⟨p,_,rfl,.inl ⟨.of upd_same,fun l hl=>?_⟩⟩
      refine q l _ ((g13.trans g4).trans ((Same.new hp).trans (Same.new hl))) ?_
      rw [upd_same,List.length_map,hn,<- bl,List.take_length]
def sp_om:Sp:=fun vs H Q _=>∃ (c:Addr) (cs:List Int) (k:Nat),vs=[.ref c,.int k]/\H c=some (.tup (cs.map V.int))/\k < cs.length/\cs.length <= 4/\∀ p H',Same H H'->H' p=some (.tup ((inc cs k).map V.int))->Q (.ref p) H'
abbrev s_om:Stmt:=top 39
theorem sc_om:FnScope ["counts","kind"] ["counts","kind"] (defScope s_om):=⟨rfl,rfl,rfl,by decide +kernel,rfl,by decide +kernel,by decide +kernel⟩
theorem ok_om (F:Fun K "one_more" "one_more" s_om f fd):FnOk P w K mg base CX0 1 f fd ["counts","kind"] sp_om:=by
  refine F.ok sc_om (fun vs H Q E h=>?_) (fun cdv A outer s H vs Q E hr h=>?_)
  · obtain ⟨c,cs,k,rfl,_⟩:=h
    rfl
  obtain ⟨ka,c,t,rfl,hka,htc,l4,q⟩:=h
  refine ⟨_,(@pss_one _ _ _ (ps_ret (@pe_op _ _ _ _ _ _ _ _ catS (@pe_op _ _ _ _ _ _ _ _ catS (@pe_slice _ _ _ _ _ _ _ _ _ _ slS (pv 0) po_none (po_some (pv 1))) (@pe_tup _ _ _ _ _ (@pa_cons _ _ _ _ _ (@pe_op _ _ _ _ _ _ _ _ op_add (@pe_ix _ _ _ _ _ _ _ ix_tup (pv 0) (pv 1) (fun _ _=>rfl)) pe_int) pa_nil (by rfl)))) (@pe_slice _ _ _ _ _ _ _ _ _ _ slS (pv 0) (po_some (@pe_op _ _ _ _ _ _ _ _ op_add (pv 1) pe_int)) po_none)))),?_⟩
  have l1:(c.map V.int).length=c.length:=by rw [List.length_map]
  refine ⟨_,rfl,_,rfl,(t:Int),rfl,ka,_,rfl,hka,fun p1 Ha ga hp1=>?_⟩
  refine ⟨_,rfl,_,rfl,ka,_,_,_,rfl,rfl,.of (ga _ _ hka),atI_int htc,_,_,rfl,rfl,(by show 1 <= sizeLine;decide),fun p2 hp2=>?_⟩
  have gb:Same Ha (upd Ha p2 (.tup [.int (c.getD t 0 + 1)])):=Same.new hp2
  have hp2b:upd Ha p2 (.tup [.int (c.getD t 0 + 1)]) p2=some (.tup [.int (c.getD t 0 + 1)]):=upd_same
  try dsimp only
  generalize upd Ha p2 (.tup [.int (c.getD t 0 + 1)])=Hb at gb hp2b
  refine ⟨p1,p2,_,_,rfl,rfl,gb _ _ hp1,hp2b,?_,fun p3 Hc gc hp3=>?_⟩
  · have:=cutV_length (c.map V.int) none (some (t:Int))
    rw [l1] at this
    simp only [List.length_cons,List.length_nil];omega
  refine ⟨_,rfl,_,rfl,_,_,rfl,rfl,((t:Int) + 1),rfl,ka,_,rfl,(gb.trans gc) _ _ (ga _ _ hka),fun p4 Hd gd hp4'=>?_⟩
  refine ⟨p3,p4,_,_,rfl,rfl,gd _ _ hp3,hp4',?_,fun p5 He ge hp5=>?_⟩
  · have h1:=cutV_length (c.map V.int) none (some (t:Int))
    have h2:=cutV_length (c.map V.int) (some ((t:Int) + 1)) none
    rw [l1] at h1 h2
    rw [List.length_append]
    simp only [List.length_cons,List.length_nil];omega
  have ethere:cutV (c.map V.int) none (some (t:Int)) ++ [V.int (c.getD t 0 + 1)] ++ cutV (c.map V.int) (some ((t:Int) + 1)) none=(inc c t).map V.int:=by
    rw [cut_take (by omega),show ((t:Int) + 1)=((t + 1:Nat):Int) by omega,cut_drop (by omega),inc_cut c t htc,List.map_append,List.map_append,List.map_take,List.map_drop];rfl
  rw [ethere] at hp5
  exact q p5 He ((((ga.trans gb).trans gc).trans gd).trans ge) hp5
def sp_ncc:Sp:=fun vs H Q _=>∃ (d a ga st:Addr) (v:V) (n k N E:Nat) (T:TabQ) (kvs:List (List Key × V)) (ns gs:List Int) (rs:List (List Int)),vs=[.ref d,.ref a,v,.ref ga]/\H d=some (.dT kvs)/\QE H T kvs/\KC ns rs n k T/\k <= 5/\T.length <= 1024/\AllQ N E T/\0 < N/\N <= 2 ^ 1600/\E <= 2 ^ 60 /\
  H a=some (.tup (ns.map V.int))/\ns.length=n/\H ga=some (.tup (gs.map V.int))/\gs.length=n/\Dt st H (DR rs) v/\Mt.Rul n 5 rs/\1 <= n/\n <= 4 /\
  ∀ p kvs' H',Kp d H H'->H p=none->H' p=some (.dT kvs')->QE H' (nextCL ns rs gs T []) kvs'->Q (.ref p) H'
abbrev s_ncc:Stmt:=top 40
theorem sc_ncc:FnScope ["chances","urn","rule","goal","later","counts","so_far","now","kind","behind","part"] ["chances","urn","rule","goal"] (defScope s_ncc):=⟨rfl,rfl,rfl,by decide +kernel,rfl,by decide +kernel,by decide +kernel⟩
theorem ok_ncc (F:Fun K "next_chances_by_counts" "next_chances_by_counts" s_ncc f fd) (B:Bt mg) (c1:Cal P w K mg base 1 "urn_by_counts" ["urn","rule","counts"] sp_ubc) (c2:Cal P w K mg base 1 "one_more" ["counts","kind"] sp_om) (c3:Cal P w K mg base 3 "times" ["one","other"] sp_times) (c4:Cal P w K mg base 3 "share" ["urn","kind"] sp_share) (c5:Cal P w K mg base 3 "plus" ["one","other"] sp_plus):FnOk P w K mg base CX0 4 f fd ["chances","urn","rule","goal"] sp_ncc:=by
  refine F.ok sc_ncc (fun vs H Q E h=>?_) (fun cdv A outer s H vs Q E hr h=>?_)
  · obtain ⟨d,a,ga,st,v,n,k,N,E,T,kvs,ns,gs,rs,rfl,_⟩:=h
    rfl
  obtain ⟨d,a,ga,st,v,n,k,N,En,T,kvs,ns,gs,rs,rfl,hd,hQ,hK,hk5,hT,hE,hN0,hN,hEn,ha,hnl,hga,hgl,hv,hR,n1,n4,q⟩:=h
  refine ⟨_,(@pss_cons _ _ _ _ _ (@ps_set _ _ 4 _ _ _ _ sc_ncc.nd rfl (Or.inl rfl) pe_dnewT (by rfl) (by first | exact .inl rfl | exact .inr rfl))
    (@pss_cons _ _ _ _ _ (ps_for PassesOwn.never rfl (pi_items (pv 0)) (pg_tup rfl (pgs_cons (pg_name (i:=5) sc_ncc.nd rfl (Or.inl rfl)) (pgs_cons (pg_name (i:=6) sc_ncc.nd rfl (Or.inl rfl)) pgs_nil)))
    (@pss_cons _ _ _ _ _ (@ps_set _ _ 7 _ _ _ _ sc_ncc.nd rfl (Or.inl rfl) (pe_cal (c1.up (by decide)) hr rfl (@pa_cons _ _ _ _ _ (pv 1) (@pa_cons _ _ _ _ _ (pv 2) (@pa_cons _ _ _ _ _ (pv 5) pa_nil (by rfl)) (by rfl)) (by rfl))) (by rfl) (by first | exact .inl rfl | exact .inr rfl))
    (@pss_one _ _ _ (ps_for PassesOwn.never rfl (pi_range1 rfl B.range (@pa_cons _ _ _ _ _ (pe_callB call_len_seq rfl B.len PySem.boot_len (@pa_cons _ _ _ _ _ (pv 1) pa_nil (by rfl))) pa_nil (by rfl))) (pg_name (i:=8) sc_ncc.nd rfl (Or.inl rfl))
    (@pss_one _ _ _ (ps_if (@pt_cmpR _ _ _ _ _ _ _ _ op_lt (@pe_ix _ _ _ _ _ _ _ ix_tup (pv 5) (pv 8) (fun _ _=>rfl)) (@pe_ix _ _ _ _ _ _ _ ix_tup (pv 3) (pv 8) (fun _ _=>rfl)) (nomark _)) (@pss_cons _ _ _ _ _ (@ps_set _ _ 9 _ _ _ _ sc_ncc.nd rfl (Or.inl rfl) (pe_cal (c2.up (by decide)) hr rfl (@pa_cons _ _ _ _ _ (pv 5) (@pa_cons _ _ _ _ _ (pv 8) pa_nil (by rfl)) (by rfl))) (by rfl) (by first | exact .inl rfl | exact .inr rfl))
    (@pss_cons _ _ _ _ _ (@ps_set _ _ 10 _ _ _ _ sc_ncc.nd rfl (Or.inl rfl) (pe_cal c3 hr rfl (@pa_cons _ _ _ _ _ (pv 6) (@pa_cons _ _ _ _ _ (pe_cal c4 hr rfl (@pa_cons _ _ _ _ _ (pv 7) (@pa_cons _ _ _ _ _ (pv 8) pa_nil (by rfl)) (by rfl))) pa_nil (by rfl)) (by rfl))) (by rfl) (by first | exact .inl rfl | exact .inr rfl))
    (@pss_one _ _ _ (ps_dput (hu_of hr) (pv 4) (pv 9) (pe_cal c5 hr rfl (@pa_cons _ _ _ _ _ (pe_dget2 (hu_of hr) (pv 4) (pv 9) (@pe_tup _ _ _ _ _ (@pa_cons _ _ _ _ _ pe_int (@pa_cons _ _ _ _ _ pe_int pa_nil (by rfl)) (by rfl))) ⟨rfl,rfl,rfl,rfl⟩) (@pa_cons _ _ _ _ _ (pv 10) pa_nil (by rfl)) (by rfl))) rfl)))) pss_nil))))))
    (@pss_one _ _ _ (ps_ret (pv 4))))),?_⟩
  have hv0:=Dt_toD hd hv
  intro lt hlt
  have nlt:d ≠ lt:=ne_of_none hd hlt
  have ndt:∀ (ps:List (List Key × V)) xs,HO.dT ps ≠ .tup xs:=fun _ _ z=>by cases z
  refine ⟨_,rfl,d,kvs,rfl,(by rw [upd_ne nlt];exact hd),fun o=>?_⟩
  have k0:Kp d H (upd (upd H lt (.dT [])) d (.frz o (.dT kvs))):=fun b u nb e=>by rw [upd_ne nb,upd_ne (ne_of_none e hlt)];exact e
  refine for_items (o:=o) (fun i σ H2=>Kp d H H2/\H2 d=some (.frz o (.dT kvs))/\(∃ ks,H2 lt=some (.dT ks)/\QE H2 (nextCL ns rs gs (T.take i) []) ks)/\i <= T.length/\∃ o5 o6 o7 o8 o9 oa,σ=[some (.ref d),some (.ref a),some v,some (.ref ga),some (.ref lt),o5,o6,o7,o8,o9,oa])
    ⟨k0,upd_same,⟨[],by rw [upd_ne nlt.symm,upd_same],trivial⟩,Nat.zero_le _,none,none,none,none,none,none,rfl⟩ (fun i σ H2 _ h=>h.2.1) (fun i kk x σ H2 p ka hx hp hka h=>?_) (fun σ H2 h=>?_)
  · obtain ⟨k2,hd2,⟨ks2,hl2,hq2⟩,hi,o5,o6,o7,o8,o9,oa,rfl⟩:=h
    obtain ⟨um,hum,ek,xq,ex,hxq⟩:=hQ.get hx
    subst ek ex
    obtain ⟨c,mm⟩:=um
    simp only at hka hxq
    have hil:=(List.getElem?_eq_some_iff.mp hum).1
    have hkc:Cn ns rs n k c:=hK (c,mm) (List.mem_of_getElem? hum)
    have hmm:Vq N En mm:=hE (c,mm) (List.mem_of_getElem? hum)
    rw [kI_kV] at hka
    refine ⟨p,_,rfl,.of upd_same,rfl,_,_,rfl,_,_,rfl,rfl,?_⟩
    have g3:Same H2 (upd H2 p (.tup [.ref ka,.ref xq])):=Same.new hp
    try dsimp -proj only [gName]
    generalize upd H2 p (.tup [.ref ka,.ref xq])=H3 at g3
    have k3:Kp d H H3:=k2.trans (g3.kp d)
    have ha3:=kp_tup hd (ndt _) k3 _ _ ha
    have hga3:=kp_tup hd (ndt _) k3 _ _ hga
    refine ⟨_,rfl,_,rfl,_,rfl,a,ka,d,v,n,ns,c,rs,rfl,ha3,hnl,hv0.kp k3,hR,n4,hkc.len,g3 _ _ hka,(fun x hx=>by have:=hkc.nn x hx;omega),fun pn H4 g4 hpn=>?_⟩
    have k4:Kp d H H4:=k3.trans (g4.kp d)
    have hl4:=g4 _ _ (g3 _ _ hl2)
    have hd4:=g4 _ _ (g3 _ _ hd2)
    have ha4:=g4 _ _ ha3
    have hga4:=g4 _ _ hga3
    have hka4:H4 ka=some (.tup (c.map V.int)):=g4 _ _ (g3 _ _ hka)
    have hq4:QE H4 (nextCL ns rs gs (T.take i) []) ks2:=hq2.mono fun a xs e=>g4 _ _ (g3 _ _ e)
    have hx4:H4 xq=some (.tup ((fr mm).map V.int)):=kp_tup hd (ndt _) k4 _ _ hxq
    obtain ⟨kk1,kk2,kk3,kk4⟩:=nextCL_ok (g:=gs) (D:=[]) (B:=0) hnl hR n4 (show k <= 6 by omega) (T.take i) (fun q hq=>hK q (List.mem_of_mem_take hq)) (fun q hq=>hE q (List.mem_of_mem_take hq)) (fun p hp=>by simp at hp) (by unfold NDq;simp) (fun p hp=>by simp at hp)
    have hti:(T.take i).length <= 1024:=by rw [List.length_take];omega
    have hle:(nextCL ns rs gs (T.take i) []).length <= 4 * 1024:=Nat.le_trans kk4 (by rw [List.length_nil,Nat.zero_add];exact Nat.mul_le_mul n4 hti)
    have hU:=hkc.urn
    have hs0:=hU.pos
    have hs1:=sum_200 hU n4 (by omega)
    refine ⟨_,rfl,a,_,rfl,.inr (.of ha4),(n:Int),by rw [List.length_map,hnl],by omega,by omega,?_⟩
    refine for_range (lo:=0) (n:=n) (fun j σ H5=>Kp lt H4 H5/\(∃ ks,H5 lt=some (.dT ks)/\QE H5 (putsQ mm (beh ns rs c).sum (cbo ns rs gs c j) (nextCL ns rs gs (T.take i) [])) ks)/\j <= n/\∃ o8 o9 oa,σ=[some (.ref d),some (.ref a),some v,some (.ref ga),some (.ref lt),some (.ref ka),some (.ref xq),some (.ref pn),o8,o9,oa])
      ⟨Kp.refl _ _,⟨ks2,hl4,hq4⟩,Nat.zero_le _,o8,o9,oa,rfl⟩ (fun j σ H5 hj h=>?_) (fun σ H5 h=>?_)
    · obtain ⟨k5,⟨ks5,hl5,hq5⟩,hjn,o8,o9,oa,rfl⟩:=h
      have e0:(0:Int) + (j:Int)=(j:Int):=by omega
      rw [e0]
      have t45:=kp_tup hl4 (ndt _) k5
      have hx5:=t45 _ _ hx4
      have hka5:=t45 _ _ hka4
      have hga5:=t45 _ _ hga4
      have hpn5:=t45 _ _ hpn
      obtain ⟨pp1,pp2,pp3,pp4⟩:=putsC_ok (k:=k + 1) hmm hs0 hs1 (cbo ns rs gs c j) (cbo_ok hnl hR hkc (by omega)) kk1 kk2 kk3
      have hjt:=cbo_len ns rs gs c j
      have hlen:(putsQ mm (beh ns rs c).sum (cbo ns rs gs c j) (nextCL ns rs gs (T.take i) [])).length <= 10000:=by omega
      refine ⟨_,rfl,_,rfl,ka,_,_,_,rfl,rfl,.of hka5,atI_int (by rw [hkc.len];exact hj),_,rfl,_,rfl,ga,_,_,_,rfl,rfl,.of hga5,atI_int (by rw [hgl];exact hj),_,_,rfl,rfl,_,rfl,?_⟩
      have hsu:=cbo_succ ns rs gs c j
      by_cases hlt2:c.getD j 0 < gs.getD j 0
      · rw [decide_eq_true hlt2]
        rw [if_pos hlt2] at hsu
        refine iteT ?_
        have hsh:Mt.share (beh ns rs c) j=cut ((beh ns rs c).getD j 0) (beh ns rs c).sum:=rfl
        have cv:Vq LL 1 (cut ((beh ns rs c).getD j 0) (beh ns rs c).sum):=cut_vq (hU.getD j).1 (getD_le_sum hU j) hs0 hs1
        have cb:Bd 12 (cut ((beh ns rs c).getD j 0) (beh ns rs c).sum):=Bd.cut hs0 (by have:=hU.getD j;show _ <= 4096;omega) (by show _ <= 4096;omega)
        have pv':Vq (N * LL) En (mm * cut ((beh ns rs c).getD j 0) (beh ns rs c).sum):=(hmm.mul cv).mono (by omega)
        have hNL:N * LL <= 2 ^ 1900:=by
          have:(2:Nat) ^ 1900=2 ^ 1600 * 2 ^ 300:=by rw [<- Nat.pow_add]
          rw [this];exact Nat.mul_le_mul hN LL_le
        have hNL0:0 < N * LL:=Nat.mul_pos hN0 LL_pos
        have big:∀ X:Nat,X <= 2 ^ 60 * 2 ^ 13->N * LL * X <= 2 ^ 1973:=fun X hX=>by
          have:(2:Nat) ^ 1973=2 ^ 1900 * (2 ^ 60 * 2 ^ 13):=by rw [<- Nat.pow_add,<- Nat.pow_add]
          rw [this];exact Nat.mul_le_mul hNL hX
        have hNL2:N * LL <= 2 ^ 1973:=Nat.le_trans hNL (Nat.pow_le_pow_right (by decide) (by decide))
        have d1:Bd 1660 mm:=hmm.bd hN0 (by
          have:(2:Nat) ^ 1660=2 ^ 1600 * 2 ^ 60:=by rw [<- Nat.pow_add]
          rw [this];exact Nat.mul_le_mul hN hEn) (Nat.le_trans hN (Nat.pow_le_pow_right (by decide) (by decide)))
        have d2:Bd 1973 (mm * cut ((beh ns rs c).getD j 0) (beh ns rs c).sum):=pv'.bd hNL0 (big _ (Nat.le_trans hEn (Nat.le_mul_of_pos_right _ (by decide)))) hNL2
        have vv:=pp3.val (k:=inc c j)
        have d3:Bd 1973 (valQ (putsQ mm (beh ns rs c).sum (cbo ns rs gs c j) (nextCL ns rs gs (T.take i) [])) (inc c j)):=vv.bd hNL0 (big _ (by
          have e1:0 + En * (4 * (T.take i).length) + En * (cbo ns rs gs c j).length <= En * (2 ^ 13):=by
            rw [Nat.zero_add,<- Nat.mul_add];exact Nat.mul_le_mul_left _ (by omega)
          exact Nat.le_trans e1 (Nat.mul_le_mul_right _ hEn))) hNL2
        refine ⟨_,rfl,_,rfl,ka,c,j,rfl,hka5,by rw [hkc.len];exact hj,by rw [hkc.len];exact n4,fun p6 H6 g6 hp6=>?_⟩
        refine ⟨_,rfl,_,rfl,_,rfl,pn,n,20 + 5 * k,beh ns rs c,j,rfl,g6 _ _ hpn5,hU,n4,by omega,hj,fun p7 H7 g7 hp7=>?_⟩
        refine ⟨xq,p7,mm,cut ((beh ns rs c).getD j 0) (beh ns rs c).sum,1660,12,rfl,g7 _ _ (g6 _ _ hx5),hp7,Rat.num_nonneg.mpr hmm.nn,Rat.num_nonneg.mpr cv.nn,d1,cb,by decide,fun p8 H8 g8 hp8=>?_⟩
        have g58:=(g6.trans g7).trans g8
        have hl8:=g58 _ _ hl5
        have hp6':H6 p6=some (.tup ((kI (inc c j)).map kV)):=by rw [kI_kV];exact hp6
        have hw8:=(g7.trans g8) _ _ hp6'
        refine ⟨_,rfl,lt,rfl,.inr ⟨_,.inl hl8⟩,_,rfl,(by show 2 <= sizeLine;decide),fun p9 hp9=>?_⟩
        have g9:Same H8 (upd H8 p9 (.tup [.int 0,.int 1])):=Same.new hp9
        have hz9:FrAt (upd H8 p9 (.tup [.int 0,.int 1])) 0 (.ref p9):=⟨p9,rfl,upd_same⟩
        try dsimp -proj only
        generalize upd H8 p9 (.tup [.int 0,.int 1])=H9 at g9 hz9
        have hl9:=g9 _ _ hl8
        have hw9:=g9 _ _ hw8
        have hq9:QE H9 (putsQ mm (beh ns rs c).sum (cbo ns rs gs c j) (nextCL ns rs gs (T.take i) [])) ks5:=hq5.mono fun a xs e=>g9 _ _ (g58 _ _ e)
        obtain ⟨r9,er9,hr9⟩:=hq9.val (k:=inc c j) hz9
        refine ⟨_,DGet.t hl9 hw9,?_⟩
        rw [er9]
        refine ⟨_,rfl,r9,p8,_,mm * cut ((beh ns rs c).getD j 0) (beh ns rs c).sum,1973,1973,rfl,hr9,g9 _ _ hp8,Rat.num_nonneg.mpr vv.nn,Rat.num_nonneg.mpr pv'.nn,d3,d2,by decide,fun pa Ha gA hpa=>?_⟩
        have g5a:Same H5 Ha:=g58.trans (g9.trans gA)
        have hla:=gA _ _ hl9
        have hwa:=gA _ _ hw9
        have hqa:QE Ha (putsQ mm (beh ns rs c).sum (cbo ns rs gs c j) (nextCL ns rs gs (T.take i) [])) ks5:=hq9.mono fun a xs e=>gA _ _ e
        refine ⟨_,rfl,_,rfl,lt,_,rfl,DPut.t hla hwa (by rw [hqa.len];exact small_tab hlen),?_⟩
        have hqb:=hqa.put (k:=inc c j) (x:=mm * cut ((beh ns rs c).getD j 0) (beh ns rs c).sum) (v:=.ref pa) pp2 ⟨pa,rfl,hpa⟩
        have kb:Kp lt H4 (upd Ha lt (.dT (putK ks5 (kI (inc c j)) (.ref pa)))):=(k5.trans (g5a.kp lt)).trans Kp.at
        refine ⟨kb,⟨_,upd_same,?_⟩,by omega,_,_,_,rfl⟩
        rw [hsu,putsQ_snoc]
        exact hqb.mono (kp_tup hla (ndt _) Kp.at)
      · rw [decide_eq_false hlt2]
        rw [if_neg hlt2] at hsu
        refine iteF ⟨k5,⟨ks5,hl5,by rw [hsu];exact hq5⟩,by omega,_,_,_,rfl⟩
    · obtain ⟨k5,⟨ks5,hl5,hq5⟩,_,o8,o9,oa,rfl⟩:=h
      have hlt2:H lt=none:=hlt
      refine ⟨fun c o nc e=>k5 _ _ (ne_of_none e hlt2) (k4 _ _ nc e),k5 _ _ nlt hd4,⟨ks5,hl5,?_⟩,hil,_,_,_,_,_,_,rfl⟩
      rw [List.take_add_one,hum]
      show QE H5 (nextCL ns rs gs (T.take i ++ [(c,mm)]) []) ks5
      rw [nextCL_snoc,hnl]
      exact hq5
  · obtain ⟨k2,hd2,⟨ks2,hl2,hq2⟩,_,o5,o6,o7,o8,o9,oa,rfl⟩:=h
    rw [hQ.len,List.take_length] at hq2
    exact ⟨_,rfl,q lt ks2 H2 k2 hlt hl2 hq2⟩
def sp_cbc:Sp:=fun vs H Q _=>∃ (a ga st:Addr) (v:V) (n k:Nat) (ns gs:List Int) (rs:List (List Int)),vs=[.ref a,v,.ref ga,.int k]/\H a=some (.tup (ns.map V.int))/\Mt.Urn n 20 ns/\H ga=some (.tup (gs.map V.int))/\gs.length=n/\Dt st H (DR rs) v/\Mt.Rul n 5 rs/\1 <= n/\n <= 4/\k <= 6 /\
  ∀ p kvs H',Same H H'->H p=none->H' p=some (.dT kvs)->QE H' (cbQ ns rs gs k) kvs->Q (.ref p) H'
abbrev s_cbc:Stmt:=top 41
theorem sc_cbc:FnScope ["urn","rule","goal","draws","chances","turn"] ["urn","rule","goal","draws"] (defScope s_cbc):=⟨rfl,rfl,rfl,by decide +kernel,rfl,by decide +kernel,by decide +kernel⟩
theorem ok_cbc (F:Fun K "chances_by_counts" "chances_by_counts" s_cbc f fd) (B:Bt mg) (c1:Cal P w K mg base 4 "next_chances_by_counts" ["chances","urn","rule","goal"] sp_ncc):FnOk P w K mg base CX0 5 f fd ["urn","rule","goal","draws"] sp_cbc:=by
  refine F.ok sc_cbc (fun vs H Q E h=>?_) (fun cdv A outer s H vs Q E hr h=>?_)
  · obtain ⟨a,ga,st,v,n,k,ns,gs,rs,rfl,_⟩:=h
    rfl
  obtain ⟨a,ga,st,v,n,k,ns,gs,rs,rfl,ha,hU,hga,hgl,hv,hR,n1,n4,k6,q⟩:=h
  refine ⟨_,(@pss_cons _ _ _ _ _ (@ps_set _ _ 4 _ _ _ _ sc_cbc.nd rfl (Or.inl rfl) (pe_dT1 (hu_of hr) (@pe_op _ _ _ _ _ _ _ _ repS (@pe_tup _ _ _ _ _ (@pa_cons _ _ _ _ _ pe_int pa_nil (by rfl))) (pe_callB call_len_seq rfl B.len PySem.boot_len (@pa_cons _ _ _ _ _ (pv 0) pa_nil (by rfl)))) (@pe_tup _ _ _ _ _ (@pa_cons _ _ _ _ _ pe_int (@pa_cons _ _ _ _ _ pe_int pa_nil (by rfl)) (by rfl)))) (by rfl) (by first | exact .inl rfl | exact .inr rfl))
    (@pss_cons _ _ _ _ _ (ps_for PassesOwn.never rfl (pi_range1 rfl B.range (@pa_cons _ _ _ _ _ (pv 3) pa_nil (by rfl))) (pg_name (i:=5) sc_cbc.nd rfl (Or.inl rfl))
    (@pss_one _ _ _ (@ps_set _ _ 4 _ _ _ _ sc_cbc.nd rfl (Or.inl rfl) (pe_cal c1 hr rfl (@pa_cons _ _ _ _ _ (pv 4) (@pa_cons _ _ _ _ _ (pv 0) (@pa_cons _ _ _ _ _ (pv 1) (@pa_cons _ _ _ _ _ (pv 2) pa_nil (by rfl)) (by rfl)) (by rfl)) (by rfl))) (by rfl) (by first | exact .inl rfl | exact .inr rfl))))
    (@pss_one _ _ _ (ps_ret (pv 4))))),?_⟩
  intro p hp
  have g1:Same H (upd H p (.dT [])):=Same.new hp
  have hp1:upd H p (.dT []) p=some (.dT []):=upd_same
  generalize upd H p (.dT [])=H1 at g1 hp1
  refine ⟨(by show 1 <= sizeLine;decide),fun z0 hz0=>?_⟩
  have g2:Same H1 (upd H1 z0 (.tup [.int 0])):=Same.new hz0
  have hz2:upd H1 z0 (.tup [.int 0]) z0=some (.tup [.int 0]):=upd_same
  try dsimp -proj only
  generalize upd H1 z0 (.tup [.int 0])=H2 at g2 hz2
  refine ⟨_,rfl,a,_,rfl,.inr (.of ((g1.trans g2) _ _ ha)),z0,.int 0,n,rfl,(by rw [List.length_map,hU.len]),hz2,n1,n4,fun b H3 g3 hb=>⟨(by show 2 <= sizeLine;decide),fun c hc=>?_⟩⟩
  have g4:Same H3 (upd H3 c (.tup [.int 1,.int 1])):=Same.new hc
  have hc4:upd H3 c (.tup [.int 1,.int 1]) c=some (.tup [.int 1,.int 1]):=upd_same
  try dsimp -proj only
  generalize upd H3 c (.tup [.int 1,.int 1])=H4 at g4 hc4
  have hp4:=g4 _ _ (g3 _ _ (g2 _ _ hp1))
  have hb4:H4 b=some (.tup ((kI (List.replicate n 0)).map kV)):=by
    rw [kI_kV,List.map_replicate];exact g4 _ _ hb
  have gg:Same H H4:=((g1.trans g2).trans g3).trans g4
  have ndt:∀ (ps:List (List Key × V)) xs,HO.dT ps ≠ .tup xs:=fun _ _ z=>by cases z
  refine ⟨hp4,b,kI (List.replicate n 0),rfl,hb4,?_⟩
  have wo:=fun j hj=>cb_ok gs hR n4 hU j hj
  refine ⟨_,rfl,(k:Int),rfl,by omega,by omega,?_⟩
  refine for_range (lo:=0) (n:=k) (fun j σ H3=>Same H H3/\j <= k/\∃ p kvs o5,H p=none/\H3 p=some (.dT kvs)/\QE H3 (cbQ ns rs gs j) kvs/\σ=[some (.ref a),some v,some (.ref ga),some (.int k),some (.ref p),o5])
    ⟨fun c o e=>by rw [upd_ne (ne_of_none e hp)];exact gg _ _ e,Nat.zero_le _,p,_,none,hp,upd_same,⟨by rw [hU.len],⟨c,rfl,kp_tup hp4 (ndt _) Kp.at _ _ hc4⟩,trivial⟩,rfl⟩ (fun j σ H3 hj h=>?_) (fun σ H3 h=>?_)
  · obtain ⟨g3,hjk,p,kvs,o5,hpn,hp3,hq3,rfl⟩:=h
    obtain ⟨w1,w2,w3,w4⟩:=wo j (by omega)
    have hl:(cbQ ns rs gs j).length <= 1024:=Nat.le_trans w4 (Nat.pow_le_pow_right (n:=4) (by decide) (show j <= 5 by omega))
    have hj5:j <= 5:=by omega
    have e1:LL ^ j <= 2 ^ 1600:=Nat.le_trans (LL_pow j) (Nat.pow_le_pow_right (by decide) (by omega))
    have e2:4 ^ (j * j) <= 2 ^ 60:=by
      have:j * j <= 5 * 5:=Nat.mul_le_mul hj5 hj5
      exact Nat.le_trans (Nat.pow_le_pow_right (by decide) this) (by decide)
    refine ⟨_,rfl,_,rfl,_,rfl,_,rfl,p,a,ga,st,v,n,j,LL ^ j,4 ^ (j * j),_,kvs,ns,gs,rs,rfl,hp3,hq3,w1,hj5,hl,w3,LLp_pos j,e1,e2,g3 _ _ ha,hU.len,g3 _ _ hga,hgl,hv.kp (g3.kp st),hR,n1,n4,fun p' kvs' H4 k4 hp' h4 hq4=>?_⟩
    have g4:Same H H4:=fun c o e=>k4 _ _ (ne_of_none e hpn) (g3 _ _ e)
    exact ⟨g4,by omega,p',kvs',_,g3.free hp',h4,hq4,rfl⟩
  · obtain ⟨g3,_,p,kvs,o5,hpn,hp3,hq3,rfl⟩:=h
    exact ⟨_,rfl,q p kvs H3 g3 hpn hp3 hq3⟩
end
end G
namespace Mt
def rp (s g:Int):Nat->Int
  | 0=>1
  | n + 1=>rp s g n * (s + (n:Int) * g)
theorem rp_nn {s g:Int} (hs:0 <= s) (hg:0 <= g):∀ n,0 <= rp s g n
  | 0=>by show (0:Int) <= 1;decide
  | n + 1=>Int.mul_nonneg (rp_nn hs hg n) (Int.add_nonneg hs (Int.mul_nonneg (by omega) hg))
theorem rp_pos {s g:Int} (hs:0 < s) (hg:0 <= g):∀ n,0 < rp s g n
  | 0=>by show (0:Int) < 1;decide
  | n + 1=>Int.mul_pos (rp_pos hs hg n) (by have:=Int.mul_nonneg (show (0:Int) <= (n:Int) by omega) hg;omega)
theorem rp_bd {s g:Int} {m:Nat} (hs:0 <= s) (hs1:s <= 100) (hg:0 <= g) (hg1:g <= 5) (hm:m <= 60):∀ n,n <= m->rp s g n <= 512 ^ n
  | 0,_=>by show (1:Int) <= 512 ^ 0;decide
  | n + 1,h=>by
    have i2:=rp_bd hs hs1 hg hg1 hm n (by omega)
    have hk:(n:Int) * g <= 60 * 5:=Int.mul_le_mul (by omega) hg1 hg (by decide)
    have hk0:0 <= (n:Int) * g:=Int.mul_nonneg (by omega) hg
    show rp s g n * (s + (n:Int) * g) <= 512 ^ (n + 1)
    rw [Int.pow_succ]
    exact Int.mul_le_mul i2 (by omega) (by omega) (Int.pow_nonneg (by decide))
abbrev fct (n:Nat):Int:=rp 1 1 n
theorem fct_pos (n:Nat):0 < fct n:=rp_pos (by decide) (by decide) n
theorem fct_succ (n:Nat):fct (n + 1)=fct n * ((n:Int) + 1):=by
  show rp 1 1 n * (1 + (n:Int) * 1)=_
  rw [Int.mul_one,Int.add_comm]
theorem fct_dvd:∀ n a b:Nat,a + b=n->fct a * fct b ∣ fct n:=by
  intro n
  induction n with
  | zero =>
    intro a b h
    have h1:a=0:=by omega
    have h2:b=0:=by omega
    subst h1 h2
    exact ⟨1,by decide⟩
  | succ n ih =>
    intro a b h
    cases a with
    | zero =>
      have:b=n + 1:=by omega
      subst this
      exact ⟨1,by show fct (n + 1)=1 * fct (n + 1) * 1;rw [Int.one_mul,Int.mul_one]⟩
    | succ a =>
      cases b with
      | zero =>
        have:a + 1=n + 1:=by omega
        rw [this]
        exact ⟨1,by show fct (n + 1)=fct (n + 1) * 1 * 1;rw [Int.mul_one,Int.mul_one]⟩
      | succ b =>
        obtain ⟨u,hu⟩:=ih a (b + 1) (by omega)
        obtain ⟨v,hv⟩:=ih (a + 1) b (by omega)
        refine ⟨u + v,?_⟩
        have e:((n:Int) + 1)=((a:Int) + 1) + ((b:Int) + 1):=by omega
        rw [fct_succ n,e,Int.mul_add]
        have h1:fct n * ((a:Int) + 1)=fct (a + 1) * fct (b + 1) * u:=by
          rw [hu,fct_succ a];grind
        have h2:fct n * ((b:Int) + 1)=fct (a + 1) * fct (b + 1) * v:=by
          rw [hv,fct_succ b];grind
        rw [h1,h2,Int.mul_add]
def fcts:List Nat->Int
  | []=>1
  | c :: cs=>fct c * fcts cs
def tot:List Nat->Nat
  | []=>0
  | c :: cs=>c + tot cs
theorem fcts_pos:∀ cs,0 < fcts cs
  | []=>by show (0:Int) < 1;decide
  | c :: cs=>Int.mul_pos (fct_pos c) (fcts_pos cs)
theorem tot_append:∀ a b,tot (a ++ b)=tot a + tot b
  | [],b=>by show tot b=0 + tot b;omega
  | c :: a,b=>by show c + tot (a ++ b)=c + tot a + tot b;rw [tot_append a b];omega
theorem fcts_dvd:∀ cs,fcts cs ∣ fct (tot cs)
  | []=>⟨1,by decide⟩
  | c :: cs=>by
    obtain ⟨u,hu⟩:=fcts_dvd cs
    obtain ⟨v,hv⟩:=fct_dvd _ c (tot cs) rfl
    refine ⟨u * v,?_⟩
    show fct (c + tot cs)=fct c * fcts cs * (u * v)
    rw [hv,hu];grind
def ords (a:Int):List Nat->Int
  | []=>a
  | c :: cs=>ords (a / fct c) cs
theorem ords_snoc (a:Int) (c:Nat):∀ cs,ords a (cs ++ [c])=ords a cs / fct c:=by
  intro cs
  induction cs generalizing a with
  | nil=>rfl
  | cons d cs ih=>exact ih (a / fct d)
theorem ords_mul:∀ (cs:List Nat) (a:Int),fcts cs ∣ a->ords a cs * fcts cs=a
  | [],a,_=>by show a * 1=a;rw [Int.mul_one]
  | c :: cs,a,h=>by
    obtain ⟨u,hu⟩:=h
    have hc:=fct_pos c
    have e:a / fct c=fcts cs * u:=by
      rw [hu]
      show fct c * fcts cs * u / fct c=_
      rw [Int.mul_assoc,Int.mul_ediv_cancel_left _ (by omega)]
    show ords (a / fct c) cs * (fct c * fcts cs)=a
    have i:=ords_mul cs (a / fct c) ⟨u,e⟩
    have:ords (a / fct c) cs * (fct c * fcts cs)=(ords (a / fct c) cs * fcts cs) * fct c:=by grind
    rw [this,i,e,hu]
    show fcts cs * u * fct c=fct c * fcts cs * u
    grind
theorem ords_bd:∀ (cs:List Nat) (a:Int),0 <= a->0 <= ords a cs/\ords a cs <= a
  | [],a,h=>⟨h,Int.le_refl _⟩
  | c :: cs,a,h=>by
    have h0:0 <= a / fct c:=Int.ediv_nonneg h (Int.le_of_lt (fct_pos c))
    have h1:a / fct c <= a:=Int.ediv_le_self _ h
    obtain ⟨i1,i2⟩:=ords_bd cs (a / fct c) h0
    exact ⟨i1,by show ords (a / fct c) cs <= a;omega⟩
def ordN (cs:List Nat):Int:=ords (fct (tot cs)) cs
theorem ordN_mul (cs:List Nat):ordN cs * fcts cs=fct (tot cs):=ords_mul cs _ (fcts_dvd cs)
def rps (g:Int):List Int->List Nat->Int
  | b :: bs,c :: cs=>rp b g c * rps g bs cs
  | _,_=>1
theorem rps_snoc (g:Int) (b:Int) (c:Nat):∀ {bs:List Int} {cs:List Nat},bs.length=cs.length->rps g (bs ++ [b]) (cs ++ [c])=rps g bs cs * rp b g c
  | [],[],_=>by show rp b g c * 1=1 * rp b g c;rw [Int.mul_one,Int.one_mul]
  | x :: bs,y :: cs,h=>by
    show rp x g y * rps g (bs ++ [b]) (cs ++ [c])=rp x g y * rps g bs cs * rp b g c
    rw [rps_snoc g b c (by simpa using h),Int.mul_assoc]
  | [],_ :: _,h=>by simp at h
  | _ :: _,[],h=>by simp at h
def cch (ns:List Int) (g:Int) (cs:List Nat):Rat:=cut (ordN cs * rps g ns cs) (rp ns.sum g (tot cs))
theorem cut_mul_cut {a b c d:Int} (hb:0 < b) (hd:0 < d):cut a b * cut c d=cut (a * c) (b * d):=by
  unfold cut
  have e:(b * d).toNat=b.toNat * d.toNat:=by
    have e1:b=((b.toNat:Nat):Int):=by omega
    have e2:d=((d.toNat:Nat):Int):=by omega
    rw [e1,e2,<- Int.natCast_mul,Int.toNat_natCast,Int.toNat_natCast,Int.toNat_natCast]
  rw [e,Rat.mkRat_mul_mkRat]
theorem cut_eq {a b c d:Int} (hb:0 < b) (hd:0 < d) (h:a * d=c * b):cut a b=cut c d:=by
  unfold cut
  rw [Rat.mkRat_eq_iff (by omega) (by omega)]
  have e1:((b.toNat:Nat):Int)=b:=by omega
  have e2:((d.toNat:Nat):Int)=d:=by omega
  rw [e1,e2,h]
end Mt
set_option maxHeartbeats 1000000
namespace Mq
open PySem PySem.Spec L2 Mt Md
theorem linD_add (A:DrL) (φ ψ:List Nat->Rat):linD A (fun ds=>φ ds + ψ ds)=linD A φ + linD A ψ:=by
  unfold linD
  induction A with
  | nil=>show (0:Rat)=0 + 0;grind
  | cons e A ih =>
    show e.2.2 * (φ e.1 + ψ e.1) + sumQ (A.map _)=(e.2.2 * φ e.1 + sumQ (A.map _)) + (e.2.2 * ψ e.1 + sumQ (A.map _))
    rw [ih];grind
theorem linD_one {n:Nat} {rs:List (List Int)} {u:List Int} (hR:Rul n 5 rs) (n4:n <= 4) (hu:Urn n 20 u):∀ k:Nat,k <= 6->linD (allD u rs k) (fun _=>1)=1
  | 0,_=>by show (1:Rat) * 1 + 0=1;grind
  | k + 1,hk=>by
    exact (linD_keep (φ:=fun _=>1) (ψ:=fun _=>1) hR n4 hu (by omega) fun _ _ _=>rfl).trans (linD_one hR n4 hu k (by omega))
theorem linD_le {n k:Nat} {rs:List (List Int)} {u:List Int} (hR:Rul n 5 rs) (n4:n <= 4) (hu:Urn n 20 u) (hk:k <= 6) {φ ψ:List Nat->Rat} (h:∀ ds:List Nat,ds.length=k->φ ds <= ψ ds):linD (allD u rs k) φ <= linD (allD u rs k) ψ:=by
  have h1:=linD_sub (allD u rs k) ψ φ
  have h2:=linD_nn (φ:=fun ds=>ψ ds - φ ds) hR n4 hu hk fun ds hl=>by have:=h ds hl;grind
  grind
theorem linD_v1 {n k:Nat} {rs:List (List Int)} {u:List Int} (hR:Rul n 5 rs) (n4:n <= 4) (hu:Urn n 20 u) (hk:k <= 6) {φ:List Nat->Rat} (h:∀ ds:List Nat,φ ds=0 ∨ φ ds=1):Vq (LL ^ k) 1 (linD (allD u rs k) φ):=by
  obtain ⟨a1,_⟩:=allD_ok hR n4 hu k hk
  have hv:Vq (LL ^ k) (1 * ((allD u rs k).map fun e=>e.2.2 * φ e.1).length) (linD (allD u rs k) φ):=by
    unfold linD
    refine sumQ_vq fun x hx=>?_
    obtain ⟨e,he,rfl⟩:=List.mem_map.mp hx
    have o:=a1 e he
    rcases h e.1 with z | z
    · rw [z,show e.2.2 * (0:Rat)=0 by grind];exact Vq.zero _ _
    · rw [z,show e.2.2 * (1:Rat)=e.2.2 by grind];exact o.vq
  refine ⟨hv.nn,?_,hv.dv⟩
  have:=linD_le hR n4 hu hk (φ:=φ) (ψ:=fun _=>1) fun ds _=>by rcases h ds with z | z <;> rw [z] <;> grind
  rw [linD_one hR n4 hu k hk] at this
  grind
theorem Vq.up {N B:Nat} (M:Nat) {x:Rat} (h:Vq N B x):Vq (N * M) B x:=by
  obtain ⟨z,hz⟩:=h.dv
  refine ⟨h.nn,h.le,z * M,?_⟩
  have e1:((N * M:Nat):Rat)=(N:Rat) * (M:Rat):=by push_cast;rfl
  have e2:((z * (M:Int):Int):Rat)=(z:Rat) * (M:Rat):=by push_cast;rfl
  rw [e1,e2,<- hz];grind
theorem Vq.pow {j k B:Nat} {x:Rat} (h:Vq (LL ^ j) B x) (l:j <= k):Vq (LL ^ k) B x:=by
  have:LL ^ k=LL ^ j * LL ^ (k - j):=by rw [<- Nat.pow_add];congr 1;omega
  rw [this];exact h.up _
theorem sumQ_one {kd:Nat} (x:Rat):∀ n:Nat,sumQ ((List.range n).map fun j=>if j=kd then x else 0)=if kd < n then x else 0
  | 0=>rfl
  | n + 1=>by
    rw [List.range_succ,List.map_append,sumQ_append,sumQ_one x n]
    show _ + ((if n=kd then x else 0) + 0)=_
    by_cases h1:kd < n
    · rw [if_pos h1,if_neg (by omega),if_pos (by omega)];grind
    · rw [if_neg h1]
      by_cases h2:n=kd
      · rw [if_pos h2,if_pos (by omega)];grind
      · rw [if_neg h2,if_neg (by omega)];grind
theorem addL_get {a b:List Int} (h:a.length=b.length) (i:Nat):(addL a b).getD i 0=a.getD i 0 + b.getD i 0:=by
  unfold addL
  rw [List.getD_eq_getElem?_getD,List.getD_eq_getElem?_getD,List.getD_eq_getElem?_getD,List.getElem?_zipWith]
  by_cases hi:i < a.length
  · rw [List.getElem?_eq_getElem hi,List.getElem?_eq_getElem (by omega)];rfl
  · rw [List.getElem?_eq_none (by omega),List.getElem?_eq_none (by omega)];rfl
end Mq
namespace Mt
def bnow (g:Int) (ns:List Int) (cs:List Nat):List Int:=List.zipWith (fun b (c:Nat)=>b + g * (c:Int)) ns cs
theorem bnow_sum (g:Int):∀ {ns:List Int} {cs:List Nat},ns.length=cs.length->(bnow g ns cs).sum=ns.sum + g * (tot cs:Int)
  | [],[],_=>by show (0:Int)=0 + g * ((0:Nat):Int);simp
  | b :: ns,c :: cs,h=>by
    have ih:=bnow_sum g (ns:=ns) (cs:=cs) (by simpa using h)
    show ((b + g * (c:Int)) :: bnow g ns cs).sum=(b :: ns).sum + g * ((c + tot cs:Nat):Int)
    rw [List.sum_cons,List.sum_cons,ih,Int.natCast_add,Int.mul_add];omega
  | [],_ :: _,h=>by simp at h
  | _ :: _,[],h=>by simp at h
theorem bnow_len {g:Int} {ns:List Int} {cs:List Nat} (h:ns.length=cs.length):(bnow g ns cs).length=ns.length:=by unfold bnow;rw [List.length_zipWith];omega
theorem bnow_get {g:Int} {ns:List Int} {cs:List Nat} {i:Nat} (h1:i < ns.length) (h2:i < cs.length):(bnow g ns cs)[i]?=some (ns[i] + g * ((cs[i]:Nat):Int)):=by
  unfold bnow;rw [List.getElem?_zipWith,List.getElem?_eq_getElem h1,List.getElem?_eq_getElem h2]
def nsh (g:Int) (ns:List Int) (cs:List Nat):List Rat:=(bnow g ns cs).map fun b=>cut b (ns.sum + g * (tot cs:Int))
def zer (ns:List Int) (cs:List Nat) (k:Nat):Bool:=decide (ns.getD k 0=0) && decide (0 < cs.getD k 0)
theorem rp_zero {b g:Int} (hb:0 <= b) (hg:0 <= g) (c:Nat):rp b g c=0 ↔ b=0/\0 < c:=by
  constructor
  · intro h
    rcases Nat.eq_zero_or_pos c with e | e
    · subst e;exact absurd h (by show ¬ (1:Int)=0;decide)
    · refine ⟨?_,e⟩
      rcases Int.lt_or_eq_of_le hb with l | l
      · have:=rp_pos l hg c;omega
      · exact l.symm
  · rintro ⟨rfl,hc⟩
    induction c with
    | zero=>omega
    | succ c ih =>
      show rp 0 g c * (0 + (c:Int) * g)=0
      rcases Nat.eq_zero_or_pos c with e | e
      · subst e;simp
      · rw [ih e,Int.zero_mul]
theorem rps_zero {g:Int} (hg:0 <= g):∀ {ns:List Int} {cs:List Nat},ns.length=cs.length->(∀ x ∈ ns,0 <= x)->(rps g ns cs=0 ↔ ∃ k,k < ns.length/\zer ns cs k=true)
  | [],[],_,_=>by
    constructor
    · intro h;exact absurd h (by show ¬ (1:Int)=0;decide)
    · rintro ⟨k,hk,_⟩;simp at hk
  | b :: ns,c :: cs,h,hn=>by
    have ih:=rps_zero hg (ns:=ns) (cs:=cs) (by simpa using h) fun x hx=>hn x (List.mem_cons_of_mem _ hx)
    show rp b g c * rps g ns cs=0 ↔ _
    rw [Int.mul_eq_zero,rp_zero (hn b List.mem_cons_self) hg,ih]
    constructor
    · rintro (⟨h1,h2⟩ | ⟨k,hk,z⟩)
      · exact ⟨0,by simp,by unfold zer;simp [h1,h2]⟩
      · exact ⟨k + 1,by simpa using hk,by unfold zer at z ⊢;simpa using z⟩
    · rintro ⟨k,hk,z⟩
      cases k with
      | zero=>left;unfold zer at z;simpa using z
      | succ k=>right;exact ⟨k,by simpa using hk,by unfold zer at z ⊢;simpa using z⟩
  | [],_ :: _,h,_=>by simp at h
  | _ :: _,[],h,_=>by simp at h
theorem ordN_pos (cs:List Nat):0 < ordN cs:=by
  have h:=ordN_mul cs
  have h1:=fct_pos (tot cs)
  have h2:=fcts_pos cs
  have h3:=(ords_bd cs (fct (tot cs)) (Int.le_of_lt h1)).1
  rcases Int.lt_or_eq_of_le (show 0 <= ordN cs from h3) with l | l
  · exact l
  · rw [<- l,Int.zero_mul] at h;omega
theorem cch_zero {g:Int} {ns:List Int} {cs:List Nat} (hg:0 <= g) (hl:ns.length=cs.length) (hn:∀ x ∈ ns,0 <= x) (hp:0 < ns.sum):cch ns g cs=0 ↔ ∃ k,k < ns.length/\zer ns cs k=true:=by
  rw [<- rps_zero hg hl hn]
  unfold cch cut
  have h1:=rp_pos hp hg (tot cs)
  rw [Rat.mkRat_eq_zero (by omega),Int.mul_eq_zero]
  have:=ordN_pos cs
  constructor
  · rintro (h | h)
    · omega
    · exact h
  · exact .inr
end Mt
namespace Mq
open PySem PySem.Spec L2 Mt Md
def incN (c:List Nat) (j:Nat):List Nat:=c.set j (c.getD j 0 + 1)
def decN (c:List Nat) (j:Nat):List Nat:=c.set j (c.getD j 0 - 1)
theorem incN_len (c:List Nat) (j:Nat):(incN c j).length=c.length:=by unfold incN;rw [List.length_set]
theorem decN_len (c:List Nat) (j:Nat):(decN c j).length=c.length:=by unfold decN;rw [List.length_set]
theorem incN_get {c:List Nat} {j i:Nat} (hj:j < c.length):(incN c j).getD i 0=if j=i then c.getD j 0 + 1 else c.getD i 0:=by
  unfold incN
  rw [List.getD_eq_getElem?_getD,List.getElem?_set]
  by_cases h:j=i
  · subst h;rw [if_pos rfl,if_pos rfl,if_pos hj];rfl
  · rw [if_neg h,if_neg h,List.getD_eq_getElem?_getD (i:=i)]
theorem decN_get {c:List Nat} {j i:Nat} (hj:j < c.length):(decN c j).getD i 0=if j=i then c.getD j 0 - 1 else c.getD i 0:=by
  unfold decN
  rw [List.getD_eq_getElem?_getD,List.getElem?_set]
  by_cases h:j=i
  · subst h;rw [if_pos rfl,if_pos rfl,if_pos hj];rfl
  · rw [if_neg h,if_neg h,List.getD_eq_getElem?_getD (i:=i)]
theorem ext_getD {a b:List Nat} (hl:a.length=b.length) (h:∀ i,a.getD i 0=b.getD i 0):a=b:=by
  refine List.ext_getElem hl fun i h1 h2=>?_
  have:=h i
  rw [List.getD_eq_getElem?_getD,List.getD_eq_getElem?_getD,List.getElem?_eq_getElem h1,List.getElem?_eq_getElem h2] at this
  exact this
theorem inc_dec {c:List Nat} {j:Nat} (hj:j < c.length) (h:0 < c.getD j 0):incN (decN c j) j=c:=by
  refine ext_getD (by rw [incN_len,decN_len]) fun i=>?_
  rw [incN_get (by rw [decN_len];exact hj),decN_get hj,decN_get hj,if_pos rfl]
  by_cases e:j=i
  · subst e;rw [if_pos rfl];omega
  · rw [if_neg e,if_neg e]
theorem dec_inc {c:List Nat} {j:Nat} (hj:j < c.length):decN (incN c j) j=c:=by
  refine ext_getD (by rw [decN_len,incN_len]) fun i=>?_
  rw [decN_get (by rw [incN_len];exact hj),incN_get hj,incN_get hj,if_pos rfl]
  by_cases e:j=i
  · subst e;rw [if_pos rfl];omega
  · rw [if_neg e,if_neg e]
theorem tot_inc:∀ {c:List Nat} {j:Nat},j < c.length->tot (incN c j)=tot c + 1
  | x :: c,0,_=>by show (x + 1) + tot c=x + tot c + 1;omega
  | x :: c,j + 1,h=>by
    have:=tot_inc (c:=c) (j:=j) (by simpa using h)
    show x + tot (incN c j)=x + tot c + 1
    omega
theorem fcts_inc:∀ {c:List Nat} {j:Nat},j < c.length->fcts (incN c j)=fcts c * (((c.getD j 0:Nat):Int) + 1)
  | x :: c,0,_=>by
    show fct (x + 1) * fcts c=fct x * fcts c * ((x:Int) + 1)
    rw [fct_succ];grind
  | x :: c,j + 1,h=>by
    have:=fcts_inc (c:=c) (j:=j) (by simpa using h)
    show fct x * fcts (incN c j)=fct x * fcts c * (((c.getD j 0:Nat):Int) + 1)
    rw [this];grind
theorem rps_inc (g:Int):∀ {b:List Int} {c:List Nat} {j:Nat},j < c.length->b.length=c.length->rps g b (incN c j)=rps g b c * (b.getD j 0 + ((c.getD j 0:Nat):Int) * g)
  | y :: b,x :: c,0,_,_=>by
    show rp y g x * (y + (x:Int) * g) * rps g b c=rp y g x * rps g b c * (y + (x:Int) * g)
    grind
  | y :: b,x :: c,j + 1,h,hl=>by
    have:=rps_inc g (b:=b) (c:=c) (j:=j) (by simpa using h) (by simpa using hl)
    show rp y g x * rps g b (incN c j)=rp y g x * rps g b c * (b.getD j 0 + ((c.getD j 0:Nat):Int) * g)
    rw [this];grind
  | [],x :: c,_,_,hl=>by simp at hl
  | _,[],_,h,_=>by simp at h
theorem ordN_inc {c:List Nat} {j:Nat} (hj:j < c.length):ordN (incN c j) * (((c.getD j 0:Nat):Int) + 1)=ordN c * ((tot c:Int) + 1):=by
  have h1:=ordN_mul (incN c j)
  have h2:=ordN_mul c
  rw [fcts_inc hj,tot_inc hj,fct_succ,<- h2] at h1
  have h3:=fcts_pos c
  refine Int.eq_of_mul_eq_mul_right (a:=fcts c) (by omega) ?_
  grind
theorem cch_inc {ns:List Int} {g:Int} {c:List Nat} {j:Nat} (hp:0 < ns.sum) (hg:0 <= g) (hl:ns.length=c.length) (hj:j < c.length) :
    cch ns g c * cut (ns.getD j 0 + g * ((c.getD j 0:Nat):Int)) (ns.sum + g * (tot c:Int))=cch ns g (incN c j) * cut (((c.getD j 0:Nat):Int) + 1) ((tot c:Int) + 1):=by
  unfold cch
  have p1:=rp_pos hp hg (tot c)
  have p2:0 < ns.sum + g * (tot c:Int):=by have:=Int.mul_nonneg hg (show (0:Int) <= (tot c:Int) by omega);omega
  have e1:rp ns.sum g (tot (incN c j))=rp ns.sum g (tot c) * (ns.sum + g * (tot c:Int)):=by
    rw [tot_inc hj]
    show rp ns.sum g (tot c) * (ns.sum + (tot c:Int) * g)=_
    rw [Int.mul_comm g]
  have p3:0 < rp ns.sum g (tot (incN c j)):=by rw [e1];exact Int.mul_pos p1 p2
  rw [cut_mul_cut p1 p2,cut_mul_cut p3 (by omega)]
  refine cut_eq (Int.mul_pos p1 p2) (Int.mul_pos p3 (by omega)) ?_
  rw [e1,rps_inc g hj hl,Int.mul_comm ((c.getD j 0:Nat):Int) g]
  have h:=ordN_inc hj
  generalize ordN (incN c j)=O' at h ⊢
  generalize ordN c=O at h ⊢
  generalize rps g ns c=R
  generalize rp ns.sum g (tot c)=r
  generalize ns.getD j 0 + g * ((c.getD j 0:Nat):Int)=x
  generalize ns.sum + g * (tot c:Int)=y
  generalize ((c.getD j 0:Nat):Int) + 1=z at h ⊢
  generalize (tot c:Int) + 1=t at h ⊢
  calc O * R * x * (r * y * t)=O * t * (R * x * r * y):=by grind
    _=O' * z * (R * x * r * y):=by rw [h]
    _=O' * (R * x) * z * (r * y):=by grind
theorem bnow_getD {g:Int} {ns:List Int} {c:List Nat} {j:Nat} (hl:ns.length=c.length) (hj:j < c.length):(bnow g ns c).getD j 0=ns.getD j 0 + g * ((c.getD j 0:Nat):Int):=by
  rw [List.getD_eq_getElem?_getD,bnow_get (by omega) hj,List.getD_eq_getElem?_getD,List.getD_eq_getElem?_getD,List.getElem?_eq_getElem hj,List.getElem?_eq_getElem (by omega)];rfl
theorem cch_dec {ns:List Int} {g:Int} {c:List Nat} {j:Nat} (hp:0 < ns.sum) (hg:0 <= g) (hl:ns.length=c.length) (hj:j < c.length) (h0:0 < c.getD j 0) :
    cch ns g (decN c j) * share (bnow g ns (decN c j)) j=cch ns g c * cut ((c.getD j 0:Nat):Int) (tot c:Int):=by
  have hd:j < (decN c j).length:=by rw [decN_len];exact hj
  have h:=cch_inc (c:=decN c j) hp hg (by rw [decN_len];exact hl) hd
  rw [inc_dec hj h0] at h
  have t1:=tot_inc hd
  rw [inc_dec hj h0] at t1
  unfold share
  rw [bnow_getD (by rw [decN_len];exact hl) hd,bnow_sum g (by rw [decN_len];exact hl),h]
  congr 2
  · rw [decN_get hj,if_pos rfl];omega
  · omega
def parts (ns:List Int) (g:Int) (c:List Nat) (j:Nat):Rat:=if 0 < c.getD j 0 then cch ns g (decN c j) * share (bnow g ns (decN c j)) j else 0
theorem tot_take_succ:∀ {c:List Nat} {i:Nat},i < c.length->tot (c.take (i + 1))=tot (c.take i) + c.getD i 0:=fun {c i} h=>by
  rw [List.take_add_one,List.getElem?_eq_getElem h,tot_append,List.getD_eq_getElem?_getD,List.getElem?_eq_getElem h]
  show _ + (c[i] + 0)=_ + c[i]
  omega
theorem parts_sum {ns:List Int} {g:Int} {c:List Nat} (hp:0 < ns.sum) (hg:0 <= g) (hl:ns.length=c.length) (ht:0 < tot c):∀ i,i <= c.length->sumQ ((List.range i).map (parts ns g c))=cch ns g c * cut ((tot (c.take i):Nat):Int) (tot c:Int)
  | 0,_=>by
    show (0:Rat)=cch ns g c * cut ((0:Nat):Int) _
    rw [show (((0:Nat):Int))=0 from rfl,cut_zero'];grind
  | i + 1,h=>by
    rw [List.range_succ,List.map_append,sumQ_append,parts_sum hp hg hl ht i (by omega),tot_take_succ (by omega)]
    show _ + (parts ns g c i + 0)=_
    have e:parts ns g c i=cch ns g c * cut ((c.getD i 0:Nat):Int) (tot c:Int):=by
      unfold parts
      by_cases h0:0 < c.getD i 0
      · rw [if_pos h0,cch_dec hp hg hl (by omega) h0]
      · rw [if_neg h0,show c.getD i 0=0 by omega,show (((0:Nat):Int))=0 from rfl,cut_zero'];grind
    have e2:=cut_add_same (a:=((tot (c.take i):Nat):Int)) (b:=((c.getD i 0:Nat):Int)) (c:=(tot c:Int)) (by omega)
    rw [e,show (((tot (c.take i) + c.getD i 0:Nat):Int))=((tot (c.take i):Nat):Int) + ((c.getD i 0:Nat):Int) by omega,<- e2]
    grind
theorem parts_all {ns:List Int} {g:Int} {c:List Nat} (hp:0 < ns.sum) (hg:0 <= g) (hl:ns.length=c.length) (ht:0 < tot c):sumQ ((List.range c.length).map (parts ns g c))=cch ns g c:=by
  rw [parts_sum hp hg hl ht _ (Nat.le_refl _),List.take_length,cut_self (by omega)];grind
def cntN (n:Nat) (ds:List Nat):List Nat:=(List.range n).map fun j=>ds.count j
theorem cntN_len (n:Nat) (ds:List Nat):(cntN n ds).length=n:=by unfold cntN;rw [List.length_map,List.length_range]
theorem cntN_get {n j:Nat} (ds:List Nat) (h:j < n):(cntN n ds).getD j 0=ds.count j:=by
  unfold cntN
  rw [List.getD_eq_getElem?_getD,List.getElem?_map,List.getElem?_range h];rfl
theorem cntN_snoc {n j:Nat} (ds:List Nat) (hj:j < n):cntN n (ds ++ [j])=incN (cntN n ds) j:=by
  refine ext_getD (by rw [incN_len,cntN_len,cntN_len]) fun i=>?_
  rw [incN_get (by rw [cntN_len];exact hj),cntN_get ds hj]
  by_cases hi:i < n
  · rw [cntN_get _ hi,cntN_get _ hi,List.count_append]
    by_cases e:j=i
    · subst e;rw [if_pos rfl];simp
    · rw [if_neg e]
      have:List.count i [j]=0:=by rw [List.count_eq_zero];simp;exact fun z=>e z.symm
      omega
  · rw [if_neg (by omega)]
    have z:∀ x:List Nat,(cntN n x).getD i 0=0:=fun x=>by rw [List.getD_eq_getElem?_getD,List.getElem?_eq_none (by rw [cntN_len];omega)];rfl
    rw [z,z]
theorem alo_urn {n:Nat} {g:Int} {u:List Int} (h0:0 <= g) (h5:g <= 5) (n4:n <= 4) (hu:Urn n 20 u):∀ k:Nat,k <= 6->∀ e ∈ allD u (alo n g) k,e.2.1=bnow g u (cntN n e.1)
  | 0,_,e,he=>by
    rw [List.mem_singleton.mp he]
    show u=bnow g u (cntN n [])
    refine List.ext_getElem (by rw [bnow_len (by rw [cntN_len];exact hu.len)]) fun i h1 h2=>?_
    have hi:i < n:=by rw [<- hu.len];exact h1
    have:=bnow_get (g:=g) (ns:=u) (cs:=cntN n []) h1 (by rw [cntN_len];exact hi)
    rw [List.getElem?_eq_getElem h2] at this
    injection this with this
    rw [this]
    have:(cntN n [])[i]'(by rw [cntN_len];exact hi)=0:=by unfold cntN;simp
    rw [this];simp
  | k + 1,hk,e,he=>by
    obtain ⟨e0,h0',h1⟩:=List.mem_flatMap.mp (show e ∈ (allD u (alo n g) k).flatMap _ from he)
    obtain ⟨j,hj,ej⟩:=List.mem_map.mp h1
    obtain ⟨hj1,hj2⟩:=kinU_mem.mp hj
    rw [hu.len] at hj1
    subst ej
    have ih:=alo_urn h0 h5 n4 hu k (by omega) e0 h0'
    have o:=(allD_ok (alo_rul h0 h5) n4 hu k (by omega)).1 e0 h0'
    show addL e0.2.1 ((alo n g).getD j [])=bnow g u (cntN n (e0.1 ++ [j]))
    have hul:=hu.len
    have hc:u.length=(cntN n e0.1).length:=by rw [cntN_len];exact hul
    have hc2:u.length=(cntN n (e0.1 ++ [j])).length:=by rw [cntN_len];exact hul
    have hrl:(aloR n g j).length=n:=by unfold aloR;rw [List.length_map,List.length_range]
    rw [alo_get hj1]
    have hL:e0.2.1.length=(aloR n g j).length:=by rw [o.ok.len,hrl]
    have hlen:(addL e0.2.1 (aloR n g j)).length=n:=by unfold addL;rw [List.length_zipWith,o.ok.len,hrl];omega
    refine List.ext_getElem (by rw [hlen,bnow_len hc2,hul]) fun i h1 h2=>?_
    have hi:i < n:=by rw [<- hlen];exact h1
    have g1:=addL_get hL i
    have g2:=bnow_getD (g:=g) hc2 (j:=i) (by rw [cntN_len];exact hi)
    rw [List.getD_eq_getElem?_getD,List.getElem?_eq_getElem h1] at g1
    rw [List.getD_eq_getElem?_getD,List.getElem?_eq_getElem h2] at g2
    have g1':(addL e0.2.1 (aloR n g j))[i]=e0.2.1.getD i 0 + (aloR n g j).getD i 0:=g1
    have g2':(bnow g u (cntN n (e0.1 ++ [j])))[i]=u.getD i 0 + g * (((cntN n (e0.1 ++ [j])).getD i 0:Nat):Int):=g2
    rw [g1',g2',ih,bnow_getD hc (by rw [cntN_len];exact hi),aloR_get hi,cntN_snoc _ hj1,incN_get (by rw [cntN_len];exact hj1)]
    by_cases e:j=i
    · subst e
      rw [if_pos rfl,if_pos rfl]
      rw [show (((cntN n e0.1).getD j 0 + 1:Nat):Int)=(((cntN n e0.1).getD j 0:Nat):Int) + 1 by omega]
      grind
    · rw [if_neg e,if_neg e];grind
def iC (n:Nat) (c:List Nat) (ds:List Nat):Rat:=if cntN n ds=c then 1 else 0
theorem iC_snoc {n j:Nat} {c:List Nat} (hc:c.length=n) (hj:j < n) (ds:List Nat):iC n c (ds ++ [j])=if 0 < c.getD j 0 then iC n (decN c j) ds else 0:=by
  unfold iC
  rw [cntN_snoc ds hj]
  have hl:=cntN_len n ds
  by_cases h0:0 < c.getD j 0
  · rw [if_pos h0]
    by_cases h:cntN n ds=decN c j
    · rw [if_pos h,h,inc_dec (by omega) h0,if_pos rfl]
    · rw [if_neg h,if_neg]
      intro z
      refine h ?_
      rw [<- z,dec_inc (by omega)]
  · rw [if_neg h0,if_neg]
    intro z
    have:=incN_get (c:=cntN n ds) (j:=j) (i:=j) (by omega)
    rw [z,if_pos rfl] at this
    omega
theorem linD_zero (A:DrL):linD A (fun _=>0)=0:=by
  have h1:=linD_sub A (fun _=>1) (fun _=>1)
  have h2:(fun _:List Nat=>(1:Rat) - 1)=fun _=>0:=by funext _;grind
  rw [h2] at h1
  rw [h1];grind
theorem linD_sum (A:DrL) (F:Nat->List Nat->Rat):∀ l:List Nat,linD A (fun ds=>sumQ (l.map fun j=>F j ds))=sumQ (l.map fun j=>linD A (F j))
  | []=>linD_zero A
  | j :: l=>by
    show linD A (fun ds=>F j ds + sumQ (l.map fun j=>F j ds))=linD A (F j) + sumQ (l.map fun j=>linD A (F j))
    rw [linD_add,linD_sum A F l]
theorem linD_mul (A:DrL) (x:Rat) (φ:List Nat->Rat):linD A (fun ds=>x * φ ds)=x * linD A φ:=by
  unfold linD
  rw [sumQ_mulL,List.map_map]
  refine sumQ_congr fun e _=>?_
  show e.2.2 * (x * φ e.1)=x * (e.2.2 * φ e.1)
  grind
theorem tot_zero:∀ {c:List Nat},tot c=0->c=List.replicate c.length 0
  | [],_=>rfl
  | x :: c,h=>by
    have h':x + tot c=0:=h
    have:=tot_zero (c:=c) (by omega)
    rw [List.length_cons,List.replicate_succ,<- this,show x=0 by omega]
theorem cch_none (ns:List Int) (g:Int) (n:Nat):cch ns g (List.replicate n 0)=1:=by
  have ht:tot (List.replicate n 0)=0:=by
    induction n with
    | zero=>rfl
    | succ n ih=>rw [List.replicate_succ];show 0 + tot (List.replicate n 0)=0;omega
  have hf:fcts (List.replicate n 0)=1:=by
    clear ht
    induction n with
    | zero=>rfl
    | succ n ih=>rw [List.replicate_succ];show 1 * fcts (List.replicate n 0)=1;rw [ih];rfl
  have hr:rps g ns (List.replicate n 0)=1:=by
    clear ht hf
    induction n generalizing ns with
    | zero=>cases ns <;> rfl
    | succ n ih =>
      rw [List.replicate_succ]
      cases ns with
      | nil=>rfl
      | cons b ns=>show 1 * rps g ns (List.replicate n 0)=1;rw [ih];rfl
  have ho:=ordN_mul (List.replicate n 0)
  rw [hf,ht,Int.mul_one] at ho
  unfold cch
  rw [ho,hr,ht]
  exact cut_self (by decide)
theorem alo_ch {n:Nat} {g:Int} {u:List Int} (h0:0 <= g) (h5:g <= 5) (n4:n <= 4) (hu:Urn n 20 u):∀ k:Nat,k <= 6->∀ c:List Nat,c.length=n->tot c=k->linD (allD u (alo n g) k) (iC n c)=cch u g c
  | 0,_,c,hc,ht=>by
    have e:=tot_zero ht
    rw [hc] at e
    rw [e,cch_none]
    show 1 * iC n (List.replicate n 0) [] + 0=1
    have:cntN n []=List.replicate n 0:=by
      unfold cntN
      refine List.ext_getElem (by simp) fun i h1 h2=>by simp
    unfold iC
    rw [if_pos this];grind
  | k + 1,hk,c,hc,ht=>by
    have hR:=alo_rul (n:=n) h0 h5
    obtain ⟨a1,_⟩:=allD_ok hR n4 hu k (by omega)
    rw [linD_step]
    have e1:sumQ ((allD u (alo n g) k).map fun e=>e.2.2 * sumQ ((List.range u.length).map fun j=>if 0 < e.2.1.getD j 0 then share e.2.1 j * iC n c (e.1 ++ [j]) else 0))
       =linD (allD u (alo n g) k) (fun ds=>sumQ ((List.range n).map fun j=>(if 0 < c.getD j 0 then share (bnow g u (decN c j)) j else 0) * iC n (decN c j) ds)):=by
      unfold linD
      refine sumQ_congr fun e he=>?_
      have o:=a1 e he
      have hurn:=alo_urn h0 h5 n4 hu k (by omega) e he
      rw [hu.len]
      congr 1
      refine sumQ_congr fun j hj=>?_
      have hjn:=List.mem_range.mp hj
      rw [iC_snoc hc hjn]
      by_cases hc0:0 < c.getD j 0
      · rw [if_pos hc0,if_pos hc0]
        unfold iC
        by_cases hd:cntN n e.1=decN c j
        · rw [if_pos hd,<- hd,<- hurn]
          by_cases he0:0 < e.2.1.getD j 0
          · rw [if_pos he0]
          · rw [if_neg he0]
            have:e.2.1.getD j 0=0:=by have:=(o.ok.getD j).1;omega
            unfold share
            rw [this,cut_zero'];grind
        · rw [if_neg hd]
          split <;> grind
      · rw [if_neg hc0,if_neg hc0]
        split <;> grind
    rw [e1,linD_sum (allD u (alo n g) k) (fun j ds=>(if 0 < c.getD j 0 then share (bnow g u (decN c j)) j else 0) * iC n (decN c j) ds)]
    have e2:sumQ ((List.range n).map fun j=>linD (allD u (alo n g) k) (fun ds=>(if 0 < c.getD j 0 then share (bnow g u (decN c j)) j else 0) * iC n (decN c j) ds))=sumQ ((List.range n).map (parts u g c)):=by
      refine sumQ_congr fun j hj=>?_
      have hjn:=List.mem_range.mp hj
      rw [linD_mul]
      unfold parts
      by_cases hc0:0 < c.getD j 0
      · rw [if_pos hc0,if_pos hc0]
        have t1:=tot_inc (c:=decN c j) (j:=j) (by rw [decN_len];omega)
        rw [inc_dec (by omega) hc0] at t1
        rw [alo_ch h0 h5 n4 hu k (by omega) (decN c j) (by rw [decN_len];exact hc) (by omega)]
        grind
      · rw [if_neg hc0,if_neg hc0];grind
    rw [e2,<- hc]
    exact parts_all hu.pos h0 (by rw [hu.len,hc]) (by omega)
end Mq
namespace Mq
open PySem PySem.Spec L2 Mt Md
def cL (m:Nat):Nat->List (List Nat)
  | 0=>[[]]
  | i + 1=>(cL m i).flatMap fun s=>(List.range (m - tot s + 1)).map fun y=>s ++ [y]
def cF (m n:Nat):List (List Nat):=(cL m n).filter fun s=>decide (tot s=m)
theorem tot_snoc (s:List Nat) (y:Nat):tot (s ++ [y])=tot s + y:=by
  rw [tot_append]
  show tot s + (y + 0)=_
  omega
theorem cL_mem {m:Nat}:∀ {i:Nat} {s:List Nat},s ∈ cL m i->s.length=i/\tot s <= m
  | 0,s,h=>by rw [List.mem_singleton.mp h];exact ⟨rfl,Nat.zero_le _⟩
  | i + 1,s,h=>by
    obtain ⟨s0,h0,h1⟩:=List.mem_flatMap.mp (show s ∈ (cL m i).flatMap _ from h)
    obtain ⟨y,hy,e⟩:=List.mem_map.mp h1
    obtain ⟨a,b⟩:=cL_mem h0
    have:=List.mem_range.mp hy
    subst e
    refine ⟨by rw [List.length_append,a];rfl,?_⟩
    rw [tot_snoc];omega
theorem cL_len (m:Nat):∀ i:Nat,(cL m i).length <= (m + 1) ^ i
  | 0=>Nat.le_refl _
  | i + 1=>by
    show ((cL m i).flatMap _).length <= _
    rw [List.length_flatMap]
    have:∀ A:List (List Nat),(A.map fun s=>((List.range (m - tot s + 1)).map fun y=>s ++ [y]).length).sum <= (m + 1) * A.length:=by
      intro A
      induction A with
      | nil=>simp
      | cons s A ih =>
        rw [List.map_cons,List.sum_cons,List.length_cons,Nat.mul_add,Nat.mul_one,List.length_map,List.length_range]
        omega
    refine Nat.le_trans (this _) ?_
    rw [Nat.pow_succ,Nat.mul_comm]
    exact Nat.mul_le_mul_right _ (cL_len m i)
theorem sumQ_ind:∀ (r x:Nat),sumQ ((List.range r).map fun y=>if y=x then (1:Rat) else 0)=if x < r then 1 else 0:=fun r x=>sumQ_one 1 r
theorem cL_one {m:Nat}:∀ {i:Nat} {v:List Nat},v.length=i->tot v <= m->sumQ ((cL m i).map fun s=>if s=v then (1:Rat) else 0)=1
  | 0,v,h,_=>by
    have:v=[]:=List.length_eq_zero_iff.mp h
    subst this
    show (if ([]:List Nat)=[] then (1:Rat) else 0) + 0=1
    rw [if_pos rfl];grind
  | i + 1,v,h,ht=>by
    have hne:v ≠ []:=fun z=>by rw [z] at h;simp at h
    have hv:v=v.dropLast ++ [v.getLast hne]:=(List.dropLast_concat_getLast hne).symm
    generalize v.dropLast=v0 at hv
    generalize v.getLast hne=x at hv
    subst hv
    rw [tot_snoc] at ht
    have hl:v0.length=i:=by simpa using h
    show sumQ (((cL m i).flatMap _).map _)=1
    refine Eq.trans (sumQ_flatMap _ _ _) (Eq.trans (sumQ_congr fun s hs=>?_) (cL_one (m:=m) hl (by omega)))
    rw [List.map_map]
    by_cases e:s=v0
    · rw [if_pos e]
      have:sumQ ((List.range (m - tot s + 1)).map ((fun t=>if t=v0 ++ [x] then (1:Rat) else 0) ∘ fun y=>s ++ [y]))=sumQ ((List.range (m - tot s + 1)).map fun y=>if y=x then (1:Rat) else 0):=by
        refine sumQ_congr fun y _=>?_
        show (if s ++ [y]=v0 ++ [x] then (1:Rat) else 0)=_
        by_cases ey:y=x
        · rw [if_pos ey,if_pos (by rw [e,ey])]
        · rw [if_neg ey,if_neg]
          intro z
          rw [e] at z
          have:=List.append_cancel_left z
          simp at this
          exact ey this
      rw [this,sumQ_ind,if_pos (by rw [e];omega)]
    · rw [if_neg e]
      have:sumQ ((List.range (m - tot s + 1)).map ((fun t=>if t=v0 ++ [x] then (1:Rat) else 0) ∘ fun y=>s ++ [y]))=sumQ ((List.range (m - tot s + 1)).map fun _=>(0:Rat)):=by
        refine sumQ_congr fun y _=>?_
        show (if s ++ [y]=v0 ++ [x] then (1:Rat) else 0)=_
        rw [if_neg]
        intro z
        have h2:=congrArg List.dropLast z
        rw [List.dropLast_concat,List.dropLast_concat] at h2
        exact e h2
      rw [this]
      have zz:∀ l:List Nat,sumQ (l.map fun _=>(0:Rat))=0:=by
        intro l
        induction l with
        | nil=>rfl
        | cons a l ih=>show 0 + sumQ (l.map _)=0;rw [ih];grind
      exact zz _
theorem linD_sumL {α:Type} (A:DrL) (F:α->List Nat->Rat):∀ l:List α,linD A (fun ds=>sumQ (l.map fun j=>F j ds))=sumQ (l.map fun j=>linD A (F j))
  | []=>linD_zero A
  | j :: l=>by
    show linD A (fun ds=>F j ds + sumQ (l.map fun j=>F j ds))=linD A (F j) + sumQ (l.map fun j=>linD A (F j))
    rw [linD_add,linD_sumL A F l]
theorem tot_cntN {n:Nat}:∀ l:List Nat,(∀ j ∈ l,j < n)->tot (cntN n l.reverse)=l.length
  | [],_=>by
    have:cntN n []=List.replicate n 0:=by
      unfold cntN
      refine List.ext_getElem (by simp) fun i h1 h2=>by simp
    rw [List.reverse_nil,this]
    clear this
    induction n with
    | zero=>rfl
    | succ n ih=>rw [List.replicate_succ];show 0 + tot (List.replicate n 0)=0;simp at ih;omega
  | a :: l,h=>by
    have ha:=h a List.mem_cons_self
    rw [List.reverse_cons,cntN_snoc _ ha,tot_inc (by rw [cntN_len];exact ha),tot_cntN l fun j hj=>h j (List.mem_cons_of_mem _ hj)]
    rfl
theorem tot_cnt {n:Nat} {ds:List Nat} (h:∀ j ∈ ds,j < n):tot (cntN n ds)=ds.length:=by
  have:=tot_cntN (n:=n) ds.reverse fun j hj=>h j (List.mem_reverse.mp hj)
  rw [List.reverse_reverse,List.length_reverse] at this
  exact this
theorem sumQ_filterL {α:Type} (p:α->Bool) (f:α->Rat):∀ l:List α,sumQ ((l.filter p).map f)=sumQ (l.map fun j=>if p j=true then f j else 0)
  | []=>rfl
  | a :: l=>by
    rw [List.filter_cons,List.map_cons]
    show _=(if p a=true then f a else 0) + sumQ (l.map _)
    rw [<- sumQ_filterL p f l]
    split
    · rfl
    · grind
theorem cF_mem {m n:Nat} {c:List Nat} (h:c ∈ cF m n):c.length=n/\tot c=m:=by
  unfold cF at h
  obtain ⟨a,b⟩:=List.mem_filter.mp h
  exact ⟨(cL_mem a).1,of_decide_eq_true b⟩
theorem cF_all {n m:Nat} {g:Int} {u:List Int} (h0:0 <= g) (h5:g <= 5) (n4:n <= 4) (hu:Urn n 20 u) (hm:m <= 6):sumQ ((cF m n).map (cch u g))=1:=by
  have hR:=alo_rul (n:=n) h0 h5
  have e1:sumQ ((cF m n).map (cch u g))=sumQ ((cF m n).map fun c=>linD (allD u (alo n g) m) (iC n c)):=sumQ_congr fun c hc=>by
    obtain ⟨a,b⟩:=cF_mem hc
    rw [alo_ch h0 h5 n4 hu m hm c a b]
  rw [e1,<- linD_sumL,<- linD_one hR n4 hu m hm]
  refine linD_congr hR n4 hu hm fun ds hl hlt=>?_
  have ht:=tot_cnt hlt
  unfold cF
  refine Eq.trans (sumQ_filterL _ _ _) (Eq.trans (sumQ_congr fun s _=>?_) (cL_one (m:=m) (cntN_len n ds) (by omega)))
  show (if decide (tot s=m)=true then (if cntN n ds=s then (1:Rat) else 0) else 0)=if s=cntN n ds then 1 else 0
  by_cases h:cntN n ds=s
  · rw [if_pos h,if_pos h.symm,if_pos (decide_eq_true (by rw [<- h,ht,hl]))]
  · have h':¬ s=cntN n ds:=fun z=>h z.symm
    rw [if_neg h,if_neg h']
    split <;> rfl
theorem cch_v1 {n:Nat} {g:Int} {u:List Int} {c:List Nat} (h0:0 <= g) (h5:g <= 5) (n4:n <= 4) (hu:Urn n 20 u) (hc:c.length=n) (ht:tot c <= 6):Vq (LL ^ 6) 1 (cch u g c):=by
  rw [<- alo_ch h0 h5 n4 hu (tot c) ht c hc rfl]
  refine (linD_v1 (alo_rul h0 h5) n4 hu ht fun ds=>?_).pow ht
  unfold iC
  split
  · exact .inr rfl
  · exact .inl rfl
def cI (c:List Nat):List Int:=c.map fun (k:Nat)=>(k:Int)
theorem cI_get (c:List Nat) (j:Nat):(cI c).getD j 0=((c.getD j 0:Nat):Int):=by
  unfold cI
  rw [List.getD_eq_getElem?_getD,List.getD_eq_getElem?_getD,List.getElem?_map]
  cases c[j]? <;> rfl
theorem cI_inc (c:List Nat) (j:Nat):inc (cI c) j=cI (incN c j):=by
  unfold inc incN
  rw [cI_get]
  unfold cI
  rw [List.map_set];rfl
theorem cI_cnt (n:Nat) (ds:List Nat):cntD n ds=cI (cntN n ds):=by
  unfold cntD cI cntN
  rw [List.map_map];rfl
theorem cI_inj {a b:List Nat} (h:cI a=cI b):a=b:=by
  unfold cI at h
  exact (List.map_inj_right fun x y e=>by omega).mp h
theorem key_add {D:TabQ} {k x:List Int} {r:Rat} (h:x=k ∨ x ∈ D.map (·.1)):x ∈ (addQ D k r).map (·.1):=by
  induction D with
  | nil =>
    rcases h with h | h
    · rw [h];exact List.mem_singleton.mpr rfl
    · cases h
  | cons p D ih =>
    unfold addQ
    split
    · rename_i e
      rcases h with h | h
      · rw [h]
        exact List.mem_cons.mpr (.inl (by first | rfl | exact e.symm | exact e))
      · rcases List.mem_cons.mp h with h | h
        · exact List.mem_cons.mpr (.inl (by first | exact h | (rw [h];exact e) | (rw [h,e])))
        · exact List.mem_cons.mpr (.inr h)
    · rcases h with h | h
      · exact List.mem_cons.mpr (.inr (ih (.inl h)))
      · rcases List.mem_cons.mp h with h | h
        · exact List.mem_cons.mpr (.inl h)
        · exact List.mem_cons.mpr (.inr (ih (.inr h)))
theorem key_puts {x:List Int} {r:Rat} {s:Int}:∀ {bs:List (Int × List Int)} {D:TabQ},((∃ b ∈ bs,b.2=x) ∨ x ∈ D.map (·.1))->x ∈ (putsQ r s bs D).map (·.1)
  | [],D,h=>by
    rcases h with ⟨b,hb,_⟩ | h
    · cases hb
    · exact h
  | b :: bs,D,h=>by
    unfold putsQ
    refine key_puts (bs:=bs) ?_
    rcases h with ⟨c,hc,e⟩ | h
    · rcases List.mem_cons.mp hc with z | z
      · exact .inr (key_add (.inl (by rw [<- e,z])))
      · exact .inl ⟨c,z,e⟩
    · exact .inr (key_add (.inr h))
theorem key_next {u:List Int} {rs:List (List Int)} {g x:List Int}:∀ {T D:TabQ},((∃ p ∈ T,∃ b ∈ cbo u rs g p.1 u.length,b.2=x) ∨ x ∈ D.map (·.1))->x ∈ (nextCL u rs g T D).map (·.1)
  | [],D,h=>by
    rcases h with ⟨p,hp,_⟩ | h
    · cases hp
    · exact h
  | q :: T,D,h=>by
    unfold nextCL
    refine key_next (T:=T) ?_
    rcases h with ⟨p,hp,b,hb,e⟩ | h
    · rcases List.mem_cons.mp hp with z | z
      · exact .inr (key_puts (.inl ⟨b,by rw [<- z];exact hb,e⟩))
      · exact .inl ⟨p,z,b,hb,e⟩
    · exact .inr (key_puts (.inr h))
theorem cb_key {n:Nat} {rs:List (List Int)} {u g:List Int} (hu:u.length=n):∀ (k:Nat) (c:List Nat),c.length=n->tot c=k->(∀ j,((c.getD j 0:Nat):Int) <= g.getD j 0)->cI c ∈ (cbQ u rs g k).map (·.1)
  | 0,c,hc,ht,_=>by
    have e:=tot_zero ht
    rw [hc] at e
    rw [e]
    show _ ∈ [List.replicate u.length 0]
    rw [hu]
    refine List.mem_singleton.mpr ?_
    unfold cI
    rw [List.map_replicate];rfl
  | k + 1,c,hc,ht,hg=>by
    have ex:∀ l:List Nat,0 < tot l->∃ j,j < l.length/\0 < l.getD j 0:=by
      intro l
      induction l with
      | nil=>intro h;exact absurd h (Nat.lt_irrefl 0)
      | cons a l ih =>
        intro h
        have h':0 < a + tot l:=h
        by_cases ha:0 < a
        · exact ⟨0,by simp,ha⟩
        · obtain ⟨j,hj,h0⟩:=ih (by omega)
          exact ⟨j + 1,by simpa using hj,by simpa using h0⟩
    obtain ⟨j,hj,h0⟩:=ex c (by omega)
    have t1:=tot_inc (c:=decN c j) (j:=j) (by rw [decN_len];exact hj)
    rw [inc_dec hj h0] at t1
    have ih:=cb_key (rs:=rs) (g:=g) hu k (decN c j) (by rw [decN_len];exact hc) (by omega) fun i=>by
      have:=hg i
      rw [decN_get hj]
      split
      · rename_i e;subst e;omega
      · exact this
    obtain ⟨p,hp,e⟩:=List.mem_map.mp ih
    show cI c ∈ (nextCL u rs g (cbQ u rs g k) []).map (·.1)
    refine key_next (.inl ⟨p,hp,((beh u rs p.1).getD j 0,inc p.1 j),?_,?_⟩)
    · unfold cbo kinG
      refine List.mem_map.mpr ⟨j,List.mem_filter.mpr ⟨List.mem_range.mpr (by omega),decide_eq_true ?_⟩,rfl⟩
      have:=hg j
      rw [e,cI_get,decN_get hj,if_pos rfl]
      omega
    · show inc p.1 j=cI c
      rw [e,cI_inc,inc_dec hj h0]
theorem val_lin {x:List Int}:∀ {T:TabQ},NDq T->linQ T (fun k=>if k=x then (1:Rat) else 0)=valQ T x
  | [],_=>rfl
  | p :: T,h=>by
    have h1:p.1 ∉ T.map (·.1)/\NDq T:=by unfold NDq at h ⊢;rw [List.map_cons,List.nodup_cons] at h;exact h
    rw [linQ_cons,val_lin h1.2]
    show p.2 * (if p.1=x then (1:Rat) else 0) + valQ T x=if p.1=x then p.2 else valQ T x
    by_cases e:p.1=x
    · have hz:valQ T x=0:=valQ_no T (by rw [<- e];exact h1.1)
      rw [if_pos e,if_pos e,hz];grind
    · rw [if_neg e,if_neg e];grind
theorem cb_goal {n k:Nat} {rs:List (List Int)} {u:List Int} {c:List Nat} (hR:Rul n 5 rs) (n4:n <= 4) (hu:Urn n 20 u) (hk:k <= 6) (hc:c.length=n):valQ (cbQ u rs (cI c) k) (cI c)=linD (allD u rs k) (iC n c):=by
  obtain ⟨w1,w2,w3,w4⟩:=cb_ok (cI c) hR n4 hu k hk
  rw [<- val_lin w2,cb_all (cI c) (fun j=>by rw [cI_get];omega) hR n4 hu k hk]
  refine linD_congr hR n4 hu hk fun ds hl hlt=>?_
  unfold iC
  rw [cI_cnt]
  by_cases h:cntN n ds=c
  · rw [if_pos h,h,if_pos rfl,if_pos]
    exact leL_iff.mpr fun j _=>Int.le_refl _
  · rw [if_neg h,if_neg fun z=>h (cI_inj z)]
    split <;> rfl
end Mq
set_option maxHeartbeats 4000000
namespace L2
open PySem PySem.Spec PyProof.Rows
section
variable {prog:Program} {w:World} {A:Around} {E:Value->Shared->Prop} {s:Shared}
end
section
variable {X:Cx} {pins:List (Addr × Obj)} {σ:St} {H:Hp} {s:Shared}
end
end L2
namespace L2
open PySem PySem.Spec PyProof.Rows
section
variable {X:Cx} {K:PySem.W.Frag}
end
end L2
namespace L2
open PySem PySem.Spec PyProof.Rows PySem.SeqAt
section
variable {X:Cx} {K:PySem.W.Frag}
theorem inV_int (k:Int) (ns:List Int):inV (.int k) (ns.map V.int)=decide (k ∈ ns):=by
  unfold inV
  rw [List.any_map]
  induction ns with
  | nil=>rfl
  | cons a l ih =>
    rw [List.any_cons,ih]
    show (eqV (.int a) (.int k) || decide (k ∈ l))=_
    have:eqV (.int a) (.int k)=decide (a=k):=by unfold eqV;rfl
    rw [this]
    by_cases h:a=k
    · subst h;simp
    · have h':¬ k=a:=fun z=>h z.symm
      simp [h,h']
theorem flat_ints (ns:List Int):(ns.map V.int).all flatV=true:=by
  rw [List.all_map,List.all_eq_true];intro x _;rfl
theorem blk_listF {a:Addr} {xs:List V} {σ0:St} {tc:TT} {te:TE} {H:Hp} {F:List V->Hp->Prop} (hn:xs.length <= sizeLine) (Pv:Nat->List V->Hp->Prop) (h0:Pv 0 [] H) (hl:∀ i ys H,Pv i ys H->ys.length <= i) (hq:∀ i ys H,i <= xs.length->Pv i ys H->SqL K H a xs) (hσ:σ0[0]?=some none)
    (hs:∀ i ys H x,xs[i]?=some x->Pv i ys H->tc (σ0.set 0 (some x)) H fun b H5=>if b=true then te (σ0.set 0 (some x)) H5 (fun y H'=>Pv (i + 1) (ys ++ [y]) H') else Pv (i + 1) ys H5) (hd:∀ ys H,Pv xs.length ys H->F ys H):Blk (Itl K a) σ0 (gName 0) tc te H F:=by
  refine ⟨fun i m ys H=>m=xs.length - i/\i <= xs.length/\Pv i ys H,⟨xs.length,by simp,Nat.zero_le _,h0⟩,?_⟩
  rintro i m ys H2 ⟨rfl,hi,p⟩
  have q:=hq i ys H2 hi p
  have hlen:=hl i ys H2 p
  refine ⟨by omega,?_⟩
  by_cases hlt:i < xs.length
  · refine .inr ⟨⟨xs,xs[i],q,by simp [hlt]⟩,fun y H'=>Pv (i + 1) (ys ++ [y]) H',fun H'=>Pv (i + 1) ys H',fun y H' q=>⟨xs.length - (i + 1),by omega,rfl,hlt,q⟩,fun H' q=>⟨xs.length - (i + 1),by omega,rfl,hlt,q⟩,fun x H3 y=>?_⟩
    obtain ⟨rfl,y⟩:=y
    exact ⟨Wk.set (.inl hσ),hs i ys _ x (y xs q) p⟩
  · have e:i=xs.length:=by omega
    subst e
    exact .inl ⟨⟨xs,q,Nat.le_refl _⟩,hd ys H2 p⟩
end
end L2
namespace L2
open PySem PySem.Spec PyProof.Rows
section
variable {prog:Program} {w:World} {A:Around} {E:Value->Shared->Prop} {s:Shared}
structure ZipLL (h:Heap) (z TI TO i1 i2 t1 t2:Addr) (k:Nat):Prop where
  zz:IsZip h z TI TO .none
  ti:IsPair h TI (.ref i1) (.ref i2)
  tO:∃ a b,IsPair h TO a b
  it1:h.IsListIter i1 t1 k
  it2:h.IsListIter i2 t2 k
end
section
variable {X:Cx} {pins:List (Addr × Obj)} {σ:St} {H:Hp} {s:Shared}
end
section
variable {X:Cx} {K:PySem.W.Frag}
end
section
variable {X:Cx} {K:PySem.W.Frag}
end
end L2
namespace L2
open PySem PySem.Spec PyProof.Rows
section
variable {X:Cx}
end
end L2
namespace L2
open PySem PySem.Spec PyProof.Rows PySem.SeqAt
def NoD (o:Obj):Prop:=o.cls=.type "tuple"/\o.dict=none
def TupN (H:Hp) (a:Addr) (xs:List V):Prop:=∃ o,NoD o/\H a=some (.frz o (.tup xs))
theorem TupN.sq {K:PySem.W.Frag} {H:Hp} {a:Addr} {xs:List V} (h:TupN H a xs):SqT K H a xs:=let ⟨o,_,e⟩:=h;.inl (.inr ⟨o,e⟩)
theorem TupN.same {H H':Hp} {a:Addr} {xs:List V} (h:TupN H a xs) (g:Same H H'):TupN H' a xs:=let ⟨o,n,e⟩:=h;⟨o,n,g _ _ e⟩
section
variable {X:Cx} {K:PySem.W.Frag}
def tBMN (r:V->List V->Hp->VK->Prop) (to:TE) (t:TA):TE:=fun σ H Q=>to σ H fun x H1=>(∃ p xs,x=.ref p/\TupN H1 p xs)/\t σ H1 fun xs H2=>r x xs H2 Q
theorem pe_bmN {o e:Expr} {es:List Expr} {to:TE} {t:TA} {name:Str} {apos cpos:Pos} {id:String} {r:V->List V->Hp->VK->Prop} (slot:Slot "tuple" name id) (hty:typeOf (.builtin id)=pure (.type "method_descriptor")) (hm:MtR X id r) (ho:PE X o to) (ha:PA X (e :: es) t)
    (hbase:attributeBase o name X.env (eval o X.env)=eval o X.env:=by rfl)
    (hfew:((backTo cpos (starEach (e :: es) X.env)).all (fun x=>!x.1) && (backToKw cpos (keywordEach [] X.env)).all (fun x=>x.1.isSome)
      && decide ((e :: es).length + ([]:List Keyword).length + (if ([]:List Keyword).isEmpty then 0 else 1) < 30))=true:=by rfl)
    (hline:(apos.endLine == cpos.line)=true:=by rfl) (hs:starEach (e :: es) X.env=(false,eval e X.env) :: starEach es X.env:=by rfl) (hplain:(backTo cpos (starEach es X.env)).any (·.1)=false:=by rfl) :
    PE X (.Call (.Attribute o name apos) (e :: es) [] cpos) (tBMN r to t):=by
  intro pins s σ H Q I h
  refine wpAny_Call_method_late hbase hfew hline rfl (thn (ho pins s σ H _ I h) fun v s1 ⟨x,H1,I1,r1,⟨p,xs,ex,ob,nd,hp⟩,q1⟩=>?_)
  subst ex
  cases r1
  obtain ⟨hg,_⟩:=(show ObjOk X.prog X.w H1 s1.heap p (.frz ob (.tup xs)) from I1.hok p _ hp)
  refine ⟨"tuple",id,PySem.F.plainAttrs_tuple,slot,hty,⟨ob,hg,nd.1⟩,fun a e=>by cases e;exact ⟨ob,hg,nd.2⟩,?_⟩
  have hA:=ha cpos pins s1 σ H1 _ I1 q1
  rw [hs] at hA ⊢
  refine Calls.callWith_builtin (by show (false || (backTo cpos (starEach es X.env)).any (·.1))=false;rw [hplain] <;> rfl) (Calls.evalArgs_plain ?_)
  exact thn hA fun us s2 ⟨vs,H2,I2,r2,q2⟩=>hm pins s2 σ H2 (.ref p) vs (.ref p) us Q I2 rfl r2 q2
end
end L2
namespace L2
open PySem PySem.Spec PyProof.Rows PySem.SeqAt
section
variable {X:Cx} {K:PySem.W.Frag}
end
end L2
namespace L2
open PySem PySem.Spec PyProof.Rows PySem.SeqAt
section
variable {X:Cx} {K:PySem.W.Frag}
theorem call_isiN:CallR X (.builtin "isinstance") (fun xs H Q=>∃ (a:Addr) (ys:List V),xs=[.ref a,.ty "tuple"]/\TupN H a ys/\Q (.bl true) H):=by
  intro pins s σ H xs us Q I r h
  obtain ⟨a,ys,rfl,⟨o,nd,e⟩,q⟩:=h
  cases r with
  | cons r1 rr =>
    cases rr with
    | cons r2 rr =>
      cases rr
      cases r2
      cases r1
      obtain ⟨hg,_⟩:=(show ObjOk X.prog X.w H s.heap a (.frz o (.tup ys)) from I.hok a _ e)
      exact PySem.W.kia_one PySem.W.kitx_tuple I.kIn ⟨o,hg,nd.1⟩ (kit_tup X.K (.tuple [])) (fun z=>nomatch z) (fun tk=>⟨.bl true,H,I.tok tk,rfl,q⟩)
theorem call_tupN:CallR X (.type "tuple") (fun xs H Q=>∃ (p:Addr) (ys:List V),xs=[.ref p]/\SqL X.K H p ys/\∀ l H',Same H H'->TupN H' l ys->Q (.ref l) H'):=by
  intro pins s σ H xs us Q I r h
  obtain ⟨p,ys,rfl,hq,q⟩:=h
  obtain ⟨u,rfl,rx⟩:=vals1 r
  cases rx
  obtain ⟨its,r',pl,hz⟩:=I.list hq
  have hlen:=r'.length
  refine call_tuple_list pl.isList (fun h' kp=>?_) (by simp only [List.size_toArray] <;> omega)
  have I1:Inv X pins σ H { s with heap:=h' }:=I.kept (t':=s.toks) kp
  have hf:H h'.objs.size=none:=I1.hok.fresh (Nat.le_refl _)
  refine ⟨.ref h'.objs.size,upd H h'.objs.size (.frz { cls:=.type "tuple",data:=.seq its.toArray } (.tup ys)),I1.laid (t':=s.toks) (fun b o e=>Heap.get?_push_of_some _ e) (Nat.le_refl _) ?_,rfl,q _ _ (Same.new hf) ⟨_,⟨rfl,rfl⟩,upd_same⟩⟩
  exact ⟨Heap.get?_push_size _ rfl,hz,its,r',IsTup.new _ _⟩
def rCntN (K:PySem.W.Frag):V->List V->Hp->VK->Prop:=fun x vs H Q=>∃ (t:Addr) (ns:List Int) (k:Int),x=.ref t/\vs=[.int k]/\SqT K H t (ns.map V.int)/\Q (.int (ns.count k:Nat)) H
theorem countP_ints {k:Int}:∀ {ns:List Int} {its:List Value},Vals (ns.map V.int) its->its.countP (fun y=>match y with | .int i _=>i == k | _=>false)=ns.count k
  | [],its,r=>by cases r;rfl
  | n :: ns,its,r=>by
    cases r with
    | cons r1 rr =>
      obtain ⟨tk,rfl⟩:=r1
      rw [List.countP_cons,List.count_cons,countP_ints rr]
theorem mtN_count:MtR X "tuple.count" (rCntN X.K):=by
  intro pins s σ H x vs v us Q I rx rv h
  obtain ⟨t,ns,k,rfl,rfl,hH,q⟩:=h
  cases rx
  obtain ⟨u,rfl,ru⟩:=rv.one
  obtain ⟨tk,rfl⟩:=ru
  obtain ⟨its,r,p,z⟩:=I.tuple hH
  obtain ⟨o,ho,hc,n,hd⟩:=p
  have hlen:=r.length
  rw [List.length_map] at hlen
  obtain ⟨cl,dd,dt,sl⟩:=o
  simp only at hc hd
  subst hc hd
  refine call_meets F.slot_tuple_count ⟨_,ho,rfl⟩ F.entry_tuple_count (F.args_tuple_count_2 _ _)
    (tuple_countAt t its.toArray n dd sl (.int k tk) (fun y=>match y with | .int i _=>i == k | _=>false)) ⟨ho,fun y hy=>?_,?_⟩
  · obtain ⟨m,hm,rfl⟩:=Array.mem_iff_getElem.mp hy
    have hm':m < ns.length:=by rw [hlen];simpa using hm
    obtain ⟨u,hu,ru⟩:=r.get (i:=m) (x:=.int (ns.getD m 0)) (by rw [List.getElem?_map,List.getElem?_eq_getElem hm',List.getD_eq_getElem?_getD,List.getElem?_eq_getElem hm'];rfl)
    obtain ⟨tk',rfl⟩:=ru
    have e:=(List.getElem?_eq_some_iff.mp hu).2
    have e':its.toArray[m]=.int (ns.getD m 0) tk':=by simpa using e
    rw [e']
    exact SeqAt.EqAt.int_int _ _ _ _
  · have e:(its.toArray.toList.countP fun y=>match y with | .int i _=>i == k | _=>false)=ns.count k:=countP_ints r
    rw [e]
    exact ⟨.int (ns.count k:Nat),H,I.tok _,⟨_,rfl⟩,q⟩
theorem cntK (h:X.K=K):MtR X "tuple.count" (rCntN K):=by subst h;exact mtN_count
end
end L2
namespace G
open PySem PySem.Spec PyProof.Rows L2 Mt
structure CtC (mg:Str->Option Value):Prop where
  counts:∃ t,mg "MOST_COUNTS"=some (.int 40 t)
  draws:∃ t,mg "MOST_DRAWS"=some (.int 20 t)
def kI (ks:List Nat):List Int:=ks.map fun (k:Nat)=>(k:Int)
theorem kI_len (ks:List Nat):(kI ks).length=ks.length:=by unfold kI;rw [List.length_map]
theorem kI_sum:∀ cs:List Nat,(kI cs).sum=(tot cs:Int)
  | []=>rfl
  | c :: cs=>by
    show ((c:Int) :: kI cs).sum=((c + tot cs:Nat):Int)
    rw [List.sum_cons,kI_sum cs];omega
theorem kI_get {cs:List Nat} {i:Nat} (h:i < cs.length):((kI cs).map V.int)[i]?=some (.int ((cs[i]:Nat):Int)):=by
  unfold kI
  rw [List.getElem?_map,List.getElem?_map,List.getElem?_eq_getElem h];rfl
theorem tot_mem:∀ {cs:List Nat} {c:Nat},c ∈ cs->c <= tot cs
  | d :: cs,c,h=>by
    rcases List.mem_cons.mp h with e | e
    · subst e;show c <= c + tot cs;omega
    · have:=tot_mem e;show c <= d + tot cs;omega
def countsD (n:Nat) (d:PyData):Bool:=wholesD 0 40 d && (decide (lenD d=n) && decide (sumD d <= 40))
theorem countsD_of {n:Nat} {cs:List Nat} (hl:cs.length=n) (ht:tot cs <= 40):countsD n (DI (kI cs))=true:=by
  unfold countsD
  rw [lenD_DI,sumD_DI,kI_len,kI_sum,decide_eq_true hl,decide_eq_true (show (tot cs:Int) <= 40 by omega)]
  have:wholesD 0 40 (DI (kI cs))=true:=by
    show ((kI cs).map PyData.int).all (wholeD 0 40)=true
    rw [List.all_map]
    refine List.all_eq_true.mpr fun x hx=>?_
    obtain ⟨k,hk1,e⟩:=List.mem_map.mp hx
    have:=tot_mem hk1
    show (decide ((0:Int) <= x) && decide (x <= 40))=true
    rw [decide_eq_true (show (0:Int) <= x by omega),decide_eq_true (show x <= 40 by omega)];rfl
  rw [this];rfl
theorem sm_5:Sm 5:=by unfold Sm;decide +kernel
theorem pow_512 (n:Nat):((2 ^ (9 * n):Nat):Int)=512 ^ n:=by rw [Nat.pow_mul];simp
theorem bits_512 {i:Int} {k:Nat} (h0:0 <= i) (h:i <= 512 ^ k) (hk:k <= 200):Builtin.Int.intBits i <= 2 ^ 20:=by
  refine bits_of (n:=9 * k) ?_ (by omega)
  have e:=pow_512 k
  have:((i.natAbs:Nat):Int) <= ((2 ^ (9 * k):Nat):Int):=by rw [e];omega
  omega
theorem log_512 {i:Int} {k:Nat} (h0:0 < i) (h:i <= 512 ^ k) (hk:k <= 200):i.natAbs.log2 < 9000:=by
  refine log_of (n:=9 * k) h0 ?_ (by omega)
  have e:=pow_512 k
  have:((i.natAbs:Nat):Int) <= ((2 ^ (9 * k):Nat):Int):=by rw [e];omega
  omega
theorem fct_bd {n:Nat} (h:n <= 40):fct n <= 512 ^ n:=rp_bd (m:=40) (by decide) (by decide) (by decide) (by decide) (by decide) n h
theorem pow_mono {a b:Nat} (h:a <= b):(512:Int) ^ a <= 512 ^ b:=by
  rw [<- pow_512,<- pow_512]
  have:=Nat.pow_le_pow_right (show 0 < 2 by decide) (show 9 * a <= 9 * b by omega)
  omega
theorem rps_bd {g:Int} (hg:0 <= g) (hg1:g <= 5):∀ {bs:List Int} {cs:List Nat},(∀ x ∈ bs,0 <= x/\x <= 100)->tot cs <= 40->0 <= rps g bs cs/\rps g bs cs <= 512 ^ tot cs
  | [],cs,_,_=>⟨by show (0:Int) <= 1;decide,by
      show (1:Int) <= 512 ^ tot cs
      have:=pow_mono (Nat.zero_le (tot cs));simpa using this⟩
  | b :: bs,[],_,_=>⟨by show (0:Int) <= 1;decide,by show (1:Int) <= 512 ^ 0;decide⟩
  | b :: bs,c :: cs,hb,ht=>by
    have ht':c + tot cs <= 40:=ht
    obtain ⟨i1,i2⟩:=rps_bd hg hg1 (bs:=bs) (cs:=cs) (fun x hx=>hb x (List.mem_cons_of_mem _ hx)) (by omega)
    obtain ⟨b0,b1⟩:=hb b List.mem_cons_self
    have r0:=rp_nn b0 hg c
    have r1:=rp_bd (m:=40) b0 b1 hg hg1 (by decide) c (by omega)
    refine ⟨Int.mul_nonneg r0 i1,?_⟩
    show rp b g c * rps g bs cs <= 512 ^ (c + tot cs)
    rw [Int.pow_add]
    exact Int.mul_le_mul r1 i2 i1 (Int.pow_nonneg (by decide))
theorem tot_take (cs:List Nat) (i:Nat):tot (cs.take i) <= tot cs:=by
  have h:=tot_append (cs.take i) (cs.drop i)
  rw [List.take_append_drop] at h
  omega
section
variable {P:Program} {w:World} {K:PySem.W.Frag} {mg:Str->Option Value} {base:Heap} {f:Addr} {fd:FuncData} {ec:Nat->Addr} {Bs:Addr}
def sp_need_counts (ec:Nat->Addr):Sp:=fun vs H Q E=>∃ (a st:Addr) (xs:List V) (v:V) (d:PyData),vs=[.ref a,v]/\H a=some (.tup xs)/\Dt st H d v/\short d/\(countsD xs.length d=true->∀ H',Same H H'->Q .non H')/\(countsD xs.length d=false->∀ H',Same H H'->E (.ref (ec 7)) none H')
abbrev s_need_counts:Stmt:=top 31
theorem sc_need_counts:FnScope ["urn","thing"] ["urn","thing"] (defScope s_need_counts):=⟨rfl,rfl,rfl,by decide +kernel,rfl,by decide +kernel,by decide +kernel⟩
theorem ok_need_counts (F:Fun K "need_counts" "need_counts" s_need_counts f fd) (B:Bt mg) (C:CtC mg) (R:Errs K mg ec Bs) (c1:Cal P w K mg base 2 "are_wholes" ["thing","low","high"] sp_are_wholes):FnOk P w K mg base (CX1 P w) 3 f fd ["urn","thing"] (sp_need_counts ec):=by
  refine F.okX sc_need_counts (fun vs H Q E h=>?_) (fun cdv A outer s H vs Q E hr h=>?_)
  · obtain ⟨a,st,xs,v,d,rfl,_⟩:=h
    rfl
  obtain ⟨a,st,xs,v,d,rfl,ha,hd,hs,q1,q2⟩:=h
  obtain ⟨td,hD⟩:=C.counts
  refine ⟨_,pss_one (ps_if (PW.pt (pw_or (pt_not (pt_val (pe_cal c1 hr rfl (pa_cons (pv 1) (pa_cons pe_int (pa_cons (pe_glob (v:=.int 40) rfl hD ⟨td,rfl⟩) pa_nil))))))
    (pw_or (pt_cmpR op_ne (pe_callB call_len_seq rfl B.len PySem.boot_len (pa_cons (pv 1) pa_nil)) (pe_callB call_len_seq rfl B.len PySem.boot_len (pa_cons (pv 0) pa_nil)) (nomark _))
    (pw_or1 (pt_cmpR op_gt (pe_callB (call_sum_seq rfl) rfl B.sum boot_sum (pa_cons (pv 1) pa_nil)) (pe_glob (v:=.int 40) rfl hD ⟨td,rfl⟩) (nomark _)))))) (pss_one (ps_raise1 R.e7 (R.xc 7 (by decide)) pe_str (fun σ H Q Q' m q=>m _ _ q))) pss_nil),?_⟩
  refine ⟨_,rfl,v,st,d,0,40,rfl,hd,hs,fun H1 g1=>⟨_,rfl,?_⟩⟩
  unfold countsD at q1 q2
  cases hw:wholesD 0 40 d with
  | false =>
    rw [hw,Bool.false_and] at q2
    exact iteT (iteT (q2 rfl H1 g1))
  | true =>
    rw [hw,Bool.true_and] at q1 q2
    obtain ⟨ns,e,_⟩:=wholesD_ints hw
    subst e
    obtain ⟨b,e,_,hb⟩:=hd.di
    subst e
    rw [lenD_DI,sumD_DI] at q1 q2
    refine iteF ⟨_,rfl,b,_,rfl,.inr (.of (g1 _ _ hb)),_,rfl,a,_,rfl,.inr (.of (g1 _ _ ha)),rfl,_,rfl,?_⟩
    rw [List.length_map]
    by_cases hl:ns.length=xs.length
    · rw [decide_eq_true (show V.int (ns.length:Int)=V.int (xs.length:Int) by rw [hl])]
      rw [decide_eq_true hl,Bool.true_and] at q1 q2
      refine iteF ⟨_,rfl,b,ns,rfl,.inr (.of (g1 _ _ hb)),_,_,rfl,rfl,_,rfl,?_⟩
      by_cases hs2:ns.sum <= 40
      · rw [decide_eq_false (show ¬ (40:Int) < ns.sum by omega)]
        exact iteF (q1 (decide_eq_true hs2) H1 g1)
      · rw [decide_eq_true (show (40:Int) < ns.sum by omega)]
        exact iteT (q2 (decide_eq_false hs2) H1 g1)
    · rw [decide_eq_false (show ¬ V.int (ns.length:Int)=V.int (xs.length:Int) from fun e=>hl (by injection e with e;omega))]
      rw [decide_eq_false hl,Bool.false_and] at q2
      exact iteT (iteT (q2 rfl H1 g1))
def sp_need_simple (ec:Nat->Addr):Sp:=fun vs H Q E=>∃ (u v x:V) (st:Addr) (d e g:PyData),vs=[u,v,x]/\Dt st H d u/\short d/\Dt st H e v/\Dt st H g x/\short g/\(urnD 20 d=false->∀ H',Same H H'->E (.ref (ec 0)) none H') /\
  (urnD 20 d=true->wholeD 0 5 e=false->∀ H',Same H H'->E (.ref (ec 5)) none H')/\(urnD 20 d=true->wholeD 0 5 e=true->countsD (lenD d) g=false->∀ H',Same H H'->E (.ref (ec 7)) none H') /\
  (urnD 20 d=true->wholeD 0 5 e=true->countsD (lenD d) g=true->∀ H',Same H H'->Q .non H')
abbrev s_need_simple:Stmt:=top 32
theorem sc_need_simple:FnScope ["urn","more","counts"] ["urn","more","counts"] (defScope s_need_simple):=⟨rfl,rfl,rfl,by decide +kernel,rfl,by decide +kernel,by decide +kernel⟩
theorem ok_need_simple (F:Fun K "need_simple" "need_simple" s_need_simple f fd) (C:Ct mg) (c1:CalX P w K mg base 5 "need_urn" ["thing"] (sp_need_urn ec)) (c2:CalX P w K mg base 2 "need_number" ["thing","low","high"] (sp_need_number ec)) (c3:CalX P w K mg base 3 "need_counts" ["urn","thing"] (sp_need_counts ec)):FnOk P w K mg base (CX1 P w) 6 f fd ["urn","more","counts"] (sp_need_simple ec):=by
  refine F.okX sc_need_simple (fun vs H Q E h=>?_) (fun cdv A outer s H vs Q E hr h=>?_)
  · obtain ⟨u,v,x,st,d,e,g,rfl,_⟩:=h
    rfl
  obtain ⟨u,v,x,st,d,e,g,rfl,hu,hus,hv,hx,hxs,q0,q1,q2,q3⟩:=h
  obtain ⟨tp,hp⟩:=C.puts
  refine ⟨_,pss_cons (ps_expr (pe_calx c1 hr rfl passes1 (pa_cons (pv 0) pa_nil))) (pss_cons (ps_expr (pe_calx (c2.up (by decide)) hr rfl passes1 (pa_cons (pv 1) (pa_cons pe_int (pa_cons (pe_glob (v:=.int 5) rfl hp ⟨tp,rfl⟩) pa_nil)))))
    (pss_one (ps_expr (pe_calx (c3.up (by decide)) hr rfl passes1 (pa_cons (pv 0) (pa_cons (pv 2) pa_nil)))))),?_⟩
  refine ⟨_,rfl,u,st,d,rfl,hu,hus,fun hw H1 g1=>?_,q0⟩
  refine ⟨_,rfl,v,st,e,0,5,rfl,hv.kp (g1.kp st),sm_0,sm_5,fun hw2=>?_,fun hw2=>q1 hw hw2 H1 g1⟩
  have q2':=q2 hw hw2
  have q3':=q3 hw hw2
  obtain ⟨ns,e1,l1,l4,_⟩:=urnD_true hw
  subst e1
  obtain ⟨a,e2,_,ha⟩:=hu.di
  subst e2
  rw [lenD_DI] at q2' q3'
  refine ⟨_,rfl,_,rfl,a,st,_,x,g,rfl,g1 _ _ ha,hx.kp (g1.kp st),hxs,fun z H2 g2=>?_,fun z H2 g2=>?_⟩
  · rw [List.length_map] at z;exact q3' z H2 (g1.trans g2)
  · rw [List.length_map] at z;exact q2' z H2 (g1.trans g2)
def sp_rp:Sp:=fun vs H Q _=>∃ (s g:Int) (n:Nat),vs=[.int s,.int g,.int n]/\0 <= s/\s <= 100/\0 <= g/\g <= 5/\n <= 40/\Q (.int (rp s g n)) H
abbrev s_rp:Stmt:=top 33
theorem sc_rp:FnScope ["start","step","many","product","turn"] ["start","step","many"] (defScope s_rp):=⟨rfl,rfl,rfl,by decide +kernel,rfl,by decide +kernel,by decide +kernel⟩
theorem ok_rp (F:Fun K "rising_product" "rising_product" s_rp f fd) (B:Bt mg):FnOk P w K mg base CX0 1 f fd ["start","step","many"] sp_rp:=by
  refine F.ok sc_rp (fun vs H Q E h=>?_) (fun cdv A outer s H vs Q E hr h=>?_)
  · obtain ⟨s,g,n,rfl,_⟩:=h
    rfl
  obtain ⟨s,g,n,rfl,s0,s1,g0,g1,hn,q⟩:=h
  refine ⟨_,pss_cons (ps_set (i:=3) sc_rp.nd rfl (Or.inl rfl) pe_int)
    (pss_cons (ps_for PassesOwn.never rfl (pi_range1 rfl B.range (pa_cons (pv 2) pa_nil)) (pg_name (i:=4) sc_rp.nd rfl (Or.inl rfl))
      (pss_one (ps_aug (i:=3) sc_rp.nd rfl (Or.inl rfl) (pe_op op_add (pv 0) (pe_op op_mul (pv 4) (pv 1))) ip_mul)))
    (pss_one (ps_ret (pv 3)))),?_⟩
  refine ⟨_,rfl,(n:Int),rfl,by omega,by omega,?_⟩
  refine for_range (lo:=0) (n:=n) (fun i σ H3=>H3=H/\i <= n/\∃ o5,σ=[some (.int s),some (.int g),some (.int n),some (.int (rp s g i)),o5]) ⟨rfl,Nat.zero_le _,none,rfl⟩ (fun i σ H3 hi h=>?_) (fun σ H3 h=>?_)
  · obtain ⟨rfl,hik,o5,rfl⟩:=h
    have e0:(0:Int) + (i:Int)=(i:Int):=by omega
    rw [e0]
    have w0:=rp_nn s0 g0 i
    have w1:=rp_bd (m:=40) s0 s1 g0 g1 (by decide) i (by omega)
    have hk0:0 <= (i:Int) * g:=Int.mul_nonneg (by omega) g0
    have hk1:(i:Int) * g <= 40 * 5:=Int.mul_le_mul (by omega) (by omega) g0 (by decide)
    refine ⟨_,rfl,_,rfl,_,rfl,_,rfl,_,_,rfl,rfl,.inl ⟨by omega,by omega⟩,_,_,rfl,rfl,_,_,rfl,rfl,⟨bits_512 w0 w1 (by omega),bits_of (n:=10) (by omega) (by decide)⟩,rfl,by omega,_,rfl⟩
  · obtain ⟨rfl,_,o5,rfl⟩:=h
    exact ⟨_,rfl,q⟩
def sp_ords:Sp:=fun vs H Q _=>∃ (c:Addr) (cs:List Nat),vs=[.ref c]/\H c=some (.tup ((kI cs).map V.int))/\cs.length <= 4/\tot cs <= 40/\Q (.int (ordN cs)) H
abbrev s_ords:Stmt:=top 34
theorem sc_ords:FnScope ["counts","many","number"] ["counts"] (defScope s_ords):=⟨rfl,rfl,rfl,by decide +kernel,rfl,by decide +kernel,by decide +kernel⟩
theorem ok_ords (F:Fun K "orders_of" "orders_of" s_ords f fd) (B:Bt mg) (c1:Cal P w K mg base 1 "rising_product" ["start","step","many"] sp_rp):FnOk P w K mg base CX0 2 f fd ["counts"] sp_ords:=by
  refine F.ok sc_ords (fun vs H Q E h=>?_) (fun cdv A outer s H vs Q E hr h=>?_)
  · obtain ⟨c,cs,rfl,_⟩:=h
    rfl
  obtain ⟨c,cs,rfl,hc,hl,ht,q⟩:=h
  refine ⟨_,pss_cons (ps_set (i:=1) sc_ords.nd rfl (Or.inl rfl) (pe_cal c1 hr rfl (pa_cons pe_int (pa_cons pe_int (pa_cons (pe_callB (call_sum_seq rfl) rfl B.sum boot_sum (pa_cons (pv 0) pa_nil)) pa_nil)))))
    (pss_cons (ps_for PassesOwn.never rfl (pi_tup (pv 0)) (pg_name (i:=2) sc_ords.nd rfl (Or.inl rfl))
      (pss_one (ps_aug (i:=1) sc_ords.nd rfl (Or.inl rfl) (pe_cal c1 hr rfl (pa_cons pe_int (pa_cons pe_int (pa_cons (pv 2) pa_nil)))) ip_fdiv)))
    (pss_one (ps_ret (pv 1)))),?_⟩
  refine ⟨_,rfl,c,kI cs,rfl,.inr (.of hc),1,1,tot cs,by rw [kI_sum],by decide,by decide,by decide,by decide,ht,?_⟩
  refine ⟨_,rfl,c,rfl,⟨_,.of hc⟩,?_⟩
  refine for_tup (K:=K) (a:=c) (xs:=(kI cs).map V.int) (fun i σ H4=>H4=H/\i <= cs.length/\∃ o,σ=[some (.ref c),some (.int (ords (fct (tot cs)) (cs.take i))),o]) ⟨rfl,Nat.zero_le _,none,rfl⟩ (fun i σ H4 _ h=>by rw [h.1];exact .of hc) (fun i x σ H4 hx h=>?_) (fun σ H4 h=>?_)
  · obtain ⟨rfl,_,o,rfl⟩:=h
    have hi:i < cs.length:=by have:=(List.getElem?_eq_some_iff.mp hx).1;rwa [List.length_map,kI_len] at this
    rw [kI_get hi] at hx
    cases hx
    have hm:=tot_mem (List.getElem_mem hi)
    refine ⟨_,rfl,_,rfl,1,1,cs[i],rfl,by decide,by decide,by decide,by decide,by omega,_,_,rfl,rfl,⟨fct_pos _,log_512 (fct_pos _) (fct_bd (by omega)) (by omega)⟩,rfl,hi,some (.int ((cs[i]:Nat):Int)),?_⟩
    rw [List.take_add_one,List.getElem?_eq_getElem hi]
    show [some (V.ref c),some (V.int (ords (fct (tot cs)) (cs.take i) / fct cs[i])),some (V.int ((cs[i]:Nat):Int))]=[some (.ref c),some (.int (ords (fct (tot cs)) (cs.take i ++ [cs[i]]))),some (V.int ((cs[i]:Nat):Int))]
    rw [ords_snoc]
  · obtain ⟨rfl,_,o,rfl⟩:=h
    refine ⟨_,rfl,?_⟩
    rw [List.length_map,kI_len,List.take_length]
    exact q
def sp_ccV:Sp:=fun vs H Q _=>∃ (st a c:Addr) (n:Nat) (g:Int) (ns:List Int) (cs:List Nat),vs=[.ref a,.int g,.ref c]/\Dt st H (DI ns) (.ref a)/\Mt.Urn n 20 ns/\0 <= g/\g <= 5/\Dt st H (DI (kI cs)) (.ref c)/\cs.length=n/\tot cs <= 40/\1 <= n/\n <= 4 /\
  ∀ p H',Same H H'->H' p=some (.tup ((fr (cch ns g cs)).map V.int))->Q (.ref p) H'
def RefC (ec:Nat->Addr) (vs:List V) (H:Hp) (E:XK):Prop:=∃ (st:Addr) (u v x:V) (d e g:PyData) (i:Nat),vs=[u,v,x]/\Dt st H d u/\short d/\Dt st H e v/\Dt st H g x/\short g /\
  ((i=0/\urnD 20 d=false) ∨ (i=5/\urnD 20 d=true/\wholeD 0 5 e=false) ∨ (i=7/\urnD 20 d=true/\wholeD 0 5 e=true/\countsD (lenD d) g=false))/\∀ H',Same H H'->E (.ref (ec i)) none H'
def sp_cc (ec:Nat->Addr):Sp:=fun vs H Q E=>RefC ec vs H E ∨ sp_ccV vs H Q E
abbrev s_cc:Stmt:=top 35
theorem sc_cc:FnScope ["urn","more","counts","leading","balls","many"] ["urn","more","counts"] (defScope s_cc):=⟨rfl,rfl,rfl,by decide +kernel,rfl,by decide +kernel,by decide +kernel⟩
theorem ok_cc (F:Fun K "counts_chance" "counts_chance" s_cc f fd) (B:Bt mg) (c1:CalX P w K mg base 6 "need_simple" ["urn","more","counts"] (sp_need_simple ec)) (c2:Cal P w K mg base 2 "orders_of" ["counts"] sp_ords) (c3:Cal P w K mg base 1 "rising_product" ["start","step","many"] sp_rp) (c4:Cal P w K mg base 2 "fraction" ["top","bottom"] sp_fraction):FnOk P w K mg base (CX1 P w) 7 f fd ["urn","more","counts"] (sp_cc ec):=by
  refine F.okX sc_cc (fun vs H Q E h=>?_) (fun cdv A outer s H vs Q E hr h=>?_)
  · rcases h with ⟨st,u,v,x,d,e,g,i,rfl,_⟩ | ⟨st,a,c,n,g,ns,cs,rfl,_⟩
    · rfl
    · rfl
  refine ⟨_,pss_cons (ps_expr (pe_calx c1 hr rfl passes1 (pa_cons (pv 0) (pa_cons (pv 1) (pa_cons (pv 2) pa_nil)))))
    (PSs.nox (pss_cons (ps_set (i:=3) sc_cc.nd rfl (Or.inl rfl) (pe_cal (c2.up (by decide)) hr rfl (pa_cons (pv 2) pa_nil)))
    (pss_cons (ps_for PassesOwn.never rfl (pi_zip rfl B.zip (pa_cons (pv 0) (pa_cons (pv 2) pa_nil))) (pg_tup rfl (pgs_cons (pg_name (i:=4) sc_cc.nd rfl (Or.inl rfl)) (pgs_cons (pg_name (i:=5) sc_cc.nd rfl (Or.inl rfl)) pgs_nil)))
      (pss_one (ps_aug (i:=3) sc_cc.nd rfl (Or.inl rfl) (pe_cal (c3.up (by decide)) hr rfl (pa_cons (pv 4) (pa_cons (pv 1) (pa_cons (pv 5) pa_nil)))) ip_mul)))
    (pss_one (ps_ret (pe_cal (c4.up (by decide)) hr rfl (pa_cons (pv 3) (pa_cons (pe_cal (c3.up (by decide)) hr rfl (pa_cons (pe_callB (call_sum_seq rfl) rfl B.sum boot_sum (pa_cons (pv 0) pa_nil)) (pa_cons (pv 1) (pa_cons (pe_callB (call_sum_seq rfl) rfl B.sum boot_sum (pa_cons (pv 2) pa_nil)) pa_nil)))) pa_nil)))))))),?_⟩
  rcases h with ⟨st,u,v,x,d,e,g,i,rfl,hu,hus,hv,hx,hxs,due,q⟩ | ⟨st,a,c,n,g,ns,cs,rfl,hu,hU,g0,g5,hc,hcl,ht,n1,n4,q⟩
  · refine ⟨_,rfl,_,rfl,_,rfl,u,v,x,st,d,e,g,rfl,hu,hus,hv,hx,hxs,fun hw H1 g1=>?_,fun hw hw2 H1 g1=>?_,fun hw hw2 hw3 H1 g1=>?_,fun hw hw2 hw3 H1 g1=>?_⟩
    · rcases due with ⟨rfl,_⟩ | ⟨_,z,_⟩ | ⟨_,z,_⟩
      · exact q H1 g1
      all_goals (rw [hw] at z;cases z)
    · rcases due with ⟨_,z⟩ | ⟨rfl,_⟩ | ⟨_,_,z,_⟩
      · rw [hw] at z;cases z
      · exact q H1 g1
      · rw [hw2] at z;cases z
    · rcases due with ⟨_,z⟩ | ⟨_,_,z⟩ | ⟨rfl,_⟩
      · rw [hw] at z;cases z
      · rw [hw2] at z;cases z
      · exact q H1 g1
    · rcases due with ⟨_,z⟩ | ⟨_,_,z⟩ | ⟨_,_,_,z⟩
      · rw [hw] at z;cases z
      · rw [hw2] at z;cases z
      · rw [hw3] at z;cases z
  · obtain ⟨a',e,_,ha⟩:=hu.di
    cases e
    obtain ⟨c',e,_,hcc⟩:=hc.di
    cases e
    have uok:=urnD_of hU n1 n4
    have wok:wholeD 0 5 (.int g)=true:=by
      show (decide ((0:Int) <= g) && decide (g <= 5))=true
      rw [decide_eq_true g0,decide_eq_true g5];rfl
    have cok:countsD (lenD (DI ns)) (DI (kI cs))=true:=by rw [lenD_DI,hU.len];exact countsD_of hcl ht
    have hs1:ns.sum <= 80:=by
      have:=Mt.sum_le (m:=20) (l:=ns) fun x hx=>(hU.nn x hx).2
      rw [hU.len] at this;omega
    have hs0:=hU.pos
    refine ⟨_,rfl,_,rfl,_,rfl,_,_,_,st,DI ns,.int g,DI (kI cs),rfl,hu,short_DI (by rw [hU.len];omega),Dt.int _ _ _,hc,short_DI (by rw [kI_len];omega),(fun z=>by rw [uok] at z;cases z),(fun _ z=>by rw [wok] at z;cases z),(fun _ _ z=>by rw [cok] at z;cases z),fun _ _ _ H1 g1=>?_⟩
    refine ⟨_,rfl,c,cs,rfl,g1 _ _ hcc,by omega,ht,?_⟩
    have o0:=ords_bd cs (fct (tot cs)) (Int.le_of_lt (fct_pos _))
    have o1:=fct_bd ht
    have hbn:∀ x ∈ ns,0 <= x/\x <= 100:=fun x hx=>by have:=hU.nn x hx;omega
    refine ⟨_,rfl,_,rfl,a,c,_,_,rfl,.of (g1 _ _ ha),.of (g1 _ _ hcc),?_⟩
    have hlen:ns.length=cs.length:=by rw [hU.len,hcl]
    refine for_zip (K:=K) (a:=a) (b:=c) (xs:=ns.map V.int) (ys:=(kI cs).map V.int) (by rw [List.length_map,List.length_map,kI_len,hlen]) (fun i σ H4=>Same H H4/\i <= cs.length/\∃ o4 o5,σ=[some (.ref a),some (.int g),some (.ref c),some (.int (ordN cs * rps g (ns.take i) (cs.take i))),o4,o5])
      ⟨g1,Nat.zero_le _,none,none,by show [_,_,_,some (V.int (ordN cs)),_,_]=[_,_,_,some (V.int (ordN cs * 1)),_,_];rw [Int.mul_one]⟩ (fun i σ H4 _ h=>⟨.of (h.1 _ _ ha),.of (h.1 _ _ hcc)⟩) (fun i x y σ H4 p hx hy hp h=>?_) (fun σ H4 h=>?_)
    · obtain ⟨g4,_,o4,o5,rfl⟩:=h
      have hi:i < cs.length:=by have:=(List.getElem?_eq_some_iff.mp hy).1;rwa [List.length_map,kI_len] at this
      have hi2:i < ns.length:=by omega
      rw [kI_get hi] at hy
      cases hy
      rw [List.getElem?_map,List.getElem?_eq_getElem hi2] at hx
      cases hx
      have hm:=tot_mem (List.getElem_mem hi)
      obtain ⟨b0,b1⟩:=hbn _ (List.getElem_mem hi2)
      obtain ⟨r0,r1⟩:=rps_bd g0 g5 (bs:=ns.take i) (cs:=cs.take i) (fun x hx=>hbn x (List.mem_of_mem_take hx)) (by have:=tot_take cs i;omega)
      have p0:=rp_nn b0 g0 cs[i]
      have p1:=rp_bd (m:=40) b0 b1 g0 g5 (by decide) cs[i] (by omega)
      have t1:=tot_take cs i
      have l0:0 <= ordN cs * rps g (ns.take i) (cs.take i):=Int.mul_nonneg o0.1 r0
      have l1:ordN cs * rps g (ns.take i) (cs.take i) <= 512 ^ (tot cs + tot (cs.take i)):=by
        rw [Int.pow_add]
        exact Int.mul_le_mul (Int.le_trans o0.2 o1) r1 r0 (Int.pow_nonneg (by decide))
      refine ⟨p,_,rfl,.of upd_same,rfl,_,_,rfl,_,_,rfl,rfl,?_⟩
      refine ⟨_,rfl,_,rfl,_,rfl,_,rfl,_,_,cs[i],rfl,b0,b1,g0,g5,by omega,_,_,rfl,rfl,⟨bits_512 l0 l1 (by omega),bits_512 p0 p1 (by omega)⟩,g4.trans (Same.new hp),hi,some (.int ns[i]),some (.int ((cs[i]:Nat):Int)),?_⟩
      rw [List.take_add_one,List.take_add_one,List.getElem?_eq_getElem hi,List.getElem?_eq_getElem hi2]
      show [some (V.ref a),some (V.int g),some (V.ref c),some (V.int (ordN cs * rps g (ns.take i) (cs.take i) * rp ns[i] g cs[i])),some (V.int ns[i]),some (V.int ((cs[i]:Nat):Int))]=[some (V.ref a),some (V.int g),some (V.ref c),some (V.int (ordN cs * rps g (ns.take i ++ [ns[i]]) (cs.take i ++ [cs[i]]))),some (V.int ns[i]),some (V.int ((cs[i]:Nat):Int))]
      rw [rps_snoc g _ _ (by rw [List.length_take,List.length_take];omega),<- Int.mul_assoc]
    · obtain ⟨g4,_,o4,o5,rfl⟩:=h
      rw [List.length_map,List.take_length,hlen,List.take_length]
      obtain ⟨r0,r1⟩:=rps_bd g0 g5 (bs:=ns) (cs:=cs) hbn ht
      have sp:=rp_pos hs0 g0 (tot cs)
      have sb:=rp_bd (m:=40) (Int.le_of_lt hs0) (show ns.sum <= 100 by omega) g0 g5 (by decide) (tot cs) ht
      refine ⟨_,rfl,_,rfl,a,ns,rfl,.inr (.of (g4 _ _ ha)),_,rfl,_,rfl,c,kI cs,rfl,.inr (.of (g4 _ _ hcc)),ns.sum,g,tot cs,by rw [kI_sum],Int.le_of_lt hs0,by omega,g0,g5,ht,?_⟩
      exact ⟨_,_,rfl,Int.mul_nonneg o0.1 r0,sp,log_512 sp sb (by omega),fun p H' g5' hp=>q p H' (g4.trans g5') hp⟩
end
end G
namespace G
open PySem PySem.Spec PyProof.Rows L2 Mt
theorem canLayI':∀ ns:List Int,PyData.canLayAll0 (ns.map PyData.int)=true
  | []=>rfl
  | n :: ns=>by
    show PyData.canLayAll0 (.int n :: ns.map PyData.int)=true
    unfold PyData.canLayAll0
    rw [canLayI' ns]
    first | rfl | simp [PyData.canLay0]
theorem depthI':∀ ns:List Int,PyData.depthAll (ns.map PyData.int) <= 1
  | []=>by first | decide | simp [PyData.depthAll]
  | n :: ns=>by
    have:=depthI' ns
    show PyData.depthAll (.int n :: ns.map PyData.int) <= 1
    unfold PyData.depthAll
    have h:PyData.depth (.int n) <= 1:=by first | decide | simp [PyData.depth]
    omega
theorem shapedI' (ns:List Int):SeqAt.shaped (DI ns)=true:=by
  unfold SeqAt.shaped
  rw [Bool.and_eq_true]
  refine ⟨?_,decide_eq_true ?_⟩
  · show PyData.canLay0 (.tuple (ns.map PyData.int))=true
    unfold PyData.canLay0
    exact canLayI' ns
  · have:=depthI' ns
    show PyData.depth (.tuple (ns.map PyData.int)) <= 64
    unfold PyData.depth
    omega
theorem eqD_dec {H:Hp} {x y:V} {a b:List Int} {l:Addr} {Q:VK} (hx:Dt l H (DI a) x) (hy:Dt l H (DI b) y) (q:Q (.bl (decide (a=b))) H):rEqD x y H Q:=by
  refine ⟨l,DI a,DI b,hx,hy,shapedI' a,shapedI' b,?_⟩
  have e:PyData.eqv (DI a) (DI b)=decide (a=b):=by unfold DI PyData.eqv;exact eqvI2 a b
  rw [e];exact q
theorem fr_is0 {x:Rat}:(fr x=[0,1]) ↔ x=0:=by
  constructor
  · intro h;exact fr_inj (h.trans fr_zero.symm)
  · rintro rfl;exact fr_zero
theorem kI_getD (cs:List Nat) (k:Nat):(kI cs).getD k 0=((cs.getD k 0:Nat):Int):=by
  unfold kI
  rw [List.getD_eq_getElem?_getD,List.getD_eq_getElem?_getD,List.getElem?_map]
  cases cs[k]? <;> rfl
section
variable {P:Program} {w:World} {K:PySem.W.Frag} {mg:Str->Option Value} {base:Heap} {f:Addr} {fd:FuncData} {ec:Nat->Addr}
structure Sim (st:Addr) (H:Hp) (n:Nat) (ns:List Int) (g:Int) (cs:List Nat) (a c:Addr):Prop where
  u:Dt st H (DI ns) (.ref a)
  uu:Mt.Urn n 20 ns
  g0:0 <= g
  g5:g <= 5
  d:Dt st H (DI (kI cs)) (.ref c)
  len:cs.length=n
  le:tot cs <= 40
  n1:1 <= n
  n4:n <= 4
theorem Sim.cc {st:Addr} {H:Hp} {n:Nat} {ns:List Int} {g:Int} {cs:List Nat} {a c:Addr} {ec:Nat->Addr} {Q:VK} {E:XK} (h:Sim st H n ns g cs a c) (q:∀ p H',Same H H'->H' p=some (.tup ((fr (cch ns g cs)).map V.int))->Q (.ref p) H'):sp_cc ec [.ref a,.int g,.ref c] H Q E :=
  .inr ⟨st,a,c,n,g,ns,cs,rfl,h.u,h.uu,h.g0,h.g5,h.d,h.len,h.le,h.n1,h.n4,q⟩
theorem Sim.sum {st:Addr} {H:Hp} {n:Nat} {ns:List Int} {g:Int} {cs:List Nat} {a c:Addr} (h:Sim st H n ns g cs a c):0 < ns.sum/\ns.sum <= 80/\0 <= g * (tot cs:Int)/\g * (tot cs:Int) <= 200:=by
  have h1:=Mt.sum_le (m:=20) (l:=ns) fun x hx=>(h.uu.nn x hx).2
  have h2:=h.uu.pos
  have h3:=h.g0
  have h4:=h.le
  have h5:=h.n4
  rw [h.uu.len] at h1
  exact ⟨h2,by omega,Int.mul_nonneg h3 (by omega),Int.le_trans (Int.mul_le_mul h.g5 (show (tot cs:Int) <= 40 by omega) (by omega) (by decide)) (by decide)⟩
def Zer (ns:List Int) (cs:List Nat):Prop:=∃ k,k < ns.length/\zer ns cs k=true
def sp_nsV:Sp:=fun vs H Q _=>∃ (st a c:Addr) (n:Nat) (g:Int) (ns:List Int) (cs:List Nat),vs=[.ref a,.int g,.ref c]/\Sim st H n ns g cs a c/\(Zer ns cs->∀ H',Same H H'->Q .non H') /\
  (¬ Zer ns cs->∀ p xs H',Same H H'->H' p=some (.tup xs)->TL H' ((nsh g ns cs).map fr) xs->Q (.ref p) H')
def sp_ns (ec:Nat->Addr):Sp:=fun vs H Q E=>RefC ec vs H E ∨ sp_nsV vs H Q E
abbrev s_ns:Stmt:=top 36
theorem sc_ns:FnScope ["urn","more","counts","balls_now"] ["urn","more","counts"] (defScope s_ns):=⟨rfl,rfl,rfl,by decide +kernel,rfl,by decide +kernel,by decide +kernel⟩
theorem ok_ns (F:Fun K "next_shares" "next_shares" s_ns f fd) (B:Bt mg) (c1:CalX P w K mg base 7 "counts_chance" ["urn","more","counts"] (sp_cc ec)) (c2:Cal P w K mg base 2 "fraction" ["top","bottom"] sp_fraction):FnOk P w K mg base (CX1 P w) 8 f fd ["urn","more","counts"] (sp_ns ec):=by
  refine F.okX sc_ns (fun vs H Q E h=>?_) (fun cdv A outer s H vs Q E hr h=>?_)
  · rcases h with ⟨st,u,v,x,d,e,g,i,rfl,_⟩ | ⟨st,a,c,n,g,ns,cs,rfl,_⟩
    · rfl
    · rfl
  refine ⟨_,pss_cons (ps_if (pt_cmpR (op_eqD hr.units) (pe_calx c1 hr rfl passes1 (pa_cons (pv 0) (pa_cons (pv 1) (pa_cons (pv 2) pa_nil)))) (pe_tup (pa_cons pe_int (pa_cons pe_int pa_nil))) (nomark _)) (pss_one (ps_ret pe_non)) pss_nil)
    (PSs.nox (pss_cons (ps_set (i:=3) sc_ns.nd rfl (Or.inr rfl) (pe_compG (N:=["balls","many","more"]) (ix:=[none,none,some 1]) (ifs:=[]) (tc:=tTrue) rfl (pi_zip rfl B.zip (pa_cons (pv 0) (pa_cons (pv 2) pa_nil)))
      (fun s H ex=>pgtK (K:=K) (n:=2) rfl rfl (pgs_cons (pg_c (i:=0) (by decide +kernel) rfl (Or.inl rfl) (.inr rfl)) (pgs_cons (pg_c (i:=1) (by decide +kernel) rfl (Or.inl rfl) (.inr rfl)) pgs_nil))) (fun s H ex=>pifs_nil) (fun s H ex=>(pe_op op_add (pv 0) (pe_op op_mul (pv 2) (pv 1)))) rfl (by decide +kernel) (by rfl) (by rfl) (fun _=>rfl)))
    (pss_one (ps_ret (pe_callTy call_tuple_of rfl B.tuple boot_tuple (pa_cons (pe_compG (N:=["balls","balls_now"]) (ix:=[none,some 3]) (ifs:=[]) (tc:=tTrue) rfl (pi_list (pv 3))
      (fun s H ex=>pg_c (i:=0) (by decide +kernel) rfl (Or.inl rfl) (.inr rfl)) (fun s H ex=>pifs_nil) (fun s H ex=>(pe_cal (c2.up (by decide)) hr rfl (pa_cons (pv 0) (pa_cons (pe_callB (sumK (K:=K) rfl rfl) rfl B.sum boot_sum (pa_cons (pv 1) pa_nil)) pa_nil)))) rfl (by decide +kernel) (by rfl) (by rfl) (fun _=>rfl)) pa_nil)))))),?_⟩
  rcases h with hrf | ⟨st,a,c,n,g,ns,cs,rfl,hA,q1,q2⟩
  · obtain ⟨st,u,v,x,d,e,g,i,rfl,rest⟩:=hrf
    exact ⟨_,rfl,_,rfl,_,rfl,.inl ⟨st,u,v,x,d,e,g,i,rfl,rest⟩⟩
  · refine ⟨_,rfl,_,rfl,_,rfl,hA.cc fun p1 H1 g1 hp1=>⟨(by show 2 <= sizeLine;decide),fun p2 hp2=>?_⟩⟩
    have g2:Same H1 (upd H1 p2 (.tup [.int 0,.int 1])):=Same.new hp2
    have hp2':upd H1 p2 (.tup [.int 0,.int 1]) p2=some (.tup [.int 0,.int 1]):=upd_same
    try dsimp only
    generalize upd H1 p2 (.tup [.int 0,.int 1])=H2 at g2 hp2'
    have np1:p1 ≠ p1 + p2 + 1:=Nat.ne_of_lt (Nat.lt_succ_of_le (Nat.le_add_right p1 p2))
    have np2:p2 ≠ p1 + p2 + 1:=Nat.ne_of_lt (Nat.lt_succ_of_le (Nat.le_add_left p2 p1))
    refine eqD_dec (a:=fr (cch ns g cs)) (b:=[0,1]) (l:=p1 + p2 + 1) (Dt.mkI np1 (g2 _ _ hp1)) (Dt.mkI np2 hp2') ⟨_,rfl,?_⟩
    have gg:=g1.trans g2
    obtain ⟨a',e,_,ha⟩:=hA.u.di
    cases e
    obtain ⟨c',e,_,hc⟩:=hA.d.di
    cases e
    have hU:=hA.uu
    have hcl:=hA.len
    have n4:=hA.n4
    have g0:=hA.g0
    have hle:=hA.le
    have hnl:ns.length=cs.length:=by rw [hU.len,hcl]
    have hz:=cch_zero (g:=g) g0 hnl (fun x hx=>(hU.nn x hx).1) hU.pos
    obtain ⟨s0,s1,t0,t1⟩:=hA.sum
    by_cases hzz:Zer ns cs
    · rw [decide_eq_true (fr_is0.mpr (hz.mpr hzz))]
      exact iteT (q1 hzz H2 gg)
    · rw [decide_eq_false (fun e=>hzz (hz.mp (fr_is0.mp e)))]
      refine iteF ?_
      have hbl:=bnow_len (g:=g) hnl
      refine ⟨_,rfl,_,rfl,a,c,_,_,rfl,.of (gg _ _ ha),.of (gg _ _ hc),?_⟩
      refine blk_zip (K:=K) (a:=a) (b:=c) (xs:=ns.map V.int) (ys:=(kI cs).map V.int) (sz (by rw [List.length_map];omega)) (by rw [List.length_map,List.length_map,kI_len,hnl])
        (fun i zs H3=>Same H H3/\i <= n/\zs=((bnow g ns cs).take i).map V.int) ⟨gg,Nat.zero_le _,rfl⟩ (fun i zs H3 h=>?_) (fun i zs H3 _ h=>⟨.of (h.1 _ _ ha),.of (h.1 _ _ hc)⟩) ⟨rfl,rfl⟩ (fun i zs H3 x y p hx hy hp h=>?_) (fun zs H3 h=>?_)
      · obtain ⟨_,hil,rfl⟩:=h
        rw [List.length_map,List.length_take,hbl,hU.len];omega
      · obtain ⟨hS,hil,rfl⟩:=h
        have hi:i < ns.length:=by have:=(List.getElem?_eq_some_iff.mp hx).1;rwa [List.length_map] at this
        have hi2:i < cs.length:=by omega
        rw [List.getElem?_map,List.getElem?_eq_getElem hi] at hx
        cases hx
        rw [kI_get hi2] at hy
        cases hy
        refine ⟨_,rfl,_,rfl,_,rfl,_,_,rfl,rfl,.inl ⟨by omega,by have:=hA.g5;omega⟩,_,_,rfl,rfl,hS.trans (Same.new hp),by have:=hU.len;omega,?_⟩
        rw [List.take_add_one,bnow_get hi hi2,List.map_append];rfl
      · obtain ⟨hS,hil,rfl⟩:=h
        intro pb hpb
        rw [List.length_map,<- hbl,List.take_length]
        have g4:Same H (upd H3 pb (.lst ((bnow g ns cs).map V.int))):=hS.trans (Same.new hpb)
        have hb4:upd H3 pb (.lst ((bnow g ns cs).map V.int)) pb=some (.lst ((bnow g ns cs).map V.int)):=upd_same
        try dsimp -proj only [gName]
        generalize upd H3 pb (.lst ((bnow g ns cs).map V.int))=H4 at g4 hb4
        have hsum:=bnow_sum g hnl
        refine ⟨_,rfl,pb,rfl,⟨_,.of hb4⟩,blk_list (K:=K) (a:=pb) (xs:=(bnow g ns cs).map V.int) (sz (by rw [List.length_map,hbl];omega)) (fun i ys H5=>Same H4 H5/\i <= n/\TL H5 (((nsh g ns cs).take i).map fr) ys) ⟨Same.refl _,Nat.zero_le _,by rw [List.take_zero];exact TL.nil _⟩ (fun i ys H5 h=>?_) (fun i ys H5 _ h=>.of (h.1 _ _ hb4)) rfl (fun i ys H5 x hx h=>?_) (fun ys H5 h=>?_)⟩
        · obtain ⟨_,hil,hT⟩:=h
          rw [<- hT.len,List.length_map,List.length_take]
          have:(nsh g ns cs).length=n:=by unfold nsh;rw [List.length_map,hbl,hU.len]
          omega
        · obtain ⟨g5,hil,hT⟩:=h
          have hi0:i < (bnow g ns cs).length:=by have:=(List.getElem?_eq_some_iff.mp hx).1;rwa [List.length_map] at this
          have hi:i < ns.length:=by omega
          have hi2:i < cs.length:=by omega
          rw [List.getElem?_map,bnow_get hi hi2] at hx
          cases hx
          have hb:=hU.nn _ (List.getElem_mem hi)
          have hm:=tot_mem (List.getElem_mem hi2)
          have hg1:0 <= g * ((cs[i]:Nat):Int):=Int.mul_nonneg g0 (by omega)
          refine ⟨_,rfl,_,rfl,pb,bnow g ns cs,rfl,.inl (.of (g5 _ _ hb4)),_,_,rfl,by omega,by rw [hsum];omega,?_,fun p6 H6 g6 hp6=>⟨g5.trans g6,by have:=hU.len;omega,?_⟩⟩
          · rw [hsum];exact log_of (n:=9) (by omega) (by show _ <= 512;omega) (by decide)
          · rw [hsum] at hp6
            have e:(nsh g ns cs)[i]?=some (cut (ns[i] + g * ((cs[i]:Nat):Int)) (ns.sum + g * (tot cs:Int))):=by
              unfold nsh;rw [List.getElem?_map,bnow_get hi hi2];rfl
            rw [List.take_add_one,e,List.map_append]
            exact TL.snoc hp6 (hT.same g6)
        · obtain ⟨g5,hil,hT⟩:=h
          intro p hp
          refine ⟨p,_,rfl,.inl ⟨.of upd_same,fun t ht=>?_⟩⟩
          have gz:Same H5 (upd (upd H5 p (.lst ys)) t (.tup ys)):=(Same.new hp).trans (Same.new ht)
          refine q2 hzz t ys _ ((g4.trans g5).trans gz) upd_same ?_
          have e:(nsh g ns cs).take ((bnow g ns cs).map V.int).length=nsh g ns cs:=by
            rw [List.length_map]
            have:(bnow g ns cs).length=(nsh g ns cs).length:=by unfold nsh;rw [List.length_map]
            rw [this,List.take_length]
          rw [e] at hT
          exact hT.same gz
end
end G
namespace G
open PySem PySem.Spec PyProof.Rows L2 Mt Mq
structure AskW (st:Addr) (H:Hp) (n:Nat) (ns:List Int) (rs:List (List Int)) (k:Nat) (a:Addr) (v:V):Prop where
  u:Dt st H (DI ns) (.ref a)
  uu:Mt.Urn n 20 ns
  r:Dt st H (DR rs) v
  ru:Mt.Rul n 5 rs
  n1:1 <= n
  n4:n <= 4
  k6:k <= 6
theorem qe_key {H:Hp} {k:List Int}:∀ {T:TabQ} {kvs:List (List Key × V)},QE H T kvs->k ∈ T.map (·.1)->∃ v,valV kvs (Md.kI k)=some v/\FrAt H (valQ T k) v
  | [],[],_,h=>by cases h
  | p :: T,kv :: kvs,⟨a,b,c⟩,h=>by
    obtain ⟨kk,x⟩:=kv
    have a:kk=Md.kI p.1:=a
    subst a
    unfold valQ
    by_cases e:p.1=k
    · rw [if_pos e,valV_pos (by rw [e])]
      exact ⟨x,rfl,b⟩
    · rw [if_neg e,valV_neg (fun z=>e (Md.kI_inj z))]
      refine qe_key c ?_
      rcases List.mem_cons.mp h with z | z
      · exact absurd z.symm e
      · exact z
  | [],_ :: _,h',_=>h'.elim
  | _ :: _,[],h',_=>h'.elim
theorem count_kI (ks:List Nat) (j:Nat):(kI ks).count (j:Int)=ks.count j:=by
  unfold kI
  induction ks with
  | nil=>rfl
  | cons a ks ih =>
    rw [List.map_cons,List.count_cons,List.count_cons,ih]
    congr 1
    by_cases e:a=j
    · subst e;simp
    · have:¬ ((a:Int)=(j:Int)):=fun z=>e (by omega)
      simp [e,this]
section
variable {P:Program} {w:World} {K:PySem.W.Frag} {mg:Str->Option Value} {base:Heap} {f:Addr} {fd:FuncData} {ec:Nat->Addr} {Bs:Addr}
def sp_awN:Sp:=fun vs H Q _=>∃ (a:Addr) (ks:List Nat) (n:Nat),vs=[.ref a,.int 0,.int ((n:Int) - 1)]/\TupN H a ((kI ks).map V.int)/\(∀ k ∈ ks,k < n)/\ks.length <= 20/\∀ H',Same H H'->Q (.bl true) H'
theorem ok_awN (F:Fun K "are_wholes" "are_wholes" s_are_wholes f fd) (B:Bt mg) (c1:Cal P w K mg base 1 "is_whole" ["thing","low","high"] sp_is_whole):FnOk P w K mg base CX0 2 f fd ["thing","low","high"] sp_awN:=by
  refine F.ok sc_are_wholes (fun vs H Q E h=>?_) (fun cdv A outer s H vs Q E hr h=>?_)
  · obtain ⟨a,ks,n,rfl,_⟩:=h
    rfl
  obtain ⟨a,ks,n,rfl,hT,hk,hl,q⟩:=h
  refine ⟨_,pss_one (ps_ret (pe_and (pe_callB call_isiN rfl B.isinstance boot_isinstance (pa_cons (pv 0) (pa_cons (pe_bty rfl B.tuple boot_tuple) pa_nil)))
    (pe_one (pe_callB (call_all_seq rfl) rfl B.all boot_all (pa_cons (pe_compG (N:=["part","low","high"]) (ix:=[none,some 1,some 2]) (ifs:=[]) (tc:=tTrue) rfl (pi_tup (pv 0))
      (fun s H ex=>pg_c (i:=0) (by decide +kernel) rfl (Or.inl rfl) (.inr rfl)) (fun s H ex=>pifs_nil) (fun s H ex=>pe_cal c1 hr rfl (pa_cons (pv 0) (pa_cons (pv 1) (pa_cons (pv 2) pa_nil)))) rfl (by decide +kernel) (by rfl) (by rfl) (fun _=>rfl)) pa_nil))))),?_⟩
  refine ⟨_,rfl,a,_,rfl,hT,_,rfl,iteT ?_⟩
  have xl:((kI ks).map V.int).length=ks.length:=by rw [List.length_map,kI_len]
  refine ⟨_,rfl,a,rfl,⟨_,hT.sq⟩,blk_tup (K:=K) (a:=a) (xs:=(kI ks).map V.int) (sz (by omega)) (fun i ys H2=>Same H H2/\i <= ks.length/\ys=List.replicate i (.bl true)) ⟨Same.refl H,Nat.zero_le _,rfl⟩ (fun i ys H2 h=>?_) (fun i ys H2 _ h=>(hT.same h.1).sq) rfl (fun i ys H2 x hx h=>?_) (fun ys H2 h=>?_)⟩
  · rw [h.2.2,List.length_replicate]
  · obtain ⟨hS,hil,rfl⟩:=h
    have hik:i < ks.length:=by rw [<- xl];exact (List.getElem?_eq_some_iff.mp hx).1
    rw [kI_get hik] at hx
    injection hx with hx
    subst hx
    refine ⟨_,rfl,_,rfl,_,rfl,_,0,.int ((ks[i]:Nat):Int),0,_,rfl,Dt.int _ _ _,hS,hik,?_⟩
    have:=hk _ (List.getElem_mem hik)
    have e:wholeD 0 ((n:Int) - 1) (.int ((ks[i]:Nat):Int))=true:=by
      show (decide ((0:Int) <= ((ks[i]:Nat):Int)) && decide (((ks[i]:Nat):Int) <= (n:Int) - 1))=true
      rw [decide_eq_true (by omega),decide_eq_true (by omega)];rfl
    rw [e,List.replicate_succ']
  · obtain ⟨hS,hil,rfl⟩:=h
    intro p hp
    have rt:(List.replicate ((kI ks).map V.int).length (V.bl true)).all truV=true:=List.all_eq_true.mpr fun y hy=>by rw [List.eq_of_mem_replicate hy];rfl
    refine ⟨p,_,rfl,.inl (.of upd_same),List.all_eq_true.mpr fun y hy=>by rw [List.eq_of_mem_replicate hy];rfl,?_⟩
    rw [rt]
    exact q _ (hS.trans (Same.new hp))
def sp_ndN:Sp:=fun vs H Q _=>∃ (a d:Addr) (xs:List V) (ks:List Nat),vs=[.ref a,.ref d]/\H a=some (.tup xs)/\TupN H d ((kI ks).map V.int)/\(∀ k ∈ ks,k < xs.length)/\ks.length <= 20/\∀ H',Same H H'->Q .non H'
abbrev s_need_draws:Stmt:=top 27
theorem sc_need_draws:FnScope ["urn","thing"] ["urn","thing"] (defScope s_need_draws):=⟨rfl,rfl,rfl,by decide +kernel,rfl,by decide +kernel,by decide +kernel⟩
theorem ok_ndN (F:Fun K "need_draws" "need_draws" s_need_draws f fd) (B:Bt mg) (C:CtC mg) (R:Errs K mg ec Bs) (c1:Cal P w K mg base 2 "are_wholes" ["thing","low","high"] sp_awN):FnOk P w K mg base (CX1 P w) 3 f fd ["urn","thing"] sp_ndN:=by
  refine F.okX sc_need_draws (fun vs H Q E h=>?_) (fun cdv A outer s H vs Q E hr h=>?_)
  · obtain ⟨a,d,xs,ks,rfl,_⟩:=h
    rfl
  obtain ⟨a,d,xs,ks,rfl,ha,hT,hk,hl,q⟩:=h
  obtain ⟨td,hD⟩:=C.draws
  refine ⟨_,pss_one (ps_if (PW.pt (pw_or (pt_not (pt_val (pe_cal c1 hr rfl (pa_cons (pv 1) (pa_cons pe_int (pa_cons (pe_op op_sub (pe_callB call_len_seq rfl B.len PySem.boot_len (pa_cons (pv 0) pa_nil)) pe_int) pa_nil))))))
    (pw_or1 (pt_cmpR op_gt (pe_callB call_len_seq rfl B.len PySem.boot_len (pa_cons (pv 1) pa_nil)) (pe_glob (v:=.int 20) rfl hD ⟨td,rfl⟩) (nomark _))))) (pss_one (ps_raise1 R.e4 (R.xc 4 (by decide)) pe_str (fun σ H Q Q' m q=>m _ _ q))) pss_nil),?_⟩
  refine ⟨_,rfl,_,rfl,a,_,rfl,.inr (.of ha),_,_,rfl,rfl,d,ks,xs.length,rfl,hT,hk,hl,fun H1 g1=>⟨_,rfl,iteF ?_⟩⟩
  refine ⟨_,rfl,d,_,rfl,.inr (hT.same g1).sq,_,_,rfl,rfl,_,rfl,?_⟩
  rw [List.length_map,kI_len,decide_eq_false (show ¬ (20:Int) < (ks.length:Int) by omega)]
  exact iteF (q H1 g1)
def sp_ao:Sp:=fun vs H Q _=>∃ (st a d:Addr) (v:V) (n:Nat) (ns:List Int) (rs:List (List Int)) (ks:List Nat),vs=[.ref a,v,.ref d]/\AskW st H n ns rs ks.length a v/\TupN H d ((kI ks).map V.int)/\(∀ k ∈ ks,k < n) /\
  ∀ r H',Same H H'->H' r=some (.tup ((fr (linD (allD ns rs ks.length) (iC n (cntN n ks)))).map V.int))->Q (.ref r) H'
abbrev s_ao:Stmt:=top 42
theorem sc_ao:FnScope ["urn","rule","draws","goal"] ["urn","rule","draws"] (defScope s_ao):=⟨rfl,rfl,rfl,by decide +kernel,rfl,by decide +kernel,by decide +kernel⟩
theorem ok_ao (F:Fun K "any_order" "any_order" s_ao f fd) (B:Bt mg) (c1:CalX P w K mg base 6 "need_urn_and_rule" ["urn","rule"] (sp_nur ec)) (c2:CalX P w K mg base 3 "need_draws" ["urn","thing"] sp_ndN) (c3:Cal P w K mg base 5 "chances_by_counts" ["urn","rule","goal","draws"] sp_cbc):FnOk P w K mg base (CX1 P w) 7 f fd ["urn","rule","draws"] sp_ao:=by
  refine F.okX sc_ao (fun vs H Q E h=>?_) (fun cdv A outer s H vs Q E hr h=>?_)
  · obtain ⟨st,a,d,v,n,ns,rs,ks,rfl,_⟩:=h
    rfl
  obtain ⟨st,a,d,v,n,ns,rs,ks,rfl,hA,hT,hk,q⟩:=h
  refine ⟨_,(@pss_cons _ _ _ _ _ (ps_expr (pe_calx c1 hr rfl passes1 (@pa_cons _ _ _ _ _ (pv 0) (@pa_cons _ _ _ _ _ (pv 1) pa_nil (by rfl)) (by rfl))))
    (@pss_cons _ _ _ _ _ (ps_expr (pe_calx (c2.up (by decide)) hr rfl passes1 (@pa_cons _ _ _ _ _ (pv 0) (@pa_cons _ _ _ _ _ (pv 2) pa_nil (by rfl)) (by rfl))))
    (PSs.nox (@pss_cons _ _ _ _ _ (@ps_set _ _ 3 _ _ _ _ sc_ao.nd rfl (Or.inl rfl) (pe_callTy call_tuple_of rfl B.tuple boot_tuple (@pa_cons _ _ _ _ _ (pe_compG (N:=["kind","draws"]) (ix:=[none,some 2]) (ifs:=[]) (tc:=tTrue) rfl (pi_range1 rfl B.range (@pa_cons _ _ _ _ _ (pe_callB call_len_seq rfl B.len PySem.boot_len (@pa_cons _ _ _ _ _ (pv 0) pa_nil (by rfl))) pa_nil (by rfl)))
      (fun s H ex=>pg_c (i:=0) (by decide +kernel) rfl (Or.inl rfl) (.inr rfl)) (fun s H ex=>pifs_nil) (fun s H ex=>(pe_bmN PySem.F.slot_tuple_count PySem.F.type_tuple_count (cntK (K:=K) rfl) (pv 1) (@pa_cons _ _ _ _ _ (pv 0) pa_nil (by rfl)))) rfl (by decide +kernel) (by rfl) (by rfl) (fun _=>rfl)) pa_nil (by rfl))) (by rfl) (by first | exact .inl rfl | exact .inr rfl))
    (@pss_one _ _ _ (ps_ret (pe_dget (hu_of hr) (pe_cal (c3.up (by decide)) hr rfl (@pa_cons _ _ _ _ _ (pv 0) (@pa_cons _ _ _ _ _ (pv 1) (@pa_cons _ _ _ _ _ (pv 3) (@pa_cons _ _ _ _ _ (pe_callB call_len_seq rfl B.len PySem.boot_len (@pa_cons _ _ _ _ _ (pv 2) pa_nil (by rfl))) pa_nil (by rfl)) (by rfl)) (by rfl)) (by rfl))) (pv 3) (fun _ _=>rfl)))))))),?_⟩
  obtain ⟨a',e,_,ha⟩:=hA.u.di
  cases e
  have hU:=hA.uu
  have hR:=hA.ru
  have n1:=hA.n1
  have n4:=hA.n4
  have k6:=hA.k6
  have hul:=hU.len
  have uok:=urnD_of hU n1 n4
  have rok:ruleD (lenD (DI ns):Int) (DR rs)=true:=by rw [lenD_DI,hU.len];exact ruleD_of hR
  have hlen:=hR.len
  refine ⟨_,rfl,_,rfl,_,_,st,DI ns,DR rs,rfl,hA.u,short_DI (by rw [hU.len];omega),hA.r,⟨short_DR (by omega),shorts_DR hR (by omega)⟩,(fun z=>by rw [uok] at z;cases z),(fun _ z=>by rw [rok] at z;cases z),fun _ _ H1 g1=>?_⟩
  refine ⟨_,rfl,_,rfl,a,d,_,ks,rfl,g1 _ _ ha,hT.same g1,(by rw [List.length_map,hul];exact hk),by omega,fun H2 g2=>?_⟩
  have g12:=g1.trans g2
  refine ⟨_,rfl,a,_,rfl,.inr (.of (g12 _ _ ha)),(n:Int),by rw [List.length_map,hul],by omega,by omega,?_⟩
  have gl:(kI (cntN n ks)).length=n:=by rw [kI_len,cntN_len]
  refine blk_range (lo:=0) (n:=n) (sz (by omega)) (fun i ys H3=>Same H2 H3/\i <= n/\ys=((kI (cntN n ks)).take i).map V.int) ⟨Same.refl _,Nat.zero_le _,rfl⟩ (fun i ys H3 h=>?_) rfl (fun i ys H3 hi h=>?_) (fun ys H3 h=>?_)
  · obtain ⟨_,hi,rfl⟩:=h
    rw [List.length_map,List.length_take,gl];omega
  · obtain ⟨g3,hin,rfl⟩:=h
    have e0:(0:Int) + (i:Int)=(i:Int):=by omega
    rw [e0]
    have hT3:=hT.same (g12.trans g3)
    refine ⟨_,rfl,⟨d,_,rfl,hT3⟩,_,rfl,d,kI ks,(i:Int),rfl,rfl,hT3.sq,g3,by omega,?_⟩
    have eg:(kI (cntN n ks))[i]?=some ((ks.count i:Nat):Int):=by
      unfold kI cntN
      rw [List.getElem?_map,List.getElem?_map,List.getElem?_range hi];rfl
    rw [List.take_add_one,eg,List.map_append,count_kI];rfl
  obtain ⟨g3,_,rfl⟩:=h
  intro pl hpl
  rw [show (kI (cntN n ks)).take n=kI (cntN n ks) from List.take_of_length_le (by omega)]
  refine ⟨pl,_,rfl,.inl ⟨.of upd_same,fun ga hga=>?_⟩⟩
  have g4:Same H3 (upd (upd H3 pl (.lst ((kI (cntN n ks)).map V.int))) ga (.tup ((kI (cntN n ks)).map V.int))):=(Same.new hpl).trans (Same.new hga)
  have h4:upd (upd H3 pl (.lst ((kI (cntN n ks)).map V.int))) ga (.tup ((kI (cntN n ks)).map V.int)) ga=some (.tup ((kI (cntN n ks)).map V.int)):=upd_same
  try dsimp -proj only [gName]
  generalize upd (upd H3 pl (.lst ((kI (cntN n ks)).map V.int))) ga (.tup ((kI (cntN n ks)).map V.int))=H4 at g4 h4
  have g14:=(g12.trans g3).trans g4
  refine ⟨_,rfl,_,rfl,_,rfl,_,rfl,d,_,rfl,.inr (hT.same g14).sq,?_⟩
  rw [List.length_map,kI_len]
  refine ⟨a,ga,st,v,n,ks.length,ns,kI (cntN n ks),rs,rfl,g14 _ _ ha,hU,h4,gl,hA.r.kp (g14.kp st),hR,n1,n4,k6,fun p kvs H5 g5 hpn hp5 hq5=>?_⟩
  have hkey:kI (cntN n ks) ∈ (cbQ ns rs (kI (cntN n ks)) ks.length).map (·.1):=cb_key (rs:=rs) (g:=cI (cntN n ks)) hul ks.length (cntN n ks) (cntN_len n ks) (tot_cnt hk) fun j=>by rw [cI_get];exact Int.le_refl _
  obtain ⟨x,hx1,r,rfl,hr⟩:=qe_key hq5 hkey
  have hval:valQ (cbQ ns rs (kI (cntN n ks)) ks.length) (kI (cntN n ks))=linD (allD ns rs ks.length) (iC n (cntN n ks)):=cb_goal hR n4 hU k6 (cntN_len n ks)
  rw [hval] at hr
  have hk5:H5 ga=some (.tup ((Md.kI (kI (cntN n ks))).map kV)):=by
    rw [g5 _ _ h4]
    unfold Md.kI
    rw [List.map_map];rfl
  refine ⟨_,rfl,p,_,rfl,?_,q r H5 (g14.trans g5) hr⟩
  have:=DGet.t (H:=H5) hp5 hk5
  rw [hx1] at this
  exact this
end
end G
namespace G
open PySem PySem.Spec PyProof.Rows L2 Mt Mq
theorem cut_mulI (x:Rat) {t s:Int} (hs:0 < s):cut (x.num * t) ((x.den:Int) * s)=x * cut t s:=by
  unfold cut
  have e:((x.den:Int) * s).toNat=x.den * s.toNat:=by
    have e1:s=((s.toNat:Nat):Int):=by omega
    rw [e1,<- Int.natCast_mul,Int.toNat_natCast,Int.toNat_natCast]
  rw [e,<- Rat.mkRat_mul_mkRat,Rat.mkRat_self]
theorem v1_bd {B:Nat} {x:Rat} (h:Vq (LL ^ 6) B x) (hB:B <= 2 ^ 84):Bd 1900 x:=by
  have e1:LL ^ 6 <= 2 ^ 1800:=Nat.le_trans (LL_pow 6) (Nat.pow_le_pow_right (by decide) (by decide))
  refine (h.mono hB).bd (LLp_pos 6) ?_ (Nat.le_trans e1 (Nat.pow_le_pow_right (by decide) (by decide)))
  have:(2:Nat) ^ 1900=2 ^ 1800 * 2 ^ 100:=by rw [<- Nat.pow_add]
  rw [this]
  exact Nat.mul_le_mul e1 (Nat.pow_le_pow_right (by decide) (by decide))
theorem kI_snoc (s:List Nat) (y:Nat):kI (s ++ [y])=kI s ++ [(y:Int)]:=by unfold kI;rw [List.map_append];rfl
theorem TL.app {H:Hp}:∀ {A B:List (List Int)} {xs ys:List V},TL H A xs->TL H B ys->TL H (A ++ B) (xs ++ ys)
  | [],_,[],_,_,h=>h
  | _ :: _,_,_ :: _,_,h,k=>⟨h.1,TL.app h.2 k⟩
  | [],_,_ :: _,_,h,_=>h.elim
  | _ :: _,_,[],_,h,_=>h.elim
def stC (m:Nat) (s:List Nat):List (List Nat):=(List.range (m - tot s + 1)).map fun y=>s ++ [y]
section
variable {P:Program} {w:World} {K:PySem.W.Frag} {mg:Str->Option Value} {base:Heap} {f:Addr} {fd:FuncData} {ec:Nat->Addr} {Bs:Addr}
def sp_cut:Sp:=fun vs H Q _=>∃ t b:Int,vs=[.int t,.int b]/\0 <= t/\0 < b/\b.natAbs.log2 < 9000/\∀ p H',Same H H'->H' p=some (.tup ((fr (cut t b)).map V.int))->Q (.ref p) H'
abbrev s_cut:Stmt:=top 49
theorem sc_cut:FnScope ["_law_top","_law_bottom","_law_one","_law_other"] ["_law_top","_law_bottom"] (defScope s_cut):=⟨rfl,rfl,rfl,by decide +kernel,rfl,by decide +kernel,by decide +kernel⟩
theorem ok_cut (F:Fun K "_law_cut" "_law_cut" s_cut f fd) (B:Bt mg):FnOk P w K mg base CX0 1 f fd ["_law_top","_law_bottom"] sp_cut:=by
  refine F.ok sc_cut (fun vs H Q E h=>?_) (fun cdv A outer s H vs Q E hr h=>?_)
  · obtain ⟨x,y,rfl,_⟩:=h
    rfl
  obtain ⟨t,b,rfl,ht,hb,hlog,q⟩:=h
  refine ⟨_,pss_cons (ps_par (i:=2) (j:=3) rfl sc_cut.nd rfl rfl (by decide) rfl rfl (pa_cons (pe_callB call_abs rfl B.abs boot_abs (pa_cons (pv 0) pa_nil)) (pa_cons (pv 1) pa_nil)) rfl)
    (pss_cons (ps_while PassesOwn.never (pt_cmpR op_gt (pv 3) pe_int (nomark _)) (pss_one (ps_par (i:=2) (j:=3) rfl sc_cut.nd rfl rfl (by decide) rfl rfl (pa_cons (pv 3) (pa_cons (pe_op op_mod (pv 2) (pv 3)) pa_nil)) rfl)))
    (pss_one (ps_ret (pe_tup (pa_cons (pe_op op_fdivB (pv 0) (pv 2)) (pa_cons (pe_op op_fdivB (pv 1) (pv 2)) pa_nil)))))),?_⟩
  have g:=gcd_log (t:=t) hb hlog
  refine ⟨_,rfl,t,rfl,_,rfl,_,_,rfl,?_⟩
  rw [if_neg (show ¬ t < 0 by omega)]
  refine ⟨fun m σ H2=>H2=H/\∃ x' y':Int,0 <= x'/\0 <= y'/\σ=[some (.int t),some (.int b),some (.int x'),some (.int y')]/\m=y'.toNat/\Int.gcd x' y'=Int.gcd t b,⟨_,rfl,t,b,ht,by omega,rfl,rfl,rfl⟩,?_⟩
  rintro m σ H2 ⟨rfl,x',y',h1,h2,rfl,rfl,e⟩
  refine ⟨_,rfl,_,_,rfl,rfl,_,rfl,?_⟩
  by_cases hz:0 < y'
  · rw [decide_eq_true hz]
    refine iteT ⟨fun σ' H'=>H'=H2/\∃ a c:Int,0 <= a/\0 <= c/\σ'=[some (.int t),some (.int b),some (.int a),some (.int c)]/\c.toNat < y'.toNat/\Int.gcd a c=Int.gcd t b,?_,?_⟩
    · rintro σ' H' ⟨rfl,a,c,ha,hc,rfl,hlt,e2⟩
      exact ⟨_,hlt,rfl,a,c,ha,hc,rfl,rfl,e2⟩
    · have hm:=Int.emod_nonneg x' (show y' ≠ 0 by omega)
      have hm2:=Int.emod_lt_of_pos x' hz
      refine ⟨_,rfl,_,rfl,_,rfl,_,_,rfl,rfl,hz,_,_,rfl,?_⟩
      exact ⟨rfl,y',x' % y',h2,hm,rfl,by omega,by rw [gcd_step h1 hz];exact e⟩
  · rw [decide_eq_false hz]
    have hy:y'=0:=by omega
    subst hy
    have e2:x'=((Int.gcd t b:Nat):Int):=by rw [<- e,Int.gcd_zero_right];omega
    subst e2
    refine iteF ⟨_,rfl,_,rfl,_,_,rfl,rfl,g,_,rfl,_,rfl,_,_,rfl,rfl,g,(by show 2 <= sizeLine;decide),fun p hp=>?_⟩
    refine q p _ (Same.new hp) ?_
    rw [upd_same,fr_cut hb];rfl
def sp_by:Sp:=fun vs H Q _=>∃ (p q:Addr) (x:Rat) (t s:Int) (n:Nat),vs=[.ref p,.ref q]/\H p=some (.tup ((fr x).map V.int))/\H q=some (.tup [.int t,.int s])/\0 <= x/\0 <= t/\t <= 4096/\0 < s/\s <= 4096/\Bd n x/\n <= 7000 /\
  ∀ r H',Same H H'->H' r=some (.tup ((fr (x * cut t s)).map V.int))->Q (.ref r) H'
abbrev s_by:Stmt:=top 51
theorem sc_by:FnScope ["_law_one","_law_other"] ["_law_one","_law_other"] (defScope s_by):=⟨rfl,rfl,rfl,by decide +kernel,rfl,by decide +kernel,by decide +kernel⟩
theorem ok_by (F:Fun K "_law_by" "_law_by" s_by f fd) (c1:Cal P w K mg base 1 "_law_cut" ["_law_top","_law_bottom"] sp_cut):FnOk P w K mg base CX0 2 f fd ["_law_one","_law_other"] sp_by:=by
  refine F.ok sc_by (fun vs H Q E h=>?_) (fun cdv A outer s H vs Q E hr h=>?_)
  · obtain ⟨p,q,x,t,s,n,rfl,_⟩:=h
    rfl
  obtain ⟨p,q,x,t,s,n,rfl,hp,hq,x0,t0,t1,s0,s1,bx,hn,k⟩:=h
  refine ⟨_,pss_one (ps_ret (pe_cal c1 hr rfl (pa_cons (pe_op op_mulB (pe_ix ix_tup (pv 0) pe_int (fun _ _=>rfl)) (pe_ix ix_tup (pv 1) pe_int (fun _ _=>rfl))) (pa_cons (pe_op op_mulB (pe_ix ix_tup (pv 0) pe_int (fun _ _=>rfl)) (pe_ix ix_tup (pv 1) pe_int (fun _ _=>rfl))) pa_nil)))),?_⟩
  have hp':H p=some (.tup [.int x.num,.int x.den]):=hp
  have e12:(2:Nat) ^ 12=4096:=by decide
  have b1:Builtin.Int.intBits x.num <= 2 ^ 20:=bits_of bx.num (by omega)
  have b2:Builtin.Int.intBits t <= 2 ^ 20:=bits_of (n:=12) (by omega) (by decide)
  have b3:Builtin.Int.intBits (x.den:Int) <= 2 ^ 20:=bits_of (by rw [Int.natAbs_natCast];exact bx.den) (by omega)
  have b4:Builtin.Int.intBits s <= 2 ^ 20:=bits_of (n:=12) (by omega) (by decide)
  have hd:=x.den_nz
  refine ⟨_,rfl,p,_,_,_,rfl,rfl,.of hp',atI_nat (j:=0) rfl,_,rfl,q,_,_,_,rfl,rfl,.of hq,atI_nat (j:=0) rfl,_,_,rfl,rfl,⟨b1,b2⟩,
    _,rfl,p,_,_,_,rfl,rfl,.of hp',atI_nat (j:=1) rfl,_,rfl,q,_,_,_,rfl,rfl,.of hq,atI_nat (j:=1) rfl,_,_,rfl,rfl,⟨b3,b4⟩,_,_,rfl,Int.mul_nonneg (Rat.num_nonneg.mpr x0) t0,Int.mul_pos (by omega) s0,?_,?_⟩
  · rw [Nat.log2_lt (by rw [Int.natAbs_mul];exact Nat.mul_ne_zero (by omega) (by omega)),Int.natAbs_mul,Int.natAbs_natCast]
    refine Nat.lt_of_le_of_lt (Nat.mul_le_mul bx.den (show s.natAbs <= 2 ^ 12 by omega)) ?_
    rw [<- Nat.pow_add]
    exact Nat.pow_lt_pow_right (by decide) (by omega)
  · rw [cut_mulI x s0];exact k
abbrev s_lplus:Stmt:=top 50
theorem sc_lplus:FnScope ["_law_one","_law_other"] ["_law_one","_law_other"] (defScope s_lplus):=⟨rfl,rfl,rfl,by decide +kernel,rfl,by decide +kernel,by decide +kernel⟩
theorem ok_lplus (F:Fun K "_law_plus" "_law_plus" s_lplus f fd) (c1:Cal P w K mg base 1 "_law_cut" ["_law_top","_law_bottom"] sp_cut):FnOk P w K mg base CX0 2 f fd ["_law_one","_law_other"] sp_plus:=by
  refine F.ok sc_lplus (fun vs H Q E h=>?_) (fun cdv A outer s H vs Q E hr h=>?_)
  · obtain ⟨p,q,x,y,n,m,rfl,_⟩:=h
    rfl
  obtain ⟨p,q,x,y,n,m,rfl,hp,hq,x0,y0,bx,by',hnm,k⟩:=h
  refine ⟨_,pss_one (ps_ret (pe_cal c1 hr rfl (pa_cons (pe_op op_add (pe_op op_mulB (pe_ix ix_tup (pv 0) pe_int (fun _ _=>rfl)) (pe_ix ix_tup (pv 1) pe_int (fun _ _=>rfl))) (pe_op op_mulB (pe_ix ix_tup (pv 1) pe_int (fun _ _=>rfl)) (pe_ix ix_tup (pv 0) pe_int (fun _ _=>rfl)))) (pa_cons (pe_op op_mulB (pe_ix ix_tup (pv 0) pe_int (fun _ _=>rfl)) (pe_ix ix_tup (pv 1) pe_int (fun _ _=>rfl))) pa_nil)))),?_⟩
  have hp':H p=some (.tup [.int x.num,.int x.den]):=hp
  have hq':H q=some (.tup [.int y.num,.int y.den]):=hq
  have b1:Builtin.Int.intBits x.num <= 2 ^ 20:=bits_of bx.num (by omega)
  have b2:Builtin.Int.intBits y.num <= 2 ^ 20:=bits_of by'.num (by omega)
  have b3:Builtin.Int.intBits (x.den:Int) <= 2 ^ 20:=bits_of (by rw [Int.natAbs_natCast];exact bx.den) (by omega)
  have b4:Builtin.Int.intBits (y.den:Int) <= 2 ^ 20:=bits_of (by rw [Int.natAbs_natCast];exact by'.den) (by omega)
  refine ⟨_,rfl,p,_,_,_,rfl,rfl,.of hp',atI_nat (j:=0) rfl,_,rfl,q,_,_,_,rfl,rfl,.of hq',atI_nat (j:=1) rfl,_,_,rfl,rfl,⟨b1,b4⟩,
    _,rfl,q,_,_,_,rfl,rfl,.of hq',atI_nat (j:=0) rfl,_,rfl,p,_,_,_,rfl,rfl,.of hp',atI_nat (j:=1) rfl,_,_,rfl,rfl,⟨b2,b3⟩,_,_,rfl,rfl,
    _,rfl,p,_,_,_,rfl,rfl,.of hp',atI_nat (j:=1) rfl,_,rfl,q,_,_,_,rfl,rfl,.of hq',atI_nat (j:=1) rfl,_,_,rfl,rfl,⟨b3,b4⟩,_,_,rfl,?_,?_,?_,?_⟩
  · exact Int.add_nonneg (Int.mul_nonneg x0 (by omega)) (Int.mul_nonneg y0 (by omega))
  · have h1:=x.den_nz;have h2:=y.den_nz
    have:=Nat.mul_pos (Nat.pos_of_ne_zero h1) (Nat.pos_of_ne_zero h2)
    rw [<- Int.natCast_mul];omega
  · rw [Nat.log2_lt (by have h1:=x.den_nz;have h2:=y.den_nz;rw [Int.natAbs_mul];exact Nat.mul_ne_zero (by omega) (by omega)),Int.natAbs_mul]
    refine Nat.lt_of_le_of_lt (Nat.mul_le_mul bx.den by'.den) ?_
    rw [<- Nat.pow_add]
    exact Nat.pow_lt_pow_right (by decide) (by omega)
  · rw [cut_add];exact k
def sp_ac:Sp:=fun vs H Q _=>∃ n m:Nat,vs=[.int n,.int m]/\n <= 4/\m <= 5/\∀ p ys H',Same H H'->H' p=some (.lst ys)->TL H' ((cF m n).map kI) ys->Q (.ref p) H'
abbrev s_ac:Stmt:=top 52
theorem sc_ac:FnScope ["_law_kinds","_law_many","_law_found","_law_kind","_law_longer","_law_some"] ["_law_kinds","_law_many"] (defScope s_ac):=⟨rfl,rfl,rfl,by decide +kernel,rfl,by decide +kernel,by decide +kernel⟩
theorem ok_ac (F:Fun K "_law_all_counts" "_law_all_counts" s_ac f fd) (B:Bt mg):FnOk P w K mg base CX0 1 f fd ["_law_kinds","_law_many"] sp_ac:=by
  refine F.ok sc_ac (fun vs H Q E h=>?_) (fun cdv A outer s H vs Q E hr h=>?_)
  · obtain ⟨n,m,rfl,_⟩:=h
    rfl
  obtain ⟨n,m,rfl,n4,m5,q⟩:=h
  refine ⟨_,(@pss_cons _ _ _ _ _ (@ps_set _ _ 2 _ _ _ _ sc_ac.nd rfl (Or.inl rfl) (@pe_lst _ _ _ _ (@pa_cons _ _ _ _ _ (@pe_tup _ _ _ _ _ pa_nil) pa_nil (by rfl))) (by rfl) (by first | exact .inl rfl | exact .inr rfl))
    (@pss_cons _ _ _ _ _ (ps_for PassesOwn.never rfl (pi_range1 rfl B.range (@pa_cons _ _ _ _ _ (pv 0) pa_nil (by rfl))) (pg_name (i:=3) sc_ac.nd rfl (Or.inl rfl))
    (@pss_cons _ _ _ _ _ (@ps_set _ _ 4 _ _ _ _ sc_ac.nd rfl (Or.inl rfl) (@pe_lst _ _ _ _ pa_nil) (by rfl) (by first | exact .inl rfl | exact .inr rfl))
    (@pss_cons _ _ _ _ _ (ps_for PassesOwn.never rfl (pi_list (pv 2)) (pg_name (i:=5) sc_ac.nd rfl (Or.inr rfl))
    (@pss_one _ _ _ (ps_expr (pe_bm PySem.F.plainAttrs_list PySem.F.slot_list_extend PySem.F.type_list_extend mt_extend (pv 4) (@pa_cons _ _ _ _ _ (pe_compG (N:=["_law_one","_law_some"]) (ix:=[none,some 5]) (ifs:=[]) (tc:=tTrue) rfl (pi_range1 rfl B.range (@pa_cons _ _ _ _ _ (@pe_op _ _ _ _ _ _ _ _ op_add (@pe_op _ _ _ _ _ _ _ _ op_sub (pv 1) (pe_callB (call_sum_seq rfl) rfl B.sum boot_sum (@pa_cons _ _ _ _ _ (pv 5) pa_nil (by rfl)))) pe_int) pa_nil (by rfl)))
      (fun s H ex=>pg_c (i:=0) (by decide +kernel) rfl (Or.inl rfl) (.inr rfl)) (fun s H ex=>pifs_nil) (fun s H ex=>(@pe_op _ _ _ _ _ _ _ _ catS (pv 1) (@pe_tup _ _ _ _ _ (@pa_cons _ _ _ _ _ (pv 0) pa_nil (by rfl))))) rfl (by decide +kernel) (by rfl) (by rfl) (fun _=>rfl)) pa_nil (by rfl))))))
    (@pss_one _ _ _ (@ps_set _ _ 2 _ _ _ _ sc_ac.nd rfl (Or.inl rfl) (pv 4) (by rfl) (by first | exact .inl rfl | exact .inr rfl))))))
    (@pss_one _ _ _ (ps_ret (pe_compG (N:=["_law_some","_law_many"]) (ix:=[none,some 1]) rfl (pi_list (pv 2))
      (fun s H ex=>pg_c (i:=0) (by decide +kernel) rfl (Or.inl rfl) (.inr rfl)) (fun s H ex=>pifs_one (@pt_cmpR _ _ _ _ _ _ _ _ op_eq (pe_callB (sumK (K:=K) rfl rfl) rfl B.sum boot_sum (@pa_cons _ _ _ _ _ (pv 0) pa_nil (by rfl))) (pv 1) (nomark _))) (fun s H ex=>(pv 0)) rfl (by decide +kernel) (by rfl) (by rfl) (fun _=>rfl)))))),?_⟩
  have nls:∀ xs ys,HO.lst xs ≠ .tup ys:=fun _ _ z=>by cases z
  have LB:∀ i,i <= 4->(cL m i).length <= 1296:=fun i hi=>Nat.le_trans (cL_len m i) (Nat.le_trans (Nat.pow_le_pow_left (show m + 1 <= 6 by omega) i) (Nat.pow_le_pow_right (n:=6) (by decide) hi))
  refine ⟨(by show 0 <= sizeLine;decide),fun p0 hp0=>⟨(by show 1 <= sizeLine;decide),fun pl hpl=>?_⟩⟩
  have g0:Same H (upd H p0 (.tup [])):=Same.new hp0
  have h0:upd H p0 (.tup []) p0=some (.tup []):=upd_same
  try dsimp -proj only [gName] at *
  generalize upd H p0 (.tup [])=H0 at g0 h0 hpl
  have g1:Same H0 (upd H0 pl (.lst [.ref p0])):=Same.new hpl
  have h1:upd H0 pl (.lst [.ref p0]) pl=some (.lst [.ref p0]):=upd_same
  generalize upd H0 pl (.lst [.ref p0])=H1 at g1 h1
  have t0:TL H1 ((cL m 0).map kI) [.ref p0]:=⟨⟨p0,rfl,g1 _ _ h0⟩,trivial⟩
  refine ⟨_,rfl,(n:Int),rfl,by omega,by omega,?_⟩
  refine for_range (lo:=0) (n:=n) (fun j σ H4=>Same H H4/\j <= n/\∃ p ys o3 o4 o5,σ=[some (.int n),some (.int m),some (.ref p),o3,o4,o5]/\H4 p=some (.lst ys)/\TL H4 ((cL m j).map kI) ys)
    ⟨g0.trans g1,Nat.zero_le _,pl,_,none,none,none,rfl,h1,t0⟩ (fun j σ H4 hj h=>?_) (fun σ H4 h=>?_)
  · obtain ⟨g4,hjn,p,ys,o3,o4,o5,rfl,hp4,hT⟩:=h
    have e0:(0:Int) + (j:Int)=(j:Int):=by omega
    rw [e0]
    have lA:=LB j (by omega)
    have mem:∀ s ∈ cL m j,s.length=j/\tot s <= m:=fun s hs=>cL_mem hs
    obtain ⟨A,eA⟩:∃ A,A=cL m j:=⟨_,rfl⟩
    rw [<- eA] at hT lA mem
    refine ⟨(by show 0 <= sizeLine;decide),fun lo hlo=>?_⟩
    have hHlo:H lo=none:=g4.free hlo
    have nplo:p ≠ lo:=ne_of_none hp4 hlo
    have g5:Same H4 (upd H4 lo (.lst [])):=Same.new hlo
    have hlo5:upd H4 lo (.lst []) lo=some (.lst []):=upd_same
    try dsimp -proj only [gName]
    generalize upd H4 lo (.lst [])=H5 at g5 hlo5
    have hT5:TL H5 (A.map kI) ys:=hT.same g5
    have hp5:=g5 _ _ hp4
    have gH5:=g4.trans g5
    have yl:ys.length=A.length:=by rw [<- hT5.len,List.length_map]
    refine ⟨_,rfl,p,rfl,⟨_,.of hp5⟩,?_⟩
    refine for_list (K:=K) (a:=p) (xs:=ys) (fun i σ H6=>Kp lo H5 H6/\(∃ zs,H6 lo=some (.lst zs)/\TL H6 (((A.take i).flatMap (stC m)).map kI) zs)/\i <= ys.length/\∃ o5,σ=[some (.int n),some (.int m),some (.ref p),some (.int j),some (.ref lo),o5])
      ⟨Kp.refl _ _,⟨[],hlo5,trivial⟩,Nat.zero_le _,o5,rfl⟩ (fun i σ H6 _ h=>.of (h.1 _ _ nplo hp5)) (fun i t σ H6 ht h=>?_) (fun σ H6 h=>?_)
    · obtain ⟨k6,⟨zs,hlo6,hz6⟩,hi,o5,rfl⟩:=h
      have t56:=kp_tup hlo5 (nls _) k6
      obtain ⟨z,d,hz,rfl,hd5⟩:=hT5.get ht
      rw [List.getElem?_map] at hz
      obtain ⟨s0,hs0,ez⟩:=Option.map_eq_some_iff.mp hz
      subst ez
      obtain ⟨sl,st⟩:=mem s0 (List.mem_of_getElem? hs0)
      have hd6:=t56 _ _ hd5
      have hil:=(List.getElem?_eq_some_iff.mp ht).1
      have es:(m:Int) - (kI s0).sum + 1=((m - tot s0 + 1:Nat):Int):=by rw [kI_sum];omega
      refine ⟨_,rfl,.inl ⟨rfl,_,.of hlo6⟩,_,rfl,_,rfl,d,kI s0,rfl,.inr (.of hd6),_,_,rfl,rfl,_,_,rfl,rfl,((m - tot s0 + 1:Nat):Int),(by show [V.int ((m:Int) - (kI s0).sum + 1)]=_;rw [es]),by omega,by omega,?_⟩
      refine blk_range (lo:=0) (n:=m - tot s0 + 1) (sz (by omega)) (fun y cs H7=>Same H6 H7/\y <= m - tot s0 + 1/\TL H7 (((List.range y).map fun y=>s0 ++ [y]).map kI) cs) ⟨Same.refl _,Nat.zero_le _,trivial⟩ (fun y cs H7 h=>?_) rfl (fun y cs H7 hy h=>?_) (fun cs H7 h=>?_)
      · rw [<- h.2.2.len,List.length_map,List.length_map,List.length_range]
      · obtain ⟨g7,hyn,hc⟩:=h
        have e0:(0:Int) + (y:Int)=(y:Int):=by omega
        rw [e0]
        refine ⟨_,rfl,_,rfl,(by show 1 <= sizeLine;decide),fun p1 hp1=>⟨d,p1,(kI s0).map V.int,[.int y],rfl,rfl,(Same.new hp1) _ _ (g7 _ _ hd6),upd_same,(by rw [List.length_map,kI_len];show s0.length + 1 <= _;omega),fun pd Hc gc hpd=>⟨g7.trans ((Same.new hp1).trans gc),by omega,?_⟩⟩⟩
        rw [List.range_succ,List.map_append,List.map_append]
        refine TL.snoc ?_ (hc.same ((Same.new hp1).trans gc))
        rw [hpd]
        show _=some (HO.tup ((kI (s0 ++ [y])).map V.int))
        rw [kI_snoc,List.map_append];rfl
      obtain ⟨g7,_,hc⟩:=h
      intro pc hpc
      have g8:Same H6 (upd H7 pc (.lst cs)):=g7.trans (Same.new hpc)
      have hpc8:upd H7 pc (.lst cs) pc=some (.lst cs):=upd_same
      have hc8:=hc.same (Same.new (o:=.lst cs) hpc)
      try dsimp -proj only
      generalize upd H7 pc (.lst cs)=H8 at g8 hpc8 hc8
      have hlo8:=g8 _ _ hlo6
      have cl:cs.length=m - tot s0 + 1:=by rw [<- hc8.len,List.length_map,List.length_map,List.length_range]
      have zl:zs.length <= 1296 * 6:=by
        rw [<- hz6.len,List.length_map]
        have:∀ B:List (List Nat),(B.flatMap (stC m)).length <= B.length * 6:=by
          intro B
          induction B with
          | nil=>simp
          | cons b B ih =>
            rw [List.flatMap_cons,List.length_append,List.length_cons]
            have:(stC m b).length <= 6:=by unfold stC;rw [List.length_map,List.length_range];omega
            omega
        refine Nat.le_trans (this _) (Nat.mul_le_mul_right _ ?_)
        rw [List.length_take];omega
      refine ⟨lo,pc,zs,cs,rfl,rfl,hlo8,hpc8,(by rw [sizeLine_eq];omega),?_⟩
      refine ⟨(k6.trans (g8.kp lo)).trans Kp.at,⟨_,upd_same,?_⟩,hil,_,rfl⟩
      rw [List.take_add_one,hs0]
      show TL _ (((A.take i ++ [s0]).flatMap (stC m)).map kI) _
      rw [List.flatMap_append,List.map_append]
      have e1:[s0].flatMap (stC m)=stC m s0:=by simp
      rw [e1]
      refine TL.app ((hz6.same g8).kp hlo8 (nls _) Kp.at) ?_
      exact hc8.kp hlo8 (nls _) Kp.at
    · obtain ⟨k6,⟨zs,hlo6,hz6⟩,_,o5,rfl⟩:=h
      rw [yl,List.take_length,eA] at hz6
      exact ⟨_,rfl,fun c o e=>k6 _ _ (ne_of_none e hHlo) (gH5 _ _ e),hj,lo,zs,_,_,_,rfl,hlo6,hz6⟩
  obtain ⟨g4,_,p,ys,o3,o4,o5,rfl,hp4,hT⟩:=h
  have lA:=LB n n4
  have yl:ys.length=(cL m n).length:=by rw [<- hT.len,List.length_map]
  refine ⟨_,rfl,p,rfl,⟨_,.of hp4⟩,?_⟩
  refine blk_listF (K:=K) (a:=p) (xs:=ys) (by rw [sizeLine_eq];omega) (fun i zs H5=>Same H4 H5/\i <= ys.length/\TL H5 ((((cL m n).take i).filter fun s=>decide (tot s=m)).map kI) zs) ⟨Same.refl _,Nat.zero_le _,trivial⟩ (fun i zs H5 h=>?_) (fun i zs H5 _ h=>.of (h.1 _ _ hp4)) rfl (fun i zs H5 x hx h=>?_) (fun zs H5 h=>?_)
  · rw [<- h.2.2.len,List.length_map]
    exact Nat.le_trans (List.length_filter_le _ _) (by rw [List.length_take];omega)
  · obtain ⟨g5,hi,hz⟩:=h
    obtain ⟨z,d,hz0,rfl,hd⟩:=(hT.same g5).get hx
    rw [List.getElem?_map] at hz0
    obtain ⟨s0,hs0,ez⟩:=Option.map_eq_some_iff.mp hz0
    subst ez
    have hil:=(List.getElem?_eq_some_iff.mp hx).1
    refine ⟨_,rfl,d,kI s0,rfl,.inr (.of hd),_,rfl,rfl,_,rfl,?_⟩
    rw [kI_sum]
    have et:(cL m n).take (i + 1)=(cL m n).take i ++ [s0]:=by rw [List.take_add_one,hs0];rfl
    by_cases hm:tot s0=m
    · rw [decide_eq_true (show V.int (tot s0:Int)=V.int (m:Int) by rw [hm])]
      refine iteT ⟨_,rfl,g5,hil,?_⟩
      rw [et,List.filter_append,List.map_append]
      have e2:[s0].filter (fun s=>decide (tot s=m))=[s0]:=by rw [List.filter_cons,if_pos (decide_eq_true hm)];rfl
      rw [e2]
      exact TL.snoc hd hz
    · rw [decide_eq_false (show ¬ V.int (tot s0:Int)=V.int (m:Int) from fun z=>hm (by injection z with z;omega))]
      refine iteF ⟨g5,hil,?_⟩
      rw [et,List.filter_append]
      have e2:[s0].filter (fun s=>decide (tot s=m))=[]:=by rw [List.filter_cons,if_neg (by rw [decide_eq_false hm];decide)];rfl
      rw [e2,List.append_nil]
      exact hz
  · obtain ⟨g5,_,hz⟩:=h
    rw [yl,List.take_length] at hz
    intro pz hpz
    exact q pz zs _ ((g4.trans g5).trans (Same.new hpz)) upd_same (hz.same (Same.new hpz))
end
end G
namespace G
open PySem PySem.Spec PyProof.Rows L2 Mt Mq
theorem cch_bd {n:Nat} {ns:List Int} {g:Int} {cs:List Nat} (hU:Mt.Urn n 20 ns) (n4:n <= 4) (g0:0 <= g) (g5:g <= 5) (ht:tot cs <= 40):Bd 720 (cch ns g cs):=by
  have hs:ns.sum <= 80:=by
    have h1:=Mt.sum_le (m:=20) (l:=ns) fun x hx=>(hU.nn x hx).2
    rw [hU.len] at h1
    omega
  have hp:=rp_pos hU.pos g0 (tot cs)
  have hb:=rp_bd (m:=40) (Int.le_of_lt hU.pos) (by omega) g0 g5 (by decide) (tot cs) ht
  have hf:=fct_bd ht
  obtain ⟨o0,o1⟩:=ords_bd cs (fct (tot cs)) (Int.le_of_lt (fct_pos _))
  obtain ⟨r0,r1⟩:=rps_bd g0 g5 (bs:=ns) (cs:=cs) (fun x hx=>⟨(hU.nn x hx).1,by have:=(hU.nn x hx).2;omega⟩) ht
  have m1:=pow_mono (a:=tot cs) (b:=40) ht
  have e40:((2 ^ 360:Nat):Int)=512 ^ 40:=pow_512 40
  have o2:ordN cs <= 512 ^ 40:=by
    have:ordN cs <= fct (tot cs):=o1
    omega
  have o3:0 <= ordN cs:=o0
  unfold cch
  refine Bd.cut hp ?_ ?_
  · have h1:ordN cs * rps g ns cs <= 512 ^ 40 * 512 ^ 40:=Int.mul_le_mul o2 (by omega) r0 (Int.pow_nonneg (by decide))
    have h2:0 <= ordN cs * rps g ns cs:=Int.mul_nonneg o3 r0
    have h3:((2 ^ 720:Nat):Int)=512 ^ 40 * 512 ^ 40:=by rw [<- e40,<- Int.natCast_mul,<- Nat.pow_add]
    omega
  · have h3:(2:Nat) ^ 360 <= 2 ^ 720:=Nat.pow_le_pow_right (by decide) (by decide)
    omega
theorem nsh_get {g:Int} {ns:List Int} {cs:List Nat} {j:Nat} (hl:ns.length=cs.length) (hj:j < cs.length):(nsh g ns cs)[j]?=some (Mt.share (bnow g ns cs) j):=by
  unfold nsh Mt.share
  rw [List.getElem?_map,bnow_get (by omega) hj,bnow_getD hl hj,bnow_sum g hl,List.getD_eq_getElem?_getD,List.getD_eq_getElem?_getD,List.getElem?_eq_getElem hj,List.getElem?_eq_getElem (by omega)]
  rfl
theorem dec_cut (cs:List Nat) (j:Nat) (hj:j < cs.length) (h0:0 < cs.getD j 0):(kI (decN cs j)).map V.int=((kI cs).map V.int).take j ++ [V.int ((kI cs).getD j 0 - 1)] ++ ((kI cs).map V.int).drop (j + 1):=by
  have e:(kI cs).getD j 0 - 1=((cs.getD j 0 - 1:Nat):Int):=by rw [kI_getD];omega
  rw [e]
  unfold decN kI
  rw [List.map_set,List.map_set,List.set_eq_take_append_cons_drop,if_pos (by rw [List.length_map,List.length_map];exact hj),List.append_assoc]
  rfl
theorem cut_self' (y:Rat):cut y.num (y.den:Int)=y:=by
  unfold cut
  rw [Int.toNat_natCast,Rat.mkRat_self]
section
variable {P:Program} {w:World} {K:PySem.W.Frag} {mg:Str->Option Value} {base:Heap} {f:Addr} {fd:FuncData} {ec:Nat->Addr} {Bs:Addr}
structure CalsH (P:Program) (w:World) (K:PySem.W.Frag) (mg:Str->Option Value) (base:Heap) (ec:Nat->Addr):Prop where
  ns:CalX P w K mg base 8 "next_shares" ["urn","more","counts"] (sp_ns ec)
  cc:CalX P w K mg base 8 "counts_chance" ["urn","more","counts"] (sp_cc ec)
  plus:Cal P w K mg base 8 "_law_plus" ["_law_one","_law_other"] sp_plus
  by':Cal P w K mg base 8 "_law_by" ["_law_one","_law_other"] sp_by
def sp_ah:Sp:=fun vs H Q _=>∃ (st a c:Addr) (n:Nat) (g:Int) (ns:List Int) (cs:List Nat),vs=[.ref a,.int g,.ref c]/\Sim st H n ns g cs a c/\0 < tot cs /\
  ∀ r H',Same H H'->H' r=some (.tup ((fr (cch ns g cs)).map V.int))->Q (.ref r) H'
abbrev s_ah:Stmt:=top 53
theorem sc_ah:FnScope ["_law_urn_here","_law_more","_law_counts","_law_found","_law_kind","_law_fewer","_law_parts"] ["_law_urn_here","_law_more","_law_counts"] (defScope s_ah):=⟨rfl,rfl,rfl,by decide +kernel,rfl,by decide +kernel,by decide +kernel⟩
theorem ok_ah (F:Fun K "_law_ahead" "_law_ahead" s_ah f fd) (B:Bt mg) (C:CalsH P w K mg base ec):FnOk P w K mg base CX0 9 f fd ["_law_urn_here","_law_more","_law_counts"] sp_ah:=by
  refine F.ok sc_ah (fun vs H Q E h=>?_) (fun cdv A outer s H vs Q E hr h=>?_)
  · obtain ⟨st,a,c,n,g,ns,cs,rfl,_⟩:=h
    rfl
  obtain ⟨st,a,c,n,g,ns,cs,rfl,hS,ht0,q⟩:=h
  refine ⟨_,(@pss_cons _ _ _ _ _ (@ps_set _ _ 3 _ _ _ _ sc_ah.nd rfl (Or.inl rfl) (@pe_tup _ _ _ _ _ (@pa_cons _ _ _ _ _ pe_int (@pa_cons _ _ _ _ _ pe_int pa_nil (by rfl)) (by rfl))) (by rfl) (by first | exact .inl rfl | exact .inr rfl))
    (@pss_cons _ _ _ _ _ (ps_for PassesOwn.never rfl (pi_range1 rfl B.range (@pa_cons _ _ _ _ _ (pe_callB call_len_seq rfl B.len PySem.boot_len (@pa_cons _ _ _ _ _ (pv 0) pa_nil (by rfl))) pa_nil (by rfl))) (pg_name (i:=4) sc_ah.nd rfl (Or.inl rfl))
    (@pss_one _ _ _ (ps_if (@pt_cmpR _ _ _ _ _ _ _ _ op_gt (@pe_ix _ _ _ _ _ _ _ ix_tup (pv 2) (pv 4) (fun _ _=>rfl)) pe_int (nomark _)) (@pss_cons _ _ _ _ _ (@ps_set _ _ 5 _ _ _ _ sc_ah.nd rfl (Or.inl rfl) (@pe_op _ _ _ _ _ _ _ _ catS (@pe_op _ _ _ _ _ _ _ _ catS (@pe_slice _ _ _ _ _ _ _ _ _ _ slS (pv 2) po_none (po_some (pv 4))) (@pe_tup _ _ _ _ _ (@pa_cons _ _ _ _ _ (@pe_op _ _ _ _ _ _ _ _ op_sub (@pe_ix _ _ _ _ _ _ _ ix_tup (pv 2) (pv 4) (fun _ _=>rfl)) pe_int) pa_nil (by rfl)))) (@pe_slice _ _ _ _ _ _ _ _ _ _ slS (pv 2) (po_some (@pe_op _ _ _ _ _ _ _ _ op_add (pv 4) pe_int)) po_none)) (by rfl) (by first | exact .inl rfl | exact .inr rfl))
    (@pss_cons _ _ _ _ _ (@ps_set _ _ 6 _ _ _ _ sc_ah.nd rfl (Or.inl rfl) (pe_calx C.ns hr rfl pass10 (@pa_cons _ _ _ _ _ (pv 0) (@pa_cons _ _ _ _ _ (pv 1) (@pa_cons _ _ _ _ _ (pv 5) pa_nil (by rfl)) (by rfl)) (by rfl))) (by rfl) (by first | exact .inl rfl | exact .inr rfl))
    (@pss_one _ _ _ (ps_if (pt_cmp (pc_notN (pv 6))) (@pss_one _ _ _ (@ps_set _ _ 3 _ _ _ _ sc_ah.nd rfl (Or.inl rfl) (pe_cal C.plus hr rfl (@pa_cons _ _ _ _ _ (pv 3) (@pa_cons _ _ _ _ _ (pe_cal C.by' hr rfl (@pa_cons _ _ _ _ _ (pe_calx C.cc hr rfl pass10 (@pa_cons _ _ _ _ _ (pv 0) (@pa_cons _ _ _ _ _ (pv 1) (@pa_cons _ _ _ _ _ (pv 5) pa_nil (by rfl)) (by rfl)) (by rfl))) (@pa_cons _ _ _ _ _ (@pe_ix _ _ _ _ _ _ _ ix_tup (pv 6) (pv 4) (fun _ _=>rfl)) pa_nil (by rfl)) (by rfl))) pa_nil (by rfl)) (by rfl))) (by rfl) (by first | exact .inl rfl | exact .inr rfl))) pss_nil)))) pss_nil)))
    (@pss_one _ _ _ (ps_ret (pv 3))))),?_⟩
  obtain ⟨a',e,_,ha⟩:=hS.u.di
  cases e
  obtain ⟨c',e,_,hc⟩:=hS.d.di
  cases e
  have hU:=hS.uu
  have n1:=hS.n1
  have n4:=hS.n4
  have g0:=hS.g0
  have g5:=hS.g5
  have hle:=hS.le
  have hcl:=hS.len
  have hul:=hU.len
  have hl:ns.length=cs.length:=by omega
  have hsum:=hS.sum
  refine ⟨(by show 2 <= sizeLine;decide),fun p0 hp0=>?_⟩
  have s0:Same H (upd H p0 (.tup [.int 0,.int 1])):=Same.new hp0
  refine ⟨_,rfl,a,_,rfl,.inr (.of (s0 _ _ ha)),(n:Int),by rw [List.length_map,hul],by omega,by omega,?_⟩
  refine for_range (lo:=0) (n:=n) (fun j σ H2=>Same H H2/\j <= n/\∃ r o4 o5 o6,σ=[some (.ref a),some (.int g),some (.ref c),some (.ref r),o4,o5,o6]/\H2 r=some (.tup ((fr (sumQ ((List.range j).map (parts ns g cs)))).map V.int)))
    ⟨s0,Nat.zero_le _,p0,none,none,none,rfl,upd_same⟩ (fun j σ H2 hj h=>?_) (fun σ H2 h=>?_)
  · obtain ⟨g2,hjn,r,o4,o5,o6,rfl,hr2⟩:=h
    have e0:(0:Int) + (j:Int)=(j:Int):=by omega
    rw [e0]
    have hjc:j < cs.length:=by omega
    have hjk:j < (kI cs).length:=by rw [kI_len];exact hjc
    have exs:sumQ ((List.range (j + 1)).map (parts ns g cs))=sumQ ((List.range j).map (parts ns g cs)) + parts ns g cs j:=by
      rw [List.range_succ,List.map_append,sumQ_append]
      show _ + (parts ns g cs j + 0)=_
      grind
    refine ⟨_,rfl,_,rfl,c,_,_,_,rfl,rfl,.of (g2 _ _ hc),atI_int hjk,_,_,rfl,rfl,_,rfl,?_⟩
    have ek:=kI_getD cs j
    by_cases h0:0 < cs.getD j 0
    · rw [decide_eq_true (show (0:Int) < (kI cs).getD j 0 by omega)]
      refine iteT ?_
      have l1:((kI cs).map V.int).length=cs.length:=by rw [List.length_map,kI_len]
      refine ⟨_,rfl,_,rfl,(j:Int),rfl,c,_,rfl,g2 _ _ hc,fun p1 Ha ga hp1=>?_⟩
      refine ⟨_,rfl,_,rfl,c,_,_,_,rfl,rfl,.of (ga _ _ (g2 _ _ hc)),atI_int hjk,_,_,rfl,rfl,(by show 1 <= sizeLine;decide),fun p2 hp2=>?_⟩
      have gb:Same Ha (upd Ha p2 (.tup [.int ((kI cs).getD j 0 - 1)])):=Same.new hp2
      have hp2b:upd Ha p2 (.tup [.int ((kI cs).getD j 0 - 1)]) p2=some (.tup [.int ((kI cs).getD j 0 - 1)]):=upd_same
      try dsimp -proj only
      generalize upd Ha p2 (.tup [.int ((kI cs).getD j 0 - 1)])=Hb at gb hp2b
      refine ⟨p1,p2,_,_,rfl,rfl,gb _ _ hp1,hp2b,?_,fun p3 Hc gc hp3=>?_⟩
      · have:=cutV_length ((kI cs).map V.int) none (some (j:Int))
        rw [l1] at this
        simp only [List.length_cons,List.length_nil];omega
      refine ⟨_,rfl,_,rfl,_,_,rfl,rfl,((j:Int) + 1),rfl,c,_,rfl,(gb.trans gc) _ _ (ga _ _ (g2 _ _ hc)),fun p4 Hd gd hp4'=>?_⟩
      refine ⟨p3,p4,_,_,rfl,rfl,gd _ _ hp3,hp4',?_,fun p5 He ge hp5=>?_⟩
      · have h1:=cutV_length ((kI cs).map V.int) none (some (j:Int))
        have h2:=cutV_length ((kI cs).map V.int) (some ((j:Int) + 1)) none
        rw [l1] at h1 h2
        rw [List.length_append]
        simp only [List.length_cons,List.length_nil];omega
      have ethere:cutV ((kI cs).map V.int) none (some (j:Int)) ++ [V.int ((kI cs).getD j 0 - 1)] ++ cutV ((kI cs).map V.int) (some ((j:Int) + 1)) none=(kI (decN cs j)).map V.int:=by
        rw [cut_take (by omega),show ((j:Int) + 1)=((j + 1:Nat):Int) by omega,cut_drop (by omega),dec_cut cs j hjc h0]
      rw [ethere] at hp5
      have G2e:=((((ga.trans gb).trans gc).trans gd).trans ge)
      have Ge:=g2.trans G2e
      have hre:=G2e _ _ hr2
      have t1:=tot_inc (c:=decN cs j) (j:=j) (by rw [decN_len];exact hjc)
      rw [inc_dec hjc h0] at t1
      have SM:∀ H',Same He H'->Sim (a + p5 + 1) H' n ns g (decN cs j) a p5:=fun H' gg=>⟨Dt.mkI (Nat.ne_of_lt (Nat.lt_succ_of_le (Nat.le_add_right a p5))) (gg _ _ (Ge _ _ ha)),hU,g0,g5,Dt.mkI (Nat.ne_of_lt (Nat.lt_succ_of_le (Nat.le_add_left p5 a))) (gg _ _ hp5),by rw [decN_len];exact hcl,by omega,n1,n4⟩
      have hpj:parts ns g cs j=cch ns g (decN cs j) * Mt.share (bnow g ns (decN cs j)) j:=by unfold parts;rw [if_pos h0]
      have hdl:ns.length=(decN cs j).length:=by rw [decN_len];exact hl
      refine ⟨_,rfl,_,rfl,_,rfl,.inr ⟨_,a,p5,n,g,ns,decN cs j,rfl,SM He (Same.refl _),fun hz Hf gf=>?_,fun hnz pp xs Hf gf hpp hTL=>?_⟩⟩
      · refine ⟨_,rfl,_,rfl,iteF ⟨Ge.trans gf,hj,r,_,_,_,rfl,?_⟩⟩
        have hz0:cch ns g (decN cs j)=0:=(cch_zero g0 hdl (fun x hx=>(hU.nn x hx).1) hU.pos).mpr hz
        rw [exs,hpj,hz0,show sumQ ((List.range j).map (parts ns g cs)) + 0 * Mt.share (bnow g ns (decN cs j)) j=sumQ ((List.range j).map (parts ns g cs)) by grind]
        exact gf _ _ hre
      · refine ⟨_,rfl,_,rfl,iteT ?_⟩
        refine ⟨_,rfl,_,rfl,_,rfl,_,rfl,(SM Hf gf).cc fun pc Hg gg hpc=>?_⟩
        have hjx:j < xs.length:=by rw [<- hTL.len,List.length_map];unfold nsh;rw [List.length_map,bnow_len hdl];omega
        obtain ⟨z,qa,hz1,ez,hqa⟩:=(hTL.same gg).get (List.getElem?_eq_getElem hjx)
        rw [List.getElem?_map,nsh_get hdl (by rw [decN_len];exact hjc)] at hz1
        have hz2:fr (Mt.share (bnow g ns (decN cs j)) j)=z:=by injection hz1
        subst hz2
        generalize hy:Mt.share (bnow g ns (decN cs j)) j=y at *
        have hqa':Hg qa=some (.tup [.int y.num,.int y.den]):=hqa
        have hsd:g * (tot (decN cs j):Int) <= 200/\0 <= g * (tot (decN cs j):Int):=⟨(SM He (Same.refl _)).sum.2.2.2,(SM He (Same.refl _)).sum.2.2.1⟩
        have hbs:=bnow_sum g hdl
        have hbj:=bnow_getD (g:=g) hdl (j:=j) (by rw [decN_len];exact hjc)
        have hnj:=(hU.getD j)
        have hcj:((decN cs j).getD j 0:Nat) <= 40:=by rw [decN_get hjc,if_pos rfl];have:=tot_mem (cs:=cs) (c:=cs.getD j 0) (by rw [List.getD_eq_getElem?_getD,List.getElem?_eq_getElem hjc];exact List.getElem_mem hjc);omega
        have hgc:g * (((decN cs j).getD j 0:Nat):Int) <= 200:=Int.le_trans (Int.mul_le_mul g5 (show (((decN cs j).getD j 0:Nat):Int) <= 40 by omega) (by omega) (by decide)) (by decide)
        have hgc0:0 <= g * (((decN cs j).getD j 0:Nat):Int):=Int.mul_nonneg g0 (by omega)
        have hpos:0 < (bnow g ns (decN cs j)).sum:=by rw [hbs];have:=hU.pos;omega
        have by1:Bd 12 y:=by
          rw [<- hy]
          unfold Mt.share
          have h12:(2:Nat) ^ 12=4096:=by decide
          refine Bd.cut hpos ?_ ?_
          · rw [hbj,h12];omega
          · rw [hbs,h12];have:=hsum.2.1;have:=hU.pos;omega
        have yn:0 <= y.num:=by
          rw [<- hy]
          unfold Mt.share
          rw [cut_num hpos]
          exact Int.ediv_nonneg (by rw [hbj];omega) (by omega)
        have h12:(2:Nat) ^ 12=4096:=by decide
        have hn1:=by1.num
        have hd1:=by1.den
        have hd0:=y.den_nz
        have hx0:0 <= cch ns g (decN cs j):=by
          unfold cch
          rw [<- Rat.num_nonneg,cut_num (rp_pos hU.pos g0 _)]
          exact Int.ediv_nonneg (Int.mul_nonneg (Int.le_of_lt (ordN_pos _)) (rps_bd g0 g5 (bs:=ns) (cs:=decN cs j) (fun x hx=>⟨(hU.nn x hx).1,by have:=(hU.nn x hx).2;omega⟩) (by omega)).1) (by omega)
        have bx:=cch_bd (cs:=decN cs j) hU n4 g0 g5 (by omega)
        refine ⟨_,rfl,_,rfl,pp,_,_,_,rfl,rfl,.of (gg _ _ hpp),atI_nat (List.getElem?_eq_getElem hjx),pc,qa,cch ns g (decN cs j),y.num,(y.den:Int),720,?_,hpc,hqa',hx0,yn,by omega,by omega,by omega,bx,by decide,fun pm Hh gh hpm=>?_⟩
        · rw [ez]
        rw [cut_self'] at hpm
        have Gh:=(gf.trans gg).trans gh
        have hX:=parts_sum hU.pos g0 hl ht0 j (by omega)
        have tt:=tot_take cs j
        have bX:Bd 900 (sumQ ((List.range j).map (parts ns g cs))):=by
          rw [hX]
          refine ((cch_bd hU n4 g0 g5 hle).mul (Bd.cut (n:=6) (by omega) ?_ ?_)).mono (by decide)
          · have:(2:Nat) ^ 6=64:=by decide
            omega
          · have:(2:Nat) ^ 6=64:=by decide
            omega
        have nX:0 <= sumQ ((List.range j).map (parts ns g cs)):=by
          rw [hX]
          refine Rat.mul_nonneg ?_ ?_
          · unfold cch
            rw [<- Rat.num_nonneg,cut_num (rp_pos hU.pos g0 _)]
            exact Int.ediv_nonneg (Int.mul_nonneg (Int.le_of_lt (ordN_pos _)) (rps_bd g0 g5 (bs:=ns) (cs:=cs) (fun x hx=>⟨(hU.nn x hx).1,by have:=(hU.nn x hx).2;omega⟩) hle).1) (by omega)
          · rw [<- Rat.num_nonneg,cut_num (by omega)]
            exact Int.ediv_nonneg (by omega) (by omega)
        have y0:0 <= y:=Rat.num_nonneg.mp yn
        refine ⟨r,pm,_,_,900,732,rfl,Gh _ _ hre,hpm,Rat.num_nonneg.mpr nX,Rat.num_nonneg.mpr (Rat.mul_nonneg hx0 y0),bX,bx.mul by1,by decide,fun r2 Hi gi hr2'=>?_⟩
        refine ⟨Ge.trans (Gh.trans gi),hj,r2,_,_,_,rfl,?_⟩
        rw [exs,hpj]
        exact hr2'
    · rw [decide_eq_false (show ¬ (0:Int) < (kI cs).getD j 0 by omega)]
      refine iteF ⟨g2,hj,r,_,_,_,rfl,?_⟩
      have hpj:parts ns g cs j=0:=by unfold parts;rw [if_neg h0]
      rw [exs,hpj,show sumQ ((List.range j).map (parts ns g cs)) + 0=sumQ ((List.range j).map (parts ns g cs)) by grind]
      exact hr2
  · obtain ⟨g2,_,r,o4,o5,o6,rfl,hr2⟩:=h
    rw [<- hcl,parts_all hU.pos g0 hl ht0] at hr2
    exact ⟨_,rfl,q r H2 g2 hr2⟩
end
end G
set_option maxHeartbeats 8000000
namespace G
open PySem PySem.Spec PyProof.Rows L2 Mt Mq
theorem neD_at {H:Hp} {p r:Addr} {a b:List Int} {Q:VK} (hp:H p=some (.tup (a.map V.int))) (hr:H r=some (.tup (b.map V.int))) (q:Q (.bl (!decide (a=b))) H):rNeD (.ref p) (.ref r) H Q :=
  neD_dec (l:=p + r + 1) (Dt.mkI (Nat.ne_of_lt (Nat.lt_succ_of_le (Nat.le_add_right p r))) hp) (Dt.mkI (Nat.ne_of_lt (Nat.lt_succ_of_le (Nat.le_add_left r p))) hr) q
def dsC (c:List Nat) (i:Nat):List Nat:=(List.range i).flatMap fun t=>List.replicate (c.getD t 0) t
theorem dsC_succ (c:List Nat) (i:Nat):dsC c (i + 1)=dsC c i ++ List.replicate (c.getD i 0) i:=by
  unfold dsC
  rw [List.range_succ,List.flatMap_append]
  simp
theorem dsC_lt {c:List Nat}:∀ {i:Nat} {k:Nat},k ∈ dsC c i->k < i
  | 0,k,h=>by unfold dsC at h;simp at h
  | i + 1,k,h=>by
    rw [dsC_succ] at h
    rcases List.mem_append.mp h with h | h
    · have:=dsC_lt h;omega
    · rw [List.eq_of_mem_replicate h];omega
theorem dsC_count (c:List Nat) (j:Nat):∀ i:Nat,(dsC c i).count j=if j < i then c.getD j 0 else 0
  | 0=>by unfold dsC;simp
  | i + 1=>by
    rw [dsC_succ,List.count_append,dsC_count c j i,List.count_replicate]
    by_cases h1:j < i
    · have h2:j < i + 1:=by omega
      have h3:¬ i=j:=by omega
      have h3':¬ j=i:=by omega
      simp [h1,h2,h3,h3']
    · by_cases h2:j=i
      · subst h2
        simp
      · have h3:¬ j < i + 1:=by omega
        have h3':¬ i=j:=by omega
        simp [h1,h2,h3,h3']
theorem dsC_cnt {n:Nat} {c:List Nat} (hc:c.length=n):cntN n (dsC c n)=c:=by
  refine ext_getD (by rw [cntN_len,hc]) fun i=>?_
  by_cases hi:i < n
  · rw [cntN_get _ hi,dsC_count,if_pos hi]
  · rw [List.getD_eq_getElem?_getD,List.getD_eq_getElem?_getD,List.getElem?_eq_none (by rw [cntN_len];omega),List.getElem?_eq_none (by omega)]
theorem dsC_len {n:Nat} {c:List Nat} (hc:c.length=n):(dsC c n).length=tot c:=by
  rw [<- tot_cnt (n:=n) fun j hj=>dsC_lt hj,dsC_cnt hc]
theorem dsC_le {n:Nat} {c:List Nat} (hc:c.length=n) {i:Nat} (hi:i <= n):(dsC c i).length <= tot c:=by
  have:∀ d,(dsC c i).length <= (dsC c (i + d)).length:=by
    intro d
    induction d with
    | zero=>exact Nat.le_refl _
    | succ d ih=>rw [show i + (d + 1)=i + d + 1 by omega,dsC_succ,List.length_append];omega
  have h:=this (n - i)
  rw [show i + (n - i)=n by omega,dsC_len hc] at h
  exact h
theorem flat_rep (c:Nat) (v:V):(List.replicate c [v]).flatten=List.replicate c v:=by
  induction c with
  | zero=>rfl
  | succ c ih=>rw [List.replicate_succ,List.flatten_cons,ih,List.replicate_succ];rfl
theorem tot_le10:∀ {gs:List Nat},(∀ z ∈ gs,1 <= z/\z <= 10)->gs.length <= tot gs/\tot gs <= 10 * gs.length
  | [],_=>⟨Nat.le_refl _,Nat.le_refl _⟩
  | a :: gs,h=>by
    have h1:=h a List.mem_cons_self
    have h2:=tot_le10 (gs:=gs) fun z hz=>h z (List.mem_cons_of_mem _ hz)
    show gs.length + 1 <= a + tot gs/\a + tot gs <= 10 * (gs.length + 1)
    omega
theorem nnS:∀ {L:List Int},(∀ x ∈ L,0 <= x)->0 <= L.sum
  | [],_=>by decide
  | a :: L,h=>by
    have h1:=h a List.mem_cons_self
    have h2:=nnS (L:=L) fun x hx=>h x (List.mem_cons_of_mem _ hx)
    rw [List.sum_cons];omega
theorem nsh_sum {s:Int} (hs:0 < s):∀ l:List Int,sumQ (l.map fun b=>cut b s)=cut l.sum s
  | []=>by show (0:Rat)=cut 0 s;rw [cut_zero']
  | b :: l=>by
    show cut b s + sumQ (l.map _)=_
    rw [nsh_sum hs l,cut_add_same hs,List.sum_cons]
section
variable {P:Program} {w:World} {K:PySem.W.Frag} {mg:Str->Option Value} {base:Heap} {f:Addr} {fd:FuncData}
structure Cals (P:Program) (w:World) (K:PySem.W.Frag) (mg:Str->Option Value) (base:Heap) (c:Nat->Addr):Prop where
  state:Cal P w K mg base 9 "_law_state" ["_law_script","_law_k"] (sp_state K)
  take:Cal P w K mg base 9 "_law_take" ["_law_state_here","_law_many"] sp_take
  urn:Cal P w K mg base 9 "_law_urn" ["_law_state_here","_law_kinds"] sp_lurn
  ac:Cal P w K mg base 9 "_law_all_counts" ["_law_kinds","_law_many"] sp_ac
  cc:CalX P w K mg base 9 "counts_chance" ["urn","more","counts"] (sp_cc c)
  ns:CalX P w K mg base 9 "next_shares" ["urn","more","counts"] (sp_ns c)
  ao:CalX P w K mg base 9 "any_order" ["urn","rule","draws"] sp_ao
  plus:Cal P w K mg base 9 "_law_plus" ["_law_one","_law_other"] sp_plus
  ah:Cal P w K mg base 9 "_law_ahead" ["_law_urn_here","_law_more","_law_counts"] sp_ah
def spLaw (K:PySem.W.Frag):Sp:=fun vs H Q _=>∃ (a:Addr) (ns:List Int),vs=[.ref a]/\SqL K H a (ns.map V.int)/\ns.length <= 63/\∀ H',Q (.bl true) H'
abbrev s_law:Stmt:=top 54
theorem sc_law:FnScope ["_law_script","_law_k","_law_state_here","_law_kinds","_law_urn_here","_law_more","_law_many","_law_alone","_law_whole","_law_counts","_law_likely","_law_draws","_law_kind","_law_great","_law_parts","_law_part"] ["_law_script"] (defScope s_law):=⟨rfl,rfl,rfl,by decide +kernel,rfl,by decide +kernel,by decide +kernel⟩
theorem ok_law {c:Nat->Addr} (F:Fun K "law" "law" s_law f fd) (B:Bt mg) (C:Cals P w K mg base c):FnOk P w K mg base CX0 10 f fd ["_law_script"] (spLaw K):=by
  refine F.ok sc_law (fun vs H Q E h=>?_) (fun cdv A outer s H vs Q E hr h=>?_)
  · obtain ⟨a,ns,rfl,_⟩:=h
    rfl
  obtain ⟨a,scr,rfl,hS,h63,q⟩:=h
  refine ⟨_,(@pss_cons _ _ _ _ _ (ps_for PassesOwn.never rfl (pi_range1 rfl B.range (@pa_cons _ _ _ _ _ (pe_callB (call_max2 rfl) rfl B.max boot_max (@pa_cons _ _ _ _ _ pe_int (@pa_cons _ _ _ _ _ (pe_callB (call_min2 rfl) rfl B.min boot_min (@pa_cons _ _ _ _ _ (pe_callB call_len_seq rfl B.len PySem.boot_len (@pa_cons _ _ _ _ _ (pv 0) pa_nil (by rfl))) (@pa_cons _ _ _ _ _ pe_int pa_nil (by rfl)) (by rfl))) pa_nil (by rfl)) (by rfl))) pa_nil (by rfl))) (pg_name (i:=1) sc_law.nd rfl (Or.inl rfl))
    (@pss_cons _ _ _ _ _ (@ps_set _ _ 2 _ _ _ _ sc_law.nd rfl (Or.inr rfl) (pe_cal C.state hr rfl (@pa_cons _ _ _ _ _ (pv 0) (@pa_cons _ _ _ _ _ (pv 1) pa_nil (by rfl)) (by rfl))) (by rfl) (by first | exact .inl rfl | exact .inr rfl))
    (@pss_cons _ _ _ _ _ (@ps_set _ _ 3 _ _ _ _ sc_law.nd rfl (Or.inr rfl) (@pe_op _ _ _ _ _ _ _ _ op_add pe_int (pe_cal C.take hr rfl (@pa_cons _ _ _ _ _ (pv 2) (@pa_cons _ _ _ _ _ pe_int pa_nil (by rfl)) (by rfl)))) (by rfl) (by first | exact .inl rfl | exact .inr rfl))
    (@pss_cons _ _ _ _ _ (ps_asg (@pe_tup _ _ _ _ _ (@pa_cons _ _ _ _ _ (pe_cal C.urn hr rfl (@pa_cons _ _ _ _ _ (pv 2) (@pa_cons _ _ _ _ _ (pv 3) pa_nil (by rfl)) (by rfl))) (@pa_cons _ _ _ _ _ (pe_cal C.take hr rfl (@pa_cons _ _ _ _ _ (pv 2) (@pa_cons _ _ _ _ _ pe_int pa_nil (by rfl)) (by rfl))) (@pa_cons _ _ _ _ _ (pe_cal C.take hr rfl (@pa_cons _ _ _ _ _ (pv 2) (@pa_cons _ _ _ _ _ pe_int pa_nil (by rfl)) (by rfl))) pa_nil (by rfl)) (by rfl)) (by rfl))) (pg_tup rfl (pgs_cons (pg_name (i:=4) sc_law.nd rfl (Or.inl rfl)) (pgs_cons (pg_name (i:=5) sc_law.nd rfl (Or.inr rfl)) (pgs_cons (pg_name (i:=6) sc_law.nd rfl (Or.inl rfl)) pgs_nil)))))
    (@pss_cons _ _ _ _ _ (@ps_set _ _ 7 _ _ _ _ sc_law.nd rfl (Or.inl rfl) (pe_callTy call_tuple_of rfl B.tuple boot_tuple (@pa_cons _ _ _ _ _ (pe_compG (N:=["_law_one","_law_kinds","_law_more"]) (ix:=[none,some 3,some 5]) (ifs:=[]) (tc:=tTrue) rfl (pi_range1 rfl B.range (@pa_cons _ _ _ _ _ (pv 3) pa_nil (by rfl)))
      (fun s H ex=>pg_c (i:=0) (by decide +kernel) rfl (Or.inr rfl) (.inl rfl)) (fun s H ex=>pifs_nil) (fun s H ex=>(pe_callTy (tupK (K:=K) rfl) rfl B.tuple boot_tuple (@pa_cons _ _ _ _ _ (pe_compG (N:=["_law_other","_law_more","_law_one"]) (ix:=[none,some 2,some 0]) (ifs:=[]) (tc:=tTrue) rfl (pi_range1 rfl B.range (@pa_cons _ _ _ _ _ (pv 1) pa_nil (by rfl)))
      (fun s H ex=>pg_c (i:=0) (by decide +kernel) rfl (Or.inl rfl) (.inr rfl)) (fun s H ex=>pifs_nil) (fun s H ex=>(@pe_op _ _ _ _ _ _ _ _ op_mul (pv 1) (pe_callTy call_int1 rfl B.int boot_int (@pa_cons _ _ _ _ _ (pe_cmpR op_eq (pv 2) (pv 0) (nomark _)) pa_nil (by rfl))))) rfl (by decide +kernel) (by rfl) (by rfl) (fun _=>rfl)) pa_nil (by rfl)))) rfl (by decide +kernel) (by rfl) (by rfl) (fun _=>rfl)) pa_nil (by rfl))) (by rfl) (by first | exact .inl rfl | exact .inr rfl))
    (@pss_cons _ _ _ _ _ (@ps_set _ _ 8 _ _ _ _ sc_law.nd rfl (Or.inl rfl) (@pe_tup _ _ _ _ _ (@pa_cons _ _ _ _ _ pe_int (@pa_cons _ _ _ _ _ pe_int pa_nil (by rfl)) (by rfl))) (by rfl) (by first | exact .inl rfl | exact .inr rfl))
    (@pss_cons _ _ _ _ _ (ps_for PassesOwn.never rfl (pi_list (pe_cal C.ac hr rfl (@pa_cons _ _ _ _ _ (pv 3) (@pa_cons _ _ _ _ _ (pv 6) pa_nil (by rfl)) (by rfl)))) (pg_name (i:=9) sc_law.nd rfl (Or.inl rfl))
    (@pss_cons _ _ _ _ _ (@ps_set _ _ 10 _ _ _ _ sc_law.nd rfl (Or.inl rfl) (pe_calx C.cc hr rfl pass10 (@pa_cons _ _ _ _ _ (pv 4) (@pa_cons _ _ _ _ _ (pv 5) (@pa_cons _ _ _ _ _ (pv 9) pa_nil (by rfl)) (by rfl)) (by rfl))) (by rfl) (by first | exact .inl rfl | exact .inr rfl))
    (@pss_cons _ _ _ _ _ (@ps_set _ _ 8 _ _ _ _ sc_law.nd rfl (Or.inl rfl) (pe_cal C.plus hr rfl (@pa_cons _ _ _ _ _ (pv 8) (@pa_cons _ _ _ _ _ (pv 10) pa_nil (by rfl)) (by rfl))) (by rfl) (by first | exact .inl rfl | exact .inr rfl))
    (@pss_cons _ _ _ _ _ (@ps_set _ _ 11 _ _ _ _ sc_law.nd rfl (Or.inl rfl) (@pe_lst _ _ _ _ pa_nil) (by rfl) (by first | exact .inl rfl | exact .inr rfl))
    (@pss_cons _ _ _ _ _ (ps_for PassesOwn.never rfl (pi_range1 rfl B.range (@pa_cons _ _ _ _ _ (pv 3) pa_nil (by rfl))) (pg_name (i:=12) sc_law.nd rfl (Or.inl rfl))
    (@pss_one _ _ _ (@ps_set _ _ 11 _ _ _ _ sc_law.nd rfl (Or.inl rfl) (@pe_op _ _ _ _ _ _ _ _ op_cat (pv 11) (@pe_op _ _ _ _ _ _ _ _ op_rep (@pe_lst _ _ _ _ (@pa_cons _ _ _ _ _ (pv 12) pa_nil (by rfl))) (@pe_ix _ _ _ _ _ _ _ ix_tup (pv 9) (pv 12) (fun _ _=>rfl)))) (by rfl) (by first | exact .inl rfl | exact .inr rfl))))
    (@pss_one _ _ _ (ps_if (@pt_cmpR _ _ _ _ _ _ _ _ (op_neD hr.units) (pe_calx C.ao hr rfl pass10 (@pa_cons _ _ _ _ _ (pv 4) (@pa_cons _ _ _ _ _ (pv 7) (@pa_cons _ _ _ _ _ (pe_callTy call_tupN rfl B.tuple boot_tuple (@pa_cons _ _ _ _ _ (pv 11) pa_nil (by rfl))) pa_nil (by rfl)) (by rfl)) (by rfl))) (pv 10) (nomark _)) (@pss_one _ _ _ (ps_ret pe_bl)) pss_nil)))))))
    (@pss_cons _ _ _ _ _ (ps_if (@pt_cmpR _ _ _ _ _ _ _ _ (op_neD hr.units) (pv 8) (@pe_tup _ _ _ _ _ (@pa_cons _ _ _ _ _ pe_int (@pa_cons _ _ _ _ _ pe_int pa_nil (by rfl)) (by rfl))) (nomark _)) (@pss_one _ _ _ (ps_ret pe_bl)) pss_nil)
    (@pss_cons _ _ _ _ _ (@ps_set _ _ 13 _ _ _ _ sc_law.nd rfl (Or.inl rfl) (pe_callTy call_tuple_of rfl B.tuple boot_tuple (@pa_cons _ _ _ _ _ (pe_compG (N:=["_law_kind","_law_state_here"]) (ix:=[none,some 2]) (ifs:=[]) (tc:=tTrue) rfl (pi_range1 rfl B.range (@pa_cons _ _ _ _ _ (pv 3) pa_nil (by rfl)))
      (fun s H ex=>pg_c (i:=0) (by decide +kernel) rfl (Or.inl rfl) (.inr rfl)) (fun s H ex=>pifs_nil) (fun s H ex=>(@pe_op _ _ _ _ _ _ _ _ op_add pe_int (pe_cal C.take hr rfl (@pa_cons _ _ _ _ _ (pv 1) (@pa_cons _ _ _ _ _ pe_int pa_nil (by rfl)) (by rfl))))) rfl (by decide +kernel) (by rfl) (by rfl) (fun _=>rfl)) pa_nil (by rfl))) (by rfl) (by first | exact .inl rfl | exact .inr rfl))
    (@pss_cons _ _ _ _ _ (ps_if (@pt_cmpR _ _ _ _ _ _ _ _ (op_neD hr.units) (pe_calx C.cc hr rfl pass10 (@pa_cons _ _ _ _ _ (pv 4) (@pa_cons _ _ _ _ _ (pv 5) (@pa_cons _ _ _ _ _ (pv 13) pa_nil (by rfl)) (by rfl)) (by rfl))) (pe_cal C.ah hr rfl (@pa_cons _ _ _ _ _ (pv 4) (@pa_cons _ _ _ _ _ (pv 5) (@pa_cons _ _ _ _ _ (pv 13) pa_nil (by rfl)) (by rfl)) (by rfl))) (nomark _)) (@pss_one _ _ _ (ps_ret pe_bl)) pss_nil)
    (@pss_cons _ _ _ _ _ (@ps_set _ _ 14 _ _ _ _ sc_law.nd rfl (Or.inl rfl) (pe_calx C.ns hr rfl pass10 (@pa_cons _ _ _ _ _ (pv 4) (@pa_cons _ _ _ _ _ (pv 5) (@pa_cons _ _ _ _ _ (pv 13) pa_nil (by rfl)) (by rfl)) (by rfl))) (by rfl) (by first | exact .inl rfl | exact .inr rfl))
    (@pss_cons _ _ _ _ _ (ps_if (@pt_cmpR _ _ _ _ _ _ _ _ op_ne (pe_cmp (pc_isN (pv 14))) (pe_cmpR op_in_seq pe_int (pv 4) (by rfl)) (nomark _)) (@pss_one _ _ _ (ps_ret pe_bl)) pss_nil)
    (@pss_cons _ _ _ _ _ (@ps_set _ _ 8 _ _ _ _ sc_law.nd rfl (Or.inl rfl) (@pe_tup _ _ _ _ _ (@pa_cons _ _ _ _ _ pe_int (@pa_cons _ _ _ _ _ pe_int pa_nil (by rfl)) (by rfl))) (by rfl) (by first | exact .inl rfl | exact .inr rfl))
    (@pss_cons _ _ _ _ _ (ps_for PassesOwn.never rfl (pi_tup (pe_ifExp (pt_cmp (pc_notN (pv 14))) (pv 14) (@pe_tup _ _ _ _ _ (@pa_cons _ _ _ _ _ (@pe_tup _ _ _ _ _ (@pa_cons _ _ _ _ _ pe_int (@pa_cons _ _ _ _ _ pe_int pa_nil (by rfl)) (by rfl))) pa_nil (by rfl))))) (pg_name (i:=15) sc_law.nd rfl (Or.inl rfl))
    (@pss_one _ _ _ (@ps_set _ _ 8 _ _ _ _ sc_law.nd rfl (Or.inl rfl) (pe_cal C.plus hr rfl (@pa_cons _ _ _ _ _ (pv 8) (@pa_cons _ _ _ _ _ (pv 15) pa_nil (by rfl)) (by rfl))) (by rfl) (by first | exact .inl rfl | exact .inr rfl))))
    (@pss_one _ _ _ (ps_if (@pt_cmpR _ _ _ _ _ _ _ _ (op_neD hr.units) (pv 8) (@pe_tup _ _ _ _ _ (@pa_cons _ _ _ _ _ pe_int (@pa_cons _ _ _ _ _ pe_int pa_nil (by rfl)) (by rfl))) (nomark _)) (@pss_one _ _ _ (ps_ret pe_bl)) pss_nil))))))))))))))))
    (@pss_one _ _ _ (ps_ret pe_bl))),?_⟩
  refine ⟨_,rfl,a,_,rfl,.inl hS,_,_,rfl,_,_,rfl,_,rfl,?_,?_,?_⟩
  · split <;> split <;> omega
  · rw [List.length_map];split <;> split <;> omega
  refine for_range (lo:=0) (fun i σ H2=>SqL K H2 a (scr.map V.int)/\∃ o1 o2 o3 o4 o5 o6 o7 o8 o9 oa ob oc od oe of',σ=[some (.ref a),o1,o2,o3,o4,o5,o6,o7,o8,o9,oa,ob,oc,od,oe,of'])
    ⟨hS,none,none,none,none,none,none,none,none,none,none,none,none,none,none,none,rfl⟩ (fun i σ H2 hi h=>?_) (fun σ H2 h=>q H2)
  obtain ⟨hS2,o1,o2,o3,o4,o5,o6,o7,o8,o9,oa,ob,oc,od,oe,of',rfl⟩:=h
  have e0:(0:Int) + (i:Int)=(i:Int):=by omega
  rw [e0]
  refine ⟨_,rfl,_,rfl,a,scr,i,rfl,hS2,fun l x b hl hst=>?_⟩
  have s3:Sta l b (upd H2 l (.lst [.int x,.bl b])) (upd H2 l (.lst [.int x,.bl b])):=Sta.start upd_same hst
  have hA:∀ H',Kp l (upd H2 l (.lst [.int x,.bl b])) H'->SqL K H' a (scr.map V.int):=fun H' k=>by
    rcases hS2 with (h | ⟨o,h⟩) | h
    · exact .inl (.inl (k _ _ (ne_of_none h hl) (Same.new hl _ _ h)))
    · exact .inl (.inr ⟨o,k _ _ (ne_of_none h hl) (Same.new hl _ _ h)⟩)
    · exact .inr h
  show tSeq _ _ _ _ (upd H2 l (.lst [.int x,.bl b]))
  generalize upd H2 l (.lst [.int x,.bl b])=H3 at s3 hA
  clear hS2 hl hst
  obtain ⟨_,x3,hx3,ok3⟩:=id s3
  refine ⟨_,rfl,l,4,x3,b,rfl,hx3,ok3,by decide,by decide,fun y x1 hy ok1=>⟨_,_,rfl,rfl,?_⟩⟩
  have en:(1:Int) + (y:Int)=((1 + y:Nat):Int):=by omega
  try dsimp only
  rw [en]
  have n1:1 <= 1 + y:=by omega
  have n4:1 + y <= 4:=by omega
  generalize 1 + y=n at n1 n4
  have s4:=s3.go ok1
  generalize upd H3 l (.lst [.int x1,.bl b])=H4 at s4
  obtain ⟨_,x4,hx4,ok4⟩:=id s4
  refine ⟨_,rfl,_,rfl,l,n,x4,b,rfl,hx4,ok4,n1,n4,fun ua H5 ns s5' hua hU=>?_⟩
  have s5:=s4.trans s5'
  have nua:=s5.neL hua
  obtain ⟨_,x5,hx5,ok5⟩:=id s5
  refine ⟨_,rfl,l,6,x5,b,rfl,hx5,ok5,by decide,by decide,fun mo x6 hmo ok6=>?_⟩
  have s6:=s5.go ok6
  have k6':Kp l H5 (upd H5 l (.lst [.int x6,.bl b])):=Kp.at
  try dsimp -proj only
  generalize upd H5 l (.lst [.int x6,.bl b])=H6 at s6 k6'
  obtain ⟨_,x7,hx7,ok7⟩:=id s6
  refine ⟨_,rfl,l,6,x7,b,rfl,hx7,ok7,by decide,by decide,fun m x8 hm ok8=>?_⟩
  have s7:=s6.go ok8
  have k7':Kp l H6 (upd H6 l (.lst [.int x8,.bl b])):=Kp.at
  try dsimp -proj only
  generalize upd H6 l (.lst [.int x8,.bl b])=H7 at s7 k7'
  have hua7:=k7' _ _ nua (k6' _ _ nua hua)
  have m5:m <= 5:=by omega
  have g0:(0:Int) <= (mo:Int):=by omega
  have g5:(mo:Int) <= 5:=by omega
  refine ⟨(by show 3 <= sizeLine;decide),fun pp hpp=>⟨pp,_,rfl,.of upd_same,rfl,_,_,rfl,_,_,rfl,_,_,rfl,rfl,?_⟩⟩
  have g8:Same H7 (upd H7 pp (.tup [.ref ua,.int mo,.int m])):=Same.new hpp
  have s8:=s7.same g8
  have hua8:=g8 _ _ hua7
  try dsimp -proj only [gName]
  generalize upd H7 pp (.tup [.ref ua,.int mo,.int m])=H8 at s8 hua8
  have nl4:ns.length=n:=hU.len
  have lo62:-(2 ^ 62) <= ((n:Nat):Int):=by omega
  have hi62:((n:Nat):Int) < 2 ^ 62:=by omega
  clear hpp hua7 hua g8 s5' k6' k7' s7 s6 s5 s4
  refine ⟨_,rfl,(n:Int),rfl,lo62,hi62,?_⟩
  refine blk_range (lo:=0) (n:=n) (sz (by omega)) (fun i ys Hj=>Same H8 Hj/\i <= n/\Dts l Hj (((List.range i).map fun i=>aloR n (mo:Int) i).map DI) ys)
    ⟨Same.refl _,Nat.zero_le _,Dts.nil _ _⟩ (fun i ys Hj h=>?_) rfl (fun i ys Hj hi h=>?_) (fun ys Hj h=>?_)
  · rw [<- h.2.2.len,List.length_map,List.length_map,List.length_range]
  · obtain ⟨gj,hin,hd⟩:=h
    refine ⟨_,rfl,(n:Int),rfl,lo62,hi62,?_⟩
    refine blk_range (lo:=0) (n:=n) (sz (by omega)) (fun j zs Hk=>Same Hj Hk/\j <= n/\zs=((List.range j).map fun j=>(mo:Int) * (if i=j then 1 else 0)).map V.int)
      ⟨Same.refl _,Nat.zero_le _,rfl⟩ (fun j zs Hk h=>?_) rfl (fun j zs Hk hj h=>?_) (fun zs Hk h=>?_)
    · rw [h.2.2,List.length_map,List.length_map,List.length_range]
    · obtain ⟨gk,hjn,rfl⟩:=h
      refine ⟨_,rfl,_,rfl,_,rfl,rfl,.inr ⟨_,rfl,_,_,rfl,rfl,.inl ⟨by omega,by omega⟩,gk,by omega,?_⟩⟩
      rw [List.range_succ,List.map_append,List.map_append]
      congr 1
      show [V.int _]=[V.int _]
      congr 2
      by_cases hij:i=j
      · subst hij
        simp
      · have:¬ (V.int ((0:Int) + (i:Int))=V.int (0 + (j:Int))):=fun z=>hij (by injection z with z;omega)
        rw [decide_eq_false this]
        simp [hij]
    · obtain ⟨gk,_,rfl⟩:=h
      intro p hp
      refine ⟨p,_,rfl,.inl ⟨.of upd_same,fun t ht=>?_⟩⟩
      have gg:Same Hj (upd (upd Hk p (.lst (((List.range n).map fun j=>(mo:Int) * (if i=j then 1 else 0)).map V.int))) t (.tup (((List.range n).map fun j=>(mo:Int) * (if i=j then 1 else 0)).map V.int))):=(gk.trans (Same.new hp)).trans (Same.new ht)
      have sq:Sta l b _ _:=s8.same ((gj.trans gk).trans (Same.new hp (o:=.lst (((List.range n).map fun j=>(mo:Int) * (if i=j then 1 else 0)).map V.int))))
      refine ⟨gj.trans gg,by omega,?_⟩
      rw [List.range_succ,List.map_append,List.map_append]
      exact (hd.kp (gg.kp l)).append (Dts.cons (Dt.mkI (sq.ne ht).symm upd_same) (Dts.nil _ _))
  obtain ⟨gj,_,hd⟩:=h
  intro pz hpz
  refine ⟨pz,_,rfl,.inl ⟨.of upd_same,fun al hal=>?_⟩⟩
  have gg:Same H8 (upd (upd Hj pz (.lst ys)) al (.tup ys)):=(gj.trans (Same.new hpz)).trans (Same.new hal)
  have sq:Sta l b _ _:=s8.same (gj.trans (Same.new (o:=.lst ys) hpz))
  have hda:Dt l (upd (upd Hj pz (.lst ys)) al (.tup ys)) (DR (alo n mo)) (.ref al):=Dt.tup (sq.ne hal).symm upd_same (hd.kp (((Same.new hpz).trans (Same.new hal)).kp l))
  have hRa:Mt.Rul n 5 (alo n mo):=alo_rul g0 g5
  have s9:=s8.same gg
  have hua9:=gg _ _ hua8
  try dsimp -proj only [gName]
  generalize upd (upd Hj pz (.lst ys)) al (.tup ys)=H9 at s9 hua9 hda
  clear gg sq hd gj hua8 s8 hpz hal
  refine ⟨(by show 2 <= sizeLine;decide),fun pw hpw=>?_⟩
  have gA:Same H9 (upd H9 pw (.tup [.int 0,.int 1])):=Same.new hpw
  have hpwA:upd H9 pw (.tup [.int 0,.int 1]) pw=some (.tup [.int 0,.int 1]):=upd_same
  try dsimp -proj only [gName]
  generalize upd H9 pw (.tup [.int 0,.int 1])=HA at gA hpwA
  refine ⟨_,rfl,_,rfl,n,m,rfl,n4,m5,fun pc cs HB gB hpc hTL=>?_⟩
  refine ⟨pc,rfl,⟨_,.of hpc⟩,?_⟩
  have GB:=gA.trans gB
  have sB:=s9.same GB
  have huaB:=GB _ _ hua9
  have hdaB:=hda.kp (GB.kp l)
  have hpwB:=gB _ _ hpwA
  clear gA hpwA gB GB s9 hua9 hda hpw
  have hcl:cs.length=(cF m n).length:=by rw [<- hTL.len,List.length_map]
  have V1:∀ c ∈ cF m n,Vq (LL ^ 6) 1 (cch ns mo c):=fun c hc=>by
    obtain ⟨h1,h2⟩:=cF_mem hc
    exact cch_v1 g0 g5 n4 hU h1 (by omega)
  have cl5:(cF m n).length <= 1296:=by
    refine Nat.le_trans (List.length_filter_le _ _) (Nat.le_trans (cL_len m n) (Nat.le_trans (Nat.pow_le_pow_left (show m + 1 <= 6 by omega) n) (Nat.pow_le_pow_right (n:=6) (by decide) n4)))
  refine for_list (K:=K) (a:=pc) (xs:=cs) (fun t σ HC=>Same HB HC/\t <= cs.length/\∃ r o9 oa ob oc,σ=[some (.ref a),some (.int i),some (.ref l),some (.int n),some (.ref ua),some (.int mo),some (.int m),some (.ref al),some (.ref r),o9,oa,ob,oc,od,oe,of']/\HC r=some (.tup ((fr (sumQ (((cF m n).take t).map (cch ns mo)))).map V.int)))
    ⟨Same.refl _,Nat.zero_le _,pw,o9,oa,ob,oc,rfl,hpwB⟩ (fun t σ HC _ h=>.of (h.1 _ _ hpc)) (fun t v σ HC ht h=>?_) (fun σ HC h=>?_)
  · obtain ⟨gC,htl,r,o9,oa,ob,oc,rfl,hrC⟩:=h
    obtain ⟨z,ca,hz,rfl,hca⟩:=(hTL.same gC).get ht
    rw [List.getElem?_map] at hz
    obtain ⟨c0,hc0,ez⟩:=Option.map_eq_some_iff.mp hz
    subst ez
    have hcm:=List.mem_of_getElem? hc0
    obtain ⟨hc1,hc2⟩:=cF_mem hcm
    have htl':=(List.getElem?_eq_some_iff.mp ht).1
    have SM:∀ H',Same HC H'->Sim (ua + ca + 1) H' n ns mo c0 ua ca:=fun H' gg=>⟨Dt.mkI (Nat.ne_of_lt (Nat.lt_succ_of_le (Nat.le_add_right ua ca))) (gg _ _ (gC _ _ huaB)),hU,g0,g5,Dt.mkI (Nat.ne_of_lt (Nat.lt_succ_of_le (Nat.le_add_left ca ua))) (gg _ _ hca),hc1,by omega,n1,n4⟩
    refine ⟨_,rfl,_,rfl,_,rfl,(SM HC (Same.refl _)).cc fun pk HD gD hpk=>?_⟩
    have vX:Vq (LL ^ 6) 1296 (sumQ (((cF m n).take t).map (cch ns mo))):=(sumQ_vq (N:=LL ^ 6) (B:=1) fun x hx=>by
      obtain ⟨c1,h1,rfl⟩:=List.mem_map.mp hx
      exact V1 c1 (List.mem_of_mem_take h1)).mono (by rw [List.length_map,List.length_take];omega)
    have v0:=V1 c0 hcm
    refine ⟨_,rfl,_,rfl,r,pk,_,_,1900,1900,rfl,gD _ _ hrC,hpk,Rat.num_nonneg.mpr vX.nn,Rat.num_nonneg.mpr v0.nn,v1_bd vX (by decide),v1_bd v0 (by decide),by decide,fun r2 HE gE hr2=>?_⟩
    have exs:sumQ (((cF m n).take (t + 1)).map (cch ns mo))=sumQ (((cF m n).take t).map (cch ns mo)) + cch ns mo c0:=by
      rw [List.take_add_one,hc0]
      show sumQ (((cF m n).take t ++ [c0]).map (cch ns mo))=_
      rw [List.map_append,sumQ_append]
      show _ + (cch ns mo c0 + 0)=_
      grind
    rw [<- exs] at hr2
    have GE:=(gC.trans gD).trans gE
    have hcaE:=gE _ _ (gD _ _ hca)
    have hpkE:=gE _ _ hpk
    refine ⟨(by show 0 <= sizeLine;decide),fun pd hpd=>?_⟩
    have gF:Same HE (upd HE pd (.lst [])):=Same.new hpd
    have hpdF:upd HE pd (.lst []) pd=some (.lst []):=upd_same
    try dsimp -proj only [gName]
    generalize upd HE pd (.lst [])=HF at gF hpdF
    refine ⟨_,rfl,(n:Int),rfl,lo62,hi62,?_⟩
    refine for_range (lo:=0) (n:=n) (fun j σ HG=>Same HF HG/\j <= n/\∃ pd oc,σ=[some (.ref a),some (.int i),some (.ref l),some (.int n),some (.ref ua),some (.int mo),some (.int m),some (.ref al),some (.ref r2),some (.ref ca),some (.ref pk),some (.ref pd),oc,od,oe,of']/\HG pd=some (.lst ((kI (dsC c0 j)).map V.int)))
      ⟨Same.refl _,Nat.zero_le _,pd,oc,rfl,hpdF⟩ (fun j σ HG hj h=>?_) (fun σ HG h=>?_)
    · obtain ⟨gG,hjn,pd,oc,rfl,hpdG⟩:=h
      have e0:(0:Int) + (j:Int)=(j:Int):=by omega
      rw [e0]
      have hcaG:=gG _ _ (gF _ _ hcaE)
      have hjk:j < (kI c0).length:=by rw [kI_len];omega
      have hcj:c0.getD j 0 <= 5:=by
        have:=tot_mem (cs:=c0) (c:=c0.getD j 0) (by rw [List.getD_eq_getElem?_getD,List.getElem?_eq_getElem (show j < c0.length by omega)];exact List.getElem_mem _)
        omega
      have ek:=kI_getD c0 j
      have hdl:=dsC_le (c:=c0) hc1 (i:=j) hjn
      refine ⟨_,rfl,_,rfl,(by show 1 <= sizeLine;decide),fun p1 hp1=>?_⟩
      have gH:Same HG (upd HG p1 (.lst [.int j])):=Same.new hp1
      refine ⟨_,rfl,_,rfl,ca,_,_,_,rfl,rfl,.of (gH _ _ hcaG),atI_int hjk,p1,(kI c0).getD j 0,[.int j],rfl,rfl,upd_same,by omega,by omega,(by rw [ek,Int.toNat_natCast,sizeLine_eq];show 1 * c0.getD j 0 <= _;omega),fun p2 hp2=>?_⟩
      have gI:Same (upd HG p1 (.lst [.int j])) (upd (upd HG p1 (.lst [.int j])) p2 (.lst (List.replicate ((kI c0).getD j 0).toNat [V.int j]).flatten)):=Same.new hp2
      refine ⟨pd,p2,_,_,rfl,rfl,gI _ _ (gH _ _ hpdG),upd_same,?_,fun p3 hp3=>?_⟩
      · rw [List.length_map,kI_len,flat_rep,List.length_replicate,ek,sizeLine_eq];omega
      · refine ⟨(gG.trans gH).trans (gI.trans (Same.new hp3)),hj,p3,_,rfl,?_⟩
        rw [upd_same,flat_rep,ek,dsC_succ]
        unfold kI
        rw [List.map_append,List.map_append,List.map_replicate,List.map_replicate];rfl
    obtain ⟨gG,_,pd,oc,rfl,hpdG⟩:=h
    have GG:=GE.trans (gF.trans gG)
    refine ⟨_,rfl,_,rfl,_,rfl,pd,_,rfl,.of hpdG,fun pt HH gH hpt=>?_⟩
    have GH:=GG.trans gH
    have dl:=dsC_len hc1
    refine ⟨l,ua,pt,.ref al,n,ns,alo n mo,dsC c0 n,rfl,⟨Dt.mkI nua (GH _ _ huaB),hU,hdaB.kp (GH.kp l),hRa,n1,n4,by omega⟩,hpt,fun k hk=>dsC_lt hk,fun ra HI gI hra=>?_⟩
    rw [dsC_cnt hc1,dl,hc2,alo_ch g0 g5 n4 hU m (by omega) c0 hc1 hc2] at hra
    have hpkI:=gI _ _ (gH _ _ (gG _ _ (gF _ _ hpkE)))
    refine ⟨_,rfl,neD_at hra hpkI ⟨_,rfl,?_⟩⟩
    rw [decide_eq_true rfl]
    refine iteF ?_
    exact ⟨GH.trans gI,htl',r2,_,_,_,_,rfl,gI _ _ (gH _ _ (gG _ _ (gF _ _ hr2)))⟩
  obtain ⟨gC,_,r,o9,oa,ob,oc,rfl,hrC⟩:=h
  rw [hcl,List.take_length,cF_all g0 g5 n4 hU (by omega)] at hrC
  refine ⟨_,rfl,(by show 2 <= sizeLine;decide),fun p4 hp4=>?_⟩
  have gD:Same HC (upd HC p4 (.tup [.int 1,.int 1])):=Same.new hp4
  refine neD_at (a:=[1,1]) (b:=[1,1]) (gD _ _ hrC) upd_same ⟨_,rfl,?_⟩
  rw [decide_eq_true rfl]
  refine iteF ?_
  have GD:=gC.trans gD
  have sD:=sB.same GD
  have huaD:=GD _ _ huaB
  try dsimp -proj only [gName]
  generalize upd HC p4 (.tup [.int 1,.int 1])=HD at sD huaD
  clear gC gD GD sB huaB hdaB hTL hrC hp4
  obtain ⟨_,xD,hxD,okD⟩:=id sD
  refine ⟨_,rfl,(n:Int),rfl,lo62,hi62,?_⟩
  refine blk_range (lo:=0) (n:=n) (sz (by omega)) (fun i ys HE=>Sta l b HD HE/\HE ua=some (.tup (ns.map V.int))/\∃ gs:List Nat,ys=(kI gs).map V.int/\gs.length=i/\∀ z ∈ gs,1 <= z/\z <= 10)
    ⟨Sta.start hxD okD,huaD,[],rfl,rfl,by simp⟩ (fun i ys HE h=>?_) rfl (fun i ys HE hi h=>?_) (fun ys HE h=>?_)
  · obtain ⟨_,_,gs,rfl,hn,_⟩:=h
    rw [List.length_map,kI_len];exact hn
  · obtain ⟨sE,huaE,gs,rfl,hn,hb⟩:=h
    obtain ⟨_,xE,hxE,okE⟩:=id sE
    refine ⟨_,rfl,l,10,xE,b,rfl,hxE,okE,by decide,by decide,fun y x4 hy ok4=>⟨_,_,rfl,rfl,?_⟩⟩
    refine ⟨sE.go ok4,(Kp.at (st:=l)) _ _ nua huaE,gs ++ [1 + y],?_,by rw [List.length_append,hn];rfl,fun z hz=>?_⟩
    · rw [kI_snoc,List.map_append]
      show _ ++ [V.int ((1:Int) + (y:Int))]=_ ++ [V.int ((1 + y:Nat):Int)]
      rw [show (1:Int) + (y:Int)=((1 + y:Nat):Int) by omega]
    · rcases List.mem_append.mp hz with h | h
      · exact hb z h
      · rw [List.mem_singleton.mp h];omega
  obtain ⟨sE,huaE,gs,rfl,hgl,hgb⟩:=h
  intro pz2 hpz2
  refine ⟨pz2,_,rfl,.inl ⟨.of upd_same,fun pg hpg=>?_⟩⟩
  have gF:Same HE (upd (upd HE pz2 (.lst ((kI gs).map V.int))) pg (.tup ((kI gs).map V.int))):=(Same.new hpz2).trans (Same.new hpg)
  have hpgF:upd (upd HE pz2 (.lst ((kI gs).map V.int))) pg (.tup ((kI gs).map V.int)) pg=some (.tup ((kI gs).map V.int)):=upd_same
  have sF:=(sD.trans sE).same gF
  have huaF:=gF _ _ huaE
  try dsimp -proj only [gName]
  generalize upd (upd HE pz2 (.lst ((kI gs).map V.int))) pg (.tup ((kI gs).map V.int))=HF at hpgF sF huaF
  clear gF sE huaE sD huaD hpz2 hpg
  obtain ⟨ht1,ht2⟩:=tot_le10 hgb
  have SM:∀ H',Same HF H'->Sim (ua + pg + 1) H' n ns mo gs ua pg:=fun H' gg=>⟨Dt.mkI (Nat.ne_of_lt (Nat.lt_succ_of_le (Nat.le_add_right ua pg))) (gg _ _ huaF),hU,g0,g5,Dt.mkI (Nat.ne_of_lt (Nat.lt_succ_of_le (Nat.le_add_left pg ua))) (gg _ _ hpgF),hgl,by omega,n1,n4⟩
  have FIN:∀ H',Same HF H'->SqL K H' a (scr.map V.int):=fun H' g=>hA _ (sF.1.trans (g.kp l))
  refine ⟨_,rfl,_,rfl,_,rfl,(SM HF (Same.refl _)).cc fun q1 HG gG hq1=>?_⟩
  refine ⟨_,rfl,_,rfl,_,rfl,_,ua,pg,n,mo,ns,gs,rfl,SM HG gG,by omega,fun q2 HH gH hq2=>?_⟩
  refine neD_at (gH _ _ hq1) hq2 ⟨_,rfl,?_⟩
  rw [decide_eq_true rfl]
  refine iteF ?_
  have GH:=gG.trans gH
  have hl:ns.length=gs.length:=by omega
  have hgj:∀ k,k < n->0 < gs.getD k 0:=fun k hk=>by
    have:=hgb (gs.getD k 0) (by rw [List.getD_eq_getElem?_getD,List.getElem?_eq_getElem (show k < gs.length by omega)];exact List.getElem_mem _)
    omega
  refine ⟨_,rfl,_,rfl,_,rfl,.inr ⟨_,ua,pg,n,mo,ns,gs,rfl,SM HH GH,fun hz HI gI=>?_,fun hnz pp xs HI gI hpp hTL=>?_⟩⟩
  · have h0in:(0:Int) ∈ ns:=by
      obtain ⟨k,hk,hzk⟩:=hz
      unfold zer at hzk
      rw [Bool.and_eq_true] at hzk
      have:=of_decide_eq_true hzk.1
      rw [<- this,List.getD_eq_getElem?_getD,List.getElem?_eq_getElem hk]
      exact List.getElem_mem hk
    have GI:=GH.trans gI
    refine ⟨_,rfl,_,rfl,ua,_,rfl,.inr (.of (GI _ _ huaF)),rfl,flat_ints _,rfl,_,rfl,?_⟩
    rw [show (if false=true then !inV (V.int 0) (ns.map V.int) else inV (V.int 0) (ns.map V.int))=true from by rw [if_neg (by decide),inV_int];exact decide_eq_true h0in]
    refine iteF ?_
    refine ⟨(by show 2 <= sizeLine;decide),fun pw2 hpw2=>?_⟩
    have gJ:Same HI (upd HI pw2 (.tup [.int 0,.int 1])):=Same.new hpw2
    have hpwJ:upd HI pw2 (.tup [.int 0,.int 1]) pw2=some (.tup [.int 0,.int 1]):=upd_same
    try dsimp -proj only [gName]
    generalize upd HI pw2 (.tup [.int 0,.int 1])=HJ at gJ hpwJ
    refine ⟨_,rfl,_,rfl,iteF ⟨(by show 2 <= sizeLine;decide),fun q3 hq3=>?_⟩⟩
    have gK:Same HJ (upd HJ q3 (.tup [.int 1,.int 1])):=Same.new hq3
    have hq3K:upd HJ q3 (.tup [.int 1,.int 1]) q3=some (.tup [.int 1,.int 1]):=upd_same
    try dsimp -proj only
    generalize upd HJ q3 (.tup [.int 1,.int 1])=HK at gK hq3K
    refine ⟨(by show 1 <= sizeLine;decide),fun q4 hq4=>?_⟩
    have gL:Same HK (upd HK q4 (.tup [.ref q3])):=Same.new hq4
    have hq4L:upd HK q4 (.tup [.ref q3]) q4=some (.tup [.ref q3]):=upd_same
    try dsimp -proj only
    generalize upd HK q4 (.tup [.ref q3])=HL at gL hq4L
    have GL:=((GI.trans gJ).trans gK).trans gL
    refine ⟨q4,rfl,⟨_,.of hq4L⟩,?_⟩
    refine for_tup (K:=K) (a:=q4) (xs:=[.ref q3]) (fun t σ HM=>Same HL HM/\∃ r o15,σ=[some (.ref a),some (.int i),some (.ref l),some (.int n),some (.ref ua),some (.int mo),some (.int m),some (.ref al),some (.ref r),o9,oa,ob,oc,some (.ref pg),some .non,o15]/\HM r=some (.tup ((fr (if t=0 then 0 else 1)).map V.int)))
      ⟨Same.refl _,pw2,of',rfl,gL _ _ (gK _ _ hpwJ)⟩ (fun t σ HM _ h=>.of (h.1 _ _ hq4L)) (fun t v σ HM ht h=>?_) (fun σ HM h=>?_)
    · obtain ⟨gM,r,o15,rfl,hrM⟩:=h
      have t0:t=0:=by
        have:=(List.getElem?_eq_some_iff.mp ht).1
        simp at this
        exact this
      subst t0
      cases ht
      rw [if_pos rfl] at hrM
      refine ⟨_,rfl,_,rfl,r,q3,0,1,1,1,rfl,hrM,gM _ _ (gL _ _ hq3K),by decide,by decide,⟨by decide,by decide⟩,⟨by decide,by decide⟩,by decide,fun r3 HN gN hr3=>⟨gM.trans gN,r3,_,rfl,?_⟩⟩
      rw [if_neg (by decide)]
      rw [show (0:Rat) + 1=1 by grind] at hr3
      exact hr3
    · obtain ⟨gM,r,o15,rfl,hrM⟩:=h
      rw [if_neg (show ¬ [V.ref q3].length=0 by simp)] at hrM
      refine ⟨_,rfl,(by show 2 <= sizeLine;decide),fun p5 hp5=>?_⟩
      have gN:Same HM (upd HM p5 (.tup [.int 1,.int 1])):=Same.new hp5
      refine neD_at (a:=[1,1]) (b:=[1,1]) (gN _ _ hrM) upd_same ⟨_,rfl,?_⟩
      rw [decide_eq_true rfl]
      refine iteF ?_
      exact ⟨FIN _ ((GL.trans gM).trans gN),_,_,_,_,_,_,_,_,_,_,_,_,_,_,_,rfl⟩
  · have h0in:¬ (0:Int) ∈ ns:=fun z=>by
      obtain ⟨k,hk,e⟩:=List.mem_iff_getElem.mp z
      refine hnz ⟨k,hk,?_⟩
      unfold zer
      rw [Bool.and_eq_true]
      exact ⟨decide_eq_true (by rw [List.getD_eq_getElem?_getD,List.getElem?_eq_getElem hk];exact e),decide_eq_true (hgj k (by omega))⟩
    have GI:=GH.trans gI
    refine ⟨_,rfl,_,rfl,ua,_,rfl,.inr (.of (GI _ _ huaF)),rfl,flat_ints _,rfl,_,rfl,?_⟩
    rw [show (if false=true then !inV (V.int 0) (ns.map V.int) else inV (V.int 0) (ns.map V.int))=false from by rw [if_neg (by decide),inV_int];exact decide_eq_false h0in]
    refine iteF ?_
    refine ⟨(by show 2 <= sizeLine;decide),fun pw2 hpw2=>?_⟩
    have gJ:Same HI (upd HI pw2 (.tup [.int 0,.int 1])):=Same.new hpw2
    have hpwJ:upd HI pw2 (.tup [.int 0,.int 1]) pw2=some (.tup [.int 0,.int 1]):=upd_same
    try dsimp -proj only [gName]
    generalize upd HI pw2 (.tup [.int 0,.int 1])=HJ at gJ hpwJ
    have hppJ:=gJ _ _ hpp
    have hTLJ:=hTL.same gJ
    have GJ:=GI.trans gJ
    have hsm:=(SM HF (Same.refl HF)).sum
    have hs0:0 < ns.sum + (mo:Int) * (tot gs:Int):=by omega
    have hs2:ns.sum + (mo:Int) * (tot gs:Int) <= 280:=by omega
    have bnn:∀ x ∈ bnow mo ns gs,0 <= x:=fun x hx=>by
      obtain ⟨k,hk,e⟩:=List.mem_iff_getElem.mp hx
      have hk':k < gs.length:=by rw [bnow_len hl] at hk;omega
      have hb:=bnow_getD (g:=(mo:Int)) hl hk'
      rw [List.getD_eq_getElem?_getD,List.getElem?_eq_getElem hk] at hb
      have hb':(bnow mo ns gs)[k]=ns.getD k 0 + (mo:Int) * ((gs.getD k 0:Nat):Int):=hb
      rw [<- e,hb']
      have:=(hU.getD k).1
      have:=Int.mul_nonneg g0 (show (0:Int) <= ((gs.getD k 0:Nat):Int) by omega)
      omega
    have bsum:=bnow_sum (mo:Int) hl
    have psum:∀ t,0 <= ((bnow mo ns gs).take t).sum/\((bnow mo ns gs).take t).sum <= 280:=by
      intro t
      have e:(bnow mo ns gs).sum=((bnow mo ns gs).take t).sum + ((bnow mo ns gs).drop t).sum:=by rw [<- List.sum_append,List.take_append_drop]
      have h1:=nnS fun x hx=>bnn x (List.mem_of_mem_take (i:=t) hx)
      have h2:=nnS fun x hx=>bnn x (List.mem_of_mem_drop (i:=t) hx)
      omega
    have nl:(nsh mo ns gs).length=n:=by unfold nsh;rw [List.length_map,bnow_len hl];omega
    have xl:xs.length=n:=by rw [<- hTLJ.len,List.length_map,nl]
    have nsum:∀ t,sumQ ((nsh mo ns gs).take t)=cut ((bnow mo ns gs).take t).sum (ns.sum + (mo:Int) * (tot gs:Int)):=fun t=>by
      unfold nsh
      rw [<- List.map_take,nsh_sum hs0]
    have bdC:∀ x:Int,0 <= x->x <= 280->Bd 12 (cut x (ns.sum + (mo:Int) * (tot gs:Int)))/\0 <= (cut x (ns.sum + (mo:Int) * (tot gs:Int))).num:=fun x h0 h1=>by
      have h12:(2:Nat) ^ 12=4096:=by decide
      refine ⟨Bd.cut hs0 (by omega) (by omega),?_⟩
      rw [cut_num hs0]
      exact Int.ediv_nonneg h0 (by omega)
    refine ⟨_,rfl,_,rfl,iteT ⟨_,rfl,pp,rfl,⟨_,.of hppJ⟩,?_⟩⟩
    refine for_tup (K:=K) (a:=pp) (xs:=xs) (fun t σ HM=>Same HJ HM/\t <= n/\∃ r o15,σ=[some (.ref a),some (.int i),some (.ref l),some (.int n),some (.ref ua),some (.int mo),some (.int m),some (.ref al),some (.ref r),o9,oa,ob,oc,some (.ref pg),some (.ref pp),o15]/\HM r=some (.tup ((fr (sumQ ((nsh mo ns gs).take t))).map V.int)))
      ⟨Same.refl _,Nat.zero_le _,pw2,of',rfl,hpwJ⟩ (fun t σ HM _ h=>.of (h.1 _ _ hppJ)) (fun t v σ HM ht h=>?_) (fun σ HM h=>?_)
    · obtain ⟨gM,htn,r,o15,rfl,hrM⟩:=h
      obtain ⟨z,qa,hz1,rfl,hqa⟩:=(hTLJ.same gM).get ht
      rw [List.getElem?_map] at hz1
      obtain ⟨y,hy,ez⟩:=Option.map_eq_some_iff.mp hz1
      subst ez
      have htl:t < n:=by rw [<- nl];exact (List.getElem?_eq_some_iff.mp hy).1
      obtain ⟨b0,hb0,ey⟩:∃ b0,(bnow mo ns gs)[t]?=some b0/\cut b0 (ns.sum + (mo:Int) * (tot gs:Int))=y:=by
        unfold nsh at hy
        rw [List.getElem?_map] at hy
        obtain ⟨b0,h1,h2⟩:=Option.map_eq_some_iff.mp hy
        exact ⟨b0,h1,h2⟩
      have hb1:=bnn b0 (List.mem_of_getElem? hb0)
      have hb2:b0 <= 280:=by
        have h1:=psum (t + 1)
        have h2:=psum t
        rw [List.take_add_one,hb0,List.sum_append] at h1
        have h3:((bnow mo ns gs).take t).sum + ([b0]:List Int).sum <= 280:=h1.2
        simp at h3
        omega
      obtain ⟨by1,by2⟩:=bdC b0 hb1 hb2
      rw [ey] at by1 by2
      obtain ⟨p1,p2⟩:=psum t
      obtain ⟨bx1,bx2⟩:=bdC _ p1 p2
      rw [<- nsum t] at bx1 bx2
      refine ⟨_,rfl,_,rfl,r,qa,_,y,12,12,rfl,hrM,hqa,bx2,by2,bx1,by1,by decide,fun r3 HN gN hr3=>⟨gM.trans gN,htl,r3,_,rfl,?_⟩⟩
      have exs:sumQ ((nsh mo ns gs).take (t + 1))=sumQ ((nsh mo ns gs).take t) + y:=by
        rw [List.take_add_one,hy,sumQ_append]
        show _ + (y + 0)=_
        grind
      rw [exs]
      exact hr3
    · obtain ⟨gM,_,r,o15,rfl,hrM⟩:=h
      rw [xl,nsum n,List.take_of_length_le (by rw [bnow_len hl];omega),bsum,cut_self hs0] at hrM
      refine ⟨_,rfl,(by show 2 <= sizeLine;decide),fun p5 hp5=>?_⟩
      have gN:Same HM (upd HM p5 (.tup [.int 1,.int 1])):=Same.new hp5
      refine neD_at (a:=[1,1]) (b:=[1,1]) (gN _ _ hrM) upd_same ⟨_,rfl,?_⟩
      rw [decide_eq_true rfl]
      refine iteF ?_
      exact ⟨FIN _ ((GJ.trans gM).trans gN),_,_,_,_,_,_,_,_,_,_,_,_,_,_,_,rfl⟩
end
end G
set_option maxHeartbeats 4000000
namespace G
open PySem PySem.Spec PyProof.Rows L2 Mt
def Has (K:PySem.W.Frag) (x:Str) (st:Stmt):Prop:=∃ (f:Addr) (oc:Value) (od:Option Addr) (kV doc pm:Value) (an:Option Addr) (cdv ct:Value) (sl:Array (Option Value)),
  PySem.W.nsIn K mainGlobals x=some (some (.ref f))/\K.lookup f=some ⟨oc,od,.func (PySem.W.fnOf x x (defArgs st) (defBody st) (defScope st) .none kV doc pm an cdv ct),sl⟩/\PySem.W.codeIn K cdv x=true/\PySem.W.keepIn K (.ref f)=true
theorem has_mk {K:PySem.W.Frag} {x:Str} {st:Stmt} {f:Addr} {oc:Value} {od:Option Addr} {kV doc pm:Value} {an:Option Addr} {cdv ct:Value} {sl:Array (Option Value)}
    (a:PySem.W.nsIn K mainGlobals x=some (some (.ref f))) (l:K.lookup f=some ⟨oc,od,.func (PySem.W.fnOf x x (defArgs st) (defBody st) (defScope st) .none kV doc pm an cdv ct),sl⟩) (c:PySem.W.codeIn K cdv x=true) (k:PySem.W.keepIn K (.ref f)=true):Has K x st :=
  ⟨f,oc,od,kV,doc,pm,an,cdv,ct,sl,a,l,c,k⟩
theorem cal_mk {P:Program} {w:World} {K:PySem.W.Frag} {mg:Str->Option Value} {base h:Heap} {x:Str} {st:Stmt} {ps:List Str} {k:Nat} {sp:Sp} (X:K.In h) (G:h.Ns mainGlobals mg) (H:Has K x st)
    (hb:∀ (f:Addr) (fd:FuncData),Fun K x x st f fd->Binds K fd ps []) (ok:∀ (f:Addr) (fd:FuncData),Fun K x x st f fd->FnOk P w K mg base CX0 k f fd ps sp):Cal P w K mg base k x ps sp:=by
  obtain ⟨f,oc,od,kV,doc,pm,an,cdv,ct,sl,a,l,c,kp⟩:=H
  have F:=fun_mk (st:=st) l c kp
  exact ⟨f,_,PySem.W.mg_of X G a,kp,hb _ _ F,ok _ _ F⟩
theorem calx_mk {P:Program} {w:World} {K:PySem.W.Frag} {mg:Str->Option Value} {base h:Heap} {x:Str} {st:Stmt} {ps:List Str} {k:Nat} {sp:Sp} (X:K.In h) (G:h.Ns mainGlobals mg) (H:Has K x st)
    (hb:∀ (f:Addr) (fd:FuncData),Fun K x x st f fd->Binds K fd ps []) (ok:∀ (f:Addr) (fd:FuncData),Fun K x x st f fd->FnOk P w K mg base (CX1 P w) k f fd ps sp):CalX P w K mg base k x ps sp:=by
  obtain ⟨f,oc,od,kV,doc,pm,an,cdv,ct,sl,a,l,c,kp⟩:=H
  have F:=fun_mk (st:=st) l c kp
  exact ⟨f,_,PySem.W.mg_of X G a,kp,hb _ _ F,ok _ _ F⟩
def errX (K:PySem.W.Frag):List Addr->Bool
  | []=>true
  | C :: cs=>PySem.W.excIn K C vE "ValueError.__new__" && errX K cs
theorem errX_get {K:PySem.W.Frag}:∀ {cs:List Addr} {i:Nat},errX K cs=true->i < cs.length->PySem.W.excIn K (cs.getD i 0) vE "ValueError.__new__"=true
  | C :: cs,0,h,_=>by
    unfold errX at h
    rw [Bool.and_eq_true] at h
    exact h.1
  | C :: cs,i + 1,h,hi=>by
    unfold errX at h
    rw [Bool.and_eq_true] at h
    have:=errX_get (cs:=cs) (i:=i) h.2 (by simpa using hi)
    simpa using this
theorem errs_mk {K:PySem.W.Frag} {h:Heap} {mg:Str->Option Value} {a0 a1 a4 a5 a7 B:Addr} (X:K.In h) (G:h.Ns mainGlobals mg)
    (e0:PySem.W.nsIn K mainGlobals "NoUrn"=some (some (.ref a0))) (e1:PySem.W.nsIn K mainGlobals "NoRule"=some (some (.ref a1))) (e4:PySem.W.nsIn K mainGlobals "NoDraws"=some (some (.ref a4))) (e5:PySem.W.nsIn K mainGlobals "NoNumber"=some (some (.ref a5))) (e7:PySem.W.nsIn K mainGlobals "NoCounts"=some (some (.ref a7)))
    (hX:errX K [a0,a1,a0,a0,a4,a5,a0,a7,a0,a0]=true):Errs K mg (fun i=>[a0,a1,a0,a0,a4,a5,a0,a7,a0,a0].getD i 0) B :=
  ⟨PySem.W.mg_of X G e0,PySem.W.mg_of X G e1,PySem.W.mg_of X G e4,PySem.W.mg_of X G e5,PySem.W.mg_of X G e7,fun i hi=>errX_get hX hi⟩
theorem all_mk {l:PySem.W.OpenLaw} {w:World} {K:PySem.W.Frag} {h:Heap} {mg:Str->Option Value} {fa Bs:Addr} {c:Nat->Addr} (X:K.In h) (G:h.Ns mainGlobals mg) (hfa:mg "law"=some (.ref fa)) (R:Errs K mg c Bs)
    (h1:Has K "is_number" s_is_number) (h2:Has K "is_whole" s_is_whole) (h3:Has K "are_wholes" s_are_wholes) (h4:Has K "need_number" s_need_number) (h5:Has K "is_urn_up_to" s_is_urn_up_to) (h6:Has K "is_urn" s_is_urn) (h7:Has K "is_rule" s_is_rule) (h8:Has K "need_urn" s_need_urn) (h9:Has K "need_rule" s_need_rule) (h10:Has K "need_urn_and_rule" s_nur) (h11:Has K "greatest_divisor" s_gd) (h12:Has K "fraction" s_fraction) (h13:Has K "times" s_times) (h14:Has K "plus" s_plus) (h15:Has K "share" s_share) (h16:Has K "urn_by_counts" s_ubc) (h17:Has K "one_more" s_om) (h18:Has K "next_chances_by_counts" s_ncc) (h19:Has K "chances_by_counts" s_cbc) (h20:Has K "need_counts" s_need_counts) (h21:Has K "need_simple" s_need_simple) (h22:Has K "rising_product" s_rp) (h23:Has K "orders_of" s_ords) (h24:Has K "counts_chance" s_cc) (h25:Has K "next_shares" s_ns) (h26:Has K "are_wholes" s_are_wholes) (h27:Has K "need_draws" s_need_draws) (h28:Has K "any_order" s_ao) (h29:Has K "_law_cell_at" s_cell_at) (h30:Has K "_law_state" s_state) (h31:Has K "_law_take" s_take) (h32:Has K "_law_urn" s_lurn) (h33:Has K "_law_cut" s_cut) (h34:Has K "_law_plus" s_lplus) (h35:Has K "_law_by" s_by) (h36:Has K "_law_all_counts" s_ac) (h37:Has K "_law_ahead" s_ah)
    (hlaw:Has K "law" s_law)
    (z1:PySem.W.nsIn K mainGlobals "isinstance"=some none) (z2:PySem.W.nsIn K mainGlobals "bool"=some none) (z3:PySem.W.nsIn K mainGlobals "int"=some none) (z4:PySem.W.nsIn K mainGlobals "tuple"=some none) (z5:PySem.W.nsIn K mainGlobals "list"=some none) (z6:PySem.W.nsIn K mainGlobals "all"=some none) (z7:PySem.W.nsIn K mainGlobals "sum"=some none) (z8:PySem.W.nsIn K mainGlobals "len"=some none) (z9:PySem.W.nsIn K mainGlobals "range"=some none) (z10:PySem.W.nsIn K mainGlobals "max"=some none) (z11:PySem.W.nsIn K mainGlobals "min"=some none) (z12:PySem.W.nsIn K mainGlobals "abs"=some none) (z13:PySem.W.nsIn K mainGlobals "zip"=some none)
    {t1:Tok} (m1:PySem.W.nsIn K mainGlobals "MOST_KINDS"=some (some (.int 4 t1))) {t2:Tok} (m2:PySem.W.nsIn K mainGlobals "MOST_BALLS"=some (some (.int 20 t2))) {t3:Tok} (m3:PySem.W.nsIn K mainGlobals "MOST_PUT_IN"=some (some (.int 5 t3))) {t4:Tok} (m4:PySem.W.nsIn K mainGlobals "MOST_COUNTS"=some (some (.int 40 t4))) {t5:Tok} (m5:PySem.W.nsIn K mainGlobals "MOST_DRAWS"=some (some (.int 20 t5))) :
    ∃ fd:FuncData,(∀ (s:Shared) (v:Value),BindsTo s fd ⟨[v],[]⟩ [("_law_script",v)])/\∀ base:Heap,K.In base->base.Ns mainGlobals mg->FnOk l.prog w K mg base CX0 10 fa fd ["_law_script"] (spLaw K):=by
  obtain ⟨f,oc,od,kV,doc,pm,an,cdv,ct,sl,a,lk,c',kp⟩:=hlaw
  have e:=hfa.symm.trans (PySem.W.mg_of X G a)
  cases e
  have F:=fun_mk (st:=s_law) lk c' kp
  have B:Bt mg:=⟨PySem.W.mg_none_of X G z1,PySem.W.mg_none_of X G z2,PySem.W.mg_none_of X G z3,PySem.W.mg_none_of X G z4,PySem.W.mg_none_of X G z5,PySem.W.mg_none_of X G z6,PySem.W.mg_none_of X G z7,PySem.W.mg_none_of X G z8,PySem.W.mg_none_of X G z9,PySem.W.mg_none_of X G z10,PySem.W.mg_none_of X G z11,PySem.W.mg_none_of X G z12,PySem.W.mg_none_of X G z13⟩
  have C:Ct mg:=⟨⟨_,PySem.W.mg_of X G m1⟩,⟨_,PySem.W.mg_of X G m2⟩,⟨_,PySem.W.mg_of X G m3⟩⟩
  have C2:CtC mg:=⟨⟨_,PySem.W.mg_of X G m4⟩,⟨_,PySem.W.mg_of X G m5⟩⟩
  refine ⟨PySem.W.fnOf "law" "law" (defArgs s_law) (defBody s_law) (defScope s_law) .none kV doc pm an cdv ct,fun s v=>.of_eq rfl,fun base _ _=>?_⟩
  have c_is_number:Cal l.prog w K mg base 0 "is_number" ["thing"] sp_is_number:=cal_mk X G h1 (fun f fd F=>F.binds (ps:=["thing"]) fun _ _ _ _ _ _ us hl=>match us,hl with | [_],_=>rfl) (fun f fd F=>ok_is_number F B)
  have c_is_whole:Cal l.prog w K mg base 1 "is_whole" ["thing","low","high"] sp_is_whole:=cal_mk X G h2 (fun f fd F=>F.binds (ps:=["thing","low","high"]) fun _ _ _ _ _ _ us hl=>match us,hl with | [_,_,_],_=>rfl) (fun f fd F=>ok_is_whole F c_is_number)
  have c_are_wholes:Cal l.prog w K mg base 2 "are_wholes" ["thing","low","high"] sp_are_wholes:=cal_mk X G h3 (fun f fd F=>F.binds (ps:=["thing","low","high"]) fun _ _ _ _ _ _ us hl=>match us,hl with | [_,_,_],_=>rfl) (fun f fd F=>ok_are_wholes F B c_is_whole)
  have c_need_number:CalX l.prog w K mg base 2 "need_number" ["thing","low","high"] (sp_need_number c):=calx_mk X G h4 (fun f fd F=>F.binds (ps:=["thing","low","high"]) fun _ _ _ _ _ _ us hl=>match us,hl with | [_,_,_],_=>rfl) (fun f fd F=>ok_need_number F R c_is_whole)
  have c_is_urn_up_to:Cal l.prog w K mg base 3 "is_urn_up_to" ["thing","most"] sp_is_urn_up_to:=cal_mk X G h5 (fun f fd F=>F.binds (ps:=["thing","most"]) fun _ _ _ _ _ _ us hl=>match us,hl with | [_,_],_=>rfl) (fun f fd F=>ok_is_urn_up_to F B C c_are_wholes)
  have c_is_urn:Cal l.prog w K mg base 4 "is_urn" ["thing"] sp_is_urn:=cal_mk X G h6 (fun f fd F=>F.binds (ps:=["thing"]) fun _ _ _ _ _ _ us hl=>match us,hl with | [_],_=>rfl) (fun f fd F=>ok_is_urn F C c_is_urn_up_to)
  have c_is_rule:CalX l.prog w K mg base 3 "is_rule" ["kinds","thing"] (sp_is_rule c):=calx_mk X G h7 (fun f fd F=>F.binds (ps:=["kinds","thing"]) fun _ _ _ _ _ _ us hl=>match us,hl with | [_,_],_=>rfl) (fun f fd F=>ok_is_rule F B C c_are_wholes c_need_number)
  have c_need_urn:CalX l.prog w K mg base 5 "need_urn" ["thing"] (sp_need_urn c):=calx_mk X G h8 (fun f fd F=>F.binds (ps:=["thing"]) fun _ _ _ _ _ _ us hl=>match us,hl with | [_],_=>rfl) (fun f fd F=>ok_need_urn F R c_is_urn)
  have c_need_rule:CalX l.prog w K mg base 4 "need_rule" ["kinds","thing"] (sp_need_rule c):=calx_mk X G h9 (fun f fd F=>F.binds (ps:=["kinds","thing"]) fun _ _ _ _ _ _ us hl=>match us,hl with | [_,_],_=>rfl) (fun f fd F=>ok_need_rule F R c_is_rule)
  have c_need_urn_and_rule:CalX l.prog w K mg base 6 "need_urn_and_rule" ["urn","rule"] (sp_nur c):=calx_mk X G h10 (fun f fd F=>F.binds (ps:=["urn","rule"]) fun _ _ _ _ _ _ us hl=>match us,hl with | [_,_],_=>rfl) (fun f fd F=>ok_nur F B c_need_urn c_need_rule)
  have c_greatest_divisor:Cal l.prog w K mg base 1 "greatest_divisor" ["one","other"] sp_gd:=cal_mk X G h11 (fun f fd F=>F.binds (ps:=["one","other"]) fun _ _ _ _ _ _ us hl=>match us,hl with | [_,_],_=>rfl) (fun f fd F=>ok_gd F B)
  have c_fraction:Cal l.prog w K mg base 2 "fraction" ["top","bottom"] sp_fraction:=cal_mk X G h12 (fun f fd F=>F.binds (ps:=["top","bottom"]) fun _ _ _ _ _ _ us hl=>match us,hl with | [_,_],_=>rfl) (fun f fd F=>ok_fraction F c_greatest_divisor)
  have c_times:Cal l.prog w K mg base 3 "times" ["one","other"] sp_times:=cal_mk X G h13 (fun f fd F=>F.binds (ps:=["one","other"]) fun _ _ _ _ _ _ us hl=>match us,hl with | [_,_],_=>rfl) (fun f fd F=>ok_times F c_fraction)
  have c_plus:Cal l.prog w K mg base 3 "plus" ["one","other"] sp_plus:=cal_mk X G h14 (fun f fd F=>F.binds (ps:=["one","other"]) fun _ _ _ _ _ _ us hl=>match us,hl with | [_,_],_=>rfl) (fun f fd F=>ok_plus F c_fraction)
  have c_share:Cal l.prog w K mg base 3 "share" ["urn","kind"] sp_share:=cal_mk X G h15 (fun f fd F=>F.binds (ps:=["urn","kind"]) fun _ _ _ _ _ _ us hl=>match us,hl with | [_,_],_=>rfl) (fun f fd F=>ok_share F B c_fraction)
  have c_urn_by_counts:Cal l.prog w K mg base 1 "urn_by_counts" ["urn","rule","counts"] sp_ubc:=cal_mk X G h16 (fun f fd F=>F.binds (ps:=["urn","rule","counts"]) fun _ _ _ _ _ _ us hl=>match us,hl with | [_,_,_],_=>rfl) (fun f fd F=>ok_ubc F B)
  have c_one_more:Cal l.prog w K mg base 1 "one_more" ["counts","kind"] sp_om:=cal_mk X G h17 (fun f fd F=>F.binds (ps:=["counts","kind"]) fun _ _ _ _ _ _ us hl=>match us,hl with | [_,_],_=>rfl) (fun f fd F=>ok_om F )
  have c_next_chances_by_counts:Cal l.prog w K mg base 4 "next_chances_by_counts" ["chances","urn","rule","goal"] sp_ncc:=cal_mk X G h18 (fun f fd F=>F.binds (ps:=["chances","urn","rule","goal"]) fun _ _ _ _ _ _ us hl=>match us,hl with | [_,_,_,_],_=>rfl) (fun f fd F=>ok_ncc F B c_urn_by_counts c_one_more c_times c_share c_plus)
  have c_chances_by_counts:Cal l.prog w K mg base 5 "chances_by_counts" ["urn","rule","goal","draws"] sp_cbc:=cal_mk X G h19 (fun f fd F=>F.binds (ps:=["urn","rule","goal","draws"]) fun _ _ _ _ _ _ us hl=>match us,hl with | [_,_,_,_],_=>rfl) (fun f fd F=>ok_cbc F B c_next_chances_by_counts)
  have c_need_counts:CalX l.prog w K mg base 3 "need_counts" ["urn","thing"] (sp_need_counts c):=calx_mk X G h20 (fun f fd F=>F.binds (ps:=["urn","thing"]) fun _ _ _ _ _ _ us hl=>match us,hl with | [_,_],_=>rfl) (fun f fd F=>ok_need_counts F B C2 R c_are_wholes)
  have c_need_simple:CalX l.prog w K mg base 6 "need_simple" ["urn","more","counts"] (sp_need_simple c):=calx_mk X G h21 (fun f fd F=>F.binds (ps:=["urn","more","counts"]) fun _ _ _ _ _ _ us hl=>match us,hl with | [_,_,_],_=>rfl) (fun f fd F=>ok_need_simple F C c_need_urn c_need_number c_need_counts)
  have c_rising_product:Cal l.prog w K mg base 1 "rising_product" ["start","step","many"] sp_rp:=cal_mk X G h22 (fun f fd F=>F.binds (ps:=["start","step","many"]) fun _ _ _ _ _ _ us hl=>match us,hl with | [_,_,_],_=>rfl) (fun f fd F=>ok_rp F B)
  have c_orders_of:Cal l.prog w K mg base 2 "orders_of" ["counts"] sp_ords:=cal_mk X G h23 (fun f fd F=>F.binds (ps:=["counts"]) fun _ _ _ _ _ _ us hl=>match us,hl with | [_],_=>rfl) (fun f fd F=>ok_ords F B c_rising_product)
  have c_counts_chance:CalX l.prog w K mg base 7 "counts_chance" ["urn","more","counts"] (sp_cc c):=calx_mk X G h24 (fun f fd F=>F.binds (ps:=["urn","more","counts"]) fun _ _ _ _ _ _ us hl=>match us,hl with | [_,_,_],_=>rfl) (fun f fd F=>ok_cc F B c_need_simple c_orders_of c_rising_product c_fraction)
  have c_next_shares:CalX l.prog w K mg base 8 "next_shares" ["urn","more","counts"] (sp_ns c):=calx_mk X G h25 (fun f fd F=>F.binds (ps:=["urn","more","counts"]) fun _ _ _ _ _ _ us hl=>match us,hl with | [_,_,_],_=>rfl) (fun f fd F=>ok_ns F B c_counts_chance c_fraction)
  have c_are_wholes_0:=c_are_wholes
  have c_are_wholes:Cal l.prog w K mg base 2 "are_wholes" ["thing","low","high"] sp_awN:=cal_mk X G h26 (fun f fd F=>F.binds (ps:=["thing","low","high"]) fun _ _ _ _ _ _ us hl=>match us,hl with | [_,_,_],_=>rfl) (fun f fd F=>ok_awN F B c_is_whole)
  have c_need_draws:CalX l.prog w K mg base 3 "need_draws" ["urn","thing"] sp_ndN:=calx_mk X G h27 (fun f fd F=>F.binds (ps:=["urn","thing"]) fun _ _ _ _ _ _ us hl=>match us,hl with | [_,_],_=>rfl) (fun f fd F=>ok_ndN F B C2 R c_are_wholes)
  have c_any_order:CalX l.prog w K mg base 7 "any_order" ["urn","rule","draws"] sp_ao:=calx_mk X G h28 (fun f fd F=>F.binds (ps:=["urn","rule","draws"]) fun _ _ _ _ _ _ us hl=>match us,hl with | [_,_,_],_=>rfl) (fun f fd F=>ok_ao F B c_need_urn_and_rule c_need_draws c_chances_by_counts)
  have c__law_cell_at:Cal l.prog w K mg base 1 "_law_cell_at" ["_law_script","_law_k"] (sp_cell_at K):=cal_mk X G h29 (fun f fd F=>F.binds (ps:=["_law_script","_law_k"]) fun _ _ _ _ _ _ us hl=>match us,hl with | [_,_],_=>rfl) (fun f fd F=>ok_cell_at F B)
  have c__law_state:Cal l.prog w K mg base 2 "_law_state" ["_law_script","_law_k"] (sp_state K):=cal_mk X G h30 (fun f fd F=>F.binds (ps:=["_law_script","_law_k"]) fun _ _ _ _ _ _ us hl=>match us,hl with | [_,_],_=>rfl) (fun f fd F=>ok_state F c__law_cell_at)
  have c__law_take:Cal l.prog w K mg base 1 "_law_take" ["_law_state_here","_law_many"] sp_take:=cal_mk X G h31 (fun f fd F=>F.binds (ps:=["_law_state_here","_law_many"]) fun _ _ _ _ _ _ us hl=>match us,hl with | [_,_],_=>rfl) (fun f fd F=>ok_take F )
  have c__law_urn:Cal l.prog w K mg base 2 "_law_urn" ["_law_state_here","_law_kinds"] sp_lurn:=cal_mk X G h32 (fun f fd F=>F.binds (ps:=["_law_state_here","_law_kinds"]) fun _ _ _ _ _ _ us hl=>match us,hl with | [_,_],_=>rfl) (fun f fd F=>ok_lurn F B c__law_take)
  have c__law_cut:Cal l.prog w K mg base 1 "_law_cut" ["_law_top","_law_bottom"] sp_cut:=cal_mk X G h33 (fun f fd F=>F.binds (ps:=["_law_top","_law_bottom"]) fun _ _ _ _ _ _ us hl=>match us,hl with | [_,_],_=>rfl) (fun f fd F=>ok_cut F B)
  have c__law_plus:Cal l.prog w K mg base 2 "_law_plus" ["_law_one","_law_other"] sp_plus:=cal_mk X G h34 (fun f fd F=>F.binds (ps:=["_law_one","_law_other"]) fun _ _ _ _ _ _ us hl=>match us,hl with | [_,_],_=>rfl) (fun f fd F=>ok_lplus F c__law_cut)
  have c__law_by:Cal l.prog w K mg base 2 "_law_by" ["_law_one","_law_other"] sp_by:=cal_mk X G h35 (fun f fd F=>F.binds (ps:=["_law_one","_law_other"]) fun _ _ _ _ _ _ us hl=>match us,hl with | [_,_],_=>rfl) (fun f fd F=>ok_by F c__law_cut)
  have c__law_all_counts:Cal l.prog w K mg base 1 "_law_all_counts" ["_law_kinds","_law_many"] sp_ac:=cal_mk X G h36 (fun f fd F=>F.binds (ps:=["_law_kinds","_law_many"]) fun _ _ _ _ _ _ us hl=>match us,hl with | [_,_],_=>rfl) (fun f fd F=>ok_ac F B)
  have c__law_ahead:Cal l.prog w K mg base 9 "_law_ahead" ["_law_urn_here","_law_more","_law_counts"] sp_ah:=cal_mk X G h37 (fun f fd F=>F.binds (ps:=["_law_urn_here","_law_more","_law_counts"]) fun _ _ _ _ _ _ us hl=>match us,hl with | [_,_,_],_=>rfl) (fun f fd F=>ok_ah F B ⟨c_next_shares,c_counts_chance.up (by decide),c__law_plus.up (by decide),c__law_by.up (by decide)⟩)
  exact ok_law F B ⟨(c__law_state.up (by decide)),(c__law_take.up (by decide)),(c__law_urn.up (by decide)),(c__law_all_counts.up (by decide)),(c_counts_chance.up (by decide)),(c_next_shares.up (by decide)),(c_any_order.up (by decide)),(c__law_plus.up (by decide)),c__law_ahead⟩
theorem walk {l:PySem.W.OpenLaw} {q:Program} {loose:List Str} {XP:(Str->Option Value)->Heap->Prop} {YP:World->Heap->Prop} {d:DefRec} {K:Params->PySem.W.Frag} (hn:l.most=some 63) (hdf:d.params.defaults=[])
    (hY:∀ (w:World) (h:Heap),YP w h->(K w.params).In h)
    (F:∀ (w:World) (mg:Str->Option Value) (fa:Addr) (h:Heap),(K w.params).In h->h.Ns mainGlobals mg->mg d.name=some (.ref fa) ->
      ∃ fd:FuncData,(∀ (s:Shared) (u:Value),BindsTo s fd ⟨[u],[]⟩ [("_law_script",u)])/\∀ base:Heap,(K w.params).In base->base.Ns mainGlobals mg->FnOk l.prog w (K w.params) mg base CX0 10 fa fd ["_law_script"] (spLaw (K w.params))) :
    PySem.W.WalkO q loose XP YP l.row.toRowW d [] (fun f vs=>PySem.call f vs) :=
  L2.walk_of (n:=63) (k:=10) (x:="_law_script") (CX:=fun _=>CX0) (sp:=fun w=>spLaw (K w.params)) hn (by decide) hdf ⟨rfl,by decide,by decide⟩ hY F (fun _ _ a ns hl _ hS=>⟨a,ns,rfl,hS,hl,fun _=>rfl⟩) fun _ _ _ _ _ z=>z
end G
def PySem.Challenge.cw_growurns_k53_whole_simple_urns_holds.tw9463450604899652382 : Unit := ()
def PySem.Challenge.cw_growurns_k53_whole_simple_urns_holds.tw6329864544474801356 : Unit := ()
def PySem.Challenge.cw_growurns_k53_whole_simple_urns_holds.tw15590253692979108925 : Unit := ()
def PySem.Challenge.cw_growurns_k53_whole_simple_urns_holds.tw16149394231218302348 : Unit := ()
def PySem.Challenge.cw_growurns_k53_whole_simple_urns_holds.tw2460661222968362564 : Unit := ()
def PySem.Challenge.cw_growurns_k53_whole_simple_urns_holds.tw5495272373846077999 : Unit := ()
def PySem.Challenge.cw_growurns_k53_whole_simple_urns_holds.tw17235814204999111657 : Unit := ()
def PySem.Challenge.cw_growurns_k53_whole_simple_urns_holds.tw18311230193495057444 : Unit := ()
def PySem.Challenge.cw_growurns_k53_whole_simple_urns_holds.tw7304747400420990550 : Unit := ()
def PySem.Challenge.cw_growurns_k53_whole_simple_urns_holds.tw5882451284262153546 : Unit := ()
def PySem.Challenge.cw_growurns_k53_whole_simple_urns_holds.tw4177469473482135342 : Unit := ()
def PySem.Challenge.cw_growurns_k53_whole_simple_urns_holds.tw2535502619102688434 : Unit := ()
def PySem.Challenge.cw_growurns_k53_whole_simple_urns_holds.tw8595243825842934821 : Unit := ()
def PySem.Challenge.cw_growurns_k53_whole_simple_urns_holds.tw10513937212546971549 : Unit := ()
def PySem.Challenge.cw_growurns_k53_whole_simple_urns_holds.tw803942387117527296 : Unit := ()
def PySem.Challenge.cw_growurns_k53_whole_simple_urns_holds.tw15536830419818712526 : Unit := ()
def PySem.Challenge.cw_growurns_k53_whole_simple_urns_holds.tw5440813912839186446 : Unit := ()
def PySem.Challenge.cw_growurns_k53_whole_simple_urns_holds.tw13360933525851164907 : Unit := ()
def PySem.Challenge.cw_growurns_k53_whole_simple_urns_holds.tw2143580972351796440 : Unit := ()
def PySem.Challenge.cw_growurns_k53_whole_simple_urns_holds.tw2954592210025888326 : Unit := ()
def PySem.Challenge.cw_growurns_k53_whole_simple_urns_holds.tw4896124272710873993 : Unit := ()
def PySem.Challenge.cw_growurns_k53_whole_simple_urns_holds.tw12917579601590123367 : Unit := ()
def PySem.Challenge.cw_growurns_k53_whole_simple_urns_holds.tw10320282523670462378 : Unit := ()
def PySem.Challenge.cw_growurns_k53_whole_simple_urns_holds.tw8859356392465835663 : Unit := ()
def PySem.Challenge.cw_growurns_k53_whole_simple_urns_holds.tw17424101244487986235 : Unit := ()
def PySem.Challenge.cw_growurns_k53_whole_simple_urns_holds.tw12211384057737373923 : Unit := ()
def PySem.Challenge.cw_growurns_k53_whole_simple_urns_holds.tw8657881770661356089 : Unit := ()
def PySem.Challenge.cw_growurns_k53_whole_simple_urns_holds.tw14338072000969585691 : Unit := ()
def PySem.Challenge.cw_growurns_k53_whole_simple_urns_holds.tw13463644184930428202 : Unit := ()
def PySem.Challenge.cw_growurns_k53_whole_simple_urns_holds.tw9834790310020727314 : Unit := ()
def PySem.Challenge.cw_growurns_k53_whole_simple_urns_holds.tw4551091824348052320 : Unit := ()
def PySem.Challenge.cw_growurns_k53_whole_simple_urns_holds.tw6664921717351201319 : Unit := ()
def PySem.Challenge.cw_growurns_k53_whole_simple_urns_holds.tw11802265174778170273 : Unit := ()
def PySem.Challenge.cw_growurns_k53_whole_simple_urns_holds.tw5698210025047474130 : Unit := ()
set_option Elab.async true
open PySem PySem.W PyProof.Rows
set_option maxRecDepth 100000 in
set_option maxHeartbeats 0 in
theorem PySem.Challenge.cw_growurns_k53_whole_simple_urns_holds : PySem.Challenge.rw_growurns_k53_whole_simple_urns.Holds := by
  w_on; o_law; k_head; (case hw => w_witness2)
  k_fill
  refine G.walk (l := PySem.Challenge.rw_growurns_k53_whole_simple_urns) rfl rfl (fun w h Y => PySem.W.kIn_of Y) ?F
  case F =>
    intro w mg fa h KX NS hmg
    refine' G.all_mk KX NS hmg (G.errs_mk (B := 0) KX NS ?e0 ?e1 ?e4 ?e5 ?e7 ?eX) (G.has_mk ?a1 ?l1 ?c1 ?k1) (G.has_mk ?a2 ?l2 ?c2 ?k2) (G.has_mk ?a3 ?l3 ?c3 ?k3) (G.has_mk ?a4 ?l4 ?c4 ?k4) (G.has_mk ?a5 ?l5 ?c5 ?k5) (G.has_mk ?a6 ?l6 ?c6 ?k6) (G.has_mk ?a7 ?l7 ?c7 ?k7) (G.has_mk ?a8 ?l8 ?c8 ?k8) (G.has_mk ?a9 ?l9 ?c9 ?k9) (G.has_mk ?a10 ?l10 ?c10 ?k10) (G.has_mk ?a11 ?l11 ?c11 ?k11) (G.has_mk ?a12 ?l12 ?c12 ?k12) (G.has_mk ?a13 ?l13 ?c13 ?k13) (G.has_mk ?a14 ?l14 ?c14 ?k14) (G.has_mk ?a15 ?l15 ?c15 ?k15) (G.has_mk ?a16 ?l16 ?c16 ?k16) (G.has_mk ?a17 ?l17 ?c17 ?k17) (G.has_mk ?a18 ?l18 ?c18 ?k18) (G.has_mk ?a19 ?l19 ?c19 ?k19) (G.has_mk ?a20 ?l20 ?c20 ?k20) (G.has_mk ?a21 ?l21 ?c21 ?k21) (G.has_mk ?a22 ?l22 ?c22 ?k22) (G.has_mk ?a23 ?l23 ?c23 ?k23) (G.has_mk ?a24 ?l24 ?c24 ?k24) (G.has_mk ?a25 ?l25 ?c25 ?k25) (G.has_mk ?a26 ?l26 ?c26 ?k26) (G.has_mk ?a27 ?l27 ?c27 ?k27) (G.has_mk ?a28 ?l28 ?c28 ?k28) (G.has_mk ?a29 ?l29 ?c29 ?k29) (G.has_mk ?a30 ?l30 ?c30 ?k30) (G.has_mk ?a31 ?l31 ?c31 ?k31) (G.has_mk ?a32 ?l32 ?c32 ?k32) (G.has_mk ?a33 ?l33 ?c33 ?k33) (G.has_mk ?a34 ?l34 ?c34 ?k34) (G.has_mk ?a35 ?l35 ?c35 ?k35) (G.has_mk ?a36 ?l36 ?c36 ?k36) (G.has_mk ?a37 ?l37 ?c37 ?k37) (G.has_mk ?la ?ll ?lc ?lk) ?z1 ?z2 ?z3 ?z4 ?z5 ?z6 ?z7 ?z8 ?z9 ?z10 ?z11 ?z12 ?z13 ?m1 ?m2 ?m3 ?m4 ?m5
    (case e0 => k_is); (case e1 => k_is); (case e4 => k_is); (case e5 => k_is); (case e7 => k_is)
    (case eX => kernel_rfl)
    (case a1 => k_is); (case l1 => k_is); (case c1 => k_is); (case k1 => k_is)
    (case a2 => k_is); (case l2 => k_is); (case c2 => k_is); (case k2 => k_is)
    (case a3 => k_is); (case l3 => k_is); (case c3 => k_is); (case k3 => k_is)
    (case a4 => k_is); (case l4 => k_is); (case c4 => k_is); (case k4 => k_is)
    (case a5 => k_is); (case l5 => k_is); (case c5 => k_is); (case k5 => k_is)
    (case a6 => k_is); (case l6 => k_is); (case c6 => k_is); (case k6 => k_is)
    (case a7 => k_is); (case l7 => k_is); (case c7 => k_is); (case k7 => k_is)
    (case a8 => k_is); (case l8 => k_is); (case c8 => k_is); (case k8 => k_is)
    (case a9 => k_is); (case l9 => k_is); (case c9 => k_is); (case k9 => k_is)
    (case a10 => k_is); (case l10 => k_is); (case c10 => k_is); (case k10 => k_is)
    (case a11 => k_is); (case l11 => k_is); (case c11 => k_is); (case k11 => k_is)
    (case a12 => k_is); (case l12 => k_is); (case c12 => k_is); (case k12 => k_is)
    (case a13 => k_is); (case l13 => k_is); (case c13 => k_is); (case k13 => k_is)
    (case a14 => k_is); (case l14 => k_is); (case c14 => k_is); (case k14 => k_is)
    (case a15 => k_is); (case l15 => k_is); (case c15 => k_is); (case k15 => k_is)
    (case a16 => k_is); (case l16 => k_is); (case c16 => k_is); (case k16 => k_is)
    (case a17 => k_is); (case l17 => k_is); (case c17 => k_is); (case k17 => k_is)
    (case a18 => k_is); (case l18 => k_is); (case c18 => k_is); (case k18 => k_is)
    (case a19 => k_is); (case l19 => k_is); (case c19 => k_is); (case k19 => k_is)
    (case a20 => k_is); (case l20 => k_is); (case c20 => k_is); (case k20 => k_is)
    (case a21 => k_is); (case l21 => k_is); (case c21 => k_is); (case k21 => k_is)
    (case a22 => k_is); (case l22 => k_is); (case c22 => k_is); (case k22 => k_is)
    (case a23 => k_is); (case l23 => k_is); (case c23 => k_is); (case k23 => k_is)
    (case a24 => k_is); (case l24 => k_is); (case c24 => k_is); (case k24 => k_is)
    (case a25 => k_is); (case l25 => k_is); (case c25 => k_is); (case k25 => k_is)
    (case a26 => k_is); (case l26 => k_is); (case c26 => k_is); (case k26 => k_is)
    (case a27 => k_is); (case l27 => k_is); (case c27 => k_is); (case k27 => k_is)
    (case a28 => k_is); (case l28 => k_is); (case c28 => k_is); (case k28 => k_is)
    (case a29 => k_is); (case l29 => k_is); (case c29 => k_is); (case k29 => k_is)
    (case a30 => k_is); (case l30 => k_is); (case c30 => k_is); (case k30 => k_is)
    (case a31 => k_is); (case l31 => k_is); (case c31 => k_is); (case k31 => k_is)
    (case a32 => k_is); (case l32 => k_is); (case c32 => k_is); (case k32 => k_is)
    (case a33 => k_is); (case l33 => k_is); (case c33 => k_is); (case k33 => k_is)
    (case a34 => k_is); (case l34 => k_is); (case c34 => k_is); (case k34 => k_is)
    (case a35 => k_is); (case l35 => k_is); (case c35 => k_is); (case k35 => k_is)
    (case a36 => k_is); (case l36 => k_is); (case c36 => k_is); (case k36 => k_is)
    (case a37 => k_is); (case l37 => k_is); (case c37 => k_is); (case k37 => k_is)
    (case la => k_is); (case ll => k_is); (case lc => k_is); (case lk => k_is)
    (case z1 => k_is); (case z2 => k_is); (case z3 => k_is); (case z4 => k_is); (case z5 => k_is); (case z6 => k_is); (case z7 => k_is); (case z8 => k_is); (case z9 => k_is); (case z10 => k_is); (case z11 => k_is); (case z12 => k_is); (case z13 => k_is)
    (case m1 => k_is); (case m2 => k_is); (case m3 => k_is); (case m4 => k_is); (case m5 => k_is)
#print axioms PySem.Challenge.cw_growurns_k53_whole_simple_urns_holds
