import PyProof.Rows.All
import Wide.All
import OpenK.AllK
import Wide.FinOn
import Lean
import PyProof.EqAt
import PyProof.EqKinds
import PyProof.TupleCall
import PySem.Challenge.RW_carvebed_k45_needed_cutters
set_option tactic.hygienic false
set_option bootstrap.genMatcherCode false
set_option compiler.extract_closed false
theorem bC {p:Prop} (h:¬p→False):p:=Classical.byContradiction h
set_option Elab.async false
set_option linter.all false
set_option maxRecDepth 100000
set_option maxHeartbeats 4000000
namespace L2
open PySem PySem.Spec PyProof.Rows
noncomputable abbrev Key:=Sum Int Str
noncomputable def keyIs:Key→Value→Bool
 | .inl k,v=>Value.isInt k v
 | .inr x,v=>Value.isStrOf x v
noncomputable def keyH (w:World):Key→Int
 | .inl k=>hashInt k
 | .inr x=>hashStr w x
theorem keyIs_shape:∀ {k:Key} {v:Value},keyIs k v=true→(∃ i t,k=Sum.inl i∧v=Value.int i t)∨(∃ x t,k=Sum.inr x∧v=Value.str x t)
 | .inl i,v,h=>by
  obtain ⟨t,e⟩:=Value.isInt_shape (k:=i) (v:=v) h
  exact .inl ⟨i,t,rfl,e⟩
 | .inr x,v,h=>by
  obtain ⟨t,e⟩:=Value.isStrOf_shape (x:=x) (v:=v) h
  exact .inr ⟨x,t,rfl,e⟩
theorem keyIs_int (i:Int) (t:Tok):keyIs (.inl i) (.int i t)=true:=by simp [keyIs,Value.isInt]
theorem keyIs_str (x:Str) (t:Tok):keyIs (.inr x) (.str x t)=true:=by simp [keyIs,Value.isStrOf]
theorem key_ll (a b:Int):decide ((Sum.inl a:Key)=Sum.inl b)=(a == b):=by
 by_cases e:a=b
 ·subst e; simp
 ·have h:¬ (Sum.inl a:Key)=Sum.inl b:=fun q=>e (Sum.inl.inj q)
  rw [decide_eq_false h]
  exact (beq_eq_false_iff_ne.mpr e).symm
theorem key_rr (a b:Str):decide ((Sum.inr a:Key)=Sum.inr b)=decide (a=b):=by
 by_cases e:a=b
 ·subst e; simp
 ·have h:¬ (Sum.inr a:Key)=Sum.inr b:=fun q=>e (Sum.inr.inj q)
  rw [decide_eq_false h,decide_eq_false e]
theorem key_lr (a:Int) (b:Str):decide ((Sum.inl a:Key)=Sum.inr b)=false:=decide_eq_false (fun q=>nomatch q)
theorem key_rl (a:Str) (b:Int):decide ((Sum.inr a:Key)=Sum.inl b)=false:=decide_eq_false (fun q=>nomatch q)
noncomputable def mixKind (prog:Program) (w:World):PySem.KeyKind prog w Key where
 is:=keyIs
 hash:=keyH w
 inj:=fun v a b ha hb=>by
  rcases keyIs_shape ha with ⟨i,t,rfl,rfl⟩ | ⟨x,t,rfl,rfl⟩
  ·rcases keyIs_shape hb with ⟨j,u,rfl,e⟩ | ⟨y,u,rfl,e⟩
   ·injection e with e1 _; rw [e1]
   ·exact nomatch e
  ·rcases keyIs_shape hb with ⟨j,u,rfl,e⟩ | ⟨y,u,rfl,e⟩
   ·exact nomatch e
   ·injection e with e1 _; rw [e1]
 byValue:=fun k v h=>by
  rcases keyIs_shape h with ⟨i,t,rfl,rfl⟩ | ⟨x,t,rfl,rfl⟩ <;> rfl
 pyHash:=fun hv h=>by
  rcases keyIs_shape hv with ⟨i,t,rfl,rfl⟩ | ⟨x,t,rfl,rfl⟩
  ·exact wpAny_pyHash_int h
  ·exact wpAny_pyHash_str h
 eqBool:=fun hu hv h=>by
  rcases keyIs_shape hu with ⟨i,t,rfl,rfl⟩ | ⟨x,t,rfl,rfl⟩
  ·rcases keyIs_shape hv with ⟨j,u,rfl,rfl⟩ | ⟨y,u,rfl,rfl⟩
   ·rw [key_ll] at h; exact wpAny_eqBool_int h
   ·rw [key_lr] at h; exact SeqAt.EqAt.int_str i t y u _ _ _ _ h
  ·rcases keyIs_shape hv with ⟨j,u,rfl,rfl⟩ | ⟨y,u,rfl,rfl⟩
   ·rw [key_rl] at h; exact SeqAt.EqAt.str_int x t j u _ _ _ _ h
   ·rw [key_rr] at h; exact wpAny_eqBool_str h
 «strs»:=fun k x t v h=>by
  rcases keyIs_shape h with ⟨i,u,rfl,e⟩ | ⟨y,u,rfl,e⟩
  ·exact nomatch e
  ·injection e with e1 _
   subst e1
   cases v <;> rfl
theorem mixKind_int (prog:Program) (w:World) (i:Int) (t:Tok):(mixKind prog w).is (.inl i) (.int i t)=true:=keyIs_int i t
theorem mixKind_str (prog:Program) (w:World) (x:Str) (t:Tok):(mixKind prog w).is (.inr x) (.str x t)=true:=keyIs_str x t
inductive V where
 | non | bl (b:Bool) | int (i:Int) | str (x:Str) | byt (b:Array UInt8) | flt (b:UInt64) | ref (a:Addr) | ty (n:String)
 deriving DecidableEq
noncomputable def RelV:V→Value→Prop
 | .non,u=>u=Value.none
 | .bl b,u=>u=Value.bool b
 | .int i,u=>∃ t,u=Value.int i t
 | .str x,u=>∃ t,u=Value.str x t
 | .byt b,u=>∃ t,u=Value.bytes b t
 | .flt b,u=>∃ t,u=Value.float b t
 | .ref a,u=>u=Value.ref a
 | .ty n,u=>u=Value.type n
noncomputable abbrev Vals:List V→List Value→Prop:=Paired RelV
theorem Vals.length {xs:List V} {us:List Value} (r:Vals xs us):xs.length=us.length:=Paired.length r
theorem Vals.get:∀ {xs:List V} {us:List Value} {i:Nat} {x:V},Vals xs us→xs[i]?=some x→∃ u,us[i]?=some u∧RelV x u
 | _,_,_,_,.nil,e=>by simp at e
 | _,_,0,_,.cons r _,e=>by simp at e; subst e; exact ⟨_,rfl,r⟩
 | _,_,i + 1,x,.cons _ t,e=>by
  refine bC fun g_=>?_
  obtain ⟨u,h1,h2⟩:=Vals.get (i:=i) (x:=x) t (by simpa using e)
  refine g_ ?_
  clear g_
  exact ⟨u,by simpa using h1,h2⟩
theorem Vals.set {x:V} {u:Value} (r:RelV x u):∀ {xs:List V} {us:List Value} (i:Nat),Vals xs us→Vals (xs.set i x) (us.set i u)
 | _,_,_,.nil=>.nil
 | _,_,0,.cons _ t=>.cons r t
 | _,_,i + 1,.cons q t=>.cons q (Vals.set r i t)
theorem Vals.append:∀ {xs ys:List V} {us ws:List Value},Vals xs us→Vals ys ws→Vals (xs++ys) (us++ws)
 | _,_,_,_,.nil,s=>s
 | _,_,_,_,.cons r t,s=>.cons r (Vals.append t s)
theorem Vals.take:∀ {xs:List V} {us:List Value} (n:Nat),Vals xs us→Vals (xs.take n) (us.take n)
 | _,_,0,_=>.nil
 | _,_,_ + 1,.nil=>.nil
 | _,_,n + 1,.cons r t=>.cons r (Vals.take n t)
theorem Vals.drop:∀ {xs:List V} {us:List Value} (n:Nat),Vals xs us→Vals (xs.drop n) (us.drop n)
 | _,_,0,r=>r
 | _,_,_ + 1,.nil=>.nil
 | _,_,n + 1,.cons _ t=>Vals.drop n t
noncomputable def RelO:Option V→Option Value→Prop
 | some v,some u=>RelV v u
 | none,none=>True
 | _,_=>False
noncomputable def KV {κ:Type}:List (κ×V)→List (κ×Value)→Prop:=Paired fun (p:κ×V) (q:κ×Value)=>p.1=q.1∧RelV p.2 q.2
noncomputable def kV:Key→V
 | .inl i=>.int i
 | .inr x=>.str x
inductive HO where
  | lst (xs:List V)
  | tup (xs:List V)
  | dK (kvs:List (Key×V)) | dT (kvs:List (List Key×V))
  | set (S:Int→Bool) (n:Nat)
  | ins (C dx:Addr) (fs:List (Str×V))
  | own (x:Addr)
  | xd (fs:List (Str×V))
  | met (f x:Addr)
  | rng (lo hi:Int)
  | frz (o:Obj) (u:HO)
  | tbl (ps:Array Value)
  | ext (φ:Heap→Prop)
noncomputable abbrev Hp:=Addr→Option HO
noncomputable def upd (H:Hp) (a:Addr) (o:HO):Hp:=fun b=>if b=a then some o else H b
theorem upd_same {H:Hp} {a:Addr} {o:HO}:upd H a o a=some o:=by unfold upd; rw [if_pos rfl]
theorem upd_ne {H:Hp} {a b:Addr} {o:HO} (h:b≠a):upd H a o b=H b:=by unfold upd; rw [if_neg h]
theorem ne_of {H:Hp} {a b:Addr} {o u:HO} (h:H a=some o) (h':H b=some u) (d:o≠u):a≠b:=by
 intro e; subst e; rw [h] at h'; exact d (Option.some.inj h')
theorem ne_of_none {H:Hp} {a b:Addr} {o:HO} (h:H a=some o) (h':H b=none):a≠b:=by
 intro e; subst e; rw [h] at h'; cases h'
section
variable (P:Program) (w:World)
noncomputable def ObjOk (H:Hp) (h:Heap) (a:Addr):HO→Prop
 | .lst xs=>xs.length≤sizeLine∧∃ (its:List Value) (n:Nat),Vals xs its∧h.get? a=some { cls:=.type "list",data:=.seq its.toArray n }
 | .tup xs=>xs.length≤sizeLine∧∃ its:List Value,Vals xs its∧IsTup h a its.toArray
 | .dK kvs=>kvs.length≤sizeLine∧(a == sysModules)=false∧∃ vs,KV kvs vs∧h.DictOf (mixKind P w) a vs
 | .dT kvs=>kvs.length≤sizeLine∧(a == sysModules)=false∧∃ xs:List (List Key×Addr×Value),
   Paired (fun (p:List Key×V) (q:List Key×Addr×Value)=>p.1=q.1∧H q.2.1=some (.tup (p.1.map kV))∧RelV p.2 q.2.2) kvs xs ∧
   ∃ o es ep,h.get? a=some o∧o.ExactDict∧o.data=.dict es ep∧es.toList=xs.map (entryOfKey (tupleKind (mixKind P w)))∧(xs.map (·.1)).Nodup
 | .set S n=>h.SetOf (intKind P w) a S n
 | .ins C dx fs=>H dx=some (.own a)∧fs.length≤1000∧dx≠a∧h.get? a=some (PySem.W.instObj C dx) ∧
   ∃ mA,h.Ns1 dx mA∧(∀ f,RelO (fs.lookup f) (mA f))∧PySem.Within mA (fs.map (·.1))
 | .own _=>∃ o,h.get? a=some o
 | .xd fs=>∃ mA,h.Ns1 a mA∧∀ f,RelO (fs.lookup f) (mA f)
 | .rng lo hi=>∃ t u v,h.get? a=some { cls:=.type "range",data:=.fields #[.int lo t,.int hi u,.int 1 v] }
 | .frz o u=>h.get? a=some o∧ObjOk H h a u
 | .tbl ps=>h.get? a=some { cls:=.none,data:=.fields ps }
 | .met f x=>h.get? a=some (PySem.W.methodObj (.ref f) (.ref x))
 | .ext φ=>φ h∧(∃ o,h.get? a=some o)∧∀ h1 h2:Heap,φ h1→(∀ o,h1.get? a=some o→h2.get? a=some o)→φ h2
noncomputable def HOk (H:Hp) (h:Heap):Prop:=∀ a o,H a=some o→ObjOk P w H h a o
end
section
variable {P:Program} {w:World} {H H':Hp} {h h':Heap} {a:Addr} {o:HO}
theorem ObjOk.lt (x:ObjOk P w H h a o):a < h.objs.size:=by
 cases o with
 | lst xs=>obtain ⟨_,_,_,_,e⟩:=x; exact Heap.lt_size e
 | tup xs=>obtain ⟨_,_,_,p⟩:=x; exact p.lt
 | dK kvs=>obtain ⟨_,_,_,_,o,_,_,e,_⟩:=x; exact Heap.lt_size e
 | dT kvs=>obtain ⟨_,_,_,_,o,_,_,e,_⟩:=x; exact Heap.lt_size e
 | set S n=>obtain ⟨o,_,_,_,e,_⟩:=x; exact Heap.lt_size e
 | ins C dx fs=>obtain ⟨_,_,_,e,_⟩:=x; exact Heap.lt_size e
 | own y=>obtain ⟨_,e⟩:=x; exact Heap.lt_size e
 | xd fs=>obtain ⟨_,⟨_,_,_,e,_⟩,_⟩:=x; exact Heap.lt_size e
 | rng lo hi=>obtain ⟨_,_,_,e⟩:=x; exact Heap.lt_size e
 | frz ob u=>obtain ⟨e,_⟩:=x; exact Heap.lt_size e
 | tbl ps=>exact Heap.lt_size (show h.get? a=some _ from x)
 | met f y=>exact Heap.lt_size (show h.get? a=some _ from x)
 | ext φ=>obtain ⟨_,⟨_,e⟩,_⟩:=x; exact Heap.lt_size e
theorem Paired.mapP {α β:Type} {F G:α→β→Prop}:∀ {l₁:List α} {l₂:List β},Paired F l₁ l₂→(∀ a b,F a b→G a b)→Paired G l₁ l₂
 | _,_,.nil,_=>.nil
 | _,_,.cons r t,f=>.cons (f _ _ r) (Paired.mapP t f)
theorem ObjOk.stay (x:ObjOk P w H h a o) (k:∀ b u,(b=a∨H b=some (.own a))→h.get? b=some u→h'.get? b=some u)
  (ho:∀ b,H b=some (.own a)→H' b=some (.own a)) (ht:∀ b xs,H b=some (.tup xs)→H' b=some (.tup xs)):ObjOk P w H' h' a o:=by
 induction o with
 | lst xs=>obtain ⟨z,its,n,r,e⟩:=x; exact ⟨z,its,n,r,k _ _ (.inl rfl) e⟩
 | tup xs=>obtain ⟨z,its,r,ob,e,c⟩:=x; exact ⟨z,its,r,ob,k _ _ (.inl rfl) e,c⟩
 | dK kvs=>obtain ⟨z,y,vs,r,ob,es,ep,e,c⟩:=x; exact ⟨z,y,vs,r,ob,es,ep,k _ _ (.inl rfl) e,c⟩
 | dT kvs =>
  refine bC fun g_=>?_
  obtain ⟨z,y,xs,r,ob,es,ep,e,c⟩:=x
  refine g_ ?_
  clear g_
  exact ⟨z,y,xs,Paired.mapP r fun p q z=>⟨z.1,ht _ _ z.2.1,z.2.2⟩,ob,es,ep,k _ _ (.inl rfl) e,c⟩
 | set S n=>obtain ⟨ob,es,ep,t,e,c⟩:=x; exact ⟨ob,es,ep,t,k _ _ (.inl rfl) e,c⟩
 | ins C dx fs =>
  refine bC fun g_=>?_
  obtain ⟨d,z,ne,e,mA,⟨od,es,ep,e2,c⟩,r⟩:=x
  refine g_ ?_
  clear g_
  exact ⟨ho _ d,z,ne,k _ _ (.inl rfl) e,mA,⟨od,es,ep,k _ _ (.inr d) e2,c⟩,r⟩
 | own y=>obtain ⟨ob,e⟩:=x; exact ⟨ob,k _ _ (.inl rfl) e⟩
 | xd fs=>obtain ⟨mA,⟨od,es,ep,e,c⟩,r⟩:=x; exact ⟨mA,⟨od,es,ep,k _ _ (.inl rfl) e,c⟩,r⟩
 | rng lo hi=>obtain ⟨t,u,v,e⟩:=x; exact ⟨t,u,v,k _ _ (.inl rfl) e⟩
 | frz ob u ih=>obtain ⟨e,q⟩:=x; exact ⟨k _ _ (.inl rfl) e,ih q⟩
 | tbl ps =>
  have e:h.get? a=some { cls:=.none,data:=.fields ps }:=x
  show h'.get? a=some { cls:=.none,data:=.fields ps }
  exact k a _ (.inl rfl) e
 | met f y =>
  have e:h.get? a=some (PySem.W.methodObj (.ref f) (.ref y)):=x
  show h'.get? a=some (PySem.W.methodObj (.ref f) (.ref y))
  exact k a _ (.inl rfl) e
 | ext φ=>obtain ⟨p,⟨o,e⟩,st⟩:=x; exact ⟨st _ _ p fun o q=>k _ _ (.inl rfl) q,⟨o,k _ _ (.inl rfl) e⟩,st⟩
theorem HOk.lt (x:HOk P w H h) (e:H a=some o):a < h.objs.size:=(x a o e).lt
theorem HOk.fresh (x:HOk P w H h) (e:h.objs.size≤a):H a=none:=by
 cases q:H a with
 | none=>rfl
 | some u=>exact absurd (Nat.lt_of_lt_of_le (x.lt q) e) (Nat.lt_irrefl _)
theorem HOk.kept (x:HOk P w H h) (k:∀ b u,h.get? b=some u→h'.get? b=some u):HOk P w H h':=fun a o e =>
 (x a o e).stay (fun b u Z q=>k b u q) (fun Z q=>q) fun Z Z q=>q
theorem HOk.laid (x:HOk P w H h) (k:∀ b u,h.get? b=some u→h'.get? b=some u) (hp:h.objs.size≤a) (new:ObjOk P w (upd H a o) h' a o):HOk P w (upd H a o) h':=fun b u e=>by
 have hn:=x.fresh hp
 by_cases hb:b=a
 ·subst hb; rw [upd_same] at e; cases e; exact new
 ·rw [upd_ne hb] at e
  exact (x b u e).stay (fun c v Z q=>k c v q) (fun c q=>by rw [upd_ne (ne_of_none q hn)]; exact q) fun c xs q=>by rw [upd_ne (ne_of_none q hn)]; exact q
end
noncomputable def Rd (H:Hp) (a:Addr) (u:HO):Prop:=H a=some u∨∃ o,H a=some (.frz o u)
theorem Rd.ok {P:Program} {w:World} {H:Hp} {h:Heap} {a:Addr} {u:HO} (r:Rd H a u) (x:HOk P w H h):ObjOk P w H h a u:=by
 rcases r with r | ⟨o,r⟩
 ·exact x a u r
 ·obtain ⟨_,q⟩:=x a _ r
  exact q
noncomputable def Mut:Option HO→Prop
 | some (.lst _)=>True
 | some (.dK _)=>True
 | some (.dT _)=>True
 | some (.set _ _)=>True
 | some (.ins _ _ _)=>True
 | some (.ext _)=>True
 | _=>False
section
variable {P:Program} {w:World} {H:Hp} {h h':Heap} {x e:Addr} {o':HO}
theorem HOk.write (ok:HOk P w H h) (mu:Mut (H x)) (he:e=x∨H e=some (.own x)) (k:∀ b u,b≠e→h.get? b=some u→h'.get? b=some u) (heo:∃ u,h'.get? e=some u)
  (new:ObjOk P w (upd H x o') h' x o'):HOk P w (upd H x o') h':=fun b u q=>by
 have nown:∀ c y,H c=some (.own y)→c≠x:=fun c y r z=>by subst z; rw [r] at mu; exact mu
 have ntup:∀ c xs,H c=some (.tup xs)→c≠x:=fun c xs r z=>by subst z; rw [r] at mu; exact mu
 by_cases hb:b=x
 ·subst hb; rw [upd_same] at q; cases q; exact new
 ·rw [upd_ne hb] at q
  by_cases hbe:b=e
  ·have q':H b=some (.own x):=by
    rcases he with z | z
    ·exact absurd (hbe.trans z) hb
    ·rw [hbe]; exact z
   rw [q] at q'; cases q'
   obtain ⟨v,hv⟩:=heo
   exact ⟨v,by rw [hbe]; exact hv⟩
  ·refine (ok b u q).stay (fun c v hc r=>k c v ?_ r) (fun c r=>by rw [upd_ne (nown c b r)]; exact r) fun c xs r=>by rw [upd_ne (ntup c xs r)]; exact r
   rcases hc with rfl | hc
   ·exact hbe
   ·rintro rfl
    rcases he with z | z
    ·exact nown c b hc z
    ·rw [hc] at z; cases z; exact hb rfl
end
structure Un (fs ex:List Addr) (H H':Hp) (h h':Heap):Prop where
 keep:∀ b o,h.get? b=some o→H b=none→b ∉ fs→b ∉ ex→h'.get? b=some o
 slot:∀ b o,h.get? b=some o→H b=none→b∈fs→b ∉ ex→∃ sl,h'.get? b=some { o with slots:=sl }
 free:∀ b o,h.get? b=some o→H b=none→b ∉ ex→H' b=none
 there:∀ b o,h.get? b=some o→b ∉ ex→∃ o',h'.get? b=some o'
 tups:∀ b xs,H b=some (.tup xs)→H' b=some (.tup xs)
 frzs:∀ b o u,H b=some (.frz o u)→H' b=some (.frz o u)
 tbls:∀ b ps,H b=some (.tbl ps)→∃ more,H' b=some (.tbl (ps++more))
section
variable {fs fs' ex ex':List Addr} {H H1 H2:Hp} {h h1 h2 h':Heap} {a x e:Addr} {o:HO}
theorem Un.any (u:Un fs ex H H1 h h1) {b:Addr} {ob:Obj} (q:h.get? b=some ob) (n:H b=none) (hx:b ∉ ex):∃ sl,h1.get? b=some { ob with slots:=sl }:=by
 by_cases hb:b∈fs
 ·exact u.slot b ob q n hb hx
 ·exact ⟨ob.slots,u.keep b ob q n hb hx⟩
theorem Un.kept (k:∀ b u,h.get? b=some u→h'.get? b=some u):Un fs ex H H h h' :=
 ⟨fun b ob q Z Z Z=>k b ob q,fun b ob q Z Z Z=>⟨ob.slots,k b ob q⟩,fun Z Z Z n Z=>n,fun b ob q Z=>⟨ob,k b ob q⟩,fun Z Z q=>q,fun Z Z Z q=>q,fun Z ps q=>⟨#[],by rw [q]; simp⟩⟩
theorem Un.refl:Un fs ex H H h h:=Un.kept fun Z Z q=>q
theorem Un.laid (k:∀ b u,h.get? b=some u→h'.get? b=some u) (hp:h.objs.size≤a) (hn:H a=none):Un fs ex H (upd H a o) h h' where
 keep:=fun b u q Z Z Z=>k b u q
 slot:=fun b u q Z Z Z=>⟨u.slots,k b u q⟩
 free:=fun b u q n Z=>by rw [upd_ne (Nat.ne_of_lt (Nat.lt_of_lt_of_le (Heap.lt_size q) hp))]; exact n
 there:=fun b u q Z=>⟨u,k b u q⟩
 tups:=fun b xs q=>by rw [upd_ne (ne_of_none q hn)]; exact q
 frzs:=fun b u xs q=>by rw [upd_ne (ne_of_none q hn)]; exact q
 tbls:=fun b ps q=>⟨#[],by rw [upd_ne (ne_of_none q hn),q]; simp⟩
theorem Un.write (mu:Mut (H x)) (he:e=x∨H e=some (.own x)) (k:∀ b u,b≠e→h.get? b=some u→h'.get? b=some u) (heo:∃ u,h'.get? e=some u):Un fs ex H (upd H x o) h h':=by
 have hx:∀ b,H b=none→b≠x:=fun b n z=>by subst z; rw [n] at mu; exact mu
 have hb:∀ b,H b=none→b≠e:=fun b n z=>by
  subst z
  rcases he with r | r
  ·exact hx b n r
  ·rw [n] at r; cases r
 have hm:∀ b u,H b=some u→¬ Mut (some u)→b≠x:=fun b u q nm z=>by subst z; rw [q] at mu; exact nm mu
 refine ⟨fun b u q n Z Z=>k b u (hb b n) q,fun b u q n Z Z=>⟨u.slots,k b u (hb b n) q⟩,fun b u q n Z=>by rw [upd_ne (hx b n)]; exact n,fun b u q Z=>?_,
  fun b xs q=>by rw [upd_ne (hm b _ q fun z=>z)]; exact q,fun b u xs q=>by rw [upd_ne (hm b _ q fun z=>z)]; exact q,fun b ps q=>⟨#[],by rw [upd_ne (hm b _ q fun z=>z),q]; simp⟩⟩
 by_cases hbe:b=e
 ·subst hbe; exact heo
 ·exact ⟨u,k b u hbe q⟩
end
noncomputable def trk (h:Heap) (H:Hp):List Addr:=(List.range h.objs.size).filter fun a=>(H a).isSome
noncomputable def hidT (h:Heap) (H:Hp):Heap:=PySem.W.hideAll h (trk h H)
theorem hidT_size (h:Heap) (H:Hp):(hidT h H).objs.size=h.objs.size:=PySem.W.hideAll_size _ _
theorem hidT_get {h:Heap} {H:Hp} {b:Addr} {o:Obj} (e:h.get? b=some o) (n:H b=none):(hidT h H).get? b=some o :=
 PySem.W.hideAll_get _ e fun hm=>by
  have q:(H b).isSome=true:=(List.mem_filter.mp hm).2
  rw [n] at q; simp at q
theorem of_hidT {h:Heap} {H:Hp} {b:Addr} {o:Obj} (e:(hidT h H).get? b=some o):h.get? b=some o∧H b=none:=by
 have e':h.get? b=some o:=PySem.W.of_hideAll (trk h H) e
 refine ⟨e',?_⟩
 cases q:H b with
 | none=>rfl
 | some x =>
  have hm:b∈trk h H:=List.mem_filter.mpr ⟨List.mem_range.mpr (Heap.lt_size e'),by simp [q]⟩
  have z:(hidT h H).get? b=none:=PySem.W.hideAll_none (trk h H) hm
  rw [z] at e; cases e
structure Mod (K:PySem.W.Frag) (mg:Str→Option Value) (base:Heap):Prop where
 kin:K.In base
 glob:base.Ns mainGlobals mg
 blt:∃ mb,base.Ns builtinsNs mb∧∀ x:Str,x≠"__name__"→mb x=bootBuiltins x
 nolimit:base.NoLimit
structure Cx where
 prog:Program
 w:World
 K:PySem.W.Frag
 mg:Str→Option Value
 base:Heap
 A:Around
 N:List Str
 s₀:Shared
 H₀:Hp
 env:Env
 outer:List Env
 stack:List Env
 ex:List Addr
 fn:Str→Bool
 calm:Bool
 pn:List (Addr×Obj)
 xe:Value→Shared→Prop
noncomputable def frs (l:List Env):List Addr:=l.filterMap (·.frame)
noncomputable abbrev Cx.fs (X:Cx):List Addr:=frs X.outer
noncomputable def Vis (sc:Scope) (x:Str):Prop:=sc.names.lookup x=some .local∨sc.names.lookup x=some .cell∨sc.names.lookup x=some .free
noncomputable def Loc (sc:Scope) (x:Str):Prop:=sc.names.lookup x=some .local∨sc.names.lookup x=some .cell
noncomputable def Look (env:Env) (h:Heap) (m:Str→Option Value) (x:Str) (u:Value):Prop :=
 (env.kindOf x=some .local∧m x=some u)∨((env.kindOf x=some .cell∨env.kindOf x=some .free)∧∃ c,env.cells.lookup x=some c∧h.IsCell c (some u))
structure Cx.Ok (X:Cx):Prop where
 mod:Mod X.K X.mg X.base
 kind:X.env.scope.kind=.function
 glob:X.env.globals=mainGlobals
 blt:X.env.builtins=builtinsNs
 above:X.s₀.heap.objs.size≤X.env.locals
 inj:∀ x y c,X.env.cells.lookup x=some c→X.env.cells.lookup y=some c→x=y
 has:∀ x,(X.env.kindOf x=some .cell∨X.env.kindOf x=some .free)→∃ c,X.env.cells.lookup x=some c
 cab:∀ x c,X.fn x=true→X.env.cells.lookup x=some c→X.s₀.heap.objs.size≤c
 hd:X.calm=true→X.A.handled=none
 frames:X.A.frames=some X.stack
 stk:X.stack=X.outer∨(X.stack=X.env :: X.outer∧X.env.frame=some X.env.locals)
 exf:∀ b∈X.ex,b≠X.env.locals∧∀ x c,X.env.cells.lookup x=some c→c≠b
 bs:∀ b o,X.base.get? b=some o→X.s₀.heap.get? b=some o∧X.H₀ b=none
 bsz:X.base.objs.size≤X.s₀.heap.objs.size
 noex:∀ b o,X.base.get? b=some o→b ∉ X.ex
 exfs:∀ b∈X.ex,b ∉ X.fs
 funs:X.s₀.heap.FunFrames X.base X.outer
 frf:∀ b∈X.fs,X.H₀ b=none
structure Inv (X:Cx) (pins:List (Addr×Obj)) (σ:List (Option V)) (H:Hp) (s:Shared):Prop where
 ok:X.Ok
 os:s.os=X.s₀.os
 bare:AllBare s.gens
 base:Un X.fs X.ex X.H₀ H X.s₀.heap s.heap
 loc:∃ m,s.heap.Ns X.env.locals m∧∀ (i:Nat) (x:Str) (v:V),X.N[i]?=some x→σ[i]?=some (some v)→Vis X.env.scope x→∃ u,RelV v u∧Look X.env s.heap m x u
 cell:∀ x c,X.env.cells.lookup x=some c→∃ v,s.heap.IsCell c v
 free:H X.env.locals=none
 freeC:∀ x c,X.env.cells.lookup x=some c→H c=none
 pin:∀ p∈X.pn++pins,s.heap.get? p.1=some p.2∧H p.1=none∧p.1≠X.env.locals∧p.1 ∉ X.fs∧∀ v,p.2.data≠.cell v
 hok:HOk X.prog X.w H s.heap
 len:σ.length=X.N.length
section
variable {X:Cx} {pins:List (Addr×Obj)} {σ:List (Option V)} {H H':Hp} {s:Shared} {h':Heap}
theorem Cx.Ok.nofr (ok:X.Ok) {b:Addr} {o:Obj} (e:X.base.get? b=some o):b ∉ X.fs:=fun hb=>by
 have:=(ok.funs.mem hb).1
 rw [e] at this; cases this
theorem Inv.bs (I:Inv X pins σ H s):∀ b o,X.base.get? b=some o→s.heap.get? b=some o∧H b=none:=fun b o e =>
 ⟨I.base.keep b o (I.ok.bs b o e).1 (I.ok.bs b o e).2 (I.ok.nofr e) (I.ok.noex b o e),I.base.free b o (I.ok.bs b o e).1 (I.ok.bs b o e).2 (I.ok.noex b o e)⟩
theorem Inv.bk (I:Inv X pins σ H s):∀ b o,X.base.get? b=some o→s.heap.get? b=some o:=fun b o e=>(I.bs b o e).1
theorem Inv.mod (I:Inv X pins σ H s):Mod X.K X.mg X.base:=I.ok.mod
theorem Inv.kIn (I:Inv X pins σ H s):X.K.In s.heap:=I.ok.mod.kin.keeps I.bk
theorem Inv.nolimit (I:Inv X pins σ H s):s.heap.NoLimit:=I.ok.mod.nolimit.keeps I.bk
theorem Inv.lt (I:Inv X pins σ H s):X.env.locals < s.heap.objs.size:=let ⟨_,hn,_⟩:=I.loc; hn.lt
theorem Inv.sz (I:Inv X pins σ H s):X.s₀.heap.objs.size≤s.heap.objs.size:=Nat.le_trans I.ok.above (Nat.le_of_lt I.lt)
theorem Inv.nofs (I:Inv X pins σ H s) {a:Addr} (h:s.heap.objs.size≤a):a ∉ X.fs:=fun hb=>by
 refine bC fun g_=>?_
 obtain ⟨_,o,ho,_⟩:=I.ok.funs.mem hb
 refine g_ ?_
 clear g_
 exact absurd (Nat.lt_of_lt_of_le (Heap.lt_size ho) (Nat.le_trans I.sz h)) (Nat.lt_irrefl _)
theorem Inv.cne (I:Inv X pins σ H s):∀ x c,X.env.cells.lookup x=some c→c≠X.env.locals:=fun x c e z=>by
 refine bC fun g_=>?_
 obtain ⟨v,o,ho,hd⟩:=I.cell x c e
 obtain ⟨m,⟨o',es,ep,ho',hd',_⟩,_⟩:=I.loc
 refine g_ ?_
 clear g_
 rw [z,ho'] at ho; cases ho; rw [hd'] at hd; cases hd
theorem Inv.funs (I:Inv X pins σ H s):s.heap.FunFrames X.base X.outer:=by
 have all:∀ (l:List Env),(∀ b∈frs l,b∈X.fs)→X.s₀.heap.FunFrames X.base l→s.heap.FunFrames X.base l:=by
  intro l
  induction l with
  | nil=>intro _ _; trivial
  | cons env r ih =>
   intro hs hl
   refine bC fun g_=>?_
   obtain ⟨hk,⟨L,o,hf,hn,ho,hd⟩,hr⟩:=hl
   refine g_ ?_
   clear g_
   have hL:L∈X.fs:=hs L (by unfold frs; rw [List.filterMap_cons,hf]; exact List.mem_cons_self)
   obtain ⟨sl,e⟩:=I.base.slot L o ho (I.ok.frf L hL) hL fun z=>I.ok.exfs L z hL
   exact ⟨hk,⟨L,_,hf,hn,e,hd⟩,ih (fun b hb=>hs b (by unfold frs; rw [List.filterMap_cons,hf]; exact List.mem_cons_of_mem _ hb)) hr⟩
 exact all X.outer (fun Z hb=>hb) I.ok.funs
theorem Inv.stack (I:Inv X pins σ H s):s.heap.FunFrames X.base X.stack:=by
 rcases I.ok.stk with e | ⟨e,hf⟩
 ·rw [e]; exact I.funs
 ·rw [e]
  refine bC fun g_=>?_
  obtain ⟨m,hn,_⟩:=I.loc
  refine g_ ?_
  clear g_
  refine .cons (by rw [I.ok.kind]; decide) hf hn ?_ I.funs
  exact Heap.get?_none_of_le (Nat.le_trans I.ok.bsz I.ok.above)
theorem Inv.stkSub (I:Inv X pins σ H s):∀ b∈frs X.stack,b∈X.env.locals :: X.fs:=fun b hb=>by
 rcases I.ok.stk with e | ⟨e,hf⟩
 ·rw [e] at hb; exact List.mem_cons_of_mem _ hb
 ·rw [e] at hb
  unfold frs at hb
  rw [List.filterMap_cons,hf] at hb
  exact hb
theorem Inv.stkFree (I:Inv X pins σ H s):∀ b∈frs X.stack,H b=none:=fun b hb=>by
 rcases List.mem_cons.mp (I.stkSub b hb) with e | hb
 ·rw [e]; exact I.free
 ·refine bC fun g_=>?_
  obtain ⟨_,o,ho,_⟩:=I.ok.funs.mem hb
  refine g_ ?_
  clear g_
  exact I.base.free b o ho (I.ok.frf b hb) fun z=>I.ok.exfs b z hb
theorem Inv.step {g':Array GenState} {t':Nat} {d':Drawn} {ch:List Addr} (I:Inv X pins σ H s)
  (hch:∀ b∈ch,(b∈X.ex∨X.s₀.heap.objs.size≤b)∧b≠X.env.locals∧(∀ x c,X.env.cells.lookup x=some c→c≠b)∧∀ p∈X.pn++pins,p.1≠b)
  (keep:∀ b o,b≠X.env.locals→b ∉ X.fs→b ∉ ch→s.heap.get? b=some o→H b=none→h'.get? b=some o)
  (slot:∀ b o,b≠X.env.locals→b∈X.fs→b ∉ ch→s.heap.get? b=some o→H b=none→∃ sl,h'.get? b=some { o with slots:=sl }) (free:∀ b o,b ∉ ch→s.heap.get? b=some o→H b=none→H' b=none)
  (there:∀ b o,b ∉ ch→s.heap.get? b=some o→∃ o',h'.get? b=some o')
  (tups:∀ b xs,H b=some (.tup xs)→H' b=some (.tup xs)) (frzs:∀ b o u,H b=some (.frz o u)→H' b=some (.frz o u)) (tbls:∀ b ps,H b=some (.tbl ps)→∃ more,H' b=some (.tbl (ps++more)))
  (ns:∀ m,s.heap.Ns X.env.locals m→h'.Ns X.env.locals m) (hok:HOk X.prog X.w H' h') (hg:AllBare g') :
  Inv X pins σ H' { s with heap:=h',gens:=g',drawn:=d',toks:=t' }:=by
 have neL:∀ b o,X.s₀.heap.get? b=some o→b≠X.env.locals:=fun b o e=>Nat.ne_of_lt (Nat.lt_of_lt_of_le (Heap.lt_size e) I.ok.above)
 have neC:∀ b o,X.s₀.heap.get? b=some o→b ∉ X.ex→b ∉ ch:=fun b o e hx hb=>by
  rcases (hch b hb).1 with z | z
  ·exact hx z
  ·exact absurd (Nat.lt_of_lt_of_le (Heap.lt_size e) z) (Nat.lt_irrefl _)
 have cellK:∀ x c,X.env.cells.lookup x=some c→∀ v,s.heap.IsCell c v→h'.IsCell c v:=fun x c e v ⟨o,ho,hd⟩=>by
  have nch:c ∉ ch:=fun z=>(hch c z).2.2.1 x c e rfl
  by_cases hc:c∈X.fs
  ·obtain ⟨sl,q⟩:=slot c o (I.cne x c e) hc nch ho (I.freeC x c e)
   exact ⟨_,q,hd⟩
  ·exact ⟨o,keep c o (I.cne x c e) hc nch ho (I.freeC x c e),hd⟩
 refine ⟨I.ok,I.os,hg,⟨fun b o e n hb hx=>?_,fun b o e n hb hx=>?_,fun b o e n hx=>?_,fun b o e hx=>?_,fun b xs e=>tups b xs (I.base.tups b xs e),fun b o xs e=>frzs b o xs (I.base.frzs b o xs e),fun b ps e=>?_⟩,?_,fun x c e=>?_,?_,fun x c e=>?_,fun p hp=>?_,hok,I.len⟩
 ·exact keep b o (neL b o e) hb (neC b o e hx) (I.base.keep b o e n hb hx) (I.base.free b o e n hx)
 ·refine bC fun g_=>?_
  obtain ⟨sl,e1⟩:=I.base.slot b o e n hb hx
  obtain ⟨sl',e2⟩:=slot b _ (neL b o e) hb (neC b o e hx) e1 (I.base.free b o e n hx)
  refine g_ ?_
  clear g_
  exact ⟨sl',e2⟩
 ·obtain ⟨o',e1⟩:=I.base.there b o e hx
  exact free b o' (neC b o e hx) e1 (I.base.free b o e n hx)
 ·obtain ⟨o',e1⟩:=I.base.there b o e hx
  exact there b o' (neC b o e hx) e1
 ·refine bC fun g_=>?_
  obtain ⟨m1,e1⟩:=I.base.tbls b ps e
  obtain ⟨m2,e2⟩:=tbls b _ e1
  refine g_ ?_
  clear g_
  exact ⟨m1++m2,by rw [e2,Array.append_assoc]⟩
 ·refine bC fun g_=>?_
  obtain ⟨m,hn,hl⟩:=I.loc
  refine g_ ?_
  clear g_
  refine ⟨m,ns m hn,fun i x v e1 e2 e3=>?_⟩
  refine bC fun g_=>?_
  obtain ⟨u,r,l⟩:=hl i x v e1 e2 e3
  refine g_ ?_
  clear g_
  refine ⟨u,r,?_⟩
  rcases l with l | ⟨k,c,e,z⟩
  ·exact .inl l
  ·exact .inr ⟨k,c,e,cellK x c e _ z⟩
 ·obtain ⟨v,z⟩:=I.cell x c e
  exact ⟨v,cellK x c e v z⟩
 ·refine bC fun g_=>?_
  obtain ⟨m,⟨o,_,_,ho,_⟩,_⟩:=I.loc
  refine g_ ?_
  clear g_
  exact free _ o (fun z=>(hch _ z).2.1 rfl) ho I.free
 ·refine bC fun g_=>?_
  obtain ⟨v,o,ho,hd⟩:=I.cell x c e
  refine g_ ?_
  clear g_
  exact free c o (fun z=>(hch c z).2.2.1 x c e rfl) ho (I.freeC x c e)
 ·refine bC fun g_=>?_
  obtain ⟨e,n,ne,nf,d⟩:=I.pin p hp
  refine g_ ?_
  clear g_
  have nch:p.1 ∉ ch:=fun z=>(hch p.1 z).2.2.2 p hp rfl
  exact ⟨keep p.1 p.2 ne nf nch e n,free p.1 p.2 nch e n,ne,nf,d⟩
theorem Inv.un {t':Nat} (I:Inv X pins σ H s) (u:Un X.fs [] H H' s.heap h') (hok:HOk X.prog X.w H' h'):Inv X pins σ H' { s with heap:=h',toks:=t' }:=by
 refine bC fun g_=>?_
 obtain ⟨m,⟨o,es,ep,ho,r⟩,_⟩:=id I.loc
 obtain ⟨sl,hL⟩:=u.any ho I.free (by simp)
 refine g_ ?_
 clear g_
 exact I.step (g':=s.gens) (d':=s.drawn) (ch:=[]) (fun Z z=>nomatch z) (fun b o Z hb Z e n=>u.keep b o e n hb (by simp)) (fun b o Z hb Z e n=>u.slot b o e n hb (by simp)) (fun b o Z e n=>u.free b o e n (by simp)) (fun b o Z e=>u.there b o e (by simp)) u.tups u.frzs u.tbls (fun m' hm=>by
  refine bC fun g_=>?_
  obtain ⟨o',es',ep',ho',r'⟩:=hm
  refine g_ ?_
  clear g_
  rw [ho] at ho'; cases ho'
  exact ⟨_,es',ep',hL,r'⟩) hok I.bare
theorem Inv.call {g':Array GenState} {t':Nat} {d':Drawn} {ch:List Addr} (I:Inv X pins σ H s) (u:Un (frs X.stack) ch H H' s.heap h') (hok:HOk X.prog X.w H' h') (hg:AllBare g')
  (hch:∀ b∈ch,(b∈X.ex∨X.s₀.heap.objs.size≤b)∧b≠X.env.locals∧(∀ x c,X.env.cells.lookup x=some c→c≠b)∧∀ p∈X.pn++pins,p.1≠b) :
  Inv X pins σ H' { s with heap:=h',gens:=g',drawn:=d',toks:=t' }:=by
 refine bC fun g_=>?_
 obtain ⟨m,⟨o,es,ep,ho,r⟩,_⟩:=id I.loc
 obtain ⟨sl,hL⟩:=u.any ho I.free fun z=>(hch _ z).2.1 rfl
 refine g_ ?_
 clear g_
 exact I.step (ch:=ch) hch (fun b o hL hb hc e n=>u.keep b o e n (fun z=>(List.mem_cons.mp (I.stkSub b z)).elim hL hb) hc) (fun b o Z Z hc e n=>u.any e n hc) (fun b o hc e n=>u.free b o e n hc) (fun b o hc e=>u.there b o e hc) u.tups u.frzs u.tbls (fun m' hm=>by
  refine bC fun g_=>?_
  obtain ⟨o',es',ep',ho',r'⟩:=hm
  refine g_ ?_
  clear g_
  rw [ho] at ho'; cases ho'
  exact ⟨_,es',ep',hL,r'⟩) hok hg
theorem Inv.turned {t':Nat} {it:Addr} (I:Inv X pins σ H s) (k:∀ b o,b≠it→s.heap.get? b=some o→h'.get? b=some o) (hn:H it=none) (hL:it≠X.env.locals)
  (h1:it∈X.ex∨X.s₀.heap.objs.size≤it) (h2:∀ x c,X.env.cells.lookup x=some c→c≠it) (h3:∀ p∈X.pn++pins,p.1≠it):Inv X pins σ H { s with heap:=h',toks:=t' }:=by
 have nit:∀ b u,H b=some u→b≠it:=fun b u e z=>by rw [z,hn] at e; cases e
 refine I.step (g':=s.gens) (d':=s.drawn) (ch:=[it]) (fun b hb=>?_) (fun b o Z Z hc e Z=>k b o (fun z=>hc (by simp [z])) e) (fun b o Z Z hc e Z=>⟨o.slots,k b o (fun z=>hc (by simp [z])) e⟩) (fun Z Z Z Z n=>n)
  (fun b o hc e=>⟨o,k b o (fun z=>hc (by simp [z])) e⟩) (fun Z Z e=>e) (fun Z Z Z e=>e) (fun b ps e=>⟨#[],by rw [e]; simp⟩) (fun m hm=>?_) (fun b u e=>?_) I.bare
 ·have e:b=it:=by simpa using hb
  subst e
  exact ⟨h1,hL,h2,h3⟩
 ·refine bC fun g_=>?_
  obtain ⟨o,es,ep,ho,r⟩:=hm
  refine g_ ?_
  clear g_
  exact ⟨o,es,ep,k _ o (Ne.symm hL) ho,r⟩
 ·refine (I.hok b u e).stay (fun c v hc q=>k c v ?_ q) (fun Z q=>q) fun Z Z q=>q
  rcases hc with z | z
  ·rw [z]; exact nit b u e
  ·exact nit c _ z
theorem Inv.tok (I:Inv X pins σ H s) (t:Nat):Inv X pins σ H { s with toks:=t }:=I.un (h':=s.heap) (t':=t) Un.refl I.hok
theorem Inv.kept {t':Nat} (I:Inv X pins σ H s) (k:∀ b u,s.heap.get? b=some u→h'.get? b=some u):Inv X pins σ H { s with heap:=h',toks:=t' }:=I.un (Un.kept k) (I.hok.kept k)
theorem Inv.laid {a:Addr} {o:HO} {t':Nat} (I:Inv X pins σ H s) (k:∀ b u,s.heap.get? b=some u→h'.get? b=some u) (hp:s.heap.objs.size≤a) (new:ObjOk X.prog X.w (upd H a o) h' a o) :
  Inv X pins σ (upd H a o) { s with heap:=h',toks:=t' }:=I.un (Un.laid k hp (I.hok.fresh hp)) (I.hok.laid k hp new)
theorem Inv.write {x e:Addr} {o:HO} {t':Nat} (I:Inv X pins σ H s) (mu:Mut (H x)) (he:e=x∨H e=some (.own x)) (k:∀ b u,b≠e→s.heap.get? b=some u→h'.get? b=some u) (heo:∃ u,h'.get? e=some u)
  (new:ObjOk X.prog X.w (upd H x o) h' x o):Inv X pins σ (upd H x o) { s with heap:=h',toks:=t' }:=I.un (Un.write mu he k heo) (I.hok.write mu he k heo new)
theorem Inv.pins_of {pins':List (Addr×Obj)} (I:Inv X pins σ H s) (h:∀ p∈pins',s.heap.get? p.1=some p.2∧H p.1=none∧p.1≠X.env.locals∧p.1 ∉ X.fs∧∀ v,p.2.data≠.cell v):Inv X pins' σ H s :=
 ⟨I.ok,I.os,I.bare,I.base,I.loc,I.cell,I.free,I.freeC,fun p hp=>(List.mem_append.mp hp).elim (fun z=>I.pin p (List.mem_append_left _ z)) (h p),I.hok,I.len⟩
theorem nodup_ix {N:List Str} (hN:N.Nodup) {i j:Nat} {x:Str} (a:N[i]?=some x) (b:N[j]?=some x):i=j:=by
 obtain ⟨h1,e1⟩:=List.getElem?_eq_some_iff.mp a
 obtain ⟨h2,e2⟩:=List.getElem?_eq_some_iff.mp b
 exact (List.getElem_inj hN).mp (e1.trans e2.symm)
theorem store_ok2 {M:Model} {A:Around} {E:Value→Shared→Prop} {i:Nat} {x:Str} {v:V} {u:Value} {Q:Unit→Shared→Prop} (I:Inv X pins σ H s) (hN:X.N.Nodup) (hi:X.N[i]?=some x) (hx:Loc X.env.scope x) (r:RelV v u)
  (h:∀ s',Inv X pins (σ.set i (some v)) H s'→(∃ a,Heap.SameBut a s.heap s'.heap∧(a=X.env.locals∨X.env.cells.lookup x=some a))→Q () s') (hf:X.fn x=true∨X.env.scope.names.lookup x=some .local:=by first | exact .inl rfl | exact .inr rfl | assumption):wpAny M A (storeName X.env x u) Q E s:=by
 refine bC fun g_=>?_
 obtain ⟨m,hn,hl⟩:=id I.loc
 refine g_ ?_
 clear g_
 have hcls:(X.env.scope.kind == .class || (X.env.scope.kind == .module && X.env.locals != X.env.globals))=false:=by rw [I.ok.kind]; rfl
 have hiσ:i < σ.length:=by rw [I.len]; exact (List.getElem?_eq_some_iff.mp hi).1
 have cne:=I.cne
 have tracked:∀ {a:Addr} {h':Heap},(∃ o,s.heap.get? a=some o∧H a=none)→Heap.SameBut a s.heap h'→HOk X.prog X.w H h':=fun {a h'} ha hs b ob e=>by
  refine bC fun g_=>?_
  obtain ⟨_,_,hfree⟩:=ha
  refine g_ ?_
  clear g_
  refine (I.hok b ob e).stay (fun c w' hc q=>(hs.2 c ?_).trans q) (fun Z q=>q) fun Z Z q=>q
  rintro rfl
  rcases hc with rfl | hc
  ·rw [hfree] at e; cases e
  ·rw [hfree] at hc; cases hc
 rcases hx with hk | hk
 ·refine wpAny_storeName_local hk hn (fun h' hn' hs=>?_) hcls
  refine bC fun g_=>?_
  obtain ⟨oL,_,_,hoL,_⟩:=id hn
  refine g_ ?_
  clear g_
  refine h _ ⟨I.ok,I.os,I.bare,⟨fun b o e n hb hx=>?_,fun b o e n hb hx=>?_,I.base.free,fun b o e hx=>?_,I.base.tups,I.base.frzs,I.base.tbls⟩,⟨_,hn',fun j y v' e1 e2 e3=>?_⟩,fun y c e=>?_,I.free,I.freeC,fun p hp=>?_,tracked ⟨oL,hoL,I.free⟩ hs,by simpa using I.len⟩ ⟨_,hs,.inl rfl⟩
  ·exact (hs.2 b (Nat.ne_of_lt (Nat.lt_of_lt_of_le (Heap.lt_size e) I.ok.above))).trans (I.base.keep b o e n hb hx)
  ·obtain ⟨sl,e1⟩:=I.base.slot b o e n hb hx
   exact ⟨sl,(hs.2 b (Nat.ne_of_lt (Nat.lt_of_lt_of_le (Heap.lt_size e) I.ok.above))).trans e1⟩
  ·obtain ⟨o',e1⟩:=I.base.there b o e hx
   exact ⟨o',(hs.2 b (Nat.ne_of_lt (Nat.lt_of_lt_of_le (Heap.lt_size e) I.ok.above))).trans e1⟩
  ·by_cases hj:j=i
   ·subst hj
    rw [hi] at e1; cases e1
    rw [List.getElem?_set_self hiσ] at e2
    cases e2
    exact ⟨u,r,.inl ⟨hk,by simp⟩⟩
   ·rw [List.getElem?_set_ne (Ne.symm hj)] at e2
    refine bC fun g_=>?_
    obtain ⟨u',r',q⟩:=hl j y v' e1 e2 e3
    refine g_ ?_
    clear g_
    refine ⟨u',r',?_⟩
    rcases q with ⟨k,e⟩ | ⟨k,c,e,z⟩
    ·refine .inl ⟨k,?_⟩
     have:y≠x:=fun e=>hj (nodup_ix hN e1 (e ▸ hi))
     simp [this,e]
    ·exact .inr ⟨k,c,e,z.sameBut hs (cne y c e)⟩
  ·obtain ⟨w',z⟩:=I.cell y c e
   exact ⟨w',z.sameBut hs (cne y c e)⟩
  ·refine bC fun g_=>?_
   obtain ⟨e,n,ne,nf,d⟩:=I.pin p hp
   refine g_ ?_
   clear g_
   exact ⟨(hs.2 p.1 ne).trans e,n,ne,nf,d⟩
 ·have hfn:X.fn x=true:=by
   rcases hf with z | z
   ·exact z
   ·rw [z] at hk; cases hk
  refine bC fun g_=>?_
  obtain ⟨c,hc⟩:=I.ok.has x (.inl hk)
  obtain ⟨w',z⟩:=I.cell x c hc
  refine g_ ?_
  clear g_
  refine wpAny_storeName_cell I.ok.kind hk hc z (fun h' hc' hs=>?_)
  refine bC fun g_=>?_
  obtain ⟨oc,hoc,hocd⟩:=id z
  refine g_ ?_
  clear g_
  refine h { s with heap:=h' } ⟨I.ok,I.os,I.bare,⟨fun b o e n hb hx=>?_,fun b o e n hb hx=>?_,I.base.free,fun b o e hx=>?_,I.base.tups,I.base.frzs,I.base.tbls⟩,⟨m,hn.sameBut hs (Ne.symm (cne x c hc)),fun j y v' e1 e2 e3=>?_⟩,fun y c' e=>?_,I.free,I.freeC,fun p hp=>?_,tracked ⟨oc,hoc,I.freeC x c hc⟩ hs,by simpa using I.len⟩ ⟨c,hs,.inr hc⟩
  ·exact (hs.2 b (Nat.ne_of_lt (Nat.lt_of_lt_of_le (Heap.lt_size e) (I.ok.cab x c hfn hc)))).trans (I.base.keep b o e n hb hx)
  ·obtain ⟨sl,e1⟩:=I.base.slot b o e n hb hx
   exact ⟨sl,(hs.2 b (Nat.ne_of_lt (Nat.lt_of_lt_of_le (Heap.lt_size e) (I.ok.cab x c hfn hc)))).trans e1⟩
  ·obtain ⟨o',e1⟩:=I.base.there b o e hx
   exact ⟨o',(hs.2 b (Nat.ne_of_lt (Nat.lt_of_lt_of_le (Heap.lt_size e) (I.ok.cab x c hfn hc)))).trans e1⟩
  ·by_cases hj:j=i
   ·subst hj
    rw [hi] at e1; cases e1
    rw [List.getElem?_set_self hiσ] at e2
    cases e2
    exact ⟨u,r,.inr ⟨.inl hk,c,hc,hc'⟩⟩
   ·rw [List.getElem?_set_ne (Ne.symm hj)] at e2
    refine bC fun g_=>?_
    obtain ⟨u',r',q⟩:=hl j y v' e1 e2 e3
    refine g_ ?_
    clear g_
    refine ⟨u',r',?_⟩
    rcases q with q | ⟨k,c',e,z'⟩
    ·exact .inl q
    ·refine .inr ⟨k,c',e,z'.sameBut hs ?_⟩
     rintro rfl
     exact hj (nodup_ix hN e1 (I.ok.inj _ _ _ e hc ▸ hi))
  ·by_cases hcc:c'=c
   ·subst hcc; exact ⟨_,hc'⟩
   ·obtain ⟨w2,z2⟩:=I.cell y c' e
    exact ⟨w2,z2.sameBut hs hcc⟩
  ·refine bC fun g_=>?_
   obtain ⟨e,n,ne,nf,d⟩:=I.pin p hp
   refine g_ ?_
   clear g_
   refine ⟨(hs.2 p.1 ?_).trans e,n,ne,nf,d⟩
   intro q
   rw [q,hoc] at e
   have q':oc=p.2:=Option.some.inj e
   exact d w' (by rw [← q']; exact hocd)
theorem store_ok {M:Model} {A:Around} {E:Value→Shared→Prop} {i:Nat} {x:Str} {v:V} {u:Value} {Q:Unit→Shared→Prop} (I:Inv X pins σ H s) (hN:X.N.Nodup) (hi:X.N[i]?=some x) (hx:Loc X.env.scope x) (r:RelV v u)
  (h:∀ s',Inv X pins (σ.set i (some v)) H s'→Q () s') (hf:X.fn x=true∨X.env.scope.names.lookup x=some .local:=by first | exact .inl rfl | exact .inr rfl | assumption):wpAny M A (storeName X.env x u) Q E s :=
 store_ok2 I hN hi hx r (fun s' I' Z=>h s' I') hf
theorem Inv.call' {s':Shared} {ch:List Addr} (I:Inv X pins σ H s) (ho:s'.os=s.os) (u:Un (frs X.stack) ch H H' s.heap s'.heap) (hok:HOk X.prog X.w H' s'.heap) (hg:AllBare s'.gens)
  (hch:∀ b∈ch,(b∈X.ex∨X.s₀.heap.objs.size≤b)∧b≠X.env.locals∧(∀ x c,X.env.cells.lookup x=some c→c≠b)∧∀ p∈X.pn++pins,p.1≠b):Inv X pins σ H' s':=by
 refine bC fun g_=>?_
 obtain ⟨h',g',d',t',o'⟩:=s'
 refine g_ ?_
 clear g_
 have e:o'=s.os:=ho
 subst e
 exact I.call (g':=g') (t':=t') (d':=d') u hok hg hch
end
noncomputable abbrev XK:=Value→Option Addr→Hp→Prop
noncomputable abbrev St:=List (Option V)
noncomputable abbrev VK:=V→Hp→Prop
noncomputable abbrev TE:=St→Hp→VK→Prop
noncomputable abbrev TT:=St→Hp→(Bool→Hp→Prop)→Prop
noncomputable abbrev TA:=St→Hp→(List V→Hp→Prop)→Prop
structure Ends where
 nx:St→Hp→Prop
 rt:VK
 bk:St→Hp→Prop:=fun Z Z=>False
 ct:St→Hp→Prop:=fun Z Z=>False
noncomputable abbrev TS:=Ends→St→Hp→Prop
inductive EP (X:Cx) (pins:List (Addr×Obj)) (σ:St) (Q:VK) (u:Value) (s':Shared):Prop
 | mk (v:V) (H':Hp) (h1:Inv X pins σ H' s') (h2:RelV v u) (h3:Q v H'):EP X pins σ Q u s'
inductive TP (X:Cx) (pins:List (Addr×Obj)) (σ:St) (Q:Bool→Hp→Prop) (b:Bool) (s':Shared):Prop
 | mk (H':Hp) (h1:Inv X pins σ H' s') (h2:Q b H'):TP X pins σ Q b s'
inductive AP (X:Cx) (pins:List (Addr×Obj)) (σ:St) (Q:List V→Hp→Prop) (us:List Value) (s':Shared):Prop
 | mk (vs:List V) (H':Hp) (h1:Inv X pins σ H' s') (h2:Vals vs us) (h3:Q vs H'):AP X pins σ Q us s'
inductive SN (X:Cx) (pins:List (Addr×Obj)) (N:St→Hp→Prop) (s':Shared):Prop
 | mk (σ':St) (H':Hp) (h1:Inv X pins σ' H' s') (h2:N σ' H'):SN X pins N s'
inductive SR (X:Cx) (pins:List (Addr×Obj)) (R:VK) (u:Value) (s':Shared):Prop
 | mk (v:V) (σ':St) (H':Hp) (h1:Inv X pins σ' H' s') (h2:RelV v u) (h3:R v H'):SR X pins R u s'
set_option tactic.hygienic true in
noncomputable def SP (X:Cx) (pins:List (Addr×Obj)) (D:Ends) (f:Flow) (s':Shared):Prop :=
 match f with
 | .next=>SN X pins D.nx s'
 | .brk=>SN X pins D.bk s'
 | .cont=>SN X pins D.ct s'
 | .ret u=>SR X pins D.rt u s'
noncomputable def PE (X:Cx) (e:Expr) (t:TE):Prop :=
 ∀ (pins:List (Addr×Obj)) (s:Shared) (σ:St) (H:Hp) (Q:VK),Inv X pins σ H s→t σ H Q→wpAny (model X.prog X.w) X.A (eval e X.env) (EP X pins σ Q) X.xe s
noncomputable def PT (X:Cx) (e:Expr) (t:TT):Prop :=
 ∀ (pins:List (Addr×Obj)) (s:Shared) (σ:St) (H:Hp) (Q:Bool→Hp→Prop),Inv X pins σ H s→t σ H Q→wpAny (model X.prog X.w) X.A (isTrue e X.env (eval e X.env)) (TP X pins σ Q) X.xe s
noncomputable def PW (X:Cx) (e:Expr) (t:TT):Prop :=
 ∀ (whole:Sem Value) (pins:List (Addr×Obj)) (s:Shared) (σ:St) (H:Hp) (Q:Bool→Hp→Prop),Inv X pins σ H s→t σ H Q→wpAny (model X.prog X.w) X.A (isTrue e X.env whole) (TP X pins σ Q) X.xe s
theorem PW.pt {X:Cx} {e:Expr} {t:TT} (h:PW X e t):PT X e t:=h _
noncomputable def PA (X:Cx) (es:List Expr) (t:TA):Prop :=
 ∀ (pos:Pos) (pins:List (Addr×Obj)) (s:Shared) (σ:St) (H:Hp) (Q:List V→Hp→Prop),Inv X pins σ H s→t σ H Q→wpAny (model X.prog X.w) X.A (spliced (backTo pos (starEach es X.env))) (AP X pins σ Q) X.xe s
noncomputable def PS (X:Cx) (st:Stmt) (t:TS):Prop :=
 ∀ (pins:List (Addr×Obj)) (s:Shared) (σ:St) (H:Hp) (D:Ends),Inv X pins σ H s→t D σ H→wpAny (model X.prog X.w) X.A (exec st X.env) (SP X pins D) X.xe s
noncomputable def PSs (X:Cx) (st:List Stmt) (t:TS):Prop :=
 ∀ (pins:List (Addr×Obj)) (s:Shared) (σ:St) (H:Hp) (D:Ends),Inv X pins σ H s→t D σ H→wpAny (model X.prog X.w) X.A (execs st X.env) (SP X pins D) X.xe s
theorem thn {α:Type} {t:Sem α} {Q Q':α→Shared→Prop} {M:Model} {A:Around} {E:Value→Shared→Prop} {s:Shared} (h:wpAny M A t Q E s) (hQ:∀ a s,Q a s→Q' a s):wpAny M A t Q' E s:=wpAny_mono h hQ fun Z Z x=>x
section
variable {X:Cx}
noncomputable def IsBl (x:V) (H:Hp) (Q:Bool→Hp→Prop):Prop:=match x with
 | .bl k=>Q k H
 | _=>False
theorem IsBl.out {x:V} {H:Hp} {Q:Bool→Hp→Prop} (h:IsBl x H Q):∃ k,x=.bl k∧Q k H:=by
 cases x <;> first | exact ⟨_,rfl,h⟩ | exact h.elim
noncomputable def int2 (x y:V) (R:Int→Int→Prop):Prop:=match x with
 | .int i=>match y with
  | .int j=>R i j
  | _=>False
 | _=>False
theorem int2.out {x y:V} {R:Int→Int→Prop} (h:int2 x y R):∃ i j,x=.int i∧y=.int j∧R i j:=by
 cases x <;> first | exact h.elim | skip
 cases y <;> first | exact ⟨_,_,rfl,rfl,h⟩ | exact h.elim
noncomputable def varK (o:Option (Option V)) (H:Hp) (Q:VK):Prop:=match o with
 | some (some v)=>Q v H
 | _=>False
theorem varK.out {o:Option (Option V)} {H:Hp} {Q:VK} (h:varK o H Q):∃ v,o=some (some v)∧Q v H:=by
 cases o with
 | none=>exact h.elim
 | some x=>cases x with
  | none=>exact h.elim
  | some v=>exact ⟨v,rfl,h⟩
noncomputable def tVar (i:Nat):TE:=fun σ H Q=>varK σ[i]? H Q
noncomputable def tC (v:V):TE:=fun Z H Q=>Q v H
theorem pe_var {i:Nat} {x:Str} {pos:Pos} (hN:X.N[i]?=some x) (hv:Vis X.env.scope x) (hd:(x == ("__debug__":Str))=false:=by decide) (hcd:(x == ("__classdict__":Str))=false:=by decide):PE X (.Name x pos) (tVar i):=by
 intro pins s σ H Q I h
 refine bC fun g_=>?_
 obtain ⟨v,e,h⟩:=varK.out h
 obtain ⟨m,hn,hl⟩:=I.loc
 obtain ⟨u,r,l⟩:=hl i x v hN e hv
 refine g_ ?_
 clear g_
 have fin:EP X pins σ Q u s:=⟨v,H,I,r,h⟩
 rcases l with ⟨hk,hm⟩ | ⟨hk,c,hc,hcell⟩
 ·exact wpAny_Name (wpAny_loadName_local I.ok.kind hk hn hm fin) hd
 ·rcases hk with hk | hk
  ·exact wpAny_Name (wpAny_loadName_cell I.ok.kind hk hc hcell fin) hd
  ·exact wpAny_Name (wpAny_loadName_free I.ok.kind hk hc hcell fin hcd) hd
theorem pe_int {i j pos}:PE X (.Constant (.int i) j pos) (tC (.int i)):=fun Z Z Z H Z I h=>wpAny_Constant_int ⟨.int i,H,I.tok _,⟨_,rfl⟩,h⟩
theorem pe_bl {b j pos}:PE X (.Constant (.bool b) j pos) (tC (.bl b)):=fun Z Z Z H Z I h=>Constant_bool ⟨.bl b,H,I,rfl,h⟩
theorem pe_non {j pos}:PE X (.Constant .none j pos) (tC .non):=fun Z Z Z H Z I h=>Constant_none ⟨.non,H,I,rfl,h⟩
theorem pe_str {x j pos}:PE X (.Constant (.str x) j pos) (tC (.str x)):=fun Z Z Z H Z I h=>Calls.Constant_str ⟨.str x,H,I.tok _,⟨_,rfl⟩,h⟩
noncomputable def Gl (X:Cx) (x:Str):Prop:=X.env.kindOf x=some .globalImplicit
theorem ld_glob {E:Value→Shared→Prop} {pins:List (Addr×Obj)} {s:Shared} {σ:St} {H:Hp} {x:Str} {u:Value} {pos:Pos} {Q:Value→Shared→Prop} (I:Inv X pins σ H s) (hg:Gl X x) (hm:X.mg x=some u) (h:Q u s)
  (hd:(x == ("__debug__":Str))=false:=by decide):wpAny (model X.prog X.w) X.A (eval (.Name x pos) X.env) Q E s :=
 Calls.Name_function_global I.ok.kind hg (Calls.loadGlobal_global (by rw [I.ok.glob]; exact I.mod.glob.keeps I.bk) hm h) hd
theorem ld_blt {E:Value→Shared→Prop} {pins:List (Addr×Obj)} {s:Shared} {σ:St} {H:Hp} {x:Str} {u:Value} {pos:Pos} {Q:Value→Shared→Prop} (I:Inv X pins σ H s) (hg:Gl X x) (hm:X.mg x=none) (hv:bootBuiltins x=some u) (h:Q u s)
  (hn:x≠"__name__":=by decide) (hd:(x == ("__debug__":Str))=false:=by decide):wpAny (model X.prog X.w) X.A (eval (.Name x pos) X.env) Q E s:=by
 refine bC fun g_=>?_
 obtain ⟨mb,h1,h2⟩:=I.mod.blt
 refine g_ ?_
 clear g_
 exact Calls.Name_function_global I.ok.kind hg (Calls.loadGlobal_builtin (by rw [I.ok.glob]; exact I.mod.glob.keeps I.bk) hm (by rw [I.ok.blt]; exact h1.keeps I.bk) ((h2 x hn).trans hv) h) hd
theorem pe_glob {x:Str} {v:V} {u:Value} {pos:Pos} (hg:Gl X x) (hm:X.mg x=some u) (r:RelV v u) (hd:(x == ("__debug__":Str))=false:=by decide):PE X (.Name x pos) (tC v) :=
 fun Z Z Z H Z I h=>ld_glob I hg hm ⟨v,H,I,r,h⟩ hd
theorem pe_bltn {x:Str} {v:V} {u:Value} {pos:Pos} (hg:Gl X x) (hm:X.mg x=none) (hv:bootBuiltins x=some u) (r:RelV v u) (hn:x≠"__name__":=by decide) (hd:(x == ("__debug__":Str))=false:=by decide):PE X (.Name x pos) (tC v) :=
 fun Z Z Z H Z I h=>ld_blt I hg hm hv ⟨v,H,I,r,h⟩ hn hd
variable {a b:Expr} {ta tb:TE} {pos:Pos}
variable {tA tB':TT} {rest:List Expr}
noncomputable def tAnd (t u:TT):TT:=fun σ H Q=>t σ H fun c H1=>if c=true then u σ H1 Q else Q false H1
noncomputable def tOr (t u:TT):TT:=fun σ H Q=>t σ H fun c H1=>if c=true then Q true H1 else u σ H1 Q
noncomputable def tNot (t:TT):TT:=fun σ H Q=>t σ H fun c H1=>Q (!c) H1
theorem pw_and1 (ha:PT X a tA):PW X (.BoolOp .And [a] pos) tA:=by
 intro wh pins s σ H Q I h
 refine isTrue_and (thn (ha pins s σ H Q I h) fun c s1 e=>?_)
 cases c with
 | true=>exact isTrue_and_nil e
 | false=>exact e
theorem pw_or1 (ha:PT X a tA):PW X (.BoolOp .Or [a] pos) tA:=by
 intro wh pins s σ H Q I h
 refine isTrue_or (thn (ha pins s σ H Q I h) fun c s1 e=>?_)
 cases c with
 | false=>exact isTrue_or_nil e
 | true=>exact e
theorem pw_and (ha:PT X a tA) (hb:PW X (.BoolOp .And (b :: rest) pos) tB'):PW X (.BoolOp .And (a :: b :: rest) pos) (tAnd tA tB'):=by
 intro wh pins s σ H Q I h
 refine isTrue_and (thn (ha pins s σ H _ I h) fun c s1 hm_=>?_)
 refine bC fun g_=>?_
 obtain ⟨H1,I1,q1⟩:=hm_
 refine g_ ?_
 clear g_
 cases c with
 | true=>exact hb wh pins s1 σ H1 Q I1 q1
 | false=>exact ⟨H1,I1,q1⟩
theorem pw_or (ha:PT X a tA) (hb:PW X (.BoolOp .Or (b :: rest) pos) tB'):PW X (.BoolOp .Or (a :: b :: rest) pos) (tOr tA tB'):=by
 intro wh pins s σ H Q I h
 refine isTrue_or (thn (ha pins s σ H _ I h) fun c s1 hm_=>?_)
 refine bC fun g_=>?_
 obtain ⟨H1,I1,q1⟩:=hm_
 refine g_ ?_
 clear g_
 cases c with
 | true=>exact ⟨H1,I1,q1⟩
 | false=>exact hb wh pins s1 σ H1 Q I1 q1
theorem pt_not (ha:PT X a tA):PT X (.UnaryOp .Not a pos) (tNot tA):=by
 intro pins s σ H Q I h
 exact isTrue_not (thn (ha pins s σ H (fun c H1=>Q (!c) H1) I h) fun _ _ ⟨H1,I1,q1⟩=>⟨H1,I1,q1⟩)
noncomputable def tAndV (ta tb:TE):TE:=fun σ H Q=>ta σ H fun x H1=>∃ c,x=.bl c∧if c=true then tb σ H1 Q else Q (.bl false) H1
theorem pe_one {op} {t:TE} (h:PE X a t):PE X (.BoolOp op [a] pos) t:=fun pins s σ H Q I hw=>BoolOp_one (h pins s σ H Q I hw)
theorem pe_and (ha:PE X a ta) (hb:PE X (.BoolOp .And (b :: rest) pos) tb):PE X (.BoolOp .And (a :: b :: rest) pos) (tAndV ta tb):=by
 intro pins s σ H Q I h
 refine BoolOp_and (thn (ha pins s σ H _ I h) fun v s1 hm_=>?_)
 refine bC fun g_=>?_
 obtain ⟨x,H1,I1,r1,q1⟩:=hm_
 obtain ⟨c,e19_,q1⟩:=q1
 refine g_ ?_
 clear g_
 obtain rfl:=e19_
 cases r1
 refine wpAny_truthy_bool ?_
 cases c with
 | true=>exact hb pins s1 σ H1 Q I1 q1
 | false=>exact ⟨.bl false,H1,I1,rfl,q1⟩
noncomputable def tIf (t:TT) (ta tb:TE):TE:=fun σ H Q=>t σ H fun c H1=>if c=true then ta σ H1 Q else tb σ H1 Q
theorem pe_ifExp {c:Expr} (hc:PT X c tA) (ha:PE X a ta) (hb:PE X b tb):PE X (.IfExp c a b pos) (tIf tA ta tb):=by
 intro pins s σ H Q I h
 refine wpAny_IfExp (thn (hc pins s σ H _ I h) fun d s1 hm_=>?_)
 refine bC fun g_=>?_
 obtain ⟨H1,I1,q1⟩:=hm_
 refine g_ ?_
 clear g_
 cases d with
 | true=>exact ha pins s1 σ H1 Q I1 q1
 | false=>exact hb pins s1 σ H1 Q I1 q1
end
noncomputable def SqL (K:PySem.W.Frag) (H:Hp) (a:Addr) (xs:List V):Prop :=
 Rd H a (.lst xs) ∨
  ∃ (o:Obj) (its:Array Value) (n:Nat),K.lookup a=some o∧o.cls=.type "list"∧o.dict=none∧o.data=.seq its n∧its.size≤sizeLine∧Vals xs its.toList
noncomputable def SqT (K:PySem.W.Frag) (H:Hp) (a:Addr) (xs:List V):Prop :=
 Rd H a (.tup xs) ∨
  ∃ (o:Obj) (its:Array Value) (n:Nat),K.lookup a=some o∧o.cls=.type "tuple"∧o.data=.seq its n∧its.size≤sizeLine∧Vals xs its.toList
noncomputable def absV:Value→Option V
 | .none=>some .non
 | .bool b=>some (.bl b)
 | .int i _=>some (.int i)
 | .str x _=>some (.str x)
 | .bytes b _=>some (.byt b)
 | .float b _=>some (.flt b)
 | .ref a=>some (.ref a)
 | .type n=>some (.ty n)
 | _=>none
theorem RelV.abs {x:V} {u:Value} (r:RelV x u):absV u=some x:=by
 cases x with
 | non=>cases r; rfl
 | bl _=>cases r; rfl
 | int _=>obtain ⟨t,rfl⟩:=r; rfl
 | str _=>obtain ⟨t,rfl⟩:=r; rfl
 | byt _=>obtain ⟨t,rfl⟩:=r; rfl
 | flt _=>obtain ⟨t,rfl⟩:=r; rfl
 | ref _=>cases r; rfl
 | ty _=>cases r; rfl
theorem RelV.inj {x y:V} {u:Value} (r:RelV x u) (q:RelV y u):x=y:=Option.some.inj (r.abs.symm.trans q.abs)
theorem Vals.inj:∀ {xs ys:List V} {us:List Value},Vals xs us→Vals ys us→xs=ys
 | _,_,_,.nil,.nil=>rfl
 | _,_,_,.cons r t,.cons r' t'=>by rw [r.inj r',Vals.inj t t']
section
variable {X:Cx} {pins:List (Addr×Obj)} {σ:St} {H:Hp} {s:Shared} {a:Addr} {xs ys:List V}
theorem SqL.of {K:PySem.W.Frag} (h:H a=some (.lst xs)):SqL K H a xs:=.inl (.inl h)
theorem SqT.of {K:PySem.W.Frag} (h:H a=some (.tup xs)):SqT K H a xs:=.inl (.inl h)
theorem Inv.list (I:Inv X pins σ H s) (h:SqL X.K H a xs):∃ its:List Value,Vals xs its∧PlainL s.heap a its.toArray∧xs.length≤sizeLine:=by
 rcases h with h | ⟨o,its,n,hk,hc,hd,hs,hz,r⟩
 ·refine bC fun g_=>?_
  obtain ⟨z,its,n,r,e⟩:=h.ok I.hok
  refine g_ ?_
  clear g_
  exact ⟨its,r,⟨_,n,e,rfl,rfl,rfl⟩,z⟩
 ·refine ⟨its.toList,r,⟨o,n,I.kIn a o hk,hc,hd,by simpa using hs⟩,?_⟩
  have e:=r.length
  simp only [Array.length_toList] at e
  lia
theorem Inv.tuple (I:Inv X pins σ H s) (h:SqT X.K H a xs):∃ its:List Value,Vals xs its∧IsTup s.heap a its.toArray∧xs.length≤sizeLine:=by
 rcases h with h | ⟨o,its,n,hk,hc,hs,hz,r⟩
 ·refine bC fun g_=>?_
  obtain ⟨z,its,r,p⟩:=h.ok I.hok
  refine g_ ?_
  clear g_
  exact ⟨its,r,p,z⟩
 ·refine ⟨its.toList,r,⟨o,I.kIn a o hk,hc,n,by simpa using hs⟩,?_⟩
  have e:=r.length
  simp only [Array.length_toList] at e
  lia
theorem Inv.list_inj (I:Inv X pins σ H s) (h:SqL X.K H a xs) (h':SqL X.K H a ys):xs=ys:=by
 refine bC fun g_=>?_
 obtain ⟨its,r,⟨o,n,e,_,_,d⟩,_⟩:=I.list h
 obtain ⟨its',r',⟨o',n',e',_,_,d'⟩,_⟩:=I.list h'
 refine g_ ?_
 clear g_
 rw [e] at e'; cases e'
 rw [d] at d'
 injection d' with d1 _
 have:its=its':=by simpa using congrArg Array.toList d1
 subst this
 exact r.inj r'
end
section
variable {X:Cx} {pins:List (Addr×Obj)} {σ:St} {H:Hp} {s:Shared} {E:Value→Shared→Prop}
end
section
variable {X:Cx} {st:Stmt} {rest:List Stmt} {t u:TS} {e:Expr} {te:TE} {pos:Pos}
noncomputable def tNext:TS:=fun D σ H=>D.nx σ H
noncomputable def Ends.sq (D:Ends) (n:St→Hp→Prop):Ends:={ D with nx:=n }
noncomputable def Ends.lp (D:Ends) (N:St→Hp→Prop):Ends:={ D with nx:=N,ct:=N,bk:=D.nx }
noncomputable def Ends.fn (Q:VK):Ends:={ nx:=fun Z H'=>Q .non H',rt:=Q }
noncomputable def tSeq (t u:TS):TS:=fun D σ H=>t (Ends.sq D (u D)) σ H
theorem pss_nil:PSs X [] tNext:=fun Z Z σ H Z I h=>wpAny_execs_nil ⟨σ,H,I,h⟩
set_option tactic.hygienic true in
theorem pss_cons (h1:PS X st t) (h2:PSs X rest u):PSs X (st :: rest) (tSeq t u):=by
 intro pins s σ H D I h
 refine wpAny_execs_cons (thn (h1 pins s σ H { D with nx:=u D } I h) fun f s1 q=>?_)
 cases f with
 | next =>
  refine bC fun g_=>?_
  obtain ⟨σ',H',I',q⟩:=q
  refine g_ ?_
  clear g_
  exact h2 pins s1 σ' H' D I' q
 | ret v=>exact q
 | brk=>exact q
 | cont=>exact q
set_option tactic.hygienic true in
theorem pss_one (h1:PS X st t):PSs X [st] t:=by
 intro pins s σ H D I h
 refine wpAny_execs_cons (thn (h1 pins s σ H D I h) fun f s1 q=>?_)
 cases f with
 | next=>exact wpAny_execs_nil q
 | ret v=>exact q
 | brk=>exact q
 | cont=>exact q
theorem Inv.quiet {pins:List (Addr×Obj)} {σ:St} {H:Hp} {s:Shared} (I:Inv X pins σ H s):interactive X.env=false:=by simp [interactive,I.ok.kind]
noncomputable def tDrop (te:TE):TS:=fun D σ H=>te σ H fun Z H1=>D.nx σ H1
theorem ps_expr (he:PE X e te) (hs:swapsWith e none pos.line X.env=pure false:=by rfl):PS X (.Expr e pos) (tDrop te):=by
 intro pins s σ H D I h
 exact wpAny_Expr_any (thn (he pins s σ H _ I h) fun v s1 ⟨x,H1,I1,r1,q1⟩=>⟨σ,H1,I1,q1⟩) I.quiet hs
noncomputable def tRet (te:TE):TS:=fun D σ H=>te σ H D.rt
theorem ps_ret (he:PE X e te):PS X (.Return (some e) pos) (tRet te):=by
 intro pins s σ H D I h
 exact wpAny_Return_some (thn (he pins s σ H _ I h) fun v s1 ⟨x,H1,I1,r1,q1⟩=>⟨x,σ,H1,I1,r1,q1⟩)
noncomputable def tRetN:TS:=fun D Z H=>D.rt .non H
theorem ps_retN:PS X (.Return none pos) tRetN:=fun Z Z σ H Z I h=>wpAny_Return_none ⟨.non,σ,H,I,rfl,h⟩
noncomputable def tIfS (c:TT) (t u:TS):TS:=fun D σ H=>c σ H fun b H1=>if b=true then t D σ H1 else u D σ H1
theorem ps_if {c:Expr} {a b:List Stmt} {tc:TT} (hc:PT X c tc) (ha:PSs X a t) (hb:PSs X b u):PS X (.If c a b pos) (tIfS tc t u):=by
 intro pins s σ H D I h
 refine wpAny_If (thn (hc pins s σ H _ I h) fun d s1 hm_=>?_)
 refine bC fun g_=>?_
 obtain ⟨H1,I1,q1⟩:=hm_
 refine g_ ?_
 clear g_
 cases d with
 | true=>exact ha pins s1 σ H1 D I1 q1
 | false=>exact hb pins s1 σ H1 D I1 q1
end
noncomputable abbrev TG:=V→St→Hp→(St→Hp→Prop)→Prop
noncomputable abbrev TGs:=List V→St→Hp→(St→Hp→Prop)→Prop
noncomputable def PG (X:Cx) (target:Expr) (t:TG):Prop :=
 ∀ (pins:List (Addr×Obj)) (s:Shared) (σ:St) (H:Hp) (v:V) (u:Value) (Q:St→Hp→Prop),Inv X pins σ H s→RelV v u→t v σ H Q →
  wpAny (model X.prog X.w) X.A (assign target X.env u) (fun Z s'=>SN X pins Q s') X.xe s
noncomputable def PGs (X:Cx) (ts:List Expr) (t:TGs):Prop :=
 ∀ (pins:List (Addr×Obj)) (s:Shared) (σ:St) (H:Hp) (vs:List V) (us:List Value) (Q:St→Hp→Prop),Inv X pins σ H s→Vals vs us→t vs σ H Q →
  wpAny (model X.prog X.w) X.A (assignInOrder ((assignEach ts X.env).map (·.2)) us) (fun Z s'=>SN X pins Q s') X.xe s
noncomputable abbrev TSet:=V→V→V→Hp→(Hp→Prop)→Prop
noncomputable def PSet (X:Cx) (t:TSet):Prop :=
 ∀ (pins:List (Addr×Obj)) (s:Shared) (σ:St) (H:Hp) (o i v:V) (ov iv u:Value) (Q:Hp→Prop),Inv X pins σ H s→RelV o ov→RelV i iv→RelV v u→t o i v H Q →
  wpAny (model X.prog X.w) X.A (setItem ov iv u) (fun Z s'=>∃ H',Inv X pins σ H' s'∧Q H') X.xe s
noncomputable abbrev TIp:=V→V→Hp→VK→Prop
noncomputable def PIp (X:Cx) (op:Operator) (t:TIp):Prop :=
 ∀ (pins:List (Addr×Obj)) (s:Shared) (σ:St) (H:Hp) (x y:V) (v u:Value) (Q:VK),Inv X pins σ H s→RelV x v→RelV y u→t x y H Q →
  wpAny (model X.prog X.w) X.A (inplaceOp op v u) (EP X pins σ Q) X.xe s
section
variable {X:Cx} {pos:Pos}
noncomputable def gName (i:Nat):TG:=fun v σ H Q=>Q (σ.set i (some v)) H
theorem pg_name {i:Nat} {x:Str} (hN:X.N.Nodup) (hi:X.N[i]?=some x) (hx:Loc X.env.scope x) (hf:X.fn x=true∨X.env.scope.names.lookup x=some .local:=by first | exact .inl rfl | exact .inr rfl | assumption):PG X (.Name x pos) (gName i):=by
 intro pins s σ H v u Q I r h
 exact wpAny_assign_Name (store_ok I hN hi hx r (fun s' I'=>⟨_,H,I',h⟩) hf)
noncomputable def gNil:TGs:=fun vs σ H Q=>vs=[]∧Q σ H
inductive PgCons (t:TG) (u:TGs) (vs:List V) (σ:St) (H:Hp) (Q:(St→Hp→Prop)):Prop
 | mk (v r:_) (h0:vs=v :: r) (h1:t v σ H fun σ' H'=>u r σ' H' Q):PgCons t u vs σ H Q
noncomputable def gCons (t:TG) (u:TGs):TGs:=fun vs σ H Q=>PgCons t u vs σ H Q
theorem pgs_nil:PGs X [] gNil:=by
 intro pins s σ H vs us Q I r h
 obtain ⟨e,h⟩:=h
 subst e
 cases r
 exact assignInOrder_nil ⟨σ,H,I,h⟩
theorem pgs_cons {e:Expr} {es:List Expr} {t:TG} {u:TGs} (h1:PG X e t) (h2:PGs X es u)
  (hs:(assignEach (e :: es) X.env).map (·.2)=assign e X.env :: (assignEach es X.env).map (·.2):=by rfl):PGs X (e :: es) (gCons t u):=by
 intro pins s σ H vs us Q I r h
 refine bC fun g_=>?_
 obtain ⟨v,vr,e1,h⟩:=h
 refine g_ ?_
 clear g_
 subst e1
 cases r with
 | cons r rr =>
  rw [hs]
  refine assignInOrder_cons (thn (h1 pins s σ H _ _ _ I r h) fun Z s1 hm_=>?_)
  refine bC fun g_=>?_
  obtain ⟨σ1,H1,I1,q1⟩:=hm_
  refine g_ ?_
  clear g_
  exact h2 pins s1 σ1 H1 _ _ Q I1 rr q1
inductive PgTup (K:PySem.W.Frag) (n:Nat) (t:TGs) (v:V) (σ:St) (H:Hp) (Q:(St→Hp→Prop)):Prop
 | mk (a xs:_) (h0:v=.ref a) (h1:SqT K H a xs) (h2:xs.length=n) (h3:t xs σ H Q):PgTup K n t v σ H Q
noncomputable def gTup (K:PySem.W.Frag) (n:Nat) (t:TGs):TG:=fun v σ H Q=>PgTup K n t v σ H Q
theorem pg_tup {es:List Expr} {k:Nat} {t:TGs} {n:Nat} (hc:X.calm=true) (h:PGs X es t)
  (hn:(assignEach es X.env).length=n:=by rfl) (hst:(assignEach es X.env).findIdx? (·.1)=none:=by rfl):PG X (.Tuple es k pos) (gTup X.K n t):=by
 intro pins s σ H v u Q I r hw
 refine bC fun g_=>?_
 obtain ⟨a,xs,e1,hq,hl,hw⟩:=hw
 refine g_ ?_
 clear g_
 subst e1
 cases r
 refine bC fun g_=>?_
 obtain ⟨its,rv,ht,hz⟩:=I.tuple hq
 refine g_ ?_
 clear g_
 refine assign_Tuple_tuple (I.ok.hd hc) ht (by simp [hn,← hl,rv.length]) hst fun h' hx=>?_
 have I1:Inv X pins σ H { s with heap:=h' }:=I.kept (t':=s.toks) fun b o e=>hx b o (Nat.ne_of_lt (Heap.lt_size e)) e
 exact h pins _ σ H xs _ Q I1 (by simpa using rv) hw
noncomputable def gSub (to ti:TE) (t:TSet):TG:=fun v σ H Q=>to σ H fun o H1=>ti σ H1 fun i H2=>t o i v H2 fun H3=>Q σ H3
theorem pg_sub {o i:Expr} {to ti:TE} {t:TSet} (ho:PE X o to) (hi:PE X i ti) (hs:PSet X t)
  (ha:∀ v,assign (.Subscript o i pos) X.env v=(do
   let ov ← holding [v] (eval o X.env)
   let iv ← holding [v,ov] (eval i X.env)
   standAt pos
   holding [v,ov,iv] (setItem ov iv v)
   release [v,ov,iv] []):=by intro _; rfl):PG X (.Subscript o i pos) (gSub to ti t):=by
 intro pins s σ H v u Q I r h
 rw [ha]
 refine wpAny_bind (wpAny_holding (thn (ho pins s σ H _ I h) fun ov s1 hm_=>?_))
 refine bC fun g_=>?_
 obtain ⟨x,H1,I1,r1,q1⟩:=hm_
 refine g_ ?_
 clear g_
 refine wpAny_bind (wpAny_holding (thn (hi pins s1 σ H1 _ I1 q1) fun iv s2 hm_=>?_))
 refine bC fun g_=>?_
 obtain ⟨y,H2,I2,r2,q2⟩:=hm_
 refine g_ ?_
 clear g_
 refine wpAny_bind (wpAny_standAt (wpAny_bind (wpAny_holding (thn (hs pins s2 σ H2 x y v ov iv u _ I2 r1 r2 r q2) fun Z s3 hm_=>?_))))
 refine bC fun g_=>?_
 obtain ⟨H3,I3,q3⟩:=hm_
 refine g_ ?_
 clear g_
 exact wpAny_release ⟨σ,H3,I3,q3⟩
noncomputable def tAsg (te:TE) (g:TG):TS:=fun D σ H=>te σ H fun x H1=>g x σ H1 D.nx
theorem ps_asg {tg e:Expr} {te:TE} {g:TG} (he:PE X e te) (hg:PG X tg g) (hs:swapsWithSole [tg] e pos.line X.env=pure false:=by rfl) (hw:swappedStores [tg] e X.env=pure none:=by rfl)
  (h1:(assignEach [tg] X.env).map (·.2)=[assign tg X.env]:=by rfl):PS X (.Assign [tg] e pos) (tAsg te g):=by
 intro pins s σ H D I h
 refine wpAny_Assign_stores (thn (he pins s σ H _ I h) fun v s1 hm_=>?_) hs hw
 refine bC fun g_=>?_
 obtain ⟨x,H1,I1,r1,q1⟩:=hm_
 refine g_ ?_
 clear g_
 rw [h1]
 exact thn (hg pins s1 σ H1 x v _ I1 r1 q1) fun Z s2 q=>q
theorem ps_set {i:Nat} {x:Str} {e:Expr} {te:TE} {pos':Pos} (hN:X.N.Nodup) (hi:X.N[i]?=some x) (hx:Loc X.env.scope x) (he:PE X e te) (hs:swapsWith e (some (.Name x pos')) pos.line X.env=pure false:=by rfl) (hf:X.fn x=true∨X.env.scope.names.lookup x=some .local:=by first | exact .inl rfl | exact .inr rfl | assumption) :
  PS X (.Assign [.Name x pos'] e pos) (tAsg te (gName i)):=by
 intro pins s σ H D I h
 refine wpAny_Assign_Name (thn (he pins s σ H _ I h) fun v s1 hm_=>?_) hs
 refine bC fun g_=>?_
 obtain ⟨y,H1,I1,r1,q1⟩:=hm_
 refine g_ ?_
 clear g_
 exact store_ok I1 hN hi hx r1 (fun s2 I2=>⟨_,H1,I2,q1⟩) hf
noncomputable def tAug (i:Nat) (te:TE) (ti:TIp):TS:=fun D σ H=>∃ x,σ[i]?=some (some x)∧te σ H fun y H1=>ti x y H1 fun z H2=>D.nx (σ.set i (some z)) H2
theorem ps_aug {i:Nat} {x:Str} {e:Expr} {te:TE} {op:Operator} {ti:TIp} {pos':Pos} (hN:X.N.Nodup) (hi:X.N[i]?=some x) (hx:Loc X.env.scope x) (he:PE X e te) (ho:PIp X op ti) (hf:X.fn x=true∨X.env.scope.names.lookup x=some .local:=by first | exact .inl rfl | exact .inr rfl | assumption) :
  PS X (.AugAssign (.Name x pos') op e pos) (tAug i te ti):=by
 intro pins s σ H D I h
 refine bC fun g_=>?_
 obtain ⟨v,e1,h⟩:=h
 obtain ⟨m,hn,hl⟩:=I.loc
 refine g_ ?_
 clear g_
 have vis:Vis X.env.scope x:=by rcases hx with k | k; exact .inl k; exact .inr (.inl k)
 refine bC fun g_=>?_
 obtain ⟨u,r,l⟩:=hl i x v hi e1 vis
 refine g_ ?_
 clear g_
 refine wpAny_AugAssign_Name ?_
 have go:wpAny (model X.prog X.w) X.A (eval e X.env) (fun w s₂=>wpAny (model X.prog X.w) X.A (inplaceOp op u w) (fun r s₃=>wpAny (model X.prog X.w) X.A (storeName X.env x r) (fun Z=>SP X pins D .next) X.xe s₃) X.xe s₂) X.xe s:=by
  refine thn (he pins s σ H _ I h) fun w s1 hm_=>?_
  refine bC fun g_=>?_
  obtain ⟨y,H1,I1,r1,q1⟩:=hm_
  refine g_ ?_
  clear g_
  refine thn (ho pins s1 σ H1 v y u w _ I1 r r1 q1) fun z s2 hm_=>?_
  refine bC fun g_=>?_
  obtain ⟨zv,H2,I2,r2,q2⟩:=hm_
  refine g_ ?_
  clear g_
  exact store_ok I2 hN hi hx r2 (fun s3 I3=>⟨_,H2,I3,q2⟩) hf
 rcases l with ⟨hk,hm⟩ | ⟨hk,c,hc,hcell⟩
 ·exact wpAny_loadName_local I.ok.kind hk hn hm go
 ·rcases hk with hk | hk
  ·exact wpAny_loadName_cell I.ok.kind hk hc hcell go
  ·rcases hx with k | k
   ·have:X.env.scope.names.lookup x=some .free:=hk
    rw [k] at this; cases this
   ·have:X.env.scope.names.lookup x=some .free:=hk
    rw [k] at this; cases this
noncomputable def ipI (f:Int→Int→Int):TIp:=fun x y H Q=>∃ i j,x=.int i∧y=.int j∧Q (.int (f i j)) H
theorem ip_add:PIp X .Add (ipI fun i j=>i + j):=by
 intro pins s σ H x y v u Q I r1 r2 h
 refine bC fun g_=>?_
 obtain ⟨i,j,e1,e2,q⟩:=h
 refine g_ ?_
 clear g_
 subst e1; subst e2
 obtain ⟨t,rfl⟩:=r1
 obtain ⟨t',rfl⟩:=r2
 exact iadd_int ⟨.int _,H,I.tok _,⟨_,rfl⟩,q⟩
end
section
variable {X:Cx} {pos:Pos}
noncomputable def tWhile (c:TT) (tb:TS):TS:=fun D σ H=>∃ W:Nat→St→Hp→Prop,(∃ m,W m σ H)∧∀ m σ H,W m σ H →
 c σ H fun b H1=>if b=true then ∃ N:St→Hp→Prop,(∀ σ' H',N σ' H'→∃ m',m' < m∧W m' σ' H')∧tb (Ends.lp D (N)) σ H1 else D.nx σ H1
set_option tactic.hygienic true in
theorem ps_while {c:Expr} {body:List Stmt} {tc:TT} {tb:TS} (hp:PassesOwn (model X.prog X.w) X.A X.env X.xe) (hc:PT X c tc) (hb:PSs X body tb):PS X (.While c body [] pos) (tWhile tc tb):=by
 intro pins s σ H D I h
 refine bC fun g_=>?_
 obtain ⟨W,⟨m0,w0⟩,turn⟩:=h
 refine g_ ?_
 clear g_
 refine wpAny_While (codeAny_whileLoop (fun n s'=>∃ σ' H',Inv X pins σ' H' s'∧W n σ' H') ?_ m0 ⟨σ,H,I,w0⟩)
 rintro n s1 h_
 refine bC fun g_=>?_
 obtain ⟨σ1,H1,I1,w1⟩:=h_
 refine g_ ?_
 clear g_
 refine wpAny_passesOwn hp (thn (hc pins s1 σ1 H1 _ I1 (turn n σ1 H1 w1)) fun b s2 hm_=>?_)
 refine bC fun g_=>?_
 obtain ⟨H2,I2,q2⟩:=hm_
 refine g_ ?_
 clear g_
 cases b with
 | true =>
  refine bC fun g_=>?_
  obtain ⟨N,hN,q2⟩:=q2
  refine g_ ?_
  clear g_
  rw [if_pos rfl]
  refine wpAny_passesOwn hp (thn (hb pins s2 σ1 H2 _ I2 q2) fun f s3 q3=>?_)
  cases f with
  | next =>
   refine bC fun g_=>?_
   obtain ⟨σ3,H3,I3,n3⟩:=q3
   obtain ⟨m',hm,w3⟩:=hN σ3 H3 n3
   refine g_ ?_
   clear g_
   exact ⟨m',hm,σ3,H3,I3,w3⟩
  | cont =>
   refine bC fun g_=>?_
   obtain ⟨σ3,H3,I3,n3⟩:=q3
   obtain ⟨m',hm,w3⟩:=hN σ3 H3 n3
   refine g_ ?_
   clear g_
   exact ⟨m',hm,σ3,H3,I3,w3⟩
  | brk=>exact q3
  | ret v=>exact q3
 | false =>
  rw [if_neg Bool.false_ne_true]
  exact wpAny_execs_nil ⟨σ1,H2,I2,q2⟩
end
structure It where
 go:Nat→Hp→Prop
 yld:Nat→Hp→V→Hp→Prop
 stop:Nat→Hp→Prop
noncomputable def FpOk (X:Cx) (pins:List (Addr×Obj)) (H:Hp) (b:Addr):Prop :=
 H b=none∧b≠X.env.locals∧b ∉ X.fs∧(b∈X.ex∨X.s₀.heap.objs.size≤b)∧(∀ x c,X.env.cells.lookup x=some c→c≠b)∧∀ p∈X.pn++pins,p.1≠b
theorem Inv.fpOk {X:Cx} {pins:List (Addr×Obj)} {σ:St} {H H':Hp} {s:Shared} {b:Addr} (I:Inv X pins σ H s) (hb:s.heap.objs.size≤b) (hn:H' b=none):FpOk X pins H' b:=by
 refine ⟨hn,Nat.ne_of_gt (Nat.lt_of_lt_of_le I.lt hb),I.nofs hb,.inr (Nat.le_trans I.sz hb),fun x c e z=>?_,fun p hp z=>?_⟩
 ·obtain ⟨v,q⟩:=I.cell x c e
  exact absurd (Nat.lt_of_lt_of_le q.lt (by rw [z]; exact hb)) (Nat.lt_irrefl _)
 ·exact absurd (Nat.lt_of_lt_of_le (Heap.lt_size (I.pin p hp).1) (by rw [z]; exact hb)) (Nat.lt_irrefl _)
structure Turn (P:Program) (w:World) (K:PySem.W.Frag) (tg:Expr) (J:It) (fp:List Addr) (it:Addr) (tn:Nat→Heap→Prop):Prop where
 mem:it∈fp
 obj:∀ i h,tn i h→∀ b∈fp,∃ o,h.get? b=some o∧∀ v,o.data≠.cell v
 keep:∀ i h h',tn i h→(∀ b∈fp,∀ o,h.get? b=some o→h'.get? b=some o)→tn i h'
 item:∀ (X:Cx),X.prog=P→X.w=w→X.K=K→X.calm=true→∀ (i:Nat) (pins:List (Addr×Obj)) (s:Shared) (σ:St) (H:Hp) (E:Value→Shared→Prop),Inv X pins σ H s→(∀ b∈fp,FpOk X pins H b)→tn i s.heap→J.go i H →
  wpAny (model P w) X.A (pyNext (.ref it)) (fun r s1=>∃ u,r=some u ∧
   wpAny (model P w) X.A (letOwnedTupleGo tg (.ref it) u) (fun Z s2=>∃ x H',Inv X pins σ H' s2∧RelV x u∧J.yld i H x H'∧tn (i + 1) s2.heap∧∀ b∈fp,H' b=none) E s1) E s
 done:∀ (X:Cx),X.prog=P→X.w=w→X.K=K→X.calm=true→∀ (i:Nat) (pins:List (Addr×Obj)) (s:Shared) (σ:St) (H:Hp) (E:Value→Shared→Prop),Inv X pins σ H s→(∀ b∈fp,FpOk X pins H b)→tn i s.heap→J.stop i H →
  wpAny (model P w) X.A (pyNext (.ref it)) (fun r s1=>r=none∧Inv X pins σ H s1) E s
 self:∀ (A:Around) (i:Nat) (s:Shared) (Q:Value→Shared→Prop) (E:Value→Shared→Prop),tn i s.heap→Q (.ref it) s→wpAny (model P w) A (pyIter (.ref it)) Q E s
noncomputable abbrev TI:=St→Hp→(It→Hp→Prop)→Prop
inductive PIEi (X:Cx) (pins:List (Addr×Obj)) (σ:St) (tg:Expr) (R:It→Hp→Prop) (itv:Value) (s2:Shared):Prop
 | mk (it:Addr) (fp:List Addr) (tn:Nat→Heap→Prop) (J:It) (H':Hp) (h0:itv=.ref it) (h1:Inv X pins σ H' s2) (h2:Turn X.prog X.w X.K tg J fp it tn) (h3:tn 0 s2.heap) (h4:∀ b∈fp,FpOk X pins H' b) (h5:R J H'):PIEi X pins σ tg R itv s2
noncomputable def PIE (X:Cx) (pins:List (Addr×Obj)) (σ:St) (tg:Expr) (R:It→Hp→Prop) (itv:Value) (s2:Shared):Prop :=
 PIEi X pins σ tg R itv s2
noncomputable def PI (X:Cx) (tg iter:Expr) (wi:TI):Prop :=
 ∀ (pins:List (Addr×Obj)) (s:Shared) (σ:St) (H:Hp) (R:It→Hp→Prop),Inv X pins σ H s→wi σ H R →
  wpAny (model X.prog X.w) X.A (eval iter X.env) (fun v s1=>wpAny (model X.prog X.w) X.A (pyIter v) (PIE X pins σ tg R) X.xe s1) X.xe s
theorem go_of {M:Model} {A:Around} {E:Value→Shared→Prop} {s:Shared} {tg:Expr} {it:Addr} {u:Value} {o:Obj} {n:String} {vs:Array Value} {Q:Unit→Shared→Prop} (ho:s.heap.get? it=some o) (hc:o.cls=.type n) (hd:o.data=.fields vs)
  (hn:["enumerate","zip","dict_itemiterator","dict_reverseitemiterator","odict_iterator","itertools.zip_longest","itertools.pairwise"].contains n=false) (hQ:Q () s):wpAny M A (letOwnedTupleGo tg (.ref it) u) Q E s:=by
 unfold letOwnedTupleGo
 cases tg <;> first
  | exact wpAny_pure hQ
  | (cases u <;> first
    | exact wpAny_pure hQ
    | (refine wpAny_bind (wpAny_load ho ?_)
       rw [hc,hd]
       show wpAny M A (if (["enumerate","zip","dict_itemiterator","dict_reverseitemiterator","odict_iterator","itertools.zip_longest","itertools.pairwise"].contains n && vs[0]? == some (rawInt _))=true then _ else _) Q E s
       rw [if_neg (by intro h; rw [hn,Bool.false_and] at h; cases h)]
       exact wpAny_pure hQ))
noncomputable def Itl (K:PySem.W.Frag) (a:Addr):It :=
 ⟨fun i H=>∃ xs x,SqL K H a xs∧xs[i]?=some x,fun i H x H'=>H'=H∧∀ xs,SqL K H a xs→xs[i]?=some x,fun i H=>∃ xs,SqL K H a xs∧xs.length≤i⟩
noncomputable def Itr (lo:Int) (n:Nat):It:=⟨fun i Z=>i < n,fun i H x H'=>H'=H∧x=.int (lo + i),fun i Z=>n≤i⟩
theorem turn_list {P:Program} {w:World} {K:PySem.W.Frag} {tg:Expr} (a it:Addr):Turn P w K tg (Itl K a) [it] it (fun i h=>h.IsListIter it a i) where
 mem:=by simp
 obj:=fun i h st b hb=>by
  have e:b=it:=by simpa using hb
  subst e
  refine bC fun g_=>?_
  obtain ⟨o,e,c,d⟩:=st
  refine g_ ?_
  clear g_
  exact ⟨o,e,fun v z=>by rw [d] at z; cases z⟩
 keep:=fun i h h' st k=>st.at fun o e=>k it (by simp) o e
 item:=by
  intro X hP hw hK hc i pins s σ H E I hf st hg
  subst hP hw hK
  refine bC fun g_=>?_
  obtain ⟨xs,x,hq,hx⟩:=hg
  obtain ⟨its,rv,p,hz⟩:=I.list hq
  obtain ⟨u,hu,ru⟩:=rv.get hx
  obtain ⟨f0,f1,f2,f3,f4,f5⟩:=hf it (by simp)
  refine g_ ?_
  clear g_
  refine wpAny_pyNext_list_item st p.isList (x:=u) (by simpa using hu) fun h' st' sb=>?_
  have I1:Inv X pins σ H { s with heap:=h' }:=I.turned (t':=s.toks) (fun b o hb e=>(sb.2 b hb).trans e) f0 f1 f3 f4 f5
  refine bC fun g_=>?_
  obtain ⟨o,e,c,d⟩:=id st'
  refine g_ ?_
  clear g_
  exact ⟨u,rfl,go_of (s:={ s with heap:=h' }) e c d (by decide) ⟨x,H,I1,ru,⟨rfl,fun ys hy=>by rw [I.list_inj hy hq]; exact hx⟩,st',fun b hb=>(hf b hb).1⟩⟩
 done:=by
  intro X hP hw hK hc i pins s σ H E I hf st hg
  subst hP hw hK
  refine bC fun g_=>?_
  obtain ⟨xs,hq,hx⟩:=hg
  obtain ⟨its,rv,p,hz⟩:=I.list hq
  obtain ⟨f0,f1,f2,f3,f4,f5⟩:=hf it (by simp)
  refine g_ ?_
  clear g_
  have hl:=rv.length
  exact wpAny_pyNext_list_end (I.ok.hd hc) st p.isList (by simp; lia) fun h' eb=>⟨rfl,I.turned (t':=s.toks) (fun b o hb e=>eb b o hb e) f0 f1 f3 f4 f5⟩
 self:=fun Z Z Z Z Z st h=>wpAny_pyIter_listiter st h
theorem turn_range {P:Program} {w:World} {K:PySem.W.Frag} {tg:Expr} (it:Addr) (lo:Int) (n:Nat):Turn P w K tg (Itr lo n) [it] it (fun i h=>IsRangeIter h it (lo + (i:Nat) * 1) ((n:Int) - (i:Nat)) 1) where
 mem:=by simp
 obj:=fun i h st b hb=>by
  have e:b=it:=by simpa using hb
  subst e
  exact ⟨_,st,fun v z=>by
   have z':Data.fields _=Data.cell v:=z
   cases z'⟩
 keep:=fun i h h' st k=>k it (by simp) _ st
 item:=by
  intro X hP hw hK hc i pins s σ H E I hf st hg
  subst hP hw hK
  refine bC fun g_=>?_
  obtain ⟨f0,f1,f2,f3,f4,f5⟩:=hf it (by simp)
  refine g_ ?_
  clear g_
  have W:=Walks.range (prog:=X.prog) (w:=X.w) (I.ok.hd hc) it lo 1 n
  refine W.item i s _ _ hg st fun v h' tk hv st' kk=>?_
  obtain ⟨t,rfl⟩:=hv
  have I1:Inv X pins σ H { s with heap:=h',toks:=tk }:=I.turned (fun b o hb e=>kk b o (by simpa using hb) e) f0 f1 f3 f4 f5
  refine ⟨_,rfl,go_of (s:={ s with heap:=h',toks:=tk }) (n:="range_iterator") st' rfl rfl (by decide) ⟨.int (lo + i),H,I1,⟨t,?_⟩,⟨rfl,rfl⟩,st',fun b hb=>(hf b hb).1⟩⟩
  rw [Int.mul_one]
 done:=by
  intro X hP hw hK hc i pins s σ H E I hf st hg
  subst hP hw hK
  refine bC fun g_=>?_
  obtain ⟨f0,f1,f2,f3,f4,f5⟩:=hf it (by simp)
  refine g_ ?_
  clear g_
  exact wpAny_pyNext_range_end (I.ok.hd hc) st (by have:n≤i:=hg; lia) fun h' eb=>⟨rfl,I.turned (t':=s.toks) (fun b o hb e=>eb b o hb e) f0 f1 f3 f4 f5⟩
 self:=fun Z Z Z Z Z st h=>wpAny_pyIter_rangeiter st h
section
variable {X:Cx} {tg:Expr}
inductive PiList (K:PySem.W.Frag) (x:V) (H:Hp) (R:It→Hp→Prop):Prop
 | mk (a:Addr) (h0:x=.ref a) (h1:∃ xs,SqL K H a xs) (h2:R (Itl K a) H):PiList K x H R
noncomputable def iList (K:PySem.W.Frag) (tl:TE):TI:=fun σ H R=>tl σ H fun x H1=>PiList K x H1 R
theorem pi_list {l:Expr} {tl:TE} (hl:PE X l tl):PI X tg l (iList X.K tl):=by
 intro pins s σ H R I h
 refine thn (hl pins s σ H _ I h) fun v s1 hm_=>?_
 refine bC fun g_=>?_
 obtain ⟨x,H1,I1,r1,q1⟩:=hm_
 obtain ⟨a,e,⟨xs,hq⟩,q⟩:=q1
 refine g_ ?_
 clear g_
 subst e
 cases r1
 refine bC fun g_=>?_
 obtain ⟨its,rv,p,hz⟩:=I1.list hq
 refine g_ ?_
 clear g_
 refine wpAny_pyIter_list p.isList ?_
 refine ⟨s1.heap.objs.size,[s1.heap.objs.size],_,_,H1,rfl,I1.kept (t':=s1.toks) fun b o e=>Heap.get?_push_of_some _ e,turn_list a _,⟨_,Heap.get?_push_size _ rfl,rfl,rfl⟩,fun b hb=>?_,q⟩
 have e:b=s1.heap.objs.size:=by simpa using hb
 subst e
 exact I1.fpOk (Nat.le_refl _) (I1.hok.fresh (Nat.le_refl _))
theorem range_it {pins:List (Addr×Obj)} {σ:St} {H:Hp} {s:Shared} {R:It→Hp→Prop} {E:Value→Shared→Prop} {lo hi:Int} {t u v:Tok} {tk:Nat} (I:Inv X pins σ H s) (h1:-(2 ^ 62)≤lo) (h2:lo < 2 ^ 62) (h3:-(2 ^ 62)≤hi) (h4:hi < 2 ^ 62)
  (q:R (Itr lo (hi - lo).toNat) H):wpAny (model X.prog X.w) X.A (pyIter (.ref s.heap.objs.size)) (PIE X pins σ tg R) E { s with heap:=s.heap.push { cls:=.type "range",data:=.fields #[.int lo t,.int hi u,.int 1 v] },toks:=tk }:=by
 refine wpAny_pyIter_range (IsRange.new ..) (small_one h1 h2 h3 h4) ?_
 have I1:Inv X pins σ H { s with heap:=s.heap.push { cls:=.type "range",data:=.fields #[.int lo t,.int hi u,.int 1 v] },toks:=tk }:=I.kept fun b o e=>Heap.get?_push_of_some _ e
 refine ⟨(s.heap.push { cls:=.type "range",data:=.fields #[.int lo t,.int hi u,.int 1 v] }).objs.size,[(s.heap.push { cls:=.type "range",data:=.fields #[.int lo t,.int hi u,.int 1 v] }).objs.size],_,_,H,rfl,
  I1.kept (t':=tk) fun b o e=>Heap.get?_push_of_some _ e,turn_range _ lo (hi - lo).toNat,?_,fun b hb=>?_,q⟩
 ·have e1:lo + ((0:Nat):Int) * 1=lo:=by simp
  have e2:(((hi - lo).toNat:Nat):Int) - ((0:Nat):Int)=Builtin.Range.rangeSize lo hi 1:=by rw [rangeSize_one]; split <;> lia
  show IsRangeIter _ _ (lo + ((0:Nat):Int) * 1) ((((hi - lo).toNat:Nat):Int) - ((0:Nat):Int)) 1
  rw [e1,e2]
  exact Heap.get?_push_size _ rfl
 ·have e:b=(s.heap.push { cls:=.type "range",data:=.fields #[.int lo t,.int hi u,.int 1 v] }).objs.size:=by simpa using hb
  subst e
  exact I1.fpOk (Nat.le_refl _) (I1.hok.fresh (Nat.le_refl _))
inductive PiRng1 (vs:List V) (H:Hp) (R:It→Hp→Prop):Prop
 | mk (j:Int) (h0:vs=[.int j]) (h1:-(2 ^ 62)≤j) (h2:j < 2 ^ 62) (h3:R (Itr 0 j.toNat) H):PiRng1 vs H R
noncomputable def iRng1 (ta:TA):TI:=fun σ H R=>ta σ H fun vs H1=>PiRng1 vs H1 R
noncomputable def iRng2 (ta:TA):TI:=fun σ H R=>ta σ H fun vs H1=>∃ i j:Int,vs=[.int i,.int j]∧(-(2 ^ 62)≤i∧i < 2 ^ 62∧-(2 ^ 62)≤j∧j < 2 ^ 62)∧R (Itr i (j - i).toNat) H1
theorem pi_range1 {a:Expr} {ta:TA} {p pos:Pos} (hg:Gl X "range") (hm:X.mg "range"=none) (ha:PA X [a] ta) (hs:starEach [a] X.env=[(false,eval a X.env)]:=by rfl):PI X tg (.Call (.Name "range" p) [a] [] pos) (iRng1 ta):=by
 intro pins s σ H R I h
 refine Call_ (ld_blt I hg hm boot_range (PyProof.Rows.callWith_type1 (thn (ha pos pins s σ H _ I h) fun us s1 hm_=>?_) hs rfl))
 refine bC fun g_=>?_
 obtain ⟨vs,H1,I1,r1,q1⟩:=hm_
 obtain ⟨j,e,q1,q2,q⟩:=q1
 refine g_ ?_
 clear g_
 subst e
 cases r1 with
 | cons r rr =>
  cases rr
  obtain ⟨t,rfl⟩:=r
  exact call_range_1 (range_it I1 (by lia) (by lia) q1 q2 (by simpa using q))
theorem pi_range2 {a b:Expr} {ta:TA} {p pos:Pos} (hg:Gl X "range") (hm:X.mg "range"=none) (ha:PA X [a,b] ta) (hs:starEach [a,b] X.env=[(false,eval a X.env),(false,eval b X.env)]:=by rfl) (hs2:starEach [b] X.env=[(false,eval b X.env)]:=by rfl) :
  PI X tg (.Call (.Name "range" p) [a,b] [] pos) (iRng2 ta):=by
 intro pins s σ H R I h
 refine Call_ (ld_blt I hg hm boot_range (PyProof.Rows.callWith_type1 (thn (ha pos pins s σ H _ I h) fun us s1 hm_=>?_) (by rw [hs,hs2]) (by rw [hs2]; rfl)))
 refine bC fun g_=>?_
 obtain ⟨vs,H1,I1,r1,q1⟩:=hm_
 obtain ⟨i,j,e,⟨q1,q2,q3,q4⟩,q⟩:=q1
 refine g_ ?_
 clear g_
 subst e
 cases r1 with
 | cons r rr =>
  cases rr with
  | cons r' rr =>
   cases rr
   obtain ⟨t,rfl⟩:=r
   obtain ⟨t',rfl⟩:=r'
   exact call_range_2 (range_it I1 q1 q2 q3 q4 q)
noncomputable def tFor (wi:TI) (g:TG) (tb:TS):TS:=fun D σ H=>wi σ H fun J H1=>∃ W:Nat→Nat→St→Hp→Prop,(∃ m,W 0 m σ H1)∧∀ i m σ H,W i m σ H →
 (J.stop i H∧D.nx σ H)∨(J.go i H∧∃ N:St→Hp→Prop,(∀ σ' H',N σ' H'→∃ m',m' < m∧W (i + 1) m' σ' H')∧∀ x H',J.yld i H x H'→g x σ H' fun σ2 H2=>tb (Ends.lp D (N)) σ2 H2)
noncomputable def pinsAt (fp:List Addr) (h:Heap):List (Addr×Obj):=fp.filterMap fun b=>(h.get? b).map fun o=>(b,o)
theorem mem_pinsAt {fp:List Addr} {h:Heap} {b:Addr} {o:Obj} (hb:b∈fp) (e:h.get? b=some o):(b,o)∈pinsAt fp h:=List.mem_filterMap.mpr ⟨b,hb,by rw [e]; rfl⟩
theorem of_pinsAt {fp:List Addr} {h:Heap} {p:Addr×Obj} (hp:p∈pinsAt fp h):p.1∈fp∧h.get? p.1=some p.2:=by
 refine bC fun g_=>?_
 obtain ⟨b,hb,e⟩:=List.mem_filterMap.mp hp
 refine g_ ?_
 clear g_
 cases q:h.get? b with
 | none=>rw [q] at e; cases e
 | some o =>
  rw [q] at e
  have e':(b,o)=p:=Option.some.inj e
  subst e'
  exact ⟨hb,q⟩
theorem Inv.pinned {pins:List (Addr×Obj)} {σ:St} {H:Hp} {s:Shared} {fp:List Addr} (I:Inv X pins σ H s) (hf:∀ b∈fp,FpOk X pins H b) (ho:∀ b∈fp,∃ o,s.heap.get? b=some o∧∀ v,o.data≠.cell v):Inv X (pins++pinsAt fp s.heap) σ H s :=
 I.pins_of fun p hp=>(List.mem_append.mp hp).elim (fun z=>I.pin p (List.mem_append_right _ z)) fun z=>by
  refine bC fun g_=>?_
  obtain ⟨hb,e⟩:=of_pinsAt z
  obtain ⟨f0,f1,f2,_⟩:=hf p.1 hb
  obtain ⟨o,e',d⟩:=ho p.1 hb
  refine g_ ?_
  clear g_
  rw [e] at e'; cases e'
  exact ⟨e,f0,f1,f2,d⟩
theorem Inv.unpinned {pins pl:List (Addr×Obj)} {σ:St} {H:Hp} {s:Shared} (I:Inv X (pins++pl) σ H s):Inv X pins σ H s:=I.pins_of fun p hp=>I.pin p (List.mem_append_right _ (List.mem_append_left _ hp))
set_option tactic.hygienic true in
theorem ps_for {iter:Expr} {body:List Stmt} {wi:TI} {g:TG} {tb:TS} {pos:Pos} (hp:PassesOwn (model X.prog X.w) X.A X.env X.xe) (hc:X.calm=true) (hi:PI X tg iter wi) (hg:PG X tg g) (hb:PSs X body tb)
  (hs:∀ x,foldedSetIterable iter X.env x=pure x:=by intro _; rfl):PS X (.For tg iter body [] pos) (tFor wi g tb):=by
 intro pins s σ H D I h
 refine wpAny_For (thn (hi pins s σ H _ I h) fun v s1 h1=>thn h1 fun itv s2 h2=>?_) hs
 refine bC fun g_=>?_
 obtain ⟨it,fp,tn,J,H2,e,I2,T,st2,f2,W,⟨m0,w0⟩,turn⟩:=h2
 refine g_ ?_
 clear g_
 subst e
 have stat:∀ {H':Hp},(∀ b∈fp,H' b=none)→∀ b∈fp,FpOk X pins H' b:=fun hn b hb=>⟨hn b hb,(f2 b hb).2⟩
 refine codeAny_forLoop_any (fun n s'=>∃ i σ' H',Inv X pins σ' H' s'∧tn i s'.heap∧(∀ b∈fp,H' b=none)∧W i n σ' H') ?_ m0 ⟨0,σ,H2,I2,st2,fun b hb=>(f2 b hb).1,w0⟩
 rintro n s3 h_
 refine bC fun g_=>?_
 obtain ⟨i,σ3,H3,I3,st3,fr3,w3⟩:=h_
 refine g_ ?_
 clear g_
 rcases turn i n σ3 H3 w3 with ⟨stop,qn⟩ | ⟨go,N,hN,step⟩
 ·refine wpAny_passesOwn hp (thn (T.done X rfl rfl rfl hc i pins s3 σ3 H3 X.xe I3 (stat fr3) st3 stop) fun r s4 ⟨hr,I4⟩=>?_)
  subst hr
  exact wpAny_execs_nil ⟨σ3,H3,I4,qn⟩
 ·refine wpAny_passesOwn hp (thn (T.item X rfl rfl rfl hc i pins s3 σ3 H3 X.xe I3 (stat fr3) st3 go) fun r s4 hm_=>?_)
  refine bC fun g_=>?_
  obtain ⟨u,hr,h4⟩:=hm_
  refine g_ ?_
  clear g_
  subst hr
  refine wpAny_passesOwn hp (thn h4 fun Z s5 hm_=>?_)
  refine bC fun g_=>?_
  obtain ⟨x,H5,I5,r5,y5,st5,fr5⟩:=hm_
  refine g_ ?_
  clear g_
  have I5':=I5.pinned (stat fr5) (T.obj _ _ st5)
  refine wpAny_passesOwn hp (thn (hg _ s5 σ3 H5 x u _ I5' r5 (step x H5 y5)) fun Z s6 hm_=>?_)
  refine bC fun g_=>?_
  obtain ⟨σ6,H6,I6,q6⟩:=hm_
  refine g_ ?_
  clear g_
  refine wpAny_passesOwn hp (thn (hb _ s6 σ6 H6 _ I6 q6) fun f s7 q7=>?_)
  have again:∀ {σ7:St} {H7:Hp},Inv X (pins++pinsAt fp s5.heap) σ7 H7 s7→N σ7 H7→∃ m,m < n∧∃ i σ' H',Inv X pins σ' H' s7∧tn i s7.heap∧(∀ b∈fp,H' b=none)∧W i m σ' H':=fun {σ7 H7} I7 n7=>by
   refine bC fun g_=>?_
   obtain ⟨m',hm,w7⟩:=hN σ7 H7 n7
   refine g_ ?_
   clear g_
   refine ⟨m',hm,i + 1,σ7,H7,I7.unpinned,T.keep _ _ _ st5 fun b hb o e=>(I7.pin (b,o) (List.mem_append_right _ (List.mem_append_right _ (mem_pinsAt hb e)))).1,fun b hb=>?_,w7⟩
   refine bC fun g_=>?_
   obtain ⟨o,e,d⟩:=T.obj _ _ st5 b hb
   refine g_ ?_
   clear g_
   exact (I7.pin (b,o) (List.mem_append_right _ (List.mem_append_right _ (mem_pinsAt hb e)))).2.1
  cases f with
  | next=>obtain ⟨σ7,H7,I7,n7⟩:=q7; exact again I7 n7
  | cont=>obtain ⟨σ7,H7,I7,n7⟩:=q7; exact again I7 n7
  | brk=>obtain ⟨σ7,H7,I7,q7⟩:=q7; exact ⟨σ7,H7,I7.unpinned,q7⟩
  | ret v=>obtain ⟨x7,σ7,H7,I7,r7,q7⟩:=q7; exact ⟨x7,σ7,H7,I7.unpinned,r7,q7⟩
end
theorem for_list {K:PySem.W.Frag} {a:Addr} {xs:List V} {g:TG} {tb:TS} {D:Ends} {σ:St} {H:Hp} (Pv:Nat→St→Hp→Prop) (h0:Pv 0 σ H) (hl:∀ i σ H,i≤xs.length→Pv i σ H→SqL K H a xs)
  (hs:∀ i x σ H,xs[i]?=some x→Pv i σ H→g x σ H fun σ2 H2=>tb (Ends.lp D (Pv (i + 1))) σ2 H2) (hd:∀ σ H,Pv xs.length σ H→D.nx σ H) :
  ∃ W:Nat→Nat→St→Hp→Prop,(∃ m,W 0 m σ H)∧∀ i m σ H,W i m σ H →
   ((Itl K a).stop i H∧D.nx σ H)∨((Itl K a).go i H∧∃ N:St→Hp→Prop,(∀ σ' H',N σ' H'→∃ m',m' < m∧W (i + 1) m' σ' H')∧∀ x H',(Itl K a).yld i H x H'→g x σ H' fun σ2 H2=>tb (Ends.lp D (N)) σ2 H2):=by
 refine ⟨fun i m σ H=>m=xs.length - i∧i≤xs.length∧Pv i σ H,⟨xs.length,by simp,Nat.zero_le _,h0⟩,?_⟩
 rintro i m σ H ⟨rfl,hi,p⟩
 have q:=hl i σ H hi p
 by_cases hlt:i < xs.length
 ·refine .inr ⟨⟨xs,xs[i],q,by simp [hlt]⟩,Pv (i + 1),fun σ' H' p'=>⟨xs.length - (i + 1),Nat.sub_lt_sub_left hlt (Nat.lt_succ_self i),rfl,hlt,p'⟩,fun x H' y=>?_⟩
  obtain ⟨e,y⟩:=y
  subst e
  exact hs i x σ _ (y xs q) p
 ·have e:i=xs.length:=by lia
  subst e
  exact .inl ⟨⟨xs,q,Nat.le_refl _⟩,hd σ H p⟩
theorem for_range {lo:Int} {n:Nat} {g:TG} {tb:TS} {D:Ends} {σ:St} {H:Hp} (Pv:Nat→St→Hp→Prop) (h0:Pv 0 σ H)
  (hs:∀ i σ H,i < n→Pv i σ H→g (.int (lo + i)) σ H fun σ2 H2=>tb (Ends.lp D (Pv (i + 1))) σ2 H2) (hd:∀ σ H,Pv n σ H→D.nx σ H) :
  ∃ W:Nat→Nat→St→Hp→Prop,(∃ m,W 0 m σ H)∧∀ i m σ H,W i m σ H →
   ((Itr lo n).stop i H∧D.nx σ H)∨((Itr lo n).go i H∧∃ N:St→Hp→Prop,(∀ σ' H',N σ' H'→∃ m',m' < m∧W (i + 1) m' σ' H')∧∀ x H',(Itr lo n).yld i H x H'→g x σ H' fun σ2 H2=>tb (Ends.lp D (N)) σ2 H2):=by
 refine ⟨fun i m σ H=>m=n - i∧i≤n∧Pv i σ H,⟨n,by simp,Nat.zero_le _,h0⟩,?_⟩
 rintro i m σ H ⟨rfl,hi,p⟩
 by_cases hlt:i < n
 ·refine .inr ⟨hlt,Pv (i + 1),fun σ' H' p'=>⟨n - (i + 1),Nat.sub_lt_sub_left hlt (Nat.lt_succ_self i),rfl,hlt,p'⟩,fun x H' y=>?_⟩
  obtain ⟨e,y⟩:=y
  subst e y
  exact hs i σ _ hlt p
 ·have e:i=n:=by lia
  subst e
  exact .inl ⟨Nat.le_refl _,hd σ H p⟩
noncomputable abbrev R2:=V→V→Hp→VK→Prop
noncomputable def OpR (X:Cx) (f:Value→Value→Sem Value) (r:R2):Prop :=
 ∀ (pins:List (Addr×Obj)) (s:Shared) (σ:St) (H:Hp) (x y:V) (v u:Value) (Q:VK),Inv X pins σ H s→RelV x v→RelV y u→r x y H Q →
  wpAny (model X.prog X.w) X.A (f v u) (EP X pins σ Q) X.xe s
noncomputable def UnR (X:Cx) (f:Value→Sem Value) (r:V→Hp→VK→Prop):Prop :=
 ∀ (pins:List (Addr×Obj)) (s:Shared) (σ:St) (H:Hp) (x:V) (v:Value) (Q:VK),Inv X pins σ H s→RelV x v→r x H Q →
  wpAny (model X.prog X.w) X.A (f v) (EP X pins σ Q) X.xe s
noncomputable def CallR (X:Cx) (f:Value) (r:List V→Hp→VK→Prop):Prop :=
 ∀ (pins:List (Addr×Obj)) (s:Shared) (σ:St) (H:Hp) (xs:List V) (us:List Value) (Q:VK),Inv X pins σ H s→Vals xs us→r xs H Q →
  wpAny (model X.prog X.w) X.A (call f us) (EP X pins σ Q) X.xe s
noncomputable def TruR (X:Cx) (r:V→Hp→(Bool→Hp→Prop)→Prop):Prop :=
 ∀ (pins:List (Addr×Obj)) (s:Shared) (σ:St) (H:Hp) (x:V) (v:Value) (Q:Bool→Hp→Prop),Inv X pins σ H s→RelV x v→r x H Q →
  wpAny (model X.prog X.w) X.A (truthy v) (TP X pins σ Q) X.xe s
noncomputable def tOp (r:R2) (ta tb:TE):TE:=fun σ H Q=>ta σ H fun x H1=>tb σ H1 fun y H2=>r x y H2 Q
noncomputable def tUn (r:V→Hp→VK→Prop) (ta:TE):TE:=fun σ H Q=>ta σ H fun x H1=>r x H1 Q
inductive PrI (C:Int→Int→Prop) (g:Int→Int→V) (x:V) (y:V) (H:Hp) (Q:VK):Prop
 | mk (i j:_) (h0:x=.int i) (h1:y=.int j) (h2:C i j) (h3:Q (g i j) H):PrI C g x y H Q
noncomputable def rI (C:Int→Int→Prop) (g:Int→Int→V):R2:=fun x y H Q=>PrI C g x y H Q
noncomputable def rI0 (g:Int→Int→V):R2:=fun x y H Q=>int2 x y fun i j=>Q (g i j) H
inductive PrU (g:Int→V) (x:V) (H:Hp) (Q:VK):Prop
 | mk (i:_) (h0:x=.int i) (h1:Q (g i) H):PrU g x H Q
noncomputable def rU (g:Int→V):V→Hp→VK→Prop:=fun x H Q=>PrU g x H Q
section
variable {X:Cx} {a b c:Expr} {ta tb tc:TE} {pos:Pos}
theorem binT (ha:PE X a ta) (hb:PE X b tb) {pins:List (Addr×Obj)} {s:Shared} {σ:St} {H:Hp} {R:V→V→Hp→Prop} (I:Inv X pins σ H s)
  (h:ta σ H fun x H1=>tb σ H1 fun y H2=>R x y H2) {Q:Value→Shared→Prop} {f:Value→Value→Sem Value}
  (hf:∀ v u s2 x y H2,Inv X pins σ H2 s2→RelV x v→RelV y u→R x y H2→wpAny (model X.prog X.w) X.A (f v u) Q X.xe s2) :
  wpAny (model X.prog X.w) X.A (eval a X.env) (fun v s₁=>wpAny (model X.prog X.w) X.A (eval b X.env) (fun u s₂=>wpAny (model X.prog X.w) X.A (f v u) Q X.xe s₂) X.xe s₁) X.xe s:=by
 refine thn (ha pins s σ H _ I h) fun v s1 hm_=>?_
 refine bC fun g_=>?_
 obtain ⟨x,H1,I1,r1,q1⟩:=hm_
 refine g_ ?_
 clear g_
 refine thn (hb pins s1 σ H1 _ I1 q1) fun u s2 hm_=>?_
 refine bC fun g_=>?_
 obtain ⟨y,H2,I2,r2,q2⟩:=hm_
 refine g_ ?_
 clear g_
 exact hf v u s2 x y H2 I2 r1 r2 q2
theorem pe_op {op:Operator} {r:R2} (ho:OpR X (binaryOp op) r) (ha:PE X a ta) (hb:PE X b tb):PE X (.BinOp a op b pos) (tOp r ta tb):=by
 intro pins s σ H Q I h
 exact wpAny_BinOp (binT ha hb I h fun v u s2 x y H2 I2 rx ry q=>ho pins s2 σ H2 x y v u Q I2 rx ry q)
theorem pe_un {op:UnaryOp} {r:V→Hp→VK→Prop} (ho:UnR X (unaryOp op) r) (ha:PE X a ta):PE X (.UnaryOp op a pos) (tUn r ta):=by
 intro pins s σ H Q I h
 exact UnaryOp_ (thn (ha pins s σ H _ I h) fun v s1 ⟨x,H1,I1,r1,q1⟩=>ho pins s1 σ H1 x v Q I1 r1 q1)
theorem opI {f:Value→Value→Sem Value} {C:Int→Int→Prop} {g:Int→Int→Int}
  (rule:∀ (i j:Int) (t u:Tok) (s:Shared) (Q:Value→Shared→Prop) (E:Value→Shared→Prop),C i j→Q (.int (g i j) s.toks) { s with toks:=s.toks + 1 }→wpAny (model X.prog X.w) X.A (f (.int i t) (.int j u)) Q E s) :
  OpR X f (rI C fun i j=>.int (g i j)):=by
 intro pins s σ H x y v u Q I rx ry h
 obtain ⟨i,j,rfl,rfl,hc,q⟩:=h
 obtain ⟨t,rfl⟩:=rx
 obtain ⟨t',rfl⟩:=ry
 exact rule i j t t' s _ _ hc ⟨.int (g i j),H,I.tok _,⟨_,rfl⟩,q⟩
theorem opI0 {f:Value→Value→Sem Value} {g:Int→Int→Int}
  (rule:∀ (i j:Int) (t u:Tok) (s:Shared) (Q:Value→Shared→Prop) (E:Value→Shared→Prop),Q (.int (g i j) s.toks) { s with toks:=s.toks + 1 }→wpAny (model X.prog X.w) X.A (f (.int i t) (.int j u)) Q E s) :
  OpR X f (rI0 fun i j=>.int (g i j)):=by
 intro pins s σ H x y v u Q I rx ry h
 obtain ⟨i,j,rfl,rfl,q⟩:=int2.out h
 obtain ⟨t,rfl⟩:=rx
 obtain ⟨t',rfl⟩:=ry
 exact rule i j t t' s _ _ ⟨.int (g i j),H,I.tok _,⟨_,rfl⟩,q⟩
theorem opB0 {f:Value→Value→Sem Value} {g:Int→Int→Bool}
  (rule:∀ (i j:Int) (t u:Tok) (s:Shared) (Q:Value→Shared→Prop) (E:Value→Shared→Prop),Q (.bool (g i j)) s→wpAny (model X.prog X.w) X.A (f (.int i t) (.int j u)) Q E s) :
  OpR X f (rI0 fun i j=>.bl (g i j)):=by
 intro pins s σ H x y v u Q I rx ry h
 obtain ⟨i,j,rfl,rfl,q⟩:=int2.out h
 obtain ⟨t,rfl⟩:=rx
 obtain ⟨t',rfl⟩:=ry
 exact rule i j t t' s _ _ ⟨.bl (g i j),H,I,rfl,q⟩
noncomputable def CDiv (i j:Int):Prop:=0 < j∧j < 1073741824
noncomputable def CPow (i j:Int):Prop:=0≤j∧j≤1000000∧i.natAbs < 2 ^ 64
noncomputable def CMul (i j:Int):Prop:=(-(2 ^ 64) < i∧i < 2 ^ 64)∨(-(2 ^ 64) < j∧j < 2 ^ 64)
theorem CMul.ok {i j:Int} (h:CMul i j):IntMulOk i j:=by
 rcases h with ⟨h1,h2⟩ | ⟨h1,h2⟩
 ·exact .of_left (intBits_le_64 h1 h2)
 ·exact .of_right (intBits_le_64 h1 h2)
theorem two_pow_nn (k:Nat):(0:Int)≤2 ^ k:=by
 rw [two_pow_cast]
 exact Int.natCast_nonneg _
theorem op_add:OpR X (binaryOp .Add) (rI0 fun i j=>.int (i + j)):=opI0 fun Z Z Z Z Z Z Z q=>add_int q
theorem op_sub:OpR X (binaryOp .Sub) (rI0 fun i j=>.int (i - j)):=opI0 fun Z Z Z Z Z Z Z q=>sub_int q
theorem op_mul:OpR X (binaryOp .Mult) (rI CMul fun i j=>.int (i * j)):=opI fun Z Z Z Z Z Z Z hc q=>mul_int q hc.ok
theorem op_fdiv:OpR X (binaryOp .FloorDiv) (rI CDiv fun i j=>.int (i / j)):=opI fun i j Z Z Z Z Z hc q=>by
 have h1:(0:Int) < j:=hc.1
 have h2:j < 1073741824:=hc.2
 exact floordiv_int (by lia) (by rw [Int.fdiv_eq_ediv_of_nonneg i (by lia)]; exact q) (.inl (PyProof.noPylong_small (by lia)))
theorem op_mod:OpR X (binaryOp .Mod) (rI (fun Z j=>0 < j) fun i j=>.int (i % j)):=opI fun i j Z Z Z Z Z hc q=>by
 have h1:(0:Int) < j:=hc
 exact mod_int' (by lia) (by rw [Int.fmod_eq_emod_of_nonneg i (by lia)]; exact q)
theorem op_pow:OpR X (binaryOp .Pow) (rI CPow fun i j=>.int (i ^ j.toNat)):=opI fun Z Z Z Z Z Z Z hc q=>pow_int_small hc.1 hc.2.1 hc.2.2 q
theorem op_shr:OpR X (binaryOp .RShift) (rI (fun Z j=>0≤j) fun i j=>.int (i / 2 ^ j.toNat)):=opI fun i j Z Z Z Z Z hc q =>
 rshift_int hc (by rw [Int.fdiv_eq_ediv_of_nonneg i (two_pow_nn _)]; exact q)
theorem unI {f:Value→Sem Value} {g:Int→Int}
  (rule:∀ (i:Int) (t:Tok) (s:Shared) (Q:Value→Shared→Prop) (E:Value→Shared→Prop),Q (.int (g i) s.toks) { s with toks:=s.toks + 1 }→wpAny (model X.prog X.w) X.A (f (.int i t)) Q E s) :
  UnR X f (rU fun i=>.int (g i)):=by
 intro pins s σ H x v Q I rx h
 obtain ⟨i,rfl,q⟩:=h
 obtain ⟨t,rfl⟩:=rx
 exact rule i t s _ _ ⟨.int (g i),H,I.tok _,⟨_,rfl⟩,q⟩
theorem un_neg:UnR X (unaryOp .USub) (rU fun i=>.int (-i)):=unI fun Z Z Z Z Z q=>neg_int q
end
noncomputable def scal:V→V→Bool
 | .non,.non=>true | .non,.int _=>true | .int _,.non=>true | .non,.bl _=>true | .bl _,.non=>true | .non,.str _=>true | .str _,.non=>true
 | .int _,.int _=>true | .bl _,.bl _=>true | .str _,.str _=>true | .byt _,.byt _=>true
 | .int _,.str _=>true | .str _,.int _=>true | .bl _,.str _=>true | .str _,.bl _=>true
 | _,_=>false
noncomputable def rEq:R2:=fun x y H Q=>scal x y=true∧Q (.bl (decide (x=y))) H
noncomputable def rNe:R2:=fun x y H Q=>scal x y=true∧Q (.bl (!decide (x=y))) H
theorem dec_int {i j:Int}:decide (V.int i=V.int j)=(i == j):=by
 rw [Bool.eq_iff_iff]
 simp
theorem dec_bl {i j:Bool}:decide (V.bl i=V.bl j)=(i == j):=by
 rw [Bool.eq_iff_iff]
 simp
theorem dec_str {i j:Str}:decide (V.str i=V.str j)=(i == j):=by
 rw [Bool.eq_iff_iff]
 simp
theorem dec_byt {i j:Array UInt8}:decide (V.byt i=V.byt j)=(i.toList == j.toList):=by
 rw [Bool.eq_iff_iff]
 cases i
 cases j
 simp
section
variable {X:Cx} {a b c:Expr} {ta tb tc:TE} {pos:Pos}
theorem fin_bl {pins:List (Addr×Obj)} {σ:St} {H:Hp} {s:Shared} {Q:VK} {k k':Bool} (I:Inv X pins σ H s) (q:Q (.bl k) H) (e:k=k'):EP X pins σ Q (.bool k') s:=by
 subst e
 exact ⟨.bl k,H,I,rfl,q⟩
theorem op_eq:OpR X (compareOp .Eq) rEq:=by
 intro pins s σ H x y v u Q I rx ry h
 obtain ⟨hs,q⟩:=h
 cases x with
 | non =>
  cases rx
  cases y with
  | non=>cases ry; exact PySem.EqNone.eq_none_none (fin_bl I q (by simp))
  | bl j=>cases ry; exact PySem.EqNone.eq_none_bool (fin_bl I q (by simp))
  | int j=>obtain ⟨t',rfl⟩:=ry; exact PySem.EqNone.eq_none_int (fin_bl I q (by simp))
  | str j=>obtain ⟨t',rfl⟩:=ry; exact PySem.EqNone.eq_none_str (fin_bl I q (by simp))
  | _=>exact absurd (show false=true from hs) Bool.false_ne_true
 | bl i =>
  cases rx
  cases y with
  | non=>cases ry; exact PySem.EqNone.eq_bool_none (fin_bl I q (by simp))
  | bl j=>cases ry; exact eq_bool (fin_bl I q dec_bl)
  | str j=>obtain ⟨t',rfl⟩:=ry; exact PySem.EqMixed.eq_bool_str (fin_bl I q (by simp))
  | _=>exact absurd (show false=true from hs) Bool.false_ne_true
 | int i =>
  obtain ⟨t,rfl⟩:=rx
  cases y with
  | non=>cases ry; exact PySem.EqNone.eq_int_none (fin_bl I q (by simp))
  | int j=>obtain ⟨t',rfl⟩:=ry; exact eq_int (fin_bl I q dec_int)
  | str j=>obtain ⟨t',rfl⟩:=ry; exact PySem.EqMixed.eq_int_str (fin_bl I q (by simp))
  | _=>exact absurd (show false=true from hs) Bool.false_ne_true
 | str i =>
  obtain ⟨t,rfl⟩:=rx
  cases y with
  | non=>cases ry; exact PySem.EqNone.eq_str_none (fin_bl I q (by simp))
  | bl j=>cases ry; exact PySem.EqMixed.eq_str_bool (fin_bl I q (by simp))
  | int j=>obtain ⟨t',rfl⟩:=ry; exact PySem.EqMixed.eq_str_int (fin_bl I q (by simp))
  | str j=>obtain ⟨t',rfl⟩:=ry; exact eq_str (fin_bl I q dec_str)
  | _=>exact absurd (show false=true from hs) Bool.false_ne_true
 | byt i =>
  obtain ⟨t,rfl⟩:=rx
  cases y with
  | byt j=>obtain ⟨t',rfl⟩:=ry; exact PySem.W.eq_bytes (fin_bl I q dec_byt)
  | _=>exact absurd (show false=true from hs) Bool.false_ne_true
 | _=>cases y <;> exact absurd (show false=true from hs) Bool.false_ne_true
theorem op_ne:OpR X (compareOp .NotEq) rNe:=by
 intro pins s σ H x y v u Q I rx ry h
 obtain ⟨hs,q⟩:=h
 cases x with
 | non =>
  cases rx
  cases y with
  | non=>cases ry; exact PySem.EqNone.ne_none_none (fin_bl I q (by simp))
  | bl j=>cases ry; exact PySem.EqNone.ne_none_bool (fin_bl I q (by simp))
  | int j=>obtain ⟨t',rfl⟩:=ry; exact PySem.EqNone.ne_none_int (fin_bl I q (by simp))
  | str j=>obtain ⟨t',rfl⟩:=ry; exact PySem.EqNone.ne_none_str (fin_bl I q (by simp))
  | _=>exact absurd (show false=true from hs) Bool.false_ne_true
 | bl i =>
  cases rx
  cases y with
  | non=>cases ry; exact PySem.EqNone.ne_bool_none (fin_bl I q (by simp))
  | bl j=>cases ry; exact ne_bool (fin_bl I q (congrArg not dec_bl))
  | str j=>obtain ⟨t',rfl⟩:=ry; exact PySem.EqMixed.ne_bool_str (fin_bl I q (by simp))
  | _=>exact absurd (show false=true from hs) Bool.false_ne_true
 | int i =>
  obtain ⟨t,rfl⟩:=rx
  cases y with
  | non=>cases ry; exact PySem.EqNone.ne_int_none (fin_bl I q (by simp))
  | int j=>obtain ⟨t',rfl⟩:=ry; exact ne_int (fin_bl I q (congrArg not dec_int))
  | str j=>obtain ⟨t',rfl⟩:=ry; exact PySem.EqMixed.ne_int_str (fin_bl I q (by simp))
  | _=>exact absurd (show false=true from hs) Bool.false_ne_true
 | str i =>
  obtain ⟨t,rfl⟩:=rx
  cases y with
  | non=>cases ry; exact PySem.EqNone.ne_str_none (fin_bl I q (by simp))
  | bl j=>cases ry; exact PySem.EqMixed.ne_str_bool (fin_bl I q (by simp))
  | int j=>obtain ⟨t',rfl⟩:=ry; exact PySem.EqMixed.ne_str_int (fin_bl I q (by simp))
  | str j=>obtain ⟨t',rfl⟩:=ry; exact ne_str (fin_bl I q (congrArg not dec_str))
  | _=>exact absurd (show false=true from hs) Bool.false_ne_true
 | byt i =>
  obtain ⟨t,rfl⟩:=rx
  cases y with
  | byt j=>obtain ⟨t',rfl⟩:=ry; exact PySem.W.ne_bytes (fin_bl I q (congrArg not dec_byt))
  | _=>exact absurd (show false=true from hs) Bool.false_ne_true
 | _=>cases y <;> exact absurd (show false=true from hs) Bool.false_ne_true
theorem op_lt:OpR X (compareOp .Lt) (rI0 fun i j=>.bl (decide (i < j))):=opB0 fun Z Z Z Z Z Z Z q=>lt_int q
theorem op_le:OpR X (compareOp .LtE) (rI0 fun i j=>.bl (decide (i≤j))):=opB0 fun Z Z Z Z Z Z Z q=>le_int q
theorem op_gt:OpR X (compareOp .Gt) (rI0 fun i j=>.bl (decide (j < i))):=opB0 fun Z Z Z Z Z Z Z q=>gt_int q
theorem op_notN:OpR X (compareOp .IsNot) (fun x y H Q=>y=.non∧Q (.bl (!decide (x=.non))) H):=by
 intro pins s σ H x y v u Q I rx ry h
 obtain ⟨rfl,q⟩:=h
 cases ry
 refine isnot_none_gen (fin_bl I q ?_)
 cases x <;> first
  | (cases rx; rfl)
  | (obtain ⟨t,rfl⟩:=rx; rfl)
theorem nomark (b:Expr) {op:CmpOp} (h:op≠.In:=by decide) (h2:op≠.NotIn:=by decide):behindInMarks op b=false:=by
 have e1:(op == CmpOp.In)=false:=by cases op <;> first | rfl | exact absurd rfl h
 have e2:(op == CmpOp.NotIn)=false:=by cases op <;> first | rfl | exact absurd rfl h2
 cases b <;> simp [behindInMarks,e1,e2]
theorem pe_cmpR {op:CmpOp} {r:R2} (ho:OpR X (compareOp op) r) (ha:PE X a ta) (hb:PE X b tb) (hm:behindInMarks op b=false):PE X (.Compare a [op] [b] pos) (tOp r ta tb):=by
 intro pins s σ H Q I h
 exact wpAny_Compare1 (binT ha hb I h fun v u s2 x y H2 I2 rx ry q=>ho pins s2 σ H2 x y v u Q I2 rx ry q) hm
noncomputable def tTest (t:TE):TT:=fun σ H Q=>t σ H fun x H'=>IsBl x H' Q
theorem pt_cmpR {op:CmpOp} {r:R2} (ho:OpR X (compareOp op) r) (ha:PE X a ta) (hb:PE X b tb) (hm:behindInMarks op b=false):PT X (.Compare a [op] [b] pos) (tTest (tOp r ta tb)):=by
 intro pins s σ H Q I h
 refine wpAny_isTrue_Compare1 (thn (ha pins s σ H _ I h) fun v s1 ⟨x,H1,I1,r1,q1⟩=>thn (hb pins s1 σ H1 _ I1 q1) fun u s2 ⟨y,H2,I2,r2,q2⟩ =>
  thn (ho pins s2 σ H2 x y v u _ I2 r1 r2 q2) fun c s3 ⟨z,H3,I3,r3,q3⟩=>?_) hm
 obtain ⟨k,e,q3⟩:=IsBl.out q3
 subst e
 cases r3
 exact wpAny_truthy_bool ⟨H3,I3,q3⟩
noncomputable def tChain (r r':R2) (ta tb tc:TE):TE:=fun σ H Q=>ta σ H fun x H1=>tb σ H1 fun y H2=>r x y H2 fun z H3=>IsBl z H3 fun k H3 =>
 (if k=true then tc σ H3 fun w' H4=>r' y w' H4 Q else Q (.bl false) H3)
theorem pe_chain {op op':CmpOp} {r r':R2} (ho:OpR X (compareOp op) r) (ho':OpR X (compareOp op') r') (ha:PE X a ta) (hb:PE X b tb) (hc:PE X c tc)
  (hm:lastMarks [op,op'] [b,c]=false:=by with_unfolding_all rfl):PE X (.Compare a [op,op'] [b,c] pos) (tChain r r' ta tb tc):=by
 intro pins s σ H Q I h
 refine Compare_chain (thn (ha pins s σ H _ I h) fun v s1 ⟨x,H1,I1,r1,q1⟩=>chain_link (thn (hb pins s1 σ H1 _ I1 q1) fun u s2 ⟨y,H2,I2,r2,q2⟩ =>
  thn (ho pins s2 σ H2 x y v u _ I2 r1 r2 q2) fun d s3 ⟨z,H3,I3,r3,q3⟩=>?_)) hm
 obtain ⟨k,e,q3⟩:=IsBl.out q3
 subst e
 cases r3
 refine wpAny_truthy_bool ?_
 cases k with
 | false=>exact ite_ff ⟨.bl false,H3,I3,rfl,q3⟩
 | true=>exact ite_tt (chain_last (thn (hc pins s3 σ H3 _ I3 q3) fun w' s4 ⟨z',H4,I4,r4,q4⟩=>ho' pins s4 σ H4 y z' u w' Q I4 r2 r4 q4))
theorem pt_chain {op op':CmpOp} {r r':R2} (ho:OpR X (compareOp op) r) (ho':OpR X (compareOp op') r') (ha:PE X a ta) (hb:PE X b tb) (hc:PE X c tc)
  (hm:lastMarks [op,op'] [b,c]=false:=by with_unfolding_all rfl):PT X (.Compare a [op,op'] [b,c] pos) (tTest (tChain r r' ta tb tc)):=by
 intro pins s σ H Q I h
 refine isTrue_chain (thn (ha pins s σ H _ I h) fun v s1 ⟨x,H1,I1,r1,q1⟩=>test_link (thn (hb pins s1 σ H1 _ I1 q1) fun u s2 ⟨y,H2,I2,r2,q2⟩ =>
  thn (ho pins s2 σ H2 x y v u _ I2 r1 r2 q2) fun d s3 ⟨z,H3,I3,r3,q3⟩=>?_)) hm
 obtain ⟨k,e,q3⟩:=IsBl.out q3
 subst e
 cases r3
 refine wpAny_truthy_bool ?_
 cases k with
 | false =>
  refine bC fun g_=>?_
  refine g_ ?_
  clear g_
  exact ite_ff ⟨H3,I3,q3⟩
 | true =>
  refine ite_tt (test_last (thn (hc pins s3 σ H3 _ I3 q3) fun w' s4 ⟨z',H4,I4,r4,q4⟩=>thn (ho' pins s4 σ H4 y z' u w' _ I4 r2 r4 q4) fun d' s5 hm_=>?_))
  refine bC fun g_=>?_
  obtain ⟨z2,H5,I5,r5,q5⟩:=hm_
  obtain ⟨k2,e2,q5⟩:=IsBl.out q5
  refine g_ ?_
  clear g_
  subst e2
  cases r5
  exact wpAny_truthy_bool ⟨H5,I5,q5⟩
noncomputable def TruV (K:PySem.W.Frag) (x:V) (H:Hp) (k:Bool):Prop :=
 match x with
 | .non=>k=false
 | .bl b=>k=b
 | .int i=>k=(i != 0)
 | .str y=>y.length≤sizeLine∧k=((y.length:Int) != 0)
 | .byt y=>y.size≤sizeLine∧k=((y.size:Int) != 0)
 | .ref p=>(∃ xs,SqL K H p xs∧k=!xs.isEmpty)∨(∃ xs,SqT K H p xs∧k=!xs.isEmpty)∨∃ kvs,H p=some (.dK kvs)∧k=!kvs.isEmpty
 | _=>False
theorem isEmpty_kv {κ:Type} {kvs:List (κ×V)} {vs:List (κ×Value)} (r:KV kvs vs):(!vs.isEmpty)=!kvs.isEmpty:=by
 cases r <;> rfl
theorem isEmpty_of {xs:List V} {its:List Value} (r:Vals xs its):(!its.toArray.isEmpty)=!xs.isEmpty:=by
 cases r <;> simp
theorem line63:(sizeLine:Nat) < 2 ^ 63:=by rw [sizeLine_eq]; decide
theorem tru_ok:TruR X (fun x H Q=>∃ k,TruV X.K x H k∧Q k H):=by
 intro pins s σ H x v Q I rx h
 refine bC fun g_=>?_
 obtain ⟨k,e,q⟩:=h
 refine g_ ?_
 clear g_
 have hl:=line63
 have hs:sizeLine=16777216:=sizeLine_eq
 cases x with
 | non =>
  cases rx
  have e':k=false:=e
  subst e'
  exact truthy_none ⟨H,I,q⟩
 | bl b =>
  cases rx
  have e':k=b:=e
  subst e'
  exact wpAny_truthy_bool ⟨H,I,q⟩
 | int i =>
  obtain ⟨t,rfl⟩:=rx
  have e':k=(i != 0):=e
  subst e'
  exact PySem.P.truthy_int ⟨H,I,q⟩
 | str y =>
  obtain ⟨t,rfl⟩:=rx
  obtain ⟨hy,e'⟩:y.length≤sizeLine∧k=((y.length:Int) != 0):=e
  subst e'
  exact PySem.P.truthy_str (by lia) ⟨H,I.tok _,q⟩
 | byt y =>
  obtain ⟨t,rfl⟩:=rx
  obtain ⟨hy,e'⟩:y.size≤sizeLine∧k=((y.size:Int) != 0):=e
  subst e'
  exact PySem.W.truthy_bytes (by lia) ⟨H,I.tok _,q⟩
 | ref p =>
  cases rx
  have e':(∃ xs,SqL X.K H p xs∧k=!xs.isEmpty)∨(∃ xs,SqT X.K H p xs∧k=!xs.isEmpty)∨∃ kvs,H p=some (.dK kvs)∧k=!kvs.isEmpty:=e
  rcases e' with ⟨xs,hx,e'⟩ | ⟨xs,hx,e'⟩ | ⟨kvs,hx,e'⟩
  ·subst e'
   refine bC fun g_=>?_
   obtain ⟨its,r,pl,hz⟩:=I.list hx
   refine g_ ?_
   clear g_
   have hlen:=r.length
   exact wpAny_truthy_list pl.isList (by simp only [List.size_toArray]; lia) ⟨H,I.tok _,by rw [isEmpty_of r]; exact q⟩
  ·subst e'
   refine bC fun g_=>?_
   obtain ⟨its,r,pl,hz⟩:=I.tuple hx
   refine g_ ?_
   clear g_
   have hlen:=r.length
   exact truthy_tuple pl (by simp only [List.size_toArray]; lia) ⟨H,I.tok _,by rw [isEmpty_of r]; exact q⟩
  ·subst e'
   obtain ⟨hz,hS,vs,r,m⟩:kvs.length≤sizeLine∧(p == sysModules)=false∧∃ vs,KV kvs vs∧s.heap.DictOf (mixKind X.prog X.w) p vs:=I.hok p _ hx
   have hlen:kvs.length=vs.length:=Paired.length r
   exact wpAny_truthy_dict hS m (by lia) ⟨H,I.tok _,by rw [isEmpty_kv r]; exact q⟩
 | _=>exact (show False from e).elim
theorem pt_truth (ha:PE X a ta) (he:∀ whole,isTrue a X.env whole=(do let v ← whole; standAt a.pos; holding [v] (truthy v))) :
  PT X a (fun σ H Q=>ta σ H fun x H'=>∃ k,TruV X.K x H' k∧Q k H'):=by
 intro pins s σ H Q I h
 exact isTrue_plain (thn (ha pins s σ H _ I h) fun v s1 ⟨x,H1,I1,r1,q1⟩=>tru_ok pins s1 σ H1 x v Q I1 r1 q1) (he _)
theorem vals1 {x:V} {us:List Value} (r:Vals [x] us):∃ u,us=[u]∧RelV x u:=by
 cases r with
 | cons r1 r2=>cases r2; exact ⟨_,rfl,r1⟩
theorem vals2 {x y:V} {us:List Value} (r:Vals [x,y] us):∃ u w',us=[u,w']∧RelV x u∧RelV y w':=by
 cases r with
 | cons r1 r2 =>
  cases r2 with
  | cons r3 r4=>cases r4; exact ⟨_,_,rfl,r1,r3⟩
inductive PTwo (g:Int→Int→Int) (xs:List V) (H:Hp) (Q:VK):Prop
 | mk (i j:Int) (h0:xs=[.int i,.int j]) (h1:Q (.int (g i j)) H):PTwo g xs H Q
theorem call_max2 (hc:X.calm=true):CallR X (.builtin "max") (PTwo fun i j=>if j > i then j else i):=by
 intro pins s σ H xs us Q I r h
 obtain ⟨i,j,rfl,q⟩:=h
 obtain ⟨u,w',rfl,⟨t,rfl⟩,⟨t',rfl⟩⟩:=vals2 r
 refine max_two_ints (I.ok.hd hc) fun h' tk k=>⟨_,H,I.kept k,?_,q⟩
 by_cases hj:j > i
 ·rw [if_pos hj,if_pos hj]; exact ⟨_,rfl⟩
 ·rw [if_neg hj,if_neg hj]; exact ⟨_,rfl⟩
theorem call_min2 (hc:X.calm=true):CallR X (.builtin "min") (PTwo fun i j=>if j < i then j else i):=by
 intro pins s σ H xs us Q I r h
 obtain ⟨i,j,rfl,q⟩:=h
 obtain ⟨u,w',rfl,⟨t,rfl⟩,⟨t',rfl⟩⟩:=vals2 r
 refine min_two_ints (I.ok.hd hc) fun h' tk k=>⟨_,H,I.kept k,?_,q⟩
 by_cases hj:j < i
 ·rw [if_pos hj,if_pos hj]; exact ⟨_,rfl⟩
 ·rw [if_neg hj,if_neg hj]; exact ⟨_,rfl⟩
end
structure ObjM (h:Heap) (x dx C:Addr) (mA:Str→Option Value):Prop where
 obj:h.get? x=some (PySem.W.instObj C dx)
 ns:h.Ns1 dx mA
 ne:dx≠x
set_option tactic.hygienic true in
theorem lookIn_ns {h:Heap} {dx:Addr} {mA:Str→Option Value} (n:h.Ns1 dx mA):∃ od,h.get? dx=some od∧∀ name,PySem.W.lookIn name od=some (mA name):=by
 refine bC fun g_=>?_
 obtain ⟨o,es,ep,ho,hd,hk,_,hm⟩:=n
 refine g_ ?_
 clear g_
 refine ⟨o,ho,fun name=>?_⟩
 have e:=hm name
 unfold nsFind findBy at e
 rw [← Array.find?_toList] at e
 unfold PySem.W.lookIn
 rw [hd]
 dsimp only
 split
 ·rename_i y q
  rw [q] at e
  exact congrArg some e
 ·rename_i q
  rw [q] at e
  have a:es.toList.any (·.refKey)=false:=by
   rw [List.any_eq_false]
   intro y hy
   refine bC fun g_=>?_
   obtain ⟨z,t,hkey⟩:=hk y (Array.mem_toList_iff.mp hy)
   refine g_ ?_
   clear g_
   simp [DictEntry.refKey,hkey]
  have a':¬ es.toList.any (·.refKey)=true:=by rw [a]; exact Bool.false_ne_true
  rw [if_neg a']
  exact congrArg some e
theorem ObjM.look {h:Heap} {x dx C:Addr} {mA:Str→Option Value} (I:ObjM h x dx C mA):∃ od,PySem.W.InstAt h x (PySem.W.instObj C dx) C (some od)∧∀ name,PySem.W.lookIn name od=some (mA name) :=
 let ⟨od,ho,hl⟩:=lookIn_ns I.ns
 ⟨od,⟨I.obj,rfl,rfl,ho⟩,hl⟩
section
variable {prog:Program} {w:World} {A:Around} {E:Value→Shared→Prop} {s:Shared} {K:PySem.W.Frag} {x dx C f:Addr} {mA:Str→Option Value} {name:Str} {v:Value}
theorem get_map {expr:Bool} {Q:Value→Shared→Prop} (X:K.In s.heap) (I:ObjM s.heap x dx C mA) (hg:PySem.W.plainGet K C name=true) (hh:PySem.W.hasDictIn K C=true)
  (ha:PySem.W.findIn K (.ref C) name=some none) (hv:mA name=some v) (hv':PySem.W.handedIn v=true) (h:Q v { s with toks:=s.toks + 1 }) :
  wpAny (model prog w) A (getAttr (.ref x) name expr) Q E s:=by
 refine bC fun g_=>?_
 obtain ⟨od,J,hl⟩:=I.look
 refine g_ ?_
 clear g_
 exact PySem.W.get_value X J (PySem.W.plainGet_of hg).1 (PySem.W.findObj_own hh ha rfl (by rw [hl,hv])) hv' h
theorem get_meth {pl:Sem Bool} {Q:Value×List Value→Shared→Prop} (X:K.In s.heap) (I:ObjM s.heap x dx C mA) (hg:PySem.W.plainGet K C name=true)
  (hf:PySem.W.findIn K (.ref C) name=some (some (.ref f))) (ht:PySem.W.isFn K (.ref f)=true) (hv:mA name=none) (h:Q (.ref f,[.ref x]) s) :
  wpAny (model prog w) A (getMethod (.ref x) name pl) Q E s:=by
 refine bC fun g_=>?_
 obtain ⟨od,J,hl⟩:=I.look
 refine g_ ?_
 clear g_
 exact PySem.W.method_fn X J (PySem.W.plainGet_of hg).1 (PySem.W.plainGet_of hg).2 hf (beq_iff_eq.mp ht) (by show (PySem.W.lookIn name od).map (·.isSome)=some false; rw [hl,hv]; rfl) h
theorem set_map {ns:List Str} {Q:Unit→Shared→Prop} (X:K.In s.heap) (I:ObjM s.heap x dx C mA)
  (hs:PySem.W.findIn K (.ref C) "__setattr__"=some (some (.builtin "object.__setattr__"))) (hp:PySem.W.plainOver K C=true) (ht:PySem.W.takerIn K C name=some none) (hh:PySem.W.hasDictIn K C=true)
  (hw:PySem.Within mA ns) (hsz:ns.length≤sizeLine)
  (h:∀ h',ObjM h' x dx C (fun y=>if y=name then some v else mA y)→Heap.SameBut dx s.heap h'→Q () { s with heap:=h',toks:=s.toks + 2 }) :
  wpAny (model prog w) A (setAttr (.ref x) name v) Q E s:=by
 refine bC fun g_=>?_
 obtain ⟨od,J,hl⟩:=I.look
 refine g_ ?_
 clear g_
 refine PySem.W.set_plain X J hs (PySem.W.osa_open (s:={ s with toks:=s.toks + 1 }) (r:=none) X J hp ht fun b=>?_)
 refine bC fun g_=>?_
 obtain ⟨cd,hc,hd'⟩:=PySem.W.any_some hh
 refine g_ ?_
 clear g_
 have hx:s.heap.get? x=some ⟨.ref C,some dx,.plain,#[]⟩:=I.obj
 refine wpAny_bind (wpAny_pure (wpAny_bind (wpAny_bind (wpAny_loadPart hx (wpAny_bind (PySem.W.Looks.here (s:={ s with toks:=s.toks + 1 }) (PySem.W.looks_clsIn X hc) ?_))))))
 rw [hd']
 refine wpAny_pure (a:=some dx) (wpAny_bind (wpAny_pure (wpAny_bind ?_)))
 refine wpAny_nsSet1 (s:={ s with toks:=s.toks + 1 }) I.ns fun h' hn2 hs2=>?_
 refine bC fun g_=>?_
 obtain ⟨oD,esD,epD,hoD,hdD,hcD⟩:=hn2.count (PySem.Within.cons name v hw)
 refine g_ ?_
 clear g_
 refine wpAny_bind (wpAny_lookBehind hoD (by rw [hdD]; exact pastItsLine_dict (Nat.le_trans hcD (by rw [List.length_cons]; lia))) ?_)
 exact wpAny_pure (h _ ⟨(hs2.2 _ (Ne.symm I.ne)).trans I.obj,hn2,I.ne⟩ hs2)
theorem make_map {R:Result→Shared→Prop} {vs:List Value} {kw:List (Str×Value)} (X:K.In s.heap) (hm:PySem.W.makesIn K C=true)
  (hi:PySem.W.findIn K (.ref C) "__init__"=some (some (.ref f))) (hf:PySem.W.typeIn K (.ref f)=some (.type "function"))
  (h:codeAny (model prog w) (A.under (.builtin "type.__call__" ⟨.ref C :: vs,kw⟩)) (.call (.ref f) ⟨.ref (s.heap.objs.size + 1) :: vs,kw⟩) (PySem.W.InitBack (s.heap.objs.size + 1) R)
   { s with heap:=(s.heap.push PySem.W.emptyDict).push (PySem.W.instObj C s.heap.objs.size) }) :
  codeAny (model prog w) A (.call (.ref C) ⟨vs,kw⟩) R s:=by
 refine bC fun g_=>?_
 obtain ⟨hh,g,d,t,os⟩:=s
 refine g_ ?_
 clear g_
 exact PySem.W.make_core (PySem.W.makes_of X hm) (PySem.W.looks_findIn X hi) (fun self=>PySem.W.bind_fn X self hf) (.inl rfl) h
end
noncomputable def putF (f:Str) (v:V):List (Str×V)→List (Str×V)
 | []=>[(f,v)]
 | (g,x) :: r=>if g=f then (g,v) :: r else (g,x) :: putF f v r
theorem lookup_putF (f g:Str) (v:V):∀ fs:List (Str×V),(putF f v fs).lookup g=if g=f then some v else fs.lookup g
 | []=>by
  show List.lookup g [(f,v)]=_
  by_cases h:g=f
  ·have hb:(g == f)=true:=beq_iff_eq.mpr h
   simp only [List.lookup,hb,if_pos h]
  ·have hb:(g == f)=false:=beq_eq_false_iff_ne.mpr h
   simp only [List.lookup,hb,if_neg h]
 | (k,x) :: r=>by
  have ih:=lookup_putF f g v r
  rw [show putF f v ((k,x) :: r)=(if k=f then (k,v) :: r else (k,x) :: putF f v r) from rfl]
  by_cases hk:k=f
  ·rw [if_pos hk]
   by_cases h:g=k
   ·have hb:(g == k)=true:=beq_iff_eq.mpr h
    simp only [List.lookup,hb,if_pos (h.trans hk)]
   ·have hb:(g == k)=false:=beq_eq_false_iff_ne.mpr h
    simp only [List.lookup,hb,if_neg (fun e:g=f=>h (e.trans hk.symm))]
  ·rw [if_neg hk]
   by_cases h:g=k
   ·have hb:(g == k)=true:=beq_iff_eq.mpr h
    simp only [List.lookup,hb,if_neg (fun e:g=f=>hk (h.symm.trans e))]
   ·have hb:(g == k)=false:=beq_eq_false_iff_ne.mpr h
    simp only [List.lookup,hb]
    exact ih
theorem keys_putF (f:Str) (v:V):∀ fs:List (Str×V),f∈(putF f v fs).map (·.1)∧∀ g,g∈fs.map (·.1)→g∈(putF f v fs).map (·.1)
 | []=>⟨by simp [putF],fun g h=>by simp at h⟩
 | (k,x) :: r=>by
  obtain ⟨i1,i2⟩:=keys_putF f v r
  rw [show putF f v ((k,x) :: r)=(if k=f then (k,v) :: r else (k,x) :: putF f v r) from rfl]
  by_cases hk:k=f
  ·rw [if_pos hk]
   subst hk
   exact ⟨by simp,fun g h=>by simpa using h⟩
  ·rw [if_neg hk]
   refine ⟨?_,fun g h=>?_⟩
   ·rw [List.map_cons]
    exact List.mem_cons_of_mem _ i1
   ·rw [List.map_cons] at h ⊢
    rcases List.mem_cons.mp h with e | e
    ·exact List.mem_cons.mpr (.inl e)
    ·exact List.mem_cons_of_mem _ (i2 g e)
theorem length_putF (f:Str) (v:V):∀ fs:List (Str×V),(putF f v fs).length≤fs.length + 1
 | []=>by simp [putF]
 | (k,x) :: r=>by
  have ih:=length_putF f v r
  rw [show putF f v ((k,x) :: r)=(if k=f then (k,v) :: r else (k,x) :: putF f v r) from rfl]
  by_cases hk:k=f
  ·rw [if_pos hk,List.length_cons,List.length_cons]; lia
  ·rw [if_neg hk,List.length_cons,List.length_cons]; lia
theorem RelO.some_of {v:V} {o:Option Value} (r:RelO (some v) o):∃ u,o=some u∧RelV v u:=by
 cases o with
 | none=>exact (show False from r).elim
 | some u=>exact ⟨u,rfl,r⟩
theorem RelO.none_of {o:Option Value} (r:RelO none o):o=none:=by
 cases o with
 | none=>rfl
 | some u=>exact (show False from r).elim
theorem handed_of {v:V} {u:Value} (r:RelV v u):PySem.W.handedIn u=true:=by
 cases v with
 | non=>cases (show u=Value.none from r); rfl
 | bl b=>cases (show u=Value.bool b from r); rfl
 | int i=>obtain ⟨t,e⟩:=(show ∃ t,u=Value.int i t from r); cases e; rfl
 | str x=>obtain ⟨t,e⟩:=(show ∃ t,u=Value.str x t from r); cases e; rfl
 | byt b=>obtain ⟨t,e⟩:=(show ∃ t,u=Value.bytes b t from r); cases e; rfl
 | flt b=>obtain ⟨t,e⟩:=(show ∃ t,u=Value.float b t from r); cases e; rfl
 | ref a=>cases (show u=Value.ref a from r); rfl
 | ty n=>cases (show u=Value.type n from r); rfl
section
variable {P:Program} {w:World} {H H':Hp} {h h':Heap} {a C dx:Addr} {fs fs':List (Str×V)}
theorem ins_get (hok:HOk P w H h) (e:H a=some (.ins C dx fs)):∃ mA,ObjM h a dx C mA∧(∀ f,RelO (fs.lookup f) (mA f))∧PySem.Within mA (fs.map (·.1))∧fs.length≤1000∧H dx=some (.own a):=by
 refine bC fun g_=>?_
 obtain ⟨d,z,ne,ob,mA,n,r,q⟩:=(show ObjOk P w H h a (.ins C dx fs) from hok a _ e)
 refine g_ ?_
 clear g_
 exact ⟨mA,⟨ob,n,ne⟩,r,q,z,d⟩
end
structure Cls (K:PySem.W.Frag) (C:Addr):Prop where
 pg:PySem.W.plainGet K C Str.empty=true
 hd:PySem.W.hasDictIn K C=true
 po:PySem.W.plainOver K C=true
 sa:PySem.W.findIn K (.ref C) "__setattr__"=some (some (.builtin "object.__setattr__"))
theorem Cls.get {K:PySem.W.Frag} {C:Addr} (c:Cls K C) (f:Str):PySem.W.plainGet K C f=true:=c.pg
noncomputable def NoAttr (K:PySem.W.Frag) (C:Addr) (f:Str):Prop:=PySem.W.findIn K (.ref C) f=some none
theorem NoAttr.taker {K:PySem.W.Frag} {C:Addr} {f:Str} (n:NoAttr K C f):PySem.W.takerIn K C f=some none:=by
 unfold PySem.W.takerIn
 rw [show PySem.W.findIn K (.ref C) f=some none from n]
 rfl
structure Meth (K:PySem.W.Frag) (C:Addr) (m:Str) (f:Addr):Prop where
 at_:PySem.W.findIn K (.ref C) m=some (some (.ref f))
 fn:PySem.W.isFn K (.ref f)=true
 kp:PySem.W.keepIn K (.ref f)=true
section
variable {X:Cx} {pins:List (Addr×Obj)} {σ:St} {H:Hp} {s:Shared} {a C dx:Addr} {fs:List (Str×V)} {f:Str} {v:V} {A:Around} {E:Value→Shared→Prop}
theorem getattr_ok {b:Bool} {Q:Value→Shared→Prop} (I:Inv X pins σ H s) (e:H a=some (.ins C dx fs)) (c:Cls X.K C) (n:NoAttr X.K C f) (l:fs.lookup f=some v)
  (h:∀ u s',Inv X pins σ H s'→RelV v u→Q u s'):wpAny (model X.prog X.w) A (getAttr (.ref a) f b) Q E s:=by
 refine bC fun g_=>?_
 obtain ⟨mA,O,r,_,_,_⟩:=ins_get I.hok e
 refine g_ ?_
 clear g_
 obtain ⟨u,hu,ru⟩:=RelO.some_of (v:=v) (o:=mA f) (by rw [← l]; exact r f)
 exact get_map I.kIn O (c.get f) c.hd n hu (handed_of ru) (h u _ (I.tok _) ru)
theorem getmeth_ok {m:Str} {g:Addr} {pl:Sem Bool} {Q:Value×List Value→Shared→Prop} (I:Inv X pins σ H s) (e:H a=some (.ins C dx fs)) (c:Cls X.K C) (k:Meth X.K C m g) (l:fs.lookup m=none)
  (h:Q (.ref g,[.ref a]) s):wpAny (model X.prog X.w) A (getMethod (.ref a) m pl) Q E s:=by
 refine bC fun g_=>?_
 obtain ⟨mA,O,r,_,_,_⟩:=ins_get I.hok e
 refine g_ ?_
 clear g_
 have hn:mA m=none:=RelO.none_of (by rw [← l]; exact r m)
 exact get_meth I.kIn O (c.get m) k.at_ k.fn hn h
theorem setattr_ok {y:V} {u:Value} {Q:Unit→Shared→Prop} (I:Inv X pins σ H s) (e:H a=some (.ins C dx fs)) (c:Cls X.K C) (n:NoAttr X.K C f) (hl:fs.length < 1000) (ry:RelV y u)
  (h:∀ s',Inv X pins σ (upd H a (.ins C dx (putF f y fs))) s'→Q () s'):wpAny (model X.prog X.w) A (setAttr (.ref a) f u) Q E s:=by
 refine bC fun g_=>?_
 obtain ⟨mA,O,r,wi,_,ho⟩:=ins_get I.hok e
 refine g_ ?_
 clear g_
 have hz:(fs.map (·.1)).length≤sizeLine:=by rw [List.length_map,sizeLine_eq]; lia
 refine set_map I.kIn O c.sa c.po n.taker c.hd wi hz fun h' O' sb=>h _ ?_
 have hd:∃ o,h'.get? dx=some o:=let ⟨o,_,_,e',_⟩:=O'.ns; ⟨o,e'⟩
 refine I.write (x:=a) (e:=dx) (by rw [e]; exact True.intro) (.inr ho) (fun b q hb z=>(sb.2 b hb).trans z) hd ?_
 refine ⟨by rw [upd_ne O.ne]; exact ho,?_,O.ne,O'.obj,_,O'.ns,fun g=>?_,fun g hg=>?_⟩
 ·have:=length_putF f y fs; lia
 ·show RelO ((putF f y fs).lookup g) (if g=f then some u else mA g)
  rw [lookup_putF]
  by_cases q:g=f
  ·rw [if_pos q,if_pos q]; exact ry
  ·rw [if_neg q,if_neg q]; exact r g
 ·by_cases q:g=f
  ·rw [q]; exact (keys_putF f y fs).1
  ·refine (keys_putF f y fs).2 g (wi g fun z=>hg ?_)
   show (if g=f then some u else mA g)=none
   rw [if_neg q]; exact z
theorem Inv.made (I:Inv X pins σ H s):Inv X pins σ (upd (upd H s.heap.objs.size (.own (s.heap.objs.size + 1))) (s.heap.objs.size + 1) (.ins C s.heap.objs.size []))
  { s with heap:=(s.heap.push PySem.W.emptyDict).push (PySem.W.instObj C s.heap.objs.size) }:=by
 have e1:(s.heap.push PySem.W.emptyDict).get? s.heap.objs.size=some PySem.W.emptyDict:=Heap.get?_push_size s.heap rfl
 have e2:((s.heap.push PySem.W.emptyDict).push (PySem.W.instObj C s.heap.objs.size)).get? (s.heap.objs.size + 1)=some (PySem.W.instObj C s.heap.objs.size):=by
  have:=Heap.get?_push_size (s.heap.push PySem.W.emptyDict) (o:=PySem.W.instObj C s.heap.objs.size) rfl
  rwa [Heap.size_push] at this
 have e3:(s.heap.push PySem.W.emptyDict).Ns s.heap.objs.size (fun Z=>none):=⟨PySem.W.emptyDict,#[],_,e1,rfl,(fun e he=>absurd he (by simp)),fun Z=>rfl⟩
 have I1:=I.laid (a:=s.heap.objs.size) (o:=.own (s.heap.objs.size + 1)) (h':=s.heap.push PySem.W.emptyDict) (t':=s.toks) (fun b u q=>Heap.get?_push_of_some _ q) (Nat.le_refl _) ⟨_,e1⟩
 refine I1.laid (a:=s.heap.objs.size + 1) (o:=.ins C s.heap.objs.size []) (t':=s.toks) (fun b u q=>Heap.get?_push_of_some _ q) (Nat.le_of_eq (Heap.size_push _ _)) ?_
 have ne:s.heap.objs.size≠s.heap.objs.size + 1:=Nat.ne_of_lt (Nat.lt_succ_self _)
 refine ⟨by rw [upd_ne ne,upd_same],Nat.zero_le _,ne,e2,fun Z=>none,(Heap.Ns1.of_empty e3).at fun o q=>Heap.get?_push_of_some _ q,fun Z=>True.intro,fun y hy=>absurd rfl hy⟩
theorem attr_of {prog:Program} {w:World} {env:Env} {e:Expr} {f:Str} {pos:Pos} {s:Shared} {Q:Value→Shared→Prop} (hb:attributeBase e f env (eval e env)=eval e env)
  (h:wpAny (model prog w) A (eval e env) (fun o s₁=>wpAny (model prog w) A (getAttr o f true) Q E s₁) E s):wpAny (model prog w) A (eval (.Attribute e f pos) env) Q E s :=
 Attribute_any_ h (by rw [arm_eval_Attribute,hb])
end
inductive PtFld (K:PySem.W.Frag) (f:Str) (x:V) (H:Hp) (Q:VK):Prop
 | mk (a C dx:Addr) (fs:List (Str×V)) (v:V) (h0:x=.ref a) (h1:H a=some (.ins C dx fs)) (h2:Cls K C) (h3:NoAttr K C f) (h4:fs.lookup f=some v) (h5:Q v H):PtFld K f x H Q
noncomputable def tFld (K:PySem.W.Frag) (ta:TE) (f:Str):TE:=fun σ H Q=>ta σ H fun x H1=>PtFld K f x H1 Q
noncomputable def sFld (K:PySem.W.Frag) (ta tv:TE) (f:Str):TS:=fun D σ H=>tv σ H fun y H1=>ta σ H1 fun x H2=>∃ a C dx fs,x=.ref a∧H2 a=some (.ins C dx fs)∧Cls K C∧NoAttr K C f∧fs.length < 1000 ∧
 D.nx σ (upd H2 a (.ins C dx (putF f y fs)))
section
variable {X:Cx} {o e value:Expr} {f:Str} {pos pos' tpos:Pos} {ta tv:TE}
theorem pe_fld (he:PE X e ta) (hb:attributeBase e f X.env (eval e X.env)=eval e X.env):PE X (.Attribute e f pos) (tFld X.K ta f):=by
 intro pins s σ H Q I h
 refine attr_of hb (thn (he pins s σ H _ I h) fun u s1 hm_=>?_)
 refine bC fun g_=>?_
 obtain ⟨x,H1,I1,rx,a,C,dx,fs,v,ex,ea,c,n,l,q⟩:=hm_
 refine g_ ?_
 clear g_
 subst ex
 obtain rfl:u=Value.ref a:=rx
 exact getattr_ok I1 ea c n l fun u' s2 I2 ru=>⟨v,H1,I2,ru,q⟩
theorem ps_fld (ha:PE X o ta) (hv:PE X value tv) (hs:swapsWith value (some (.Attribute o f pos')) pos.line X.env=pure false):PS X (.Assign [.Attribute o f pos'] value pos) (sFld X.K ta tv f):=by
 intro pins s σ H D I h
 refine plainObj_wpAny_Assign_Attribute (thn (hv pins s σ H _ I h) fun u s1 ⟨y,H1,I1,ry,q⟩=>thn (ha pins s1 σ H1 _ I1 q) fun ov s2 hm_=>?_) hs
 refine bC fun g_=>?_
 obtain ⟨x,H2,I2,rx,a,C,dx,fs,ex,ea,c,n,l,q2⟩:=hm_
 refine g_ ?_
 clear g_
 subst ex
 obtain rfl:ov=Value.ref a:=rx
 exact setattr_ok I2 ea c n l ry fun s3 I3=>⟨σ,_,I3,q2⟩
theorem methcall_of {pl:Sem Bool} {m:Str} {apos:Pos} {args:List Expr} {pins:List (Addr×Obj)} {s:Shared} {σ:St} {H:Hp} {Q:Value→Shared→Prop} {te:TE} (he:PE X e te) (I:Inv X pins σ H s)
  (h:te σ H fun x H1=>∃ a C dx fs g,x=.ref a∧H1 a=some (.ins C dx fs)∧Cls X.K C∧Meth X.K C m g∧fs.lookup m=none ∧
   ∀ s1,Inv X pins σ H1 s1→wpAny (model X.prog X.w) X.A (callWith pos (.ref g) [.ref a] (backTo pos (starEach args X.env)) (backToKw pos (keywordEach [] X.env))) Q X.xe s1)
  (ht:eval (.Call (.Attribute e m apos) args [] pos) X.env=(do
   let ov ← eval e X.env
   standAt apos.atName
   let (f,first) ← holding [ov] (getMethod ov m pl)
   callWith pos f first (backTo pos (starEach args X.env)) (backToKw pos (keywordEach [] X.env)))) :
  wpAny (model X.prog X.w) X.A (eval (.Call (.Attribute e m apos) args [] pos) X.env) Q X.xe s:=by
 refine PySem.W.methodCall_KW (pl:=pl) (thn (he pins s σ H _ I h) fun u s1 hm_=>?_) ht
 refine bC fun g_=>?_
 obtain ⟨x,H1,I1,rx,a,C,dx,fs,g,ex,ea,c,k,l,q⟩:=hm_
 refine g_ ?_
 clear g_
 subst ex
 obtain rfl:u=Value.ref a:=rx
 exact getmeth_ok I1 ea c k l (q s1 I1)
end
section
variable {X:Cx} {pins:List (Addr×Obj)} {σ:St} {H:Hp} {s:Shared} {A:Around} {E:Value→Shared→Prop} {Q:Value→Shared→Prop} {c:Value} {b:Bool}
inductive TyOf (K:PySem.W.Frag) (H:Hp):V→Value→Prop where
 | non:TyOf K H .non (.type "NoneType")
 | bl (x:Bool):TyOf K H (.bl x) (.type "bool")
 | int (i:Int):TyOf K H (.int i) (.type "int")
 | str (x:Str):TyOf K H (.str x) (.type "str")
 | flt (x:UInt64):TyOf K H (.flt x) (.type "float")
 | lst {a:Addr} {xs:List V} (e:H a=some (.lst xs)):TyOf K H (.ref a) (.type "list")
 | frz {a:Addr} {o:Obj} {xs:List V} (e:H a=some (.frz o (.lst xs))):TyOf K H (.ref a) (.type "list")
 | tup {a:Addr} {xs:List V} (e:H a=some (.tup xs)):TyOf K H (.ref a) (.type "tuple")
 | dK {a:Addr} {kvs:List (Key×V)} (e:H a=some (.dK kvs)):TyOf K H (.ref a) (.type "dict")
 | dT {a:Addr} {kvs:List (List Key×V)} (e:H a=some (.dT kvs)):TyOf K H (.ref a) (.type "dict")
 | ins {a C dx:Addr} {fs:List (Str×V)} (e:H a=some (.ins C dx fs)) (cl:Cls K C) (ha:PySem.W.findIn K (.ref C) "__class__"=some (some (.builtin "object.__class__")))
   (hn:PySem.W.specialIn K (.builtin "object.__class__") "__get__"=some (some (.builtin "getset_descriptor.__get__"))) (htk:PySem.W.takesIn K (.builtin "object.__class__")=some true)
   (hm:PySem.W.mroIn K C (.type "object")=some true):TyOf K H (.ref a) (.ref C)
theorem isinst_ok {x:V} {u t:Value} (I:Inv X pins σ H s) (rx:RelV x u) (ty:TyOf X.K H x t) (e:PySem.W.kitOne X.K t c=some b) (h:∀ tk,Q (.bool b) { s with toks:=tk }) :
  wpAny (model X.prog X.w) A (call (.builtin "isinstance") [u,c]) Q E s:=by
 cases ty with
 | non=>cases (show u=Value.none from rx); exact PySem.W.kia_one PySem.W.kitx_none I.kIn True.intro e (fun z=>nomatch z) h
 | bl y=>cases (show u=Value.bool y from rx); exact PySem.W.kia_one PySem.W.kitx_bool I.kIn True.intro e (fun z=>nomatch z) h
 | int i=>obtain ⟨t,q⟩:=(show ∃ t,u=Value.int i t from rx); cases q; exact PySem.W.kia_one PySem.W.kitx_int I.kIn True.intro e (fun z=>nomatch z) h
 | str y=>obtain ⟨t,q⟩:=(show ∃ t,u=Value.str y t from rx); cases q; exact PySem.W.kia_one PySem.W.kitx_str I.kIn True.intro e (fun z=>nomatch z) h
 | flt y=>obtain ⟨t,q⟩:=(show ∃ t,u=Value.float y t from rx); cases q; exact PySem.W.kia_one PySem.W.kitx_float I.kIn True.intro e (fun z=>nomatch z) h
 | @lst a xs ea =>
  cases (show u=Value.ref a from rx)
  refine bC fun g_=>?_
  obtain ⟨_,_,n,_,h1⟩:=(show ObjOk X.prog X.w H s.heap a (.lst xs) from I.hok a _ ea)
  refine g_ ?_
  clear g_
  exact PySem.W.kia_one PySem.W.kitx_list I.kIn ⟨_,h1,rfl⟩ e (fun z=>nomatch z) h
 | @frz a ob xs ea =>
  cases (show u=Value.ref a from rx)
  refine bC fun g_=>?_
  obtain ⟨_,_,_,n,_,h1⟩:=(show ObjOk X.prog X.w H s.heap a (.frz ob (.lst xs)) from I.hok a _ ea)
  refine g_ ?_
  clear g_
  exact PySem.W.kia_one PySem.W.kitx_list I.kIn ⟨_,h1,rfl⟩ e (fun z=>nomatch z) h
 | @tup a xs ea =>
  cases (show u=Value.ref a from rx)
  refine bC fun g_=>?_
  obtain ⟨_,_,_,p⟩:=(show ObjOk X.prog X.w H s.heap a (.tup xs) from I.hok a _ ea)
  obtain ⟨o,h1,h2,_⟩:=p
  refine g_ ?_
  clear g_
  exact PySem.W.kia_one PySem.W.kitx_tuple I.kIn ⟨o,h1,h2⟩ e (fun z=>nomatch z) h
 | @dK a kvs ea =>
  cases (show u=Value.ref a from rx)
  refine bC fun g_=>?_
  obtain ⟨_,_,vs,_,p⟩:=(show ObjOk X.prog X.w H s.heap a (.dK kvs) from I.hok a _ ea)
  obtain ⟨o,es,ep,h1,h2,_⟩:=p
  refine g_ ?_
  clear g_
  exact PySem.W.kia_one PySem.W.kitx_dict I.kIn ⟨o,h1,h2.1⟩ e (fun z=>nomatch z) h
 | @dT a kvs ea =>
  cases (show u=Value.ref a from rx)
  refine bC fun g_=>?_
  obtain ⟨_,_,xs,_,o,es,ep,h1,h2,_⟩:=(show ObjOk X.prog X.w H s.heap a (.dT kvs) from I.hok a _ ea)
  refine g_ ?_
  clear g_
  exact PySem.W.kia_one PySem.W.kitx_dict I.kIn ⟨o,h1,h2.1⟩ e (fun z=>nomatch z) h
 | @ins a C dx fs ea cl ha hn htk hm =>
  cases (show u=Value.ref a from rx)
  refine bC fun g_=>?_
  obtain ⟨mA,O,_⟩:=ins_get I.hok ea
  obtain ⟨od,J,_⟩:=O.look
  refine g_ ?_
  clear g_
  exact PySem.W.kia_one (PySem.W.kitx_own (cl.get _) cl.hd ha hn htk hm) I.kIn J e (fun z=>nomatch z) h
end
structure Room (k:Nat) (A:Around):Prop where
 hd:A.handled=none
 dp:A.depth + 3 * k + 5 < recursionLimit
 un:A.units + 16 * k + 200 < cLine
theorem Room.mono {j k:Nat} {A:Around} (r:Room k A) (h:j≤k):Room j A:=⟨r.hd,by have:=r.dp; lia,by have:=r.un; lia⟩
theorem Room.deeper {k:Nat} {A:Around} (r:Room (k + 1) A) (env:Env):Room k (A.deeper env) :=
 ⟨r.hd,by have:=r.dp; show A.depth + 1 + 3 * k + 5 < _; lia,by have:=r.un; show A.units + 3 + 16 * k + 200 < _; lia⟩
theorem make_depth {A:Around} {C:Addr} {us:List Value} {kw:List (Str×Value)}:(A.under (.builtin "type.__call__" ⟨.ref C :: us,kw⟩)).depth=A.depth + 1:=by
 first | rfl | simp [Around.under,Code.weight,Code.isCreation,Code.isGuard,Code.isCaller,Code.frames,Code.isFrame,guardIds]
theorem make_units {A:Around} {C:Addr} {us:List Value} {kw:List (Str×Value)}:(A.under (.builtin "type.__call__" ⟨.ref C :: us,kw⟩)).units=A.units + 1:=by
 first | rfl | simp [Around.under,Code.cUnits,Code.frames,Code.isFrame]
theorem Room.make {k:Nat} {A:Around} (r:Room (k + 1) A) (C:Addr) (us:List Value) (kw:List (Str×Value)):Room k (A.under (.builtin "type.__call__" ⟨.ref C :: us,kw⟩)) :=
 ⟨r.hd,by have:=r.dp; rw [make_depth]; lia,by have:=r.un; rw [make_units]; lia⟩
theorem Room.depth {k:Nat} {A:Around} (r:Room k A):A.depth < recursionLimit:=by have:=r.dp; lia
theorem Room.units {k:Nat} {A:Around} (r:Room k A):A.units + 64 < cLine:=by have:=r.un; lia
noncomputable def tNil:TA:=fun Z H Q=>Q [] H
noncomputable def tCons (ta:TE) (tr:TA):TA:=fun σ H Q=>ta σ H fun x H1=>tr σ H1 fun xs H2=>Q (x :: xs) H2
section
variable {X:Cx} {e:Expr} {es:List Expr} {te:TE} {t:TA} {pos:Pos}
theorem pa_nil:PA X [] tNil:=fun Z Z Z Z H Q I h=>Calls.spliced_nil ⟨[],H,I,.nil,h⟩
theorem pa_cons (ha:PE X e te) (hr:PA X es t) (hs:starEach (e :: es) X.env=(false,eval e X.env) :: starEach es X.env:=by rfl):PA X (e :: es) (tCons te t):=by
 intro pos pins s σ H Q I h
 rw [hs]
 show wpAny _ _ (spliced ((false,eval e X.env) :: backTo pos (starEach es X.env))) _ _ s
 refine Calls.spliced_cons (thn (ha pins s σ H _ I h) fun u s1 hm_=>?_)
 refine bC fun g_=>?_
 obtain ⟨x,H1,I1,r1,q1⟩:=hm_
 refine g_ ?_
 clear g_
 exact thn (hr pos pins s1 σ H1 _ I1 q1) fun us s2 ⟨xs,H2,I2,r2,q2⟩=>⟨x :: xs,H2,I2,.cons r1 r2,q2⟩
noncomputable def tTup (t:TA):TE:=fun σ H Q=>t σ H fun xs H1=>xs.length≤sizeLine∧∀ p,H1 p=none→Q (.ref p) (upd H1 p (.tup xs))
noncomputable def tLst (t:TA):TE:=fun σ H Q=>t σ H fun xs H1=>xs.length≤sizeLine∧∀ p,H1 p=none→Q (.ref p) (upd H1 p (.lst xs))
theorem pe_tup {x1} (h:PA X es t):PE X (.Tuple es x1 pos) (tTup t):=by
 intro pins s σ H Q I hq
 refine wpAny_Tuple_spliced (thn (h pos pins s σ H _ I hq) fun us s1 ⟨xs,H1,I1,r,z,q⟩=>⟨by rw [← r.length]; exact z,?_⟩)
 have hf:H1 s1.heap.objs.size=none:=I1.hok.fresh (Nat.le_refl _)
 refine ⟨.ref s1.heap.objs.size,upd H1 s1.heap.objs.size (.tup xs),I1.laid (t':=s1.toks) (fun b u e=>Heap.get?_push_of_some _ e) (Nat.le_refl _) ?_,rfl,q _ hf⟩
 exact ⟨z,us,r,⟨_,Heap.get?_push_size _ rfl,rfl,_,rfl⟩⟩
theorem pe_lst (h:PA X es t):PE X (.List es pos) (tLst t):=by
 intro pins s σ H Q I hq
 refine wpAny_List_spliced (thn (h pos pins s σ H _ I hq) fun us s1 ⟨xs,H1,I1,r,z,q⟩=>⟨by rw [← r.length]; exact z,?_⟩)
 have hf:H1 s1.heap.objs.size=none:=I1.hok.fresh (Nat.le_refl _)
 refine ⟨.ref s1.heap.objs.size,upd H1 s1.heap.objs.size (.lst xs),I1.laid (t':=s1.toks) (fun b u e=>Heap.get?_push_of_some _ e) (Nat.le_refl _) ?_,rfl,q _ hf⟩
 exact ⟨z,us,0,r,Heap.get?_push_size _ rfl⟩
end
noncomputable abbrev Sp:=List V→Hp→VK→XK→Prop
noncomputable abbrev CXT:=List Env→Hp→Shared→XK→Value→Shared→Prop
structure Env0 (P:Program) (w:World) (K:PySem.W.Frag) (mg:Str→Option Value) (base:Heap) (A:Around) (outer:List Env) (s:Shared) (H:Hp):Prop where
 frames:A.frames=some outer
 mod:Mod K mg base
 bs:∀ b o,base.get? b=some o→s.heap.get? b=some o∧H b=none
 bsz:base.objs.size≤s.heap.objs.size
 funs:s.heap.FunFrames base outer
 frf:∀ b∈frs outer,H b=none
 hok:HOk P w H s.heap
 bare:AllBare s.gens
inductive CEi (outer:List Env) (P:Program) (w:World) (H:Hp) (s:Shared) (Q:VK) (u:Value) (s':Shared):Prop
 | mk (v:V) (H':Hp) (h0:s'.os=s.os) (h1:AllBare s'.gens) (h2:Un (frs outer) [] H H' s.heap s'.heap) (h3:HOk P w H' s'.heap) (h4:RelV v u) (h5:Q v H'):CEi outer P w H s Q u s'
noncomputable def CE (outer:List Env) (P:Program) (w:World) (H:Hp) (s:Shared) (Q:VK) (u:Value) (s':Shared):Prop :=
 CEi outer P w H s Q u s'
noncomputable def CR (CX:CXT) (outer:List Env) (P:Program) (w:World) (H:Hp) (s:Shared) (Q:VK) (E:XK) (r:Result) (s':Shared):Prop :=
 match r with
 | .ok (.ret u)=>CE outer P w H s Q u s'
 | .ok _=>False
 | .error e=>CX outer H s E e s'
structure FnOk (P:Program) (w:World) (K:PySem.W.Frag) (mg:Str→Option Value) (base:Heap) (CX:CXT) (k:Nat) (f:Addr) (fd:FuncData) (ps:List Str) (sp:Sp):Prop where
 len:∀ vs H Q E,sp vs H Q E→vs.length=ps.length
 run:∀ (A:Around) (outer:List Env) (s:Shared) (H:Hp) (args:Args) (us:List Value) (vs:List V) (Q:VK) (E:XK),Room k A→Env0 P w K mg base A outer s H→BindsTo s fd args (ps.zip us)→Vals vs us→sp vs H Q E →
  codeAny (model P w) A (.call (.ref f) args) (CR CX outer P w H s Q E) s
theorem Env0.make {P:Program} {w:World} {K:PySem.W.Frag} {mg:Str→Option Value} {base:Heap} {A:Around} {outer:List Env} {s:Shared} {H:Hp} (e:Env0 P w K mg base A outer s H) (C:Addr) (us:List Value) (kw:List (Str×Value)) :
  Env0 P w K mg base (A.under (.builtin "type.__call__" ⟨.ref C :: us,kw⟩)) outer s H:=⟨by first | exact e.frames | (simpa [Around.under,Code.envs,Code.isFrame,pushEnvs] using e.frames),e.mod,e.bs,e.bsz,e.funs,e.frf,e.hok,e.bare⟩
section
variable {X:Cx} {pins:List (Addr×Obj)} {σ:St} {H:Hp} {s s':Shared}
theorem Inv.env0 (I:Inv X pins σ H s):Env0 X.prog X.w X.K X.mg X.base X.A X.stack s H :=
 ⟨I.ok.frames,I.ok.mod,I.bs,Nat.le_trans I.ok.bsz I.sz,I.stack,I.stkFree,I.hok,I.bare⟩
theorem Inv.after {Q:VK} {u:Value} (I:Inv X pins σ H s) (h:CE X.stack X.prog X.w H s Q u s'):EP X pins σ Q u s':=by
 refine bC fun g_=>?_
 obtain ⟨v,H',os,bare,un,hok,r,q⟩:=h
 obtain ⟨hh,g,d,t,os'⟩:=s'
 refine g_ ?_
 clear g_
 obtain rfl:os'=s.os:=os
 exact ⟨v,H',I.call (h':=hh) (g':=g) (d':=d) (t':=t) (ch:=[]) un hok bare (fun b z=>absurd z (by simp)),r,q⟩
end
noncomputable def tCall (sp:Sp) (dvs:List V) (E:XK) (t:TA):TE:=fun σ H Q=>t σ H fun vs H1=>sp (vs++dvs) H1 Q E
inductive PtMeth (C:Addr) (m:Str) (sp:Sp) (dvs:List V) (E:XK) (t:TA) (σ:St) (Q:VK) (x:V) (H1:Hp):Prop
 | mk (a dx:Addr) (fs:List (Str×V)) (h0:x=.ref a) (h1:H1 a=some (.ins C dx fs)) (h2:fs.lookup m=none) (h3:t σ H1 fun vs H2=>sp (x :: (vs++dvs)) H2 Q E):PtMeth C m sp dvs E t σ Q x H1
noncomputable def tMeth (C:Addr) (m:Str) (sp:Sp) (dvs:List V) (E:XK) (ta:TE) (t:TA):TE:=fun σ H Q=>ta σ H (PtMeth C m sp dvs E t σ Q)
noncomputable def tMake (C:Addr) (sp:Sp) (dvs:List V) (E:XK) (t:TA):TE:=fun σ H Q=>t σ H fun vs H1=>∀ x dx,H1 x=none→H1 dx=none→dx≠x →
 sp (.ref x :: (vs++dvs)) (upd (upd H1 dx (.own x)) x (.ins C dx [])) (fun v H2=>v=.non∧Q (.ref x) H2) E
noncomputable def Binds (K:PySem.W.Frag) (fd:FuncData) (ps:List Str) (ds:List Value):Prop :=
 ∀ (s:Shared) (us:List Value),K.In s.heap→(us++ds).length=ps.length→BindsTo s fd ⟨us,[]⟩ (ps.zip (us++ds))
theorem Binds.all {K:PySem.W.Frag} {fd:FuncData} {ps:List Str} (h:∀ us:List Value,us.length=ps.length→bindArgs fd ⟨us,[]⟩=pure (ps.zip us)):Binds K fd ps []:=fun s us Z hl=>by
 rw [List.append_nil] at hl ⊢
 exact .of_eq (h us hl)
noncomputable def Passes (CX:CXT) (X:Cx) (E:XK):Prop:=∀ (pins:List (Addr×Obj)) (σ:St) (H:Hp) (s:Shared) (e:Value) (s':Shared),Inv X pins σ H s→CX X.stack H s E e s'→X.xe e s'
section
variable {X:Cx} {CX:CXT} {k:Nat} {f C:Addr} {fd:FuncData} {ps:List Str} {sp:Sp} {dvs:List V} {ds:List Value} {E:XK} {x m:Str} {p pos apos:Pos} {e o:Expr} {es:List Expr} {ta:TE} {t:TA}
set_option tactic.hygienic true in
theorem run_fn {pins:List (Addr×Obj)} {σ:St} {H:Hp} {s:Shared} {Q:VK} {us:List Value} {vs:List V} (F:FnOk X.prog X.w X.K X.mg X.base CX k f fd ps sp) (hr:Room k X.A) (hb:Binds X.K fd ps ds) (hd:Vals dvs ds) (hx:Passes CX X E)
  (I:Inv X pins σ H s) (r:Vals vs us) (h:sp (vs++dvs) H Q E):wpAny (model X.prog X.w) X.A (call (.ref f) us) (EP X pins σ Q) X.xe s:=by
 have r2:Vals (vs++dvs) (us++ds):=r.append hd
 have hl:(us++ds).length=ps.length:=by rw [← r2.length]; exact F.len _ _ _ _ h
 refine wpAny_call (codeAny_mono (F.run X.A X.stack s H ⟨us,[]⟩ (us++ds) (vs++dvs) Q E hr I.env0 (hb s us I.kIn hl) r2 h) fun r s' hq=>?_)
 cases r with
 | error e=>exact hx pins σ H s e s' I hq
 | ok fl =>
  cases fl with
  | ret u=>exact I.after hq
  | next=>exact False.elim hq
  | brk=>exact False.elim hq
  | cont=>exact False.elim hq
theorem pe_call (F:FnOk X.prog X.w X.K X.mg X.base CX k f fd ps sp) (hr:Room k X.A) (hg:Gl X x) (hm:X.mg x=some (.ref f)) (hk:PySem.W.keepIn X.K (.ref f)=true) (hb:Binds X.K fd ps ds) (hd:Vals dvs ds) (hx:Passes CX X E)
  (ha:PA X (e :: es) t) (hdb:(x == ("__debug__":Str))=false:=by decide) (he:starEach (e :: es) X.env=(false,eval e X.env) :: starEach es X.env:=by rfl) (hpl:(backTo pos (starEach es X.env)).any (·.1)=false:=by rfl) :
  PE X (.Call (.Name x p) (e :: es) [] pos) (tCall sp dvs E t):=by
 intro pins s σ H Q I h
 refine wpAny_Call_Name_kw (ld_glob I hg hm ?_ hdb)
 refine PySem.W.callWith_K (h₀:=X.base) I.ok.mod.kin hk (thn (ha pos pins s σ H _ I h) fun us s1 ⟨vs,H1,I1,r,q⟩=>⟨I1.kIn,?_⟩) he hpl
 exact run_fn F hr hb hd hx I1 r q
theorem pe_meth {pl:Sem Bool} (he:PE X o ta) (c:Cls X.K C) (hm:Meth X.K C m f) (F:FnOk X.prog X.w X.K X.mg X.base CX k f fd ps sp) (hr:Room k X.A) (hb:Binds X.K fd ps ds) (hd:Vals dvs ds) (hx:Passes CX X E) (ha:PA X (e :: es) t)
  (hst:starEach (e :: es) X.env=(false,eval e X.env) :: starEach es X.env:=by rfl) (hpl:(backTo pos (starEach es X.env)).any (·.1)=false:=by rfl)
  (ht:eval (.Call (.Attribute o m apos) (e :: es) [] pos) X.env=(do
   let ov ← eval o X.env
   standAt apos.atName
   let (f,first) ← holding [ov] (getMethod ov m pl)
   callWith pos f first (backTo pos (starEach (e :: es) X.env)) (backToKw pos (keywordEach [] X.env))):=by rfl) :
  PE X (.Call (.Attribute o m apos) (e :: es) [] pos) (tMeth C m sp dvs E ta t):=by
 intro pins s σ H Q I h
 refine PySem.W.methodCall_KW (pl:=pl) (thn (he pins s σ H _ I h) fun u s1 hm_=>?_) ht
 refine bC fun g_=>?_
 obtain ⟨x,H1,I1,rx,a,dx,fs,ex,ea,l,q⟩:=hm_
 refine g_ ?_
 clear g_
 subst ex
 obtain rfl:u=Value.ref a:=rx
 refine getmeth_ok I1 ea c hm l ?_
 refine PySem.W.callWith_K (first:=[.ref a]) (h₀:=X.base) I.ok.mod.kin hm.kp (thn (ha pos pins s1 σ H1 _ I1 q) fun us s2 ⟨vs,H2,I2,r,q2⟩=>⟨I2.kIn,?_⟩) hst hpl
 exact run_fn (us:=.ref a :: us) (vs:=.ref a :: vs) F hr hb hd hx I2 (.cons rfl r) q2
structure Mk (K:PySem.W.Frag) (C f:Addr):Prop where
 makes:PySem.W.makesIn K C=true
 init:PySem.W.findIn K (.ref C) "__init__"=some (some (.ref f))
 fn:PySem.W.isFn K (.ref f)=true
 kp:PySem.W.keepIn K (.ref C)=true
set_option tactic.hygienic true in
theorem run_make {pins:List (Addr×Obj)} {σ:St} {H:Hp} {s:Shared} {Q:VK} {us:List Value} {vs:List V} (M:Mk X.K C f) (F:FnOk X.prog X.w X.K X.mg X.base CX k f fd ps sp) (hr:Room (k + 1) X.A) (hb:Binds X.K fd ps ds) (hd:Vals dvs ds)
  (hx:Passes CX X E) (I:Inv X pins σ H s) (r:Vals vs us)
  (h:∀ x dx,H x=none→H dx=none→dx≠x→sp (.ref x :: (vs++dvs)) (upd (upd H dx (.own x)) x (.ins C dx [])) (fun v H2=>v=.non∧Q (.ref x) H2) E) :
  wpAny (model X.prog X.w) X.A (call (.ref C) us) (EP X pins σ Q) X.xe s:=by
 have hq:=h (s.heap.objs.size + 1) s.heap.objs.size (I.hok.fresh (Nat.le_succ _)) (I.hok.fresh (Nat.le_refl _)) (Nat.ne_of_lt (Nat.lt_succ_self _))
 have I2:=Inv.made (C:=C) I
 have r2:Vals (V.ref (s.heap.objs.size + 1) :: (vs++dvs)) (Value.ref (s.heap.objs.size + 1) :: (us++ds)):=.cons rfl (r.append hd)
 have hl:(Value.ref (s.heap.objs.size + 1) :: us++ds).length=ps.length:=by
  have e:=r2.length
  rw [F.len _ _ _ _ hq] at e
  exact e.symm
 refine wpAny_call (make_map (f:=f) I.kIn M.makes M.init (beq_iff_eq.mp M.fn) (codeAny_mono (F.run _ X.stack _ _ ⟨Value.ref (s.heap.objs.size + 1) :: us,[]⟩ (Value.ref (s.heap.objs.size + 1) :: (us++ds)) _ _ E (hr.make C us [])
  (I2.env0.make C us []) (hb _ (Value.ref (s.heap.objs.size + 1) :: us) I2.kIn hl) r2 hq) fun r s' hq'=>?_))
 cases r with
 | error e=>exact hx pins σ _ _ e s' I2 hq'
 | ok fl =>
  cases fl with
  | ret u =>
   refine bC fun g_=>?_
   obtain ⟨v,H',I3,rv,ev,q3⟩:=I2.after hq'
   refine g_ ?_
   clear g_
   subst ev
   exact ⟨rv,⟨V.ref (s.heap.objs.size + 1),H',I3,rfl,q3⟩⟩
  | next=>exact False.elim hq'
  | brk=>exact False.elim hq'
  | cont=>exact False.elim hq'
theorem pe_make (M:Mk X.K C f) (F:FnOk X.prog X.w X.K X.mg X.base CX k f fd ps sp) (hr:Room (k + 1) X.A) (hg:Gl X x) (hm:X.mg x=some (.ref C)) (hb:Binds X.K fd ps ds) (hd:Vals dvs ds) (hx:Passes CX X E)
  (ha:PA X (e :: es) t) (hdb:(x == ("__debug__":Str))=false:=by decide) (he:starEach (e :: es) X.env=(false,eval e X.env) :: starEach es X.env:=by rfl) (hpl:(backTo pos (starEach es X.env)).any (·.1)=false:=by rfl) :
  PE X (.Call (.Name x p) (e :: es) [] pos) (tMake C sp dvs E t):=by
 intro pins s σ H Q I h
 refine wpAny_Call_Name_kw (ld_glob I hg hm ?_ hdb)
 refine PySem.W.callWith_K (h₀:=X.base) I.ok.mod.kin M.kp (thn (ha pos pins s σ H _ I h) fun us s1 ⟨vs,H1,I1,r,q⟩=>⟨I1.kIn,?_⟩) he hpl
 exact run_make M F hr hb hd hx I1 r q
end
noncomputable def PK (X:Cx) (kws:List Keyword) (t:TA):Prop :=
 ∀ (pos:Pos) (pins:List (Addr×Obj)) (s:Shared) (σ:St) (H:Hp) (Q:List V→Hp→Prop),Inv X pins σ H s→t σ H Q→wpAny (model X.prog X.w) X.A (evalAll ((backToKw pos (keywordEach kws X.env)).map (·.2))) (AP X pins σ Q) X.xe s
section
variable {X:Cx} {CX:CXT} {k:Nat} {f C:Addr} {fd:FuncData} {ps ks:List Str} {sp:Sp} {E:XK} {x m:Str} {p pos apos kpos:Pos} {e o:Expr} {es:List Expr} {kws:List Keyword} {te ta:TE} {t tk:TA} {nm:Option Str}
theorem pk_nil:PK X [] tNil:=fun Z Z Z Z H Q I h=>wpAny_evalAll_nil ⟨[],H,I,.nil,h⟩
theorem pk_cons (ha:PE X e te) (hr:PK X kws t):PK X (⟨nm,e,kpos⟩ :: kws) (tCons te t):=by
 intro pos pins s σ H Q I h
 show wpAny _ _ (evalAll ((do let v ← eval e X.env; standAt pos; pure v) :: (backToKw pos (keywordEach kws X.env)).map (·.2))) _ _ s
 refine wpAny_evalAll_cons (wpAny_bind (thn (ha pins s σ H _ I h) fun u s1 ⟨x,H1,I1,r1,q1⟩=>wpAny_bind (wpAny_standAt (wpAny_pure ?_))))
 exact thn (hr pos pins s1 σ H1 _ I1 q1) fun us s2 ⟨xs,H2,I2,r2,q2⟩=>⟨x :: xs,H2,I2,.cons r1 r2,q2⟩
variable {g:List Value→List Value→List Value} {gV:List V→List V→List V}
end
structure FnScope (N P:List Str) (sc:Scope):Prop where
 kind:sc.kind=.function
 co:sc.isCoroutine=false
 gen:sc.isGenerator=false
 nd:N.Nodup
 pre:N.take P.length=P
 par:∀ x∈P,sc.names.lookup x=some .local∨sc.names.lookup x=some .cell
 nofree:∀ y∈sc.names,y.2≠.free
theorem bindL_out {kindOf:Str→Option NameKind} {x:Str}:∀ {binds:List (Str×Value)} {m:Str→Option Value},(∀ v,(x,v) ∉ binds)→bindL kindOf binds m x=m x
 | [],_,_=>rfl
 | (n,v) :: r,m,h=>by
  unfold bindL
  rw [bindL_out fun w hw=>h w (List.mem_cons_of_mem _ hw)]
  split
  ·have:x≠n:=by rintro rfl; exact h v List.mem_cons_self
   simp [this]
  ·rfl
theorem bindC_out {kindOf:Str→Option NameKind} {x:Str}:∀ {binds:List (Str×Value)} {m:Str→Option Value},(∀ v,(x,v) ∉ binds)→bindC kindOf binds m x=m x
 | [],_,_=>rfl
 | (n,v) :: r,m,h=>by
  unfold bindC
  rw [bindC_out fun w hw=>h w (List.mem_cons_of_mem _ hw)]
  split
  ·rfl
  ·have:x≠n:=by rintro rfl; exact h v List.mem_cons_self
   simp [this]
theorem bindL_get {kindOf:Str→Option NameKind} {x:Str} {v:Value}:∀ {P:List Str} {vs:List Value} {i:Nat} {m:Str→Option Value},P.Nodup→P[i]?=some x→vs[i]?=some v→kindOf x=some .local →
  bindL kindOf (P.zip vs) m x=some v
 | [],_,_,_,_,h,_,_=>by simp at h
 | _ :: _,[],_,_,_,_,h,_=>by simp at h
 | p :: P,w :: vs,0,m,nd,h1,h2,hk=>by
  simp at h1 h2; subst h1; subst h2
  show bindL kindOf ((p,w) :: P.zip vs) m p=_
  unfold bindL
  rw [bindL_out fun v hv=>(List.nodup_cons.mp nd).1 (List.of_mem_zip hv).1,if_pos hk]
  simp
 | p :: P,w :: vs,i + 1,m,nd,h1,h2,hk=>by
  show bindL kindOf ((p,w) :: P.zip vs) m x=_
  unfold bindL
  exact bindL_get (i:=i) (List.nodup_cons.mp nd).2 (by simpa using h1) (by simpa using h2) hk
theorem bindC_get {kindOf:Str→Option NameKind} {x:Str} {v:Value}:∀ {P:List Str} {vs:List Value} {i:Nat} {m:Str→Option Value},P.Nodup→P[i]?=some x→vs[i]?=some v→kindOf x≠some .local →
  bindC kindOf (P.zip vs) m x=some v
 | [],_,_,_,_,h,_,_=>by simp at h
 | _ :: _,[],_,_,_,_,h,_=>by simp at h
 | p :: P,w :: vs,0,m,nd,h1,h2,hk=>by
  simp at h1 h2; subst h1; subst h2
  show bindC kindOf ((p,w) :: P.zip vs) m p=_
  unfold bindC
  rw [bindC_out fun v hv=>(List.nodup_cons.mp nd).1 (List.of_mem_zip hv).1,if_neg hk]
  simp
 | p :: P,w :: vs,i + 1,m,nd,h1,h2,hk=>by
  show bindC kindOf ((p,w) :: P.zip vs) m x=_
  unfold bindC
  exact bindC_get (i:=i) (List.nodup_cons.mp nd).2 (by simpa using h1) (by simpa using h2) hk
noncomputable def start (N:List Str) (vs:List V):St:=vs.map some++List.replicate (N.length - vs.length) none
noncomputable def cxOf (CX:CXT) (P:Program) (w:World) (K:PySem.W.Frag) (mg:Str→Option Value) (base:Heap) (N:List Str) (qual:Str) (scope:Scope) (f:Addr) (cd:Value) (A:Around) (outer:List Env) (s:Shared) (H:Hp) (E:XK):Cx where
 prog:=P
 w:=w
 K:=K
 mg:=mg
 base:=base
 A:=A.deeper (envOfC qual scope s.heap.objs.size f cd)
 N:=N
 s₀:=s
 H₀:=H
 env:=envOfC qual scope s.heap.objs.size f cd
 outer:=outer
 stack:=envOfC qual scope s.heap.objs.size f cd :: outer
 ex:=[]
 calm:=true
 fn:=fun Z=>true
 pn:=[]
 xe:=fun e s'=>wpAny (model P w) (A.deeper (envOfC qual scope s.heap.objs.size f cd)) (leaving (envOfC qual scope s.heap.objs.size f cd) e) (fun Z s''=>CX outer H s E e s'') (fun e' s''=>CX outer H s E e' s'') s'
theorem cell_has {sc:Scope} {n:Nat} {x:Str} (h:sc.names.lookup x=some .cell):∃ c,(cellsFrom n sc.names []).lookup x=some c:=by
 have q:=PySem.W.cellsFrom_some sc.names n [] (.inl h)
 exact Option.isSome_iff_exists.mp q
theorem inv_start {CX:CXT} {P:Program} {w:World} {K:PySem.W.Frag} {mg:Str→Option Value} {base:Heap} {N ps:List Str} {qual:Str} {scope:Scope} {f:Addr} {cd:Value} {A:Around} {outer:List Env} {s s1:Shared} {H:Hp} {E:XK} {us:List Value} {vs:List V}
  (S:FnScope N ps scope) (hd:A.handled=none) (e0:Env0 P w K mg base A outer s H) (hl:vs.length=ps.length) (r:Vals vs us)
  (x:InCallC s s.heap.objs.size (bindL (envOfC qual scope s.heap.objs.size f cd).kindOf (ps.zip us) fun Z=>none) (cellsFrom (s.heap.objs.size + 1) scope.names []) (bindC (envOfC qual scope s.heap.objs.size f cd).kindOf (ps.zip us) fun Z=>none) s1) :
  Inv (cxOf CX P w K mg base N qual scope f cd A outer s H E) [] (start N vs) H s1:=by
 have hpl:ps.length≤N.length:=by have:=congrArg List.length S.pre; rw [List.length_take] at this; lia
 refine bC fun g_=>?_
 obtain ⟨h1,tk,e140_,hk⟩:=x.done
 refine g_ ?_
 clear g_
 obtain rfl:=e140_
 have noA:∀ b:Addr,b ∉ (cxOf CX P w K mg base N qual scope f cd A outer s H E).ex:=fun b z=>absurd (show b∈([]:List Addr) from z) (by simp)
 refine ⟨⟨e0.mod,S.kind,rfl,rfl,Nat.le_refl _,fun y z c h1 h2=>?_,fun y hy=>?_,fun y c Z h=>?_,fun Z=>hd,Around.frames_deeper e0.frames,.inr ⟨rfl,rfl⟩,fun b z=>absurd z (noA b),e0.bs,e0.bsz,fun b Z Z=>noA b,fun b z=>absurd z (noA b),e0.funs,e0.frf⟩,
  rfl,e0.bare,Un.kept hk,⟨_,x.toInCall.ns,fun i y v h1 h2 h3=>?_⟩,fun y c h=>⟨_,x.cell y c h⟩,e0.hok.fresh (Nat.le_refl _),fun y c h=>?_,fun p hp=>absurd (show p∈([]:List (Addr×Obj)) from hp) (by simp),e0.hok.kept hk,?_⟩
 ·exact name_of_addr x.apart (PySem.mem_of_lookup h1) (PySem.mem_of_lookup h2)
 ·have hy:scope.names.lookup y=some .cell∨scope.names.lookup y=some .free:=hy
  rcases hy with hy | hy
  ·exact cell_has hy
  ·exact absurd rfl (S.nofree _ (PySem.mem_of_lookup hy))
 ·exact Nat.le_of_lt (x.above y c (PySem.mem_of_lookup h))
 ·have hi:i < vs.length:=by
   unfold start at h2
   by_cases hi:i < vs.length
   ·exact hi
   ·rw [List.getElem?_append_right (by simpa using hi)] at h2
    rw [List.getElem?_replicate] at h2
    split at h2 <;> cases h2
  have ha:vs[i]?=some v:=by
   unfold start at h2
   rw [List.getElem?_append_left (by simpa using hi),List.getElem?_map] at h2
   cases e:vs[i]? with
   | none=>rw [e] at h2; cases h2
   | some a=>rw [e] at h2; cases h2; rfl
  refine bC fun g_=>?_
  obtain ⟨u,hu,rv⟩:=r.get ha
  refine g_ ?_
  clear g_
  have hp:ps[i]?=some y:=by
   rw [← S.pre,List.getElem?_take_of_lt (by lia)]; exact h1
  have ndP:ps.Nodup:=by rw [← S.pre]; exact S.nd.sublist (List.take_sublist _ _)
  refine ⟨u,rv,?_⟩
  rcases S.par y (List.mem_of_getElem? hp) with k | k
  ·exact .inl ⟨k,bindL_get ndP hp hu k⟩
  ·obtain ⟨c,e⟩:=cell_has (n:=s.heap.objs.size + 1) k
   refine .inr ⟨.inl k,c,e,?_⟩
   have q:=x.cell y c e
   rw [bindC_get ndP hp hu (by show scope.names.lookup y≠_; rw [k]; decide)] at q
   exact q
 ·exact e0.hok.fresh (Nat.le_of_lt (x.above y c (PySem.mem_of_lookup h)))
 ·unfold start
  show _=N.length
  rw [List.length_append,List.length_map,List.length_replicate]
  lia
set_option tactic.hygienic true in
theorem fn_of {CX:CXT} {P:Program} {w:World} {K:PySem.W.Frag} {mg:Str→Option Value} {base:Heap} {k:Nat} {f:Addr} {name qual:Str} {params:Arguments} {body:List Stmt} {scope:Scope} {dV kV doc pm cdv ct oc:Value} {an od:Option Addr}
  {osl:Array (Option Value)} {N ps:List Str} {sp:Sp} (lk:K.lookup f=some ⟨oc,od,.func (PySem.W.fnOf name qual params body scope dV kV doc pm an cdv ct),osl⟩) (hcd:PySem.W.codeIn K cdv qual=true) (S:FnScope N ps scope)
  (len:∀ vs H Q E,sp vs H Q E→vs.length=ps.length)
  (hbody:∀ (A:Around) (outer:List Env) (s:Shared) (H:Hp) (vs:List V) (Q:VK) (E:XK),Room k (A.deeper (envOfC qual scope s.heap.objs.size f cdv))→sp vs H Q E →
   ∃ t,PSs (cxOf CX P w K mg base N qual scope f cdv A outer s H E) body t∧t (Ends.fn Q) (start N vs) H) :
  FnOk P w K mg base CX (k + 1) f (PySem.W.fnOf name qual params body scope dV kV doc pm an cdv ct) ps sp:=by
 refine ⟨len,fun A outer s H args us vs Q E hr e0 hb r hsp=>?_⟩
 have hl:=len _ _ _ _ hsp
 have KX:K.In s.heap:=e0.mod.kin.keeps fun b o e=>(e0.bs b o e).1
 have lim:s.heap.NoLimit:=e0.mod.nolimit.keeps fun b o e=>(e0.bs b o e).1
 have hkind:∀ y∈ps.zip us,scope.names.lookup y.1=some .local∨(scope.names.lookup y.1=some .cell∧((cellsFrom (s.heap.objs.size + 1) scope.names []).lookup y.1).isSome=true):=fun ⟨n,v⟩ hy=>by
  rcases S.par n (List.of_mem_zip hy).1 with q | q
  ·exact .inl q
  ·exact .inr ⟨q,PySem.W.cellsFrom_some _ _ _ (.inl q)⟩
 refine codeAny_call_function hr.depth (KX _ _ lk) rfl S.co S.gen rfl (PySem.W.codeRec_of KX hcd) (hb _ _ _ _ ?_)
 refine wpAny_newFunctionEnv_cells S.kind hkind fun env he s1 x=>?_
 subst he
 refine ⟨lim.keeps x.toInCall.keep,codeAny_func ?_⟩
 refine bC fun g_=>?_
 obtain ⟨t,ht,hq⟩:=hbody A outer s H vs Q E (hr.deeper _) hsp
 refine g_ ?_
 clear g_
 have I:Inv (cxOf CX P w K mg base N qual scope f cdv A outer s H E) [] (start N vs) H s1:=inv_start S hr.hd e0 hl r x
 refine wpAny_mono (ht [] s1 (start N vs) H _ I hq) (fun fl s' hs=>?_) fun e s' hs=>hs
 have fin:∀ {σ':St} {H':Hp} {v:V} {u:Value},Inv (cxOf CX P w K mg base N qual scope f cdv A outer s H E) [] σ' H' s'→RelV v u→Q v H'→CE outer P w H s Q u s' :=
  fun {σ' H' v u} J rv q=>⟨v,H',J.os,J.bare,J.base,J.hok,rv,q⟩
 cases fl with
 | ret u =>
  refine bC fun g_=>?_
  obtain ⟨v,σ',H',J,rv,q⟩:=hs
  refine g_ ?_
  clear g_
  exact fin J rv q
 | next =>
  refine bC fun g_=>?_
  obtain ⟨σ',H',J,q⟩:=hs
  refine g_ ?_
  clear g_
  exact fin (v:=V.non) (u:=Value.none) J rfl q
 | brk =>
  refine bC fun g_=>?_
  obtain ⟨_,_,_,q⟩:=hs
  refine g_ ?_
  clear g_
  exact False.elim q
 | cont =>
  refine bC fun g_=>?_
  obtain ⟨_,_,_,q⟩:=hs
  refine g_ ?_
  clear g_
  exact False.elim q
section
variable {X:Cx} {x:Str} {p pos:Pos} {e:Expr} {es:List Expr} {t:TA} {id T:String} {r:List V→Hp→VK→Prop}
noncomputable def tCB (r:List V→Hp→VK→Prop) (t:TA):TE:=fun σ H Q=>t σ H fun vs H1=>r vs H1 Q
theorem pe_callB (hc:CallR X (.builtin id) r) (hg:Gl X x) (hm:X.mg x=none) (hv:bootBuiltins x=some (.builtin id)) (ha:PA X (e :: es) t) (hn:x≠"__name__":=by decide) (hdb:(x == ("__debug__":Str))=false:=by decide)
  (he:starEach (e :: es) X.env=(false,eval e X.env) :: starEach es X.env:=by rfl) (hpl:(backTo pos (starEach es X.env)).any (·.1)=false:=by rfl):PE X (.Call (.Name x p) (e :: es) [] pos) (tCB r t):=by
 intro pins s σ H Q I h
 refine wpAny_Call_Name_kw (ld_blt I hg hm hv ?_ hn hdb)
 exact PyProof.Rows.callWith_builtin1 (thn (ha pos pins s σ H _ I h) fun us s1 ⟨vs,H1,I1,r1,q1⟩=>hc pins s1 σ H1 vs us Q I1 r1 q1) he hpl
theorem pe_callTy (hc:CallR X (.type T) r) (hg:Gl X x) (hm:X.mg x=none) (hv:bootBuiltins x=some (.type T)) (ha:PA X (e :: es) t) (hn:x≠"__name__":=by decide) (hdb:(x == ("__debug__":Str))=false:=by decide)
  (he:starEach (e :: es) X.env=(false,eval e X.env) :: starEach es X.env:=by rfl) (hpl:(backTo pos (starEach es X.env)).any (·.1)=false:=by rfl):PE X (.Call (.Name x p) (e :: es) [] pos) (tCB r t):=by
 intro pins s σ H Q I h
 refine wpAny_Call_Name_kw (ld_blt I hg hm hv ?_ hn hdb)
 exact PyProof.Rows.callWith_type1 (thn (ha pos pins s σ H _ I h) fun us s1 ⟨vs,H1,I1,r1,q1⟩=>hc pins s1 σ H1 vs us Q I1 r1 q1) he hpl
end
section
variable {κ:Type} [DecidableEq κ]
noncomputable def valV (kvs:List (κ×V)) (k:κ):Option V:=(kvs.find? fun kv=>decide (kv.1=k)).map (·.2)
noncomputable def putK (kvs:List (κ×V)) (k:κ) (v:V):List (κ×V) :=
 if (kvs.any fun kv=>decide (kv.1=k))=true then kvs.map (fun kv=>if kv.1=k then (kv.1,v) else kv) else kvs++[(k,v)]
theorem valV_pos {p:κ×V} {r:List (κ×V)} {k:κ} (e:p.1=k):valV (p :: r) k=some p.2:=by simp [valV,List.find?_cons,e]
theorem valV_neg {p:κ×V} {r:List (κ×V)} {k:κ} (e:¬ p.1=k):valV (p :: r) k=valV r k:=by simp [valV,List.find?_cons,e]
theorem valV_any (k:κ):∀ kvs:List (κ×V),(kvs.any fun kv=>decide (kv.1=k))=(valV kvs k).isSome
 | []=>rfl
 | p :: r=>by
  rw [List.any_cons]
  by_cases e:p.1=k
  ·simp only [valV_pos e,decide_eq_true e,Bool.true_or,Option.isSome_some]
  ·rw [valV_neg e,decide_eq_false e,Bool.false_or]; exact valV_any k r
theorem valV_map (k j:κ) (y:V):∀ kvs:List (κ×V),valV (kvs.map fun kv=>if kv.1=k then (kv.1,y) else kv) j=(valV kvs j).map fun x=>if j=k then y else x
 | []=>rfl
 | p :: r=>by
  have ih:=valV_map k j y r
  rw [List.map_cons]
  by_cases h:p.1=k
  ·rw [if_pos h]
   by_cases e:p.1=j
   ·rw [valV_pos (p:=(p.1,y)) e,valV_pos e,Option.map_some,if_pos (e.symm.trans h)]
   ·rw [valV_neg (p:=(p.1,y)) e,valV_neg e,ih]
  ·rw [if_neg h]
   by_cases e:p.1=j
   ·rw [valV_pos (p:=p) e,valV_pos e,Option.map_some,if_neg (fun z=>h (e.trans z))]
   ·rw [valV_neg (p:=p) e,valV_neg e,ih]
theorem valV_snoc (k j:κ) (y:V):∀ kvs:List (κ×V),valV kvs k=none→valV (kvs++[(k,y)]) j=if j=k then some y else valV kvs j
 | [],_=>by
  by_cases e:k=j
  ·rw [if_pos e.symm]; exact valV_pos (p:=(k,y)) e
  ·rw [if_neg (fun z=>e z.symm)]; exact valV_neg (p:=(k,y)) e
 | p :: r,hn=>by
  rw [List.cons_append]
  have hk:¬ p.1=k:=fun z=>by rw [valV_pos z] at hn; cases hn
  rw [valV_neg hk] at hn
  have ih:=valV_snoc k j y r hn
  by_cases e:p.1=j
  ·rw [valV_pos e,valV_pos e,if_neg (fun z=>hk (e.trans z))]
  ·rw [valV_neg e,valV_neg e,ih]
theorem valV_put (kvs:List (κ×V)) (k j:κ) (y:V):valV (putK kvs k y) j=if j=k then some y else valV kvs j:=by
 unfold putK
 by_cases a:(kvs.any fun kv=>decide (kv.1=k))=true
 ·rw [if_pos a,valV_map]
  rw [valV_any] at a
  by_cases e:j=k
  ·obtain ⟨x,hx⟩:=Option.isSome_iff_exists.mp a
   rw [if_pos e,e,hx,Option.map_some,if_pos rfl]
  ·rw [if_neg e]
   cases valV kvs j with
   | none=>rfl
   | some x=>rw [Option.map_some,if_neg e]
 ·rw [if_neg a]
  refine valV_snoc k j y kvs ?_
  rw [valV_any] at a
  cases q:valV kvs k with
  | none=>rfl
  | some x=>rw [q] at a; exact (a rfl).elim
theorem length_putK (kvs:List (κ×V)) (k:κ) (v:V):(putK kvs k v).length≤kvs.length + 1:=by
 unfold putK
 split
 ·rw [List.length_map]; lia
 ·rw [List.length_append,List.length_cons,List.length_nil]; lia
theorem RelO.isSome_eq {o:Option V} {u:Option Value} (r:RelO o u):o.isSome=u.isSome:=by
 cases o with
 | none=>cases u with
  | none=>rfl
  | some _=>exact (show False from r).elim
 | some _=>cases u with
  | none=>exact (show False from r).elim
  | some _=>rfl
theorem RelO.getD {o:Option V} {u:Option Value} {d:V} {d':Value} (r:RelO o u) (rd:RelV d d'):RelV (o.getD d) (u.getD d'):=by
 cases o with
 | none=>cases u with
  | none=>exact rd
  | some _=>exact (show False from r).elim
 | some _=>cases u with
  | none=>exact (show False from r).elim
  | some _=>exact r
theorem KV.val {kvs:List (κ×V)} {vs:List (κ×Value)} (r:KV kvs vs) (k:κ):RelO (valV kvs k) (valueAt vs k):=by
 unfold KV at r
 induction r with
 | nil=>exact True.intro
 | @cons p q ps qs h t ih =>
  obtain ⟨h1,h2⟩:=h
  by_cases e:p.1=k
  ·have e':q.1=k:=h1.symm.trans e
   have b:valueAt (q :: qs) k=some q.2:=by simp [valueAt,List.find?_cons,e']
   rw [valV_pos e,b]; exact h2
  ·have e':¬ q.1=k:=fun z=>e (h1.trans z)
   have b:valueAt (q :: qs) k=valueAt qs k:=by simp [valueAt,List.find?_cons,e']
   rw [valV_neg e,b]; exact ih
theorem KV.any {kvs:List (κ×V)} {vs:List (κ×Value)} (r:KV kvs vs) (k:κ):(kvs.any fun kv=>decide (kv.1=k))=vs.any fun kv=>decide (kv.1=k):=by
 unfold KV at r
 induction r with
 | nil=>rfl
 | cons h t ih=>rw [List.any_cons,List.any_cons,ih,h.1]
theorem KV.repl {kvs:List (κ×V)} {vs:List (κ×Value)} (r:KV kvs vs) (k:κ) {y:V} {u:Value} (ry:RelV y u) :
  KV (kvs.map fun kv=>if kv.1=k then (kv.1,y) else kv) (vs.map fun kv=>if kv.1=k then (kv.1,u) else kv):=by
 unfold KV at r ⊢
 induction r with
 | nil=>exact .nil
 | @cons p q ps qs h t ih =>
  rw [List.map_cons,List.map_cons]
  refine .cons ?_ ih
  obtain ⟨h1,h2⟩:=h
  by_cases e:p.1=k
  ·rw [if_pos e,if_pos (h1.symm.trans e)]; exact ⟨h1,ry⟩
  ·rw [if_neg e,if_neg (fun z=>e (h1.trans z))]; exact ⟨h1,h2⟩
theorem KV.put {kvs:List (κ×V)} {vs:List (κ×Value)} (r:KV kvs vs) (k:κ) {y:V} {u:Value} (ry:RelV y u):KV (putK kvs k y) (stored vs k u):=by
 unfold putK stored
 rw [r.any k]
 by_cases e:(vs.any fun kv=>decide (kv.1=k))=true
 ·rw [if_pos e,if_pos e]; exact r.repl k ry
 ·rw [if_neg e,if_neg e]; exact Paired.snoc r ⟨rfl,ry⟩
theorem KV.length {kvs:List (κ×V)} {vs:List (κ×Value)} (r:KV kvs vs):kvs.length=vs.length:=Paired.length r
end
theorem kV_is {P:Program} {w:World} {k:Key} {u:Value} (r:RelV (kV k) u):(mixKind P w).is k u=true:=by
 cases k with
 | inl i=>obtain ⟨t,e⟩:=(show ∃ t,u=Value.int i t from r); subst e; exact mixKind_int P w i t
 | inr x=>obtain ⟨t,e⟩:=(show ∃ t,u=Value.str x t from r); subst e; exact mixKind_str P w x t
theorem items_are {P:Program} {w:World}:∀ {ks:List Key} {us:List Value},Vals (ks.map kV) us→ItemsAre (mixKind P w) ks us
 | [],_,r=>by rw [List.map_nil] at r; cases r; exact .nil
 | k :: ks,_,r=>by
  rw [List.map_cons] at r
  cases r with
  | cons h t=>exact .cons (kV_is h) (items_are t)
noncomputable abbrev KT (H:Hp):List (List Key×V)→List (List Key×Addr×Value)→Prop:=Paired fun p q=>p.1=q.1∧H q.2.1=some (.tup (p.1.map kV))∧RelV p.2 q.2.2
theorem KT.val {H:Hp} {kvs:List (List Key×V)} {xs:List (List Key×Addr×Value)} (r:KT H kvs xs) (k:List Key):RelO (valV kvs k) ((atKey xs k).map (·.2)):=by
 induction r with
 | nil=>exact True.intro
 | @cons p q ps qs h t ih =>
  refine bC fun g_=>?_
  obtain ⟨h1,_,h2⟩:=h
  refine g_ ?_
  clear g_
  by_cases e:p.1=k
  ·have e':q.1=k:=h1.symm.trans e
   have b:atKey (q :: qs) k=some q.2:=by simp [atKey,List.find?_cons,e']
   rw [valV_pos e,b]; exact h2
  ·have e':¬ q.1=k:=fun z=>e (h1.trans z)
   have b:atKey (q :: qs) k=atKey qs k:=by simp [atKey,List.find?_cons,e']
   rw [valV_neg e,b]; exact ih
theorem KT.repl {H:Hp} {kvs:List (List Key×V)} {xs:List (List Key×Addr×Value)} (r:KT H kvs xs) (k:List Key) {y:V} {u:Value} (ry:RelV y u) :
  KT H (kvs.map fun kv=>if kv.1=k then (kv.1,y) else kv) (xs.map (putAt k u)):=by
 induction r with
 | nil=>exact .nil
 | @cons p q ps qs h t ih =>
  rw [List.map_cons,List.map_cons]
  refine .cons ?_ ih
  refine bC fun g_=>?_
  obtain ⟨h1,h2,h3⟩:=h
  refine g_ ?_
  clear g_
  unfold putAt
  by_cases e:p.1=k
  ·rw [if_pos e,if_pos (h1.symm.trans e)]; exact ⟨h1,h2,ry⟩
  ·rw [if_neg e,if_neg (fun z=>e (h1.trans z))]; exact ⟨h1,h2,h3⟩
theorem KT.put {H:Hp} {kvs:List (List Key×V)} {xs:List (List Key×Addr×Value)} (r:KT H kvs xs) (k:List Key) {b:Addr} {y:V} {u:Value} (hb:H b=some (.tup (k.map kV))) (ry:RelV y u) :
  KT H (putK kvs k y) (storedH xs k b u):=by
 have e:(kvs.any fun kv=>decide (kv.1=k))=(atKey xs k).isSome:=by
  rw [valV_any,(r.val k).isSome_eq,Option.isSome_map]
 unfold putK storedH
 rw [e]
 by_cases q:(atKey xs k).isSome=true
 ·rw [if_pos q,if_pos q]; exact r.repl k ry
 ·rw [if_neg q,if_neg q]; exact Paired.snoc r ⟨rfl,hb,ry⟩
theorem KT.keeps {H H':Hp} {kvs:List (List Key×V)} {xs:List (List Key×Addr×Value)} (r:KT H kvs xs) (ht:∀ b ys,H b=some (.tup ys)→H' b=some (.tup ys)):KT H' kvs xs :=
 Paired.mapP r fun Z Z z=>⟨z.1,ht _ _ z.2.1,z.2.2⟩
section
variable {P:Program} {w:World} {H:Hp} {h:Heap} {a:Addr}
theorem rd_of {u:HO} (ok:HOk P w H h) (e:Rd H a u):ObjOk P w H h a u:=e.ok ok
theorem dk_rd {kvs:List (Key×V)} (ok:HOk P w H h) (e:Rd H a (.dK kvs)):kvs.length≤sizeLine∧(a == sysModules)=false∧∃ vs,KV kvs vs∧h.DictOf (mixKind P w) a vs :=
 show ObjOk P w H h a (.dK kvs) from rd_of ok e
theorem dk_of {kvs:List (Key×V)} (ok:HOk P w H h) (e:H a=some (.dK kvs)):kvs.length≤sizeLine∧(a == sysModules)=false∧∃ vs,KV kvs vs∧h.DictOf (mixKind P w) a vs:=dk_rd ok (.inl e)
theorem key_of {ks:List Key} (ok:HOk P w H h) (e:H a=some (.tup (ks.map kV))):(tupleKind (mixKind P w)).is h ks a:=by
 refine bC fun g_=>?_
 obtain ⟨_,its,r,o,h1,h2,n,h3⟩:=(show ObjOk P w H h a (.tup (ks.map kV)) from ok a _ e)
 refine g_ ?_
 clear g_
 exact ⟨o,its.toArray,n,h1,h2,h3,by simpa using items_are r⟩
theorem dt_rd {kvs:List (List Key×V)} (ok:HOk P w H h) (e:Rd H a (.dT kvs)):kvs.length≤sizeLine∧(a == sysModules)=false ∧
  ∃ xs,KT H kvs xs∧h.DictOfH (tupleKind (mixKind P w)) a xs:=by
 refine bC fun g_=>?_
 obtain ⟨z,y,xs,r,o,es,ep,h1,h2,h3,h4,h5⟩:=(show ObjOk P w H h a (.dT kvs) from rd_of ok e)
 refine g_ ?_
 clear g_
 refine ⟨z,y,xs,r,o,es,ep,h1,h2,h3,h4,fun x hx=>?_,h5⟩
 have all:∀ {l:List (List Key×V)} {m:List (List Key×Addr×Value)},KT H l m→∀ x∈m,(tupleKind (mixKind P w)).is h x.1 x.2.1:=by
  intro l m q
  induction q with
  | nil=>intro x hx; exact nomatch hx
  | @cons p q ps qs hq t ih =>
   intro x hx
   rcases List.mem_cons.mp hx with e | hx
   ·subst e
    exact key_of ok (by rw [← hq.1]; exact hq.2.1)
   ·exact ih x hx
 exact all r x hx
theorem dt_of {kvs:List (List Key×V)} (ok:HOk P w H h) (e:H a=some (.dT kvs)):kvs.length≤sizeLine∧(a == sysModules)=false ∧
  ∃ xs,KT H kvs xs∧h.DictOfH (tupleKind (mixKind P w)) a xs:=dt_rd ok (.inl e)
end
noncomputable def DGet (H:Hp) (a:Addr) (y:V) (r:Option V):Prop :=
 (∃ kvs k,Rd H a (.dK kvs)∧y=kV k∧r=valV kvs k)∨∃ kvs k b,Rd H a (.dT kvs)∧y=.ref b∧H b=some (.tup (k.map kV))∧r=valV kvs k
noncomputable def DPut (H:Hp) (a:Addr) (y v:V) (H':Hp):Prop :=
 (∃ kvs k,H a=some (.dK kvs)∧y=kV k∧kvs.length < sizeLine∧H'=upd H a (.dK (putK kvs k v))) ∨
 ∃ kvs k b,H a=some (.dT kvs)∧y=.ref b∧H b=some (.tup (k.map kV))∧kvs.length < sizeLine∧H'=upd H a (.dT (putK kvs k v))
theorem DGet.k {H:Hp} {a:Addr} {kvs:List (Key×V)} {k:Key} (e:H a=some (.dK kvs)):DGet H a (kV k) (valV kvs k):=.inl ⟨kvs,k,.inl e,rfl,rfl⟩
theorem DGet.t {H:Hp} {a b:Addr} {kvs:List (List Key×V)} {k:List Key} (e:H a=some (.dT kvs)) (eb:H b=some (.tup (k.map kV))):DGet H a (.ref b) (valV kvs k):=.inr ⟨kvs,k,b,.inl e,rfl,eb,rfl⟩
theorem DPut.k {H:Hp} {a:Addr} {kvs:List (Key×V)} {k:Key} {v:V} (e:H a=some (.dK kvs)) (hl:kvs.length < sizeLine):DPut H a (kV k) v (upd H a (.dK (putK kvs k v))):=.inl ⟨kvs,k,e,rfl,hl,rfl⟩
theorem DPut.t {H:Hp} {a b:Addr} {kvs:List (List Key×V)} {k:List Key} {v:V} (e:H a=some (.dT kvs)) (eb:H b=some (.tup (k.map kV))) (hl:kvs.length < sizeLine) :
  DPut H a (.ref b) v (upd H a (.dT (putK kvs k v))):=.inr ⟨kvs,k,b,e,rfl,eb,hl,rfl⟩
section
variable {X:Cx} {pins:List (Addr×Obj)} {σ:St} {H:Hp} {s:Shared} {a:Addr} {y v:V} {u r:Value} {o:Option V} {A:Around} {E:Value→Shared→Prop}
theorem Inv.big (I:Inv X pins σ H s):sysModules < s.heap.objs.size:=by
 have h:mainGlobals < s.heap.objs.size:=(I.mod.glob.keeps I.bk).lt
 exact Nat.lt_trans (by decide) h
theorem d_getItem {Q:Value→Shared→Prop} (hu:A.units + 1 < cLine) (I:Inv X pins σ H s) (g:DGet H a y (some v)) (ry:RelV y u) (h:∀ w' s',Inv X pins σ H s'→RelV v w'→Q w' s') :
  wpAny (model X.prog X.w) A (getItem (.ref a) u) Q E s:=by
 rcases g with ⟨kvs,k,e,ey,l⟩ | ⟨kvs,k,b,e,ey,eb,l⟩
 ·subst ey
  refine bC fun g_=>?_
  obtain ⟨z,hd,vs,rel,dd⟩:=dk_rd I.hok e
  refine g_ ?_
  clear g_
  obtain ⟨w',hw,rw'⟩:=RelO.some_of (v:=v) (o:=valueAt vs k) (by rw [l]; exact rel.val k)
  exact wpAny_getItem_of (kV_is ry) dd.mapOf hw (h w' _ (I.tok _) rw')
 ·subst ey
  cases (show u=Value.ref b from ry)
  refine bC fun g_=>?_
  obtain ⟨z,hd,xs,rel,dd⟩:=dt_rd I.hok e
  refine g_ ?_
  clear g_
  obtain ⟨w',hw,rw'⟩:=RelO.some_of (v:=v) (o:=(atKey xs k).map (·.2)) (by rw [l]; exact rel.val k)
  refine bC fun g_=>?_
  obtain ⟨p,hp,hp2⟩:=Option.map_eq_some_iff.mp hw
  refine g_ ?_
  clear g_
  refine wpAny_getItem_heap (tupleKind_room_in1 hu) (key_of I.hok eb) dd hp ?_
  rw [hp2]
  exact h w' _ (I.tok _) rw'
theorem d_write {h':Heap} {t':Nat} {ob:HO} (I:Inv X pins σ H s) (mu:Mut (H a)) (hs:Heap.SameBut a s.heap h') (he:∃ q,h'.get? a=some q) (new:ObjOk X.prog X.w (upd H a ob) h' a ob) :
  Inv X pins σ (upd H a ob) { s with heap:=h',toks:=t' } :=
 I.write (x:=a) (e:=a) mu (.inl rfl) (fun b q hb z=>(hs.2 b hb).trans z) he new
theorem dk_new {P:Program} {w:World} {H':Hp} {h':Heap} {kvs:List (Key×V)} {vs:List (Key×Value)} (z:kvs.length≤sizeLine) (hd:(a == sysModules)=false) (rel:KV kvs vs) (dd:h'.DictOf (mixKind P w) a vs) :
  ObjOk P w H' h' a (.dK kvs):=⟨z,hd,vs,rel,dd⟩
theorem d_setItem {H':Hp} {Q:Unit→Shared→Prop} (hu:A.units + 1 < cLine) (I:Inv X pins σ H s) (g:DPut H a y v H') (ry:RelV y u) (rv:RelV v r) (h:∀ s',Inv X pins σ H' s'→Q () s') :
  wpAny (model X.prog X.w) A (setItem (.ref a) u r) Q E s:=by
 rcases g with ⟨kvs,k,e,ey,l,eH⟩ | ⟨kvs,k,b,e,ey,eb,l,eH⟩
 ·subst ey eH
  refine bC fun g_=>?_
  obtain ⟨z,hd,vs,rel,dd⟩:=dk_of I.hok e
  refine g_ ?_
  clear g_
  have hz:vs.length≤sizeLine:=by rw [← rel.length]; exact z
  have hl:(putK kvs k v).length≤sizeLine:=by have:=length_putK kvs k v; lia
  refine wpAny_setItem_pairs (hsz:=hz) (kV_is ry) dd fun h' dd' hs=>h _ ?_
  have he:∃ q,h'.get? a=some q:=let ⟨q,_,_,hq,_⟩:=dd'; ⟨q,hq⟩
  exact d_write I (by rw [e]; exact True.intro) hs he (dk_new hl hd (rel.put k rv) dd')
 ·subst ey eH
  cases (show u=Value.ref b from ry)
  refine bC fun g_=>?_
  obtain ⟨z,hd,xs,rel,dd⟩:=dt_of I.hok e
  refine g_ ?_
  clear g_
  have hz:xs.length≤sizeLine:=by rw [← Paired.length rel]; exact z
  have hl:(putK kvs k v).length≤sizeLine:=by have:=length_putK kvs k v; lia
  refine wpAny_setItem_heap (hsz:=hz) (tupleKind_room_in1 hu) (key_of I.hok eb) dd fun h' dd' hs=>h _ ?_
  refine bC fun g_=>?_
  obtain ⟨q,es,ep,hq,h2,h3,h4,_,h5⟩:=dd'
  refine g_ ?_
  clear g_
  refine d_write I (by rw [e]; exact True.intro) hs ⟨q,hq⟩ ⟨hl,hd,_,(rel.put k eb rv).keeps fun c ys ec=>?_,q,es,ep,hq,h2,h3,h4,h5⟩
  rw [upd_ne (ne_of ec e (fun z=>nomatch z))]
  exact ec
end
section
variable {X:Cx} {pins:List (Addr×Obj)} {σ:St} {H:Hp} {s:Shared} {a:Addr} {kvs:List (Key×V)} {k:Key} {u:Value} {A:Around} {E:Value→Shared→Prop}
end
noncomputable def NoSl (i:Expr):Prop:=∀ ov iv,subscripted i false ov iv=operate [ov,iv] (getItem ov iv)
theorem subD_of {prog:Program} {w:World} {A:Around} {E:Value→Shared→Prop} {s:Shared} {env:Env} {value slice:Expr} {pos:Pos} {T id:String} {Q:Value→Shared→Prop}
  (hl:typeLookup (.type T) "__getitem__"=pure (some (.builtin id))) (hs:NoSl slice)
  (h:wpAny (model prog w) A (eval value env) (fun o s₁=>wpAny (model prog w) A (eval slice env) (fun i s₂=>s₂.TypeIs o T∧wpAny (model prog w) A (getItem o i) Q E s₂) E s₁) E s) :
  wpAny (model prog w) A (eval (.Subscript value slice pos) env) Q E s:=by
 refine Subscript_ (wpAny_mono h (fun o s₁ h₁=>wpAny_mono h₁ (fun i s₂ h₂=>?_) fun Z Z x=>x) fun Z Z x=>x)
 obtain ⟨hT,h₂⟩:=h₂
 unfold subscriptTail
 refine wpAny_bind ?_
 rw [getitemInPython_of_ne hT.not_modules]
 refine wpAny_bind (wpAny_specialOf hT hl ?_)
 have fin:wpAny (model prog w) A (subscripted slice false o i) (fun r s₃=>wpAny (model prog w) A (letTemporaryGo value o r >>= fun Z=>pure r) Q E s₃) E s₂:=by
  rw [hs o i]
  exact wpAny_operating (wpAny_mono h₂ (fun r s₃ h₃=>wpAny_bind (wpAny_letTemporaryGo (wpAny_pure h₃))) fun Z Z x=>x)
 first
  | exact wpAny_pure (wpAny_bind fin)
  | exact wpAny_bind (wpAny_pure (wpAny_bind fin))
  | exact wpAny_bind fin
theorem dict_typeIs {X:Cx} {pins:List (Addr×Obj)} {σ:St} {H:Hp} {s:Shared} {a:Addr} {y:V} {o:Option V} (I:Inv X pins σ H s) (g:DGet H a y o):s.TypeIs (.ref a) "dict":=by
 rcases g with ⟨kvs,k,e,_,_⟩ | ⟨kvs,k,b,e,_,_,_⟩
 ·refine bC fun g_=>?_
  obtain ⟨_,_,vs,_,dd⟩:=dk_rd I.hok e
  refine g_ ?_
  clear g_
  exact dd.typeIs
 ·refine bC fun g_=>?_
  obtain ⟨_,_,xs,_,dd⟩:=dt_rd I.hok e
  refine g_ ?_
  clear g_
  exact dd.typeIs
inductive PtDGet (x y:V) (H:Hp) (Q:VK):Prop
 | mk (a:Addr) (v:V) (h0:x=.ref a) (h1:DGet H a y (some v)) (h2:Q v H):PtDGet x y H Q
noncomputable def tDGet (td ty:TE):TE:=fun σ H Q=>td σ H fun x H1=>ty σ H1 fun y H2=>PtDGet x y H2 Q
noncomputable def sDPut (td ty tv:TE):TS:=fun D σ H=>tv σ H fun v H1=>td σ H1 fun x H2=>ty σ H2 fun y H3=>∃ a H4,x=.ref a∧DPut H3 a y v H4∧D.nx σ H4
section
variable {X:Cx} {o i e value:Expr} {pos pos' tpos:Pos} {td ty tv:TE}
theorem pe_dget (hu:X.A.units + 1 < cLine) (ho:PE X o td) (hi:PE X i ty) (hs:NoSl i):PE X (.Subscript o i pos) (tDGet td ty):=by
 intro pins s σ H Q I h
 refine subD_of PySem.F.slot_dict_getitem.lookup hs (thn (ho pins s σ H _ I h) fun u s1 ⟨x,H1,I1,rx,q1⟩=>thn (hi pins s1 σ H1 _ I1 q1) fun iv s2 hm_=>?_)
 refine bC fun g_=>?_
 obtain ⟨y,H2,I2,ry,a,v,ex,g,q2⟩:=hm_
 refine g_ ?_
 clear g_
 subst ex
 obtain rfl:u=Value.ref a:=rx
 exact ⟨dict_typeIs I2 g,d_getItem hu I2 g ry fun w' s3 I3 rw'=>⟨v,H2,I3,rw',q2⟩⟩
theorem ps_dput (hu:X.A.units + 1 < cLine) (ho:PE X o td) (hi:PE X i ty) (hv:PE X value tv) (hs:swapsWith value (some (.Subscript o i pos')) pos.line X.env=pure false) :
  PS X (.Assign [.Subscript o i pos'] value pos) (sDPut td ty tv):=by
 intro pins s σ H D I h
 refine wpAny_Assign_Subscript (thn (hv pins s σ H _ I h) fun r s1 ⟨v,H1,I1,rv,q1⟩=>thn (ho pins s1 σ H1 _ I1 q1) fun u s2 ⟨x,H2,I2,rx,q2⟩=>thn (hi pins s2 σ H2 _ I2 q2) fun iv s3 hm_=>?_) hs
 refine bC fun g_=>?_
 obtain ⟨y,H3,I3,ry,a,H4,ex,g,q3⟩:=hm_
 refine g_ ?_
 clear g_
 subst ex
 obtain rfl:u=Value.ref a:=rx
 exact d_setItem hu I3 g ry rv fun s4 I4=>⟨σ,H4,I4,q3⟩
end
theorem dk_empty {P:Program} {w:World} {H:Hp} (h:Heap) (hb:sysModules < h.objs.size):ObjOk P w H (h.push { cls:=.type "dict",data:=.dict #[] }) h.objs.size (.dK []) :=
 ⟨Nat.zero_le _,beq_eq_false_iff_ne.mpr (Ne.symm (Nat.ne_of_lt hb)),[],.nil,Heap.DictOf.new h⟩
theorem dt_empty {P:Program} {w:World} {H:Hp} (h:Heap) (hb:sysModules < h.objs.size):ObjOk P w H (h.push { cls:=.type "dict",data:=.dict #[] }) h.objs.size (.dT []) :=
 ⟨Nat.zero_le _,beq_eq_false_iff_ne.mpr (Ne.symm (Nat.ne_of_lt hb)),[],.nil,_,#[],0,Heap.get?_push_size _ rfl,⟨rfl,rfl,rfl⟩,rfl,rfl,List.nodup_nil⟩
noncomputable def tDNewT:TE:=fun Z H Q=>∀ p,H p=none→Q (.ref p) (upd H p (.dT []))
section
variable {X:Cx} {pos:Pos}
theorem pe_dnewT:PE X (.Dict [] [] pos) tDNewT:=fun pins s σ H Q I h =>
 wpAny_Dict_empty ⟨.ref s.heap.objs.size,_,I.laid (a:=s.heap.objs.size) (o:=.dT []) (t':=s.toks) (fun Z Z q=>Heap.get?_push_of_some _ q) (Nat.le_refl _) (dt_empty s.heap I.big),rfl,h _ (I.hok.fresh (Nat.le_refl _))⟩
end
noncomputable def tPairs:List (TE×TE)→St→Hp→(List (V×V)→Hp→Prop)→Prop
 | [],_,H,Q=>Q [] H
 | (tk,tv) :: r,σ,H,Q=>tk σ H fun x H1=>tv σ H1 fun y H2=>tPairs r σ H2 fun ps H3=>Q ((x,y) :: ps) H3
noncomputable abbrev VV:List (V×V)→List (Value×Value)→Prop:=Paired fun p q=>RelV p.1 q.1∧RelV p.2 q.2
noncomputable def PPs (X:Cx) (pos:Pos) (keys:List (Option Expr)) (values:List Expr) (trs:List (TE×TE)):Prop :=
 ∀ (pins:List (Addr×Obj)) (s:Shared) (σ:St) (H:Hp) (Q:List (V×V)→Hp→Prop),Inv X pins σ H s→tPairs trs σ H Q →
  wpAny (model X.prog X.w) X.A (evalPairs (pairTrees keys values X.env pos)) (fun vs s'=>∃ ps H',Inv X pins σ H' s'∧VV ps vs∧Q ps H') X.xe s
theorem pps_nil {X:Cx} {pos:Pos}:PPs X pos [] [] []:=fun pins s σ H Q I h=>pairTrees_nil_walk ⟨[],H,I,.nil,h⟩
theorem pps_cons {X:Cx} {pos:Pos} {k v:Expr} {ks:List (Option Expr)} {vs:List Expr} {tk tv:TE} {trs:List (TE×TE)} (hk:PE X k tk) (hv:PE X v tv) (hr:PPs X pos ks vs trs) :
  PPs X pos (some k :: ks) (v :: vs) ((tk,tv) :: trs):=fun pins s σ H Q I h =>
 pairTrees_cons_walk (thn (hk pins s σ H _ I h) fun u s1 ⟨x,H1,I1,rx,q1⟩=>thn (hv pins s1 σ H1 _ I1 q1) fun w2 s2 ⟨y,H2,I2,ry,q2⟩ =>
  thn (hr pins s2 σ H2 _ I2 q2) fun ws s3 ⟨ps,H3,I3,rel,q3⟩=>⟨(x,y) :: ps,H3,I3,.cons ⟨rx,ry⟩ rel,q3⟩)
noncomputable def mergeK (kvs more:List (Key×V)):List (Key×V):=more.foldl (fun acc kv=>putK acc kv.1 kv.2) kvs
theorem KV.merge:∀ {more:List (Key×V)} {rs:List (Key×Value)} {kvs:List (Key×V)} {vs:List (Key×Value)},KV more rs→KV kvs vs→KV (mergeK kvs more) (merged vs rs):=by
 intro more rs kvs vs r
 unfold KV at r
 induction r generalizing kvs vs with
 | nil=>intro q; exact q
 | @cons p q ps qs h t ih =>
  intro r0
  have e:KV (putK kvs p.1 p.2) (stored vs q.1 q.2):=by
   have:=r0.put p.1 h.2
   rw [← h.1]; exact this
  exact ih e
theorem length_mergeK:∀ (more kvs:List (Key×V)),(mergeK kvs more).length≤kvs.length + more.length
 | [],kvs=>by show kvs.length≤kvs.length + 0; lia
 | p :: r,kvs=>by
  have h1:=length_mergeK r (putK kvs p.1 p.2)
  have h2:=length_putK kvs p.1 p.2
  show (mergeK (putK kvs p.1 p.2) r).length≤_
  rw [List.length_cons]; lia
theorem carries_of {P:Program} {w:World}:∀ {kvs:List (Key×V)} {ws:List (Value×Value)},VV (kvs.map fun kv=>(kV kv.1,kv.2)) ws→∃ rs,Carries (mixKind P w) ws rs∧KV kvs rs
 | [],_,r=>by rw [List.map_nil] at r; cases r; exact ⟨[],True.intro,.nil⟩
 | p :: kvs,_,r=>by
  rw [List.map_cons] at r
  cases r with
  | @cons a b as bs h t =>
   refine bC fun g_=>?_
   obtain ⟨rs,c,q⟩:=carries_of (P:=P) (w:=w) t
   obtain ⟨b1,b2⟩:=b
   refine g_ ?_
   clear g_
   exact ⟨(p.1,b2) :: rs,⟨kV_is h.1,rfl,c⟩,.cons ⟨rfl,h.2⟩ q⟩
noncomputable def tDisp (trs:List (TE×TE)):TE:=fun σ H Q=>∀ p,H p=none→tPairs trs σ (upd H p (.dK [])) fun ps H2=>H2 p=some (.dK [])∧∃ kvs:List (Key×V),ps=kvs.map (fun kv=>(kV kv.1,kv.2))∧kvs.length≤15∧Q (.ref p) (upd H2 p (.dK (mergeK [] kvs)))
theorem pe_disp {X:Cx} {pos:Pos} {keys:List (Option Expr)} {values:List Expr} {trs:List (TE×TE)} (h:PPs X pos keys values trs) (hall:keys.all (·.isSome)=true) (hl:keys.length=values.length) (h0:keys≠[])
  (h15:keys.length≤15):PE X (.Dict keys values pos) (tDisp trs):=by
 intro pins s σ H Q I q
 have hn:=I.hok.fresh (Nat.le_refl s.heap.objs.size)
 have I1:=I.laid (a:=s.heap.objs.size) (o:=.dK []) (h':=s.heap.push { cls:=.type "dict",data:=.dict #[] }) (t':=s.toks) (fun Z Z q=>Heap.get?_push_of_some _ q) (Nat.le_refl _) (dk_empty s.heap I.big)
 refine wpAny_Dict_walk (knd:=mixKind X.prog X.w) hall hl h0 h15 (thn (h pins _ σ _ _ I1 (q _ hn)) fun ws s2 hm_=>?_)
 refine bC fun g_=>?_
 obtain ⟨ps,H2,I2,rel,e,kvs,ep,lk,q2⟩:=hm_
 refine g_ ?_
 clear g_
 subst ep
 refine bC fun g_=>?_
 obtain ⟨rs,c,rk⟩:=carries_of (P:=X.prog) (w:=X.w) rel
 obtain ⟨z,hd,vs0,r0,dd⟩:=dk_of I2.hok e
 refine g_ ?_
 clear g_
 cases r0
 refine ⟨rs,c,dd,fun h' dd' hs=>⟨.ref s.heap.objs.size,_,?_,rfl,q2⟩⟩
 have hz:(mergeK [] kvs).length≤sizeLine:=by
  have h1:=length_mergeK kvs []
  rw [List.length_nil] at h1
  rw [sizeLine_eq]; lia
 have he:∃ q,h'.get? s.heap.objs.size=some q:=let ⟨q,_,_,hq,_⟩:=dd'; ⟨q,hq⟩
 exact d_write I2 (by rw [e]; exact True.intro) hs he (dk_new hz hd (rk.merge .nil) dd')
structure M2 (X:Cx) (o:Expr) (m:Str) (apos:Pos) (e f:Expr) (cpos:Pos):Prop where
 base:attributeBase o m X.env (eval o X.env)=eval o X.env
 few:((backTo cpos (starEach [e,f] X.env)).all (fun x=>!x.1) && (backToKw cpos (keywordEach [] X.env)).all (fun x=>x.1.isSome)
  && decide (([e,f]:List Expr).length + ([]:List Keyword).length + (if ([]:List Keyword).isEmpty then 0 else 1) < 30))=true
 line:(apos.endLine == cpos.line)=true
 trees:backTo cpos (starEach [e,f] X.env)=[(false,eval e X.env),(false,eval f X.env)]
noncomputable def IsD (H:Hp) (a:Addr):Prop:=(∃ kvs,Rd H a (.dK kvs))∨∃ kvs,Rd H a (.dT kvs)
theorem isD_at {X:Cx} {pins:List (Addr×Obj)} {σ:St} {H:Hp} {s:Shared} {a:Addr} (I:Inv X pins σ H s) (d:IsD H a) :
  s.TypeIs (.ref a) "dict"∧(∀ b,Value.ref a=.ref b→∃ ob,s.heap.get? b=some ob∧ob.dict=none)∧(a == sysModules)=false:=by
 rcases d with ⟨kvs,e⟩ | ⟨kvs,e⟩
 ·refine bC fun g_=>?_
  obtain ⟨_,hd,vs,_,dd⟩:=dk_rd I.hok e
  refine g_ ?_
  clear g_
  refine ⟨dd.typeIs,fun b q=>?_,hd⟩
  cases q
  refine bC fun g_=>?_
  obtain ⟨ob,_,_,h1,h2,_⟩:=dd
  refine g_ ?_
  clear g_
  exact ⟨ob,h1,h2.2.1⟩
 ·refine bC fun g_=>?_
  obtain ⟨_,hd,xs,_,dd⟩:=dt_rd I.hok e
  refine g_ ?_
  clear g_
  refine ⟨dd.typeIs,fun b q=>?_,hd⟩
  cases q
  refine bC fun g_=>?_
  obtain ⟨ob,_,_,h1,h2,_⟩:=dd
  refine g_ ?_
  clear g_
  exact ⟨ob,h1,h2.2.1⟩
section
variable {X:Cx} {pins:List (Addr×Obj)} {σ:St} {H:Hp} {s:Shared} {a:Addr} {y d:V} {u r:Value} {o:Option V} {A:Around} {E:Value→Shared→Prop}
theorem d_get2 {Q:Value→Shared→Prop} (hu:A.units + 1 < cLine) (I:Inv X pins σ H s) (g:DGet H a y o) (ry:RelV y u) (rd:RelV d r) (h:∀ w' s',Inv X pins σ H s'→RelV (o.getD d) w'→Q w' s') :
  wpAny (model X.prog X.w) A (call (.builtin "dict.get") [.ref a,u,r]) Q E s:=by
 rcases g with ⟨kvs,k,e,ey,l⟩ | ⟨kvs,k,b,e,ey,eb,l⟩
 ·subst ey
  refine bC fun g_=>?_
  obtain ⟨z,hd,vs,rel,dd⟩:=dk_rd I.hok e
  refine g_ ?_
  clear g_
  refine call_meetsIn PySem.F.slot_dict_get dd.typeIs PySem.F.entry_dict_get (PySem.F.args_dict_get_3 _ _ _) (meets_dict_get_default (mixKind X.prog X.w) a (kV_is ry) hd r) ⟨_,dd.mapOf,h _ _ (I.tok _) ?_⟩
  rw [l]
  exact (rel.val k).getD rd
 ·subst ey
  cases (show u=Value.ref b from ry)
  refine bC fun g_=>?_
  obtain ⟨z,hd,xs,rel,dd⟩:=dt_rd I.hok e
  refine g_ ?_
  clear g_
  refine call_meetsIn PySem.F.slot_dict_get dd.typeIs PySem.F.entry_dict_get (PySem.F.args_dict_get_3 _ _ _) (meetsH_dict_get_default (tupleKind (mixKind X.prog X.w)) a b hd r) ⟨tupleKind_room_in1 hu,k,xs,key_of I.hok eb,dd,h _ _ (I.tok _) ?_⟩
  rw [l]
  exact (rel.val k).getD rd
end
noncomputable def tDGet2 (td ty tx:TE):TE:=fun σ H Q=>td σ H fun x H1=>∃ a,x=.ref a∧IsD H1 a∧ty σ H1 fun y H2=>tx σ H2 fun z H3=>∃ o,DGet H3 a y o∧Q (o.getD z) H3
section
variable {X:Cx} {o e f:Expr} {apos cpos:Pos} {td ty tx:TE}
theorem pe_dget2 (hu:X.A.units + 1 < cLine) (ho:PE X o td) (he:PE X e ty) (hf:PE X f tx) (m:M2 X o "get" apos e f cpos):PE X (.Call (.Attribute o "get" apos) [e,f] [] cpos) (tDGet2 td ty tx):=by
 intro pins s σ H Q I h
 refine wpAny_Call_method m.base m.few m.line PySem.F.plainAttrs_dict PySem.F.slot_dict_get PySem.F.type_dict_get (thn (ho pins s σ H _ I h) fun u s1 hm_=>?_)
 refine bC fun g_=>?_
 obtain ⟨x,H1,I1,rx,a,ex,d,q1⟩:=hm_
 refine g_ ?_
 clear g_
 subst ex
 obtain rfl:u=Value.ref a:=rx
 refine bC fun g_=>?_
 obtain ⟨t1,t2,_⟩:=isD_at I1 d
 refine g_ ?_
 clear g_
 refine ⟨t1,t2,?_⟩
 rw [m.trees]
 refine Calls.callWith_builtin rfl (Calls.evalArgs_plain (Calls.spliced_cons (thn (he pins s1 σ H1 _ I1 q1) fun iv s2 ⟨y,H2,I2,ry,q2⟩ =>
  Calls.spliced_cons (thn (hf pins s2 σ H2 _ I2 q2) fun fv s3 ⟨z,H3,I3,rz,ov,g,q3⟩=>Calls.spliced_nil ?_))))
 exact d_get2 hu I3 g ry rz fun w' s4 I4 rw'=>⟨_,H3,I4,rw',q3⟩
end
section
variable {X:Cx} {pins:List (Addr×Obj)} {σ:St} {H:Hp} {s:Shared} {a:Addr} {kvs:List (Key×V)} {A:Around} {E:Value→Shared→Prop}
end
section
variable {X:Cx} {pins:List (Addr×Obj)} {σ:St} {H:Hp} {s:Shared} {a:Addr} {y:V} {u:Value} {A:Around} {E:Value→Shared→Prop}
end
end L2
namespace HT
open PySem PyProof.Rows
section
open PySem.SeqAt
open PySem.AutoSeq1 (wpAny_loadPart')
open PySem.MeetsSeq PySem.MeetsSeq2 PySem.MeetsSeq3
end
section
variable {prog:Program} {w:World} {A:Around} {E:Value→Shared→Prop} {s:Shared}
noncomputable def sIx (n d:Nat):Option Int→Nat
 | none=>d
 | some v=>if v < 0 then (v + (n:Int)).toNat else min v.toNat n
theorem sIx_none (n d:Nat):sIx n d none=d:=rfl
end
end HT
namespace L2
open PySem PySem.Spec PyProof.Rows
noncomputable abbrev TO:=St→Hp→(Option Int→Hp→Prop)→Prop
noncomputable def PO (X:Cx) (e:Option Expr) (t:TO):Prop :=
 ∀ (pins:List (Addr×Obj)) (s:Shared) (σ:St) (H:Hp) (Q:Option Int→Hp→Prop),Inv X pins σ H s→t σ H Q →
  wpAny (model X.prog X.w) X.A (evalPart e X.env) (fun u s'=>∃ o H',Inv X pins σ H' s'∧IsPart u o∧Q o H') X.xe s
noncomputable def tNoPart:TO:=fun Z H Q=>Q none H
inductive PtPart (x:V) (H:Hp) (Q:Option Int→Hp→Prop):Prop
 | mk (i:Int) (h0:x=.int i) (h1:Q (some i) H):PtPart x H Q
noncomputable def tPart (t:TE):TO:=fun σ H Q=>t σ H fun x H1=>PtPart x H1 Q
theorem intsAre_of {ns:List Int}:∀ {us:List Value},Vals (ns.map V.int) us→IntsAre us ns:=by
 induction ns with
 | nil=>intro us r; rw [List.map_nil] at r; cases r; exact .nil
 | cons n ns ih =>
  intro us r
  rw [List.map_cons] at r
  cases r with
  | cons r1 r2 =>
   obtain ⟨t,e⟩:=r1
   subst e
   exact .cons n t (ih r2)
section
variable {X:Cx} {e:Expr} {te:TE} {lo hi:Option Expr} {tl th:TO} {pos p2:Pos}
theorem po_none:PO X none tNoPart:=by
 intro pins s σ H Q I h
 rw [evalPart_none]
 exact wpAny_pure ⟨none,H,I,.none,h⟩
theorem po_some (h:PE X e te):PO X (some e) (tPart te):=by
 intro pins s σ H Q I hw
 rw [evalPart_some]
 refine thn (h pins s σ H _ I hw) fun u s1 hm_=>?_
 obtain ⟨x,H1,I1,r1,q1⟩:=hm_
 obtain ⟨i,rfl,q⟩:=q1
 obtain ⟨t,rfl⟩:=r1
 exact ⟨some i,H1,I1,.int i t,q⟩
noncomputable def SlR (X:Cx) (r:V→Option Int→Option Int→Hp→VK→Prop):Prop :=
 ∀ (pins:List (Addr×Obj)) (s:Shared) (σ:St) (H:Hp) (x:V) (v vl vu:Value) (lo hi:Option Int) (sl:Addr) (Q:VK),Inv X pins σ H s→RelV x v→s.heap.IsSliceOf sl vl vu .none→IsPart vl lo→IsPart vu hi→r x lo hi H Q →
  ∃ T id,typeLookup (.type T) "__getitem__"=pure (some (.builtin id))∧s.TypeIs v T∧wpAny (model X.prog X.w) X.A (getItem v (.ref sl)) (EP X pins σ Q) X.xe s
noncomputable def tSl (r:V→Option Int→Option Int→Hp→VK→Prop) (te:TE) (tl th:TO):TE:=fun σ H Q=>te σ H fun x H1=>tl σ H1 fun l H2=>th σ H2 fun u H3=>r x l u H3 Q
theorem pe_slice {r:V→Option Int→Option Int→Hp→VK→Prop} (hr:SlR X r) (he:PE X e te) (hl:PO X lo tl) (hu:PO X hi th):PE X (.Subscript e (.Slice lo hi none p2) pos) (tSl r te tl th):=by
 intro pins s σ H Q I h
 refine Subscript_ (thn (he pins s σ H _ I h) fun v s1 hm_=>?_)
 refine bC fun g_=>?_
 obtain ⟨x,H1,I1,r1,q1⟩:=hm_
 refine g_ ?_
 clear g_
 refine wpAny_Slice (thn (hl pins s1 σ H1 _ I1 q1) fun vl s2 ⟨l,H2,I2,pl,q2⟩=>thn (hu pins s2 σ H2 _ I2 q2) fun vu s3 hm_=>?_)
 refine bC fun g_=>?_
 obtain ⟨u,H3,I3,pu,q3⟩:=hm_
 refine g_ ?_
 clear g_
 rw [evalPart_none]
 refine wpAny_pure ?_
 have I4:Inv X pins σ H3 { s3 with heap:=s3.heap.push { cls:=.type "slice",data:=.fields #[vl,vu,.none] } }:=I3.kept (t':=s3.toks) fun b ob q=>Heap.get?_push_of_some _ q
 refine bC fun g_=>?_
 obtain ⟨T,id,hT,ht,hg⟩:=hr pins { s3 with heap:=s3.heap.push { cls:=.type "slice",data:=.fields #[vl,vu,.none] } } σ H3 x v vl vu l u s3.heap.objs.size Q I4 r1 (Heap.IsSliceOf.new ..) pl pu q3
 refine g_ ?_
 clear g_
 show wpAny (model X.prog X.w) X.A (subscriptTail e (.Slice lo hi none p2) v (.ref s3.heap.objs.size)) (EP X pins σ Q) X.xe { s3 with heap:=s3.heap.push { cls:=.type "slice",data:=.fields #[vl,vu,.none] } }
 exact tail_any (ops:=[.ref s3.heap.objs.size,v]) ht hT hg (by with_unfolding_all rfl)
noncomputable def cutV (xs:List V) (lo hi:Option Int):List V:=(xs.drop (HT.sIx xs.length 0 lo)).take (HT.sIx xs.length xs.length hi - HT.sIx xs.length 0 lo)
theorem cutV_length (xs:List V) (lo hi:Option Int):(cutV xs lo hi).length≤xs.length:=by
 unfold cutV
 rw [List.length_take,List.length_drop]
 exact Nat.le_trans (Nat.min_le_right _ _) (Nat.sub_le _ _)
end
noncomputable def ixN (n:Nat) (i:Int):Option Nat:=if 0≤i then (if i < n then some i.toNat else none) else if -(n:Int)≤i then some (i + n).toNat else none
noncomputable def atI {α:Type} (xs:List α) (i:Int):Option α:=(ixN xs.length i).bind fun j=>xs[j]?
theorem ixN_seq {n:Nat} {i:Int} {j:Nat} (h:ixN n i=some j):seqIndex? i n=some j∧j < n∧-(n:Int)≤i∧i < n:=by
 unfold ixN at h
 by_cases h0:0≤i
 ·rw [if_pos h0] at h
  by_cases h1:i < n
  ·rw [if_pos h1] at h
   have e:i.toNat=j:=Option.some.inj h
   exact ⟨by rw [seqIndex_of h0 h1,e],by lia,by lia,h1⟩
  ·rw [if_neg h1] at h; cases h
 ·rw [if_neg h0] at h
  by_cases h1:-(n:Int)≤i
  ·rw [if_pos h1] at h
   have e:(i + n).toNat=j:=Option.some.inj h
   exact ⟨by rw [seqIndex_neg (by lia) h1,e],by lia,h1,by lia⟩
  ·rw [if_neg h1] at h; cases h
theorem atI_get {α:Type} {xs:List α} {i:Int} {v:α} (h:atI xs i=some v):∃ j,seqIndex? i xs.length=some j∧xs[j]?=some v∧j < xs.length∧-(xs.length:Int)≤i∧i < xs.length:=by
 unfold atI at h
 cases e:ixN xs.length i with
 | none=>rw [e] at h; cases h
 | some j =>
  rw [e] at h
  refine bC fun g_=>?_
  obtain ⟨h1,h2,h3,h4⟩:=ixN_seq e
  refine g_ ?_
  clear g_
  exact ⟨j,h1,h,h2,h3,h4⟩
theorem atI_nat {α:Type} {xs:List α} {j:Nat} {v:α} (h:xs[j]?=some v):atI xs (j:Int)=some v:=by
 have hj:j < xs.length:=(List.getElem?_eq_some_iff.mp h).1
 have e:ixN xs.length (j:Int)=some j:=by
  unfold ixN
  rw [if_pos (by lia),if_pos (by lia)]; simp
 unfold atI; rw [e]; exact h
theorem atI_last {α:Type} (xs:List α) (v:α):atI (xs++[v]) (-1)=some v:=by
 have hl:(xs++[v]).length=xs.length + 1:=by simp
 have e:ixN (xs++[v]).length (-1)=some xs.length:=by
  unfold ixN
  rw [hl,if_neg (by decide),if_pos (by lia)]
  congr 1
  lia
 unfold atI
 rw [e]
 show (xs++[v])[xs.length]?=some v
 simp
noncomputable def PlainIx (b:Expr):Prop:=∀ o i,subscripted b false o i=operate [o,i] (getItem o i)
noncomputable def IxR (X:Cx) (r:R2):Prop :=
 ∀ (value slice:Expr) (pins:List (Addr×Obj)) (s:Shared) (σ:St) (H:Hp) (x y:V) (v u:Value) (Q:VK),Inv X pins σ H s→RelV x v→RelV y u→r x y H Q →
  subscripted slice false v u=operate [v,u] (getItem v u)→wpAny (model X.prog X.w) X.A (subscriptTail value slice v u) (EP X pins σ Q) X.xe s
noncomputable def MtR (X:Cx) (id:String) (r:V→List V→Hp→VK→Prop):Prop :=
 ∀ (pins:List (Addr×Obj)) (s:Shared) (σ:St) (H:Hp) (x:V) (xs:List V) (v:Value) (us:List Value) (Q:VK),Inv X pins σ H s→RelV x v→Vals xs us→r x xs H Q →
  wpAny (model X.prog X.w) X.A (call (.builtin id) (v :: us)) (EP X pins σ Q) X.xe s
section
variable {X:Cx} {a b:Expr} {ta tb:TE} {pos:Pos}
theorem pe_ix {r:R2} (hr:IxR X r) (ha:PE X a ta) (hb:PE X b tb) (hs:PlainIx b):PE X (.Subscript a b pos) (tOp r ta tb):=by
 intro pins s σ H Q I h
 exact Subscript_ (binT ha hb I h fun v u s2 x y H2 I2 rx ry q=>hr a b pins s2 σ H2 x y v u Q I2 rx ry q (hs _ _))
inductive PrIxL (K:PySem.W.Frag) (x:V) (y:V) (H:Hp) (Q:VK):Prop
 | mk (p xs i v:_) (h0:x=.ref p) (h1:y=.int i) (h2:SqL K H p xs) (h3:atI xs i=some v) (h4:Q v H):PrIxL K x y H Q
noncomputable def rIxL (K:PySem.W.Frag):R2:=fun x y H Q=>PrIxL K x y H Q
inductive PrIxT (K:PySem.W.Frag) (x:V) (y:V) (H:Hp) (Q:VK):Prop
 | mk (p xs i v:_) (h0:x=.ref p) (h1:y=.int i) (h2:SqT K H p xs) (h3:atI xs i=some v) (h4:Q v H):PrIxT K x y H Q
noncomputable def rIxT (K:PySem.W.Frag):R2:=fun x y H Q=>PrIxT K x y H Q
theorem ix_list:IxR X (rIxL X.K):=by
 intro value slice pins s σ H x y v u Q I rx ry h hs
 refine bC fun g_=>?_
 obtain ⟨p,xs,i,z,e150_,e151_,hq,he,q⟩:=h
 refine g_ ?_
 clear g_
 obtain rfl:=e150_
 obtain rfl:=e151_
 cases rx
 refine bC fun g_=>?_
 obtain ⟨t,e152_⟩:=ry
 obtain ⟨its,r,pl,hz⟩:=I.list hq
 obtain ⟨j,h1,h2,h3,h4,h5⟩:=atI_get he
 obtain ⟨w,ew,rw'⟩:=r.get h2
 refine g_ ?_
 clear g_
 obtain rfl:=e152_
 have hl:=r.length
 have hn:=line63
 have fin:EP X pins σ Q w s:=⟨z,H,I,rw',q⟩
 by_cases h0:0≤i
 ·have hj:i.toNat=j:=by
   rw [seqIndex_of h0 h5] at h1
   exact Option.some.inj h1
  exact item_listR pl.isList h0 (by lia) (by rw [hj]; simpa using ew) fin hs
 ·have hj:(i + (its.toArray.size:Int)).toNat=j:=by
   rw [seqIndex_neg (by lia) h4] at h1
   rw [List.size_toArray,← hl]
   exact Option.some.inj h1
  exact subscriptTail_builtinR (x:=w) pl.isList.typeIs slot_list_getitem.lookup
   (wpAny_getItem_list_neg (Q:=fun r s'=>r=w∧EP X pins σ Q r s') pl.isList (by lia) (by rw [List.size_toArray] <;> lia) (by lia) (by rw [hj]; simpa using ew) ⟨rfl,fin⟩) hs
theorem ix_tup:IxR X (rIxT X.K):=by
 intro value slice pins s σ H x y v u Q I rx ry h hs
 refine bC fun g_=>?_
 obtain ⟨p,xs,i,z,e153_,e154_,hq,he,q⟩:=h
 refine g_ ?_
 clear g_
 obtain rfl:=e153_
 obtain rfl:=e154_
 cases rx
 refine bC fun g_=>?_
 obtain ⟨t,e155_⟩:=ry
 obtain ⟨its,r,pl,hz⟩:=I.tuple hq
 obtain ⟨j,h1,h2,h3,h4,h5⟩:=atI_get he
 obtain ⟨w,ew,rw'⟩:=r.get h2
 refine g_ ?_
 clear g_
 obtain rfl:=e155_
 have hl:=r.length
 have hn:=line63
 have fin:EP X pins σ Q w s:=⟨z,H,I,rw',q⟩
 exact subscriptTail_builtinR (x:=w) pl.typeIs slot_tuple_getitem.lookup
  (getItem_tuple (j:=j) (Q:=fun r s'=>r=w∧EP X pins σ Q r s') pl (by lia) (by lia) (by rw [List.size_toArray,← hl]; exact h1) (by simpa using ew) ⟨rfl,fin⟩) hs
theorem mapSeq_set (its:List Value) (n j:Nat) (u:Value):Obj.mapSeq (·.setIfInBounds j u) { cls:=.type "list",data:=.seq its.toArray n }={ cls:=.type "list",data:=.seq (its.set j u).toArray n }:=by
 simp [Obj.mapSeq]
theorem Inv.lst {pins:List (Addr×Obj)} {σ:St} {H:Hp} {s:Shared} {p:Addr} {xs:List V} (I:Inv X pins σ H s) (h:H p=some (.lst xs)) :
  ∃ (its:List Value) (n:Nat),Vals xs its∧s.heap.get? p=some { cls:=.type "list",data:=.seq its.toArray n }∧xs.length≤sizeLine:=by
 refine bC fun g_=>?_
 obtain ⟨z,its,n,r,e⟩:=I.hok p _ h
 refine g_ ?_
 clear g_
 exact ⟨its,n,r,e,z⟩
theorem Inv.lstUpd {pins:List (Addr×Obj)} {σ:St} {H:Hp} {s:Shared} {p:Addr} {xs ys:List V} {its its':List Value} {n n':Nat} {f:Obj→Obj} (I:Inv X pins σ H s) (h:H p=some (.lst xs))
  (ho:s.heap.get? p=some { cls:=.type "list",data:=.seq its.toArray n }) (hf:f { cls:=.type "list",data:=.seq its.toArray n }={ cls:=.type "list",data:=.seq its'.toArray n' }) (r:Vals ys its') (hz:ys.length≤sizeLine) (t:Nat) :
  Inv X pins σ (upd H p (.lst ys)) { s with heap:=s.heap.update p f,toks:=t }:=by
 have e:(s.heap.update p f).get? p=some { cls:=.type "list",data:=.seq its'.toArray n' }:=by
  rw [Heap.get?_update_self f ho (by rw [hf] <;> rfl),hf]
 refine I.write (x:=p) (e:=p) (by rw [h]; trivial) (.inl rfl) (fun b u hb q=>(Heap.get?_update_other _ _ (Ne.symm hb)).trans q) ⟨_,e⟩ ?_
 exact ⟨hz,its',n',r,e⟩
inductive PrSetL (o:V) (i:V) (v:V) (H:Hp) (Q:(Hp→Prop)):Prop
 | mk (p xs k j:_) (h0:o=.ref p) (h1:i=.int k) (h2:H p=some (.lst xs)) (h3:ixN xs.length k=some j) (h4:Q (upd H p (.lst (xs.set j v)))):PrSetL  o i v H Q
noncomputable def rSetL:V→V→V→Hp→(Hp→Prop)→Prop:=fun o i v H Q=>PrSetL  o i v H Q
theorem set_list:PSet X rSetL:=by
 intro pins s σ H o i v ov iv u Q I ro ri rv h
 refine bC fun g_=>?_
 obtain ⟨p,xs,k,j,e160_,e161_,hp,hj,q⟩:=h
 refine g_ ?_
 clear g_
 obtain rfl:=e160_
 obtain rfl:=e161_
 cases ro
 refine bC fun g_=>?_
 obtain ⟨t,e162_⟩:=ri
 obtain ⟨its,n,r,ho,hz⟩:=I.lst hp
 obtain ⟨h1,h2,h3,h4⟩:=ixN_seq hj
 refine g_ ?_
 clear g_
 obtain rfl:=e162_
 have hl:=r.length
 have hn:=line63
 have I':Inv X pins σ (upd H p (.lst (xs.set j v))) { s with heap:=s.heap.update p (Obj.mapSeq (·.setIfInBounds j u)) } :=
  I.lstUpd hp ho (mapSeq_set its n j u) (r.set rv j) (by rw [List.length_set]; exact hz) s.toks
 by_cases h0:0≤k
 ·have hk:k.toNat=j:=by
   rw [seqIndex_of h0 h4] at h1
   exact Option.some.inj h1
  exact PySem.W.ki_setAt ho h0 (by lia) (by rw [List.size_toArray,← hl]; exact h4) (by rw [hk]; exact ⟨_,I',q⟩)
 ·have hk:(k + (its.toArray.size:Int)).toNat=j:=by
   rw [seqIndex_neg (by lia) h3] at h1
   rw [List.size_toArray,← hl]
   exact Option.some.inj h1
  exact PySem.W.ki_setBack ho (by lia) (by rw [List.size_toArray,← hl]; exact h3) (by lia) (by rw [hk]; exact ⟨_,I',q⟩)
theorem slice_bounds (lo hi:Option Int) (n:Nat):(sliceBounds lo hi none n).1=((HT.sIx n 0 lo:Nat):Int)∧(sliceBounds lo hi none n).2.1=((HT.sIx n n hi:Nat):Int)∧(sliceBounds lo hi none n).2.2=1:=by
 refine ⟨?_,?_,rfl⟩
 ·cases lo with
  | none=>simp [sliceBounds,HT.sIx]
  | some i =>
   simp only [sliceBounds,HT.sIx,Option.getD_none,show (1:Int) > 0 by decide,if_true]
   by_cases h:i < 0
   ·simp only [h,if_true] <;> lia
   ·simp only [h,if_false] <;> lia
 ·cases hi with
  | none=>simp [sliceBounds,HT.sIx]
  | some i =>
   simp only [sliceBounds,HT.sIx,Option.getD_none,show (1:Int) > 0 by decide,if_true]
   by_cases h:i < 0
   ·simp only [h,if_true] <;> lia
   ·simp only [h,if_false] <;> lia
theorem slicePick_cut (its:List Value) (lo hi:Option Int):slicePick its.toArray lo hi none=((its.drop (HT.sIx its.length 0 lo)).take (HT.sIx its.length its.length hi - HT.sIx its.length 0 lo)).toArray:=by
 refine bC fun g_=>?_
 obtain ⟨h1,h2,h3⟩:=slice_bounds lo hi its.toArray.size
 refine g_ ?_
 clear g_
 unfold slicePick
 rw [h1,h2,h3]
 simp only [sliceRange_one,pick_run,List.size_toArray] <;> rfl
inductive PrSlL (K:PySem.W.Frag) (x:V) (lo:Option Int) (hi:Option Int) (H:Hp) (Q:VK):Prop
 | mk (a xs:_) (h0:x=.ref a) (h1:SqL K H a xs) (h2:∀ p,H p=none→Q (.ref p) (upd H p (.lst (cutV xs lo hi)))):PrSlL K x lo hi H Q
noncomputable def rSlL (K:PySem.W.Frag):V→Option Int→Option Int→Hp→VK→Prop:=fun x lo hi H Q=>PrSlL K x lo hi H Q
theorem sl_list:SlR X (rSlL X.K):=by
 intro pins s σ H x v vl vu lo hi sl Q I rx hs pl pu h
 refine bC fun g_=>?_
 obtain ⟨a,xs,e163_,hx,q⟩:=h
 refine g_ ?_
 clear g_
 obtain rfl:=e163_
 cases rx
 refine bC fun g_=>?_
 obtain ⟨its,r,ht,hz⟩:=I.list hx
 refine g_ ?_
 clear g_
 have hlen:=r.length
 refine ⟨"list",_,slot_list_getitem.lookup,ht.isList.typeIs,?_⟩
 refine wpAny_getItem_list_slice ht.isList hs pl pu .none (by simp) ?_ (by rw [List.size_toArray] <;> lia)
 rw [slicePick_cut,← hlen]
 refine ⟨.ref s.heap.objs.size,_,I.laid (t':=s.toks) (o:=.lst (cutV xs lo hi)) (fun b ob q=>Heap.get?_push_of_some _ q) (Nat.le_refl _) ?_,rfl,q _ (I.hok.fresh (Nat.le_refl _))⟩
 exact ⟨Nat.le_trans (cutV_length xs lo hi) hz,_,0,(r.drop (HT.sIx xs.length 0 lo)).take (HT.sIx xs.length xs.length hi - HT.sIx xs.length 0 lo),Heap.get?_push_size _ rfl⟩
inductive rLen (K:PySem.W.Frag) (xs:List V) (H:Hp) (Q:VK):Prop
 | mk (p:Addr) (ys:List V) (h0:xs=[.ref p]) (h1:SqL K H p ys∨SqT K H p ys) (h2:Q (.int ys.length) H):rLen K xs H Q
theorem call_len_seq:CallR X (.builtin "len") (rLen X.K):=by
 intro pins s σ H xs us Q I r h
 obtain ⟨p,ys,rfl,hq,q⟩:=h
 obtain ⟨u,rfl,rx⟩:=vals1 r
 cases rx
 have hn:=line63
 rcases hq with hq | hq
 ·refine bC fun g_=>?_
  obtain ⟨its,r',pl,hz⟩:=I.list hq
  refine g_ ?_
  clear g_
  have hlen:=r'.length
  exact Calls.call_len_list pl.isList (by simp only [List.size_toArray] <;> lia) ⟨.int ys.length,H,I.tok _,⟨s.toks + 1,by rw [List.size_toArray,hlen]⟩,q⟩
 ·refine bC fun g_=>?_
  obtain ⟨its,r',pl,hz⟩:=I.tuple hq
  refine g_ ?_
  clear g_
  have hlen:=r'.length
  exact len_tuple pl (by simp only [List.size_toArray] <;> lia) ⟨.int ys.length,H,I.tok _,⟨s.toks + 1,by rw [List.size_toArray,hlen]⟩,q⟩
inductive rListOf (K:PySem.W.Frag) (xs:List V) (H:Hp) (Q:VK):Prop
 | mk (p:Addr) (ys:List V) (h0:xs=[.ref p]) (h1:SqL K H p ys∨SqT K H p ys) (h2:∀ l,H l=none→Q (.ref l) (upd H l (.lst ys))):rListOf K xs H Q
theorem call_list_of:CallR X (.type "list") (rListOf X.K):=by
 intro pins s σ H xs us Q I r h
 obtain ⟨p,ys,rfl,hq,q⟩:=h
 obtain ⟨u,rfl,rx⟩:=vals1 r
 cases rx
 have fin:∀ (its:List Value),Vals ys its→ys.length≤sizeLine→∀ (h':Heap) (c':Nat),(∀ b o',s.heap.get? b=some o'→h'.get? b=some o') →
   h'.get? s.heap.objs.size=some { cls:=.type "list",dict:=none,data:=.seq its.toArray c',slots:=#[] }→EP X pins σ Q (.ref s.heap.objs.size) { s with heap:=h' }:=fun its r' hz h' c' kp e =>
  ⟨.ref s.heap.objs.size,_,I.laid (t':=s.toks) kp (Nat.le_refl _) (show ObjOk X.prog X.w _ h' _ (.lst ys) from ⟨hz,its,c',r',e⟩),rfl,q _ (I.hok.fresh (Nat.le_refl _))⟩
 rcases hq with hq | hq
 ·refine bC fun g_=>?_
  obtain ⟨its,r',pl,hz⟩:=I.list hq
  refine g_ ?_
  clear g_
  have hlen:=r'.length
  refine bC fun g_=>?_
  obtain ⟨o,ho,hc,n,hd⟩:=pl.isList
  refine g_ ?_
  clear g_
  exact call_list_seq p (.inl rfl) ho hc hd (fun h' c' kp e=>fin its r' hz h' c' kp e) (by simp only [List.size_toArray] <;> lia)
 ·refine bC fun g_=>?_
  obtain ⟨its,r',pl,hz⟩:=I.tuple hq
  refine g_ ?_
  clear g_
  have hlen:=r'.length
  refine bC fun g_=>?_
  obtain ⟨o,ho,hc,n,hd⟩:=pl
  refine g_ ?_
  clear g_
  exact call_list_seq p (.inr rfl) ho hc hd (fun h' c' kp e=>fin its r' hz h' c' kp e) (by simp only [List.size_toArray] <;> lia)
noncomputable def tyV (K:PySem.W.Frag) (T:String) (x:V) (H:Hp):Prop:=match x with
 | .str _=>T="str"
 | .int _=>T="int"
 | .ref p=>(T="list"∧∃ xs,SqL K H p xs)∨(T="tuple"∧∃ o,K.lookup p=some o∧o.cls=.type "tuple"∧o.dict=none) ∨
   (T="dict"∧((∃ kvs,H p=some (.dK kvs))∨∃ kvs,H p=some (.dT kvs)))∨(T="set"∧∃ S n,H p=some (.set S n))
 | _=>False
theorem tyV_is {pins:List (Addr×Obj)} {σ:St} {H:Hp} {s:Shared} {T:String} {x:V} {v:Value} (I:Inv X pins σ H s) (r:RelV x v) (ty:tyV X.K T x H) :
  s.TypeIs v T∧∀ a,v=.ref a→∃ ob,s.heap.get? a=some ob∧ob.dict=none:=by
 cases x with
 | str z =>
  obtain ⟨t,rfl⟩:=r
  cases (show T="str" from ty)
  exact ⟨typeIs_str s z t,fun Z e=>nomatch e⟩
 | int i =>
  obtain ⟨t,rfl⟩:=r
  cases (show T="int" from ty)
  exact ⟨typeIs_int s i t,fun Z e=>nomatch e⟩
 | ref p =>
  cases r
  rcases ty with ⟨rfl,xs,hq⟩ | ⟨rfl,o,hk,hc,hd⟩ | ⟨rfl,hk⟩ | ⟨rfl,S,n,hk⟩
  ·refine bC fun g_=>?_
   obtain ⟨its,_,pl,_⟩:=I.list hq
   refine g_ ?_
   clear g_
   refine ⟨pl.isList.typeIs,fun a e=>?_⟩
   cases e
   refine bC fun g_=>?_
   obtain ⟨o,n,e,c,hd,_⟩:=pl
   refine g_ ?_
   clear g_
   exact ⟨o,e,hd⟩
  ·refine ⟨⟨o,I.kIn p o hk,hc⟩,fun a e=>?_⟩
   cases e
   exact ⟨o,I.kIn _ o hk,hd⟩
  ·have z:∃ o,s.heap.get? p=some o∧o.ExactDict:=by
    rcases hk with ⟨kvs,hk⟩ | ⟨kvs,hk⟩
    ·refine bC fun g_=>?_
     obtain ⟨_,_,_,_,o,_,_,e,ex,_⟩:=I.hok p _ hk
     refine g_ ?_
     clear g_
     exact ⟨o,e,ex⟩
    ·refine bC fun g_=>?_
     obtain ⟨_,_,_,_,o,_,_,e,ex,_⟩:=I.hok p _ hk
     refine g_ ?_
     clear g_
     exact ⟨o,e,ex⟩
   refine bC fun g_=>?_
   obtain ⟨o,e,ex⟩:=z
   refine g_ ?_
   clear g_
   refine ⟨⟨o,e,ex.1⟩,fun a e2=>?_⟩
   cases e2
   exact ⟨o,e,ex.2.1⟩
  ·refine bC fun g_=>?_
   obtain ⟨o,_,_,_,e,ex,_⟩:=I.hok p _ hk
   refine g_ ?_
   clear g_
   refine ⟨⟨o,e,ex.1⟩,fun a e2=>?_⟩
   cases e2
   exact ⟨o,e,ex.2.1⟩
 | _=>exact False.elim ty
noncomputable def tBM0 (K:PySem.W.Frag) (T:String) (r:V→List V→Hp→VK→Prop) (to:TE):TE:=fun σ H Q=>to σ H fun x H1=>tyV K T x H1∧r x [] H1 Q
noncomputable def tBM (K:PySem.W.Frag) (T:String) (r:V→List V→Hp→VK→Prop) (to:TE) (t:TA):TE:=fun σ H Q=>to σ H fun x H1=>tyV K T x H1∧t σ H1 fun xs H2=>r x xs H2 Q
variable {o e:Expr} {es:List Expr} {to:TE} {t:TA} {name:Str} {apos cpos:Pos} {T id:String} {r:V→List V→Hp→VK→Prop}
theorem pe_bm0 (pa:PlainAttrs T) (slot:Slot T name id) (hty:typeOf (.builtin id)=pure (.type "method_descriptor")) (hm:MtR X id r) (ho:PE X o to)
  (hbase:attributeBase o name X.env (eval o X.env)=eval o X.env:=by rfl) (hline:(apos.endLine == cpos.line)=true:=by rfl):PE X (.Call (.Attribute o name apos) [] [] cpos) (tBM0 X.K T r to):=by
 intro pins s σ H Q I h
 refine wpAny_Call_method0_late hbase hline (thn (ho pins s σ H _ I h) fun v s1 hm_=>?_)
 refine bC fun g_=>?_
 obtain ⟨x,H1,I1,r1,ty,q1⟩:=hm_
 obtain ⟨h1,h2⟩:=tyV_is I1 r1 ty
 refine g_ ?_
 clear g_
 exact ⟨T,id,pa,slot,hty,h1,h2,Calls.callWith_builtin rfl (PySem.evalArgs_none (hm pins s1 σ H1 x [] v [] Q I1 r1 .nil q1))⟩
theorem pe_bm (pa:PlainAttrs T) (slot:Slot T name id) (hty:typeOf (.builtin id)=pure (.type "method_descriptor")) (hm:MtR X id r) (ho:PE X o to) (ha:PA X (e :: es) t)
  (hbase:attributeBase o name X.env (eval o X.env)=eval o X.env:=by rfl)
  (hfew:((backTo cpos (starEach (e :: es) X.env)).all (fun x=>!x.1) && (backToKw cpos (keywordEach [] X.env)).all (fun x=>x.1.isSome)
   && decide ((e :: es).length + ([]:List Keyword).length + (if ([]:List Keyword).isEmpty then 0 else 1) < 30))=true:=by rfl)
  (hline:(apos.endLine == cpos.line)=true:=by rfl) (hs:starEach (e :: es) X.env=(false,eval e X.env) :: starEach es X.env:=by rfl) (hplain:(backTo cpos (starEach es X.env)).any (·.1)=false:=by rfl) :
  PE X (.Call (.Attribute o name apos) (e :: es) [] cpos) (tBM X.K T r to t):=by
 intro pins s σ H Q I h
 refine wpAny_Call_method_late hbase hfew hline rfl (thn (ho pins s σ H _ I h) fun v s1 hm_=>?_)
 refine bC fun g_=>?_
 obtain ⟨x,H1,I1,r1,ty,q1⟩:=hm_
 obtain ⟨h1,h2⟩:=tyV_is I1 r1 ty
 refine g_ ?_
 clear g_
 refine ⟨T,id,pa,slot,hty,h1,h2,?_⟩
 have hA:=ha cpos pins s1 σ H1 _ I1 q1
 rw [hs] at hA ⊢
 refine Calls.callWith_builtin (by show (false || (backTo cpos (starEach es X.env)).any (·.1))=false; rw [hplain] <;> rfl) (Calls.evalArgs_plain ?_)
 exact thn hA fun us s2 ⟨vs,H2,I2,r2,q2⟩=>hm pins s2 σ H2 x vs v us Q I2 r1 r2 q2
end
noncomputable def MtM (X:Cx) (id:String) (r:V→List V→Hp→VK→Prop):Prop :=
 ∀ (pins:List (Addr×Obj)) (s:Shared) (σ:St) (H:Hp) (x:V) (xs:List V) (v:Value) (us:List Value) (Q:VK),Inv X pins σ H s→RelV x v→Vals xs us→r x xs H Q →
  wpAny (model X.prog X.w) X.A (call (.builtin id) (v :: us)) (EP X pins σ Q) X.xe s
theorem Vals.one {x:V} {us:List Value} (h:Vals [x] us):∃ u,us=[u]∧RelV x u:=by
 cases h with
 | cons r q=>cases q; exact ⟨_,rfl,r⟩
theorem Vals.two {x y:V} {us:List Value} (h:Vals [x,y] us):∃ u v,us=[u,v]∧RelV x u∧RelV y v:=by
 cases h with
 | cons r q =>
  refine bC fun g_=>?_
  obtain ⟨u,e,q2⟩:=Vals.one q
  refine g_ ?_
  clear g_
  exact ⟨_,_,by rw [e],r,q2⟩
theorem Vals.zero:∀ {us:List Value},Vals [] us→us=[]
 | _,.nil=>rfl
theorem Vals.dropLast {xs:List V} {us:List Value} (h:Vals xs us):Vals xs.dropLast us.dropLast:=by
 induction h with
 | nil=>exact .nil
 | cons r t ih =>
  cases t with
  | nil=>exact .nil
  | cons q t'=>exact .cons r ih
theorem erase_last {α:Type} (l:List α):l.eraseIdx (l.length - 1)=l.dropLast:=by
 induction l with
 | nil=>rfl
 | cons a r ih =>
  cases r with
  | nil=>rfl
  | cons b r =>
   have e:(a :: b :: r).length - 1=((b :: r).length - 1) + 1:=by
    have h1:(a :: b :: r).length=r.length + 2:=rfl
    have h2:(b :: r).length=r.length + 1:=rfl
    lia
   rw [e,List.eraseIdx_cons_succ,ih]
   all_goals rfl
section
variable {X:Cx} {pins:List (Addr×Obj)} {σ:St} {H:Hp} {s:Shared} {l b:Addr} {xs ys zs:List V}
theorem Inv.lset {its its':List Value} {n:Nat} {f:Array Value→Array Value} {t':Nat} (I:Inv X pins σ H s) (hH:H l=some (.lst xs))
  (e:s.heap.get? l=some { cls:=.type "list",data:=.seq its.toArray n }) (hf:f its.toArray=its'.toArray) (hv:Vals ys its') (hz:ys.length≤sizeLine) :
  Inv X pins σ (upd H l (.lst ys)) { s with heap:=s.heap.update l (Obj.mapSeq f),toks:=t' }:=by
 have q:=PySem.IsL.update e f
 rw [hf] at q
 refine I.write (x:=l) (e:=l) (by rw [hH]; exact trivial) (.inl rfl) (fun b' u hb hu=>(Heap.get?_update_other s.heap (Obj.mapSeq f) (Ne.symm hb)).trans hu) ⟨_,q⟩ ?_
 exact ⟨hz,its',_,hv,q⟩
theorem Inv.lnew {its:List Value} {t':Nat} (I:Inv X pins σ H s) (hv:Vals ys its) (hz:ys.length≤sizeLine) :
  Inv X pins σ (upd H s.heap.objs.size (.lst ys)) { s with heap:=s.heap.push { cls:=.type "list",data:=.seq its.toArray },toks:=t' } :=
 I.laid (fun Z Z q=>Heap.get?_push_of_some _ q) (Nat.le_refl _) ⟨hz,its,0,hv,Heap.get?_push_size _ rfl⟩
theorem Inv.fresh (I:Inv X pins σ H s):H s.heap.objs.size=none:=I.hok.fresh (Nat.le_refl _)
theorem Inv.lstM (I:Inv X pins σ H s) (hH:H l=some (.lst xs)):xs.length≤sizeLine∧∃ (its:List Value) (n:Nat),Vals xs its∧xs.length=its.length∧s.heap.get? l=some { cls:=.type "list",data:=.seq its.toArray n }:=by
 refine bC fun g_=>?_
 obtain ⟨z,its,n,r,e⟩:=I.hok l _ hH
 refine g_ ?_
 clear g_
 exact ⟨z,its,n,r,r.length,e⟩
theorem notLongL {n:Nat} (h:n≤sizeLine):Builtin.List.listTooLong n=false:=by
 unfold Builtin.List.listTooLong
 exact decide_eq_false (by lia)
end
section
variable {X:Cx}
inductive PrAppend (x:V) (vs:List V) (H:Hp) (Q:VK):Prop
 | mk (l xs y:_) (h0:x=.ref l) (h1:vs=[y]) (h2:H l=some (.lst xs)) (h3:xs.length < sizeLine) (h4:Q .non (upd H l (.lst (xs++[y])))):PrAppend  x vs H Q
noncomputable def rAppend:V→List V→Hp→VK→Prop:=fun x vs H Q=>PrAppend  x vs H Q
theorem mt_append:MtM X "list.append" rAppend:=by
 intro pins s σ H x vs v us Q I rx rv h
 refine bC fun g_=>?_
 obtain ⟨l,xs,y,e183_,e184_,hH,hz,q⟩:=h
 refine g_ ?_
 clear g_
 obtain rfl:=e183_
 obtain rfl:=e184_
 cases rx
 refine bC fun g_=>?_
 obtain ⟨u,e185_,ru⟩:=rv.one
 obtain ⟨z,its,n,r,hl,e⟩:=I.lstM hH
 refine g_ ?_
 clear g_
 obtain rfl:=e185_
 refine call_meets F.slot_list_append ⟨_,e,rfl⟩ F.entry_list_append (F.args_list_append_2 _ _) (PySem.list_append l its.toArray n u (by rw [List.size_toArray]; lia)) ⟨e,?_⟩
 refine ⟨.non,_,I.lset (its':=its++[u]) hH e (by simp) (r.append (.cons ru .nil)) ?_,rfl,q⟩
 rw [List.length_append,List.length_singleton]
 lia
noncomputable def rExtend:V→List V→Hp→VK→Prop:=fun x vs H Q=>∃ l b xs zs,x=.ref l∧vs=[.ref b]∧H l=some (.lst xs)∧H b=some (.lst zs)∧xs.length + zs.length≤sizeLine∧Q .non (upd H l (.lst (xs++zs)))
theorem mt_extend:MtM X "list.extend" rExtend:=by
 intro pins s σ H x vs v us Q I rx rv h
 refine bC fun g_=>?_
 obtain ⟨l,b,xs,zs,e186_,e187_,hH,hB,hz,q⟩:=h
 refine g_ ?_
 clear g_
 obtain rfl:=e186_
 obtain rfl:=e187_
 cases rx
 obtain ⟨u,rfl,ru⟩:=rv.one
 cases ru
 refine bC fun g_=>?_
 obtain ⟨z,its,n,r,hl,e⟩:=I.lstM hH
 obtain ⟨z2,its2,n2,r2,hl2,e2⟩:=I.lstM hB
 refine g_ ?_
 clear g_
 have hsz:its.toArray.size + its2.toArray.size≤sizeLine:=by rw [List.size_toArray,List.size_toArray]; lia
 have hlong:¬ (!its.toArray.isEmpty && Builtin.List.listTooLong (its.toArray.size + its2.toArray.size))=true:=by
  rw [notLongL hsz,Bool.and_false]
  exact Bool.false_ne_true
 refine call_meets F.slot_list_extend ⟨_,e,rfl⟩ F.entry_list_extend (F.args_list_extend_2 _ _)
  (AutoSeq1.list_extend_list_list_0 l its.toArray n b its2.toArray n2 hlong (by rw [List.size_toArray]; lia) (by lia)) ⟨e,e2,?_⟩
 refine ⟨.non,_,I.lset (its':=its++its2) hH e (by simp) (r.append r2) ?_,rfl,q⟩
 rw [List.length_append]
 lia
noncomputable def rPop:V→List V→Hp→VK→Prop:=fun x vs H Q=>∃ l xs y,x=.ref l∧vs=[]∧H l=some (.lst xs)∧xs[xs.length - 1]?=some y∧Q y (upd H l (.lst xs.dropLast))
theorem mt_pop:MtM X "list.pop" rPop:=by
 intro pins s σ H x vs v us Q I rx rv h
 refine bC fun g_=>?_
 obtain ⟨l,xs,y,e189_,e190_,hH,hy,q⟩:=h
 refine g_ ?_
 clear g_
 obtain rfl:=e189_
 obtain rfl:=e190_
 cases rx
 have hus:=rv.zero
 subst hus
 refine bC fun g_=>?_
 obtain ⟨z,its,n,r,hl,e⟩:=I.lstM hH
 obtain ⟨u,hu,ru⟩:=r.get hy
 refine g_ ?_
 clear g_
 have hy':its.toArray[its.toArray.size - 1]?=some u:=by
  show its.toArray[its.length - 1]?=some u
  rw [← Array.getElem?_toList,← hl]
  exact hu
 refine call_meets F.slot_list_pop ⟨_,e,rfl⟩ F.entry_list_pop (F.args_list_pop_1 _) (MeetsSeq.list_pop_last l its.toArray n u hy' (by rw [List.size_toArray]; lia)) ⟨e,?_⟩
 refine ⟨y,_,I.lset (its':=its.dropLast) hH e ?_ r.dropLast ?_,ru,q⟩
 ·show its.toArray.eraseIdxIfInBounds (its.toArray.size - 1)=its.dropLast.toArray
  rw [List.size_toArray,List.eraseIdxIfInBounds_toArray,erase_last]
 ·rw [List.length_dropLast]
  lia
inductive PrCat (x:V) (y:V) (H:Hp) (Q:VK):Prop
 | mk (l b xs zs:_) (h0:x=.ref l) (h1:y=.ref b) (h2:H l=some (.lst xs)) (h3:H b=some (.lst zs)) (h4:xs.length + zs.length≤sizeLine) (h5:∀ p,H p=none→Q (.ref p) (upd H p (.lst (xs++zs)))):PrCat  x y H Q
noncomputable def rCat:R2:=fun x y H Q=>PrCat  x y H Q
theorem op_cat:OpR X (binaryOp .Add) rCat:=by
 intro pins s σ H x y v u Q I rx ry h
 refine bC fun g_=>?_
 obtain ⟨l,b,xs,zs,e199_,e200_,hH,hB,hz,q⟩:=h
 refine g_ ?_
 clear g_
 obtain rfl:=e199_
 obtain rfl:=e200_
 cases rx
 cases ry
 refine bC fun g_=>?_
 obtain ⟨z,its,n,r,hl,e⟩:=I.lstM hH
 obtain ⟨z2,its2,n2,r2,hl2,e2⟩:=I.lstM hB
 refine g_ ?_
 clear g_
 refine PySem.P.add_list e e2 ?_ (by rw [List.size_toArray,List.size_toArray]; lia)
 have ea:its.toArray++its2.toArray=(its++its2).toArray:=by simp
 rw [ea]
 exact ⟨.ref _,_,I.lnew (t':=s.toks) (r.append r2) (by rw [List.length_append]; lia),rfl,q _ I.fresh⟩
end
section
variable {prog:Program} {w:World} {A:Around} {E:Value→Shared→Prop} {s:Shared}
set_option maxRecDepth 100000 in
end
section
variable {X:Cx}
end
end L2
namespace Att
open PySem PySem.W PySem.Calls PyProof.Rows
theorem ints_of_wellAll {P:Params} {h:Heap}:∀ (ns:List Int) (vs:List Value),WellAll P h vs (ns.map WData.int)→IntsAre vs ns:=by
 intro ns
 induction ns with
 | nil =>
  intro vs w
  rw [List.map_nil] at w
  cases w
  exact .nil
 | cons n ns ih =>
  intro vs w
  rw [List.map_cons] at w
  cases w with
  | cons a b =>
   cases a
   exact .cons _ _ (ih _ b)
theorem script_of {l:OpenLaw} {n:Nat} (hn:l.most=some n) {P:Params} {h:Heap} {args:List WData} {vals:List Value}
  (hpre:l.row.toRowW.claim.pre args=true) (hwl:WellAll P h vals args) :
  ∃ a vs ns,vals=[Value.ref a]∧args=[WData.list (ns.map WData.int)]∧h.get? a=some { cls:=.type "list",data:=.seq vs.toArray }∧IntsAre vs ns∧ns.length≤n:=by
 have hsh:WShape.hasAll [] args [.list .int]=true:=(pre_splitW hpre).1
 have hc:l.pre.holds [] { args:=args }=true:=(pre_splitW hpre).2
 refine bC fun g_=>?_
 obtain ⟨d,r,e208_,h1,h2⟩:=hasAllW_cons hsh
 refine g_ ?_
 clear g_
 obtain rfl:=e208_
 obtain rfl:=hasAllW_nil h2
 refine bC fun g_=>?_
 obtain ⟨xs,e209_,h3⟩:=hasW_list h1
 obtain ⟨ns,e210_⟩:=items_int h3
 refine g_ ?_
 clear g_
 obtain rfl:=e209_
 obtain rfl:=e210_
 have hlen:ns.length≤n:=by
  unfold OpenLaw.pre at hc
  have h4:(WTm.not (.lt (.lit (.int (n:Int))) (.len (.arg 0)))).holds [] { args:=[.list (ns.map .int)] }=true:=by
   have h4:=(holds_andW hc).1
   rw [hn] at h4
   exact h4
  have h5:=condW_of h4 (w_not (w_lt w_lit (w_len_list (w_arg rfl))))
  rw [List.length_map] at h5
  refine Nat.le_of_not_lt fun q=>?_
  have q':(n:Int) < ((ns.length:Nat):Int):=by lia
  first
   | (rw [decide_eq_true q'] at h5; exact absurd h5 (by decide))
   | (simp at h5; lia)
 cases hwl with
 | cons w1 w2 =>
  cases w2
  cases w1 with
  | list ho hall=>exact ⟨_,_,ns,rfl,rfl,ho,ints_of_wellAll ns _ hall,hlen⟩
theorem post_true (l:OpenLaw) (args:List WData):l.row.toRowW.claim.post args (.bool true) args=true :=
 postW_of (r:=l.row.toRowW) (X:=(true == true))
  (show WShape.has [] (.bool true) .bool=true by first | rfl | decide | simp [WShape.has,WShape.arms,WShape.armsAll])
  (show (WTm.eq .res (.lit (.bool true))).value [] { args:=args,res:=some (.bool true),after:=args }=some (.bool (true == true)) from w_eq_bool (w_res rfl) w_lit) rfl
theorem attach_call {l:OpenLaw} {n:Nat} {q:Program} {loose:List Str} {XP:(Str→Option Value)→Heap→Prop} {YP:World→Heap→Prop} {d:DefRec}
  (hn:l.most=some n) (hdf:d.params.defaults=[])
  (call:∀ (w:World) (s₀ s₁:Shared) (mg mb:Str→Option Value) (fa:Addr) (o:Obj) (pm cd doc:Value) (a:Addr) (vs:List Value) (ns:List Int),
   Ground q loose [] XP w s₀ mg mb s₁.heap→YP w s₁.heap →
   s₁.heap.get? fa=some o→o.data=.func (docDef d.name d.params d.body d.scope pm cd doc)→s₁.heap.CodeRec cd d.name→mg d.name=some (.ref fa) →
   s₁.heap.get? a=some { cls:=.type "list",data:=.seq vs.toArray }→IntsAre vs ns→ns.length≤n→s₁.gens=#[] →
   codeAny (model l.prog w) callerA (.call (.ref fa) ⟨[.ref a],[]⟩) (fun r s'=>r=.ok (.ret (.bool true))∧OldK s₁.heap s'.heap∧s'.os=s₁.os∧AllBare s'.gens) s₁) :
  WalkO q loose XP YP l.row.toRowW d [] (fun f vs=>PySem.call f vs):=by
 intro w s₀ s₁ mg mb G Y fa o pm cd doc dV kV ho hd hcd hD hmg hg args vals as hpre hlay hrd hwl hlo
 obtain rfl:dV=.none:=Dflts.none hD hdf
 obtain rfl:kV=.none:=Dflts.noKw hD
 refine bC fun g_=>?_
 obtain ⟨a,vs,ns,e214_,e215_,hobj,hints,hlen⟩:=script_of hn hpre hwl
 refine g_ ?_
 clear g_
 obtain rfl:=e214_
 obtain rfl:=e215_
 refine enter_call (codeAny_mono (call w s₀ s₁ mg mb fa o pm cd doc a vs ns G Y ho (fd_plain hd) hcd hmg hobj hints hlen hg) fun r s' hq=>?_)
 refine bC fun g_=>?_
 obtain ⟨e216_,h2,h3,h4⟩:=hq
 refine g_ ?_
 clear g_
 obtain rfl:=e216_
 exact ⟨.inl ⟨.bool true,.bool true,[],rfl,fun Z=>rfl,.bool true,post_true l _,fun Z=>⟨List.Pairwise.nil,fun Z hm=>(nomatch hm)⟩⟩,h2,h3,h4⟩
section
variable {prog:Program} {w:World} {A:Around} {E:Value→Shared→Prop} {s:Shared} {K:Frag}
end
end Att
namespace L2
open PySem PySem.Spec PyProof.Rows
theorem vals_ints:∀ {vs:List Value} {ns:List Int},IntsAre vs ns→Vals (ns.map V.int) vs
 | _,_,.nil=>.nil
 | _,_,.cons n t h=>.cons ⟨t,rfl⟩ (vals_ints h)
noncomputable abbrev KOf {K:PySem.W.Frag} {h:Heap} (_:K.In h):PySem.W.Frag:=K
end L2
namespace L2
open PySem PySem.Spec PyProof.Rows
noncomputable def inClass (s:Stmt) (j:Nat):Stmt:=match s with
 | .ClassDef _ _ _ body _ _ _ _ _ _ _=>body.getD j (.Pass ⟨0,0,0,0⟩)
 | _=>.Pass ⟨0,0,0,0⟩
noncomputable def defArgs (s:Stmt):Arguments:=match s with
 | .FunctionDef _ a _ _ _ _ _ _ _ _=>a
 | _=>{ posonlyargs:=[],args:=[],vararg:=none,kwonlyargs:=[],kw_defaults:=[],kwarg:=none,defaults:=[] }
noncomputable def defBody (s:Stmt):List Stmt:=match s with
 | .FunctionDef _ _ b _ _ _ _ _ _ _=>b
 | _=>[]
noncomputable def defScope (s:Stmt):Scope:=match s with
 | .FunctionDef _ _ _ _ _ _ sc _ _ _=>sc
 | _=>{ kind:=.function,names:=[],isGenerator:=false,isCoroutine:=false }
noncomputable abbrev E0:XK:=fun Z Z Z=>False
structure Fun (K:PySem.W.Frag) (x qual:Str) (st:Stmt) (f:Addr) (fd:FuncData):Prop where
 ex:∃ (oc:Value) (od:Option Addr) (kV doc pm:Value) (an:Option Addr) (cdv ct:Value) (osl:Array (Option Value)),
  fd=PySem.W.fnOf x qual (defArgs st) (defBody st) (defScope st) .none kV doc pm an cdv ct∧K.lookup f=some ⟨oc,od,.func fd,osl⟩∧PySem.W.codeIn K cdv qual=true
 kp:PySem.W.keepIn K (.ref f)=true
section
variable {P:Program} {w:World} {K:PySem.W.Frag} {mg:Str→Option Value} {base:Heap}
theorem Fun.binds {x qual:Str} {st:Stmt} {f:Addr} {fd:FuncData} {ps:List Str} (F:Fun K x qual st f fd)
  (h:∀ (kV doc pm:Value) (an:Option Addr) (cdv ct:Value) (us:List Value),us.length=ps.length→bindArgs (PySem.W.fnOf x qual (defArgs st) (defBody st) (defScope st) .none kV doc pm an cdv ct) ⟨us,[]⟩=pure (ps.zip us)):Binds K fd ps []:=by
 refine bC fun g_=>?_
 obtain ⟨oc,od,kV,doc,pm,an,cdv,ct,osl,e221_,lk,hcd⟩:=F.ex
 refine g_ ?_
 clear g_
 obtain rfl:=e221_
 exact .all (h kV doc pm an cdv ct)
theorem fun_mk {x qual:Str} {st:Stmt} {f:Addr} {oc:Value} {od an:Option Addr} {osl:Array (Option Value)} {kV doc pm cdv ct:Value} (l:K.lookup f=some ⟨oc,od,.func (PySem.W.fnOf x qual (defArgs st) (defBody st) (defScope st) .none kV doc pm an cdv ct),osl⟩)
  (c:PySem.W.codeIn K cdv qual=true) (k:PySem.W.keepIn K (.ref f)=true):Fun K x qual st f (PySem.W.fnOf x qual (defArgs st) (defBody st) (defScope st) .none kV doc pm an cdv ct):=⟨⟨oc,od,kV,doc,pm,an,cdv,ct,osl,rfl,l,c⟩,k⟩
end
section
variable {X:Cx}
theorem pv (i:Nat) {x:Str} {pos:Pos} (hN:X.N[i]?=some x:=by rfl) (hv:Vis X.env.scope x:=by first | exact Or.inl rfl | exact Or.inr (Or.inl rfl) | exact Or.inr (Or.inr rfl)) (hd:(x == ("__debug__":Str))=false:=by decide)
  (hcd:(x == ("__classdict__":Str))=false:=by decide):PE X (.Name x pos) (tVar i):=pe_var hN hv hd hcd
end
theorem iteF {A B:Prop} (h:B):if false=true then A else B:=by
 rw [if_neg Bool.false_ne_true]
 exact h
theorem ite2 {c A B:Prop} [Decidable c] (h1:c→A) (h2:¬ c→B):if c then A else B:=by
 by_cases h:c
 ·rw [if_pos h]
  exact h1 h
 ·rw [if_neg h]
  exact h2 h
noncomputable def Same (H H':Hp):Prop:=∀ b o,H b=some o→H' b=some o
theorem Same.refl (H:Hp):Same H H:=fun Z Z h=>h
theorem Same.trans {H H1 H2:Hp} (a:Same H H1) (b:Same H1 H2):Same H H2:=fun c o h=>b c o (a c o h)
theorem Same.free {H H':Hp} (e:Same H H') {l:Addr} (h:H' l=Option.none):H l=Option.none:=by
 cases q:H l with
 | none=>rfl
 | some o =>
  rw [e l o q] at h
  cases h
theorem Same.seq {K:PySem.W.Frag} {H H':Hp} {a:Addr} {xs:List V} (e:Same H H') (h:SqL K H a xs):SqL K H' a xs:=by
 rcases h with (h | ⟨o,h⟩) | h
 ·exact .inl (.inl (e _ _ h))
 ·exact .inl (.inr ⟨o,e _ _ h⟩)
 ·exact .inr h
section
variable {κ:Type} [DecidableEq κ]
end
noncomputable def Fly (h:Heap) (e T:Addr) (cls:Value) (dct:Option Addr):Prop :=
 ∃ oe vs oT ts,h.get? e=some oe∧oe.cls=cls∧oe.dict=dct∧oe.data=.fields vs∧vs[1]?=some (.ref T)∧T≠e∧h.get? T=some oT∧oT.data=.fields ts∧ts[3]?=some .none
noncomputable def FlyAt (h:Heap) (e T:Addr) (cls:Value) (dct:Option Addr) (fl:Value):Prop :=
 ∃ oe vs oT ts,h.get? e=some oe∧oe.cls=cls∧oe.dict=dct∧oe.data=.fields vs∧vs[1]?=some (.ref T)∧T≠e∧h.get? T=some oT∧oT.data=.fields ts∧ts[3]?=some fl
structure Noted (fs:List Addr) (e T:Addr) (h h':Heap):Prop where
 keep:∀ b o,b≠e→b ∉ fs→h.get? b=some o→h'.get? b=some o
 slot:∀ b o,b≠e→h.get? b=some o→∃ sl,h'.get? b=some { o with slots:=sl }
 new:h.objs.size≤T
section
variable {M:Model} {A:Around} {E:Value→Shared→Prop} {s:Shared}
theorem entry_x {base:Heap} {env:Env} {outer:List Env} {L e:Addr} {oe:Obj} {vs:Array Value} {head:Value} {hadNext:Bool} {Q:Unit→Shared→Prop}
  (hfr:A.frames=some (env :: outer)) (hl:s.heap.FunFrames base (env :: outer)) (hf:env.frame=some L) (he:s.heap.get? e=some oe) (hd:oe.data=.fields vs) (hsz:1 < vs.size)
  (h:∀ h' T,Noted (frs (env :: outer)) e T s.heap h'→FlyAt h' e T oe.cls oe.dict (rawInt L)→Q () { s with heap:=h' }) :
  wpAny M A (do
   let a ← frameOf env
   let pl ← entryPlaceOf L hadNext
   let b ← EntryCells.newEntry head a .none (rawInt L) .none pl
   setField (.ref e) 1 b) Q E s:=by
 have nf:e ∉ (env :: outer).filterMap (·.frame):=fun hm=>by
  refine bC fun g_=>?_
  obtain ⟨_,o,ho,hnf⟩:=hl.mem hm
  refine g_ ?_
  clear g_
  rw [he] at ho
  cases ho
  exact hnf vs hd
 refine wpAny_bind (wpAny_frameOf_fun hfr hl hf fun h1 so=>wpAny_bind (wpAny_entryPlaceOf fun pl hpl=>?_))
 unfold EntryCells.newEntry newFields
 refine wpAny_bind (wpAny_newObj_type ?_ (hpl.sizeOk5 _ _ _ _ _))
 have e1:h1.get? e=some oe:=(so.2.1 e nf).trans he
 generalize hn:([head,Value.ref L,Value.none,rawInt L,Value.none]++(if pl.isEmpty=true then List.replicate 6 Value.none else pl))=cells
 have c3:cells.toArray[3]?=some (rawInt L):=by subst hn; simp
 have e2:=Heap.get?_push_of_some (h:=h1) { cls:=.type "traceback",dict:=none,data:=.fields cells.toArray } e1
 refine wpAny_setField e2 hd hsz ?_
 have ne:h1.objs.size≠e:=Nat.ne_of_gt (Heap.lt_size e1)
 have d3:=Obj.data_mapFields hd (·.setIfInBounds 1 (Value.ref h1.objs.size))
 refine h _ h1.objs.size ⟨fun b o hbe hbf hb=>?_,fun b o hbe hb=>?_,Nat.le_of_eq so.1.symm⟩ ?_
 ·rw [Heap.get?_update_other _ _ (Ne.symm hbe)]
  exact Heap.get?_push_of_some _ ((so.2.1 b hbf).trans hb)
 ·obtain ⟨sl,hs⟩:=so.2.2 b o hb
  refine ⟨sl,?_⟩
  rw [Heap.get?_update_other _ _ (Ne.symm hbe)]
  exact Heap.get?_push_of_some _ hs
 ·refine ⟨_,_,{ cls:=.type "traceback",dict:=none,data:=.fields cells.toArray },cells.toArray,Heap.get?_update_self _ e2 (Obj.isFreed_of_fields d3),Obj.cls_mapFields _ _,?_,d3,by simp [hsz],ne,?_,rfl,c3⟩
  ·refine bC fun g_=>?_
   obtain ⟨c,d,dt,sl⟩:=oe
   refine g_ ?_
   clear g_
   cases dt <;> rfl
  ·rw [Heap.get?_update_other _ _ (Ne.symm ne)]
   exact Heap.get?_push_size h1 rfl
theorem flight_x {e T:Addr} {cls:Value} {dct:Option Addr} {fl:Value} {Q:Unit→Shared→Prop} (ht:FlyAt s.heap e T cls dct fl)
  (h:∀ h',(∀ b o,b≠T→s.heap.get? b=some o→h'.get? b=some o)→Fly h' e T cls dct→Q () { s with heap:=h' }):wpAny M A (setFlight (.ref e) none) Q E s:=by
 refine bC fun g_=>?_
 obtain ⟨oe,vs,oT,ts,he,hc,hdx,hd,h1,ne,hT,hdT,h3⟩:=ht
 refine g_ ?_
 clear g_
 have hsz:3 < ts.size:=(Array.getElem?_eq_some_iff.mp h3).1
 refine wpAny_setFlight_none he hd h1 hT hdT hsz (h _ (fun b o hb q=>?_) ?_)
 ·rw [Heap.get?_update_other _ _ (Ne.symm hb)]
  exact q
 ·refine ⟨oe,vs,_,_,?_,hc,hdx,hd,h1,ne,Heap.get?_update_self _ hT (Obj.isFreed_of_fields (Obj.data_mapFields hdT _)),Obj.data_mapFields hdT _,by simp [hsz]⟩
  rw [Heap.get?_update_other _ _ ne]
  exact he
theorem note_next {base:Heap} {env:Env} {outer:List Env} {L e T0:Addr} {cls:Value} {dct:Option Addr} {Q:Unit→Shared→Prop}
  (hfr:A.frames=some (env :: outer)) (hl:s.heap.FunFrames base (env :: outer)) (hf:env.frame=some L) (ht:Fly s.heap e T0 cls dct)
  (h:∀ h' T,(∀ b o,b≠e→b≠T0→b ∉ frs (env :: outer)→s.heap.get? b=some o→h'.get? b=some o)→(∀ b o,b≠e→b≠T0→s.heap.get? b=some o→∃ sl,h'.get? b=some { o with slots:=sl })→s.heap.objs.size≤T →
   FlyAt h' e T cls dct (rawInt L)→(∀ b o,s.heap.get? b=some o→∃ o',h'.get? b=some o')→Q () { s with heap:=h' }):wpAny M A (noteFrame (.ref e) env) Q E s:=by
 refine bC fun g_=>?_
 obtain ⟨oe,vs,oT,ts,he,e1_,e2_,hd,h1,ne,hT,hdT,h3⟩:=ht
 refine g_ ?_
 clear g_
 obtain rfl:=e1_
 obtain rfl:=e2_
 unfold noteFrame
 simp only [hf]
 refine wpAny_bind (wpAny_field he hd h1 ?_)
 rw [if_pos (show (Value.ref T0 != Value.none)=true from by simp)]
 refine wpAny_bind (wpAny_field hT hdT h3 ?_)
 rw [if_neg (show ¬ ((Value.none == rawInt L)=true) from by simp [rawInt])]
 refine wpAny_bind (wpAny_setField hT hdT (Array.getElem?_eq_some_iff.mp h3).1 ?_)
 have oth:∀ b,b≠T0→(s.heap.update T0 (Obj.mapFields (·.setIfInBounds 3 Value.none))).get? b=s.heap.get? b:=fun b hb=>Heap.get?_update_other _ _ (Ne.symm hb)
 have selfT:=Heap.get?_update_self (Obj.mapFields (·.setIfInBounds 3 Value.none)) hT (Obj.isFreed_of_fields (Obj.data_mapFields hdT _))
 have nrec:∀ b o,s.heap.get? b=some o→(∀ vs,o.data≠.fields vs)→b≠T0:=fun b o hb hnf q=>by
  rw [q,hT] at hb
  cases hb
  exact hnf ts hdT
 have hl':(s.heap.update T0 (Obj.mapFields (·.setIfInBounds 3 Value.none))).FunFrames base (env :: outer):=hl.of_keeps fun b o hb hnf=>⟨o,(oth b (nrec b o hb hnf)).trans hb,rfl⟩
 refine entry_x (s:={ s with heap:=s.heap.update T0 (Obj.mapFields (·.setIfInBounds 3 Value.none)) }) hfr hl' hf ((oth e (Ne.symm ne)).trans he) hd (Array.getElem?_eq_some_iff.mp h1).1 fun h' T N F=>?_
 refine h h' T (fun b o b1 b2 b3 q=>N.keep b o b1 b3 ((oth b b2).trans q)) (fun b o b1 b2 q=>N.slot b o b1 ((oth b b2).trans q)) (Nat.le_trans (Nat.le_of_eq (Heap.size_after_update _ _ _).symm) N.new) F fun b o q=>?_
 by_cases b1:b=e
 ·subst b1
  refine bC fun g_=>?_
  obtain ⟨oe',_,_,_,q',_⟩:=F
  refine g_ ?_
  clear g_
  exact ⟨oe',q'⟩
 ·by_cases b2:b=T0
  ·subst b2
   obtain ⟨sl,q'⟩:=N.slot b _ b1 selfT
   exact ⟨_,q'⟩
  ·obtain ⟨sl,q'⟩:=N.slot b o b1 ((oth b b2).trans q)
   exact ⟨_,q'⟩
end
noncomputable def CX1 (P:Program) (w:World):CXT:=fun outer H s E ev s' =>
 ∃ e T cls dct H',ev=.ref e∧s'.os=s.os∧AllBare s'.gens∧Un (frs outer) [] H H' s.heap s'.heap∧HOk P w H' s'.heap∧Fly s'.heap e T cls dct ∧
  s.heap.get? e=none∧s.heap.get? T=none∧H' e=none∧H' T=none∧E cls dct H'
section
variable {X:Cx} {pins:List (Addr×Obj)} {σ:St} {H:Hp} {s:Shared} {h':Heap}
theorem left_ok (I:Inv X pins σ H s) (hex:X.ex=[]) (bad:List Addr) (hb:∀ b∈bad,X.s₀.heap.get? b=none∧H b=none)
  (k1:∀ b o,b ∉ bad→b ∉ frs X.stack→s.heap.get? b=some o→h'.get? b=some o) (k2:∀ b o,b ∉ bad→s.heap.get? b=some o→∃ sl,h'.get? b=some { o with slots:=sl })
  (k3:∀ b o,s.heap.get? b=some o→∃ o',h'.get? b=some o'):Un X.fs [] X.H₀ H X.s₀.heap h'∧HOk X.prog X.w H h':=by
 have B:=I.base
 rw [hex] at B
 have nb:∀ b o,X.s₀.heap.get? b=some o→b ∉ bad:=fun b o q z=>by
  rw [(hb b z).1] at q
  cases q
 have nL:∀ b o,X.s₀.heap.get? b=some o→b≠X.env.locals:=fun b o q=>Nat.ne_of_lt (Nat.lt_of_lt_of_le (Heap.lt_size q) I.ok.above)
 have e0:∀ b:Addr,b ∉ ([]:List Addr):=fun b=>by simp
 refine ⟨⟨fun b o q n hf Z=>?_,fun b o q n hf Z=>?_,B.free,fun b o q Z=>?_,B.tups,B.frzs,B.tbls⟩,fun a u q=>?_⟩
 ·refine k1 b o (nb b o q) (fun z=>?_) (B.keep b o q n hf (e0 b))
  rcases List.mem_cons.mp (I.stkSub b z) with z | z
  ·exact nL b o q z
  ·exact hf z
 ·refine bC fun g_=>?_
  obtain ⟨sl,q1⟩:=B.slot b o q n hf (e0 b)
  obtain ⟨sl',q2⟩:=k2 b _ (nb b o q) q1
  refine g_ ?_
  clear g_
  exact ⟨sl',q2⟩
 ·obtain ⟨o1,q1⟩:=B.there b o q (e0 b)
  exact k3 b o1 q1
 ·have tr:∀ b v,H b=some v→b ∉ bad∧b ∉ frs X.stack:=fun b v z=>⟨(fun y=>absurd ((hb b y).2.symm.trans z) (by simp)),fun y=>absurd ((I.stkFree b y).symm.trans z) (by simp)⟩
  refine (I.hok a u q).stay (fun b v hbv z=>?_) (fun Z z=>z) fun Z Z z=>z
  rcases hbv with rfl | hbv
  ·exact k1 b v (tr b _ q).1 (tr b _ q).2 z
  ·exact k1 b v (tr b _ hbv).1 (tr b _ hbv).2 z
end
section
variable {P:Program} {w:World} {K:PySem.W.Frag} {mg:Str→Option Value} {base:Heap} {N:List Str} {qual:Str} {scope:Scope} {f:Addr} {cd:Value} {A:Around} {outer:List Env} {s₀:Shared} {H₀:Hp} {E:XK}
noncomputable abbrev cx1 (P:Program) (w:World) (K:PySem.W.Frag) (mg:Str→Option Value) (base:Heap) (N:List Str) (qual:Str) (scope:Scope) (f:Addr) (cd:Value) (A:Around) (outer:List Env) (s₀:Shared) (H₀:Hp) (E:XK):Cx :=
 cxOf (CX1 P w) P w K mg base N qual scope f cd A outer s₀ H₀ E
theorem pass1:Passes (CX1 P w) (cx1 P w K mg base N qual scope f cd A outer s₀ H₀ E) E:=by
 intro pins σ H s ev s' I hc
 refine bC fun g_=>?_
 obtain ⟨e,T0,cls,dct,H',e1_,os,bare,un,hok,F0,hne,hnT,hHe,hHT,q⟩:=hc
 refine g_ ?_
 clear g_
 obtain rfl:=e1_
 have I':Inv (cx1 P w K mg base N qual scope f cd A outer s₀ H₀ E) pins σ H' s':=I.call' (ch:=[]) os un hok bare fun b z=>absurd z (by simp)
 have old:∀ b,s.heap.get? b=none→s₀.heap.get? b=none:=fun b z=>by
  cases q1:s₀.heap.get? b with
  | none=>rfl
  | some o =>
   obtain ⟨o',q2⟩:=I.base.there b o q1 (show b ∉ ([]:List Addr) by simp)
   rw [z] at q2
   cases q2
 show wpAny _ _ (leaving _ _) _ _ _
 unfold leaving
 refine wpAny_bind (note_next (base:=base) (L:=s₀.heap.objs.size) I'.ok.frames I'.stack rfl F0 fun h1' T k1 k2 bT F k3=>?_)
 refine flight_x (s:={ s' with heap:=h1' }) F fun h2 k F2=>?_
 have tn:∀ b o,s'.heap.get? b=some o→b≠T:=fun b o z=>Nat.ne_of_lt (Nat.lt_of_lt_of_le (Heap.lt_size z) bT)
 have s0T:s₀.heap.objs.size≤T:=Nat.le_trans I'.sz bT
 obtain ⟨u,hk⟩:=left_ok (h':=h2) I' rfl [e,T0] (fun b hb=>by
   rcases List.mem_cons.mp hb with z | hb
   ·subst z
    exact ⟨old b hne,hHe⟩
   ·have z:b=T0:=by simpa using hb
    subst z
    exact ⟨old b hnT,hHT⟩)
  (fun b o b1 b2 z=>k b o (tn b o z) (k1 b o (fun y=>b1 (by simp [y])) (fun y=>b1 (by simp [y])) b2 z))
  (fun b o b1 z=>by
   obtain ⟨sl,z1⟩:=k2 b o (fun y=>b1 (by simp [y])) (fun y=>b1 (by simp [y])) z
   exact ⟨sl,k b _ (tn b o z) z1⟩)
  (fun b o z=>by
   obtain ⟨o1,z1⟩:=k3 b o z
   exact ⟨o1,k b _ (tn b o z) z1⟩)
 exact ⟨e,T,cls,dct,H',rfl,I'.os,bare,u,hk,F2,old e hne,Heap.get?_none_of_le s0T,hHe,hok.fresh bT,q⟩
theorem own1:PassesOwn (model P w) (cx1 P w K mg base N qual scope f cd A outer s₀ H₀ E).A (cx1 P w K mg base N qual scope f cd A outer s₀ H₀ E).env (cx1 P w K mg base N qual scope f cd A outer s₀ H₀ E).xe:=PassesOwn.leaving
end
section
variable {P:Program} {w:World} {K:PySem.W.Frag} {mg:Str→Option Value} {base:Heap} {N:List Str} {qual:Str} {scope:Scope} {f:Addr} {cd:Value} {A:Around} {outer:List Env} {s₀:Shared} {H₀:Hp} {E:XK}
end
section
variable {X:Cx} {x:Str} {C:Addr} {B newId initId:String} {bm:List Value} {np cpos pos:Pos} {E:XK} {e₀:Expr} {rest:List Expr} {t:TA}
end
section
variable {X:Cx} {pins:List (Addr×Obj)} {σ:St} {H H':Hp} {s:Shared} {h':Heap}
theorem Inv.stepN {g':Array GenState} {t':Nat} {d':Drawn} {ch:List Addr} (I:Inv X pins σ H s)
  (hch:∀ b∈ch,(b∈X.ex∨X.s₀.heap.get? b=none)∧b≠X.env.locals∧(∀ x c,X.env.cells.lookup x=some c→c≠b)∧∀ p∈X.pn++pins,p.1≠b)
  (keep:∀ b o,b≠X.env.locals→b ∉ X.fs→b ∉ ch→s.heap.get? b=some o→H b=none→h'.get? b=some o)
  (slot:∀ b o,b≠X.env.locals→b∈X.fs→b ∉ ch→s.heap.get? b=some o→H b=none→∃ sl,h'.get? b=some { o with slots:=sl }) (free:∀ b o,b ∉ ch→s.heap.get? b=some o→H b=none→H' b=none)
  (there:∀ b o,b ∉ ch→s.heap.get? b=some o→∃ o',h'.get? b=some o')
  (tups:∀ b xs,H b=some (.tup xs)→H' b=some (.tup xs)) (frzs:∀ b o u,H b=some (.frz o u)→H' b=some (.frz o u)) (tbls:∀ b ps,H b=some (.tbl ps)→∃ more,H' b=some (.tbl (ps++more)))
  (ns:∀ m,s.heap.Ns X.env.locals m→h'.Ns X.env.locals m) (hok:HOk X.prog X.w H' h') (hg:AllBare g') :
  Inv X pins σ H' { s with heap:=h',gens:=g',drawn:=d',toks:=t' }:=by
 have neL:∀ b o,X.s₀.heap.get? b=some o→b≠X.env.locals:=fun b o e=>Nat.ne_of_lt (Nat.lt_of_lt_of_le (Heap.lt_size e) I.ok.above)
 have neC:∀ b o,X.s₀.heap.get? b=some o→b ∉ X.ex→b ∉ ch:=fun b o e hx hb=>by
  rcases (hch b hb).1 with z | z
  ·exact hx z
  ·rw [z] at e
   cases e
 have cellK:∀ x c,X.env.cells.lookup x=some c→∀ v,s.heap.IsCell c v→h'.IsCell c v:=fun x c e v ⟨o,ho,hd⟩=>by
  have nch:c ∉ ch:=fun z=>(hch c z).2.2.1 x c e rfl
  by_cases hc:c∈X.fs
  ·obtain ⟨sl,q⟩:=slot c o (I.cne x c e) hc nch ho (I.freeC x c e)
   exact ⟨_,q,hd⟩
  ·exact ⟨o,keep c o (I.cne x c e) hc nch ho (I.freeC x c e),hd⟩
 refine ⟨I.ok,I.os,hg,⟨fun b o e n hb hx=>?_,fun b o e n hb hx=>?_,fun b o e n hx=>?_,fun b o e hx=>?_,fun b xs e=>tups b xs (I.base.tups b xs e),fun b o xs e=>frzs b o xs (I.base.frzs b o xs e),fun b ps e=>?_⟩,?_,fun x c e=>?_,?_,fun x c e=>?_,fun p hp=>?_,hok,I.len⟩
 ·exact keep b o (neL b o e) hb (neC b o e hx) (I.base.keep b o e n hb hx) (I.base.free b o e n hx)
 ·refine bC fun g_=>?_
  obtain ⟨sl,e1⟩:=I.base.slot b o e n hb hx
  obtain ⟨sl',e2⟩:=slot b _ (neL b o e) hb (neC b o e hx) e1 (I.base.free b o e n hx)
  refine g_ ?_
  clear g_
  exact ⟨sl',e2⟩
 ·obtain ⟨o',e1⟩:=I.base.there b o e hx
  exact free b o' (neC b o e hx) e1 (I.base.free b o e n hx)
 ·obtain ⟨o',e1⟩:=I.base.there b o e hx
  exact there b o' (neC b o e hx) e1
 ·refine bC fun g_=>?_
  obtain ⟨m1,e1⟩:=I.base.tbls b ps e
  obtain ⟨m2,e2⟩:=tbls b _ e1
  refine g_ ?_
  clear g_
  exact ⟨m1++m2,by rw [e2,Array.append_assoc]⟩
 ·refine bC fun g_=>?_
  obtain ⟨m,hn,hl⟩:=I.loc
  refine g_ ?_
  clear g_
  refine ⟨m,ns m hn,fun i x v e1 e2 e3=>?_⟩
  refine bC fun g_=>?_
  obtain ⟨u,r,l⟩:=hl i x v e1 e2 e3
  refine g_ ?_
  clear g_
  refine ⟨u,r,?_⟩
  rcases l with l | ⟨k,c,e,z⟩
  ·exact .inl l
  ·exact .inr ⟨k,c,e,cellK x c e _ z⟩
 ·obtain ⟨v,z⟩:=I.cell x c e
  exact ⟨v,cellK x c e v z⟩
 ·refine bC fun g_=>?_
  obtain ⟨m,⟨o,_,_,ho,_⟩,_⟩:=I.loc
  refine g_ ?_
  clear g_
  exact free _ o (fun z=>(hch _ z).2.1 rfl) ho I.free
 ·refine bC fun g_=>?_
  obtain ⟨v,o,ho,hd⟩:=I.cell x c e
  refine g_ ?_
  clear g_
  exact free c o (fun z=>(hch c z).2.2.1 x c e rfl) ho (I.freeC x c e)
 ·refine bC fun g_=>?_
  obtain ⟨e,n,ne,nf,d⟩:=I.pin p hp
  refine g_ ?_
  clear g_
  have nch:p.1 ∉ ch:=fun z=>(hch p.1 z).2.2.2 p hp rfl
  exact ⟨keep p.1 p.2 ne nf nch e n,free p.1 p.2 nch e n,ne,nf,d⟩
structure Apart (X:Cx) (pins:List (Addr×Obj)) (e:Addr):Prop where
 old:X.s₀.heap.get? e=none
 loc:e≠X.env.locals
 cel:∀ x c,X.env.cells.lookup x=some c→c≠e
 pin:∀ p∈X.pn++pins,p.1≠e
theorem Inv.apart (I:Inv X pins σ H s) (hex:X.ex=[]) {e:Addr} (hn:s.heap.get? e=none):Apart X pins e:=by
 have ne:∀ b o,s.heap.get? b=some o→b≠e:=fun b o q z=>by
  rw [z,hn] at q
  cases q
 refine ⟨?_,?_,fun x c q=>?_,fun p hp=>ne _ _ (I.pin p hp).1⟩
 ·cases q1:X.s₀.heap.get? e with
  | none=>rfl
  | some o =>
   obtain ⟨o',q2⟩:=I.base.there e o q1 (by rw [hex]; simp)
   rw [hn] at q2
   cases q2
 ·refine bC fun g_=>?_
  obtain ⟨m,⟨o,_,_,ho,_⟩,_⟩:=I.loc
  refine g_ ?_
  clear g_
  exact Ne.symm (ne _ _ ho)
 ·refine bC fun g_=>?_
  obtain ⟨v,o,ho,_⟩:=I.cell x c q
  refine g_ ?_
  clear g_
  exact ne _ _ ho
noncomputable def drop (H:Hp) (e:Addr):Hp:=fun b=>if b=e then none else H b
theorem drop_same {H:Hp} {e:Addr}:drop H e e=none:=if_pos rfl
theorem drop_ne {H:Hp} {e b:Addr} (h:b≠e):drop H e b=H b:=if_neg h
end
section
variable {X:Cx} {pins:List (Addr×Obj)} {σ:St} {H:Hp} {s:Shared} {e:Addr}
theorem Inv.recd {T:Addr} {h':Heap} (I:Inv X pins σ H s) (a:Apart X pins T) (hT:H T=none) (nf:T ∉ X.fs) (k:∀ b o,b≠T→s.heap.get? b=some o→h'.get? b=some o):Inv X pins σ H { s with heap:=h' }:=by
 have kt:∀ b u,H b=some u→b≠T:=fun b u q z=>by
  rw [z,hT] at q
  cases q
 refine I.stepN (g':=s.gens) (d':=s.drawn) (t':=s.toks) (ch:=[T]) (fun b hb=>?_) (fun b o Z Z hc q Z=>k b o (by simpa using hc) q) (fun b o Z hf hc q Z=>⟨o.slots,k b o (by simpa using hc) q⟩) (fun b o Z Z n=>n)
  (fun b o hc q=>⟨o,k b o (by simpa using hc) q⟩) (fun Z Z q=>q) (fun Z Z Z q=>q) (fun b ps q=>⟨#[],by rw [q]; simp⟩) (fun m hm=>?_) (fun b u q=>?_) I.bare
 ·have z:b=T:=by simpa using hb
  subst z
  exact ⟨.inr a.old,a.loc,a.cel,a.pin⟩
 ·refine bC fun g_=>?_
  obtain ⟨o,es,ep,ho,r⟩:=hm
  refine g_ ?_
  clear g_
  exact ⟨o,es,ep,k _ o (Ne.symm a.loc) ho,r⟩
 ·refine (I.hok b u q).stay (fun c v hc z=>k c v ?_ z) (fun Z z=>z) fun Z Z z=>z
  rcases hc with rfl | hc
  ·exact kt c u q
  ·exact kt c _ hc
end
section
variable {X:Cx} {k:Nat} {f C:Addr} {fd:FuncData} {ps:List Str} {sp:Sp} {dvs:List V} {ds:List Value} {x m:Str} {p pos apos epos cpos:Pos} {e o:Expr} {es:List Expr} {ta:TE} {t:TA}
variable {te:XK→TE} {cx n:Str} {np hpos tpos:Pos} {i:Nat} {b₀:Stmt} {suite:List Stmt} {ts:TS} {Cc:Addr} {call:Expr}
end
section
variable {P:Program} {w:World} {K:PySem.W.Frag} {mg:Str→Option Value} {base:Heap}
theorem Fun.ok1 {x qual:Str} {st:Stmt} {f:Addr} {fd:FuncData} {N ps:List Str} {k:Nat} {sp:Sp} (F:Fun K x qual st f fd) (S:FnScope N ps (defScope st)) (len:∀ vs H Q E,sp vs H Q E→vs.length=ps.length)
  (hbody:∀ (cdv:Value) (A:Around) (outer:List Env) (s:Shared) (H:Hp) (vs:List V) (Q:VK) (E:XK),Room k (A.deeper (envOfC qual (defScope st) s.heap.objs.size f cdv))→sp vs H Q E →
   ∃ t,PSs (cx1 P w K mg base N qual (defScope st) f cdv A outer s H E) (defBody st) t∧t (Ends.fn Q) (start N vs) H):FnOk P w K mg base (CX1 P w) (k + 1) f fd ps sp:=by
 refine bC fun g_=>?_
 obtain ⟨oc,od,kV,doc,pm,an,cdv,ct,osl,e1_,lk,hcd⟩:=F.ex
 refine g_ ?_
 clear g_
 obtain rfl:=e1_
 exact fn_of lk hcd S len fun A outer s H vs Q E hr hsp=>hbody cdv A outer s H vs Q E hr hsp
end
open Builtin Builtin.ObjectAttr
section
variable {prog:Program} {w:World} {A:Around} {E:Value→Shared→Prop} {h:Heap} {g:Array GenState} {d:Drawn} {t:Nat} {os:OsState}
variable {nm q:Str} {C N x:Addr} {bs:List Value} {sn:List Str} {sub:List Value} {ab:Bool} {col:Option Bool} {dd:Option Addr} {k0 k1 k2 k3 k5:Option Value} {newId:String}
 {mN mA:Str→Option Value} {name:Str} {v:Value}
end
open Builtin Builtin.ObjectAttr
section
variable {prog:Program} {w:World} {A:Around} {E:Value→Shared→Prop} {h:Heap} {g:Array GenState} {d:Drawn} {t:Nat} {os:OsState}
variable {nm q:Str} {C N x:Addr} {bs:List Value} {sn:List Str} {sub:List Value} {ab:Bool} {col:Option Bool} {dd:Option Addr} {k0 k1 k2 k3 k5:Option Value} {newId:String}
 {mN mA:Str→Option Value} {name:Str} {v:Value}
end
section
variable {prog:Program} {w:World} {A:Around} {R:Result→Shared→Prop} {s:Shared}
theorem comp_loop {elt target iter:Expr} {ifs:List Expr} {scope:Scope} {pos:Pos} {it acc:Value} {env:Env} (I:Nat→Shared→Prop)
  (turn:∀ n s,I n s→wpAny (model prog w) A (pyNext it) (fun r s1=>match r with
   | none=>R (.ok .next) s1
   | some v=>wpAny (model prog w) A (letOwnedTupleGo target it v) (fun Z s1'=>wpAny (model prog w) A (assign target env v) (fun Z s2 =>
     wpAny (model prog w) A (forIn ifs true fun c r=>if r=true then do let ok ← isTrue c env (eval c env); pure (ForInStep.yield ok) else pure (ForInStep.yield r)) (fun ok s3 =>
      if ok=true then wpAny (model prog w) A (eval elt env) (fun x s4 =>
       wpAny (model prog w) A (call (.builtin "list.append") [acc,x]) (fun Z s5=>∃ m,m < n∧I m s5) (notedBy (model prog w) A env fun e s'=>R (.error e) s') s4) (notedBy (model prog w) A env fun e s'=>R (.error e) s') s3
      else ∃ m,m < n∧I m s3) (notedBy (model prog w) A env fun e s'=>R (.error e) s') s2) (notedBy (model prog w) A env fun e s'=>R (.error e) s') s1') (notedBy (model prog w) A env fun e s'=>R (.error e) s') s1) (notedBy (model prog w) A env fun e s'=>R (.error e) s') s)
  (n:Nat) (h:I n s):codeAny (model prog w) A (.compLoop (.ListComp elt [⟨target,iter,ifs,0⟩] scope pos) 0 it acc env) R s:=by
 refine codeAny_loop rfl I (fun n s hI=>?_) n h
 show wpAny _ A ((compTurn (.ListComp elt [⟨target,iter,ifs,0⟩] scope pos) 0 it acc env).onRaise (fun x=>do noteFrame x env; theTreesLotGoes x)) _ _ s
 refine wpAny_noted ?_
 rw [compTurn_list]
 refine wpAny_bind (wpAny_standAt (wpAny_bind (thn (turn n s hI) fun r s1 h1=>?_)))
 cases r with
 | none=>exact wpAny_pure h1
 | some v =>
  refine wpAny_bind (thn h1 fun Z s1' h1'=>wpAny_bind (thn h1' fun Z s2 h2=>wpAny_bind (thn h2 fun ok s3 h3=>?_)))
  cases ok with
  | false=>exact wpAny_pure ⟨rfl,h3⟩
  | true=>exact wpAny_bind (wpAny_bind (thn h3 fun x s4 h4=>wpAny_bind (thn h4 fun Z s5 h5=>wpAny_pure (wpAny_pure ⟨rfl,h5⟩))))
end
noncomputable def PIfs (X:Cx) (ifs:List Expr) (t:TT):Prop :=
 ∀ (pins:List (Addr×Obj)) (s:Shared) (σ:St) (H:Hp) (Q:Bool→Hp→Prop),Inv X pins σ H s→t σ H Q →
  wpAny (model X.prog X.w) X.A (forIn ifs true fun c r=>if r=true then do let ok ← isTrue c X.env (eval c X.env); pure (ForInStep.yield ok) else pure (ForInStep.yield r)) (TP X pins σ Q) X.xe s
noncomputable def tNoIf:TT:=fun Z H Q=>Q true H
theorem pifs_nil {X:Cx}:PIfs X [] tNoIf:=by
 intro pins s σ H Q I h
 exact wpAny_pure ⟨H,I,h⟩
theorem pifs_one {X:Cx} {c:Expr} {t:TT} (hc:PT X c t):PIfs X [c] t:=by
 intro pins s σ H Q I h
 show wpAny _ _ (forIn [c] true _) _ _ _
 rw [List.forIn_cons]
 refine wpAny_bind ?_
 rw [if_pos rfl]
 refine wpAny_bind (thn (hc pins s σ H Q I h) fun b s1 q=>wpAny_pure ?_)
 exact wpAny_pure q
section
variable {X:Cx} {pins:List (Addr×Obj)} {σ:St} {H:Hp} {s:Shared}
theorem closure_go (env:Env):∀ (names:List (Str×NameKind)) (acc:List (Str×Addr)),(∀ y∈names,y.2=.free→∃ c,env.cells.lookup y.1=some c)→(∀ x c,acc.lookup x=some c→env.cells.lookup x=some c) →
  ∃ cl,(forIn names acc fun (x:Str×NameKind) (r:List (Str×Addr))=>(match x with | (name,kind)=>if (kind == NameKind.free)=true then do let a ← cellOf env name; pure (ForInStep.yield ((name,a) :: r)) else pure (ForInStep.yield r):Sem (ForInStep (List (Str×Addr)))))=pure cl ∧
   (∀ x c,cl.lookup x=some c→env.cells.lookup x=some c)∧(∀ x c,acc.lookup x=some c→∃ c',cl.lookup x=some c')∧∀ y∈names,y.2=.free→∃ c,cl.lookup y.1=some c:=by
 intro names
 induction names with
 | nil=>exact fun acc Z h2=>⟨acc,rfl,h2,fun x c e=>⟨c,e⟩,fun y hy=>by simp at hy⟩
 | cons p r ih =>
  intro acc h1 h2
  obtain ⟨n,k⟩:=p
  rw [List.forIn_cons]
  by_cases hk:k=.free
  ·subst hk
   obtain ⟨c,hc⟩:=h1 (n,.free) List.mem_cons_self rfl
   obtain ⟨cl,e1,e2,e3,e4⟩:=ih ((n,c) :: acc) (fun y hy=>h1 y (List.mem_cons_of_mem _ hy)) (fun x c' e=>by
    rw [List.lookup_cons] at e
    cases hx:x == n with
    | true =>
     rw [hx] at e
     have:x=n:=by simpa using hx
     subst this
     cases e
     exact hc
    | false =>
     rw [hx] at e
     exact h2 x c' e)
   refine ⟨cl,?_,e2,fun x c' e=>?_,fun y hy hf=>?_⟩
   ·have hcell:cellOf env n=pure c:=by simp only [cellOf,hc]
    simp only [beq_self_eq_true,if_true,hcell,pure_bind]
    exact e1
   ·cases hx:x == n with
    | true=>exact e3 x c (by rw [List.lookup_cons,hx])
    | false=>exact e3 x c' (by rw [List.lookup_cons,hx]; exact e)
   ·rcases List.mem_cons.mp hy with rfl | hy
    ·exact e3 n c (by rw [List.lookup_cons]; simp)
    ·exact e4 y hy hf
  ·refine bC fun g_=>?_
   obtain ⟨cl,e1,e2,e3,e4⟩:=ih acc (fun y hy=>h1 y (List.mem_cons_of_mem _ hy)) h2
   refine g_ ?_
   clear g_
   refine ⟨cl,?_,e2,e3,fun y hy hf=>?_⟩
   ·have hb:(k == NameKind.free)=false:=by simpa using hk
    simp only [hb,Bool.false_eq_true,if_false,pure_bind]
    exact e1
   ·rcases List.mem_cons.mp hy with rfl | hy
    ·exact absurd hf hk
    ·exact e4 y hy hf
theorem closure_of {env:Env} {scope:Scope} (h:∀ y∈scope.names,y.2=.free→∃ c,env.cells.lookup y.1=some c) :
  ∃ cl,closureFor scope env=pure cl∧(∀ x c,cl.lookup x=some c→env.cells.lookup x=some c)∧∀ y∈scope.names,y.2=.free→∃ c,cl.lookup y.1=some c:=by
 refine bC fun g_=>?_
 obtain ⟨cl,e1,e2,_,e4⟩:=closure_go env scope.names [] h (fun x c e=>by simp at e)
 refine g_ ?_
 clear g_
 refine ⟨cl,?_,e2,e4⟩
 unfold closureFor
 show (forIn scope.names [] _ >>= fun r=>pure r)=pure cl
 rw [show ∀ m:Sem (List (Str×Addr)),(m >>= fun r=>pure r)=m from fun m=>bind_pure m]
 exact e1
end
noncomputable def Cx.blk (X:Cx) (scope:Scope) (N:List Str) (cl:List (Str×Addr)) (C:Addr) (s:Shared) (H:Hp) (fp:List Addr) (pins:List (Addr×Obj)):Cx where
 prog:=X.prog
 w:=X.w
 K:=X.K
 mg:=X.mg
 base:=X.base
 A:=X.A
 N:=N
 s₀:=s
 H₀:=H
 env:=compEnvC scope cl C X.env
 outer:=X.stack
 stack:=X.stack
 ex:=fp
 fn:=fun Z=>false
 calm:=X.calm
 pn:=X.pn++pins
 xe:=fun Z Z=>False
noncomputable def capsOf (k:Nat) (is:List Nat) (σ:St):St:=List.replicate k none++is.map fun i=>(σ[i]?).join
set_option tactic.hygienic true in
theorem lookup_relabel {env:Env}:∀ {names:List (Str×NameKind)} {x:Str} {k:NameKind},
  (names.map fun (n,k)=>if (k == NameKind.free && env.scope.kind == .function && env.kindOf n == some .cell) then (n,NameKind.cell) else (n,k)).lookup x=some k→∃ k0,(x,k0)∈names∧(k0=k∨k0=.free):=by
 intro names
 induction names with
 | nil=>intro x k h; simp at h
 | cons p r ih =>
  obtain ⟨n,k0⟩:=p
  intro x k h
  rw [List.map_cons] at h
  have st:∃ k1,(if (k0 == NameKind.free && env.scope.kind == .function && env.kindOf n == some .cell)=true then (n,NameKind.cell) else (n,k0))=(n,k1)∧(k1=k0∨k0=.free):=by
   split
   ·rename_i hc
    refine ⟨_,rfl,.inr ?_⟩
    simp only [Bool.and_eq_true,beq_iff_eq] at hc
    exact hc.1.1
   ·exact ⟨_,rfl,.inl rfl⟩
  refine bC fun g_=>?_
  obtain ⟨k1,e1,e2⟩:=st
  refine g_ ?_
  clear g_
  simp only at h
  rw [e1,List.lookup_cons] at h
  cases hx:x == n with
  | true =>
   rw [hx] at h
   have:x=n:=by simpa using hx
   subst this
   cases h
   refine ⟨k0,List.mem_cons_self,?_⟩
   rcases e2 with e2 | e2
   ·exact .inl e2.symm
   ·exact .inr e2
  | false =>
   rw [hx] at h
   refine bC fun g_=>?_
   obtain ⟨k2,m,z⟩:=ih h
   refine g_ ?_
   clear g_
   exact ⟨k2,List.mem_cons_of_mem _ m,z⟩
structure BlkScope (X:Cx) (scope:Scope) (own capn:List Str) (capI:List Nat):Prop where
 kind:scope.kind=.function
 cell:∀ y∈scope.names,y.2≠.cell
 names:∀ y∈scope.names,y.2=.local→scope.names.lookup y.1=some .local
 free:∀ y∈scope.names,y.2=.free→X.env.scope.names.lookup y.1=some .cell
 caps:capI.map (fun i=>X.N[i]?)=capn.map some
 capc:∀ y∈capn,X.env.scope.names.lookup y=some .cell∧(relabel scope X.env).names.lookup y=some .cell
section
variable {X:Cx} {pins:List (Addr×Obj)} {σ:St} {H:Hp} {s:Shared}
theorem blk_start {scope:Scope} {own capn:List Str} {capI:List Nat} {cl:List (Str×Addr)} {fp:List Addr} {h':Heap} {t':Nat} (B:BlkScope X scope own capn capI) (I:Inv X pins σ H s) (hf:∀ b∈fp,FpOk X pins H b) (ho:∀ b∈fp,∃ o,s.heap.get? b=some o)
  (hcl:∀ x c,cl.lookup x=some c→X.env.cells.lookup x=some c) (hcf:∀ y∈scope.names,y.2=.free→∃ c,cl.lookup y.1=some c)
  (hn:h'.Ns s.heap.objs.size (fun Z=>none)) (hk:∀ b o,s.heap.get? b=some o→h'.get? b=some o) :
  Inv (X.blk scope (own++capn) cl s.heap.objs.size s H fp pins) [] (capsOf own.length capI σ) H { s with heap:=h',toks:=t' }:=by
 have lt:∀ b o,s.heap.get? b=some o→b≠s.heap.objs.size:=fun b o e=>Nat.ne_of_lt (Heap.lt_size e)
 have hkind:∀ x,((relabel scope X.env).names.lookup x=some .cell∨(relabel scope X.env).names.lookup x=some .free)→∃ c,cl.lookup x=some c:=fun x hx=>by
  have z:∃ k,(k=.cell∨k=.free)∧(relabel scope X.env).names.lookup x=some k:=by
   rcases hx with hx | hx
   ·exact ⟨_,.inl rfl,hx⟩
   ·exact ⟨_,.inr rfl,hx⟩
  refine bC fun g_=>?_
  obtain ⟨k,hk,hx⟩:=z
  obtain ⟨k0,m,z⟩:=lookup_relabel (env:=X.env) hx
  refine g_ ?_
  clear g_
  have:k0=.free:=by
   rcases z with z | z
   ·rcases hk with hk | hk
    ·exact absurd (z.trans hk) (B.cell _ m)
    ·exact z.trans hk
   ·exact z
  exact hcf _ m this
 have nfs:∀ b,b≠X.env.locals→b ∉ X.fs→b ∉ frs X.stack:=fun b h1 h2 z=>by
  rcases List.mem_cons.mp (I.stkSub b z) with z | z
  ·exact h1 z
  ·exact h2 z
 have cellAt:∀ x c,cl.lookup x=some c→∃ v o,s.heap.get? c=some o∧o.data=.cell v:=fun x c e=>by
  refine bC fun g_=>?_
  obtain ⟨v,o,ho,hd⟩:=I.cell x c (hcl x c e)
  refine g_ ?_
  clear g_
  exact ⟨v,o,ho,hd⟩
 have ok:(X.blk scope (own++capn) cl s.heap.objs.size s H fp pins).Ok:=by
  refine ⟨I.ok.mod,B.kind,I.ok.glob,I.ok.blt,Nat.le_refl _,fun x y c e1 e2=>I.ok.inj x y c (hcl x c e1) (hcl y c e2),fun x hx=>hkind x hx,(fun x c e=>absurd (show false=true from e) (by decide)),I.ok.hd,I.ok.frames,.inl rfl,fun b hb=>?_,I.bs,Nat.le_trans I.ok.bsz I.sz,fun b o e hb=>?_,fun b hb=>?_,I.stack,fun b hb=>I.stkFree b hb⟩
  ·obtain ⟨o,e⟩:=ho b hb
   exact ⟨lt b o e,fun x c ec=>(hf b hb).2.2.2.2.1 x c (hcl x c ec)⟩
  ·rcases (hf b hb).2.2.2.1 with z | z
   ·exact I.ok.noex b o e z
   ·exact absurd (Nat.lt_of_lt_of_le (Heap.lt_size (I.ok.bs b o e).1) z) (Nat.lt_irrefl _)
  ·exact nfs b (hf b hb).2.1 (hf b hb).2.2.1
 refine ⟨ok,rfl,I.bare,Un.kept hk,⟨_,hn,fun i x v e1 e2 e3=>?_⟩,fun x c e=>?_,I.hok.fresh (Nat.le_refl _),fun x c e=>I.freeC x c (hcl x c e),fun p hp=>?_,I.hok.kept hk,?_⟩
 ·unfold capsOf at e2
  have hi:own.length≤i:=by
   by_cases h:own.length≤i
   ·exact h
   ·rw [List.getElem?_append_left (by simpa using h),List.getElem?_replicate] at e2
    split at e2 <;> cases e2
  rw [List.getElem?_append_right (by simpa using hi),List.length_replicate,List.getElem?_map] at e2
  have e1':(own++capn)[i]?=some x:=e1
  rw [List.getElem?_append_right hi] at e1'
  cases hc:capI[i - own.length]? with
  | none=>rw [hc] at e2; cases e2
  | some j =>
   rw [hc] at e2
   have e4:(σ[j]?).join=some v:=by simpa using e2
   have e5:σ[j]?=some (some v):=by
    cases q:σ[j]? with
    | none=>rw [q] at e4; cases e4
    | some o=>rw [q] at e4; cases o with | none=>cases e4 | some v'=>cases e4; rfl
   have e6:X.N[j]?=some x:=by
    have z:=congrArg (fun l=>l[i - own.length]?) B.caps
    simp only [List.getElem?_map,hc,e1',Option.map_some] at z
    exact Option.some.inj z
   have cx:=B.capc x (List.mem_of_getElem? e1')
   refine bC fun g_=>?_
   obtain ⟨m,hm,hl⟩:=I.loc
   obtain ⟨u,r,l⟩:=hl j x v e6 e5 (.inr (.inl cx.1))
   refine g_ ?_
   clear g_
   refine ⟨u,r,.inr ?_⟩
   obtain ⟨c',hc'⟩:=hkind x (.inl cx.2)
   have hc2:=hcl x c' hc'
   rcases l with ⟨k,_⟩ | ⟨_,c,ec,o,hoc,hdc⟩
   ·have k':X.env.scope.names.lookup x=some .local:=k
    rw [cx.1] at k'
    cases k'
   ·rw [hc2] at ec
    cases ec
    exact ⟨.inl cx.2,c',hc',o,hk _ _ hoc,hdc⟩
 ·refine bC fun g_=>?_
  obtain ⟨v,o,hoc,hd⟩:=cellAt x c e
  refine g_ ?_
  clear g_
  exact ⟨v,o,hk _ _ hoc,hd⟩
 ·have hp':p∈X.pn++pins:=by
   have z:p∈(X.pn++pins)++[]:=hp
   simpa using z
  refine bC fun g_=>?_
  obtain ⟨e,n,ne,nf,d⟩:=I.pin p hp'
  refine g_ ?_
  clear g_
  exact ⟨hk _ _ e,n,lt _ _ e,nfs _ ne nf,d⟩
 ·show (List.replicate own.length none++capI.map _).length=(own++capn).length
  have z:=congrArg List.length B.caps
  simp only [List.length_map] at z
  simp [z]
end
noncomputable def tLC (wi:TI) (k:Nat) (capI:List Nat) (g:TG) (tt:TT) (te:TE):TE:=fun σ H Q=>wi σ H fun J H1=>∀ D,H1 D=none→∃ W:Nat→Nat→St→List V→Hp→Prop,(∃ m,W 0 m (capsOf k capI σ) [] (upd H1 D (.lst []))) ∧
 ∀ i m σ' acc H,W i m σ' acc H→(J.stop i H∧Q (.ref D) H)∨(J.go i H∧∀ x H',J.yld i H x H'→g x σ' H' fun σ2 H2=>tt σ2 H2 fun b H3 =>
  if b=true then te σ2 H3 fun y H4=>H4 D=some (.lst acc)∧acc.length < sizeLine∧∃ m',m' < m∧W (i + 1) m' σ2 (acc++[y]) (upd H4 D (.lst (acc++[y]))) else ∃ m',m' < m∧W (i + 1) m' σ2 acc H3)
section
variable {X:Cx} {pins:List (Addr×Obj)} {σ:St} {H:Hp} {s:Shared}
theorem blk_end {scope:Scope} {N:List Str} {cl:List (Str×Addr)} {fp:List Addr} {h':Heap} {σ':St} {H':Hp} {s':Shared} (I:Inv X pins σ H s) (hf:∀ b∈fp,FpOk X pins H b)
  (J:Inv (X.blk scope N cl s.heap.objs.size s H fp pins) [] σ' H' s') (hs:Heap.SameBut s.heap.objs.size s'.heap h'):Inv X pins σ H' { s' with heap:=h' }:=by
 have B:=J.base
 have ne:∀ b o,s.heap.get? b=some o→b≠s.heap.objs.size:=fun b o e=>Nat.ne_of_lt (Heap.lt_size e)
 have u:Un (frs X.stack) fp H H' s.heap h':=⟨fun b o e n h1 h2=>(hs.2 b (ne b o e)).trans (B.keep b o e n h1 h2),fun b o e n h1 h2=>by
   obtain ⟨sl,z⟩:=B.slot b o e n h1 h2
   exact ⟨sl,(hs.2 b (ne b o e)).trans z⟩,B.free,fun b o e h2=>by
   obtain ⟨o',z⟩:=B.there b o e h2
   exact ⟨o',(hs.2 b (ne b o e)).trans z⟩,B.tups,B.frzs,B.tbls⟩
 have hok:HOk X.prog X.w H' h':=fun b o e=>by
  refine (J.hok b o e).stay (fun c v hc q=>(hs.2 c ?_).trans q) (fun Z z=>z) fun Z Z z=>z
  have fr:H' s.heap.objs.size=none:=J.free
  rintro rfl
  rcases hc with z | z
  ·rw [← z,fr] at e
   cases e
  ·rw [fr] at z
   cases z
 exact I.call' (s':={ s' with heap:=h' }) (ch:=fp) J.os u hok J.bare fun b hb=>⟨(hf b hb).2.2.2.1,(hf b hb).2.1,(hf b hb).2.2.2.2.1,(hf b hb).2.2.2.2.2⟩
variable {elt iter tg:Expr} {ifs:List Expr} {scope:Scope} {pos:Pos} {own capn:List Str} {capI:List Nat} {wi:TI} {g:TG} {tt:TT} {te:TE}
theorem pe_lc (hc:X.calm=true) (B:BlkScope X scope own capn capI) (hi:PI X tg iter wi) (hg:∀ cl C s H fp pins,PG (X.blk scope (own++capn) cl C s H fp pins) tg g)
  (ht:∀ cl C s H fp pins,PIfs (X.blk scope (own++capn) cl C s H fp pins) ifs tt) (he:∀ cl C s H fp pins,PE (X.blk scope (own++capn) cl C s H fp pins) elt te)
  (hs:∀ x,foldedSetIterable iter X.env x=pure x:=by intro _; rfl):PE X (.ListComp elt [⟨tg,iter,ifs,0⟩] scope pos) (tLC wi own.length capI g tt te):=by
 intro pins s σ H Q I h
 rw [eval_ListComp]
 refine bC fun g_=>?_
 obtain ⟨cl,hclos,hcl,hcf⟩:=closure_of (env:=X.env) (scope:=scope) (fun y hy hf=>I.ok.has y.1 (.inl (B.free y hy hf)))
 refine g_ ?_
 clear g_
 refine wpAny_comprehension_free (use:=none) rfl hs hclos B.kind B.names (thn (hi pins s σ H _ I h) fun v s1 h1=>thn h1 fun itv s2 h2=>?_)
 refine bC fun g_=>?_
 obtain ⟨it,fp,tn,J,H2,e,I2,T,st2,f2,hW⟩:=h2
 refine g_ ?_
 clear g_
 subst e
 refine bC fun g_=>?_
 obtain ⟨W,⟨m0,w0⟩,turn⟩:=hW s2.heap.objs.size (I2.hok.fresh (Nat.le_refl _))
 refine g_ ?_
 clear g_
 refine wpAny_newObj_type (wpAny_newFunctionEnv B.cell (by intro y hy; simp at hy) (fun h4 hns hsb=>?_) B.kind)
 dsimp only at hns hsb ⊢
 have I3:Inv X pins σ (upd H2 s2.heap.objs.size (.lst [])) { s2 with heap:=s2.heap.push { cls:=.type "list",dict:=none,data:=.seq ([]:List Value).toArray } } :=
  I2.laid (t':=s2.toks) (fun b u e=>Heap.get?_push_of_some _ e) (Nat.le_refl _) ⟨Nat.zero_le _,[],0,.nil,Heap.get?_push_size _ rfl⟩
 generalize hs3:({ s2 with heap:=s2.heap.push { cls:=.type "list",dict:=none,data:=.seq ([]:List Value).toArray } }:Shared)=s3 at I3
 have e3:s2.heap.push { cls:=.type "list",dict:=none,data:=.seq ([]:List Value).toArray }=s3.heap:=by rw [← hs3]
 have ob2:∀ b∈fp,∃ o,s2.heap.get? b=some o:=fun b hb=>let ⟨o,z,_⟩:=T.obj _ _ st2 b hb; ⟨o,z⟩
 have up3:∀ b o,s2.heap.get? b=some o→s3.heap.get? b=some o:=fun b o z=>by
  rw [← e3]
  exact Heap.get?_push_of_some _ z
 have f3:∀ b∈fp,FpOk X pins (upd H2 s2.heap.objs.size (.lst [])) b:=fun b hb=>by
  obtain ⟨o,z⟩:=ob2 b hb
  exact ⟨by rw [upd_ne (Nat.ne_of_lt (Heap.lt_size z))]; exact (f2 b hb).1,(f2 b hb).2⟩
 have ob3:∀ b∈fp,∃ o,s3.heap.get? b=some o:=fun b hb=>let ⟨o,z⟩:=ob2 b hb; ⟨o,up3 b o z⟩
 rw [e3] at hns hsb ⊢
 have up4:∀ b o,s3.heap.get? b=some o→h4.get? b=some o:=fun b o z=>(hsb.2 b (Nat.ne_of_lt (Heap.lt_size z))).trans (Heap.get?_push_of_some _ z)
 have IB:=blk_start (t':=s2.toks + ([]:List (Str×Value)).length) B I3 f3 ob3 hcl hcf hns up4
 have e4:({ s3 with heap:=h4,toks:=s2.toks + ([]:List (Str×Value)).length }:Shared)={ s2 with heap:=h4,toks:=s2.toks + ([]:List (Str×Value)).length }:=by rw [← hs3]
 rw [e4] at IB
 have tn4:tn 0 h4:=T.keep _ _ _ st2 fun b hb o z=>up4 b o (up3 b o z)
 have fst:∀ {H':Hp},(∀ b∈fp,H' b=none)→∀ b∈fp,FpOk (X.blk scope (own++capn) cl s3.heap.objs.size s3 (upd H2 s2.heap.objs.size (.lst [])) fp pins) [] H' b:=fun {H'} hn b hb=>by
  obtain ⟨o,z⟩:=ob3 b hb
  refine ⟨hn b hb,Nat.ne_of_lt (Heap.lt_size z),fun y=>?_,.inl hb,fun x c ec=>(f3 b hb).2.2.2.2.1 x c (hcl x c ec),fun p hp=>(f3 b hb).2.2.2.2.2 p (by have y:p∈(X.pn++pins)++[]:=hp; simpa using y)⟩
  rcases List.mem_cons.mp (I3.stkSub b y) with y | y
  ·exact (f3 b hb).2.1 y
  ·exact (f3 b hb).2.2.1 y
 have loop:codeAny (model X.prog X.w) X.A (.compLoop (.ListComp elt [⟨tg,iter,ifs,0⟩] scope pos) 0 (.ref it) (.ref s2.heap.objs.size) (compEnvC scope cl s3.heap.objs.size X.env))
   (compPost (model X.prog X.w) X.A X.xe none (EP X pins σ Q) (.ref s2.heap.objs.size) s3.heap.objs.size) { s2 with heap:=h4,toks:=s2.toks + ([]:List (Str×Value)).length }:=by
  refine comp_loop (fun n s'=>∃ i σ' acc H',Inv (X.blk scope (own++capn) cl s3.heap.objs.size s3 (upd H2 s2.heap.objs.size (.lst [])) fp pins) [] σ' H' s'∧tn i s'.heap∧(∀ b∈fp,H' b=none)∧W i n σ' acc H') ?_ m0 ⟨0,_,[],_,IB,tn4,fun b hb=>(f3 b hb).1,w0⟩
  rintro n s5 h_
  refine bC fun g_=>?_
  obtain ⟨i,σ5,acc,H5,I5,st5,fr5,w5⟩:=h_
  refine g_ ?_
  clear g_
  have no:∀ {α:Type} {t:Sem α} {Q:α→Shared→Prop} {E:Value→Shared→Prop} {s:Shared},wpAny (model X.prog X.w) X.A t Q (fun Z Z=>False) s→wpAny (model X.prog X.w) X.A t Q E s:=fun z=>wpAny_mono z (fun Z Z y=>y) fun Z Z y=>y.elim
  rcases turn i n σ5 acc H5 w5 with ⟨stop,qn⟩ | ⟨go,step⟩
  ·refine no (thn (T.done (X.blk scope (own++capn) cl s3.heap.objs.size s3 (upd H2 s2.heap.objs.size (.lst [])) fp pins) rfl rfl rfl hc i [] s5 σ5 H5 _ I5 (fst fr5) st5 stop) fun r s6 ⟨hr,I6⟩=>?_)
   subst hr
   refine bC fun g_=>?_
   obtain ⟨m,hm,_⟩:=id I6.loc
   refine g_ ?_
   clear g_
   exact ⟨m,hm,fun h' hs'=>⟨.ref s2.heap.objs.size,H5,blk_end I3 f3 I6 hs',rfl,qn⟩⟩
  ·refine no (thn (T.item (X.blk scope (own++capn) cl s3.heap.objs.size s3 (upd H2 s2.heap.objs.size (.lst [])) fp pins) rfl rfl rfl hc i [] s5 σ5 H5 _ I5 (fst fr5) st5 go) fun r s6 hm_=>?_)
   refine bC fun g_=>?_
   obtain ⟨u,hr,h6⟩:=hm_
   refine g_ ?_
   clear g_
   subst hr
   refine no (thn h6 fun Z s7 hm_=>?_)
   refine bC fun g_=>?_
   obtain ⟨x,H7,I7,r7,y7,st7,fr7⟩:=hm_
   refine g_ ?_
   clear g_
   have I7':=I7.pinned (fst fr7) (T.obj _ _ st7)
   have kp:∀ {σ8:St} {H8:Hp} {s8:Shared},Inv (X.blk scope (own++capn) cl s3.heap.objs.size s3 (upd H2 s2.heap.objs.size (.lst [])) fp pins) ([]++pinsAt fp s7.heap) σ8 H8 s8→tn (i + 1) s8.heap∧∀ b∈fp,H8 b=none:=fun {σ8 H8 s8} I8=>by
    refine ⟨T.keep _ _ _ st7 fun b hb o z=>(I8.pin (b,o) (List.mem_append_right _ (List.mem_append_right _ (mem_pinsAt hb z)))).1,fun b hb=>?_⟩
    refine bC fun g_=>?_
    obtain ⟨o,z,d⟩:=T.obj _ _ st7 b hb
    refine g_ ?_
    clear g_
    exact (I8.pin (b,o) (List.mem_append_right _ (List.mem_append_right _ (mem_pinsAt hb z)))).2.1
   refine no (thn (hg cl s3.heap.objs.size s3 _ fp pins _ s7 σ5 H7 x u _ I7' r7 (step x H7 y7)) fun Z s8 hm_=>?_)
   refine bC fun g_=>?_
   obtain ⟨σ8,H8,I8,q8⟩:=hm_
   refine g_ ?_
   clear g_
   refine no (thn (ht cl s3.heap.objs.size s3 _ fp pins _ s8 σ8 H8 _ I8 q8) fun b s9 hm_=>?_)
   refine bC fun g_=>?_
   obtain ⟨H9,I9,q9⟩:=hm_
   refine g_ ?_
   clear g_
   cases b with
   | false =>
    refine bC fun g_=>?_
    obtain ⟨m',hm,w9⟩:=q9
    refine g_ ?_
    clear g_
    exact ⟨m',hm,i + 1,σ8,acc,H9,I9.unpinned,(kp I9).1,(kp I9).2,w9⟩
   | true =>
    refine no (thn (he cl s3.heap.objs.size s3 _ fp pins _ s9 σ8 H9 _ I9 q9) fun y s10 hm_=>?_)
    refine bC fun g_=>?_
    obtain ⟨yv,H10,I10,r10,hD,hz,m',hm,w10⟩:=hm_
    refine g_ ?_
    clear g_
    refine no (thn (mt_append _ s10 σ8 H10 (.ref s2.heap.objs.size) [yv] (.ref s2.heap.objs.size) [y] (fun v H11=>v=.non∧H11=upd H10 s2.heap.objs.size (.lst (acc++[yv]))) I10 rfl (.cons r10 .nil) ⟨_,acc,yv,rfl,rfl,hD,hz,rfl,rfl⟩) fun Z s11 hm_=>?_)
    refine bC fun g_=>?_
    obtain ⟨_,H11,I11,_,_,e11⟩:=hm_
    refine g_ ?_
    clear g_
    subst e11
    exact ⟨m',hm,i + 1,σ8,acc++[yv],_,I11.unpinned,(kp I11).1,(kp I11).2,w10⟩
 exact codeAny_compStart_list loop (T.self _ 0 _ _ _ tn4 loop)
end
section
variable {X:Cx} {x a:Str} {C fI:Addr} {o value:Expr} {pos pos':Pos} {ta tv:TE} {mg:Str→Option Value}
end
section
variable {M:Model} {A:Around} {E:Value→Shared→Prop} {env:Env}
variable {nm q:Str} {C N:Addr} {bs bm:List Value} {hdct:Bool} {sn:List Str} {sub:List Value} {ab:Bool} {col:Option Bool} {dd:Option Addr} {k0 k1 k2 k3 k5:Option Value} {newId:String}
end
section
variable {P:Program} {w:World} {K:PySem.W.Frag} {mg:Str→Option Value} {base:Heap} {N:List Str} {qual:Str} {scope:Scope} {f:Addr} {cd:Value} {A:Around} {outer:List Env} {s₀:Shared} {H₀:Hp} {E:XK}
end
section
variable {X:Cx} {x a:Str} {C fI:Addr} {np cpos pos:Pos} {E:XK} {e₀:Expr} {rest:List Expr} {t:TA} {k:Nat} {fd:FuncData} {ps:List Str} {sp:Sp}
end
section
variable {prog:Program} {w:World} {K:Type} [DecidableEq K] {knd:KeyKind prog w K} {A:Around}
end
section
variable {X:Cx}
inductive PrIsi (K:PySem.W.Frag) (xs:List V) (H:Hp) (Q:VK) :Prop
 | mk (x T t b:_) (h0:xs=[x,.ty T]) (h1:TyOf K H x t) (h2:PySem.W.kitOne K t (.type T)=some b) (h3:Q (.bl b) H):PrIsi K xs H Q
noncomputable def rIsi (K:PySem.W.Frag) (xs:List V) (H:Hp) (Q:VK):Prop:=PrIsi K xs H Q
theorem call_isi:CallR X (.builtin "isinstance") (rIsi X.K):=by
 intro pins s σ H xs us Q I r h
 obtain ⟨x,T,t,b,rfl,ty,e,q⟩:=h
 obtain ⟨u,c,rfl,ru,rc⟩:=vals2 r
 obtain rfl:c=Value.type T:=rc
 exact isinst_ok I ru ty e fun tk=>⟨.bl b,H,I.tok tk,rfl,q⟩
end
mutual
inductive Rp (K:PySem.W.Frag) (H:Hp):V→PyData→Prop
 | non:Rp K H .non .none
 | bl (b:Bool):Rp K H (.bl b) (.bool b)
 | int (i:Int):Rp K H (.int i) (.int i)
 | str (x:Str):Rp K H (.str x) (.str x)
 | tup {a:Addr} {xs:List V} {ds:List PyData}:SqT K H a xs→Rps K H xs ds→Rp K H (.ref a) (.tuple ds)
 | lst {a:Addr} {xs:List V} {ds:List PyData}:SqL K H a xs→Rps K H xs ds→Rp K H (.ref a) (.list ds)
inductive Rps (K:PySem.W.Frag) (H:Hp):List V→List PyData→Prop
 | nil:Rps K H [] []
 | cons {x:V} {d:PyData} {xs:List V} {ds:List PyData}:Rp K H x d→Rps K H xs ds→Rps K H (x :: xs) (d :: ds)
end
theorem Same.sqT {K:PySem.W.Frag} {H H':Hp} {a:Addr} {xs:List V} (e:Same H H') (h:SqT K H a xs):SqT K H' a xs:=by
 rcases h with (h | ⟨o,h⟩) | h
 ·exact .inl (.inl (e _ _ h))
 ·exact .inl (.inr ⟨o,e _ _ h⟩)
 ·exact .inr h
section
variable {X:Cx} {pins:List (Addr×Obj)} {σ:St} {H:Hp} {s:Shared}
theorem Rp.reads (I:Inv X pins σ H s) {v:V} {d:PyData} {u:Value} (h:Rp X.K H v d) (r:RelV v u):∃ as,Reads s.heap u d as:=by
 refine Rp.rec (motive_1:=fun v d Z=>∀ u,RelV v u→∃ as,Reads s.heap u d as) (motive_2:=fun v d Z=>∀ u,Vals v u→∃ as,ReadsAll s.heap u d as) ?_ ?_ ?_ ?_ ?_ ?_ ?_ ?_ h u r
 ·intro u r; cases (show _=Value.none from r); exact ⟨_,Reads.none⟩
 ·intro b u r; cases (show _=Value.bool b from r); exact ⟨_,Reads.bool b⟩
 ·intro i u r; obtain ⟨t,rfl⟩:=r; exact ⟨_,Reads.int i t⟩
 ·intro x u r; obtain ⟨t,rfl⟩:=r; exact ⟨_,Reads.str x t⟩
 ·intro a xs ds h q ih u r
  cases (show _=Value.ref _ from r)
  refine bC fun g_=>?_
  obtain ⟨its,rv,⟨o,e,c,n,d⟩,_⟩:=I.tuple h
  obtain ⟨as,z⟩:=ih _ rv
  refine g_ ?_
  clear g_
  exact ⟨as,reads_tuple_at e c d (by simpa using z)⟩
 ·intro a xs ds h q ih u r
  cases (show _=Value.ref _ from r)
  refine bC fun g_=>?_
  obtain ⟨its,rv,⟨o,n,e,c,_,d⟩,_⟩:=I.list h
  obtain ⟨as,z⟩:=ih _ rv
  refine g_ ?_
  clear g_
  exact ⟨_,reads_list_at e c d (by simpa using z)⟩
 ·intro u r; cases r; exact ⟨_,ReadsAll.nil⟩
 ·intro x d xs ds h q i1 i2 u r
  cases r with
  | cons r t =>
   refine bC fun g_=>?_
   obtain ⟨as,a⟩:=i1 _ r
   obtain ⟨bs,b⟩:=i2 _ t
   refine g_ ?_
   clear g_
   exact ⟨_,ReadsAll.cons a b⟩
inductive PrEqD (K:PySem.W.Frag) (neg:Bool) (x:V) (y:V) (H:Hp) (Q:VK):Prop
 | mk (d e:_) (h0:Rp K H x d) (h1:Rp K H y e) (h2:SeqAt.shaped d=true) (h3:SeqAt.shaped e=true) (h4:Q (.bl (if neg then !PyData.eqv d e else PyData.eqv d e)) H):PrEqD K neg x y H Q
noncomputable def rEqD (K:PySem.W.Frag) (neg:Bool):R2:=fun x y H Q=>PrEqD K neg x y H Q
theorem op_eqD (hu:X.A.units + 64 < cLine):OpR X (compareOp .Eq) (rEqD X.K false):=by
 intro pins s σ H x y v u Q I rx ry h
 refine bC fun g_=>?_
 obtain ⟨d,e,hd,he,sd,se,q⟩:=h
 obtain ⟨as,ra⟩:=hd.reads I rx
 obtain ⟨bs,rb⟩:=he.reads I ry
 refine g_ ?_
 clear g_
 exact eq_dataH ra rb sd se hu ⟨.bl _,H,I,rfl,q⟩
theorem op_neD (hu:X.A.units + 64 < cLine):OpR X (compareOp .NotEq) (rEqD X.K true):=by
 intro pins s σ H x y v u Q I rx ry h
 refine bC fun g_=>?_
 obtain ⟨d,e,hd,he,sd,se,q⟩:=h
 obtain ⟨as,ra⟩:=hd.reads I rx
 obtain ⟨bs,rb⟩:=he.reads I ry
 refine g_ ?_
 clear g_
 exact ne_dataH ra rb sd se hu ⟨.bl _,H,I,rfl,q⟩
end
structure Fn (P:Program) (w:World) (K:PySem.W.Frag) (mg:Str→Option Value) (base:Heap) (x:Str) (k:Nat) (ps:List Str) (sp:Sp):Prop where
 ex:∃ f fd,FnOk P w K mg base (CX1 P w) k f fd ps sp∧mg x=some (.ref f)∧PySem.W.keepIn K (.ref f)=true∧Binds K fd ps []
structure Mt (P:Program) (w:World) (K:PySem.W.Frag) (mg:Str→Option Value) (base:Heap) (C:Addr) (m:Str) (k:Nat) (ps:List Str) (sp:Sp):Prop where
 ex:∃ f fd,FnOk P w K mg base (CX1 P w) k f fd ps sp∧Meth K C m f∧Cls K C∧Binds K fd ps []
structure Mc (P:Program) (w:World) (K:PySem.W.Frag) (mg:Str→Option Value) (base:Heap) (x:Str) (C:Addr) (k:Nat) (ps:List Str) (sp:Sp):Prop where
 ex:∃ f fd,FnOk P w K mg base (CX1 P w) k f fd ps sp∧Mk K C f∧mg x=some (.ref C)∧Binds K fd ps []
section
variable {X:Cx} {k:Nat} {C:Addr} {ps:List Str} {sp:Sp} {E:XK} {x m:Str} {p pos apos:Pos} {e o:Expr} {es:List Expr} {ta:TE} {t:TA}
theorem pf_call (F:Fn X.prog X.w X.K X.mg X.base x k ps sp) (hr:Room k X.A) (hg:Gl X x) (hx:Passes (CX1 X.prog X.w) X E) (ha:PA X (e :: es) t) (hdb:(x == ("__debug__":Str))=false:=by decide)
  (he:starEach (e :: es) X.env=(false,eval e X.env) :: starEach es X.env:=by rfl) (hpl:(backTo pos (starEach es X.env)).any (·.1)=false:=by rfl):PE X (.Call (.Name x p) (e :: es) [] pos) (tCall sp [] E t):=by
 refine bC fun g_=>?_
 obtain ⟨f,fd,ok,mgf,kp,bi⟩:=F.ex
 refine g_ ?_
 clear g_
 exact pe_call ok hr hg mgf kp bi .nil hx ha hdb he hpl
theorem pf_meth {pl:Sem Bool} (F:Mt X.prog X.w X.K X.mg X.base C m k ps sp) (ho:PE X o ta) (hr:Room k X.A) (hx:Passes (CX1 X.prog X.w) X E) (ha:PA X (e :: es) t)
  (hst:starEach (e :: es) X.env=(false,eval e X.env) :: starEach es X.env:=by rfl) (hpl:(backTo pos (starEach es X.env)).any (·.1)=false:=by rfl)
  (ht:eval (.Call (.Attribute o m apos) (e :: es) [] pos) X.env=(do
   let ov ← eval o X.env
   standAt apos.atName
   let (f,first) ← holding [ov] (getMethod ov m pl)
   callWith pos f first (backTo pos (starEach (e :: es) X.env)) (backToKw pos (keywordEach [] X.env))):=by rfl) :
  PE X (.Call (.Attribute o m apos) (e :: es) [] pos) (tMeth C m sp [] E ta t):=by
 refine bC fun g_=>?_
 obtain ⟨f,fd,ok,mt,cl,bi⟩:=F.ex
 refine g_ ?_
 clear g_
 exact pe_meth (pl:=pl) ho cl mt ok hr bi .nil hx ha hst hpl ht
theorem pf_make (F:Mc X.prog X.w X.K X.mg X.base x C k ps sp) (hr:Room (k + 1) X.A) (hg:Gl X x) (hx:Passes (CX1 X.prog X.w) X E) (ha:PA X (e :: es) t) (hdb:(x == ("__debug__":Str))=false:=by decide)
  (he:starEach (e :: es) X.env=(false,eval e X.env) :: starEach es X.env:=by rfl) (hpl:(backTo pos (starEach es X.env)).any (·.1)=false:=by rfl):PE X (.Call (.Name x p) (e :: es) [] pos) (tMake C sp [] E t):=by
 refine bC fun g_=>?_
 obtain ⟨f,fd,ok,mk,mgx,bi⟩:=F.ex
 refine g_ ?_
 clear g_
 exact pe_make mk ok hr hg mgx bi .nil hx ha hdb he hpl
end
section
variable {X:Cx} {es:List Expr} {env:Env}
end
section
variable {X:Cx} {elt iter tg:Expr} {ifs:List Expr} {scope:Scope} {pos:Pos} {own capn:List Str} {capI:List Nat} {wi:TI} {g:TG} {tt:TT} {te:TE}
set_option tactic.hygienic true in
theorem ps_setC {i:Nat} {y:Str} {py spos:Pos} (hN:X.N.Nodup) (hi:X.N[i]?=some y) (hy:Loc X.env.scope y) (hex:X.ex=[]) (hc:X.calm=true) (B:BlkScope X scope own capn capI) (hit:PI X tg iter wi) (hg:∀ cl C s H fp pins,PG (X.blk scope (own++capn) cl C s H fp pins) tg g)
  (ht:∀ cl C s H fp pins,PIfs (X.blk scope (own++capn) cl C s H fp pins) ifs tt) (he:∀ cl C s H fp pins,PE (X.blk scope (own++capn) cl C s H fp pins) elt te)
  (hs:∀ x,foldedSetIterable iter X.env x=pure x:=by intro _; rfl) (hsw:swapsWith (.ListComp elt [⟨tg,iter,ifs,0⟩] scope pos) (some (.Name y py)) spos.line X.env=pure true:=by rfl)
  (hf:X.fn y=true∨X.env.scope.names.lookup y=some .local:=by first | exact .inl rfl | exact .inr rfl | assumption) :
  PS X (.Assign [.Name y py] (.ListComp elt [⟨tg,iter,ifs,0⟩] scope pos) spos) (tAsg (tLC wi own.length capI g tt te) (gName i)):=by
 intro pins s σ H D0 I h
 rw [exec_Assign_Name_used _ _ _ _ hsw]
 refine wpAny_bind (wpAny_standAt (wpAny_bind ?_))
 show wpAny _ X.A (do let _ ← comprehension (.ListComp elt [⟨tg,iter,ifs,0⟩] scope pos) scope X.env _ (newList []) false (eval iter X.env) (some (assign (.Name y py) X.env))) _ _ s
 refine bC fun g_=>?_
 obtain ⟨cl,hclos,hcl,hcf⟩:=closure_of (env:=X.env) (scope:=scope) (fun y hy hf=>I.ok.has y.1 (.inl (B.free y hy hf)))
 refine g_ ?_
 clear g_
 refine wpAny_bind (wpAny_mono (wpAny_comprehension_free (use:=some (assign (.Name y py) X.env)) (Q:=fun Z s'=>SP X pins D0 .next s') rfl hs hclos B.kind B.names (thn (hit pins s σ H _ I h) fun v s1 h1=>thn h1 fun itv s2 h2=>?_)) (fun Z s' hq=>wpAny_pure (wpAny_pure hq)) fun Z Z e=>e)
 refine bC fun g_=>?_
 obtain ⟨it,fp,tn,J,H2,e,I2,T,st2,f2,hW⟩:=h2
 refine g_ ?_
 clear g_
 subst e
 refine bC fun g_=>?_
 obtain ⟨W,⟨m0,w0⟩,turn⟩:=hW s2.heap.objs.size (I2.hok.fresh (Nat.le_refl _))
 refine g_ ?_
 clear g_
 refine wpAny_newObj_type (wpAny_newFunctionEnv B.cell (by intro y hy; simp at hy) (fun h4 hns hsb=>?_) B.kind)
 dsimp only at hns hsb ⊢
 have I3:Inv X pins σ (upd H2 s2.heap.objs.size (.lst [])) { s2 with heap:=s2.heap.push { cls:=.type "list",dict:=none,data:=.seq ([]:List Value).toArray } } :=
  I2.laid (t':=s2.toks) (fun b u e=>Heap.get?_push_of_some _ e) (Nat.le_refl _) ⟨Nat.zero_le _,[],0,.nil,Heap.get?_push_size _ rfl⟩
 generalize hs3:({ s2 with heap:=s2.heap.push { cls:=.type "list",dict:=none,data:=.seq ([]:List Value).toArray } }:Shared)=s3 at I3
 have e3:s2.heap.push { cls:=.type "list",dict:=none,data:=.seq ([]:List Value).toArray }=s3.heap:=by rw [← hs3]
 have ob2:∀ b∈fp,∃ o,s2.heap.get? b=some o:=fun b hb=>let ⟨o,z,_⟩:=T.obj _ _ st2 b hb; ⟨o,z⟩
 have up3:∀ b o,s2.heap.get? b=some o→s3.heap.get? b=some o:=fun b o z=>by
  rw [← e3]
  exact Heap.get?_push_of_some _ z
 have f3:∀ b∈fp,FpOk X pins (upd H2 s2.heap.objs.size (.lst [])) b:=fun b hb=>by
  obtain ⟨o,z⟩:=ob2 b hb
  exact ⟨by rw [upd_ne (Nat.ne_of_lt (Heap.lt_size z))]; exact (f2 b hb).1,(f2 b hb).2⟩
 have ob3:∀ b∈fp,∃ o,s3.heap.get? b=some o:=fun b hb=>let ⟨o,z⟩:=ob2 b hb; ⟨o,up3 b o z⟩
 rw [e3] at hns hsb ⊢
 have up4:∀ b o,s3.heap.get? b=some o→h4.get? b=some o:=fun b o z=>(hsb.2 b (Nat.ne_of_lt (Heap.lt_size z))).trans (Heap.get?_push_of_some _ z)
 have IB:=blk_start (t':=s2.toks + ([]:List (Str×Value)).length) B I3 f3 ob3 hcl hcf hns up4
 have e4:({ s3 with heap:=h4,toks:=s2.toks + ([]:List (Str×Value)).length }:Shared)={ s2 with heap:=h4,toks:=s2.toks + ([]:List (Str×Value)).length }:=by rw [← hs3]
 rw [e4] at IB
 have tn4:tn 0 h4:=T.keep _ _ _ st2 fun b hb o z=>up4 b o (up3 b o z)
 have fst:∀ {H':Hp},(∀ b∈fp,H' b=none)→∀ b∈fp,FpOk (X.blk scope (own++capn) cl s3.heap.objs.size s3 (upd H2 s2.heap.objs.size (.lst [])) fp pins) [] H' b:=fun {H'} hn b hb=>by
  obtain ⟨o,z⟩:=ob3 b hb
  refine ⟨hn b hb,Nat.ne_of_lt (Heap.lt_size z),fun y=>?_,.inl hb,fun x c ec=>(f3 b hb).2.2.2.2.1 x c (hcl x c ec),fun p hp=>(f3 b hb).2.2.2.2.2 p (by have y:p∈(X.pn++pins)++[]:=hp; simpa using y)⟩
  rcases List.mem_cons.mp (I3.stkSub b y) with y | y
  ·exact (f3 b hb).2.1 y
  ·exact (f3 b hb).2.2.1 y
 have loop:codeAny (model X.prog X.w) X.A (.compLoop (.ListComp elt [⟨tg,iter,ifs,0⟩] scope pos) 0 (.ref it) (.ref s2.heap.objs.size) (compEnvC scope cl s3.heap.objs.size X.env))
   (compPost (model X.prog X.w) X.A X.xe (some (assign (.Name y py) X.env)) (fun Z s'=>SP X pins D0 .next s') (.ref s2.heap.objs.size) s3.heap.objs.size) { s2 with heap:=h4,toks:=s2.toks + ([]:List (Str×Value)).length }:=by
  refine comp_loop (fun n s'=>∃ i σ' acc H',Inv (X.blk scope (own++capn) cl s3.heap.objs.size s3 (upd H2 s2.heap.objs.size (.lst [])) fp pins) [] σ' H' s'∧tn i s'.heap∧(∀ b∈fp,H' b=none)∧W i n σ' acc H') ?_ m0 ⟨0,_,[],_,IB,tn4,fun b hb=>(f3 b hb).1,w0⟩
  rintro n s5 h_
  refine bC fun g_=>?_
  obtain ⟨i,σ5,acc,H5,I5,st5,fr5,w5⟩:=h_
  refine g_ ?_
  clear g_
  have no:∀ {α:Type} {t:Sem α} {Q:α→Shared→Prop} {E:Value→Shared→Prop} {s:Shared},wpAny (model X.prog X.w) X.A t Q (fun Z Z=>False) s→wpAny (model X.prog X.w) X.A t Q E s:=fun z=>wpAny_mono z (fun Z Z y=>y) fun Z Z y=>y.elim
  rcases turn i n σ5 acc H5 w5 with ⟨stop,qn⟩ | ⟨go,step⟩
  ·refine no (thn (T.done (X.blk scope (own++capn) cl s3.heap.objs.size s3 (upd H2 s2.heap.objs.size (.lst [])) fp pins) rfl rfl rfl hc i [] s5 σ5 H5 _ I5 (fst fr5) st5 stop) fun r s6 ⟨hr,I6⟩=>?_)
   subst hr
   refine bC fun g_=>?_
   obtain ⟨m,hm,_⟩:=id I6.loc
   refine g_ ?_
   clear g_
   have IX:Inv X pins σ H5 s6:=blk_end I3 f3 I6 (Heap.SameBut.refl _ _)
   have fC:∀ b∈[s3.heap.objs.size],FpOk X pins H5 b:=fun b hb=>by
    obtain rfl:b=s3.heap.objs.size:=by simpa using hb
    exact I3.fpOk (Nat.le_refl _) I6.free
   refine bC fun g_=>?_
   obtain ⟨oC,esC,epC,hoC,hdC,hrC⟩:=id hm
   refine g_ ?_
   clear g_
   have Ip:=IX.pinned fC (fun b hb=>by
    obtain rfl:b=s3.heap.objs.size:=by simpa using hb
    exact ⟨oC,hoC,fun v z=>by rw [hdC] at z; cases z⟩)
   have apC:=I3.apart hex (Heap.get?_none_of_le (Nat.le_refl s3.heap.objs.size))
   have nfC:=I3.nofs (Nat.le_refl s3.heap.objs.size)
   show wpAny _ X.A (assign (.Name y py) X.env (.ref s2.heap.objs.size)) _ _ _
   refine wpAny_assign_Name (store_ok Ip hN hi hy (v:=.ref s2.heap.objs.size) rfl (fun s7 I7=>?_) hf)
   have hC7:s7.heap.get? s3.heap.objs.size=some oC:=(I7.pin (s3.heap.objs.size,oC) (List.mem_append_right _ (List.mem_append_right _ (mem_pinsAt (by simp) hoC)))).1
   refine ⟨m,⟨oC,esC,epC,hC7,hdC,hrC⟩,fun h' hs'=>⟨_,H5,?_,qn⟩⟩
   exact I7.unpinned.recd apC I6.free nfC fun b o hb z=>(hs'.2 b hb).trans z
  ·refine no (thn (T.item (X.blk scope (own++capn) cl s3.heap.objs.size s3 (upd H2 s2.heap.objs.size (.lst [])) fp pins) rfl rfl rfl hc i [] s5 σ5 H5 _ I5 (fst fr5) st5 go) fun r s6 hm_=>?_)
   refine bC fun g_=>?_
   obtain ⟨u,hr,h6⟩:=hm_
   refine g_ ?_
   clear g_
   subst hr
   refine no (thn h6 fun Z s7 hm_=>?_)
   refine bC fun g_=>?_
   obtain ⟨x,H7,I7,r7,y7,st7,fr7⟩:=hm_
   refine g_ ?_
   clear g_
   have I7':=I7.pinned (fst fr7) (T.obj _ _ st7)
   have kp:∀ {σ8:St} {H8:Hp} {s8:Shared},Inv (X.blk scope (own++capn) cl s3.heap.objs.size s3 (upd H2 s2.heap.objs.size (.lst [])) fp pins) ([]++pinsAt fp s7.heap) σ8 H8 s8→tn (i + 1) s8.heap∧∀ b∈fp,H8 b=none:=fun {σ8 H8 s8} I8=>by
    refine ⟨T.keep _ _ _ st7 fun b hb o z=>(I8.pin (b,o) (List.mem_append_right _ (List.mem_append_right _ (mem_pinsAt hb z)))).1,fun b hb=>?_⟩
    refine bC fun g_=>?_
    obtain ⟨o,z,d⟩:=T.obj _ _ st7 b hb
    refine g_ ?_
    clear g_
    exact (I8.pin (b,o) (List.mem_append_right _ (List.mem_append_right _ (mem_pinsAt hb z)))).2.1
   refine no (thn (hg cl s3.heap.objs.size s3 _ fp pins _ s7 σ5 H7 x u _ I7' r7 (step x H7 y7)) fun Z s8 hm_=>?_)
   refine bC fun g_=>?_
   obtain ⟨σ8,H8,I8,q8⟩:=hm_
   refine g_ ?_
   clear g_
   refine no (thn (ht cl s3.heap.objs.size s3 _ fp pins _ s8 σ8 H8 _ I8 q8) fun b s9 hm_=>?_)
   refine bC fun g_=>?_
   obtain ⟨H9,I9,q9⟩:=hm_
   refine g_ ?_
   clear g_
   cases b with
   | false =>
    refine bC fun g_=>?_
    obtain ⟨m',hm,w9⟩:=q9
    refine g_ ?_
    clear g_
    exact ⟨m',hm,i + 1,σ8,acc,H9,I9.unpinned,(kp I9).1,(kp I9).2,w9⟩
   | true =>
    refine no (thn (he cl s3.heap.objs.size s3 _ fp pins _ s9 σ8 H9 _ I9 q9) fun y s10 hm_=>?_)
    refine bC fun g_=>?_
    obtain ⟨yv,H10,I10,r10,hD,hz,m',hm,w10⟩:=hm_
    refine g_ ?_
    clear g_
    refine no (thn (mt_append _ s10 σ8 H10 (.ref s2.heap.objs.size) [yv] (.ref s2.heap.objs.size) [y] (fun v H11=>v=.non∧H11=upd H10 s2.heap.objs.size (.lst (acc++[yv]))) I10 rfl (.cons r10 .nil) ⟨_,acc,yv,rfl,rfl,hD,hz,rfl,rfl⟩) fun Z s11 hm_=>?_)
    refine bC fun g_=>?_
    obtain ⟨_,H11,I11,_,_,e11⟩:=hm_
    refine g_ ?_
    clear g_
    subst e11
    exact ⟨m',hm,i + 1,σ8,acc++[yv],_,I11.unpinned,(kp I11).1,(kp I11).2,w10⟩
 exact codeAny_compStart_list loop (T.self _ 0 _ _ _ tn4 loop)
end
section
variable {X:Cx}
end
section
variable {prog:Program} {w:World} {A:Around} {E:Value→Shared→Prop} {s:Shared}
end
section
variable {prog:Program} {w:World} {K:Type} [DecidableEq K] {knd:KeyKind prog w K} {A:Around}
end
section
variable {prog:Program} {w:World} {K:Type} [DecidableEq K] {knd:KeyKind prog w K} {A:Around}
end
section
variable {X:Cx}
end
section
variable {X:Cx} {e st:Expr} {te:TE} {lo hi:Option Expr} {tl th ts:TO} {pos p2:Pos}
theorem rg_ask {lo:Int} {n i:Nat} {H:Hp} {A:Prop} {B:V→Hp→Prop} (hi:i≤n) (hs:i < n→B (.int (lo + i)) H) (hd:i=n→A) :
  ((Itr lo n).stop i H∧A)∨((Itr lo n).go i H∧∀ x H',(Itr lo n).yld i H x H'→B x H'):=by
 by_cases hlt:i < n
 ·refine .inr ⟨hlt,fun x H' y=>?_⟩
  obtain ⟨rfl,rfl⟩:=y
  exact hs hlt
 ·exact .inl ⟨by show n≤i; lia,hd (by lia)⟩
theorem ints_items:∀ {ns:List Int} {its:List Value},Vals (ns.map V.int) its→∃ xs:List (Int×Tok),its=xs.map fun p=>Value.int p.1 p.2
 | [],its,h=>by cases h; exact ⟨[],rfl⟩
 | n :: ns,its,h=>by
  cases h with
  | cons a b =>
   obtain ⟨t,rfl⟩:=a
   obtain ⟨xs,rfl⟩:=ints_items b
   exact ⟨(n,t) :: xs,rfl⟩
end
section
variable {X:Cx} {pins:List (Addr×Obj)} {σ:List (Option V)} {H H':Hp} {s:Shared} {h':Heap}
theorem Inv.turnedL {t':Nat} {wr:List Addr} (I:Inv X pins σ H s) (k:∀ b o,b ∉ wr→s.heap.get? b=some o→h'.get? b=some o) (hf:∀ b∈wr,FpOk X pins H b):Inv X pins σ H { s with heap:=h',toks:=t' }:=by
 have nit:∀ b u,H b=some u→b ∉ wr:=fun b u e z=>by rw [(hf b z).1] at e; cases e
 refine I.step (g':=s.gens) (d':=s.drawn) (ch:=wr) (fun b hb=>⟨(hf b hb).2.2.2.1,(hf b hb).2.1,(hf b hb).2.2.2.2.1,(hf b hb).2.2.2.2.2⟩) (fun b o Z Z hc e Z=>k b o hc e) (fun b o Z Z hc e Z=>⟨o.slots,k b o hc e⟩) (fun Z Z Z Z n=>n)
  (fun b o hc e=>⟨o,k b o hc e⟩) (fun Z Z e=>e) (fun Z Z Z e=>e) (fun b ps e=>⟨#[],by rw [e]; simp⟩) (fun m hm=>?_) (fun b u e=>?_) I.bare
 ·refine bC fun g_=>?_
  obtain ⟨o,es,ep,ho,r⟩:=hm
  refine g_ ?_
  clear g_
  exact ⟨o,es,ep,k _ o (fun z=>(hf _ z).2.1 rfl) ho,r⟩
 ·refine (I.hok b u e).stay (fun c v hc q=>k c v ?_ q) (fun Z q=>q) fun Z Z q=>q
  rcases hc with z | z
  ·rw [z]; exact nit b u e
  ·exact nit c _ z
theorem Inv.turnedT {t':Nat} {wr:List Addr} {T:Addr} {xs:List V} {its:List Value} (I:Inv X pins σ H s) (k:∀ b o,b ∉ wr→s.heap.get? b=some o→h'.get? b=some o) (hf:∀ b∈wr,FpOk X pins H b)
  (hT:s.heap.objs.size≤T) (hw:T ∉ wr) (rv:Vals xs its) (hl:xs.length≤sizeLine) (ht:IsTup h' T its.toArray):Inv X pins σ (upd H T (.tup xs)) { s with heap:=h',toks:=t' }:=by
 have hn:H T=none:=I.hok.fresh hT
 have neT:∀ b o,s.heap.get? b=some o→b≠T:=fun b o e=>Nat.ne_of_lt (Nat.lt_of_lt_of_le (Heap.lt_size e) hT)
 have nit:∀ b u,H b=some u→b ∉ wr:=fun b u e z=>by rw [(hf b z).1] at e; cases e
 refine I.step (g':=s.gens) (d':=s.drawn) (ch:=wr) (fun b hb=>⟨(hf b hb).2.2.2.1,(hf b hb).2.1,(hf b hb).2.2.2.2.1,(hf b hb).2.2.2.2.2⟩) (fun b o Z Z hc e Z=>k b o hc e) (fun b o Z Z hc e Z=>⟨o.slots,k b o hc e⟩) (fun b o Z e n=>by rw [upd_ne (neT b o e)]; exact n)
  (fun b o hc e=>⟨o,k b o hc e⟩) (fun b xs e=>by rw [upd_ne (ne_of_none e hn)]; exact e) (fun b Z Z e=>by rw [upd_ne (ne_of_none e hn)]; exact e) (fun b ps e=>⟨#[],by rw [upd_ne (ne_of_none e hn),e]; simp⟩) (fun m hm=>?_) (fun b u e=>?_) I.bare
 ·refine bC fun g_=>?_
  obtain ⟨o,es,ep,ho,r⟩:=hm
  refine g_ ?_
  clear g_
  exact ⟨o,es,ep,k _ o (fun z=>(hf _ z).2.1 rfl) ho,r⟩
 ·by_cases hb:b=T
  ·subst hb
   rw [upd_same] at e
   cases e
   exact ⟨hl,its,rv,ht⟩
  ·rw [upd_ne hb] at e
   refine (I.hok b u e).stay (fun c v hc q=>k c v ?_ q) (fun c q=>?_) fun c Z q=>?_
   ·rcases hc with z | z
    ·rw [z]; exact nit b u e
    ·exact nit c _ z
   ·rw [upd_ne (ne_of_none q hn)]; exact q
   ·rw [upd_ne (ne_of_none q hn)]; exact q
end
theorem turn_pair {X:Cx} {pins:List (Addr×Obj)} {σ:St} {H:Hp} {s:Shared} {E:Value→Shared→Prop} {z:Addr} {fpw wr:List Addr} {n i:Nat} {Pt:Nat→Array Value→Prop} {St':Nat→Heap→Prop} {Mid:Nat→Addr→Heap→Prop}
  {elts:List Expr} {kk:Nat} {pos:Pos} {Yl:V→Hp→Prop} {Tn:Heap→Prop} {fp:List Addr}
  (W:WalksT X.prog X.w X.A z fpw wr n Pt St' Mid) (I:Inv X pins σ H s) (hf:∀ b∈fp,FpOk X pins H b) (hfp:∀ b∈fp,∃ o,s.heap.get? b=some o) (hwr:∀ b∈wr,b∈fp) (hi:i < n) (st:St' i s.heap) (hn:∀ h,St' (i + 1) h→Tn h)
  (hv:∀ vals,Pt i vals→∃ xs:List V,Vals xs vals.toList∧xs.length≤sizeLine∧∀ T,H T=none→Yl (.ref T) (upd H T (.tup xs))) :
  wpAny (model X.prog X.w) X.A (pyNext (.ref z)) (fun r s1=>∃ u,r=some u ∧
   wpAny (model X.prog X.w) X.A (letOwnedTupleGo (.Tuple elts kk pos) (.ref z) u) (fun Z s2=>∃ x H',Inv X pins σ H' s2∧RelV x u∧Yl x H'∧Tn s2.heap∧∀ b∈fp,H' b=none) E s1) E s:=by
 refine W.item i s _ E hi st fun T vals h' tk hp hT ht hm hk=>⟨_,rfl,?_⟩
 refine bC fun g_=>?_
 obtain ⟨xs,rv,hl,hy⟩:=hv vals hp
 refine g_ ?_
 clear g_
 have hTw:T ∉ wr:=W.apart i T h' hm
 have hTn:H T=none:=I.hok.fresh hT
 have hwf:∀ b∈wr,FpOk X pins H b:=fun b hb=>hf b (hwr b hb)
 have ht':IsTup h' T vals.toList.toArray:=by
  rw [Array.toArray_toList]
  exact ht
 have I1:Inv X pins σ (upd H T (.tup xs)) { s with heap:=h',toks:=tk }:=I.turnedT hk hwf hT hTw rv hl ht'
 have neT:∀ b∈fp,b≠T:=fun b hb e=>by
  subst e
  obtain ⟨o,q⟩:=hfp b hb
  exact absurd (Nat.lt_of_lt_of_le (Heap.lt_size q) hT) (Nat.lt_irrefl _)
 have hw2:∀ b∈wr,FpOk X pins (upd H T (.tup xs)) b:=fun b hb=>⟨by rw [upd_ne (neT b (hwr b hb))]; exact (hwf b hb).1,(hwf b hb).2⟩
 refine W.go elts kk pos i T _ _ _ hm fun h2 st2 hk2=>?_
 have I2:=I1.turnedL (t':=tk) (h':=h2) hk2 hw2
 exact ⟨.ref T,_,I2,rfl,hy T hTn,hn _ st2,fun b hb=>by rw [upd_ne (neT b hb)]; exact (hf b hb).1⟩
theorem turn_pair_end {X:Cx} {pins:List (Addr×Obj)} {σ:St} {H:Hp} {s:Shared} {E:Value→Shared→Prop} {z:Addr} {fpw wr:List Addr} {n:Nat} {Pt:Nat→Array Value→Prop} {St':Nat→Heap→Prop} {Mid:Nat→Addr→Heap→Prop}
  (W:WalksT X.prog X.w X.A z fpw wr n Pt St' Mid) (I:Inv X pins σ H s) (hf:∀ b∈wr,FpOk X pins H b) (st:St' n s.heap) :
  wpAny (model X.prog X.w) X.A (pyNext (.ref z)) (fun r s1=>r=none∧Inv X pins σ H s1) E s :=
 W.done s _ E st fun h' tk hk=>⟨rfl,I.turnedL hk hf⟩
noncomputable def Ite (K:PySem.W.Frag) (a:Addr):It :=
 ⟨fun i H=>∃ xs x,SqL K H a xs∧xs[i]?=some x,fun i H v H'=>∃ T,v=.ref T∧H T=none∧∀ xs x,SqL K H a xs→xs[i]?=some x→H'=upd H T (.tup [.int i,x]),fun i H=>∃ xs,SqL K H a xs∧xs.length=i⟩
noncomputable def Itz (K:PySem.W.Frag) (a b:Addr):It :=
 ⟨fun i H=>∃ xs ys x y,SqL K H a xs∧SqL K H b ys∧xs[i]?=some x∧ys[i]?=some y,fun i H v H'=>∃ T,v=.ref T∧H T=none∧∀ xs ys x y,SqL K H a xs→SqL K H b ys→xs[i]?=some x→ys[i]?=some y→H'=upd H T (.tup [x,y]),
  fun i H=>∃ xs ys,SqL K H a xs∧SqL K H b ys∧min xs.length ys.length=i⟩
theorem vals_two {x y:V} {u v:Value} (h1:RelV x u) (h2:RelV y v):Vals [x,y] [u,v]:=.cons h1 (.cons h2 .nil)
theorem turn_enum {P:Program} {w:World} {K:PySem.W.Frag} {elts:List Expr} {kk:Nat} {pos:Pos} (e it a:Addr) (hei:e≠it) (hae:a≠e) (hai:a≠it) :
  Turn P w K (.Tuple elts kk pos) (Ite K a) [e,it] e (fun i h=>(∃ old,IsEnum h e it i old)∧h.IsListIter it a i) where
 mem:=by simp
 obj:=fun i h st b hb=>by
  refine bC fun g_=>?_
  obtain ⟨⟨old,h1⟩,o,h2,c,d⟩:=st
  refine g_ ?_
  clear g_
  rcases List.mem_cons.mp hb with rfl | hb
  ·exact ⟨_,h1,fun v z=>by
    have z':Data.fields _=Data.cell v:=z
    cases z'⟩
  ·have e':b=it:=by simpa using hb
   subst e'
   exact ⟨o,h2,fun v z=>by rw [d] at z; cases z⟩
 keep:=fun i h h' st k=>by
  refine bC fun g_=>?_
  obtain ⟨⟨old,h1⟩,h2⟩:=st
  refine g_ ?_
  clear g_
  exact ⟨⟨old,k e (by simp) _ h1⟩,h2.at fun o q=>k it (by simp) o q⟩
 item:=by
  intro X hP hw hK hc i pins s σ H E I hf st hg
  subst hP hw hK
  refine bC fun g_=>?_
  obtain ⟨xs,x,hq,hx⟩:=hg
  obtain ⟨its,rv,p,hz⟩:=I.list hq
  obtain ⟨u,hu,ru⟩:=rv.get hx
  refine g_ ?_
  clear g_
  have hil:i < its.length:=by
   obtain ⟨h,_⟩:=List.getElem?_eq_some_iff.mp hu
   exact h
  refine turn_pair (Yl:=fun x H'=>(Ite X.K a).yld i H x H') (Tn:=fun h=>(∃ old,IsEnum h e it ((i + 1:Nat):Int) old)∧h.IsListIter it a (i + 1)) (WalksT.enumerate (I.ok.hd hc) e it a hei hae hai its.toArray) I hf (fun b hb=>?_) (fun b hb=>hb) (by simpa using hil) ⟨st.1,st.2,p.isList⟩ (fun h q=>⟨q.1,q.2.1⟩) fun vals hp=>?_
  ·refine bC fun g_=>?_
   obtain ⟨⟨old,h1⟩,o,h2,c,d⟩:=st
   refine g_ ?_
   clear g_
   rcases List.mem_cons.mp hb with rfl | hb
   ·exact ⟨_,h1⟩
   ·have e':b=it:=by simpa using hb
    subst e'
    exact ⟨o,h2⟩
  ·refine bC fun g_=>?_
   obtain ⟨t,y,hy,e1_⟩:=hp
   refine g_ ?_
   clear g_
   obtain rfl:=e1_
   have hy':its[i]?=some y:=by simpa using hy
   rw [hu] at hy'
   cases hy'
   refine ⟨[.int i,x],vals_two ⟨t,rfl⟩ ru,by show 2≤sizeLine; decide,fun T hT=>⟨T,rfl,hT,fun xs' x' hq' hx'=>?_⟩⟩
   rw [I.list_inj hq' hq,hx] at hx'
   cases hx'
   rfl
 done:=by
  intro X hP hw hK hc i pins s σ H E I hf st hg
  subst hP hw hK
  refine bC fun g_=>?_
  obtain ⟨xs,hq,hx⟩:=hg
  obtain ⟨its,rv,p,hz⟩:=I.list hq
  refine g_ ?_
  clear g_
  have hl:=rv.length
  have hn:its.toArray.size=i:=by simp; lia
  have:=turn_pair_end (E:=E) (WalksT.enumerate (prog:=X.prog) (w:=X.w) (I.ok.hd hc) e it a hei hae hai its.toArray) I hf (by rw [hn]; exact ⟨st.1,st.2,p.isList⟩)
  exact this
 self:=fun Z Z Z Z Z st h=>by
  refine bC fun g_=>?_
  obtain ⟨⟨old,h1⟩,_⟩:=st
  refine g_ ?_
  clear g_
  exact wpAny_pyIter_enum h1 h
theorem turn_zip {P:Program} {w:World} {K:PySem.W.Frag} {elts:List Expr} {kk:Nat} {pos:Pos} (z TI TO i1 i2 a b:Addr) (D:ZipApart z TI TO i1 i2 a b) :
  Turn P w K (.Tuple elts kk pos) (Itz K a b) [z,TI,TO,i1,i2] z (fun i h=>IsZip h z TI TO .none∧IsPair h TI (.ref i1) (.ref i2)∧(∃ a b,IsPair h TO a b)∧h.IsListIter i1 a i∧h.IsListIter i2 b i) where
 mem:=by simp
 obj:=fun i h st c hc=>by
  refine bC fun g_=>?_
  obtain ⟨h1,h2,⟨x,y,h3⟩,⟨o4,h4,c4,d4⟩,⟨o5,h5,c5,d5⟩⟩:=st
  refine g_ ?_
  clear g_
  simp at hc
  rcases hc with rfl | rfl | rfl | rfl | rfl
  ·exact ⟨_,h1,fun v z=>by
    have z':Data.fields _=Data.cell v:=z
    cases z'⟩
  ·exact ⟨_,h2,fun v z=>by
    have z':Data.seq _ _=Data.cell v:=z
    cases z'⟩
  ·exact ⟨_,h3,fun v z=>by
    have z':Data.seq _ _=Data.cell v:=z
    cases z'⟩
  ·exact ⟨o4,h4,fun v z=>by rw [d4] at z; cases z⟩
  ·exact ⟨o5,h5,fun v z=>by rw [d5] at z; cases z⟩
 keep:=fun i h h' st k=>by
  refine bC fun g_=>?_
  obtain ⟨h1,h2,⟨x,y,h3⟩,h4,h5⟩:=st
  refine g_ ?_
  clear g_
  exact ⟨k z (by simp) _ h1,k TI (by simp) _ h2,⟨x,y,k TO (by simp) _ h3⟩,h4.at fun o q=>k i1 (by simp) o q,h5.at fun o q=>k i2 (by simp) o q⟩
 item:=by
  intro X hP hw hK hc i pins s σ H E I hf st hg
  subst hP hw hK
  refine bC fun g_=>?_
  obtain ⟨xs,ys,x,y,hq1,hq2,hx,hy⟩:=hg
  obtain ⟨its1,rv1,p1,hz1⟩:=I.list hq1
  obtain ⟨u1,hu1,ru1⟩:=rv1.get hx
  obtain ⟨its2,rv2,p2,hz2⟩:=I.list hq2
  obtain ⟨u2,hu2,ru2⟩:=rv2.get hy
  refine g_ ?_
  clear g_
  have hi1:i < its1.length:=(List.getElem?_eq_some_iff.mp hu1).1
  have hi2:i < its2.length:=(List.getElem?_eq_some_iff.mp hu2).1
  refine turn_pair (Yl:=fun x H'=>(Itz X.K a b).yld i H x H') (Tn:=fun h=>IsZip h z TI TO .none∧IsPair h TI (.ref i1) (.ref i2)∧(∃ a b,IsPair h TO a b)∧h.IsListIter i1 a (i + 1)∧h.IsListIter i2 b (i + 1)) (WalksT.zip2 (I.ok.hd hc) z TI TO i1 i2 a b D its1.toArray its2.toArray) I hf (fun c hc=>?_) (fun c hc=>by simp at hc ⊢; rcases hc with rfl | rfl | rfl | rfl <;> simp) (by simp; lia) ⟨st.1,st.2.1,st.2.2.1,st.2.2.2.1,st.2.2.2.2,p1.isList,p2.isList⟩
   (fun h q=>⟨q.1,q.2.1,q.2.2.1,q.2.2.2.1,q.2.2.2.2.1⟩) fun vals hp=>?_
  ·refine bC fun g_=>?_
   obtain ⟨h1,h2,⟨x',y',h3⟩,⟨o4,h4,c4,d4⟩,⟨o5,h5,c5,d5⟩⟩:=st
   refine g_ ?_
   clear g_
   simp at hc
   rcases hc with rfl | rfl | rfl | rfl | rfl
   ·exact ⟨_,h1⟩
   ·exact ⟨_,h2⟩
   ·exact ⟨_,h3⟩
   ·exact ⟨_,h4⟩
   ·exact ⟨_,h5⟩
  ·refine bC fun g_=>?_
   obtain ⟨v1,v2,hv1,hv2,e2_⟩:=hp
   refine g_ ?_
   clear g_
   obtain rfl:=e2_
   have e1:its1[i]?=some v1:=by simpa using hv1
   have e2:its2[i]?=some v2:=by simpa using hv2
   rw [hu1] at e1
   rw [hu2] at e2
   cases e1
   cases e2
   refine ⟨[x,y],vals_two ru1 ru2,by show 2≤sizeLine; decide,fun T hT=>⟨T,rfl,hT,fun xs' ys' x' y' hq1' hq2' hx' hy'=>?_⟩⟩
   rw [I.list_inj hq1' hq1,hx] at hx'
   rw [I.list_inj hq2' hq2,hy] at hy'
   cases hx'
   cases hy'
   rfl
 done:=by
  intro X hP hw hK hc i pins s σ H E I hf st hg
  subst hP hw hK
  refine bC fun g_=>?_
  obtain ⟨xs,ys,hq1,hq2,hx⟩:=hg
  obtain ⟨its1,rv1,p1,hz1⟩:=I.list hq1
  obtain ⟨its2,rv2,p2,hz2⟩:=I.list hq2
  refine g_ ?_
  clear g_
  have hl1:=rv1.length
  have hl2:=rv2.length
  have hn:min its1.toArray.size its2.toArray.size=i:=by simp; lia
  have:=turn_pair_end (E:=E) (WalksT.zip2 (prog:=X.prog) (w:=X.w) (I.ok.hd hc) z TI TO i1 i2 a b D its1.toArray its2.toArray) I (fun c hc=>hf c (by simp at hc ⊢; rcases hc with rfl | rfl | rfl | rfl <;> simp))
   (by rw [hn]; exact ⟨st.1,st.2.1,st.2.2.1,st.2.2.2.1,st.2.2.2.2,p1.isList,p2.isList⟩)
  exact this
 self:=fun Z Z Z Z Z st h=>wpAny_pyIter_zip st.1 h
section
variable {X:Cx} {elts:List Expr} {kk:Nat} {pt:Pos}
noncomputable def iEnum (K:PySem.W.Frag) (ta:TA):TI:=fun σ H R=>ta σ H fun vs H1=>∃ a xs,vs=[.ref a]∧SqL K H1 a xs∧R (Ite K a) H1
noncomputable def iZip (K:PySem.W.Frag) (ta:TA):TI:=fun σ H R=>ta σ H fun vs H1=>∃ a b xs ys,vs=[.ref a,.ref b]∧SqL K H1 a xs∧SqL K H1 b ys∧R (Itz K a b) H1
theorem boot_enum:bootBuiltins "enumerate"=some (.type "enumerate"):=by rfl
theorem pi_enum {a:Expr} {ta:TA} {p pos:Pos} (hg:Gl X "enumerate") (hm:X.mg "enumerate"=none) (ha:PA X [a] ta) (hs:starEach [a] X.env=[(false,eval a X.env)]:=by rfl) :
  PI X (.Tuple elts kk pt) (.Call (.Name "enumerate" p) [a] [] pos) (iEnum X.K ta):=by
 intro pins s σ H R I h
 refine Call_ (ld_blt I hg hm boot_enum (PyProof.Rows.callWith_type1 (thn (ha pos pins s σ H _ I h) fun us s1 hm_=>?_) hs rfl))
 refine bC fun g_=>?_
 obtain ⟨vs,H1,I1,r1,q1⟩:=hm_
 obtain ⟨l,xs,e,hq,q⟩:=q1
 refine g_ ?_
 clear g_
 subst e
 cases r1 with
 | cons r rr =>
  cases rr
  cases r
  refine bC fun g_=>?_
  obtain ⟨its,rv,pl,hz⟩:=I1.list hq
  refine g_ ?_
  clear g_
  have hll:l < s1.heap.objs.size:=by
   refine bC fun g_=>?_
   obtain ⟨o,z,_⟩:=pl.isList
   refine g_ ?_
   clear g_
   exact Heap.lt_size z
  refine call_enumerate_list pl.isList fun h' he hit hsz hk=>?_
  refine wpAny_pyIter_enum he ?_
  refine ⟨s1.heap.objs.size + 1,[s1.heap.objs.size + 1,s1.heap.objs.size],_,_,H1,rfl,I1.kept (t':=s1.toks) hk,turn_enum (s1.heap.objs.size + 1) s1.heap.objs.size l (Nat.ne_of_gt (Nat.lt_succ_self _)) (Nat.ne_of_lt (Nat.lt_succ_of_lt hll)) (Nat.ne_of_lt hll),⟨⟨_,he⟩,hit⟩,fun b hb=>?_,q⟩
  have hb':s1.heap.objs.size≤b:=by
   simp at hb
   rcases hb with rfl | rfl
   ·exact Nat.le_succ _
   ·exact Nat.le_refl _
  exact I1.fpOk hb' (I1.hok.fresh hb')
theorem pi_zip {a b:Expr} {ta:TA} {p pos:Pos} (hg:Gl X "zip") (hm:X.mg "zip"=none) (ha:PA X [a,b] ta)
  (he:starEach [a,b] X.env=(false,eval a X.env) :: starEach [b] X.env:=by rfl) (hpl:(backTo pos (starEach [b] X.env)).any (·.1)=false:=by rfl) :
  PI X (.Tuple elts kk pt) (.Call (.Name "zip" p) [a,b] [] pos) (iZip X.K ta):=by
 intro pins s σ H R I h
 refine Call_ (ld_blt I hg hm boot_zip (PyProof.Rows.callWith_type1 (thn (ha pos pins s σ H _ I h) fun us s1 hm_=>?_) he hpl))
 refine bC fun g_=>?_
 obtain ⟨vs,H1,I1,r1,q1⟩:=hm_
 obtain ⟨l1,l2,xs,ys,e,hq1,hq2,q⟩:=q1
 refine g_ ?_
 clear g_
 subst e
 refine bC fun g_=>?_
 obtain ⟨u1,u2,e3_,ru1,ru2⟩:=vals2 r1
 refine g_ ?_
 clear g_
 obtain rfl:=e3_
 obtain rfl:u1=Value.ref l1:=ru1
 obtain rfl:u2=Value.ref l2:=ru2
 refine bC fun g_=>?_
 obtain ⟨i1,v1,P1,z1⟩:=I1.list hq1
 obtain ⟨i2,v2,P2,z2⟩:=I1.list hq2
 refine g_ ?_
 clear g_
 have hl1:l1 < s1.heap.objs.size:=by
  refine bC fun g_=>?_
  obtain ⟨o,z,_⟩:=P1.isList
  refine g_ ?_
  clear g_
  exact Heap.lt_size z
 have hl2:l2 < s1.heap.objs.size:=by
  refine bC fun g_=>?_
  obtain ⟨o,z,_⟩:=P2.isList
  refine g_ ?_
  clear g_
  exact Heap.lt_size z
 refine call_zip_2 P1.isList P2.isList fun h' hz hTI hTO hi1 hi2 hsz hk=>?_
 refine wpAny_pyIter_zip hz ?_
 refine ⟨s1.heap.objs.size + 4,[s1.heap.objs.size + 4,s1.heap.objs.size + 2,s1.heap.objs.size + 3,s1.heap.objs.size,s1.heap.objs.size + 1],_,_,H1,rfl,I1.kept (t':=s1.toks) hk,
  turn_zip (s1.heap.objs.size + 4) (s1.heap.objs.size + 2) (s1.heap.objs.size + 3) s1.heap.objs.size (s1.heap.objs.size + 1) l1 l2 (zipApart_new hl1 hl2),⟨hz,hTI,⟨_,_,hTO⟩,hi1,hi2⟩,fun b hb=>?_,q⟩
 have hb':s1.heap.objs.size≤b:=by
  simp at hb
  rcases hb with rfl | rfl | rfl | rfl | rfl
  ·exact Nat.le_add_right _ _
  ·exact Nat.le_add_right _ _
  ·exact Nat.le_add_right _ _
  ·exact Nat.le_refl _
  ·exact Nat.le_add_right _ _
 exact I1.fpOk hb' (I1.hok.fresh hb')
end
theorem en_ask {K:PySem.W.Frag} {a:Addr} {xs:List V} {i:Nat} {H:Hp} {A:Prop} {B:V→Hp→Prop} (q:SqL K H a xs) (hi:i≤xs.length) (hs:∀ x,xs[i]?=some x→i < xs.length→∀ T,H T=none→B (.ref T) (upd H T (.tup [.int i,x]))) (hd:i=xs.length→A) :
  ((Ite K a).stop i H∧A)∨((Ite K a).go i H∧∀ x H',(Ite K a).yld i H x H'→B x H'):=by
 by_cases hlt:i < xs.length
 ·refine .inr ⟨⟨xs,xs[i],q,by simp [hlt]⟩,fun x H' y=>?_⟩
  refine bC fun g_=>?_
  obtain ⟨T,e4_,hT,y⟩:=y
  refine g_ ?_
  clear g_
  obtain rfl:=e4_
  rw [y xs xs[i] q (by simp [hlt])]
  exact hs xs[i] (by simp [hlt]) hlt T hT
 ·exact .inl ⟨⟨xs,q,by lia⟩,hd (by lia)⟩
theorem zp_ask {K:PySem.W.Frag} {a b:Addr} {xs ys:List V} {i:Nat} {H:Hp} {A:Prop} {B:V→Hp→Prop} (q1:SqL K H a xs) (q2:SqL K H b ys) (hl:ys.length=xs.length) (hi:i≤xs.length)
  (hs:∀ x y,xs[i]?=some x→ys[i]?=some y→i < xs.length→∀ T,H T=none→B (.ref T) (upd H T (.tup [x,y]))) (hd:i=xs.length→A) :
  ((Itz K a b).stop i H∧A)∨((Itz K a b).go i H∧∀ x H',(Itz K a b).yld i H x H'→B x H'):=by
 by_cases hlt:i < xs.length
 ·have hlt2:i < ys.length:=by lia
  refine .inr ⟨⟨xs,ys,xs[i],ys[i],q1,q2,by simp [hlt],by simp [hlt2]⟩,fun x H' y=>?_⟩
  refine bC fun g_=>?_
  obtain ⟨T,e5_,hT,y⟩:=y
  refine g_ ?_
  clear g_
  obtain rfl:=e5_
  rw [y xs ys xs[i] ys[i] q1 q2 (by simp [hlt]) (by simp [hlt2])]
  exact hs xs[i] ys[i] (by simp [hlt]) (by simp [hlt2]) hlt T hT
 ·exact .inl ⟨⟨xs,ys,q1,q2,by lia⟩,hd (by lia)⟩
section
variable {X:Cx} {o i:Expr} {pos:Pos} {td ty:TE}
end
section
variable {X:Cx} {k:Nat} {f C:Addr} {fd:FuncData} {ps:List Str} {sp:Sp} {dvs:List V} {ds:List Value} {m:Str} {p pos apos epos cpos:Pos} {e o:Expr} {es:List Expr} {ta:TE} {t:TA}
variable {te:XK→TE} {cx n:Str} {np hpos tpos wpos:Pos} {i j:Nat} {b₀:Stmt} {suite:List Stmt} {ts:TS} {Cc:Addr} {call:Expr}
end
noncomputable def mxF:Int→List Int→Int
 | a,[]=>a
 | a,b :: r=>mxF (if b > a then b else a) r
noncomputable def mxD (d:Int):List Int→Int
 | []=>d
 | a :: r=>mxF a r
theorem mxF_snoc:∀ (r:List Int) (a b:Int),mxF a (r++[b])=if b > mxF a r then b else mxF a r
 | [],_,_=>rfl
 | _ :: r,_,b=>mxF_snoc r _ b
theorem numAt_list {ns:List Int} {ys:List (Int×Tok)} (h:ys.map (·.1)=ns) (i:Nat):numAt ys.toArray i=(ns[i]?).getD 0:=by
 subst h
 simp [numAt]
theorem best_mx {ns:List Int} {a:Int} {r:List Int} {ys:List (Int×Tok)} (h:ys.map (·.1)=ns) (e:ns=a :: r):∀ k,k < ns.length→numAt ys.toArray (argBest (fun i j=>decide (numAt ys.toArray i > numAt ys.toArray j)) k)=mxF a (r.take k)∧argBest (fun i j=>decide (numAt ys.toArray i > numAt ys.toArray j)) k≤k
 | 0,_=>by
  rw [argBest,numAt_list h,e,List.take_zero]
  exact ⟨rfl,Nat.le_refl _⟩
 | k + 1,hk=>by
  obtain ⟨ih,le⟩:=best_mx h e k (by lia)
  have hk':k < r.length:=by
   rw [e,List.length_cons] at hk
   lia
  have x1:numAt ys.toArray (k + 1)=r[k]:=by
   rw [numAt_list h,e,List.getElem?_cons_succ,List.getElem?_eq_getElem hk']
   rfl
  rw [List.take_add_one,List.getElem?_eq_getElem hk',Option.toList_some,mxF_snoc,argBest]
  by_cases c:r[k] > mxF a (r.take k)
  ·rw [if_pos c,if_pos (by rw [decide_eq_true_eq,x1,ih]; exact c)]
   exact ⟨x1,Nat.le_refl _⟩
  ·rw [if_neg c,if_neg (by rw [decide_eq_true_eq,x1,ih]; exact c)]
   exact ⟨ih,by lia⟩
section
variable {prog:Program} {w:World} {A:Around} {R:Result→Shared→Prop} {I S:Addr} {fp wr:List Addr} {n:Nat} {P:Nat→Value→Prop} {St:Nat→Heap→Prop} {kw:List (Str×Value)} {bt:Nat→Nat→Bool}
noncomputable abbrev pairL (b:Value) (c:Nat):Obj:={ cls:=.type "list",dict:=none,data:=.seq #[b,b] c,slots:=#[] }
theorem mx_loop (W:Walks prog w A.in1 I fp wr n P St) (cm:CmpOf prog w A.in1 .Gt P bt) (nf:S ∉ fp):∀ (r i:Nat) (s:Shared) (b:Value) (c:Nat),i + 1 + r=n→St (i + 1) s.heap→P (argBest bt i) b→s.heap.get? S=some (pairL b c) →
  (∀ v h' tk,P (argBest bt (n - 1)) v→(∀ x o,x ∉ wr→x≠S→s.heap.get? x=some o→h'.get? x=some o)→R (.ok (.ret v)) { s with heap:=h',toks:=tk })→codeAny (model prog w) A (.builtin "max.loop" ⟨[.ref I,.none,.ref S],kw⟩) R s:=by
 have nw:S ∉ wr:=fun z=>nf (W.sub _ z)
 have nm:(toString "max"++toString ".loop":String)="max.loop":=by decide
 intro r
 induction r with
 | zero =>
  intro i s b c e st pb gS q
  refine codeAny_builtin PySem.F.entry_max_loop (by
   rw [PySem.Around.under_plainId PySem.F.plain_max_loop]
   show wpAny _ A.in1 (seqItems? (Value.ref S) >>= _) _ _ s
   refine wpAny_bind (wpAny_seqItems gS rfl ?_)
   show wpAny _ A.in1 (tryCatch (pyNext (Value.ref I)) _ >>= _) _ _ s
   refine wpAny_bind (wpAny_tryCatch (W.done s _ _ (show St n s.heap by rw [← e]; exact st) fun h1 tk1 k1=>?_))
   show wpAny _ A.in1 (updateSeq S (fun Z=>#[]) >>= _) _ _ _
   refine wpAny_bind (wpAny_updateSeq (k1 S _ nw gS) rfl (wpAny_bind (wpAny_letGo (wpAny_pure ?_))))
   exact q b _ tk1 (by rw [show n - 1=i by lia]; exact pb) fun x o x1 x2 y=>(Heap.get?_update_other _ _ (Ne.symm x2)).trans (k1 x o x1 y))
 | succ r ih =>
  intro i s b c e st pb gS q
  refine codeAny_builtin PySem.F.entry_max_loop (by
   rw [PySem.Around.under_plainId PySem.F.plain_max_loop]
   show wpAny _ A.in1 (seqItems? (Value.ref S) >>= _) _ _ s
   refine wpAny_bind (wpAny_seqItems gS rfl ?_)
   show wpAny _ A.in1 (tryCatch (pyNext (Value.ref I)) _ >>= _) _ _ s
   refine wpAny_bind (wpAny_tryCatch (W.item (i + 1) s _ _ (by lia) st fun v h1 tk1 pv st1 k1=>?_))
   have gS1:=k1 S _ nw gS
   show wpAny _ A.in1 (tryCatch (holding [v,v] (richCompare .Gt v b >>= _)) _ >>= _) _ _ _
   refine wpAny_bind (wpAny_tryCatch (wpAny_holding (wpAny_bind (cm (i + 1) (argBest bt i) v b _ _ _ pv pb (wpAny_bind (wpAny_holding (wpAny_truthy_bool (wpAny_bind (wpAny_letGo (wpAny_pure ?_))))))))))
   cases hb:bt (i + 1) (argBest bt i) with
   | true =>
    simp only [if_true]
    refine wpAny_bind (wpAny_updateSeq gS1 rfl (wpAny_bind (wpAny_letGo ?_)))
    rw [nm]
    refine wpAny_pure ⟨plainId_quiet PySem.F.plain_max_loop _,ih (i + 1) _ v _ (by lia) (W.frame _ _ _ st1 fun x xf o y=>(Heap.get?_update_other _ _ (fun z:S=x=>nf (by rw [z]; exact xf))).trans y) (by simp only [argBest,hb,if_true]; exact pv) (Heap.get?_update_self _ gS1 rfl) fun v2 h2 tk2 p2 k2=>q v2 h2 tk2 p2 fun x o x1 x2 y=>k2 x o x1 x2 ((Heap.get?_update_other _ _ (Ne.symm x2)).trans (k1 x o x1 y))⟩
   | false =>
    simp only [Bool.false_eq_true,if_false]
    refine wpAny_bind (wpAny_letGo ?_)
    rw [nm]
    refine wpAny_pure ⟨plainId_quiet PySem.F.plain_max_loop _,ih (i + 1) _ b c (by lia) st1 (by simp only [argBest,hb,Bool.false_eq_true,if_false]; exact pb) gS1 fun v2 h2 tk2 p2 k2=>q v2 h2 tk2 p2 fun x o x1 x2 y=>k2 x o x1 x2 (k1 x o x1 y)⟩)
theorem mx_start (W:Walks prog w A.in1 I fp wr n P St) (cm:CmpOf prog w A.in1 .Gt P bt) (nf:S ∉ fp) {d:Value} {s:Shared} {c:Nat} (st:St 0 s.heap) (gS:s.heap.get? S=some { cls:=.type "list",dict:=none,data:=.seq #[] c,slots:=#[] })
  (q:∀ v h' tk,(0 < n→P (argBest bt (n - 1)) v)→(n=0→v=d)→(∀ x o,x ∉ wr→x≠S→s.heap.get? x=some o→h'.get? x=some o)→R (.ok (.ret v)) { s with heap:=h',toks:=tk }):codeAny (model prog w) A (.builtin "max.loop" ⟨[.ref I,.none,.ref S],[("default",d)]⟩) R s:=by
 have nw:S ∉ wr:=fun z=>nf (W.sub _ z)
 have nm:(toString "max"++toString ".loop":String)="max.loop":=by decide
 refine codeAny_builtin PySem.F.entry_max_loop (by
  rw [PySem.Around.under_plainId PySem.F.plain_max_loop]
  show wpAny _ A.in1 (seqItems? (Value.ref S) >>= _) _ _ s
  refine wpAny_bind (wpAny_seqItems gS rfl ?_)
  show wpAny _ A.in1 (tryCatch (pyNext (Value.ref I)) _ >>= _) _ _ s
  by_cases n0:n=0
  ·subst n0
   refine wpAny_bind (wpAny_tryCatch (W.done s _ _ st fun h1 tk1 k1=>?_))
   show wpAny _ A.in1 (rule _ >>= _) _ _ _
   refine wpAny_bind (wpAny_rule (wpAny_pure ?_))
   exact q d h1 tk1 (fun z=>absurd z (Nat.lt_irrefl _)) (fun Z=>rfl) fun x o x1 Z y=>k1 x o x1 y
  ·refine wpAny_bind (wpAny_tryCatch (W.item 0 s _ _ (by lia) st fun v h1 tk1 pv st1 k1=>?_))
   have gS1:=k1 S _ nw gS
   show wpAny _ A.in1 (updateSeq S (fun Z=>#[v,v]) >>= _) _ _ _
   refine wpAny_bind (wpAny_updateSeq gS1 rfl ?_)
   rw [nm]
   refine wpAny_pure ⟨plainId_quiet PySem.F.plain_max_loop _,mx_loop W cm nf (n - 1) 0 _ v _ (by lia) (W.frame _ _ _ st1 fun x xf o y=>(Heap.get?_update_other _ _ (fun z:S=x=>nf (by rw [z]; exact xf))).trans y) pv (Heap.get?_update_self _ gS1 rfl) fun v2 h2 tk2 p2 k2=>?_⟩
   exact q v2 h2 tk2 (fun Z=>p2) (fun z=>absurd z n0) fun x o x1 x2 y=>k2 x o x1 x2 ((Heap.get?_update_other _ _ (Ne.symm x2)).trans (k1 x o x1 y)))
end
section
variable {X:Cx}
theorem mx_args (a d:Value):argsOk "max" ⟨[a],[("default",d)]⟩:=by unfold argsOk; kernel_rfl
theorem items_toks {ns:List Int} {ys:List (Int×Tok)} (v:Vals (ns.map V.int) (ys.map fun p=>Value.int p.1 p.2)):ys.map (·.1)=ns:=by
 induction ns generalizing ys with
 | nil =>
  cases ys with
  | nil=>rfl
  | cons y ys=>cases v
 | cons n ns ih =>
  cases ys with
  | nil=>cases v
  | cons y ys =>
   cases v with
   | cons a b =>
    obtain ⟨t,e⟩:=a
    cases e
    rw [List.map_cons,ih b]
noncomputable def tMaxD (K:PySem.W.Frag) (t tk:TA):TE:=fun σ H Q=>t σ H fun vs H1=>tk σ H1 fun zs H2=>∃ (l:Addr) (ns:List Int) (d:Int),vs=[.ref l]∧zs=[.int d]∧SqL K H2 l (ns.map V.int)∧Q (.int (mxD d ns)) H2
theorem call_mxD (hc:X.calm=true) {pins:List (Addr×Obj)} {σ:St} {H:Hp} {s:Shared} {Q:VK} {l:Addr} {ns:List Int} {d:Int} {u:Value} (I:Inv X pins σ H s) (hl:SqL X.K H l (ns.map V.int)) (hu:RelV (.int d) u) (q:Q (.int (mxD d ns)) H) :
  wpAny (model X.prog X.w) X.A (call (.builtin "max") [.ref l] [("default",u)]) (EP X pins σ Q) X.xe s:=by
 refine bC fun g_=>?_
 obtain ⟨its,v,P1,z1⟩:=I.list hl
 obtain ⟨ys,e1_⟩:=ints_items v
 refine g_ ?_
 clear g_
 obtain rfl:=e1_
 have hys:=items_toks v
 have hl':s.heap.IsList l (intItems ys.toArray):=by
  have:=P1.isList
  rw [show (ys.map fun p=>Value.int p.1 p.2).toArray=intItems ys.toArray by unfold intItems; simp] at this
  exact this
 have nm:(toString "max"++toString ".loop":String)="max.loop":=by decide
 refine kmk_tree PySem.F.kind_max PySem.F.plain_max PySem.F.entry_max (mx_args _ _) ?_
 show wpAny _ X.A.in1 (Builtin.Builtins.bindParams "max" ["key","default"] 0 ⟨[],[("default",u)]⟩ >>= _) _ _ s
 refine wpAny_bind (wpAny_of_eq (show Builtin.Builtins.bindParams "max" ["key","default"] 0 ⟨[],[("default",u)]⟩=pure [none,some u] from rfl) ?_)
 refine wpAny_bind (wpAny_pure (wpAny_bind (iter_intList hl' fun s2 e2 st2 fp2 ne2=>?_)))
 subst e2
 refine wpAny_bind (wpAny_newObj_type ?_)
 rw [nm]
 refine wpAny_pure ⟨plainId_quiet PySem.F.plain_max_loop _,mx_start (d:=u) (Walks.list (A:=X.A.in1) (I.ok.hd hc) _ l ne2 (intItems ys.toArray)) (CmpOf.ints_gt (numAt ys.toArray) (fun Z Z=>intItems_at)) (fun z=>Nat.lt_irrefl _ (fp2 _ z)) ⟨st2.1.at fun o y=>Heap.get?_push_of_some _ y,st2.2.at fun o y=>Heap.get?_push_of_some _ y⟩ (Heap.get?_push_size _ rfl) fun v2 h2 tk2 p2 p0 k2=>?_⟩
 have kk:∀ x o,s.heap.get? x=some o→h2.get? x=some o:=fun x o y=>by
  have lt:=Heap.lt_size y
  refine k2 x o (by simpa using Nat.ne_of_lt lt) (fun z=>?_) (Heap.get?_push_of_some _ (Heap.get?_push_of_some _ y))
  rw [z,Heap.size_push] at lt
  exact Nat.lt_asymm lt (Nat.lt_succ_self _)
 have sz:(intItems ys.toArray).size=ns.length:=by rw [← hys]; simp [intItems]
 rw [sz] at p2 p0
 obtain ⟨t,ev⟩:∃ t,v2=.int (mxD d ns) t:=by
  cases hn:ns with
  | nil =>
   rw [p0 (by rw [hn]; rfl)]
   exact hu
  | cons a r =>
   have lt:ns.length - 1 < ns.length:=by rw [hn,List.length_cons]; lia
   obtain ⟨t,e⟩:=intItems_at (p2 (by lia))
   refine ⟨t,?_⟩
   rw [e,(best_mx hys hn _ lt).1,hn,List.length_cons,Nat.add_sub_cancel,List.take_of_length_le (Nat.le_refl _)]
   rfl
 subst ev
 exact ⟨.int _,H,I.kept (t':=tk2) kk,⟨t,rfl⟩,q⟩
theorem pe_maxD {e v:Expr} {t tk:TA} {p pos kp:Pos} (hc:X.calm=true) (hg:Gl X "max") (hm:X.mg "max"=none) (ha:PA X [e] t) (hkw:PK X [⟨some "default",v,kp⟩] tk) (he:backTo pos (starEach [e] X.env)=(false,eval e X.env) :: backTo pos (starEach [] X.env):=by rfl) (hpl:(backTo pos (starEach [e] X.env)).any (·.1)=false:=by rfl) :
  PE X (.Call (.Name "max" p) [e] [⟨some "default",v,kp⟩] pos) (tMaxD X.K t tk):=by
 intro pins s σ H Q I h
 refine wpAny_Call_Name_kw (ld_blt I hg hm (u:=.builtin "max") (by decide +kernel) ?_)
 refine PyProof.Rows.callWith_kw (thn (ha pos pins s σ H _ I h) fun us s1 hm_=>?_) he hpl
 refine bC fun g_=>?_
 obtain ⟨vs,H1,I1,r1,q1⟩:=hm_
 refine g_ ?_
 clear g_
 refine thn (hkw pos pins s1 σ H1 _ I1 q1) fun ws s2 hm_=>?_
 obtain ⟨zs,H2,I2,r2,q2⟩:=hm_
 obtain ⟨l,ns,d,rfl,rfl,hl,q⟩:=q2
 obtain ⟨u,rfl,ru⟩:=vals1 r1
 obtain ⟨u2,rfl,ru2⟩:=vals1 r2
 obtain rfl:u=Value.ref l:=ru
 exact call_mxD hc I2 hl ru2 q
inductive PrMaxL (K:PySem.W.Frag) (xs:List V) (H:Hp) (Q:VK) :Prop
 | mk (l:Addr) (n:Int) (ns:List Int) (h0:xs=[.ref l]) (h1:SqL K H l ((n :: ns).map V.int)) (h2:Q (.int (mxF n ns)) H):PrMaxL K xs H Q
noncomputable def rMaxL (K:PySem.W.Frag) (xs:List V) (H:Hp) (Q:VK):Prop:=PrMaxL K xs H Q
theorem call_maxL (hc:X.calm=true):CallR X (.builtin "max") (rMaxL X.K):=by
 intro pins s σ H xs us Q I r h
 obtain ⟨l,n,ns,rfl,hl,q⟩:=h
 obtain ⟨u,rfl,ru⟩:=vals1 r
 obtain rfl:u=Value.ref l:=ru
 refine bC fun g_=>?_
 obtain ⟨its,v,P1,z1⟩:=I.list hl
 obtain ⟨ys,e8_⟩:=ints_items (ns:=n :: ns) v
 refine g_ ?_
 clear g_
 obtain rfl:=e8_
 have hys:=items_toks (ns:=n :: ns) v
 have hl':s.heap.IsList l (intItems ys.toArray):=by
  have:=P1.isList
  rw [show (ys.map fun p=>Value.int p.1 p.2).toArray=intItems ys.toArray by unfold intItems; simp] at this
  exact this
 have sz:ys.toArray.size=ns.length + 1:=by
  have:=congrArg List.length hys
  rw [List.length_map,List.length_cons] at this
  simpa using this
 refine max_intList (I.ok.hd hc) hl' (by lia) fun v2 h2 tk2 p2 k2=>?_
 obtain ⟨t,rfl⟩:=intItems_at p2
 rw [sz,Nat.add_sub_cancel,(best_mx hys rfl ns.length (by rw [List.length_cons]; lia)).1,List.take_of_length_le (Nat.le_refl _)]
 exact ⟨.int _,H,I.kept (t':=tk2) k2,⟨t,rfl⟩,q⟩
end
section
variable {X:Cx} {pins:List (Addr×Obj)} {σ:St} {H:Hp} {s:Shared}
variable {elt iter tg:Expr} {ifs:List Expr} {scope:Scope} {pos:Pos} {own capn:List Str} {capI:List Nat} {wi:TI} {g:TG} {tt:TT} {te:TE}
end
section
variable {X:Cx} {pins:List (Addr×Obj)} {σ:St} {H:Hp} {s:Shared} {a:Addr} {u:HO} {o:Obj}
theorem HOk.swap {P:Program} {w:World} {h:Heap} {v v':HO} (ok:HOk P w H h) (e:H a=some v) (n1:∀ y,v≠.own y) (n2:∀ xs,v≠.tup xs) (new:ObjOk P w (upd H a v') h a v'):HOk P w (upd H a v') h:=fun b z q=>by
 by_cases hb:b=a
 ·subst hb
  rw [upd_same] at q
  cases q
  exact new
 ·rw [upd_ne hb] at q
  exact (ok b z q).stay (fun Z Z Z r=>r) (fun c r=>by rw [upd_ne (fun y=>by rw [y,e] at r; cases r; exact n1 _ rfl)]; exact r) (fun c xs r=>by rw [upd_ne (fun y=>by rw [y,e] at r; cases r; exact n2 _ rfl)]; exact r)
theorem Inv.swap {v v':HO} (I:Inv X pins σ H s) (e:H a=some v) (n1:∀ y,v≠.own y) (n2:∀ xs,v≠.tup xs) (n3:∀ p,v≠.tbl p) (n4:∀ o' u',v=.frz o' u'→X.H₀ a≠some (.frz o' u')) (new:ObjOk X.prog X.w (upd H a v') s.heap a v'):Inv X pins σ (upd H a v') s:=by
 have none':∀ b,H b=none→upd H a v' b=none:=fun b n=>by rw [upd_ne (fun y=>by rw [y,e] at n; cases n)]; exact n
 refine ⟨I.ok,I.os,I.bare,⟨I.base.keep,I.base.slot,fun b q r n x=>none' b (I.base.free b q r n x),I.base.there,fun b xs q=>?_,fun b o' u' q=>?_,fun b ps q=>?_⟩,I.loc,I.cell,none' _ I.free,fun x c q=>none' c (I.freeC x c q),fun p hp=>?_,I.hok.swap e n1 n2 new,I.len⟩
 ·have r:=I.base.tups b xs q
  rw [upd_ne (fun y=>by rw [y,e] at r; cases r; exact n2 _ rfl)]
  exact r
 ·have r:=I.base.frzs b o' u' q
  rw [upd_ne (fun y=>by rw [y,e] at r; cases r; rw [y] at q; exact n4 _ _ rfl q)]
  exact r
 ·obtain ⟨m,r⟩:=I.base.tbls b ps q
  exact ⟨m,by rw [upd_ne (fun y=>by rw [y,e] at r; cases r; exact n3 _ rfl)]; exact r⟩
 ·obtain ⟨r,n,z⟩:=I.pin p hp
  exact ⟨r,none' _ n,z⟩
noncomputable def IsDc:HO→Prop
 | .dK _=>True
 | .dT _=>True
 | _=>False
theorem IsDc.at_ {P:Program} {w:World} {h:Heap} (d:IsDc u) (x:ObjOk P w H h a u):∃ o,h.get? a=some o:=by
 cases u with
 | dK kvs =>
  obtain ⟨_,_,vs,_,o,_,_,r,_⟩:=x
  exact ⟨o,r⟩
 | dT kvs =>
  obtain ⟨_,_,_,_,o,_,_,r,_⟩:=x
  exact ⟨o,r⟩
 | _=>exact d.elim
theorem IsDc.no (d:IsDc u):(∀ y,u≠.own y)∧(∀ xs,u≠.tup xs)∧(∀ p,u≠.tbl p)∧∀ o' u',u≠.frz o' u':=by
 cases u <;> first
  | exact d.elim
  | exact ⟨(fun Z z=>by cases z),(fun Z z=>by cases z),(fun Z z=>by cases z),(fun Z Z z=>by cases z)⟩
theorem ObjOk.mv {P:Program} {w:World} {h:Heap} {v v':HO} (x:ObjOk P w H h a u) (e:H a=some v) (n1:∀ y,v≠.own y) (n2:∀ xs,v≠.tup xs):ObjOk P w (upd H a v') h a u :=
 x.stay (fun Z Z Z r=>r) (fun c r=>by rw [upd_ne (fun y=>by rw [y,e] at r; cases r; exact n1 _ rfl)]; exact r) (fun c xs r=>by rw [upd_ne (fun y=>by rw [y,e] at r; cases r; exact n2 _ rfl)]; exact r)
theorem Inv.frz (I:Inv X pins σ H s) (d:IsDc u) (e:H a=some u) (ho:s.heap.get? a=some o):Inv X pins σ (upd H a (.frz o u)) s :=
 I.swap e d.no.1 d.no.2.1 d.no.2.2.1 (fun o' u' z=>(d.no.2.2.2 o' u' z).elim) ⟨ho,(I.hok a u e).mv e d.no.1 d.no.2.1⟩
theorem Inv.thaw (I:Inv X pins σ H s) (e:H a=some (.frz o u)) (n:X.H₀ a≠some (.frz o u)):Inv X pins σ (upd H a u) s :=
 I.swap e (fun Z z=>by cases z) (fun Z z=>by cases z) (fun Z z=>by cases z) (fun o' u' z=>by cases z; exact n) ((show ObjOk X.prog X.w H s.heap a (.frz o u) from I.hok a _ e).2.mv e (fun Z z=>by cases z) (fun Z z=>by cases z))
noncomputable def tFrz (te:TE):TE:=fun σ H Q=>∃ a u,H a=some u∧IsDc u∧∀ o,te σ (upd H a (.frz o u)) fun v H'=>H' a=some (.frz o u)∧Q v (upd H' a u)
theorem pe_frz {e:Expr} {te:TE} (he:PE X e te):PE X e (tFrz te):=by
 intro pins s σ H Q I ⟨a,u,ea,d,h⟩
 obtain ⟨o,ho⟩:=d.at_ (I.hok a u ea)
 have n0:X.H₀ a≠some (.frz o u):=fun z=>by
  have r:=I.base.frzs a o u z
  rw [ea] at r
  exact d.no.2.2.2 _ _ (Option.some.inj r)
 exact thn (he pins s σ _ _ (I.frz d ea ho) (h o)) fun v s1 ⟨x,H1,I1,r1,e1,q1⟩=>⟨x,_,I1.thaw e1 n0,r1,q1⟩
end
section
variable {prog:Program} {w:World} {A:Around} {E:Value→Shared→Prop} {sh:Shared} {ic dc:Addr} {i ep:Nat} {od:Obj} {es:Array DictEntry} {Q:Option Value→Shared→Prop}
theorem nx_key (hi:sh.heap.IsKeyIter ic dc i es.size ep) (hd:sh.heap.get? dc=some od) (he:od.data=.dict es ep) (hl:i < es.size)
  (q:∀ h',h'.IsKeyIter ic dc (i + 1) es.size ep→Heap.SameBut ic sh.heap h'→Q (some es[i].key) { sh with heap:=h' }):wpAny (model prog w) A (pyNext (.ref ic)) Q E sh:=by
 obtain ⟨oi,e1,e2,e3⟩:=id hi
 unfold pyNext
 refine wpAny_bind (wpAny_attempt (wpAny_callSpecial?_slot (name:=Str.ofString "__next__") hi.typeIs F.slot_dict_keyiterator_next (wpAny_call_entry F.slot_dict_keyiterator_next hi.typeIs F.entry_dict_keyiterator_next ?_ (F.args_dict_keyiterator_next_1 _))))
 refine wpAny_bind (wpAny_pure (wpAny_bind (wpAny_bind ?_)))
 first | refine wpAny_bind (wpAny_typeNameOfWhole_keyiter hi.typeIs (wpAny_pure (wpAny_bind (wpAny_fieldsOf e1 e3 ?_)))) | refine wpAny_bind (wpAny_typeNameOf_keyiter hi.typeIs (wpAny_pure (wpAny_bind (wpAny_fieldsOf e1 e3 ?_))))
 simp only [show Builtin.Dict_items.ownsTuple "dict_keyiterator"=false by decide,Bool.false_eq_true,if_false]
 show wpAny _ _ (if (Value.ref dc == Value.none)=true then _ else _) _ _ sh
 rw [if_neg (show ¬ ((Value.ref dc == Value.none)=true) from Bool.false_ne_true)]
 refine wpAny_bind (wpAny_pure (wpAny_bind (wpAny_dictEntries hd he ?_)))
 rw [if_neg (by simp)]
 refine wpAny_bind (wpAny_pure (wpAny_bind (wpAny_dictEpoch hd he ?_)))
 rw [if_neg (by simp)]
 refine wpAny_pure ?_
 simp only [show ¬ ((i:Int) < 0) from by lia,if_false,Int.toNat_natCast,Array.getElem?_eq_getElem hl]
 refine wpAny_bind ?_
 first | refine wpAny_bind (wpAny_typeNameOfWhole_keyiter hi.typeIs (wpAny_pure (wpAny_bind (wpAny_isOneOf_keyiter hi.typeIs ?_)))) | refine wpAny_bind (wpAny_typeNameOf_keyiter hi.typeIs (wpAny_pure (wpAny_bind (wpAny_isOneOf_keyiter hi.typeIs ?_))))
 show wpAny _ _ (setField (.ref ic) 1 (rawInt ((i:Int) + 1)) >>= _) _ _ sh
 refine wpAny_bind (wpAny_setField e1 e3 (by simp) ?_)
 have hn:(sh.heap.update ic (Obj.mapFields (·.setIfInBounds 1 (rawInt ((i:Int) + 1))))).IsKeyIter ic dc (i + 1) es.size ep :=
  ⟨_,Heap.get?_update_self _ e1 (Obj.isFreed_of_fields (Obj.data_mapFields e3 _)),(Obj.cls_mapFields ..).trans e2,by rw [Obj.data_mapFields e3]; simp [rawInt]⟩
 refine wpAny_bind (wpAny_holding (wpAny_bind (wpAny_isOneOf_keyiter (s:={ sh with heap:=sh.heap.update ic (Obj.mapFields (·.setIfInBounds 1 (rawInt ((i:Int) + 1)))) }) hn.typeIs ?_)))
 show wpAny _ _ (pure es[i].key) _ _ _; exact wpAny_pure (wpAny_pure ⟨_,rfl,wpAny_pure (q _ hn (Heap.SameBut.update ..))⟩)
theorem nx_end (hh:A.handled=none) (hi:sh.heap.IsKeyIter ic dc i es.size ep) (hd:sh.heap.get? dc=some od) (he:od.data=.dict es ep) (hl:es.size≤i)
  (q:∀ h',Heap.ExtBut ic sh.heap h'→Q none { sh with heap:=h' }):wpAny (model prog w) A (pyNext (.ref ic)) Q E sh:=by
 obtain ⟨oi,e1,e2,e3⟩:=id hi
 unfold pyNext
 refine wpAny_bind (wpAny_attempt (wpAny_callSpecial?_slot (name:=Str.ofString "__next__") hi.typeIs F.slot_dict_keyiterator_next (wpAny_call_entry F.slot_dict_keyiterator_next hi.typeIs F.entry_dict_keyiterator_next ?_ (F.args_dict_keyiterator_next_1 _))))
 refine wpAny_bind (wpAny_pure (wpAny_bind (wpAny_bind ?_)))
 first | refine wpAny_bind (wpAny_typeNameOfWhole_keyiter hi.typeIs (wpAny_pure (wpAny_bind (wpAny_fieldsOf e1 e3 ?_)))) | refine wpAny_bind (wpAny_typeNameOf_keyiter hi.typeIs (wpAny_pure (wpAny_bind (wpAny_fieldsOf e1 e3 ?_))))
 simp only [show Builtin.Dict_items.ownsTuple "dict_keyiterator"=false by decide,Bool.false_eq_true,if_false]
 show wpAny _ _ (if (Value.ref dc == Value.none)=true then _ else _) _ _ sh
 rw [if_neg (show ¬ ((Value.ref dc == Value.none)=true) from Bool.false_ne_true)]
 refine wpAny_bind (wpAny_pure (wpAny_bind (wpAny_dictEntries hd he ?_)))
 rw [if_neg (by simp)]
 refine wpAny_bind (wpAny_pure (wpAny_bind (wpAny_dictEpoch hd he ?_)))
 rw [if_neg (by simp)]
 refine wpAny_pure ?_
 simp only [show ¬ ((i:Int) < 0) from by lia,if_false,Int.toNat_natCast,Array.getElem?_eq_none hl]
 refine wpAny_bind ?_
 first | refine wpAny_bind (wpAny_typeNameOfWhole_keyiter hi.typeIs (wpAny_pure ?_)) | refine wpAny_bind (wpAny_typeNameOf_keyiter hi.typeIs (wpAny_pure ?_))
 show wpAny _ _ (setField (.ref ic) 0 .none >>= _) _ _ sh
 refine wpAny_bind (wpAny_setField e1 e3 (by simp) ?_)
 show wpAny _ _ (newExc (.type "StopIteration") [] >>= _) _ _ _; refine wpAny_bind ?_
 simp only [newExc,newTuple]; refine wpAny_bind (wpAny_newObj_type ?_ (by size_fits))
 refine wpAny_bind (m:=firstArgMember _ _) (wpAny_of_eq (a:=Value.none) (by first | rfl | (simp only [firstArgMember]; rfl)) (wpAny_newObj_type ?_ (by size_fits)))
 simp only [raiseNew]; refine wpAny_bind (wpAny_handled ?_); rw [show A.in1.handled=none from hh]
 refine wpAny_bind (wpAny_pure (wpAny_throw ?_)); refine wpAny_bind (wpAny_isInstance (T:="StopIteration") (b:=true) ⟨_,Heap.get?_push_size _ rfl,rfl⟩ isSubtype_stop ?_)
 exact wpAny_pure (q _ (((Heap.SameBut.update ..).extBut.push _).push _))
theorem it_key {Q:Value→Shared→Prop} (hs:(dc == sysModules)=false) (hd:sh.heap.get? dc=some od) (hx:od.ExactDict) (he:od.data=.dict es ep)
  (q:Q (.ref sh.heap.objs.size) { sh with heap:=sh.heap.push { cls:=.type "dict_keyiterator",data:=.fields #[.ref dc,.int 0 0,.int es.size 0,.int ep 0] } }):wpAny (model prog w) A (pyIter (.ref dc)) Q E sh:=by
 have ty:sh.TypeIs (.ref dc) "dict":=⟨od,hd,hx.1⟩
 refine wpAny_pyIter_slot ty F.slot_dict_iter (wpAny_call_entry F.slot_dict_iter ty F.entry_dict_iter ?_ (F.args_dict_iter_1 _))
 unfold Builtin.«dict.__iter__»; refine wpAny_bind ?_; unfold Builtin.Dict.dictSlotNone
 refine wpAny_bind (wpAny_notOrdered_dict ty ?_)
 show wpAny _ _ (pure (Value.ref dc)) _ _ sh
 refine wpAny_pure ?_
 show wpAny _ _ (Builtin.Dict.showsAll dc >>= _) _ _ sh
 unfold Builtin.Dict.showsAll
 rw [if_neg (by rw [hs]; exact Bool.false_ne_true)]
 refine wpAny_bind (wpAny_pure (wpAny_bind (wpAny_dictEntries hd he (wpAny_bind (wpAny_dictEpoch hd he ?_)))))
 refine wpAny_bind (wpAny_newObj_type (wpAny_pure ⟨_,rfl,"dict_keyiterator",_,⟨_,Heap.get?_push_size _ rfl,rfl⟩,F.slot_dict_keyiterator_next.lookup,?_⟩)); simpa [rawInt] using q
end
noncomputable def Itk (o:Obj) (a:Addr):It :=
 ⟨fun i H=>∃ kvs p,H a=some (.frz o (.dT kvs))∧kvs[i]?=some p,fun i H x H'=>H'=H∧∃ t,x=.ref t∧∀ kvs p,H a=some (.frz o (.dT kvs))→kvs[i]?=some p→H t=some (.tup (p.1.map kV)),fun i H=>∃ kvs,H a=some (.frz o (.dT kvs))∧kvs.length=i⟩
theorem KT.get {H:Hp} {kvs:List (List Key×V)} {xs:List (List Key×Addr×Value)} (r:KT H kvs xs):xs.length=kvs.length∧∀ (i:Nat) (p:List Key×V),kvs[i]?=some p→∃ q,xs[i]?=some q∧H q.2.1=some (.tup (p.1.map kV)):=by
 induction r with
 | nil=>exact ⟨rfl,fun i p e=>by cases e⟩
 | @cons p q ps qs hq t ih =>
  refine ⟨by rw [List.length_cons,List.length_cons,ih.1],fun i p' e=>?_⟩
  cases i with
  | zero =>
   cases e
   exact ⟨q,rfl,hq.2.1⟩
  | succ i=>exact ih.2 i p' e
theorem turn_key {P:Program} {w:World} {K:PySem.W.Frag} {tg:Expr} {o:Obj} {es:Array DictEntry} {ep:Nat} (a it:Addr) (hd:o.data=.dict es ep):Turn P w K tg (Itk o a) [it] it (fun i h=>h.IsKeyIter it a i es.size ep) where
 mem:=by simp
 obj:=fun i h st b hb=>by
  have e:b=it:=by simpa using hb
  subst e
  refine bC fun g_=>?_
  obtain ⟨oi,e,c,d⟩:=st
  refine g_ ?_
  clear g_
  exact ⟨oi,e,fun v z=>by rw [d] at z; cases z⟩
 keep:=fun i h h' st k=>st.at fun oi e=>k it (by simp) oi e
 item:=by
  intro X hP hw hK hc i pins s σ H E I hf st hg
  subst hP hw hK
  refine bC fun g_=>?_
  obtain ⟨kvs,p,hq,hx⟩:=hg
  obtain ⟨ho,_,_,xs,r,od,es',ep',h1,h2,h3,h4,h5⟩:=(show ObjOk X.prog X.w H s.heap a (.frz o (.dT kvs)) from I.hok a _ hq)
  refine g_ ?_
  clear g_
  rw [ho] at h1
  cases h1
  rw [hd] at h3
  cases h3
  refine bC fun g_=>?_
  obtain ⟨rl,rg⟩:=KT.get r
  obtain ⟨q,hq1,hq2⟩:=rg i p hx
  refine g_ ?_
  clear g_
  have hsz:es.size=kvs.length:=by rw [← Array.length_toList,h4,List.length_map,rl]
  have hil:i < es.size:=by rw [hsz]; exact (List.getElem?_eq_some_iff.mp hx).1
  have hkey:es[i].key=.ref q.2.1:=by
   have e1:es.toList[i]?=some es[i]:=by simp [hil]
   rw [h4,List.getElem?_map,hq1] at e1
   have e2:=(Option.some.inj e1).symm
   rw [e2]
   rfl
  refine bC fun g_=>?_
  obtain ⟨f0,f1,f2,f3,f4,f5⟩:=hf it (by simp)
  refine g_ ?_
  clear g_
  refine nx_key st ho hd hil fun h' st' sb=>?_
  rw [hkey]
  have I1:Inv X pins σ H { s with heap:=h' }:=I.turned (t':=s.toks) (fun b ob hb e=>(sb.2 b hb).trans e) f0 f1 f3 f4 f5
  refine bC fun g_=>?_
  obtain ⟨oi,e,c,d⟩:=id st'
  refine g_ ?_
  clear g_
  refine ⟨_,rfl,go_of (s:={ s with heap:=h' }) e c d (by decide) ⟨.ref q.2.1,H,I1,rfl,⟨rfl,q.2.1,rfl,fun kvs' p' hq' hx'=>?_⟩,st',fun b hb=>(hf b hb).1⟩⟩
  rw [hq] at hq'
  cases hq'
  rw [hx] at hx'
  cases hx'
  exact hq2
 done:=by
  intro X hP hw hK hc i pins s σ H E I hf st hg
  subst hP hw hK
  refine bC fun g_=>?_
  obtain ⟨kvs,hq,hx⟩:=hg
  obtain ⟨ho,_,_,xs,r,od,es',ep',h1,h2,h3,h4,h5⟩:=(show ObjOk X.prog X.w H s.heap a (.frz o (.dT kvs)) from I.hok a _ hq)
  refine g_ ?_
  clear g_
  rw [ho] at h1
  cases h1
  rw [hd] at h3
  cases h3
  have hsz:es.size=kvs.length:=by rw [← Array.length_toList,h4,List.length_map,(KT.get r).1]
  refine bC fun g_=>?_
  obtain ⟨f0,f1,f2,f3,f4,f5⟩:=hf it (by simp)
  refine g_ ?_
  clear g_
  exact nx_end (I.ok.hd hc) st ho hd (by lia) fun h' eb=>⟨rfl,I.turned (t':=s.toks) (fun b ob hb e=>eb b ob hb e) f0 f1 f3 f4 f5⟩
 self:=fun Z Z Z Z Z st h=>wpAny_pyIter_keyiter st h
section
variable {X:Cx} {tg:Expr}
noncomputable def iKeys (tl:TE):TI:=fun σ H R=>tl σ H fun x H1=>∃ a o kvs,x=.ref a∧H1 a=some (.frz o (.dT kvs))∧R (Itk o a) H1
theorem pi_keys {l:Expr} {tl:TE} (hl:PE X l tl):PI X tg l (iKeys tl):=by
 intro pins s σ H R I h
 refine thn (hl pins s σ H _ I h) fun v s1 hm_=>?_
 refine bC fun g_=>?_
 obtain ⟨x,H1,I1,r1,q1⟩:=hm_
 obtain ⟨a,o,kvs,e,hq,q⟩:=q1
 refine g_ ?_
 clear g_
 subst e
 cases r1
 refine bC fun g_=>?_
 obtain ⟨ho,_,hs,xs,r,od,es,ep,h1,h2,h3,h4,h5⟩:=(show ObjOk X.prog X.w H1 s1.heap a (.frz o (.dT kvs)) from I1.hok a _ hq)
 refine g_ ?_
 clear g_
 rw [ho] at h1
 cases h1
 refine it_key hs ho h2 h3 ?_
 refine ⟨s1.heap.objs.size,[s1.heap.objs.size],_,_,H1,rfl,I1.kept (t':=s1.toks) fun b ob e=>Heap.get?_push_of_some _ e,turn_key a _ h3,⟨_,Heap.get?_push_size _ rfl,rfl,rfl⟩,fun b hb=>?_,q⟩
 have e:b=s1.heap.objs.size:=by simpa using hb
 subst e
 exact I1.fpOk (Nat.le_refl _) (I1.hok.fresh (Nat.le_refl _))
end
theorem ky_ask {o:Obj} {a:Addr} {kvs:List (List Key×V)} {i:Nat} {H:Hp} {A:Prop} {B:V→Hp→Prop} (q:H a=some (.frz o (.dT kvs))) (hi:i≤kvs.length)
  (hs:∀ p,kvs[i]?=some p→i < kvs.length→∀ t,H t=some (.tup (p.1.map kV))→B (.ref t) H) (hd:i=kvs.length→A) :
  ((Itk o a).stop i H∧A)∨((Itk o a).go i H∧∀ x H',(Itk o a).yld i H x H'→B x H'):=by
 by_cases hlt:i < kvs.length
 ·refine .inr ⟨⟨kvs,kvs[i],q,List.getElem?_eq_getElem hlt⟩,fun x H' y=>?_⟩
  obtain ⟨rfl,t,rfl,y⟩:=y
  exact hs kvs[i] (List.getElem?_eq_getElem hlt) hlt t (y _ _ q (List.getElem?_eq_getElem hlt))
 ·exact .inl ⟨⟨kvs,q,by lia⟩,hd (by lia)⟩
section
variable {X:Cx} {elts:List Expr} {kk:Nat} {pt:Pos}
end
theorem bools_items:∀ {bs:List Bool} {its:List Value},Vals (bs.map V.bl) its→its=bs.map Value.bool
 | [],its,h=>by cases h; rfl
 | b :: bs,its,h=>by
  cases h with
  | cons a r =>
   rw [bools_items r]
   cases a
   rfl
noncomputable def rAnyB (K:PySem.W.Frag):List V→Hp→VK→Prop:=fun xs H Q=>∃ (l:Addr) (bs:List Bool),xs=[.ref l]∧SqL K H l (bs.map V.bl)∧Q (.bl (bs.any id)) H
theorem call_anyB {X:Cx} (hc:X.calm=true):CallR X (.builtin "any") (rAnyB X.K):=by
 intro pins s σ H xs us Q I r h
 obtain ⟨l,bs,rfl,hl,q⟩:=h
 obtain ⟨u,rfl,ru⟩:=vals1 r
 obtain rfl:u=Value.ref l:=ru
 refine bC fun g_=>?_
 obtain ⟨its,v,P1,z1⟩:=I.list hl
 refine g_ ?_
 clear g_
 have e:=bools_items v
 subst e
 have hll:l < s.heap.objs.size:=by
  refine bC fun g_=>?_
  obtain ⟨o,z,_⟩:=P1.isList
  refine g_ ?_
  clear g_
  exact Heap.lt_size z
 refine call_any_walk (wpAny_pyIter_list P1.isList ?_)
 refine ⟨s.heap.objs.size,_,_,_,_,_,(fun i=>bs.getD i false),rfl,Walks.list (A:=X.A.in1) (show X.A.in1.handled=none from I.ok.hd hc) s.heap.objs.size l (Nat.ne_of_lt hll) (bs.map Value.bool).toArray,⟨⟨_,Heap.get?_push_size _ rfl,rfl,rfl⟩,?_⟩,fun i v s' Q' E' hv hq=>?_,fun h' tk k=>?_⟩
 ·exact P1.isList.at fun o z=>Heap.get?_push_of_some _ z
 ·have hv':(bs.map Value.bool)[i]?=some v:=by simpa using hv
  rw [List.getElem?_map] at hv'
  cases hb:bs[i]? with
  | none=>rw [hb] at hv'; cases hv'
  | some b =>
   rw [hb] at hv'
   cases hv'
   refine wpAny_truthy_bool ?_
   have hq':Q' (bs.getD i false) s':=hq
   rw [List.getD_eq_getElem?_getD,hb] at hq'
   exact hq'
 ·have ea:((List.range (bs.map Value.bool).toArray.size).any fun i=>bs.getD i false)=bs.any id:=by
   rw [List.size_toArray,List.length_map,Bool.eq_iff_iff,List.any_eq_true,List.any_eq_true]
   constructor
   ·rintro h_
    refine bC fun g_=>?_
    obtain ⟨i,hi,hb⟩:=h_
    refine g_ ?_
    clear g_
    have hi':=List.mem_range.mp hi
    rw [List.getD_eq_getElem?_getD,List.getElem?_eq_getElem hi'] at hb
    exact ⟨bs[i],List.getElem_mem hi',hb⟩
   ·rintro h_
    refine bC fun g_=>?_
    obtain ⟨b,hb,e⟩:=h_
    refine g_ ?_
    clear g_
    obtain ⟨i,hi⟩:=List.getElem?_of_mem hb
    exact ⟨i,List.mem_range.mpr (List.getElem?_eq_some_iff.mp hi).1,by rw [List.getD_eq_getElem?_getD,hi]; exact e⟩
  rw [ea]
  have I1:Inv X pins σ H { s with heap:=s.heap.push { cls:=.type "list_iterator",data:=.fields #[.ref l,.int 0 0] } }:=I.kept (t':=s.toks) fun b ob e=>Heap.get?_push_of_some _ e
  refine ⟨.bl _,H,I1.turnedL (t':=tk) (wr:=[s.heap.objs.size]) k fun b hb=>?_,rfl,q⟩
  have e:=List.mem_singleton.mp hb
  subst e
  exact I.fpOk (Nat.le_refl _) (I.hok.fresh (Nat.le_refl _))
section
variable {X:Cx} {o e:Expr} {to:TE} {te:XK→TE} {apos cpos:Pos}
end
section
variable {X:Cx}
theorem Vals.ins:∀ {xs:List V} {us:List Value} {y:V} {u:Value},Vals xs us→RelV y u→∀ k:Nat,Vals (xs.take k++y :: xs.drop k) (us.take k++u :: us.drop k)
 | _,_,_,_,.nil,ry,k=>by simp only [List.take_nil,List.drop_nil,List.nil_append]; exact .cons ry .nil
 | _,_,_,_,.cons a b,ry,0=>.cons ry (.cons a b)
 | _,_,_,_,.cons a b,ry,k + 1=>.cons a (Vals.ins b ry k)
inductive PrInsert (x:V) (vs:List V) (H:Hp) (Q:VK):Prop
 | mk (l xs i y:_) (h0:x=.ref l) (h1:vs=[.int i,y]) (h2:H l=some (.lst xs)) (h3:0≤i) (h4:i < 2 ^ 63) (h5:xs.length < sizeLine) (h6:Q .non (upd H l (.lst (xs.take (min i.toNat xs.length)++y :: xs.drop (min i.toNat xs.length))))):PrInsert  x vs H Q
noncomputable def rInsert:V→List V→Hp→VK→Prop:=fun x vs H Q=>PrInsert  x vs H Q
theorem mt_insert:MtM X "list.insert" rInsert:=by
 intro pins s σ H x vs v us Q I rx rv h
 refine bC fun g_=>?_
 obtain ⟨l,xs,i,y,e4_,e5_,hH,i0,i1,hz,q⟩:=h
 refine g_ ?_
 clear g_
 obtain rfl:=e4_
 obtain rfl:=e5_
 cases rx
 refine bC fun g_=>?_
 obtain ⟨u0,u,e6_,r0,ru⟩:=rv.two
 obtain ⟨t,e7_⟩:=r0
 obtain ⟨z,its,n,r,hl,e⟩:=I.lstM hH
 refine g_ ?_
 clear g_
 obtain rfl:=e6_
 obtain rfl:=e7_
 have hlen:=r.length
 refine call_meets F.slot_list_insert ⟨_,e,rfl⟩ F.entry_list_insert (F.args_list_insert_3 _ _ _) (PySem.AutoSeq1.list_insert_list_int_val_1 l its.toArray n i t u (by
  unfold PySem.Builtin.List.listFitsIndex
  rw [decide_eq_true (show (-2 ^ 63:Int)≤i by lia),decide_eq_true (show i < (2 ^ 63:Int) from i1)]
  decide) (by rw [List.size_toArray]; lia)) ⟨e,?_⟩
 refine ⟨.non,_,I.lset (its':=its.take (min i.toNat its.length)++u :: its.drop (min i.toNat its.length)) hH e ?_ ?_ ?_,rfl,q⟩
 ·show (let k:=if i < 0 then (i + (its.toArray.size:Int)).toNat else min i.toNat its.toArray.size; (its.toArray.extract 0 k).push u++its.toArray.extract k)=_
  rw [if_neg (by lia),List.size_toArray]
  generalize min i.toNat its.length=k
  apply Array.ext'
  simp [List.drop_take]
  exact List.take_of_length_le (by rw [List.length_drop]; exact Nat.le_refl _)
 ·rw [hlen]
  exact Vals.ins r ru _
 ·rw [List.length_append,List.length_cons,List.length_take,List.length_drop]
  lia
end
section
variable {X:Cx} {pins:List (Addr×Obj)} {σ:St} {H:Hp} {s:Shared} {a:Addr} {u:HO} {o:Obj}
noncomputable def tFrzS (t:TS):TS:=fun D σ H=>∃ a u,H a=some u∧IsDc u∧∀ o,t ⟨fun σ' H'=>H' a=some (.frz o u)∧D.nx σ' (upd H' a u),fun v H'=>H' a=some (.frz o u)∧D.rt v (upd H' a u),fun σ' H'=>H' a=some (.frz o u)∧D.bk σ' (upd H' a u),fun σ' H'=>H' a=some (.frz o u)∧D.ct σ' (upd H' a u)⟩ σ (upd H a (.frz o u))
set_option tactic.hygienic true in
theorem ps_frz {st:Stmt} {t:TS} (h:PS X st t):PS X st (tFrzS t):=by
 intro pins s σ H D I ⟨a,u,ea,d,k⟩
 obtain ⟨o,ho⟩:=d.at_ (I.hok a u ea)
 have n0:X.H₀ a≠some (.frz o u):=fun z=>by
  have r:=I.base.frzs a o u z
  rw [ea] at r
  exact d.no.2.2.2 _ _ (Option.some.inj r)
 refine thn (h pins s σ _ _ (I.frz d ea ho) (k o)) fun f s1 q=>?_
 cases f with
 | next =>
  refine bC fun g_=>?_
  obtain ⟨σ',H',I1,e1,q1⟩:=q
  refine g_ ?_
  clear g_
  exact ⟨σ',_,I1.thaw e1 n0,q1⟩
 | brk =>
  refine bC fun g_=>?_
  obtain ⟨σ',H',I1,e1,q1⟩:=q
  refine g_ ?_
  clear g_
  exact ⟨σ',_,I1.thaw e1 n0,q1⟩
 | cont =>
  refine bC fun g_=>?_
  obtain ⟨σ',H',I1,e1,q1⟩:=q
  refine g_ ?_
  clear g_
  exact ⟨σ',_,I1.thaw e1 n0,q1⟩
 | ret u' =>
  refine bC fun g_=>?_
  obtain ⟨v,σ',H',I1,r1,e1,q1⟩:=q
  refine g_ ?_
  clear g_
  exact ⟨v,σ',_,I1.thaw e1 n0,r1,q1⟩
end
section
variable {prog:Program} {w:World} {A:Around} {E:Value→Shared→Prop} {sh:Shared} {ic dc:Addr} {i ep:Nat} {od:Obj} {es:Array DictEntry}
end
section
variable {X:Cx}
end
end L2
namespace Srt
open PySem PySem.W PyProof.Rows
section
variable {n:Nat} {rk:Nat→Int} {S:Shared}
noncomputable def ans (n:Nat) (rk:Nat→Int) (i j:Nat) (C:Bool→Shared→Prop) (s:Shared):Prop:=i < n∧j < n∧C (decide (rk i < rk j)) s
noncomputable abbrev Wp (n:Nat) (rk:Nat→Int) (s:Shared) {α:Type} (t:KasT α) (Q:α→Prop):Prop:=t.kasWp (ans n rk) (fun a s'=>s'=s∧Q a) s
theorem wp_ret {α:Type} {a:α} {Q:α→Prop} (h:Q a):Wp n rk S (.ret a) Q:=⟨rfl,h⟩
theorem wp_ask {α:Type} {i j:Nat} {k:Bool→KasT α} {Q:α→Prop} (hi:i < n) (hj:j < n) (h1:rk i < rk j→Wp n rk S (k true) Q) (h2:rk j≤rk i→Wp n rk S (k false) Q):Wp n rk S (.ask i j k) Q:=by
 refine ⟨hi,hj,?_⟩
 by_cases h:rk i < rk j
 ·rw [decide_eq_true h]
  exact h1 h
 ·rw [decide_eq_false h]
  exact h2 (Int.not_lt.mp h)
theorem wp_go {α:Type} {s:Shared} {Q R:α→Shared→Prop} (h:∀ a s,Q a s→R a s):∀ (t:KasT α) (s:Shared),t.kasWp (ans n rk) Q s→t.kasWp (ans n rk) R s
 | .ret a,s,q=>h a s q
 | .ask _ _ k,s,q=>⟨q.1,q.2.1,wp_go (s:=s) h (k _) s q.2.2⟩
theorem wp_bind {α β:Type} {t:KasT α} {f:α→KasT β} {Q:β→Prop} (h:Wp n rk S t fun a=>Wp n rk S (f a) Q):Wp n rk S (t.bind f) Q:=by
 unfold Wp
 rw [KasT.kasWp_bind]
 refine wp_go (s:=S) (fun a s q=>?_) t S h
 obtain ⟨rfl,q⟩:=q
 exact q
theorem wp_mono {α:Type} {t:KasT α} {Q R:α→Prop} (q:Wp n rk S t Q) (h:∀ a,Q a→R a):Wp n rk S t R:=wp_go (s:=S) (fun a Z z=>⟨z.1,h a z.2⟩) t S q
noncomputable def Ord (n:Nat) (p:Array Nat):Prop:=p.Perm (List.range n).toArray
theorem Ord.size {p:Array Nat} (h:Ord n p):p.size=n:=by
 rw [Array.Perm.size_eq h]
 simp
theorem Ord.lt {p:Array Nat} (h:Ord n p) {i:Nat} (hi:i < n):p.getD i 0 < n:=by
 have hz:i < p.size:=by rw [h.size]; exact hi
 have e:p.getD i 0=p[i]:=by simp [Array.getD,hz]
 have m:p[i]∈(List.range n).toArray.toList:=(Array.perm_iff_toList_perm.mp h).mem_iff.mp (by simp)
 rw [e]
 simpa using m
noncomputable abbrev ky (rk:Nat→Int) (p:Array Nat) (i:Nat):Int:=rk (p.getD i 0)
theorem ky_of {p q:Array Nat} {i j:Nat} (h:p[i]?=q[j]?):ky rk p i=ky rk q j:=by
 unfold ky
 rw [Array.getD_eq_getD_getElem?,Array.getD_eq_getD_getElem?,h]
theorem ky_rev {p:Array Nat} {i j:Nat} (hj:j≤p.size) (k:Nat):ky rk (kas_rev p i j) k=if i≤k∧k < j then ky rk p (i + j - 1 - k) else ky rk p k:=by
 have e:=getElem?_mirror_all (i:=i) hj k
 unfold kas_rev
 by_cases h:i≤k∧k < j
 ·rw [if_pos h] at e ⊢
  exact ky_of e
 ·rw [if_neg h] at e ⊢
  exact ky_of e
theorem ky_bub {p:Array Nat} {c d:Nat} (hc:c < p.size) (hd:d≤c) (k:Nat):ky rk (bubble p c d) k=if k=c - d then ky rk p c else if c - d < k∧k≤c then ky rk p (k - 1) else ky rk p k:=by
 have e:=getElem?_bubble hc d hd k
 by_cases h1:k=c - d
 ·rw [if_pos h1] at e ⊢
  exact ky_of e
 ·rw [if_neg h1] at e ⊢
  by_cases h2:c - d < k∧k≤c
  ·rw [if_pos h2] at e ⊢
   exact ky_of e
  ·rw [if_neg h2] at e ⊢
   exact ky_of e
theorem Ord.rev {p:Array Nat} (h:Ord n p) (i j:Nat):Ord n (kas_rev p i j):=(mirror_perm _ _ _ _).trans h
theorem Ord.bub {p:Array Nat} (h:Ord n p) (i j:Nat):Ord n (bubble p i j):=(bubble_perm _ _ _).trans h
noncomputable def Up (rk:Nat→Int) (p:Array Nat) (m:Nat):Prop:=∀ i j,i≤j→j < m→ky rk p i≤ky rk p j
noncomputable def Dn (rk:Nat→Int) (p:Array Nat) (m:Nat):Prop:=∀ i j,i≤j→j < m→ky rk p j≤ky rk p i
theorem Up.snoc {p:Array Nat} {m:Nat} (h:Up rk p m) (h1:1≤m) (l:ky rk p (m - 1)≤ky rk p m):Up rk p (m + 1):=fun i j hij hj=>by
 by_cases e:j < m
 ·exact h i j hij e
 ·have:j=m:=by lia
  subst this
  by_cases e2:i=j
  ·rw [e2]; exact Int.le_refl _
  ·exact Int.le_trans (h i (j - 1) (by lia) (by lia)) l
theorem Dn.snoc {p:Array Nat} {m:Nat} (h:Dn rk p m) (h1:1≤m) (l:ky rk p m≤ky rk p (m - 1)):Dn rk p (m + 1):=fun i j hij hj=>by
 by_cases e:j < m
 ·exact h i j hij e
 ·have:j=m:=by lia
  subst this
  by_cases e2:i=j
  ·rw [e2]; exact Int.le_refl _
  ·exact Int.le_trans l (h i (j - 1) (by lia) (by lia))
theorem asc {p:Array Nat} (O:Ord n p) {Q:Nat→Prop}:∀ (f a:Nat),1≤a→a + f≤n→Up rk p a→(∀ m,a≤m→m≤a + f→Up rk p m→(m=a + f∨ky rk p m < ky rk p (m - 1))→Q m)→Wp n rk S (kas_asc p f a) Q
 | 0,a,_,_,u,h=>wp_ret (h a (Nat.le_refl _) (Nat.le_refl _) u (.inl rfl))
 | f + 1,a,h1,hn,u,h=>by
  refine wp_ask (O.lt (by lia)) (O.lt (by lia)) (fun c=>?_) (fun c=>?_)
  ·exact wp_ret (h a (Nat.le_refl _) (by lia) u (.inr c))
  ·exact asc O f (a + 1) (by lia) (by lia) (u.snoc h1 c) fun m h2 h3 um hm=>h m (by lia) (by lia) um (hm.imp (fun z=>by lia) id)
noncomputable def Tl (rk:Nat→Int) (p:Array Nat) (m q:Nat):Prop:=∀ i,m - (q + 1)≤i→i < m→ky rk p i=ky rk p (m - 1)
set_option tactic.hygienic true in
theorem Tl.rev {p:Array Nat} {m q:Nat} (h:Tl rk p m q) (hm:m≤p.size) (k:Nat):ky rk (kas_rev p (m - (q + 1)) m) k=ky rk p k:=by
 rw [ky_rev hm]
 split
 ·rename_i c
  rw [h _ (by lia) (by lia),h k c.1 c.2]
 ·rfl
theorem Dn.like {p q:Array Nat} {m:Nat} (h:Dn rk p m) (e:∀ k,ky rk q k=ky rk p k):Dn rk q m:=fun i j hij hj=>by rw [e,e]; exact h i j hij hj
set_option tactic.hygienic true in
theorem desc {Q:Array Nat×Nat×Nat→Prop}:∀ (f:Nat) (p:Array Nat) (a q:Nat),Ord n p→1≤a→a + f≤n→Dn rk p a→Tl rk p a q→(∀ p' m q',Ord n p'→1≤m→m≤a + f→Dn rk p' m→Tl rk p' m q'→Q (p',m,q'))→Wp n rk S (kas_desc f p a q) Q
 | 0,p,a,q,O,h1,hn,d,t,h=>wp_ret (h p a q O h1 (Nat.le_refl _) d t)
 | f + 1,p,a,q,O,h1,hn,d,t,h=>by
  have next:∀ p' q',Ord n p'→Dn rk p' (a + 1)→Tl rk p' (a + 1) q'→Wp n rk S (kas_desc f p' (a + 1) q') Q:=fun p' q' O' d' t'=>desc f p' (a + 1) q' O' (by lia) (by lia) d' t' fun p2 m q2 O2 g1 g2 d2 t2=>h p2 m q2 O2 g1 (by lia) d2 t2
  have one:∀ p',Tl rk p' (a + 1) 0:=fun p' i g1 g2=>by
   have:i=a + 1 - 1:=by lia
   rw [this]
  refine wp_ask (O.lt (by lia)) (O.lt (by lia)) (fun c=>?_) (fun c=>?_)
  ·show Wp n rk S (if q > 0 then kas_desc f (kas_rev p (a - (q + 1)) a) (a + 1) 0 else kas_desc f p (a + 1) 0) Q
   have d2:=d.snoc h1 (Int.le_of_lt c)
   split
   ·exact next _ _ (O.rev _ _) (d2.like (t.rev (by rw [O.size]; lia))) (one _)
   ·exact next _ _ O d2 (one _)
  ·refine wp_ask (O.lt (by lia)) (O.lt (by lia)) (fun c2=>?_) (fun c2=>?_)
   ·exact wp_ret (h p a q O h1 (by lia) d t)
   ·have e:ky rk p a=ky rk p (a - 1):=Int.le_antisymm c2 c
    refine next _ _ O (d.snoc h1 c2) fun i g1 g2=>?_
    show _=ky rk p a
    by_cases z:i=a
    ·rw [z]
    ·rw [e]
     exact t i (by lia) (by lia)
noncomputable abbrev Run (n:Nat) (rk:Nat→Int) (r:Nat×Array Nat):Prop:=1≤r.1∧r.1≤n∧Ord n r.2∧Up rk r.2 r.1
theorem tail3 {p:Array Nat} {m:Nat} (O:Ord n p) (h1:1≤m) (hm:m≤n) (d:Dn rk p m):Wp n rk S (kas_tail3 m n p) (Run n rk):=by
 have u:Up rk (kas_rev p 0 m) m:=fun i j hij hj=>by
  rw [ky_rev (by rw [O.size]; exact hm),ky_rev (by rw [O.size]; exact hm),if_pos ⟨Nat.zero_le _,by lia⟩,if_pos ⟨Nat.zero_le _,hj⟩]
  exact d _ _ (by lia) (by lia)
 exact wp_bind (asc (O.rev _ _) _ _ h1 (by lia) u fun k g1 g2 uk Z=>wp_ret ⟨by lia,by lia,O.rev _ _,uk⟩)
theorem descPart {p:Array Nat} {m:Nat} (O:Ord n p) (hm:m + 1≤n) (d:Dn rk p (m + 1)):Wp n rk S (kas_descPart m n p) (Run n rk):=by
 refine wp_bind (desc _ _ _ _ O (by lia) (by lia) d (fun i g1 g2=>?_) fun p' k q O' g1 g2 d' t'=>?_)
 ·have:i=m + 1 - 1:=by lia
  rw [this]
 ·show Wp n rk S (if q > 0 then kas_tail3 k n (kas_rev p' (k - (q + 1)) k) else kas_tail3 k n p') _
  split
  ·exact tail3 (O'.rev _ _) g1 (by lia) (d'.like (t'.rev (by rw [O'.size]; lia)))
  ·exact tail3 O' g1 (by lia) d'
set_option tactic.hygienic true in
theorem count {p:Array Nat} (O:Ord n p) (h1:1≤n):Wp n rk S (kas_count n p) (Run n rk):=by
 refine wp_bind (asc O _ _ (Nat.le_refl 1) (by lia) (fun i j hij hj=>?_) fun m g1 g2 u hm=>?_)
 ·have:i=j:=by lia
  rw [this]
  exact Int.le_refl _
 ·have g3:m≤n:=by lia
  show Wp n rk S (if (m == n)=true then .ret (m,p) else if m > 1 then .ask (p.getD 0 0) (p.getD (m - 1) 0) fun c=>if c=true then .ret (m,p) else kas_descPart m n (kas_rev p 0 m) else kas_descPart m n p) _
  split
  ·exact wp_ret ⟨g1,g3,O,u⟩
  ·rename_i c
   have g4:m < n:=by
    have:m≠n:=fun z=>c (by rw [z]; exact beq_self_eq_true _)
    lia
   have l:ky rk p m < ky rk p (m - 1):=hm.resolve_left (by lia)
   split
   ·rename_i c2
    refine wp_ask (O.lt (by lia)) (O.lt (by lia)) (fun Z=>wp_ret ⟨g1,g3,O,u⟩) (fun c3=>?_)
    have al:∀ i,i < m→ky rk p i=ky rk p (m - 1):=fun i hi=>Int.le_antisymm (u i (m - 1) (by lia) (by lia)) (Int.le_trans c3 (u 0 i (by lia) hi))
    have t:Tl rk p m (m - 1):=fun i Z hi=>al i hi
    refine descPart (O.rev _ _) g4 ?_
    have e:∀ k,ky rk (kas_rev p 0 m) k=ky rk p k:=fun k=>by
     have:=t.rev (by rw [O.size]; exact g3) k
     rw [show m - (m - 1 + 1)=0 by lia] at this
     exact this
    refine Dn.like (Dn.snoc (fun i j Z hj=>?_) g1 (Int.le_of_lt l)) e
    rw [al i (by lia),al j hj]
    exact Int.le_refl _
   ·have e1:m=1:=by lia
    subst e1
    refine descPart O g4 (Dn.snoc (fun i j Z hj=>?_) g1 (Int.le_of_lt l))
    have:i=j:=by lia
    rw [this]
    exact Int.le_refl _
theorem place {p:Array Nat} (O:Ord n p) {k:Nat} (hk:k < n) (u:Up rk p k) {Q:Nat→Prop} (h:∀ l,l≤k→(∀ i,i < l→ky rk p i≤ky rk p k)→(∀ i,l≤i→i < k→ky rk p k≤ky rk p i)→Q l) :
  ∀ (f l r:Nat),l≤r→r≤k→r - l≤f→(∀ i,i < l→ky rk p i≤ky rk p k)→(∀ i,r≤i→i < k→ky rk p k≤ky rk p i)→Wp n rk S (kas_place p k f l r) Q
 | 0,l,r,a,b,c,d,e=>wp_ret (h l (by lia) d fun i g1 g2=>e i (by lia) g2)
 | f + 1,l,r,a,b,c,d,e=>by
  show Wp n rk S (if l ≥ r then .ret l else .ask (p.getD k 0) (p.getD ((l + r) / 2) 0) fun c=>if c=true then kas_place p k f l ((l + r) / 2) else kas_place p k f ((l + r) / 2 + 1) r) Q
  split
  ·exact wp_ret (h l (by lia) d fun i g1 g2=>e i (by lia) g2)
  ·refine wp_ask (O.lt hk) (O.lt (by lia)) (fun c1=>?_) (fun c1=>?_)
   ·exact place O hk u h f l ((l + r) / 2) (by lia) (by lia) (by lia) d fun i g1 g2=>Int.le_trans (Int.le_of_lt c1) (u _ _ g1 g2)
   ·exact place O hk u h f ((l + r) / 2 + 1) r (by lia) b (by lia) (fun i g1=>Int.le_trans (u _ _ (by lia) (by lia)) c1) e
theorem bin:∀ (f:Nat) (p:Array Nat) (k:Nat),Ord n p→k + f=n→Up rk p k→Wp n rk S (kas_bin f p k) fun p'=>Ord n p'∧Up rk p' n
 | 0,p,k,O,e,u=>wp_ret ⟨O,by rw [← e]; exact u⟩
 | f + 1,p,k,O,e,u=>by
  refine wp_bind (place O (by lia) u (fun l hl a b=>?_) _ _ _ (Nat.zero_le _) (Nat.le_refl _) (by lia) (fun i hi=>by lia) (fun i g1 g2=>by lia))
  refine bin f _ (k + 1) (O.bub _ _) (by lia) fun i j hij hj=>?_
  have hz:k < p.size:=by rw [O.size]; lia
  rw [ky_bub hz (by lia),ky_bub hz (by lia),show k - (k - l)=l by lia]
  by_cases i1:i=l
  ·rw [if_pos i1]
   by_cases j1:j=l
   ·rw [if_pos j1]; exact Int.le_refl _
   ·rw [if_neg j1,if_pos ⟨by lia,by lia⟩]
    exact b _ (by lia) (by lia)
  ·rw [if_neg i1]
   by_cases i2:l < i∧i≤k
   ·rw [if_pos i2,if_neg (by lia),if_pos ⟨by lia,by lia⟩]
    exact u _ _ (by lia) (by lia)
   ·rw [if_neg i2]
    by_cases j1:j=l
    ·rw [if_pos j1]
     exact a i (by lia)
    ·rw [if_neg j1]
     by_cases j2:l < j∧j≤k
     ·rw [if_pos j2]
      exact u _ _ (by lia) (by lia)
     ·rw [if_neg j2]
      exact u _ _ (by lia) (by lia)
theorem sort (h1:1≤n):Wp n rk S (kas_sort n) fun p=>Ord n p∧Up rk p n:=by
 refine wp_bind (wp_mono (count (Array.Perm.refl _) h1) fun r hr=>?_)
 refine bC fun g_=>?_
 obtain ⟨m,p⟩:=r
 obtain ⟨a,b,O,u⟩:=hr
 refine g_ ?_
 clear g_
 show Wp n rk S (if m < n then kas_bin (n - max m 1) p (max m 1) else .ret p) _
 split
 ·have e:max m 1=m:=Nat.max_eq_left a
  rw [e]
  exact bin _ _ _ O (by lia) u
 ·have e:m=n:=by
   have:m≤n:=b
   lia
  subst e
  exact wp_ret ⟨O,u⟩
end
end Srt
namespace L2
open PySem PySem.Spec PyProof.Rows PySem.W
section
variable {prog:Program} {w:World} {A:Around} {E:Value→Shared→Prop} {s:Shared}
end
theorem map_getD {α:Type} (d:α) (l:List α):(List.range l.length).map (fun i=>l.getD i d)=l:=by
 apply List.ext_getElem?
 intro i
 rw [List.getElem?_map]
 by_cases hi:i < l.length
 ·rw [List.getElem?_range hi,List.getElem?_eq_getElem hi]
  simp [hi]
 ·rw [List.getElem?_eq_none (by rw [List.length_range]; lia),List.getElem?_eq_none (by lia)]
  rfl
section
variable {X:Cx}
end
end L2
namespace L2
open PySem PySem.Spec PyProof.Rows
noncomputable def BmB (mg:Str→Option Value) (base:Heap):Prop:=∃ (bm:Addr) (ob:Obj),mg "__builtins__"=some (.ref bm)∧bm≠builtinsNs∧bm≠mainGlobals∧base.get? bm=some ob∧ob.cls=.type "module"∧ob.dict=some builtinsNs∧ob.data=.plain
structure LamT (K:PySem.W.Frag) (mg:Str→Option Value) (base:Heap) (c P:Addr):Prop where
 hd:PySem.W.codeHdIn K c P=true
 bm:BmB mg base
noncomputable def CodO (c':Addr) (qual:Str):HO:=.ext fun h=>h.CodeRec (.ref c') qual
noncomputable def TabAt (P:Addr) (pos:Pos) (qual:Str) (H:Hp):Prop:=H P=some (.tbl #[])∨∃ c':Addr,H P=some (.tbl #[rawInt pos.line,rawInt pos.col,.ref c'])∧H c'=some (CodO c' qual)
theorem codO_ok {P:Program} {w:World} {H:Hp} {h:Heap} {c':Addr} {qual:Str} (x:h.CodeRec (.ref c') qual):ObjOk P w H h c' (CodO c' qual):=by
 have st:∀ h1 h2:Heap,h1.CodeRec (.ref c') qual→(∀ o,h1.get? c'=some o→h2.get? c'=some o)→h2.CodeRec (.ref c') qual:=fun h1 h2 ⟨c,oc,vs,tq,e,g,d,v⟩ k=>by
  cases e
  exact ⟨_,oc,vs,tq,rfl,k _ g,d,v⟩
 refine ⟨x,?_,st⟩
 refine bC fun g_=>?_
 obtain ⟨c,oc,vs,tq,e,g,d,v⟩:=x
 refine g_ ?_
 clear g_
 cases e
 exact ⟨oc,g⟩
section
variable {X:Cx} {pins:List (Addr×Obj)} {σ:St} {H:Hp} {s:Shared} {c P:Addr} {params:Arguments} {body:Expr} {scope:Scope} {pos:Pos}
theorem lam_eval {clos:List (Str×Addr)} {A:Around} {E:Value→Shared→Prop} (I:Inv X pins σ H s) (L:LamT X.K X.mg X.base c P) (hcode:X.env.code=.ref c) (hcl:closureFor scope X.env=pure clos) (hdef:defaultsOf params X.env=([],[])) (tb:TabAt P pos (X.env.qual++"<lambda>") H) :
  wpAny (model X.prog X.w) A (eval (.Lambda params body scope pos) X.env) (fun v s'=>∃ (q c':Addr) (ctv:Value) (H':Hp),v=.ref q∧Inv X pins σ H' s'∧s'.heap.get? q=some (PySem.W.kla_obj "<lambda>" (X.env.qual++"<lambda>") params body scope clos ((X.mg "__name__").getD .none) c' ctv) ∧
   H' q=none∧H' c'=some (CodO c' (X.env.qual++"<lambda>"))∧s.heap.objs.size≤q∧(∀ b o,b≠P→H b=some o→H' b=some o)∧(∀ b,H' b=none→H b=none)∧TabAt P pos (X.env.qual++"<lambda>") H') E s:=by
 have C:PySem.W.CodeHd s.heap c P:=PySem.W.codeHd_of_K I.kIn L.hd
 have G:s.heap.Ns mainGlobals X.mg:=I.ok.mod.glob.keeps I.bk
 have hP:∃ ps,H P=some (.tbl ps):=by
  rcases tb with e | ⟨_,e,_⟩ <;> exact ⟨_,e⟩
 have bsn:∀ b o,X.base.get? b=some o→b≠P:=fun b o e z=>by
  obtain ⟨ps,hps⟩:=hP
  have:=(I.bs b o e).2
  rw [z,hps] at this
  cases this
 have B:s.heap.BuiltinsAt X.mg P:=by
  refine bC fun g_=>?_
  obtain ⟨bm,ob,e1,e2,e3,e4,e5,e6,e7⟩:=L.bm
  refine g_ ?_
  clear g_
  exact ⟨bm,ob,e1,e2,e3,bsn bm ob e4,I.bk _ _ e4,e5,e6,e7⟩
 have gP:mainGlobals≠P:=by
  refine bC fun g_=>?_
  obtain ⟨o,es,ep,e,_⟩:=I.ok.mod.glob
  refine g_ ?_
  clear g_
  exact bsn _ o e
 refine PySem.W.kla_eval hdef ?_
 rcases tb with e | ⟨c',e,ec⟩
 ·have hp0:s.heap.get? P=some (PySem.W.tabObj #[]):=I.hok P _ e
  refine PySem.W.kla_makeFunction (mg:=X.mg) hcl I.ok.glob G hcode C hp0 trivial (by rfl) gP B fun c' ctv h' tk hx hge hlt hrec htb=>?_
  have sz:s.heap.objs.size < h'.objs.size:=Nat.lt_of_le_of_lt hge hlt
  have hcn:H c'=none:=I.hok.fresh hge
  have hqn:H h'.objs.size=none:=I.hok.fresh (Nat.le_of_lt sz)
  have ncP:c'≠P:=fun z=>by rw [z,e] at hcn; cases hcn
  have nqP:h'.objs.size≠P:=fun z=>by rw [z,e] at hqn; cases hqn
  have nqc:h'.objs.size≠c':=Nat.ne_of_gt hlt
  obtain ⟨ps,hps⟩:∃ ps:Array Value,(#[]:Array Value)++#[rawInt pos.line,rawInt pos.col,.ref c']=ps:=⟨_,rfl⟩
  have hps':ps=#[rawInt pos.line,rawInt pos.col,.ref c']:=by rw [← hps]; rfl
  rw [hps] at htb
  have up:∀ b o,b≠P→b≠c'→upd (upd H P (.tbl ps)) c' (CodO c' (X.env.qual++"<lambda>")) b=some o→H b=some o:=fun b o h1 h2 z=>by
   rw [upd_ne h2,upd_ne h1] at z
   exact z
  have dn:∀ b o,b≠P→H b=some o→upd (upd H P (.tbl ps)) c' (CodO c' (X.env.qual++"<lambda>")) b=some o:=fun b o h1 z=>by
   rw [upd_ne (fun y=>by rw [y,hcn] at z; cases z),upd_ne h1]
   exact z
  have hPP:upd (upd H P (.tbl ps)) c' (CodO c' (X.env.qual++"<lambda>")) P=some (.tbl ps):=by rw [upd_ne (Ne.symm ncP),upd_same]
  have keep:∀ b o,b≠P→s.heap.get? b=some o→(h'.push (PySem.W.kla_obj "<lambda>" (X.env.qual++"<lambda>") params body scope clos ((X.mg "__name__").getD .none) c' ctv)).get? b=some o:=fun b o h1 z=>Heap.get?_push_of_some _ (hx b o h1 z)
  have nP:∀ b,H b=none→b≠P:=fun b n z=>by rw [z,e] at n; cases n
  have un:Un X.fs [] H (upd (upd H P (.tbl ps)) c' (CodO c' (X.env.qual++"<lambda>"))) s.heap (h'.push (PySem.W.kla_obj "<lambda>" (X.env.qual++"<lambda>") params body scope clos ((X.mg "__name__").getD .none) c' ctv)):=by
   refine ⟨fun b o z n Z Z=>keep b o (nP b n) z,fun b o z n Z Z=>⟨o.slots,keep b o (nP b n) z⟩,fun b o z n Z=>?_,fun b o z Z=>?_,fun b xs z=>dn b _ (fun y=>by rw [y,e] at z; cases z) z,fun b o u z=>dn b _ (fun y=>by rw [y,e] at z; cases z) z,fun b qs z=>?_⟩
   ·rw [upd_ne (Nat.ne_of_lt (Nat.lt_of_lt_of_le (Heap.lt_size z) hge)),upd_ne (nP b n)]
    exact n
   ·by_cases y:b=P
    ·exact ⟨_,by rw [y]; exact Heap.get?_push_of_some _ htb⟩
    ·exact ⟨o,keep b o y z⟩
   ·by_cases y:b=P
    ·subst y
     rw [e] at z
     cases z
     exact ⟨_,by rw [hPP,← hps]⟩
    ·exact ⟨#[],by rw [dn b _ y z]; simp⟩
  have hok:HOk X.prog X.w (upd (upd H P (.tbl ps)) c' (CodO c' (X.env.qual++"<lambda>"))) (h'.push (PySem.W.kla_obj "<lambda>" (X.env.qual++"<lambda>") params body scope clos ((X.mg "__name__").getD .none) c' ctv)):=fun b u z=>by
   by_cases y1:b=c'
   ·subst y1
    rw [upd_same] at z
    cases z
    refine codO_ok ?_
    refine bC fun g_=>?_
    obtain ⟨c,oc,vs,tq,e1,g,d,v⟩:=hrec
    refine g_ ?_
    clear g_
    exact ⟨c,oc,vs,tq,e1,Heap.get?_push_of_some _ g,d,v⟩
   ·by_cases y2:b=P
    ·subst y2
     rw [hPP] at z
     cases z
     exact Heap.get?_push_of_some _ htb
    ·refine (I.hok b u (up b u y2 y1 z)).stay (fun d v hd g=>keep d v ?_ g) (fun d g=>dn d _ (fun y=>by rw [y,e] at g; cases g) g) fun d xs g=>dn d _ (fun y=>by rw [y,e] at g; cases g) g
     rcases hd with rfl | hd
     ·exact y2
     ·exact fun y=>by rw [y,e] at hd; cases hd
  refine ⟨h'.objs.size,c',ctv,_,rfl,I.un (t':=tk) un hok,Heap.get?_push_size _ rfl,?_,upd_same,Nat.le_of_lt sz,fun b o h1 z=>dn b o h1 z,fun b z=>?_,.inr ⟨c',?_,upd_same⟩⟩
  ·rw [upd_ne nqc,upd_ne nqP]
   exact hqn
  ·by_cases y1:b=c'
   ·rw [y1]; exact hcn
   ·by_cases y2:b=P
    ·rw [y2,hPP] at z; cases z
    ·rw [upd_ne y1,upd_ne y2] at z; exact z
  ·rw [hPP,hps']
 ·have hp0:s.heap.get? P=some (PySem.W.tabObj #[rawInt pos.line,rawInt pos.col,.ref c']):=I.hok P _ e
  refine PySem.W.kla_makeFunctionHit (mg:=X.mg) (cv:=.ref c') hcl I.ok.glob G hcode C hp0 (show TriplesOk ([]:List Value) from trivial) (codeAmong_snoc (pos:=pos) (c:=.ref c') [] trivial rfl) B fun ctv h' tk hk hsz=>?_
  have hqn:H h'.objs.size=none:=I.hok.fresh hsz
  exact ⟨h'.objs.size,c',ctv,H,rfl,I.kept (t':=tk) (fun b o z=>Heap.get?_push_of_some _ (hk b o z)),Heap.get?_push_size _ rfl,hqn,ec,hsz,fun b o Z z=>z,fun b z=>z,.inr ⟨c',e,ec⟩⟩
end
section
variable {X:Cx} {pins:List (Addr×Obj)} {σ:St} {H H0:Hp} {s0:Shared} {l q I S:Addr} {ts:List Addr} {ks:Nat→Int×Int} {oq:Obj} {R:Result→Shared→Prop}
theorem refs_of:∀ {ts:List Addr} {us:List Value},Vals (ts.map V.ref) us→us=ts.map Value.ref
 | [],_,.nil=>rfl
 | t :: ts,_,.cons r rs=>by
  cases r
  rw [List.map_cons,refs_of rs]
theorem isList_of {H1:Hp} {s1:Shared} (J:Inv X pins σ H1 s1) (hl:H1 l=some (.lst (ts.map V.ref))):s1.heap.IsList l (ts.map Value.ref).toArray:=by
 refine bC fun g_=>?_
 obtain ⟨its,rv,⟨o,n,e,c,_,d⟩,_⟩:=J.list (SqL.of hl)
 refine g_ ?_
 clear g_
 rw [refs_of rv] at d
 exact ⟨o,e,c,n,d⟩
end
section
variable {X:Cx} {pins:List (Addr×Obj)} {σ:St} {H H0:Hp} {s s0:Shared} {l q:Addr} {ts:List Addr} {ks:Nat→Int×Int} {oq:Obj} {Q:Value→Shared→Prop} {E:Value→Shared→Prop}
end
theorem TabAt.same {P:Addr} {lpos:Pos} {qual:Str} {H H':Hp} (h:TabAt P lpos qual H) (s:Same H H'):TabAt P lpos qual H':=by
 rcases h with e | ⟨c',e,ec⟩
 ·exact .inl (s _ _ e)
 ·exact .inr ⟨c',s _ _ e,s _ _ ec⟩
theorem TabAt.tbl {P:Addr} {lpos:Pos} {qual:Str} {H:Hp} (h:TabAt P lpos qual H):∃ ps,H P=some (.tbl ps):=by
 rcases h with e | ⟨_,e,_⟩ <;> exact ⟨_,e⟩
section
variable {X:Cx} {c P:Addr} {e body:Expr} {params:Arguments} {scope:Scope} {p lpos kp pos:Pos} {te t:TE}
end
noncomputable def TabsK (K:PySem.W.Frag) (tabs:List Addr):Prop:=∀ P∈tabs,K.lookup P=none∧∃ c,PySem.W.codeHdIn K c P=true
set_option tactic.hygienic true in
theorem law_callT {P:Program} {w:World} {K:PySem.W.Frag} {mg mb:Str→Option Value} {CX:CXT} {k:Nat} {fa a:Addr} {fd:FuncData} {x:Str} {sp:Sp} {s₁:Shared} {vs:List Value} {ns:List Int} {tabs:List Addr}
  (KX:K.In s₁.heap) (hns:s₁.heap.Ns mainGlobals mg) (hb:s₁.heap.Ns builtinsNs mb) (hbb:∀ x:Str,x≠"__name__"→mb x=bootBuiltins x) (hlim:s₁.heap.NoLimit) (hg:s₁.gens=#[])
  (ha:s₁.heap.get? a=some { cls:=.type "list",data:=.seq vs.toArray }) (hi:IntsAre vs ns) (hl:ns.length≤sizeLine) (hr:Room k callerA)
  (ht:∀ T∈tabs,s₁.heap.get? T=some (PySem.W.tabObj #[])) (hK:TabsK K tabs) (hbm:BmB mg s₁.heap)
  (F:∀ base:Heap,K.In base→base.Ns mainGlobals mg→BmB mg base→FnOk P w K mg base CX k fa fd [x] sp) (hbind:∀ (s:Shared) (u:Value),BindsTo s fd ⟨[u],[]⟩ [(x,u)])
  (hsp:∀ H:Hp,(∀ T∈tabs,H T=some (.tbl #[]))→SqL K H a (ns.map V.int)→sp [.ref a] H (fun v Z=>v=.bl true) fun Z Z Z=>False)
  (hCX:∀ H e s',CX [] H s₁ (fun Z Z Z=>False) e s'→False) :
  codeAny (model P w) callerA (.call (.ref fa) ⟨[.ref a],[]⟩) (fun r s'=>r=.ok (.ret (.bool true))∧OldK s₁.heap s'.heap∧s'.os=s₁.os∧AllBare s'.gens) s₁:=by
 have rv:=vals_ints hi
 have lenV:=hi.length
 have aT:∀ T∈tabs,T≠a:=fun T hT z=>by
  have e:=ht T hT
  rw [z,ha] at e
  cases e
 have core:∀ H:Hp,(∀ b,H b=none∨(b=a∧∃ o xs,H b=some (.frz o (.lst xs)))∨(b∈tabs∧H b=some (.tbl #[])))→(∀ T∈tabs,H T=some (.tbl #[]))→SqL K H a (ns.map V.int)→HOk P w H s₁.heap→(H a≠none→K.lookup a=none) →
   codeAny (model P w) callerA (.call (.ref fa) ⟨[.ref a],[]⟩) (fun r s'=>r=.ok (.ret (.bool true))∧OldK s₁.heap s'.heap∧s'.os=s₁.os∧AllBare s'.gens) s₁:=by
  intro H hO hT hS hok hKa
  have base_of:∀ {b:Addr} {o:Obj},s₁.heap.get? b=some o→H b=none→(hidT s₁.heap H).get? b=some o:=fun e n=>hidT_get e n
  have noA:∀ {b:Addr} {o:Obj} {es:Array DictEntry} {ep:Nat},s₁.heap.get? b=some o→o.data=.dict es ep→H b=none:=fun {b o es ep} e d=>by
   rcases hO b with z | ⟨z,_⟩ | ⟨z,_⟩
   ·exact z
   ·rw [z,ha] at e
    cases e
    have d':Data.seq vs.toArray _=Data.dict es ep:=d
    cases d'
   ·rw [ht b z] at e
    cases e
    have d':Data.fields _=Data.dict es ep:=d
    cases d'
  have nsK:∀ {b:Addr} {m:Str→Option Value},s₁.heap.Ns b m→(hidT s₁.heap H).Ns b m:=fun {b m} ⟨o,es,ep,e,d,r⟩=>⟨o,es,ep,base_of e (noA e d),d,r⟩
  have hKb:K.In (hidT s₁.heap H):=fun b o e=>base_of (KX b o e) (by
   rcases hO b with z | ⟨z,u,xs,y⟩ | ⟨z,_⟩
   ·exact z
   ·rw [z] at e y
    rw [hKa (by rw [y]; simp)] at e
    cases e
   ·rw [(hK b z).1] at e
    cases e)
  have hBm:BmB mg (hidT s₁.heap H):=by
   refine bC fun g_=>?_
   obtain ⟨bm,ob,e1,e2,e3,e4,e5,e6,e7⟩:=hbm
   refine g_ ?_
   clear g_
   refine ⟨bm,ob,e1,e2,e3,base_of e4 ?_,e5,e6,e7⟩
   rcases hO bm with z | ⟨z,_⟩ | ⟨z,_⟩
   ·exact z
   ·rw [z,ha] at e4
    cases e4
    cases e7
   ·rw [ht bm z] at e4
    cases e4
    cases e7
  have hM:Mod K mg (hidT s₁.heap H):=⟨hKb,nsK hns,⟨mb,nsK hb,hbb⟩,let ⟨mc,h1,h2⟩:=hlim; ⟨mc,nsK h1,h2⟩⟩
  have e0:Env0 P w K mg (hidT s₁.heap H) callerA [] s₁ H:=⟨rfl,hM,fun b o e=>of_hidT e,Nat.le_of_eq (hidT_size _ _),trivial,fun b hb=>absurd (show b∈([]:List Addr) from hb) (by simp),hok,.of_eq hg⟩
  refine codeAny_mono ((F _ hKb (nsK hns) hBm).run callerA [] s₁ H ⟨[.ref a],[]⟩ [.ref a] [.ref a] _ _ hr e0 (hbind s₁ (.ref a)) (.cons rfl .nil) (hsp H hT hS)) fun r s' h=>?_
  cases r with
  | error e=>exact (hCX H e s' h).elim
  | ok fl =>
   cases fl with
   | next=>exact False.elim h
   | brk=>exact False.elim h
   | cont=>exact False.elim h
   | ret u =>
    refine bC fun g_=>?_
    obtain ⟨v,H',os,bare,un,hok',r',q⟩:=h
    refine g_ ?_
    clear g_
    have q':v=.bl true:=q
    subst q'
    obtain rfl:u=Value.bool true:=r'
    refine ⟨rfl,⟨fun b o e=>?_,fun b o e=>un.there b o e (by simp)⟩,os,bare⟩
    rcases hO b with z | ⟨z,ob,xs,y⟩ | ⟨z,y⟩
    ·exact .inl (un.keep b o e z (by intro z; exact absurd (show b∈([]:List Addr) from z) (by simp)) (by simp))
    ·have z2:=un.frzs b ob _ y
     refine bC fun g_=>?_
     obtain ⟨e1,_⟩:=hok b _ y
     obtain ⟨e2,_⟩:=hok' b _ z2
     refine g_ ?_
     clear g_
     rw [e] at e1; cases e1
     exact .inl e2
    ·obtain ⟨more,y2⟩:=un.tbls b _ y
     have e2:s'.heap.get? b=some { cls:=.none,data:=.fields (#[]++more) }:=hok' b _ y2
     refine bC fun g_=>?_
     obtain ⟨_,c,hc⟩:=hK b z
     refine g_ ?_
     clear g_
     have e1:=ht b z
     rw [e1] at e
     cases e
     exact .inr (.inl ⟨((PySem.W.codeHd_of_K KX hc).tab e1).isCodeTable,rfl,#[],more,rfl,e2⟩)
 cases hk:K.lookup a with
 | some o =>
  have e:=KX a o hk
  rw [ha] at e
  cases e
  refine core (fun b=>if b∈tabs then some (.tbl #[]) else none) (fun b=>?_) (fun T hT=>if_pos hT) (.inr ⟨_,vs.toArray,_,hk,rfl,rfl,rfl,by rw [List.size_toArray,lenV]; exact hl,by simpa using rv⟩) (fun b u z=>?_) fun z=>absurd (if_neg (fun y=>aT a y rfl)) z
  ·by_cases hb:b∈tabs
   ·exact .inr (.inr ⟨hb,if_pos hb⟩)
   ·exact .inl (if_neg hb)
  ·by_cases hb:b∈tabs
   ·have z':=(if_pos hb).symm.trans z
    cases z'
    exact ht b hb
   ·have z':=(if_neg hb).symm.trans z
    cases z'
 | none =>
  refine core (fun b=>if b=a then some (.frz { cls:=.type "list",data:=.seq vs.toArray } (.lst (ns.map V.int))) else if b∈tabs then some (.tbl #[]) else none) (fun b=>?_) (fun T hT=>by rw [if_neg (aT T hT),if_pos hT]) (.inl (.inr ⟨{ cls:=.type "list",data:=.seq vs.toArray },if_pos rfl⟩)) (fun b u z=>?_) fun Z=>hk
  ·by_cases hb:b=a
   ·exact .inr (.inl ⟨hb,_,_,if_pos hb⟩)
   ·by_cases hb2:b∈tabs
    ·exact .inr (.inr ⟨hb2,by rw [if_neg hb,if_pos hb2]⟩)
    ·exact .inl (by rw [if_neg hb,if_neg hb2])
  ·by_cases hb:b=a
   ·have z':=(if_pos hb).symm.trans z
    cases z'
    subst hb
    exact ⟨ha,by rw [List.length_map]; exact hl,vs,_,rv,ha⟩
   ·by_cases hb2:b∈tabs
    ·have z':=((if_neg hb).trans (if_pos hb2)).symm.trans z
     cases z'
     exact ht b hb2
    ·have z':=((if_neg hb).trans (if_neg hb2)).symm.trans z
     cases z'
theorem bm_of {p:Program} {loose:List Str} {mean:ExcName→Option Value} {mg mb:Str→Option Value} {h:Heap} (T:PyProof.Rows.Top p loose mean mg mb h):BmB mg h:=by
 refine bC fun g_=>?_
 obtain ⟨bm,ob,b1,b2,b3,b4,b5,b6⟩:=T.bmain
 refine g_ ?_
 clear g_
 refine ⟨bm,ob,b1,b2,fun q=>?_,b3,b4,b5,b6⟩
 refine bC fun g_=>?_
 obtain ⟨o,es,ep,e,hd,_⟩:=T.g
 refine g_ ?_
 clear g_
 rw [q,e] at b3
 cases b3
 rw [hd] at b6
 cases b6
theorem walk_ofT {l:PySem.W.OpenLaw} {n k:Nat} {q:Program} {loose:List Str} {XP:(Str→Option Value)→Heap→Prop} {YP:World→Heap→Prop} {d:DefRec} {K:Params→PySem.W.Frag} {CX:World→CXT} {sp:World→Sp} {x:Str} {tabs:List Addr}
  (hn:l.most=some n) (hn2:n≤sizeLine) (hdf:d.params.defaults=[]) (hr:Room k callerA)
  (hY:∀ (w:World) (h:Heap),YP w h→(K w.params).In h∧∀ T∈tabs,h.get? T=some (PySem.W.tabObj #[]))
  (F:∀ (w:World) (mg:Str→Option Value) (fa:Addr) (h:Heap),(K w.params).In h→h.Ns mainGlobals mg→mg d.name=some (.ref fa) →
   TabsK (K w.params) tabs∧∃ fd:FuncData,(∀ (s:Shared) (u:Value),BindsTo s fd ⟨[u],[]⟩ [(x,u)]) ∧
    ∀ base:Heap,(K w.params).In base→base.Ns mainGlobals mg→BmB mg base→FnOk l.prog w (K w.params) mg base (CX w) k fa fd [x] (sp w))
  (hsp:∀ (w:World) (H:Hp) (a:Addr) (ns:List Int),ns.length≤n→(∀ T∈tabs,H T=some (.tbl #[]))→SqL (K w.params) H a (ns.map V.int)→sp w [.ref a] H (fun v Z=>v=.bl true) fun Z Z Z=>False)
  (hCX:∀ (w:World) (H:Hp) (s:Shared) (e:Value) (s':Shared),CX w [] H s (fun Z Z Z=>False) e s'→False) :
  PySem.W.WalkO q loose XP YP l.row.toRowW d [] (fun f vs=>PySem.call f vs):=by
 refine Att.attach_call hn hdf fun w s₀ s₁ mg mb fa o pm cd doc a vs ns G Y ho hd hcd hmg hobj hints hlen hg=>?_
 refine bC fun g_=>?_
 obtain ⟨KX,hT⟩:=hY w _ Y
 obtain ⟨hK,fd,hb,hF⟩:=F w mg fa _ KX G.T.g hmg
 refine g_ ?_
 clear g_
 exact law_callT KX G.T.g G.T.b G.T.builtins G.T.nolimit hg hobj hints (Nat.le_trans hlen hn2) hr hT hK (bm_of G.T) hF hb (fun H hO hS=>hsp w H a ns hlen hO hS) fun H e s'=>hCX w H s₁ e s'
end L2
namespace L2
open PySem PySem.Spec PySem.SeqAt PyProof.Rows
section
variable {X:Cx}
noncomputable def rInD (K:PySem.W.Frag) (neg:Bool):R2:=fun x y H Q=>∃ d es,Rp K H x d∧Rp K H y (.list es)∧SeqAt.shaped (.list es)=true∧SeqAt.shaped d=true∧Q (.bl (if neg then !(es.any fun z=>PyData.eqv z d) else es.any fun z=>PyData.eqv z d)) H
theorem op_notInD (hu:X.A.units + 65 < cLine):OpR X (compareOp .NotIn) (rInD X.K true):=by
 intro pins s σ H x y v u Q I rx ry h
 refine bC fun g_=>?_
 obtain ⟨d,e,hd,he,se,sd,q⟩:=h
 obtain ⟨as,ra⟩:=hd.reads I rx
 obtain ⟨bs,rb⟩:=he.reads I ry
 refine g_ ?_
 clear g_
 exact notIn_list_reads rb ra (canLay_of_shaped se) (canLay_of_shaped sd) (room_in_shaped sd hu) ⟨.bl _,H,I,rfl,q⟩
theorem Room.units65 {k:Nat} {A:Around} (r:Room k A):A.units + 65 < cLine:=by have:=r.un; lia
end
end L2
namespace L2
open PySem PySem.Spec PyProof.Rows
section
variable {P:Program} {w:World} {A:Around} {E:Value→Shared→Prop} {s:Shared} {env:Env} {ce sh t:Addr} {i b:Int} {u v:Tok} {z:Value} {its:Array Value} {m:Str→Option Value}
structure KeyAt (h:Heap) (env:Env) (ce sh t:Addr) (i b:Int) (u v:Tok) (z:Value) (its:Array Value) (m:Str→Option Value):Prop where
 cell:h.IsCell ce (some (.ref sh))
 lst:h.IsList sh its
 lo:0≤i
 hi:i < 2 ^ 63
 at_:its[i.toNat]?=some (.ref t)
 tup:IsTup h t #[z,.int b v]
 ns:h.Ns env.locals m
 one:m "one"=some (.int i u)
theorem key_body {p1 p2 p3 p4 p5:Pos} {k:Nat} {Q:Value→Shared→Prop} (hk:env.scope.kind=.function) (hs:env.kindOf "shelf"=some .free) (ho:env.kindOf "one"=some .local) (hc:env.cells.lookup ("shelf":Str)=some ce) (I:KeyAt s.heap env ce sh t i b u v z its m)
  (q:∀ tk,Q (.int b v) { s with toks:=tk }) :
  wpAny (model P w) A (eval (.Subscript (.Subscript (.Name "shelf" p1) (.Name "one" p2) p3) (.Constant (.int 1) k p4) p5) env) Q E s:=by
 refine Subscript_ (wpAny_Subscript_Name_late (wpAny_Name (wpAny_loadName_free hk hs hc I.cell (wpAny_Name (wpAny_loadName_local hk ho I.ns I.one ⟨"list",_,slot_list_getitem.lookup,I.lst.typeIs,wpAny_getItem_list I.lst I.lo I.hi I.at_ ?_⟩)))))
 refine wpAny_Constant_int ?_
 exact subscriptTail_builtinR (x:=.int b v) (show IsTup s.heap t #[z,.int b v] from I.tup).typeIs slot_tuple_getitem.lookup (getItem_tuple (j:=1) (Q:=fun r s'=>r=.int b v∧Q r s') (show IsTup s.heap t #[z,.int b v] from I.tup) (by decide) (by decide) rfl rfl ⟨rfl,q _⟩) (by with_unfolding_all rfl)
theorem key_neg {p1 p2 p3 p4 p5 p6:Pos} {k:Nat} {Q:Value→Shared→Prop} (hk:env.scope.kind=.function) (hs:env.kindOf "shelf"=some .free) (ho:env.kindOf "one"=some .local) (hc:env.cells.lookup ("shelf":Str)=some ce) (I:KeyAt s.heap env ce sh t i b u v z its m)
  (q:∀ tk tk',Q (.int (-b) tk) { s with toks:=tk' }) :
  wpAny (model P w) A (eval (.UnaryOp .USub (.Subscript (.Subscript (.Name "shelf" p1) (.Name "one" p2) p3) (.Constant (.int 1) k p4) p5) p6) env) Q E s:=by
 refine UnaryOp_ (key_body hk hs ho hc I fun tk=>neg_int ?_)
 exact q _ _
end
noncomputable def KeyOk (P:Program) (w:World) (body:Expr) (g:Int→Int):Prop:=∀ (A:Around) (E:Value→Shared→Prop) (s:Shared) (env:Env) (ce sh t:Addr) (i b:Int) (u v:Tok) (z:Value) (its:Array Value) (m:Str→Option Value) (Q:Value→Shared→Prop),
 env.scope.kind=.function→env.kindOf "shelf"=some .free→env.kindOf "one"=some .local→env.cells.lookup ("shelf":Str)=some ce→KeyAt s.heap env ce sh t i b u v z its m→(∀ tk tk',Q (.int (g b) tk) { s with toks:=tk' })→wpAny (model P w) A (eval body env) Q E s
theorem key_ok1 {P:Program} {w:World} {p1 p2 p3 p4 p5:Pos} {k:Nat}:KeyOk P w (.Subscript (.Subscript (.Name "shelf" p1) (.Name "one" p2) p3) (.Constant (.int 1) k p4) p5) id :=
 fun Z Z Z Z Z Z Z Z Z Z Z Z Z Z Z hk hs ho hc I q=>key_body hk hs ho hc I fun tk=>q _ tk
theorem key_ok2 {P:Program} {w:World} {p1 p2 p3 p4 p5 p6:Pos} {k:Nat}:KeyOk P w (.UnaryOp .USub (.Subscript (.Subscript (.Name "shelf" p1) (.Name "one" p2) p3) (.Constant (.int 1) k p4) p5) p6) (fun b=>-b) :=
 fun Z Z Z Z Z Z Z Z Z Z Z Z Z Z Z hk hs ho hc I q=>key_neg hk hs ho hc I q
section
variable {P:Program} {w:World} {A:Around} {E:Value→Shared→Prop} {s:Shared} {ce sh t:Addr} {i b:Int} {u v:Tok} {z:Value} {its:Array Value}
theorem key_call {body:Expr} {g:Int→Int} (ok:KeyOk P w body g) {q c':Addr} {qual:Str} {params:Arguments} {scope:Scope} {pm ctv:Value} {R:Except Value Flow→Shared→Prop}
  (ho:s.heap.get? q=some (PySem.W.kla_obj "<lambda>" qual params body scope [("shelf",ce)] pm c' ctv)) (hcd:s.heap.CodeRec (.ref c') qual) (hroom:A.depth < recursionLimit)
  (hkd:scope.kind=.function) (hco:scope.isCoroutine=false) (hgn:scope.isGenerator=false) (hsh:scope.names.lookup ("shelf":Str)=some .free) (hon:scope.names.lookup ("one":Str)=some .local) (hcl:∀ x∈scope.names,x.2≠.cell)
  (hb:BindsTo s (PySem.W.kla_fn "<lambda>" qual params body scope [("shelf",ce)] pm (.ref c') ctv) ⟨[.int i u],[]⟩ [("one",.int i u)])
  (lim:s.heap.NoLimit) (cell:s.heap.IsCell ce (some (.ref sh))) (lst:s.heap.IsList sh its) (lo:0≤i) (hi:i < 2 ^ 63) (at_:its[i.toNat]?=some (.ref t)) (tup:IsTup s.heap t #[z,.int b v])
  (hR:∀ h' tk tk',(∀ a o,s.heap.get? a=some o→h'.get? a=some o)→R (.ok (.ret (.int (g b) tk))) { s with heap:=h',toks:=tk' }) :
  codeAny (model P w) A (.call (.ref q) ⟨[.int i u],[]⟩) R s:=by
 refine PySem.W.kla_callFunE hroom ho rfl hco hgn rfl hcd (hb _ _ _ _ ?_)
 refine wpAny_newFunctionEnv hcl (fun x hx=>by rw [List.mem_singleton.mp hx]; exact hon) (fun h' ns sb=>?_) hkd
 have kp:∀ a o,s.heap.get? a=some o→h'.get? a=some o:=fun a o e=>(sb.2 a (Nat.ne_of_lt (Heap.lt_size e))).trans (Heap.get?_push_of_some _ e)
 refine ⟨lim.keeps kp,PySem.W.kla_codeExpr (ok _ _ _ _ ce sh t i b u v z its _ _ hkd hsh hon rfl ⟨cell.keeps kp,?_,lo,hi,at_,tup.keeps kp,ns,rfl⟩ fun tk tk'=>hR h' tk tk' kp)⟩
 refine bC fun g_=>?_
 obtain ⟨o,e,r⟩:=lst
 refine g_ ?_
 clear g_
 exact ⟨o,kp _ _ e,r⟩
end
noncomputable def Stay (h g:Heap):Prop:=∀ b o,h.get? b=some o→g.get? b=some o
theorem Stay.trans {h g f:Heap} (a:Stay h g) (b:Stay g f):Stay h f:=fun x o e=>b x o (a x o e)
theorem Stay.push (h:Heap) (o:Obj):Stay h (h.push o):=fun Z Z e=>Heap.get?_push_of_some _ e
theorem Stay.upd {h g:Heap} {a:Addr} (st:Stay h g) (n:h.get? a=none) (f:Obj→Obj):Stay h (g.update a f):=fun b o e =>
 (Heap.get?_update_ne _ _ _ _ (fun z=>by rw [z,n] at e; cases e)).trans (st b o e)
section
variable {prog:Program} {w:World} {A:Around} {E:Value→Shared→Prop} {s:Shared} {vs:List Value} {kz:List Int} {P:PySem.Fin→Shared→Prop}
noncomputable def KeyTurn (prog:Program) (w:World) (B:Around) (s:Shared) (f:Value) (vs:List Value) (kz:List Int):Prop :=
 ∀ (i:Nat) (v:Value) (k:Int),vs[i]?=some v→kz[i]?=some k→∀ (g:Heap) (n:Nat) (R:Value→Shared→Prop),Stay s.heap g →
  (∀ g' n' t,Stay g g'→R (.int k t) { s with heap:=g',toks:=n' })→wpAny (model prog w) B (call f [v]) R (fun Z Z=>False) { s with heap:=g,toks:=n }
noncomputable def evT (f:Nat→Nat→Bool) {α:Type}:PySem.W.KasT α→α
 | .ret a=>a
 | .ask i j k=>evT f (k (f i j))
noncomputable def ordK (kz:List Int):List Nat:=if kz.length < 2 then List.range kz.length else (evT (fun i j=>decide (kz.getD i 0 < kz.getD j 0)) (PySem.W.kas_sort kz.length)).toList
theorem ev_conv {n:Nat} {rk:Nat→Int} {S:Shared} {cmp:Nat→Nat→(Bool→Shared→Prop)→Shared→Prop} {α:Type} {Q:α→Prop} (hc:∀ i j C,i < n→j < n→C (decide (rk i < rk j)) S→cmp i j C S):∀ t:PySem.W.KasT α,t.kasWp (Srt.ans n rk) (fun a s'=>s'=S∧Q a) S→t.kasWp cmp (fun a s'=>s'=S∧Q a∧a=evT (fun i j=>decide (rk i < rk j)) t) S
 | .ret _,q=>⟨q.1,q.2,rfl⟩
 | .ask i j k,q=>hc i j _ q.1 q.2.1 (ev_conv hc (k _) q.2.2)
theorem ev_wp {n:Nat} {rk:Nat→Int} {S:Shared} {α:Type} {Q:α→Prop}:∀ t:PySem.W.KasT α,t.kasWp (Srt.ans n rk) (fun a s'=>s'=S∧Q a) S→Q (evT (fun i j=>decide (rk i < rk j)) t)
 | .ret _,q=>q.2
 | .ask _ _ k,q=>ev_wp (k _) q.2.2
theorem ordK_perm (S:Shared) (kz:List Int):(ordK kz).Perm (List.range kz.length):=by
 unfold ordK
 by_cases h:kz.length < 2
 ·rw [if_pos h]
 ·rw [if_neg h]
  have:=ev_wp (S:=S) _ (Srt.sort (n:=kz.length) (rk:=fun i=>kz.getD i 0) (S:=S) (by lia))
  have:=Array.perm_iff_toList_perm.mp this.1
  simpa using this
noncomputable def outK (kz:List Int) (vs:List Value):Array Value:=((ordK kz).map fun i=>vs.getD i Value.none).toArray
noncomputable def KeyEnd (s:Shared) (a:Addr) (kz:List Int) (vs:List Value) (P:PySem.Fin→Shared→Prop):Prop :=
 ∀ (g:Heap) (n:Nat) (c:Nat),Stay s.heap g→g.get? a=some (seqObj "list" (outK kz vs) c)→P (.done (.ret .none)) { s with heap:=g,toks:=n }
theorem key_few (h:vs.length < 64):vs.length≤sizeLine:=Nat.le_of_lt (Nat.lt_of_lt_of_le h (by rw [sizeLine_eq]; decide))
theorem key_size {keys:Array Value} (ik:IntsAre keys.toList kz) (hl:kz.length=vs.length):keys.size=vs.length:=by
 have:=ik.length
 rw [Array.length_toList] at this
 lia
theorem outK_size (S:Shared) (hl:kz.length=vs.length):(outK kz vs).size=vs.length:=by
 unfold outK
 rw [List.size_toArray,List.length_map,(ordK_perm S kz).length_eq,List.length_range,hl]
theorem key_tail {st:SortSt} {g:Heap} {n e e1:Nat} {a kS:Addr} {keys:Array Value} (sg:Stay s.heap g) (na:s.heap.get? a=none) (nk:s.heap.get? kS=none) (ne:kS≠a) (gk:g.get? kS=some (seqObj "list" keys e)) (ga:g.get? a=some (seqObj "list" #[] e1))
  (ik:IntsAre keys.toList kz) (hl:kz.length=vs.length) (few:vs.length < 64) (hs:(arrOf st).map (·.2)=outK kz vs) (hf:failedOf st=none) (fin:KeyEnd s a kz vs P) :
  wpAny (model prog w) A (ksk_tail a false e1 (.ref kS) st) P E { s with heap:=g,toks:=n }:=by
 have ks:=key_size ik hl
 have ga1:(g.update kS (Obj.mapSeq fun Z=>(#[]:Array Value))).get? a=some (seqObj "list" #[] e1):=(Heap.get?_update_ne _ _ _ _ (Ne.symm ne)).trans ga
 obtain ⟨c,hc⟩:∃ c,((g.update kS (Obj.mapSeq fun Z=>(#[]:Array Value))).update a (Obj.mapSeq fun Z=>outK kz vs)).get? a=some (seqObj "list" (outK kz vs) c):=⟨_,get?_update_seq ga1 fun Z=>outK kz vs⟩
 have st2:Stay s.heap ((g.update kS (Obj.mapSeq fun Z=>(#[]:Array Value))).update a (Obj.mapSeq fun Z=>outK kz vs)):=(sg.upd nk _).upd na _
 unfold ksk_tail
 dsimp only
 rw [hs,hf]
 simp only [Bool.false_eq_true,if_false]
 refine wpAny_bind (listUpdate_at gk rfl (wpAny_bind (wpAny_letGo (wpAny_bind (seqEpoch_at ga1 rfl (wpAny_bind (listUpdate_at ga1 rfl ?_ (Nat.zero_le _) (by show (outK kz vs).size≤_; rw [outK_size s hl]; exact Nat.le_succ_of_le (key_few few)))))))) (by rw [ks]; exact key_few few) (Nat.zero_le _))
 simp only [bne_self_eq_false,Bool.false_eq_true,if_false]
 exact wpAny_pure (fin _ _ c st2 hc)
theorem ints_getD {us:List Value} {kz:List Int} (h:IntsAre us kz):∀ i,i < us.length→∃ t,us.getD i Value.none=.int (kz.getD i 0) t:=by
 induction h with
 | nil=>exact fun i h=>absurd h (Nat.not_lt_zero _)
 | cons n t r ih =>
  intro i h
  cases i with
  | zero=>exact ⟨t,rfl⟩
  | succ i=>exact ih i (Nat.lt_of_succ_lt_succ h)
theorem key_end {g:Heap} {n e e1:Nat} {a kS:Addr} {keys:Array Value} (sg:Stay s.heap g) (na:s.heap.get? a=none) (nk:s.heap.get? kS=none) (ne:kS≠a) (gk:g.get? kS=some (seqObj "list" keys e)) (ga:g.get? a=some (seqObj "list" #[] e1))
  (ik:IntsAre keys.toList kz) (hl:kz.length=vs.length) (few:vs.length < 64) (fin:KeyEnd s a kz vs P) :
  wpAny (model prog w) A (ksk_end a false vs.toArray e1 (.ref kS) keys) P E { s with heap:=g,toks:=n }:=by
 have ks:=key_size ik hl
 have kl:keys.toList.length=vs.length:=by rw [Array.length_toList,ks]
 unfold ksk_end
 dsimp only
 simp only [Bool.false_eq_true,if_false]
 by_cases two:vs.toArray.size < 2
 ·rw [if_pos two,if_pos two]
  refine wpAny_bind (wpAny_pure ?_)
  rw [StateT.run_pure]
  rw [List.size_toArray] at two
  refine wpAny_bind (wpAny_pure (key_tail (st:=SortSt.mk' general' (keys.zip vs.toArray) #[] 7 none) sg na nk ne gk ga ik hl few ?_ rfl fin))
  show (keys.zip vs.toArray).map (·.2)=_
  unfold outK ordK
  rw [if_pos (by lia),hl,map_getD]
  apply Array.ext'
  rw [Array.toList_map,Array.toList_zip,List.toList_toArray,List.map_snd_zip (by rw [kl]; exact Nat.le_refl _)]
 ·rw [if_neg two,if_neg two,ksk_kind ik (by rw [ks]; rw [List.size_toArray] at two; lia)]
  rw [List.size_toArray] at two
  have run:=ev_conv (cmp:=PySem.W.kas_ask prog w A oneType' keys.toList) (n:=vs.length) (rk:=fun i=>kz.getD i 0) (S:={ s with heap:=g,toks:=n }) (Q:=fun Z=>True) (fun i j C hi hj hC=>by
   obtain ⟨t1,e1⟩:=ints_getD ik i (by rw [kl]; exact hi)
   obtain ⟨t2,e2⟩:=ints_getD ik j (by rw [kl]; exact hj)
   unfold PySem.W.kas_ask
   rw [e1,e2]
   exact PySem.W.kat_lt_int hC) (PySem.W.kas_sort vs.length) (Srt.wp_mono (Srt.sort (by lia)) fun Z Z=>trivial)
  have kr:=PySem.W.kat_run (E:=E) (Q:=fun st' s'=>s'={ s with heap:=g,toks:=n }∧(arrOf st').map (·.2)=outK kz vs∧failedOf st'=none) kl (by lia) few (fun p st' s' Z b1 b2 q=>⟨q.1,?_,b2⟩) run
  ·rw [Array.toArray_toList] at kr
   refine wpAny_bind (wpAny_pure (wpAny_bind (wpAny_mono kr ?_ fun Z Z z=>z)))
   rintro ⟨⟨⟩,z⟩ s' ⟨rfl,hs,hf⟩
   exact key_tail sg na nk ne gk ga ik hl few hs hf fin
  ·rw [PySem.W.kat_snds kl b1,q.2.2]
   unfold outK ordK
   rw [if_neg (by lia),hl]
theorem key_rest {f:Value} {g:Heap} {n e1:Nat} {a kS:Addr} (sg:Stay s.heap g) (na:s.heap.get? a=none) (nk:s.heap.get? kS=none) (ne:kS≠a) (gk:g.get? kS=some (seqObj "list" #[] 0)) (ga:g.get? a=some (seqObj "list" #[] e1))
  (hl:kz.length=vs.length) (few:vs.length < 64) (turn:KeyTurn prog w A s f vs kz) (fin:KeyEnd s a kz vs P) :
  wpAny (model prog w) A (ksk_rest a f false vs.toArray e1 (.ref kS)) P E { s with heap:=g,toks:=n }:=by
 unfold ksk_rest
 refine wpAny_bind (wpAny_rule ?_)
 rw [List.forIn_toArray]
 refine wpAny_bind (ksk_fold (fun i s'=>∃ g' n' kA e,s'={ s with heap:=g',toks:=n' }∧Stay s.heap g'∧g'.get? kS=some (seqObj "list" kA e)∧g'.get? a=some (seqObj "list" #[] e1)∧IntsAre kA.toList (kz.take i)) vs 0 _ ⟨g,n,#[],0,rfl,sg,gk,ga,.nil⟩ ?_ ?_)
 ·rintro j x s' hx h_
  refine bC fun g_=>?_
  obtain ⟨g',n',kA,e,e1_,sg',gk',ga',ik⟩:=h_
  refine g_ ?_
  clear g_
  obtain rfl:=e1_
  rw [Nat.zero_add] at ik ⊢
  have hj:j < vs.length:=(List.getElem?_eq_some_iff.mp hx).1
  obtain ⟨k,ek⟩:∃ k,kz[j]?=some k:=⟨_,List.getElem?_eq_getElem (by lia)⟩
  have z1:kA.size≤j:=by
   have:=ik.length
   rw [Array.length_toList,List.length_take] at this
   lia
  have z2:kA.size + 1≤sizeLine:=Nat.le_trans (show _≤vs.length by lia) (key_few few)
  refine wpAny_bind (wpAny_attempt (wpAny_mono (turn j x k hx ek g' n' (fun v s''=>∃ g2 n2 t,v=.int k t∧s''={ s with heap:=g2,toks:=n2 }∧Stay g' g2) sg' fun g2 n2 t st2=>⟨g2,n2,t,rfl,rfl,st2⟩) ?_ fun Z Z z=>z.elim))
  rintro v s'' h_
  refine bC fun g_=>?_
  obtain ⟨g2,n2,t,e2_,e3_,st2⟩:=h_
  refine g_ ?_
  clear g_
  obtain rfl:=e2_
  obtain rfl:=e3_
  have gk2:=st2 _ _ gk'
  obtain ⟨c,hc⟩:∃ c,(g2.update kS (Obj.mapSeq (·.push (.int k t)))).get? kS=some (seqObj "list" (kA.push (.int k t)) c):=⟨_,get?_update_seq gk2 (·.push (.int k t))⟩
  try dsimp only
  refine wpAny_bind (listUpdate_at gk2 rfl (wpAny_pure ⟨rfl,_,_,kA.push (.int k t),c,rfl,(sg'.trans st2).upd nk _,hc,(Heap.get?_update_ne _ _ _ _ (Ne.symm ne)).trans (st2 _ _ ga'),?_⟩) (Nat.le_trans (Nat.le_succ _) z2) (Nat.le_trans (Nat.le_of_eq (Array.size_push ..)) (Nat.le_succ_of_le z2)))
  have e1:kz.take (j + 1)=kz.take j++[k]:=by rw [List.take_add_one,ek]; rfl
  rw [e1,Array.toList_push]
  exact ksk_snoc ik
 ·rintro s' h_
  refine bC fun g_=>?_
  obtain ⟨g',n',kA,e,e4_,sg',gk',ga',ik⟩:=h_
  refine g_ ?_
  clear g_
  obtain rfl:=e4_
  rw [List.take_of_length_le (by lia)] at ik
  try dsimp only
  exact wpAny_bind (listItems_at gk' rfl (key_end sg' na nk ne gk' ga' ik hl few fin))
theorem key_tree {f:Value} {g:Heap} {n m:Nat} {a:Addr} (sg:Stay s.heap g) (sz:s.heap.objs.size≤g.objs.size) (na:s.heap.get? a=none) (there:g.get? a=some (seqObj "list" vs.toArray m)) (hl:kz.length=vs.length) (few:vs.length < 64) (turn:KeyTurn prog w A s f vs kz) (fin:KeyEnd s a kz vs P) :
  wpAny (model prog w) A (ksk_tree a f false) P E { s with heap:=g,toks:=n }:=by
 have al:a < g.objs.size:=Heap.lt_size there
 obtain ⟨e1,gone⟩:∃ e1,(g.update a (Obj.mapSeq fun Z=>(#[]:Array Value))).get? a=some (seqObj "list" #[] e1):=⟨_,get?_update_seq there _⟩
 have z1:((g.update a (Obj.mapSeq fun Z=>(#[]:Array Value))).push (seqObj "tuple" vs.toArray 0)).objs.size=g.objs.size + 1:=by rw [size_push',Heap.size_update]
 unfold ksk_tree
 refine wpAny_bind (listItems_at there rfl (wpAny_bind (listUpdate_at there rfl (wpAny_bind (seqEpoch_at gone rfl (wpAny_bind (wpAny_newTuple (wpAny_bind (wpAny_newList (wpAny_holding ?_) (Nat.zero_le _))) (by show vs.length≤_; exact key_few few))))) (by rw [List.size_toArray]; exact key_few few) (Nat.zero_le _))))
 refine key_rest (s:=s) (((sg.upd na _).trans (Stay.push _ _)).trans (Stay.push _ _)) na ?_ ?_ (Heap.get?_push_size _ rfl) (Heap.get?_push_of_some _ (Heap.get?_push_of_some _ gone)) hl few turn fin
 ·exact Heap.get?_none_of_le (by rw [z1]; exact Nat.le_succ_of_le sz)
 ·rw [z1]
  exact Nat.ne_of_gt (Nat.lt_succ_of_lt al)
noncomputable def Gets (prog:Program) (w:World) (s:Shared) (l:Addr) (ns:List Int):Prop:=∀ (B:Around) (R:List Value→Shared→Prop) (E:Value→Shared→Prop),B.handled=none →
 (∀ vs g n,IntsAre vs ns→Stay s.heap g→s.heap.objs.size≤g.objs.size→R vs { s with heap:=g,toks:=n })→wpAny (model prog w) B (collect (.ref l)) R E s
theorem gets_list {l:Addr} {ns:List Int} (hl:s.heap.IsList l vs.toArray) (hi:IntsAre vs ns) (few:vs.length < 64):Gets prog w s l ns:=fun B R E Z q =>
 collect_list hl (q vs _ s.toks hi ((Stay.push _ _).upd (Heap.get?_none_of_le (Nat.le_refl _)) _) (by rw [Heap.size_update,size_push']; exact Nat.le_succ _)) (key_few few)
theorem ints_get {us:List Value} {ns:List Int} (h:IntsAre us ns):∀ (i:Nat) (v:Value),us[i]?=some v→∃ x t,ns[i]?=some x∧v=.int x t:=by
 induction h with
 | nil=>intro i v e; cases e
 | cons n t r ih =>
  intro i v e
  cases i with
  | zero=>cases e; exact ⟨n,t,rfl,rfl⟩
  | succ i=>exact ih i v e
theorem ints_pick {us:List Value} {ns:List Int} (hi:IntsAre us ns):∀ (is:List Nat),(∀ i∈is,i < us.length)→IntsAre (is.map fun i=>us.getD i Value.none) (is.map fun i=>ns.getD i 0)
 | [],_=>.nil
 | i :: is,h=>by
  obtain ⟨t,e⟩:=ints_getD hi i (h i List.mem_cons_self)
  rw [List.map_cons,List.map_cons,e]
  exact .cons _ t (ints_pick hi is fun j hj=>h j (List.mem_cons_of_mem _ hj))
noncomputable def srtK (kz ns:List Int):List Int:=(ordK kz).map fun i=>ns.getD i 0
theorem srtK_perm (S:Shared) {kz ns:List Int} (hl:kz.length=ns.length):(srtK kz ns).Perm ns:=by
 have:=(ordK_perm S kz).map fun i=>ns.getD i 0
 rw [hl,map_getD] at this
 exact this
theorem key_sorted {l q:Addr} {ns:List Int} {Q:Value→Shared→Prop} (hd:A.in1.handled=none) (gets:Gets prog w s l ns) (hl:kz.length=ns.length) (few:ns.length < 64)
  (turn:∀ (i:Nat) (x k:Int) (u:Tok),ns[i]?=some x→kz[i]?=some k→∀ (g:Heap) (n:Nat) (R:Value→Shared→Prop),Stay s.heap g→(∀ g' n' t,Stay g g'→R (.int k t) { s with heap:=g',toks:=n' })→wpAny (model prog w) A.in1.in1 (call (.ref q) [.int x u]) R (fun Z Z=>False) { s with heap:=g,toks:=n })
  (fin:∀ (D:Addr) (g:Heap) (n:Nat) (out:List Value) (c:Nat),s.heap.objs.size≤D→Stay s.heap g→g.get? D=some (seqObj "list" out.toArray c)→IntsAre out (srtK kz ns)→Q (.ref D) { s with heap:=g,toks:=n }) :
  wpAny (model prog w) A (call (.builtin "sorted") [.ref l] [(Str.ofString "key",.ref q)]) Q E s:=by
 refine call_function_entry_kw kind_sorted plain_sorted entry_sorted (ksk_s1 _ _) ?_
 unfold Builtin.«sorted»
 refine wpAny_bind (m:=checkCount "sorted" 1 1 _) (wpAny_pure (wpAny_bind (gets _ _ _ hd fun vs g n hi sg sz=>?_)))
 have vl:=hi.length
 have few':vs.length < 64:=by lia
 have hl':kz.length=vs.length:=by lia
 refine wpAny_bind (wpAny_newList ?_ (key_few few'))
 have na:s.heap.get? g.objs.size=none:=Heap.get?_none_of_le sz
 have new:(g.push (seqObj "list" vs.toArray 0)).get? g.objs.size=some (seqObj "list" vs.toArray 0):=Heap.get?_push_size _ rfl
 refine wpAny_bind (wpAny_holding (wpAny_call_entry_kw slot_list_sort ⟨_,new,rfl⟩ entry_list_sort ?_ (ksk_l1 _ _)))
 show wpAny (model prog w) A.in1.in1 (Builtin.«list.sort» ⟨[.ref g.objs.size],[(Str.ofString "key",.ref q)]⟩) _ _ _
 rw [ksk_t1]
 refine key_tree (s:=s) (kz:=kz) (sg.trans (Stay.push _ _)) (Nat.le_trans sz (by rw [size_push']; exact Nat.le_succ _)) na new hl' few' (fun i v k hv hk g1 n1 R st qq=>?_) fun g' n' c st' ho=>⟨_,rfl,wpAny_pure ⟨_,rfl,fin _ _ _ _ c sz st' ho (ints_pick hi _ fun i him=>?_)⟩⟩
 ·refine bC fun g_=>?_
  obtain ⟨x,t,e,e5_⟩:=ints_get hi i v hv
  refine g_ ?_
  clear g_
  obtain rfl:=e5_
  exact turn i x k t e hk g1 n1 R st qq
 ·have:=(ordK_perm s kz).mem_iff.mp him
  rw [List.mem_range,hl'] at this
  exact this
theorem items_ints {a c:Int} {n:Nat} {acc:Array Value} (h:ItemsOf (fun i v=>∃ t,v=Value.int (a + i * c) t) acc n):IntsAre acc.toList ((List.range n).map fun (i:Nat)=>a + i * c):=by
 obtain ⟨h1,h2⟩:=h
 have key:∀ (k:Nat) (xs:List Value) (d:Nat),xs.length=k→(∀ j v,xs[j]?=some v→∃ t,v=Value.int (a + ((d + j:Nat):Int) * c) t)→IntsAre xs ((List.range' d k).map fun (i:Nat)=>a + i * c):=by
  intro k
  induction k with
  | zero=>intro xs d e _; rw [List.eq_nil_of_length_eq_zero e]; exact .nil
  | succ k ih =>
   intro xs d e q
   match xs,e,q with
   | x :: xs,e,q =>
    obtain ⟨t,rfl⟩:=q 0 x rfl
    exact .cons _ t (ih xs (d + 1) (Nat.succ.inj e) fun j v hj=>by
     have:=q (j + 1) v hj
     rw [show d + (j + 1)=d + 1 + j by lia] at this
     exact this)
 have:=key n acc.toList 0 (by rw [Array.length_toList]; exact h1) (fun j v hj=>by
  rw [Nat.zero_add]
  exact h2 j v (by simpa using hj))
 rw [List.range_eq_range']
 exact this
theorem gets_range {r:Addr} {t u v:Tok} {n:Nat} (hr:IsRange s.heap r 0 n 1 t u v) (few:n < 64):Gets prog w s r ((List.range n).map fun (i:Nat)=>(i:Int)):=fun B R E hd q=>by
 have S:(s.heap.push (seqObj "list" #[] 0)).get? s.heap.objs.size=some (seqObj "list" #[] 0):=Heap.get?_push_size _ rfl
 have rs:Builtin.Range.rangeSize 0 n 1=n:=by rw [rangeSize_one]; split <;> lia
 unfold collect
 refine wpAny_bind (wpAny_runValue (codeAny_builtin entry_proto_collect' ?_))
 refine wpAny_bind (wpAny_newList (wpAny_pure ⟨Code.quiet_builtin _ (by decide +kernel),codeAny_builtin entry_list_iadd' ?_⟩))
 rw [Around.under_plainId PySem.F.plain_list_iadd _]
 have at_:IsRange (s.heap.push { cls:=.type "list",data:=.seq #[] }) r 0 n 1 t u v:=Heap.get?_push_of_some _ hr
 have run:=wpAny_extend_range (prog:=prog) (w:=w) (A:=B) (s:={ s with heap:=s.heap.push { cls:=.type "list",data:=.seq #[] } }) (R:=fun r s'=>∃ h' tk acc,r=.ok (.ret (.ref s.heap.objs.size))∧s'={ s with heap:=h',toks:=tk }∧Stay s.heap h'∧(∃ c,h'.get? s.heap.objs.size=some (seqObj "list" acc c))∧IntsAre acc.toList ((List.range n).map fun (i:Nat)=>(i:Int))) hd at_ (small_one (by lia) (by lia) (by lia) (by lia)) rs (by lia) s.heap.objs.size (.ref s.heap.objs.size) 0 (Heap.get?_push_size _ rfl) fun h' tk acc c k hS hacc=>by
  have ii:=items_ints hacc
  simp only [Int.zero_add,Int.mul_one] at ii
  exact ⟨h',tk,acc,rfl,rfl,fun b o e=>k b o (Nat.ne_of_lt (Heap.lt_size e)) (Heap.get?_push_of_some _ e),⟨c,hS⟩,ii⟩
 refine wpAny_mono run (fun x s' hx=>?_) fun e s' hx=>?_
 ·cases x with
  | done f =>
   refine bC fun g_=>?_
   obtain ⟨h',tk,acc,e,e7_,st,⟨c,hS⟩,ii⟩:=hx
   refine g_ ?_
   clear g_
   obtain rfl:=e7_
   cases e
   exact wpAny_bind (wpAny_load hS (wpAny_pure (q _ _ _ ii st (Nat.le_of_lt (Heap.lt_size hS)))))
  | again c' =>
   refine ⟨hx.1,codeAny_mono hx.2 fun r s' hr=>?_⟩
   refine bC fun g_=>?_
   obtain ⟨h',tk,acc,e,e8_,st,⟨c,hS⟩,ii⟩:=hr
   refine g_ ?_
   clear g_
   obtain rfl:=e8_
   subst e
   exact wpAny_bind (wpAny_load hS (wpAny_pure (q _ _ _ ii st (Nat.le_of_lt (Heap.lt_size hS)))))
 ·refine bC fun g_=>?_
  obtain ⟨h',tk,acc,e,_⟩:=hx
  refine g_ ?_
  clear g_
  cases e
end
noncomputable def upN (n:Nat):List Int:=(List.range n).map fun (i:Nat)=>(i:Int)
theorem upN_len (n:Nat):(upN n).length=n:=by unfold upN; rw [List.length_map,List.length_range]
theorem mem_upN {n:Nat} {x:Int}:x∈upN n↔0≤x∧x < n:=by
 unfold upN
 rw [List.mem_map]
 constructor
 ·rintro ⟨i,hi,rfl⟩
  have:=List.mem_range.mp hi
  lia
 ·rintro ⟨h1,h2⟩
  exact ⟨x.toNat,List.mem_range.mpr (by lia),by lia⟩
section
variable {X:Cx}
inductive rRange (xs:List V) (H:Hp) (Q:VK):Prop
 | mk (n:Int) (h0:xs=[.int n]) (h1:∀ r,H r=none→Q (.ref r) (upd H r (.rng 0 n))):rRange xs H Q
theorem call_range1:CallR X (.type "range") rRange:=by
 intro pins s σ H xs us Q I r h
 obtain ⟨n,rfl,q⟩:=h
 obtain ⟨u,rfl,ru⟩:=vals1 r
 obtain ⟨t,rfl⟩:=ru
 refine call_range_1 ⟨.ref s.heap.objs.size,_,I.laid (o:=.rng 0 n) (Stay.push _ _) (Nat.le_refl _) ⟨_,_,_,Heap.get?_push_size _ rfl⟩,rfl,q _ (I.hok.fresh (Nat.le_refl _))⟩
inductive rListR (xs:List V) (H:Hp) (Q:VK):Prop
 | mk (p:Addr) (n:Nat) (h0:xs=[.ref p]) (h1:H p=some (.rng 0 n)) (h2:n≤1000) (h3:∀ l,H l=none→Q (.ref l) (upd H l (.lst ((upN n).map V.int)))):rListR xs H Q
theorem call_listR (hc:X.calm=true):CallR X (.type "list") rListR:=by
 intro pins s σ H xs us Q I r h
 obtain ⟨p,n,rfl,hp,hn,q⟩:=h
 obtain ⟨u,rfl,ru⟩:=vals1 r
 cases ru
 refine bC fun g_=>?_
 obtain ⟨t,u,v,hr⟩:=I.hok p _ hp
 refine g_ ?_
 clear g_
 have rs:Builtin.Range.rangeSize 0 n 1=n:=by rw [rangeSize_one]; split <;> lia
 refine call_list_range (I.ok.hd hc) (show IsRange s.heap p 0 n 1 t u v from hr) (small_one (by lia) (by lia) (by lia) (by lia)) rs (by lia) fun h' tk acc c k hS hacc=>?_
 have ii:=items_ints hacc
 simp only [Int.zero_add,Int.mul_one] at ii
 refine ⟨.ref s.heap.objs.size,_,I.laid (t':=tk) k (Nat.le_refl _) (show ObjOk X.prog X.w _ h' _ (.lst ((upN n).map V.int)) from ⟨?_,acc.toList,c,vals_ints ii,?_⟩),rfl,q _ (I.hok.fresh (Nat.le_refl _))⟩
 ·rw [List.length_map,upN_len,sizeLine_eq]
  lia
 ·rw [Array.toArray_toList]
  exact hS
noncomputable def RngO (r:Addr) (a b c:Int):HO:=.ext fun h=>∃ t u v,IsRange h r a b c t u v
inductive rRange3 (xs:List V) (H:Hp) (Q:VK):Prop
 | mk (a b c:Int) (h0:xs=[.int a,.int b,.int c]) (h1:c≠0) (h2:c.natAbs < 1000000) (h3:∀ r,H r=none→Q (.ref r) (upd H r (RngO r a b c))):rRange3 xs H Q
theorem call_range3:CallR X (.type "range") rRange3:=by
 intro pins s σ H xs us Q I r h
 refine bC fun g_=>?_
 obtain ⟨a,b,c,e7_,hc,c1,q⟩:=h
 refine g_ ?_
 clear g_
 obtain rfl:=e7_
 cases r with
 | cons r0 r1 =>
  cases r1 with
  | cons r1 r2 =>
   cases r2 with
   | cons r2 r3 =>
    cases r3
    refine bC fun g_=>?_
    obtain ⟨t,e8_⟩:=r0
    obtain ⟨u,e9_⟩:=r1
    obtain ⟨v,e10_⟩:=r2
    refine g_ ?_
    clear g_
    obtain rfl:=e8_
    obtain rfl:=e9_
    obtain rfl:=e10_
    refine call_range_3 hc ⟨.ref s.heap.objs.size,_,I.laid (o:=RngO s.heap.objs.size a b c) (Stay.push _ _) (Nat.le_refl _) ⟨⟨t,u,v,Heap.get?_push_size _ rfl⟩,⟨_,Heap.get?_push_size _ rfl⟩,fun h1 h2 ⟨t,u,v,e⟩ k=>⟨t,u,v,k _ e⟩⟩,rfl,q _ (I.hok.fresh (Nat.le_refl _))⟩ (Or.inl (PyProof.noPylong_small (by lia)))
inductive rListD (xs:List V) (H:Hp) (Q:VK):Prop
 | mk (p:Addr) (a b c:Int) (h0:xs=[.ref p]) (h1:H p=some (RngO p a b c)) (h2:-1000000≤a∧a≤1000000∧-1000000≤b∧b≤1000000∧-1000000≤c∧c≤1000000)
   (h3:∀ (l:Addr) (ys:List Int),H l=none→ys.length≤(b - a).toNat + (a - b).toNat→Q (.ref l) (upd H l (.lst (ys.map V.int)))):rListD xs H Q
theorem small_any {a b c:Int} (bd:-1000000≤a∧a≤1000000∧-1000000≤b∧b≤1000000∧-1000000≤c∧c≤1000000):Builtin.Range.small a b c=true:=by
 have l1:=rangeSize_toNat_le a b c
 have l2:=rangeSize_toNat a b c
 refine bC fun g_=>?_
 obtain ⟨a1,a2,b1,b2,c1,c2⟩:=bd
 refine g_ ?_
 clear g_
 have fl:∀ i:Int,-4000000≤i→i≤4000000→Builtin.Range.rangeFitsLong i=true:=fun i h1 h2=>by
  unfold Builtin.Range.rangeFitsLong
  rw [decide_eq_true (show -(2 ^ 63)≤i by lia),decide_eq_true (show i < 2 ^ 63 by lia)]
  rfl
 unfold Builtin.Range.small
 rw [fl a (by lia) (by lia),fl b (by lia) (by lia),fl c (by lia) (by lia),fl (Builtin.Range.rangeSize a b c) (by lia) (by lia),fl (b + (c - 1)) (by lia) (by lia),fl (b + (c + 1)) (by lia) (by lia)]
 simp
theorem call_listD (hc:X.calm=true):CallR X (.type "list") rListD:=by
 intro pins s σ H xs us Q I r h
 obtain ⟨p,a,b,c,rfl,hp,bd,q⟩:=h
 obtain ⟨u,rfl,ru⟩:=vals1 r
 cases ru
 refine bC fun g_=>?_
 obtain ⟨⟨t,u,v,hr⟩,_⟩:=I.hok p _ hp
 refine g_ ?_
 clear g_
 have le:=rangeSize_toNat_le a b c
 refine call_list_range (I.ok.hd hc) hr (small_any bd) (rangeSize_toNat a b c) (by lia) fun h' tk acc c1 k hS hacc=>?_
 have ii:=items_ints hacc
 refine ⟨.ref s.heap.objs.size,_,I.laid (t':=tk) k (Nat.le_refl _) (show ObjOk X.prog X.w _ h' _ (.lst (((List.range (Builtin.Range.rangeSize a b c).toNat).map fun (i:Nat)=>a + i * c).map V.int)) from ⟨?_,acc.toList,c1,vals_ints ii,?_⟩),rfl,q _ _ (I.hok.fresh (Nat.le_refl _)) ?_⟩
 ·rw [List.length_map,List.length_map,List.length_range,sizeLine_eq]
  lia
 ·rw [Array.toArray_toList]
  exact hS
 ·rw [List.length_map,List.length_range]
  exact le
noncomputable def SrcI (H:Hp) (l:Addr) (ns:List Int):Prop:=H l=some (.lst (ns.map V.int))∨∃ n:Nat,H l=some (.rng 0 n)∧ns=upN n
inductive SortB (T:Addr) (lpos:Pos) (qual:Str) (g:Int→Int) (j:Nat) (σ:St) (Q:VK) (v:V) (H1:Hp):Prop
 | mk (l sh:Addr) (ns bs:List Int) (ts:List Addr) (h0:v=.ref l) (h1:SrcI H1 l ns) (h2:ns.length < 64) (h3:σ[j]?=some (some (.ref sh))) (h4:H1 sh=some (.lst (ts.map V.ref))) (h5:ts.length≤1000)
   (h6:∀ (i:Nat) (t:Addr),ts[i]?=some t→∃ z,H1 t=some (.tup [z,.int (bs.getD i 0)])) (h7:∀ x∈ns,0≤x∧x < ts.length) (h8:TabAt T lpos qual H1)
   (h9:∀ (D:Addr) (H':Hp),(∀ b o,b≠T→H1 b=some o→H' b=some o)→TabAt T lpos qual H'→H1 D=none→H' D=some (.lst ((srtK (ns.map fun x=>g (bs.getD x.toNat 0)) ns).map V.int))→Q (.ref D) H'):SortB T lpos qual g j σ Q v H1
noncomputable def tSortL (T:Addr) (lpos:Pos) (qual:Str) (g:Int→Int) (j:Nat) (te:TE):TE:=fun σ H Q=>te σ H (SortB T lpos qual g j σ Q)
end
section
variable {X:Cx} {c T:Addr} {e body:Expr} {params:Arguments} {scope:Scope} {p lpos kp pos:Pos} {te:TE} {g:Int→Int} {j:Nat}
theorem pe_sortL (ok:KeyOk X.prog X.w body g) (hj:X.N[j]?=some "shelf") (hg:Gl X "sorted") (hm:X.mg "sorted"=none) (he:PE X e te) (L:LamT X.K X.mg X.base c T) (hcode:X.env.code=.ref c) (hcalm:X.calm=true) (hr:Room 3 X.A) (hce:X.env.scope.names.lookup ("shelf":Str)=some .cell)
  (hcl:∀ ce,X.env.cells.lookup ("shelf":Str)=some ce→closureFor scope X.env=pure [(("shelf":Str),ce)]) (hdef:defaultsOf params X.env=([],[])) (hkd:scope.kind=.function) (hco:scope.isCoroutine=false) (hgn:scope.isGenerator=false) (hsh:scope.names.lookup ("shelf":Str)=some .free) (hon:scope.names.lookup ("one":Str)=some .local) (hnc:∀ x∈scope.names,x.2≠.cell)
  (hb:∀ s u ce pm (c':Addr) ctv,BindsTo s (PySem.W.kla_fn "<lambda>" (X.env.qual++"<lambda>") params body scope [("shelf",ce)] pm (.ref c') ctv) ⟨[u],[]⟩ [("one",u)])
  (hs:starEach [e] X.env=(false,eval e X.env) :: starEach [] X.env:=by rfl) (hpl:(backTo pos (starEach [e] X.env)).any (·.1)=false:=by rfl) (he2:backTo pos (starEach [e] X.env)=(false,eval e X.env) :: backTo pos (starEach [] X.env):=by rfl) :
  PE X (.Call (.Name "sorted" p) [e] [⟨some "key",.Lambda params body scope lpos,kp⟩] pos) (tSortL T lpos (X.env.qual++"<lambda>") g j te):=by
 intro pins s σ H Q I h
 refine wpAny_Call_Name_kw (ld_blt I hg hm (show bootBuiltins "sorted"=some (.builtin "sorted") by decide +kernel) ?_)
 refine callWith_kw (thn ((pa_cons he pa_nil hs) pos pins s σ H (fun xs H1=>match xs with | [v]=>SortB T lpos (X.env.qual++"<lambda>") g j σ Q v H1 | _=>False) I h) fun us s1 hm_=>?_) he2 hpl
 refine bC fun g_=>?_
 obtain ⟨vs,H1,I1,r1,q1⟩:=hm_
 refine g_ ?_
 clear g_
 cases vs with
 | nil=>exact (show False from q1).elim
 | cons v vs =>
 cases vs with
 | cons _ _=>exact (show False from q1).elim
 | nil =>
 cases r1 with
 | cons rv r0 =>
 cases r0
 refine bC fun g_=>?_
 obtain ⟨l,sh,ns,bs,ts,ev,src,few,hσ,hsl,tl,tups,ins,tab,hQ⟩:=q1
 refine g_ ?_
 clear g_
 subst ev
 cases rv
 refine bC fun g_=>?_
 obtain ⟨mm,nsm,lk⟩:=I1.loc
 obtain ⟨u,ru,look⟩:=lk j "shelf" (.ref sh) hj hσ (.inr (.inl hce))
 refine g_ ?_
 clear g_
 cases ru
 obtain ⟨ce,hcc,_⟩:∃ ce,X.env.cells.lookup ("shelf":Str)=some ce∧s1.heap.IsCell ce (some (.ref sh)):=by
  rcases look with ⟨k,_⟩ | ⟨_,z⟩
  ·have k':X.env.scope.names.lookup ("shelf":Str)=some .local:=k
   rw [hce] at k'
   cases k'
  ·exact z
 refine kws_cons (wpAny_mono (lam_eval (E:=X.xe) I1 L hcode (hcl ce hcc) hdef tab) (fun v s2 hv=>?_) fun Z Z z=>z)
 refine bC fun g_=>?_
 obtain ⟨q,c',ctv,H2,e13_,J2,eq,nq,ec,hq,hkeep,hfree,tab2⟩:=hv
 refine g_ ?_
 clear g_
 obtain rfl:=e13_
 refine kws_nil ?_
 refine bC fun g_=>?_
 obtain ⟨mm2,nsm2,lk2⟩:=J2.loc
 obtain ⟨u,ru,look2⟩:=lk2 j "shelf" (.ref sh) hj hσ (.inr (.inl hce))
 refine g_ ?_
 clear g_
 cases ru
 have cell2:s2.heap.IsCell ce (some (.ref sh)):=by
  rcases look2 with ⟨k,_⟩ | ⟨_,ce',z,y⟩
  ·have k':X.env.scope.names.lookup ("shelf":Str)=some .local:=k
   rw [hce] at k'
   cases k'
  ·rw [hcc] at z
   cases z
   exact y
 show wpAny (model X.prog X.w) X.A (call (.builtin "sorted") [.ref l] [(Str.ofString "key",.ref q)]) _ _ s2
 obtain ⟨pt,ept⟩:=tab.tbl
 have nT:∀ b o,H1 b=some o→o≠.tbl pt→b≠T:=fun b o e n z=>by rw [z,ept] at e; cases e; exact n rfl
 have hd:=I1.ok.hd hcalm
 have gets:Gets X.prog X.w s2 l ns:=by
  rcases src with e | ⟨n,e,rfl⟩
  ·obtain ⟨its,rv,P1,_⟩:=J2.list (SqL.of (hkeep _ _ (nT _ _ e (by intro z; cases z)) e))
   have ii:IntsAre its ns:=intsAre_of rv
   exact gets_list P1.isList ii (by have:=ii.length; lia)
  ·obtain ⟨t,u,v,hr⟩:=J2.hok l _ (hkeep _ _ (nT _ _ e (by intro z; cases z)) e)
   exact gets_range hr (by rw [upN_len] at few; exact few)
 have lst2:=isList_of J2 (hkeep _ _ (nT _ _ hsl (by intro z; cases z)) hsl)
 refine key_sorted (kz:=ns.map fun x=>g (bs.getD x.toNat 0)) hd gets (by rw [List.length_map]) few (fun i x k u hx hk g1 n1 R st qq=>?_) (fun D g1 n1 out c1 sz st ho io=>?_)
 ·rw [List.getElem?_map,hx] at hk
  cases hk
  obtain ⟨x0,x1⟩:=ins x (List.mem_of_getElem? hx)
  have xl:x.toNat < ts.length:=by lia
  obtain ⟨z,ht⟩:=tups x.toNat ts[x.toNat] (List.getElem?_eq_getElem xl)
  obtain ⟨its,vt,tup2,_⟩:=J2.tuple (SqT.of (hkeep _ _ (nT _ _ ht (by intro z; cases z)) ht))
  refine bC fun g_=>?_
  obtain ⟨a,b,e14_,_,⟨tb,e15_⟩⟩:=vt.two
  refine g_ ?_
  clear g_
  obtain rfl:=e14_
  obtain rfl:=e15_
  have hcr:s2.heap.CodeRec (.ref c') (X.env.qual++"<lambda>"):=(J2.hok c' _ ec).1
  refine bC fun g_=>?_
  obtain ⟨cc,oc,cvs,tq,e1,gg,dd,vv⟩:=hcr
  obtain ⟨ol,el,rl⟩:=lst2
  refine g_ ?_
  clear g_
  refine wpAny_call (key_call (s:={ s2 with heap:=g1,toks:=n1 }) (t:=ts[x.toNat]) (sh:=sh) (its:=(ts.map Value.ref).toArray) ok (st _ _ eq) ⟨cc,oc,cvs,tq,e1,st _ _ gg,dd,vv⟩ (show X.A.depth < _ by have:=hr.dp; lia) hkd hco hgn hsh hon hnc (hb _ _ _ _ _ _) (J2.nolimit.keeps st) (cell2.keeps st) ⟨ol,st _ _ el,rl⟩ x0 (by lia) ?_ (tup2.keeps st) fun h' tk tk' kp=>?_)
  ·simp [xl]
  ·exact qq h' tk' tk kp
 ·refine ⟨.ref D,_,J2.laid (t':=n1) (o:=.lst ((srtK (ns.map fun x=>g (bs.getD x.toNat 0)) ns).map V.int)) st sz (show ObjOk X.prog X.w _ g1 _ (.lst _) from ⟨?_,out,c1,vals_ints io,ho⟩),rfl,hQ D _ (fun b o hb e=>?_) (tab2.same fun b o e=>?_) ?_ upd_same⟩
  ·rw [List.length_map,(srtK_perm s (by rw [List.length_map])).length_eq,sizeLine_eq]
   lia
  ·have e2:=hkeep b o hb e
   rw [upd_ne (ne_of_none e2 (J2.hok.fresh sz))]
   exact e2
  ·rw [upd_ne (ne_of_none e (J2.hok.fresh sz))]
   exact e
  ·exact hfree D (J2.hok.fresh sz)
end
section
variable {prog:Program} {w:World} {κ:Type} [DecidableEq κ] {kd:HeapKind prog w κ} {A:Around} {E:Value→Shared→Prop} {s:Shared}
theorem setdef_heap {dc a:Addr} {xs:List (κ×Addr×Value)} {k:κ} {v:Value} {Q:Value→Shared→Prop} (ro:kd.room A) (ky:kd.is s.heap k a) (hm:s.heap.DictOfH kd dc xs) (sz:xs.length≤sizeLine)
  (q1:∀ p,atKey xs k=some p→Q p.2 { s with toks:=s.toks + kd.draws k })
  (q2:atKey xs k=none→∀ g,g.DictOfH kd dc (storedH xs k a v)→Heap.SameBut dc s.heap g→Q v { s with heap:=g,toks:=s.toks + kd.draws k }) :
  wpAny (model prog w) A (dictSetDefault dc (.ref a) v) Q E s:=by
 refine bC fun g_=>?_
 obtain ⟨o,es,ep,e1,e2,e3,e4,e5,e6⟩:=hm
 refine g_ ?_
 clear g_
 unfold dictSetDefault
 try with_reducible refine wpAny_holding ?_
 refine wpAny_bind (kd.pyHash ro ky (wpAny_bind (wpAny_dictFind_heap (s:={ s with toks:=s.toks + kd.draws k }) ro ky e1 e3 e4 e5 e6 (fun no=>?_) fun j p at_=>?_)))
 ·have nk:k ∉ xs.map (·.1):=not_mem_keys_of_get no
  have an:=atKey_none_of_get no
  refine wpAny_bind (wpAny_rule (wpAny_bind (wpAny_updateDictKeys (hz:=by have e:=size_of_entries e4; lia) (s:={ s with toks:=s.toks + kd.draws k }) e1 e3 (wpAny_pure (q2 an _ ⟨_,_,ep + 1,Heap.get?_update_self _ e1 (Obj.isFreed_of_dict (Obj.data_mapDictKeys e3 _)),e2.mapDictKeys _,Obj.data_mapDictKeys e3 _,?_,?_,?_⟩ (Heap.SameBut.update ..))))))
  ·rw [storedH_new an]
   simp [e4,entryOfKey]
  ·rw [storedH_new an]
   intro x hx
   rcases List.mem_append.mp hx with hx | hx
   ·exact kd.keeps (e5 x hx) e1 e3 (Heap.SameBut.update ..)
   ·rw [List.mem_singleton.mp hx]
    exact kd.keeps ky e1 e3 (Heap.SameBut.update ..)
  ·rw [storedH_new an,List.map_append,List.nodup_append]
   refine ⟨e6,by simp,fun x hx y hy z=>nk ?_⟩
   rw [show y=k by simpa using hy] at z
   rw [← z]
   exact hx
 ·have ak:=atKey_of_get e6 at_
  refine wpAny_bind (wpAny_dictEntries (s:={ s with toks:=s.toks + kd.draws k }) e1 e3 ?_)
  rw [entry_at e4 j,at_]
  exact wpAny_bind (wpAny_rule (wpAny_pure (q1 p ak)))
theorem setdef_meets {dc a:Addr} (hd:(dc == sysModules)=false) (v:Value) :
  MeetsIn prog w (Builtin.«dict.setdefault» ⟨[.ref dc,.ref a,v],[]⟩) (fun A R s=>kd.room A.in1∧∃ k xs,kd.is s.heap k a∧s.heap.DictOfH kd dc xs∧xs.length≤sizeLine ∧
   (∀ p,atKey xs k=some p→R (.ok (.ret p.2)) { s with toks:=s.toks + kd.draws k }) ∧
   (atKey xs k=none→∀ g,g.DictOfH kd dc (storedH xs k a v)→Heap.SameBut dc s.heap g→R (.ok (.ret v)) { s with heap:=g,toks:=s.toks + kd.draws k })) :=
 .of_wp fun A R s hm_=>by
  refine bC fun g_=>?_
  obtain ⟨ro,k,xs,ky,hm,sz,q1,q2⟩:=hm_
  refine g_ ?_
  clear g_
  have ty:s.TypeIs (.ref dc) "dict":=by
   refine bC fun g_=>?_
   obtain ⟨o,es,ep,e1,e2,_⟩:=hm
   refine g_ ?_
   clear g_
   exact ⟨o,e1,e2.1⟩
  unfold Builtin.«dict.setdefault»
  refine wpAny_bind ?_
  unfold Builtin.Dict.keyAndDefault
  refine wpAny_bind (wpAny_notOrdered_dict ty (wpAny_pure ?_))
  dsimp only
  rw [if_neg (by rw [hd]; exact Bool.false_ne_true)]
  exact wpAny_bind (setdef_heap ro ky hm sz (fun p hp=>wpAny_pure ⟨p.2,rfl,q1 p hp⟩) fun hn g hg sb=>wpAny_pure ⟨v,rfl,q2 hn g hg sb⟩)
end
inductive rSetdefT (x:V) (vs:List V) (H:Hp) (Q:VK):Prop
 | old (d b:Addr) (kvs:List (List Key×V)) (k:List Key) (y v:V) (h0:x=.ref d) (h1:vs=[.ref b,y]) (h2:H d=some (.dT kvs)) (hb:H b=some (.tup (k.map kV))) (h3:valV kvs k=some v) (h4:Q v H):rSetdefT x vs H Q
 | new (d b:Addr) (kvs:List (List Key×V)) (k:List Key) (y:V) (h0:x=.ref d) (h1:vs=[.ref b,y]) (h2:H d=some (.dT kvs)) (hb:H b=some (.tup (k.map kV))) (h3:valV kvs k=none) (h4:kvs.length < sizeLine) (h5:Q y (upd H d (.dT (putK kvs k y)))):rSetdefT x vs H Q
theorem mt_setdefT {X:Cx} (hu:X.A.units + 1 < cLine):MtM X "dict.setdefault" rSetdefT:=by
 intro pins s σ H x vs v us Q I rx rv h
 have core:∀ (d b:Addr) (kvs:List (List Key×V)) (k:List Key) (y:V) (u:Value),H d=some (.dT kvs)→H b=some (.tup (k.map kV))→RelV y u→(∀ v,valV kvs k=some v→Q v H)→(valV kvs k=none→kvs.length < sizeLine∧Q y (upd H d (.dT (putK kvs k y)))) →
   wpAny (model X.prog X.w) X.A (call (.builtin "dict.setdefault") [.ref d,.ref b,u]) (EP X pins σ Q) X.xe s:=by
  intro d b kvs k y u hH hb ru q1 q2
  refine bC fun g_=>?_
  obtain ⟨z,hd,xs,rel,dd⟩:=dt_of I.hok hH
  refine g_ ?_
  clear g_
  have hz:xs.length≤sizeLine:=by rw [← Paired.length rel]; exact z
  have rk:=rel.val k
  have ty:=(isD_at I (.inr ⟨kvs,.inl hH⟩)).1
  refine call_meetsIn PySem.F.slot_dict_setdefault ty PySem.F.entry_dict_setdefault (PySem.F.args_dict_setdefault_3 _ _ _) (setdef_meets (kd:=tupleKind (mixKind X.prog X.w)) hd u) ⟨tupleKind_room_in1 hu,k,xs,key_of I.hok hb,dd,hz,fun p hp=>?_,fun hn g hg sb=>?_⟩
  ·rw [hp] at rk
   cases hv:valV kvs k with
   | none=>rw [hv] at rk; exact rk.elim
   | some v =>
    rw [hv] at rk
    exact ⟨v,H,I.tok _,rk,q1 v hv⟩
  ·rw [hn] at rk
   cases hv:valV kvs k with
   | some v=>rw [hv] at rk; exact rk.elim
   | none =>
    refine bC fun g_=>?_
    obtain ⟨hl,q⟩:=q2 hv
    obtain ⟨q',es,ep,hq,h2,h3,h4,_,h5⟩:=hg
    refine g_ ?_
    clear g_
    have hl':(putK kvs k y).length≤sizeLine:=by have:=length_putK kvs k y; lia
    refine ⟨y,_,d_write (ob:=.dT (putK kvs k y)) I (by rw [hH]; exact True.intro) sb ⟨q',hq⟩ ⟨hl',hd,_,(rel.put k hb ru).keeps fun c ys ec=>?_,q',es,ep,hq,h2,h3,h4,h5⟩,ru,q⟩
    rw [upd_ne (ne_of ec hH (fun z=>nomatch z))]
    exact ec
 cases h with
 | old d b kvs k y v' e0 e1 hH hb hv q =>
  subst e0 e1
  cases rx
  refine bC fun g_=>?_
  obtain ⟨u0,u,e1_,r0,ru⟩:=rv.two
  refine g_ ?_
  clear g_
  obtain rfl:=e1_
  cases r0
  exact core d b kvs k y u hH hb ru (fun v h=>by rw [hv] at h; cases h; exact q) fun h=>by rw [hv] at h; cases h
 | new d b kvs k y e0 e1 hH hb hv hl q =>
  subst e0 e1
  cases rx
  refine bC fun g_=>?_
  obtain ⟨u0,u,e2_,r0,ru⟩:=rv.two
  refine g_ ?_
  clear g_
  obtain rfl:=e2_
  cases r0
  exact core d b kvs k y u hH hb ru (fun v h=>by rw [hv] at h; cases h) fun Z=>⟨hl,q⟩
section
variable {prog:Program} {w:World} {A:Around} {E:Value→Shared→Prop} {sh:Shared} {ic dc:Addr} {i ep:Nat} {od:Obj} {es:Array DictEntry} {k0 v0:Value}
theorem nx_item {Q:Option Value→Shared→Prop} (hi:IsItemIter sh.heap ic dc i es.size ep k0 v0) (hd:sh.heap.get? dc=some od) (he:od.data=.dict es ep) (hl:i < es.size)
  (q:∀ g,IsItemIterOut g ic dc (i + 1) es.size ep es[i].key es[i].val sh.heap.objs.size→g.get? sh.heap.objs.size=some (seqObj "tuple" #[es[i].key,es[i].val] 0)→(∀ b o,b≠ic→sh.heap.get? b=some o→g.get? b=some o)→Q (some (.ref sh.heap.objs.size)) { sh with heap:=g }) :
  wpAny (model prog w) A (pyNext (.ref ic)) Q E sh:=by
 have ty:sh.TypeIs (.ref ic) "dict_itemiterator":=⟨_,hi,rfl⟩
 have icl:ic < sh.heap.objs.size:=Heap.lt_size hi
 unfold pyNext
 refine wpAny_bind (wpAny_attempt (wpAny_callSpecial?_slot (name:=Str.ofString "__next__") ty F.slot_dict_itemiterator_next (wpAny_call_entry F.slot_dict_itemiterator_next ty F.entry_dict_itemiterator_next ?_ (F.args_dict_itemiterator_next_1 _))))
 refine wpAny_bind (wpAny_pure (wpAny_bind (wpAny_bind ?_)))
 first | refine wpAny_bind (wpAny_typeNameOfWhole_itemiter ty (wpAny_pure (wpAny_bind (wpAny_fieldsOf hi rfl ?_)))) | refine wpAny_bind (wpAny_typeNameOf_itemiter ty (wpAny_pure (wpAny_bind (wpAny_fieldsOf hi rfl ?_))))
 simp only [show Builtin.Dict_items.ownsTuple "dict_itemiterator"=true by decide,if_true]
 show wpAny _ _ (if (Value.ref dc == Value.none)=true then _ else _) _ _ sh
 rw [if_neg (show ¬ ((Value.ref dc == Value.none)=true) from Bool.false_ne_true)]
 refine wpAny_bind (wpAny_pure (wpAny_bind (wpAny_dictEntries hd he ?_)))
 rw [if_neg (by simp)]
 refine wpAny_bind (wpAny_pure (wpAny_bind (wpAny_dictEpoch hd he ?_)))
 rw [if_neg (by simp)]
 refine wpAny_pure ?_
 simp only [show ¬ ((i:Int) < 0) from by lia,if_false,Int.toNat_natCast,Array.getElem?_eq_getElem hl]
 refine wpAny_bind ?_
 first | refine wpAny_bind (wpAny_typeNameOfWhole_itemiter ty (wpAny_pure (wpAny_bind (wpAny_isOneOf_itemiter ty ?_)))) | refine wpAny_bind (wpAny_typeNameOf_itemiter ty (wpAny_pure (wpAny_bind (wpAny_isOneOf_itemiter ty ?_))))
 show wpAny _ _ (setField (.ref ic) 3 (rawInt ((i:Int) + 1)) >>= _) _ _ sh
 refine wpAny_bind (wpAny_setField_rec hi (by simp) fun g1 f1 b1=>?_)
 replace f1:IsItemIter g1 ic dc (i + 1) es.size ep k0 v0:=by
  have e:((i + 1:Nat):Int)=(i:Int) + 1:=by lia
  unfold IsItemIter
  rw [e]
  simpa [rawInt] using f1
 have ty1:Shared.TypeIs { sh with heap:=g1 } (.ref ic) "dict_itemiterator":=⟨_,f1,rfl⟩
 refine wpAny_bind (wpAny_holding (wpAny_bind (wpAny_isOneOf_itemiter ty1 (wpAny_bind (wpAny_isOneOf_itemiter ty1 ?_)))))
 show wpAny _ _ (Builtin.Dict_items.pairFromOwner (.ref ic) 6 es[i].key es[i].val) _ _ { sh with heap:=g1 }
 unfold Builtin.Dict_items.pairFromOwner
 refine wpAny_bind (wpAny_newTuple ?_)
 have f2:IsItemIter (g1.push (seqObj "tuple" #[es[i].key,es[i].val] 0)) ic dc (i + 1) es.size ep k0 v0:=Heap.get?_push_of_some _ f1
 have t2:(g1.push (seqObj "tuple" #[es[i].key,es[i].val] 0)).get? sh.heap.objs.size=some (seqObj "tuple" #[es[i].key,es[i].val] 0):=by
  rw [← b1.1]
  exact Heap.get?_push_size _ rfl
 have st2:∀ b o,b≠ic→sh.heap.get? b=some o→(g1.push (seqObj "tuple" #[es[i].key,es[i].val] 0)).get? b=some o:=fun b o hb e=>Heap.get?_push_of_some _ ((b1.2 b hb).trans e)
 have e1:g1.objs.size=sh.heap.objs.size:=b1.1
 show wpAny _ _ (Builtin.Dict_items.ownedTupleIsFree (.ref ic) >>= _) _ _ { sh with heap:=g1.push (seqObj "tuple" #[es[i].key,es[i].val] 0) }
 rw [e1]
 generalize g1.push (seqObj "tuple" #[es[i].key,es[i].val] 0)=g2 at f2 t2 st2
 refine wpAny_bind ?_
 unfold Builtin.Dict_items.ownedTupleIsFree
 refine wpAny_bind (wpAny_field f2 rfl (x:=.none) rfl (wpAny_pure ?_))
 simp only [if_true]
 refine wpAny_bind (wpAny_field f2 rfl (x:=k0) rfl (wpAny_bind (wpAny_field f2 rfl (x:=v0) rfl ?_)))
 refine wpAny_bind (wpAny_setField_rec f2 (by simp) fun g3 f3 b3=>?_)
 replace f3:IsItemIter g3 ic dc (i + 1) es.size ep es[i].key v0:=f3
 refine wpAny_bind (wpAny_setField_rec f3 (by simp) fun g4 f4 b4=>?_)
 replace f4:IsItemIter g4 ic dc (i + 1) es.size ep es[i].key es[i].val:=f4
 refine wpAny_bind (wpAny_setField_rec f4 (by simp) fun g5 f5 b5=>?_)
 replace f5:IsItemIterOut g5 ic dc (i + 1) es.size ep es[i].key es[i].val sh.heap.objs.size:=f5
 refine wpAny_bind (wpAny_setField_rec f5 (by simp) fun g6 f6 b6=>?_)
 replace f6:IsItemIterOut g6 ic dc (i + 1) es.size ep es[i].key es[i].val sh.heap.objs.size:=f6
 have go:∀ b o,b≠ic→g2.get? b=some o→g6.get? b=some o:=fun b o hb e=>(b6.2 b hb).trans ((b5.2 b hb).trans ((b4.2 b hb).trans ((b3.2 b hb).trans e)))
 exact wpAny_bind (wpAny_letGo (wpAny_pure (wpAny_pure ⟨_,rfl,wpAny_pure (q g6 f6 (go _ _ (Nat.ne_of_gt icl) t2) fun b o hb e=>go b o hb (st2 b o hb e))⟩)))
theorem nx_items_end {Q:Option Value→Shared→Prop} (hh:A.handled=none) (hi:IsItemIter sh.heap ic dc i es.size ep k0 v0) (hd:sh.heap.get? dc=some od) (he:od.data=.dict es ep) (hl:es.size≤i)
  (q:∀ g,Heap.ExtBut ic sh.heap g→Q none { sh with heap:=g }):wpAny (model prog w) A (pyNext (.ref ic)) Q E sh:=by
 have ty:sh.TypeIs (.ref ic) "dict_itemiterator":=⟨_,hi,rfl⟩
 unfold pyNext
 refine wpAny_bind (wpAny_attempt (wpAny_callSpecial?_slot (name:=Str.ofString "__next__") ty F.slot_dict_itemiterator_next (wpAny_call_entry F.slot_dict_itemiterator_next ty F.entry_dict_itemiterator_next ?_ (F.args_dict_itemiterator_next_1 _))))
 refine wpAny_bind (wpAny_pure (wpAny_bind (wpAny_bind ?_)))
 first | refine wpAny_bind (wpAny_typeNameOfWhole_itemiter ty (wpAny_pure (wpAny_bind (wpAny_fieldsOf hi rfl ?_)))) | refine wpAny_bind (wpAny_typeNameOf_itemiter ty (wpAny_pure (wpAny_bind (wpAny_fieldsOf hi rfl ?_))))
 simp only [show Builtin.Dict_items.ownsTuple "dict_itemiterator"=true by decide,if_true]
 show wpAny _ _ (if (Value.ref dc == Value.none)=true then _ else _) _ _ sh
 rw [if_neg (show ¬ ((Value.ref dc == Value.none)=true) from Bool.false_ne_true)]
 refine wpAny_bind (wpAny_pure (wpAny_bind (wpAny_dictEntries hd he ?_)))
 rw [if_neg (by simp)]
 refine wpAny_bind (wpAny_pure (wpAny_bind (wpAny_dictEpoch hd he ?_)))
 rw [if_neg (by simp)]
 refine wpAny_pure ?_
 simp only [show ¬ ((i:Int) < 0) from by lia,if_false,Int.toNat_natCast,Array.getElem?_eq_none hl]
 refine wpAny_bind ?_
 first | refine wpAny_bind (wpAny_typeNameOfWhole_itemiter ty (wpAny_pure ?_)) | refine wpAny_bind (wpAny_typeNameOf_itemiter ty (wpAny_pure ?_))
 show wpAny _ _ (setField (.ref ic) 2 .none >>= _) _ _ sh
 refine wpAny_bind (wpAny_setField hi rfl (by simp) ?_)
 show wpAny _ _ (newExc (.type "StopIteration") [] >>= _) _ _ _; refine wpAny_bind ?_
 simp only [newExc,newTuple]; refine wpAny_bind (wpAny_newObj_type ?_ (by size_fits))
 refine wpAny_bind (m:=firstArgMember _ _) (wpAny_of_eq (a:=Value.none) (by first | rfl | (simp only [firstArgMember]; rfl)) (wpAny_newObj_type ?_ (by size_fits)))
 simp only [raiseNew]; refine wpAny_bind (wpAny_handled ?_); rw [show A.in1.handled=none from hh]
 refine wpAny_bind (wpAny_pure (wpAny_throw ?_)); refine wpAny_bind (wpAny_isInstance (T:="StopIteration") (b:=true) ⟨_,Heap.get?_push_size _ rfl,rfl⟩ isSubtype_stop ?_)
 exact wpAny_pure (q _ (((Heap.SameBut.update ..).extBut.push _).push _))
theorem it_items {v:Addr} {Q:Value→Shared→Prop} (hv:sh.heap.IsItemsView v dc) (hd:sh.heap.get? dc=some od) (he:od.data=.dict es ep)
  (q:Q (.ref sh.heap.objs.size) { sh with heap:=sh.heap.push { cls:=.type "dict_itemiterator",data:=.fields #[.none,.bool false,.ref dc,.int 0 0,.int es.size 0,.int ep 0,.none,.none] } }):wpAny (model prog w) A (pyIter (.ref v)) Q E sh:=by
 refine bC fun g_=>?_
 obtain ⟨ov,e1,e2,e3⟩:=id hv
 refine g_ ?_
 clear g_
 refine wpAny_pyIter_slot hv.typeIs F.slot_dict_items_iter (wpAny_call_entry F.slot_dict_items_iter hv.typeIs F.entry_dict_items_iter ?_ (F.args_dict_items_iter_1 _))
 unfold Builtin.«dict_items.__iter__»; refine wpAny_bind (wpAny_pure (wpAny_bind ?_)); unfold Builtin.Dict_items.dictOf
 refine wpAny_bind (wpAny_field e1 e3 (x:=.ref dc) rfl (wpAny_pure (wpAny_bind ?_)))
 unfold Builtin.Dict_items.newIterator
 refine wpAny_bind (wpAny_dictEntries hd he (wpAny_bind (wpAny_dictEpoch hd he ?_)))
 simp only [show Builtin.Dict_items.ownsTuple "dict_itemiterator"=true by decide,if_true]
 refine wpAny_newObj_type (wpAny_pure ⟨_,rfl,"dict_itemiterator",_,⟨_,Heap.get?_push_size _ rfl,rfl⟩,F.slot_dict_itemiterator_next.lookup,?_⟩) (by simp only [sizeOk,Builtin.Dict_items.ownedTupleFields,List.size_toArray,List.length_append,List.length_cons,List.length_nil,sizeLine_eq]; lia)
 simpa [rawInt,Builtin.Dict_items.ownedTupleFields] using q
theorem walk_items (hh:A.handled=none) (ne:dc≠ic) (he:od.data=.dict es ep) :
  WalksT prog w A ic [ic,dc] [ic] es.size (fun i vals=>∃ e,es[i]?=some e∧vals=#[e.key,e.val]) (fun i h=>(∃ k v,IsItemIter h ic dc i es.size ep k v)∧h.get? dc=some od) (fun i T h=>(∃ k v,IsItemIterOut h ic dc (i + 1) es.size ep k v T)∧h.get? dc=some od∧T≠ic) where
 sub:=by simp
 frame:=fun i h h' ⟨⟨k,v,a⟩,b⟩ kp=>⟨⟨k,v,kp ic (by simp) _ a⟩,kp dc (by simp) _ b⟩
 item:=fun i s Q E hi ⟨⟨k,v,a⟩,b⟩ q=>nx_item a b he hi fun g f t st=>q _ _ _ s.toks ⟨es[i],Array.getElem?_eq_getElem hi,rfl⟩ (Nat.le_refl _) ⟨_,t,rfl,0,rfl⟩ ⟨⟨_,_,f⟩,st dc _ ne b,Nat.ne_of_gt (Heap.lt_size a)⟩ fun x o hx e=>st x o (by simpa using hx) e
 go:=fun elts k pos i T s Q E ⟨⟨k',v',a⟩,b,_⟩ q=>wpAny_letOwnedTupleGo_items a fun h' a' sb=>q h' ⟨⟨k',v',a'⟩,(sb.2 dc ne).trans b⟩ fun x o hx e=>(sb.2 x (by simpa using hx)).trans e
 apart:=fun i T h m=>by simpa using m.2.2
 done:=fun s Q E ⟨⟨k,v,a⟩,b⟩ q=>nx_items_end hh a b he (Nat.le_refl _) fun g eb=>q g s.toks fun x o hx e=>eb x o (by simpa using hx) e
 self:=fun i s Q E ⟨⟨k,v,a⟩,_⟩ q=>PySem.W.kcp_self a q
theorem items_meets (hd:(dc == sysModules)=false) :
  MeetsIn prog w (Builtin.«dict.items» ⟨[.ref dc],[]⟩) (fun Z R s=>s.TypeIs (.ref dc) "dict"∧R (.ok (.ret (.ref s.heap.objs.size))) { s with heap:=s.heap.push { cls:=.type "dict_items",data:=.fields #[.ref dc] } }) :=
 .of_wp fun A R s ⟨ty,h⟩=>by
  unfold Builtin.«dict.items»
  refine wpAny_bind ?_
  unfold Builtin.Dict.noArgs
  refine wpAny_bind (wpAny_notOrdered_dict ty (wpAny_pure ?_))
  show wpAny _ _ (Builtin.Dict.showsAll dc >>= _) _ _ s
  unfold Builtin.Dict.showsAll
  rw [if_neg (by rw [hd]; exact Bool.false_ne_true)]
  exact wpAny_bind (wpAny_pure (wpAny_bind (wpAny_newObj_type (wpAny_pure ⟨_,rfl,h⟩))))
end
noncomputable def Itit (o:Obj) (a:Addr):It :=
 ⟨fun i H=>∃ kvs p,H a=some (.frz o (.dT kvs))∧kvs[i]?=some p,fun i H x H'=>∃ T t,x=.ref T∧H T=none∧∀ kvs p,H a=some (.frz o (.dT kvs))→kvs[i]?=some p→H t=some (.tup (p.1.map kV))∧H'=upd H T (.tup [.ref t,p.2]),fun i H=>∃ kvs,H a=some (.frz o (.dT kvs))∧kvs.length=i⟩
theorem KT.both {H:Hp} {kvs:List (List Key×V)} {xs:List (List Key×Addr×Value)} (r:KT H kvs xs):xs.length=kvs.length∧∀ (i:Nat) (p:List Key×V),kvs[i]?=some p→∃ q,xs[i]?=some q∧H q.2.1=some (.tup (p.1.map kV))∧RelV p.2 q.2.2:=by
 induction r with
 | nil=>exact ⟨rfl,fun i p e=>by cases e⟩
 | @cons p q ps qs hq t ih =>
  refine ⟨by rw [List.length_cons,List.length_cons,ih.1],fun i p' e=>?_⟩
  cases i with
  | zero =>
   cases e
   exact ⟨q,rfl,hq.2⟩
  | succ i=>exact ih.2 i p' e
theorem turn_itemsT {P:Program} {w:World} {K:PySem.W.Frag} {elts:List Expr} {kk:Nat} {pos:Pos} {o:Obj} {es:Array DictEntry} {ep:Nat} (a it:Addr) (ne:a≠it) (hd:o.data=.dict es ep) :
  Turn P w K (.Tuple elts kk pos) (Itit o a) [it] it (fun i h=>∃ k v,IsItemIter h it a i es.size ep k v) where
 mem:=by simp
 obj:=fun i h ⟨k,v,st⟩ b hb=>by
  obtain rfl:b=it:=by simpa using hb
  exact ⟨_,st,fun v z=>by
   have z':Data.fields _=Data.cell v:=z
   cases z'⟩
 keep:=fun i h h' ⟨k,v,st⟩ kp=>⟨k,v,kp it (by simp) _ st⟩
 item:=by
  intro X hP hw hK hc i pins s σ H E I hf st hg
  subst hP hw hK
  refine bC fun g_=>?_
  obtain ⟨kvs,p,hq,hx⟩:=hg
  obtain ⟨ho,_,_,xs,r,od,es',ep',h1,h2,h3,h4,h5⟩:=(show ObjOk X.prog X.w H s.heap a (.frz o (.dT kvs)) from I.hok a _ hq)
  refine g_ ?_
  clear g_
  rw [ho] at h1
  cases h1
  rw [hd] at h3
  cases h3
  refine bC fun g_=>?_
  obtain ⟨rl,rg⟩:=KT.both r
  obtain ⟨q,hq1,hq2,hq3⟩:=rg i p hx
  refine g_ ?_
  clear g_
  have hsz:es.size=kvs.length:=by rw [← Array.length_toList,h4,List.length_map,rl]
  have hil:i < es.size:=by rw [hsz]; exact (List.getElem?_eq_some_iff.mp hx).1
  refine turn_pair (Yl:=fun x H'=>(Itit o a).yld i H x H') (Tn:=fun h=>∃ k v,IsItemIter h it a (i + 1) es.size ep k v) (walk_items (I.ok.hd hc) ne hd) I hf (fun b hb=>?_) (fun b hb=>hb) hil ⟨st,ho⟩ (fun h z=>z.1) fun vals hp=>?_
  ·obtain rfl:b=it:=by simpa using hb
   refine bC fun g_=>?_
   obtain ⟨_,_,z⟩:=st
   refine g_ ?_
   clear g_
   exact ⟨_,z⟩
  ·obtain ⟨e,he,rfl⟩:=hp
   have e1:es.toList[i]?=some e:=by simpa using he
   rw [h4,List.getElem?_map,hq1] at e1
   have e2:=(Option.some.inj e1).symm
   subst e2
   refine ⟨[.ref q.2.1,p.2],vals_two rfl hq3,by show 2≤sizeLine; decide,fun T hT=>⟨T,q.2.1,rfl,hT,fun kvs' p' hq' hx'=>?_⟩⟩
   rw [hq] at hq'
   cases hq'
   rw [hx] at hx'
   cases hx'
   exact ⟨hq2,rfl⟩
 done:=by
  intro X hP hw hK hc i pins s σ H E I hf st hg
  subst hP hw hK
  refine bC fun g_=>?_
  obtain ⟨kvs,hq,hx⟩:=hg
  obtain ⟨ho,_,_,xs,r,od,es',ep',h1,h2,h3,h4,h5⟩:=(show ObjOk X.prog X.w H s.heap a (.frz o (.dT kvs)) from I.hok a _ hq)
  refine g_ ?_
  clear g_
  rw [ho] at h1
  cases h1
  rw [hd] at h3
  cases h3
  have hsz:es.size=i:=by rw [← Array.length_toList,h4,List.length_map,(KT.both r).1,hx]
  have:=turn_pair_end (E:=E) (walk_items (prog:=X.prog) (w:=X.w) (I.ok.hd hc) ne hd) I hf (by rw [hsz]; rw [← hx] at st ⊢; exact ⟨by rw [hx,← hsz] at st ⊢; exact st,ho⟩)
  exact this
 self:=fun _ _ _ _ _ ⟨_,_,st⟩ h=>PySem.W.kcp_self st h
section
variable {X:Cx} {elts:List Expr} {kk:Nat} {pt:Pos}
noncomputable def iItemsT (tl:TE):TI:=fun σ H R=>tl σ H fun x H1=>∃ a o kvs,x=.ref a∧H1 a=some (.frz o (.dT kvs))∧R (Itit o a) H1
theorem pi_itemsT {l:Expr} {tl:TE} {apos cpos:Pos} (hl:PE X l tl) (hbase:attributeBase l "items" X.env (eval l X.env)=eval l X.env:=by rfl) (hline:(apos.endLine == cpos.line)=true:=by rfl):PI X (.Tuple elts kk pt) (.Call (.Attribute l "items" apos) [] [] cpos) (iItemsT tl):=by
 intro pins s σ H R I h
 refine wpAny_Call_method0_late hbase hline (thn (hl pins s σ H _ I h) fun v s1 hm_=>?_)
 refine bC fun g_=>?_
 obtain ⟨x,H1,I1,r1,q1⟩:=hm_
 obtain ⟨a,o,kvs,e,hq,q⟩:=q1
 refine g_ ?_
 clear g_
 subst e
 cases r1
 refine bC fun g_=>?_
 obtain ⟨t1,t2,t3⟩:=isD_at I1 (.inr ⟨kvs,.inr ⟨o,hq⟩⟩)
 obtain ⟨ho,_,_,xs,r,od,es,ep,h1,h2,h3,h4,h5⟩:=(show ObjOk X.prog X.w H1 s1.heap a (.frz o (.dT kvs)) from I1.hok a _ hq)
 refine g_ ?_
 clear g_
 rw [ho] at h1
 cases h1
 refine ⟨"dict","dict.items",PySem.F.plainAttrs_dict,PySem.F.slot_dict_items,PySem.F.type_dict_items,t1,t2,Calls.callWith_builtin rfl (PySem.evalArgs_none (call_meetsIn PySem.F.slot_dict_items t1 PySem.F.entry_dict_items (PySem.F.args_dict_items_1 _) (items_meets t3) ⟨t1,?_⟩))⟩
 have al:a < s1.heap.objs.size:=Heap.lt_size ho
 refine it_items (sh:={ s1 with heap:=s1.heap.push { cls:=.type "dict_items",data:=.fields #[.ref a] } }) ⟨_,Heap.get?_push_size _ rfl,rfl,rfl⟩ (Heap.get?_push_of_some _ ho) h3 ?_
 have sz:(s1.heap.push { cls:=.type "dict_items",data:=.fields #[.ref a] }).objs.size=s1.heap.objs.size + 1:=size_push' ..
 refine ⟨_,[(s1.heap.push { cls:=.type "dict_items",data:=.fields #[.ref a] }).objs.size],_,_,H1,rfl,I1.kept (t':=s1.toks) fun b ob e=>Heap.get?_push_of_some _ (Heap.get?_push_of_some _ e),turn_itemsT a _ (by rw [sz]; exact Nat.ne_of_lt (Nat.lt_succ_of_lt al)) h3,⟨_,_,Heap.get?_push_size _ rfl⟩,fun b hb=>?_,q⟩
 have e:b=s1.heap.objs.size + 1:=by rw [← sz]; simpa using hb
 subst e
 exact I1.fpOk (Nat.le_succ _) (I1.hok.fresh (Nat.le_succ _))
end
theorem im_askT {o:Obj} {a:Addr} {kvs:List (List Key×V)} {i:Nat} {H:Hp} {A:Prop} {B:V→Hp→Prop} (q:H a=some (.frz o (.dT kvs))) (hi:i≤kvs.length)
  (hs:∀ p,kvs[i]?=some p→i < kvs.length→∀ t T,H t=some (.tup (p.1.map kV))→H T=none→B (.ref T) (upd H T (.tup [.ref t,p.2]))) (hd:i=kvs.length→A) :
  ((Itit o a).stop i H∧A)∨((Itit o a).go i H∧∀ x H',(Itit o a).yld i H x H'→B x H'):=by
 by_cases hlt:i < kvs.length
 ·refine .inr ⟨⟨kvs,kvs[i],q,List.getElem?_eq_getElem hlt⟩,fun x H' y=>?_⟩
  refine bC fun g_=>?_
  obtain ⟨T,t,e2_,hT,y⟩:=y
  refine g_ ?_
  clear g_
  obtain rfl:=e2_
  obtain ⟨y1,y2⟩:=y _ _ q (List.getElem?_eq_getElem hlt)
  rw [y2]
  exact hs kvs[i] (List.getElem?_eq_getElem hlt) hlt t T y1 hT
 ·exact .inl ⟨⟨kvs,q,by lia⟩,hd (by lia)⟩
theorem for_itemsT {o:Obj} {a:Addr} {kvs:List (List Key×V)} {g:TG} {tb:TS} {D:Ends} {σ:St} {H:Hp} (Pv:Nat→St→Hp→Prop) (h0:Pv 0 σ H) (hl:∀ i σ H,i≤kvs.length→Pv i σ H→H a=some (.frz o (.dT kvs)))
  (hs:∀ i p σ H,kvs[i]?=some p→Pv i σ H→∀ t T,H t=some (.tup (p.1.map kV))→H T=none→g (.ref T) σ (upd H T (.tup [.ref t,p.2])) fun σ2 H2=>tb { D with nx:=Pv (i + 1),ct:=Pv (i + 1),bk:=D.nx } σ2 H2) (hd:∀ σ H,Pv kvs.length σ H→D.nx σ H) :
  ∃ W:Nat→Nat→St→Hp→Prop,(∃ m,W 0 m σ H)∧∀ i m σ H,W i m σ H →
   ((Itit o a).stop i H∧D.nx σ H)∨((Itit o a).go i H∧∃ N:St→Hp→Prop,(∀ σ' H',N σ' H'→∃ m',m' < m∧W (i + 1) m' σ' H')∧∀ x H',(Itit o a).yld i H x H'→g x σ H' fun σ2 H2=>tb { D with nx:=N,ct:=N,bk:=D.nx } σ2 H2):=by
 refine ⟨fun i m σ H=>m=kvs.length - i∧i≤kvs.length∧Pv i σ H,⟨kvs.length,by simp,Nat.zero_le _,h0⟩,?_⟩
 rintro i m σ H ⟨rfl,hi,p⟩
 have q:=hl i σ H hi p
 by_cases hlt:i < kvs.length
 ·refine .inr ⟨⟨kvs,kvs[i],q,List.getElem?_eq_getElem hlt⟩,Pv (i + 1),fun σ' H' p'=>⟨kvs.length - (i + 1),by lia,rfl,hlt,p'⟩,fun x H' y=>?_⟩
  refine bC fun g_=>?_
  obtain ⟨T,t,e4_,hT,y⟩:=y
  refine g_ ?_
  clear g_
  obtain rfl:=e4_
  obtain ⟨y1,y2⟩:=y _ _ q (List.getElem?_eq_getElem hlt)
  rw [y2]
  exact hs i kvs[i] σ H (List.getElem?_eq_getElem hlt) p t T y1 hT
 ·have e:i=kvs.length:=by lia
  subst e
  exact .inl ⟨⟨kvs,q,rfl⟩,hd σ H p⟩
noncomputable def tabZ (ns:List Nat) (L:Bool):SetTable:=⟨if ns.length < 5 then 7 else 31,ns.toArray,#[],0,L,if ns.length < 5 then 0 else 1,true⟩
noncomputable def t1Z (ns:List Nat) (z:Nat) (L:Bool):SetTable:={ tabZ ns L with place:=(ns++[z]).toArray }
noncomputable def ChkZ (ns:List Nat) (z:Nat) (L:Bool):Prop :=
 (tabZ ns L).freeSlot z=some (z,false)∧(tabZ ns L).put z=(t1Z ns z L,ns.length)∧(t1Z ns z L).fits (ns.length + 1)=true∧(tabZ ns L).fits ns.length=true∧(ns.all (· < 6))=true∧(ns.all (· != z))=true ∧
 ((t1Z ns z L).tooFull=false→t1Z ns z L=tabZ (ns++[z]) L) ∧
 ((t1Z ns z L).tooFull=true→(t1Z ns z L).relaid ((ns++[z]).map Int.ofNat).toArray (SetTable.grown (ns.length + 1))=some (tabZ (ns++[z]) L,Array.range (ns.length + 1))∧coversAll (Array.range (ns.length + 1)) (ns.length + 1)=true∧(tabZ (ns++[z]) L).fits (ns.length + 1)=true)
noncomputable instance (ns:List Nat) (z:Nat) (L:Bool):Decidable (ChkZ ns z L):=by unfold ChkZ; infer_instance
noncomputable def subs6:List (List Nat):=(List.range 64).map fun m=>(List.range 6).filter fun i=>m.testBit i
theorem chk_all:∀ ns∈subs6,∀ z∈List.range 6,(∀ n∈ns,n < z)→∀ L:Bool,ChkZ ns z L:=by decide +kernel
noncomputable def slotZ (ns:List Nat):Nat→Nat
 | 0=>0
 | k + 1=>ns.getD k 0 + 1
theorem below_all:∀ ns∈subs6,∀ k∈List.range (ns.length + 1),SetTable.below ns.toArray (slotZ ns k)=k:=by decide +kernel
theorem fits_all:∀ ns∈subs6,∀ L:Bool,(tabZ ns L).fits ns.length=true∧ns.all (· < 6)=true∧ns.length≤6∧ns.Nodup:=by decide +kernel
theorem take_all:∀ ns∈subs6,∀ k∈List.range 7,ns.take k∈subs6∧(∀ z,ns[k]?=some z→z∈List.range 6∧∀ n∈ns.take k,n < z):=by
 have:∀ ns∈subs6,∀ k∈List.range 7,ns.take k∈subs6∧(∀ z∈ns[k]?.toList,z∈List.range 6∧∀ n∈ns.take k,n < z):=by decide +kernel
 intro ns hn k hk
 refine ⟨(this ns hn k hk).1,fun z hz=>(this ns hn k hk).2 z (by rw [hz]; simp)⟩
noncomputable def EsZ (es:List (Int×Value)) (ns:List Nat):Prop:=Paired (fun (e:Int×Value) (n:Nat)=>∃ t,e=((n:Int),Value.int n t)) es ns
noncomputable def SetZ (h:Heap) (a:Addr) (L:Bool) (ns:List Nat):Prop:=∃ o es ep,h.get? a=some o∧o.ExactSet∧o.data=.set es ep (tabZ ns L)∧EsZ es.toList ns
theorem EsZ.snoc {es:List (Int×Value)} {ns:List Nat} (h:EsZ es ns) (z:Nat) (t:Tok):EsZ (es++[((z:Int),Value.int z t)]) (ns++[z]):=by
 unfold EsZ at h ⊢
 induction h with
 | nil=>exact .cons ⟨t,rfl⟩ .nil
 | cons a _ ih=>exact .cons a ih
theorem EsZ.len {es:List (Int×Value)} {ns:List Nat} (h:EsZ es ns):es.length=ns.length:=Paired.length h
theorem EsZ.fsts {es:List (Int×Value)} {ns:List Nat} (h:EsZ es ns):es.map (·.1)=ns.map Int.ofNat:=by
 unfold EsZ at h
 induction h with
 | nil=>rfl
 | cons a _ ih=>obtain ⟨t,rfl⟩:=a; rw [List.map_cons,List.map_cons,ih]; rfl
theorem EsZ.ints {es:List (Int×Value)} {ns:List Nat} (h:EsZ es ns):IntsAre (es.map (·.2)) (ns.map Int.ofNat):=by
 unfold EsZ at h
 induction h with
 | nil=>exact .nil
 | cons a _ ih=>obtain ⟨t,rfl⟩:=a; exact .cons _ t ih
theorem EsZ.mem {es:List (Int×Value)} {ns:List Nat} (h:EsZ es ns):∀ e∈es,∃ n∈ns,∃ t,e=((n:Int),Value.int n t):=by
 unfold EsZ at h
 induction h with
 | nil=>exact fun e he=>absurd he List.not_mem_nil
 | cons a _ ih =>
  intro e he
  rcases List.mem_cons.mp he with rfl | he
  ·obtain ⟨t,rfl⟩:=a; exact ⟨_,List.mem_cons_self,t,rfl⟩
  ·obtain ⟨n,hn,r⟩:=ih e he; exact ⟨n,List.mem_cons_of_mem _ hn,r⟩
theorem hash6:∀ n:Nat,n < 6→hashInt (n:Int)=n:=by decide +kernel
theorem lay_new {es:Array (Int×Value)} {ns:List Nat} {z:Nat} {L:Bool} {x:Value} (h:EsZ es.toList ns) (c:ChkZ ns z L):layNew (tabZ ns L) es z x=(es.push (z,x),t1Z ns z L,false,false):=by
 have hl:es.size=ns.length:=by rw [← Array.length_toList]; exact h.len
 unfold layNew
 rw [c.1]
 dsimp only
 rw [c.2.1]
 dsimp only
 have e1:SetTable.insertAt es ns.length ((z:Int),x)=es.push (z,x):=by
  apply Array.ext'
  rw [SetTable.toList_insertAt,Array.toList_push,List.take_of_length_le (by rw [Array.length_toList,hl]; exact Nat.le_refl _),List.drop_eq_nil_of_le (by rw [Array.length_toList,hl]; exact Nat.le_refl _)]
 rw [e1,Array.size_push,hl]
 unfold SetTable.orStandIn
 rw [c.2.2.1]
 rfl
theorem relay_new {es:Array (Int×Value)} {ns:List Nat} {z:Nat} {L:Bool} (h:EsZ es.toList (ns++[z])) (c:ChkZ ns z L) (f:(t1Z ns z L).tooFull=true):relayAll (t1Z ns z L) es (SetTable.grown es.size)=(es,tabZ (ns++[z]) L,false):=by
 have hl:es.size=ns.length + 1:=by rw [← Array.length_toList,h.len,List.length_append]; rfl
 have e0:es.map (·.1)=((ns++[z]).map Int.ofNat).toArray:=by
  apply Array.ext'
  rw [Array.toList_map]
  exact h.fsts
 refine bC fun g_=>?_
 obtain ⟨r1,r2,r3⟩:=c.2.2.2.2.2.2.2 f
 refine g_ ?_
 clear g_
 unfold relayAll
 rw [e0,hl,r1]
 dsimp only
 have e1:(Array.range (ns.length + 1)).filterMap (es[·]?)=es:=by
  apply Array.ext'
  rw [Array.toList_filterMap,Array.toList_range,← hl]
  exact filterMap_getElem?_range es
 rw [e1,hl,r2,r3]
 rfl
section
variable {prog:Program} {w:World} {A:Around} {E:Value→Shared→Prop} {s:Shared}
theorem set_put {h:Heap} {a:Addr} {o:Obj} {es es':Array (Int×Value)} {ep:Nat} {t t':SetTable} (ho:h.get? a=some o) (hd:o.data=.set es ep t):(h.update a (Obj.putSet es' t')).get? a=some { o with data:=.set es' (ep + 1) t' }:=by
 have:=Heap.get?_update_self (Obj.putSet es' t') ho (by rw [putSet_of es' t' hd]; rfl)
 rwa [putSet_of es' t' hd] at this
theorem EsZ.elems {es:List (Int×Value)} {ns:List Nat} (h:EsZ es ns) (b:ns.all (· < 6)=true):ElemsOf (intKind prog w) es:=by
 intro e he
 refine bC fun g_=>?_
 obtain ⟨n,hn,t,e1_⟩:=h.mem e he
 refine g_ ?_
 clear g_
 obtain rfl:=e1_
 exact ⟨⟨n,intKind_is prog w n t,(hash6 n (by simpa using List.all_eq_true.mp b n hn)).symm⟩,rfl⟩
theorem add_int {a:Addr} {L:Bool} {ns:List Nat} {z:Nat} {t:Tok} {Q:Bool→Shared→Prop} (hS:SetZ s.heap a L ns) (c:ChkZ ns z L) (hz:z < 6) (b6:ns.length < 6)
  (q:∀ h' n,Heap.SameBut a s.heap h'→SetZ h' a L (ns++[z])→Q true { s with heap:=h',toks:=n }) :
  wpAny (model prog w) A (setAdd a (.int z t)) Q E s:=by
 refine bC fun g_=>?_
 obtain ⟨o,es,ep,ho,hex,hd,hel⟩:=hS
 refine g_ ?_
 clear g_
 have hl:es.size=ns.length:=by rw [← Array.length_toList]; exact hel.len
 have hf:(tabZ ns L).fits es.size=true:=by rw [hl]; exact c.2.2.2.1
 have hE:ElemsOf (intKind prog w) es.toList:=hel.elems c.2.2.2.2.1
 have hb:es.size < scanBound:=by rw [hl]; exact Nat.lt_trans b6 (by decide)
 unfold setAdd
 refine wpAny_holding (wpAny_bind ((intKind prog w).pyHash (k:=(z:Int)) (intKind_is prog w z t) ?_))
 unfold setAddHashed setAddHashedIn
 refine wpAny_holding (wpAny_bind (wpAny_setState_of ho hd hf ?_))
 dsimp only
 rw [byScan_of (x:=Value.int z t) rfl hb hE]
 simp only [↓reduceIte]
 unfold setAddByScan
 refine wpAny_bind (wpAny_bind (wpAny_rule (wpAny_bind (wpAny_setScan_of (knd:=intKind prog w) (k:=(z:Int)) (intKind_is prog w z t) ho hd hf hE ?_))))
 have hn:List.findIdx? (fun e:Int×Value=>(intKind prog w).is (z:Int) e.2) es.toList=none:=by
  rw [List.findIdx?_eq_none_iff]
  intro e he
  refine bC fun g_=>?_
  obtain ⟨n,hn,t',e2_⟩:=hel.mem e he
  refine g_ ?_
  clear g_
  obtain rfl:=e2_
  have:n≠z:=by simpa using List.all_eq_true.mp c.2.2.2.2.2.1 n hn
  show Value.isInt (z:Int) (.int n t')=false
  simp [Value.isInt]
  lia
 rw [hn]
 dsimp only
 rw [show (intKind prog w).hash (z:Int)=(z:Int) from hash6 z hz,lay_new hel c]
 dsimp only
 refine wpAny_bind (wpAny_pure ?_)
 rw [show (t1Z ns z L).plain=true from rfl]
 simp only [↓reduceIte]
 refine wpAny_bind (wpAny_pure ?_)
 simp only [↓reduceIte]
 refine wpAny_bind (wpAny_storeSet_of ho hd ?_ (by rw [Array.size_push,hl,sizeLine_eq]; lia))
 have g1:=set_put (es':=es.push ((z:Int),.int z t)) (t':=t1Z ns z L) ho hd
 have hel1:EsZ (es.push ((z:Int),Value.int z t)).toList (ns++[z]):=by rw [Array.toList_push]; exact hel.snoc z t
 have sb1:=Heap.SameBut.update s.heap a (Obj.putSet (es.push ((z:Int),Value.int z t)) (t1Z ns z L))
 by_cases f:(t1Z ns z L).tooFull=true
 ·rw [f]
  simp only [Bool.not_false,Bool.and_self,↓reduceIte]
  rw [relay_new hel1 c f]
  dsimp only
  refine wpAny_bind (wpAny_pure (wpAny_bind (wpAny_storeSet_of g1 rfl (wpAny_pure (wpAny_pure ?_)) (by rw [Array.size_push,hl,sizeLine_eq]; lia))))
  exact q _ _ (sb1.trans (Heap.SameBut.update _ a _)) ⟨_,_,_,set_put g1 rfl,hex,rfl,hel1⟩
 ·have f':(t1Z ns z L).tooFull=false:=by simpa using f
  rw [f']
  simp only [Bool.and_false,Bool.false_eq_true,↓reduceIte]
  refine wpAny_pure (wpAny_pure (q _ _ sb1 ⟨_,_,_,g1,hex,by rw [c.2.2.2.2.2.2.1 f'],hel1⟩))
end
section
variable {prog:Program} {w:World} {A:Around} {E:Value→Shared→Prop} {s:Shared}
theorem SetZ.of {h g:Heap} {a:Addr} {L:Bool} {ns:List Nat} (k:∀ o,h.get? a=some o→g.get? a=some o):SetZ h a L ns→SetZ g a L ns:=fun ⟨o,es,ep,ho,r⟩=>⟨o,es,ep,k o ho,r⟩
theorem set_addsZ {R:Result→Shared→Prop} {I l S:Addr} {L:Bool} {ns:List Nat} {its:List Value} (hh:A.in1.handled=none) (hv:IntsAre its (ns.map Int.ofNat)) (hlI:l≠I) (hSI:S≠I) (hSl:S≠l) (hm:ns∈subs6) :
  ∀ (k i:Nat) (s:Shared),ns.length - i=k→i≤ns.length→s.heap.IsListIter I l i→s.heap.IsList l its.toArray→SetZ s.heap S L (ns.take i) →
   (∀ h' tk,(∀ b o,b≠S→b≠I→s.heap.get? b=some o→h'.get? b=some o)→SetZ h' S L ns→R (.ok (.ret .none)) { s with heap:=h',toks:=tk }) →
   codeAny (model prog w) A (.builtin "set.update.loop" ⟨[.ref S,.ref I],[]⟩) R s:=by
 have W:=Walks.list (prog:=prog) (w:=w) (A:=A.in1) hh I l hlI its.toArray
 have hlen:ns.length=its.length:=by have:=hv.length; rw [List.length_map] at this; lia
 have hsz:its.toArray.size=ns.length:=by rw [List.size_toArray,hlen]
 have n6:ns.length≤6:=(fits_all ns hm L).2.2.1
 intro k
 induction k with
 | zero =>
  intro i s hk hi hit hil hS hR
  have e:i=ns.length:=by lia
  subst e
  rw [List.take_length] at hS
  refine codeAny_builtin PyProof.Rows.F.entry_set_update_loop ?_
  rw [Around.under_plainId PyProof.Rows.F.plain_set_update_loop _]
  show wpAny _ A.in1 (pyNext (.ref I) >>= _) _ _ s
  refine wpAny_bind (W.done s _ _ (by rw [hsz]; exact ⟨hit,hil⟩) fun h' tk kp=>?_)
  exact wpAny_pure (hR h' tk (fun b o Z hb e=>kp b o (by simpa using hb) e) (hS.of fun o e=>kp S o (by simpa using hSI) e))
 | succ k ih =>
  intro i s hk hi hit hil hS hR
  have hlt:i < ns.length:=by lia
  refine codeAny_builtin PyProof.Rows.F.entry_set_update_loop ?_
  rw [Around.under_plainId PyProof.Rows.F.plain_set_update_loop _]
  show wpAny _ A.in1 (pyNext (.ref I) >>= _) _ _ s
  refine wpAny_bind (W.item i s _ _ (by rw [hsz]; exact hlt) ⟨hit,hil⟩ fun v h' tk pv st kp=>?_)
  refine bC fun g_=>?_
  obtain ⟨x,t,hx,e1_⟩:=ints_get hv i v (by simpa using pv)
  refine g_ ?_
  clear g_
  obtain rfl:=e1_
  obtain ⟨z,hz,rfl⟩:∃ z:Nat,ns[i]?=some z∧(z:Int)=x:=by
   rw [List.getElem?_map,List.getElem?_eq_getElem hlt] at hx
   exact ⟨ns[i],List.getElem?_eq_getElem hlt,Option.some.inj hx⟩
  refine bC fun g_=>?_
  obtain ⟨tm,tz⟩:=take_all ns hm i (List.mem_range.mpr (by lia))
  obtain ⟨z6,zl⟩:=tz z hz
  refine g_ ?_
  clear g_
  show wpAny _ A.in1 (holding [Value.int z t] (setAdd S (.int z t)) >>= _) _ _ _
  refine wpAny_bind (wpAny_holding (add_int (s:={ s with heap:=h',toks:=tk }) (hS.of fun o e=>kp S o (by simpa using hSI) e) (chk_all _ tm z z6 zl L) (List.mem_range.mp z6) (by rw [List.length_take]; lia) fun h2 n2 hsb hS2=>?_))
  have htk:ns.take (i + 1)=ns.take i++[z]:=by rw [List.take_add_one,hz]; rfl
  rw [← htk] at hS2
  refine wpAny_pure ⟨plainId_quiet PyProof.Rows.F.plain_set_update_loop _,ih (i + 1) _ (by lia) hlt ?_ ?_ hS2 fun h3 tk3 kp3 hS4=>?_⟩
  ·refine bC fun g_=>?_
   obtain ⟨o,e,r⟩:=st.1
   refine g_ ?_
   clear g_
   exact ⟨o,(hsb.2 I (Ne.symm hSI)).trans e,r⟩
  ·refine bC fun g_=>?_
   obtain ⟨o,e,r⟩:=st.2
   refine g_ ?_
   clear g_
   exact ⟨o,(hsb.2 l (Ne.symm hSl)).trans e,r⟩
  ·exact hR h3 tk3 (fun b o b1 b2 e=>kp3 b o b1 b2 ((hsb.2 b b1).trans (kp b o (by simpa using b2) e))) hS4
noncomputable abbrev nwSet (led:Bool):Obj:={ cls:=.type "set",dict:=none,data:=.set #[] 0 (.fresh 0 0 led) }
noncomputable def byT (w:World):Bool:=w.params.followText "set-order"
theorem new_set (a:Value) {Q₁:Value→Shared→Prop} (h:Q₁ (.ref s.heap.objs.size) { s with heap:=s.heap.push (nwSet (!byT w)) }) :
  codeAny (model prog w) A (.call (.builtin "set.__new__") ⟨[.type "set",a],[]⟩) (wants Q₁ E) s:=by
 refine codeAny_of_tree ?_
 show wpAny _ A.in1 (do checkBuiltinCall "set.__new__" ⟨[.type "set",a],[]⟩; again (.builtin "set.__new__" ⟨[.type "set",a],[]⟩)) _ _ s
 refine wpAny_bind (wpAny_of_eq (F.newCall_set_1 a) (wpAny_pure ⟨plainId_quiet F.plain_set_new _,codeAny_builtin F.entry_set_new ?_⟩))
 rw [Around.under_plainId F.plain_set_new _]
 unfold Builtin.«set.__new__» Builtin.Frozenset.newClass
 have hs1:=sub_set_self
 refine bC fun g_=>?_
 obtain ⟨hp,g,d,tk,os⟩:=s
 refine g_ ?_
 clear g_
 dsimp only
 wp_walk
 refine wpAny_askSetting (wpAny_pure ?_)
 dsimp only
 simp only [newObj]
 exact wpAny_bind (wpAny_alloc (wpAny_pure (wpAny_pure h)))
set_option maxHeartbeats 3200000 in
theorem set_of_ints {l:Addr} {ns:List Nat} {its:List Value} {Q:Value→Shared→Prop} (hh:A.handled=none) (hl:s.heap.IsList l its.toArray) (hv:IntsAre its (ns.map Int.ofNat)) (hm:ns∈subs6)
  (h:∀ h' tk,SetZ h' s.heap.objs.size (!byT w) ns→(∀ b o,s.heap.get? b=some o→h'.get? b=some o)→Q (.ref s.heap.objs.size) { s with heap:=h',toks:=tk }) :
  wpAny (model prog w) A (call (.type "set") [.ref l]) Q E s:=by
 refine bC fun g_=>?_
 obtain ⟨c,tl,hmro⟩:=PySem.F.called_set.mro
 refine g_ ?_
 clear g_
 have hmade:=PySem.F.called_set.made
 have hsub:=PySem.F.called_set.sub
 refine wpAny_call (codeAny_of_tree ?_)
 show wpAny _ _ (callAny (.type "set") _) _ _ _
 refine wpAny_pure ⟨Code.quiet_builtin _ (by decide +kernel),codeAny_builtin PySem.F.entry_type_call ?_⟩
 rw [Around.under_plain (weight_type_call_type "set" [.ref l] []) rfl]
 have h1:=PySem.F.called_set.notType
 have h2:=PySem.F.called_set.canCreate
 have hct:=PySem.F.typeCall_set_1 (.ref l)
 repeat (any_goals (first | assumption | wp_step))
 refine codeAny_mono (new_set (.ref l) (E:=E) (Q₁:=fun obj s₁=>obj=.ref s.heap.objs.size∧s₁={ s with heap:=s.heap.push (nwSet (!byT w)) }) ⟨rfl,rfl⟩) fun r s₁ hr=>?_
 rcases r with e | (_ | _ | _ | obj)
 ·exact hr
 ·exact hr.elim
 ·exact hr.elim
 ·exact hr.elim
 obtain ⟨rfl,rfl⟩:=hr
 have hS:(s.heap.push (nwSet (!byT w))).get? s.heap.objs.size=some (nwSet (!byT w)):=Heap.get?_push_size _ rfl
 have hT:Shared.TypeIs { s with heap:=s.heap.push (nwSet (!byT w)) } (.ref s.heap.objs.size) "set":=⟨_,hS,rfl⟩
 have hli:=PySem.F.called_set.init.lookup
 have hbi:=PySem.F.called_set.init.bind (.ref s.heap.objs.size)
 repeat (any_goals (first | assumption | wp_step))
 refine codeAny_mono (codeAny_call_builtin (R:=wants (fun r s₂=>r=.none∧∃ h' tk,s₂={ s with heap:=h',toks:=tk }∧SetZ h' s.heap.objs.size (!byT w) ns ∧
  (∀ b o,s.heap.get? b=some o→h'.get? b=some o)) E) PySem.F.called_set.init.plain PySem.F.entry_set_init (check_set_init_1 hT ?_)) fun r₂ s₂ hr₂=>?_
 ·refine bC fun g_=>?_
  obtain ⟨ol,hol,hcl,nl,hdl⟩:=hl
  obtain ⟨ocls,odict,odata,oslots⟩:=ol
  refine g_ ?_
  clear g_
  simp only at hcl hdl
  subst hcl hdl
  have hol':(s.heap.push (nwSet (!byT w))).get? l=some { cls:=.type "list",dict:=odict,data:=.seq its.toArray nl,slots:=oslots }:=Heap.get?_push_of_some _ hol
  have hsls:=PySem.F.sub_list_set
  have hslf:=PySem.F.sub_list_frozenset
  have hne:(Value.type "list" == Value.type "dict")=false:=by decide
  have hl1:(s.heap.push (nwSet (!byT w))).IsList l its.toArray:=⟨_,hol',rfl,nl,rfl⟩
  unfold Builtin.«set.__init__» noKeywords Builtin.Frozenset.updateFrom
  generalize hPI:pyIter=PI
  wp_walk
  subst hPI
  refine wpAny_pyIter_list hl1 (wpAny_bind (wpAny_runValue ?_))
  have hlS:l < s.heap.objs.size:=Heap.lt_size hol
  have sz:(s.heap.push (nwSet (!byT w))).objs.size=s.heap.objs.size + 1:=Heap.size_push _ _
  refine set_addsZ (L:=!byT w) (I:=(s.heap.push (nwSet (!byT w))).objs.size) (l:=l) (S:=s.heap.objs.size) (by simp [hh]) hv (by rw [sz]; exact Nat.ne_of_lt (Nat.lt_succ_of_lt hlS)) (by rw [sz]; exact Nat.ne_of_lt (Nat.lt_succ_self _)) (Nat.ne_of_gt hlS) hm (ns.length - 0) 0 _ rfl (Nat.zero_le _) ⟨_,Heap.get?_push_size _ rfl,rfl,rfl⟩ (hl1.push _) ?_ fun h' tk kp hS'=>?_
  ·exact ⟨_,#[],0,Heap.get?_push_of_some _ hS,⟨rfl,rfl,rfl⟩,rfl,.nil⟩
  ·refine wpAny_pure ?_
   show wpAny _ _ (ret Value.none) _ _ _
   refine wpAny_pure ⟨rfl,h',tk,rfl,hS',fun b o e=>?_⟩
   have hb:b < s.heap.objs.size:=Heap.lt_size e
   exact kp b o (Nat.ne_of_lt hb) (by rw [sz]; exact Nat.ne_of_lt (Nat.lt_succ_of_lt hb)) (Heap.get?_push_of_some _ (Heap.get?_push_of_some _ e))
 ·rcases r₂ with e | (_ | _ | _ | r)
  ·exact hr₂
  ·exact hr₂.elim
  ·exact hr₂.elim
  ·exact hr₂.elim
  refine bC fun g_=>?_
  obtain ⟨e4_,h',tk,e5_,hS',hk'⟩:=hr₂
  refine g_ ?_
  clear g_
  obtain rfl:=e4_
  obtain rfl:=e5_
  repeat (any_goals (first | assumption | wp_step))
  exact h _ _ hS' hk'
end
theorem si_owner:Manifest.owners.lookup (String.ofList ['r','o','t','a','r','e','t','i','_','t','e','s'].reverse)=some Manifest.sig_set_iterator:=by kernel_rfl
theorem si_next:Slot "set_iterator" "__next__" "set_iterator.__next__" :=
 .of (owner:="set_iterator") (n:="__next__") (by rw [typeLookup_type,builtinLookup_eq_fast]; kernel_rfl) (by decide +kernel) (by decide +kernel) (by decide +kernel) (by first | exact .inl (by decide +kernel) | exact .inr (by decide +kernel)) (by rw [isSubtype_type]; kernel_rfl)
theorem si_entry:entryFor table "set_iterator.__next__"=some Builtin.«set_iterator.__next__»:=entryFor_of_tree (by kernel_rfl)
theorem si_args (a:Value):argsOk "set_iterator.__next__" ⟨[a],[]⟩:=by
 unfold argsOk; rw [signature?_of (id:="set_iterator.__next__") (n:=['_','_','t','x','e','n','_','_']) (o:=['r','o','t','a','r','e','t','i','_','t','e','s']) (by kernel_rfl) si_owner]; kernel_rfl
theorem si_iter:Slot "set_iterator" "__iter__" "set_iterator.__iter__" :=
 .of (owner:="set_iterator") (n:="__iter__") (by rw [typeLookup_type,builtinLookup_eq_fast]; kernel_rfl) (by decide +kernel) (by decide +kernel) (by decide +kernel) (by first | exact .inl (by decide +kernel) | exact .inr (by decide +kernel)) (by rw [isSubtype_type]; kernel_rfl)
theorem si_self:entryFor table "set_iterator.__iter__"=some Builtin.«dict_keyiterator.__iter__»:=entryFor_alias (id':="dict_keyiterator.__iter__") (by kernel_rfl) rfl (by decide +kernel) (by kernel_rfl)
theorem si_args' (a:Value):argsOk "set_iterator.__iter__" ⟨[a],[]⟩:=by
 unfold argsOk; rw [signature?_of (id:="set_iterator.__iter__") (n:=['_','_','r','e','t','i','_','_']) (o:=['r','o','t','a','r','e','t','i','_','t','e','s']) (by kernel_rfl) si_owner]; kernel_rfl
theorem se_iter:entryFor table "set.__iter__"=some Builtin.«frozenset.__iter__»:=entryFor_alias (id':="frozenset.__iter__") (by kernel_rfl) rfl (by decide +kernel) (by kernel_rfl)
theorem pick_go {α:Type} (next:Nat→Nat):∀ (n k:Nat) (left:List α) (out:Array α),left.length=n→(pickOrder.go next n k left out).toList.Perm (out.toList++left)
 | 0,k,left,out,h=>by
  obtain rfl:left=[]:=List.length_eq_zero_iff.mp h
  unfold pickOrder.go
  rw [List.append_nil]
 | n + 1,k,left,out,h=>by
  have hi:next k % left.length < left.length:=Nat.mod_lt _ (by lia)
  unfold pickOrder.go
  rw [List.getElem?_eq_getElem hi]
  dsimp only
  refine (pick_go next n (k + 1) _ _ (by rw [List.length_eraseIdx_of_lt hi]; lia)).trans ?_
  rw [Array.toList_push,List.append_assoc]
  refine List.Perm.append_left _ ?_
  rw [List.eraseIdx_eq_take_drop_succ]
  refine (List.perm_middle (l₁:=left.take (next k % left.length)) (l₂:=left.drop (next k % left.length + 1))).symm.trans ?_
  rw [← List.drop_eq_getElem_cons hi,List.take_append_drop]
theorem pick_perm {α:Type} (next:Nat→Nat) (xs:Array α):(pickOrder next xs).toList.Perm xs.toList:=by
 unfold pickOrder
 have:=pick_go next xs.size 0 xs.toList #[] (by rw [Array.length_toList])
 exact this
noncomputable def ordZ (w:World) (a:Addr) (ep:Nat) (es:Array (Int×Value)):Array (Int×Value):=if byT w then pickOrder (w.params.setOrder a ep) es else es
noncomputable def slkZ (w:World) (ns:List Nat) (k:Nat):Nat:=if byT w then 0 else slotZ ns k
theorem ordZ_perm (w:World) (a:Addr) (ep:Nat) (es:Array (Int×Value)):(ordZ w a ep es).toList.Perm es.toList:=by
 unfold ordZ
 split
 ·exact pick_perm _ _
 ·exact .refl _
section
variable {prog:Program} {w:World} {A:Around} {E:Value→Shared→Prop} {s:Shared} {a I:Addr} {o:Obj} {es:Array (Int×Value)} {ep:Nat} {ns:List Nat}
theorem next_set {k:Nat} {Q:Option (Value×Nat)→Shared→Prop} (hm:ns∈subs6) (hk:k≤ns.length) (ho:s.heap.get? a=some o) (hd:o.data=.set es ep (tabZ ns (!byT w))) (he:EsZ es.toList ns)
  (q:Q (((ordZ w a ep es)[k]?).map fun e=>(e.2,slkZ w ns (k + 1))) s):wpAny (model prog w) A (setNext a (slkZ w ns k) k ep) Q E s:=by
 have hl:es.size=ns.length:=by rw [← Array.length_toList]; exact he.len
 have hf:(tabZ ns (!byT w)).fits es.size=true:=by rw [hl]; exact (fits_all ns hm _).1
 unfold setNext setsByText
 refine wpAny_bind (wpAny_setState_of ho hd hf (wpAny_bind (wpAny_bind (wpAny_askSetting (wpAny_pure ?_)))))
 cases hb:byT w with
 | true =>
  have hb':(model prog w).w.params.followText "set-order"=true:=hb
  dsimp only
  rw [hb',if_pos rfl,if_neg (by simp)]
  unfold setWalk setsByText
  refine wpAny_bind (wpAny_bind (wpAny_setState_of ho hd hf (wpAny_bind (wpAny_bind (wpAny_askSetting (wpAny_pure ?_))))))
  dsimp only
  rw [hb',if_pos rfl]
  refine wpAny_bind (wpAny_askSetting (wpAny_pure (wpAny_pure ?_)))
  unfold ordZ slkZ at q
  rw [hb] at q
  unfold slkZ
  rw [hb]
  exact q
 | false =>
  have hb':(model prog w).w.params.followText "set-order"=false:=hb
  rw [hb] at hd
  dsimp only
  rw [hb',if_neg Bool.false_ne_true]
  have el:slkZ w ns k=slotZ ns k:=by unfold slkZ; rw [hb]; rfl
  have bl:SetTable.below (tabZ ns !false).place (slkZ w ns k)=k:=by rw [el]; exact below_all ns hm k (List.mem_range.mpr (by lia))
  rw [bl]
  unfold ordZ slkZ at q
  rw [hb] at q
  refine wpAny_bind (m:=pure ()) (wpAny_pure (wpAny_pure ?_))
  have e2:(tabZ ns !false).place[k]?=ns[k]?:=by show ns.toArray[k]?=_; simp
  rw [e2]
  by_cases lt:k < ns.length
  ·have e1:es[k]?=some es[k]:=Array.getElem?_eq_getElem (by lia)
   rw [e1,List.getElem?_eq_getElem lt]
   have q':Q (Option.map (fun e=>(e.2,slotZ ns (k + 1))) es[k]?) s:=q
   rw [e1] at q'
   have e3:slotZ ns (k + 1)=ns[k] + 1:=by show ns.getD k 0 + 1=_; rw [List.getD_eq_getElem?_getD,List.getElem?_eq_getElem lt]; rfl
   rw [e3] at q'
   exact q'
  ·have q':Q (Option.map (fun e=>(e.2,slotZ ns (k + 1))) es[k]?) s:=q
   rw [Array.getElem?_eq_none (by lia)] at q' ⊢
   exact q'
noncomputable def SetIt (h:Heap) (w:World) (I a:Addr) (ns:List Nat) (ep k:Nat):Prop:=h.get? I=some { cls:=.type "set_iterator",data:=.fields #[.int (slkZ w ns k) 0,.int k 0,.ref a,.int ns.length 0,.int ep 0] }
theorem nx_set {k:Nat} {v:Int×Value} {Q:Option Value→Shared→Prop} (hm:ns∈subs6) (hi:SetIt s.heap w I a ns ep k) (ho:s.heap.get? a=some o) (hd:o.data=.set es ep (tabZ ns (!byT w))) (he:EsZ es.toList ns) (hv:(ordZ w a ep es)[k]?=some v) (hk:k < ns.length)
  (q:∀ g,SetIt g w I a ns ep (k + 1)→(∀ b o,b≠I→s.heap.get? b=some o→g.get? b=some o)→Q (some v.2) { s with heap:=g }):wpAny (model prog w) A (pyNext (.ref I)) Q E s:=by
 have ty:s.TypeIs (.ref I) "set_iterator":=⟨_,hi,rfl⟩
 have hl:es.size=ns.length:=by rw [← Array.length_toList]; exact he.len
 have hf:(tabZ ns (!byT w)).fits es.size=true:=by rw [hl]; exact (fits_all ns hm _).1
 unfold pyNext
 refine wpAny_bind (wpAny_attempt (wpAny_callSpecial?_slot (name:=Str.ofString "__next__") ty si_next (wpAny_call_entry si_next ty si_entry ?_ (si_args _))))
 unfold Builtin.«set_iterator.__next__»
 refine wpAny_bind (wpAny_pure (wpAny_bind (wpAny_fieldsOf hi rfl ?_)))
 dsimp only
 refine wpAny_bind (wpAny_setEntries_of ho hd hf ?_)
 rw [if_neg (by rw [hl]; simp)]
 refine wpAny_bind ?_
 rw [Int.toNat_natCast,Int.toNat_natCast,Int.toNat_natCast]
 refine next_set hm (Nat.le_of_lt hk) ho hd he ?_
 rw [hv]
 dsimp only [Option.map]
 refine wpAny_bind (wpAny_setField_rec hi (by simp) fun g1 f1 b1=>?_)
 refine wpAny_bind (wpAny_setField_rec f1 (by simp) fun g2 f2 b2=>?_)
 refine wpAny_pure ⟨_,rfl,wpAny_pure (q g2 ?_ fun b o hb e=>(b2.2 b hb).trans ((b1.2 b hb).trans e))⟩
 have e:((k + 1:Nat):Int)=(k:Int) + 1:=by lia
 unfold SetIt
 rw [e]
 simpa [rawInt] using f2
theorem nx_set_end {Q:Option Value→Shared→Prop} (hh:A.handled=none) (hm:ns∈subs6) (hi:SetIt s.heap w I a ns ep ns.length) (ho:s.heap.get? a=some o) (hd:o.data=.set es ep (tabZ ns (!byT w))) (he:EsZ es.toList ns)
  (q:∀ g,Heap.ExtBut I s.heap g→Q none { s with heap:=g }):wpAny (model prog w) A (pyNext (.ref I)) Q E s:=by
 have ty:s.TypeIs (.ref I) "set_iterator":=⟨_,hi,rfl⟩
 have hl:es.size=ns.length:=by rw [← Array.length_toList]; exact he.len
 have hf:(tabZ ns (!byT w)).fits es.size=true:=by rw [hl]; exact (fits_all ns hm _).1
 unfold pyNext
 refine wpAny_bind (wpAny_attempt (wpAny_callSpecial?_slot (name:=Str.ofString "__next__") ty si_next (wpAny_call_entry si_next ty si_entry ?_ (si_args _))))
 unfold Builtin.«set_iterator.__next__»
 refine wpAny_bind (wpAny_pure (wpAny_bind (wpAny_fieldsOf hi rfl ?_)))
 dsimp only
 refine wpAny_bind (wpAny_setEntries_of ho hd hf ?_)
 rw [if_neg (by rw [hl]; simp)]
 refine wpAny_bind ?_
 rw [Int.toNat_natCast,Int.toNat_natCast,Int.toNat_natCast]
 refine next_set hm (Nat.le_refl _) ho hd he ?_
 have hv:(ordZ w a ep es)[ns.length]?=none:=by
  rw [Array.getElem?_eq_none_iff,← Array.length_toList,(ordZ_perm w a ep es).length_eq,he.len]
  exact Nat.le_refl _
 rw [hv]
 dsimp only [Option.map]
 show wpAny _ _ (setField (.ref I) 2 .none >>= _) _ _ s
 refine wpAny_bind (wpAny_setField hi rfl (by simp) ?_)
 show wpAny _ _ (newExc (.type "StopIteration") [] >>= _) _ _ _; refine wpAny_bind ?_
 simp only [newExc,newTuple]; refine wpAny_bind (wpAny_newObj_type ?_ (by size_fits))
 refine wpAny_bind (m:=firstArgMember _ _) (wpAny_of_eq (a:=Value.none) (by first | rfl | (simp only [firstArgMember]; rfl)) (wpAny_newObj_type ?_ (by size_fits)))
 simp only [raiseNew]; refine wpAny_bind (wpAny_handled ?_); rw [show A.in1.handled=none from hh]
 refine wpAny_bind (wpAny_pure (wpAny_throw ?_)); refine wpAny_bind (wpAny_isInstance (T:="StopIteration") (b:=true) ⟨_,Heap.get?_push_size _ rfl,rfl⟩ isSubtype_stop ?_)
 exact wpAny_pure (q _ (((Heap.SameBut.update ..).extBut.push _).push _))
theorem walk_set (hh:A.handled=none) (ne:a≠I) (hm:ns∈subs6) (hd:o.data=.set es ep (tabZ ns (!byT w))) (he:EsZ es.toList ns) :
  Walks prog w A I [I,a] [I] ns.length (fun i v=>∃ e,(ordZ w a ep es)[i]?=some e∧v=e.2) (fun i h=>SetIt h w I a ns ep i∧h.get? a=some o) where
 sub:=by simp
 frame:=fun i h h' ⟨x,y⟩ kp=>⟨kp I (by simp) _ x,kp a (by simp) _ y⟩
 item:=fun i s Q E hi ⟨x,y⟩ q=>by
  have sz:(ordZ w a ep es).size=ns.length:=by rw [← Array.length_toList,(ordZ_perm w a ep es).length_eq,he.len]
  have e:=Array.getElem?_eq_getElem (xs:=ordZ w a ep es) (i:=i) (by lia)
  exact nx_set hm x y hd he e hi fun g it st=>q _ g s.toks ⟨_,e,rfl⟩ ⟨it,st a _ ne y⟩ fun b o hb e=>st b o (by simpa using hb) e
 done:=fun s Q E ⟨x,y⟩ q=>nx_set_end hh hm x y hd he fun g eb=>q g s.toks fun b o hb e=>eb b o (by simpa using hb) e
 self:=fun i s Q E ⟨x,_⟩ q=>by
  have ty:s.TypeIs (.ref I) "set_iterator":=⟨_,x,rfl⟩
  refine wpAny_pyIter_slot ty si_iter (wpAny_call_entry si_iter ty si_self ?_ (si_args' _))
  show wpAny _ _ (ret (.ref I)) _ _ s
  exact wpAny_pure ⟨_,rfl,"set_iterator",_,ty,si_next.lookup,q⟩
end
theorem sub_set_set:isSubtype (.type "set") (.type "set")=pure true:=by rw [isSubtype_type]; kernel_rfl
theorem split_set_len:splitId "set.__len__"=some ("set","__len__"):=by decide +kernel
section
variable {prog:Program} {w:World} {A:Around} {E:Value→Shared→Prop} {s:Shared} {a I:Addr} {o:Obj} {es:Array (Int×Value)} {ep:Nat} {ns:List Nat}
theorem it_set {Q:Value→Shared→Prop} (hm:ns∈subs6) (ho:s.heap.get? a=some o) (hx:o.ExactSet) (hd:o.data=.set es ep (tabZ ns (!byT w))) (he:EsZ es.toList ns)
  (q:SetIt (s.heap.push { cls:=.type "set_iterator",data:=.fields #[.int (slkZ w ns 0) 0,.int (0:Nat) 0,.ref a,.int ns.length 0,.int ep 0] }) w s.heap.objs.size a ns ep 0→Q (.ref s.heap.objs.size) { s with heap:=s.heap.push { cls:=.type "set_iterator",data:=.fields #[.int (slkZ w ns 0) 0,.int (0:Nat) 0,.ref a,.int ns.length 0,.int ep 0] } }):wpAny (model prog w) A (pyIter (.ref a)) Q E s:=by
 have ty:s.TypeIs (.ref a) "set":=⟨o,ho,hx.1⟩
 have hl:es.size=ns.length:=by rw [← Array.length_toList]; exact he.len
 have hf:(tabZ ns (!byT w)).fits es.size=true:=by rw [hl]; exact (fits_all ns hm _).1
 refine wpAny_pyIter_slot ty F.slot_set_iter (wpAny_call_entry F.slot_set_iter ty se_iter ?_ (F.args_set_iter_1 _))
 unfold Builtin.«frozenset.__iter__» Builtin.Frozenset.slot0 Builtin.Frozenset.sizeOf setDrawn setsByText
 refine wpAny_bind (wpAny_bind (wpAny_pure (wpAny_pure ?_)))
 refine wpAny_bind (wpAny_bind (wpAny_setEntries_of ho hd hf (wpAny_pure ?_)))
 refine wpAny_bind (wpAny_bind (wpAny_setState_of ho hd hf (wpAny_bind (wpAny_bind (wpAny_askSetting (wpAny_pure (wpAny_pure ?_)))))))
 dsimp only
 rw [if_neg (by intro z; exact absurd (Bool.and_eq_true_iff.mp z).2 (show ¬ ((!true && decide (es.size > 1))=true) from Bool.false_ne_true))]
 refine wpAny_bind (wpAny_pure (wpAny_bind (wpAny_setEpoch_of ho hd hf (wpAny_bind ?_))))
 have e0:slkZ w ns 0=0:=by unfold slkZ; split <;> rfl
 rw [e0] at q
 rw [hl]
 refine wpAny_newObj_type (wpAny_pure ⟨_,rfl,"set_iterator",_,⟨_,Heap.get?_push_size _ rfl,rfl⟩,si_next.lookup,?_⟩)
 refine q ?_
 unfold SetIt
 rw [e0]
 exact Heap.get?_push_size _ rfl
theorem ints_perm {us us':List Value} {zs:List Int} (h:IntsAre us zs) (p:us'.Perm us):∃ zs',IntsAre us' zs'∧zs'.Perm zs:=by
 induction p generalizing zs with
 | nil=>cases h; exact ⟨[],.nil,.refl _⟩
 | cons x _ ih =>
  cases h with
  | cons n t r =>
   refine bC fun g_=>?_
   obtain ⟨z,h1,h2⟩:=ih r
   refine g_ ?_
   clear g_
   exact ⟨n :: z,.cons n t h1,h2.cons n⟩
 | swap x y l =>
  cases h with
  | cons n t r =>
   cases r with
   | cons m u r=>exact ⟨m :: n :: _,.cons m u (.cons n t r),.swap _ _ _⟩
 | trans _ _ i1 i2 =>
  refine bC fun g_=>?_
  obtain ⟨z,h1,h2⟩:=i2 h
  obtain ⟨z',h3,h4⟩:=i1 h1
  refine g_ ?_
  clear g_
  exact ⟨z',h3,h4.trans h2⟩
theorem items_ord {n:Nat} {acc:Array Value} {od:Array (Int×Value)} (h:ItemsOf (fun i v=>∃ e,od[i]?=some e∧v=e.2) acc n) (hn:od.size=n):acc.toList=od.toList.map (·.2):=by
 apply List.ext_getElem?
 intro i
 rw [Array.getElem?_toList,List.getElem?_map,Array.getElem?_toList]
 by_cases hi:i < n
 ·have e1:=Array.getElem?_eq_getElem (xs:=acc) (i:=i) (by rw [h.1]; exact hi)
  refine bC fun g_=>?_
  obtain ⟨e,he,hv⟩:=h.2 i _ e1
  refine g_ ?_
  clear g_
  rw [e1,he,hv]
  rfl
 ·rw [Array.getElem?_eq_none (by rw [h.1]; lia),Array.getElem?_eq_none (by lia)]
  rfl
theorem collect_set {Q:List Value→Shared→Prop} (hh:A.handled=none) (hm:ns∈subs6) (ho:s.heap.get? a=some o) (hx:o.ExactSet) (hd:o.data=.set es ep (tabZ ns (!byT w))) (he:EsZ es.toList ns)
  (q:∀ vs g n zs,IntsAre vs zs→zs.Perm (ns.map Int.ofNat)→Stay s.heap g→s.heap.objs.size≤g.objs.size→Q vs { s with heap:=g,toks:=n }):wpAny (model prog w) A (collect (.ref a)) Q E s:=by
 have al:a < s.heap.objs.size:=Heap.lt_size ho
 unfold collect
 refine wpAny_bind (wpAny_runValue (codeAny_builtin F.entry_proto_collect ?_))
 rw [Around.under_plainId F.plain_proto_collect _]
 show wpAny _ A.in1 (newList [] >>= fun l=>again (.builtin "list.__iadd__" ⟨[l,.ref a],[]⟩)) _ _ s
 refine wpAny_bind (wpAny_newObj_type ?_)
 refine wpAny_pure ⟨plainId_quiet F.plain_list_iadd _,codeAny_builtin F.entry_list_iadd ?_⟩
 rw [Around.under_plainId F.plain_list_iadd _]
 have ho1:(s.heap.push (seqObj "list" #[] 0)).get? a=some o:=Heap.get?_push_of_some _ ho
 have S1:(s.heap.push (seqObj "list" #[] 0)).get? s.heap.objs.size=some (seqObj "list" #[] 0):=Heap.get?_push_size _ rfl
 have sz1:(s.heap.push (seqObj "list" #[] 0)).objs.size=s.heap.objs.size + 1:=size_push' _ _
 have h1:Builtin.List.listSameRef (.ref s.heap.objs.size) (.ref a)=false:=by simp [Builtin.List.listSameRef]; exact Nat.ne_of_gt al
 show wpAny _ A.in1 (Builtin.List.listExtendWith (.ref s.heap.objs.size) (.ref a) (.ref s.heap.objs.size)) _ _ { s with heap:=s.heap.push (seqObj "list" #[] 0) }
 unfold Builtin.List.listExtendWith
 refine wpAny_bind (wpAny_typeOf (T:="set") ⟨o,ho1,hx.1⟩ ?_)
 rw [if_neg (by rw [h1]; decide)]
 refine wpAny_bind (it_set hm ho1 hx hd he fun it=>?_)
 rw [sz1] at it ⊢
 generalize hg2:(s.heap.push (seqObj "list" #[] 0)).push { cls:=.type "set_iterator",data:=.fields #[.int (slkZ w ns 0) 0,.int (0:Nat) 0,.ref a,.int ns.length 0,.int ep 0] }=g2 at it ⊢
 have ho2:g2.get? a=some o:=by rw [← hg2]; exact Heap.get?_push_of_some _ ho1
 have S2:g2.get? s.heap.objs.size=some (seqObj "list" #[] 0):=by rw [← hg2]; exact Heap.get?_push_of_some _ S1
 have sz2:g2.objs.size=s.heap.objs.size + 2:=by rw [← hg2,size_push',sz1]
 have st2:Stay s.heap g2:=by rw [← hg2]; exact (Stay.push _ _).trans (Stay.push _ _)
 have ty2:Shared.TypeIs { s with heap:=g2 } (.ref a) "set":=⟨o,ho2,hx.1⟩
 refine wpAny_bind (wpAny_holding ?_)
 unfold Builtin.List.listLengthHint
 refine wpAny_bind (wpAny_specialOf ty2 F.slot_set_len.lookup ?_)
 dsimp only
 rw [split_set_len]
 dsimp only
 refine wpAny_bind (wpAny_isInstance (b:=true) ty2 sub_set_set ?_)
 simp only [Bool.not_true,Bool.false_eq_true,if_false]
 rw [if_pos (by kernel_rfl)]
 refine wpAny_bind (wpAny_typeOf ty2 (wpAny_pure ?_))
 rw [if_pos (by decide)]
 refine wpAny_bind (wpAny_rule (wpAny_bind ?_))
 show wpAny _ A.in1 (updateSeq s.heap.objs.size (·.push .none) >>= fun Z=>updateSeq s.heap.objs.size (·.pop)) _ _ _
 refine wpAny_bind (wpAny_updateSeq S2 rfl ?_)
 have S3:=Heap.get?_update_self (Obj.mapSeq (·.push Value.none)) S2 rfl
 refine wpAny_updateSeq (hz:=by seq_fits) S3 rfl ?_
 have S4:=Heap.get?_update_self (Obj.mapSeq (·.pop)) S3 rfl
 generalize hg4:(g2.update s.heap.objs.size (Obj.mapSeq (·.push Value.none))).update s.heap.objs.size (Obj.mapSeq (·.pop))=g4 at S4 ⊢
 have oth:∀ b ob,b≠s.heap.objs.size→g2.get? b=some ob→g4.get? b=some ob:=fun b ob hb e=>by
  rw [← hg4]
  exact (Heap.get?_update_other _ _ (Ne.symm hb)).trans ((Heap.get?_update_other _ _ (Ne.symm hb)).trans e)
 have sz4:g4.objs.size=s.heap.objs.size + 2:=by rw [← hg4,Heap.size_update,Heap.size_update,sz2]
 have W:=walk_set (prog:=prog) (w:=w) (A:=A.in1) (I:=s.heap.objs.size + 1) (a:=a) (o:=o) hh (Nat.ne_of_lt (Nat.lt_succ_of_lt al)) hm hd he
 refine wpAny_pure ⟨plainId_quiet F.plain_extend_loop _,codeAny_extend_loopS W.toS (Nat.le_trans (fits_all ns hm true).2.2.1 (by rw [sizeLine_eq]; decide)) _ (by simp; exact Nat.ne_of_gt al) _ ns.length 0 _ _ _ rfl (Nat.zero_le _) ⟨oth _ _ (Nat.ne_of_gt (Nat.lt_succ_self _)) it,oth _ _ (Nat.ne_of_lt al) ho2⟩ S4 (ItemsOf.nil _) fun s' acc' c' hm' hS' hacc=>?_⟩
 show wpAny _ A (load s.heap.objs.size >>= _) _ _ s'
 refine wpAny_bind (wpAny_load hS' (wpAny_pure ?_))
 have el:=items_ord hacc (by rw [← Array.length_toList,(ordZ_perm w a ep es).length_eq,he.len])
 refine bC fun g_=>?_
 obtain ⟨zs,i1,i2⟩:=ints_perm he.ints ((ordZ_perm w a ep es).map (·.2))
 obtain ⟨h',gn',dr',tk',os'⟩:=s'
 obtain ⟨m1,m2,m3,m4,m5⟩:=hm'
 refine g_ ?_
 clear g_
 dsimp only at m1 m2 m3 m4 m5
 subst m2 m3 m4
 rw [← el] at i1
 have far:Stay s.heap h':=fun b ob e=>by
  have hb:=Heap.lt_size e
  exact m1 b ob (by simp; exact ⟨Nat.ne_of_lt hb,Nat.ne_of_lt (Nat.lt_succ_of_lt hb)⟩) (oth b ob (Nat.ne_of_lt hb) (st2 b ob e))
 exact q _ h' tk' zs i1 i2 far (Nat.le_of_lt (Heap.lt_size hS'))
theorem ofN_up:∀ ns∈subs6,(ns.map Int.ofNat).Pairwise (·≤·):=by decide +kernel
theorem sorted_set {Q:Value→Shared→Prop} (hh:A.in1.handled=none) (hm:ns∈subs6) (ho:s.heap.get? a=some o) (hx:o.ExactSet) (hd:o.data=.set es ep (tabZ ns (!byT w))) (he:EsZ es.toList ns)
  (q:∀ (D:Addr) (g:Heap) (n c:Nat) (out:List Value),s.heap.objs.size≤D→Stay s.heap g→g.get? D=some (seqObj "list" out.toArray c)→IntsAre out (ns.map Int.ofNat)→Q (.ref D) { s with heap:=g,toks:=n }) :
  wpAny (model prog w) A (call (.builtin "sorted") [.ref a]) Q E s:=by
 refine Calls.call_function_entry kind_sorted plain_sorted entry_sorted (args_sorted1 _) ?_
 unfold Builtin.«sorted»
 refine wpAny_bind (m:=checkCount "sorted" 1 1 _) (wpAny_pure (wpAny_bind (collect_set hh hm ho hx hd he fun vs g n zs i1 i2 st sz=>?_)))
 have vl:vs.length < 64:=by
  have:=i1.length
  have:=i2.length_eq
  rw [List.length_map] at this
  have:=(fits_all ns hm true).2.2.1
  lia
 refine wpAny_bind (wpAny_newList ?_ (key_few vl))
 have new:(g.push (seqObj "list" vs.toArray 0)).get? g.objs.size=some (seqObj "list" vs.toArray 0):=Heap.get?_push_size _ rfl
 refine wpAny_bind (wpAny_holding (wpAny_call_entry slot_list_sort ⟨_,new,rfl⟩ entry_list_sort (list_sort_tree (s:={ s with heap:=g.push (seqObj "list" vs.toArray 0),toks:=n }) new i1 vl fun out zs' a1 a2 a3=>⟨_,rfl,?_⟩) (args_list_sort _)))
 have ez:zs'=ns.map Int.ofNat:=List.Perm.eq_of_pairwise (fun a b Z Z h1 h2=>Int.le_antisymm h1 h2) a3 (ofN_up ns hm) (a2.trans i2)
 rw [ez] at a1
 have lt:g.objs.size < (g.push (seqObj "list" vs.toArray 0)).objs.size:=by rw [size_push']; exact Nat.lt_succ_self _
 obtain ⟨c,hc⟩:∃ c,(sortedHeap (g.push (seqObj "list" vs.toArray 0)) g.objs.size vs out).get? g.objs.size=some (seqObj "list" out.toList.toArray c):=by
  rw [Array.toArray_toList]
  unfold sortedHeap
  obtain ⟨e1,h1⟩:∃ e1,((g.push (seqObj "list" vs.toArray 0)).update g.objs.size (Obj.mapSeq fun Z=>#[])).get? g.objs.size=some (seqObj "list" #[] e1):=⟨_,get?_update_seq new _⟩
  exact ⟨_,get?_update_seq (Heap.get?_push_of_some _ (Heap.get?_push_of_some _ h1)) fun Z=>out⟩
 refine wpAny_pure ⟨_,rfl,q _ _ _ c _ sz (fun b ob e=>?_) hc a1⟩
 have hb:b < g.objs.size:=Heap.lt_size (st b ob e)
 show (sortedHeap _ _ _ _).get? b=some ob
 rw [sortedHeap_old (Nat.ne_of_lt hb) (Nat.lt_trans hb lt)]
 exact Heap.get?_push_of_some _ (st b ob e)
end
section
variable {X:Cx}
noncomputable def IntS (w:World) (a:Addr) (ns:List Nat):HO:=.ext fun h=>SetZ h a (!byT w) ns
noncomputable def ofN (ns:List Nat):List V:=(ns.map Int.ofNat).map V.int
noncomputable def rSetZ (w:World) (K:PySem.W.Frag):List V→Hp→VK→Prop:=fun xs H Q=>∃ (l:Addr) (ns:List Nat),xs=[.ref l]∧SqL K H l (ofN ns)∧ns∈subs6∧∀ D,H D=none→Q (.ref D) (upd H D (IntS w D ns))
theorem call_setZ (hc:X.calm=true):CallR X (.type "set") (rSetZ X.w X.K):=by
 intro pins s σ H xs us Q I r h
 obtain ⟨l,ns,rfl,hl,hm,q⟩:=h
 obtain ⟨u,rfl,ru⟩:=vals1 r
 obtain rfl:u=Value.ref l:=ru
 refine bC fun g_=>?_
 obtain ⟨its,v,P1,z1⟩:=I.list hl
 refine g_ ?_
 clear g_
 refine set_of_ints (I.ok.hd hc) P1.isList (intsAre_of v) hm fun h' tk hS kp=>?_
 refine ⟨.ref s.heap.objs.size,_,I.laid (t':=tk) kp (Nat.le_refl _) ?_,rfl,q _ (I.hok.fresh (Nat.le_refl _))⟩
 refine bC fun g_=>?_
 obtain ⟨o,es,ep,ho,rest⟩:=id hS
 refine g_ ?_
 clear g_
 refine ⟨hS,⟨o,ho⟩,?_⟩
 rintro h1 h2 ⟨o,es,ep,e,r⟩ k
 exact ⟨o,es,ep,k _ e,r⟩
noncomputable def rSortZ (w:World):List V→Hp→VK→Prop:=fun xs H Q=>∃ (a:Addr) (ns:List Nat),xs=[.ref a]∧H a=some (IntS w a ns)∧ns∈subs6∧∀ D,H D=none→Q (.ref D) (upd H D (.lst (ofN ns)))
theorem call_sortZ (hc:X.calm=true):CallR X (.builtin "sorted") (rSortZ X.w):=by
 intro pins s σ H xs us Q I r h
 obtain ⟨a,ns,rfl,ha,hm,q⟩:=h
 obtain ⟨u,rfl,ru⟩:=vals1 r
 obtain rfl:u=Value.ref a:=ru
 refine bC fun g_=>?_
 obtain ⟨o,es,ep,ho,hx,hd,he⟩:=(I.hok a _ ha).1
 refine g_ ?_
 clear g_
 refine sorted_set (I.ok.hd hc) hm ho hx hd he fun D g n c out sz st hD io=>?_
 refine ⟨.ref D,_,I.laid (t':=n) (o:=.lst (ofN ns)) st sz (show ObjOk X.prog X.w _ g _ (.lst _) from ⟨?_,out,c,vals_ints io,hD⟩),rfl,q D (I.hok.fresh sz)⟩
 unfold ofN
 rw [List.length_map,List.length_map,sizeLine_eq]
 exact Nat.le_trans (fits_all ns hm true).2.2.1 (by decide)
end
section
variable {X:Cx} {K:PySem.W.Frag} {a:Expr} {ta:TE}
theorem blk0 {scope:Scope} {own:List Str} (kind:scope.kind=.function) (h:(scope.names.all fun y=>decide (y.2≠.cell) && (decide (y.2≠.free) && decide (y.2=.local→scope.names.lookup y.1=some .local)))=true):BlkScope X scope own [] []:=by
 have g:∀ y∈scope.names,y.2≠.cell∧y.2≠.free∧(y.2=.local→scope.names.lookup y.1=some .local):=fun y hy=>by
  have:=List.all_eq_true.mp h y hy
  rw [Bool.and_eq_true,Bool.and_eq_true] at this
  exact ⟨of_decide_eq_true this.1,of_decide_eq_true this.2.1,of_decide_eq_true this.2.2⟩
 exact ⟨kind,fun y hy=>(g y hy).1,fun y hy=>(g y hy).2.2,fun y hy e=>absurd e (g y hy).2.1,rfl,fun y hy=>by simp at hy⟩
theorem nd1 (x:Str):[x].Nodup:=by simp
theorem ix_tupK (h:X.K=K):IxR X (rIxT K):=by subst h; exact ix_tup
theorem ix_listK (h:X.K=K):IxR X (rIxL K):=by subst h; exact ix_list
theorem call_isiK (h:X.K=K):CallR X (.builtin "isinstance") (rIsi K):=by subst h; exact call_isi
theorem pe_fldK {f:Str} {pos:Pos} (h:X.K=K) (he:PE X a ta) (hb:attributeBase a f X.env (eval a X.env)=eval a X.env):PE X (.Attribute a f pos) (tFld K ta f):=by subst h; exact pe_fld he hb
theorem pt_truthK (h:X.K=K) (ha:PE X a ta) (he:∀ whole,isTrue a X.env whole=(do let v ← whole; standAt a.pos; holding [v] (truthy v))):PT X a (fun σ H Q=>ta σ H fun x H'=>∃ k,TruV K x H' k∧Q k H'):=by subst h; exact pt_truth ha he
end
end L2
namespace Car
open PySem L2
inductive Ex2 {α0:Type} {α1:Type} (p:α0→α1→Prop):Prop
 | mk (a0:α0) (a1:α1) (h:p a0 a1):Ex2 p
inductive Ex3 {α0:Type} {α1:Type} {α2:Type} (p:α0→α1→α2→Prop):Prop
 | mk (a0:α0) (a1:α1) (a2:α2) (h:p a0 a1 a2):Ex3 p
inductive Ex4 {α0:Type} {α1:Type} {α2:Type} {α3:Type} (p:α0→α1→α2→α3→Prop):Prop
 | mk (a0:α0) (a1:α1) (a2:α2) (a3:α3) (h:p a0 a1 a2 a3):Ex4 p
inductive Ex5 {α0:Type} {α1:Type} {α2:Type} {α3:Type} {α4:Type} (p:α0→α1→α2→α3→α4→Prop):Prop
 | mk (a0:α0) (a1:α1) (a2:α2) (a3:α3) (a4:α4) (h:p a0 a1 a2 a3 a4):Ex5 p
inductive Ex6 {α0:Type} {α1:Type} {α2:Type} {α3:Type} {α4:Type} {α5:Type} (p:α0→α1→α2→α3→α4→α5→Prop):Prop
 | mk (a0:α0) (a1:α1) (a2:α2) (a3:α3) (a4:α4) (a5:α5) (h:p a0 a1 a2 a3 a4 a5):Ex6 p
inductive Ex7 {α0:Type} {α1:Type} {α2:Type} {α3:Type} {α4:Type} {α5:Type} {α6:Type} (p:α0→α1→α2→α3→α4→α5→α6→Prop):Prop
 | mk (a0:α0) (a1:α1) (a2:α2) (a3:α3) (a4:α4) (a5:α5) (a6:α6) (h:p a0 a1 a2 a3 a4 a5 a6):Ex7 p
inductive Ex8 {α0:Type} {α1:Type} {α2:Type} {α3:Type} {α4:Type} {α5:Type} {α6:Type} {α7:Type} (p:α0→α1→α2→α3→α4→α5→α6→α7→Prop):Prop
 | mk (a0:α0) (a1:α1) (a2:α2) (a3:α3) (a4:α4) (a5:α5) (a6:α6) (a7:α7) (h:p a0 a1 a2 a3 a4 a5 a6 a7):Ex8 p
noncomputable def top (i:Nat):Stmt:=PySem.Challenge.pw_carvebed_k45_needed_cutters.main.body.getD i (.Pass ⟨0,0,0,0⟩)
structure FnT (K:PySem.W.Frag) (x:Str) (st:Stmt) (f:Addr) (fd:FuncData):Prop where
 ns:PySem.W.nsIn K mainGlobals x=some (some (.ref f))
 fn:Fun K x x st f fd
structure C_Cells (K:PySem.W.Frag) (C f0 f1 f2 f3 f4:Addr) (d0 d1 d2 d3 d4:FuncData):Prop where
 ns:PySem.W.nsIn K mainGlobals "Cells"=some (some (.ref C))
 cl:Cls K C
 fn___init__:Fun K "__init__" "Cells.__init__" (inClass (top 3) 0) f0 d0
 mks:Mk K C f0
 fn_has_cell:Fun K "has_cell" "Cells.has_cell" (inClass (top 3) 1) f1 d1
 mt_has_cell:Meth K C "has_cell" f1
 fn_under:Fun K "under" "Cells.under" (inClass (top 3) 2) f2 d2
 mt_under:Meth K C "under" f2
 fn_rises_above:Fun K "rises_above" "Cells.rises_above" (inClass (top 3) 3) f3 d3
 mt_rises_above:Meth K C "rises_above" f3
 fn_cut_down:Fun K "cut_down" "Cells.cut_down" (inClass (top 3) 4) f4 d4
 mt_cut_down:Meth K C "cut_down" f4
 n_rows:NoAttr K C "rows"
structure C_Share (K:PySem.W.Frag) (C f0 f1 f2 f3 f4:Addr) (d0 d1 d2 d3 d4:FuncData):Prop where
 ns:PySem.W.nsIn K mainGlobals "Share"=some (some (.ref C))
 cl:Cls K C
 fn___init__:Fun K "__init__" "Share.__init__" (inClass (top 15) 0) f0 d0
 mks:Mk K C f0
 fn_is_due:Fun K "is_due" "Share.is_due" (inClass (top 15) 1) f1 d1
 mt_is_due:Meth K C "is_due" f1
 fn_trimmed:Fun K "trimmed" "Share.trimmed" (inClass (top 15) 2) f2 d2
 mt_trimmed:Meth K C "trimmed" f2
 fn_lowest_along:Fun K "lowest_along" "Share.lowest_along" (inClass (top 15) 3) f3 d3
 mt_lowest_along:Meth K C "lowest_along" f3
 fn_parts_below:Fun K "parts_below" "Share.parts_below" (inClass (top 15) 4) f4 d4
 mt_parts_below:Meth K C "parts_below" f4
 n_cutter:NoAttr K C "cutter"
 n_lowests:NoAttr K C "lowests"
 n_due:NoAttr K C "due"
structure C_Plan (K:PySem.W.Frag) (C f0 f1 f2 f3 f4 f5:Addr) (d0 d1 d2 d3 d4 d5:FuncData):Prop where
 ns:PySem.W.nsIn K mainGlobals "Plan"=some (some (.ref C))
 cl:Cls K C
 fn___init__:Fun K "__init__" "Plan.__init__" (inClass (top 17) 0) f0 d0
 mks:Mk K C f0
 fn_go_to:Fun K "go_to" "Plan.go_to" (inClass (top 17) 1) f1 d1
 mt_go_to:Meth K C "go_to" f1
 fn_take_cutter:Fun K "take_cutter" "Plan.take_cutter" (inClass (top 17) 2) f2 d2
 mt_take_cutter:Meth K C "take_cutter" f2
 fn_go_above:Fun K "go_above" "Plan.go_above" (inClass (top 17) 3) f3 d3
 mt_go_above:Meth K C "go_above" f3
 fn_sweep:Fun K "sweep" "Plan.sweep" (inClass (top 17) 4) f4 d4
 mt_sweep:Meth K C "sweep" f4
 fn_do_row:Fun K "do_row" "Plan.do_row" (inClass (top 17) 5) f5 d5
 mt_do_row:Meth K C "do_row" f5
 n_stuff:NoAttr K C "stuff"
 n_stands:NoAttr K C "stands"
 n_moves:NoAttr K C "moves"
structure FunL (K:PySem.W.Frag) (x:Str) (st:Stmt) (f:Addr) (fd:FuncData) (c:Addr):Prop where
 ex:∃ (oc:Value) (od:Option Addr) (kV doc pm:Value) (an:Option Addr) (ct:Value) (osl:Array (Option Value)),fd=PySem.W.fnOf x x (defArgs st) (defBody st) (defScope st) .none kV doc pm an (.ref c) ct∧K.lookup f=some ⟨oc,od,.func fd,osl⟩∧PySem.W.codeIn K (.ref c) x=true
 kp:PySem.W.keepIn K (.ref f)=true
structure FnTL (K:PySem.W.Frag) (x:Str) (st:Stmt) (f:Addr) (fd:FuncData) (c P:Addr):Prop where
 ns:PySem.W.nsIn K mainGlobals x=some (some (.ref f))
 fn:FunL K x st f fd c
 hd:PySem.W.codeHdIn K c P=true
structure NoneT (K:PySem.W.Frag):Prop where
 len:PySem.W.nsIn K mainGlobals "len"=some none
 max:PySem.W.nsIn K mainGlobals "max"=some none
 min:PySem.W.nsIn K mainGlobals "min"=some none
 range:PySem.W.nsIn K mainGlobals "range"=some none
 isin:PySem.W.nsIn K mainGlobals "isinstance"=some none
 abs:PySem.W.nsIn K mainGlobals "abs"=some none
 tuple:PySem.W.nsIn K mainGlobals "tuple"=some none
 list:PySem.W.nsIn K mainGlobals "list"=some none
 bool:PySem.W.nsIn K mainGlobals "bool"=some none
 int:PySem.W.nsIn K mainGlobals "int"=some none
 enum:PySem.W.nsIn K mainGlobals "enumerate"=some none
 zip:PySem.W.nsIn K mainGlobals "zip"=some none
 any:PySem.W.nsIn K mainGlobals "any"=some none
 sorted:PySem.W.nsIn K mainGlobals "sorted"=some none
 set:PySem.W.nsIn K mainGlobals "set"=some none
inductive PspLaw (T1 T2:Addr) (K:PySem.W.Frag) (vs:List V) (H:Hp) (Q:VK):Prop
 | mk (a:Addr) (ns:List Int) (h0:vs=[.ref a]) (h1:SqL K H a (ns.map V.int)) (h2:H T1=some (.tbl #[])) (h3:H T2=some (.tbl #[])) (h4:T1≠T2) (h5:∀ H',Q (.bl true) H'):PspLaw T1 T2 K vs H Q
noncomputable def spLaw (T1 T2:Addr) (K:PySem.W.Frag):Sp:=fun vs H Q Z=>PspLaw T1 T2 K vs H Q
structure Prem (K:PySem.W.Frag) (mg:Str→Option Value) (h:Heap) (CC CS CV:Addr):Prop where
 X:K.In h
 G:h.Ns mainGlobals mg
 N:NoneT K
 i1:∃ t,PySem.W.nsIn K mainGlobals "TOP"=some (some (.int 1000 t))
 T_cells_of:∃ f fd,FnT K "cells_of" (top 5) f fd
 T_within:∃ f fd,FnT K "within" (top 6) f fd
 T_cells_under:∃ f fd,FnT K "cells_under" (top 7) f fd
 T_greatest:∃ f fd,FnT K "greatest" (top 8) f fd
 T_cut_down:∃ f fd,FnT K "cut_down" (top 9) f fd
 T_had:∃ f fd,FnT K "had" (top 10) f fd
 T_lesser_row:∃ f fd,FnT K "lesser_row" (top 12) f fd
 T_least_of:∃ f fd,FnT K "least_of" (top 13) f fd
 T_levels:∃ f fd,FnT K "levels" (top 16) f fd
 T__law_cell_at:∃ f fd,FnT K "_law_cell_at" (top 20) f fd
 T__law_stir:∃ f fd,FnT K "_law_stir" (top 21) f fd
 T__law_bed:∃ f fd,FnT K "_law_bed" (top 22) f fd
 T__law_wished:∃ f fd,FnT K "_law_wished" (top 23) f fd
 T__law_foot:∃ f fd,FnT K "_law_foot" (top 24) f fd
 T__law_shelf:∃ f fd,FnT K "_law_shelf" (top 25) f fd
 T__law_lowest:∃ f fd,FnT K "_law_lowest" (top 26) f fd
 T__law_had:∃ f fd,FnT K "_law_had" (top 27) f fd
 T_needed:∃ f fd c,FnTL K "needed" (top 14) f fd c 110
 T_moves_for:∃ f fd c,FnTL K "moves_for" (top 18) f fd c 219
 T_Cells:∃ f0 f1 f2 f3 f4 d0 d1 d2 d3 d4,C_Cells K CC f0 f1 f2 f3 f4 d0 d1 d2 d3 d4
 T_Share:∃ f0 f1 f2 f3 f4 d0 d1 d2 d3 d4,C_Share K CS f0 f1 f2 f3 f4 d0 d1 d2 d3 d4
 T_Plan:∃ f0 f1 f2 f3 f4 f5 d0 d1 d2 d3 d4 d5,C_Plan K CV f0 f1 f2 f3 f4 f5 d0 d1 d2 d3 d4 d5
structure Ev where
 P:Program
 w:World
 K:PySem.W.Frag
 mg:Str→Option Value
 base:Heap
 CC:Addr
 CS:Addr
 CV:Addr
instance:Nonempty Ev:=⟨⟨default,⟨fun Z Z=>0,{ strHash:=fun Z=>0,shareClass:=fun Z=>0,mergeTok:=id,idOf:=fun Z=>0,idOfShared:=fun Z Z=>0,followText:=fun Z=>true,idOfImm:=fun Z=>0 }⟩,[],fun Z=>none,default,0,0,0⟩⟩
inductive Bad (e:Ev):Prop
 | mk (h:Heap) (f:Addr) (d:FuncData) (p:Prem e.K e.mg h e.CC e.CS e.CV) (t:FnT e.K "law" (top 28) f d) (b:BmB e.mg e.base) (no:¬FnOk e.P e.w e.K e.mg e.base (CX1 e.P e.w) 6 f d ["script"] (spLaw 110 219 e.K)):Bad e
noncomputable def ev:Ev:=Classical.epsilon Bad
noncomputable def P:Program:=ev.P
noncomputable def w:World:=ev.w
noncomputable def K:PySem.W.Frag:=ev.K
noncomputable def mg:Str→Option Value:=ev.mg
noncomputable def base:Heap:=ev.base
noncomputable def CC:Addr:=ev.CC
noncomputable def CS:Addr:=ev.CS
noncomputable def CV:Addr:=ev.CV
seal Car.ev
theorem same_upd {H:Hp} {p:Addr} (h:H p=none) (o:HO):Same H (upd H p o):=fun b u q=>by rw [upd_ne (ne_of_none q h)]; exact q
section
variable {K:PySem.W.Frag} {H:Hp}
end
noncomputable def MvAt (H:Hp):List Addr→List (List V)→Prop
 | [],[]=>True
 | t :: ts,m :: ms=>H t=some (.tup m)∧MvAt H ts ms
 | _,_=>False
theorem MvAt.upd {H:Hp} {q:Addr} {o:HO} (hq:∀ m,H q≠some (.tup m)):∀ {ts:List Addr} {ms:List (List V)},MvAt H ts ms→MvAt (upd H q o) ts ms
 | [],[],_=>True.intro
 | t :: ts,m :: ms,⟨h,r⟩=>⟨by rw [upd_ne (fun z=>hq m (by rw [← z]; exact h))]; exact h,MvAt.upd hq r⟩
theorem MvAt.same {H H':Hp} (s:Same H H'):∀ {ts:List Addr} {ms:List (List V)},MvAt H ts ms→MvAt H' ts ms
 | [],[],_=>True.intro
 | t :: ts,m :: ms,⟨h,r⟩=>⟨s _ _ h,MvAt.same s r⟩
theorem MvAt.snoc {H:Hp} {t:Addr} {m:List V} (h:H t=some (.tup m)):∀ {ts:List Addr} {ms:List (List V)},MvAt H ts ms→MvAt H (ts++[t]) (ms++[m])
 | [],[],_=>⟨h,True.intro⟩
 | t :: ts,m :: ms,⟨h1,r⟩=>⟨h1,MvAt.snoc h r⟩
theorem MvAt.len {H:Hp}:∀ {ts:List Addr} {ms:List (List V)},MvAt H ts ms→ts.length=ms.length
 | [],[],_=>rfl
 | t :: ts,m :: ms,⟨_,r⟩=>by rw [List.length_cons,List.length_cons,r.len]
theorem same_in {H0 H:Hp} {q:Addr} {o:HO} (s:Same H0 H) (h:H0 q=none):Same H0 (upd H q o):=fun b u e=>by
 rw [upd_ne (ne_of_none e h)]
 exact s b u e
theorem line3 {n c:Nat} (h:n≤c) (h2:c≤2000):n < sizeLine:=Nat.lt_of_le_of_lt (Nat.le_trans h h2) (by decide)
noncomputable def Wd (n:Nat) (Pv:Nat→St→List V→Hp→Prop) (i m:Nat) (σ:St) (acc:List V) (H:Hp):Prop:=m=n - i∧i≤n∧Pv i σ acc H
theorem wd_next {n:Nat} {Pv:Nat→St→List V→Hp→Prop} {i:Nat} {σ:St} {acc:List V} {H:Hp} (h:i < n) (p:Pv (i + 1) σ acc H):∃ m',m' < n - i∧Wd n Pv (i + 1) m' σ acc H:=⟨n - (i + 1),Nat.sub_lt_sub_left h (Nat.lt_succ_self i),rfl,h,p⟩
theorem lc_ask {K:PySem.W.Frag} {a:Addr} {xs:List V} {i:Nat} {H:Hp} {A:Prop} {B:V→Hp→Prop} (q:SqL K H a xs) (hi:i≤xs.length) (hs:∀ x,xs[i]?=some x→i < xs.length→B x H) (hd:i=xs.length→A) :
  ((Itl K a).stop i H∧A)∨((Itl K a).go i H∧∀ x H',(Itl K a).yld i H x H'→B x H'):=by
 by_cases hlt:i < xs.length
 ·refine .inr ⟨⟨xs,xs[i],q,by simp [hlt]⟩,fun x H' y=>?_⟩
  obtain ⟨e,y⟩:=y
  subst e
  exact hs x (y xs q) hlt
 ·exact .inl ⟨⟨xs,q,by lia⟩,hd (by lia)⟩
theorem wd_0 {n:Nat} {Pv:Nat→St→List V→Hp→Prop} {σ:St} {acc:List V} {H:Hp} (h:Pv 0 σ acc H):∃ m,Wd n Pv 0 m σ acc H:=⟨n,by simp,Nat.zero_le _,h⟩
end Car
namespace L2
open PySem PySem.Spec PyProof.Rows
noncomputable def tMid (t u:TS):TS:=fun D σ H=>∃ N:St→Hp→Prop,t (Ends.sq D (N)) σ H∧∀ σ' H',N σ' H'→u D σ' H'
set_option tactic.hygienic true in
theorem pss_mid {X:Cx} {st:Stmt} {rest:List Stmt} {t u:TS} (h1:PS X st t) (h2:PSs X rest u):PSs X (st :: rest) (tMid t u):=by
 intro pins s σ H D I ⟨N,h,hN⟩
 refine wpAny_execs_cons (thn (h1 pins s σ H (Ends.sq D (N)) I h) fun f s1 q=>?_)
 cases f with
 | next =>
  refine bC fun g_=>?_
  obtain ⟨σ',H',I',q⟩:=q
  refine g_ ?_
  clear g_
  exact h2 pins s1 σ' H' D I' (hN σ' H' q)
 | ret v=>exact q
 | brk=>exact q
 | cont=>exact q
theorem same_drop {H H':Hp} {d:Addr}:Same (drop H d) (drop H' d)↔∀ b o,b≠d→H b=some o→H' b=some o:=by
 constructor
 ·intro s b o hb e
  have:=s b o (by rw [drop_ne hb]; exact e)
  rw [drop_ne hb] at this
  exact this
 ·intro h b o e
  by_cases hb:b=d
  ·rw [hb,drop_same] at e
   cases e
  ·rw [drop_ne hb] at e ⊢
   exact h b o hb e
noncomputable def dropL (H:Hp) (ds:List Addr):Hp:=fun b=>if b∈ds then none else H b
theorem dropL_le {H:Hp} {ds:List Addr}:Same (dropL H ds) H:=fun b o e=>by
 unfold dropL at e
 by_cases hb:b∈ds
 ·rw [if_pos hb] at e; cases e
 ·rw [if_neg hb] at e; exact e
theorem dropL_at {H:Hp} {ds:List Addr} {t:Addr} {o:HO} (h:t ∉ ds) (e:H t=some o):dropL H ds t=some o:=by
 unfold dropL
 rw [if_neg h]
 exact e
theorem drop_le {H:Hp} {d:Addr}:Same (drop H d) H:=fun b o e=>by
 by_cases hb:b=d
 ·rw [hb,drop_same] at e; cases e
 ·rw [drop_ne hb] at e; exact e
end L2
namespace Car
open PySem L2
theorem bt_max:bootBuiltins "max"=some (.builtin "max"):=by decide +kernel
theorem bt_min:bootBuiltins "min"=some (.builtin "min"):=by decide +kernel
theorem bt_isin:bootBuiltins "isinstance"=some (.builtin "isinstance"):=by decide +kernel
theorem bt_list:bootBuiltins "list"=some (.type "list"):=by decide +kernel
theorem bt_bool:bootBuiltins "bool"=some (.type "bool"):=by decide +kernel
theorem bt_int:bootBuiltins "int"=some (.type "int"):=by decide +kernel
structure LawT (mg:Str→Option Value):Prop where
 len:mg "len"=none
 max:mg "max"=none
 min:mg "min"=none
 range:mg "range"=none
 isin:mg "isinstance"=none
 abs:mg "abs"=none
 tuple:mg "tuple"=none
 list:mg "list"=none
 bool:mg "bool"=none
 int:mg "int"=none
theorem at_mem {xs:List V} {i:Int} (h0:0≤i) (h:i < (xs.length:Int)):∃ v,atI xs i=some v∧v∈xs:=by
 have hlt:i.toNat < xs.length:=by lia
 refine ⟨xs[i.toNat],?_,List.getElem_mem hlt⟩
 have:=atI_nat (List.getElem?_eq_getElem hlt)
 rw [show ((i.toNat:Nat):Int)=i by lia] at this
 exact this
theorem mod_lt (n:Int) {m:Int} (h:0 < m):0≤n % m∧n % m < m:=⟨Int.emod_nonneg _ (by lia),Int.emod_lt_of_pos _ h⟩
theorem _root_.L2.Same.drop {H H':Hp} (s:Same H H') (d:Addr):Same (L2.drop H d) (L2.drop H' d):=same_drop.mpr fun b o Z e=>s b o e
section
variable {P:Program} {w:World} {K:PySem.W.Frag} {mg:Str→Option Value} {base:Heap} {f:Addr} {fd':FuncData}
theorem k_list_list:PySem.W.kitOne K (.type "list") (.type "list")=some true:=by kernel_rfl
theorem k_int_bool:PySem.W.kitOne K (.type "int") (.type "bool")=some false:=by kernel_rfl
theorem passN {X:Cx}:Passes (CX1 P w) X E0:=fun Z Z Z Z Z Z Z h=>by
 refine bC fun g_=>?_
 refine bC fun g_=>?_
 obtain ⟨_,_,_,_,_,_,_,_,_,_,_,_,_,_,_,ff⟩:=h
 refine g_ ?_
 clear g_
 refine g_ ?_
 clear g_
 exact ff.elim
end
mutual
theorem eqv_self:∀ d:PyData,PyData.canLay0 d=true→PyData.eqv d d=true
 | .none,_=>by rw [PyData.eqv]
 | .bool b,_=>by rw [PyData.eqv]; simp
 | .int i,_=>by rw [PyData.eqv]; simp
 | .str x,_=>by rw [PyData.eqv]; simp
 | .list xs,h=>by rw [PyData.canLay0] at h; rw [PyData.eqv]; exact eqvAll_self xs h
 | .tuple xs,h=>by rw [PyData.canLay0] at h; rw [PyData.eqv]; exact eqvAll_self xs h
 | .dict _,h=>by rw [PyData.canLay0] at h; cases h
theorem eqvAll_self:∀ xs:List PyData,PyData.canLayAll0 xs=true→PyData.eqvAll xs xs=true
 | [],_=>by rw [PyData.eqvAll]
 | x :: r,h=>by
  rw [PyData.canLayAll0,Bool.and_eq_true] at h
  rw [PyData.eqvAll,eqv_self x h.1,eqvAll_self r h.2]
  rfl
end
theorem le1:1≤sizeLine:=by decide
theorem le2:2≤sizeLine:=by decide
theorem le3:3≤sizeLine:=by decide
section
variable {P:Program} {w:World} {K:PySem.W.Frag} {mg:Str→Option Value} {base:Heap} {f:Addr} {fd':FuncData}
theorem blkC {X:Cx} {scope:Scope} {own capn:List Str} {capI:List Nat} (sc:Scope) (hsc:X.env.scope=sc) (kind:scope.kind=.function) (h:(scope.names.all fun y=>decide (y.2≠.cell) && (decide (y.2=.local→scope.names.lookup y.1=some .local) && decide (y.2=.free→sc.names.lookup y.1=some .cell)))=true) (caps:capI.map (fun i=>X.N[i]?)=capn.map some)
  (capc:∀ y∈capn,X.env.scope.names.lookup y=some .cell∧(relabel scope X.env).names.lookup y=some .cell):BlkScope X scope own capn capI:=by
 have g:∀ y∈scope.names,y.2≠.cell∧(y.2=.local→scope.names.lookup y.1=some .local)∧(y.2=.free→sc.names.lookup y.1=some .cell):=fun y hy=>by
  have:=List.all_eq_true.mp h y hy
  rw [Bool.and_eq_true,Bool.and_eq_true] at this
  exact ⟨of_decide_eq_true this.1,of_decide_eq_true this.2.1,of_decide_eq_true this.2.2⟩
 exact ⟨kind,fun y hy=>(g y hy).1,fun y hy=>(g y hy).2.1,fun y hy e=>by rw [hsc]; exact (g y hy).2.2 e,caps,capc⟩
end
end Car
namespace L2
open PySem PySem.Spec PyProof.Rows
theorem drop_upd_same {H:Hp} {d:Addr} {o:HO}:drop (upd H d o) d=drop H d:=by
 funext b
 by_cases h:b=d
 ·rw [h,drop_same,drop_same]
 ·rw [drop_ne h,drop_ne h,upd_ne h]
section
variable {X:Cx} {pos:Pos}
end
section
variable {X:Cx} {K:PySem.W.Frag}
theorem call_lenK (h:X.K=K):CallR X (.builtin "len") (rLen K):=by subst h; exact call_len_seq
theorem sl_listK (h:X.K=K):SlR X (rSlL K):=by subst h; exact sl_list
theorem op_eqDK (h:X.K=K) (hu:X.A.units + 64 < cLine):OpR X (compareOp .Eq) (rEqD K false):=by subst h; exact op_eqD hu
theorem op_neDK (h:X.K=K) (hu:X.A.units + 64 < cLine):OpR X (compareOp .NotEq) (rEqD K true):=by subst h; exact op_neD hu
theorem pi_listK {tg l:Expr} {tl:TE} (h:X.K=K) (hl:PE X l tl):PI X tg l (iList K tl):=by subst h; exact pi_list hl
theorem call_listK (h:X.K=K):CallR X (.type "list") (rListOf K):=by subst h; exact call_list_of
end
end L2
namespace Car
open PySem L2
noncomputable abbrev sCells:Stmt:=top 5
noncomputable abbrev sWithin:Stmt:=top 6
noncomputable abbrev sUnder:Stmt:=top 7
noncomputable abbrev sGreat:Stmt:=top 8
noncomputable abbrev sCut:Stmt:=top 9
noncomputable abbrev sHad:Stmt:=top 10
noncomputable abbrev sLess:Stmt:=top 12
noncomputable abbrev sLeast:Stmt:=top 13
noncomputable abbrev sNeed:Stmt:=top 14
noncomputable abbrev sLev:Stmt:=top 16
noncomputable abbrev sMoves:Stmt:=top 18
noncomputable abbrev sAt:Stmt:=top 20
noncomputable abbrev sStir:Stmt:=top 21
noncomputable abbrev sBed:Stmt:=top 22
noncomputable abbrev sWish:Stmt:=top 23
noncomputable abbrev sFoot:Stmt:=top 24
noncomputable abbrev sShelf:Stmt:=top 25
noncomputable abbrev sLowL:Stmt:=top 26
noncomputable abbrev sHadL:Stmt:=top 27
noncomputable abbrev sLaw:Stmt:=top 28
noncomputable abbrev sCellsI:Stmt:=inClass (top 3) 0
noncomputable abbrev sHas:Stmt:=inClass (top 3) 1
noncomputable abbrev sUnd:Stmt:=inClass (top 3) 2
noncomputable abbrev sDown:Stmt:=inClass (top 3) 4
noncomputable abbrev sShI:Stmt:=inClass (top 15) 0
noncomputable abbrev sIsDue:Stmt:=inClass (top 15) 1
noncomputable abbrev sTrim:Stmt:=inClass (top 15) 2
noncomputable abbrev sAlong:Stmt:=inClass (top 15) 3
noncomputable abbrev sParts:Stmt:=inClass (top 15) 4
noncomputable abbrev sPlI:Stmt:=inClass (top 17) 0
noncomputable abbrev sGo:Stmt:=inClass (top 17) 1
noncomputable abbrev sTake:Stmt:=inClass (top 17) 2
noncomputable abbrev sAbove:Stmt:=inClass (top 17) 3
noncomputable abbrev sSweep:Stmt:=inClass (top 17) 4
noncomputable abbrev sRow:Stmt:=inClass (top 17) 5
noncomputable abbrev pr (c:Int×Int):List V:=[.int c.1,.int c.2]
noncomputable def RowsAt (H:Hp):List Addr→List (List Int)→Prop
 | [],[]=>True
 | r :: rs,row :: rows=>H r=some (.lst (row.map V.int))∧RowsAt H rs rows
 | _,_=>False
theorem RowsAt.same {H H':Hp} (s:Same H H'):∀ {rs:List Addr} {rows:List (List Int)},RowsAt H rs rows→RowsAt H' rs rows
 | [],[],_=>True.intro
 | _ :: _,_ :: _,h=>⟨s _ _ h.1,RowsAt.same s h.2⟩
 | [],_ :: _,h=>h.elim
 | _ :: _,[],h=>h.elim
theorem RowsAt.len {H:Hp}:∀ {rs:List Addr} {rows:List (List Int)},RowsAt H rs rows→rs.length=rows.length
 | [],[],_=>rfl
 | _ :: _,_ :: _,h=>by rw [List.length_cons,List.length_cons,RowsAt.len h.2]
 | [],_ :: _,h=>h.elim
 | _ :: _,[],h=>h.elim
theorem RowsAt.at_ {H:Hp}:∀ {rs:List Addr} {rows:List (List Int)} {i:Nat} {row:List Int},RowsAt H rs rows→rows[i]?=some row→∃ r,rs[i]?=some r∧H r=some (.lst (row.map V.int))
 | [],[],_,_,_,e=>by simp at e
 | r :: _,_ :: _,0,_,h,e=>by cases e; exact ⟨r,rfl,h.1⟩
 | _ :: _,_ :: _,i + 1,_,h,e=>by
  refine bC fun g_=>?_
  obtain ⟨r,a,b⟩:=RowsAt.at_ (i:=i) h.2 e
  refine g_ ?_
  clear g_
  exact ⟨r,a,b⟩
 | [],_ :: _,_,_,h,_=>h.elim
 | _ :: _,[],_,_,h,_=>h.elim
theorem MvAt.at_ {H:Hp}:∀ {ts:List Addr} {ms:List (List V)} {i:Nat} {t:Addr} {m:List V},MvAt H ts ms→ts[i]?=some t→ms[i]?=some m→H t=some (.tup m)
 | [],[],_,_,_,_,e,_=>by simp at e
 | _ :: _,_ :: _,0,_,_,⟨h,_⟩,e,e'=>by
  cases e
  cases e'
  exact h
 | _ :: _,_ :: _,i + 1,_,_,h,e,e'=>MvAt.at_ (i:=i) h.2 e e'
noncomputable def BdAt (H:Hp) (b:Addr) (rows:List (List Int)):Prop:=∃ rs,H b=some (.lst (rs.map V.ref))∧RowsAt H rs rows
noncomputable def FtAt (H:Hp) (f:Addr) (cs:List (Int×Int)):Prop:=∃ ts,H f=some (.lst (ts.map V.ref))∧MvAt H ts (cs.map pr)
theorem BdAt.same {H H':Hp} {b:Addr} {rows:List (List Int)} (h:BdAt H b rows) (s:Same H H'):BdAt H' b rows:=by
 refine bC fun g_=>?_
 obtain ⟨rs,a,c⟩:=h
 refine g_ ?_
 clear g_
 exact ⟨rs,s _ _ a,c.same s⟩
theorem FtAt.same {H H':Hp} {b:Addr} {cs:List (Int×Int)} (h:FtAt H b cs) (s:Same H H'):FtAt H' b cs:=by
 refine bC fun g_=>?_
 obtain ⟨rs,a,c⟩:=h
 refine g_ ?_
 clear g_
 exact ⟨rs,s _ _ a,c.same s⟩
noncomputable def ins (rows:List (List Int)) (c:Int×Int):Bool:=decide (0≤c.2∧c.2 < rows.length∧0≤c.1∧c.1 < (rows.headD []).length)
noncomputable def hgt (rows:List (List Int)) (c:Int×Int):Int:=((rows[c.2.toNat]?).bind fun r=>r[c.1.toNat]?).getD 0
noncomputable def Rect (rows:List (List Int)):Prop:=rows≠[]∧∀ r∈rows,r.length=(rows.headD []).length
theorem ins_at {rows:List (List Int)} {c:Int×Int} (h:ins rows c=true) (R:Rect rows):∃ (i j:Nat) (row:List Int) (v:Int),c=((j:Int),(i:Int))∧rows[i]?=some row∧row[j]?=some v∧hgt rows c=v:=by
 obtain ⟨x,y⟩:=c
 obtain ⟨a1,a2,a3,a4⟩:0≤y∧y < rows.length∧0≤x∧x < (rows.headD []).length:=of_decide_eq_true h
 have hy:y.toNat < rows.length:=by lia
 have hr:=R.2 _ (List.getElem_mem hy)
 have hx:x.toNat < (rows[y.toNat]).length:=by lia
 have e1:=List.getElem?_eq_getElem hy
 have e2:=List.getElem?_eq_getElem hx
 refine ⟨y.toNat,x.toNat,rows[y.toNat],(rows[y.toNat])[x.toNat],?_,e1,e2,?_⟩
 ·rw [Int.toNat_of_nonneg a1,Int.toNat_of_nonneg a3]
 ·unfold hgt
  rw [e1,Option.bind_some,e2]
  rfl
theorem ref_get {ts:List Addr} {i:Nat} {x:V} (h:(ts.map V.ref)[i]?=some x):∃ t,ts[i]?=some t∧x=.ref t:=by
 rw [List.getElem?_map] at h
 cases e:ts[i]? with
 | none=>rw [e] at h; cases h
 | some p=>rw [e] at h; cases h; exact ⟨p,rfl,rfl⟩
theorem MvAt.app {H:Hp}:∀ {ts us:List Addr} {ms ns:List (List V)},MvAt H ts ms→MvAt H us ns→MvAt H (ts++us) (ms++ns)
 | [],_,[],_,_,h=>h
 | _ :: _,_,_ :: _,_,h,h2=>⟨h.1,MvAt.app h.2 h2⟩
 | [],_,_ :: _,_,h,_=>h.elim
 | _ :: _,_,[],_,h,_=>h.elim
theorem mv_new {H:Hp} {ts:List Addr} {ms:List (List V)} {t:Addr} {m:List V} (M:MvAt H ts ms) (h:H t=none):MvAt (upd H t (.tup m)) (ts++[t]) (ms++[m]):=(M.same (same_upd h _)).snoc upd_same
theorem sbn {a:Addr} {H:Hp} {xs:List V} (h:H a=some (.lst xs)):∀ m,H a≠some (.tup m):=fun m e=>by rw [h] at e; cases e
theorem lc_tupC {K:PySem.W.Frag} {a:Addr} {xs:List V} {te:TE} {F:V→List V} {H1:Hp} {A:Hp→Prop} (caps:St) (hl:SqL K H1 a xs) (hx:xs.length≤1000)
  (hte:∀ x∈xs,∀ (H2:Hp) (R:VK),Same H1 H2→(∀ t,H2 t=none→R (.ref t) (upd H2 t (.tup (F x))))→te (some x :: caps) H2 R) {D:Addr} (hD:H1 D=none)
  (q:∀ (ts:List Addr) (H':Hp),Same H1 H'→H' D=some (.lst (ts.map V.ref))→MvAt H' ts (xs.map F)→A H') :
  ∃ W:Nat→Nat→St→List V→Hp→Prop,(∃ m,W 0 m (none :: caps) [] (upd H1 D (.lst []))) ∧
   ∀ i m σ' acc H,W i m σ' acc H→((Itl K a).stop i H∧A H)∨((Itl K a).go i H∧∀ x H',(Itl K a).yld i H x H'→gName 0 x σ' H' fun σ2 H2=>tNoIf σ2 H2 fun b H3 =>
    if b=true then te σ2 H3 fun y H4=>H4 D=some (.lst acc)∧acc.length < sizeLine∧∃ m',m' < m∧W (i + 1) m' σ2 (acc++[y]) (upd H4 D (.lst (acc++[y]))) else ∃ m',m' < m∧W (i + 1) m' σ2 acc H3):=by
 refine ⟨Wd xs.length (fun i σ acc H2=>Ex2 fun (z:Option V) (ts:List Addr)=>σ=z :: caps∧acc=ts.map V.ref∧ts.length=i∧MvAt H2 ts ((xs.take i).map F)∧Same H1 H2∧H2 D=some (.lst acc)),wd_0 ⟨none,[],rfl,rfl,rfl,by rw [List.take_zero]; exact True.intro,same_upd hD _,upd_same⟩,?_⟩
 rintro i mm σ acc H2 h_
 refine bC fun g_=>?_
 obtain ⟨e1_,hi0,z,ts,e2_,e3_,tl,mv,s2,hB2⟩:=h_
 refine g_ ?_
 clear g_
 obtain rfl:=e1_
 obtain rfl:=e2_
 obtain rfl:=e3_
 refine lc_ask (K:=K) (xs:=xs) (s2.seq hl) hi0 (fun x hx1 hi=>?_) (fun hend=>?_)
 ·show te (some x :: caps) H2 _
  refine hte x (List.mem_of_getElem? hx1) H2 _ s2 fun t ht=>⟨same_upd ht _ _ _ hB2,?_,wd_next hi ?_⟩
  ·rw [List.length_map,tl]
   exact line3 (show i≤1000 by lia) (by decide)
  ·refine ⟨_,ts++[t],rfl,by rw [List.map_append]; rfl,by rw [List.length_append,tl]; rfl,?_,same_in (s2.trans (same_upd ht _)) hD,upd_same⟩
   have e:(xs.take (i + 1)).map F=(xs.take i).map F++[F x]:=by
    rw [List.take_add_one,hx1,List.map_append]
    rfl
   rw [e]
   exact (mv_new mv ht).upd (sbn (same_upd ht _ _ _ hB2))
 ·rw [hend,List.take_of_length_le (Nat.le_refl _)] at mv
  exact q ts H2 s2 hB2 mv
theorem lc_valC {K:PySem.W.Frag} {a:Addr} {xs:List V} {te:TE} {F:V→V} {H1:Hp} {A:Hp→Prop} (caps:St) (hl:SqL K H1 a xs) (hx:xs.length≤160000)
  (hte:∀ x∈xs,∀ (H2:Hp) (R:VK),Same H1 H2→R (F x) H2→te (some x :: caps) H2 R) {D:Addr} (hD:H1 D=none)
  (q:∀ (H':Hp),Same H1 H'→H' D=some (.lst (xs.map F))→A H') :
  ∃ W:Nat→Nat→St→List V→Hp→Prop,(∃ m,W 0 m (none :: caps) [] (upd H1 D (.lst []))) ∧
   ∀ i m σ' acc H,W i m σ' acc H→((Itl K a).stop i H∧A H)∨((Itl K a).go i H∧∀ x H',(Itl K a).yld i H x H'→gName 0 x σ' H' fun σ2 H2=>tNoIf σ2 H2 fun b H3 =>
    if b=true then te σ2 H3 fun y H4=>H4 D=some (.lst acc)∧acc.length < sizeLine∧∃ m',m' < m∧W (i + 1) m' σ2 (acc++[y]) (upd H4 D (.lst (acc++[y]))) else ∃ m',m' < m∧W (i + 1) m' σ2 acc H3):=by
 refine ⟨Wd xs.length (fun i σ acc H2=>∃ (z:Option V),σ=z :: caps∧acc=(xs.take i).map F∧Same H1 H2∧H2 D=some (.lst acc)),wd_0 ⟨none,rfl,by rw [List.take_zero]; rfl,same_upd hD _,upd_same⟩,?_⟩
 rintro i mm σ acc H2 h_
 refine bC fun g_=>?_
 obtain ⟨e4_,hi0,z,e5_,e6_,s2,hB2⟩:=h_
 refine g_ ?_
 clear g_
 obtain rfl:=e4_
 obtain rfl:=e5_
 obtain rfl:=e6_
 refine lc_ask (K:=K) (xs:=xs) (s2.seq hl) hi0 (fun x hx1 hi=>?_) (fun hend=>?_)
 ·show te (some x :: caps) H2 _
  refine hte x (List.mem_of_getElem? hx1) H2 _ s2 ⟨hB2,?_,wd_next hi ?_⟩
  ·rw [List.length_map,List.length_take]
   exact Nat.lt_of_le_of_lt (show min i xs.length≤160000 by lia) (by decide)
  ·refine ⟨_,rfl,?_,same_in s2 hD,upd_same⟩
   rw [List.take_add_one,hx1,List.map_append]
   rfl
 ·rw [hend,List.take_of_length_le (Nat.le_refl _)] at hB2
  exact q H2 s2 hB2
theorem capcs {X:Cx} {scope:Scope} {capn:List Str} (h:(capn.all fun y=>decide (X.env.scope.names.lookup y=some .cell) && decide ((relabel scope X.env).names.lookup y=some .cell))=true):∀ y∈capn,X.env.scope.names.lookup y=some .cell∧(relabel scope X.env).names.lookup y=some .cell:=fun y hy=>by
 have:=List.all_eq_true.mp h y hy
 rw [Bool.and_eq_true] at this
 exact ⟨of_decide_eq_true this.1,of_decide_eq_true this.2⟩
seal L2.PE L2.PT L2.PW L2.PA L2.PS L2.PSs L2.PG L2.PGs L2.PI L2.PSet L2.PIp L2.OpR L2.UnR L2.CallR L2.TruR L2.IxR L2.SlR L2.PO L2.PK L2.PIfs L2.PPs
section
variable {f:Addr} {fd':FuncData}
inductive PspWithin (vs:List V) (H:Hp) (Q:VK):Prop
 | mk (b c:Addr) (rows:List (List Int)) (cs:List (Int×Int)) (h0:vs=[.ref b,.ref c]) (h1:BdAt H b rows) (h2:rows≠[]) (h3:FtAt H c cs) (h4:cs.length≤1000) (h5:∀ D H',H D=none→Same H H'→FtAt H' D (cs.filter (ins rows))→Q (.ref D) H'):PspWithin  vs H Q
noncomputable def spWithin:Sp:=fun vs H Q Z=>PspWithin  vs H Q
theorem scWithin:FnScope ["bed","cells"] ["bed","cells"] (defScope sWithin):=⟨rfl,rfl,rfl,by decide +kernel,rfl,by decide +kernel,by decide +kernel⟩
theorem nd2 {x y:Str} (h:x≠y):[x,y].Nodup:=by simp [h]
theorem ok_within (T:LawT mg) (F:Fun K "within" "within" sWithin f fd'):FnOk P w K mg base (CX1 P w) 1 f fd' ["bed","cells"] spWithin:=by
 have nd:=scWithin.nd
 refine F.ok1 scWithin (fun vs H Q E h=>?_) (fun cdv A outer s H vs Q E hr h=>?_)
 ·refine bC fun g_=>?_
  obtain ⟨b,c,rows,cs,e7_,_⟩:=h
  refine g_ ?_
  clear g_
  obtain rfl:=e7_
  rfl
 refine bC fun g_=>?_
 obtain ⟨b,c,rows,cs,e8_,hb,hne,⟨ts,hc,mvc⟩,hl,q⟩:=h
 refine g_ ?_
 clear g_
 obtain rfl:=e8_
 have tl:ts.length=cs.length:=by rw [mvc.len,List.length_map]
 refine ⟨_,(pss_one (ps_ret (pe_lc (own:=["cell"]) (capn:=["bed"]) (capI:=[0]) rfl (blkC (defScope sWithin) rfl rfl (by decide +kernel) rfl (fun y hy=>by rcases List.mem_cons.mp hy with rfl | hy; exact ⟨rfl,rfl⟩; cases hy)) (pi_listK (K:=K) rfl (pv 1)) (fun Z Z Z Z Z Z=>pg_name (i:=0) (nd2 (x:="cell") (y:="bed") (by decide +kernel)) rfl (Or.inl rfl))
  (fun Z Z Z Z Z Z=>(pifs_one (PW.pt (pw_and (pt_chain op_le op_lt pe_int (pe_ix (ix_tupK (K:=K) rfl) (pv 0) pe_int (fun Z Z=>rfl)) (pe_callB (call_lenK (K:=K) rfl) rfl T.len PySem.boot_len (pa_cons (pv 1) pa_nil))) (pw_and1 (pt_chain op_le op_lt pe_int (pe_ix (ix_tupK (K:=K) rfl) (pv 0) pe_int (fun Z Z=>rfl)) (pe_callB (call_lenK (K:=K) rfl) rfl T.len PySem.boot_len (pa_cons (pe_ix (ix_listK (K:=K) rfl) (pv 1) pe_int (fun Z Z=>rfl)) pa_nil)))))))) (fun Z Z Z Z Z Z=>(pv 0))))),?_⟩
 (try dsimp only [L2.cxK])
 refine ⟨c,rfl,⟨_,SqL.of hc⟩,fun D hD=>?_⟩
 refine ⟨Wd ts.length (fun i σ acc H2=>Ex2 fun (z:Option V) (us:List Addr)=>σ=[z,some (.ref b)]∧acc=us.map V.ref∧us.length≤i∧MvAt H2 us (((cs.take i).filter (ins rows)).map pr)∧Same H H2∧H2 D=some (.lst acc)),wd_0 ⟨none,[],rfl,rfl,Nat.le_refl _,by rw [List.take_zero]; exact True.intro,same_upd hD _,upd_same⟩,?_⟩
 rintro i im σ acc H2 h_
 refine bC fun g_=>?_
 obtain ⟨e9_,hi0,z,us,e10_,e11_,ul,mv,s2,hD2⟩:=h_
 refine g_ ?_
 clear g_
 obtain rfl:=e9_
 obtain rfl:=e10_
 obtain rfl:=e11_
 refine lc_ask (K:=K) (xs:=ts.map V.ref) (SqL.of (s2 _ _ hc)) (by rw [List.length_map]; exact hi0) (fun x hx hi=>?_) (fun hend=>?_)
 ·obtain ⟨t,ht,rfl⟩:=ref_get hx
  have hi':i < ts.length:=by rw [List.length_map] at hi; exact hi
  have hic:i < cs.length:=by lia
  have ec:=List.getElem?_eq_getElem hic
  have gt:H2 t=some (.tup (pr cs[i])):=s2 _ _ (mvc.at_ ht (by rw [List.getElem?_map,ec]; rfl))
  generalize cs[i]=c1 at ec gt
  refine bC fun g_=>?_
  obtain ⟨rs,hb2,ra⟩:=hb.same s2
  refine g_ ?_
  clear g_
  obtain ⟨r0,rr,er⟩:∃ r0 rr,rows=r0 :: rr:=by
   cases rows with
   | nil=>exact absurd rfl hne
   | cons r0 rr=>exact ⟨r0,rr,rfl⟩
  obtain ⟨a0,ha0,hr0⟩:=ra.at_ (i:=0) (row:=r0) (by rw [er]; rfl)
  have rl:=ra.len
  have hw:(rows.headD []).length=r0.length:=by rw [er]; rfl
  have skip:∀ {m':Nat},ins rows c1=false→∃ m',m' < ts.length - i∧Wd ts.length (fun i σ acc H2=>Ex2 fun (z:Option V) (us:List Addr)=>σ=[z,some (.ref b)]∧acc=us.map V.ref∧us.length≤i∧MvAt H2 us (((cs.take i).filter (ins rows)).map pr)∧Same H H2∧H2 D=some (.lst acc)) (i + 1) m' [some (.ref t),some (.ref b)] (us.map V.ref) H2:=fun e=>wd_next hi' ⟨_,us,rfl,rfl,by lia,by rw [List.take_add_one,ec,List.filter_append]; simp [e]; simpa using mv,s2,hD2⟩
  refine ⟨t,_,1,.int c1.2,rfl,rfl,SqT.of gt,rfl,?_⟩
  refine ite2 (fun h1=>?_) (fun h1=>?_)
  ·refine ⟨b,_,rfl,.inl (SqL.of hb2),?_⟩
   refine ite2 (fun h2=>?_) (fun h2=>?_)
   ·refine ⟨t,_,0,.int c1.1,rfl,rfl,SqT.of gt,rfl,?_⟩
    refine ite2 (fun h3=>?_) (fun h3=>?_)
    ·refine ⟨b,_,0,.ref a0,rfl,rfl,SqL.of hb2,?_,a0,_,rfl,.inl (SqL.of hr0),?_⟩
     ·cases rs with
      | nil=>cases ha0
      | cons r1 rs=>cases ha0; exact atI_nat (xs:=(a0 :: rs).map V.ref) (j:=0) rfl
     ·refine ite2 (fun h4=>?_) (fun h4=>?_)
      ·refine ⟨hD2,?_,wd_next hi' ⟨_,us++[t],rfl,by rw [List.map_append]; rfl,by rw [List.length_append]; show us.length + 1≤_; lia,?_,same_in s2 hD,upd_same⟩⟩
       ·rw [List.length_map]
        exact line3 (show us.length≤1000 by lia) (by decide)
       ·have hin:ins rows c1=true:=by
         have a1:=of_decide_eq_true h1
         have a2:=of_decide_eq_true h2
         have a3:=of_decide_eq_true h3
         have a4:=of_decide_eq_true h4
         rw [List.length_map] at a2 a4
         exact decide_eq_true ⟨a1,by lia,a3,by lia⟩
        rw [List.take_add_one,ec,List.filter_append,List.map_append]
        have e1:(Option.toList (some c1)).filter (ins rows)=[c1]:=by simp [hin]
        rw [e1]
        exact (mv.snoc gt).upd (sbn hD2)
      ·exact skip (m':=0) (by
        refine decide_eq_false fun z=>h4 ?_
        rw [List.length_map]
        exact decide_eq_true (by lia))
    ·exact ((skip (m':=0) (decide_eq_false fun z=>h3 (decide_eq_true z.2.2.1))))
   ·exact (skip (m':=0) (by
     refine decide_eq_false fun z=>h2 ?_
     rw [List.length_map]
     exact decide_eq_true (by lia)))
  ·exact (((skip (m':=0) (decide_eq_false fun z=>h1 (decide_eq_true z.1)))))
 ·rw [List.length_map] at hend
  rw [hend,tl,List.take_of_length_le (Nat.le_refl _)] at mv
  exact q D H2 hD s2 ⟨us,hD2,mv⟩
end
section
variable {f:Addr} {fd':FuncData}
noncomputable def shf (x y:Int) (c:Int×Int):Int×Int:=(x + c.1,y + c.2)
noncomputable def und (rows:List (List Int)) (foot:List (Int×Int)) (x y:Int):List (Int×Int):=(foot.map (shf x y)).filter (ins rows)
inductive PspUnder (vs:List V) (H:Hp) (Q:VK):Prop
 | mk (b ct ft:Addr) (tv:V) (x y:Int) (rows:List (List Int)) (foot:List (Int×Int)) (h0:vs=[.ref b,.ref ct,.int x,.int y]) (h1:BdAt H b rows) (h2:rows≠[]) (h3:H ct=some (.tup [.ref ft,tv])) (h4:FtAt H ft foot) (h5:foot.length≤1000) (h6:∀ D H',H D=none→Same H H'→FtAt H' D (und rows foot x y)→Q (.ref D) H'):PspUnder  vs H Q
noncomputable def spUnder:Sp:=fun vs H Q Z=>PspUnder  vs H Q
theorem scUnder:FnScope ["bed","cutter","x","y"] ["bed","cutter","x","y"] (defScope sUnder):=⟨rfl,rfl,rfl,by decide +kernel,rfl,by decide +kernel,by decide +kernel⟩
theorem nd3:(["step","x","y"]:List Str).Nodup:=by decide +kernel
theorem ok_under (FW:Fn P w K mg base "within" 1 ["bed","cells"] spWithin) (F:Fun K "cells_under" "cells_under" sUnder f fd'):FnOk P w K mg base (CX1 P w) 2 f fd' ["bed","cutter","x","y"] spUnder:=by
 have nd:=scUnder.nd
 refine F.ok1 scUnder (fun vs H Q E h=>?_) (fun cdv A outer s H vs Q E hr h=>?_)
 ·refine bC fun g_=>?_
  obtain ⟨b,ct,ft,tv,x,y,rows,foot,e1_,_⟩:=h
  refine g_ ?_
  clear g_
  obtain rfl:=e1_
  rfl
 refine bC fun g_=>?_
 obtain ⟨b,ct,ft,tv,x,y,rows,foot,e2_,hb,hne,hct,⟨ts,hft,mvf⟩,hl,q⟩:=h
 refine g_ ?_
 clear g_
 obtain rfl:=e2_
 have hr1:Room 1 _:=hr.mono (by decide)
 have tl:ts.length=foot.length:=by rw [mvf.len,List.length_map]
 refine ⟨_,(pss_one (ps_ret (pf_call FW hr1 rfl (pass1 (E:=E)) (pa_cons (pv 0) (pa_cons (pe_lc (own:=["step"]) (capn:=["x","y"]) (capI:=[2,3]) rfl (blkC (defScope sUnder) rfl rfl (by decide +kernel) rfl (fun y hy=>by rcases List.mem_cons.mp hy with rfl | hy; exact ⟨rfl,rfl⟩; rcases List.mem_cons.mp hy with rfl | hy; exact ⟨rfl,rfl⟩; cases hy)) (pi_listK (K:=K) rfl (pe_ix (ix_tupK (K:=K) rfl) (pv 1) pe_int (fun Z Z=>rfl))) (fun Z Z Z Z Z Z=>pg_name (i:=0) nd3 rfl (Or.inl rfl)) (fun Z Z Z Z Z Z=>pifs_nil) (fun Z Z Z Z Z Z=>(pe_tup (pa_cons (pe_op op_add (pv 1) (pe_ix (ix_tupK (K:=K) rfl) (pv 0) pe_int (fun Z Z=>rfl))) (pa_cons (pe_op op_add (pv 2) (pe_ix (ix_tupK (K:=K) rfl) (pv 0) pe_int (fun Z Z=>rfl))) pa_nil))))) pa_nil))))),?_⟩
 (try dsimp only [L2.cxK])
 refine ⟨ct,_,0,.ref ft,rfl,rfl,SqT.of hct,rfl,ft,rfl,⟨_,SqL.of hft⟩,fun D hD=>?_⟩
 obtain ⟨g,hg⟩:∃ g:V→Int×Int,∀ t c,MvAt H [t] [pr c]→g (.ref t)=c:=by
  refine ⟨fun v=>match v with | .ref t=>(match H t with | some (.tup [.int a,.int b])=>(a,b) | _=>(0,0)) | _=>(0,0),fun t c h=>?_⟩
  have e:H t=some (.tup [.int c.1,.int c.2]):=h.1
  simp only [e]
 have gall:∀ (us:List Addr) (cs:List (Int×Int)),MvAt H us (cs.map pr)→(us.map V.ref).map (fun v=>pr (shf x y (g v)))=(cs.map (shf x y)).map pr:=by
  intro us
  induction us with
  | nil =>
   intro cs h
   cases cs with
   | nil=>rfl
   | cons c cs=>exact h.elim
  | cons u us ih =>
   intro cs h
   cases cs with
   | nil=>exact h.elim
   | cons c cs =>
    rw [List.map_cons,List.map_cons,List.map_cons,List.map_cons,ih cs h.2,hg u c ⟨h.1,True.intro⟩]
 refine lc_tupC (K:=K) (xs:=ts.map V.ref) (F:=fun v=>pr (shf x y (g v))) [some (.int x),some (.int y)] (SqL.of hft) (by rw [List.length_map]; lia) (fun v hv H2 R s2 r=>?_) hD (fun us H2 s2 hD2 mv2=>?_)
 ·obtain ⟨t,ht,rfl⟩:=List.mem_map.mp hv
  obtain ⟨i,hi⟩:=List.getElem?_of_mem ht
  have hif:i < foot.length:=by have:=(List.getElem?_eq_some_iff.mp hi).1; lia
  have e1:=mvf.at_ hi (by rw [List.getElem?_map,List.getElem?_eq_getElem hif]; rfl)
  have e2:=s2 _ _ e1
  have e3:=hg t _ ⟨e1,True.intro⟩
  generalize foot[i]=c1 at e1 e2 e3
  rw [e3] at r
  exact ⟨t,_,0,.int c1.1,rfl,rfl,SqT.of e2,rfl,t,_,1,.int c1.2,rfl,rfl,SqT.of e2,rfl,le2,r⟩
 ·rw [gall ts foot mvf] at mv2
  exact ⟨b,D,rows,foot.map (shf x y),rfl,hb.same s2,hne,⟨us,hD2,mv2⟩,by rw [List.length_map]; exact hl,fun D2 H3 n3 s3 h3=>q D2 H3 (s2.free n3) (s2.trans s3) h3⟩
inductive PspGreat (vs:List V) (H:Hp) (Q:VK):Prop
 | mk (b c:Addr) (rows:List (List Int)) (cs:List (Int×Int)) (h0:vs=[.ref b,.ref c]) (h1:BdAt H b rows) (h2:Rect rows) (h3:FtAt H c cs) (h4:cs.length≤160000) (h5:(∀ x∈cs,ins rows x=true)) (h6:∀ H',Same H H'→Q (.int (mxD 0 (cs.map (hgt rows)))) H'):PspGreat  vs H Q
noncomputable def spGreat:Sp:=fun vs H Q Z=>PspGreat  vs H Q
theorem scGreat:FnScope ["bed","cells"] ["bed","cells"] (defScope sGreat):=⟨rfl,rfl,rfl,by decide +kernel,rfl,by decide +kernel,by decide +kernel⟩
theorem ok_great (T:LawT mg) (F:Fun K "greatest" "greatest" sGreat f fd'):FnOk P w K mg base (CX1 P w) 1 f fd' ["bed","cells"] spGreat:=by
 have nd:=scGreat.nd
 refine F.ok1 scGreat (fun vs H Q E h=>?_) (fun cdv A outer s H vs Q E hr h=>?_)
 ·refine bC fun g_=>?_
  obtain ⟨b,c,rows,cs,e4_,_⟩:=h
  refine g_ ?_
  clear g_
  obtain rfl:=e4_
  rfl
 refine bC fun g_=>?_
 obtain ⟨b,c,rows,cs,e5_,hb,rect,⟨ts,hc,mvc⟩,hl,hin,q⟩:=h
 refine g_ ?_
 clear g_
 obtain rfl:=e5_
 have tl:ts.length=cs.length:=by rw [mvc.len,List.length_map]
 refine ⟨_,(pss_one (ps_ret (pe_maxD rfl rfl T.max (pa_cons (pe_lc (own:=["cell"]) (capn:=["bed"]) (capI:=[0]) rfl (blkC (defScope sGreat) rfl rfl (by decide +kernel) rfl (fun y hy=>by rcases List.mem_cons.mp hy with rfl | hy; exact ⟨rfl,rfl⟩; cases hy)) (pi_listK (K:=K) rfl (pv 1)) (fun Z Z Z Z Z Z=>pg_name (i:=0) (nd2 (x:="cell") (y:="bed") (by decide +kernel)) rfl (Or.inl rfl)) (fun Z Z Z Z Z Z=>pifs_nil)
  (fun Z Z Z Z Z Z=>(pe_ix (ix_listK (K:=K) rfl) (pe_ix (ix_listK (K:=K) rfl) (pv 1) (pe_ix (ix_tupK (K:=K) rfl) (pv 0) pe_int (fun Z Z=>rfl)) (fun Z Z=>rfl)) (pe_ix (ix_tupK (K:=K) rfl) (pv 0) pe_int (fun Z Z=>rfl)) (fun Z Z=>rfl)))) pa_nil) (pk_cons pe_int pk_nil)))),?_⟩
 (try dsimp only [L2.cxK])
 refine ⟨c,rfl,⟨_,SqL.of hc⟩,fun D hD=>?_⟩
 obtain ⟨g,hg⟩:∃ g:V→Int×Int,∀ t c,MvAt H [t] [pr c]→g (.ref t)=c:=by
  refine ⟨fun v=>match v with | .ref t=>(match H t with | some (.tup [.int a,.int b])=>(a,b) | _=>(0,0)) | _=>(0,0),fun t c h=>?_⟩
  have e:H t=some (.tup [.int c.1,.int c.2]):=h.1
  simp only [e]
 have gall:∀ (us:List Addr) (cs:List (Int×Int)),MvAt H us (cs.map pr)→(us.map V.ref).map (fun v=>V.int (hgt rows (g v)))=(cs.map (hgt rows)).map V.int:=by
  intro us
  induction us with
  | nil =>
   intro cs h
   cases cs with
   | nil=>rfl
   | cons c cs=>exact h.elim
  | cons u us ih =>
   intro cs h
   cases cs with
   | nil=>exact h.elim
   | cons c cs =>
    rw [List.map_cons,List.map_cons,List.map_cons,List.map_cons,ih cs h.2,hg u c ⟨h.1,True.intro⟩]
 refine lc_valC (K:=K) (xs:=ts.map V.ref) (F:=fun v=>V.int (hgt rows (g v))) [some (.ref b)] (SqL.of hc) (by rw [List.length_map]; lia) (fun v hv H2 R s2 r=>?_) hD (fun H2 s2 hD2=>?_)
 ·obtain ⟨t,ht,rfl⟩:=List.mem_map.mp hv
  obtain ⟨i,hi⟩:=List.getElem?_of_mem ht
  have hif:i < cs.length:=by have:=(List.getElem?_eq_some_iff.mp hi).1; lia
  have e1:=mvc.at_ hi (by rw [List.getElem?_map,List.getElem?_eq_getElem hif]; rfl)
  have e2:=s2 _ _ e1
  have e3:=hg t _ ⟨e1,True.intro⟩
  have e4:=hin _ (List.getElem_mem hif)
  generalize cs[i]=c1 at e1 e2 e3 e4
  rw [e3] at r
  refine bC fun g_=>?_
  obtain ⟨y,x,row,v,ec,er,ev,eh⟩:=ins_at e4 rect
  refine g_ ?_
  clear g_
  rw [eh] at r
  subst ec
  refine bC fun g_=>?_
  obtain ⟨rs,hb2,ra⟩:=hb.same s2
  obtain ⟨a,ha,hra⟩:=ra.at_ er
  refine g_ ?_
  clear g_
  exact ⟨t,_,1,.int (y:Int),rfl,rfl,SqT.of e2,rfl,b,_,_,.ref a,rfl,rfl,SqL.of hb2,atI_nat (by rw [List.getElem?_map,ha]; rfl),t,_,0,.int (x:Int),rfl,rfl,SqT.of e2,rfl,a,_,_,.int v,rfl,rfl,SqL.of hra,atI_nat (by rw [List.getElem?_map,ev]; rfl),r⟩
 ·rw [gall ts cs mvc] at hD2
  exact ⟨D,_,0,rfl,rfl,SqL.of hD2,q H2 s2⟩
end
theorem abs_seq {t u:TS} {D:Ends} {σ:St} {H:Hp} (h:∀ D':Ends,D'=(Ends.sq D (u D))→t D' σ H):tSeq t u D σ H:=h _ rfl
theorem nxS {t u:TS} {D D':Ends} {σ:St} {H:Hp} (e:D'=(Ends.sq D (tSeq t u D))) (h:∀ D2:Ends,D2=(Ends.sq D (u D))→t D2 σ H):D'.nx σ H:=by
 subst e
 exact h _ rfl
theorem nxS1 {u:TS} {D D':Ends} {σ:St} {H:Hp} (e:D'=(Ends.sq D (u D))) (h:u D σ H):D'.nx σ H:=by
 subst e
 exact h
noncomputable def mn (a b:Int):Int:=if b < a then b else a
theorem le_mn {z a b:Int}:z≤mn a b↔z≤a∧z≤b:=by
 unfold mn
 split <;> lia
noncomputable def cutC (rows:List (List Int)) (o:(Int×Int)×Int):List (List Int):=rows.set o.1.2.toNat (((rows[o.1.2.toNat]?).getD []).set o.1.1.toNat (mn (hgt rows o.1) o.2))
theorem cutC_len (rows:List (List Int)) (o:(Int×Int)×Int):(cutC rows o).length=rows.length:=List.length_set
noncomputable def Alike (a b:List (List Int)):Prop:=a.length=b.length∧∀ (i:Nat) (r s:List Int),a[i]?=some r→b[i]?=some s→r.length=s.length
theorem Alike.refl (a:List (List Int)):Alike a a:=⟨rfl,fun i r s h g=>by rw [h] at g; cases g; rfl⟩
theorem Alike.trans {a b c:List (List Int)} (h:Alike a b) (g:Alike b c):Alike a c:=⟨h.1.trans g.1,fun i r t x y=>by
 have hi:i < b.length:=by rw [← h.1]; exact (List.getElem?_eq_some_iff.mp x).1
 have e:=List.getElem?_eq_getElem hi
 exact (h.2 i _ _ x e).trans (g.2 i _ _ e y)⟩
theorem cutC_alike (rows:List (List Int)) (o:(Int×Int)×Int):Alike rows (cutC rows o):=by
 refine ⟨(cutC_len rows o).symm,fun i r s h g=>?_⟩
 unfold cutC at g
 by_cases e:o.1.2.toNat=i
 ·subst e
  rw [List.getElem?_set_self (List.getElem?_eq_some_iff.mp h).1] at g
  cases g
  rw [h,Option.getD_some,List.length_set]
 ·rw [List.getElem?_set_ne e,h] at g
  cases g
  rfl
theorem Alike.ins {a b:List (List Int)} (h:Alike a b) (c:Int×Int):ins a c=ins b c:=by
 unfold Car.ins
 have hw:(a.headD []).length=(b.headD []).length:=by
  cases a with
  | nil =>
   cases b with
   | nil=>rfl
   | cons s b=>exact absurd h.1 (by simp)
  | cons r a =>
   cases b with
   | nil=>exact absurd h.1 (by simp)
   | cons s b=>exact h.2 0 r s rfl rfl
 rw [h.1,hw]
theorem Alike.rect {a b:List (List Int)} (h:Alike a b) (R:Rect a):Rect b:=by
 have hw:(a.headD []).length=(b.headD []).length:=by
  cases a with
  | nil=>exact absurd rfl R.1
  | cons r a =>
   cases b with
   | nil=>exact absurd h.1 (by simp)
   | cons s b=>exact h.2 0 r s rfl rfl
 refine ⟨fun z=>?_,fun s hs=>?_⟩
 ·have e:=h.1
  rw [z] at e
  cases a with
  | nil=>exact R.1 rfl
  | cons r a=>cases e
 ·obtain ⟨i,hi⟩:=List.getElem?_of_mem hs
  have hia:i < a.length:=by rw [h.1]; exact (List.getElem?_eq_some_iff.mp hi).1
  have e:=List.getElem?_eq_getElem hia
  rw [← h.2 i _ _ e hi,← hw]
  exact R.2 _ (List.getElem_mem hia)
theorem hgt_cut {rows:List (List Int)} (R:Rect rows) {c d:Int×Int} {h:Int} (hc:ins rows c=true) (hd:ins rows d=true):hgt (cutC rows (c,h)) d=if d=c then mn (hgt rows c) h else hgt rows d:=by
 refine bC fun g_=>?_
 obtain ⟨i,j,row,v,e1,e2,e3,e4⟩:=ins_at hc R
 obtain ⟨k,l,row2,v2,f1,f2,f3,f4⟩:=ins_at hd R
 refine g_ ?_
 clear g_
 subst e1
 subst f1
 have hi:=(List.getElem?_eq_some_iff.mp e2).1
 have hj:=(List.getElem?_eq_some_iff.mp e3).1
 unfold cutC
 simp only [Int.toNat_natCast]
 rw [e2,Option.getD_some]
 by_cases ik:i=k
 ·subst ik
  rw [e2] at f2
  cases f2
  by_cases jl:j=l
  ·subst jl
   rw [if_pos rfl]
   unfold hgt
   simp only [Int.toNat_natCast]
   rw [List.getElem?_set_self hi,Option.bind_some,List.getElem?_set_self hj]
   rfl
  ·rw [if_neg (fun z=>jl (by have:=congrArg Prod.fst z; simp at this; lia))]
   unfold hgt
   simp only [Int.toNat_natCast]
   rw [List.getElem?_set_self hi,Option.bind_some,List.getElem?_set_ne jl,e2,Option.bind_some]
 ·rw [if_neg (fun z=>ik (by have:=congrArg Prod.snd z; simp at this; lia))]
  unfold hgt
  simp only [Int.toNat_natCast]
  rw [List.getElem?_set_ne ik]
noncomputable def cutsF (rows:List (List Int)) (os:List ((Int×Int)×Int)):List (List Int):=os.foldl cutC rows
theorem cuts_alike:∀ (os:List ((Int×Int)×Int)) (rows:List (List Int)),Alike rows (cutsF rows os)
 | [],rows=>Alike.refl rows
 | o :: os,rows=>(cutC_alike rows o).trans (cuts_alike os (cutC rows o))
theorem le_cuts {d:Int×Int}:∀ (os:List ((Int×Int)×Int)) (rows:List (List Int)),Rect rows→(∀ o∈os,ins rows o.1=true)→ins rows d=true→∀ z,z≤hgt (cutsF rows os) d↔z≤hgt rows d∧∀ o∈os,o.1=d→z≤o.2
 | [],rows,R,_,hd,z=>⟨fun h=>⟨h,fun Z m=>(List.not_mem_nil m).elim⟩,fun h=>h.1⟩
 | (c,h) :: os,rows,R,hi,hd,z=>by
  have A:=cutC_alike rows (c,h)
  have hc:=hi (c,h) List.mem_cons_self
  have ih:=le_cuts (d:=d) os (cutC rows (c,h)) (A.rect R) (fun o m=>by rw [← A.ins]; exact hi o (List.mem_cons_of_mem _ m)) (by rw [← A.ins]; exact hd) z
  show z≤hgt (cutsF (cutC rows (c,h)) os) d↔_
  rw [ih,hgt_cut R hc hd]
  by_cases e:d=c
  ·subst e
   rw [if_pos rfl,le_mn]
   constructor
   ·rintro h_
    refine bC fun g_=>?_
    obtain ⟨⟨a,b⟩,k⟩:=h_
    refine g_ ?_
    clear g_
    refine ⟨a,fun o m=>?_⟩
    rcases List.mem_cons.mp m with rfl | m
    ·exact fun Z=>b
    ·exact k o m
   ·rintro ⟨a,k⟩
    exact ⟨⟨a,k (d,h) List.mem_cons_self rfl⟩,fun o m=>k o (List.mem_cons_of_mem _ m)⟩
  ·rw [if_neg e]
   constructor
   ·rintro ⟨a,k⟩
    refine ⟨a,fun o m=>?_⟩
    rcases List.mem_cons.mp m with rfl | m
    ·exact fun z=>absurd z.symm e
    ·exact k o m
   ·rintro ⟨a,k⟩
    exact ⟨a,fun o m=>k o (List.mem_cons_of_mem _ m)⟩
theorem alike_ext {a b:List (List Int)} (A:Alike a b) (R:Rect a) (h:∀ c,ins a c=true→hgt a c=hgt b c):a=b:=by
 refine List.ext_getElem? fun i=>?_
 by_cases hi:i < a.length
 ·have hib:i < b.length:=by rw [← A.1]; exact hi
  rw [List.getElem?_eq_getElem hi,List.getElem?_eq_getElem hib]
  refine congrArg some (List.ext_getElem? fun j=>?_)
  have hl:=A.2 i _ _ (List.getElem?_eq_getElem hi) (List.getElem?_eq_getElem hib)
  by_cases hj:j < (a[i]).length
  ·have hjb:j < (b[i]).length:=by rw [← hl]; exact hj
   have hw:=R.2 _ (List.getElem_mem hi)
   have q:=h ((j:Int),(i:Int)) (decide_eq_true ⟨show (0:Int)≤(i:Int) by lia,show (i:Int) < (a.length:Int) by lia,show (0:Int)≤(j:Int) by lia,show (j:Int) < ((a.headD []).length:Int) by lia⟩)
   unfold hgt at q
   simp only [Int.toNat_natCast] at q
   rw [List.getElem?_eq_getElem hi,List.getElem?_eq_getElem hib,Option.bind_some,Option.bind_some,List.getElem?_eq_getElem hj,List.getElem?_eq_getElem hjb] at q
   rw [List.getElem?_eq_getElem hj,List.getElem?_eq_getElem hjb]
   exact congrArg some q
  ·rw [List.getElem?_eq_none (by lia),List.getElem?_eq_none (by lia)]
 ·rw [List.getElem?_eq_none (by lia),List.getElem?_eq_none (by rw [← A.1]; lia)]
theorem eq_of_le {a b:Int} (h:∀ z,z≤a↔z≤b):a=b:=Int.le_antisymm ((h a).mp (Int.le_refl _)) ((h b).mpr (Int.le_refl _))
noncomputable def cellsR (w:Nat) (y:Nat):List (Int×Int):=(List.range w).map fun (x:Nat)=>((x:Int),(y:Int))
noncomputable def cellsF:Nat→List (List Int)→List (Int×Int)
 | _,[]=>[]
 | y,r :: rows=>cellsR r.length y++cellsF (y + 1) rows
noncomputable abbrev Tool:=List (Int×Int)×Int
noncomputable def opsP (bed wished:List (List Int)) (t:Tool) (p:Int×Int):List ((Int×Int)×Int):=(und bed t.1 p.1 p.2).map fun c=>(c,mxD 0 ((und bed t.1 p.1 p.2).map (hgt wished)))
noncomputable def opsT (bed wished:List (List Int)) (t:Tool):List ((Int×Int)×Int):=(cellsF 0 bed).flatMap (opsP bed wished t)
noncomputable def opsS (bed wished:List (List Int)) (ts:List Tool):List ((Int×Int)×Int):=ts.flatMap (opsT bed wished)
noncomputable def hadF (bed wished:List (List Int)) (ts:List Tool):List (List Int):=cutsF bed (opsS bed wished ts)
theorem cuts_app (rows:List (List Int)) (a b:List ((Int×Int)×Int)):cutsF rows (a++b)=cutsF (cutsF rows a) b:=List.foldl_append
theorem mem_cellsF:∀ (rows:List (List Int)) (y:Nat) (c:Int×Int),c∈cellsF y rows↔∃ (i x:Nat) (r:List Int),rows[i]?=some r∧x < r.length∧c=((x:Int),((y + i:Nat):Int))
 | [],y,c=>⟨fun h=>(List.not_mem_nil h).elim,fun ⟨i,x,r,h,_⟩=>by cases h⟩
 | r :: rows,y,c=>by
  rw [cellsF,List.mem_append,mem_cellsF rows (y + 1) c]
  constructor
  ·rintro (h | ⟨i,x,r',h1,h2,h3⟩)
   ·obtain ⟨x,hx,rfl⟩:=List.mem_map.mp h
    exact ⟨0,x,r,rfl,List.mem_range.mp hx,rfl⟩
   ·exact ⟨i + 1,x,r',h1,h2,by rw [h3,show y + 1 + i=y + (i + 1) by lia]⟩
  ·rintro h_
   refine bC fun g_=>?_
   obtain ⟨i,x,r',h1,h2,h3⟩:=h_
   refine g_ ?_
   clear g_
   cases i with
   | zero =>
    cases h1
    exact .inl (List.mem_map.mpr ⟨x,List.mem_range.mpr h2,h3.symm⟩)
   | succ i=>exact .inr ⟨i,x,r',h1,h2,by rw [h3,show y + 1 + i=y + (i + 1) by lia]⟩
theorem mem_cells {rows:List (List Int)} (R:Rect rows) (c:Int×Int):c∈cellsF 0 rows↔ins rows c=true:=by
 rw [mem_cellsF]
 constructor
 ·rintro h_
  refine bC fun g_=>?_
  obtain ⟨i,x,r,h1,h2,e2_⟩:=h_
  refine g_ ?_
  clear g_
  obtain rfl:=e2_
  have hi:=(List.getElem?_eq_some_iff.mp h1).1
  have hw:=R.2 r (List.mem_of_getElem? h1)
  exact decide_eq_true ⟨show (0:Int)≤((0 + i:Nat):Int) by lia,show ((0 + i:Nat):Int) < (rows.length:Int) by lia,show (0:Int)≤(x:Int) by lia,show (x:Int) < ((rows.headD []).length:Int) by lia⟩
 ·intro h
  refine bC fun g_=>?_
  obtain ⟨i,j,row,v,e1,e2,e3,_⟩:=ins_at h R
  refine g_ ?_
  clear g_
  exact ⟨i,j,row,e2,(List.getElem?_eq_some_iff.mp e3).1,by rw [e1,Nat.zero_add]⟩
theorem mem_ops {bed wished:List (List Int)} (R:Rect bed) {ts:List Tool} {o:(Int×Int)×Int}:o∈opsS bed wished ts↔∃ t∈ts,∃ s∈t.1,∃ p,ins bed p=true∧o.1=shf p.1 p.2 s∧ins bed o.1=true∧o.2=mxD 0 ((und bed t.1 p.1 p.2).map (hgt wished)):=by
 unfold opsS opsT
 constructor
 ·intro h
  refine bC fun g_=>?_
  obtain ⟨t,ht,h⟩:=List.mem_flatMap.mp h
  obtain ⟨p,hp,h⟩:=List.mem_flatMap.mp h
  obtain ⟨c,hc,e3_⟩:=List.mem_map.mp h
  obtain ⟨hc1,hc2⟩:=List.mem_filter.mp hc
  obtain ⟨s,hs,e4_⟩:=List.mem_map.mp hc1
  refine g_ ?_
  clear g_
  obtain rfl:=e3_
  obtain rfl:=e4_
  exact ⟨t,ht,s,hs,p,(mem_cells R p).mp hp,rfl,hc2,rfl⟩
 ·rintro h_
  refine bC fun g_=>?_
  obtain ⟨t,ht,s,hs,p,hp,e1,e2,e3⟩:=h_
  refine g_ ?_
  clear g_
  refine List.mem_flatMap.mpr ⟨t,ht,List.mem_flatMap.mpr ⟨p,(mem_cells R p).mpr hp,List.mem_map.mpr ⟨o.1,List.mem_filter.mpr ⟨List.mem_map.mpr ⟨s,hs,e1.symm⟩,e2⟩,?_⟩⟩⟩
  rw [← e3]
theorem ops_in {bed wished:List (List Int)} (R:Rect bed) {ts:List Tool}:∀ o∈opsS bed wished ts,ins bed o.1=true:=fun o h=>by
 refine bC fun g_=>?_
 obtain ⟨t,_,s,_,p,_,_,e,_⟩:=(mem_ops R).mp h
 refine g_ ?_
 clear g_
 exact e
theorem le_had {bed wished:List (List Int)} (R:Rect bed) {ts:List Tool} {d:Int×Int} (hd:ins bed d=true) (z:Int):z≤hgt (hadF bed wished ts) d↔z≤hgt bed d∧∀ t∈ts,∀ s∈t.1,∀ p,ins bed p=true→d=shf p.1 p.2 s→z≤mxD 0 ((und bed t.1 p.1 p.2).map (hgt wished)):=by
 unfold hadF
 rw [le_cuts _ bed R (ops_in R) hd]
 constructor
 ·rintro ⟨a,k⟩
  refine ⟨a,fun t ht s hs p hp e=>?_⟩
  exact k (d,mxD 0 ((und bed t.1 p.1 p.2).map (hgt wished))) ((mem_ops R).mpr ⟨t,ht,s,hs,p,hp,e,hd,rfl⟩) rfl
 ·rintro ⟨a,k⟩
  refine ⟨a,fun o ho e=>?_⟩
  refine bC fun g_=>?_
  obtain ⟨t,ht,s,hs,p,hp,e1,e2,e3⟩:=(mem_ops R).mp ho
  refine g_ ?_
  clear g_
  rw [e3]
  exact k t ht s hs p hp (e ▸ e1)
end Car
namespace L2
open PySem PySem.Spec PyProof.Rows
theorem for_enum {K:PySem.W.Frag} {a:Addr} {xs:List V} {g:TG} {tb:TS} {D:Ends} {σ:St} {H:Hp} (Pv:Nat→St→Hp→Prop) (h0:Pv 0 σ H) (hl:∀ i σ H,i≤xs.length→Pv i σ H→SqL K H a xs)
  (hs:∀ i x σ H,xs[i]?=some x→Pv i σ H→∀ T,H T=none→g (.ref T) σ (upd H T (.tup [.int i,x])) fun σ2 H2=>tb { D with nx:=Pv (i + 1),ct:=Pv (i + 1),bk:=D.nx } σ2 H2) (hd:∀ σ H,Pv xs.length σ H→D.nx σ H) :
  ∃ W:Nat→Nat→St→Hp→Prop,(∃ m,W 0 m σ H)∧∀ i m σ H,W i m σ H →
   ((Ite K a).stop i H∧D.nx σ H)∨((Ite K a).go i H∧∃ N:St→Hp→Prop,(∀ σ' H',N σ' H'→∃ m',m' < m∧W (i + 1) m' σ' H')∧∀ x H',(Ite K a).yld i H x H'→g x σ H' fun σ2 H2=>tb { D with nx:=N,ct:=N,bk:=D.nx } σ2 H2):=by
 refine ⟨fun i m σ H=>m=xs.length - i∧i≤xs.length∧Pv i σ H,⟨xs.length,by simp,Nat.zero_le _,h0⟩,?_⟩
 rintro i m σ H ⟨rfl,hi,p⟩
 have q:=hl i σ H hi p
 by_cases hlt:i < xs.length
 ·refine .inr ⟨⟨xs,xs[i],q,by simp [hlt]⟩,Pv (i + 1),fun σ' H' p'=>⟨xs.length - (i + 1),by lia,rfl,hlt,p'⟩,fun x H' y=>?_⟩
  refine bC fun g_=>?_
  obtain ⟨T,e2_,hT,y⟩:=y
  refine g_ ?_
  clear g_
  obtain rfl:=e2_
  rw [y xs xs[i] q (by simp [hlt])]
  exact hs i xs[i] σ _ (by simp [hlt]) p T hT
 ·have e:i=xs.length:=by lia
  subst e
  exact .inl ⟨⟨xs,q,rfl⟩,hd σ H p⟩
end L2
namespace Car
open PySem L2
theorem ne_new {H:Hp} {a b:Addr} {o:HO} (h:H a=some o) (g:H b=none):b≠a:=fun z=>by rw [z,h] at g; cases g
theorem cellsF_snoc (r:List Int):∀ (rows:List (List Int)) (y:Nat),cellsF y (rows++[r])=cellsF y rows++cellsR r.length (y + rows.length)
 | [],y=>by
  show cellsR r.length y++[]=[]++cellsR r.length (y + 0)
  rw [List.append_nil,List.nil_append,Nat.add_zero]
 | s :: rows,y=>by
  show cellsR s.length y++cellsF (y + 1) (rows++[r])=(cellsR s.length y++cellsF (y + 1) rows)++cellsR r.length (y + (rows.length + 1))
  rw [cellsF_snoc r rows,List.append_assoc,show y + 1 + rows.length=y + (rows.length + 1) by lia]
theorem cellsF_le:∀ (rows:List (List Int)) (y:Nat),(∀ r∈rows,r.length≤40)→(cellsF y rows).length≤40 * rows.length
 | [],_,_=>Nat.le_refl _
 | r :: rows,y,h=>by
  have h1:=h r List.mem_cons_self
  have h2:=cellsF_le rows (y + 1) fun x hx=>h x (List.mem_cons_of_mem _ hx)
  rw [cellsF,List.length_append,cellsR,List.length_map,List.length_range,List.length_cons]
  lia
noncomputable def Small (rows:List (List Int)):Prop:=rows.length≤40∧∀ r∈rows,r.length≤40
section
variable {f:Addr} {fd':FuncData}
inductive PspCells (vs:List V) (H:Hp) (Q:VK):Prop
 | mk (b:Addr) (rows:List (List Int)) (h0:vs=[.ref b]) (h1:BdAt H b rows) (h2:Small rows) (h3:∀ D H',H D=none→Same H H'→FtAt H' D (cellsF 0 rows)→Q (.ref D) H'):PspCells  vs H Q
noncomputable def spCells:Sp:=fun vs H Q Z=>PspCells  vs H Q
theorem scCells:FnScope ["bed","told","y","row"] ["bed"] (defScope sCells):=⟨rfl,rfl,rfl,by decide +kernel,rfl,by decide +kernel,by decide +kernel⟩
theorem ok_cells (T:LawT mg) (hen:mg "enumerate"=none) (F:Fun K "cells_of" "cells_of" sCells f fd'):FnOk P w K mg base (CX1 P w) 1 f fd' ["bed"] spCells:=by
 have nd:=scCells.nd
 refine F.ok1 scCells (fun vs H Q E h=>?_) (fun cdv A outer s H vs Q E hr h=>?_)
 ·refine bC fun g_=>?_
  obtain ⟨b,rows,e3_,_⟩:=h
  refine g_ ?_
  clear g_
  obtain rfl:=e3_
  rfl
 refine bC fun g_=>?_
 obtain ⟨b,rows,e4_,⟨rs,hb,ra⟩,⟨sm1,sm2⟩,q⟩:=h
 refine g_ ?_
 clear g_
 obtain rfl:=e4_
 have rsl:=ra.len
 refine ⟨_,(pss_cons (ps_set (i:=1) nd rfl (Or.inl rfl) (pe_lst pa_nil))
  (pss_cons (ps_for own1 rfl (pi_enum rfl hen (pa_cons (pv 0) pa_nil)) (pg_tup (n:=2) rfl (pgs_cons (pg_name (i:=2) nd rfl (Or.inr rfl)) (pgs_cons (pg_name (i:=3) nd rfl (Or.inl rfl)) pgs_nil))) (pss_one (ps_expr (pe_bm PySem.F.plainAttrs_list PySem.F.slot_list_extend PySem.F.type_list_extend mt_extend (pv 1) (pa_cons (pe_lc (own:=["x"]) (capn:=["y"]) (capI:=[2]) rfl (blkC (defScope sCells) rfl rfl (by decide +kernel) rfl (fun y hy=>by rcases List.mem_cons.mp hy with rfl | hy; exact ⟨rfl,rfl⟩; cases hy)) (pi_range1 rfl T.range (pa_cons (pe_callB (call_lenK (K:=K) rfl) rfl T.len PySem.boot_len (pa_cons (pv 3) pa_nil)) pa_nil)) (fun Z Z Z Z Z Z=>pg_name (i:=0) (nd2 (x:="x") (y:="y") (by decide +kernel)) rfl (Or.inl rfl)) (fun Z Z Z Z Z Z=>pifs_nil) (fun Z Z Z Z Z Z=>(pe_tup (pa_cons (pv 0) (pa_cons (pv 1) pa_nil))))) pa_nil)))))
  (pss_one (ps_ret (pv 1))))),?_⟩
 (try dsimp only [L2.cxK])
 refine abs_seq fun dE eE=>?_
 refine ⟨Nat.zero_le _,fun tl htl=>?_⟩
 have u0:=same_upd htl (.lst [])
 refine nxS eE fun dE eE=>?_
 refine ⟨b,_,rfl,SqL.of (u0 _ _ hb),?_⟩
 refine for_enum (xs:=rs.map V.ref) (fun i σ H2=>∃ (x2 x3:Option V) (us:List Addr),σ=[some (.ref b),some (.ref tl),x2,x3]∧H2 tl=some (.lst (us.map V.ref))∧MvAt H2 us ((cellsF 0 (rows.take i)).map pr)∧Same H H2) ⟨none,none,[],rfl,upd_same,by rw [List.take_zero]; exact True.intro,u0⟩ ?_ ?_ ?_
 ·rintro i σ H2 _ h_
  refine bC fun g_=>?_
  obtain ⟨x2,x3,us,e5_,_,_,s2⟩:=h_
  refine g_ ?_
  clear g_
  obtain rfl:=e5_
  exact SqL.of (s2 _ _ hb)
 ·rintro i x σ H2 hx ⟨x2,x3,us,rfl,ht2,mu2,s2⟩ t ht
  obtain ⟨r,hr1,rfl⟩:=ref_get hx
  have hi:i < rows.length:=by have:=(List.getElem?_eq_some_iff.mp hr1).1; lia
  have er:=List.getElem?_eq_getElem hi
  refine bC fun g_=>?_
  obtain ⟨r',e1,e2⟩:=ra.at_ er
  refine g_ ?_
  clear g_
  have e3:r=r':=by rw [hr1] at e1; cases e1; rfl
  subst e3
  have hw:=sm2 _ (List.getElem_mem hi)
  generalize rows[i]=row at er e2 hw
  have u1:=same_upd ht (.tup [.int (i:Int),.ref r])
  have ht3:=u1 _ _ ht2
  have mu3:=mu2.same u1
  have s3:=s2.trans u1
  have hrow:=s3 _ _ e2
  refine ⟨t,_,rfl,SqT.of upd_same,rfl,_,_,rfl,_,_,rfl,rfl,?_⟩
  generalize upd H2 t (.tup [.int (i:Int),.ref r])=H3 at ht3 mu3 s3 hrow
  refine ⟨.inl ⟨rfl,_,SqL.of ht3⟩,r,_,rfl,.inl (SqL.of hrow),_,rfl,(by rw [List.length_map]; lia),(by rw [List.length_map]; lia),fun D2 hD2=>?_⟩
  rw [List.length_map,Int.toNat_natCast]
  refine ⟨Wd row.length (fun j σ2 acc H5=>Ex2 fun (z:Option V) (vs:List Addr)=>σ2=[z,some (.int (i:Int))]∧acc=vs.map V.ref∧vs.length=j∧MvAt H5 vs (((List.range j).map fun (x:Nat)=>((x:Int),(i:Int))).map pr)∧Same H3 H5∧H5 D2=some (.lst acc)),wd_0 ⟨none,[],rfl,rfl,rfl,True.intro,same_upd hD2 _,upd_same⟩,?_⟩
  rintro j jm σ2 acc H5 h_
  refine bC fun g_=>?_
  obtain ⟨e7_,hj0,z2,vs,e8_,e9_,vl,mv5,s5,hD5⟩:=h_
  refine g_ ?_
  clear g_
  obtain rfl:=e7_
  obtain rfl:=e8_
  obtain rfl:=e9_
  refine rg_ask hj0 (fun hj=>?_) (fun hend=>?_)
  ·rw [Int.zero_add]
   refine ⟨le2,fun t ht=>?_⟩
   have u:=same_upd ht (.tup [V.int (j:Int),.int (i:Int)])
   refine ⟨u _ _ hD5,(by rw [List.length_map,vl]; exact line3 (show j≤1000 by lia) (by decide)),wd_next hj ⟨_,vs++[t],rfl,by rw [List.map_append]; rfl,by rw [List.length_append,vl]; rfl,?_,same_in (s5.trans u) hD2,upd_same⟩⟩
   rw [List.range_succ,List.map_append,List.map_append]
   exact ((mv5.same u).snoc upd_same).upd (fun m e=>by rw [u _ _ hD5] at e; cases e)
  ·subst hend
   have ht5:=s5 _ _ ht3
   have ul:us.length≤1600:=by
    rw [mu3.len,List.length_map]
    have:=cellsF_le (rows.take i) 0 fun r hr=>sm2 r (List.mem_of_mem_take hr)
    rw [List.length_take] at this
    lia
   refine ⟨tl,D2,_,_,rfl,rfl,ht5,hD5,(by rw [List.length_map,List.length_map,vl]; exact Nat.le_trans (show us.length + row.length≤2000 by lia) (by decide)),?_⟩
   refine ⟨_,_,us++vs,rfl,by rw [upd_same,List.map_append],?_,same_in (s3.trans s5) htl⟩
   rw [List.take_add_one,er]
   show MvAt _ _ ((cellsF 0 (rows.take i++[row])).map pr)
   rw [cellsF_snoc,List.length_take,Nat.min_eq_left (by lia),Nat.zero_add,List.map_append]
   have app:∀ {ts us:List Addr} {ms ns:List (List V)},MvAt H5 ts ms→MvAt H5 us ns→MvAt H5 (ts++us) (ms++ns):=fun a b=>MvAt.app a b
   exact (app (mu3.same s5) mv5).upd (fun m e=>by rw [ht5] at e; cases e)
 ·rintro σ H2 h_
  refine bC fun g_=>?_
  obtain ⟨x2,x3,us,e10_,ht2,mu2,s2⟩:=h_
  refine g_ ?_
  clear g_
  obtain rfl:=e10_
  rw [List.length_map,rsl,List.take_of_length_le (Nat.le_refl _)] at mu2
  refine nxS1 eE ?_
  exact (q tl H2 htl s2 ⟨us,ht2,mu2⟩)
noncomputable def Kp (rs:List Addr) (H H':Hp):Prop:=∀ x o,x ∉ rs→H x=some o→H' x=some o
theorem Kp.trans {rs:List Addr} {H H1 H2:Hp} (h:Kp rs H H1) (g:Kp rs H1 H2):Kp rs H H2:=fun x o n e=>g x o n (h x o n e)
theorem Kp.of {rs:List Addr} {H H1:Hp} (h:Same H H1):Kp rs H H1:=fun x o Z e=>h x o e
theorem RowsAt.mem {H:Hp}:∀ {rs:List Addr} {rows:List (List Int)} {r:Addr},RowsAt H rs rows→r∈rs→∃ xs,H r=some (.lst xs)
 | _ :: _,_ :: _,r,h,m=>by
  rcases List.mem_cons.mp m with rfl | m
  ·exact ⟨_,h.1⟩
  ·exact RowsAt.mem h.2 m
 | [],_,_,_,m=>by cases m
 | _ :: _,[],_,h,_=>h.elim
theorem RowsAt.out {H:Hp} {rs:List Addr} {rows:List (List Int)} {t:Addr} {m:List V} (h:RowsAt H rs rows) (e:H t=some (.tup m)):t ∉ rs:=fun z=>by
 obtain ⟨xs,h⟩:=h.mem z
 rw [h] at e
 cases e
theorem RowsAt.set {H:Hp} {a:Addr} {row:List Int}:∀ {rs:List Addr} {rows:List (List Int)} {i:Nat},rs.Nodup→RowsAt H rs rows→rs[i]?=some a→RowsAt (upd H a (.lst (row.map V.int))) rs (rows.set i row)
 | r :: rs,s :: rows,0,nd,h,e=>by
  cases e
  have n:=(List.nodup_cons.mp nd).1
  refine ⟨upd_same,?_⟩
  have keep:∀ {ts:List Addr} {us:List (List Int)},(∀ t∈ts,t≠a)→RowsAt H ts us→RowsAt (upd H a (.lst (row.map V.int))) ts us:=by
   intro ts
   induction ts with
   | nil =>
    intro us _ h
    cases us with
    | nil=>exact True.intro
    | cons u us=>exact h.elim
   | cons t ts ih =>
    intro us k h
    cases us with
    | nil=>exact h.elim
    | cons u us=>exact ⟨by rw [upd_ne (k t List.mem_cons_self)]; exact h.1,ih (fun x hx=>k x (List.mem_cons_of_mem _ hx)) h.2⟩
  exact keep (fun t ht z=>n (by rw [← z]; exact ht)) h.2
 | r :: rs,s :: rows,i + 1,nd,h,e=>by
  have n:=(List.nodup_cons.mp nd).1
  have m:a∈rs:=List.mem_of_getElem? (i:=i) (by simpa using e)
  refine ⟨?_,RowsAt.set (i:=i) (List.nodup_cons.mp nd).2 h.2 (by simpa using e)⟩
  rw [upd_ne (fun z=>n (by rw [z]; exact m))]
  exact h.1
 | [],_,_,_,_,e=>by cases e
 | _ :: _,[],_,_,h,_=>h.elim
inductive PspCut (vs:List V) (H:Hp) (Q:VK):Prop
 | mk (b c:Addr) (h:Int) (rs:List Addr) (rows:List (List Int)) (cs:List (Int×Int)) (h0:vs=[.ref b,.ref c,.int h]) (h1:H b=some (.lst (rs.map V.ref))) (h2:RowsAt H rs rows) (h3:rs.Nodup) (h4:b ∉ rs) (h5:c ∉ rs) (h6:FtAt H c cs) (h7:Rect rows) (h8:(∀ x∈cs,ins rows x=true)) (h9:∀ H',Kp rs H H'→RowsAt H' rs (cutsF rows (cs.map fun x=>(x,h)))→Q .non H'):PspCut  vs H Q
noncomputable def spCut:Sp:=fun vs H Q Z=>PspCut  vs H Q
theorem scCut:FnScope ["bed","cells","height","cell","row"] ["bed","cells","height"] (defScope sCut):=⟨rfl,rfl,rfl,by decide +kernel,rfl,by decide +kernel,by decide +kernel⟩
theorem ixN_nat {n j:Nat} (h:j < n):ixN n (j:Int)=some j:=by
 unfold ixN
 rw [if_pos (by lia),if_pos (by lia)]
 simp
theorem ok_cut (T:LawT mg) (F:Fun K "cut_down" "cut_down" sCut f fd'):FnOk P w K mg base (CX1 P w) 1 f fd' ["bed","cells","height"] spCut:=by
 have nd:=scCut.nd
 refine F.ok1 scCut (fun vs H Q E h=>?_) (fun cdv A outer s H vs Q E hr h=>?_)
 ·refine bC fun g_=>?_
  obtain ⟨b,c,h,rs,rows,cs,e11_,_⟩:=h
  refine g_ ?_
  clear g_
  obtain rfl:=e11_
  rfl
 refine bC fun g_=>?_
 obtain ⟨b,c,h,rs,rows,cs,e12_,hb,ra,rnd,nb,nc,⟨ts,hc,mvc⟩,rect,hin,q⟩:=h
 refine g_ ?_
 clear g_
 obtain rfl:=e12_
 have tl:ts.length=cs.length:=by rw [mvc.len,List.length_map]
 refine ⟨_,(pss_one (ps_for own1 rfl (pi_listK (K:=K) rfl (pv 1)) (pg_name (i:=3) nd rfl (Or.inl rfl)) (pss_cons (ps_set (i:=4) nd rfl (Or.inl rfl) (pe_ix (ix_listK (K:=K) rfl) (pv 0) (pe_ix (ix_tupK (K:=K) rfl) (pv 3) pe_int (fun Z Z=>rfl)) (fun Z Z=>rfl)))
  (pss_one (ps_asg (pe_callB (call_min2 rfl) rfl T.min bt_min (pa_cons (pe_ix (ix_listK (K:=K) rfl) (pv 4) (pe_ix (ix_tupK (K:=K) rfl) (pv 3) pe_int (fun Z Z=>rfl)) (fun Z Z=>rfl)) (pa_cons (pv 2) pa_nil))) (pg_sub (pv 4) (pe_ix (ix_tupK (K:=K) rfl) (pv 3) pe_int (fun Z Z=>rfl)) set_list)))))),?_⟩
 (try dsimp only [L2.cxK])
 refine ⟨c,rfl,⟨_,SqL.of hc⟩,?_⟩
 refine for_list (K:=K) (xs:=ts.map V.ref) (fun i σ H2=>∃ x3 x4:Option V,σ=[some (.ref b),some (.ref c),some (.int h),x3,x4]∧Kp rs H H2∧RowsAt H2 rs (cutsF rows ((cs.take i).map fun x=>(x,h)))) ⟨none,none,rfl,fun Z Z Z e=>e,by rw [List.take_zero]; exact ra⟩ ?_ ?_ ?_
 ·rintro i σ H2 _ h_
  refine bC fun g_=>?_
  obtain ⟨x3,x4,e13_,k2,_⟩:=h_
  refine g_ ?_
  clear g_
  obtain rfl:=e13_
  exact SqL.of (k2 _ _ nc hc)
 ·rintro i v σ H2 hx h_
  refine bC fun g_=>?_
  obtain ⟨x3,x4,e14_,k2,ra2⟩:=h_
  refine g_ ?_
  clear g_
  obtain rfl:=e14_
  obtain ⟨t,ht,rfl⟩:=ref_get hx
  have hic:i < cs.length:=by have:=(List.getElem?_eq_some_iff.mp ht).1; lia
  have ec:=List.getElem?_eq_getElem hic
  have gt0:=mvc.at_ ht (by rw [List.getElem?_map,ec]; rfl)
  have gt:H2 t=some (.tup (pr cs[i])):=k2 _ _ (ra.out gt0) gt0
  have hi1:=hin _ (List.getElem_mem hic)
  generalize cs[i]=c1 at ec gt hi1 gt0
  have al:=cuts_alike ((cs.take i).map fun x=>(x,h)) rows
  have hi2:ins (cutsF rows ((cs.take i).map fun x=>(x,h))) c1=true:=by rw [← al.ins]; exact hi1
  refine bC fun g_=>?_
  obtain ⟨iy,ix,row,v,e5,e6,e7,e8⟩:=ins_at hi2 (al.rect rect)
  refine g_ ?_
  clear g_
  have ex:c1.1=(ix:Int):=congrArg Prod.fst e5
  have ey:c1.2=(iy:Int):=congrArg Prod.snd e5
  refine bC fun g_=>?_
  obtain ⟨a,ha,hra⟩:=ra2.at_ e6
  refine g_ ?_
  clear g_
  have hb2:=k2 _ _ nb hb
  have ay:atI (rs.map V.ref) c1.2=some (.ref a):=by rw [ey]; exact atI_nat (by rw [List.getElem?_map,ha]; rfl)
  have ax:atI (row.map V.int) c1.1=some (.int v):=by rw [ex]; exact atI_nat (by rw [List.getElem?_map,e7]; rfl)
  have jx:ixN (row.map V.int).length c1.1=some ix:=by rw [ex]; exact ixN_nat (by rw [List.length_map]; exact (List.getElem?_eq_some_iff.mp e7).1)
  refine ⟨t,_,1,.int c1.2,rfl,rfl,SqT.of gt,rfl,b,_,_,.ref a,rfl,rfl,SqL.of hb2,ay,?_⟩
  refine ⟨t,_,0,.int c1.1,rfl,rfl,SqT.of gt,rfl,a,_,_,.int v,rfl,rfl,SqL.of hra,ax,_,_,rfl,t,_,0,.int c1.1,rfl,rfl,SqT.of gt,rfl,a,_,_,ix,rfl,rfl,hra,jx,?_⟩
  have em:(row.map V.int).set ix (.int (if h < v then h else v))=(row.set ix (mn v h)).map V.int:=List.map_set.symm
  rw [em]
  refine ⟨_,_,rfl,fun x o nx e=>?_,?_⟩
  ·rw [upd_ne (fun z=>nx (by rw [z]; exact List.mem_of_getElem? ha))]
   exact k2 x o nx e
  ·have e9:(cs.take (i + 1)).map (fun x=>(x,h))=(cs.take i).map (fun x=>(x,h))++[(c1,h)]:=by
    rw [List.take_add_one,ec,List.map_append]
    rfl
   rw [e9,cuts_app]
   show RowsAt _ rs (cutC (cutsF rows ((cs.take i).map fun x=>(x,h))) (c1,h))
   have e10:cutC (cutsF rows ((cs.take i).map fun x=>(x,h))) (c1,h)=(cutsF rows ((cs.take i).map fun x=>(x,h))).set iy (row.set ix (mn v h)):=by
    unfold cutC
    simp only [e8]
    rw [ex,ey,Int.toNat_natCast,Int.toNat_natCast,e6]
    rfl
   rw [e10]
   exact ra2.set rnd ha
 ·rintro σ H2 h_
  refine bC fun g_=>?_
  obtain ⟨x3,x4,e16_,k2,ra2⟩:=h_
  refine g_ ?_
  clear g_
  obtain rfl:=e16_
  rw [List.length_map,tl,List.take_of_length_le (Nat.le_refl _)] at ra2
  exact q H2 k2 ra2
end
noncomputable def CtAt (H:Hp) (ct:Addr) (t:Tool):Prop:=∃ ft,H ct=some (.tup [.ref ft,.int t.2])∧FtAt H ft t.1
theorem CtAt.same {H H':Hp} {ct:Addr} {t:Tool} (h:CtAt H ct t) (s:Same H H'):CtAt H' ct t:=by
 refine bC fun g_=>?_
 obtain ⟨ft,a,b⟩:=h
 refine g_ ?_
 clear g_
 exact ⟨ft,s _ _ a,b.same s⟩
noncomputable def CtsAt (H:Hp):List Addr→List Tool→Prop
 | [],[]=>True
 | c :: cs,t :: ts=>CtAt H c t∧CtsAt H cs ts
 | _,_=>False
theorem CtsAt.same {H H':Hp} (s:Same H H'):∀ {cs:List Addr} {ts:List Tool},CtsAt H cs ts→CtsAt H' cs ts
 | [],[],_=>True.intro
 | _ :: _,_ :: _,h=>⟨h.1.same s,CtsAt.same s h.2⟩
 | [],_ :: _,h=>h.elim
 | _ :: _,[],h=>h.elim
theorem CtsAt.len {H:Hp}:∀ {cs:List Addr} {ts:List Tool},CtsAt H cs ts→cs.length=ts.length
 | [],[],_=>rfl
 | _ :: _,_ :: _,h=>by rw [List.length_cons,List.length_cons,CtsAt.len h.2]
 | [],_ :: _,h=>h.elim
 | _ :: _,[],h=>h.elim
theorem CtsAt.at_ {H:Hp}:∀ {cs:List Addr} {ts:List Tool} {i:Nat} {c:Addr},CtsAt H cs ts→cs[i]?=some c→∃ t,ts[i]?=some t∧CtAt H c t
 | [],[],_,_,_,e=>by cases e
 | _ :: _,t :: _,0,_,h,e=>by cases e; exact ⟨t,rfl,h.1⟩
 | _ :: _,_ :: _,i + 1,_,h,e=>by
  refine bC fun g_=>?_
  obtain ⟨t,a,b⟩:=CtsAt.at_ (i:=i) h.2 e
  refine g_ ?_
  clear g_
  exact ⟨t,a,b⟩
 | [],_ :: _,_,_,h,_=>h.elim
 | _ :: _,[],_,_,h,_=>h.elim
noncomputable def ShAt (H:Hp) (sh:Addr) (ts:List Tool):Prop:=∃ cs,H sh=some (.lst (cs.map V.ref))∧CtsAt H cs ts
theorem ShAt.same {H H':Hp} {sh:Addr} {ts:List Tool} (h:ShAt H sh ts) (s:Same H H'):ShAt H' sh ts:=by
 refine bC fun g_=>?_
 obtain ⟨cs,a,b⟩:=h
 refine g_ ?_
 clear g_
 exact ⟨cs,s _ _ a,b.same s⟩
theorem RowsAt.keep {H H':Hp}:∀ {rs:List Addr} {rows:List (List Int)},(∀ r∈rs,∀ o,H r=some o→H' r=some o)→RowsAt H rs rows→RowsAt H' rs rows
 | [],[],_,_=>True.intro
 | r :: _,_ :: _,k,h=>⟨k r List.mem_cons_self _ h.1,RowsAt.keep (fun x hx=>k x (List.mem_cons_of_mem _ hx)) h.2⟩
 | [],_ :: _,_,h=>h.elim
 | _ :: _,[],_,h=>h.elim
theorem RowsAt.snoc {H:Hp} {r:Addr} {row:List Int} (e:H r=some (.lst (row.map V.int))):∀ {rs:List Addr} {rows:List (List Int)},RowsAt H rs rows→RowsAt H (rs++[r]) (rows++[row])
 | [],[],_=>⟨e,True.intro⟩
 | _ :: _,_ :: _,h=>⟨h.1,RowsAt.snoc e h.2⟩
 | [],_ :: _,h=>h.elim
 | _ :: _,[],h=>h.elim
theorem Kp.same {rs:List Addr} {H H1 H2:Hp} (s:Same H H1) (n:∀ r∈rs,H r=none) (k:Kp rs H1 H2):Same H H2:=fun x o e=>k x o (fun z=>by rw [n x z] at e; cases e) (s x o e)
section
variable {f:Addr} {fd':FuncData}
theorem lc_rows {b:Addr} {rs:List Addr} {rows:List (List Int)} {te:TE} {H1:Hp} {A:Hp→Prop} (hb:H1 b=some (.lst (rs.map V.ref))) (ra:RowsAt H1 rs rows) (sm:rows.length≤1000)
  (hte:∀ (r:Addr) (row:List Int) (H2:Hp) (R:VK),H2 r=some (.lst (row.map V.int))→(∀ p,H2 p=none→R (.ref p) (upd H2 p (.lst (row.map V.int))))→te [some (.ref r)] H2 R) {D:Addr} (hD:H1 D=none)
  (q:∀ (hs:List Addr) (H':Hp),Same H1 H'→H' D=some (.lst (hs.map V.ref))→RowsAt H' hs rows→hs.Nodup→(∀ h∈hs,H1 h=none)→D ∉ hs→A H') :
  ∃ W:Nat→Nat→St→List V→Hp→Prop,(∃ m,W 0 m [none] [] (upd H1 D (.lst []))) ∧
   ∀ i m σ' acc H,W i m σ' acc H→((Itl K b).stop i H∧A H)∨((Itl K b).go i H∧∀ x H',(Itl K b).yld i H x H'→gName 0 x σ' H' fun σ2 H2=>tNoIf σ2 H2 fun b H3 =>
    if b=true then te σ2 H3 fun y H4=>H4 D=some (.lst acc)∧acc.length < sizeLine∧∃ m',m' < m∧W (i + 1) m' σ2 (acc++[y]) (upd H4 D (.lst (acc++[y]))) else ∃ m',m' < m∧W (i + 1) m' σ2 acc H3):=by
 have rsl:=ra.len
 refine ⟨Wd rows.length (fun i σ acc H2=>Ex2 fun (z:Option V) (hs:List Addr)=>σ=[z]∧acc=hs.map V.ref∧RowsAt H2 hs (rows.take i)∧(∀ h∈hs,H1 h=none)∧D ∉ hs∧hs.Nodup∧Same H1 H2∧H2 D=some (.lst acc)),wd_0 ⟨none,[],rfl,rfl,by rw [List.take_zero]; exact True.intro,fun Z h=>(List.not_mem_nil h).elim,List.not_mem_nil,List.nodup_nil,same_upd hD _,upd_same⟩,?_⟩
 rintro i im σ acc H2 h_
 refine bC fun g_=>?_
 obtain ⟨e1_,hi0,z,hs,e2_,e3_,rh,nh,nD,ndh,s2,hD2⟩:=h_
 refine g_ ?_
 clear g_
 obtain rfl:=e1_
 obtain rfl:=e2_
 obtain rfl:=e3_
 refine lc_ask (K:=K) (xs:=rs.map V.ref) (SqL.of (s2 _ _ hb)) (by rw [List.length_map,rsl]; exact hi0) (fun x hx hi=>?_) (fun hend=>?_)
 ·obtain ⟨r,hr',rfl⟩:=ref_get hx
  have hi':i < rows.length:=by rw [List.length_map,rsl] at hi; exact hi
  obtain ⟨r',e1,e2⟩:=ra.at_ (List.getElem?_eq_getElem hi')
  have e3:r=r':=by rw [hr'] at e1; cases e1; rfl
  subst e3
  have hsl:=rh.len
  rw [List.length_take] at hsl
  show te [some (.ref r)] H2 _
  refine hte r rows[i] H2 _ (s2 _ _ e2) fun p hp=>?_
  have u:=same_upd hp (.lst ((rows[i]).map V.int))
  have np:=ne_new hD2 hp
  refine ⟨u _ _ hD2,(by rw [List.length_map]; exact line3 (show hs.length≤1000 by lia) (by decide)),wd_next hi' ⟨_,hs++[p],rfl,by rw [List.map_append]; rfl,?_,fun h hh=>?_,fun z=>?_,?_,same_in (s2.trans u) hD,upd_same⟩⟩
  ·rw [List.take_add_one,List.getElem?_eq_getElem hi']
   refine RowsAt.snoc (by rw [upd_ne np,upd_same]) (rh.keep fun r hr o e=>?_)
   rw [upd_ne (fun z=>nD (by rw [← z]; exact hr))]
   exact u _ _ e
  ·rcases List.mem_append.mp hh with hh | hh
   ·exact nh h hh
   ·rw [show h=p by simpa using hh]; exact s2.free hp
  ·rcases List.mem_append.mp z with z | z
   ·exact nD z
   ·exact np (List.mem_singleton.mp z).symm
  ·refine List.nodup_append.mpr ⟨ndh,by simp,fun a ha b hb e=>?_⟩
   rw [show b=p by simpa using hb] at e
   obtain ⟨xs,hx⟩:=rh.mem ha
   rw [e,hp] at hx
   cases hx
 ·rw [List.length_map,rsl] at hend
  rw [hend,List.take_of_length_le (Nat.le_refl _)] at rh
  exact q hs H2 s2 hD2 rh ndh nh nD
inductive PspHad (vs:List V) (H:Hp) (Q:VK):Prop
 | mk (b wh sh:Addr) (bed wished:List (List Int)) (ts:List Tool) (h0:vs=[.ref b,.ref wh,.ref sh]) (h1:BdAt H b bed) (h2:BdAt H wh wished) (h3:ShAt H sh ts) (h4:Rect bed) (h5:Alike bed wished) (h6:Small bed) (h7:(∀ t∈ts,t.1.length≤100)) (h8:∀ D hs H',H D=none→Same H H'→H' D=some (.lst (hs.map V.ref))→RowsAt H' hs (hadF bed wished ts)→hs.Nodup→(∀ h∈hs,H h=none)→D ∉ hs→Q (.ref D) H'):PspHad  vs H Q
noncomputable def spHad:Sp:=fun vs H Q Z=>PspHad  vs H Q
theorem scHad:FnScope ["bed","wished","shelf","told","cutter","place","under"] ["bed","wished","shelf"] (defScope sHad):=⟨rfl,rfl,rfl,by decide +kernel,rfl,by decide +kernel,by decide +kernel⟩
theorem opsS_snoc (bed wished:List (List Int)) (ts:List Tool) (t:Tool):opsS bed wished (ts++[t])=opsS bed wished ts++opsT bed wished t:=by
 unfold opsS
 rw [List.flatMap_append,List.flatMap_cons,List.flatMap_nil,List.append_nil]
theorem ok_had (T:LawT mg) (FC:Fn P w K mg base "cells_of" 1 ["bed"] spCells) (FU:Fn P w K mg base "cells_under" 2 ["bed","cutter","x","y"] spUnder) (FG:Fn P w K mg base "greatest" 1 ["bed","cells"] spGreat) (FD:Fn P w K mg base "cut_down" 1 ["bed","cells","height"] spCut)
  (F:Fun K "had" "had" sHad f fd'):FnOk P w K mg base (CX1 P w) 3 f fd' ["bed","wished","shelf"] spHad:=by
 have nd:=scHad.nd
 refine F.ok1 scHad (fun vs H Q E h=>?_) (fun cdv A outer s H vs Q E hr h=>?_)
 ·refine bC fun g_=>?_
  obtain ⟨b,wh,sh,bed,wished,ts,e5_,_⟩:=h
  refine g_ ?_
  clear g_
  obtain rfl:=e5_
  rfl
 refine bC fun g_=>?_
 obtain ⟨b,wh,sh,bed,wished,ts,e6_,hb,hwh,hsh,rect,al,small,feet,q⟩:=h
 refine g_ ?_
 clear g_
 obtain rfl:=e6_
 have hr1:Room 1 _:=hr.mono (by decide)
 have hr2:Room 2 _:=hr.mono (by decide)
 refine ⟨_,(pss_cons (ps_setC (i:=3) (own:=["row"]) (capn:=[]) (capI:=[]) nd rfl (Or.inl rfl) rfl rfl (blk0 rfl (by decide +kernel)) (pi_listK (K:=K) rfl (pv 0)) (fun Z Z Z Z Z Z=>pg_name (i:=0) (nd1 "row") rfl (Or.inl rfl)) (fun Z Z Z Z Z Z=>pifs_nil) (fun Z Z Z Z Z Z=>(pe_callTy (call_listK (K:=K) rfl) rfl T.list bt_list (pa_cons (pv 0) pa_nil))))
  (pss_cons (ps_for own1 rfl (pi_listK (K:=K) rfl (pv 2)) (pg_name (i:=4) nd rfl (Or.inl rfl)) (pss_one (ps_for own1 rfl (pi_listK (K:=K) rfl (pf_call FC hr1 rfl (pass1 (E:=E)) (pa_cons (pv 0) pa_nil))) (pg_name (i:=5) nd rfl (Or.inl rfl)) (pss_cons (ps_set (i:=6) nd rfl (Or.inl rfl) (pf_call FU hr2 rfl (pass1 (E:=E)) (pa_cons (pv 0) (pa_cons (pv 4) (pa_cons (pe_ix (ix_tupK (K:=K) rfl) (pv 5) pe_int (fun Z Z=>rfl)) (pa_cons (pe_ix (ix_tupK (K:=K) rfl) (pv 5) pe_int (fun Z Z=>rfl)) pa_nil))))))
  (pss_one (ps_expr (pf_call FD hr1 rfl (pass1 (E:=E)) (pa_cons (pv 3) (pa_cons (pv 6) (pa_cons (pf_call FG hr1 rfl (pass1 (E:=E)) (pa_cons (pv 1) (pa_cons (pv 6) pa_nil))) pa_nil))))))))))
  (pss_one (ps_ret (pv 3))))),?_⟩
 (try dsimp only [L2.cxK])
 refine abs_seq fun dE eE=>?_
 refine bC fun g_=>?_
 obtain ⟨rs,hb1,ra⟩:=id hb
 refine g_ ?_
 clear g_
 refine ⟨b,rfl,⟨_,SqL.of hb1⟩,fun D hD=>?_⟩
 refine lc_rows hb1 ra (by have:=small.1; lia) (fun r row H2 R hr' k=>⟨r,_,rfl,.inl (SqL.of hr'),k⟩) hD (fun hs H1 s1 hD1 rh ndh nh nD=>?_)
 refine bC fun g_=>?_
 obtain ⟨cts,hs1,hs2⟩:=id hsh
 refine g_ ?_
 clear g_
 have ctl:=hs2.len
 have go:∀ {H2:Hp},Kp hs H1 H2→Same H H2:=fun k=>k.same s1 nh
 refine nxS eE fun dE eE=>?_
 refine ⟨sh,rfl,⟨_,SqL.of (s1 _ _ hs1)⟩,?_⟩
 refine for_list (K:=K) (xs:=cts.map V.ref) (fun i σ H2=>∃ x4 x5 x6:Option V,σ=[some (.ref b),some (.ref wh),some (.ref sh),some (.ref D),x4,x5,x6]∧Kp hs H1 H2∧RowsAt H2 hs (cutsF bed (opsS bed wished (ts.take i)))) ⟨none,none,none,rfl,fun Z Z Z e=>e,by rw [List.take_zero]; exact rh⟩ ?_ ?_ ?_
 ·rintro i σ H2 _ h_
  refine bC fun g_=>?_
  obtain ⟨x4,x5,x6,e7_,k2,_⟩:=h_
  refine g_ ?_
  clear g_
  obtain rfl:=e7_
  exact SqL.of ((go k2) _ _ hs1)
 ·rintro i v σ H2 hx h_
  refine bC fun g_=>?_
  obtain ⟨x4,x5,x6,e8_,k2,ra2⟩:=h_
  refine g_ ?_
  clear g_
  obtain rfl:=e8_
  refine bC fun g_=>?_
  obtain ⟨ct,hct,e9_⟩:=ref_get hx
  obtain ⟨t,et,hct1⟩:=hs2.at_ hct
  refine g_ ?_
  clear g_
  obtain rfl:=e9_
  refine ⟨b,bed,rfl,hb.same (go k2),small,fun pl H3 npl s3 hm_=>?_⟩
  refine bC fun g_=>?_
  obtain ⟨pts,hpl,mpl⟩:=hm_
  refine g_ ?_
  clear g_
  have plo:pl ∉ hs:=fun z=>by
   obtain ⟨xs,hz⟩:=ra2.mem z
   rw [hz] at npl
   cases npl
  have ptl:pts.length=(cellsF 0 bed).length:=by rw [mpl.len,List.length_map]
  have ra3:=ra2.same s3
  have k3:Kp hs H1 H3:=k2.trans (Kp.of s3)
  refine ⟨pl,rfl,⟨_,SqL.of hpl⟩,?_⟩
  refine for_list (K:=K) (xs:=pts.map V.ref) (fun j σ H4=>∃ x5 x6:Option V,σ=[some (.ref b),some (.ref wh),some (.ref sh),some (.ref D),some (.ref ct),x5,x6]∧Kp hs H3 H4∧RowsAt H4 hs (cutsF (cutsF bed (opsS bed wished (ts.take i))) (((cellsF 0 bed).take j).flatMap (opsP bed wished t)))) ⟨x5,x6,rfl,fun Z Z Z e=>e,by rw [List.take_zero]; exact ra3⟩ ?_ ?_ ?_
  ·rintro j σ H4 _ h_
   refine bC fun g_=>?_
   obtain ⟨x5,x6,e10_,k4,_⟩:=h_
   refine g_ ?_
   clear g_
   obtain rfl:=e10_
   exact SqL.of (k4 _ _ plo hpl)
  ·rintro j v σ H4 hx h_
   refine bC fun g_=>?_
   obtain ⟨x5,x6,e11_,k4,ra4⟩:=h_
   refine g_ ?_
   clear g_
   obtain rfl:=e11_
   obtain ⟨pt,hpt,rfl⟩:=ref_get hx
   have hj:j < (cellsF 0 bed).length:=by have:=(List.getElem?_eq_some_iff.mp hpt).1; lia
   have ep:=List.getElem?_eq_getElem hj
   have gt0:=mpl.at_ hpt (by rw [List.getElem?_map,ep]; rfl)
   have gt:H4 pt=some (.tup (pr (cellsF 0 bed)[j])):=k4 _ _ (ra3.out gt0) gt0
   generalize (cellsF 0 bed)[j]=p at ep gt gt0
   have sH:=go (k3.trans k4)
   refine bC fun g_=>?_
   obtain ⟨ft,hc1,hc2⟩:=hct1.same sH
   refine g_ ?_
   clear g_
   have ft100:=feet t (List.mem_of_getElem? et)
   refine ⟨pt,_,0,.int p.1,rfl,rfl,SqT.of gt,rfl,pt,_,1,.int p.2,rfl,rfl,SqT.of gt,rfl,b,ct,ft,.int t.2,p.1,p.2,bed,t.1,rfl,hb.same sH,rect.1,hc1,hc2,by lia,fun u H5 nu s5 hu=>?_⟩
   have ulen:(und bed t.1 p.1 p.2).length≤1000:=Nat.le_trans (List.length_filter_le _ _) (by rw [List.length_map]; lia)
   have uin:∀ x∈und bed t.1 p.1 p.2,ins bed x=true:=fun x hx=>(List.mem_filter.mp hx).2
   refine ⟨wh,u,wished,und bed t.1 p.1 p.2,rfl,hwh.same (sH.trans s5),al.rect rect,hu,Nat.le_trans ulen (by decide),(fun x hx=>by rw [← al.ins]; exact uin x hx),fun H6 s6=>?_⟩
   have s46:=s5.trans s6
   have uo:u ∉ hs:=fun z=>by
    obtain ⟨xs,hz⟩:=ra4.mem z
    rw [hz] at nu
    cases nu
   have al2:Alike bed (cutsF (cutsF bed (opsS bed wished (ts.take i))) (((cellsF 0 bed).take j).flatMap (opsP bed wished t))):=(cuts_alike _ _).trans (cuts_alike _ _)
   have hD6:H6 D=some (.lst (hs.map V.ref)):=s46 _ _ (k4 _ _ nD (k3 _ _ nD hD1))
   refine ⟨D,u,_,hs,_,und bed t.1 p.1 p.2,rfl,hD6,ra4.same s46,ndh,nD,uo,hu.same s6,al2.rect rect,(fun x hx=>by rw [← al2.ins]; exact uin x hx),fun H7 k7 ra7=>?_⟩
   refine ⟨_,_,rfl,(k4.trans (Kp.of s46)).trans k7,?_⟩
   rw [List.take_add_one,ep,List.flatMap_append,cuts_app]
   show RowsAt H7 hs (cutsF _ ([p].flatMap (opsP bed wished t)))
   rw [List.flatMap_cons,List.flatMap_nil,List.append_nil]
   exact ra7
  ·rintro σ H4 h_
   refine bC fun g_=>?_
   obtain ⟨x5,x6,e13_,k4,ra4⟩:=h_
   refine g_ ?_
   clear g_
   obtain rfl:=e13_
   rw [List.length_map,ptl,List.take_of_length_le (Nat.le_refl _)] at ra4
   refine ⟨_,_,_,rfl,k3.trans k4,?_⟩
   rw [List.take_add_one,et]
   show RowsAt H4 hs (cutsF bed (opsS bed wished (ts.take i++[t])))
   rw [opsS_snoc,cuts_app]
   exact ra4
 ·rintro σ H2 h_
  refine bC fun g_=>?_
  obtain ⟨x4,x5,x6,e14_,k2,ra2⟩:=h_
  refine g_ ?_
  clear g_
  obtain rfl:=e14_
  rw [List.length_map,ctl,List.take_of_length_le (Nat.le_refl _)] at ra2
  refine nxS1 eE ?_
  exact (q D hs H2 hD (go k2) (k2 _ _ nD hD1) ra2 ndh nh nD)
end
end Car
namespace L2
open PySem PySem.Spec PyProof.Rows
theorem pg_tupK {X:Cx} {K:PySem.W.Frag} {pos:Pos} {es:List Expr} {k:Nat} {t:TGs} {n:Nat} (hK:X.K=K) (hc:X.calm=true) (h:PGs X es t)
  (hn:(assignEach es X.env).length=n:=by rfl) (hst:(assignEach es X.env).findIdx? (·.1)=none:=by rfl):PG X (.Tuple es k pos) (gTup K n t):=by
 subst hK
 exact pg_tup hc h hn hst
end L2
namespace Car
open PySem L2
theorem zw_len (xs ys:List Int) (h:ys.length=xs.length):(List.zipWith mn xs ys).length=xs.length:=by rw [List.length_zipWith,h,Nat.min_self]
theorem zw_take {xs ys:List Int} {i:Nat} {x y:Int} (ex:xs[i]?=some x) (ey:ys[i]?=some y):(List.zipWith mn xs ys).take (i + 1)=(List.zipWith mn xs ys).take i++[mn x y]:=by
 have e:(List.zipWith mn xs ys)[i]?=some (mn x y):=by rw [List.getElem?_zipWith,ex,ey]
 rw [List.take_add_one,e]
 rfl
section
variable {f:Addr} {fd':FuncData}
inductive PspLess (vs:List V) (H:Hp) (Q:VK):Prop
 | mk (a b:Addr) (xs ys:List Int) (h0:vs=[.ref a,.ref b]) (h1:H a=some (.lst (xs.map V.int))) (h2:H b=some (.lst (ys.map V.int))) (h3:ys.length=xs.length) (h4:xs.length≤40) (h5:∀ D H',H D=none→Same H H'→H' D=some (.lst ((List.zipWith mn xs ys).map V.int))→Q (.ref D) H'):PspLess vs H Q
noncomputable def spLess:Sp:=fun vs H Q Z=>PspLess vs H Q
theorem scLess:FnScope ["row","other"] ["row","other"] (defScope sLess):=⟨rfl,rfl,rfl,by decide +kernel,rfl,by decide +kernel,by decide +kernel⟩
theorem ndho:(["height","other_height"]:List Str).Nodup:=by decide +kernel
theorem ok_less (T:LawT mg) (NZ:mg "zip"=none) (F:Fun K "lesser_row" "lesser_row" sLess f fd'):FnOk P w K mg base (CX1 P w) 1 f fd' ["row","other"] spLess:=by
 have nd:=scLess.nd
 refine F.ok1 scLess (fun vs H Q E h=>?_) (fun cdv A outer s H vs Q E hr h=>?_)
 ·refine bC fun g_=>?_
  obtain ⟨a,b,xs,ys,e1_,_⟩:=h
  refine g_ ?_
  clear g_
  obtain rfl:=e1_
  rfl
 refine bC fun g_=>?_
 obtain ⟨a,b,xs,ys,e2_,ha,hb,hl,h40,q⟩:=h
 refine g_ ?_
 clear g_
 obtain rfl:=e2_
 refine ⟨_,(pss_one (ps_ret (pe_lc (own:=["height","other_height"]) (capn:=[]) (capI:=[]) rfl (blk0 rfl (by decide +kernel)) (pi_zip rfl NZ (pa_cons (pv 0) (pa_cons (pv 1) pa_nil))) (fun Z Z Z Z Z Z=>pg_tupK (K:=K) (n:=2) rfl rfl (pgs_cons (pg_name (i:=0) ndho rfl (Or.inl rfl)) (pgs_cons (pg_name (i:=1) ndho rfl (Or.inl rfl)) pgs_nil))) (fun Z Z Z Z Z Z=>pifs_nil) (fun Z Z Z Z Z Z=>pe_callB (call_min2 rfl) rfl T.min bt_min (pa_cons (pv 0) (pa_cons (pv 1) pa_nil)))))),?_⟩
 (try dsimp only [L2.cxK])
 refine ⟨a,b,xs.map V.int,ys.map V.int,rfl,SqL.of ha,SqL.of hb,fun D hD=>?_⟩
 have ml:(ys.map V.int).length=(xs.map V.int).length:=by rw [List.length_map,List.length_map,hl]
 refine ⟨Wd (xs.map V.int).length (fun i σ acc H2=>Ex2 fun (z y:Option V)=>σ=[z,y]∧acc=((List.zipWith mn xs ys).take i).map V.int∧Same H H2∧H2 D=some (.lst acc)),wd_0 ⟨none,none,rfl,rfl,same_upd hD _,upd_same⟩,?_⟩
 rintro i m σ acc H2 h_
 refine bC fun g_=>?_
 obtain ⟨e3_,hi0,z,y,e4_,e5_,s2,hD2⟩:=h_
 refine g_ ?_
 clear g_
 obtain rfl:=e3_
 obtain rfl:=e4_
 obtain rfl:=e5_
 refine zp_ask (K:=K) (SqL.of (s2 _ _ ha)) (SqL.of (s2 _ _ hb)) ml hi0 (fun x y hx hy hi tp htp=>?_) (fun hend=>?_)
 ·rw [List.getElem?_map] at hx hy
  refine bC fun g_=>?_
  obtain ⟨x0,ex,e6_⟩:=Option.map_eq_some_iff.mp hx
  obtain ⟨y0,ey,e7_⟩:=Option.map_eq_some_iff.mp hy
  refine g_ ?_
  clear g_
  obtain rfl:=e6_
  obtain rfl:=e7_
  have u5:=same_upd htp (.tup [V.int x0,.int y0])
  refine ⟨tp,_,rfl,SqT.of upd_same,rfl,_,_,rfl,_,_,rfl,rfl,?_⟩
  refine ⟨_,_,rfl,u5 _ _ hD2,?_,wd_next hi ⟨_,_,rfl,?_,same_in (s2.trans u5) hD,upd_same⟩⟩
  ·rw [List.length_map,List.length_take]
   rw [List.length_map] at hi0
   exact line3 (show _≤1000 from Nat.le_trans (Nat.min_le_left _ _) (Nat.le_trans hi0 (Nat.le_trans h40 (by decide)))) (by decide)
  ·rw [zw_take ex ey,List.map_append]
   rfl
 ·subst hend
  rw [List.length_map,← zw_len xs ys hl,List.take_length] at hD2
  exact q D H2 hD s2 hD2
noncomputable def lesB (a b:List (List Int)):List (List Int):=List.zipWith (List.zipWith mn) a b
noncomputable def Frm (a b:List (List Int)):Prop:=b.map List.length=a.map List.length
theorem Frm.len {a b:List (List Int)} (h:Frm a b):b.length=a.length:=by
 have:=congrArg List.length h
 rwa [List.length_map,List.length_map] at this
theorem Frm.row {a b:List (List Int)} (h:Frm a b) {i:Nat} {r t:List Int} (e1:a[i]?=some r) (e2:b[i]?=some t):t.length=r.length:=by
 have:=congrArg (fun l=>l[i]?) h
 simp only [List.getElem?_map,e1,e2,Option.map_some,Option.some.injEq] at this
 exact this
theorem lesB_len {a b:List (List Int)} (h:Frm a b):(lesB a b).length=a.length:=by unfold lesB; rw [List.length_zipWith,h.len,Nat.min_self]
theorem lesB_get {a b:List (List Int)} {i:Nat} {r t:List Int} (e1:a[i]?=some r) (e2:b[i]?=some t):(lesB a b)[i]?=some (List.zipWith mn r t):=by unfold lesB; rw [List.getElem?_zipWith,e1,e2]
theorem Frm.les:∀ {a b:List (List Int)},Frm a b→Frm a (lesB a b)
 | [],_,_=>rfl
 | r :: a,[],h=>by cases h
 | r :: a,t :: b,h=>by
  have h1:t.length=r.length:=(List.cons.inj h).1
  have h2:Frm a b:=(List.cons.inj h).2
  show (List.zipWith mn r t).length :: (lesB a b).map List.length=r.length :: a.map List.length
  rw [zw_len r t h1,Frm.les h2]
noncomputable def leastF (a:List (List Int)) (bs:List (List (List Int))):List (List Int):=bs.foldl lesB a
theorem least_snoc (a:List (List Int)) (bs:List (List (List Int))) (b:List (List Int)):leastF a (bs++[b])=lesB (leastF a bs) b:=by unfold leastF; rw [List.foldl_append]; rfl
theorem least_frm {a:List (List Int)}:∀ {bs:List (List (List Int))},(∀ b∈bs,Frm a b)→∀ {c:List (List Int)},Frm a c→Frm a (bs.foldl lesB c)
 | [],_,_,hc=>hc
 | b :: bs,h,c,hc=>least_frm (bs:=bs) (fun x hx=>h x (List.mem_cons_of_mem _ hx)) (c:=lesB c b) (by
   have e:Frm c b:=(h b List.mem_cons_self).trans hc.symm
   exact e.les.trans hc)
end
theorem cut1 (xs:List V):cutV xs (some 1) none=xs.drop 1:=by
 unfold cutV
 cases xs with
 | nil=>rfl
 | cons x r=>simp [HT.sIx]
theorem take_snoc {α:Type} {xs:List α} {i:Nat} {x:α} (h:xs[i]?=some x):xs.take (i + 1)=xs.take i++[x]:=by
 rw [List.take_add_one,h]
 rfl
structure BdsAt (H:Hp) (bs:List Addr) (rs:List (List (List Int))):Prop where
 len:rs.length=bs.length
 at_:∀ (i:Nat) (b:Addr),bs[i]?=some b→∃ r,rs[i]?=some r∧BdAt H b r
theorem BdsAt.same {H H':Hp} {bs:List Addr} {rs:List (List (List Int))} (h:BdsAt H bs rs) (s:Same H H'):BdsAt H' bs rs :=
 ⟨h.len,fun i b e=>by obtain ⟨r,e1,hb⟩:=h.at_ i b e; exact ⟨r,e1,hb.same s⟩⟩
section
variable {f:Addr} {fd':FuncData}
inductive PspLeast (vs:List V) (H:Hp) (Q:VK):Prop
 | mk (B b0:Addr) (bs:List Addr) (r0:List (List Int)) (rs:List (List (List Int))) (h0:vs=[.ref B]) (h1:H B=some (.lst ((b0 :: bs).map V.ref))) (h2:BdAt H b0 r0) (h3:BdsAt H bs rs) (h4:∀ r∈rs,Frm r0 r) (h5:r0.length≤40) (h6:∀ r∈r0,r.length≤40)
   (h7:∀ v H',Same H H'→BdAt H' v (leastF r0 rs)→Q (.ref v) H'):PspLeast vs H Q
noncomputable def spLeast:Sp:=fun vs H Q Z=>PspLeast vs H Q
theorem scLeast:FnScope ["beds","told","bed"] ["beds"] (defScope sLeast):=⟨rfl,rfl,rfl,by decide +kernel,rfl,by decide +kernel,by decide +kernel⟩
theorem ndro:(["row","other"]:List Str).Nodup:=by decide +kernel
theorem ok_least (T:LawT mg) (NZ:mg "zip"=none) (FL:Fn P w K mg base "lesser_row" 1 ["row","other"] spLess) (F:Fun K "least_of" "least_of" sLeast f fd'):FnOk P w K mg base (CX1 P w) 2 f fd' ["beds"] spLeast:=by
 have nd:=scLeast.nd
 refine F.ok1 scLeast (fun vs H Q E h=>?_) (fun cdv A outer s H vs Q E hr h=>?_)
 ·refine bC fun g_=>?_
  obtain ⟨B,b0,bs,r0,rs,e1_,_⟩:=h
  refine g_ ?_
  clear g_
  obtain rfl:=e1_
  rfl
 refine bC fun g_=>?_
 obtain ⟨B,b0,bs,r0,rs,e2_,hB,hb0,hbs,frm,d40,w40,q⟩:=h
 refine g_ ?_
 clear g_
 obtain rfl:=e2_
 have hr1:Room 1 _:=hr.mono (by decide)
 refine ⟨_,(pss_cons (ps_set (i:=1) nd rfl (Or.inl rfl) (pe_ix (ix_listK (K:=K) rfl) (pv 0) pe_int (fun Z Z=>rfl)))
  (pss_cons (ps_for own1 rfl (pi_listK (K:=K) rfl (pe_slice (sl_listK (K:=K) rfl) (pv 0) (po_some pe_int) po_none)) (pg_name (i:=2) nd rfl (Or.inl rfl))
   (pss_one (ps_setC (i:=1) (own:=["row","other"]) (capn:=[]) (capI:=[]) nd rfl (Or.inl rfl) rfl rfl (blk0 rfl (by decide +kernel)) (pi_zip rfl NZ (pa_cons (pv 1) (pa_cons (pv 2) pa_nil))) (fun Z Z Z Z Z Z=>pg_tupK (K:=K) (n:=2) rfl rfl (pgs_cons (pg_name (i:=0) ndro rfl (Or.inl rfl)) (pgs_cons (pg_name (i:=1) ndro rfl (Or.inl rfl)) pgs_nil))) (fun Z Z Z Z Z Z=>pifs_nil) (fun Z Z Z Z Z Z=>pf_call FL hr1 rfl passN (pa_cons (pv 0) (pa_cons (pv 1) pa_nil))))))
  (pss_one (ps_ret (pv 1))))),?_⟩
 (try dsimp only [L2.cxK])
 refine abs_seq fun dE eE=>?_
 refine ⟨B,_,0,.ref b0,rfl,rfl,SqL.of hB,atI_nat (j:=0) rfl,?_⟩
 refine nxS eE fun dE eE=>?_
 refine ⟨_,rfl,B,_,rfl,SqL.of hB,fun sl hsl=>?_⟩
 rw [cut1]
 have u1:=same_upd hsl (.lst (((b0 :: bs).map V.ref).drop 1))
 refine ⟨sl,rfl,⟨_,SqL.of upd_same⟩,?_⟩
 generalize hH1:upd H sl (.lst (((b0 :: bs).map V.ref).drop 1))=H1 at u1
 have hsl1:H1 sl=some (.lst (bs.map V.ref)):=by rw [← hH1]; exact upd_same
 have hfr:∀ k,Frm r0 (leastF r0 (rs.take k)):=fun k=>least_frm (fun b hb=>frm b (List.mem_of_mem_take hb)) rfl
 refine for_list (K:=K) (a:=sl) (xs:=bs.map V.ref) (fun k σ Hc=>Ex2 fun (t:Addr) (g2:Option V)=>σ=[some (.ref B),some (.ref t),g2]∧Same H1 Hc∧BdAt Hc t (leastF r0 (rs.take k))) ⟨b0,none,rfl,Same.refl _,hb0.same u1⟩ (fun k σ Hc _ ⟨_,_,_,s,_⟩=>SqL.of (s _ _ hsl1)) ?_ ?_
 ·rintro k x σ Hc hx h_
  refine bC fun g_=>?_
  obtain ⟨t,g2,e3_,s1,ht⟩:=h_
  refine g_ ?_
  clear g_
  obtain rfl:=e3_
  refine bC fun g_=>?_
  obtain ⟨b,hb,e4_⟩:=ref_get hx
  obtain ⟨r,hr',hbr⟩:=(hbs.same (u1.trans s1)).at_ k b hb
  refine g_ ?_
  clear g_
  obtain rfl:=e4_
  have fr:Frm (leastF r0 (rs.take k)) r:=(frm r (List.mem_of_getElem? hr')).trans (hfr k).symm
  have dl:(leastF r0 (rs.take k)).length≤40:=by rw [(hfr k).len]; exact d40
  have wl:∀ a∈leastF r0 (rs.take k),a.length≤40:=fun a ha=>by
   refine bC fun g_=>?_
   obtain ⟨i,hi,e⟩:=List.getElem_of_mem ha
   refine g_ ?_
   clear g_
   have hi0:i < r0.length:=by rw [← (hfr k).len]; exact hi
   rw [← e,(hfr k).row (List.getElem?_eq_getElem hi0) (List.getElem?_eq_getElem hi)]
   exact w40 _ (List.getElem_mem hi0)
  have fin:leastF r0 (rs.take (k + 1))=lesB (leastF r0 (rs.take k)) r:=by rw [take_snoc hr',least_snoc]
  rw [fin]
  generalize leastF r0 (rs.take k)=A0 at *
  refine bC fun g_=>?_
  obtain ⟨ps,hps,ra⟩:=ht
  obtain ⟨os,hos,rb⟩:=hbr
  refine g_ ?_
  clear g_
  have pl:=ra.len
  have ol:=rb.len
  have lml:(os.map V.ref).length=(ps.map V.ref).length:=by rw [List.length_map,List.length_map,ol,pl,fr.len]
  refine ⟨t,b,ps.map V.ref,os.map V.ref,rfl,SqL.of hps,SqL.of hos,fun D hD=>?_⟩
  refine ⟨Wd (ps.map V.ref).length (fun i σ acc H2=>Ex3 fun (z y:Option V) (ns:List Addr)=>σ=[z,y]∧acc=ns.map V.ref∧ns.length=i∧RowsAt H2 ns ((lesB A0 r).take i)∧D ∉ ns∧Same Hc H2∧H2 D=some (.lst acc)),wd_0 ⟨none,none,[],rfl,rfl,rfl,by rw [List.take_zero]; exact True.intro,(by intro z; cases z),same_upd hD _,upd_same⟩,?_⟩
  rintro i m σ acc H2 h_
  refine bC fun g_=>?_
  obtain ⟨e5_,hi0,z,y,ns,e6_,e7_,nl,rn,nD,s2,hD2⟩:=h_
  refine g_ ?_
  clear g_
  obtain rfl:=e5_
  obtain rfl:=e6_
  obtain rfl:=e7_
  refine zp_ask (K:=K) (SqL.of (s2 _ _ hps)) (SqL.of (s2 _ _ hos)) lml hi0 (fun x y hx hy hi tp htp=>?_) (fun hend=>?_)
  ·refine bC fun g_=>?_
   obtain ⟨p,ep,e8_⟩:=ref_get hx
   obtain ⟨o,eo,e9_⟩:=ref_get hy
   refine g_ ?_
   clear g_
   obtain rfl:=e8_
   obtain rfl:=e9_
   have hiA:i < A0.length:=by rw [List.length_map,pl] at hi; exact hi
   have hiR:i < r.length:=by rw [fr.len]; exact hiA
   have eA:=List.getElem?_eq_getElem hiA
   have eR:=List.getElem?_eq_getElem hiR
   refine bC fun g_=>?_
   obtain ⟨p',e1,gp⟩:=ra.at_ eA
   refine g_ ?_
   clear g_
   obtain rfl:p=p':=by rw [ep] at e1; cases e1; rfl
   refine bC fun g_=>?_
   obtain ⟨o',e2,go⟩:=rb.at_ eR
   refine g_ ?_
   clear g_
   obtain rfl:o=o':=by rw [eo] at e2; cases e2; rfl
   have u5:=same_upd htp (.tup [V.ref p,.ref o])
   have sv:=s2.trans u5
   refine ⟨tp,_,rfl,SqT.of upd_same,rfl,_,_,rfl,_,_,rfl,rfl,?_⟩
   refine ⟨p,o,A0[i],r[i],rfl,sv _ _ gp,sv _ _ go,fr.row eA eR,wl _ (List.getElem_mem hiA),fun D2 H3 nD2 s3 hD3=>?_⟩
   have hDa:=s3 _ _ (u5 _ _ hD2)
   have nDD:D2≠D:=fun e=>by rw [e,u5 _ _ hD2] at nD2; cases nD2
   refine ⟨hDa,(by rw [List.length_map,nl]; exact line3 (show i≤1000 from Nat.le_trans (Nat.le_of_lt hiA) (Nat.le_trans dl (by decide))) (by decide)),wd_next hi ⟨_,_,ns++[D2],rfl,by rw [List.map_append]; rfl,by rw [List.length_append,nl]; rfl,?_,fun z=>?_,same_in (s2.trans (u5.trans s3)) hD,upd_same⟩⟩
   ·rw [List.take_add_one,lesB_get eA eR]
    refine RowsAt.snoc (by rw [upd_ne nDD]; exact hD3) (rn.keep fun x hx o e=>?_)
    rw [upd_ne (fun z=>nD (by rw [← z]; exact hx))]
    exact s3 _ _ (u5 _ _ e)
   ·rcases List.mem_append.mp z with z | z
    ·exact nD z
    ·exact nDD (List.mem_singleton.mp z).symm
  ·refine ⟨D,_,rfl,s1.trans s2,ns,hD2,?_⟩
   rw [hend,List.length_map,pl,← lesB_len fr,List.take_length] at rn
   exact rn
 ·rintro σ Hc h_
  refine bC fun g_=>?_
  obtain ⟨t,g2,e10_,s1,ht⟩:=h_
  refine g_ ?_
  clear g_
  obtain rfl:=e10_
  refine nxS1 eE ?_
  refine (q t Hc (u1.trans s1) ?_)
  rw [List.length_map,← hbs.len,List.take_length] at ht
  exact ht
end
noncomputable def prD (c:Int×Int):PyData:=.tuple [.int c.1,.int c.2]
theorem prD_can (c:Int×Int):PyData.canLay0 (prD c)=true∧PyData.depth (prD c)=1:=⟨rfl,rfl⟩
theorem prs_rp {K:PySem.W.Frag} {H:Hp}:∀ {ts:List Addr} {cs:List (Int×Int)},MvAt H ts (cs.map pr)→Rps K H (ts.map V.ref) (cs.map prD)
 | [],[],_=>.nil
 | _ :: _,_ :: _,h=>.cons (.tup (SqT.of h.1) (.cons (.int _) (.cons (.int _) .nil))) (prs_rp h.2)
 | [],_ :: _,h=>h.elim
 | _ :: _,[],h=>h.elim
theorem shaped_of {d:PyData} {k:Nat} (h:PyData.canLay0 d=true∧PyData.depth d≤k) (hk:k≤10):SeqAt.shaped d=true:=by
 unfold SeqAt.shaped
 rw [h.1,Bool.true_and]
 exact decide_eq_true (by lia)
theorem eq_false {d:PyData} (h:PyData.canLay0 d=true):(if true=true then !PyData.eqv d d else PyData.eqv d d)=false:=by
 rw [eqv_self d h]
 rfl
noncomputable def rowD (row:List Int):PyData:=.list (row.map .int)
theorem ints_can:∀ ns:List Int,PyData.canLayAll0 (ns.map .int)=true∧PyData.depthAll (ns.map .int)=0
 | []=>⟨rfl,rfl⟩
 | n :: ns=>by
  obtain ⟨a,b⟩:=ints_can ns
  rw [List.map_cons,PyData.canLayAll0,PyData.depthAll,a,b]
  exact ⟨rfl,rfl⟩
theorem rows_can:∀ rows:List (List Int),PyData.canLayAll0 (rows.map rowD)=true∧PyData.depthAll (rows.map rowD)≤1
 | []=>⟨rfl,by decide⟩
 | r :: rows=>by
  refine bC fun g_=>?_
  obtain ⟨a,b⟩:=rows_can rows
  obtain ⟨c,d⟩:=ints_can r
  refine g_ ?_
  clear g_
  rw [List.map_cons,PyData.canLayAll0,PyData.depthAll,a,rowD,PyData.canLay0,PyData.depth,c,d]
  exact ⟨rfl,by lia⟩
theorem bed_can (rows:List (List Int)):PyData.canLay0 (.list (rows.map rowD))=true∧PyData.depth (.list (rows.map rowD))≤10:=by
 obtain ⟨a,b⟩:=rows_can rows
 rw [PyData.canLay0,PyData.depth,a]
 exact ⟨rfl,by lia⟩
theorem prs_can:∀ cs:List (Int×Int),PyData.canLayAll0 (cs.map prD)=true∧PyData.depthAll (cs.map prD)≤1
 | []=>⟨rfl,by decide⟩
 | c :: cs=>by
  obtain ⟨a,b⟩:=prs_can cs
  rw [List.map_cons,PyData.canLayAll0,PyData.depthAll,a,(prD_can c).1,(prD_can c).2]
  exact ⟨rfl,by lia⟩
noncomputable def toolD (foot:List (Int×Int)) (bite:Int):PyData:=.tuple [.list (foot.map prD),.int bite]
theorem tool_can (foot:List (Int×Int)) (bite:Int):PyData.canLay0 (toolD foot bite)=true∧PyData.depth (toolD foot bite)≤10:=by
 obtain ⟨a,b⟩:=prs_can foot
 rw [toolD,PyData.canLay0,PyData.canLayAll0,PyData.canLay0,a,PyData.depth,PyData.depthAll,PyData.depth]
 refine ⟨rfl,?_⟩
 show (max ((PyData.depthAll (foot.map prD)) + 1) 0) + 1≤10
 lia
section
variable {K:PySem.W.Frag} {H:Hp}
theorem ints_rp:∀ ns:List Int,Rps K H (ns.map V.int) (ns.map .int)
 | []=>.nil
 | n :: ns=>.cons (.int n) (ints_rp ns)
theorem rows_rp:∀ {rs:List Addr} {rows:List (List Int)},RowsAt H rs rows→Rps K H (rs.map V.ref) (rows.map rowD)
 | [],[],_=>.nil
 | _ :: _,_ :: _,h=>.cons (.lst (SqL.of h.1) (ints_rp _)) (rows_rp h.2)
 | [],_ :: _,h=>h.elim
 | _ :: _,[],h=>h.elim
theorem BdAt.rp {b:Addr} {rows:List (List Int)} (h:BdAt H b rows):Rp K H (.ref b) (.list (rows.map rowD)):=by
 refine bC fun g_=>?_
 obtain ⟨rs,a,c⟩:=h
 refine g_ ?_
 clear g_
 exact .lst (SqL.of a) (rows_rp c)
theorem FtAt.rp {b:Addr} {cs:List (Int×Int)} (h:FtAt H b cs):Rp K H (.ref b) (.list (cs.map prD)):=by
 refine bC fun g_=>?_
 obtain ⟨rs,a,c⟩:=h
 refine g_ ?_
 clear g_
 exact .lst (SqL.of a) (prs_rp c)
end
theorem eq_true {d:PyData} (h:PyData.canLay0 d=true):(if false=true then !PyData.eqv d d else PyData.eqv d d)=true:=eqv_self d h
theorem tools_can:∀ ts:List Tool,PyData.canLayAll0 (ts.map fun t=>toolD t.1 t.2)=true∧PyData.depthAll (ts.map fun t=>toolD t.1 t.2)≤10
 | []=>⟨rfl,by decide⟩
 | t :: ts=>by
  refine bC fun g_=>?_
  obtain ⟨a,b⟩:=tools_can ts
  obtain ⟨c,d⟩:=tool_can t.1 t.2
  refine g_ ?_
  clear g_
  rw [List.map_cons,PyData.canLayAll0,PyData.depthAll,a,c]
  exact ⟨rfl,by lia⟩
theorem shelf_sh (ts:List Tool):PyData.canLay0 (.list (ts.map fun t=>toolD t.1 t.2))=true∧SeqAt.shaped (.list (ts.map fun t=>toolD t.1 t.2))=true:=by
 obtain ⟨a,b⟩:=tools_can ts
 have c:PyData.canLay0 (.list (ts.map fun t=>toolD t.1 t.2))=true:=by rw [PyData.canLay0,a]
 refine ⟨c,?_⟩
 unfold SeqAt.shaped
 rw [c,Bool.true_and,PyData.depth]
 exact decide_eq_true (by lia)
section
variable {K:PySem.W.Frag} {H:Hp}
theorem cts_rp:∀ {cs:List Addr} {ts:List Tool},CtsAt H cs ts→Rps K H (cs.map V.ref) (ts.map fun t=>toolD t.1 t.2)
 | [],[],_=>.nil
 | _ :: _,_ :: _,h=>by
  refine bC fun g_=>?_
  obtain ⟨⟨ft,a,b⟩,r⟩:=h
  refine g_ ?_
  clear g_
  exact .cons (.tup (SqT.of a) (.cons b.rp (.cons (.int _) .nil))) (cts_rp r)
 | [],_ :: _,h=>h.elim
 | _ :: _,[],h=>h.elim
theorem ShAt.rp {sh:Addr} {ts:List Tool} (h:ShAt H sh ts):Rp K H (.ref sh) (.list (ts.map fun t=>toolD t.1 t.2)):=by
 refine bC fun g_=>?_
 obtain ⟨cs,a,b⟩:=h
 refine g_ ?_
 clear g_
 exact .lst (SqL.of a) (cts_rp b)
end
theorem ints_eqv:∀ a b:List Int,PyData.eqvAll (a.map .int) (b.map .int)=decide (a=b)
 | [],[]=>rfl
 | [],_ :: _=>rfl
 | _ :: _,[]=>rfl
 | x :: a,y :: b=>by
  rw [List.map_cons,List.map_cons,PyData.eqvAll,ints_eqv a b,PyData.eqv]
  by_cases h1:x=y <;> by_cases h2:a=b <;> simp [h1,h2]
theorem rows_eqv:∀ a b:List (List Int),PyData.eqvAll (a.map rowD) (b.map rowD)=decide (a=b)
 | [],[]=>rfl
 | [],_ :: _=>rfl
 | _ :: _,[]=>rfl
 | x :: a,y :: b=>by
  rw [List.map_cons,List.map_cons,PyData.eqvAll,rows_eqv a b,rowD,rowD,PyData.eqv,ints_eqv]
  by_cases h1:x=y <;> by_cases h2:a=b <;> simp [h1,h2]
theorem bed_eqv (a b:List (List Int)):PyData.eqv (.list (a.map rowD)) (.list (b.map rowD))=decide (a=b):=by rw [PyData.eqv,rows_eqv]
theorem bed_sh (a:List (List Int)):SeqAt.shaped (.list (a.map rowD))=true:=shaped_of (bed_can a) (Nat.le_refl _)
theorem Alike.frm {a b:List (List Int)} (h:Alike a b):Frm a b:=by
 unfold Frm
 apply List.ext_getElem?
 intro i
 rw [List.getElem?_map,List.getElem?_map]
 by_cases hi:i < a.length
 ·have hj:i < b.length:=by rw [← h.1]; exact hi
  rw [List.getElem?_eq_getElem hi,List.getElem?_eq_getElem hj]
  exact congrArg some (h.2 i _ _ (List.getElem?_eq_getElem hi) (List.getElem?_eq_getElem hj)).symm
 ·have hj:b.length≤i:=by rw [← h.1]; lia
  rw [List.getElem?_eq_none hj,List.getElem?_eq_none (Nat.le_of_not_lt hi)]
theorem Frm.alike {a b:List (List Int)} (h:Frm a b):Alike a b:=⟨h.len.symm,fun i r s x y=>(h.row x y).symm⟩
theorem hgt_les {a b:List (List Int)} (R:Rect a) (f:Frm a b) {d:Int×Int} (hd:ins a d=true):hgt (lesB a b) d=mn (hgt a d) (hgt b d):=by
 refine bC fun g_=>?_
 obtain ⟨i,j,row,v,e,h1,h2,h3⟩:=ins_at hd R
 refine g_ ?_
 clear g_
 have hi:i < b.length:=by rw [f.len]; exact (List.getElem?_eq_some_iff.mp h1).1
 have e1:=List.getElem?_eq_getElem hi
 have hj:j < (b[i]).length:=by rw [f.row h1 e1]; exact (List.getElem?_eq_some_iff.mp h2).1
 have e2:=List.getElem?_eq_getElem hj
 have t1:d.2.toNat=i:=by rw [e]; rfl
 have t2:d.1.toNat=j:=by rw [e]; rfl
 rw [h3]
 unfold hgt
 rw [t1,t2,lesB_get h1 e1,e1,Option.bind_some,Option.bind_some,List.getElem?_zipWith,h2,e2]
 rfl
theorem le_least {a:List (List Int)} (R:Rect a) {d:Int×Int} (hd:ins a d=true) (z:Int):∀ (bs:List (List (List Int))) (c:List (List Int)),Frm a c→(∀ b∈bs,Frm a b)→(z≤hgt (leastF c bs) d↔z≤hgt c d∧∀ b∈bs,z≤hgt b d)
 | [],c,_,_=>⟨fun h=>⟨h,fun b hb=>(List.not_mem_nil hb).elim⟩,fun h=>h.1⟩
 | b :: bs,c,fc,fb=>by
  have fcb:Frm c b:=(fb b List.mem_cons_self).trans fc.symm
  have Rc:=fc.alike.rect R
  have hc:ins c d=true:=by rw [← fc.alike.ins]; exact hd
  have ih:=le_least R hd z bs (lesB c b) (fcb.les.trans fc) fun x hx=>fb x (List.mem_cons_of_mem _ hx)
  show z≤hgt (leastF (lesB c b) bs) d↔_
  rw [ih,hgt_les Rc fcb hc,le_mn]
  constructor
  ·rintro h_
   refine bC fun g_=>?_
   obtain ⟨⟨h1,h2⟩,h3⟩:=h_
   refine g_ ?_
   clear g_
   exact ⟨h1,fun x hx=>by rcases List.mem_cons.mp hx with rfl | hx; exact h2; exact h3 x hx⟩
  ·rintro ⟨h1,h2⟩
   exact ⟨⟨h1,h2 b List.mem_cons_self⟩,fun x hx=>h2 x (List.mem_cons_of_mem _ hx)⟩
noncomputable def hadE (bed wished:List (List Int)) (t:Tool):List (List Int):=hadF bed wished [t]
theorem hadE_frm (bed wished:List (List Int)) (t:Tool):Frm bed (hadE bed wished t):=(cuts_alike _ _).frm
noncomputable def hadL (bed wished:List (List Int)) (ts:List Tool):List (List Int):=leastF bed (ts.map (hadE bed wished))
theorem hadL_frm (bed wished:List (List Int)) (ts:List Tool):Frm bed (hadL bed wished ts):=least_frm (fun b hb=>by
 obtain ⟨t,_,rfl⟩:=List.mem_map.mp hb
 exact hadE_frm _ _ _) rfl
theorem le_hadL {bed:List (List Int)} (R:Rect bed) (wished:List (List Int)) {d:Int×Int} (hd:ins bed d=true) (ts:List Tool) (z:Int):z≤hgt (hadL bed wished ts) d↔z≤hgt bed d∧∀ t∈ts,z≤hgt (hadE bed wished t) d:=by
 unfold hadL
 rw [le_least R hd z _ _ rfl fun b hb=>by
  obtain ⟨t,_,rfl⟩:=List.mem_map.mp hb
  exact hadE_frm _ _ _]
 constructor
 ·rintro ⟨h1,h2⟩
  exact ⟨h1,fun t ht=>h2 _ (List.mem_map_of_mem ht)⟩
 ·rintro ⟨h1,h2⟩
  refine ⟨h1,fun b hb=>?_⟩
  obtain ⟨t,ht,rfl⟩:=List.mem_map.mp hb
  exact h2 t ht
theorem had_least {bed:List (List Int)} (R:Rect bed) (wished:List (List Int)) (ts:List Tool):hadF bed wished ts=hadL bed wished ts:=by
 have A1:Alike bed (hadF bed wished ts):=cuts_alike _ _
 have A2:Alike bed (hadL bed wished ts):=(hadL_frm bed wished ts).alike
 have A3:Alike (hadF bed wished ts) (hadL bed wished ts):=⟨A1.1.symm.trans A2.1,fun i r s x y=>by
  have hi:i < bed.length:=by rw [A1.1]; exact (List.getElem?_eq_some_iff.mp x).1
  have e:=List.getElem?_eq_getElem hi
  rw [← A1.2 i _ _ e x,A2.2 i _ _ e y]⟩
 refine alike_ext A3 (A1.rect R) fun d hd=>eq_of_le fun z=>?_
 have hd':ins bed d=true:=by rw [A1.ins]; exact hd
 rw [le_had R hd',le_hadL R wished hd']
 constructor
 ·rintro ⟨h1,h2⟩
  refine ⟨h1,fun t ht=>?_⟩
  unfold hadE
  rw [le_had R hd']
  exact ⟨h1,fun t' ht'=>by rw [List.mem_singleton.mp ht']; exact h2 t ht⟩
 ·rintro ⟨h1,h2⟩
  refine ⟨h1,fun t ht=>?_⟩
  have:=h2 t ht
  unfold hadE at this
  rw [le_had R hd'] at this
  exact this.2 t (List.mem_singleton.mpr rfl)
theorem hadL_more {bed:List (List Int)} (R:Rect bed) (wished:List (List Int)) {a b c:List Tool} (ab:∀ t∈a,t∈b) (bc:∀ t∈b,t∈c) (h:hadL bed wished a=hadL bed wished c):hadL bed wished b=hadL bed wished c:=by
 have A1:=(hadL_frm bed wished b).alike
 have A2:=(hadL_frm bed wished c).alike
 have A3:Alike (hadL bed wished b) (hadL bed wished c):=⟨A1.1.symm.trans A2.1,fun i r s x y=>by
  have hi:i < bed.length:=by rw [A1.1]; exact (List.getElem?_eq_some_iff.mp x).1
  have e:=List.getElem?_eq_getElem hi
  rw [← A1.2 i _ _ e x,A2.2 i _ _ e y]⟩
 refine alike_ext A3 (A1.rect R) fun d hd=>eq_of_le fun z=>?_
 have hd':ins bed d=true:=by rw [A1.ins]; exact hd
 constructor
 ·intro q
  rw [← h,le_hadL R wished hd']
  rw [le_hadL R wished hd'] at q
  exact ⟨q.1,fun t ht=>q.2 t (ab t ht)⟩
 ·intro q
  rw [le_hadL R wished hd'] at q ⊢
  exact ⟨q.1,fun t ht=>q.2 t (bc t ht)⟩
noncomputable def pick (ts:List Tool) (is:List Int):List Tool:=is.map fun i=>ts.getD i.toNat ([],0)
noncomputable def tryOut (bed wished:List (List Int)) (ts:List Tool) (kept:List Int) (n:Int):List Int :=
 if hadL bed wished (pick ts (kept.filter fun i=>decide (i≠n)))=hadL bed wished ts then kept.filter fun i=>decide (i≠n) else kept
noncomputable def tryAll (bed wished:List (List Int)) (ts:List Tool) (kept:List Int) (ns:List Int):List Int:=ns.foldl (tryOut bed wished ts) kept
theorem tryOut_sub (bed wished:List (List Int)) (ts:List Tool) (kept:List Int) (n:Int):(tryOut bed wished ts kept n).Sublist kept:=by
 unfold tryOut
 split
 ·exact List.filter_sublist
 ·exact List.Sublist.refl _
theorem tryAll_sub (bed wished:List (List Int)) (ts:List Tool):∀ (ns kept:List Int),(tryAll bed wished ts kept ns).Sublist kept
 | [],kept=>List.Sublist.refl _
 | n :: ns,kept=>(tryAll_sub bed wished ts ns _).trans (tryOut_sub bed wished ts kept n)
theorem tryAll_good (bed wished:List (List Int)) (ts:List Tool):∀ (ns kept:List Int),hadL bed wished (pick ts kept)=hadL bed wished ts→hadL bed wished (pick ts (tryAll bed wished ts kept ns))=hadL bed wished ts
 | [],kept,h=>h
 | n :: ns,kept,h=>tryAll_good bed wished ts ns _ (by
   unfold tryOut
   split
   ·assumption
   ·exact h)
theorem pick_mem {ts:List Tool} {a b:List Int} (h:∀ i∈a,i∈b):∀ t∈pick ts a,t∈pick ts b:=fun t ht=>by
 obtain ⟨i,hi,rfl⟩:=List.mem_map.mp ht
 exact List.mem_map_of_mem (h i hi)
theorem pick_in {ts:List Tool} {a:List Int} (h:∀ i∈a,0≤i∧i < ts.length):∀ t∈pick ts a,t∈ts:=fun t ht=>by
 obtain ⟨i,hi,rfl⟩:=List.mem_map.mp ht
 have hl:i.toNat < ts.length:=by have:=h i hi; lia
 rw [List.getD_eq_getElem?_getD,List.getElem?_eq_getElem hl]
 exact List.getElem_mem hl
theorem tryAll_need {bed:List (List Int)} (R:Rect bed) (wished:List (List Int)) (ts:List Tool) {one:Int}:∀ (ns kept:List Int),(∀ i∈kept,0≤i∧i < ts.length)→one∈ns→one∈tryAll bed wished ts kept ns →
  hadL bed wished (pick ts ((tryAll bed wished ts kept ns).filter fun i=>decide (i≠one)))≠hadL bed wished ts
 | [],kept,_,h,_=>(List.not_mem_nil h).elim
 | n :: ns,kept,hk,h,ho=>by
  have hk':∀ i∈tryOut bed wished ts kept n,0≤i∧i < ts.length:=fun i hi=>hk i ((tryOut_sub bed wished ts kept n).subset hi)
  have sub:=tryAll_sub bed wished ts ns (tryOut bed wished ts kept n)
  by_cases e:one=n
  ·subst e
   intro z
   have om:=sub.subset ho
   have z2:hadL bed wished (pick ts (kept.filter fun i=>decide (i≠one)))=hadL bed wished ts:=hadL_more R wished (pick_mem fun i hi=>by
    obtain ⟨h1,h2⟩:=List.mem_filter.mp hi
    exact List.mem_filter.mpr ⟨(tryOut_sub bed wished ts kept one).subset (sub.subset h1),h2⟩) (pick_in fun i hi=>hk i (List.mem_filter.mp hi).1) z
   unfold tryOut at om
   rw [if_pos z2] at om
   have:=(List.mem_filter.mp om).2
   simp at this
  ·rcases List.mem_cons.mp h with h | h
   ·exact absurd h e
   ·exact tryAll_need R wished ts ns _ hk' h ho
noncomputable def Sb (a:Addr) (H H':Hp):Prop:=∀ x o,x≠a→H x=some o→H' x=some o
noncomputable def lamX:Expr→Scope×Pos
 | .Call _ _ [⟨_,.Lambda _ _ s p,_⟩] _=>(s,p)
 | _=>(defScope sNeed,⟨0,0,0,0⟩)
noncomputable def lamIn:List Stmt→Scope×Pos
 | .For _ it _ _ _ :: _=>lamX it
 | _ :: r=>lamIn r
 | []=>(defScope sNeed,⟨0,0,0,0⟩)
noncomputable abbrev lposN:Pos:=(lamIn (defBody sNeed)).2
noncomputable abbrev lscopeN:Scope:=(lamIn (defBody sNeed)).1
noncomputable def qlamN:Str:="needed"++".<locals>."++"<lambda>"
noncomputable def needF (bed wished:List (List Int)) (ts:List Tool):List Int:=tryAll bed wished ts (upN ts.length) (srtK ((upN ts.length).map fun x=>(ts.map Prod.snd).getD x.toNat 0) (upN ts.length))
theorem lc_filtI {K:PySem.W.Frag} {a:Addr} {xs:List Int} {p:Int→Bool} {tt:TT} {te:TE} {H1:Hp} {A:Hp→Prop} (caps:St) (hl:H1 a=some (.lst (xs.map V.int))) (hx:xs.length≤1000)
  (htt:∀ x∈xs,∀ (H2:Hp) (R:Bool→Hp→Prop),Same H1 H2→R (p x) H2→tt (some (.int x) :: caps) H2 R) (hte:∀ (x:Int) (H2:Hp) (R:VK),R (.int x) H2→te (some (.int x) :: caps) H2 R) {D:Addr} (hD:H1 D=none)
  (q:∀ (H':Hp),Same H1 H'→H' D=some (.lst ((xs.filter p).map V.int))→A H') :
  ∃ W:Nat→Nat→St→List V→Hp→Prop,(∃ m,W 0 m (none :: caps) [] (upd H1 D (.lst []))) ∧
   ∀ i m σ' acc H,W i m σ' acc H→((Itl K a).stop i H∧A H)∨((Itl K a).go i H∧∀ x H',(Itl K a).yld i H x H'→gName 0 x σ' H' fun σ2 H2=>tt σ2 H2 fun b H3 =>
    if b=true then te σ2 H3 fun y H4=>H4 D=some (.lst acc)∧acc.length < sizeLine∧∃ m',m' < m∧W (i + 1) m' σ2 (acc++[y]) (upd H4 D (.lst (acc++[y]))) else ∃ m',m' < m∧W (i + 1) m' σ2 acc H3):=by
 refine ⟨Wd xs.length (fun i σ acc H2=>∃ (z:Option V),σ=z :: caps∧acc=((xs.take i).filter p).map V.int∧Same H1 H2∧H2 D=some (.lst acc)),wd_0 ⟨none,rfl,by rw [List.take_zero]; rfl,same_upd hD _,upd_same⟩,?_⟩
 rintro i mm σ acc H2 h_
 refine bC fun g_=>?_
 obtain ⟨e1_,hi0,z,e2_,e3_,s2,hB2⟩:=h_
 refine g_ ?_
 clear g_
 obtain rfl:=e1_
 obtain rfl:=e2_
 obtain rfl:=e3_
 refine lc_ask (K:=K) (xs:=xs.map V.int) (SqL.of (s2 _ _ hl)) (by rw [List.length_map]; exact hi0) (fun x hx1 hi=>?_) (fun hend=>?_)
 ·rw [List.length_map] at hi
  rw [List.getElem?_map] at hx1
  obtain ⟨x0,ex,rfl⟩:=Option.map_eq_some_iff.mp hx1
  have tk:(xs.take (i + 1)).filter p=(xs.take i).filter p++[x0].filter p:=by rw [take_snoc ex,List.filter_append]
  show tt (some (.int x0) :: caps) H2 _
  refine htt x0 (List.mem_of_getElem? ex) H2 _ s2 ?_
  refine ite2 (fun h1=>?_) (fun h1=>?_)
  ·refine hte x0 H2 _ ⟨hB2,?_,wd_next hi ⟨_,rfl,?_,same_in s2 hD,upd_same⟩⟩
   ·rw [List.length_map]
    exact line3 (Nat.le_trans (List.length_filter_le _ _) (by rw [List.length_take]; exact Nat.le_trans (Nat.min_le_right _ _) hx)) (by decide)
   ·rw [tk,List.filter_cons_of_pos h1,List.map_append]
    rfl
  ·refine wd_next hi ⟨_,rfl,?_,s2,hB2⟩
   rw [tk,List.filter_cons_of_neg h1,List.filter_nil,List.append_nil]
 ·rw [List.length_map] at hend
  rw [hend,List.take_length] at hB2
  exact q H2 s2 hB2
theorem CtsAt.bite {H:Hp} {cs:List Addr} {ts:List Tool} (h:CtsAt H cs ts) {i:Nat} {c:Addr} (e:cs[i]?=some c):∃ z,H c=some (.tup [z,.int ((ts.map Prod.snd).getD i 0)]):=by
 refine bC fun g_=>?_
 obtain ⟨t,et,ft,hc,_⟩:=h.at_ e
 refine g_ ?_
 clear g_
 refine ⟨.ref ft,?_⟩
 rw [List.getD_eq_getElem?_getD,List.getElem?_map,et]
 exact hc
theorem clos1 {env:Env} {ce:Addr} (e:env.cells.lookup ("shelf":Str)=some ce):closureFor lscopeN env=pure [(("shelf":Str),ce)]:=by
 have hc:cellOf env "shelf"=pure ce:=by
  unfold cellOf
  rw [e]
 have hn:lscopeN.names=[(("one":Str),.local),(("shelf":Str),.free)]:=rfl
 unfold closureFor
 rw [hn]
 simp only [List.forIn_cons,List.forIn_nil,hc]
 rfl
theorem BdsAt.snoc {H:Hp} {bs:List Addr} {rs:List (List (List Int))} {b:Addr} {r:List (List Int)} (h:BdsAt H bs rs) (hb:BdAt H b r):BdsAt H (bs++[b]) (rs++[r]):=by
 refine ⟨by rw [List.length_append,List.length_append,h.len]; rfl,fun i x e=>?_⟩
 rcases Nat.lt_or_ge i bs.length with hi | hi
 ·rw [List.getElem?_append_left hi] at e
  refine bC fun g_=>?_
  obtain ⟨r',e1,e2⟩:=h.at_ i x e
  refine g_ ?_
  clear g_
  exact ⟨r',by rw [List.getElem?_append_left (by rw [h.len]; exact hi)]; exact e1,e2⟩
 ·rw [List.getElem?_append_right hi] at e
  have hz:i - bs.length=0:=by
   have:=(List.getElem?_eq_some_iff.mp e).1
   rw [List.length_singleton] at this
   lia
  rw [hz] at e
  cases e
  refine ⟨r,?_,hb⟩
  rw [List.getElem?_append_right (by rw [h.len]; exact hi),h.len,hz]
  rfl
theorem bd_drop {H:Hp} {b d:Addr} {hs:List Addr} {rows:List (List Int)} (hb:H b=some (.lst (hs.map V.ref))) (ra:RowsAt H hs rows) (n1:b≠d) (n2:d ∉ hs):BdAt (drop H d) b rows :=
 ⟨hs,by rw [drop_ne n1]; exact hb,ra.keep fun r hr o e=>by rw [drop_ne (fun z=>n2 (by rw [← z]; exact hr))]; exact e⟩
theorem RowsAt.sb {H H':Hp} {T:Addr} {pt:Array Value} {rs:List Addr} {rows:List (List Int)} (h:RowsAt H rs rows) (ht:H T=some (.tbl pt)) (k:Sb T H H'):RowsAt H' rs rows:=h.keep fun r hr o e=>k r o (fun z=>by
 obtain ⟨xs,hx⟩:=h.mem hr
 rw [z,ht] at hx
 cases hx) e
theorem Sb.lst {H H':Hp} {T a:Addr} {pt:Array Value} {xs:List V} (k:Sb T H H') (ht:H T=some (.tbl pt)) (e:H a=some (.lst xs)):H' a=some (.lst xs):=k a _ (fun z=>by rw [z,ht] at e; cases e) e
theorem Sb.tup {H H':Hp} {T a:Addr} {pt:Array Value} {xs:List V} (k:Sb T H H') (ht:H T=some (.tbl pt)) (e:H a=some (.tup xs)):H' a=some (.tup xs):=k a _ (fun z=>by rw [z,ht] at e; cases e) e
theorem BdAt.sb {H H':Hp} {T b:Addr} {pt:Array Value} {rows:List (List Int)} (h:BdAt H b rows) (ht:H T=some (.tbl pt)) (k:Sb T H H'):BdAt H' b rows:=by
 refine bC fun g_=>?_
 obtain ⟨rs,a,c⟩:=h
 refine g_ ?_
 clear g_
 exact ⟨rs,k.lst ht a,c.sb ht k⟩
theorem BdsAt.sb {H H':Hp} {T:Addr} {pt:Array Value} {bs:List Addr} {rs:List (List (List Int))} (h:BdsAt H bs rs) (ht:H T=some (.tbl pt)) (k:Sb T H H'):BdsAt H' bs rs :=
 ⟨h.len,fun i b e=>by obtain ⟨r,e1,hb⟩:=h.at_ i b e; exact ⟨r,e1,hb.sb ht k⟩⟩
theorem Sb.free {H H':Hp} {T x:Addr} {p:Pos} {q:Str} (k:Sb T H H') (t:TabAt T p q H') (n:H' x=none):H x=none:=by
 obtain ⟨pt,e⟩:=t.tbl
 cases h:H x with
 | none=>rfl
 | some o=>rw [k x o (fun z=>by rw [z,e] at n; cases n) h] at n; cases n
theorem BdsAt.pick {H:Hp} {es:List Addr} {bed wished:List (List Int)} {ts:List Tool} (h:BdsAt H es (ts.map (hadE bed wished))) {is:List Int} (hi:∀ i∈is,0≤i∧i < ts.length):BdsAt H (is.map fun i=>es.getD i.toNat 0) ((pick ts is).map (hadE bed wished)):=by
 have el:es.length=ts.length:=by rw [← h.len,List.length_map]
 refine ⟨by unfold Car.pick; rw [List.length_map,List.length_map,List.length_map],fun j x e=>?_⟩
 rw [List.getElem?_map] at e
 obtain ⟨i,ei,rfl⟩:=Option.map_eq_some_iff.mp e
 have hl:i.toNat < ts.length:=by have:=hi i (List.mem_of_getElem? ei); lia
 have he:=List.getElem?_eq_getElem (l:=es) (i:=i.toNat) (by lia)
 have ht:=List.getElem?_eq_getElem (l:=ts) (i:=i.toNat) hl
 refine bC fun g_=>?_
 obtain ⟨r,e1,e2⟩:=h.at_ i.toNat _ he
 refine g_ ?_
 clear g_
 rw [List.getElem?_map,ht] at e1
 cases e1
 refine ⟨_,?_,by rw [List.getD_eq_getElem?_getD,he]; exact e2⟩
 unfold Car.pick
 rw [List.getElem?_map,List.getElem?_map,ei,Option.map_some,Option.map_some,List.getD_eq_getElem?_getD,ht]
 rfl
theorem tryAll_snoc (bed wished:List (List Int)) (ts:List Tool) (kept ns:List Int) (n:Int):tryAll bed wished ts kept (ns++[n])=tryOut bed wished ts (tryAll bed wished ts kept ns) n:=by unfold tryAll; rw [List.foldl_append]; rfl
theorem ne_int (a b:Int):(!decide (V.int a=V.int b))=decide (a≠b):=by
 by_cases h:a=b
 ·subst h
  simp
 ·have:V.int a≠V.int b:=fun z=>by cases z; exact h rfl
  simp [h,this]
noncomputable def refOf (es:List Addr):V→V
 | .int i=>.ref (es.getD i.toNat 0)
 | _=>.non
theorem refOf_map (es:List Addr) (is:List Int):(is.map V.int).map (refOf es)=(is.map fun i=>es.getD i.toNat 0).map V.ref:=by
 rw [List.map_map,List.map_map]
 rfl
section
variable {f:Addr} {fd':FuncData}
theorem FunL.ok1 {x:Str} {st:Stmt} {c:Addr} {N ps:List Str} {k:Nat} {sp:Sp} (F:FunL K x st f fd' c) (S:FnScope N ps (defScope st)) (len:∀ vs H Q E,sp vs H Q E→vs.length=ps.length)
  (hbody:∀ (A:Around) (outer:List Env) (s:Shared) (H:Hp) (vs:List V) (Q:VK) (E:XK),Room k (A.deeper (PyProof.Rows.envOfC x (defScope st) s.heap.objs.size f (.ref c)))→sp vs H Q E →
   ∃ t,PSs (cx1 P w K mg base N x (defScope st) f (.ref c) A outer s H E) (defBody st) t∧t { nx:=fun Z H'=>Q .non H',rt:=Q } (start N vs) H):FnOk P w K mg base (CX1 P w) (k + 1) f fd' ps sp:=by
 refine bC fun g_=>?_
 obtain ⟨oc,od,kV,doc,pm,an,ct,osl,e6_,lk,hcd⟩:=F.ex
 refine g_ ?_
 clear g_
 obtain rfl:=e6_
 exact fn_of lk hcd S len fun A outer s H vs Q E hr hsp=>hbody A outer s H vs Q E hr hsp
inductive PspNeed (Tb:Addr) (vs:List V) (H:Hp) (Q:VK):Prop
 | mk (b wh sh:Addr) (bed wished:List (List Int)) (ts:List Tool) (h0:vs=[.ref b,.ref wh,.ref sh]) (h1:BdAt H b bed) (h2:BdAt H wh wished) (h3:ShAt H sh ts) (h4:Rect bed) (h5:Alike bed wished) (h6:Small bed) (h7:∀ t∈ts,t.1.length≤100) (h8:ts.length < 64) (h9:TabAt Tb lposN qlamN H)
   (h10:∀ D H',H D=none→Sb Tb H H'→TabAt Tb lposN qlamN H'→H' D=some (.lst ((needF bed wished ts).map V.int))→Q (.ref D) H'):PspNeed Tb vs H Q
noncomputable def spNeed (Tb:Addr):Sp:=fun vs H Q Z=>PspNeed Tb vs H Q
theorem scNeed:FnScope ["bed","wished","shelf","by_each","by_all","kept","number","rest"] ["bed","wished","shelf"] (defScope sNeed):=⟨rfl,rfl,rfl,by decide +kernel,rfl,by decide +kernel,by decide +kernel⟩
theorem ndcbw:(["cutter","bed","wished"]:List Str).Nodup:=by decide +kernel
theorem ndon:(["one","number"]:List Str).Nodup:=by decide +kernel
theorem ndoe:(["one","by_each"]:List Str).Nodup:=by decide +kernel
theorem bt_range:bootBuiltins "range"=some (.type "range"):=by decide +kernel
theorem ok_need {c0 Tb:Addr} (T:LawT mg) (NS:mg "sorted"=none) (L:LamT K mg base c0 Tb) (FH:Fn P w K mg base "had" 3 ["bed","wished","shelf"] spHad) (FL:Fn P w K mg base "least_of" 2 ["beds"] spLeast) (F:FunL K "needed" sNeed f fd' c0):FnOk P w K mg base (CX1 P w) 4 f fd' ["bed","wished","shelf"] (spNeed Tb):=by
 have nd:=scNeed.nd
 refine F.ok1 scNeed (fun vs H Q E h=>?_) (fun A outer s H vs Q E hr h=>?_)
 ·refine bC fun g_=>?_
  obtain ⟨b,wh,sh,bed,wished,ts,e7_,_⟩:=h
  refine g_ ?_
  clear g_
  obtain rfl:=e7_
  rfl
 refine bC fun g_=>?_
 obtain ⟨b,wh,sh,bed,wished,ts,e8_,hb,hw,hs,rect,al,small,feet,few,tab,q⟩:=h
 refine g_ ?_
 clear g_
 obtain rfl:=e8_
 have hr2:Room 2 _:=hr.mono (by decide)
 refine ⟨_,(pss_cons (ps_set (i:=3) nd rfl (Or.inr rfl) (pe_lc (own:=["cutter"]) (capn:=["bed","wished"]) (capI:=[0,1]) rfl (blkC (defScope sNeed) rfl rfl (by decide +kernel) rfl (capcs rfl)) (pi_listK (K:=K) rfl (pv 2)) (fun Z Z Z Z Z Z=>pg_name (i:=0) ndcbw rfl (Or.inl rfl)) (fun Z Z Z Z Z Z=>pifs_nil) (fun Z Z Z Z Z Z=>(pf_call FH hr rfl passN (pa_cons (pv 1) (pa_cons (pv 2) (pa_cons (pe_lst (pa_cons (pv 0) pa_nil)) pa_nil)))))))
  (pss_cons (ps_set (i:=4) nd rfl (Or.inl rfl) (pf_call FL hr2 rfl (pass1 (E:=E)) (pa_cons (pe_op op_cat (pe_lst (pa_cons (pv 0) pa_nil)) (pv 3)) pa_nil)))
  (pss_cons (ps_set (i:=5) nd rfl (Or.inl rfl) (pe_callTy (call_listR rfl) rfl T.list bt_list (pa_cons (pe_callTy call_range1 rfl T.range bt_range (pa_cons (pe_callB (call_lenK (K:=K) rfl) rfl T.len PySem.boot_len (pa_cons (pv 2) pa_nil)) pa_nil)) pa_nil)))
  (pss_cons (ps_for own1 rfl (pi_listK (K:=K) rfl (pe_sortL (j:=2) (scope:=lscopeN) (lpos:=lposN) key_ok1 rfl rfl NS (pe_callTy call_range1 rfl T.range bt_range (pa_cons (pe_callB (call_lenK (K:=K) rfl) rfl T.len PySem.boot_len (pa_cons (pv 2) pa_nil)) pa_nil)) L rfl rfl hr rfl (fun ce e=>clos1 e) rfl rfl rfl rfl rfl rfl (by decide +kernel) (fun Z Z Z Z Z Z=>.of_eq rfl))) (pg_name (i:=6) nd rfl (Or.inr rfl)) (pss_cons (ps_setC (i:=7) (own:=["one"]) (capn:=["number"]) (capI:=[6]) nd rfl (Or.inl rfl) rfl rfl (blkC (defScope sNeed) rfl rfl (by decide +kernel) rfl (capcs rfl)) (pi_listK (K:=K) rfl (pv 5)) (fun Z Z Z Z Z Z=>pg_name (i:=0) ndon rfl (Or.inl rfl)) (fun Z Z Z Z Z Z=>(pifs_one (pt_cmpR op_ne (pv 0) (pv 1) (nomark _)))) (fun Z Z Z Z Z Z=>(pv 0)))
  (pss_one (ps_if (pt_cmpR (op_eqDK (K:=K) rfl hr.units) (pf_call FL hr2 rfl (pass1 (E:=E)) (pa_cons (pe_op op_cat (pe_lst (pa_cons (pv 0) pa_nil)) (pe_lc (own:=["one"]) (capn:=["by_each"]) (capI:=[3]) rfl (blkC (defScope sNeed) rfl rfl (by decide +kernel) rfl (capcs rfl)) (pi_listK (K:=K) rfl (pv 7)) (fun Z Z Z Z Z Z=>pg_name (i:=0) ndoe rfl (Or.inl rfl)) (fun Z Z Z Z Z Z=>pifs_nil) (fun Z Z Z Z Z Z=>(pe_ix (ix_listK (K:=K) rfl) (pv 1) (pv 0) (fun Z Z=>rfl))))) pa_nil)) (pv 4) (nomark _)) (pss_one (ps_set (i:=5) nd rfl (Or.inl rfl) (pv 7))) pss_nil))))
  (pss_one (ps_ret (pv 5))))))),?_⟩
 (try dsimp only [L2.cxK])
 refine abs_seq fun dE eE=>?_
 refine bC fun g_=>?_
 obtain ⟨cts,hs1,hs2⟩:=id hs
 refine g_ ?_
 clear g_
 have ctl:=hs2.len
 refine ⟨sh,rfl,⟨_,SqL.of hs1⟩,fun D hD=>?_⟩
 refine ⟨Wd cts.length (fun i σ acc H2=>Ex2 fun (z:Option V) (es:List Addr)=>σ=[z,some (.ref b),some (.ref wh)]∧acc=es.map V.ref∧es.length=i∧BdsAt (drop H2 D) es ((ts.take i).map (hadE bed wished))∧Same H H2∧H2 D=some (.lst acc)),wd_0 ⟨none,[],rfl,rfl,rfl,⟨by rw [List.take_zero]; rfl,fun Z Z e=>by cases e⟩,same_upd hD _,upd_same⟩,?_⟩
 rintro i mm σ acc H2 h_
 refine bC fun g_=>?_
 obtain ⟨e9_,hi0,z,es,e10_,e11_,esl,bds,s2,hD2⟩:=h_
 refine g_ ?_
 clear g_
 obtain rfl:=e9_
 obtain rfl:=e10_
 obtain rfl:=e11_
 refine lc_ask (K:=K) (xs:=cts.map V.ref) (SqL.of (s2 _ _ hs1)) (by rw [List.length_map]; exact hi0) (fun x hx hi=>?_) (fun hend=>?_)
 ·obtain ⟨ct,hct,rfl⟩:=ref_get hx
  rw [List.length_map] at hi
  refine bC fun g_=>?_
  obtain ⟨t,et,hct1⟩:=hs2.at_ hct
  refine g_ ?_
  clear g_
  refine ⟨le1,fun l hl=>?_⟩
  have u3:=same_upd hl (.lst [V.ref ct])
  have s3:=s2.trans u3
  refine ⟨b,wh,l,bed,wished,[t],rfl,hb.same s3,hw.same s3,⟨[ct],upd_same,hct1.same s3,True.intro⟩,rect,al,small,(fun t' ht'=>by rw [List.mem_singleton.mp ht']; exact feet t (List.mem_of_getElem? et)),fun D2 hs4 H4 nD2 s4 hD4 ra4 Z nh4 Z=>?_⟩
  have hD3:=u3 _ _ hD2
  have n1:D2≠D:=fun z=>by rw [z,hD3] at nD2; cases nD2
  have n2:D ∉ hs4:=fun z=>by have:=nh4 D z; rw [hD3] at this; cases this
  refine ⟨s4 _ _ hD3,?_,wd_next hi ⟨_,es++[D2],rfl,by rw [List.map_append]; rfl,by rw [List.length_append,esl]; rfl,?_,same_in (s3.trans s4) hD,upd_same⟩⟩
  ·rw [List.length_map,esl]
   exact line3 (show i≤1000 by lia) (by decide)
  ·rw [drop_upd_same,take_snoc et,List.map_append]
   exact (bds.same ((u3.trans s4).drop D)).snoc (bd_drop hD4 ra4 n1 n2)
 ·rw [List.length_map] at hend
  rw [hend,ctl,List.take_length] at bds
  have bds2:=bds.same drop_le
  have esl2:es.length=ts.length:=by rw [esl,hend,ctl]
  have frm:∀ r∈ts.map (hadE bed wished),Frm bed r:=fun r hr=>by
   obtain ⟨t,_,rfl⟩:=List.mem_map.mp hr
   exact hadE_frm bed wished t
  refine nxS eE fun dE eE=>?_
  refine ⟨le1,fun p1 hp1=>?_⟩
  have u1:=same_upd hp1 (.lst [V.ref b])
  refine ⟨p1,D,_,_,rfl,rfl,upd_same,u1 _ _ hD2,?_,fun p2 hp2=>?_⟩
  ·rw [List.length_map,esl2]
   exact Nat.le_of_lt (line3 (show 1 + ts.length≤1000 by lia) (by decide))
  have s3:=s2.trans (u1.trans (same_upd hp2 (.lst ([V.ref b]++es.map V.ref))))
  refine ⟨p2,b,es,bed,ts.map (hadE bed wished),rfl,upd_same,hb.same s3,bds2.same (u1.trans (same_upd hp2 _)),frm,small.1,small.2,fun ba H4 s4 hba=>?_⟩
  have s24:=(u1.trans (same_upd hp2 (.lst ([V.ref b]++es.map V.ref)))).trans s4
  have s04:=s2.trans s24
  have hD4:=s24 _ _ hD2
  have bds4:=bds2.same s24
  clear bds2 bds s3 hp1 hp2 u1
  refine nxS eE fun dE eE=>?_
  refine ⟨sh,_,rfl,.inl (SqL.of (s04 _ _ hs1)),?_⟩
  have nl:(cts.map V.ref).length=ts.length:=by rw [List.length_map,ctl]
  refine ⟨_,rfl,fun r1 hr1=>⟨r1,(cts.map V.ref).length,rfl,upd_same,(by rw [nl]; lia),fun kp hkp=>?_⟩⟩
  have u5:=(same_upd hr1 (.rng 0 (cts.map V.ref).length)).trans (same_upd hkp (.lst ((upN (cts.map V.ref).length).map V.int)))
  have hk5:upd (upd H4 r1 (.rng 0 (cts.map V.ref).length)) kp (.lst ((upN (cts.map V.ref).length).map V.int)) kp=some (.lst ((upN ts.length).map V.int)):=by rw [upd_same,nl]
  generalize upd (upd H4 r1 (.rng 0 (cts.map V.ref).length)) kp (.lst ((upN (cts.map V.ref).length).map V.int))=H5 at u5 hk5
  have s05:=s04.trans u5
  have nkp:H kp=none:=(s04.trans (same_upd hr1 (.rng 0 (cts.map V.ref).length))).free hkp
  clear hr1 hkp
  refine nxS eE fun dE eE=>?_
  refine ⟨sh,_,rfl,.inl (SqL.of (s05 _ _ hs1)),_,rfl,fun r2 hr2'=>?_⟩
  have u6:=same_upd hr2' (.rng 0 (cts.map V.ref).length)
  have s06:=s05.trans u6
  refine ⟨r2,sh,upN ts.length,ts.map Prod.snd,cts,rfl,.inr ⟨ts.length,by rw [upd_same,nl],rfl⟩,(by rw [upN_len]; exact few),rfl,s06 _ _ hs1,(by lia),fun i t e=>(hs2.same s06).bite e,(fun x hx=>by rw [ctl]; exact mem_upN.mp hx),tab.same s06,fun S H7 k7 tab7 nS hS=>?_⟩
  have tb6:=(tab.same s06).tbl
  obtain ⟨pt,ept⟩:=tb6
  have k67:Sb Tb H H7:=fun x o n e=>k7 x o n (s06 _ _ e)
  have hb7:BdAt H7 b bed:=(hb.same s06).sb ept k7
  have hba7:BdAt H7 ba (hadL bed wished ts):=(hba.same (u5.trans u6)).sb ept k7
  have bds7:=(bds4.same (u5.trans u6)).sb ept k7
  have hD7:=Sb.lst k7 ept (u6 _ _ (u5 _ _ hD4))
  have hk7:=Sb.lst k7 ept (u6 _ _ hk5)
  have nS:H S=none:=s06.free nS
  clear ept k7 hk5 hba bds4 hD4 u6 hr2' u5 s06 s05 s04 s24 s4
  have ordP:(srtK ((upN ts.length).map fun x=>id ((ts.map Prod.snd).getD x.toNat 0)) (upN ts.length)).Perm (upN ts.length):=srtK_perm s (by rw [List.length_map])
  refine ⟨S,rfl,⟨_,SqL.of hS⟩,?_⟩
  generalize hord:srtK ((upN ts.length).map fun x=>id ((ts.map Prod.snd).getD x.toNat 0)) (upN ts.length)=ord at hS ordP
  have sub:∀ ns:List Int,∀ x∈tryAll bed wished ts (upN ts.length) ns,0≤x∧x < ts.length:=fun ns x hx=>mem_upN.mp ((tryAll_sub bed wished ts ns _).subset hx)
  have sl:∀ ns:List Int,(tryAll bed wished ts (upN ts.length) ns).length≤64:=fun ns=>Nat.le_trans (tryAll_sub bed wished ts ns _).length_le (by rw [upN_len]; lia)
  refine for_list (K:=K) (a:=S) (xs:=ord.map V.int) (fun k σ Hc=>Ex3 fun (kp:Addr) (g6 g7:Option V)=>σ=[some (.ref b),some (.ref wh),some (.ref sh),some (.ref D),some (.ref ba),some (.ref kp),g6,g7]∧Same H7 Hc∧H kp=none∧Hc kp=some (.lst ((tryAll bed wished ts (upN ts.length) (ord.take k)).map V.int))) ⟨kp,none,none,rfl,Same.refl _,nkp,hk7⟩ (fun k σ Hc _ ⟨_,_,_,_,s,_⟩=>SqL.of (s _ _ hS)) ?_ ?_
  ·rintro k x σ Hc hx h_
   refine bC fun g_=>?_
   obtain ⟨kq,g6,g7,e14_,s8,nkq,hkq⟩:=h_
   refine g_ ?_
   clear g_
   obtain rfl:=e14_
   rw [List.getElem?_map] at hx
   obtain ⟨n,en,rfl⟩:=Option.map_eq_some_iff.mp hx
   have tk:=take_snoc en
   rw [tk,tryAll_snoc]
   have sub1:=sub (ord.take k)
   have sl1:=sl (ord.take k)
   generalize tryAll bed wished ts (upN ts.length) (ord.take k)=kept at hkq sub1 sl1
   refine ⟨kq,rfl,⟨_,SqL.of hkq⟩,fun D2 hD2=>?_⟩
   refine lc_filtI (K:=K) (p:=fun i=>decide (i≠n)) [some (.int n)] hkq (by lia) (fun x Z H2 R Z hR=>⟨rfl,by rw [ne_int]; exact hR⟩) (fun x H2 R hR=>hR) hD2 fun H9 s9 hD9=>?_
   have sub2:∀ x∈kept.filter (fun i=>decide (i≠n)),0≤x∧x < ts.length:=fun x hx=>sub1 x (List.mem_filter.mp hx).1
   have sl2:(kept.filter (fun i=>decide (i≠n))).length≤64:=Nat.le_trans (List.length_filter_le _ _) sl1
   have s79:=s8.trans s9
   have hk9:=s9 _ _ hkq
   unfold tryOut
   have nD2:H D2=none:=k67.free tab7 (s8.free hD2)
   generalize kept.filter (fun i=>decide (i≠n))=rest at hD9 sub2 sl2
   refine ⟨le1,fun p1 hp1=>?_⟩
   have u1:=same_upd hp1 (.lst [V.ref b])
   refine ⟨D2,rfl,⟨_,SqL.of (u1 _ _ hD9)⟩,fun D3 hD3=>?_⟩
   refine lc_valC (K:=K) (F:=refOf es) [some (.ref D)] (SqL.of (u1 _ _ hD9)) (by rw [List.length_map]; lia) (fun x hx H2 R s2' hR=>?_) hD3 fun H10 s10 hD10=>?_
   ·refine bC fun g_=>?_
    obtain ⟨i,hi,e16_⟩:=List.mem_map.mp hx
    obtain ⟨i0,i1⟩:=sub2 i hi
    refine g_ ?_
    clear g_
    obtain rfl:=e16_
    have il:i.toNat < es.length:=by lia
    refine ⟨D,_,i,.ref (es.getD i.toNat 0),rfl,rfl,SqL.of (s2' _ _ (u1 _ _ (s79 _ _ hD7))),?_,hR⟩
    rw [show i=((i.toNat:Nat):Int) by lia]
    refine atI_nat ?_
    rw [List.getElem?_map,List.getD_eq_getElem?_getD,Int.toNat_natCast,List.getElem?_eq_getElem il]
    rfl
   ·rw [refOf_map] at hD10
    have u10:=u1.trans s10
    refine ⟨p1,D3,_,_,rfl,rfl,s10 _ _ upd_same,hD10,?_,fun p4 hp4=>?_⟩
    ·rw [List.length_map,List.length_map]
     exact Nat.le_of_lt (line3 (show 1 + rest.length≤1000 by lia) (by decide))
    have s11:=s79.trans (u10.trans (same_upd hp4 (.lst ([V.ref b]++(rest.map fun i=>es.getD i.toNat 0).map V.ref))))
    refine ⟨p4,b,rest.map fun i=>es.getD i.toNat 0,bed,(pick ts rest).map (hadE bed wished),rfl,upd_same,hb7.same s11,(bds7.same s11).pick sub2,(fun r hr=>?_),small.1,small.2,fun v H12 s12 hv=>?_⟩
    ·obtain ⟨t,_,rfl⟩:=List.mem_map.mp hr
     exact hadE_frm bed wished t
    have s712:=s11.trans s12
    have s912:=(u10.trans (same_upd hp4 (.lst ([V.ref b]++(rest.map fun i=>es.getD i.toNat 0).map V.ref)))).trans s12
    refine ⟨_,_,hv.rp,(hba7.same s712).rp,bed_sh _,bed_sh _,?_⟩
    rw [bed_eqv]
    refine ite2 (fun h1=>?_) (fun h1=>?_)
    ·have z:hadL bed wished (pick ts rest)=hadL bed wished ts:=of_decide_eq_true h1
     rw [if_pos z]
     exact ⟨D2,_,_,rfl,s712,nD2,s912 _ _ hD9⟩
    ·have z:¬ hadL bed wished (pick ts rest)=hadL bed wished ts:=fun z=>h1 (decide_eq_true z)
     rw [if_neg z]
     exact ⟨kq,_,_,rfl,s712,nkq,s912 _ _ hk9⟩
  ·rintro σ Hc h_
   refine bC fun g_=>?_
   obtain ⟨kq,g6,g7,e18_,s8,nkq,hkq⟩:=h_
   refine g_ ?_
   clear g_
   obtain rfl:=e18_
   rw [List.length_map,List.take_length] at hkq
   refine nxS1 eE ?_
   refine (q kq Hc nkq (fun x o n e=>s8 _ _ (k67 x o n e)) (tab7.same s8) ?_)
   rw [← hord] at hkq
   exact hkq
end
theorem hu_of' {k:Nat} {A:Around} (r:Room k A):A.units + 1 < cLine:=by have:=r.units; lia
structure VT (K:PySem.W.Frag) (mg:Str→Option Value) (CV CC:Addr):Prop where
 clV:Cls K CV
 clC:Cls K CC
 nStuff:NoAttr K CV "stuff"
 nStands:NoAttr K CV "stands"
 nMoves:NoAttr K CV "moves"
 nRows:NoAttr K CC "rows"
 any:mg "any"=none
 top:∃ t,mg "TOP"=some (.int 1000 t)
structure SHT (K:PySem.W.Frag) (CS:Addr):Prop where
 clS:Cls K CS
 nCutter:NoAttr K CS "cutter"
 nLowests:NoAttr K CS "lowests"
 nDue:NoAttr K CS "due"
structure ClAt (CC:Addr) (H:Hp) (c R:Addr) (rs:List Addr) (rows:List (List Int)):Prop where
 ob:∃ dx,H c=some (.ins CC dx [("rows",.ref R)])
 hR:H R=some (.lst (rs.map V.ref))
 ra:RowsAt H rs rows
theorem ClAt.same {CC:Addr} {H H':Hp} {c R:Addr} {rs:List Addr} {rows:List (List Int)} (h:ClAt CC H c R rs rows) (s:Same H H'):ClAt CC H' c R rs rows:=by
 obtain ⟨dx,e⟩:=h.ob
 exact ⟨⟨dx,s _ _ e⟩,s _ _ h.hR,h.ra.same s⟩
theorem bt_any:bootBuiltins "any"=some (.builtin "any"):=by decide +kernel
noncomputable def addC (cs:List (Int×Int)) (c:Int×Int):List (Int×Int):=if c∈cs then cs else cs++[c]
set_option tactic.hygienic true in
theorem mem_addC {cs:List (Int×Int)} {c d:Int×Int}:d∈addC cs c↔d∈cs∨d=c:=by
 unfold addC
 split
 ·rename_i h
  exact ⟨.inl,fun z=>z.elim id fun e=>e ▸ h⟩
 ·rw [List.mem_append,List.mem_singleton]
theorem mem_adds {d:Int×Int}:∀ (l cs:List (Int×Int)),d∈l.foldl addC cs↔d∈cs∨d∈l
 | [],cs=>⟨.inl,fun h=>h.elim id fun z=>(List.not_mem_nil z).elim⟩
 | c :: l,cs=>by
  rw [List.foldl_cons,mem_adds l,mem_addC,List.mem_cons,or_assoc]
theorem len_adds:∀ (l cs:List (Int×Int)),(l.foldl addC cs).length≤cs.length + l.length
 | [],cs=>Nat.le_refl _
 | c :: l,cs=>by
  rw [List.foldl_cons,List.length_cons]
  have h1:=len_adds l (addC cs c)
  have h2:(addC cs c).length≤cs.length + 1:=by
   unfold addC
   split
   ·lia
   ·rw [List.length_append]; exact Nat.le_refl _
  lia
noncomputable def kvD (cs:List (Int×Int)):List (List Key×V):=cs.map fun c=>([(Sum.inl c.1:Key),Sum.inl c.2],V.bl true)
theorem put_kvD (cs:List (Int×Int)) (c:Int×Int):putK (kvD cs) [(Sum.inl c.1:Key),Sum.inl c.2] (V.bl true)=kvD (addC cs c):=by
 have h:((kvD cs).any fun kv=>decide (kv.1=[(Sum.inl c.1:Key),Sum.inl c.2]))=decide (c∈cs):=by
  unfold kvD
  rw [List.any_map,Bool.eq_iff_iff,List.any_eq_true,decide_eq_true_iff]
  constructor
  ·rintro h_
   refine bC fun g_=>?_
   obtain ⟨d,hd,e⟩:=h_
   refine g_ ?_
   clear g_
   have e':=of_decide_eq_true e
   simp at e'
   rw [show c=d from Prod.ext e'.1.symm e'.2.symm]
   exact hd
  ·exact fun hc=>⟨c,hc,decide_eq_true rfl⟩
 unfold putK addC
 rw [h]
 by_cases hc:c∈cs
 ·rw [if_pos (decide_eq_true hc),if_pos hc]
  unfold kvD
  rw [List.map_map]
  refine List.map_congr_left fun d Z=>?_
  show (if _ then _ else _)=_
  split
  ·rfl
  ·rfl
 ·rw [if_neg (fun z=>hc (of_decide_eq_true z)),if_neg hc]
  unfold kvD
  rw [List.map_append]
  rfl
noncomputable def rowW (foot:List (Int×Int)) (x0:Int) (nx:Nat) (y:Int):List (Int×Int):=(List.range nx).flatMap fun (i:Nat)=>foot.map (shf (x0 + (i:Int)) y)
noncomputable def cellsW (foot:List (Int×Int)) (x0:Int) (nx:Nat) (y0:Int) (ny:Nat):List (Int×Int):=(List.range ny).flatMap fun (j:Nat)=>rowW foot x0 nx (y0 + (j:Int))
noncomputable def undW (rows:List (List Int)) (foot:List (Int×Int)) (x0:Int) (nx:Nat) (y0:Int) (ny:Nat):List (Int×Int):=((cellsW foot x0 nx y0 ny).foldl addC []).filter (ins rows)
theorem rowW_succ (foot:List (Int×Int)) (x0:Int) (n:Nat) (y:Int):rowW foot x0 (n + 1) y=rowW foot x0 n y++foot.map (shf (x0 + (n:Int)) y):=by
 unfold rowW
 rw [List.range_succ,List.flatMap_append,List.flatMap_cons,List.flatMap_nil,List.append_nil]
theorem cellsW_succ (foot:List (Int×Int)) (x0:Int) (nx:Nat) (y0:Int) (n:Nat):cellsW foot x0 nx y0 (n + 1)=cellsW foot x0 nx y0 n++rowW foot x0 nx (y0 + (n:Int)):=by
 unfold cellsW
 rw [List.range_succ,List.flatMap_append,List.flatMap_cons,List.flatMap_nil,List.append_nil]
theorem rowW_len (foot:List (Int×Int)) (x0 y:Int):∀ n,(rowW foot x0 n y).length=n * foot.length
 | 0=>by rw [Nat.zero_mul]; rfl
 | n + 1=>by rw [rowW_succ,List.length_append,rowW_len foot x0 y n,List.length_map,Nat.succ_mul]
theorem cellsW_len (foot:List (Int×Int)) (x0:Int) (nx:Nat) (y0:Int):∀ n,(cellsW foot x0 nx y0 n).length=n * (nx * foot.length)
 | 0=>by rw [Nat.zero_mul]; rfl
 | n + 1=>by rw [cellsW_succ,List.length_append,cellsW_len foot x0 nx y0 n,rowW_len,Nat.succ_mul]
theorem mem_undW {rows:List (List Int)} {foot:List (Int×Int)} {x0 y0:Int} {nx ny:Nat} {c:Int×Int}:c∈undW rows foot x0 nx y0 ny↔ins rows c=true∧∃ (i j:Nat),i < nx∧j < ny∧∃ s∈foot,c=shf (x0 + (i:Int)) (y0 + (j:Int)) s:=by
 unfold undW cellsW rowW
 rw [List.mem_filter,mem_adds]
 constructor
 ·rintro ⟨h | h,hi⟩
  ·exact (List.not_mem_nil h).elim
  ·refine bC fun g_=>?_
   obtain ⟨j,hj,h⟩:=List.mem_flatMap.mp h
   obtain ⟨i,hi',h⟩:=List.mem_flatMap.mp h
   obtain ⟨s,hs,e1_⟩:=List.mem_map.mp h
   refine g_ ?_
   clear g_
   obtain rfl:=e1_
   exact ⟨hi,i,j,List.mem_range.mp hi',List.mem_range.mp hj,s,hs,rfl⟩
 ·rintro h_
  refine bC fun g_=>?_
  obtain ⟨hi,i,j,h1,h2,s,hs,e2_⟩:=h_
  refine g_ ?_
  clear g_
  obtain rfl:=e2_
  exact ⟨.inr (List.mem_flatMap.mpr ⟨j,List.mem_range.mpr h2,List.mem_flatMap.mpr ⟨i,List.mem_range.mpr h1,List.mem_map.mpr ⟨s,hs,rfl⟩⟩⟩),hi⟩
noncomputable def stepD (h:Int) (s:List (List Int)×Int) (c:Int×Int):List (List Int)×Int:=(cutC s.1 (c,h),s.2 + if hgt s.1 c > h then hgt s.1 c - h else 0)
noncomputable def dwn (rows:List (List Int)) (cs:List (Int×Int)) (h:Int):List (List Int)×Int:=cs.foldl (stepD h) (rows,0)
theorem dwn_fst (h:Int):∀ (cs:List (Int×Int)) (rows:List (List Int)) (t:Int),(cs.foldl (stepD h) (rows,t)).1=cutsF rows (cs.map fun c=>(c,h))
 | [],_,_=>rfl
 | c :: cs,rows,t=>dwn_fst h cs (cutC rows (c,h)) _
section
variable {f:Addr} {fd':FuncData}
inductive PspHas (CC:Addr) (vs:List V) (H:Hp) (Q:VK):Prop
 | mk (c R:Addr) (rs:List Addr) (rows:List (List Int)) (x y:Int) (h0:vs=[.ref c,.int x,.int y]) (h1:ClAt CC H c R rs rows) (h2:Rect rows) (h3:Q (.bl (ins rows (x,y))) H):PspHas CC vs H Q
noncomputable def spHas (CC:Addr):Sp:=fun vs H Q Z=>PspHas CC vs H Q
theorem scHas:FnScope ["self","x","y"] ["self","x","y"] (defScope sHas):=⟨rfl,rfl,rfl,by decide +kernel,rfl,by decide +kernel,by decide +kernel⟩
theorem ok_has (T:LawT mg) (V:VT K mg CV CC) (F:Fun K "has_cell" "Cells.has_cell" sHas f fd'):FnOk P w K mg base (CX1 P w) 1 f fd' ["self","x","y"] (spHas CC):=by
 have nd:=scHas.nd
 refine F.ok1 scHas (fun vs H Q E h=>?_) (fun cdv A outer s H vs Q E hr h=>?_)
 ·refine bC fun g_=>?_
  obtain ⟨c,R,rs,rows,x,y,e3_,_⟩:=h
  refine g_ ?_
  clear g_
  obtain rfl:=e3_
  rfl
 refine bC fun g_=>?_
 obtain ⟨c,R,rs,rows,x,y,e4_,⟨⟨dx,hc⟩,hR,ra⟩,rect,q⟩:=h
 refine g_ ?_
 clear g_
 obtain rfl:=e4_
 have rsl:=ra.len
 refine ⟨_,(pss_one (ps_ret (pe_and (pe_chain op_le op_lt pe_int (pv 2) (pe_callB (call_lenK (K:=K) rfl) rfl T.len PySem.boot_len (pa_cons (pe_fld (pv 0) rfl) pa_nil))) (pe_one (pe_chain op_le op_lt pe_int (pv 1) (pe_callB (call_lenK (K:=K) rfl) rfl T.len PySem.boot_len (pa_cons (pe_ix (ix_listK (K:=K) rfl) (pe_fld (pv 0) rfl) (pv 2) (fun Z Z=>rfl)) pa_nil))))))),?_⟩
 (try dsimp only [L2.cxK])
 have no:¬ (0≤y∧y < rows.length∧0≤x∧x < (rows.headD []).length)→Q (.bl false) H:=fun n=>by
  rw [show ins rows (x,y)=false from decide_eq_false n] at q
  exact q
 refine ?_
 refine ite2 (fun h1=>?_) (fun h1=>?_)
 ·have h1':=of_decide_eq_true h1
  refine ⟨c,CC,dx,_,_,rfl,hc,V.clC,V.nRows,rfl,R,_,rfl,.inl (SqL.of hR),_,rfl,?_⟩
  refine ite2 (fun h2=>?_) (fun h2=>?_)
  ·have h2':=of_decide_eq_true h2
   rw [List.length_map] at h2'
   obtain ⟨i,rfl⟩:∃ i:Nat,y=(i:Int):=⟨y.toNat,by lia⟩
   have hi:i < rows.length:=by lia
   obtain ⟨r,e1,e2⟩:=ra.at_ (List.getElem?_eq_getElem hi)
   have hw:=rect.2 _ (List.getElem_mem hi)
   refine ?_
   refine ite2 (fun h3=>?_) (fun h3=>?_)
   ·have h3':=of_decide_eq_true h3
    refine ⟨c,CC,dx,_,_,rfl,hc,V.clC,V.nRows,rfl,R,_,_,.ref r,rfl,rfl,SqL.of hR,atI_nat (by rw [List.getElem?_map,e1]; rfl),r,_,rfl,.inl (SqL.of e2),?_⟩
    rw [List.length_map]
    rw [show ins rows (x,(i:Int))=decide (x < ((rows[i]).length:Int)) from decide_eq_decide.mpr ⟨fun z=>by have:=z.2.2.2; show x < _; lia,fun z=>⟨h1',by show (i:Int) < _; lia,h3',by show x < _; lia⟩⟩] at q
    exact q
   ·exact no fun z=>h3 (decide_eq_true z.2.2.1)
  ·exact no fun z=>h2 (decide_eq_true (by rw [List.length_map]; have:=z.2.1; lia))
 ·exact ⟨_,rfl,no fun z=>h1 (decide_eq_true z.1)⟩
end
noncomputable def WyAt (H:Hp) (wy:Addr) (x0 x1 y0 y1:Int):Prop:=∃ tx ty,H wy=some (.dK [(Sum.inr "x",.ref tx),(Sum.inr "y",.ref ty)])∧H tx=some (.tup [.int x0,.int x1])∧H ty=some (.tup [.int y0,.int y1])
section
variable {f:Addr} {fd':FuncData}
inductive PspUnd (CC:Addr) (vs:List V) (H:Hp) (Q:VK):Prop
 | mk (c R ft wy:Addr) (rs:List Addr) (rows:List (List Int)) (foot:List (Int×Int)) (x0 y0:Int) (nx ny:Nat) (h0:vs=[.ref c,.ref ft,.ref wy]) (h1:ClAt CC H c R rs rows) (h2:Rect rows) (h3:FtAt H ft foot) (h4:WyAt H wy x0 (x0 + (nx:Int) - 1) y0 (y0 + (ny:Int) - 1)) (h5:foot.length≤100) (h6:nx≤40) (h7:ny≤40) (h8:-1000≤x0) (h9:x0≤1000) (h10:-1000≤y0) (h11:y0≤1000) (h12:∀ D H',H D=none→Same H H'→FtAt H' D (undW rows foot x0 nx y0 ny)→Q (.ref D) H'):PspUnd CC vs H Q
noncomputable def spUnd (CC:Addr):Sp:=fun vs H Q Z=>PspUnd CC vs H Q
theorem scUnd:FnScope ["self","foot","way","found","y","x","step"] ["self","foot","way"] (defScope sUnd):=⟨rfl,rfl,rfl,by decide +kernel,rfl,by decide +kernel,by decide +kernel⟩
theorem ndcs:(["cell","self"]:List Str).Nodup:=by decide +kernel
theorem big16 {n:Nat} (h:n≤160000):n < sizeLine:=Nat.lt_of_le_of_lt h (by decide)
theorem ok_und (T:LawT mg) (VV:VT K mg CV CC) (MH:Mt P w K mg base CC "has_cell" 1 ["self","x","y"] (spHas CC)) (F:Fun K "under" "Cells.under" sUnd f fd'):FnOk P w K mg base (CX1 P w) 2 f fd' ["self","foot","way"] (spUnd CC):=by
 have nd:=scUnd.nd
 refine F.ok1 scUnd (fun vs H Q E h=>?_) (fun cdv A outer s H vs Q E hr h=>?_)
 ·refine bC fun g_=>?_
  obtain ⟨c,R,ft,wy,rs,rows,foot,x0,y0,nx,ny,e1_,_⟩:=h
  refine g_ ?_
  clear g_
  obtain rfl:=e1_
  rfl
 refine bC fun g_=>?_
 obtain ⟨c,R,ft,wy,rs,rows,foot,x0,y0,nx,ny,e2_,C0,rect,⟨fts,hft,mft⟩,⟨tx,ty,hwy,htx,hty⟩,f100,nx40,ny40,xa,xb,ya,yb,q⟩:=h
 refine g_ ?_
 clear g_
 obtain rfl:=e2_
 have hr1:Room 1 _:=hr.mono (by decide)
 have hu:=hu_of' hr
 have ftl:fts.length=foot.length:=by rw [mft.len,List.length_map]
 refine ⟨_,(pss_cons (ps_set (i:=3) nd rfl (Or.inl rfl) pe_dnewT)
  (pss_cons (ps_for own1 rfl (pi_range2 rfl T.range (pa_cons (pe_ix (ix_tupK (K:=K) rfl) (pe_dget hu (pv 2) pe_str (fun Z Z=>rfl)) pe_int (fun Z Z=>rfl)) (pa_cons (pe_op op_add (pe_ix (ix_tupK (K:=K) rfl) (pe_dget hu (pv 2) pe_str (fun Z Z=>rfl)) pe_int (fun Z Z=>rfl)) pe_int) pa_nil))) (pg_name (i:=4) nd rfl (Or.inl rfl)) (pss_one (ps_for own1 rfl (pi_range2 rfl T.range (pa_cons (pe_ix (ix_tupK (K:=K) rfl) (pe_dget hu (pv 2) pe_str (fun Z Z=>rfl)) pe_int (fun Z Z=>rfl)) (pa_cons (pe_op op_add (pe_ix (ix_tupK (K:=K) rfl) (pe_dget hu (pv 2) pe_str (fun Z Z=>rfl)) pe_int (fun Z Z=>rfl)) pe_int) pa_nil))) (pg_name (i:=5) nd rfl (Or.inl rfl)) (pss_one (ps_for own1 rfl (pi_listK (K:=K) rfl (pv 1)) (pg_name (i:=6) nd rfl (Or.inl rfl)) (pss_one (ps_dput hu (pv 3) (pe_tup (pa_cons (pe_op op_add (pv 5) (pe_ix (ix_tupK (K:=K) rfl) (pv 6) pe_int (fun Z Z=>rfl))) (pa_cons (pe_op op_add (pv 4) (pe_ix (ix_tupK (K:=K) rfl) (pv 6) pe_int (fun Z Z=>rfl))) pa_nil))) pe_bl rfl)))))))
  (pss_one (ps_ret (pe_frz (pe_lc (own:=["cell"]) (capn:=["self"]) (capI:=[0]) rfl (blkC (defScope sUnd) rfl rfl (by decide +kernel) rfl (fun y hy=>by rcases List.mem_cons.mp hy with rfl | hy; exact ⟨rfl,rfl⟩; cases hy)) (pi_keys (pv 3)) (fun Z Z Z Z Z Z=>pg_name (i:=0) ndcs rfl (Or.inl rfl)) (fun Z Z Z Z Z Z=>(pifs_one (pt_truthK (K:=K) rfl (pf_meth MH (pv 1) hr1 passN (pa_cons (pe_ix (ix_tupK (K:=K) rfl) (pv 0) pe_int (fun Z Z=>rfl)) (pa_cons (pe_ix (ix_tupK (K:=K) rfl) (pv 0) pe_int (fun Z Z=>rfl)) pa_nil))) (fun Z=>rfl)))) (fun Z Z Z Z Z Z=>(pv 0)))))))),?_⟩
 (try dsimp only [L2.cxK])
 refine abs_seq fun dE eE=>?_
 refine fun fo hfo=>?_
 have u0:=same_upd hfo (.dT [])
 have dg:∀ {G:Hp},Same H G→DGet G wy (.str "y") (some (.ref ty))∧DGet G wy (.str "x") (some (.ref tx)):=fun sG=>⟨DGet.k (k:=Sum.inr "y") (sG _ _ hwy),DGet.k (k:=Sum.inr "x") (sG _ _ hwy)⟩
 refine nxS eE fun dE eE=>?_
 refine ⟨wy,.ref ty,rfl,(dg u0).1,ty,_,0,.int y0,rfl,rfl,SqT.of (u0 _ _ hty),rfl,wy,.ref ty,rfl,(dg u0).1,ty,_,1,.int (y0 + (ny:Int) - 1),rfl,rfl,SqT.of (u0 _ _ hty),rfl,_,_,rfl,(by lia),?_⟩
 rw [show (y0 + (ny:Int) - 1 + 1 - y0).toNat=ny by lia]
 refine for_range (lo:=y0) (n:=ny) (fun j σ H2=>Ex3 fun (x4 x5 x6:Option V)=>σ=[some (.ref c),some (.ref ft),some (.ref wy),some (.ref fo),x4,x5,x6]∧H2 fo=some (.dT (kvD ((cellsW foot x0 nx y0 j).foldl addC [])))∧Same H H2) ⟨none,none,none,rfl,upd_same,u0⟩ ?_ ?_
 ·rintro j σ H2 hj h_
  refine bC fun g_=>?_
  obtain ⟨x4,x5,x6,e3_,hf2,s2⟩:=h_
  refine g_ ?_
  clear g_
  obtain rfl:=e3_
  refine ⟨wy,.ref tx,rfl,(dg s2).2,tx,_,0,.int x0,rfl,rfl,SqT.of (s2 _ _ htx),rfl,wy,.ref tx,rfl,(dg s2).2,tx,_,1,.int (x0 + (nx:Int) - 1),rfl,rfl,SqT.of (s2 _ _ htx),rfl,_,_,rfl,(by lia),?_⟩
  rw [show (x0 + (nx:Int) - 1 + 1 - x0).toNat=nx by lia]
  refine for_range (lo:=x0) (n:=nx) (fun i σ H3=>Ex2 fun (x5 x6:Option V)=>σ=[some (.ref c),some (.ref ft),some (.ref wy),some (.ref fo),some (.int (y0 + (j:Int))),x5,x6]∧H3 fo=some (.dT (kvD ((cellsW foot x0 nx y0 j++rowW foot x0 i (y0 + (j:Int))).foldl addC [])))∧Same H H3) ⟨x5,x6,rfl,by rw [show rowW foot x0 0 (y0 + (j:Int))=[] from rfl,List.append_nil]; exact hf2,s2⟩ ?_ ?_
  ·rintro i σ H3 hi h_
   refine bC fun g_=>?_
   obtain ⟨x5,x6,e4_,hf3,s3⟩:=h_
   refine g_ ?_
   clear g_
   obtain rfl:=e4_
   refine ⟨ft,rfl,⟨_,SqL.of (s3 _ _ hft)⟩,?_⟩
   refine for_list (K:=K) (xs:=fts.map V.ref) (fun k σ H4=>∃ (x6:Option V),σ=[some (.ref c),some (.ref ft),some (.ref wy),some (.ref fo),some (.int (y0 + (j:Int))),some (.int (x0 + (i:Int))),x6]∧H4 fo=some (.dT (kvD ((cellsW foot x0 nx y0 j++rowW foot x0 i (y0 + (j:Int))++(foot.take k).map (shf (x0 + (i:Int)) (y0 + (j:Int)))).foldl addC [])))∧Same H H4) ⟨x6,rfl,by rw [List.take_zero,List.map_nil,List.append_nil]; exact hf3,s3⟩ ?_ ?_ ?_
   ·rintro k σ H4 _ h_
    refine bC fun g_=>?_
    obtain ⟨x6,e5_,_,s4⟩:=h_
    refine g_ ?_
    clear g_
    obtain rfl:=e5_
    exact SqL.of (s4 _ _ hft)
   ·rintro k v σ H4 hx h_
    refine bC fun g_=>?_
    obtain ⟨x6,e6_,hf4,s4⟩:=h_
    refine g_ ?_
    clear g_
    obtain rfl:=e6_
    obtain ⟨t,ht1,rfl⟩:=ref_get hx
    have hk:k < foot.length:=by have:=(List.getElem?_eq_some_iff.mp ht1).1; lia
    have ef:=List.getElem?_eq_getElem hk
    have gt:=s4 _ _ (mft.at_ ht1 (by rw [List.getElem?_map,ef]; rfl))
    generalize foot[k]=st at ef gt
    refine ⟨t,_,0,.int st.1,rfl,rfl,SqT.of gt,rfl,t,_,1,.int st.2,rfl,rfl,SqT.of gt,rfl,le2,fun t2 ht2=>?_⟩
    have v2:=same_upd ht2 (.tup [V.int (x0 + (i:Int) + st.1),.int (y0 + (j:Int) + st.2)])
    have lenb:(kvD ((cellsW foot x0 nx y0 j++rowW foot x0 i (y0 + (j:Int))++(foot.take k).map (shf (x0 + (i:Int)) (y0 + (j:Int)))).foldl addC [])).length < sizeLine:=by
     unfold kvD
     rw [List.length_map]
     refine big16 (Nat.le_trans (len_adds _ _) ?_)
     rw [List.length_append,List.length_append,cellsW_len,rowW_len,List.length_map,List.length_take]
     have e1:j * (nx * foot.length)≤39 * (40 * 100):=Nat.mul_le_mul (by lia) (Nat.mul_le_mul nx40 f100)
     have e2:i * foot.length≤39 * 100:=Nat.mul_le_mul (by lia) f100
     show 0 + _≤_
     lia
    refine ⟨fo,_,rfl,DPut.t (k:=[Sum.inl (x0 + (i:Int) + st.1),Sum.inl (y0 + (j:Int) + st.2)]) (v2 _ _ hf4) upd_same lenb,_,rfl,?_,same_in (s4.trans v2) hfo⟩
    rw [upd_same,put_kvD _ (x0 + (i:Int) + st.1,y0 + (j:Int) + st.2),List.take_add_one,ef,List.map_append,← List.append_assoc]
    generalize cellsW foot x0 nx y0 j++rowW foot x0 i (y0 + (j:Int))++(foot.take k).map (shf (x0 + (i:Int)) (y0 + (j:Int)))=pre
    rw [List.foldl_append]
    rfl
   ·rintro σ H4 h_
    refine bC fun g_=>?_
    obtain ⟨x6,e8_,hf4,s4⟩:=h_
    refine g_ ?_
    clear g_
    obtain rfl:=e8_
    rw [List.length_map,ftl,List.take_of_length_le (Nat.le_refl _),List.append_assoc,← rowW_succ] at hf4
    exact ⟨_,_,rfl,hf4,s4⟩
  ·rintro σ H3 h_
   refine bC fun g_=>?_
   obtain ⟨x5,x6,e9_,hf3,s3⟩:=h_
   refine g_ ?_
   clear g_
   obtain rfl:=e9_
   rw [← cellsW_succ] at hf3
   exact ⟨_,_,_,rfl,hf3,s3⟩
 rintro σ H2 h_
 refine bC fun g_=>?_
 obtain ⟨x4,x5,x6,e10_,hf2,s2⟩:=h_
 refine g_ ?_
 clear g_
 obtain rfl:=e10_
 generalize hcs:(cellsW foot x0 nx y0 ny).foldl addC []=cs at hf2
 have csl:cs.length≤160000:=by
  rw [← hcs]
  refine Nat.le_trans (len_adds _ _) ?_
  rw [cellsW_len]
  have e1:ny * (nx * foot.length)≤40 * (40 * 100):=Nat.mul_le_mul ny40 (Nat.mul_le_mul nx40 f100)
  show 0 + _≤_
  lia
 refine nxS1 eE ?_
 refine ⟨fo,_,hf2,True.intro,fun ob=>?_⟩
 refine ⟨fo,ob,_,rfl,upd_same,fun D hD=>?_⟩
 have nDf:D≠fo:=fun z=>by rw [z,upd_same] at hD; cases hD
 have hD2:H2 D=none:=by rw [upd_ne nDf] at hD; exact hD
 have nfo:∀ x o,H x=some o→x≠fo:=fun x o e=>ne_of_none e hfo
 refine ⟨Wd cs.length (fun i σ acc H5=>Ex2 fun (z:Option V) (us:List Addr)=>σ=[z,some (.ref c)]∧acc=us.map V.ref∧us.length≤i∧MvAt H5 us (((cs.take i).filter (ins rows)).map pr)∧H5 fo=some (.frz ob (.dT (kvD cs)))∧Same H H5∧H5 D=some (.lst acc)),wd_0 ⟨none,[],rfl,rfl,Nat.le_refl _,by rw [List.take_zero]; exact True.intro,by rw [upd_ne (Ne.symm nDf),upd_same],fun x o e=>by rw [upd_ne (fun z=>by rw [z,s2.free hD2] at e; cases e),upd_ne (nfo x o e)]; exact s2 x o e,upd_same⟩,?_⟩
 rintro i im σ acc H5 h_
 refine bC fun g_=>?_
 obtain ⟨e11_,hi0,z,us,e12_,e13_,ul,mu,hf5,s5,hD5⟩:=h_
 refine g_ ?_
 clear g_
 obtain rfl:=e11_
 obtain rfl:=e12_
 obtain rfl:=e13_
 have kl:(kvD cs).length=cs.length:=by unfold kvD; rw [List.length_map]
 refine ky_ask hf5 (by rw [kl]; exact hi0) (fun p hp hi t ht=>?_) (fun hend=>?_)
 ·rw [kl] at hi
  have ec:=List.getElem?_eq_getElem hi
  have ep:p=([(Sum.inl cs[i].1:Key),Sum.inl cs[i].2],V.bl true):=by
   unfold kvD at hp
   rw [List.getElem?_map,ec] at hp
   exact (Option.some.inj hp).symm
  subst ep
  have gt:H5 t=some (.tup (pr cs[i])):=ht
  generalize cs[i]=d at ec gt
  have C5:=C0.same s5
  obtain ⟨dx,hcc⟩:=C5.ob
  refine ⟨c,dx,_,rfl,hcc,rfl,t,_,0,.int d.1,rfl,rfl,SqT.of gt,rfl,t,_,1,.int d.2,rfl,rfl,SqT.of gt,rfl,c,R,rs,rows,d.1,d.2,rfl,C5,rect,_,rfl,?_⟩
  refine ite2 (fun h1=>?_) (fun h1=>?_)
  ·refine ⟨hD5,(by rw [List.length_map]; exact Nat.lt_of_le_of_lt ul (big16 (by lia))),wd_next hi ⟨_,us++[t],rfl,by rw [List.map_append]; rfl,by rw [List.length_append]; exact Nat.succ_le_succ ul,?_,by rw [upd_ne (Ne.symm nDf)]; exact hf5,fun x o e=>by rw [upd_ne (fun z=>by rw [z,s2.free hD2] at e; cases e)]; exact s5 x o e,upd_same⟩⟩
   rw [List.take_add_one,ec,List.filter_append,List.map_append,Option.toList_some,List.filter_cons_of_pos h1]
   exact (mu.snoc gt).upd (fun m e=>by rw [hD5] at e; cases e)
  ·refine wd_next hi ⟨_,us,rfl,rfl,Nat.le_succ_of_le ul,?_,hf5,s5,hD5⟩
   rw [List.take_add_one,ec,List.filter_append,Option.toList_some,List.filter_cons_of_neg h1,List.filter_nil,List.append_nil]
   exact mu
 ·rw [kl] at hend
  rw [hend,List.take_of_length_le (Nat.le_refl _)] at mu
  refine ⟨hf5,q D _ (s2.free hD2) (same_in s5 hfo) ⟨us,by rw [upd_ne nDf]; exact hD5,?_⟩⟩
  unfold undW
  rw [hcs]
  exact mu.upd (fun m e=>by rw [hf5] at e; cases e)
end
theorem set_same {α:Type} {xs:List α} {i:Nat} {x:α} (h:xs[i]?=some x):xs.set i x=xs:=by
 refine List.ext_getElem? fun j=>?_
 by_cases e:i=j
 ·subst e
  rw [List.getElem?_set_self (List.getElem?_eq_some_iff.mp h).1,h]
 ·rw [List.getElem?_set_ne e]
section
variable {f:Addr} {fd':FuncData}
inductive PspDown (CC:Addr) (vs:List V) (H:Hp) (Q:VK):Prop
 | mk (c R u:Addr) (rs:List Addr) (rows:List (List Int)) (cs:List (Int×Int)) (h:Int) (h0:vs=[.ref c,.ref u,.int h]) (h1:ClAt CC H c R rs rows) (h2:Rect rows) (h3:rs.Nodup) (h4:R ∉ rs) (h5:u ∉ rs) (h6:FtAt H u cs) (h7:(∀ d∈cs,ins rows d=true)) (h8:∀ H',Kp rs H H'→RowsAt H' rs (dwn rows cs h).1→Q (.int (dwn rows cs h).2) H'):PspDown CC vs H Q
noncomputable def spDown (CC:Addr):Sp:=fun vs H Q Z=>PspDown CC vs H Q
theorem scDown:FnScope ["self","under","height","taken","cell","row"] ["self","under","height"] (defScope sDown):=⟨rfl,rfl,rfl,by decide +kernel,rfl,by decide +kernel,by decide +kernel⟩
theorem ok_down (VV:VT K mg CV CC) (F:Fun K "cut_down" "Cells.cut_down" sDown f fd'):FnOk P w K mg base (CX1 P w) 1 f fd' ["self","under","height"] (spDown CC):=by
 have nd:=scDown.nd
 refine F.ok1 scDown (fun vs H Q E h=>?_) (fun cdv A outer s H vs Q E hr h=>?_)
 ·refine bC fun g_=>?_
  obtain ⟨c,R,u,rs,rows,cs,h,e1_,_⟩:=h
  refine g_ ?_
  clear g_
  obtain rfl:=e1_
  rfl
 refine bC fun g_=>?_
 obtain ⟨c,R,u,rs,rows,cs,h,e2_,⟨⟨dx,hc⟩,hR,ra⟩,rect,rnd,nR,nu,⟨ts,hu1,mu⟩,hin,q⟩:=h
 refine g_ ?_
 clear g_
 obtain rfl:=e2_
 have tl:ts.length=cs.length:=by rw [mu.len,List.length_map]
 have nc:c ∉ rs:=fun z=>by
  obtain ⟨xs,hx⟩:=ra.mem z
  rw [hc] at hx
  cases hx
 refine ⟨_,(pss_cons (ps_set (i:=3) nd rfl (Or.inl rfl) pe_int)
  (pss_cons (ps_for own1 rfl (pi_listK (K:=K) rfl (pv 1)) (pg_name (i:=4) nd rfl (Or.inl rfl)) (pss_cons (ps_set (i:=5) nd rfl (Or.inl rfl) (pe_ix (ix_listK (K:=K) rfl) (pe_fld (pv 0) rfl) (pe_ix (ix_tupK (K:=K) rfl) (pv 4) pe_int (fun Z Z=>rfl)) (fun Z Z=>rfl)))
  (pss_one (ps_if (pt_cmpR op_gt (pe_ix (ix_listK (K:=K) rfl) (pv 5) (pe_ix (ix_tupK (K:=K) rfl) (pv 4) pe_int (fun Z Z=>rfl)) (fun Z Z=>rfl)) (pv 2) (nomark _)) (pss_cons (ps_aug (i:=3) nd rfl (Or.inl rfl) (pe_op op_sub (pe_ix (ix_listK (K:=K) rfl) (pv 5) (pe_ix (ix_tupK (K:=K) rfl) (pv 4) pe_int (fun Z Z=>rfl)) (fun Z Z=>rfl)) (pv 2)) ip_add)
  (pss_one (ps_asg (pv 2) (pg_sub (pv 5) (pe_ix (ix_tupK (K:=K) rfl) (pv 4) pe_int (fun Z Z=>rfl)) set_list)))) pss_nil))))
  (pss_one (ps_ret (pv 3))))),?_⟩
 (try dsimp only [L2.cxK])
 refine abs_seq fun dE eE=>?_
 refine nxS eE fun dE eE=>?_
 refine ⟨u,rfl,⟨_,SqL.of hu1⟩,?_⟩
 refine for_list (K:=K) (xs:=ts.map V.ref) (fun i σ H2=>Ex2 fun (x4 x5:Option V)=>σ=[some (.ref c),some (.ref u),some (.int h),some (.int (dwn rows (cs.take i) h).2),x4,x5]∧Kp rs H H2∧RowsAt H2 rs (dwn rows (cs.take i) h).1) ⟨none,none,by rw [List.take_zero]; rfl,fun Z Z Z e=>e,by rw [List.take_zero]; exact ra⟩ ?_ ?_ ?_
 ·rintro i σ H2 _ h_
  refine bC fun g_=>?_
  obtain ⟨x4,x5,e3_,k2,_⟩:=h_
  refine g_ ?_
  clear g_
  obtain rfl:=e3_
  exact SqL.of (k2 _ _ nu hu1)
 ·rintro i v σ H2 hx h_
  refine bC fun g_=>?_
  obtain ⟨x4,x5,e4_,k2,ra2⟩:=h_
  refine g_ ?_
  clear g_
  obtain rfl:=e4_
  obtain ⟨t,ht,rfl⟩:=ref_get hx
  have hic:i < cs.length:=by have:=(List.getElem?_eq_some_iff.mp ht).1; lia
  have ec:=List.getElem?_eq_getElem hic
  have gt0:=mu.at_ ht (by rw [List.getElem?_map,ec]; rfl)
  have gt:H2 t=some (.tup (pr cs[i])):=k2 _ _ (ra.out gt0) gt0
  have hi1:=hin _ (List.getElem_mem hic)
  generalize cs[i]=c1 at ec gt hi1 gt0
  have enx:dwn rows (cs.take (i + 1)) h=stepD h (dwn rows (cs.take i) h) c1:=by
   unfold dwn
   rw [List.take_add_one,ec,List.foldl_append]
   rfl
  have al:Alike rows (dwn rows (cs.take i) h).1:=by
   unfold dwn
   rw [dwn_fst]
   exact cuts_alike _ _
  generalize dwn rows (cs.take i) h=S at ra2 enx al
  obtain ⟨rw0,tk⟩:=S
  have al':Alike rows rw0:=al
  have ra2':RowsAt H2 rs rw0:=ra2
  have hi2:ins rw0 c1=true:=by rw [← al'.ins]; exact hi1
  refine bC fun g_=>?_
  obtain ⟨iy,ix,row,v,e5,e6,e7,e8⟩:=ins_at hi2 (al'.rect rect)
  refine g_ ?_
  clear g_
  have ex:c1.1=(ix:Int):=congrArg Prod.fst e5
  have ey:c1.2=(iy:Int):=congrArg Prod.snd e5
  refine bC fun g_=>?_
  obtain ⟨a,ha,hra⟩:=ra2'.at_ e6
  refine g_ ?_
  clear g_
  have hR2:=k2 _ _ nR hR
  have hc2:=k2 _ _ nc hc
  have ay:atI (rs.map V.ref) c1.2=some (.ref a):=by rw [ey]; exact atI_nat (by rw [List.getElem?_map,ha]; rfl)
  have ax:atI (row.map V.int) c1.1=some (.int v):=by rw [ex]; exact atI_nat (by rw [List.getElem?_map,e7]; rfl)
  have jx:ixN (row.map V.int).length c1.1=some ix:=by rw [ex]; exact ixN_nat (by rw [List.length_map]; exact (List.getElem?_eq_some_iff.mp e7).1)
  refine ⟨c,CC,dx,_,_,rfl,hc2,VV.clC,VV.nRows,rfl,t,_,1,.int c1.2,rfl,rfl,SqT.of gt,rfl,R,_,_,.ref a,rfl,rfl,SqL.of hR2,ay,?_⟩
  refine ⟨t,_,0,.int c1.1,rfl,rfl,SqT.of gt,rfl,a,_,_,.int v,rfl,rfl,SqL.of hra,ax,?_⟩
  rw [enx]
  refine ite2 (fun hg=>?_) (fun hg=>?_)
  ·have hg':v > h:=of_decide_eq_true hg
   refine abs_seq fun dE eE=>?_
   refine ⟨_,rfl,t,_,0,.int c1.1,rfl,rfl,SqT.of gt,rfl,a,_,_,.int v,rfl,rfl,SqL.of hra,ax,_,_,rfl,rfl,?_⟩
   refine nxS1 eE ?_
   refine ⟨t,_,0,.int c1.1,rfl,rfl,SqT.of gt,rfl,a,_,_,ix,rfl,rfl,hra,jx,?_⟩
   have em:(row.map V.int).set ix (.int h)=(row.set ix h).map V.int:=List.map_set.symm
   rw [em]
   refine ⟨some (.ref t),some (.ref a),?_,fun x o nx e=>?_,?_⟩
   ·show _=[_,_,_,some (V.int (tk + if hgt rw0 c1 > h then hgt rw0 c1 - h else 0)),_,_]
    rw [e8,if_pos hg']
    rfl
   ·rw [upd_ne (fun z=>nx (by rw [z]; exact List.mem_of_getElem? ha))]
    exact k2 x o nx e
   ·show RowsAt _ rs (cutC rw0 (c1,h))
    have e10:cutC rw0 (c1,h)=rw0.set iy (row.set ix h):=by
     unfold cutC
     simp only [e8]
     rw [ex,ey,Int.toNat_natCast,Int.toNat_natCast,e6]
     show rw0.set iy (row.set ix (mn v h))=_
     rw [show mn v h=h by unfold mn; rw [if_pos hg']]
    rw [e10]
    exact ra2'.set rnd ha
  ·have hg':¬ v > h:=fun z=>hg (decide_eq_true z)
   refine ⟨some (.ref t),some (.ref a),?_,k2,?_⟩
   ·show _=[_,_,_,some (V.int (tk + if hgt rw0 c1 > h then hgt rw0 c1 - h else 0)),_,_]
    rw [e8,if_neg hg',Int.add_zero]
    rfl
   ·show RowsAt _ rs (cutC rw0 (c1,h))
    have e10:cutC rw0 (c1,h)=rw0:=by
     unfold cutC
     simp only [e8]
     rw [ex,ey,Int.toNat_natCast,Int.toNat_natCast,e6]
     show rw0.set iy (row.set ix (mn v h))=_
     rw [show mn v h=v by unfold mn; split <;> lia,Car.set_same e7,Car.set_same e6]
    rw [e10]
    exact ra2'
 ·rintro σ H2 h_
  refine bC fun g_=>?_
  obtain ⟨x4,x5,e6_,k2,ra2⟩:=h_
  refine g_ ?_
  clear g_
  obtain rfl:=e6_
  rw [List.length_map,tl,List.take_of_length_le (Nat.le_refl _)] at ra2 ⊢
  refine nxS1 eE ?_
  exact (q H2 k2 ra2)
inductive PspCellsI (CC:Addr) (vs:List V) (H:Hp) (Q:VK):Prop
 | mk (c dx b:Addr) (bed:List (List Int)) (h0:vs=[.ref c,.ref b]) (h1:H c=some (.ins CC dx [])) (h2:BdAt H b bed) (h3:bed.length≤1000) (h4:∀ (R:Addr) (rs:List Addr) (H':Hp),(∀ x o,x≠c→H x=some o→H' x=some o)→H' c=some (.ins CC dx [("rows",.ref R)])→H' R=some (.lst (rs.map V.ref))→RowsAt H' rs bed→rs.Nodup→R ∉ rs→H R=none→(∀ r∈rs,H r=none)→Q .non H'):PspCellsI CC vs H Q
noncomputable def spCellsI (CC:Addr):Sp:=fun vs H Q Z=>PspCellsI CC vs H Q
theorem scCellsI:FnScope ["self","bed"] ["self","bed"] (defScope sCellsI):=⟨rfl,rfl,rfl,by decide +kernel,rfl,by decide +kernel,by decide +kernel⟩
theorem ok_cellsI (T:LawT mg) (VV:VT K mg CV CC) (F:Fun K "__init__" "Cells.__init__" sCellsI f fd'):FnOk P w K mg base (CX1 P w) 1 f fd' ["self","bed"] (spCellsI CC):=by
 have nd:=scCellsI.nd
 refine F.ok1 scCellsI (fun vs H Q E h=>?_) (fun cdv A outer s H vs Q E hr h=>?_)
 ·refine bC fun g_=>?_
  obtain ⟨c,dx,b,bed,e7_,_⟩:=h
  refine g_ ?_
  clear g_
  obtain rfl:=e7_
  rfl
 refine bC fun g_=>?_
 obtain ⟨c,dx,b,bed,e8_,hc,⟨bs,hb1,rb1⟩,bl,q⟩:=h
 refine g_ ?_
 clear g_
 obtain rfl:=e8_
 refine ⟨_,(pss_one (ps_fld (pv 0) (pe_lc (own:=["row"]) (capn:=[]) (capI:=[]) rfl (blk0 rfl (by decide +kernel)) (pi_listK (K:=K) rfl (pv 1)) (fun Z Z Z Z Z Z=>pg_name (i:=0) (nd1 "row") rfl (Or.inl rfl)) (fun Z Z Z Z Z Z=>pifs_nil) (fun Z Z Z Z Z Z=>(pe_callTy (call_listK (K:=K) rfl) rfl T.list bt_list (pa_cons (pv 0) pa_nil)))) rfl)),?_⟩
 (try dsimp only [L2.cxK])
 refine ⟨b,rfl,⟨_,SqL.of hb1⟩,fun D hD=>?_⟩
 refine lc_rows hb1 rb1 bl (fun r row H2 R hr' k=>⟨r,_,rfl,.inl (SqL.of hr'),k⟩) hD (fun hs H1 s1 hD1 rh ndh nh nD=>?_)
 have hc1:=s1 _ _ hc
 have nDc:=ne_new hc hD
 have ncs:c ∉ hs:=fun z=>by
  have:=nh c z
  rw [hc] at this
  cases this
 refine ⟨c,CC,dx,_,rfl,hc1,VV.clC,VV.nRows,(by decide),?_⟩
 exact q D hs _ (fun x o n e=>by rw [upd_ne n]; exact s1 x o e) upd_same (by rw [upd_ne nDc]; exact hD1) (rh.keep fun r hr o e=>by rw [upd_ne (fun z=>ncs (by rw [← z]; exact hr))]; exact e) ndh nD hD nh
end
inductive Gm (nd:List Int):List V→Prop
 | hold (n:Int) (h:n∈nd):Gm nd [.str "hold",.int n]
 | go (k a:Str) (n:Int) (h:k≠"hold"):Gm nd [.str k,.str a,.int n]
structure PA where
 pl:Addr
 st:Addr
 sd:Addr
 mv:Addr
noncomputable abbrev plF (A:PA):List (Str×V):=[("stuff",.ref A.st),("stands",.ref A.sd),("moves",.ref A.mv)]
noncomputable def kvP (x y z:Int):List (Key×V):=[(Sum.inr "x",.int x),(Sum.inr "y",.int y),(Sum.inr "z",.int z)]
inductive MvsIn (nd:List Int) (H:Hp) (mv:Addr) (n:Nat):Prop
 | mk (ts:List Addr) (ms:List (List V)) (h1:H mv=some (.lst (ts.map V.ref))) (h2:MvAt H ts ms) (h3:ms.length≤n) (h4:∀ m∈ms,Gm nd m):MvsIn nd H mv n
structure PlIn (CV:Addr) (nd:List Int) (H:Hp) (A:PA) (n:Nat):Prop where
 ob:∃ dx,H A.pl=some (.ins CV dx (plF A))
 sd:∃ x y z,H A.sd=some (.dK (kvP x y z))
 mv:MvsIn nd H A.mv n
theorem MvsIn.same {nd:List Int} {H H':Hp} {mv:Addr} {n:Nat} (h:MvsIn nd H mv n) (s:Same H H'):MvsIn nd H' mv n:=by
 refine bC fun g_=>?_
 obtain ⟨ts,ms,a,b,c,d⟩:=h
 refine g_ ?_
 clear g_
 exact ⟨ts,ms,s _ _ a,b.same s,c,d⟩
theorem PlIn.same {CV:Addr} {nd:List Int} {H H':Hp} {A:PA} {n:Nat} (h:PlIn CV nd H A n) (s:Same H H'):PlIn CV nd H' A n:=by
 refine bC fun g_=>?_
 obtain ⟨⟨dx,a⟩,⟨x,y,z,b⟩,c⟩:=h
 refine g_ ?_
 clear g_
 exact ⟨⟨dx,s _ _ a⟩,⟨x,y,z,s _ _ b⟩,c.same s⟩
theorem PlIn.more {CV:Addr} {nd:List Int} {H:Hp} {A:PA} {n m:Nat} (h:PlIn CV nd H A n) (l:n≤m):PlIn CV nd H A m:=by
 refine bC fun g_=>?_
 obtain ⟨a,b,ts,ms,c,d,e,f⟩:=h
 refine g_ ?_
 clear g_
 exact ⟨a,b,ts,ms,c,d,Nat.le_trans e l,f⟩
theorem MvsIn.add {nd:List Int} {H:Hp} {mv t:Addr} {n:Nat} {m:List V} (h:MvsIn nd H mv n) (ht:H t=some (.tup m)) (g:Gm nd m):∃ xs:List V,H mv=some (.lst xs)∧xs.length≤n∧MvsIn nd (upd H mv (.lst (xs++[.ref t]))) mv (n + 1):=by
 refine bC fun g_=>?_
 obtain ⟨ts,ms,a,b,c,d⟩:=h
 refine g_ ?_
 clear g_
 refine ⟨_,a,by rw [List.length_map,b.len]; exact c,ts++[t],ms++[m],?_,?_,?_,?_⟩
 ·rw [upd_same,List.map_append]
  rfl
 ·exact (b.snoc ht).upd (sbn a)
 ·rw [List.length_append]
  exact Nat.succ_le_succ c
 ·intro x hx
  rcases List.mem_append.mp hx with hx | hx
  ·exact d x hx
  ·rw [List.mem_singleton.mp hx]
   exact g
section
variable {f:Addr} {fd':FuncData}
noncomputable def isAx (a:Str):Prop:=a="x"∨a="y"∨a="z"
theorem ax_get {a:Str} (h:isAx a) (x y z:Int):∃ v,valV (kvP x y z) (Sum.inr a)=some (.int v):=by
 rcases h with rfl | rfl | rfl
 ·exact ⟨x,rfl⟩
 ·exact ⟨y,rfl⟩
 ·exact ⟨z,rfl⟩
theorem ax_put {a:Str} (h:isAx a) (x y z v:Int):∃ x' y' z',putK (kvP x y z) (Sum.inr a) (.int v)=kvP x' y' z':=by
 rcases h with rfl | rfl | rfl
 ·exact ⟨v,y,z,rfl⟩
 ·exact ⟨x,v,z,rfl⟩
 ·exact ⟨x,y,v,rfl⟩
inductive PspGo (CV:Addr) (nd:List Int) (vs:List V) (H:Hp) (Q:VK):Prop
 | mk (A:PA) (n:Nat) (k a:Str) (to:Int) (h0:vs=[.ref A.pl,.str k,.str a,.int to]) (h1:k≠"hold") (h2:isAx a) (h3:PlIn CV nd H A n) (h4:n < 16000000) (h5:∀ H',Kp [A.sd,A.mv] H H'→PlIn CV nd H' A (n + 1)→Q .non H'):PspGo CV nd vs H Q
noncomputable def spGo (CV:Addr) (nd:List Int):Sp:=fun vs H Q Z=>PspGo CV nd vs H Q
theorem scGo:FnScope ["self","kind","axis","to"] ["self","kind","axis","to"] (defScope sGo):=⟨rfl,rfl,rfl,by decide +kernel,rfl,by decide +kernel,by decide +kernel⟩
theorem lt16 {n:Nat} (h:n < 16000000):n < sizeLine:=Nat.lt_trans h (by decide)
theorem ok_go {nd':List Int} (VV:VT K mg CV CC) (F:Fun K "go_to" "Plan.go_to" sGo f fd'):FnOk P w K mg base (CX1 P w) 1 f fd' ["self","kind","axis","to"] (spGo CV nd'):=by
 have nd:=scGo.nd
 refine F.ok1 scGo (fun vs H Q E h=>?_) (fun cdv A outer s H vs Q E hr h=>?_)
 ·refine bC fun g_=>?_
  obtain ⟨A,n,k,a,to,e1_,_⟩:=h
  refine g_ ?_
  clear g_
  obtain rfl:=e1_
  rfl
 refine bC fun g_=>?_
 obtain ⟨B,n,k,a,to,e2_,hk,ax,PI,hn,q⟩:=h
 refine g_ ?_
 clear g_
 obtain rfl:=e2_
 have hu:=hu_of' hr
 refine ⟨_,(pss_one (ps_if (pt_cmpR op_ne (pe_dget hu (pe_fld (pv 0) rfl) (pv 2) (fun Z Z=>rfl)) (pv 3) (nomark _)) (pss_cons (ps_dput hu (pe_fld (pv 0) rfl) (pv 2) (pv 3) rfl)
  (pss_one (ps_expr (pe_bm PySem.F.plainAttrs_list PySem.F.slot_list_append PySem.F.type_list_append mt_append (pe_fld (pv 0) rfl) (pa_cons (pe_tup (pa_cons (pv 1) (pa_cons (pv 2) (pa_cons (pv 3) pa_nil)))) pa_nil))))) pss_nil)),?_⟩
 (try dsimp only [L2.cxK])
 refine bC fun g_=>?_
 obtain ⟨⟨dx,ho⟩,⟨x,y,z,hsd⟩,mv⟩:=id PI
 obtain ⟨v,hv⟩:=ax_get ax x y z
 obtain ⟨x',y',z',hp⟩:=ax_put ax x y z to
 refine g_ ?_
 clear g_
 have g1:=DGet.k (k:=Sum.inr a) hsd
 rw [hv] at g1
 refine ⟨B.pl,CV,dx,_,_,rfl,ho,VV.clV,VV.nStands,rfl,B.sd,.int v,rfl,g1,rfl,?_⟩
 refine ite2 (fun Z=>?_) (fun Z=>?_)
 ·have g2:=DPut.k (k:=Sum.inr a) (v:=.int to) hsd (by show 3 < _; decide)
  rw [hp] at g2
  have npl:B.pl≠B.sd:=ne_of ho hsd (fun z=>nomatch z)
  have nmv:B.mv≠B.sd:=by
   refine bC fun g_=>?_
   obtain ⟨ts,ms,e,_⟩:=mv
   refine g_ ?_
   clear g_
   exact ne_of e hsd (fun z=>nomatch z)
  refine abs_seq fun dE eE=>?_
  refine ⟨B.pl,CV,dx,_,_,rfl,ho,VV.clV,VV.nStands,rfl,B.sd,_,rfl,g2,?_⟩
  have mv2:MvsIn nd' (upd H B.sd (.dK (kvP x' y' z'))) B.mv n:=by
   refine bC fun g_=>?_
   obtain ⟨ts,ms,a1,a2,a3,a4⟩:=mv
   refine g_ ?_
   clear g_
   exact ⟨ts,ms,by rw [upd_ne nmv]; exact a1,a2.upd (fun m e=>by rw [hsd] at e; cases e),a3,a4⟩
  have ho2:upd H B.sd (.dK (kvP x' y' z')) B.pl=some (.ins CV dx (plF B)):=by rw [upd_ne npl]; exact ho
  have hsd2:upd H B.sd (.dK (kvP x' y' z')) B.sd=some (.dK (kvP x' y' z')):=upd_same
  have kp2:Kp [B.sd,B.mv] H (upd H B.sd (.dK (kvP x' y' z'))):=fun b o nb e=>by rw [upd_ne (fun z=>nb (by rw [z]; exact List.mem_cons_self))]; exact e
  generalize upd H B.sd (.dK (kvP x' y' z'))=H2 at mv2 ho2 hsd2 kp2
  refine nxS1 eE ?_
  refine ⟨B.pl,CV,dx,_,_,rfl,ho2,VV.clV,VV.nMoves,rfl,?_⟩
  obtain ⟨xs0,e0,_⟩:∃ xs,H2 B.mv=some (.lst xs)∧True:=by
   refine bC fun g_=>?_
   obtain ⟨ts,ms,a1,_⟩:=mv2
   refine g_ ?_
   clear g_
   exact ⟨_,a1,trivial⟩
  refine ⟨.inl ⟨rfl,_,SqL.of e0⟩,le3,fun t ht=>?_⟩
  have u:=same_upd ht (.tup [V.str k,.str a,.int to])
  refine bC fun g_=>?_
  obtain ⟨xs,e1,l1,mv3⟩:=(mv2.same u).add upd_same (.go k a to hk)
  refine g_ ?_
  clear g_
  refine ⟨B.mv,xs,.ref t,rfl,rfl,e1,lt16 (by lia),?_⟩
  refine q _ (fun b o nb e=>?_) ⟨⟨dx,?_⟩,⟨x',y',z',?_⟩,mv3⟩
  ·rw [upd_ne (fun z=>nb (by rw [z]; exact List.mem_cons_of_mem _ List.mem_cons_self))]
   exact u _ _ (kp2 _ _ nb e)
  ·rw [upd_ne (ne_of ho2 e0 (fun z=>nomatch z))]
   exact u _ _ ho2
  ·rw [upd_ne (ne_of hsd2 e0 (fun z=>nomatch z))]
   exact u _ _ hsd2
 ·exact q H (fun Z Z Z e=>e) (PI.more (Nat.le_succ _))
end
section
variable {f:Addr} {fd':FuncData}
inductive PspTake (CV:Addr) (nd:List Int) (vs:List V) (H:Hp) (Q:VK):Prop
 | mk (A:PA) (n:Nat) (num:Int) (h0:vs=[.ref A.pl,.int num]) (h1:num∈nd) (h3:PlIn CV nd H A n) (h4:n < 15000000) (h5:∀ H',Kp [A.sd,A.mv] H H'→PlIn CV nd H' A (n + 2)→Q .non H'):PspTake CV nd vs H Q
noncomputable def spTake (CV:Addr) (nd:List Int):Sp:=fun vs H Q Z=>PspTake CV nd vs H Q
theorem scTake:FnScope ["self","number"] ["self","number"] (defScope sTake):=⟨rfl,rfl,rfl,by decide +kernel,rfl,by decide +kernel,by decide +kernel⟩
theorem nhf:("fast":Str)≠"hold":=by decide +kernel
theorem nhs:("slow":Str)≠"hold":=by decide +kernel
theorem ok_take {nd':List Int} (VV:VT K mg CV CC) (MG:Mt P w K mg base CV "go_to" 1 ["self","kind","axis","to"] (spGo CV nd')) (F:Fun K "take_cutter" "Plan.take_cutter" sTake f fd'):FnOk P w K mg base (CX1 P w) 2 f fd' ["self","number"] (spTake CV nd'):=by
 have nd:=scTake.nd
 obtain ⟨tt,htop⟩:=VV.top
 refine F.ok1 scTake (fun vs H Q E h=>?_) (fun cdv A outer s H vs Q E hr h=>?_)
 ·refine bC fun g_=>?_
  obtain ⟨A,n,num,e1_,_⟩:=h
  refine g_ ?_
  clear g_
  obtain rfl:=e1_
  rfl
 refine bC fun g_=>?_
 obtain ⟨B,n,num,e2_,hm,PI,hn,q⟩:=h
 refine g_ ?_
 clear g_
 obtain rfl:=e2_
 refine ⟨_,(pss_cons (ps_expr (pf_meth MG (pv 0) hr (pass1 (E:=E)) (pa_cons pe_str (pa_cons pe_str (pa_cons (pe_glob (v:=.int 1000) rfl htop ⟨_,rfl⟩) pa_nil)))))
  (pss_one (ps_expr (pe_bm PySem.F.plainAttrs_list PySem.F.slot_list_append PySem.F.type_list_append mt_append (pe_fld (pv 0) rfl) (pa_cons (pe_tup (pa_cons pe_str (pa_cons (pv 1) pa_nil))) pa_nil))))),?_⟩
 (try dsimp only [L2.cxK])
 refine abs_seq fun dE eE=>?_
 obtain ⟨dx,ho⟩:=PI.ob
 refine ⟨B.pl,dx,_,rfl,ho,rfl,B,n,"fast","z",1000,rfl,nhf,.inr (.inr rfl),PI,by lia,fun H2 k2 PI2=>?_⟩
 refine bC fun g_=>?_
 obtain ⟨⟨dx2,ho2⟩,⟨x,y,z,hsd2⟩,mv2⟩:=id PI2
 refine g_ ?_
 clear g_
 obtain ⟨xs0,e0,_⟩:∃ xs,H2 B.mv=some (.lst xs)∧True:=by
  refine bC fun g_=>?_
  obtain ⟨ts,ms,a1,_⟩:=mv2
  refine g_ ?_
  clear g_
  exact ⟨_,a1,trivial⟩
 refine nxS1 eE ?_
 refine ⟨B.pl,CV,dx2,_,_,rfl,ho2,VV.clV,VV.nMoves,rfl,.inl ⟨rfl,_,SqL.of e0⟩,le2,fun t ht=>?_⟩
 have u:=same_upd ht (.tup [V.str "hold",.int num])
 refine bC fun g_=>?_
 obtain ⟨xs,e1,l1,mv3⟩:=(mv2.same u).add upd_same (.hold num hm)
 refine g_ ?_
 clear g_
 refine ⟨B.mv,xs,.ref t,rfl,rfl,e1,lt16 (by lia),?_⟩
 refine q _ (fun b o nb e=>?_) ⟨⟨dx2,?_⟩,⟨x,y,z,?_⟩,mv3⟩
 ·rw [upd_ne (fun z=>nb (by rw [z]; exact List.mem_cons_of_mem _ List.mem_cons_self))]
  exact u _ _ (k2 _ _ nb e)
 ·rw [upd_ne (ne_of ho2 e0 (fun z=>nomatch z))]
  exact u _ _ ho2
 ·rw [upd_ne (ne_of hsd2 e0 (fun z=>nomatch z))]
  exact u _ _ hsd2
inductive PspAbove (CV:Addr) (nd:List Int) (vs:List V) (H:Hp) (Q:VK):Prop
 | mk (A:PA) (n:Nat) (x y z:Int) (h0:vs=[.ref A.pl,.int x,.int y,.int z]) (h3:PlIn CV nd H A n) (h4:n < 15000000) (h5:∀ H',Kp [A.sd,A.mv] H H'→PlIn CV nd H' A (n + 4)→Q .non H'):PspAbove CV nd vs H Q
noncomputable def spAbove (CV:Addr) (nd:List Int):Sp:=fun vs H Q Z=>PspAbove CV nd vs H Q
theorem scAbove:FnScope ["self","x","y","z"] ["self","x","y","z"] (defScope sAbove):=⟨rfl,rfl,rfl,by decide +kernel,rfl,by decide +kernel,by decide +kernel⟩
theorem ok_above {nd':List Int} (VV:VT K mg CV CC) (MG:Mt P w K mg base CV "go_to" 1 ["self","kind","axis","to"] (spGo CV nd')) (F:Fun K "go_above" "Plan.go_above" sAbove f fd'):FnOk P w K mg base (CX1 P w) 2 f fd' ["self","x","y","z"] (spAbove CV nd'):=by
 have nd:=scAbove.nd
 obtain ⟨tt,htop⟩:=VV.top
 refine F.ok1 scAbove (fun vs H Q E h=>?_) (fun cdv A outer s H vs Q E hr h=>?_)
 ·refine bC fun g_=>?_
  obtain ⟨A,n,x,y,z,e3_,_⟩:=h
  refine g_ ?_
  clear g_
  obtain rfl:=e3_
  rfl
 refine bC fun g_=>?_
 obtain ⟨B,n,x,y,z,e4_,PI,hn,q⟩:=h
 refine g_ ?_
 clear g_
 obtain rfl:=e4_
 refine ⟨_,(pss_cons (ps_expr (pf_meth MG (pv 0) hr (pass1 (E:=E)) (pa_cons pe_str (pa_cons pe_str (pa_cons (pe_glob (v:=.int 1000) rfl htop ⟨_,rfl⟩) pa_nil)))))
  (pss_cons (ps_expr (pf_meth MG (pv 0) hr (pass1 (E:=E)) (pa_cons pe_str (pa_cons pe_str (pa_cons (pv 1) pa_nil)))))
  (pss_cons (ps_expr (pf_meth MG (pv 0) hr (pass1 (E:=E)) (pa_cons pe_str (pa_cons pe_str (pa_cons (pv 2) pa_nil)))))
  (pss_one (ps_expr (pf_meth MG (pv 0) hr (pass1 (E:=E)) (pa_cons pe_str (pa_cons pe_str (pa_cons (pv 3) pa_nil))))))))),?_⟩
 (try dsimp only [L2.cxK])
 refine abs_seq fun dE eE=>?_
 obtain ⟨dx,ho⟩:=PI.ob
 refine ⟨B.pl,dx,_,rfl,ho,rfl,B,n,"fast","z",1000,rfl,nhf,.inr (.inr rfl),PI,by lia,fun H2 k2 PI2=>?_⟩
 obtain ⟨dx2,ho2⟩:=PI2.ob
 refine nxS eE fun dE eE=>?_
 refine ⟨B.pl,dx2,_,rfl,ho2,rfl,B,n + 1,"fast","x",x,rfl,nhf,.inl rfl,PI2,by lia,fun H3 k3 PI3=>?_⟩
 obtain ⟨dx3,ho3⟩:=PI3.ob
 refine nxS eE fun dE eE=>?_
 refine ⟨B.pl,dx3,_,rfl,ho3,rfl,B,n + 2,"fast","y",y,rfl,nhf,.inr (.inl rfl),PI3,by lia,fun H4 k4 PI4=>?_⟩
 obtain ⟨dx4,ho4⟩:=PI4.ob
 refine nxS1 eE ?_
 refine ⟨B.pl,dx4,_,rfl,ho4,rfl,B,n + 3,"fast","z",z,rfl,nhf,.inr (.inr rfl),PI4,by lia,fun H5 k5 PI5=>?_⟩
 exact q H5 (((k2.trans k3).trans k4).trans k5) PI5
inductive PspLev (vs:List V) (H:Hp) (Q:VK):Prop
 | mk (top low bite:Int) (h0:vs=[.int top,.int low,.int bite]) (h1:0≤low) (h2:low < top) (h3:top≤1000) (h4:bite≤1000) (h5:∀ (D:Addr) (ys:List Int) (H':Hp),Same H H'→H D=none→H' D=some (.lst (ys.map V.int))→ys.length≤1001→Q (.ref D) H'):PspLev vs H Q
noncomputable def spLev:Sp:=fun vs H Q Z=>PspLev vs H Q
theorem scLev:FnScope ["top","lowest","bite","step"] ["top","lowest","bite"] (defScope sLev):=⟨rfl,rfl,rfl,by decide +kernel,rfl,by decide +kernel,by decide +kernel⟩
theorem ok_lev (T:LawT mg) (F:Fun K "levels" "levels" sLev f fd'):FnOk P w K mg base (CX1 P w) 1 f fd' ["top","lowest","bite"] spLev:=by
 have nd:=scLev.nd
 refine F.ok1 scLev (fun vs H Q E h=>?_) (fun cdv A outer s H vs Q E hr h=>?_)
 ·refine bC fun g_=>?_
  obtain ⟨top,low,bite,e5_,_⟩:=h
  refine g_ ?_
  clear g_
  obtain rfl:=e5_
  rfl
 refine bC fun g_=>?_
 obtain ⟨top,low,bite,e6_,l0,lt,t1,b1,q⟩:=h
 refine g_ ?_
 clear g_
 obtain rfl:=e6_
 refine ⟨_,(pss_cons (ps_set (i:=3) nd rfl (Or.inl rfl) (pe_callB (call_max2 rfl) rfl T.max bt_max (pa_cons (pv 2) (pa_cons pe_int pa_nil))))
  (pss_one (ps_ret (pe_op op_cat (pe_callTy (call_listD rfl) rfl T.list bt_list (pa_cons (pe_callTy call_range3 rfl T.range bt_range (pa_cons (pe_op op_sub (pv 0) (pv 3)) (pa_cons (pv 1) (pa_cons (pe_un un_neg (pv 3)) pa_nil)))) pa_nil)) (pe_lst (pa_cons (pv 1) pa_nil)))))),?_⟩
 (try dsimp only [L2.cxK])
 refine abs_seq fun dE eE=>?_
 refine ⟨_,_,rfl,?_⟩
 obtain ⟨st,hst,s1,s2⟩:∃ st:Int,(if 1 > bite then 1 else bite)=st∧1≤st∧st≤1000:=⟨_,rfl,by split <;> lia,by split <;> lia⟩
 rw [hst]
 refine nxS1 eE ?_
 refine ⟨_,rfl,_,_,_,rfl,(by lia),(by lia),fun r hr'=>⟨r,_,_,_,rfl,upd_same,(by lia),fun l ys hl yl=>?_⟩⟩
 have u1:=(same_upd hr' (RngO r (top - st) low (-st))).trans (same_upd hl (.lst (ys.map V.int)))
 refine ⟨le1,fun p hp=>?_⟩
 have yl':ys.length≤1000:=by lia
 refine ⟨l,p,_,_,rfl,rfl,same_upd hp _ _ _ upd_same,upd_same,(by rw [List.length_map]; exact Nat.le_of_lt (line3 (show ys.length + 1≤1001 by lia) (by decide))),fun D hD=>?_⟩
 have u2:=u1.trans ((same_upd hp (.lst [V.int low])).trans (same_upd hD (.lst (ys.map V.int++[V.int low]))))
 refine q D (ys++[low]) _ u2 ((u1.trans (same_upd hp _)).free hD) (by rw [upd_same,List.map_append]; rfl) (by rw [List.length_append]; show ys.length + 1≤1001; lia)
end
structure SA where
 sr:Addr
 ct:Addr
 lo:Addr
 du:Addr
noncomputable abbrev srF (B:SA):List (Str×V):=[("cutter",.ref B.ct),("lowests",.ref B.lo),("due",.ref B.du)]
noncomputable abbrev ky (c:Int×Int):List Key:=[Sum.inl c.1,Sum.inl c.2]
noncomputable def LoIn (bed:List (List Int)) (lw:Int×Int→Int) (kvs:List (List Key×V)):Prop:=∀ c,ins bed c=true→valV kvs (ky c)=some (.int (lw c))
noncomputable def DuIn (bed:List (List Int)) (H:Hp) (kvs:List (List Key×V)):Prop:=∀ p∈kvs,∃ (D:Addr) (cs:List (Int×Int)),p.2=.ref D∧FtAt H D cs∧cs.length≤160000∧∀ c∈cs,ins bed c=true
structure ShrIn (CS:Addr) (bed:List (List Int)) (lw:Int×Int→Int) (H:Hp) (B:SA):Prop where
 ob:∃ dx,H B.sr=some (.ins CS dx (srF B))
 lo:∃ kvs,H B.lo=some (.dT kvs)∧LoIn bed lw kvs
 du:∃ kvs,H B.du=some (.dT kvs)∧DuIn bed H kvs
theorem DuIn.same {bed:List (List Int)} {H H':Hp} {kvs:List (List Key×V)} (h:DuIn bed H kvs) (s:Same H H'):DuIn bed H' kvs:=fun p hp=>by
 refine bC fun g_=>?_
 obtain ⟨D,cs,a,b,c⟩:=h p hp
 refine g_ ?_
 clear g_
 exact ⟨D,cs,a,b.same s,c⟩
theorem ShrIn.same {CS:Addr} {bed:List (List Int)} {lw:Int×Int→Int} {H H':Hp} {B:SA} (h:ShrIn CS bed lw H B) (s:Same H H'):ShrIn CS bed lw H' B:=by
 refine bC fun g_=>?_
 obtain ⟨⟨dx,a⟩,⟨k1,b,c⟩,⟨k2,d,e⟩⟩:=h
 refine g_ ?_
 clear g_
 exact ⟨⟨dx,s _ _ a⟩,⟨k1,s _ _ b,c⟩,⟨k2,s _ _ d,e.same s⟩⟩
theorem val_mem {kvs:List (List Key×V)} {k:List Key} {v:V} (h:valV kvs k=some v):∃ p∈kvs,p.2=v:=by
 unfold valV at h
 obtain ⟨p,e,rfl⟩:=Option.map_eq_some_iff.mp h
 exact ⟨p,List.mem_of_find?_eq_some e,rfl⟩
section
variable {f:Addr} {fd':FuncData}
inductive PspIsDue (CS:Addr) (vs:List V) (H:Hp) (Q:VK):Prop
 | mk (B:SA) (p R:Addr) (c:Int×Int) (bed rows:List (List Int)) (lw:Int×Int→Int) (h0:vs=[.ref B.sr,.ref p,.ref R]) (h1:ShrIn CS bed lw H B) (h2:H p=some (.tup (pr c))) (h3:ins bed c=true) (h4:BdAt H R rows) (h5:Alike bed rows) (h6:Rect bed)
   (h7:∀ (b:Bool) (H':Hp),Same H H'→Q (.bl b) H'):PspIsDue CS vs H Q
noncomputable def spIsDue (CS:Addr):Sp:=fun vs H Q Z=>PspIsDue CS vs H Q
theorem scIsDue:FnScope ["self","place","rows"] ["self","place","rows"] (defScope sIsDue):=⟨rfl,rfl,rfl,by decide +kernel,rfl,by decide +kernel,by decide +kernel⟩
theorem ndxy:(["x","y","rows","self","place"]:List Str).Nodup:=by decide +kernel
theorem ok_isDue (VV:VT K mg CV CC) (SH:SHT K CS) (F:Fun K "is_due" "Share.is_due" sIsDue f fd'):FnOk P w K mg base (CX1 P w) 1 f fd' ["self","place","rows"] (spIsDue CS):=by
 have nd:=scIsDue.nd
 refine F.ok1 scIsDue (fun vs H Q E h=>?_) (fun cdv A outer s H vs Q E hr h=>?_)
 ·refine bC fun g_=>?_
  obtain ⟨B,p,R,c,bed,rows,lw,e2_,_⟩:=h
  refine g_ ?_
  clear g_
  obtain rfl:=e2_
  rfl
 refine bC fun g_=>?_
 obtain ⟨B,p,R,c,bed,rows,lw,e3_,SI,hp,ic,hR,al,rect,q⟩:=h
 refine g_ ?_
 clear g_
 obtain rfl:=e3_
 have hu:=hu_of' hr
 refine ⟨_,(pss_one (ps_ret (pe_callB (call_anyB rfl) rfl VV.any bt_any (pa_cons (pe_lc (own:=["x","y"]) (capn:=["rows","self","place"]) (capI:=[2,0,1]) rfl (blkC (defScope sIsDue) rfl rfl (by decide +kernel) rfl (capcs rfl)) (pi_listK (K:=K) rfl (pe_dget2 hu (pe_fld (pv 0) rfl) (pv 1) (pe_lst pa_nil) ⟨rfl,rfl,rfl,rfl⟩)) (fun Z Z Z Z Z Z=>pg_tupK (K:=K) (n:=2) rfl rfl (pgs_cons (pg_name (i:=0) ndxy rfl (Or.inl rfl)) (pgs_cons (pg_name (i:=1) ndxy rfl (Or.inl rfl)) pgs_nil))) (fun Z Z Z Z Z Z=>pifs_nil) (fun Z Z Z Z Z Z=>(pe_cmpR op_gt (pe_ix (ix_listK (K:=K) rfl) (pe_ix (ix_listK (K:=K) rfl) (pv 2) (pv 1) (fun Z Z=>rfl)) (pv 0) (fun Z Z=>rfl)) (pe_dget hu (pe_fldK (K:=K) rfl (pv 3) rfl) (pv 4) (fun Z Z=>rfl)) (nomark _)))) pa_nil)))),?_⟩
 (try dsimp only [L2.cxK])
 refine bC fun g_=>?_
 obtain ⟨⟨dx,ho⟩,⟨k1,hlo,li⟩,⟨k2,hdu,di⟩⟩:=id SI
 refine g_ ?_
 clear g_
 refine ⟨B.sr,CS,dx,_,_,rfl,ho,SH.clS,SH.nDue,rfl,B.du,rfl,.inr ⟨k2,.inl hdu⟩,Nat.zero_le _,fun em hem=>?_⟩
 have u:=same_upd hem (.lst [])
 obtain ⟨L,cs,eL,⟨ts,hL,mv⟩,cl,hin⟩:∃ (L:Addr) (cs:List (Int×Int)),(valV k2 (ky c)).getD (.ref em)=.ref L∧FtAt (upd H em (.lst [])) L cs∧cs.length≤160000∧∀ d∈cs,ins bed d=true:=by
  cases hv:valV k2 (ky c) with
  | none=>exact ⟨em,[],rfl,⟨[],upd_same,True.intro⟩,Nat.zero_le _,fun d hd=>(List.not_mem_nil hd).elim⟩
  | some v =>
   refine bC fun g_=>?_
   obtain ⟨pp,hpp,e4_⟩:=val_mem hv
   obtain ⟨D,cs,a1,a2,a3⟩:=di pp hpp
   refine g_ ?_
   clear g_
   obtain rfl:=e4_
   exact ⟨D,cs,a1,a2.same u,a3⟩
 refine ⟨_,DGet.t (k:=ky c) (u _ _ hdu) (u _ _ hp),?_⟩
 rw [eL]
 have tl:ts.length=cs.length:=by rw [mv.len,List.length_map]
 refine ⟨L,rfl,⟨_,SqL.of hL⟩,fun D hD=>?_⟩
 generalize upd H em (.lst [])=H1 at u hL mv hD
 refine ⟨Wd ts.length (fun i σ acc H2=>Ex3 fun (z y:Option V) (bs:List Bool)=>σ=[z,y,some (.ref R),some (.ref B.sr),some (.ref p)]∧acc=bs.map V.bl∧bs.length=i∧Same H1 H2∧H2 D=some (.lst acc)),wd_0 ⟨none,none,[],rfl,rfl,rfl,same_upd hD _,upd_same⟩,?_⟩
 rintro i mm σ acc H2 h_
 refine bC fun g_=>?_
 obtain ⟨e5_,hi0,z,y,bs,e6_,e7_,bl,s2,hD2⟩:=h_
 refine g_ ?_
 clear g_
 obtain rfl:=e5_
 obtain rfl:=e6_
 obtain rfl:=e7_
 refine lc_ask (K:=K) (xs:=ts.map V.ref) (SqL.of (s2 _ _ hL)) (by rw [List.length_map]; exact hi0) (fun x hx hi=>?_) (fun hend=>?_)
 ·obtain ⟨t,ht,rfl⟩:=ref_get hx
  rw [List.length_map] at hi
  have hic:i < cs.length:=by lia
  have ec:=List.getElem?_eq_getElem hic
  have gt:H2 t=some (.tup (pr cs[i])):=s2 _ _ (mv.at_ ht (by rw [List.getElem?_map,ec]; rfl))
  have hcm:=hin _ (List.getElem_mem hic)
  generalize cs[i]=c1 at ec gt hcm
  have s3:=u.trans s2
  rw [al.ins] at hcm
  refine bC fun g_=>?_
  obtain ⟨i1,j1,row,v,e1,hrow,hv,hh⟩:=ins_at hcm (al.rect rect)
  obtain ⟨rs,hR1,ra⟩:=hR.same s3
  obtain ⟨r,hr',hrl⟩:=ra.at_ hrow
  refine g_ ?_
  clear g_
  have t1:c1.1=(j1:Int):=by rw [e1]
  have t2:c1.2=(i1:Int):=by rw [e1]
  have g:=DGet.t (k:=ky c) (s3 _ _ hlo) (s3 _ _ hp)
  rw [li c ic] at g
  refine ⟨t,_,rfl,SqT.of gt,rfl,_,_,rfl,_,_,rfl,rfl,R,_,c1.2,.ref r,rfl,rfl,SqL.of hR1,by rw [t2]; exact atI_nat (by rw [List.getElem?_map,hr']; rfl),r,_,c1.1,.int v,rfl,rfl,SqL.of hrl,by rw [t1]; exact atI_nat (by rw [List.getElem?_map,hv]; rfl),B.sr,CS,dx,_,_,rfl,s3 _ _ ho,SH.clS,SH.nLowests,rfl,B.lo,.int (lw c),rfl,g,hD2,?_,wd_next hi ⟨_,_,bs++[_],rfl,by rw [List.map_append]; rfl,by rw [List.length_append,bl]; rfl,same_in s2 hD,upd_same⟩⟩
  rw [List.length_map,bl]
  exact big16 (show i≤160000 by lia)
 ·exact ⟨D,bs,rfl,SqL.of hD2,q _ _ (u.trans s2)⟩
end
structure RunOk (bed:List (List Int)) (y a b:Int):Prop where
 y0:0≤y
 y1:y < bed.length
 a0:0≤a
 b1:b < (bed.headD []).length
 w40:(bed.headD []).length≤40
 ab:a≤b + 1
theorem RunOk.ins {bed:List (List Int)} {y a b x:Int} (h:RunOk bed y a b) (h1:a≤x) (h2:x≤b):Car.ins bed (x,y)=true:=decide_eq_true ⟨h.y0,h.y1,Int.le_trans h.a0 h1,Int.lt_of_le_of_lt h2 h.b1⟩
noncomputable def asc:Int→List Int→Int→Prop
 | w,[],hi=>w < hi
 | w,o :: r,hi=>w < o∧asc o r hi
theorem asc_on:∀ {l:List Int} {w x:Int},asc w l x→asc w l (x + 1)
 | [],_,_,h=>Int.lt_trans h (Int.lt_succ _)
 | _ :: _,_,_,h=>⟨h.1,asc_on h.2⟩
theorem asc_snoc:∀ {l:List Int} {w x:Int},asc w l x→asc w (l++[x]) (x + 1)
 | [],_,_,h=>⟨h,Int.lt_succ _⟩
 | _ :: _,_,_,h=>⟨h.1,asc_snoc h.2⟩
theorem asc_lt:∀ {l:List Int} {w hi:Int},asc w l hi→w < hi∧∀ x∈l,w < x∧x < hi
 | [],_,_,h=>⟨h,fun x hx=>(List.not_mem_nil hx).elim⟩
 | o :: r,w,hi,h=>by
  obtain ⟨h1,h2⟩:=asc_lt h.2
  refine ⟨Int.lt_trans h.1 h1,fun x hx=>?_⟩
  rcases List.mem_cons.mp hx with rfl | hx
  ·exact ⟨h.1,h1⟩
  ·exact ⟨Int.lt_trans h.1 (h2 x hx).1,(h2 x hx).2⟩
section
variable {f:Addr} {fd':FuncData}
inductive PspTrim (CS:Addr) (vs:List V) (H:Hp) (Q:VK):Prop
 | mk (B:SA) (rn R:Addr) (y a b:Int) (bed rows:List (List Int)) (lw:Int×Int→Int) (h0:vs=[.ref B.sr,.ref rn,.int y,.ref R]) (h1:ShrIn CS bed lw H B) (h2:H rn=some (.tup (pr (a,b)))) (h3:RunOk bed y a b) (h4:BdAt H R rows) (h5:Alike bed rows) (h6:Rect bed)
   (h7:∀ H',Same H H'→Q .non H') (h8:∀ (p:Addr) (a' b':Int) (H':Hp),Same H H'→H' p=some (.tup (pr (a',b')))→a≤a'→a'≤b'→b'≤b→Q (.ref p) H'):PspTrim CS vs H Q
noncomputable def spTrim (CS:Addr):Sp:=fun vs H Q Z=>PspTrim CS vs H Q
theorem scTrim:FnScope ["self","run","y","rows","xs"] ["self","run","y","rows"] (defScope sTrim):=⟨rfl,rfl,rfl,by decide +kernel,rfl,by decide +kernel,by decide +kernel⟩
theorem ndxsyr:(["x","self","y","rows"]:List Str).Nodup:=by decide +kernel
theorem ok_trim (T:LawT mg) (MD:Mt P w K mg base CS "is_due" 1 ["self","place","rows"] (spIsDue CS)) (F:Fun K "trimmed" "Share.trimmed" sTrim f fd'):FnOk P w K mg base (CX1 P w) 2 f fd' ["self","run","y","rows"] (spTrim CS):=by
 have nd:=scTrim.nd
 refine F.ok1 scTrim (fun vs H Q E h=>?_) (fun cdv A outer s H vs Q E hr h=>?_)
 ·refine bC fun g_=>?_
  obtain ⟨B,rn,R,y,a,b,bed,rows,lw,e1_,_⟩:=h
  refine g_ ?_
  clear g_
  obtain rfl:=e1_
  rfl
 refine bC fun g_=>?_
 obtain ⟨B,rn,R,y,a,b,bed,rows,lw,e2_,SI,hrn,ro,hR,al,rect,q1,q2⟩:=h
 refine g_ ?_
 clear g_
 obtain rfl:=e2_
 refine ⟨_,(pss_cons (ps_setC (i:=4) (own:=["x"]) (capn:=["self","y","rows"]) (capI:=[0,2,3]) nd rfl (Or.inl rfl) rfl rfl (blkC (defScope sTrim) rfl rfl (by decide +kernel) rfl (capcs rfl)) (pi_range2 rfl T.range (pa_cons (pe_ix (ix_tupK (K:=K) rfl) (pv 1) pe_int (fun Z Z=>rfl)) (pa_cons (pe_op op_add (pe_ix (ix_tupK (K:=K) rfl) (pv 1) pe_int (fun Z Z=>rfl)) pe_int) pa_nil))) (fun Z Z Z Z Z Z=>pg_name (i:=0) ndxsyr rfl (Or.inl rfl)) (fun Z Z Z Z Z Z=>(pifs_one (pt_truthK (K:=K) rfl (pf_meth MD (pv 1) hr passN (pa_cons (pe_tup (pa_cons (pv 0) (pa_cons (pv 2) pa_nil))) (pa_cons (pv 3) pa_nil))) (fun Z=>rfl)))) (fun Z Z Z Z Z Z=>(pv 0)))
  (pss_one (ps_ret (pe_ifExp (pt_truth (pv 4) (fun Z=>rfl)) (pe_tup (pa_cons (pe_ix (ix_listK (K:=K) rfl) (pv 4) pe_int (fun Z Z=>rfl)) (pa_cons (pe_ix (ix_listK (K:=K) rfl) (pv 4) (pe_un un_neg pe_int) (fun Z Z=>rfl)) pa_nil))) pe_non)))),?_⟩
 (try dsimp only [L2.cxK])
 refine abs_seq fun dE eE=>?_
 have wl:=ro.w40
 have b1:=ro.b1
 have a0:=ro.a0
 have ab:=ro.ab
 refine ⟨rn,_,0,.int a,rfl,rfl,SqT.of hrn,rfl,rn,_,1,.int b,rfl,rfl,SqT.of hrn,rfl,_,_,rfl,(by lia),fun D hD=>?_⟩
 refine ⟨Wd (b + 1 - a).toNat (fun i σ acc H2=>Ex2 fun (z:Option V) (xs:List Int)=>σ=[z,some (.ref B.sr),some (.int y),some (.ref R)]∧acc=xs.map V.int∧xs.length≤i∧asc (a - 1) xs (a + i)∧Same H H2∧H2 D=some (.lst acc)),wd_0 ⟨none,[],rfl,rfl,Nat.le_refl _,(by show a - 1 < a + ((0:Nat):Int); lia),same_upd hD _,upd_same⟩,?_⟩
 rintro i mm σ acc H2 h_
 refine bC fun g_=>?_
 obtain ⟨e3_,hi0,z,xs,e4_,e5_,xl,as,s2,hD2⟩:=h_
 refine g_ ?_
 clear g_
 obtain rfl:=e3_
 obtain rfl:=e4_
 obtain rfl:=e5_
 refine rg_ask hi0 (fun hi=>?_) (fun hend=>?_)
 ·obtain ⟨dx,ho⟩:=SI.ob
  refine ⟨B.sr,dx,_,rfl,s2 _ _ ho,rfl,le2,fun p hp=>?_⟩
  have u:=same_upd hp (.tup [V.int (a + i),.int y])
  have s3:=s2.trans u
  refine ⟨B,p,R,(a + i,y),bed,rows,lw,rfl,SI.same s3,upd_same,ro.ins (by lia) (by lia),hR.same s3,al,rect,fun bb H4 s4=>⟨bb,rfl,?_⟩⟩
  refine ite2 (fun Z=>?_) (fun Z=>?_)
  ·refine ⟨s4 _ _ (u _ _ hD2),?_,wd_next hi ⟨_,xs++[a + i],rfl,by rw [List.map_append]; rfl,by rw [List.length_append]; exact Nat.succ_le_succ xl,?_,same_in (s3.trans s4) hD,upd_same⟩⟩
   ·rw [List.length_map]
    exact line3 (show xs.length≤1000 by lia) (by decide)
   ·have e:a + ((i + 1:Nat):Int)=a + i + 1:=by lia
    rw [e]
    exact asc_snoc as
  ·refine wd_next hi ⟨_,xs,rfl,rfl,by lia,?_,s3.trans s4,s4 _ _ (u _ _ hD2)⟩
   have e:a + ((i + 1:Nat):Int)=a + i + 1:=by lia
   rw [e]
   exact asc_on as
 ·refine nxS1 eE ?_
  refine ?_
  have hi2:=asc_lt as
  have e1:a + ((i:Nat):Int)=b + 1:=by lia
  rw [e1] at hi2
  cases xs with
  | nil=>exact ⟨false,.inl ⟨_,SqL.of hD2,rfl⟩,q1 _ s2⟩
  | cons h r =>
   obtain ⟨pre,l,el⟩:∃ pre l,h :: r=pre++[l]:=⟨_,_,(List.dropLast_concat_getLast (List.cons_ne_nil h r)).symm⟩
   have hl:l∈h :: r:=by rw [el]; exact List.mem_append_right _ (List.mem_singleton.mpr rfl)
   have b1':=(hi2.2 l hl).2
   have h1:=(hi2.2 h List.mem_cons_self).1
   have hhl:h≤l:=by
    rcases List.mem_cons.mp hl with e | hl'
    ·rw [e]
     exact Int.le_refl _
    ·exact Int.le_of_lt ((asc_lt as.2).2 l hl').1
   refine ⟨true,.inl ⟨_,SqL.of hD2,rfl⟩,?_⟩
   refine ⟨D,_,0,.int h,rfl,rfl,SqL.of hD2,atI_nat (j:=0) rfl,_,rfl,D,_,-1,.int l,rfl,rfl,SqL.of hD2,?_,le2,fun p hp=>?_⟩
   ·rw [el,List.map_append]
    exact atI_last _ _
   ·exact q2 p h l _ (s2.trans (same_upd hp _)) upd_same (by lia) hhl (by lia)
end
theorem mxF_mem:∀ (r:List Int) (a:Int),mxF a r∈a :: r
 | [],a=>List.mem_singleton.mpr rfl
 | b :: r,a=>by
  show mxF (if b > a then b else a) r∈_
  have:=mxF_mem r (if b > a then b else a)
  rcases List.mem_cons.mp this with h | h
  ·rw [h]
   split
   ·exact List.mem_cons_of_mem _ List.mem_cons_self
   ·exact List.mem_cons_self
  ·exact List.mem_cons_of_mem _ (List.mem_cons_of_mem _ h)
noncomputable def rlen (p:Int×Int):Nat:=(p.2 + 1 - p.1).toNat
noncomputable def rlens:List (Int×Int)→Nat
 | []=>0
 | p :: r=>rlen p + rlens r
noncomputable def partsF:Int→List Int→Int→List (Int×Int)
 | w,[],hi=>[(w + 1,hi - 1)]
 | w,o :: r,hi=>(w + 1,o - 1) :: partsF o r hi
theorem parts_len:∀ (l:List Int) (w hi:Int),(partsF w l hi).length=l.length + 1
 | [],_,_=>rfl
 | _ :: r,_,hi=>congrArg (· + 1) (parts_len r _ hi)
theorem parts_sum:∀ {l:List Int} {w hi:Int},asc w l hi→(rlens (partsF w l hi):Int)=hi - w - 1 - l.length
 | [],w,hi,h=>by
  have h':w < hi:=h
  show ((rlen (w + 1,hi - 1) + 0:Nat):Int)=hi - w - 1 - ((0:Nat):Int)
  unfold rlen
  dsimp only
  lia
 | o :: r,w,hi,h=>by
  have ih:=parts_sum h.2
  have h1:=h.1
  show ((rlen (w + 1,o - 1) + rlens (partsF o r hi):Nat):Int)=hi - w - 1 - ((r.length + 1:Nat):Int)
  unfold rlen
  dsimp only
  lia
theorem parts_in:∀ {l:List Int} {w hi:Int},asc w l hi→∀ p∈partsF w l hi,w + 1≤p.1∧p.2≤hi - 1∧p.1≤p.2 + 1
 | [],w,hi,h,p,hp=>by
  have h':w < hi:=h
  rw [List.mem_singleton.mp hp]
  dsimp only
  lia
 | o :: r,w,hi,h,p,hp=>by
  have h1:=h.1
  have h2:=(asc_lt h.2).1
  rcases List.mem_cons.mp hp with rfl | hp
  ·dsimp only
   lia
  ·have:=parts_in h.2 p hp
   lia
theorem parts_zip:∀ (l:List Int) (w hi:Int),List.zipWith (fun a b=>(a + 1,b - 1)) (w :: l) (l++[hi])=partsF w l hi
 | [],_,_=>rfl
 | o :: r,w,hi=>congrArg ((w + 1,o - 1) :: ·) (parts_zip r o hi)
section
variable {f:Addr} {fd':FuncData}
inductive PspAlong (CS:Addr) (vs:List V) (H:Hp) (Q:VK):Prop
 | mk (B:SA) (rn:Addr) (y a b:Int) (bed:List (List Int)) (lw:Int×Int→Int) (h0:vs=[.ref B.sr,.ref rn,.int y]) (h1:ShrIn CS bed lw H B) (h2:H rn=some (.tup (pr (a,b)))) (h3:RunOk bed y a b) (h4:a≤b)
   (h7:∀ (x:Int) (H':Hp),Same H H'→a≤x→x≤b→Q (.int (lw (x,y))) H'):PspAlong CS vs H Q
noncomputable def spAlong (CS:Addr):Sp:=fun vs H Q Z=>PspAlong CS vs H Q
theorem scAlong:FnScope ["self","run","y"] ["self","run","y"] (defScope sAlong):=⟨rfl,rfl,rfl,by decide +kernel,rfl,by decide +kernel,by decide +kernel⟩
theorem ndxsy:(["x","self","y"]:List Str).Nodup:=by decide +kernel
theorem ok_along (T:LawT mg) (SH:SHT K CS) (F:Fun K "lowest_along" "Share.lowest_along" sAlong f fd'):FnOk P w K mg base (CX1 P w) 1 f fd' ["self","run","y"] (spAlong CS):=by
 have nd:=scAlong.nd
 refine F.ok1 scAlong (fun vs H Q E h=>?_) (fun cdv A outer s H vs Q E hr h=>?_)
 ·refine bC fun g_=>?_
  obtain ⟨B,rn,y,a,b,bed,lw,e1_,_⟩:=h
  refine g_ ?_
  clear g_
  obtain rfl:=e1_
  rfl
 refine bC fun g_=>?_
 obtain ⟨B,rn,y,a,b,bed,lw,e2_,SI,hrn,ro,hab,q⟩:=h
 refine g_ ?_
 clear g_
 obtain rfl:=e2_
 have hu:=hu_of' hr
 refine ⟨_,(pss_one (ps_ret (pe_callB (call_maxL rfl) rfl T.max bt_max (pa_cons (pe_lc (own:=["x"]) (capn:=["self","y"]) (capI:=[0,2]) rfl (blkC (defScope sAlong) rfl rfl (by decide +kernel) rfl (capcs rfl)) (pi_range2 rfl T.range (pa_cons (pe_ix (ix_tupK (K:=K) rfl) (pv 1) pe_int (fun Z Z=>rfl)) (pa_cons (pe_op op_add (pe_ix (ix_tupK (K:=K) rfl) (pv 1) pe_int (fun Z Z=>rfl)) pe_int) pa_nil))) (fun Z Z Z Z Z Z=>pg_name (i:=0) ndxsy rfl (Or.inl rfl)) (fun Z Z Z Z Z Z=>pifs_nil) (fun Z Z Z Z Z Z=>(pe_dget hu (pe_fldK (K:=K) rfl (pv 1) rfl) (pe_tup (pa_cons (pv 0) (pa_cons (pv 2) pa_nil))) (fun Z Z=>rfl)))) pa_nil)))),?_⟩
 (try dsimp only [L2.cxK])
 have wl:=ro.w40
 have b1:=ro.b1
 have a0:=ro.a0
 refine bC fun g_=>?_
 obtain ⟨⟨dx,ho⟩,⟨k1,hlo,li⟩,_⟩:=id SI
 refine g_ ?_
 clear g_
 refine ⟨rn,_,0,.int a,rfl,rfl,SqT.of hrn,rfl,rn,_,1,.int b,rfl,rfl,SqT.of hrn,rfl,_,_,rfl,(by lia),fun D hD=>?_⟩
 refine ⟨Wd (b + 1 - a).toNat (fun i σ acc H2=>Ex2 fun (z:Option V) (ns:List Int)=>σ=[z,some (.ref B.sr),some (.int y)]∧acc=ns.map V.int∧ns.length=i∧(∀ n∈ns,∃ x,a≤x∧x≤b∧n=lw (x,y))∧Same H H2∧H2 D=some (.lst acc)),wd_0 ⟨none,[],rfl,rfl,rfl,(fun n hn=>(List.not_mem_nil hn).elim),same_upd hD _,upd_same⟩,?_⟩
 rintro i mm σ acc H2 h_
 refine bC fun g_=>?_
 obtain ⟨e3_,hi0,z,ns,e4_,e5_,nl,ne,s2,hD2⟩:=h_
 refine g_ ?_
 clear g_
 obtain rfl:=e3_
 obtain rfl:=e4_
 obtain rfl:=e5_
 refine rg_ask hi0 (fun hi=>?_) (fun hend=>?_)
 ·refine ⟨B.sr,CS,dx,_,_,rfl,s2 _ _ ho,SH.clS,SH.nLowests,rfl,le2,fun p hp=>?_⟩
  have u:=same_upd hp (.tup [V.int (a + i),.int y])
  have g:=DGet.t (k:=ky (a + i,y)) (u _ _ (s2 _ _ hlo)) (b:=p) upd_same
  rw [li _ (ro.ins (x:=a + i) (by lia) (by lia))] at g
  refine ⟨B.lo,_,rfl,g,u _ _ hD2,?_,wd_next hi ⟨_,ns++[lw (a + i,y)],rfl,by rw [List.map_append]; rfl,by rw [List.length_append,nl]; rfl,fun n hn=>?_,same_in (s2.trans u) hD,upd_same⟩⟩
  ·rw [List.length_map,nl]
   exact line3 (show i≤1000 by lia) (by decide)
  ·rcases List.mem_append.mp hn with hn | hn
   ·exact ne n hn
   ·exact ⟨a + i,by lia,by lia,List.mem_singleton.mp hn⟩
 ·cases ns with
  | nil =>
   have nl':0=i:=nl
   lia
  | cons n r =>
   refine bC fun g_=>?_
   obtain ⟨x,x1,x2,e⟩:=ne _ (mxF_mem r n)
   refine g_ ?_
   clear g_
   refine ⟨D,n,r,rfl,SqL.of hD2,?_⟩
   rw [e]
   exact q x _ s2 x1 x2
end
section
variable {f:Addr} {fd':FuncData}
inductive PspParts (CS:Addr) (vs:List V) (H:Hp) (Q:VK):Prop
 | mk (B:SA) (rn:Addr) (y a b x0:Int) (bed:List (List Int)) (lw:Int×Int→Int) (h0:vs=[.ref B.sr,.ref rn,.int y,.int (lw (x0,y))]) (h1:ShrIn CS bed lw H B) (h2:H rn=some (.tup (pr (a,b)))) (h3:RunOk bed y a b) (h4:a≤x0) (h5:x0≤b)
   (h7:∀ (D:Addr) (ps:List (Int×Int)) (H':Hp),Same H H'→H D=none→FtAt H' D ps→(∀ p∈ps,a≤p.1∧p.2≤b∧p.1≤p.2 + 1)→rlens ps + 1≤rlen (a,b)→ps.length + 2 * rlens ps≤2 * rlen (a,b)→Q (.ref D) H'):PspParts CS vs H Q
noncomputable def spParts (CS:Addr):Sp:=fun vs H Q Z=>PspParts CS vs H Q
theorem scParts:FnScope ["self","run","y","lowest","walls"] ["self","run","y","lowest"] (defScope sParts):=⟨rfl,rfl,rfl,by decide +kernel,rfl,by decide +kernel,by decide +kernel⟩
theorem ndxsyl:(["x","self","y","lowest"]:List Str).Nodup:=by decide +kernel
theorem ndwo:(["wall","other"]:List Str).Nodup:=by decide +kernel
theorem zip_get {α β γ:Type} {g:α→β→γ} {xs:List α} {ys:List β} {i:Nat} {x:α} {y:β} (h1:xs[i]?=some x) (h2:ys[i]?=some y):(List.zipWith g xs ys)[i]?=some (g x y):=by rw [List.getElem?_zipWith,h1,h2]
theorem ok_parts (T:LawT mg) (NZ:mg "zip"=none) (SH:SHT K CS) (F:Fun K "parts_below" "Share.parts_below" sParts f fd'):FnOk P w K mg base (CX1 P w) 1 f fd' ["self","run","y","lowest"] (spParts CS):=by
 have nd:=scParts.nd
 refine F.ok1 scParts (fun vs H Q E h=>?_) (fun cdv A outer s H vs Q E hr h=>?_)
 ·refine bC fun g_=>?_
  obtain ⟨B,rn,y,a,b,x0,bed,lw,e1_,_⟩:=h
  refine g_ ?_
  clear g_
  obtain rfl:=e1_
  rfl
 refine bC fun g_=>?_
 obtain ⟨B,rn,y,a,b,x0,bed,lw,e2_,SI,hrn,ro,xa,xb,q⟩:=h
 refine g_ ?_
 clear g_
 obtain rfl:=e2_
 have hu:=hu_of' hr
 refine ⟨_,(pss_cons (ps_setC (i:=4) (own:=["x"]) (capn:=["self","y","lowest"]) (capI:=[0,2,3]) nd rfl (Or.inl rfl) rfl rfl (blkC (defScope sParts) rfl rfl (by decide +kernel) rfl (capcs rfl)) (pi_range2 rfl T.range (pa_cons (pe_ix (ix_tupK (K:=K) rfl) (pv 1) pe_int (fun Z Z=>rfl)) (pa_cons (pe_op op_add (pe_ix (ix_tupK (K:=K) rfl) (pv 1) pe_int (fun Z Z=>rfl)) pe_int) pa_nil))) (fun Z Z Z Z Z Z=>pg_name (i:=0) ndxsyl rfl (Or.inl rfl)) (fun Z Z Z Z Z Z=>(pifs_one (pt_cmpR op_eq (pe_dget hu (pe_fldK (K:=K) rfl (pv 1) rfl) (pe_tup (pa_cons (pv 0) (pa_cons (pv 2) pa_nil))) (fun Z Z=>rfl)) (pv 3) (nomark _)))) (fun Z Z Z Z Z Z=>(pv 0)))
  (pss_one (ps_ret (pe_lc (own:=["wall","other"]) (capn:=[]) (capI:=[]) rfl (blk0 rfl (by decide +kernel)) (pi_zip rfl NZ (pa_cons (pe_op op_cat (pe_lst (pa_cons (pe_op op_sub (pe_ix (ix_tupK (K:=K) rfl) (pv 1) pe_int (fun Z Z=>rfl)) pe_int) pa_nil)) (pv 4)) (pa_cons (pe_op op_cat (pv 4) (pe_lst (pa_cons (pe_op op_add (pe_ix (ix_tupK (K:=K) rfl) (pv 1) pe_int (fun Z Z=>rfl)) pe_int) pa_nil))) pa_nil))) (fun Z Z Z Z Z Z=>pg_tupK (K:=K) (n:=2) rfl rfl (pgs_cons (pg_name (i:=0) ndwo rfl (Or.inl rfl)) (pgs_cons (pg_name (i:=1) ndwo rfl (Or.inl rfl)) pgs_nil))) (fun Z Z Z Z Z Z=>pifs_nil) (fun Z Z Z Z Z Z=>(pe_tup (pa_cons (pe_op op_add (pv 0) pe_int) (pa_cons (pe_op op_sub (pv 1) pe_int) pa_nil)))))))),?_⟩
 (try dsimp only [L2.cxK])
 refine abs_seq fun dE eE=>?_
 have wl:=ro.w40
 have b1:=ro.b1
 have a0:=ro.a0
 refine bC fun g_=>?_
 obtain ⟨⟨dx,ho⟩,⟨k1,hlo,li⟩,_⟩:=id SI
 refine g_ ?_
 clear g_
 refine ⟨rn,_,0,.int a,rfl,rfl,SqT.of hrn,rfl,rn,_,1,.int b,rfl,rfl,SqT.of hrn,rfl,_,_,rfl,(by lia),fun D hD=>?_⟩
 refine ⟨Wd (b + 1 - a).toNat (fun i σ acc H2=>Ex2 fun (z:Option V) (ns:List Int)=>σ=[z,some (.ref B.sr),some (.int y),some (.int (lw (x0,y)))]∧acc=ns.map V.int∧ns.length≤i∧asc (a - 1) ns (a + i)∧(x0 < a + i→ns≠[])∧Same H H2∧H2 D=some (.lst acc)),wd_0 ⟨none,[],rfl,rfl,Nat.le_refl _,(by show a - 1 < a + ((0:Nat):Int); lia),(by intro h; lia),same_upd hD _,upd_same⟩,?_⟩
 rintro i mm σ acc H2 h_
 refine bC fun g_=>?_
 obtain ⟨e3_,hi0,z,ns,e4_,e5_,nl,as,ne,s2,hD2⟩:=h_
 refine g_ ?_
 clear g_
 obtain rfl:=e3_
 obtain rfl:=e4_
 obtain rfl:=e5_
 refine rg_ask hi0 (fun hi=>?_) (fun hend=>?_)
 ·refine ⟨B.sr,CS,dx,_,_,rfl,s2 _ _ ho,SH.clS,SH.nLowests,rfl,le2,fun p hp=>?_⟩
  have u:=same_upd hp (.tup [V.int (a + i),.int y])
  have g:=DGet.t (k:=ky (a + i,y)) (u _ _ (s2 _ _ hlo)) (b:=p) upd_same
  rw [li _ (ro.ins (x:=a + i) (by lia) (by lia))] at g
  have e:a + ((i + 1:Nat):Int)=a + i + 1:=by lia
  refine ⟨B.lo,_,rfl,g,rfl,?_⟩
  refine ite2 (fun Z=>?_) (fun h1=>?_)
  ·refine ⟨u _ _ hD2,?_,wd_next hi ⟨_,ns++[a + i],rfl,by rw [List.map_append]; rfl,by rw [List.length_append]; exact Nat.succ_le_succ nl,by rw [e]; exact asc_snoc as,(fun Z z=>by cases ns <;> cases z),same_in (s2.trans u) hD,upd_same⟩⟩
   rw [List.length_map]
   exact line3 (show ns.length≤1000 by lia) (by decide)
  ·refine wd_next hi ⟨_,ns,rfl,rfl,by lia,by rw [e]; exact asc_on as,fun h=>?_,s2.trans u,u _ _ hD2⟩
   have hx:x0≠a + i:=fun z=>h1 (decide_eq_true (by rw [z]))
   exact ne (by lia)
 ·have e1:a + ((i:Nat):Int)=b + 1:=by lia
  rw [e1] at as ne
  have ne':=ne (by lia)
  have nl40:ns.length≤40:=by lia
  have k1:1≤ns.length:=by
   cases ns with
   | nil=>exact absurd rfl ne'
   | cons _ _=>exact Nat.succ_le_succ (Nat.zero_le _)
  refine nxS1 eE ?_
  refine ⟨rn,_,0,.int a,rfl,rfl,SqT.of (s2 _ _ hrn),rfl,le1,fun p1 hp1=>?_⟩
  have u1:=same_upd hp1 (.lst [V.int (a - 1)])
  refine ⟨p1,D,_,_,rfl,rfl,upd_same,u1 _ _ hD2,(by rw [List.length_map]; exact Nat.le_of_lt (line3 (show 1 + ns.length≤1000 by lia) (by decide))),fun c1 hc1=>?_⟩
  have u2:=u1.trans (same_upd hc1 (.lst ([V.int (a - 1)]++ns.map V.int)))
  have hc1':upd (upd H2 p1 (.lst [V.int (a - 1)])) c1 (.lst ([V.int (a - 1)]++ns.map V.int)) c1=some (.lst (((a - 1) :: ns).map V.int)):=upd_same
  generalize upd (upd H2 p1 (.lst [V.int (a - 1)])) c1 (.lst ([V.int (a - 1)]++ns.map V.int))=H3 at u2 hc1'
  refine ⟨rn,_,1,.int b,rfl,rfl,SqT.of (u2 _ _ (s2 _ _ hrn)),rfl,le1,fun p2 hp2=>?_⟩
  have u3:=same_upd hp2 (.lst [V.int (b + 1)])
  refine ⟨D,p2,_,_,rfl,rfl,u3 _ _ (u2 _ _ hD2),upd_same,(by rw [List.length_map]; exact Nat.le_of_lt (line3 (show ns.length + 1≤1000 by lia) (by decide))),fun c2 hc2=>?_⟩
  have u4:=u3.trans (same_upd hc2 (.lst (ns.map V.int++[V.int (b + 1)])))
  have hc2':upd (upd H3 p2 (.lst [V.int (b + 1)])) c2 (.lst (ns.map V.int++[V.int (b + 1)])) c2=some (.lst ((ns++[b + 1]).map V.int)):=by rw [upd_same,List.map_append]; rfl
  have hc1'':=u4 _ _ hc1'
  have s4:=s2.trans (u2.trans u4)
  generalize upd (upd H3 p2 (.lst [V.int (b + 1)])) c2 (.lst (ns.map V.int++[V.int (b + 1)]))=H4 at hc2' hc1'' s4
  clear u1 u2 u3 u4 hc1' hD2 s2 hp1 hc1 hp2 hc2
  refine ⟨c1,c2,_,_,rfl,SqL.of hc1'',SqL.of hc2',fun D3 hD3=>?_⟩
  have ml:(((ns++[b + 1]).map V.int).length)=(((a - 1) :: ns).map V.int).length:=by rw [List.length_map,List.length_map,List.length_append]; rfl
  have kl:(((a - 1) :: ns).map V.int).length=ns.length + 1:=by rw [List.length_map]; rfl
  refine ⟨Wd (((a - 1) :: ns).map V.int).length (fun i σ acc H5=>Ex3 fun (z y:Option V) (ts:List Addr)=>σ=[z,y]∧acc=ts.map V.ref∧ts.length=i∧MvAt H5 ts (((partsF (a - 1) ns (b + 1)).take i).map pr)∧Same H4 H5∧H5 D3=some (.lst acc)),wd_0 ⟨none,none,[],rfl,rfl,rfl,by rw [List.take_zero]; exact True.intro,same_upd hD3 _,upd_same⟩,?_⟩
  rintro j mm σ acc H5 h_
  refine bC fun g_=>?_
  obtain ⟨e6_,hj0,z,y',ts,e7_,e8_,tl,mv,s5,hD5⟩:=h_
  refine g_ ?_
  clear g_
  obtain rfl:=e6_
  obtain rfl:=e7_
  obtain rfl:=e8_
  refine zp_ask (K:=K) (SqL.of (s5 _ _ hc1'')) (SqL.of (s5 _ _ hc2')) ml hj0 (fun x y hx hy hj tp htp=>?_) (fun hend=>?_)
  ·rw [List.getElem?_map] at hx hy
   refine bC fun g_=>?_
   obtain ⟨w0,ex,e9_⟩:=Option.map_eq_some_iff.mp hx
   obtain ⟨o0,ey,e10_⟩:=Option.map_eq_some_iff.mp hy
   refine g_ ?_
   clear g_
   obtain rfl:=e9_
   obtain rfl:=e10_
   have u5:=same_upd htp (.tup [V.int w0,.int o0])
   refine ⟨tp,_,rfl,SqT.of upd_same,rfl,_,_,rfl,_,_,rfl,rfl,le2,fun t ht=>?_⟩
   have u6:=u5.trans (same_upd ht (.tup [V.int (w0 + 1),.int (o0 - 1)]))
   refine ⟨u6 _ _ hD5,?_,wd_next hj ⟨_,_,ts++[t],rfl,by rw [List.map_append]; rfl,by rw [List.length_append,tl]; rfl,?_,same_in (s5.trans u6) hD3,upd_same⟩⟩
   ·rw [List.length_map,tl]
    exact line3 (show j≤1000 by lia) (by decide)
   ·have e5:(partsF (a - 1) ns (b + 1))[j]?=some (w0 + 1,o0 - 1):=by
     rw [← parts_zip]
     exact zip_get ex ey
    rw [take_snoc e5,List.map_append]
    exact ((mv.same u6).snoc (m:=pr (w0 + 1,o0 - 1)) upd_same).upd (sbn (u6 _ _ hD5))
  ·have sm:=parts_sum as
   have pl:=parts_len ns (a - 1) (b + 1)
   have rl:(rlen (a,b):Int)=b + 1 - a:=by
    unfold rlen
    dsimp only
    lia
   refine q D3 (partsF (a - 1) ns (b + 1)) H5 (s4.trans s5) (s4.free hD3) ⟨ts,hD5,?_⟩ (fun p hp=>?_) (by lia) (by lia)
   ·rw [hend,kl,← pl,List.take_length] at mv
    exact mv
   ·have:=parts_in as p hp
    lia
end
noncomputable def lwF (wished:List (List Int)) (t:Tool) (c:Int×Int):Int:=mxD 0 ((und wished t.1 c.1 c.2).map (hgt wished))
theorem BdAt.dropI {H:Hp} {b x:Addr} {rows:List (List Int)} {C dx:Addr} {fs:List (Str×V)} (h:BdAt H b rows) (e:H x=some (.ins C dx fs)):BdAt (drop H x) b rows:=by
 refine bC fun g_=>?_
 obtain ⟨rs,a,c⟩:=h
 refine g_ ?_
 clear g_
 exact bd_drop a c (ne_of a e (fun z=>nomatch z)) fun z=>by
  obtain ⟨xs,hx⟩:=c.mem z
  rw [e] at hx
  cases hx
theorem FtAt.dropI {H:Hp} {b x:Addr} {cs:List (Int×Int)} {C dx:Addr} {fs:List (Str×V)} (h:FtAt H b cs) (e:H x=some (.ins C dx fs)):FtAt (drop H x) b cs:=by
 refine bC fun g_=>?_
 obtain ⟨ts,a,c⟩:=h
 refine g_ ?_
 clear g_
 refine ⟨ts,by rw [drop_ne (ne_of a e (fun z=>nomatch z))]; exact a,?_⟩
 have go:∀ {ts:List Addr} {ms:List (List V)},MvAt H ts ms→MvAt (drop H x) ts ms:=by
  intro ts
  induction ts with
  | nil=>intro ms h; cases ms with
   | nil=>exact h
   | cons _ _=>exact h.elim
  | cons t ts ih=>intro ms h; cases ms with
   | nil=>exact h.elim
   | cons m ms=>exact ⟨by rw [drop_ne (ne_of h.1 e (fun z=>nomatch z))]; exact h.1,ih h.2⟩
 exact go c
noncomputable def NoSq (H:Hp) (ds:List Addr):Prop:=∀ x∈ds,∀ ys,H x≠some (.lst ys)∧H x≠some (.tup ys)
theorem BdAt.dropL {H:Hp} {ds:List Addr} {b:Addr} {rows:List (List Int)} (h:BdAt H b rows) (n:NoSq H ds):BdAt (dropL H ds) b rows:=by
 refine bC fun g_=>?_
 obtain ⟨rs,a,c⟩:=h
 refine g_ ?_
 clear g_
 exact ⟨rs,dropL_at (fun z=>(n b z _).1 a) a,c.keep fun r hr o e=>dropL_at (fun z=>by
  obtain ⟨xs,hx⟩:=c.mem hr
  exact (n r z _).1 hx) e⟩
theorem MvAt.dropL {H:Hp} {ds:List Addr} (n:NoSq H ds):∀ {ts:List Addr} {ms:List (List V)},MvAt H ts ms→MvAt (dropL H ds) ts ms
 | [],[],h=>h
 | t :: _,_ :: _,h=>⟨dropL_at (fun z=>(n t z _).2 h.1) h.1,MvAt.dropL n h.2⟩
 | [],_ :: _,h=>h.elim
 | _ :: _,[],h=>h.elim
theorem FtAt.dropL {H:Hp} {ds:List Addr} {b:Addr} {cs:List (Int×Int)} (h:FtAt H b cs) (n:NoSq H ds):FtAt (dropL H ds) b cs:=by
 refine bC fun g_=>?_
 obtain ⟨ts,a,c⟩:=h
 refine g_ ?_
 clear g_
 exact ⟨ts,dropL_at (fun z=>(n b z _).1 a) a,c.dropL n⟩
noncomputable def PdIn (bed:List (List Int)) (H:Hp) (kvs:List (List Key×V)):Prop:=∀ p∈kvs,∃ (c d:Int×Int) (t:Addr),p.1=ky c∧ins bed c=true∧p.2=.ref t∧H t=some (.tup (pr d))∧ins bed d=true
theorem PdIn.keep {bed:List (List Int)} {H H':Hp} {kvs:List (List Key×V)} (h:PdIn bed H kvs) (k:∀ t m,H t=some (.tup m)→H' t=some (.tup m)):PdIn bed H' kvs:=fun p hp=>by
 refine bC fun g_=>?_
 obtain ⟨c,d,t,a,b,e,f,g⟩:=h p hp
 refine g_ ?_
 clear g_
 exact ⟨c,d,t,a,b,e,k _ _ f,g⟩
set_option tactic.hygienic true in
theorem mem_putK {kvs:List (List Key×V)} {k:List Key} {v:V} {p:List Key×V} (h:p∈putK kvs k v):p∈kvs∨p=(k,v):=by
 unfold putK at h
 split at h
 ·obtain ⟨q,hq,rfl⟩:=List.mem_map.mp h
  split
  ·rename_i e
   exact .inr (by rw [e])
  ·exact .inl hq
 ·rcases List.mem_append.mp h with h | h
  ·exact .inl h
  ·exact .inr (List.mem_singleton.mp h)
theorem PdIn.put {bed:List (List Int)} {H:Hp} {kvs:List (List Key×V)} {c d:Int×Int} {t:Addr} (h:PdIn bed H kvs) (hc:ins bed c=true) (ht:H t=some (.tup (pr d))) (hd:ins bed d=true):PdIn bed H (putK kvs (ky c) (.ref t)):=fun p hp=>by
 rcases mem_putK hp with hp | rfl
 ·exact h p hp
 ·exact ⟨c,d,t,rfl,hc,rfl,ht,hd⟩
theorem LoIn.put {bed:List (List Int)} {lw:Int×Int→Int} {kvs:List (List Key×V)} {cs:List (Int×Int)} (h:∀ c∈cs,valV kvs (ky c)=some (.int (lw c))) (d:Int×Int):∀ c∈cs++[d],valV (putK kvs (ky d) (.int (lw d))) (ky c)=some (.int (lw c)):=fun c hc=>by
 by_cases e:c=d
 ·subst e
  rw [valV_put,if_pos rfl]
 ·have ne:ky c≠ky d:=fun z=>e (by
   simp at z
   exact Prod.ext z.1 z.2)
  rw [valV_put,if_neg ne]
  rcases List.mem_append.mp hc with hc | hc
  ·exact h c hc
  ·exact absurd (List.mem_singleton.mp hc) e
noncomputable def DuN (bed:List (List Int)) (G H:Hp) (n:Nat) (kvs:List (List Key×V)):Prop:=∀ p∈kvs,∃ (D:Addr) (cs:List (Int×Int)),p.2=.ref D∧G D=none∧FtAt H D cs∧cs.length≤n∧∀ c∈cs,ins bed c=true
theorem DuN.same {bed:List (List Int)} {G H H':Hp} {n:Nat} {kvs:List (List Key×V)} (h:DuN bed G H n kvs) (s:Same H H'):DuN bed G H' n kvs:=fun p hp=>by
 refine bC fun g_=>?_
 obtain ⟨D,cs,a,b,c,d⟩:=h p hp
 refine g_ ?_
 clear g_
 exact ⟨D,cs,a,b,c.same s,d⟩
theorem DuN.app {bed:List (List Int)} {G H:Hp} {n:Nat} {kvs:List (List Key×V)} {D t:Addr} {xs:List V} {c:Int×Int} (h:DuN bed G H n kvs) (hD:H D=some (.lst xs)) (ht:H t=some (.tup (pr c))) (hc:ins bed c=true):DuN bed G (upd H D (.lst (xs++[.ref t]))) (n + 1) kvs:=fun p hp=>by
 refine bC fun g_=>?_
 obtain ⟨D',cs,a,b,⟨ts,e1,e2⟩,l,i⟩:=h p hp
 refine g_ ?_
 clear g_
 by_cases e:D'=D
 ·subst e
  rw [hD] at e1
  cases e1
  refine ⟨D',cs++[c],a,b,⟨ts++[t],?_,?_⟩,?_,?_⟩
  ·rw [upd_same,List.map_append]
   rfl
  ·rw [List.map_append]
   exact (e2.snoc (m:=pr c) ht).upd (sbn hD)
  ·rw [List.length_append]
   exact Nat.succ_le_succ l
  ·intro x hx
   rcases List.mem_append.mp hx with hx | hx
   ·exact i x hx
   ·rw [List.mem_singleton.mp hx]
    exact hc
 ·exact ⟨D',cs,a,b,⟨ts,by rw [upd_ne e]; exact e1,e2.upd (sbn hD)⟩,Nat.le_succ_of_le l,i⟩
theorem DuN.updD {bed:List (List Int)} {G H:Hp} {n:Nat} {kvs kv':List (List Key×V)} {du:Addr} (h:DuN bed G H n kvs) (e:H du=some (.dT kv')) (o:List (List Key×V)):DuN bed G (upd H du (.dT o)) n kvs:=fun p hp=>by
 refine bC fun g_=>?_
 obtain ⟨D,cs,a,b,⟨ts,e1,e2⟩,d⟩:=h p hp
 refine g_ ?_
 clear g_
 exact ⟨D,cs,a,b,⟨ts,by rw [upd_ne (ne_of e1 e (fun z=>nomatch z))]; exact e1,e2.upd (fun m z=>by rw [e] at z; cases z)⟩,d⟩
theorem DuN.put {bed:List (List Int)} {G H:Hp} {n:Nat} {kvs:List (List Key×V)} {k:List Key} {em:Addr} (h:DuN bed G H n kvs) (e:H em=some (.lst [])) (g:G em=none):DuN bed G H n (putK kvs k (.ref em)):=fun p hp=>by
 rcases mem_putK hp with hp | rfl
 ·exact h p hp
 ·exact ⟨em,[],rfl,g,⟨[],e,True.intro⟩,Nat.zero_le _,fun c hc=>(List.not_mem_nil hc).elim⟩
structure L1 (CS:Addr) (bed:List (List Int)) (lw:Int×Int→Int) (G H:Hp) (B:SA) (dx pd:Addr) (cs:List (Int×Int)) (n:Nat) (kv1 kv2:List (List Key×V)):Prop where
 sm:Same G H
 ob:H B.sr=some (.ins CS dx (srF B))
 lo:H B.lo=some (.dT kv1)
 lk:∀ c∈cs,valV kv1 (ky c)=some (.int (lw c))
 ll:kv1.length≤cs.length
 du:H B.du=some (.dT [])
 pd:H pd=some (.dT kv2)
 pk:PdIn bed H kv2
 pn:kv2.length≤n
theorem L1.same {CS:Addr} {bed:List (List Int)} {lw:Int×Int→Int} {G H H':Hp} {B:SA} {dx pd:Addr} {cs:List (Int×Int)} {n:Nat} {kv1 kv2:List (List Key×V)} (h:L1 CS bed lw G H B dx pd cs n kv1 kv2) (s:Same H H'):L1 CS bed lw G H' B dx pd cs n kv1 kv2 :=
 ⟨h.sm.trans s,s _ _ h.ob,s _ _ h.lo,h.lk,h.ll,s _ _ h.du,s _ _ h.pd,h.pk.keep fun t m e=>s _ _ e,h.pn⟩
section
variable {f:Addr} {fd':FuncData}
inductive PspShI (CS:Addr) (vs:List V) (H:Hp) (Q:VK):Prop
 | mk (sr dx ct wh gl R:Addr) (t:Tool) (wished goal rows:List (List Int)) (h0:vs=[.ref sr,.ref ct,.ref wh,.ref gl,.ref R]) (h1:H sr=some (.ins CS dx [])) (h2:CtAt H ct t) (h3:BdAt H wh wished) (h4:BdAt H gl goal) (h5:BdAt H R rows) (h6:Alike wished goal) (h7:Alike wished rows) (h8:Rect wished) (h9:Small wished) (h10:t.1.length≤100)
   (h11:∀ (lo du:Addr) (H':Hp),Same (drop H sr) H'→(∀ ds:List Addr,(∀ x∈ds,∃ o,drop H sr x=some o∧∀ m,o≠.tup m)→ShrIn CS wished (lwF wished t) (dropL H' ds) ⟨sr,ct,lo,du⟩)→Q .non H'):PspShI CS vs H Q
noncomputable def spShI (CS:Addr):Sp:=fun vs H Q Z=>PspShI CS vs H Q
theorem scShI:FnScope ["self","cutter","wished","goal","rows","placed","place","under","lowest","x","y","cell"] ["self","cutter","wished","goal","rows"] (defScope sShI):=⟨rfl,rfl,rfl,by decide +kernel,rfl,by decide +kernel,by decide +kernel⟩
theorem ok_shI (T:LawT mg) (SH:SHT K CS) (FC:Fn P w K mg base "cells_of" 1 ["bed"] spCells) (FU:Fn P w K mg base "cells_under" 2 ["bed","cutter","x","y"] spUnder) (FG:Fn P w K mg base "greatest" 1 ["bed","cells"] spGreat)
  (F:Fun K "__init__" "Share.__init__" sShI f fd'):FnOk P w K mg base (CX1 P w) 3 f fd' ["self","cutter","wished","goal","rows"] (spShI CS):=by
 have nd:=scShI.nd
 refine F.ok1 scShI (fun vs H Q E h=>?_) (fun cdv A outer s H vs Q E hr h=>?_)
 ·refine bC fun g_=>?_
  obtain ⟨sr,dx,ct,wh,gl,R,t,wished,goal,rows,e2_,_⟩:=h
  refine g_ ?_
  clear g_
  obtain rfl:=e2_
  rfl
 refine bC fun g_=>?_
 obtain ⟨sr,dx,ct,wh,gl,R,t,wished,goal,rows,e3_,hsr,hct,hwh,hgl,hR,al1,al2,rect,small,f100,q⟩:=h
 refine g_ ?_
 clear g_
 obtain rfl:=e3_
 have hu:=hu_of' hr
 have hr1:Room 1 _:=hr.mono (by decide)
 refine ⟨_,(pss_cons (ps_fld (pv 0) (pv 1) rfl)
  (pss_cons (ps_fld (pv 0) pe_dnewT rfl)
  (pss_cons (ps_fld (pv 0) pe_dnewT rfl)
  (pss_cons (ps_set (i:=5) nd rfl (Or.inl rfl) pe_dnewT)
  (pss_cons (ps_for own1 rfl (pi_listK (K:=K) rfl (pf_call FC hr1 rfl (pass1 (E:=E)) (pa_cons (pv 2) pa_nil))) (pg_name (i:=6) nd rfl (Or.inl rfl)) (pss_cons (ps_set (i:=7) nd rfl (Or.inl rfl) (pf_call FU hr rfl (pass1 (E:=E)) (pa_cons (pv 2) (pa_cons (pv 1) (pa_cons (pe_ix (ix_tupK (K:=K) rfl) (pv 6) pe_int (fun Z Z=>rfl)) (pa_cons (pe_ix (ix_tupK (K:=K) rfl) (pv 6) pe_int (fun Z Z=>rfl)) pa_nil))))))
  (pss_cons (ps_set (i:=8) nd rfl (Or.inl rfl) (pf_call FG hr1 rfl (pass1 (E:=E)) (pa_cons (pv 2) (pa_cons (pv 7) pa_nil))))
  (pss_cons (ps_dput hu (pe_fld (pv 0) rfl) (pv 6) (pv 8) rfl)
  (pss_one (ps_for own1 rfl (pi_listK (K:=K) rfl (pv 7)) (pg_tup (n:=2) rfl (pgs_cons (pg_name (i:=9) nd rfl (Or.inl rfl)) (pgs_cons (pg_name (i:=10) nd rfl (Or.inl rfl)) pgs_nil))) (pss_one (ps_if (PW.pt (pw_and (pt_cmpR op_eq (pe_ix (ix_listK (K:=K) rfl) (pe_ix (ix_listK (K:=K) rfl) (pv 3) (pv 10) (fun Z Z=>rfl)) (pv 9) (fun Z Z=>rfl)) (pv 8) (nomark _)) (pw_and1 (pt_cmpR op_gt (pe_ix (ix_listK (K:=K) rfl) (pe_ix (ix_listK (K:=K) rfl) (pv 4) (pv 10) (fun Z Z=>rfl)) (pv 9) (fun Z Z=>rfl)) (pv 8) (nomark _))))) (pss_one (ps_dput hu (pv 5) (pe_tup (pa_cons (pv 9) (pa_cons (pv 10) pa_nil))) (pv 6) rfl)) pss_nil))))))))
  (pss_one (ps_frz (ps_for own1 rfl (pi_itemsT (pv 5)) (pg_tup (n:=2) rfl (pgs_cons (pg_name (i:=11) nd rfl (Or.inl rfl)) (pgs_cons (pg_name (i:=6) nd rfl (Or.inl rfl)) pgs_nil))) (pss_one (ps_expr (pe_bm PySem.F.plainAttrs_list PySem.F.slot_list_append PySem.F.type_list_append mt_append (pe_bm PySem.F.plainAttrs_dict PySem.F.slot_dict_setdefault PySem.F.type_dict_setdefault (mt_setdefT hu) (pe_fld (pv 0) rfl) (pa_cons (pv 6) (pa_cons (pe_lst pa_nil) pa_nil))) (pa_cons (pv 11) pa_nil)))))))))))),?_⟩
 (try dsimp only [L2.cxK])
 refine abs_seq fun dE eE=>?_
 have gct:∃ ft,drop H sr ct=some (.tup [.ref ft,.int t.2])∧FtAt (drop H sr) ft t.1:=by
  refine bC fun g_=>?_
  obtain ⟨ft,a,b⟩:=hct
  refine g_ ?_
  clear g_
  exact ⟨ft,by rw [drop_ne (ne_of a hsr (fun z=>nomatch z))]; exact a,b.dropI hsr⟩
 have gwh:=hwh.dropI hsr
 have ggl:=hgl.dropI hsr
 have gR:=hR.dropI hsr
 have gsr:drop H sr sr=none:=by unfold drop; rw [if_pos rfl]
 refine ⟨sr,CS,dx,_,rfl,hsr,SH.clS,SH.nCutter,(by decide),?_⟩
 rw [show putF ("cutter":Str) (V.ref ct) []=[(("cutter":Str),V.ref ct)] from rfl]
 have s1:Same (drop H sr) (upd H sr (.ins CS dx [("cutter",.ref ct)])):=fun x o e=>by
  have ne:x≠sr:=ne_of_none e gsr
  rw [upd_ne ne]
  rw [drop_ne ne] at e
  exact e
 have o1:upd H sr (.ins CS dx [("cutter",.ref ct)]) sr=some (.ins CS dx [("cutter",.ref ct)]):=upd_same
 generalize upd H sr (.ins CS dx [("cutter",.ref ct)])=H1 at s1 o1 ⊢
 generalize drop H sr=G at gct gwh ggl gR gsr s1 q
 clear hct hwh hgl hR hsr
 refine nxS eE fun dE eE=>?_
 refine fun lo hlo=>⟨sr,CS,dx,_,rfl,same_upd hlo _ _ _ o1,SH.clS,SH.nLowests,(by show 1 < 1000; decide),?_⟩
 rw [show putF ("lowests":Str) (V.ref lo) [(("cutter":Str),V.ref ct)]=[(("cutter":Str),V.ref ct),("lowests",.ref lo)] from rfl]
 have glo:=s1.free hlo
 have nls:=ne_new o1 hlo
 have s2:Same G (upd (upd H1 lo (.dT [])) sr (.ins CS dx [("cutter",.ref ct),("lowests",.ref lo)])):=same_in (s1.trans (same_upd hlo _)) gsr
 have l2:upd (upd H1 lo (.dT [])) sr (.ins CS dx [("cutter",.ref ct),("lowests",.ref lo)]) lo=some (.dT []):=by rw [upd_ne nls,upd_same]
 have o2:upd (upd H1 lo (.dT [])) sr (.ins CS dx [("cutter",.ref ct),("lowests",.ref lo)]) sr=some (.ins CS dx [("cutter",.ref ct),("lowests",.ref lo)]):=upd_same
 generalize upd (upd H1 lo (.dT [])) sr (.ins CS dx [("cutter",.ref ct),("lowests",.ref lo)])=H2 at s2 l2 o2 ⊢
 clear s1 o1 hlo
 refine nxS eE fun dE eE=>?_
 refine fun du hdu=>⟨sr,CS,dx,_,rfl,same_upd hdu _ _ _ o2,SH.clS,SH.nDue,(by show 2 < 1000; decide),?_⟩
 rw [show putF ("due":Str) (V.ref du) [(("cutter":Str),V.ref ct),("lowests",.ref lo)]=srF ⟨sr,ct,lo,du⟩ from rfl]
 have gdu:=s2.free hdu
 have nds:=ne_new o2 hdu
 have ndl:=ne_new l2 hdu
 have s3:Same G (upd (upd H2 du (.dT [])) sr (.ins CS dx (srF ⟨sr,ct,lo,du⟩))):=same_in (s2.trans (same_upd hdu _)) gsr
 have l3:upd (upd H2 du (.dT [])) sr (.ins CS dx (srF ⟨sr,ct,lo,du⟩)) lo=some (.dT []):=by rw [upd_ne nls,upd_ne (Ne.symm ndl)]; exact l2
 have d3:upd (upd H2 du (.dT [])) sr (.ins CS dx (srF ⟨sr,ct,lo,du⟩)) du=some (.dT []):=by rw [upd_ne nds,upd_same]
 have o3:upd (upd H2 du (.dT [])) sr (.ins CS dx (srF ⟨sr,ct,lo,du⟩)) sr=some (.ins CS dx (srF ⟨sr,ct,lo,du⟩)):=upd_same
 generalize upd (upd H2 du (.dT [])) sr (.ins CS dx (srF ⟨sr,ct,lo,du⟩))=H3 at s3 l3 d3 o3 ⊢
 clear s2 l2 o2 hdu
 refine nxS eE fun dE eE=>?_
 refine fun pd hpd=>?_
 have gpd:=s3.free hpd
 have npl:=ne_new l3 hpd
 have npd:=ne_new d3 hpd
 have nps:=ne_new o3 hpd
 have u4:=same_upd hpd (.dT [])
 have s4:=s3.trans u4
 have l4:=u4 _ _ l3
 have d4:=u4 _ _ d3
 have o4:=u4 _ _ o3
 have p4:upd H3 pd (.dT []) pd=some (.dT []):=upd_same
 generalize upd H3 pd (.dT [])=H4 at s4 l4 d4 o4 p4 ⊢
 clear s3 l3 d3 o3 hpd u4
 refine nxS eE fun dE eE=>?_
 refine ⟨wh,wished,rfl,gwh.same s4,small,fun pl H5 npl5 s5 fpl=>?_⟩
 have cl16:(cellsF 0 wished).length≤1600:=Nat.le_trans (cellsF_le wished 0 small.2) (Nat.mul_le_mul_left 40 small.1)
 have nsq:NoSq H5 [sr,lo,du,pd]:=fun x hx ys=>by
  have no:∀ o,H5 x=some o→(∀ ys,o≠.lst ys∧o≠.tup ys)→H5 x≠some (.lst ys)∧H5 x≠some (.tup ys):=fun o e h=>⟨fun z=>by rw [e] at z; exact (h ys).1 (Option.some.inj z),fun z=>by rw [e] at z; exact (h ys).2 (Option.some.inj z)⟩
  simp only [List.mem_cons,List.not_mem_nil,or_false] at hx
  rcases hx with rfl | rfl | rfl | rfl
  ·exact no _ (s5 _ _ o4) fun ys=>⟨(fun z=>nomatch z),(fun z=>nomatch z)⟩
  ·exact no _ (s5 _ _ l4) fun ys=>⟨(fun z=>nomatch z),(fun z=>nomatch z)⟩
  ·exact no _ (s5 _ _ d4) fun ys=>⟨(fun z=>nomatch z),(fun z=>nomatch z)⟩
  ·exact no _ (s5 _ _ p4) fun ys=>⟨(fun z=>nomatch z),(fun z=>nomatch z)⟩
 have nds4:∀ x∈[sr,lo,du,pd],G x=none:=fun x hx=>by
  simp only [List.mem_cons,List.not_mem_nil,or_false] at hx
  rcases hx with rfl | rfl | rfl | rfl <;> assumption
 have sG:Same G (dropL H5 [sr,lo,du,pd]):=fun x o e=>dropL_at (fun z=>by rw [nds4 x z] at e; cases e) (s5 _ _ (s4 _ _ e))
 have kwh:=(gwh.same (s4.trans s5)).dropL nsq
 have kgl:=(ggl.same (s4.trans s5)).dropL nsq
 have kR:=(gR.same (s4.trans s5)).dropL nsq
 have kpl:=fpl.dropL nsq
 have kct:∃ ft,dropL H5 [sr,lo,du,pd] ct=some (.tup [.ref ft,.int t.2])∧FtAt (dropL H5 [sr,lo,du,pd]) ft t.1:=by
  refine bC fun g_=>?_
  obtain ⟨ft,a,b⟩:=gct
  refine g_ ?_
  clear g_
  exact ⟨ft,sG _ _ a,b.same sG⟩
 have nds5:∀ x∈[sr,lo,du,pd],dropL H5 [sr,lo,du,pd] x=none:=fun x hx=>by unfold dropL; rw [if_pos hx]
 have I0:L1 CS wished (lwF wished t) (dropL H5 [sr,lo,du,pd]) H5 ⟨sr,ct,lo,du⟩ dx pd [] 0 [] []:=⟨dropL_le,s5 _ _ o4,s5 _ _ l4,(fun c hc=>(List.not_mem_nil hc).elim),Nat.le_refl _,s5 _ _ d4,s5 _ _ p4,(fun p hp=>(List.not_mem_nil hp).elim),Nat.le_refl _⟩
 generalize dropL H5 [sr,lo,du,pd]=G5 at sG kwh kgl kR kpl kct nds5 I0
 clear nds4 nsq fpl s5 s4 l4 d4 o4 p4 gct gwh ggl gR npl5
 refine bC fun g_=>?_
 obtain ⟨pts,hpl,mpl⟩:=kpl
 refine g_ ?_
 clear g_
 have ptl:pts.length=(cellsF 0 wished).length:=by rw [mpl.len,List.length_map]
 refine bC fun g_=>?_
 obtain ⟨ft,kct1,kct2⟩:=kct
 refine g_ ?_
 clear g_
 refine ⟨pl,rfl,⟨_,SqL.of (I0.sm _ _ hpl)⟩,?_⟩
 refine for_list (K:=K) (a:=pl) (xs:=pts.map V.ref) (fun k σ Hk=>Ex8 fun (x6 x7 x8 x9 x10 x11:Option V) (kv1 kv2:List (List Key×V))=>σ=[some (.ref sr),some (.ref ct),some (.ref wh),some (.ref gl),some (.ref R),some (.ref pd),x6,x7,x8,x9,x10,x11]∧L1 CS wished (lwF wished t) G5 Hk ⟨sr,ct,lo,du⟩ dx pd ((cellsF 0 wished).take k) (k * 100) kv1 kv2) ⟨none,none,none,none,none,none,[],[],rfl,by rw [List.take_zero,Nat.zero_mul]; exact I0⟩ ?_ ?_ ?_
 ·rintro k σ Hk _ h_
  refine bC fun g_=>?_
  obtain ⟨_,_,_,_,_,_,_,_,e4_,I⟩:=h_
  refine g_ ?_
  clear g_
  obtain rfl:=e4_
  exact SqL.of (I.sm _ _ hpl)
 ·rintro k v σ Hk hx h_
  refine bC fun g_=>?_
  obtain ⟨x6,x7,x8,x9,x10,x11,kv1,kv2,e5_,I⟩:=h_
  refine g_ ?_
  clear g_
  obtain rfl:=e5_
  obtain ⟨pt,hpt,rfl⟩:=ref_get hx
  have hk:k < (cellsF 0 wished).length:=by have:=(List.getElem?_eq_some_iff.mp hpt).1; lia
  have ec:=List.getElem?_eq_getElem hk
  have gt0:=mpl.at_ hpt (by rw [List.getElem?_map,ec]; rfl)
  have ic:=(mem_cells rect _).mp (List.getElem_mem hk)
  generalize (cellsF 0 wished)[k]=c at ec gt0 ic
  have gt:=I.sm _ _ gt0
  refine ⟨pt,_,0,.int c.1,rfl,rfl,SqT.of gt,rfl,pt,_,1,.int c.2,rfl,rfl,SqT.of gt,rfl,wh,ct,ft,.int t.2,c.1,c.2,wished,t.1,rfl,kwh.same I.sm,rect.1,I.sm _ _ kct1,kct2.same I.sm,by lia,fun u H6 nu s6 fu=>?_⟩
  have ulen:(und wished t.1 c.1 c.2).length≤100:=Nat.le_trans (List.length_filter_le _ _) (by rw [List.length_map]; exact f100)
  have uin:∀ x∈und wished t.1 c.1 c.2,ins wished x=true:=fun x hx=>(List.mem_filter.mp hx).2
  have I6:=I.same s6
  refine ⟨wh,u,wished,und wished t.1 c.1 c.2,rfl,kwh.same I6.sm,rect,fu,by lia,uin,fun H7 s7=>?_⟩
  have I7:=I6.same s7
  have fu7:=fu.same s7
  rw [show mxD 0 ((und wished t.1 c.1 c.2).map (hgt wished))=lwF wished t c from rfl]
  have nlo:∀ m,H7 lo≠some (.tup m):=fun m e=>by have e':H7 lo=_:=I7.lo; rw [e'] at e; cases e
  refine ⟨sr,CS,dx,_,_,rfl,I7.ob,SH.clS,SH.nLowests,rfl,lo,_,rfl,DPut.t (k:=ky c) I7.lo (I7.sm _ _ gt0) (by have:=I7.ll; rw [List.length_take] at this; exact Nat.lt_of_le_of_lt this (big16 (by lia))),?_⟩
  have I8:L1 CS wished (lwF wished t) G5 (upd H7 lo (.dT (putK kv1 (ky c) (.int (lwF wished t c))))) ⟨sr,ct,lo,du⟩ dx pd ((cellsF 0 wished).take (k + 1)) (k * 100) (putK kv1 (ky c) (.int (lwF wished t c))) kv2:=by
   refine ⟨same_in I7.sm (nds5 lo (by simp)),?_,upd_same,?_,?_,?_,?_,I7.pk.keep fun x m e=>?_,I7.pn⟩
   ·exact (upd_ne (Ne.symm nls)).trans I7.ob
   ·rw [take_snoc ec]
    exact LoIn.put (bed:=wished) I7.lk c
   ·rw [take_snoc ec,List.length_append]
    exact Nat.le_trans (length_putK _ _ _) (Nat.succ_le_succ I7.ll)
   ·exact (upd_ne ndl).trans I7.du
   ·exact (upd_ne npl).trans I7.pd
   ·rw [upd_ne (fun z=>nlo m (by rw [← z]; exact e))]
    exact e
  have fu8:FtAt (upd H7 lo (.dT (putK kv1 (ky c) (.int (lwF wished t c))))) u (und wished t.1 c.1 c.2):=by
   refine bC fun g_=>?_
   obtain ⟨us,a1,a2⟩:=fu7
   refine g_ ?_
   clear g_
   refine ⟨us,?_,a2.upd nlo⟩
   rw [upd_ne (fun z=>by have e':H7 lo=_:=I7.lo; rw [z,e'] at a1; cases a1)]
   exact a1
  generalize upd H7 lo (.dT (putK kv1 (ky c) (.int (lwF wished t c))))=H8 at I8 fu8
  generalize putK kv1 (ky c) (.int (lwF wished t c))=kv1' at I8
  clear I7 I6 I fu7 fu s6 s7 nu gt nlo
  refine bC fun g_=>?_
  obtain ⟨us,hu8,mu⟩:=fu8
  refine g_ ?_
  clear g_
  have usl:us.length=(und wished t.1 c.1 c.2).length:=by rw [mu.len,List.length_map]
  have npu:u≠pd:=fun z=>by have e':=I8.pd; rw [← z,hu8] at e'; cases e'
  have npt:∀ x m,H8 x=some (.tup m)→x≠pd:=fun x m e z=>by have e':=I8.pd; rw [← z,e] at e'; cases e'
  refine ⟨u,rfl,⟨_,SqL.of hu8⟩,?_⟩
  have hpt8:=I8.sm _ _ gt0
  refine for_list (K:=K) (a:=u) (xs:=us.map V.ref) (fun j σ Hj=>Ex3 fun (x9 x10:Option V) (kv2:List (List Key×V))=>σ=[some (.ref sr),some (.ref ct),some (.ref wh),some (.ref gl),some (.ref R),some (.ref pd),some (.ref pt),some (.ref u),some (.int (lwF wished t c)),x9,x10,x11]∧Kp [pd] H8 Hj∧Hj pd=some (.dT kv2)∧PdIn wished Hj kv2∧kv2.length≤k * 100 + j) ⟨x9,x10,kv2,rfl,fun Z Z Z e=>e,I8.pd,I8.pk,I8.pn⟩ ?_ ?_ ?_
  ·rintro j σ Hj _ h_
   refine bC fun g_=>?_
   obtain ⟨_,_,_,e7_,kj,_⟩:=h_
   refine g_ ?_
   clear g_
   obtain rfl:=e7_
   exact SqL.of (kj _ _ (by simpa using npu) hu8)
  ·rintro j v σ Hj hx h_
   refine bC fun g_=>?_
   obtain ⟨x9,x10,kv2,e8_,kj,hpd,pk,pn⟩:=h_
   refine g_ ?_
   clear g_
   obtain rfl:=e8_
   obtain ⟨tu,htu,rfl⟩:=ref_get hx
   have hj:j < (und wished t.1 c.1 c.2).length:=by have:=(List.getElem?_eq_some_iff.mp htu).1; lia
   have ed:=List.getElem?_eq_getElem hj
   have gu0:=mu.at_ htu (by rw [List.getElem?_map,ed]; rfl)
   have id':=uin _ (List.getElem_mem hj)
   generalize (und wished t.1 c.1 c.2)[j]=d at ed gu0 id'
   have gu:Hj tu=some (.tup (pr d)):=kj _ _ (by simpa using npt _ _ gu0) gu0
   have sj:Same G5 Hj:=Kp.same I8.sm (fun r hr=>by rw [List.mem_singleton.mp hr]; exact nds5 pd (by simp)) kj
   have look:∀ {b:Addr} {rows:List (List Int)},BdAt G5 b rows→Alike wished rows→∃ (rs:List Addr) (r:Addr) (row:List Int) (v:Int),Hj b=some (.lst (rs.map V.ref))∧atI (rs.map V.ref) d.2=some (.ref r)∧Hj r=some (.lst (row.map V.int))∧atI (row.map V.int) d.1=some (.int v):=fun {b rows} hb al=>by
    have hcm:=id'
    rw [al.ins] at hcm
    refine bC fun g_=>?_
    obtain ⟨i1,j1,row,v,e1,hrow,hv,hh⟩:=ins_at hcm (al.rect rect)
    obtain ⟨rs,hR1,ra⟩:=hb.same sj
    obtain ⟨r,hr',hrl⟩:=ra.at_ hrow
    refine g_ ?_
    clear g_
    have t1:d.1=(j1:Int):=by rw [e1]
    have t2:d.2=(i1:Int):=by rw [e1]
    exact ⟨rs,r,row,v,hR1,by rw [t2]; exact atI_nat (by rw [List.getElem?_map,hr']; rfl),hrl,by rw [t1]; exact atI_nat (by rw [List.getElem?_map,hv]; rfl)⟩
   refine bC fun g_=>?_
   obtain ⟨rs1,r1,row1,v1,a1,a2,a3,a4⟩:=look kgl al1
   obtain ⟨rs2,r2,row2,v2,b1,b2,b3,b4⟩:=look kR al2
   refine g_ ?_
   clear g_
   have stay:Ex3 fun (x9 x10:Option V) (kv2':List (List Key×V))=>[some (V.ref sr),some (.ref ct),some (.ref wh),some (.ref gl),some (.ref R),some (.ref pd),some (.ref pt),some (.ref u),some (.int (lwF wished t c)),some (.int d.1),some (.int d.2),x11]=[some (V.ref sr),some (.ref ct),some (.ref wh),some (.ref gl),some (.ref R),some (.ref pd),some (.ref pt),some (.ref u),some (.int (lwF wished t c)),x9,x10,x11]∧Kp [pd] H8 Hj∧Hj pd=some (.dT kv2')∧PdIn wished Hj kv2'∧kv2'.length≤k * 100 + (j + 1):=⟨_,_,kv2,rfl,kj,hpd,pk,by lia⟩
   refine ⟨tu,_,rfl,SqT.of gu,rfl,_,_,rfl,_,_,rfl,rfl,gl,_,_,.ref r1,rfl,rfl,SqL.of a1,a2,r1,_,_,.int v1,rfl,rfl,SqL.of a3,a4,rfl,?_⟩
   refine ite2 (fun Z=>?_) (fun Z=>?_)
   ·refine ⟨R,_,_,.ref r2,rfl,rfl,SqL.of b1,b2,r2,_,_,.int v2,rfl,rfl,SqL.of b3,b4,?_⟩
    refine ite2 (fun Z=>?_) (fun Z=>?_)
    ·refine ⟨le2,fun tp htp=>?_⟩
     have ut:=same_upd htp (.tup [V.int d.1,.int d.2])
     have k100:k * 100≤1600 * 100:=Nat.mul_le_mul_right 100 (by lia)
     refine ⟨pd,_,rfl,DPut.t (k:=ky d) (ut _ _ hpd) upd_same (Nat.lt_of_le_of_lt pn (Nat.lt_of_le_of_lt (show _≤170000 by lia) (by decide))),_,_,_,rfl,fun x o nx e=>?_,upd_same,?_,?_⟩
     ·rw [upd_ne (fun z=>nx (by rw [z]; exact List.mem_cons_self))]
      exact ut _ _ (kj _ _ nx e)
     ·refine PdIn.put (pk.keep fun x m e=>?_) id' (d:=c) ?_ ic
      ·have e2:=ut _ _ e
       rw [upd_ne (ne_of e2 (ut _ _ hpd) (fun z=>nomatch z))]
       exact e2
      ·have e2:=ut _ _ (kj _ _ (by simpa using npt _ _ hpt8) hpt8)
       rw [upd_ne (ne_of e2 (ut _ _ hpd) (fun z=>nomatch z))]
       exact e2
     ·have:=length_putK kv2 (ky d) (.ref pt)
      lia
    ·exact stay
   ·exact stay
  ·rintro σ Hj h_
   refine bC fun g_=>?_
   obtain ⟨x9,x10,kv2,e10_,kj,hpd,pk,pn⟩:=h_
   refine g_ ?_
   clear g_
   obtain rfl:=e10_
   rw [List.length_map,usl] at pn
   have n1:sr ∉ [pd]:=fun z=>nps (List.mem_singleton.mp z).symm
   have n2:lo ∉ [pd]:=fun z=>npl (List.mem_singleton.mp z).symm
   have n3:du ∉ [pd]:=fun z=>npd (List.mem_singleton.mp z).symm
   exact ⟨_,_,_,_,_,_,kv1',kv2,rfl,Kp.same I8.sm (fun r hr=>by rw [List.mem_singleton.mp hr]; exact nds5 pd (by simp)) kj,kj _ _ n1 I8.ob,kj _ _ n2 I8.lo,I8.lk,I8.ll,kj _ _ n3 I8.du,hpd,pk,by lia⟩
 ·rintro σ Hk h_
  refine bC fun g_=>?_
  obtain ⟨x6,x7,x8,x9,x10,x11,kv1,kv2,e11_,I⟩:=h_
  refine g_ ?_
  clear g_
  obtain rfl:=e11_
  rw [List.length_map,ptl,List.take_length] at I
  have n16:kv2.length≤160000:=Nat.le_trans I.pn (Nat.mul_le_mul_right 100 cl16)
  have li:LoIn wished (lwF wished t) kv1:=fun c hc=>I.lk c ((mem_cells rect c).mpr hc)
  refine nxS1 eE ?_
  refine ⟨pd,_,I.pd,True.intro,fun ob=>?_⟩
  have keepU:∀ {x:Addr} {o:HO},x≠pd→Hk x=some o→upd Hk pd (.frz ob (.dT kv2)) x=some o:=fun n e=>by rw [upd_ne n]; exact e
  have pdn:∀ x m,Hk x=some (.tup m)→x≠pd:=fun x m e z=>by have e':=I.pd; rw [← z,e] at e'; cases e'
  have b1:Same G5 (upd Hk pd (.frz ob (.dT kv2))):=same_in I.sm (nds5 pd (by simp))
  have b2:=keepU (Ne.symm nps) I.ob
  have b3:=keepU (Ne.symm npl) I.lo
  have b4:=keepU (Ne.symm npd) I.du
  have b5:upd Hk pd (.frz ob (.dT kv2)) pd=some (.frz ob (.dT kv2)):=upd_same
  have b6:PdIn wished (upd Hk pd (.frz ob (.dT kv2))) kv2:=I.pk.keep fun x m e=>keepU (pdn x m e) e
  generalize upd Hk pd (.frz ob (.dT kv2))=H9 at b1 b2 b3 b4 b5 b6
  clear keepU pdn I
  refine ⟨pd,ob,kv2,rfl,b5,?_⟩
  refine for_itemsT (o:=ob) (a:=pd) (kvs:=kv2) (fun i σ Hi=>∃ (y6 y11:Option V) (kv3:List (List Key×V)),σ=[some (.ref sr),some (.ref ct),some (.ref wh),some (.ref gl),some (.ref R),some (.ref pd),y6,x7,x8,x9,x10,y11]∧Hi pd=some (.frz ob (.dT kv2))∧Same G5 Hi∧Hi sr=some (.ins CS dx (srF ⟨sr,ct,lo,du⟩))∧Hi lo=some (.dT kv1)∧Hi du=some (.dT kv3)∧kv3.length≤i∧DuN wished G5 Hi i kv3∧PdIn wished Hi kv2) ⟨x6,x11,[],rfl,b5,b1,b2,b3,b4,Nat.le_refl _,(fun p hp=>(List.not_mem_nil hp).elim),b6⟩ (fun i σ Hi _ ⟨_,_,_,_,e,_⟩=>e) ?_ ?_
  ·rintro i p σ Hi hp ⟨y6,y11,kv3,rfl,c5,c1,c2,c3,c4,cl,cd,c6⟩ tc T0 htc hT0
   have hi:i < kv2.length:=(List.getElem?_eq_some_iff.mp hp).1
   refine bC fun g_=>?_
   obtain ⟨c,d,tp,e1,ic,e2,htp,idd⟩:=c6 p (List.mem_of_getElem? hp)
   obtain ⟨pk0,pv0⟩:=p
   refine g_ ?_
   clear g_
   dsimp only at e1 e2 htc
   subst e1 e2
   have u1:=same_upd hT0 (.tup [V.ref tc,.ref tp])
   have htc':Hi tc=some (.tup (pr c)):=htc
   refine ⟨T0,_,rfl,SqT.of upd_same,rfl,_,_,rfl,_,_,rfl,rfl,?_⟩
   have c1':=c1.trans u1
   have c2':=u1 _ _ c2
   have c3':=u1 _ _ c3
   have c4':=u1 _ _ c4
   have c5':=u1 _ _ c5
   have c6':PdIn wished (upd Hi T0 (.tup [V.ref tc,.ref tp])) kv2:=c6.keep fun x m e=>u1 _ _ e
   have cd':=cd.same u1
   have htc2:=u1 _ _ htc'
   have htp2:=u1 _ _ htp
   generalize upd Hi T0 (.tup [V.ref tc,.ref tp])=Hj at c1' c2' c3' c4' c5' c6' cd' htc2 htp2
   clear c1 c2 c3 c4 c5 c6 cd htc htc' htp hT0 u1
   refine ⟨sr,CS,dx,_,_,rfl,c2',SH.clS,SH.nDue,rfl,.inr (.inr (.inl ⟨rfl,.inr ⟨_,c4'⟩⟩)),Nat.zero_le _,fun em hem=>?_⟩
   have u2:=same_upd hem (.lst [])
   have gem:=c1'.free hem
   have fin:∀ (kv3':List (List Key×V)) (H6:Hp) (D:Addr) (xs:List V),H6 D=some (.lst xs)→G5 D=none→Same G5 H6→H6 sr=some (.ins CS dx (srF ⟨sr,ct,lo,du⟩))→H6 lo=some (.dT kv1)→H6 du=some (.dT kv3')→H6 pd=some (.frz ob (.dT kv2))→PdIn wished H6 kv2→DuN wished G5 H6 i kv3'→H6 tc=some (.tup (pr c))→kv3'.length≤i + 1 →
     ∃ (y6 y11:Option V) (kv3:List (List Key×V)),[some (V.ref sr),some (.ref ct),some (.ref wh),some (.ref gl),some (.ref R),some (.ref pd),some (.ref tp),x7,x8,x9,x10,some (.ref tc)]=[some (.ref sr),some (.ref ct),some (.ref wh),some (.ref gl),some (.ref R),some (.ref pd),y6,x7,x8,x9,x10,y11]∧upd H6 D (.lst (xs++[.ref tc])) pd=some (.frz ob (.dT kv2))∧Same G5 (upd H6 D (.lst (xs++[.ref tc])))∧upd H6 D (.lst (xs++[.ref tc])) sr=some (.ins CS dx (srF ⟨sr,ct,lo,du⟩))∧upd H6 D (.lst (xs++[.ref tc])) lo=some (.dT kv1)∧upd H6 D (.lst (xs++[.ref tc])) du=some (.dT kv3)∧kv3.length≤i + 1∧DuN wished G5 (upd H6 D (.lst (xs++[.ref tc]))) (i + 1) kv3∧PdIn wished (upd H6 D (.lst (xs++[.ref tc]))) kv2 :=
    fun kv3' H6 D xs hD gD s6 a2 a3 a4 a5 a6 ad atc al=>⟨_,_,kv3',rfl,by rw [upd_ne (ne_of a5 hD (fun z=>nomatch z))]; exact a5,same_in s6 gD,by rw [upd_ne (ne_of a2 hD (fun z=>nomatch z))]; exact a2,by rw [upd_ne (ne_of a3 hD (fun z=>nomatch z))]; exact a3,by rw [upd_ne (ne_of a4 hD (fun z=>nomatch z))]; exact a4,al,ad.app hD atc ic,a6.keep fun x m e=>by rw [upd_ne (ne_of e hD (fun z=>nomatch z))]; exact e⟩
   cases hv:valV kv3 (ky d) with
   | some v =>
    refine bC fun g_=>?_
    obtain ⟨pp,hpp,e12_⟩:=val_mem hv
    obtain ⟨D,cs,e1,gD,⟨ts,hDl,mD⟩,csl,_⟩:=(cd'.same u2) pp hpp
    refine g_ ?_
    clear g_
    obtain rfl:=e12_
    refine .old du tp kv3 (ky d) (.ref em) _ rfl rfl (u2 _ _ c4') (u2 _ _ htp2) hv ?_
    rw [e1]
    refine ⟨.inl ⟨rfl,_,SqL.of hDl⟩,D,_,.ref tc,rfl,rfl,hDl,?_,fin kv3 _ D _ hDl gD (c1'.trans u2) (u2 _ _ c2') (u2 _ _ c3') (u2 _ _ c4') (u2 _ _ c5') (c6'.keep fun x m e=>u2 _ _ e) (cd'.same u2) (u2 _ _ htc2) (Nat.le_succ_of_le cl)⟩
    rw [List.length_map,mD.len,List.length_map]
    exact big16 (by lia)
   | none =>
    have ndu:em≠du:=fun z=>by rw [z,c4'] at hem; cases hem
    have e5:upd (upd Hj em (.lst [])) du (.dT (putK kv3 (ky d) (.ref em))) em=some (.lst []):=by rw [upd_ne ndu,upd_same]
    have kp5:∀ {x:Addr} {o:HO},Hj x=some o→x≠du→upd (upd Hj em (.lst [])) du (.dT (putK kv3 (ky d) (.ref em))) x=some o:=fun e n=>by rw [upd_ne n]; exact u2 _ _ e
    refine .new du tp kv3 (ky d) (.ref em) rfl rfl (u2 _ _ c4') (u2 _ _ htp2) hv (big16 (by lia)) ?_
    refine ⟨.inl ⟨rfl,_,SqL.of e5⟩,em,[],.ref tc,rfl,rfl,e5,(by show 0 < _; decide),fin (putK kv3 (ky d) (.ref em)) _ em [] e5 gem (same_in (c1'.trans u2) (nds5 du (by simp))) (kp5 c2' (Ne.symm nds)) (kp5 c3' (Ne.symm ndl)) upd_same (kp5 c5' npd) (c6'.keep fun x m e=>kp5 e (fun z=>by rw [z,c4'] at e; cases e)) (((cd'.same u2).updD (u2 _ _ c4') _).put e5 gem) (kp5 htc2 (fun z=>by rw [z,c4'] at htc2; cases htc2)) ?_⟩
    have:=length_putK kv3 (ky d) (.ref em)
    lia
  ·rintro σ Hi h_
   refine bC fun g_=>?_
   obtain ⟨y6,y11,kv3,e13_,c5,c1,c2,c3,c4,cl,cd,c6⟩:=h_
   refine g_ ?_
   clear g_
   obtain rfl:=e13_
   have sF:Same G (upd Hi pd (.dT kv2)):=same_in (sG.trans c1) gpd
   refine ⟨c5,q lo du _ sF fun ds hds=>?_⟩
   have out:∀ x,G x=none→x ∉ ds:=fun x g z=>by
    refine bC fun g_=>?_
    obtain ⟨o,e,_⟩:=hds x z
    refine g_ ?_
    clear g_
    rw [g] at e
    cases e
   refine ⟨⟨dx,dropL_at (out _ gsr) ?_⟩,⟨kv1,dropL_at (out _ glo) ?_,li⟩,⟨kv3,dropL_at (out _ gdu) ?_,fun p hp=>?_⟩⟩
   ·rw [upd_ne (Ne.symm nps)]
    exact c2
   ·rw [upd_ne (Ne.symm npl)]
    exact c3
   ·rw [upd_ne (Ne.symm npd)]
    exact c4
   ·refine bC fun g_=>?_
    obtain ⟨D,cs,e1,gD,⟨ts,hDl,mD⟩,csl,hin⟩:=cd p hp
    refine g_ ?_
    clear g_
    refine ⟨D,cs,e1,⟨ts,dropL_at (out _ (sG.free gD)) (by rw [upd_ne (ne_of hDl c5 (fun z=>nomatch z))]; exact hDl),?_⟩,by lia,hin⟩
    have m2:MvAt (upd Hi pd (.dT kv2)) ts (cs.map pr):=mD.upd (fun m z=>by rw [c5] at z; cases z)
    have go:∀ {ts:List Addr} {ms:List (List V)},MvAt (upd Hi pd (.dT kv2)) ts ms→MvAt (dropL (upd Hi pd (.dT kv2)) ds) ts ms:=by
     intro ts
     induction ts with
     | nil=>intro ms h; cases ms with
      | nil=>exact h
      | cons _ _=>exact h.elim
     | cons x ts ih=>intro ms h; cases ms with
      | nil=>exact h.elim
      | cons m ms =>
       refine ⟨dropL_at (fun z=>?_) h.1,ih h.2⟩
       refine bC fun g_=>?_
       obtain ⟨o,e,no⟩:=hds x z
       refine g_ ?_
       clear g_
       have e2:=sF _ _ e
       rw [h.1] at e2
       exact no m (Option.some.inj e2).symm
    exact go m2
end
noncomputable def HB (rows:List (List Int)):Prop:=∀ c,ins rows c=true→hgt rows c≤1000
theorem mxD_le {l:List Int} {z:Int} (h0:0≤z) (h:∀ v∈l,v≤z):mxD 0 l≤z:=by
 cases l with
 | nil=>exact h0
 | cons a r=>exact h _ (mxF_mem r a)
theorem HB.cuts {rows:List (List Int)} (R:Rect rows) (h:HB rows) {os:List ((Int×Int)×Int)} (ho:∀ o∈os,ins rows o.1=true):HB (cutsF rows os):=fun c hc=>by
 have hc':ins rows c=true:=by rw [(cuts_alike os rows).ins]; exact hc
 exact Int.le_trans ((le_cuts os rows R ho hc' _).mp (Int.le_refl _)).1 (h c hc')
structure StIn (CC:Addr) (H:Hp) (A:PA) (R:Addr) (rs:List Addr) (rows:List (List Int)):Prop where
 cl:ClAt CC H A.st R rs rows
 nd:rs.Nodup
 nR:R ∉ rs
 hb:HB rows
 sdR:A.sd≠R
 mvR:A.mv≠R
 sd:A.sd ∉ rs
 mv:A.mv ∉ rs
theorem StIn.same {CC:Addr} {H H':Hp} {A:PA} {R:Addr} {rs:List Addr} {rows:List (List Int)} (h:StIn CC H A R rs rows) (s:Same H H'):StIn CC H' A R rs rows:=⟨h.cl.same s,h.nd,h.nR,h.hb,h.sdR,h.mvR,h.sd,h.mv⟩
theorem StIn.kp {CV CC:Addr} {nd:List Int} {H H':Hp} {A:PA} {R:Addr} {rs:List Addr} {rows:List (List Int)} {n:Nat} (h:StIn CC H A R rs rows) (P:PlIn CV nd H A n) (k:Kp [A.sd,A.mv] H H'):StIn CC H' A R rs rows:=by
 refine bC fun g_=>?_
 obtain ⟨dx,o⟩:=h.cl.ob
 obtain ⟨x,y,z,e1⟩:=P.sd
 obtain ⟨ts,ms,e2,_⟩:=P.mv
 refine g_ ?_
 clear g_
 have n1:∀ x,x≠A.sd→x≠A.mv→x ∉ [A.sd,A.mv]:=fun x a b z=>by
  simp only [List.mem_cons,List.not_mem_nil,or_false] at z
  rcases z with z | z
  ·exact a z
  ·exact b z
 refine ⟨⟨⟨dx,k _ _ (n1 _ (ne_of o e1 (fun z=>nomatch z)) (ne_of o e2 (fun z=>nomatch z))) o⟩,k _ _ (n1 _ (Ne.symm h.sdR) (Ne.symm h.mvR)) h.cl.hR,h.cl.ra.keep fun r hr o e=>k _ _ (n1 _ (fun z=>h.sd (by rw [← z]; exact hr)) (fun z=>h.mv (by rw [← z]; exact hr))) e⟩,h.nd,h.nR,h.hb,h.sdR,h.mvR,h.sd,h.mv⟩
theorem PlIn.tup {CV:Addr} {nd:List Int} {H H':Hp} {A:PA} {n:Nat} {x:Addr} {m:List V} (P:PlIn CV nd H A n) (k:Kp [A.sd,A.mv] H H') (e:H x=some (.tup m)):H' x=some (.tup m):=by
 refine bC fun g_=>?_
 obtain ⟨_,_,_,e1⟩:=P.sd
 obtain ⟨ts,ms,e2,_⟩:=P.mv
 refine g_ ?_
 clear g_
 refine k _ _ (fun z=>?_) e
 simp only [List.mem_cons,List.not_mem_nil,or_false] at z
 rcases z with rfl | rfl
 ·rw [e] at e1; cases e1
 ·rw [e] at e2; cases e2
theorem MvAt.keepT {H H':Hp} (k:∀ x m,H x=some (.tup m)→H' x=some (.tup m)):∀ {ts:List Addr} {ms:List (List V)},MvAt H ts ms→MvAt H' ts ms
 | [],[],h=>h
 | _ :: _,_ :: _,h=>⟨k _ _ h.1,MvAt.keepT k h.2⟩
 | [],_ :: _,h=>h.elim
 | _ :: _,[],h=>h.elim
theorem PlIn.kpR {CV:Addr} {nd:List Int} {H H':Hp} {A:PA} {n:Nat} {rs:List Addr} {rows:List (List Int)} (P:PlIn CV nd H A n) (ra:RowsAt H rs rows) (n1:A.sd ∉ rs) (n2:A.mv ∉ rs) (k:Kp rs H H'):PlIn CV nd H' A n:=by
 refine bC fun g_=>?_
 obtain ⟨⟨dx,a⟩,⟨x,y,z,b⟩,ts,ms,c,d,e,f⟩:=P
 refine g_ ?_
 clear g_
 refine ⟨⟨dx,k _ _ (fun z=>?_) a⟩,⟨x,y,z,k _ _ n1 b⟩,ts,ms,k _ _ n2 c,d.keepT fun x m e=>k _ _ (ra.out e) e,e,f⟩
 obtain ⟨xs,hx⟩:=ra.mem z
 rw [a] at hx
 cases hx
section
variable {f:Addr} {fd':FuncData}
inductive PspSweep (CV CC:Addr) (nd:List Int) (vs:List V) (H:Hp) (Q:VK):Prop
 | mk (A:PA) (n:Nat) (ct rn R:Addr) (rs:List Addr) (rows:List (List Int)) (t:Tool) (a b y low:Int) (h0:vs=[.ref A.pl,.ref ct,.ref rn,.int y,.int low]) (h1:PlIn CV nd H A n) (h2:StIn CC H A R rs rows) (h3:CtAt H ct t) (h4:H rn=some (.tup (pr (a,b)))) (h5:RunOk rows y a b) (h6:rows.length≤40) (h7:0≤low) (h8:t.1.length≤100) (h9:t.2≤1000) (h10:n < 14000000) (h11:Rect rows)
   (h12:∀ (H':Hp) (rows':List (List Int)),Kp (A.sd :: A.mv :: rs) H H'→PlIn CV nd H' A (n + 2006)→StIn CC H' A R rs rows'→Alike rows rows'→Q .non H'):PspSweep CV CC nd vs H Q
noncomputable def spSweep (CV CC:Addr) (nd:List Int):Sp:=fun vs H Q Z=>PspSweep CV CC nd vs H Q
theorem scSweep:FnScope ["self","cutter","run","y","lowest","under","top","z"] ["self","cutter","run","y","lowest"] (defScope sSweep):=⟨rfl,rfl,rfl,by decide +kernel,rfl,by decide +kernel,by decide +kernel⟩
theorem ok_sweep {nd':List Int} (VV:VT K mg CV CC) (FG:Fn P w K mg base "greatest" 1 ["bed","cells"] spGreat) (FL:Fn P w K mg base "levels" 1 ["top","lowest","bite"] spLev) (MU:Mt P w K mg base CC "under" 2 ["self","foot","way"] (spUnd CC)) (MD:Mt P w K mg base CC "cut_down" 1 ["self","under","height"] (spDown CC))
  (MG:Mt P w K mg base CV "go_to" 1 ["self","kind","axis","to"] (spGo CV nd')) (MA:Mt P w K mg base CV "go_above" 2 ["self","x","y","z"] (spAbove CV nd')) (F:Fun K "sweep" "Plan.sweep" sSweep f fd'):FnOk P w K mg base (CX1 P w) 3 f fd' ["self","cutter","run","y","lowest"] (spSweep CV CC nd'):=by
 have nd:=scSweep.nd
 refine F.ok1 scSweep (fun vs H Q E h=>?_) (fun cdv A outer s H vs Q E hr h=>?_)
 ·refine bC fun g_=>?_
  obtain ⟨A,n,ct,rn,R,rs,rows,t,a,b,y,low,e1_,_⟩:=h
  refine g_ ?_
  clear g_
  obtain rfl:=e1_
  rfl
 refine bC fun g_=>?_
 obtain ⟨B,n,ct,rn,R,rs,rows,t,a,b,y,low,e2_,PI,SI,hct,hrn,ro,r40,l0,f100,bite,n14,rect,q⟩:=h
 refine g_ ?_
 clear g_
 obtain rfl:=e2_
 have hu:=hu_of' hr
 have hr1:Room 1 _:=hr.mono (by decide)
 refine ⟨_,(pss_cons (ps_set (i:=5) nd rfl (Or.inl rfl) (pf_meth MU (pe_fld (pv 0) rfl) hr (pass1 (E:=E)) (pa_cons (pe_ix (ix_tupK (K:=K) rfl) (pv 1) pe_int (fun Z Z=>rfl)) (pa_cons (pe_disp (pps_cons pe_str (pv 2) (pps_cons pe_str (pe_tup (pa_cons (pv 3) (pa_cons (pv 3) pa_nil))) pps_nil)) rfl rfl (by decide) (by decide)) pa_nil))))
  (pss_cons (ps_set (i:=6) nd rfl (Or.inl rfl) (pf_call FG hr1 rfl (pass1 (E:=E)) (pa_cons (pe_fld (pe_fld (pv 0) rfl) rfl) (pa_cons (pv 5) pa_nil))))
  (pss_cons (ps_if (pt_cmpR op_le (pv 6) (pv 4) (nomark _)) (pss_one ps_retN) pss_nil)
  (pss_cons (ps_expr (pf_meth MA (pv 0) hr (pass1 (E:=E)) (pa_cons (pe_ix (ix_tupK (K:=K) rfl) (pv 2) pe_int (fun Z Z=>rfl)) (pa_cons (pv 3) (pa_cons (pv 6) pa_nil)))))
  (pss_cons (ps_for own1 rfl (pi_listK (K:=K) rfl (pf_call FL hr1 rfl (pass1 (E:=E)) (pa_cons (pv 6) (pa_cons (pv 4) (pa_cons (pe_ix (ix_tupK (K:=K) rfl) (pv 1) pe_int (fun Z Z=>rfl)) pa_nil))))) (pg_name (i:=7) nd rfl (Or.inl rfl)) (pss_cons (ps_expr (pf_meth MG (pv 0) hr1 (pass1 (E:=E)) (pa_cons pe_str (pa_cons pe_str (pa_cons (pv 7) pa_nil)))))
  (pss_one (ps_expr (pf_meth MG (pv 0) hr1 (pass1 (E:=E)) (pa_cons pe_str (pa_cons pe_str (pa_cons (pe_op op_sub (pe_op op_add (pe_ix (ix_tupK (K:=K) rfl) (pv 2) pe_int (fun Z Z=>rfl)) (pe_ix (ix_tupK (K:=K) rfl) (pv 2) pe_int (fun Z Z=>rfl))) (pe_dget hu (pe_fld (pv 0) rfl) pe_str (fun Z Z=>rfl))) pa_nil))))))))
  (pss_one (ps_expr (pf_meth MD (pe_fld (pv 0) rfl) hr1 (pass1 (E:=E)) (pa_cons (pv 5) (pa_cons (pv 4) pa_nil)))))))))),?_⟩
 (try dsimp only [L2.cxK])
 refine bC fun g_=>?_
 obtain ⟨dx,ho⟩:=PI.ob
 obtain ⟨sx,hso⟩:=SI.cl.ob
 obtain ⟨ft,hc1,hc2⟩:=id hct
 refine g_ ?_
 clear g_
 have wl:=ro.w40
 have b1:=ro.b1
 have a0:=ro.a0
 have y0:=ro.y0
 have y1:=ro.y1
 have ab:=ro.ab
 refine ⟨B.pl,CV,dx,_,_,rfl,ho,VV.clV,VV.nStuff,rfl,B.st,sx,_,rfl,hso,rfl,ct,_,0,.ref ft,rfl,rfl,SqT.of hc1,rfl,fun wy hwy=>⟨le2,fun ty hty=>⟨?_,[(Sum.inr "x",.ref rn),(Sum.inr "y",.ref ty)],rfl,(show 2≤15 by decide),?_⟩⟩⟩
 ·rw [upd_ne (fun z=>by rw [z,upd_same] at hty; cases hty),upd_same]
 have nwt:ty≠wy:=fun z=>by rw [z,upd_same] at hty; cases hty
 have s2:Same H (upd (upd (upd H wy (.dK [])) ty (.tup [V.int y,.int y])) wy (.dK (mergeK [] [((Sum.inr "x":Key),V.ref rn),(Sum.inr "y",.ref ty)]))):=same_in ((same_upd hwy _).trans (same_upd hty _)) hwy
 have w2:upd (upd (upd H wy (.dK [])) ty (.tup [V.int y,.int y])) wy (.dK (mergeK [] [((Sum.inr "x":Key),V.ref rn),(Sum.inr "y",.ref ty)])) wy=some (.dK [(Sum.inr "x",.ref rn),(Sum.inr "y",.ref ty)]):=upd_same
 have t2:upd (upd (upd H wy (.dK [])) ty (.tup [V.int y,.int y])) wy (.dK (mergeK [] [((Sum.inr "x":Key),V.ref rn),(Sum.inr "y",.ref ty)])) ty=some (.tup [.int y,.int y]):=by rw [upd_ne nwt,upd_same]
 generalize upd (upd (upd H wy (.dK [])) ty (.tup [V.int y,.int y])) wy (.dK (mergeK [] [((Sum.inr "x":Key),V.ref rn),(Sum.inr "y",.ref ty)]))=H2 at s2 w2 t2
 obtain ⟨nx,hnx⟩:∃ nx:Nat,(nx:Int)=b + 1 - a:=⟨(b + 1 - a).toNat,by lia⟩
 refine ⟨B.st,R,ft,wy,rs,rows,t.1,a,y,nx,1,rfl,SI.cl.same s2,rect,hc2.same s2,⟨rn,ty,w2,?_,?_⟩,f100,(by lia),(by decide),(by lia),(by lia),(by lia),(by lia),fun u H3 nu s3 fu=>?_⟩
 ·rw [show a + (nx:Int) - 1=b by lia]
  exact s2 _ _ hrn
 ·rw [show y + ((1:Nat):Int) - 1=y by lia]
  exact t2
 have s03:=s2.trans s3
 have uin:∀ d∈undW rows t.1 a nx y 1,ins rows d=true:=fun d hd=>(mem_undW.mp hd).1
 have nuH:H u=none:=s2.free nu
 have csl:(undW rows t.1 a nx y 1).length≤4000:=by
  unfold undW
  refine Nat.le_trans (List.length_filter_le _ _) (Nat.le_trans (len_adds _ _) ?_)
  rw [cellsW_len]
  have e1:nx * t.1.length≤40 * 100:=Nat.mul_le_mul (by lia) f100
  show 0 + _≤_
  lia
 generalize undW rows t.1 a nx y 1=cs at fu uin csl
 have SI3:=SI.same s03
 have PI3:=PI.same s03
 clear w2 t2 hwy hty nwt
 have hR3:BdAt H3 R rows:=⟨rs,SI3.cl.hR,SI3.cl.ra⟩
 refine bC fun g_=>?_
 obtain ⟨dx3,ho3⟩:=PI3.ob
 obtain ⟨sx3,hso3⟩:=SI3.cl.ob
 refine g_ ?_
 clear g_
 refine ⟨B.pl,CV,dx3,_,_,rfl,ho3,VV.clV,VV.nStuff,rfl,B.st,CC,sx3,_,_,rfl,hso3,VV.clC,VV.nRows,rfl,R,u,rows,cs,rfl,hR3,rect,fu,by lia,uin,fun H4 s4=>?_⟩
 have s04:=s03.trans s4
 have SI4:=SI3.same s4
 have PI4:=PI3.same s4
 have fu4:=fu.same s4
 have top1:mxD 0 (cs.map (hgt rows))≤1000:=mxD_le (by decide) fun v hv=>by
  obtain ⟨d,hd,rfl⟩:=List.mem_map.mp hv
  exact SI.hb d (uin d hd)
 generalize mxD 0 (cs.map (hgt rows))=top at top1
 refine ?_
 refine ite2 (fun Z=>?_) (fun h1=>?_)
 ·exact q H4 rows (Kp.of s04) (PI4.more (by lia)) SI4 (Alike.refl _)
 have lt:low < top:=Int.not_le.mp fun z=>h1 (decide_eq_true z)
 obtain ⟨dx4,ho4⟩:=PI4.ob
 refine ⟨B.pl,dx4,_,rfl,ho4,rfl,rn,_,0,.int a,rfl,rfl,SqT.of (s04 _ _ hrn),rfl,B,n,a,y,top,rfl,PI4,by lia,fun H5 k5 PI5=>?_⟩
 have hct5:H5 ct=some (.tup [.ref ft,.int t.2]):=PI4.tup k5 (s04 _ _ hc1)
 refine ⟨ct,_,1,.int t.2,rfl,rfl,SqT.of hct5,rfl,top,low,t.2,rfl,l0,lt,top1,bite,fun D ys H6 s6 nD hD yl=>?_⟩
 have k6:Kp [B.sd,B.mv] H4 H6:=k5.trans (Kp.of s6)
 have PI6:=PI5.same s6
 have nD4:D ∉ [B.sd,B.mv]:=fun z=>by
  refine bC fun g_=>?_
  obtain ⟨_,_,_,e1⟩:=PI5.sd
  obtain ⟨_,_,e2,_⟩:=PI5.mv
  refine g_ ?_
  clear g_
  simp only [List.mem_cons,List.not_mem_nil,or_false] at z
  rcases z with rfl | rfl
  ·rw [nD] at e1; cases e1
  ·rw [nD] at e2; cases e2
 refine ⟨D,rfl,⟨_,SqL.of hD⟩,?_⟩
 refine for_list (K:=K) (a:=D) (xs:=ys.map V.int) (fun k σ Hk=>∃ x7:Option V,σ=[some (.ref B.pl),some (.ref ct),some (.ref rn),some (.int y),some (.int low),some (.ref u),some (.int top),x7]∧Kp [B.sd,B.mv] H6 Hk∧PlIn CV nd' Hk B (n + 4 + 2 * k)) ⟨none,rfl,fun Z Z Z e=>e,PI6⟩ (fun k σ Hk _ ⟨_,_,kk,_⟩=>SqL.of (kk _ _ nD4 hD)) ?_ ?_
 ·rintro k v σ Hk hx h_
  refine bC fun g_=>?_
  obtain ⟨x7,e4_,kk,PIk⟩:=h_
  refine g_ ?_
  clear g_
  obtain rfl:=e4_
  have hk:k < ys.length:=by have:=(List.getElem?_eq_some_iff.mp hx).1; rw [List.length_map] at this; exact this
  rw [List.getElem?_map] at hx
  refine bC fun g_=>?_
  obtain ⟨z,ez,e5_⟩:=Option.map_eq_some_iff.mp hx
  obtain ⟨dx7,ho7⟩:=PIk.ob
  refine g_ ?_
  clear g_
  obtain rfl:=e5_
  refine ⟨B.pl,dx7,_,rfl,ho7,rfl,B,n + 4 + 2 * k,"slow","z",z,rfl,nhs,.inr (.inr rfl),PIk,by lia,fun H8 k8 PI8=>?_⟩
  refine bC fun g_=>?_
  obtain ⟨dx8,ho8⟩:=PI8.ob
  obtain ⟨sx8,sy8,sz8,hsd8⟩:=PI8.sd
  refine g_ ?_
  clear g_
  have hrn8:=PIk.tup k8 (PI6.tup kk (PI4.tup k6 (s04 _ _ hrn)))
  have g:=DGet.k (k:=Sum.inr "x") hsd8
  refine ⟨B.pl,dx8,_,rfl,ho8,rfl,rn,_,0,.int a,rfl,rfl,SqT.of hrn8,rfl,rn,_,1,.int b,rfl,rfl,SqT.of hrn8,rfl,B.pl,CV,dx8,_,_,rfl,ho8,VV.clV,VV.nStands,rfl,B.sd,.int sx8,rfl,g,B,n + 4 + 2 * k + 1,"slow","x",_,rfl,nhs,.inl rfl,PI8,by lia,fun H9 k9 PI9=>?_⟩
  exact ⟨_,rfl,(kk.trans k8).trans k9,PI9.more (by lia)⟩
 ·rintro σ Hk h_
  refine bC fun g_=>?_
  obtain ⟨x7,e6_,kk,PIk⟩:=h_
  refine g_ ?_
  clear g_
  obtain rfl:=e6_
  rw [List.length_map] at PIk
  have k4k:=k6.trans kk
  have SIk:=SI4.kp PI4 k4k
  refine bC fun g_=>?_
  obtain ⟨dxk,hok⟩:=PIk.ob
  obtain ⟨sxk,hsok⟩:=SIk.cl.ob
  refine g_ ?_
  clear g_
  have nu4:u ∉ [B.sd,B.mv]:=fun z=>by
   refine bC fun g_=>?_
   obtain ⟨_,_,_,e1⟩:=PI.sd
   obtain ⟨_,_,e2,_⟩:=PI.mv
   refine g_ ?_
   clear g_
   simp only [List.mem_cons,List.not_mem_nil,or_false] at z
   rcases z with rfl | rfl
   ·rw [nuH] at e1; cases e1
   ·rw [nuH] at e2; cases e2
  have fuk:FtAt Hk u cs:=by
   refine bC fun g_=>?_
   obtain ⟨us,e1,e2⟩:=fu4
   refine g_ ?_
   clear g_
   exact ⟨us,k4k _ _ nu4 e1,e2.keepT fun x m e=>PI4.tup k4k e⟩
  have nurs:u ∉ rs:=fun z=>by
   obtain ⟨xs,hx⟩:=SI.cl.ra.mem z
   rw [nuH] at hx
   cases hx
  refine ⟨B.pl,CV,dxk,_,_,rfl,hok,VV.clV,VV.nStuff,rfl,B.st,sxk,_,rfl,hsok,rfl,B.st,R,u,rs,rows,cs,low,rfl,SIk.cl,rect,SIk.nd,SIk.nR,nurs,fuk,uin,fun H9 k9 ra9=>?_⟩
  have al:Alike rows (dwn rows cs low).1:=by
   unfold dwn
   rw [dwn_fst]
   exact cuts_alike _ _
  have hb9:HB (dwn rows cs low).1:=by
   unfold dwn
   rw [dwn_fst]
   refine SI.hb.cuts rect fun o ho=>?_
   obtain ⟨d,hd,rfl⟩:=List.mem_map.mp ho
   exact uin d hd
  have nst:B.st ∉ rs:=fun z=>by
   obtain ⟨xs,hx⟩:=SIk.cl.ra.mem z
   rw [hsok] at hx
   cases hx
  refine q H9 (dwn rows cs low).1 (fun x o nx e=>k9 _ _ (fun z=>nx (List.mem_cons_of_mem _ (List.mem_cons_of_mem _ z))) (k4k _ _ (fun z=>nx ?_) (s04 _ _ e))) ((PIk.kpR SIk.cl.ra SI.sd SI.mv k9).more (by lia)) ⟨⟨⟨sxk,k9 _ _ nst hsok⟩,k9 _ _ SI.nR SIk.cl.hR,ra9⟩,SI.nd,SI.nR,hb9,SI.sdR,SI.mvR,SI.sd,SI.mv⟩ al
  simp only [List.mem_cons,List.not_mem_nil,or_false] at z
  rcases z with z | z
  ·rw [z]
   exact List.mem_cons_self
  ·rw [z]
   exact List.mem_cons_of_mem _ List.mem_cons_self
end
theorem MvAt.unsnoc {H:Hp} {t:Addr} {m:List V}:∀ {ts:List Addr} {ms:List (List V)},ts.length=ms.length→MvAt H (ts++[t]) (ms++[m])→MvAt H ts ms∧H t=some (.tup m)
 | [],[],_,h=>⟨True.intro,h.1⟩
 | _ :: _,_ :: _,e,h=>by
  obtain ⟨a,b⟩:=MvAt.unsnoc (Nat.succ.inj e) h.2
  exact ⟨⟨h.1,a⟩,b⟩
 | [],_ :: _,e,_=>by cases e
 | _ :: _,[],e,_=>by cases e
theorem rlens_app:∀ (a b:List (Int×Int)),rlens (a++b)=rlens a + rlens b
 | [],b=>(Nat.zero_add _).symm
 | p :: a,b=>by
  show rlen p + rlens (a++b)=rlen p + rlens a + rlens b
  rw [rlens_app a b,Nat.add_assoc]
theorem RunOk.like {a b:List (List Int)} {y x1 x2:Int} (h:RunOk a y x1 x2) (al:Alike a b) (R:Rect a):RunOk b y x1 x2:=by
 have e:(b.headD []).length=(a.headD []).length:=by
  obtain ⟨r0,ra,er⟩:∃ r0 ra,a=r0 :: ra:=by
   cases a with
   | nil=>exact absurd rfl R.1
   | cons r0 ra=>exact ⟨r0,ra,rfl⟩
  obtain ⟨s0,sb,es⟩:∃ s0 sb,b=s0 :: sb:=by
   cases b with
   | nil=>have:=al.1; rw [er] at this; cases this
   | cons s0 sb=>exact ⟨s0,sb,rfl⟩
  have:=al.2 0 r0 s0 (by rw [er]; rfl) (by rw [es]; rfl)
  rw [er,es]
  exact this.symm
 exact ⟨h.y0,by have:=h.y1; rw [al.1] at this; exact this,h.a0,by rw [e]; exact h.b1,by rw [e]; exact h.w40,h.ab⟩
theorem PlIn.lst {CV:Addr} {nd:List Int} {H:Hp} {A:PA} {n:Nat} {rl:Addr} {xs ys:List V} (P:PlIn CV nd H A n) (e:H rl=some (.lst xs)) (ne:rl≠A.mv):PlIn CV nd (upd H rl (.lst ys)) A n:=by
 refine bC fun g_=>?_
 obtain ⟨⟨dx,a⟩,⟨x,y,z,b⟩,ts,ms,c,d,l,f⟩:=P
 refine g_ ?_
 clear g_
 exact ⟨⟨dx,by rw [upd_ne (ne_of a e (fun z=>nomatch z))]; exact a⟩,⟨x,y,z,by rw [upd_ne (ne_of b e (fun z=>nomatch z))]; exact b⟩,ts,ms,by rw [upd_ne (Ne.symm ne)]; exact c,d.upd (sbn e),l,f⟩
theorem StIn.lst {CC:Addr} {H:Hp} {A:PA} {R rl:Addr} {rs:List Addr} {rows:List (List Int)} {xs ys:List V} (h:StIn CC H A R rs rows) (e:H rl=some (.lst xs)) (n1:rl ∉ rs) (n2:rl≠R):StIn CC (upd H rl (.lst ys)) A R rs rows:=by
 obtain ⟨dx,o⟩:=h.cl.ob
 exact ⟨⟨⟨dx,by rw [upd_ne (ne_of o e (fun z=>nomatch z))]; exact o⟩,by rw [upd_ne (Ne.symm n2)]; exact h.cl.hR,h.cl.ra.keep fun r hr o e=>by rw [upd_ne (fun z=>n1 (by rw [← z]; exact hr))]; exact e⟩,h.nd,h.nR,h.hb,h.sdR,h.mvR,h.sd,h.mv⟩
section
variable {f:Addr} {fd':FuncData}
inductive PspRow (CV CC CS:Addr) (nd:List Int) (vs:List V) (H:Hp) (Q:VK):Prop
 | mk (A:PA) (B:SA) (n:Nat) (R:Addr) (rs:List Addr) (wished rows:List (List Int)) (lw:Int×Int→Int) (t:Tool) (y:Int) (h0:vs=[.ref A.pl,.ref B.sr,.int y]) (h1:PlIn CV nd H A n) (h2:StIn CC H A R rs rows) (h3:ShrIn CS wished lw (dropL H (A.sd :: A.mv :: rs)) B) (h4:CtAt (dropL H (A.sd :: A.mv :: rs)) B.ct t) (h5:Alike wished rows) (h6:Rect wished) (h7:wished.length≤40) (h8:(wished.headD []).length≤40) (h9:0≤y) (h10:y < wished.length) (h11:∀ c,ins wished c=true→0≤lw c)
   (h12:t.1.length≤100) (h13:t.2≤1000) (h14:n < 13000000) (h15:∀ (H':Hp) (rows':List (List Int)),Same (dropL H (A.sd :: A.mv :: rs)) H'→PlIn CV nd H' A (n + 80240)→StIn CC H' A R rs rows'→Alike wished rows'→Q .non H'):PspRow CV CC CS nd vs H Q
noncomputable def spRow (CV CC CS:Addr) (nd:List Int):Sp:=fun vs H Q Z=>PspRow CV CC CS nd vs H Q
theorem scRow:FnScope ["self","share","y","runs","run","lowest"] ["self","share","y"] (defScope sRow):=⟨rfl,rfl,rfl,by decide +kernel,rfl,by decide +kernel,by decide +kernel⟩
inductive RowW (CV CC:Addr) (nd:List Int) (G:Hp) (A:PA) (n:Nat) (R rl:Addr) (rs:List Addr) (wished:List (List Int)) (y:Int) (m:Nat) (Hk:Hp):Prop
 | mk (ps:List (Int×Int)) (us:List Addr) (rows:List (List Int)) (h0:m=ps.length + 2 * rlens ps) (h1:Hk rl=some (.lst (us.map V.ref))) (h2:MvAt Hk us (ps.map pr)) (h3:∀ p∈ps,RunOk wished y p.1 p.2) (h4:Same G Hk) (c:Nat) (h5:PlIn CV nd Hk A c) (h6:c + 2006 * rlens ps≤n + 80240) (h7:StIn CC Hk A R rs rows) (h8:Alike wished rows) (h9:ps.length + 2 * rlens ps≤100):RowW CV CC nd G A n R rl rs wished y m Hk
theorem ok_row {nd':List Int} (T:LawT mg) (VV:VT K mg CV CC) (SH:SHT K CS) (MT:Mt P w K mg base CS "trimmed" 2 ["self","run","y","rows"] (spTrim CS)) (ML:Mt P w K mg base CS "lowest_along" 1 ["self","run","y"] (spAlong CS)) (MP:Mt P w K mg base CS "parts_below" 1 ["self","run","y","lowest"] (spParts CS))
  (MS:Mt P w K mg base CV "sweep" 3 ["self","cutter","run","y","lowest"] (spSweep CV CC nd')) (F:Fun K "do_row" "Plan.do_row" sRow f fd'):FnOk P w K mg base (CX1 P w) 4 f fd' ["self","share","y"] (spRow CV CC CS nd'):=by
 have nd:=scRow.nd
 refine F.ok1 scRow (fun vs H Q E h=>?_) (fun cdv A outer s H vs Q E hr h=>?_)
 ·refine bC fun g_=>?_
  obtain ⟨A,B,n,R,rs,wished,rows,lw,t,y,e1_,_⟩:=h
  refine g_ ?_
  clear g_
  obtain rfl:=e1_
  rfl
 refine bC fun g_=>?_
 obtain ⟨A0,B,n,R,rs,wished,rows,lw,t,y,e2_,PI,SI,SH0,hct,al,rect,r40,w40,y0,y1,lw0,f100,bite,n13,q⟩:=h
 refine g_ ?_
 clear g_
 obtain rfl:=e2_
 have hr1:Room 1 _:=hr.mono (by decide)
 have hr2:Room 2 _:=hr.mono (by decide)
 refine ⟨_,(pss_cons (ps_set (i:=3) nd rfl (Or.inl rfl) (pe_lst (pa_cons (pe_tup (pa_cons pe_int (pa_cons (pe_op op_sub (pe_callB (call_lenK (K:=K) rfl) rfl T.len PySem.boot_len (pa_cons (pe_ix (ix_listK (K:=K) rfl) (pe_fld (pe_fld (pv 0) rfl) rfl) (pv 2) (fun Z Z=>rfl)) pa_nil)) pe_int) pa_nil))) pa_nil)))
  (pss_one (ps_while own1 (pt_truth (pv 3) (fun Z=>rfl)) (pss_cons (ps_set (i:=4) nd rfl (Or.inl rfl) (pf_meth MT (pv 1) hr2 (pass1 (E:=E)) (pa_cons (pe_bm0 PySem.F.plainAttrs_list PySem.F.slot_list_pop PySem.F.type_list_pop mt_pop (pv 3)) (pa_cons (pv 2) (pa_cons (pe_fld (pe_fld (pv 0) rfl) rfl) pa_nil)))))
  (pss_one (ps_if (pt_cmpR op_notN (pv 4) pe_non (nomark _)) (pss_cons (ps_set (i:=5) nd rfl (Or.inl rfl) (pf_meth ML (pv 1) hr1 (pass1 (E:=E)) (pa_cons (pv 4) (pa_cons (pv 2) pa_nil))))
  (pss_cons (ps_expr (pf_meth MS (pv 0) hr (pass1 (E:=E)) (pa_cons (pe_fld (pv 1) rfl) (pa_cons (pv 4) (pa_cons (pv 2) (pa_cons (pv 5) pa_nil))))))
  (pss_one (ps_expr (pe_bm PySem.F.plainAttrs_list PySem.F.slot_list_extend PySem.F.type_list_extend mt_extend (pv 3) (pa_cons (pf_meth MP (pv 1) hr1 (pass1 (E:=E)) (pa_cons (pv 4) (pa_cons (pv 2) (pa_cons (pv 5) pa_nil)))) pa_nil)))))) pss_nil)))))),?_⟩
 (try dsimp only [L2.cxK])
 refine abs_seq fun dE eE=>?_
 refine bC fun g_=>?_
 obtain ⟨dx,ho⟩:=PI.ob
 obtain ⟨sx,hso⟩:=SI.cl.ob
 refine g_ ?_
 clear g_
 obtain ⟨iy,rfl⟩:∃ iy:Nat,y=(iy:Int):=⟨y.toNat,by lia⟩
 have rect2:=al.rect rect
 have hy:iy < rows.length:=by rw [← al.1]; lia
 obtain ⟨r,hr',hrl⟩:=SI.cl.ra.at_ (List.getElem?_eq_getElem hy)
 have rw0:=rect2.2 _ (List.getElem_mem hy)
 generalize rows[iy]=row at hrl rw0
 have ro0:RunOk wished iy 0 ((wished.headD []).length - 1):=⟨y0,y1,Int.le_refl _,by lia,w40,by lia⟩
 have wd:(rows.headD []).length=(wished.headD []).length:=by
  have r1:=ro0.like al rect
  have:=r1.b1
  have r2:RunOk rows iy 0 ((rows.headD []).length - 1):=⟨y0,by rw [← al.1]; exact y1,Int.le_refl _,by lia,r1.w40,by lia⟩
  have:=(r2.like ⟨al.1.symm,fun i r s x y=>(al.2 i s r y x).symm⟩ rect2).b1
  lia
 have G0:Same (dropL H (A0.sd :: A0.mv :: rs)) H:=dropL_le
 refine ⟨A0.pl,CV,dx,_,_,rfl,ho,VV.clV,VV.nStuff,rfl,A0.st,CC,sx,_,_,rfl,hso,VV.clC,VV.nRows,rfl,R,_,_,.ref r,rfl,rfl,SqL.of SI.cl.hR,atI_nat (by rw [List.getElem?_map,hr']; rfl),r,_,rfl,.inl (SqL.of hrl),le2,fun t0 ht0=>?_⟩
 have u1:=same_upd ht0 (.tup [V.int 0,.int (((row.map V.int).length:Int) - 1)])
 have e0:((row.map V.int).length:Int) - 1=((wished.headD []).length:Int) - 1:=by rw [List.length_map,rw0,wd]
 refine ⟨le1,fun rl hrl'=>?_⟩
 have u2:=u1.trans (same_upd hrl' (.lst [V.ref t0]))
 have nrl:H rl=none:=u1.free hrl'
 have grl:dropL H (A0.sd :: A0.mv :: rs) rl=none:=by unfold dropL; split <;> first | rfl | exact nrl
 have W0:RowW CV CC nd' (dropL H (A0.sd :: A0.mv :: rs)) A0 n R rl rs wished iy (1 + 2 * rlen (0,((wished.headD []).length:Int) - 1)) (upd (upd H t0 (.tup [V.int 0,.int (((row.map V.int).length:Int) - 1)])) rl (.lst [V.ref t0])):=by
  refine ⟨[(0,((wished.headD []).length:Int) - 1)],[t0],rows,rfl,upd_same,⟨?_,True.intro⟩,(fun p hp=>by rw [List.mem_singleton.mp hp]; exact ro0),G0.trans u2,n,PI.same u2,?_,SI.same u2,al,?_⟩
  ·rw [upd_ne (fun z=>by rw [z,upd_same] at hrl'; cases hrl'),upd_same,e0]
  ·show n + 2006 * (rlen (0,((wished.headD []).length:Int) - 1) + 0)≤_
   unfold rlen
   dsimp only
   lia
  ·show 1 + 2 * (rlen (0,((wished.headD []).length:Int) - 1) + 0)≤100
   unfold rlen
   dsimp only
   lia
 generalize upd (upd H t0 (.tup [V.int 0,.int (((row.map V.int).length:Int) - 1)])) rl (.lst [V.ref t0])=H2 at W0
 have nrl3:rl≠A0.sd∧rl≠A0.mv∧rl ∉ rs∧rl≠R:=by
  refine bC fun g_=>?_
  obtain ⟨_,_,_,e1⟩:=PI.sd
  obtain ⟨_,_,e2,_⟩:=PI.mv
  refine g_ ?_
  clear g_
  refine ⟨fun z=>?_,fun z=>?_,fun z=>?_,fun z=>?_⟩
  ·rw [← z,nrl] at e1; cases e1
  ·rw [← z,nrl] at e2; cases e2
  ·obtain ⟨xs,hx⟩:=SI.cl.ra.mem z
   rw [nrl] at hx; cases hx
  ·have:=SI.cl.hR
   rw [← z,nrl] at this; cases this
 clear u1 u2 e0 ht0 hrl' G0 hr' hrl rw0 wd ro0 hy ho hso
 refine nxS1 eE ?_
 refine ⟨fun m σ Hk=>∃ x4 x5:Option V,σ=[some (.ref A0.pl),some (.ref B.sr),some (.int iy),some (.ref rl),x4,x5]∧RowW CV CC nd' (dropL H (A0.sd :: A0.mv :: rs)) A0 n R rl rs wished iy m Hk,⟨_,none,none,rfl,W0⟩,?_⟩
 rintro m σ Hk h_
 refine bC fun g_=>?_
 obtain ⟨x4,x5,e3_,ps,us,rowk,e4_,hrl,mv,rok,sk,c,PIk,cn,SIk,alk,pl100⟩:=h_
 refine g_ ?_
 clear g_
 obtain rfl:=e3_
 obtain rfl:=e4_
 refine ⟨_,.inl ⟨_,SqL.of hrl,rfl⟩,?_⟩
 have ul:us.length=ps.length:=by rw [mv.len,List.length_map]
 by_cases emp:us=[]
 ·subst emp
  exact q Hk rowk sk (PIk.more (by lia)) SIk alk
 have ne:ps≠[]:=fun z=>by rw [z] at ul; exact emp (List.eq_nil_of_length_eq_zero ul)
 have tr:(!(us.map V.ref).isEmpty)=true:=by
  cases us with
  | nil=>exact absurd rfl emp
  | cons _ _=>rfl
 rw [tr]
 obtain ⟨ps',p,eps⟩:∃ ps' p,ps=ps'++[p]:=⟨_,_,(List.dropLast_concat_getLast ne).symm⟩
 obtain ⟨us',ur,eus⟩:∃ us' ur,us=us'++[ur]:=⟨_,_,(List.dropLast_concat_getLast emp).symm⟩
 subst eps eus
 rw [List.map_append] at mv
 have ul':us'.length=(ps'.map pr).length:=by
  rw [List.length_append,List.length_append] at ul
  rw [List.length_map]
  exact Nat.succ.inj ul
 obtain ⟨mv',hur⟩:=MvAt.unsnoc (m:=pr p) ul' mv
 have rop:=rok p (List.mem_append_right _ (List.mem_singleton.mpr rfl))
 have rok':∀ p∈ps',RunOk wished iy p.1 p.2:=fun x hx=>rok x (List.mem_append_left _ hx)
 rw [rlens_app,show rlens [p]=rlen p from Nat.add_zero _] at cn
 rw [rlens_app,show rlens [p]=rlen p from Nat.add_zero _,List.length_append,show [p].length=1 from rfl]
 rw [rlens_app,show rlens [p]=rlen p from Nat.add_zero _,List.length_append,show [p].length=1 from rfl] at pl100
 refine ⟨fun σ' H'=>∃ m',m' < ps'.length + 1 + 2 * (rlens ps' + rlen p)∧∃ x4 x5:Option V,σ'=[some (.ref A0.pl),some (.ref B.sr),some (.int iy),some (.ref rl),x4,x5]∧RowW CV CC nd' (dropL H (A0.sd :: A0.mv :: rs)) A0 n R rl rs wished iy m' H',fun Z Z h=>h,?_⟩
 refine bC fun g_=>?_
 obtain ⟨n1,n2,n3,n4⟩:=nrl3
 refine g_ ?_
 clear g_
 have SHk:=SH0.same sk
 obtain ⟨sdx,hsr⟩:=SHk.ob
 refine abs_seq fun dE eE=>?_
 refine ⟨B.sr,sdx,_,rfl,hsr,rfl,.inl ⟨rfl,_,SqL.of hrl⟩,rl,_,.ref ur,rfl,rfl,hrl,(by simp),?_⟩
 rw [show ((us'++[ur]).map V.ref).dropLast=us'.map V.ref by simp]
 have PI3:=PIk.lst (ys:=us'.map V.ref) hrl n2
 have SI3:=SIk.lst (ys:=us'.map V.ref) hrl n3 n4
 have s3:Same (dropL H (A0.sd :: A0.mv :: rs)) (upd Hk rl (.lst (us'.map V.ref))):=same_in sk grl
 have hur3:upd Hk rl (.lst (us'.map V.ref)) ur=some (.tup (pr p)):=by rw [upd_ne (ne_of hur hrl (fun z=>nomatch z))]; exact hur
 have mv3:MvAt (upd Hk rl (.lst (us'.map V.ref))) us' (ps'.map pr):=mv'.upd (sbn hrl)
 have rl3:upd Hk rl (.lst (us'.map V.ref)) rl=some (.lst (us'.map V.ref)):=upd_same
 generalize upd Hk rl (.lst (us'.map V.ref))=H3 at PI3 SI3 s3 hur3 mv3 rl3
 clear mv' mv hrl PIk SIk SHk hsr sk hur rok
 refine bC fun g_=>?_
 obtain ⟨dx3,ho3⟩:=PI3.ob
 obtain ⟨sx3,hso3⟩:=SI3.cl.ob
 refine g_ ?_
 clear g_
 have bd3:BdAt H3 R rowk:=⟨rs,SI3.cl.hR,SI3.cl.ra⟩
 refine ⟨A0.pl,CV,dx3,_,_,rfl,ho3,VV.clV,VV.nStuff,rfl,A0.st,CC,sx3,_,_,rfl,hso3,VV.clC,VV.nRows,rfl,B,ur,R,iy,p.1,p.2,wished,rowk,lw,rfl,SH0.same s3,hur3,rop,bd3,alk,rect,fun H4 s4=>?_,fun tp a' b' H4 s4 htp a1 a2 a3=>?_⟩
 ·-- nothing is due there
  refine nxS1 eE ?_
  refine ⟨rfl,?_⟩
  exact ⟨_,Nat.lt_of_lt_of_le (show ps'.length + 2 * rlens ps' < _ by lia) (Nat.le_refl _),_,_,rfl,ps',us',rowk,rfl,s4 _ _ rl3,mv3.same s4,rok',s3.trans s4,c,PI3.same s4,by lia,SI3.same s4,alk,by lia⟩
 ·have ro4:RunOk wished iy a' b':=⟨rop.y0,rop.y1,Int.le_trans rop.a0 a1,Int.lt_of_le_of_lt a3 rop.b1,w40,by lia⟩
  have s04:=s3.trans s4
  have SH4:=SH0.same s04
  obtain ⟨sdx4,hsr4⟩:=SH4.ob
  refine nxS1 eE ?_
  refine ⟨rfl,?_⟩
  refine ⟨B.sr,sdx4,_,rfl,hsr4,rfl,B,tp,iy,a',b',wished,lw,rfl,SH4,htp,ro4,a2,fun x H5 s5 xa xb=>?_⟩
  have s05:=s04.trans s5
  have PI5:=PI3.same (s4.trans s5)
  have SI5:=SI3.same (s4.trans s5)
  have SH5:=SH4.same s5
  have htp5:=s5 _ _ htp
  have rl5:=s5 _ _ (s4 _ _ rl3)
  have mv5:=(mv3.same s4).same s5
  refine bC fun g_=>?_
  obtain ⟨dx5,ho5⟩:=PI5.ob
  obtain ⟨sdx5,hsr5⟩:=SH5.ob
  refine g_ ?_
  clear g_
  have rle:rlen (a',b')≤rlen p:=by
   unfold rlen
   dsimp only
   lia
  have rl1:1≤rlen (a',b'):=by
   unfold rlen
   dsimp only
   lia
  refine ⟨A0.pl,dx5,_,rfl,ho5,rfl,B.sr,CS,sdx5,_,_,rfl,hsr5,SH.clS,SH.nCutter,rfl,A0,c,B.ct,tp,R,rs,rowk,t,a',b',iy,lw (x,iy),rfl,PI5,SI5,hct.same s05,htp5,ro4.like alk rect,(by rw [← alk.1]; exact r40),lw0 _ (ro4.ins xa xb),f100,bite,by lia,alk.rect rect,fun H6 rows6 k6 PI6 SI6 al6=>?_⟩
  have ex:∀ z,H5 z≠none→∀ m,H5 z=some (.tup m)→z ∉ A0.sd :: A0.mv :: rs:=fun z Z m e hz=>by
   refine bC fun g_=>?_
   obtain ⟨_,_,_,e1⟩:=PI5.sd
   obtain ⟨_,_,e2,_⟩:=PI5.mv
   refine g_ ?_
   clear g_
   rcases List.mem_cons.mp hz with rfl | hz
   ·rw [e] at e1; cases e1
   ·rcases List.mem_cons.mp hz with rfl | hz
    ·rw [e] at e2; cases e2
    ·exact SI5.cl.ra.out e hz
  have kt:∀ z m,H5 z=some (.tup m)→H6 z=some (.tup m):=fun z m e=>k6 _ _ (ex z (by rw [e]; simp) m e) e
  have s06:Same (dropL H (A0.sd :: A0.mv :: rs)) H6:=fun z o e=>by
   refine k6 _ _ (fun hz=>?_) (s05 _ _ e)
   unfold dropL at e
   rw [if_pos hz] at e
   cases e
  have rl6:H6 rl=some (.lst (us'.map V.ref)):=k6 _ _ (fun hz=>by
   rcases List.mem_cons.mp hz with z | hz
   ·exact n1 z
   ·rcases List.mem_cons.mp hz with z | hz
    ·exact n2 z
    ·exact n3 hz) rl5
  have mv6:=mv5.keepT kt
  have SH6:=SH0.same s06
  obtain ⟨sdx6,hsr6⟩:=SH6.ob
  refine ⟨.inl ⟨rfl,_,SqL.of rl6⟩,B.sr,sdx6,_,rfl,hsr6,rfl,B,tp,iy,a',b',x,wished,lw,rfl,SH6,kt _ _ htp5,ro4,xa,xb,fun D qs H7 s7 nD fD qin ql1 ql2=>?_⟩
  refine bC fun g_=>?_
  obtain ⟨ds,hD7,mD7⟩:=fD
  refine g_ ?_
  clear g_
  have dl:ds.length=qs.length:=by rw [mD7.len,List.length_map]
  have rl7:=s7 _ _ rl6
  have r40':rlen p≤40:=by
   have:=rop.a0
   have:=rop.b1
   unfold rlen
   lia
  have l100:(us'.map V.ref).length + (ds.map V.ref).length≤200:=by
   rw [List.length_map,List.length_map,dl,ul',List.length_map]
   lia
  refine ⟨rl,D,_,_,rfl,rfl,rl7,hD7,Nat.le_of_lt (line3 l100 (by decide)),?_⟩
  have PI7:=(PI6.same s7).lst (ys:=us'.map V.ref++ds.map V.ref) rl7 n2
  have SI7:=(SI6.same s7).lst (ys:=us'.map V.ref++ds.map V.ref) rl7 n3 n4
  refine ⟨ps'.length + qs.length + 2 * (rlens ps' + rlens qs),by lia,_,_,rfl,ps'++qs,us'++ds,rows6,?_,?_,?_,?_,same_in (s06.trans s7) grl,c + 2006,PI7,?_,SI7,alk.trans al6,?_⟩
  ·rw [List.length_append,rlens_app]
  ·rw [upd_same,List.map_append]
  ·rw [List.map_append]
   exact ((mv6.same s7).app mD7).upd (sbn rl7)
  ·intro z hz
   rcases List.mem_append.mp hz with hz | hz
   ·exact rok' z hz
   ·refine bC fun g_=>?_
    obtain ⟨z1,z2,z3⟩:=qin z hz
    refine g_ ?_
    clear g_
    exact ⟨ro4.y0,ro4.y1,Int.le_trans ro4.a0 z1,Int.lt_of_le_of_lt z2 ro4.b1,w40,z3⟩
  ·rw [rlens_app]
   lia
  ·rw [List.length_append,rlens_app]
   lia
end
theorem ClAt.out {CC:Addr} {H:Hp} {c R p:Addr} {rs:List Addr} {rows:List (List Int)} {o:HO} (h:ClAt CC H c R rs rows) (n1:p≠c) (n2:p≠R) (n3:p ∉ rs):ClAt CC (upd H p o) c R rs rows:=by
 refine bC fun g_=>?_
 obtain ⟨⟨dx,a⟩,b,d⟩:=h
 refine g_ ?_
 clear g_
 exact ⟨⟨dx,by rw [upd_ne (Ne.symm n1)]; exact a⟩,by rw [upd_ne (Ne.symm n2)]; exact b,d.keep fun r hr o e=>by rw [upd_ne (fun z=>n3 (by rw [← z]; exact hr))]; exact e⟩
section
variable {f:Addr} {fd':FuncData}
inductive PspPlI (CV CC:Addr) (nd:List Int) (vs:List V) (H:Hp) (Q:VK):Prop
 | mk (pl dx b:Addr) (bed:List (List Int)) (h0:vs=[.ref pl,.ref b]) (h1:H pl=some (.ins CV dx [])) (h2:BdAt H b bed) (h3:bed.length≤1000) (h4:HB bed)
   (h5:∀ (A:PA) (R:Addr) (rs:List Addr) (H':Hp),A.pl=pl→Same (drop H pl) H'→PlIn CV nd H' A 0→StIn CC H' A R rs bed→(∀ x∈A.sd :: A.mv :: rs,H x=none)→Q .non H'):PspPlI CV CC nd vs H Q
noncomputable def spPlI (CV CC:Addr) (nd:List Int):Sp:=fun vs H Q Z=>PspPlI CV CC nd vs H Q
theorem scPlI:FnScope ["self","bed"] ["self","bed"] (defScope sPlI):=⟨rfl,rfl,rfl,by decide +kernel,rfl,by decide +kernel,by decide +kernel⟩
theorem ok_plI {nd':List Int} (VV:VT K mg CV CC) (MC:Mc P w K mg base "Cells" CC 1 ["self","bed"] (spCellsI CC)) (F:Fun K "__init__" "Plan.__init__" sPlI f fd'):FnOk P w K mg base (CX1 P w) 3 f fd' ["self","bed"] (spPlI CV CC nd'):=by
 have nd:=scPlI.nd
 obtain ⟨tt,htop⟩:=VV.top
 refine F.ok1 scPlI (fun vs H Q E h=>?_) (fun cdv A outer s H vs Q E hr h=>?_)
 ·refine bC fun g_=>?_
  obtain ⟨pl,dx,b,bed,e1_,_⟩:=h
  refine g_ ?_
  clear g_
  obtain rfl:=e1_
  rfl
 refine bC fun g_=>?_
 obtain ⟨pl,dx,b,bed,e2_,hpl,hb,bl,hbd,q⟩:=h
 refine g_ ?_
 clear g_
 obtain rfl:=e2_
 refine ⟨_,(pss_cons (ps_fld (pv 0) (pf_make MC hr rfl (pass1 (E:=E)) (pa_cons (pv 1) pa_nil)) rfl)
  (pss_cons (ps_fld (pv 0) (pe_disp (pps_cons pe_str pe_int (pps_cons pe_str pe_int (pps_cons pe_str (pe_glob (v:=.int 1000) rfl htop ⟨_,rfl⟩) pps_nil))) rfl rfl (by decide) (by decide)) rfl)
  (pss_one (ps_fld (pv 0) (pe_lst pa_nil) rfl)))),?_⟩
 (try dsimp only [L2.cxK])
 refine abs_seq fun dE eE=>?_
 refine (fun x dx2 hx hdx hne=>⟨x,dx2,b,bed,rfl,upd_same,?_,bl,fun R rs H1 k1 hx1 hR1 ra1 ndr nR nHR nHr=>⟨rfl,?_⟩⟩)
 ·exact hb.same fun y o e=>by rw [upd_ne (ne_of_none e hx),upd_ne (ne_of_none e hdx)]; exact e
 have gpl:drop H pl pl=none:=by unfold drop; rw [if_pos rfl]
 have sH1:Same H H1:=fun y o e=>k1 y o (ne_of_none e hx) (by rw [upd_ne (ne_of_none e hx),upd_ne (ne_of_none e hdx)]; exact e)
 have fr:∀ y,upd (upd H dx2 (.own x)) x (.ins CC dx2 []) y=none→H y=none:=fun y e=>by
  cases e':H y with
  | none=>rfl
  | some o=>rw [upd_ne (ne_of_none e' hx),upd_ne (ne_of_none e' hdx),e'] at e; cases e
 have fR:=fr R nHR
 have frs:∀ r∈rs,H r=none:=fun r hr=>fr r (nHr r hr)
 have npx:pl≠x:=ne_of_none hpl hx
 have npR:pl≠R:=ne_of_none hpl fR
 have npr:pl ∉ rs:=fun z=>by rw [frs pl z] at hpl; cases hpl
 refine ⟨pl,CV,dx,_,rfl,sH1 _ _ hpl,VV.clV,VV.nStuff,(by decide),?_⟩
 rw [show putF ("stuff":Str) (V.ref x) []=[(("stuff":Str),V.ref x)] from rfl]
 have s2:Same (drop H pl) (upd H1 pl (.ins CV dx [("stuff",.ref x)])):=same_in ((drop_le).trans sH1) gpl
 have o2:upd H1 pl (.ins CV dx [("stuff",.ref x)]) pl=some (.ins CV dx [("stuff",.ref x)]):=upd_same
 have c1:ClAt CC H1 x R rs bed:=⟨⟨dx2,hx1⟩,hR1,ra1⟩
 have c2:ClAt CC (upd H1 pl (.ins CV dx [("stuff",.ref x)])) x R rs bed:=c1.out npx npR npr
 generalize upd H1 pl (.ins CV dx [("stuff",.ref x)])=H2 at s2 o2 c2 ⊢
 refine nxS eE fun dE eE=>?_
 refine fun sd hsd=>⟨upd_same,[(Sum.inr "x",.int 0),(Sum.inr "y",.int 0),(Sum.inr "z",.int 1000)],rfl,(show 3≤15 by decide),?_⟩
 have s3:Same H2 (upd (upd H2 sd (.dK [])) sd (.dK (mergeK [] [((Sum.inr "x":Key),V.int 0),(Sum.inr "y",.int 0),(Sum.inr "z",.int 1000)]))):=same_in (same_upd hsd _) hsd
 have d3:upd (upd H2 sd (.dK [])) sd (.dK (mergeK [] [((Sum.inr "x":Key),V.int 0),(Sum.inr "y",.int 0),(Sum.inr "z",.int 1000)])) sd=some (.dK (kvP 0 0 1000)):=upd_same
 generalize upd (upd H2 sd (.dK [])) sd (.dK (mergeK [] [((Sum.inr "x":Key),V.int 0),(Sum.inr "y",.int 0),(Sum.inr "z",.int 1000)]))=H3 at s3 d3
 have nsp:=ne_new o2 hsd
 refine ⟨pl,CV,dx,_,rfl,s3 _ _ o2,VV.clV,VV.nStands,(by show 1 < 1000; decide),?_⟩
 rw [show putF ("stands":Str) (V.ref sd) [(("stuff":Str),V.ref x)]=[(("stuff":Str),V.ref x),("stands",.ref sd)] from rfl]
 have s4:Same (drop H pl) (upd H3 pl (.ins CV dx [("stuff",.ref x),("stands",.ref sd)])):=same_in (s2.trans s3) gpl
 have o4:upd H3 pl (.ins CV dx [("stuff",.ref x),("stands",.ref sd)]) pl=some (.ins CV dx [("stuff",.ref x),("stands",.ref sd)]):=upd_same
 have c4:ClAt CC (upd H3 pl (.ins CV dx [("stuff",.ref x),("stands",.ref sd)])) x R rs bed:=(c2.same s3).out npx npR npr
 have d4:upd H3 pl (.ins CV dx [("stuff",.ref x),("stands",.ref sd)]) sd=some (.dK (kvP 0 0 1000)):=by rw [upd_ne nsp]; exact d3
 have nsd:H sd=none:=by
  cases e:H sd with
  | none=>rfl
  | some o =>
   have:=s2 _ _ (show drop H pl sd=some o by rw [drop_ne nsp]; exact e)
   rw [hsd] at this
   cases this
 have nsR:sd≠R:=fun z=>by rw [z] at hsd; rw [c2.hR] at hsd; cases hsd
 have nsr:sd ∉ rs:=fun z=>by
  obtain ⟨xs,e⟩:=c2.ra.mem z
  rw [hsd] at e
  cases e
 generalize upd H3 pl (.ins CV dx [("stuff",.ref x),("stands",.ref sd)])=H4 at s4 o4 c4 d4 ⊢
 clear s3 d3 s2 o2 c2 c1 hsd
 refine nxS1 eE ?_
 refine ⟨Nat.zero_le _,fun mv hmv=>?_⟩
 have nmp:=ne_new o4 hmv
 have nms:=ne_new d4 hmv
 have nmv:H mv=none:=by
  cases e:H mv with
  | none=>rfl
  | some o =>
   have:=s4 _ _ (show drop H pl mv=some o by rw [drop_ne nmp]; exact e)
   rw [hmv] at this
   cases this
 have nmR:mv≠R:=fun z=>by rw [z] at hmv; rw [c4.hR] at hmv; cases hmv
 have nmr:mv ∉ rs:=fun z=>by
  obtain ⟨xs,e⟩:=c4.ra.mem z
  rw [hmv] at e
  cases e
 have u5:=same_upd hmv (.lst [])
 refine ⟨pl,CV,dx,_,rfl,u5 _ _ o4,VV.clV,VV.nMoves,(by show 2 < 1000; decide),?_⟩
 rw [show putF ("moves":Str) (V.ref mv) [(("stuff":Str),V.ref x),("stands",.ref sd)]=plF ⟨pl,x,sd,mv⟩ from rfl]
 refine q ⟨pl,x,sd,mv⟩ R rs _ rfl (same_in (s4.trans u5) gpl) ⟨⟨dx,upd_same⟩,⟨0,0,1000,?_⟩,[],[],?_,True.intro,Nat.le_refl _,fun m hm=>(List.not_mem_nil hm).elim⟩ ⟨(c4.same u5).out npx npR npr,ndr,nR,hbd,nsR,nmR,nsr,nmr⟩ fun z hz=>?_
 ·rw [upd_ne nsp]
  exact u5 _ _ d4
 ·rw [upd_ne nmp,upd_same]
  rfl
 ·rcases List.mem_cons.mp hz with rfl | hz
  ·exact nsd
  ·rcases List.mem_cons.mp hz with rfl | hz
   ·exact nmv
   ·exact frs z hz
end
noncomputable abbrev lposM:Pos:=(lamIn (defBody sMoves)).2
noncomputable abbrev lscopeM:Scope:=(lamIn (defBody sMoves)).1
noncomputable def qlamM:Str:="moves_for"++".<locals>."++"<lambda>"
theorem clos2 {env:Env} {ce:Addr} (e:env.cells.lookup ("shelf":Str)=some ce):closureFor lscopeM env=pure [(("shelf":Str),ce)]:=by
 have hc:cellOf env "shelf"=pure ce:=by
  unfold cellOf
  rw [e]
 have hn:lscopeM.names=[(("one":Str),.local),(("shelf":Str),.free)]:=rfl
 unfold closureFor
 rw [hn]
 simp only [List.forIn_cons,List.forIn_nil,hc]
 rfl
theorem PlIn.sb {CV:Addr} {nd:List Int} {H H':Hp} {A:PA} {n:Nat} {T:Addr} {pt:Array Value} (P:PlIn CV nd H A n) (ht:H T=some (.tbl pt)) (k:Sb T H H'):PlIn CV nd H' A n:=by
 refine bC fun g_=>?_
 obtain ⟨⟨dx,a⟩,⟨x,y,z,b⟩,ts,ms,c,d,l,f⟩:=P
 refine g_ ?_
 clear g_
 exact ⟨⟨dx,k _ _ (ne_of a ht (fun z=>nomatch z)) a⟩,⟨x,y,z,k _ _ (ne_of b ht (fun z=>nomatch z)) b⟩,ts,ms,k.lst ht c,d.keepT fun x m e=>k.tup ht e,l,f⟩
theorem StIn.sb {CC:Addr} {H H':Hp} {A:PA} {R T:Addr} {rs:List Addr} {rows:List (List Int)} {pt:Array Value} (h:StIn CC H A R rs rows) (ht:H T=some (.tbl pt)) (k:Sb T H H'):StIn CC H' A R rs rows:=by
 obtain ⟨dx,o⟩:=h.cl.ob
 exact ⟨⟨⟨dx,k _ _ (ne_of o ht (fun z=>nomatch z)) o⟩,k.lst ht h.cl.hR,h.cl.ra.sb ht k⟩,h.nd,h.nR,h.hb,h.sdR,h.mvR,h.sd,h.mv⟩
theorem CtsAt.dropL {H:Hp} {ds:List Addr} (n:NoSq H ds):∀ {cs:List Addr} {ts:List Tool},CtsAt H cs ts→CtsAt (dropL H ds) cs ts
 | [],[],h=>h
 | c :: _,_ :: _,h=>by
  refine bC fun g_=>?_
  obtain ⟨⟨ft,a,b⟩,r⟩:=h
  refine g_ ?_
  clear g_
  exact ⟨⟨ft,dropL_at (fun z=>(n c z _).2 a) a,b.dropL n⟩,CtsAt.dropL n r⟩
 | [],_ :: _,h=>h.elim
 | _ :: _,[],h=>h.elim
theorem ShAt.dropL {H:Hp} {ds:List Addr} {sh:Addr} {ts:List Tool} (h:ShAt H sh ts) (n:NoSq H ds):ShAt (dropL H ds) sh ts:=by
 refine bC fun g_=>?_
 obtain ⟨cs,a,b⟩:=h
 refine g_ ?_
 clear g_
 exact ⟨cs,dropL_at (fun z=>(n sh z _).1 a) a,b.dropL n⟩
theorem noSq_tbl {H:Hp} {T:Addr} {pt:Array Value} (e:H T=some (.tbl pt)):NoSq H [T]:=fun x hx ys=>by
 rw [List.mem_singleton.mp hx,e]
 exact ⟨(fun z=>nomatch z),(fun z=>nomatch z)⟩
theorem Sb.drop {H H':Hp} {T:Addr} (k:Sb T H H'):Same (dropL H [T]) H':=fun x o e=>by
 have nx:x≠T:=fun z=>by unfold dropL at e; rw [if_pos (by rw [z]; exact List.mem_singleton.mpr rfl)] at e; cases e
 exact k _ _ nx (dropL_le _ _ e)
theorem ShAt.sb {H H':Hp} {T sh:Addr} {pt:Array Value} {ts:List Tool} (h:ShAt H sh ts) (e:H T=some (.tbl pt)) (k:Sb T H H'):ShAt H' sh ts:=(h.dropL (noSq_tbl e)).same k.drop
theorem tab_sb {H H':Hp} {T U:Addr} {p:Pos} {qq:Str} {pt:Array Value} (h:TabAt U p qq H) (e:H T=some (.tbl pt)) (n:U≠T) (k:Sb T H H'):TabAt U p qq H':=by
 rcases h with e1 | ⟨c',e1,ec⟩
 ·exact .inl (k _ _ n e1)
 ·exact .inr ⟨c',k _ _ n e1,k _ _ (fun z=>by rw [z,e] at ec; cases ec) ec⟩
theorem same_kp {H4 Hk H5:Hp} {ds es:List Addr} (s:Same (dropL H4 ds) Hk) (k:Kp es Hk H5) (sub:∀ x∈es,x∈ds):Same (dropL H4 ds) H5:=fun x o e=>k _ _ (fun z=>by
 unfold dropL at e
 rw [if_pos (sub x z)] at e
 cases e) (s _ _ e)
theorem same_dd {H4 Hk:Hp} {ds:List Addr} (s:Same (dropL H4 ds) Hk):Same (dropL H4 ds) (dropL Hk ds):=fun x o e=>dropL_at (fun z=>by
 unfold dropL at e
 rw [if_pos z] at e
 cases e) (s _ _ e)
theorem ds_there {CV CC:Addr} {nd:List Int} {H:Hp} {A:PA} {n:Nat} {R:Addr} {rs:List Addr} {rows:List (List Int)} (P:PlIn CV nd H A n) (S:StIn CC H A R rs rows):∀ x∈A.sd :: A.mv :: rs,∃ o,H x=some o∧∀ m,o≠.tup m:=fun x hx=>by
 refine bC fun g_=>?_
 obtain ⟨_,_,_,e1⟩:=P.sd
 obtain ⟨_,_,e2,_⟩:=P.mv
 refine g_ ?_
 clear g_
 rcases List.mem_cons.mp hx with rfl | hx
 ·exact ⟨_,e1,fun m z=>nomatch z⟩
 ·rcases List.mem_cons.mp hx with rfl | hx
  ·exact ⟨_,e2,fun m z=>nomatch z⟩
  ·obtain ⟨xs,e⟩:=S.cl.ra.mem hx
   exact ⟨_,e,fun m z=>nomatch z⟩
section
variable {f:Addr} {fd':FuncData}
inductive PspMoves (T1 T2:Addr) (vs:List V) (H:Hp) (Q:VK):Prop
 | mk (b wh sh:Addr) (bed wished:List (List Int)) (ts:List Tool) (h0:vs=[.ref b,.ref wh,.ref sh]) (h1:BdAt H b bed) (h2:BdAt H wh wished) (h3:ShAt H sh ts) (h4:Rect bed) (h5:Alike bed wished) (h6:Small bed) (h7:∀ t∈ts,t.1.length≤100∧t.2≤1000) (h8:ts.length≤6) (h9:bed.length≤20) (h10:HB bed) (h11:∀ c,ins wished c=true→0≤hgt wished c) (h12:TabAt T1 lposN qlamN H) (h13:TabAt T2 lposM qlamM H) (h14:T1≠T2)
   (h15:∀ (MV:Addr) (H':Hp),(∀ x o,x≠T1→x≠T2→H x=some o→H' x=some o)→TabAt T1 lposN qlamN H'→MvsIn (needF bed wished ts) H' MV 16000000→Q (.ref MV) H'):PspMoves T1 T2 vs H Q
noncomputable def spMoves (T1 T2:Addr):Sp:=fun vs H Q Z=>PspMoves T1 T2 vs H Q
theorem scMoves:FnScope ["bed","wished","shelf","goal","plan","number","share","y"] ["bed","wished","shelf"] (defScope sMoves):=⟨rfl,rfl,rfl,by decide +kernel,rfl,by decide +kernel,by decide +kernel⟩
theorem ok_moves {c0 T1 T2:Addr} (T:LawT mg) (NS:mg "sorted"=none) (L:LamT K mg base c0 T2) (VV:VT K mg CV CC) (FH:Fn P w K mg base "had" 3 ["bed","wished","shelf"] spHad) (FN:Fn P w K mg base "needed" 4 ["bed","wished","shelf"] (spNeed T1))
  (MPl:∀ nd,Mc P w K mg base "Plan" CV 3 ["self","bed"] (spPlI CV CC nd)) (MSh:Mc P w K mg base "Share" CS 3 ["self","cutter","wished","goal","rows"] (spShI CS)) (MTk:∀ nd,Mt P w K mg base CV "take_cutter" 2 ["self","number"] (spTake CV nd)) (MRw:∀ nd,Mt P w K mg base CV "do_row" 4 ["self","share","y"] (spRow CV CC CS nd))
  (F:FunL K "moves_for" sMoves f fd' c0):FnOk P w K mg base (CX1 P w) 5 f fd' ["bed","wished","shelf"] (spMoves T1 T2):=by
 have nd:=scMoves.nd
 refine F.ok1 scMoves (fun vs H Q E h=>?_) (fun A outer s H vs Q E hr h=>?_)
 ·refine bC fun g_=>?_
  obtain ⟨b,wh,sh,bed,wished,ts,e1_,_⟩:=h
  refine g_ ?_
  clear g_
  obtain rfl:=e1_
  rfl
 refine bC fun g_=>?_
 obtain ⟨b,wh,sh,bed,wished,ts,e2_,hb,hw,hs,rect,al,small,feet,few,r20,hbd,wnn,tab1,tab2,nT,q⟩:=h
 refine g_ ?_
 clear g_
 obtain rfl:=e2_
 have hr2:Room 2 _:=hr.mono (by decide)
 have hr3:Room 3 _:=hr.mono (by decide)
 refine ⟨_,(pss_cons (ps_set (i:=3) nd rfl (Or.inl rfl) (pf_call FH hr3 rfl (pass1 (E:=E)) (pa_cons (pv 0) (pa_cons (pv 1) (pa_cons (pv 2) pa_nil)))))
  (pss_cons (ps_set (i:=4) nd rfl (Or.inl rfl) (pf_make (MPl (needF bed wished ts)) hr rfl (pass1 (E:=E)) (pa_cons (pv 0) pa_nil)))
  (pss_cons (ps_for own1 rfl (pi_listK (K:=K) rfl (pe_sortL (j:=2) (scope:=lscopeM) (lpos:=lposM) key_ok2 rfl rfl NS (pf_call FN hr rfl (pass1 (E:=E)) (pa_cons (pv 0) (pa_cons (pv 1) (pa_cons (pv 2) pa_nil)))) L rfl rfl hr3 rfl (fun ce e=>clos2 e) rfl rfl rfl rfl rfl rfl (by decide +kernel) (fun Z Z Z Z Z Z=>.of_eq rfl))) (pg_name (i:=5) nd rfl (Or.inl rfl)) (pss_cons (ps_expr (pf_meth (MTk (needF bed wished ts)) (pv 4) hr2 (pass1 (E:=E)) (pa_cons (pv 5) pa_nil)))
  (pss_cons (ps_set (i:=6) nd rfl (Or.inl rfl) (pf_make MSh hr rfl (pass1 (E:=E)) (pa_cons (pe_ix (ix_listK (K:=K) rfl) (pv 2) (pv 5) (fun Z Z=>rfl)) (pa_cons (pv 1) (pa_cons (pv 3) (pa_cons (pe_fld (pe_fld (pv 4) rfl) rfl) pa_nil))))))
  (pss_one (ps_for own1 rfl (pi_range1 rfl T.range (pa_cons (pe_callB (call_lenK (K:=K) rfl) rfl T.len PySem.boot_len (pa_cons (pv 0) pa_nil)) pa_nil)) (pg_name (i:=7) nd rfl (Or.inl rfl)) (pss_one (ps_expr (pf_meth (MRw (needF bed wished ts)) (pv 4) hr (pass1 (E:=E)) (pa_cons (pv 6) (pa_cons (pv 7) pa_nil))))))))))
  (pss_one (ps_ret (pe_fld (pv 4) rfl)))))),?_⟩
 (try dsimp only [L2.cxK])
 refine abs_seq fun dE eE=>?_
 refine bC fun g_=>?_
 obtain ⟨pt1,ept1⟩:=tab1.tbl
 obtain ⟨pt2,ept2⟩:=tab2.tbl
 refine g_ ?_
 clear g_
 refine ⟨b,wh,sh,bed,wished,ts,rfl,hb,hw,hs,rect,al,small,(fun t ht=>(feet t ht).1),fun gl gs H1 ngl s1 hgl ra1 Z Z Z=>?_⟩
 have hg1:BdAt H1 gl (hadF bed wished ts):=⟨gs,hgl,ra1⟩
 refine nxS eE fun dE eE=>?_
 refine (fun pl dx hx hdx hne=>⟨pl,dx,b,bed,rfl,upd_same,?_,(by lia),hbd,fun A0 R rs H2 eA s2 PI SI nn=>⟨rfl,?_⟩⟩)
 ·exact (hb.same s1).same fun y o e=>by rw [upd_ne (ne_of_none e hx),upd_ne (ne_of_none e hdx)]; exact e
 have s12:Same H1 H2:=fun y o e=>s2 _ _ (by rw [drop_ne (ne_of_none e hx),upd_ne (ne_of_none e hx),upd_ne (ne_of_none e hdx)]; exact e)
 have nn1:∀ x∈A0.sd :: A0.mv :: rs,H1 x=none:=fun x hx'=>by
  cases e:H1 x with
  | none=>rfl
  | some o=>have:=nn x hx'; rw [upd_ne (ne_of_none e hx),upd_ne (ne_of_none e hdx),e] at this; cases this
 subst eA
 clear s2 nn hne hx hdx hgl ra1
 have s02:=s1.trans s12
 refine nxS eE fun dE eE=>?_
 refine ⟨b,wh,sh,bed,wished,ts,rfl,hb.same s02,hw.same s02,hs.same s02,rect,al,small,(fun t ht=>(feet t ht).1),(by lia),tab1.same s02,fun D H3 nD k3 tab13 hD=>?_⟩
 have e12:=s02 _ _ ept1
 have e22:=s02 _ _ ept2
 have PI3:=PI.sb e12 k3
 have SI3:=SI.sb e12 k3
 have tab23:TabAt T2 lposM qlamM H3:=tab_sb (tab2.same s02) e12 (Ne.symm nT) k3
 have hs3:ShAt H3 sh ts:=(hs.same s02).sb e12 k3
 refine bC fun g_=>?_
 obtain ⟨cts3,hs31,hs32⟩:=id hs3
 refine g_ ?_
 clear g_
 have ctl:=hs32.len
 have nin:∀ x∈needF bed wished ts,0≤x∧x < ts.length:=fun x hx=>mem_upN.mp ((tryAll_sub bed wished ts _ _).subset hx)
 have nlen:(needF bed wished ts).length≤6:=Nat.le_trans (tryAll_sub bed wished ts _ _).length_le (by rw [upN_len]; exact few)
 refine ⟨D,sh,needF bed wished ts,ts.map Prod.snd,cts3,rfl,.inl hD,(by lia),rfl,hs31,(by lia),fun i t e=>hs32.bite e,(fun x hx=>by rw [ctl]; exact nin x hx),tab23,fun S H4 k4 tab24 nS hS=>?_⟩
 obtain ⟨pt3,e23⟩:=tab23.tbl
 have k4':Sb T2 H3 H4:=k4
 have PI4:=PI3.sb e23 k4'
 have SI4:=SI3.sb e23 k4'
 have tab14:TabAt T1 lposN qlamN H4:=tab_sb tab13 e23 nT k4'
 have ordm:∀ x∈srtK ((needF bed wished ts).map fun x=>-((ts.map Prod.snd).getD x.toNat 0)) (needF bed wished ts),x∈needF bed wished ts:=fun x hx=>(srtK_perm s (by rw [List.length_map])).mem_iff.mp hx
 have ordl:(srtK ((needF bed wished ts).map fun x=>-((ts.map Prod.snd).getD x.toNat 0)) (needF bed wished ts)).length≤6:=by rw [(srtK_perm s (by rw [List.length_map])).length_eq]; exact nlen
 generalize srtK ((needF bed wished ts).map fun x=>-((ts.map Prod.snd).getD x.toNat 0)) (needF bed wished ts)=ord at hS ordm ordl
 have sG:∀ x o,x≠T1→x≠T2→H1 x=some o→dropL H4 (A0.sd :: A0.mv :: rs) x=some o:=fun x o n1 n2 e=>dropL_at (fun z=>by rw [nn1 x z] at e; cases e) (k4 _ _ n2 (k3 _ _ n1 (s12 _ _ e)))
 have sG':Same (dropL (dropL H1 [T1]) [T2]) (dropL H4 (A0.sd :: A0.mv :: rs)):=fun x o e=>by
  have n2:x≠T2:=fun z=>by unfold dropL at e; rw [if_pos (by rw [z]; exact List.mem_singleton.mpr rfl)] at e; cases e
  have e2:=dropL_le _ _ e
  have n1:x≠T1:=fun z=>by unfold dropL at e2; rw [if_pos (by rw [z]; exact List.mem_singleton.mpr rfl)] at e2; cases e2
  exact sG x o n1 n2 (dropL_le _ _ e2)
 have q1:NoSq H1 [T1]:=noSq_tbl (s1 _ _ ept1)
 have q2:NoSq (dropL H1 [T1]) [T2]:=noSq_tbl (dropL_at (fun z=>nT (List.mem_singleton.mp z).symm) (s1 _ _ ept2))
 have gb:BdAt (dropL H4 (A0.sd :: A0.mv :: rs)) b bed:=(((hb.same s1).dropL q1).dropL q2).same sG'
 have gw:BdAt (dropL H4 (A0.sd :: A0.mv :: rs)) wh wished:=(((hw.same s1).dropL q1).dropL q2).same sG'
 have gg:BdAt (dropL H4 (A0.sd :: A0.mv :: rs)) gl (hadF bed wished ts):=((hg1.dropL q1).dropL q2).same sG'
 have gs':ShAt (dropL H4 (A0.sd :: A0.mv :: rs)) sh ts:=(((hs.same s1).dropL q1).dropL q2).same sG'
 have gS:dropL H4 (A0.sd :: A0.mv :: rs) S=some (.lst (ord.map V.int)):=dropL_at (fun z=>by
  refine bC fun g_=>?_
  obtain ⟨o,e,_⟩:=ds_there PI3 SI3 S z
  refine g_ ?_
  clear g_
  rw [nS] at e
  cases e) hS
 have qk:∀ x o,x≠T1→x≠T2→H x=some o→dropL H4 (A0.sd :: A0.mv :: rs) x=some o:=fun x o n1 n2 e=>sG x o n1 n2 (s1 _ _ e)
 have gt1:TabAt T1 lposN qlamN (dropL H4 (A0.sd :: A0.mv :: rs)):=by
  have out:∀ x o,H4 x=some o→(∀ xs,o≠.lst xs)→(∀ kvs,o≠.dK kvs)→dropL H4 (A0.sd :: A0.mv :: rs) x=some o:=fun x o e n1 n2=>dropL_at (fun z=>by
   refine bC fun g_=>?_
   obtain ⟨_,_,_,e1⟩:=PI4.sd
   obtain ⟨_,_,e2,_⟩:=PI4.mv
   refine g_ ?_
   clear g_
   rcases List.mem_cons.mp z with rfl | z
   ·rw [e] at e1; exact n2 _ (Option.some.inj e1)
   ·rcases List.mem_cons.mp z with rfl | z
    ·rw [e] at e2; exact n1 _ (Option.some.inj e2)
    ·obtain ⟨xs,ex⟩:=SI4.cl.ra.mem z
     rw [e] at ex
     exact n1 _ (Option.some.inj ex)) e
  rcases tab14 with e | ⟨c',e,ec⟩
  ·exact .inl (out _ _ e (fun Z z=>nomatch z) (fun Z z=>nomatch z))
  ·exact .inr ⟨c',out _ _ e (fun Z z=>nomatch z) (fun Z z=>nomatch z),out _ _ ec (fun Z z=>nomatch z) (fun Z z=>nomatch z)⟩
 have s4:Same (dropL H4 (A0.sd :: A0.mv :: rs)) H4:=dropL_le
 clear sG sG' q1 q2 tab14 k4 k4' e23 tab24 nS hS tab23 hs3 hs31 hs32 ctl SI3 PI3 e12 e22 k3 hD nD tab13 s02 s12 nn1 PI SI hg1 ngl
 refine bC fun g_=>?_
 obtain ⟨cts,hc1,hc2⟩:=gs'
 refine g_ ?_
 clear g_
 have ctl:=hc2.len
 refine ⟨S,rfl,⟨_,SqL.of (s4 _ _ gS)⟩,?_⟩
 refine for_list (K:=K) (a:=S) (xs:=ord.map V.int) (fun k σ Hk=>Ex4 fun (x5 x6 x7:Option V) (rows:List (List Int))=>σ=[some (.ref b),some (.ref wh),some (.ref sh),some (.ref gl),some (.ref A0.pl),x5,x6,x7]∧Same (dropL H4 (A0.sd :: A0.mv :: rs)) Hk∧PlIn CV (needF bed wished ts) Hk A0 (k * 1604802)∧StIn CC Hk A0 R rs rows∧Alike bed rows) ⟨none,none,none,bed,rfl,s4,by rw [Nat.zero_mul]; exact PI4,SI4,Alike.refl _⟩ (fun k σ Hk _ ⟨_,_,_,_,_,sk,_⟩=>SqL.of (sk _ _ gS)) ?_ ?_
 ·rintro k v σ Hk hx h_
  refine bC fun g_=>?_
  obtain ⟨x5,x6,x7,rows,e3_,sk,PIk,SIk,alk⟩:=h_
  refine g_ ?_
  clear g_
  obtain rfl:=e3_
  have hk:k < ord.length:=by have:=(List.getElem?_eq_some_iff.mp hx).1; rw [List.length_map] at this; exact this
  rw [List.getElem?_map] at hx
  obtain ⟨num,en,rfl⟩:=Option.map_eq_some_iff.mp hx
  have hnm:=ordm num (List.mem_of_getElem? en)
  obtain ⟨nm0,nm1⟩:=nin num hnm
  have k6:k * 1604802≤5 * 1604802:=Nat.mul_le_mul_right _ (by lia)
  obtain ⟨dxk,hok⟩:=PIk.ob
  refine ⟨A0.pl,dxk,_,rfl,hok,rfl,A0,k * 1604802,num,rfl,hnm,PIk,by lia,fun H5 k5 PI5=>?_⟩
  have SI5:=SIk.kp PIk k5
  have s5:Same (dropL H4 (A0.sd :: A0.mv :: rs)) H5:=same_kp sk k5 fun x hx=>by
   rcases List.mem_cons.mp hx with rfl | hx
   ·exact List.mem_cons_self
   ·rw [List.mem_singleton.mp hx]
    exact List.mem_cons_of_mem _ List.mem_cons_self
  refine bC fun g_=>?_
  obtain ⟨dx5,ho5⟩:=PI5.ob
  obtain ⟨sx5,hso5⟩:=SI5.cl.ob
  refine g_ ?_
  clear g_
  have nl:num.toNat < cts.length:=by lia
  have ec:=List.getElem?_eq_getElem nl
  refine bC fun g_=>?_
  obtain ⟨t,et,gct⟩:=hc2.at_ ec
  refine g_ ?_
  clear g_
  generalize cts[num.toNat]=ct at ec gct
  obtain ⟨f100,bite⟩:=feet t (List.mem_of_getElem? et)
  have wrect:=al.rect rect
  have alw:Alike wished bed:=⟨al.1.symm,fun i r s x y=>(al.2 i s r y x).symm⟩
  have wsmall:Small wished:=by
   refine ⟨by rw [← al.1]; exact small.1,fun r hr=>?_⟩
   refine bC fun g_=>?_
   obtain ⟨i,hi,e⟩:=List.getElem_of_mem hr
   refine g_ ?_
   clear g_
   have hi2:i < bed.length:=by rw [al.1]; exact hi
   rw [← e,← al.2 i _ _ (List.getElem?_eq_getElem hi2) (List.getElem?_eq_getElem hi)]
   exact small.2 _ (List.getElem_mem hi2)
  refine ⟨sh,_,num,.ref ct,rfl,rfl,SqL.of (s5 _ _ hc1),?_,A0.pl,CV,dx5,_,_,rfl,ho5,VV.clV,VV.nStuff,rfl,A0.st,CC,sx5,_,_,rfl,hso5,VV.clC,VV.nRows,rfl,fun sr dxs hsr hdxs hnes=>?_⟩
  ·rw [show num=((num.toNat:Nat):Int) by lia]
   exact atI_nat (by rw [List.getElem?_map,ec]; rfl)
  have u6:Same H5 (upd (upd H5 dxs (.own sr)) sr (.ins CS dxs [])):=fun y o e=>by rw [upd_ne (ne_of_none e hsr),upd_ne (ne_of_none e hdxs)]; exact e
  have s6:=s5.trans u6
  have o6:upd (upd H5 dxs (.own sr)) sr (.ins CS dxs []) sr=some (.ins CS dxs []):=upd_same
  generalize upd (upd H5 dxs (.own sr)) sr (.ins CS dxs [])=H6 at u6 s6 o6
  have bR:BdAt H6 R rows:=⟨rs,u6 _ _ SI5.cl.hR,SI5.cl.ra.same u6⟩
  refine ⟨sr,dxs,ct,wh,gl,R,t,wished,hadF bed wished ts,rows,rfl,o6,gct.same s6,gw.same s6,gg.same s6,bR,alw.trans (cuts_alike _ _),alw.trans alk,wrect,wsmall,f100,fun lo du H7 s7 shr=>⟨rfl,?_⟩⟩
  have s57:Same H5 H7:=fun y o e=>s7 _ _ (by rw [drop_ne (ne_of_none e hsr)]; exact u6 _ _ e)
  have shr7:=shr (A0.sd :: A0.mv :: rs) fun x hx=>by
   refine bC fun g_=>?_
   obtain ⟨o,e,no⟩:=ds_there PI5 SI5 x hx
   refine g_ ?_
   clear g_
   exact ⟨o,by rw [drop_ne (ne_of_none e hsr)]; exact u6 _ _ e,no⟩
  have PI7:=PI5.same s57
  have SI7:=SI5.same s57
  have s47:=s5.trans s57
  have ct7:CtAt (dropL H7 (A0.sd :: A0.mv :: rs)) ct t:=gct.same (same_dd s47)
  have lw0:∀ c,ins wished c=true→0≤lwF wished t c:=fun c hc=>by
   unfold lwF
   have uin:∀ x∈und wished t.1 c.1 c.2,ins wished x=true:=fun x hx=>(List.mem_filter.mp hx).2
   cases e:(und wished t.1 c.1 c.2).map (hgt wished) with
   | nil=>exact Int.le_refl _
   | cons a r =>
    have:=mxF_mem r a
    rw [← e] at this
    refine bC fun g_=>?_
    obtain ⟨x,hx,ex⟩:=List.mem_map.mp this
    refine g_ ?_
    clear g_
    show 0≤mxF a r
    rw [← ex]
    exact wnn x (uin x hx)
  clear s7 shr bR o6 u6 hsr hdxs hnes
  refine bC fun g_=>?_
  obtain ⟨bs,hb7,rb7⟩:=gb.same s47
  refine g_ ?_
  clear g_
  have bsl:=rb7.len
  refine ⟨b,_,rfl,.inl (SqL.of hb7),_,rfl,(by lia),(by rw [List.length_map]; lia),?_⟩
  refine for_range (lo:=0) (fun j σ Hj=>Ex2 fun (x7:Option V) (rows:List (List Int))=>σ=[some (.ref b),some (.ref wh),some (.ref sh),some (.ref gl),some (.ref A0.pl),some (.int num),some (.ref sr),x7]∧Same (dropL H7 (A0.sd :: A0.mv :: rs)) Hj∧PlIn CV (needF bed wished ts) Hj A0 (k * 1604802 + 2 + j * 80240)∧StIn CC Hj A0 R rs rows∧Alike bed rows) ⟨x7,rows,rfl,dropL_le,by rw [Nat.zero_mul]; exact PI7,SI7,alk⟩ ?_ ?_
  ·rintro j σ Hj hj h_
   refine bC fun g_=>?_
   obtain ⟨x7,rowj,e5_,sj,PIj,SIj,alj⟩:=h_
   refine g_ ?_
   clear g_
   obtain rfl:=e5_
   have hj':j < bed.length:=by
    rw [List.length_map,Int.toNat_natCast,bsl] at hj
    exact hj
   have j20:j * 80240≤20 * 80240:=Nat.mul_le_mul_right _ (by lia)
   obtain ⟨dxj,hoj⟩:=PIj.ob
   have w40:(wished.headD []).length≤40:=by
    cases wished with
    | nil=>exact Nat.zero_le _
    | cons r0 _=>exact wsmall.2 r0 List.mem_cons_self
   refine ⟨A0.pl,dxj,_,rfl,hoj,rfl,A0,⟨sr,ct,lo,du⟩,k * 1604802 + 2 + j * 80240,R,rs,wished,rowj,lwF wished t,t,0 + (j:Int),rfl,PIj,SIj,shr7.same (same_dd sj),ct7.same (same_dd sj),alw.trans alj,wrect,wsmall.1,w40,(by lia),(by rw [← al.1]; lia),lw0,f100,bite,by lia,fun H8 rows8 s8 PI8 SI8 al8=>?_⟩
   have e3:k * 1604802 + 2 + j * 80240 + 80240=k * 1604802 + 2 + (j + 1) * 80240:=by lia
   rw [e3] at PI8
   exact ⟨_,rows8,rfl,fun x o e=>s8 _ _ ((same_dd sj) _ _ e),PI8,SI8,al.trans al8⟩
  ·rintro σ Hj h_
   refine bC fun g_=>?_
   obtain ⟨x7,rowj,e6_,sj,PIj,SIj,alj⟩:=h_
   refine g_ ?_
   clear g_
   obtain rfl:=e6_
   have jl:((bs.map V.ref).length:Int).toNat≤20:=by
    rw [List.length_map,Int.toNat_natCast,bsl]
    exact r20
   generalize ((bs.map V.ref).length:Int).toNat=z at jl PIj
   have e3:k * 1604802 + 2 + z * 80240≤(k + 1) * 1604802:=by
    rw [Nat.add_mul,Nat.add_assoc]
    exact Nat.add_le_add_left (Nat.le_trans (Nat.add_le_add_left (Nat.mul_le_mul_right 80240 jl) 2) (Nat.le_of_eq rfl)) _
   exact ⟨_,_,_,rowj,rfl,fun x o e=>sj _ _ ((same_dd s47) _ _ e),PIj.more e3,SIj,alj⟩
 ·rintro σ Hk h_
  refine bC fun g_=>?_
  obtain ⟨x5,x6,x7,rows,e7_,sk,PIk,SIk,alk⟩:=h_
  refine g_ ?_
  clear g_
  obtain rfl:=e7_
  rw [List.length_map] at PIk
  obtain ⟨dxk,hok⟩:=PIk.ob
  have l6:ord.length * 1604802≤6 * 1604802:=Nat.mul_le_mul_right _ ordl
  refine nxS1 eE ?_
  refine ⟨A0.pl,CV,dxk,_,_,rfl,hok,VV.clV,VV.nMoves,rfl,q A0.mv Hk (fun x o n1 n2 e=>sk _ _ (qk x o n1 n2 e)) (gt1.same sk) (PIk.more (by lia)).mv⟩
end
theorem rect_of' {a:List (List Int)} {wd:Nat} (h1:a≠[]) (w1:∀ r∈a,r.length=wd):Rect a:=by
 refine ⟨h1,fun r hr=>?_⟩
 cases a with
 | nil=>exact absurd rfl h1
 | cons r0 a=>rw [w1 r hr]; exact (w1 r0 List.mem_cons_self).symm
noncomputable def CtsO (H:Hp) (D:Addr):List Addr→List Tool→Prop
 | [],[]=>True
 | c :: cs,t :: ts=>(∃ ft,ft≠D∧H c=some (.tup [.ref ft,.int t.2])∧FtAt H ft t.1)∧CtsO H D cs ts
 | _,_=>False
theorem CtsO.cts {H:Hp} {D:Addr}:∀ {cs:List Addr} {ts:List Tool},CtsO H D cs ts→CtsAt H cs ts
 | [],[],_=>True.intro
 | _ :: _,_ :: _,h=>by
  refine bC fun g_=>?_
  obtain ⟨⟨ft,_,a,b⟩,r⟩:=h
  refine g_ ?_
  clear g_
  exact ⟨⟨ft,a,b⟩,CtsO.cts r⟩
 | [],_ :: _,h=>h.elim
 | _ :: _,[],h=>h.elim
theorem CtsO.snoc {H:Hp} {D c:Addr} {t:Tool} (e:∃ ft,ft≠D∧H c=some (.tup [.ref ft,.int t.2])∧FtAt H ft t.1):∀ {cs:List Addr} {ts:List Tool},CtsO H D cs ts→CtsO H D (cs++[c]) (ts++[t])
 | [],[],_=>⟨e,True.intro⟩
 | _ :: _,_ :: _,h=>⟨h.1,CtsO.snoc e h.2⟩
 | [],_ :: _,h=>h.elim
 | _ :: _,[],h=>h.elim
theorem CtsO.keep {H H':Hp} {D:Addr} (k:∀ x o,x≠D→H x=some o→H' x=some o) (hD:∃ xs,H D=some (.lst xs)):∀ {cs:List Addr} {ts:List Tool},CtsO H D cs ts→CtsO H' D cs ts
 | [],[],h=>h
 | _ :: _,_ :: _,h=>by
  refine bC fun g_=>?_
  obtain ⟨xs,e⟩:=hD
  obtain ⟨⟨ft,n,a,us,b,c⟩,r⟩:=h
  refine g_ ?_
  clear g_
  exact ⟨⟨ft,n,k _ _ (ne_of a e (fun z=>nomatch z)) a,us,k _ _ n b,c.keepT fun x m e'=>k _ _ (ne_of e' e (fun z=>nomatch z)) e'⟩,CtsO.keep k ⟨xs,e⟩ r⟩
 | [],_ :: _,h=>h.elim
 | _ :: _,[],h=>h.elim
theorem at4 {α:Type} (p q r s:α) {a:Int} (h0:0≤a) (h2:a < 4):∃ v,(v=p∨v=q∨v=r∨v=s)∧atI [p,q,r,s] a=some v:=by
 have:a=0∨a=1∨a=2∨a=3:=by lia
 rcases this with rfl | rfl | rfl | rfl
 ·exact ⟨p,.inl rfl,rfl⟩
 ·exact ⟨q,.inr (.inl rfl),rfl⟩
 ·exact ⟨r,.inr (.inr (.inl rfl)),rfl⟩
 ·exact ⟨s,.inr (.inr (.inr rfl)),rfl⟩
theorem le4:4≤sizeLine:=by decide
theorem prD_sh (c:Int×Int):SeqAt.shaped (prD c)=true:=by
 unfold SeqAt.shaped
 rw [(prD_can c).1,Bool.true_and]
 exact decide_eq_true (by rw [(prD_can c).2]; decide)
theorem MvAt.tk {H:Hp}:∀ {ts:List Addr} {ms:List (List V)} (m:Nat),MvAt H ts ms→MvAt H (ts.take m) (ms.take m)
 | _,_,0,_=>by rw [List.take_zero,List.take_zero]; exact True.intro
 | [],[],_ + 1,h=>h
 | _ :: _,_ :: _,m + 1,h=>⟨h.1,MvAt.tk m h.2⟩
theorem MvAt.dp {H:Hp}:∀ {ts:List Addr} {ms:List (List V)} (m:Nat),MvAt H ts ms→MvAt H (ts.drop m) (ms.drop m)
 | _,_,0,h=>h
 | [],[],_ + 1,h=>h
 | _ :: _,_ :: _,m + 1,h=>MvAt.dp m h.2
theorem MvAt.ins {H:Hp} {ts:List Addr} {ms:List (List V)} {t:Addr} {m:List V} (h:MvAt H ts ms) (e:H t=some (.tup m)) (k:Nat):MvAt H (ts.take k++t :: ts.drop k) (ms.take k++m :: ms.drop k):=(h.tk k).app (⟨e,h.dp k⟩:MvAt H (t :: ts.drop k) (m :: ms.drop k))
section
variable {f:Addr} {fd':FuncData}
inductive PspAt (K:PySem.W.Frag) (vs:List V) (H:Hp) (Q:VK):Prop
 | mk (L:Addr) (ns:List Int) (k:Int) (h0:vs=[.ref L,.int k]) (h1:SqL K H L (ns.map V.int)) (h2:0≤k) (h3:∀ z:Int,Q (.int z) H):PspAt K vs H Q
noncomputable def spAt (K:PySem.W.Frag):Sp:=fun vs H Q Z=>PspAt K vs H Q
theorem scAt:FnScope ["script","k"] ["script","k"] (defScope sAt):=⟨rfl,rfl,rfl,by decide +kernel,rfl,by decide +kernel,by decide +kernel⟩
theorem ok_at (T:LawT mg) (F:Fun K "_law_cell_at" "_law_cell_at" sAt f fd'):FnOk P w K mg base (CX1 P w) 1 f fd' ["script","k"] (spAt K):=by
 have nd:=scAt.nd
 refine F.ok1 scAt (fun vs H Q E h=>?_) (fun cdv A outer s H vs Q E hr h=>?_)
 ·refine bC fun g_=>?_
  obtain ⟨L,ns,k,e1_,_⟩:=h
  refine g_ ?_
  clear g_
  obtain rfl:=e1_
  rfl
 refine bC fun g_=>?_
 obtain ⟨L,ns,k,e2_,hL,k0,q⟩:=h
 refine g_ ?_
 clear g_
 obtain rfl:=e2_
 refine ⟨_,(pss_cons (ps_if (pt_cmpR op_lt (pv 1) (pe_callB (call_lenK (K:=K) rfl) rfl T.len PySem.boot_len (pa_cons (pv 0) pa_nil)) (nomark _)) (pss_one (ps_ret (pe_ix (ix_listK (K:=K) rfl) (pv 0) (pv 1) (fun Z Z=>rfl)))) pss_nil)
  (pss_one (ps_ret pe_int))),?_⟩
 (try dsimp only [L2.cxK])
 refine ⟨L,_,rfl,.inl hL,?_⟩
 refine ite2 (fun h=>?_) (fun Z=>q _)
 have h':=of_decide_eq_true h
 rw [List.length_map] at h'
 obtain ⟨j,rfl⟩:∃ j:Nat,k=(j:Int):=⟨k.toNat,by lia⟩
 have hj:j < ns.length:=by lia
 exact ⟨L,_,_,.int ns[j],rfl,rfl,hL,atI_nat (by rw [List.getElem?_map,List.getElem?_eq_getElem hj]; rfl),q _⟩
inductive PspStir (vs:List V) (H:Hp) (Q:VK):Prop
 | mk (cell k:Int) (h0:vs=[.int cell,.int k]) (h1:0≤k) (h2:k≤100000) (h3:∀ n:Int,0≤n→n < 268435456→Q (.int n) H):PspStir  vs H Q
noncomputable def spStir:Sp:=fun vs H Q Z=>PspStir  vs H Q
theorem scStir:FnScope ["cell","k","number"] ["cell","k"] (defScope sStir):=⟨rfl,rfl,rfl,by decide +kernel,rfl,by decide +kernel,by decide +kernel⟩
theorem pow28:((2:Int) ^ (28:Int).toNat)=268435456:=by decide
theorem ok_stir (F:Fun K "_law_stir" "_law_stir" sStir f fd'):FnOk P w K mg base (CX1 P w) 1 f fd' ["cell","k"] spStir:=by
 have nd:=scStir.nd
 refine F.ok1 scStir (fun vs H Q E h=>?_) (fun cdv A outer s H vs Q E hr h=>?_)
 ·refine bC fun g_=>?_
  obtain ⟨cell,k,e3_,_⟩:=h
  refine g_ ?_
  clear g_
  obtain rfl:=e3_
  rfl
 refine bC fun g_=>?_
 obtain ⟨cell,k,e4_,k0,k1,q⟩:=h
 refine g_ ?_
 clear g_
 obtain rfl:=e4_
 refine ⟨_,(pss_cons (ps_if (pt_cmpR op_eq (pe_op op_mod (pv 0) pe_int) pe_int (nomark _)) (pss_one (ps_ret (pe_op op_mod (pe_op op_shr (pe_op op_fdiv (pv 0) pe_int) (pe_op op_mul pe_int (pv 1))) (pe_op op_pow pe_int pe_int)))) pss_nil)
  (pss_cons (ps_set (i:=2) nd rfl (Or.inl rfl) (pe_op op_mod (pe_op op_mul (pe_op op_add (pe_op op_add (pe_op op_mod (pv 0) (pe_op op_pow pe_int pe_int)) (pe_op op_mul pe_int (pv 1))) pe_int) pe_int) pe_int))
  (pss_cons (ps_set (i:=2) nd rfl (Or.inl rfl) (pe_op op_mod (pe_op op_mul (pv 2) (pv 2)) pe_int))
  (pss_one (ps_ret (pe_op op_fdiv (pe_op op_mod (pe_op op_mul (pv 2) pe_int) pe_int) pe_int)))))),?_⟩
 (try dsimp only [L2.cxK])
 refine ⟨_,_,rfl,rfl,(by show (0:Int) < 2; decide),rfl,?_⟩
 refine ite2 (fun Z=>?_) (fun Z=>?_)
 ·refine ⟨_,_,rfl,rfl,⟨by decide,by decide⟩,_,_,rfl,rfl,.inl ⟨by decide,by decide⟩,_,_,rfl,rfl,(by show (0:Int)≤28 * k; lia),_,_,rfl,rfl,⟨by decide,by decide,by decide⟩,_,_,rfl,rfl,(by show (0:Int) < (2:Int) ^ (28:Int).toNat; decide),?_⟩
  rw [pow28]
  exact q _ (mod_lt _ (by decide)).1 (mod_lt _ (by decide)).2
 ·refine ⟨_,_,rfl,rfl,⟨by decide,by decide,by decide⟩,_,_,rfl,rfl,(by show (0:Int) < (10:Int) ^ (12:Int).toNat; decide),_,_,rfl,rfl,.inl ⟨by decide,by decide⟩,_,_,rfl,rfl,.inr ⟨by decide,by decide⟩,_,_,rfl,rfl,(by show (0:Int) < 2147483647; decide),?_⟩
  generalize (cell % (10:Int) ^ (12:Int).toNat + 1013 * k + 1) * 16807=g
  have b:=mod_lt g (show (0:Int) < 2147483647 by decide)
  refine ⟨_,_,rfl,rfl,.inl ⟨by lia,by lia⟩,_,_,rfl,rfl,(by show (0:Int) < 2147483629; decide),?_⟩
  refine ⟨_,_,rfl,rfl,.inr ⟨by decide,by decide⟩,_,_,rfl,rfl,(by show (0:Int) < 2147483587; decide),_,_,rfl,rfl,⟨by decide,by decide⟩,?_⟩
  generalize g % 2147483647 * (g % 2147483647) % 2147483629 * 39373=g2
  have b2:=mod_lt g2 (show (0:Int) < 2147483587 by decide)
  refine q _ ?_ ?_
  ·exact Int.ediv_nonneg b2.1 (by decide)
  ·lia
end
noncomputable def Hts (rows:List (List Int)):Prop:=∀ r∈rows,∀ v∈r,0≤v∧v≤1000
section
variable {f:Addr} {fd':FuncData}
inductive PspBed (K:PySem.W.Frag) (vs:List V) (H:Hp) (Q:VK):Prop
 | mk (L:Addr) (ns:List Int) (c:Int) (h0:vs=[.ref L,.int c]) (h1:SqL K H L (ns.map V.int)) (h2:∀ (D:Addr) (bed:List (List Int)) (wd:Nat) (H':Hp),Same H H'→BdAt H' D bed→bed≠[]→(∀ r∈bed,r.length=wd)→1≤wd→wd≤40→bed.length≤20→Hts bed→Q (.ref D) H'):PspBed K vs H Q
noncomputable def spBed (K:PySem.W.Frag):Sp:=fun vs H Q Z=>PspBed K vs H Q
theorem scBed:FnScope ["script","head","wide","deep","kind","base","bed","y","row","x","number","height"] ["script","head"] (defScope sBed):=⟨rfl,rfl,rfl,by decide +kernel,rfl,by decide +kernel,by decide +kernel⟩
theorem ok_bed (T:LawT mg) (FA:Fn P w K mg base "_law_cell_at" 1 ["script","k"] (spAt K)) (FS:Fn P w K mg base "_law_stir" 1 ["cell","k"] spStir) (F:Fun K "_law_bed" "_law_bed" sBed f fd'):FnOk P w K mg base (CX1 P w) 2 f fd' ["script","head"] (spBed K):=by
 have nd:=scBed.nd
 refine F.ok1 scBed (fun vs H Q E h=>?_) (fun cdv A outer s H vs Q E hr h=>?_)
 ·refine bC fun g_=>?_
  obtain ⟨L,ns,c,e1_,_⟩:=h
  refine g_ ?_
  clear g_
  obtain rfl:=e1_
  rfl
 refine bC fun g_=>?_
 obtain ⟨L,ns,hd,e2_,hL,q⟩:=h
 refine g_ ?_
 clear g_
 obtain rfl:=e2_
 refine ⟨_,(pss_cons (ps_set (i:=2) nd rfl (Or.inl rfl) (pe_op op_add pe_int (pe_op op_mod (pf_call FS hr rfl (pass1 (E:=E)) (pa_cons (pv 1) (pa_cons pe_int pa_nil))) pe_int)))
  (pss_cons (ps_set (i:=3) nd rfl (Or.inl rfl) (pe_op op_add pe_int (pe_op op_mod (pf_call FS hr rfl (pass1 (E:=E)) (pa_cons (pv 1) (pa_cons pe_int pa_nil))) pe_int)))
  (pss_cons (ps_set (i:=4) nd rfl (Or.inl rfl) (pe_op op_mod (pf_call FS hr rfl (pass1 (E:=E)) (pa_cons (pv 1) (pa_cons pe_int pa_nil))) pe_int))
  (pss_cons (ps_set (i:=5) nd rfl (Or.inl rfl) (pe_op op_mod (pf_call FS hr rfl (pass1 (E:=E)) (pa_cons (pv 1) (pa_cons pe_int pa_nil))) pe_int))
  (pss_mid (ps_if (pt_cmpR op_eq (pv 4) pe_int (nomark _)) (pss_cons (ps_set (i:=2) nd rfl (Or.inl rfl) (pe_op op_add pe_int (pe_op op_mod (pv 2) pe_int)))
  (pss_cons (ps_set (i:=3) nd rfl (Or.inl rfl) pe_int)
  (pss_one (ps_set (i:=5) nd rfl (Or.inl rfl) (pe_op op_mod (pv 5) pe_int))))) (pss_one (ps_if (pt_cmpR op_eq (pe_op op_mod (pf_call FS hr rfl (pass1 (E:=E)) (pa_cons (pv 1) (pa_cons pe_int pa_nil))) pe_int) pe_int (nomark _)) (pss_cons (ps_set (i:=2) nd rfl (Or.inl rfl) (pe_op op_add pe_int (pe_op op_mod (pf_call FS hr rfl (pass1 (E:=E)) (pa_cons (pv 1) (pa_cons pe_int pa_nil))) pe_int)))
  (pss_one (ps_set (i:=3) nd rfl (Or.inl rfl) (pe_op op_add pe_int (pe_op op_mod (pf_call FS hr rfl (pass1 (E:=E)) (pa_cons (pv 1) (pa_cons pe_int pa_nil))) (pe_op op_fdiv pe_int (pv 2))))))) pss_nil)))
  (pss_cons (ps_set (i:=6) nd rfl (Or.inl rfl) (pe_lst pa_nil))
  (pss_cons (ps_for own1 rfl (pi_range1 rfl T.range (pa_cons (pv 3) pa_nil)) (pg_name (i:=7) nd rfl (Or.inl rfl)) (pss_cons (ps_set (i:=8) nd rfl (Or.inl rfl) (pe_lst pa_nil))
  (pss_cons (ps_for own1 rfl (pi_range1 rfl T.range (pa_cons (pv 2) pa_nil)) (pg_name (i:=9) nd rfl (Or.inl rfl)) (pss_cons (ps_set (i:=10) nd rfl (Or.inl rfl) (pf_call FS hr rfl (pass1 (E:=E)) (pa_cons (pf_call FA hr rfl (pass1 (E:=E)) (pa_cons (pv 0) (pa_cons (pe_op op_mod (pe_op op_add (pv 9) (pe_op op_mul pe_int (pv 7))) (pe_callB (call_max2 rfl) rfl T.max bt_max (pa_cons pe_int (pa_cons (pe_callB (call_lenK (K:=K) rfl) rfl T.len PySem.boot_len (pa_cons (pv 0) pa_nil)) pa_nil)))) pa_nil))) (pa_cons (pe_op op_add (pe_op op_add pe_int (pv 9)) (pe_op op_mul pe_int (pv 7))) pa_nil))))
  (pss_cons (ps_set (i:=11) nd rfl (Or.inl rfl) (pe_ix (ix_listK (K:=K) rfl) (pe_lst (pa_cons (pv 5) (pa_cons (pe_op op_add (pv 5) (pe_op op_mod (pe_op op_fdiv (pv 10) pe_int) pe_int)) (pa_cons (pe_op op_add (pv 5) pe_int) (pa_cons (pv 5) pa_nil))))) (pe_op op_mod (pv 10) pe_int) (fun Z Z=>rfl)))
  (pss_mid (ps_if (pt_cmpR op_gt (pv 4) pe_int (nomark _)) (pss_one (ps_set (i:=11) nd rfl (Or.inl rfl) (pe_op op_mod (pe_op op_fdiv (pv 10) pe_int) pe_int))) pss_nil)
  (pss_one (ps_expr (pe_bm PySem.F.plainAttrs_list PySem.F.slot_list_append PySem.F.type_list_append mt_append (pv 8) (pa_cons (pv 11) pa_nil))))))))
  (pss_one (ps_expr (pe_bm PySem.F.plainAttrs_list PySem.F.slot_list_append PySem.F.type_list_append mt_append (pv 6) (pa_cons (pv 8) pa_nil)))))))
  (pss_one (ps_ret (pv 6)))))))))),?_⟩
 (try dsimp only [L2.cxK])
 refine ⟨hd,0,rfl,(by decide),(by decide),fun n1 n10 Z=>⟨_,_,rfl,rfl,(by show (0:Int) < 5; decide),?_⟩⟩
 refine ⟨hd,1,rfl,(by decide),(by decide),fun n2 n20 Z=>⟨_,_,rfl,rfl,(by show (0:Int) < 4; decide),?_⟩⟩
 refine ⟨hd,3,rfl,(by decide),(by decide),fun n3 n30 Z=>⟨_,_,rfl,rfl,(by show (0:Int) < 8; decide),?_⟩⟩
 refine ⟨hd,2,rfl,(by decide),(by decide),fun n4 n40 Z=>⟨_,_,rfl,rfl,(by show (0:Int) < 990; decide),?_⟩⟩
 have b1:=mod_lt n1 (show (0:Int) < 5 by decide)
 have b2:=mod_lt n2 (show (0:Int) < 4 by decide)
 have b4:=mod_lt n4 (show (0:Int) < 990 by decide)
 refine ⟨fun σ G=>Ex3 fun (wd dp:Nat) (bs:Int)=>σ=[some (.ref L),some (.int hd),some (.int (wd:Int)),some (.int (dp:Int)),some (.int (n3 % 8)),some (.int bs),none,none,none,none,none,none]∧G=H∧1≤wd∧wd≤40∧1≤dp∧dp≤20∧0≤bs∧bs≤990,?_,?_⟩
 ·have fin:∀ (a b c:Int),1≤a→a≤40→1≤b→b≤20→0≤c→c≤990→Ex3 fun (wd dp:Nat) (bs:Int)=>[some (V.ref L),some (.int hd),some (.int a),some (.int b),some (.int (n3 % 8)),some (.int c),none,none,none,none,none,none]=[some (.ref L),some (.int hd),some (.int (wd:Int)),some (.int (dp:Int)),some (.int (n3 % 8)),some (.int bs),none,none,none,none,none,none]∧H=H∧1≤wd∧wd≤40∧1≤dp∧dp≤20∧0≤bs∧bs≤990:=fun a b c a1 a2 b1 b2 c1 c2=>by
   refine ⟨a.toNat,b.toNat,c,?_,rfl,by lia,by lia,by lia,by lia,c1,c2⟩
   rw [Int.toNat_of_nonneg (by lia),Int.toNat_of_nonneg (by lia)]
  refine ⟨rfl,ite2 (fun Z=>?_) (fun Z=>?_)⟩
  ·have c1:=mod_lt (1 + n1 % 5) (show (0:Int) < 2 by decide)
   have c3:=mod_lt (n4 % 990) (show (0:Int) < 300 by decide)
   exact ⟨_,_,rfl,rfl,(by show (0:Int) < 2; decide),_,_,rfl,rfl,(by show (0:Int) < 300; decide),fin _ _ _ (by lia) (by lia) (by decide) (by decide) c3.1 (by lia)⟩
  ·refine ⟨hd,4,rfl,(by decide),(by decide),fun n5 n50 Z=>⟨_,_,rfl,rfl,(by show (0:Int) < 16; decide),rfl,ite2 (fun Z=>?_) (fun Z=>?_)⟩⟩
   ·refine ⟨hd,0,rfl,(by decide),(by decide),fun n6 n60 Z=>⟨_,_,rfl,rfl,(by show (0:Int) < 34; decide),?_⟩⟩
    have c6:=mod_lt n6 (show (0:Int) < 34 by decide)
    refine ⟨hd,1,rfl,(by decide),(by decide),fun n7 n70 Z=>⟨_,_,rfl,rfl,?_,_,_,rfl,rfl,?_,?_⟩⟩
    ·exact ⟨by show (0:Int) < 7 + n6 % 34; lia,by show 7 + n6 % 34 < 1073741824; lia⟩
    ·show (0:Int) < 120 / (7 + n6 % 34)
     exact Int.lt_of_lt_of_le (by decide) (Int.le_ediv_of_mul_le (show (0:Int) < 7 + n6 % 34 by lia) (show 1 * (7 + n6 % 34)≤120 by lia))
    ·have e1:1≤120 / (7 + n6 % 34):=Int.le_ediv_of_mul_le (show (0:Int) < 7 + n6 % 34 by lia) (show 1 * (7 + n6 % 34)≤120 by lia)
     have e2:120 / (7 + n6 % 34) < 18:=Int.ediv_lt_of_lt_mul (show (0:Int) < 7 + n6 % 34 by lia) (by lia)
     have c7:=mod_lt n7 (show (0:Int) < 120 / (7 + n6 % 34) by lia)
     exact fin _ _ _ (by lia) (by lia) (by lia) (by lia) b4.1 (by lia)
   ·exact fin _ _ _ (by lia) (by lia) (by lia) (by lia) b4.1 (by lia)
 rintro σ G h_
 refine bC fun g_=>?_
 obtain ⟨wd,dp,bs,e3_,e4_,wd1,wd40,dp1,dp20,bs0,bs9⟩:=h_
 refine g_ ?_
 clear g_
 obtain rfl:=e3_
 obtain rfl:=e4_
 generalize n3 % 8=kd
 clear b1 b2 b4 n10 n20 n30 n40
 refine ⟨Nat.zero_le _,fun D hD=>?_⟩
 have vD:=same_upd hD (.lst [])
 refine ⟨_,rfl,(by lia),(by lia),?_⟩
 rw [Int.toNat_natCast]
 refine for_range (n:=dp) (fun y σ G1=>Ex7 fun (x7 x8 x9 x10 x11:Option V) (rs:List Addr) (rows:List (List Int))=>σ=[some (.ref L),some (.int hd),some (.int (wd:Int)),some (.int (dp:Int)),some (.int kd),some (.int bs),some (.ref D),x7,x8,x9,x10,x11]∧Same G G1∧G1 D=some (.lst (rs.map V.ref))∧RowsAt G1 rs rows∧D ∉ rs∧rows.length=y∧(∀ r∈rows,r.length=wd)∧Hts rows)
  ⟨none,none,none,none,none,[],[],rfl,vD,upd_same,True.intro,List.not_mem_nil,rfl,(fun Z h=>(List.not_mem_nil h).elim),fun Z h=>(List.not_mem_nil h).elim⟩ ?_ ?_
 ·rintro y σ G1 hy h_
  refine bC fun g_=>?_
  obtain ⟨x7,x8,x9,x10,x11,rs,rows,e5_,sG1,hD1,rr,nDr,rl,rw,rb⟩:=h_
  refine g_ ?_
  clear g_
  obtain rfl:=e5_
  rw [Int.zero_add]
  refine ⟨Nat.zero_le _,fun r hr'=>?_⟩
  have nrD:r≠D:=ne_new hD1 hr'
  refine ⟨_,rfl,(by lia),(by lia),?_⟩
  rw [Int.toNat_natCast]
  refine for_range (n:=wd) (fun x σ G2=>Ex4 fun (x9 x10 x11:Option V) (vs:List Int)=>σ=[some (.ref L),some (.int hd),some (.int (wd:Int)),some (.int (dp:Int)),some (.int kd),some (.int bs),some (.ref D),some (.int (y:Int)),some (.ref r),x9,x10,x11]∧Same G1 G2∧G2 r=some (.lst (vs.map V.int))∧vs.length=x∧∀ v∈vs,0≤v∧v≤1000) ⟨x9,x10,x11,[],rfl,same_upd hr' _,upd_same,rfl,fun Z h=>(List.not_mem_nil h).elim⟩ ?_ ?_
  ·rintro x σ G2 hx h_
   refine bC fun g_=>?_
   obtain ⟨x9,x10,x11,vs,e6_,sG2,hr2,vl,vb⟩:=h_
   refine g_ ?_
   clear g_
   obtain rfl:=e6_
   rw [Int.zero_add]
   have hL2:=(sG1.trans sG2).seq hL
   refine ⟨_,_,rfl,rfl,.inl ⟨by decide,by decide⟩,L,_,rfl,.inl hL2,_,_,rfl,_,_,rfl,rfl,(by split <;> lia),L,ns,_,rfl,hL2,(mod_lt _ (by split <;> lia)).1,fun z=>⟨_,_,rfl,rfl,.inl ⟨by decide,by decide⟩,z,_,rfl,(by lia),(by lia),fun n n0 Z=>?_⟩⟩
   refine ⟨_,_,rfl,rfl,⟨by decide,by decide⟩,_,_,rfl,rfl,(by show (0:Int) < 9; decide),le4,fun l hl=>?_⟩
   have v2:=same_upd hl (.lst [V.int bs,.int (bs + n / 4 % 9),.int (bs + 3),.int bs])
   have hm:=mod_lt n (show (0:Int) < 4 by decide)
   have hm9:=mod_lt (n / 4) (show (0:Int) < 9 by decide)
   have hm1:=mod_lt (n / 4) (show (0:Int) < 1001 by decide)
   refine bC fun g_=>?_
   obtain ⟨v,hv,hat⟩:=at4 (V.int bs) (.int (bs + n / 4 % 9)) (.int (bs + 3)) (.int bs) hm.1 hm.2
   refine g_ ?_
   clear g_
   obtain ⟨u,rfl,u0,u1⟩:∃ z:Int,v=.int z∧0≤z∧z≤1000:=by
    rcases hv with rfl | rfl | rfl | rfl
    ·exact ⟨_,rfl,by lia,by lia⟩
    ·exact ⟨_,rfl,by lia,by lia⟩
    ·exact ⟨_,rfl,by lia,by lia⟩
    ·exact ⟨_,rfl,by lia,by lia⟩
   refine ⟨_,_,rfl,rfl,(by show (0:Int) < 4; decide),l,_,_,.int u,rfl,rfl,SqL.of upd_same,hat,?_⟩
   have hr3:=v2 _ _ hr2
   have s3:=sG2.trans v2
   refine ⟨fun σ G=>∃ u:Int,σ=[some (.ref L),some (.int hd),some (.int (wd:Int)),some (.int (dp:Int)),some (.int kd),some (.int bs),some (.ref D),some (.int (y:Int)),some (.ref r),some (.int (x:Int)),some (.int n),some (.int u)]∧G r=some (.lst (vs.map V.int))∧Same G1 G∧0≤u∧u≤1000,?_,?_⟩
   ·exact (ite2 (fun Z=>⟨_,_,rfl,rfl,⟨by decide,by decide⟩,_,_,rfl,rfl,(by show (0:Int) < 1001; decide),_,rfl,hr3,s3,hm1.1,Int.le_of_lt_add_one hm1.2⟩) (fun Z=>⟨u,rfl,hr3,s3,u0,u1⟩))
   ·rintro σ G h_
    refine bC fun g_=>?_
    obtain ⟨u,e7_,hr3,s3,u0,u1⟩:=h_
    refine g_ ?_
    clear g_
    obtain rfl:=e7_
    exact ⟨.inl ⟨rfl,_,SqL.of hr3⟩,r,_,.int u,rfl,rfl,hr3,(by rw [List.length_map]; exact line3 (show vs.length≤1000 by lia) (by decide)),_,_,_,vs++[u],rfl,same_in s3 hr',by rw [upd_same,List.map_append]; rfl,by rw [List.length_append,vl]; rfl,fun v hv=>by
     rcases List.mem_append.mp hv with hv | hv
     ·exact vb v hv
     ·rw [List.mem_singleton.mp hv]; exact ⟨u0,u1⟩⟩
  ·rintro σ G2 h_
   refine bC fun g_=>?_
   obtain ⟨x9,x10,x11,vs,e8_,sG2,hr2,vl,vb⟩:=h_
   refine g_ ?_
   clear g_
   obtain rfl:=e8_
   have hD2:=sG2 _ _ hD1
   have rsl:=rr.len
   have rr3:=rr.same sG2
   refine ⟨.inl ⟨rfl,_,SqL.of hD2⟩,D,_,.ref r,rfl,rfl,hD2,(by rw [List.length_map]; exact line3 (show rs.length≤1000 by lia) (by decide)),_,_,_,_,_,rs++[r],rows++[vs],rfl,same_in (sG1.trans sG2) hD,by rw [upd_same,List.map_append]; rfl,?_,fun z=>?_,by rw [List.length_append,rl]; rfl,fun v hv=>?_,fun v hv=>?_⟩
   ·refine RowsAt.snoc (by rw [upd_ne nrD]; exact hr2) (rr3.keep fun a ha' o e=>?_)
    rw [upd_ne (fun z=>nDr (by rw [← z]; exact ha'))]
    exact e
   ·rcases List.mem_append.mp z with z | z
    ·exact nDr z
    ·exact nrD (List.mem_singleton.mp z).symm
   ·rcases List.mem_append.mp hv with hv | hv
    ·exact rw v hv
    ·rw [List.mem_singleton.mp hv]; exact vl
   ·rcases List.mem_append.mp hv with hv | hv
    ·exact rb v hv
    ·rw [List.mem_singleton.mp hv]; exact vb
 ·rintro σ G1 h_
  refine bC fun g_=>?_
  obtain ⟨x7,x8,x9,x10,x11,rs,rows,e9_,sG1,hD1,rr,nDr,rl,rw,rb⟩:=h_
  refine g_ ?_
  clear g_
  obtain rfl:=e9_
  have ne:rows≠[]:=fun z=>by rw [z] at rl; have:(0:Nat)=dp:=rl; lia
  exact (q D rows wd _ sG1 ⟨rs,hD1,rr⟩ ne rw wd1 wd40 (by lia) rb)
end
theorem le6:6≤sizeLine:=by decide
section
variable {f:Addr} {fd':FuncData}
inductive PspWish (K:PySem.W.Frag) (vs:List V) (H:Hp) (Q:VK):Prop
 | mk (L b:Addr) (ns:List Int) (hd:Int) (bed:List (List Int)) (wd:Nat) (h0:vs=[.ref L,.ref b,.int hd]) (h1:SqL K H L (ns.map V.int)) (h2:BdAt H b bed) (h3:bed≠[]) (h4:∀ r∈bed,r.length=wd) (h5:wd≤40) (h6:bed.length≤20) (h7:Hts bed)
   (h8:∀ (D:Addr) (wished:List (List Int)) (H':Hp),Same H H'→BdAt H' D wished→wished.length=bed.length→(∀ r∈wished,r.length=wd)→Hts wished→Q (.ref D) H'):PspWish K vs H Q
noncomputable def spWish (K:PySem.W.Frag):Sp:=fun vs H Q Z=>PspWish K vs H Q
theorem scWish:FnScope ["script","bed","head","kind","wished","y","row","x","number","less"] ["script","bed","head"] (defScope sWish):=⟨rfl,rfl,rfl,by decide +kernel,rfl,by decide +kernel,by decide +kernel⟩
theorem ok_wish (T:LawT mg) (FA:Fn P w K mg base "_law_cell_at" 1 ["script","k"] (spAt K)) (FS:Fn P w K mg base "_law_stir" 1 ["cell","k"] spStir) (F:Fun K "_law_wished" "_law_wished" sWish f fd'):FnOk P w K mg base (CX1 P w) 2 f fd' ["script","bed","head"] (spWish K):=by
 have nd:=scWish.nd
 refine F.ok1 scWish (fun vs H Q E h=>?_) (fun cdv A outer s H vs Q E hr h=>?_)
 ·refine bC fun g_=>?_
  obtain ⟨L,b,ns,hd,bed,wd,e1_,_⟩:=h
  refine g_ ?_
  clear g_
  obtain rfl:=e1_
  rfl
 refine bC fun g_=>?_
 obtain ⟨L,b,ns,hd,bed,wd,e2_,hL,⟨bs,hb,rb⟩,bne,bwd,wd40,b20,bht,q⟩:=h
 refine g_ ?_
 clear g_
 obtain rfl:=e2_
 refine ⟨_,(pss_cons (ps_set (i:=3) nd rfl (Or.inl rfl) (pe_op op_mod (pf_call FS hr rfl (pass1 (E:=E)) (pa_cons (pv 2) (pa_cons pe_int pa_nil))) pe_int))
  (pss_cons (ps_set (i:=4) nd rfl (Or.inl rfl) (pe_lst pa_nil))
  (pss_cons (ps_for own1 rfl (pi_range1 rfl T.range (pa_cons (pe_callB (call_lenK (K:=K) rfl) rfl T.len PySem.boot_len (pa_cons (pv 1) pa_nil)) pa_nil)) (pg_name (i:=5) nd rfl (Or.inl rfl)) (pss_cons (ps_set (i:=6) nd rfl (Or.inl rfl) (pe_lst pa_nil))
  (pss_cons (ps_for own1 rfl (pi_range1 rfl T.range (pa_cons (pe_callB (call_lenK (K:=K) rfl) rfl T.len PySem.boot_len (pa_cons (pe_ix (ix_listK (K:=K) rfl) (pv 1) (pv 5) (fun Z Z=>rfl)) pa_nil)) pa_nil)) (pg_name (i:=7) nd rfl (Or.inl rfl)) (pss_cons (ps_set (i:=8) nd rfl (Or.inl rfl) (pf_call FS hr rfl (pass1 (E:=E)) (pa_cons (pf_call FA hr rfl (pass1 (E:=E)) (pa_cons (pv 0) (pa_cons (pe_op op_mod (pe_op op_add (pe_op op_add pe_int (pv 7)) (pe_op op_mul pe_int (pv 5))) (pe_callB (call_max2 rfl) rfl T.max bt_max (pa_cons pe_int (pa_cons (pe_callB (call_lenK (K:=K) rfl) rfl T.len PySem.boot_len (pa_cons (pv 0) pa_nil)) pa_nil)))) pa_nil))) (pa_cons (pe_op op_add (pe_op op_add pe_int (pv 7)) (pe_op op_mul pe_int (pv 5))) pa_nil))))
  (pss_cons (ps_set (i:=9) nd rfl (Or.inl rfl) (pe_ix (ix_listK (K:=K) rfl) (pe_lst (pa_cons pe_int (pa_cons pe_int (pa_cons (pe_op op_add pe_int (pe_op op_mod (pe_op op_fdiv (pv 8) pe_int) pe_int)) (pa_cons (pe_op op_mod (pe_op op_fdiv (pv 8) pe_int) (pe_op op_add (pe_ix (ix_listK (K:=K) rfl) (pe_ix (ix_listK (K:=K) rfl) (pv 1) (pv 5) (fun Z Z=>rfl)) (pv 7) (fun Z Z=>rfl)) pe_int)) (pa_cons (pe_op op_mod (pe_op op_fdiv (pv 8) pe_int) pe_int) (pa_cons (pe_ix (ix_listK (K:=K) rfl) (pe_ix (ix_listK (K:=K) rfl) (pv 1) (pv 5) (fun Z Z=>rfl)) (pv 7) (fun Z Z=>rfl)) pa_nil))))))) (pe_op op_mod (pv 8) pe_int) (fun Z Z=>rfl)))
  (pss_mid (ps_if (PW.pt (pw_or (pt_cmpR op_lt (pv 3) pe_int (nomark _)) (pw_or1 (pt_cmpR op_gt (pe_op op_mul (pe_callB (call_lenK (K:=K) rfl) rfl T.len PySem.boot_len (pa_cons (pv 1) pa_nil)) (pe_callB (call_lenK (K:=K) rfl) rfl T.len PySem.boot_len (pa_cons (pe_ix (ix_listK (K:=K) rfl) (pv 1) pe_int (fun Z Z=>rfl)) pa_nil))) pe_int (nomark _))))) (pss_one (ps_set (i:=9) nd rfl (Or.inl rfl) (pe_op op_mod (pv 9) pe_int))) pss_nil)
  (pss_one (ps_expr (pe_bm PySem.F.plainAttrs_list PySem.F.slot_list_append PySem.F.type_list_append mt_append (pv 6) (pa_cons (pe_op op_sub (pe_ix (ix_listK (K:=K) rfl) (pe_ix (ix_listK (K:=K) rfl) (pv 1) (pv 5) (fun Z Z=>rfl)) (pv 7) (fun Z Z=>rfl)) (pe_callB (call_min2 rfl) rfl T.min bt_min (pa_cons (pv 9) (pa_cons (pe_ix (ix_listK (K:=K) rfl) (pe_ix (ix_listK (K:=K) rfl) (pv 1) (pv 5) (fun Z Z=>rfl)) (pv 7) (fun Z Z=>rfl)) pa_nil)))) pa_nil))))))))
  (pss_one (ps_expr (pe_bm PySem.F.plainAttrs_list PySem.F.slot_list_append PySem.F.type_list_append mt_append (pv 4) (pa_cons (pv 6) pa_nil)))))))
  (pss_one (ps_ret (pv 4)))))),?_⟩
 (try dsimp only [L2.cxK])
 refine abs_seq fun dE eE=>?_
 have bsl:=rb.len
 have bl1:1≤bed.length:=by
  cases bed with
  | nil=>exact absurd rfl bne
  | cons _ _=>exact Nat.succ_le_succ (Nat.zero_le _)
 obtain ⟨a0,ha0,hra0⟩:=rb.at_ (i:=0) (List.getElem?_eq_getElem (show 0 < bed.length by lia))
 have l0:(bed[0]).length=wd:=bwd _ (List.getElem_mem _)
 generalize bed[0]=row0 at hra0 l0
 refine ⟨hd,3,rfl,(by decide),(by decide),fun n3 n30 Z=>⟨_,_,rfl,rfl,(by show (0:Int) < 8; decide),?_⟩⟩
 obtain ⟨kd,hkd⟩:∃ kd:Int,kd=n3 % 8:=⟨_,rfl⟩
 rw [← hkd]
 refine nxS eE fun dE eE=>?_
 refine ⟨Nat.zero_le _,fun D hD=>?_⟩
 have vD:=same_upd hD (.lst [])
 refine nxS eE fun dE eE=>?_
 refine ⟨b,_,rfl,.inl (SqL.of (vD _ _ hb)),_,rfl,(by lia),(by rw [List.length_map,bsl]; lia),?_⟩
 rw [Int.toNat_natCast,List.length_map,bsl]
 refine for_range (n:=bed.length) (fun y σ G1=>Ex7 fun (x5 x6 x7 x8 x9:Option V) (rs:List Addr) (rows:List (List Int))=>σ=[some (.ref L),some (.ref b),some (.int hd),some (.int kd),some (.ref D),x5,x6,x7,x8,x9]∧Same H G1∧G1 D=some (.lst (rs.map V.ref))∧RowsAt G1 rs rows∧D ∉ rs∧rows.length=y∧(∀ r∈rows,r.length=wd)∧Hts rows)
  ⟨none,none,none,none,none,[],[],rfl,vD,upd_same,True.intro,List.not_mem_nil,rfl,(fun Z h=>(List.not_mem_nil h).elim),fun Z h=>(List.not_mem_nil h).elim⟩ ?_ ?_
 ·rintro y σ G1 hy h_
  refine bC fun g_=>?_
  obtain ⟨x5,x6,x7,x8,x9,rs,rows,e3_,sG1,hD1,rr,nDr,rl,rw,rb1⟩:=h_
  refine g_ ?_
  clear g_
  obtain rfl:=e3_
  rw [Int.zero_add]
  have ey:=List.getElem?_eq_getElem hy
  refine bC fun g_=>?_
  obtain ⟨r0,hr0,hrr0⟩:=rb.at_ ey
  refine g_ ?_
  clear g_
  have rlen0:(bed[y]).length=wd:=bwd _ (List.getElem_mem hy)
  have rht:=bht _ (List.getElem_mem hy)
  generalize bed[y]=row at ey hrr0 rlen0 rht
  have aty:atI (bs.map V.ref) (y:Int)=some (.ref r0):=atI_nat (by rw [List.getElem?_map,hr0]; rfl)
  refine ⟨Nat.zero_le _,fun r hr'=>?_⟩
  have nrD:r≠D:=ne_new hD1 hr'
  have u1:=same_upd hr' (.lst [])
  refine ⟨b,_,_,.ref r0,rfl,rfl,SqL.of (u1 _ _ (sG1 _ _ hb)),aty,r0,_,rfl,.inl (SqL.of (u1 _ _ (sG1 _ _ hrr0))),_,rfl,(by lia),(by rw [List.length_map,rlen0]; lia),?_⟩
  rw [Int.toNat_natCast,List.length_map,rlen0]
  refine for_range (n:=wd) (fun x σ G2=>Ex4 fun (x7 x8 x9:Option V) (vs:List Int)=>σ=[some (.ref L),some (.ref b),some (.int hd),some (.int kd),some (.ref D),some (.int (y:Int)),some (.ref r),x7,x8,x9]∧Same G1 G2∧G2 r=some (.lst (vs.map V.int))∧vs.length=x∧∀ v∈vs,0≤v∧v≤1000) ⟨x7,x8,x9,[],rfl,u1,upd_same,rfl,fun Z h=>(List.not_mem_nil h).elim⟩ ?_ ?_
  ·rintro x σ G2 hx h_
   refine bC fun g_=>?_
   obtain ⟨x7,x8,x9,vs,e4_,sG2,hr2,vl,vb⟩:=h_
   refine g_ ?_
   clear g_
   obtain rfl:=e4_
   rw [Int.zero_add]
   have s02:=sG1.trans sG2
   have hL2:=s02.seq hL
   have hxr:x < row.length:=by lia
   have ex:=List.getElem?_eq_getElem hxr
   have bv:=rht _ (List.getElem_mem hxr)
   generalize row[x]=hv at ex bv
   have atx:atI (row.map V.int) (x:Int)=some (.int hv):=atI_nat (by rw [List.getElem?_map,ex]; rfl)
   refine ⟨_,_,rfl,rfl,.inl ⟨by decide,by decide⟩,L,_,rfl,.inl hL2,_,_,rfl,_,_,rfl,rfl,(by split <;> lia),L,ns,_,rfl,hL2,(mod_lt _ (by split <;> lia)).1,fun z=>⟨_,_,rfl,rfl,.inl ⟨by decide,by decide⟩,z,_,rfl,(by lia),(by lia),fun n n0 Z=>?_⟩⟩
   have hb2:=SqL.of (K:=K) (s02 _ _ hb)
   have hrr2:=SqL.of (K:=K) (s02 _ _ hrr0)
   refine ⟨_,_,rfl,rfl,⟨by decide,by decide⟩,_,_,rfl,rfl,(by show (0:Int) < 5; decide),_,_,rfl,rfl,⟨by decide,by decide⟩,b,_,_,.ref r0,rfl,rfl,hb2,aty,r0,_,_,.int hv,rfl,rfl,hrr2,atx,_,_,rfl,rfl,(by show (0:Int) < hv + 1; lia),_,_,rfl,rfl,⟨by decide,by decide⟩,_,_,rfl,rfl,(by show (0:Int) < 9; decide),b,_,_,.ref r0,rfl,rfl,hb2,aty,r0,_,_,.int hv,rfl,rfl,hrr2,atx,le6,fun l hl=>?_⟩
   have v2:=same_upd hl (.lst [V.int 0,.int 1,.int (2 + n / 6 % 5),.int (n / 6 % (hv + 1)),.int (n / 6 % 9),.int hv])
   have hm:=mod_lt n (show (0:Int) < 6 by decide)
   have hm5:=mod_lt (n / 6) (show (0:Int) < 5 by decide)
   have hm9:=mod_lt (n / 6) (show (0:Int) < 9 by decide)
   have hmv:=mod_lt (n / 6) (show (0:Int) < hv + 1 by lia)
   obtain ⟨v,hat,hvm⟩:=at_mem (xs:=[0,1,2 + n / 6 % 5,n / 6 % (hv + 1),n / 6 % 9,hv].map V.int) hm.1 (by show n % 6 < 6; exact hm.2)
   obtain ⟨u,hu,rfl⟩:=List.mem_map.mp hvm
   have u0:0≤u:=by
    simp only [List.mem_cons,List.mem_nil_iff,or_false] at hu
    rcases hu with rfl | rfl | rfl | rfl | rfl | rfl
    ·decide
    ·decide
    ·lia
    ·exact hmv.1
    ·exact hm9.1
    ·exact bv.1
   refine ⟨_,_,rfl,rfl,(by show (0:Int) < 6; decide),l,_,_,.int u,rfl,rfl,SqL.of upd_same,hat,?_⟩
   have hr3:=v2 _ _ hr2
   have s3:=sG2.trans v2
   refine ⟨fun σ G=>∃ u:Int,σ=[some (.ref L),some (.ref b),some (.int hd),some (.int kd),some (.ref D),some (.int (y:Int)),some (.ref r),some (.int (x:Int)),some (.int n),some (.int u)]∧G r=some (.lst (vs.map V.int))∧Same G1 G∧0≤u,?_,?_⟩
   ·have hm12:=mod_lt u (show (0:Int) < 12 by decide)
    have s03:=sG1.trans s3
    refine (ite2 (fun Z=>?_) (fun Z=>?_))
    ·exact ⟨_,_,rfl,rfl,(by show (0:Int) < 12; decide),_,rfl,hr3,s3,hm12.1⟩
    ·refine ⟨b,_,rfl,.inl (SqL.of (s03 _ _ hb)),b,_,0,.ref a0,rfl,rfl,SqL.of (s03 _ _ hb),atI_nat (j:=0) (by rw [List.getElem?_map,ha0]; rfl),a0,_,rfl,.inl (SqL.of (s03 _ _ hra0)),_,_,rfl,rfl,.inl ⟨by rw [List.length_map]; lia,by rw [List.length_map,bsl]; lia⟩,ite2 (fun Z=>?_) (fun Z=>?_)⟩
     ·exact ⟨_,_,rfl,rfl,(by show (0:Int) < 12; decide),_,rfl,hr3,s3,hm12.1⟩
     ·exact ⟨u,rfl,hr3,s3,u0⟩
   ·rintro σ G h_
    refine bC fun g_=>?_
    obtain ⟨u,e6_,hr3,s3,u0⟩:=h_
    refine g_ ?_
    clear g_
    obtain rfl:=e6_
    have s03:=sG1.trans s3
    have hb3:=SqL.of (K:=K) (s03 _ _ hb)
    have hrr3:=SqL.of (K:=K) (s03 _ _ hrr0)
    refine ⟨.inl ⟨rfl,_,SqL.of hr3⟩,b,_,_,.ref r0,rfl,rfl,hb3,aty,r0,_,_,.int hv,rfl,rfl,hrr3,atx,b,_,_,.ref r0,rfl,rfl,hb3,aty,r0,_,_,.int hv,rfl,rfl,hrr3,atx,_,_,rfl,r,_,_,rfl,rfl,hr3,(by rw [List.length_map]; exact line3 (show vs.length≤1000 by lia) (by decide)),_,_,_,vs++[_],rfl,same_in s3 hr',by rw [upd_same,List.map_append]; rfl,by rw [List.length_append,vl]; rfl,fun v hv'=>?_⟩
    rcases List.mem_append.mp hv' with hv' | hv'
    ·exact vb v hv'
    ·rw [List.mem_singleton.mp hv']
     split <;> lia
  ·rintro σ G2 h_
   refine bC fun g_=>?_
   obtain ⟨x7,x8,x9,vs,e7_,sG2,hr2,vl,vb⟩:=h_
   refine g_ ?_
   clear g_
   obtain rfl:=e7_
   have hD2:=sG2 _ _ hD1
   have rsl:=rr.len
   have rr3:=rr.same sG2
   refine ⟨.inl ⟨rfl,_,SqL.of hD2⟩,D,_,.ref r,rfl,rfl,hD2,(by rw [List.length_map]; exact line3 (show rs.length≤1000 by lia) (by decide)),_,_,_,_,_,rs++[r],rows++[vs],rfl,same_in (sG1.trans sG2) hD,by rw [upd_same,List.map_append]; rfl,?_,fun z=>?_,by rw [List.length_append,rl]; rfl,fun v hv=>?_,fun v hv=>?_⟩
   ·refine RowsAt.snoc (by rw [upd_ne nrD]; exact hr2) (rr3.keep fun a ha' o e=>?_)
    rw [upd_ne (fun z=>nDr (by rw [← z]; exact ha'))]
    exact e
   ·rcases List.mem_append.mp z with z | z
    ·exact nDr z
    ·exact nrD (List.mem_singleton.mp z).symm
   ·rcases List.mem_append.mp hv with hv | hv
    ·exact rw v hv
    ·rw [List.mem_singleton.mp hv]; exact vl
   ·rcases List.mem_append.mp hv with hv | hv
    ·exact rb1 v hv
    ·rw [List.mem_singleton.mp hv]; exact vb
 ·rintro σ G1 h_
  refine bC fun g_=>?_
  obtain ⟨x5,x6,x7,x8,x9,rs,rows,e8_,sG1,hD1,rr,nDr,rl,rw,rb1⟩:=h_
  refine g_ ?_
  clear g_
  obtain rfl:=e8_
  refine nxS1 eE ?_
  exact (q D rows _ sG1 ⟨rs,hD1,rr⟩ rl rw rb1)
end
theorem foot_sh (cs:List (Int×Int)):SeqAt.shaped (.list (cs.map prD))=true:=by
 obtain ⟨a,b⟩:=prs_can cs
 unfold SeqAt.shaped
 rw [PyData.canLay0,PyData.depth,a,Bool.true_and]
 exact decide_eq_true (Nat.le_trans (Nat.succ_le_succ b) (by decide))
section
variable {f:Addr} {fd':FuncData}
inductive PspFoot (vs:List V) (H:Hp) (Q:VK):Prop
 | mk (c mo:Int) (h0:vs=[.int c,.int mo]) (h1:0 < mo) (h2:mo≤25) (h3:∀ (ft:Addr) (foot:List (Int×Int)) (H':Hp),Same H H'→H ft=none→FtAt H' ft foot→foot.length≤100→(0,0)∈foot→Q (.ref ft) H'):PspFoot  vs H Q
noncomputable def spFoot:Sp:=fun vs H Q Z=>PspFoot  vs H Q
theorem scFoot:FnScope ["cell","most","foot","k","number","spot"] ["cell","most"] (defScope sFoot):=⟨rfl,rfl,rfl,by decide +kernel,rfl,by decide +kernel,by decide +kernel⟩
theorem ok_foot (T:LawT mg) (FS:Fn P w K mg base "_law_stir" 1 ["cell","k"] spStir) (F:Fun K "_law_foot" "_law_foot" sFoot f fd'):FnOk P w K mg base (CX1 P w) 2 f fd' ["cell","most"] spFoot:=by
 have nd:=scFoot.nd
 refine F.ok1 scFoot (fun vs H Q E h=>?_) (fun cdv A outer s H vs Q E hr h=>?_)
 ·refine bC fun g_=>?_
  obtain ⟨c,mo,e1_,_⟩:=h
  refine g_ ?_
  clear g_
  obtain rfl:=e1_
  rfl
 refine bC fun g_=>?_
 obtain ⟨c,mo,e2_,mo0,mo25,q⟩:=h
 refine g_ ?_
 clear g_
 obtain rfl:=e2_
 have hr1:Room 1 _:=hr.mono (by decide)
 refine ⟨_,(pss_cons (ps_set (i:=2) nd rfl (Or.inl rfl) (pe_lst (pa_cons (pe_tup (pa_cons pe_int (pa_cons pe_int pa_nil))) pa_nil)))
  (pss_cons (ps_for own1 rfl (pi_range1 rfl T.range (pa_cons (pe_op op_mod (pf_call FS hr1 rfl (pass1 (E:=E)) (pa_cons (pv 0) (pa_cons pe_int pa_nil))) (pv 1)) pa_nil)) (pg_name (i:=3) nd rfl (Or.inl rfl)) (pss_cons (ps_set (i:=4) nd rfl (Or.inl rfl) (pf_call FS hr1 rfl (pass1 (E:=E)) (pa_cons (pv 0) (pa_cons (pe_op op_add pe_int (pv 3)) pa_nil))))
  (pss_cons (ps_set (i:=5) nd rfl (Or.inl rfl) (pe_tup (pa_cons (pe_op op_sub (pe_op op_mod (pv 4) pe_int) pe_int) (pa_cons (pe_op op_sub (pe_op op_mod (pe_op op_fdiv (pv 4) pe_int) pe_int) pe_int) pa_nil))))
  (pss_mid (ps_if (pt_cmpR op_eq (pe_op op_mod (pe_op op_fdiv (pv 4) pe_int) pe_int) pe_int (nomark _)) (pss_one (ps_set (i:=5) nd rfl (Or.inl rfl) (pe_tup (pa_cons (pe_op op_sub (pe_op op_mod (pe_op op_fdiv (pv 4) pe_int) pe_int) pe_int) (pa_cons (pe_op op_sub (pe_op op_mod (pe_op op_fdiv (pv 4) pe_int) pe_int) pe_int) pa_nil))))) pss_nil)
  (pss_one (ps_if (pt_cmpR (op_notInD hr.units65) (pv 5) (pv 2) (by with_unfolding_all rfl)) (pss_one (ps_expr (pe_bm PySem.F.plainAttrs_list PySem.F.slot_list_insert PySem.F.type_list_insert mt_insert (pv 2) (pa_cons (pe_op op_mod (pe_op op_fdiv (pv 4) pe_int) (pe_op op_add (pe_callB (call_lenK (K:=K) rfl) rfl T.len PySem.boot_len (pa_cons (pv 2) pa_nil)) pe_int)) (pa_cons (pv 5) pa_nil))))) pss_nil))))))
  (pss_one (ps_ret (pv 2))))),?_⟩
 (try dsimp only [L2.cxK])
 refine abs_seq fun dE eE=>?_
 refine ⟨le2,fun t0 h0=>⟨le1,fun ft hft=>?_⟩⟩
 have v2:=same_upd h0 (.tup [V.int 0,.int 0])
 have v3:=same_upd hft (.lst [V.ref t0])
 have nft0:H ft=none:=v2.free hft
 have hf3:upd (upd H t0 (.tup [V.int 0,.int 0])) ft (.lst [V.ref t0]) ft=some (.lst ([t0].map V.ref)):=upd_same
 have ht3:upd (upd H t0 (.tup [V.int 0,.int 0])) ft (.lst [V.ref t0]) t0=some (.tup (pr (0,0))):=v3 _ _ upd_same
 have s3:=v2.trans v3
 generalize upd (upd H t0 (.tup [V.int 0,.int 0])) ft (.lst [V.ref t0])=H3 at hf3 ht3 s3
 clear v2 v3 h0 hft
 refine nxS eE fun dE eE=>?_
 refine ⟨c,10,rfl,(by decide),(by decide),fun n4 n40 Z=>⟨_,_,rfl,rfl,mo0,?_⟩⟩
 have hm:=mod_lt n4 mo0
 obtain ⟨n,hn,hn25⟩:∃ n:Nat,n4 % mo=(n:Int)∧n≤25:=⟨(n4 % mo).toNat,by lia,by lia⟩
 refine ⟨_,rfl,(by lia),(by lia),?_⟩
 rw [hn,Int.toNat_natCast]
 refine for_range (n:=n) (fun i σ H4=>Ex5 fun (x3 x4 x5:Option V) (ts:List Addr) (cs:List (Int×Int))=>σ=[some (.int c),some (.int mo),some (.ref ft),x3,x4,x5]∧H4 ft=some (.lst (ts.map V.ref))∧MvAt H4 ts (cs.map pr)∧cs.length≤i + 1∧(0,0)∈cs∧Same H H4)
  ⟨none,none,none,[t0],[(0,0)],rfl,hf3,⟨ht3,True.intro⟩,Nat.le_refl _,List.mem_singleton.mpr rfl,s3⟩ ?_ ?_
 ·rintro i σ H4 hi h_
  refine bC fun g_=>?_
  obtain ⟨x3,x4,x5,ts,cs,e3_,ef4,mv4,l4,c0,s4⟩:=h_
  refine g_ ?_
  clear g_
  obtain rfl:=e3_
  have tl:ts.length=cs.length:=by rw [mv4.len,List.length_map]
  refine ⟨c,_,rfl,(by lia),(by lia),fun y n0 Z=>?_⟩
  refine ⟨_,_,rfl,rfl,(by show (0:Int) < 3; decide),_,_,rfl,rfl,⟨by decide,by decide⟩,_,_,rfl,rfl,(by show (0:Int) < 3; decide),le2,fun t ht=>?_⟩
  have u5:=same_upd ht (.tup [V.int (y % 3 - 1),.int (y / 3 % 3 - 1)])
  refine ⟨fun σ H5=>Ex2 fun (t:Addr) (d:Int×Int)=>σ=[some (.int c),some (.int mo),some (.ref ft),some (.int (0 + (i:Int))),some (.int y),some (.ref t)]∧Same H4 H5∧H5 t=some (.tup (pr d)),?_,?_⟩
  ·refine ⟨_,_,rfl,rfl,⟨by decide,by decide⟩,_,_,rfl,rfl,(by show (0:Int) < 4; decide),rfl,ite2 (fun Z=>?_) (fun Z=>⟨t,(y % 3 - 1,y / 3 % 3 - 1),rfl,u5,upd_same⟩)⟩
   refine ⟨_,_,rfl,rfl,⟨by decide,by decide⟩,_,_,rfl,rfl,(by show (0:Int) < 7; decide),_,_,rfl,rfl,⟨by decide,by decide⟩,_,_,rfl,rfl,(by show (0:Int) < 7; decide),le2,fun t2 ht2=>?_⟩
   exact ⟨t2,(y / 36 % 7 - 3,y / 252 % 7 - 3),rfl,u5.trans (same_upd ht2 _),upd_same⟩
  rintro σ H5 h_
  refine bC fun g_=>?_
  obtain ⟨t,d,e4_,s5,et⟩:=h_
  refine g_ ?_
  clear g_
  obtain rfl:=e4_
  have ef5:=s5 _ _ ef4
  have mv5:=mv4.same s5
  refine ⟨_,_,.tup (SqT.of et) (.cons (.int _) (.cons (.int _) .nil)),.lst (SqL.of ef5) (prs_rp mv5),foot_sh cs,prD_sh d,?_⟩
  generalize (if true=true then _ else _)=k
  cases k with
  | false=>exact ⟨_,_,_,ts,cs,rfl,ef5,mv5,by lia,c0,s4.trans s5⟩
  | true =>
   have hm2:=mod_lt (y / 1764) (show (0:Int) < ((ts.map V.ref).length:Int) + 1 by lia)
   refine ⟨.inl ⟨rfl,_,SqL.of ef5⟩,_,_,rfl,rfl,⟨by decide,by decide⟩,ft,_,rfl,.inl (SqL.of ef5),_,_,rfl,rfl,(by show (0:Int) < ((ts.map V.ref).length:Int) + 1; lia),ft,_,_,.ref t,rfl,rfl,ef5,hm2.1,(Int.lt_trans hm2.2 (by rw [List.length_map]; lia)),(by rw [List.length_map]; exact Nat.lt_of_le_of_lt (show ts.length≤100 by lia) (by decide)),?_⟩
   generalize min (y / 1764 % (((ts.map V.ref).length:Int) + 1)).toNat (ts.map V.ref).length=k
   refine ⟨_,_,_,ts.take k++t :: ts.drop k,cs.take k++d :: cs.drop k,rfl,by rw [upd_same,List.map_append,List.map_cons,List.map_take,List.map_drop],?_,?_,?_,same_in (s4.trans s5) nft0⟩
   ·rw [List.map_append,List.map_cons,List.map_take,List.map_drop]
    refine MvAt.upd (fun m z=>?_) (mv5.ins et k)
    rw [ef5] at z
    cases z
   ·rw [List.length_append,List.length_cons,List.length_take,List.length_drop]
    lia
   ·have:=c0
    rw [← List.take_append_drop k cs] at this
    rcases List.mem_append.mp this with h | h
    ·exact List.mem_append_left _ h
    ·exact List.mem_append_right _ (List.mem_cons_of_mem _ h)
 ·rintro σ H4 h_
  refine bC fun g_=>?_
  obtain ⟨x3,x4,x5,ts,cs,e5_,ef4,mv4,l4,c0,s4⟩:=h_
  refine g_ ?_
  clear g_
  obtain rfl:=e5_
  refine nxS1 eE ?_
  exact (q ft cs _ s4 nft0 ⟨ts,ef4,mv4⟩ (by lia) c0)
end
noncomputable def ToolOk (t:Tool):Prop:=t.1.length≤100∧(0,0)∈t.1∧1≤t.2∧t.2≤1000
theorem tools_nil (ts:List Tool):PyData.eqv (.list (ts.map fun t=>toolD t.1 t.2)) (.list [])=decide (ts=[]):=by
 cases ts with
 | nil=>rfl
 | cons t r=>rfl
theorem nil_sh:SeqAt.shaped (.list [])=true:=by decide +kernel
theorem rI0_eq {g:Int→Int→V} {i j:Int} {H:Hp} {Q:VK} {v:V} (e:g i j=v) (h:Q v H):rI0 g (.int i) (.int j) H Q:=by
 subst e
 exact h
section
variable {f:Addr} {fd':FuncData}
inductive PspShelf (K:PySem.W.Frag) (vs:List V) (H:Hp) (Q:VK):Prop
 | mk (L:Addr) (ns:List Int) (c:Int) (h0:vs=[.ref L,.int c]) (h1:SqL K H L (ns.map V.int)) (h2:∀ (D:Addr) (ts:List Tool) (H':Hp),Same H H'→ShAt H' D ts→(∀ t∈ts,ToolOk t)→ts.length≤6→Q (.ref D) H'):PspShelf K vs H Q
noncomputable def spShelf (K:PySem.W.Frag):Sp:=fun vs H Q Z=>PspShelf K vs H Q
theorem scShelf:FnScope ["script","head","kind","many","shelf","k","cell","bite","foot"] ["script","head"] (defScope sShelf):=⟨rfl,rfl,rfl,by decide +kernel,rfl,by decide +kernel,by decide +kernel⟩
theorem ok_shelf (T:LawT mg) (FA:Fn P w K mg base "_law_cell_at" 1 ["script","k"] (spAt K)) (FS:Fn P w K mg base "_law_stir" 1 ["cell","k"] spStir) (FF:Fn P w K mg base "_law_foot" 2 ["cell","most"] spFoot) (F:Fun K "_law_shelf" "_law_shelf" sShelf f fd'):FnOk P w K mg base (CX1 P w) 3 f fd' ["script","head"] (spShelf K):=by
 have nd:=scShelf.nd
 refine F.ok1 scShelf (fun vs H Q E h=>?_) (fun cdv A outer s H vs Q E hr h=>?_)
 ·refine bC fun g_=>?_
  obtain ⟨L,ns,c,e1_,_⟩:=h
  refine g_ ?_
  clear g_
  obtain rfl:=e1_
  rfl
 refine bC fun g_=>?_
 obtain ⟨L,ns,hd,e2_,hL,q⟩:=h
 refine g_ ?_
 clear g_
 obtain rfl:=e2_
 have hr1:Room 1 _:=hr.mono (by decide)
 refine ⟨_,(pss_cons (ps_set (i:=2) nd rfl (Or.inl rfl) (pe_op op_mod (pf_call FS hr1 rfl (pass1 (E:=E)) (pa_cons (pv 1) (pa_cons pe_int pa_nil))) pe_int))
  (pss_cons (ps_set (i:=3) nd rfl (Or.inl rfl) (pe_op op_add pe_int (pe_op op_mod (pf_call FS hr1 rfl (pass1 (E:=E)) (pa_cons (pv 1) (pa_cons pe_int pa_nil))) pe_int)))
  (pss_mid (ps_if (PW.pt (pw_or (pt_cmpR op_eq (pv 2) pe_int (nomark _)) (pw_or1 (pt_cmpR op_eq (pe_op op_mod (pf_call FS hr1 rfl (pass1 (E:=E)) (pa_cons (pv 1) (pa_cons pe_int pa_nil))) pe_int) pe_int (nomark _))))) (pss_one (ps_set (i:=3) nd rfl (Or.inl rfl) (pe_op op_add pe_int (pe_op op_mod (pv 3) pe_int)))) pss_nil)
  (pss_cons (ps_set (i:=4) nd rfl (Or.inl rfl) (pe_lst pa_nil))
  (pss_cons (ps_for own1 rfl (pi_range1 rfl T.range (pa_cons (pv 3) pa_nil)) (pg_name (i:=5) nd rfl (Or.inl rfl)) (pss_cons (ps_set (i:=6) nd rfl (Or.inl rfl) (pe_op op_add (pf_call FA hr1 rfl (pass1 (E:=E)) (pa_cons (pv 0) (pa_cons (pe_op op_mod (pe_op op_add pe_int (pv 5)) (pe_callB (call_max2 rfl) rfl T.max bt_max (pa_cons pe_int (pa_cons (pe_callB (call_lenK (K:=K) rfl) rfl T.len PySem.boot_len (pa_cons (pv 0) pa_nil)) pa_nil)))) pa_nil))) (pe_op op_mul pe_int (pv 5))))
  (pss_cons (ps_set (i:=7) nd rfl (Or.inl rfl) (pe_lst (pa_cons pe_int (pa_cons (pe_op op_add pe_int (pe_op op_mod (pf_call FS hr1 rfl (pass1 (E:=E)) (pa_cons (pv 6) (pa_cons pe_int pa_nil))) pe_int)) (pa_cons (pe_op op_add pe_int (pe_op op_mod (pf_call FS hr1 rfl (pass1 (E:=E)) (pa_cons (pv 6) (pa_cons pe_int pa_nil))) pe_int)) (pa_cons (pe_op op_add pe_int (pe_op op_mod (pf_call FS hr1 rfl (pass1 (E:=E)) (pa_cons (pv 6) (pa_cons pe_int pa_nil))) pe_int)) pa_nil))))))
  (pss_cons (ps_set (i:=7) nd rfl (Or.inl rfl) (pe_ix (ix_listK (K:=K) rfl) (pv 7) (pe_op op_mod (pf_call FS hr1 rfl (pass1 (E:=E)) (pa_cons (pv 6) (pa_cons pe_int pa_nil))) pe_int) (fun Z Z=>rfl)))
  (pss_mid (ps_if (pt_cmpR op_gt (pv 2) pe_int (nomark _)) (pss_one (ps_set (i:=7) nd rfl (Or.inl rfl) (pe_callB (call_max2 rfl) rfl T.max bt_max (pa_cons (pv 7) (pa_cons pe_int pa_nil))))) pss_nil)
  (pss_cons (ps_set (i:=8) nd rfl (Or.inl rfl) (pf_call FF hr rfl (pass1 (E:=E)) (pa_cons (pv 6) (pa_cons (pe_ix (ix_listK (K:=K) rfl) (pe_lst (pa_cons pe_int (pa_cons pe_int (pa_cons pe_int (pa_cons pe_int pa_nil))))) (pe_op op_mod (pf_call FS hr1 rfl (pass1 (E:=E)) (pa_cons (pv 6) (pa_cons pe_int pa_nil))) pe_int) (fun Z Z=>rfl)) pa_nil))))
  (pss_mid (ps_if (PW.pt (pw_and (pt_cmpR (op_neDK (K:=K) rfl hr.units) (pv 4) (pe_lst pa_nil) (nomark _)) (pw_and1 (pt_cmpR op_eq (pe_op op_mod (pf_call FS hr1 rfl (pass1 (E:=E)) (pa_cons (pv 6) (pa_cons pe_int pa_nil))) pe_int) pe_int (nomark _))))) (pss_one (ps_set (i:=8) nd rfl (Or.inl rfl) (pe_callTy (call_listK (K:=K) rfl) rfl T.list bt_list (pa_cons (pe_ix (ix_tupK (K:=K) rfl) (pe_ix (ix_listK (K:=K) rfl) (pv 4) (pe_op op_mod (pf_call FS hr1 rfl (pass1 (E:=E)) (pa_cons (pv 6) (pa_cons pe_int pa_nil))) (pe_callB (call_lenK (K:=K) rfl) rfl T.len PySem.boot_len (pa_cons (pv 4) pa_nil))) (fun Z Z=>rfl)) pe_int (fun Z Z=>rfl)) pa_nil)))) pss_nil)
  (pss_one (ps_expr (pe_bm PySem.F.plainAttrs_list PySem.F.slot_list_append PySem.F.type_list_append mt_append (pv 4) (pa_cons (pe_tup (pa_cons (pv 8) (pa_cons (pv 7) pa_nil))) pa_nil)))))))))))
  (pss_one (ps_ret (pv 4)))))))),?_⟩
 (try dsimp only [L2.cxK])
 refine abs_seq fun dE eE=>?_
 refine ⟨hd,3,rfl,(by decide),(by decide),fun n1 n10 Z=>⟨_,_,rfl,rfl,(by show (0:Int) < 8; decide),?_⟩⟩
 refine nxS eE fun dE eE=>?_
 refine ⟨hd,6,rfl,(by decide),(by decide),fun n2 n20 Z=>⟨_,_,rfl,rfl,(by show (0:Int) < 6; decide),?_⟩⟩
 have b2:=mod_lt n2 (show (0:Int) < 6 by decide)
 refine nxS1 eE ?_
 refine ⟨fun σ G=>∃ (m:Nat),σ=[some (.ref L),some (.int hd),some (.int (n1 % 8)),some (.int (m:Int)),none,none,none,none,none]∧G=H∧m≤6,?_,?_⟩
 ·have fin:∀ (a:Int),0≤a→a≤6→∃ (m:Nat),[some (V.ref L),some (.int hd),some (.int (n1 % 8)),some (.int a),none,none,none,none,none]=[some (.ref L),some (.int hd),some (.int (n1 % 8)),some (.int (m:Int)),none,none,none,none,none]∧H=H∧m≤6:=fun a a1 a2=>⟨a.toNat,by rw [Int.toNat_of_nonneg a1],rfl,by lia⟩
  have b3:=mod_lt (1 + n2 % 6) (show (0:Int) < 2 by decide)
  refine ⟨rfl,ite2 (fun Z=>?_) (fun Z=>?_)⟩
  ·exact ⟨_,_,rfl,rfl,(by show (0:Int) < 2; decide),fin _ (by lia) (by lia)⟩
  ·refine ⟨hd,4,rfl,(by decide),(by decide),fun n5 n50 Z=>⟨_,_,rfl,rfl,(by show (0:Int) < 16; decide),rfl,ite2 (fun Z=>?_) (fun Z=>?_)⟩⟩
   ·exact ⟨_,_,rfl,rfl,(by show (0:Int) < 2; decide),fin _ (by lia) (by lia)⟩
   ·exact fin _ (by lia) (by lia)
 rintro σ G0 ⟨m,rfl,rfl,m6⟩
 generalize n1 % 8=kd
 refine abs_seq fun dE eE=>?_
 refine ⟨Nat.zero_le _,fun D hD=>?_⟩
 have vD:=same_upd hD (.lst [])
 refine nxS eE fun dE eE=>?_
 refine ⟨_,rfl,(by lia),(by lia),?_⟩
 rw [Int.toNat_natCast]
 refine for_range (n:=m) (fun i σ G=>Ex6 fun (x5 x6 x7 x8:Option V) (cts:List Addr) (tools:List Tool)=>σ=[some (.ref L),some (.int hd),some (.int kd),some (.int (m:Int)),some (.ref D),x5,x6,x7,x8]∧Same G0 G∧G D=some (.lst (cts.map V.ref))∧CtsO G D cts tools∧tools.length=i∧∀ t∈tools,ToolOk t) ⟨none,none,none,none,[],[],rfl,vD,upd_same,True.intro,rfl,fun Z h=>(List.not_mem_nil h).elim⟩ ?_ ?_
 ·rintro i σ G hi h_
  refine bC fun g_=>?_
  obtain ⟨x5,x6,x7,x8,cts,tools,e5_,sG,hDG,co,tl,tok⟩:=h_
  refine g_ ?_
  clear g_
  obtain rfl:=e5_
  have ctl:=co.cts.len
  rw [Int.zero_add]
  refine ⟨L,_,rfl,.inl (sG.seq hL),_,_,rfl,_,_,rfl,rfl,(by split <;> lia),L,ns,_,rfl,sG.seq hL,(mod_lt _ (by split <;> lia)).1,fun z=>⟨_,_,rfl,rfl,.inl ⟨by decide,by decide⟩,?_⟩⟩
  obtain ⟨c,hc⟩:∃ c:Int,c=z + 2 * (i:Int):=⟨_,rfl⟩
  refine rI0_eq (congrArg V.int hc.symm) ?_
  refine ⟨c,40,rfl,(by decide),(by decide),fun m1 m10 Z=>⟨_,_,rfl,rfl,(by show (0:Int) < 7; decide),c,40,rfl,(by decide),(by decide),fun m2 m20 Z=>⟨_,_,rfl,rfl,(by show (0:Int) < 1000; decide),c,40,rfl,(by decide),(by decide),fun m3 m30 Z=>⟨_,_,rfl,rfl,(by show (0:Int) < 42; decide),le4,fun l1 hl1=>?_⟩⟩⟩⟩
  have v1:=same_upd hl1 (.lst [V.int 1000,.int (1 + m1 % 7),.int (1 + m2 % 1000),.int (8 + m3 % 42)])
  have c1:=mod_lt m1 (show (0:Int) < 7 by decide)
  have c2:=mod_lt m2 (show (0:Int) < 1000 by decide)
  have c3:=mod_lt m3 (show (0:Int) < 42 by decide)
  refine ⟨c,41,rfl,(by decide),(by decide),fun m4 m40 Z=>⟨_,_,rfl,rfl,(by show (0:Int) < 4; decide),?_⟩⟩
  have c4:=mod_lt m4 (show (0:Int) < 4 by decide)
  refine bC fun g_=>?_
  obtain ⟨bv,hbv,hat⟩:=at4 (V.int 1000) (.int (1 + m1 % 7)) (.int (1 + m2 % 1000)) (.int (8 + m3 % 42)) c4.1 c4.2
  refine g_ ?_
  clear g_
  obtain ⟨bite,rfl,bt1,bt2⟩:∃ z:Int,bv=.int z∧1≤z∧z≤1000:=by
   rcases hbv with rfl | rfl | rfl | rfl
   ·exact ⟨_,rfl,by lia,by lia⟩
   ·exact ⟨_,rfl,by lia,by lia⟩
   ·exact ⟨_,rfl,by lia,by lia⟩
   ·exact ⟨_,rfl,by lia,by lia⟩
  refine ⟨l1,_,_,.int bite,rfl,rfl,SqL.of upd_same,hat,?_⟩
  generalize upd G l1 (.lst [V.int 1000,.int (1 + m1 % 7),.int (1 + m2 % 1000),.int (8 + m3 % 42)])=G1 at v1
  refine ⟨fun σ G'=>∃ bite:Int,σ=[some (.ref L),some (.int hd),some (.int kd),some (.int (m:Int)),some (.ref D),some (.int (i:Int)),some (.int c),some (.int bite),x8]∧G'=G1∧1≤bite∧bite≤1000,?_,?_⟩
  ·refine (ite2 (fun Z=>?_) (fun Z=>⟨bite,rfl,rfl,bt1,bt2⟩))
   exact ⟨_,_,rfl,_,rfl,rfl,by split <;> lia,by split <;> lia⟩
  rintro σ G' h_
  refine bC fun g_=>?_
  obtain ⟨bite,e6_,e7_,bt1,bt2⟩:=h_
  refine g_ ?_
  clear g_
  obtain rfl:=e6_
  obtain rfl:=e7_
  refine abs_seq fun dE eE=>?_
  refine ⟨le4,fun l2 hl2=>?_⟩
  have v2:=same_upd hl2 (.lst [V.int 1,.int 3,.int 9,.int 25])
  refine ⟨c,42,rfl,(by decide),(by decide),fun m5 m50 Z=>⟨_,_,rfl,rfl,(by show (0:Int) < 4; decide),?_⟩⟩
  have c5:=mod_lt m5 (show (0:Int) < 4 by decide)
  refine bC fun g_=>?_
  obtain ⟨mv,hmv,hatm⟩:=at4 (V.int 1) (.int 3) (.int 9) (.int 25) c5.1 c5.2
  refine g_ ?_
  clear g_
  obtain ⟨mo,rfl,mo0,mo25⟩:∃ z:Int,mv=.int z∧0 < z∧z≤25:=by
   rcases hmv with rfl | rfl | rfl | rfl
   ·exact ⟨_,rfl,by lia,by lia⟩
   ·exact ⟨_,rfl,by lia,by lia⟩
   ·exact ⟨_,rfl,by lia,by lia⟩
   ·exact ⟨_,rfl,by lia,by lia⟩
  refine ⟨l2,_,_,.int mo,rfl,rfl,SqL.of upd_same,hatm,c,mo,rfl,mo0,mo25,fun ft foot G2 s2 nft hft fl f0=>?_⟩
  have s12:=v1.trans (v2.trans s2)
  have nfD:ft≠D:=fun z=>by rw [z,v2 _ _ (v1 _ _ hDG)] at nft; cases nft
  refine nxS1 eE ?_
  refine ⟨fun σ G3=>Ex2 fun (ft:Addr) (foot:List (Int×Int))=>σ=[some (.ref L),some (.int hd),some (.int kd),some (.int (m:Int)),some (.ref D),some (.int (i:Int)),some (.int c),some (.int bite),some (.ref ft)]∧Same G G3∧ft≠D∧FtAt G3 ft foot∧foot.length≤100∧(0,0)∈foot,?_,?_⟩
  ·have co2:ShAt G2 D tools:=⟨cts,s12 _ _ hDG,(co.cts).same s12⟩
   refine ⟨Nat.zero_le _,fun em hem=>?_⟩
   have v3:=same_upd hem (.lst [])
   refine ⟨_,_,(co2.same v3).rp,.lst (SqL.of upd_same) .nil,(shelf_sh tools).2,nil_sh,?_⟩
   rw [tools_nil]
   refine ite2 (fun ne=>?_) (fun Z=>⟨ft,foot,rfl,s12.trans v3,nfD,hft.same v3,fl,f0⟩)
   have ne':1≤tools.length:=by
    cases tools with
    | nil=>cases ne
    | cons _ _=>exact Nat.succ_le_succ (Nat.zero_le _)
   refine ⟨c,43,rfl,(by decide),(by decide),fun m6 m60 Z=>⟨_,_,rfl,rfl,(by show (0:Int) < 4; decide),rfl,ite2 (fun Z=>?_) (fun Z=>⟨ft,foot,rfl,s12.trans v3,nfD,hft.same v3,fl,f0⟩)⟩⟩
   have s13:=s12.trans v3
   have hD3:=s13 _ _ hDG
   have lp:(0:Int) < ((cts.map V.ref).length:Int):=by rw [List.length_map]; lia
   refine ⟨c,44,rfl,(by decide),(by decide),fun m7 m70 Z=>⟨D,_,rfl,.inl (SqL.of hD3),_,_,rfl,rfl,lp,?_⟩⟩
   have c7:=mod_lt m7 lp
   obtain ⟨jn,hjn⟩:∃ jn:Nat,m7 % ((cts.map V.ref).length:Int)=(jn:Int):=⟨(m7 % ((cts.map V.ref).length:Int)).toNat,(Int.toNat_of_nonneg c7.1).symm⟩
   have jl:jn < cts.length:=by rw [hjn,List.length_map] at c7; lia
   have ej:=List.getElem?_eq_getElem jl
   refine bC fun g_=>?_
   obtain ⟨t,et,ft',ha,us,hb,hc'⟩:=(co.cts.same s13).at_ ej
   refine g_ ?_
   clear g_
   have tk:=tok t (List.mem_of_getElem? et)
   refine ⟨D,_,_,.ref cts[jn],rfl,rfl,SqL.of hD3,(by show atI _ (m7 % ((cts.map V.ref).length:Int))=_; rw [hjn]; exact atI_nat (by rw [List.getElem?_map,ej]; rfl)),cts[jn],_,0,.ref ft',rfl,rfl,SqT.of ha,rfl,ft',_,rfl,.inl (SqL.of hb),fun l hl=>?_⟩
   have v4:=same_upd hl (.lst (us.map V.ref))
   exact ⟨l,t.1,rfl,s13.trans v4,(fun z=>by rw [z,hD3] at hl; cases hl),⟨us,upd_same,hc'.same v4⟩,tk.1,tk.2.1⟩
  rintro σ G3 h_
  refine bC fun g_=>?_
  obtain ⟨ft,foot,e8_,s13,nfD,hft,fl,f0⟩:=h_
  refine g_ ?_
  clear g_
  obtain rfl:=e8_
  have hD3:=s13 _ _ hDG
  refine ⟨.inl ⟨rfl,_,SqL.of hD3⟩,le2,fun ca hca=>?_⟩
  have v4:=same_upd hca (.tup [V.ref ft,.int bite])
  have s14:=s13.trans v4
  have hD4:=v4 _ _ hD3
  refine ⟨D,_,.ref ca,rfl,rfl,hD4,(by rw [List.length_map]; exact line3 (show cts.length≤1000 by lia) (by decide)),_,_,_,_,cts++[ca],tools++[(foot,bite)],rfl,same_in (sG.trans s14) hD,by rw [upd_same,List.map_append]; rfl,?_,by rw [List.length_append,tl]; rfl,fun x hx=>?_⟩
  ·have co8:=CtsO.snoc (c:=ca) (t:=(foot,bite)) ⟨ft,nfD,upd_same,hft.same v4⟩ (co.keep (fun x o Z e=>s14 x o e) ⟨_,hDG⟩)
   exact co8.keep (fun x o n e=>by rw [upd_ne n]; exact e) ⟨_,hD4⟩
  ·rcases List.mem_append.mp hx with hx | hx
   ·exact tok x hx
   ·rw [show x=(foot,bite) by simpa using hx]; exact ⟨fl,f0,bt1,bt2⟩
 ·rintro σ G h_
  refine bC fun g_=>?_
  obtain ⟨x5,x6,x7,x8,cts,tools,e9_,sG,hDG,co,tl,tok⟩:=h_
  refine g_ ?_
  clear g_
  obtain rfl:=e9_
  refine nxS1 eE ?_
  exact (q D tools _ sG ⟨cts,hDG,co.cts⟩ tok (by lia))
end
theorem und_snoc {rows:List (List Int)} {foot:List (Int×Int)} {x y:Int} {i:Nat} {c:Int×Int} (ec:foot[i]?=some c):und rows (foot.take (i + 1)) x y=und rows (foot.take i) x y++[shf x y c].filter (ins rows):=by
 unfold und
 rw [take_snoc ec,List.map_append,List.filter_append]
 rfl
theorem und_yes {rows:List (List Int)} {foot:List (Int×Int)} {x y:Int} {i:Nat} {c:Int×Int} (ec:foot[i]?=some c) (h:ins rows (shf x y c)=true):und rows (foot.take (i + 1)) x y=und rows (foot.take i) x y++[shf x y c]:=by rw [und_snoc ec,List.filter_cons_of_pos h,List.filter_nil]
theorem und_no {rows:List (List Int)} {foot:List (Int×Int)} {x y:Int} {i:Nat} {c:Int×Int} (ec:foot[i]?=some c) (h:ins rows (shf x y c)=false):und rows (foot.take (i + 1)) x y=und rows (foot.take i) x y:=by rw [und_snoc ec,List.filter_cons_of_neg (by rw [h]; exact Bool.false_ne_true),List.filter_nil,List.append_nil]
theorem bed_head {H:Hp} {rs:List Addr} {rows:List (List Int)} (ra:RowsAt H rs rows) (R:Rect rows):∃ (a0:Addr) (r0:List Int),atI (rs.map V.ref) 0=some (.ref a0)∧H a0=some (.lst (r0.map V.int))∧(rows.headD []).length=r0.length:=by
 obtain ⟨r0,rr,er⟩:∃ r0 rr,rows=r0 :: rr:=by
  cases rows with
  | nil=>exact absurd rfl R.1
  | cons r0 rr=>exact ⟨r0,rr,rfl⟩
 obtain ⟨a0,ha0,hr0⟩:=ra.at_ (i:=0) (row:=r0) (by rw [er]; rfl)
 exact ⟨a0,r0,atI_nat (j:=0) (by rw [List.getElem?_map,ha0]; rfl),hr0,by rw [er]; rfl⟩
section
variable {f:Addr} {fd':FuncData}
inductive PspLow (vs:List V) (H:Hp) (Q:VK):Prop
 | mk (b ft:Addr) (x y:Int) (rows:List (List Int)) (foot:List (Int×Int)) (h0:vs=[.ref b,.ref ft,.int x,.int y]) (h1:BdAt H b rows) (h2:Rect rows) (h3:FtAt H ft foot) (h4:foot.length≤100) (h5:(0,0)∈foot) (h6:ins rows (x,y)=true) (h7:∀ H',Same H H'→Q (.int (mxD 0 ((und rows foot x y).map (hgt rows)))) H'):PspLow vs H Q
noncomputable def spLow:Sp:=fun vs H Q Z=>PspLow vs H Q
theorem scLow:FnScope ["wished","foot","x","y","some","dx","dy"] ["wished","foot","x","y"] (defScope sLowL):=⟨rfl,rfl,rfl,by decide +kernel,rfl,by decide +kernel,by decide +kernel⟩
theorem ok_low (T:LawT mg) (F:Fun K "_law_lowest" "_law_lowest" sLowL f fd'):FnOk P w K mg base (CX1 P w) 1 f fd' ["wished","foot","x","y"] spLow:=by
 have nd:=scLow.nd
 refine F.ok1 scLow (fun vs H Q E h=>?_) (fun cdv A outer s H vs Q E hr h=>?_)
 ·refine bC fun g_=>?_
  obtain ⟨b,ft,x,y,rows,foot,e1_,_⟩:=h
  refine g_ ?_
  clear g_
  obtain rfl:=e1_
  rfl
 refine bC fun g_=>?_
 obtain ⟨b,ft,x,y,rows,foot,e2_,⟨rs,hb,ra⟩,rect,⟨ts,hft,mvf⟩,f100,f0,ixy,q⟩:=h
 refine g_ ?_
 clear g_
 obtain rfl:=e2_
 have tl:ts.length=foot.length:=by rw [mvf.len,List.length_map]
 refine ⟨_,(pss_cons (ps_set (i:=4) nd rfl (Or.inl rfl) (pe_lst pa_nil))
  (pss_cons (ps_for own1 rfl (pi_listK (K:=K) rfl (pv 1)) (pg_tup (n:=2) rfl (pgs_cons (pg_name (i:=5) nd rfl (Or.inl rfl)) (pgs_cons (pg_name (i:=6) nd rfl (Or.inl rfl)) pgs_nil))) (pss_one (ps_if (PW.pt (pw_and (pt_chain op_le op_lt pe_int (pe_op op_add (pv 3) (pv 6)) (pe_callB (call_lenK (K:=K) rfl) rfl T.len PySem.boot_len (pa_cons (pv 0) pa_nil))) (pw_and1 (pt_chain op_le op_lt pe_int (pe_op op_add (pv 2) (pv 5)) (pe_callB (call_lenK (K:=K) rfl) rfl T.len PySem.boot_len (pa_cons (pe_ix (ix_listK (K:=K) rfl) (pv 0) pe_int (fun Z Z=>rfl)) pa_nil)))))) (pss_one (ps_expr (pe_bm PySem.F.plainAttrs_list PySem.F.slot_list_append PySem.F.type_list_append mt_append (pv 4) (pa_cons (pe_ix (ix_listK (K:=K) rfl) (pe_ix (ix_listK (K:=K) rfl) (pv 0) (pe_op op_add (pv 3) (pv 6)) (fun Z Z=>rfl)) (pe_op op_add (pv 2) (pv 5)) (fun Z Z=>rfl)) pa_nil)))) pss_nil)))
  (pss_one (ps_ret (pe_callB (call_maxL rfl) rfl T.max bt_max (pa_cons (pv 4) pa_nil)))))),?_⟩
 (try dsimp only [L2.cxK])
 refine abs_seq fun dE eE=>?_
 have rsl:=ra.len
 refine bC fun g_=>?_
 obtain ⟨a0,r0,at0,hr0,hw⟩:=bed_head ra rect
 refine g_ ?_
 clear g_
 refine ⟨Nat.zero_le _,fun D hD=>?_⟩
 have vD:=same_upd hD (.lst [])
 refine nxS eE fun dE eE=>?_
 refine ⟨ft,rfl,⟨_,SqL.of (vD _ _ hft)⟩,?_⟩
 refine for_list (K:=K) (xs:=ts.map V.ref) (fun i σ H2=>∃ x5 x6:Option V,σ=[some (.ref b),some (.ref ft),some (.int x),some (.int y),some (.ref D),x5,x6]∧Same H H2∧H2 D=some (.lst (((und rows (foot.take i) x y).map (hgt rows)).map V.int))) ⟨none,none,rfl,vD,upd_same⟩ ?_ ?_ ?_
 ·rintro i σ H2 _ h_
  refine bC fun g_=>?_
  obtain ⟨x5,x6,e3_,s2,_⟩:=h_
  refine g_ ?_
  clear g_
  obtain rfl:=e3_
  exact SqL.of (s2 _ _ hft)
 ·rintro i v σ H2 hx h_
  refine bC fun g_=>?_
  obtain ⟨x5,x6,e4_,s2,hD2⟩:=h_
  refine g_ ?_
  clear g_
  obtain rfl:=e4_
  obtain ⟨t,ht,rfl⟩:=ref_get hx
  have hif:i < foot.length:=by have:=(List.getElem?_eq_some_iff.mp ht).1; lia
  have ec:=List.getElem?_eq_getElem hif
  have gt:H2 t=some (.tup (pr foot[i])):=s2 _ _ (mvf.at_ ht (by rw [List.getElem?_map,ec]; rfl))
  generalize foot[i]=c1 at ec gt
  have skip:ins rows (shf x y c1)=false→∃ x5 x6:Option V,[some (V.ref b),some (.ref ft),some (.int x),some (.int y),some (.ref D),some (.int c1.1),some (.int c1.2)]=[some (.ref b),some (.ref ft),some (.int x),some (.int y),some (.ref D),x5,x6]∧Same H H2∧H2 D=some (.lst (((und rows (foot.take (i + 1)) x y).map (hgt rows)).map V.int)):=fun e=>⟨_,_,rfl,s2,by rw [und_no ec e]; exact hD2⟩
  have hb2:=SqL.of (K:=K) (s2 _ _ hb)
  refine ⟨t,_,rfl,SqT.of gt,rfl,_,_,rfl,_,_,rfl,rfl,?_⟩
  refine ?_
  refine ite2 (fun h1=>?_) (fun h1=>?_)
  ·refine ⟨b,_,rfl,.inl hb2,?_⟩
   refine ite2 (fun h2=>?_) (fun h2=>?_)
   ·refine ?_
    refine ite2 (fun h3=>?_) (fun h3=>?_)
    ·refine ⟨b,_,0,.ref a0,rfl,rfl,hb2,at0,a0,_,rfl,.inl (SqL.of (s2 _ _ hr0)),?_⟩
     refine ite2 (fun h4=>?_) (fun h4=>?_)
     ·have hin1:ins rows (shf x y c1)=true:=by
       have a1:=of_decide_eq_true h1
       have a2:=of_decide_eq_true h2
       have a3:=of_decide_eq_true h3
       have a4:=of_decide_eq_true h4
       rw [List.length_map] at a2 a4
       exact decide_eq_true ⟨a1,show y + c1.2 < _ by lia,a3,show x + c1.1 < _ by lia⟩
      refine bC fun g_=>?_
      obtain ⟨iy,ix,row,v,e5,e6,e7,e8⟩:=ins_at hin1 rect
      refine g_ ?_
      clear g_
      have ex:x + c1.1=(ix:Int):=congrArg Prod.fst e5
      have ey:y + c1.2=(iy:Int):=congrArg Prod.snd e5
      refine bC fun g_=>?_
      obtain ⟨a,ha,hra⟩:=ra.at_ e6
      refine g_ ?_
      clear g_
      have ay:atI (rs.map V.ref) (y + c1.2)=some (.ref a):=by rw [ey]; exact atI_nat (by rw [List.getElem?_map,ha]; rfl)
      have ax:atI (row.map V.int) (x + c1.1)=some (.int v):=by rw [ex]; exact atI_nat (by rw [List.getElem?_map,e7]; rfl)
      refine ⟨.inl ⟨rfl,_,SqL.of hD2⟩,b,_,_,.ref a,rfl,rfl,hb2,ay,a,_,_,.int v,rfl,rfl,SqL.of (s2 _ _ hra),ax,D,_,.int v,rfl,rfl,hD2,?_,_,_,rfl,same_in s2 hD,?_⟩
      ·rw [List.length_map,List.length_map]
       exact line3 (Nat.le_trans (List.length_filter_le _ _) (by rw [List.length_map,List.length_take]; exact Nat.le_trans (Nat.min_le_right _ _) f100)) (by decide)
      ·rw [upd_same,und_yes ec hin1,List.map_append,List.map_append,List.map_cons,e8]
       rfl
     ·refine skip (decide_eq_false fun z=>h4 ?_)
      rw [List.length_map]
      exact decide_eq_true (by have:=z.2.2.2; show x + c1.1 < (r0.length:Int); rw [← hw]; exact this)
    ·exact ((skip (decide_eq_false fun z=>h3 (decide_eq_true z.2.2.1))))
   ·refine (skip (decide_eq_false fun z=>h2 ?_))
    rw [List.length_map]
    exact decide_eq_true (by have:=z.2.1; show y + c1.2 < (rs.length:Int); rw [rsl]; exact this)
  ·exact (((skip (decide_eq_false fun z=>h1 (decide_eq_true z.1)))))
 ·rintro σ H2 h_
  refine bC fun g_=>?_
  obtain ⟨x5,x6,e6_,s2,hD2⟩:=h_
  refine g_ ?_
  clear g_
  obtain rfl:=e6_
  rw [List.length_map,tl,List.take_length] at hD2
  have hm:(x,y)∈und rows foot x y:=List.mem_filter.mpr ⟨List.mem_map.mpr ⟨(0,0),f0,by unfold shf; simp⟩,ixy⟩
  cases e:(und rows foot x y).map (hgt rows) with
  | nil =>
   have:=List.mem_map_of_mem (f:=hgt rows) hm
   rw [e] at this
   refine nxS1 eE ?_
   exact (List.not_mem_nil this).elim
  | cons n r =>
   rw [e] at hD2
   have q2:=q H2 s2
   rw [e] at q2
   refine nxS1 eE ?_
   exact ⟨D,n,r,rfl,SqL.of hD2,q2⟩
end
theorem cellsR_succ (x y:Nat):cellsR (x + 1) y=cellsR x y++[((x:Int),(y:Int))]:=by
 unfold cellsR
 rw [List.range_succ,List.map_append]
 rfl
section
variable {f:Addr} {fd':FuncData}
inductive PspHadL (vs:List V) (H:Hp) (Q:VK):Prop
 | mk (b wh sh:Addr) (bed wished:List (List Int)) (ts:List Tool) (h0:vs=[.ref b,.ref wh,.ref sh]) (h1:BdAt H b bed) (h2:BdAt H wh wished) (h3:ShAt H sh ts) (h4:Rect bed) (h5:Alike bed wished) (h6:Small bed) (h7:∀ t∈ts,t.1.length≤100∧(0,0)∈t.1) (h8:ts.length≤1000)
   (h9:∀ D H',Same H H'→BdAt H' D (hadF bed wished ts)→Q (.ref D) H'):PspHadL vs H Q
noncomputable def spHadL:Sp:=fun vs H Q Z=>PspHadL vs H Q
theorem scHadL:FnScope ["bed","wished","shelf","due","foot","bite","y","x","low","dx","dy","line"] ["bed","wished","shelf"] (defScope sHadL):=⟨rfl,rfl,rfl,by decide +kernel,rfl,by decide +kernel,by decide +kernel⟩
theorem ok_hadL (T:LawT mg) (FL:Fn P w K mg base "_law_lowest" 1 ["wished","foot","x","y"] spLow) (F:Fun K "_law_had" "_law_had" sHadL f fd'):FnOk P w K mg base (CX1 P w) 2 f fd' ["bed","wished","shelf"] spHadL:=by
 have nd:=scHadL.nd
 refine F.ok1 scHadL (fun vs H Q E h=>?_) (fun cdv A outer s H vs Q E hr h=>?_)
 ·refine bC fun g_=>?_
  obtain ⟨b,wh,sh,bed,wished,ts,e1_,_⟩:=h
  refine g_ ?_
  clear g_
  obtain rfl:=e1_
  rfl
 refine bC fun g_=>?_
 obtain ⟨b,wh,sh,bed,wished,ts,e2_,hb,hwh,⟨cts,hs1,hs2⟩,rect,al,small,feet,t1000,q⟩:=h
 refine g_ ?_
 clear g_
 obtain rfl:=e2_
 refine ⟨_,(pss_cons (ps_setC (i:=3) (own:=["row"]) (capn:=[]) (capI:=[]) nd rfl (Or.inl rfl) rfl rfl (blk0 rfl (by decide +kernel)) (pi_listK (K:=K) rfl (pv 0)) (fun Z Z Z Z Z Z=>pg_name (i:=0) (nd1 "row") rfl (Or.inl rfl)) (fun Z Z Z Z Z Z=>pifs_nil) (fun Z Z Z Z Z Z=>(pe_callTy (call_listK (K:=K) rfl) rfl T.list bt_list (pa_cons (pv 0) pa_nil))))
  (pss_cons (ps_for own1 rfl (pi_listK (K:=K) rfl (pv 2)) (pg_tup (n:=2) rfl (pgs_cons (pg_name (i:=4) nd rfl (Or.inl rfl)) (pgs_cons (pg_name (i:=5) nd rfl (Or.inl rfl)) pgs_nil))) (pss_one (ps_for own1 rfl (pi_range1 rfl T.range (pa_cons (pe_callB (call_lenK (K:=K) rfl) rfl T.len PySem.boot_len (pa_cons (pv 0) pa_nil)) pa_nil)) (pg_name (i:=6) nd rfl (Or.inl rfl)) (pss_one (ps_for own1 rfl (pi_range1 rfl T.range (pa_cons (pe_callB (call_lenK (K:=K) rfl) rfl T.len PySem.boot_len (pa_cons (pe_ix (ix_listK (K:=K) rfl) (pv 0) pe_int (fun Z Z=>rfl)) pa_nil)) pa_nil)) (pg_name (i:=7) nd rfl (Or.inl rfl)) (pss_cons (ps_set (i:=8) nd rfl (Or.inl rfl) (pf_call FL hr rfl (pass1 (E:=E)) (pa_cons (pv 1) (pa_cons (pv 4) (pa_cons (pv 7) (pa_cons (pv 6) pa_nil))))))
  (pss_one (ps_for own1 rfl (pi_listK (K:=K) rfl (pv 4)) (pg_tup (n:=2) rfl (pgs_cons (pg_name (i:=9) nd rfl (Or.inl rfl)) (pgs_cons (pg_name (i:=10) nd rfl (Or.inl rfl)) pgs_nil))) (pss_one (ps_if (PW.pt (pw_and (pt_chain op_le op_lt pe_int (pe_op op_add (pv 6) (pv 10)) (pe_callB (call_lenK (K:=K) rfl) rfl T.len PySem.boot_len (pa_cons (pv 0) pa_nil))) (pw_and1 (pt_chain op_le op_lt pe_int (pe_op op_add (pv 7) (pv 9)) (pe_callB (call_lenK (K:=K) rfl) rfl T.len PySem.boot_len (pa_cons (pe_ix (ix_listK (K:=K) rfl) (pv 0) pe_int (fun Z Z=>rfl)) pa_nil)))))) (pss_cons (ps_set (i:=11) nd rfl (Or.inl rfl) (pe_ix (ix_listK (K:=K) rfl) (pv 3) (pe_op op_add (pv 6) (pv 10)) (fun Z Z=>rfl)))
  (pss_one (ps_asg (pe_callB (call_min2 rfl) rfl T.min bt_min (pa_cons (pe_ix (ix_listK (K:=K) rfl) (pv 11) (pe_op op_add (pv 7) (pv 9)) (fun Z Z=>rfl)) (pa_cons (pv 8) pa_nil))) (pg_sub (pv 11) (pe_op op_add (pv 7) (pv 9)) set_list)))) pss_nil))))))))))
  (pss_one (ps_ret (pv 3))))),?_⟩
 (try dsimp only [L2.cxK])
 refine abs_seq fun dE eE=>?_
 refine bC fun g_=>?_
 obtain ⟨rs,hb1,ra⟩:=id hb
 refine g_ ?_
 clear g_
 have rsl:=ra.len
 refine bC fun g_=>?_
 obtain ⟨a0,r0,at0,hr0,hw⟩:=bed_head ra rect
 refine g_ ?_
 clear g_
 have wd40:(bed.headD []).length≤40:=by
  cases bed with
  | nil=>exact Nat.zero_le _
  | cons r _=>exact small.2 r List.mem_cons_self
 have d40:=small.1
 refine ⟨b,rfl,⟨_,SqL.of hb1⟩,fun D hD=>?_⟩
 refine lc_rows hb1 ra (by lia) (fun r row H2 R hr' k=>⟨r,_,rfl,.inl (SqL.of hr'),k⟩) hD (fun hs H1 s1 hD1 rh ndh nh nD=>?_)
 have ctl:=hs2.len
 have go:∀ {H2:Hp},Kp hs H1 H2→Same H H2:=fun k=>k.same s1 nh
 refine nxS eE fun dE eE=>?_
 refine ⟨sh,rfl,⟨_,SqL.of (s1 _ _ hs1)⟩,?_⟩
 refine for_list (K:=K) (xs:=cts.map V.ref) (fun i σ H2=>∃ x4 x5 x6 x7 x8 x9 x10 x11:Option V,σ=[some (.ref b),some (.ref wh),some (.ref sh),some (.ref D),x4,x5,x6,x7,x8,x9,x10,x11]∧Kp hs H1 H2∧RowsAt H2 hs (cutsF bed (opsS bed wished (ts.take i)))) ⟨none,none,none,none,none,none,none,none,rfl,fun Z Z Z e=>e,by rw [List.take_zero]; exact rh⟩ ?_ ?_ ?_
 ·rintro i σ H2 _ h_
  refine bC fun g_=>?_
  obtain ⟨_,_,_,_,_,_,_,_,e3_,k2,_⟩:=h_
  refine g_ ?_
  clear g_
  obtain rfl:=e3_
  exact SqL.of ((go k2) _ _ hs1)
 ·rintro i v σ H2 hx h_
  refine bC fun g_=>?_
  obtain ⟨x4,x5,x6,x7,x8,x9,x10,x11,e4_,k2,ra2⟩:=h_
  refine g_ ?_
  clear g_
  obtain rfl:=e4_
  refine bC fun g_=>?_
  obtain ⟨ct,hct,e5_⟩:=ref_get hx
  obtain ⟨t,et,ft,hc1,⟨fts,hf1,mf⟩⟩:=hs2.at_ hct
  refine g_ ?_
  clear g_
  obtain rfl:=e5_
  have ftl:fts.length=t.1.length:=by rw [mf.len,List.length_map]
  obtain ⟨f100,f00⟩:=feet t (List.mem_of_getElem? et)
  have sH2:=go k2
  have al2:Alike bed (cutsF bed (opsS bed wished (ts.take i))):=cuts_alike _ _
  have nxt:RowsAt H2 hs (cutsF bed (opsS bed wished (ts.take i))):=ra2
  rw [show opsS bed wished (ts.take (i + 1))=opsS bed wished (ts.take i)++opsT bed wished t by rw [take_snoc et,opsS_snoc],cuts_app]
  generalize cutsF bed (opsS bed wished (ts.take i))=rowsK at ra2 al2 nxt
  refine ⟨ct,_,rfl,SqT.of (sH2 _ _ hc1),rfl,_,_,rfl,_,_,rfl,rfl,?_⟩
  refine ⟨b,_,rfl,.inl (SqL.of (sH2 _ _ hb1)),_,rfl,(by lia),(by rw [List.length_map]; lia),?_⟩
  rw [Int.toNat_natCast,List.length_map,rsl]
  refine for_range (n:=bed.length) (fun y σ H3=>∃ x6 x7 x8 x9 x10 x11:Option V,σ=[some (.ref b),some (.ref wh),some (.ref sh),some (.ref D),some (.ref ft),some (.int t.2),x6,x7,x8,x9,x10,x11]∧Kp hs H1 H3∧RowsAt H3 hs (cutsF rowsK ((cellsF 0 (bed.take y)).flatMap (opsP bed wished t)))) ⟨x6,x7,x8,x9,x10,x11,rfl,k2,by rw [List.take_zero]; exact ra2⟩ ?_ ?_
  ·rintro y σ H3 hy h_
   refine bC fun g_=>?_
   obtain ⟨x6,x7,x8,x9,x10,x11,e6_,k3,ra3⟩:=h_
   refine g_ ?_
   clear g_
   obtain rfl:=e6_
   rw [Int.zero_add]
   have sH3:=go k3
   have al3:Alike bed (cutsF rowsK ((cellsF 0 (bed.take y)).flatMap (opsP bed wished t))):=al2.trans (cuts_alike _ _)
   have ey:=List.getElem?_eq_getElem hy
   have ew:=rect.2 _ (List.getElem_mem hy)
   have nxy:cellsF 0 (bed.take (y + 1))=cellsF 0 (bed.take y)++cellsR (bed.headD []).length y:=by
    rw [take_snoc ey,cellsF_snoc,ew,List.length_take,Nat.zero_add,Nat.min_eq_left (Nat.le_of_lt hy)]
   rw [nxy,List.flatMap_append,cuts_app]
   generalize cutsF rowsK ((cellsF 0 (bed.take y)).flatMap (opsP bed wished t))=rowsY at ra3 al3
   refine ⟨b,_,0,.ref a0,rfl,rfl,SqL.of (sH3 _ _ hb1),at0,a0,_,rfl,.inl (SqL.of (sH3 _ _ hr0)),_,rfl,(by lia),(by rw [List.length_map]; lia),?_⟩
   rw [Int.toNat_natCast,List.length_map,← hw]
   refine for_range (n:=(bed.headD []).length) (fun x σ H4=>∃ x7 x8 x9 x10 x11:Option V,σ=[some (.ref b),some (.ref wh),some (.ref sh),some (.ref D),some (.ref ft),some (.int t.2),some (.int (y:Int)),x7,x8,x9,x10,x11]∧Kp hs H1 H4∧RowsAt H4 hs (cutsF rowsY ((cellsR x y).flatMap (opsP bed wished t)))) ⟨x7,x8,x9,x10,x11,rfl,k3,ra3⟩ ?_ ?_
   ·rintro x σ H4 hx h_
    refine bC fun g_=>?_
    obtain ⟨x7,x8,x9,x10,x11,e7_,k4,ra4⟩:=h_
    refine g_ ?_
    clear g_
    obtain rfl:=e7_
    rw [Int.zero_add]
    have sH4:=go k4
    have al4:Alike bed (cutsF rowsY ((cellsR x y).flatMap (opsP bed wished t))):=al3.trans (cuts_alike _ _)
    rw [cellsR_succ,List.flatMap_append,cuts_app,List.flatMap_cons,List.flatMap_nil,List.append_nil]
    generalize cutsF rowsY ((cellsR x y).flatMap (opsP bed wished t))=rowsX at ra4 al4
    have ixy:ins bed ((x:Int),(y:Int))=true:=decide_eq_true ⟨by show (0:Int)≤(y:Int); lia,by show (y:Int) < _; lia,by show (0:Int)≤(x:Int); lia,by show (x:Int) < _; lia⟩
    have undE:und wished t.1 x y=und bed t.1 x y:=by
     unfold und
     exact List.filter_congr fun z Z=>(al.ins z).symm
    refine ⟨wh,ft,x,y,wished,t.1,rfl,hwh.same sH4,al.rect rect,⟨fts,sH4 _ _ hf1,mf.same sH4⟩,f100,f00,(by rw [← al.ins]; exact ixy),fun H5 s5=>?_⟩
    rw [undE]
    have k5:Kp hs H1 H5:=k4.trans (Kp.of s5)
    have ra5:=ra4.same s5
    have sH5:=go k5
    have opE:opsP bed wished t ((x:Int),(y:Int))=(und bed t.1 x y).map fun c=>(c,mxD 0 ((und bed t.1 x y).map (hgt wished))):=rfl
    rw [opE]
    generalize mxD 0 ((und bed t.1 x y).map (hgt wished))=low
    refine ⟨ft,rfl,⟨_,SqL.of (sH5 _ _ hf1)⟩,?_⟩
    refine for_list (K:=K) (xs:=fts.map V.ref) (fun j σ H6=>∃ x9 x10 x11:Option V,σ=[some (.ref b),some (.ref wh),some (.ref sh),some (.ref D),some (.ref ft),some (.int t.2),some (.int (y:Int)),some (.int (x:Int)),some (.int low),x9,x10,x11]∧Kp hs H1 H6∧RowsAt H6 hs (cutsF rowsX ((und bed (t.1.take j) x y).map fun c=>(c,low)))) ⟨x9,x10,x11,rfl,k5,ra5⟩ ?_ ?_ ?_
    ·rintro j σ H6 _ h_
     refine bC fun g_=>?_
     obtain ⟨_,_,_,e8_,k6,_⟩:=h_
     refine g_ ?_
     clear g_
     obtain rfl:=e8_
     exact SqL.of ((go k6) _ _ hf1)
    ·rintro j v σ H6 hx6 h_
     refine bC fun g_=>?_
     obtain ⟨x9,x10,x11,e9_,k6,ra6⟩:=h_
     refine g_ ?_
     clear g_
     obtain rfl:=e9_
     obtain ⟨ft1,hft1,rfl⟩:=ref_get hx6
     have hjf:j < t.1.length:=by have:=(List.getElem?_eq_some_iff.mp hft1).1; lia
     have ec:=List.getElem?_eq_getElem hjf
     have sH6:=go k6
     have gt:H6 ft1=some (.tup (pr t.1[j])):=sH6 _ _ (mf.at_ hft1 (by rw [List.getElem?_map,ec]; rfl))
     generalize t.1[j]=c1 at ec gt
     have skip:ins bed (shf x y c1)=false→∃ x9 x10 x11':Option V,[some (V.ref b),some (.ref wh),some (.ref sh),some (.ref D),some (.ref ft),some (.int t.2),some (.int (y:Int)),some (.int (x:Int)),some (.int low),some (.int c1.1),some (.int c1.2),x11]=[some (.ref b),some (.ref wh),some (.ref sh),some (.ref D),some (.ref ft),some (.int t.2),some (.int (y:Int)),some (.int (x:Int)),some (.int low),x9,x10,x11']∧Kp hs H1 H6∧RowsAt H6 hs (cutsF rowsX ((und bed (t.1.take (j + 1)) x y).map fun c=>(c,low))):=fun e=>⟨_,_,_,rfl,k6,by rw [und_no ec e]; exact ra6⟩
     have hb6:=SqL.of (K:=K) (sH6 _ _ hb1)
     refine ⟨ft1,_,rfl,SqT.of gt,rfl,_,_,rfl,_,_,rfl,rfl,?_⟩
     refine ?_
     refine ite2 (fun h1=>?_) (fun h1=>?_)
     ·refine ⟨b,_,rfl,.inl hb6,?_⟩
      refine ite2 (fun h2=>?_) (fun h2=>?_)
      ·refine ?_
       refine ite2 (fun h3=>?_) (fun h3=>?_)
       ·refine ⟨b,_,0,.ref a0,rfl,rfl,hb6,at0,a0,_,rfl,.inl (SqL.of (sH6 _ _ hr0)),?_⟩
        refine ite2 (fun h4=>?_) (fun h4=>?_)
        ·have hin1:ins bed (shf x y c1)=true:=by
          have a1:=of_decide_eq_true h1
          have a2:=of_decide_eq_true h2
          have a3:=of_decide_eq_true h3
          have a4:=of_decide_eq_true h4
          rw [List.length_map] at a2 a4
          exact decide_eq_true ⟨a1,show (y:Int) + c1.2 < _ by lia,a3,show (x:Int) + c1.1 < _ by lia⟩
         have al6:Alike bed (cutsF rowsX ((und bed (t.1.take j) x y).map fun c=>(c,low))):=al4.trans (cuts_alike _ _)
         rw [und_yes ec hin1,List.map_append,cuts_app]
         show tSeq _ _ _ _ _
         generalize cutsF rowsX ((und bed (t.1.take j) x y).map fun c=>(c,low))=rowsJ at ra6 al6
         have hi2:ins rowsJ (shf x y c1)=true:=by rw [← al6.ins]; exact hin1
         refine bC fun g_=>?_
         obtain ⟨iy,ix,row,v,e5,e6,e7,e8⟩:=ins_at hi2 (al6.rect rect)
         refine g_ ?_
         clear g_
         have ex:(x:Int) + c1.1=(ix:Int):=congrArg Prod.fst e5
         have ey:(y:Int) + c1.2=(iy:Int):=congrArg Prod.snd e5
         refine bC fun g_=>?_
         obtain ⟨a,ha,hra⟩:=ra6.at_ e6
         refine g_ ?_
         clear g_
         have hD6:=k6 _ _ nD hD1
         have ay:atI (hs.map V.ref) ((y:Int) + c1.2)=some (.ref a):=by rw [ey]; exact atI_nat (by rw [List.getElem?_map,ha]; rfl)
         have ax:atI (row.map V.int) ((x:Int) + c1.1)=some (.int v):=by rw [ex]; exact atI_nat (by rw [List.getElem?_map,e7]; rfl)
         have jx:ixN (row.map V.int).length ((x:Int) + c1.1)=some ix:=by rw [ex]; exact ixN_nat (by rw [List.length_map]; exact (List.getElem?_eq_some_iff.mp e7).1)
         refine abs_seq fun dE eE=>?_
         refine ⟨D,_,_,.ref a,rfl,rfl,SqL.of hD6,ay,?_⟩
         refine nxS1 eE ?_
         refine ⟨a,_,_,.int v,rfl,rfl,SqL.of hra,ax,_,_,rfl,a,_,_,ix,rfl,rfl,hra,jx,?_⟩
         have em:(row.map V.int).set ix (.int (if low < v then low else v))=(row.set ix (mn v low)).map V.int:=List.map_set.symm
         rw [em]
         refine ⟨_,_,_,rfl,fun z o nz e=>?_,?_⟩
         ·rw [upd_ne (fun z'=>nz (by rw [z']; exact List.mem_of_getElem? ha))]
          exact k6 z o nz e
         ·have e10:cutC rowsJ (shf x y c1,low)=rowsJ.set iy (row.set ix (mn v low)):=by
           have ex':(shf x y c1).1=(ix:Int):=ex
           have ey':(shf x y c1).2=(iy:Int):=ey
           unfold cutC
           simp only [e8]
           rw [ex',ey',Int.toNat_natCast,Int.toNat_natCast,e6]
           rfl
          show RowsAt _ hs (cutC rowsJ (shf x y c1,low))
          rw [e10]
          exact ra6.set ndh ha
        ·refine skip (decide_eq_false fun z=>h4 ?_)
         rw [List.length_map]
         exact decide_eq_true (by have:=z.2.2.2; show (x:Int) + c1.1 < (r0.length:Int); rw [← hw]; exact this)
       ·exact ((skip (decide_eq_false fun z=>h3 (decide_eq_true z.2.2.1))))
      ·refine (skip (decide_eq_false fun z=>h2 ?_))
       rw [List.length_map]
       exact decide_eq_true (by have:=z.2.1; show (y:Int) + c1.2 < (rs.length:Int); rw [rsl]; exact this)
     ·exact (((skip (decide_eq_false fun z=>h1 (decide_eq_true z.1)))))
    ·rintro σ H6 h_
     refine bC fun g_=>?_
     obtain ⟨x9,x10,x11,e11_,k6,ra6⟩:=h_
     refine g_ ?_
     clear g_
     obtain rfl:=e11_
     rw [List.length_map,ftl,List.take_length] at ra6
     exact ⟨_,_,_,_,_,rfl,k6,ra6⟩
   ·rintro σ H4 h_
    refine bC fun g_=>?_
    obtain ⟨x7,x8,x9,x10,x11,e12_,k4,ra4⟩:=h_
    refine g_ ?_
    clear g_
    obtain rfl:=e12_
    exact ⟨_,_,_,_,_,_,rfl,k4,ra4⟩
  ·rintro σ H3 h_
   refine bC fun g_=>?_
   obtain ⟨x6,x7,x8,x9,x10,x11,e13_,k3,ra3⟩:=h_
   refine g_ ?_
   clear g_
   obtain rfl:=e13_
   rw [List.take_length] at ra3
   exact ⟨_,_,_,_,_,_,_,_,rfl,k3,ra3⟩
 ·rintro σ H2 h_
  refine bC fun g_=>?_
  obtain ⟨x4,x5,x6,x7,x8,x9,x10,x11,e14_,k2,ra2⟩:=h_
  refine g_ ?_
  clear g_
  obtain rfl:=e14_
  rw [List.length_map,ctl,List.take_length] at ra2
  refine nxS1 eE ?_
  exact (q D H2 (go k2) ⟨hs,k2 _ _ nD hD1,ra2⟩)
end
noncomputable def subsOf:List Nat→List (List Nat)
 | []=>[[]]
 | x :: xs=>subsOf xs++(subsOf xs).map (x :: ·)
theorem subsOf_mem {l xs:List Nat} (h:l.Sublist xs):l∈subsOf xs:=by
 induction h with
 | slnil=>exact List.mem_singleton.mpr rfl
 | cons a _ ih=>exact List.mem_append_left _ ih
 | cons_cons a _ ih=>exact List.mem_append_right _ (List.mem_map.mpr ⟨_,ih,rfl⟩)
theorem subs_all:∀ n∈List.range 7,∀ l∈subsOf (List.range n),l∈subs6:=by decide +kernel
theorem sub_upN {zs:List Int} {n:Nat} (h:zs.Sublist (upN n)) (hn:n≤6):∃ ns∈subs6,zs=ns.map Int.ofNat:=by
 unfold upN at h
 refine bC fun g_=>?_
 obtain ⟨l,hl,e⟩:=List.sublist_map_iff.mp h
 refine g_ ?_
 clear g_
 exact ⟨l,subs_all n (List.mem_range.mpr (by lia)) l (subsOf_mem hl),e⟩
theorem need_sub (bed wished:List (List Int)) (ts:List Tool):(needF bed wished ts).Sublist (upN ts.length):=tryAll_sub ..
theorem need_in {bed wished:List (List Int)} {ts:List Tool} {i:Int} (h:i∈needF bed wished ts):0≤i∧i < ts.length:=by
 have:=(need_sub bed wished ts).subset h
 unfold upN at this
 obtain ⟨k,hk,rfl⟩:=List.mem_map.mp this
 have:=List.mem_range.mp hk
 lia
theorem pick_all (ts:List Tool):pick ts (upN ts.length)=ts:=by
 unfold pick upN
 rw [List.map_map]
 exact map_getD ([],0) ts
theorem need_good {bed:List (List Int)} (R:Rect bed) (wished:List (List Int)) (ts:List Tool):hadF bed wished (pick ts (needF bed wished ts))=hadF bed wished ts:=by
 rw [had_least R,had_least R]
 exact tryAll_good bed wished ts _ _ (by rw [pick_all])
theorem need_need {bed:List (List Int)} (R:Rect bed) (S:Shared) (wished:List (List Int)) (ts:List Tool) {one:Int} (h:one∈needF bed wished ts):hadF bed wished (pick ts ((needF bed wished ts).filter fun i=>decide (i≠one)))≠hadF bed wished ts:=by
 rw [had_least R,had_least R]
 refine tryAll_need R wished ts _ _ (fun i hi=>?_) ?_ h
 ·unfold upN at hi
  obtain ⟨k,hk,rfl⟩:=List.mem_map.mp hi
  have:=List.mem_range.mp hk
  lia
 ·exact (srtK_perm S (by rw [List.length_map])).mem_iff.mpr ((need_sub bed wished ts).subset h)
theorem need_len (bed wished:List (List Int)) (ts:List Tool):(needF bed wished ts).length≤ts.length:=by
 have:=(need_sub bed wished ts).length_le
 rwa [upN_len] at this
theorem tool_can3 (foot:List (Int×Int)) (bite:Int):PyData.canLay0 (toolD foot bite)=true∧PyData.depth (toolD foot bite)≤3:=by
 obtain ⟨a,b⟩:=prs_can foot
 unfold toolD
 rw [PyData.canLay0,PyData.canLayAll0,PyData.canLayAll0,PyData.canLayAll0,PyData.canLay0,PyData.canLay0,a,PyData.depth,PyData.depthAll,PyData.depthAll,PyData.depthAll,PyData.depth,PyData.depth]
 exact ⟨rfl,by lia⟩
theorem tools_can3:∀ ts:List Tool,PyData.canLayAll0 (ts.map fun t=>toolD t.1 t.2)=true∧PyData.depthAll (ts.map fun t=>toolD t.1 t.2)≤3
 | []=>⟨rfl,by decide⟩
 | t :: ts=>by
  refine bC fun g_=>?_
  obtain ⟨a,b⟩:=tools_can3 ts
  obtain ⟨c,d⟩:=tool_can3 t.1 t.2
  refine g_ ?_
  clear g_
  rw [List.map_cons,PyData.canLayAll0,PyData.depthAll,a,c]
  exact ⟨rfl,by lia⟩
theorem tri_can (a b:List (List Int)) (ts:List Tool):PyData.canLay0 (.list [.list (a.map rowD),.list (b.map rowD),.list (ts.map fun t=>toolD t.1 t.2)])=true∧PyData.depth (.list [.list (a.map rowD),.list (b.map rowD),.list (ts.map fun t=>toolD t.1 t.2)])≤10:=by
 refine bC fun g_=>?_
 obtain ⟨a1,a2⟩:=rows_can a
 obtain ⟨b1,b2⟩:=rows_can b
 obtain ⟨c1,c2⟩:=tools_can3 ts
 refine g_ ?_
 clear g_
 rw [PyData.canLay0,PyData.canLayAll0,PyData.canLayAll0,PyData.canLayAll0,PyData.canLayAll0,PyData.canLay0,PyData.canLay0,PyData.canLay0,a1,b1,c1,PyData.depth,PyData.depthAll,PyData.depthAll,PyData.depthAll,PyData.depthAll,PyData.depth,PyData.depth,PyData.depth]
 exact ⟨rfl,by lia⟩
theorem row_can (ns:List Int):PyData.canLay0 (.list (ns.map .int))=true∧PyData.depth (.list (ns.map .int))≤10:=by
 obtain ⟨a,b⟩:=ints_can ns
 rw [PyData.canLay0,a,PyData.depth,b]
 exact ⟨rfl,by decide⟩
theorem cut_last (zs:List Int) (n:Int):cutV ((zs++[n]).map V.int) none (some (-1))=zs.map V.int:=by
 unfold cutV
 rw [HT.sIx_none,List.drop_zero,List.length_map,List.length_append,Nat.sub_zero]
 have e:HT.sIx (zs.length + [n].length) (zs.length + [n].length) (some (-1))=(zs.map V.int).length:=by
  rw [List.length_map]
  unfold HT.sIx
  dsimp only
  rw [if_pos (by decide),List.length_singleton]
  lia
 rw [e,List.map_append,List.take_left]
theorem call_setZK {X:Cx} {w:World} {K:PySem.W.Frag} (h:X.w=w) (h2:X.K=K) (hc:X.calm=true):CallR X (.type "set") (rSetZ w K):=by subst h h2; exact call_setZ hc
theorem call_sortZK {X:Cx} {w:World} (h:X.w=w) (hc:X.calm=true):CallR X (.builtin "sorted") (rSortZ w):=by subst h; exact call_sortZ hc
theorem hts_hgt {a:List (List Int)} (R:Rect a) (h:Hts a) {c:Int×Int} (hc:ins a c=true):0≤hgt a c∧hgt a c≤1000:=by
 refine bC fun g_=>?_
 obtain ⟨i,j,row,v,_,h1,h2,h3⟩:=ins_at hc R
 refine g_ ?_
 clear g_
 rw [h3]
 exact h row (List.mem_of_getElem? h1) v (List.mem_of_getElem? h2)
theorem cts_pick {H:Hp} {cts:List Addr} {ts:List Tool} (h:CtsAt H cts ts):∀ (is:List Int),(∀ i∈is,0≤i∧i < ts.length)→CtsAt H (is.map fun i=>cts.getD i.toNat 0) (pick ts is)
 | [],_=>True.intro
 | i :: is,b=>by
  have hl:=h.len
  have hi:=b i List.mem_cons_self
  have e:=List.getElem?_eq_getElem (l:=cts) (i:=i.toNat) (by lia)
  refine bC fun g_=>?_
  obtain ⟨t,et,ct⟩:=h.at_ e
  refine g_ ?_
  clear g_
  refine ⟨?_,cts_pick h is fun j hj=>b j (List.mem_cons_of_mem _ hj)⟩
  show CtAt H (cts.getD i.toNat 0) (ts.getD i.toNat ([],0))
  rw [List.getD_eq_getElem?_getD,List.getD_eq_getElem?_getD,e,et]
  exact ct
theorem lc_pick {K:PySem.W.Frag} {a:Addr} {xs:List Int} {p:Int→Bool} {g:Int→Addr} {tt:TT} {te:TE} {H1:Hp} {A:Hp→Prop} (caps:St) (hl:H1 a=some (.lst (xs.map V.int))) (hx:xs.length≤1000)
  (htt:∀ x∈xs,∀ (H2:Hp) (R:Bool→Hp→Prop),Same H1 H2→R (p x) H2→tt (some (.int x) :: caps) H2 R) (hte:∀ x∈xs,∀ (H2:Hp) (R:VK),Same H1 H2→R (.ref (g x)) H2→te (some (.int x) :: caps) H2 R) {D:Addr} (hD:H1 D=none)
  (q:∀ (H':Hp),Same H1 H'→H' D=some (.lst (((xs.filter p).map g).map V.ref))→A H') :
  ∃ W:Nat→Nat→St→List V→Hp→Prop,(∃ m,W 0 m (none :: caps) [] (upd H1 D (.lst []))) ∧
   ∀ i m σ' acc H,W i m σ' acc H→((Itl K a).stop i H∧A H)∨((Itl K a).go i H∧∀ x H',(Itl K a).yld i H x H'→gName 0 x σ' H' fun σ2 H2=>tt σ2 H2 fun b H3 =>
    if b=true then te σ2 H3 fun y H4=>H4 D=some (.lst acc)∧acc.length < sizeLine∧∃ m',m' < m∧W (i + 1) m' σ2 (acc++[y]) (upd H4 D (.lst (acc++[y]))) else ∃ m',m' < m∧W (i + 1) m' σ2 acc H3):=by
 refine ⟨Wd xs.length (fun i σ acc H2=>∃ (z:Option V),σ=z :: caps∧acc=(((xs.take i).filter p).map g).map V.ref∧Same H1 H2∧H2 D=some (.lst acc)),wd_0 ⟨none,rfl,by rw [List.take_zero]; rfl,same_upd hD _,upd_same⟩,?_⟩
 rintro i mm σ acc H2 h_
 refine bC fun g_=>?_
 obtain ⟨e3_,hi0,z,e4_,e5_,s2,hB2⟩:=h_
 refine g_ ?_
 clear g_
 obtain rfl:=e3_
 obtain rfl:=e4_
 obtain rfl:=e5_
 refine lc_ask (K:=K) (xs:=xs.map V.int) (SqL.of (s2 _ _ hl)) (by rw [List.length_map]; exact hi0) (fun x hx1 hi=>?_) (fun hend=>?_)
 ·rw [List.length_map] at hi
  rw [List.getElem?_map] at hx1
  obtain ⟨x0,ex,rfl⟩:=Option.map_eq_some_iff.mp hx1
  have tk:(xs.take (i + 1)).filter p=(xs.take i).filter p++[x0].filter p:=by rw [take_snoc ex,List.filter_append]
  show tt (some (.int x0) :: caps) H2 _
  refine htt x0 (List.mem_of_getElem? ex) H2 _ s2 (ite2 (fun h1=>?_) (fun h1=>?_))
  ·refine hte x0 (List.mem_of_getElem? ex) H2 _ s2 ⟨hB2,?_,wd_next hi ⟨_,rfl,?_,same_in s2 hD,upd_same⟩⟩
   ·rw [List.length_map,List.length_map]
    exact line3 (Nat.le_trans (List.length_filter_le _ _) (by rw [List.length_take]; exact Nat.le_trans (Nat.min_le_right _ _) hx)) (by decide)
   ·rw [tk,List.filter_cons_of_pos h1,List.map_append,List.map_append]
    rfl
  ·refine wd_next hi ⟨_,rfl,?_,s2,hB2⟩
   rw [tk,List.filter_cons_of_neg h1,List.filter_nil,List.append_nil]
 ·rw [List.length_map] at hend
  rw [hend,List.take_length] at hB2
  exact q H2 s2 hB2
theorem tab_upd {H:Hp} {T R:Addr} {xs ys:List V} {p:Pos} {q:Str} (h:TabAt T p q H) (e:H R=some (.lst xs)):TabAt T p q (upd H R (.lst ys)):=by
 rcases h with z | ⟨c',z,zc⟩
 ·exact .inl (by rw [upd_ne (fun y=>by rw [← y,z] at e; cases e)]; exact z)
 ·exact .inr ⟨c',by rw [upd_ne (fun y=>by rw [← y,z] at e; cases e)]; exact z,by rw [upd_ne (fun y=>by rw [← y,zc] at e; cases e)]; exact zc⟩
theorem same_two {H H':Hp} {T1 T2:Addr} (k:∀ x o,x≠T1→x≠T2→H x=some o→H' x=some o):Same (dropL H [T1,T2]) H':=fun x o e=>by
 have n:x ∉ [T1,T2]:=fun z=>by unfold dropL at e; rw [if_pos z] at e; cases e
 refine k x o (fun z=>n (by rw [z]; exact List.mem_cons_self)) (fun z=>n (by rw [z]; exact List.mem_cons_of_mem _ List.mem_cons_self)) (dropL_le _ _ e)
theorem noSq_two {H:Hp} {T1 T2:Addr} {p1 p2:Array Value} (e1:H T1=some (.tbl p1)) (e2:H T2=some (.tbl p2)):NoSq H [T1,T2]:=fun x hx ys=>by
 rcases List.mem_cons.mp hx with rfl | hx
 ·rw [e1]; exact ⟨(fun z=>nomatch z),(fun z=>nomatch z)⟩
 ·rw [List.mem_singleton.mp hx,e2]; exact ⟨(fun z=>nomatch z),(fun z=>nomatch z)⟩
theorem bt_set:bootBuiltins "set"=some (.type "set"):=by decide +kernel
theorem bt_sorted:bootBuiltins "sorted"=some (.builtin "sorted"):=by decide +kernel
theorem k_int_int:PySem.W.kitOne K (.type "int") (.type "int")=some true:=by kernel_rfl
theorem op_notInDK {X:Cx} {K:PySem.W.Frag} (h:X.K=K) (hu:X.A.units + 65 < cLine):OpR X (compareOp .NotIn) (rInD K true):=by subst h; exact op_notInD hu
theorem ndfb:(["foot","bite"]:List Str).Nodup:=by decide +kernel
theorem ndos:(["one","shelf"]:List Str).Nodup:=by decide +kernel
theorem ndots:(["other","shelf","one"]:List Str).Nodup:=by decide +kernel
theorem ndmf:(["move","found"]:List Str).Nodup:=by decide +kernel
section
variable {f:Addr} {fd':FuncData}
theorem scLaw:FnScope ["script","head","bed","wished","shelf","handed","found","due","one","moves"] ["script"] (defScope sLaw):=⟨rfl,rfl,rfl,by decide +kernel,rfl,by decide +kernel,by decide +kernel⟩
theorem ok_law {T1 T2:Addr} (T:LawT mg) (NS:mg "sorted"=none) (NT:mg "set"=none) (FA:Fn P w K mg base "_law_cell_at" 1 ["script","k"] (spAt K)) (FB:Fn P w K mg base "_law_bed" 2 ["script","head"] (spBed K)) (FW:Fn P w K mg base "_law_wished" 2 ["script","bed","head"] (spWish K)) (FS:Fn P w K mg base "_law_shelf" 3 ["script","head"] (spShelf K))
  (FH:Fn P w K mg base "_law_had" 2 ["bed","wished","shelf"] spHadL) (FN:Fn P w K mg base "needed" 4 ["bed","wished","shelf"] (spNeed T1)) (FM:Fn P w K mg base "moves_for" 5 ["bed","wished","shelf"] (spMoves T1 T2))
  (F:Fun K "law" "law" sLaw f fd'):FnOk P w K mg base (CX1 P w) 6 f fd' ["script"] (spLaw T1 T2 K):=by
 have nd:=scLaw.nd
 refine F.ok1 scLaw (fun vs H Q E h=>?_) (fun cdv A outer s H vs Q E hr h=>?_)
 ·refine bC fun g_=>?_
  obtain ⟨a,ns,e1_,_⟩:=h
  refine g_ ?_
  clear g_
  obtain rfl:=e1_
  rfl
 refine bC fun g_=>?_
 obtain ⟨L,ns,e2_,hL,hT1,hT2,nT,q⟩:=h
 refine g_ ?_
 clear g_
 obtain rfl:=e2_
 have hr1:Room 1 _:=hr.mono (by decide)
 have hr2:Room 2 _:=hr.mono (by decide)
 have hr3:Room 3 _:=hr.mono (by decide)
 have hr4:Room 4 _:=hr.mono (by decide)
 have hr5:Room 5 _:=hr.mono (by decide)
 have hu65:=hr1.units65
 refine ⟨_,(pss_cons (ps_set (i:=1) nd rfl (Or.inl rfl) (pf_call FA hr1 rfl (pass1 (E:=E)) (pa_cons (pv 0) (pa_cons pe_int pa_nil))))
  (pss_cons (ps_set (i:=2) nd rfl (Or.inl rfl) (pf_call FB hr2 rfl (pass1 (E:=E)) (pa_cons (pv 0) (pa_cons (pv 1) pa_nil))))
  (pss_cons (ps_set (i:=3) nd rfl (Or.inl rfl) (pf_call FW hr2 rfl (pass1 (E:=E)) (pa_cons (pv 0) (pa_cons (pv 2) (pa_cons (pv 1) pa_nil)))))
  (pss_cons (ps_set (i:=4) nd rfl (Or.inr rfl) (pf_call FS hr3 rfl (pass1 (E:=E)) (pa_cons (pv 0) (pa_cons (pv 1) pa_nil))))
  (pss_cons (ps_set (i:=5) nd rfl (Or.inl rfl) (pe_lst (pa_cons (pe_lc (own:=["row"]) (capn:=[]) (capI:=[]) rfl (blk0 rfl (by decide +kernel)) (pi_listK (K:=K) rfl (pv 2)) (fun Z Z Z Z Z Z=>pg_name (i:=0) (nd1 "row") rfl (Or.inl rfl)) (fun Z Z Z Z Z Z=>pifs_nil) (fun Z Z Z Z Z Z=>(pe_callTy (call_listK (K:=K) rfl) rfl T.list bt_list (pa_cons (pv 0) pa_nil)))) (pa_cons (pe_lc (own:=["row"]) (capn:=[]) (capI:=[]) rfl (blk0 rfl (by decide +kernel)) (pi_listK (K:=K) rfl (pv 3)) (fun Z Z Z Z Z Z=>pg_name (i:=0) (nd1 "row") rfl (Or.inl rfl)) (fun Z Z Z Z Z Z=>pifs_nil) (fun Z Z Z Z Z Z=>(pe_callTy (call_listK (K:=K) rfl) rfl T.list bt_list (pa_cons (pv 0) pa_nil)))) (pa_cons (pe_lc (own:=["foot","bite"]) (capn:=[]) (capI:=[]) rfl (blk0 rfl (by decide +kernel)) (pi_listK (K:=K) rfl (pv 4)) (fun Z Z Z Z Z Z=>pg_tupK (K:=K) (n:=2) rfl rfl (pgs_cons (pg_name (i:=0) ndfb rfl (Or.inl rfl)) (pgs_cons (pg_name (i:=1) ndfb rfl (Or.inl rfl)) pgs_nil))) (fun Z Z Z Z Z Z=>pifs_nil) (fun Z Z Z Z Z Z=>(pe_tup (pa_cons (pe_callTy (call_listK (K:=K) rfl) rfl T.list bt_list (pa_cons (pv 0) pa_nil)) (pa_cons (pv 1) pa_nil))))) pa_nil)))))
  (pss_cons (ps_set (i:=6) nd rfl (Or.inr rfl) (pf_call FN hr4 rfl (pass1 (E:=E)) (pa_cons (pe_ix (ix_listK (K:=K) rfl) (pv 5) pe_int (fun Z Z=>rfl)) (pa_cons (pe_ix (ix_listK (K:=K) rfl) (pv 5) pe_int (fun Z Z=>rfl)) (pa_cons (pe_ix (ix_listK (K:=K) rfl) (pv 5) pe_int (fun Z Z=>rfl)) pa_nil)))))
  (pss_cons (ps_if (PW.pt (pw_or (pt_cmpR (op_neDK (K:=K) rfl hr.units) (pv 5) (pe_lst (pa_cons (pv 2) (pa_cons (pv 3) (pa_cons (pv 4) pa_nil)))) (nomark _)) (pw_or (pt_not (pt_truth (pe_callB call_isi rfl T.isin bt_isin (pa_cons (pv 6) (pa_cons (pe_bltn (v:=.ty "list") rfl T.list bt_list rfl) pa_nil))) (fun Z=>rfl))) (pw_or1 (pt_cmpR (op_neDK (K:=K) rfl hr.units) (pv 6) (pe_callB (call_sortZK (w:=w) rfl rfl) rfl NS bt_sorted (pa_cons (pe_callTy (call_setZK (w:=w) (K:=K) rfl rfl rfl) rfl NT bt_set (pa_cons (pv 6) pa_nil)) pa_nil)) (nomark _)))))) (pss_one (ps_ret pe_bl)) pss_nil)
  (pss_cons (ps_if (pt_cmpR (op_neDK (K:=K) rfl hr.units) (pe_lc (own:=["one"]) (capn:=["shelf"]) (capI:=[4]) rfl (blkC (defScope sLaw) rfl rfl (by decide +kernel) rfl (capcs rfl)) (pi_listK (K:=K) rfl (pv 6)) (fun Z Z Z Z Z Z=>pg_name (i:=0) ndos rfl (Or.inl rfl)) (fun Z Z Z Z Z Z=>(pifs_one (PW.pt (pw_or (pt_not (pt_truthK (K:=K) rfl (pe_callB (call_isiK (K:=K) rfl) rfl T.isin bt_isin (pa_cons (pv 0) (pa_cons (pe_bltn (v:=.ty "int") rfl T.int bt_int rfl) pa_nil))) (fun Z=>rfl))) (pw_or (pt_truthK (K:=K) rfl (pe_callB (call_isiK (K:=K) rfl) rfl T.isin bt_isin (pa_cons (pv 0) (pa_cons (pe_bltn (v:=.ty "bool") rfl T.bool bt_bool rfl) pa_nil))) (fun Z=>rfl)) (pw_or1 (pt_not (pt_chain op_le op_lt pe_int (pv 0) (pe_callB (call_lenK (K:=K) rfl) rfl T.len PySem.boot_len (pa_cons (pv 1) pa_nil)))))))))) (fun Z Z Z Z Z Z=>(pv 0))) (pe_lst pa_nil) (nomark _)) (pss_one (ps_ret pe_bl)) pss_nil)
  (pss_cons (ps_set (i:=7) nd rfl (Or.inl rfl) (pf_call FH hr2 rfl (pass1 (E:=E)) (pa_cons (pv 2) (pa_cons (pv 3) (pa_cons (pv 4) pa_nil)))))
  (pss_cons (ps_if (pt_cmpR (op_neDK (K:=K) rfl hr.units) (pf_call FH hr2 rfl (pass1 (E:=E)) (pa_cons (pv 2) (pa_cons (pv 3) (pa_cons (pe_lc (own:=["one"]) (capn:=["shelf"]) (capI:=[4]) rfl (blkC (defScope sLaw) rfl rfl (by decide +kernel) rfl (capcs rfl)) (pi_listK (K:=K) rfl (pv 6)) (fun Z Z Z Z Z Z=>pg_name (i:=0) ndos rfl (Or.inl rfl)) (fun Z Z Z Z Z Z=>pifs_nil) (fun Z Z Z Z Z Z=>(pe_ix (ix_listK (K:=K) rfl) (pv 1) (pv 0) (fun Z Z=>rfl)))) pa_nil)))) (pv 7) (nomark _)) (pss_one (ps_ret pe_bl)) pss_nil)
  (pss_cons (ps_for own1 rfl (pi_listK (K:=K) rfl (pv 6)) (pg_name (i:=8) nd rfl (Or.inr rfl)) (pss_one (ps_if (pt_cmpR (op_eqDK (K:=K) rfl hr.units) (pf_call FH hr2 rfl (pass1 (E:=E)) (pa_cons (pv 2) (pa_cons (pv 3) (pa_cons (pe_lc (own:=["other"]) (capn:=["shelf","one"]) (capI:=[4,8]) rfl (blkC (defScope sLaw) rfl rfl (by decide +kernel) rfl (capcs rfl)) (pi_listK (K:=K) rfl (pv 6)) (fun Z Z Z Z Z Z=>pg_name (i:=0) ndots rfl (Or.inl rfl)) (fun Z Z Z Z Z Z=>(pifs_one (pt_cmpR op_ne (pv 0) (pv 2) (nomark _)))) (fun Z Z Z Z Z Z=>(pe_ix (ix_listK (K:=K) rfl) (pv 1) (pv 0) (fun Z Z=>rfl)))) pa_nil)))) (pv 7) (nomark _)) (pss_one (ps_ret pe_bl)) pss_nil)))
  (pss_cons (ps_set (i:=9) nd rfl (Or.inl rfl) (pf_call FM hr5 rfl (pass1 (E:=E)) (pa_cons (pv 2) (pa_cons (pv 3) (pa_cons (pv 4) pa_nil)))))
  (pss_cons (ps_if (pt_cmpR (op_neDK (K:=K) rfl hr.units) (pe_lc (own:=["move"]) (capn:=["found"]) (capI:=[6]) rfl (blkC (defScope sLaw) rfl rfl (by decide +kernel) rfl (capcs rfl)) (pi_listK (K:=K) rfl (pv 9)) (fun Z Z Z Z Z Z=>pg_name (i:=0) ndmf rfl (Or.inl rfl)) (fun Z Z Z Z Z Z=>(pifs_one (PW.pt (pw_and (pt_cmpR op_eq (pe_ix (ix_tupK (K:=K) rfl) (pv 0) pe_int (fun Z Z=>rfl)) pe_str (nomark _)) (pw_and1 (pt_cmpR (op_notInDK (K:=K) rfl hu65) (pe_ix (ix_tupK (K:=K) rfl) (pv 0) pe_int (fun Z Z=>rfl)) (pv 1) (by with_unfolding_all rfl))))))) (fun Z Z Z Z Z Z=>(pv 0))) (pe_lst pa_nil) (nomark _)) (pss_one (ps_ret pe_bl)) pss_nil)
  (pss_cons (ps_expr (pe_bm PySem.F.plainAttrs_list PySem.F.slot_list_append PySem.F.type_list_append mt_append (pv 6) (pa_cons pe_int pa_nil)))
  (pss_one (ps_ret (pe_cmpR (op_eqDK (K:=K) rfl hr.units) (pf_call FN hr4 rfl (pass1 (E:=E)) (pa_cons (pv 2) (pa_cons (pv 3) (pa_cons (pv 4) pa_nil)))) (pe_slice (sl_listK (K:=K) rfl) (pv 6) po_none (po_some (pe_un un_neg pe_int))) (nomark _)))))))))))))))))),?_⟩
 (try dsimp only [L2.cxK])
 refine abs_seq fun dE eE=>?_
 refine ⟨L,ns,0,rfl,hL,(by decide),fun hd=>?_⟩
 refine nxS eE fun dE eE=>?_
 refine ⟨L,ns,hd,rfl,hL,fun b bed wd H1 s1 hb bne bw wd1 wd40 b20 bh=>?_⟩
 have hL1:=s1.seq hL
 refine nxS eE fun dE eE=>?_
 refine ⟨L,b,ns,hd,bed,wd,rfl,hL1,hb,bne,bw,wd40,b20,bh,fun wh wished H2 s2 hwh wl ww whh=>?_⟩
 have hL2:=s2.seq hL1
 refine nxS eE fun dE eE=>?_
 refine ⟨L,ns,hd,rfl,hL2,fun sh ts H3 s3 hsh tok t6=>?_⟩
 have rect:Rect bed:=rect_of' bne bw
 have al:Alike bed wished:=⟨wl.symm,fun i r s e1 e2=>by rw [bw r (List.mem_of_getElem? e1),ww s (List.mem_of_getElem? e2)]⟩
 have small:Small bed:=⟨by lia,fun r hr=>by rw [bw r hr]; exact wd40⟩
 have smb:bed.length≤1000:=by lia
 have smw:wished.length≤1000:=by lia
 have s23:=s2.trans s3
 have s13:=s1.trans s23
 have hb3:=hb.same s23
 have hwh3:=hwh.same s3
 have hT13:=s13 _ _ hT1
 have hT23:=s13 _ _ hT2
 clear hL hL1 hL2 hb hwh s1 s2 s3 s23 s13 hT1 hT2
 refine nxS eE fun dE eE=>?_
 refine bC fun g_=>?_
 obtain ⟨rs,hb1,ra⟩:=id hb3
 refine g_ ?_
 clear g_
 refine ⟨b,rfl,⟨_,SqL.of hb1⟩,fun D1 hD1=>?_⟩
 refine lc_rows hb1 ra smb (fun r row G R hr' k=>⟨r,_,rfl,.inl (SqL.of hr'),k⟩) hD1 (fun hs1 H4 s4 hd1 rh1 Z Z Z=>?_)
 have hbd1:BdAt H4 D1 bed:=⟨hs1,hd1,rh1⟩
 have hwh4:=hwh3.same s4
 refine bC fun g_=>?_
 obtain ⟨ws,hw1,rw1⟩:=id hwh4
 refine g_ ?_
 clear g_
 refine ⟨wh,rfl,⟨_,SqL.of hw1⟩,fun D2 hD2=>?_⟩
 refine lc_rows hw1 rw1 smw (fun r row G R hr' k=>⟨r,_,rfl,.inl (SqL.of hr'),k⟩) hD2 (fun hs2 H5 s5 hd2 rh2 Z Z Z=>?_)
 have hbd2:BdAt H5 D2 wished:=⟨hs2,hd2,rh2⟩
 have s35:=s4.trans s5
 have B1:=hbd1.same s5
 have B3:=hb3.same s35
 have B4:=hwh4.same s5
 have S3:=hsh.same s35
 have hT15:=s35 _ _ hT13
 have hT25:=s35 _ _ hT23
 clear hb3 hwh3 hsh hbd1 hd1 rh1 hwh4 hw1 rw1 hd2 rh2 hb1 ra s4 s5 s35 hT13 hT23 hD1 hD2
 refine bC fun g_=>?_
 obtain ⟨cts,hs1',hs2'⟩:=id S3
 refine g_ ?_
 clear g_
 have ctl:=hs2'.len
 refine ⟨sh,rfl,⟨_,SqL.of hs1'⟩,fun D hD=>?_⟩
 refine ⟨Wd ts.length (fun i σ acc G=>Ex3 fun (z1 z2:Option V) (cs2:List Addr)=>σ=[z1,z2]∧acc=cs2.map V.ref∧CtsO G D cs2 (ts.take i)∧Same H5 G∧G D=some (.lst acc)),wd_0 ⟨none,none,[],rfl,rfl,by rw [List.take_zero]; exact True.intro,same_upd hD _,upd_same⟩,?_⟩
 rintro i im σ acc G h_
 refine bC fun g_=>?_
 obtain ⟨e3_,hi0,z1,z2,cs2,e4_,e5_,co,s5,hD5⟩:=h_
 refine g_ ?_
 clear g_
 obtain rfl:=e3_
 obtain rfl:=e4_
 obtain rfl:=e5_
 refine lc_ask (K:=K) (xs:=cts.map V.ref) (SqL.of (s5 _ _ hs1')) (by rw [List.length_map,ctl]; exact hi0) (fun x hx hi=>?_) (fun hend=>?_)
 ·obtain ⟨ct,hct,rfl⟩:=ref_get hx
  have hi':i < ts.length:=by rw [List.length_map,ctl] at hi; exact hi
  refine bC fun g_=>?_
  obtain ⟨⟨foot,bite⟩,et,⟨ft,hc1,⟨fts,hf1,hf2⟩⟩⟩:=hs2'.at_ hct
  refine g_ ?_
  clear g_
  have col:=co.cts.len
  rw [List.length_take] at col
  have gc:=s5 _ _ hc1
  have gf:=s5 _ _ hf1
  refine ⟨ct,_,rfl,SqT.of gc,rfl,_,_,rfl,_,_,rfl,rfl,?_⟩
  refine ⟨ft,_,rfl,.inl (SqL.of gf),fun p hp=>?_⟩
  have u1:=same_upd hp (.lst (fts.map V.ref))
  refine ⟨le2,fun tt htt=>?_⟩
  have u2:=same_upd htt (.tup [V.ref p,.int bite])
  have uu:=u1.trans u2
  have np:=ne_new hD5 hp
  have hD6:=uu _ _ hD5
  refine ⟨hD6,(by rw [List.length_map]; exact line3 (show cs2.length≤1000 by lia) (by decide)),wd_next hi' ⟨_,_,cs2++[tt],rfl,by rw [List.map_append]; rfl,?_,same_in (s5.trans uu) hD,upd_same⟩⟩
  rw [List.take_add_one,et]
  have co8:=CtsO.snoc (c:=tt) (t:=(foot,bite)) ⟨p,np,upd_same,⟨fts,u2 _ _ upd_same,(hf2.same s5).same uu⟩⟩ (co.keep (fun x o Z e=>uu x o e) ⟨_,hD5⟩)
  exact co8.keep (fun x o n e=>by rw [upd_ne n]; exact e) ⟨_,hD6⟩
 rw [List.length_map,ctl] at hend
 rw [hend,List.take_of_length_le (Nat.le_refl _)] at co
 have S5:ShAt G D ts:=⟨cs2,hD5,co.cts⟩
 refine ⟨le3,fun hn hhn=>?_⟩
 have u4:=same_upd hhn (.lst [V.ref D1,.ref D2,.ref D])
 have s54:=s5.trans u4
 have eh:upd G hn (.lst [V.ref D1,.ref D2,.ref D]) hn=some (.lst [V.ref D1,.ref D2,.ref D]):=upd_same
 have C1:=B1.same s54
 have C2:=hbd2.same s54
 have C3:=B3.same s54
 have C4:=B4.same s54
 have S6:=S3.same s54
 have S7:=S5.same u4
 have hT16:=s54 _ _ hT15
 have hT26:=s54 _ _ hT25
 generalize upd G hn (.lst [V.ref D1,.ref D2,.ref D])=H6 at eh C1 C2 C3 C4 S6 S7 hT16 hT26
 clear co hD5 S3 S5 hs1' hs2' ctl B1 B3 B4 hbd2 s5 s54 u4 hi0 hD hT15 hT25 hhn
 refine nxS eE fun dE eE=>?_
 have feet100:∀ t∈ts,t.1.length≤100:=fun t ht=>(tok t ht).1
 refine ⟨hn,_,0,.ref D1,rfl,rfl,SqL.of eh,rfl,hn,_,1,.ref D2,rfl,rfl,SqL.of eh,rfl,hn,_,2,.ref D,rfl,rfl,SqL.of eh,rfl,D1,D2,D,bed,wished,ts,rfl,C1,C2,S7,rect,al,small,feet100,(by lia),.inl hT16,fun fo H7 nfo k7 tab17 hfo=>?_⟩
 have E1:=C1.sb hT16 k7
 have E2:=C2.sb hT16 k7
 have E3:=C3.sb hT16 k7
 have E4:=C4.sb hT16 k7
 have S8:=S6.sb hT16 k7
 have S9:=S7.sb hT16 k7
 have eh7:=k7.lst hT16 eh
 have hT27:=k7 _ _ (fun z=>nT z.symm) hT26
 have nsq:=noSq_two hT16 hT26
 have M3:=C3.dropL nsq
 have M4:=C4.dropL nsq
 have MS:=S6.dropL nsq
 have sM7:Same (dropL H6 [T1,T2]) H7:=same_two fun x o n Z e=>k7 x o n e
 have nM:dropL H6 [T1,T2] fo=none:=by unfold dropL; split; rfl; exact nfo
 have nM1:dropL H6 [T1,T2] T1=none:=by unfold dropL; rw [if_pos List.mem_cons_self]
 have nM2:dropL H6 [T1,T2] T2=none:=by unfold dropL; rw [if_pos (List.mem_cons_of_mem _ List.mem_cons_self)]
 generalize dropL H6 [T1,T2]=M at M3 M4 MS sM7 nM nM1 nM2
 clear C1 C2 C3 C4 S6 S7 eh hT16 hT26 k7 nfo nsq
 refine nxS eE fun dE eE=>?_
 refine bC fun g_=>?_
 obtain ⟨zs,hz,ez⟩:=sub_upN (need_sub bed wished ts) t6
 refine g_ ?_
 clear g_
 have tc:=tri_can bed wished ts
 have rc:=row_can (needF bed wished ts)
 have nl:=need_len bed wished ts
 refine ⟨le3,fun l8 hl8=>?_⟩
 have u8:=same_upd hl8 (.lst [V.ref b,.ref wh,.ref sh])
 refine ⟨_,_,.lst (SqL.of (u8 _ _ eh7)) (.cons (E1.same u8).rp (.cons (E2.same u8).rp (.cons (S9.same u8).rp .nil))),.lst (SqL.of upd_same) (.cons (E3.same u8).rp (.cons (E4.same u8).rp (.cons (S8.same u8).rp .nil))),shaped_of tc (by decide),shaped_of tc (by decide),?_⟩
 rw [eq_false tc.1]
 have hfo8:=u8 _ _ hfo
 refine ⟨_,"list",_,true,rfl,.lst hfo8,k_list_list,_,rfl,?_⟩
 refine ⟨fo,zs,rfl,SqL.of (by rw [hfo8,ez]; rfl),hz,fun ps hps=>⟨ps,zs,rfl,upd_same,hz,fun pl hpl=>?_⟩⟩
 have u9:=u8.trans ((same_upd hps (IntS w ps zs)).trans (same_upd hpl (.lst (ofN zs))))
 have hpl9:upd (upd (upd H7 l8 (.lst [V.ref b,.ref wh,.ref sh])) ps (IntS w ps zs)) pl (.lst (ofN zs)) pl=some (.lst ((needF bed wished ts).map V.int)):=by rw [upd_same,ez]; rfl
 generalize upd (upd (upd H7 l8 (.lst [V.ref b,.ref wh,.ref sh])) ps (IntS w ps zs)) pl (.lst (ofN zs))=H8 at u9 hpl9
 refine ⟨_,_,.lst (SqL.of (u9 _ _ hfo)) (ints_rp _),.lst (SqL.of hpl9) (ints_rp _),shaped_of rc (by decide),shaped_of rc (by decide),?_⟩
 rw [eq_false rc.1]
 refine ?_
 have sM8:=sM7.trans u9
 have F3:=E3.same u9
 have F4:=E4.same u9
 have S10:=S8.same u9
 have hfo9:=u9 _ _ hfo
 have tab19:=tab17.same u9
 have hT29:=u9 _ _ hT27
 clear E1 E2 E3 E4 S8 S9 eh7 u8 u9 hfo hfo8 tab17 hT27 hl8 hps hpl hpl9
 refine nxS eE fun dE eE=>?_
 refine bC fun g_=>?_
 obtain ⟨cts,hs1,hs2⟩:=id S10
 refine g_ ?_
 clear g_
 have ctl:=hs2.len
 refine ⟨fo,rfl,⟨_,SqL.of hfo9⟩,fun p1 hp1=>?_⟩
 refine lc_filtI (K:=K) (p:=fun Z=>false) [some (.ref sh)] hfo9 (by lia) (fun x hx H2 R s2 k=>?_) (fun x H2 R k=>k) hp1 (fun H9 s9 hp9=>?_)
 ·have xi:=need_in hx
  refine ⟨_,"int",_,true,rfl,.int _,k_int_int,_,rfl,iteF ?_⟩
  refine ⟨_,"bool",_,false,rfl,.int _,k_int_bool,_,rfl,iteF ?_⟩
  refine ite2 (c:=decide ((0:Int)≤x)=true) (fun Z=>?_) (fun h=>absurd (decide_eq_true xi.1) h)
  refine ⟨sh,_,rfl,.inl (SqL.of (s2 _ _ hs1)),?_⟩
  rw [List.length_map,ctl]
  have kk:R (!decide (x < (ts.length:Int))) H2:=by
   rw [show decide (x < (ts.length:Int))=true from decide_eq_true xi.2]
   exact k
  exact kk
 have ef:(needF bed wished ts).filter (fun Z=>false)=[]:=List.filter_eq_nil_iff.mpr fun Z Z=>by simp
 rw [ef] at hp9
 refine ⟨Nat.zero_le _,fun p2 hp2=>?_⟩
 have u9:=same_upd hp2 (.lst [])
 refine ⟨_,_,.lst (SqL.of (u9 _ _ hp9)) .nil,.lst (SqL.of upd_same) .nil,nil_sh,nil_sh,?_⟩
 have s90:=s9.trans u9
 generalize upd H9 p2 (.lst [])=H10 at s90
 have sM10:=sM8.trans s90
 have G3:=F3.same s90
 have G4:=F4.same s90
 have S11:=S10.same s90
 have hfo10:=s90 _ _ hfo9
 have tab110:=tab19.same s90
 have hT210:=s90 _ _ hT29
 clear F3 F4 S10 hfo9 tab19 hT29 s9 u9 s90 hp9 hp1 hp2 hs1 hs2
 refine nxS eE fun dE eE=>?_
 have feet:∀ t∈ts,t.1.length≤100∧(0,0)∈t.1:=fun t ht=>⟨(tok t ht).1,(tok t ht).2.1⟩
 refine ⟨b,wh,sh,bed,wished,ts,rfl,G3,G4,S11,rect,al,small,feet,(by lia),fun du H11 s11 hdu=>?_⟩
 have sM11:=sM10.trans s11
 have I3:=G3.same s11
 have I4:=G4.same s11
 have S12:=S11.same s11
 have hfo11:=s11 _ _ hfo10
 have tab111:=tab110.same s11
 have hT211:=s11 _ _ hT210
 clear G3 G4 S11 hfo10 tab110 hT210 s11
 refine bC fun g_=>?_
 obtain ⟨cts',hs1,hs2⟩:=id S12
 refine g_ ?_
 clear g_
 have ctl':=hs2.len
 have pickf:∀ (is:List Int),(∀ i∈is,i∈needF bed wished ts)→∀ t∈pick ts is,t.1.length≤100∧(0,0)∈t.1:=fun is hi t ht=>feet t (pick_in (fun i h=>need_in (hi i h)) t ht)
 have ixs:∀ (x:Int),x∈needF bed wished ts→∀ (H2:Hp),Same H11 H2→SqL K H2 sh (cts'.map V.ref)∧atI (cts'.map V.ref) x=some (.ref (cts'.getD x.toNat 0)):=fun x hx H2 s2=>by
  have xi:=need_in hx
  refine ⟨SqL.of (s2 _ _ hs1),?_⟩
  obtain ⟨n,rfl⟩:∃ n:Nat,x=(n:Int):=⟨x.toNat,by lia⟩
  have hn:n < cts'.length:=by lia
  rw [atI_nat (by rw [List.getElem?_map,List.getElem?_eq_getElem hn]; rfl),Int.toNat_natCast,List.getD_eq_getElem?_getD,List.getElem?_eq_getElem hn]
  rfl
 refine nxS eE fun dE eE=>?_
 refine ⟨fo,rfl,⟨_,SqL.of hfo11⟩,fun p1 hp1=>?_⟩
 refine lc_pick (K:=K) (p:=fun Z=>true) (g:=fun x=>cts'.getD x.toNat 0) [some (.ref sh)] hfo11 (by lia) (fun x hx H2 R s2 k=>k) (fun x hx H2 R s2 k=>?_) hp1 (fun H12 s12 hp12=>?_)
 ·obtain ⟨e1,e2⟩:=ixs x hx H2 s2
  exact ⟨sh,_,_,_,rfl,rfl,e1,e2,k⟩
 have et:(needF bed wished ts).filter (fun Z=>true)=needF bed wished ts:=List.filter_eq_self.mpr fun Z Z=>rfl
 rw [et] at hp12
 have shp:ShAt H12 p1 (pick ts (needF bed wished ts)):=⟨_,hp12,cts_pick (hs2.same s12) _ fun i hi=>need_in hi⟩
 refine ⟨b,wh,p1,bed,wished,_,rfl,I3.same s12,I4.same s12,shp,rect,al,small,pickf _ (fun Z h=>h),(by unfold pick; rw [List.length_map]; lia),fun d2 H13 s13 hd2=>?_⟩
 rw [need_good rect] at hd2
 have s123:=s12.trans s13
 refine ⟨_,_,hd2.rp,(hdu.same s123).rp,bed_sh _,bed_sh _,?_⟩
 rw [eq_false (bed_can _).1]
 refine ?_
 refine nxS eE fun dE eE=>?_
 have sM13:=sM11.trans s123
 have J3:=I3.same s123
 have J4:=I4.same s123
 have S14:=S12.same s123
 have hfo13:=s123 _ _ hfo11
 have tab113:=tab111.same s123
 have hT213:=s123 _ _ hT211
 have hdu13:=hdu.same s123
 have hs13:=s123 _ _ hs1
 have hcs13:=hs2.same s123
 have ixs':∀ (x:Int),x∈needF bed wished ts→∀ (H2:Hp),Same H13 H2→SqL K H2 sh (cts'.map V.ref)∧atI (cts'.map V.ref) x=some (.ref (cts'.getD x.toNat 0)):=fun x hx H2 s2=>ixs x hx H2 (s123.trans s2)
 clear I3 I4 S12 hfo11 tab111 hT211 hdu hp1 hp12 shp hd2 s12 s13 s123 ixs hs1 hs2
 refine ⟨fo,rfl,⟨_,SqL.of hfo13⟩,?_⟩
 refine for_list (K:=K) (a:=fo) (xs:=(needF bed wished ts).map V.int) (fun i σ Hc=>∃ z:Option V,σ=[some (.ref L),some (.int hd),some (.ref b),some (.ref wh),some (.ref sh),some (.ref hn),some (.ref fo),some (.ref du),z,none]∧Same H13 Hc) ⟨none,rfl,Same.refl _⟩ (fun i σ Hc _ ⟨_,_,sc⟩=>SqL.of (sc _ _ hfo13)) ?_ ?_
 ·rintro i v σ Hc hv ⟨z,rfl,sc⟩
  rw [List.getElem?_map] at hv
  obtain ⟨one,e1,rfl⟩:=Option.map_eq_some_iff.mp hv
  have hone:=List.mem_of_getElem? e1
  have hfoc:=sc _ _ hfo13
  refine ⟨fo,rfl,⟨_,SqL.of hfoc⟩,fun p1 hp1=>?_⟩
  refine lc_pick (K:=K) (p:=fun x=>decide (x≠one)) (g:=fun x=>cts'.getD x.toNat 0) [some (.ref sh),some (.int one)] hfoc (by lia) (fun x hx H2 R s2 k=>?_) (fun x hx H2 R s2 k=>?_) hp1 (fun H14 s14 hp14=>?_)
  ·refine ⟨rfl,?_⟩
   rw [ne_int]
   exact k
  ·obtain ⟨e1,e2⟩:=ixs' x hx H2 (sc.trans s2)
   exact ⟨sh,_,_,_,rfl,rfl,e1,e2,k⟩
  have sub:∀ j∈(needF bed wished ts).filter (fun x=>decide (x≠one)),j∈needF bed wished ts:=fun j hj=>(List.mem_filter.mp hj).1
  have sc4:=sc.trans s14
  have shp:ShAt H14 p1 (pick ts ((needF bed wished ts).filter fun x=>decide (x≠one))):=⟨_,hp14,cts_pick (hcs13.same sc4) _ fun j hj=>need_in (sub j hj)⟩
  have fl:=List.length_filter_le (fun x=>decide (x≠one)) (needF bed wished ts)
  refine ⟨b,wh,p1,bed,wished,_,rfl,J3.same sc4,J4.same sc4,shp,rect,al,small,pickf _ sub,(by unfold pick; rw [List.length_map]; lia),fun d2 H15 s15 hd2=>?_⟩
  have sc5:=sc4.trans s15
  refine ⟨_,_,hd2.rp,(hdu13.same sc5).rp,bed_sh _,bed_sh _,?_⟩
  have ne:=need_need rect s wished ts hone
  have e0:(if false=true then !PyData.eqv (.list ((hadF bed wished (pick ts ((needF bed wished ts).filter fun x=>decide (x≠one)))).map rowD)) (.list ((hadF bed wished ts).map rowD)) else PyData.eqv (.list ((hadF bed wished (pick ts ((needF bed wished ts).filter fun x=>decide (x≠one)))).map rowD)) (.list ((hadF bed wished ts).map rowD)))=false:=by
   rw [if_neg Bool.false_ne_true,bed_eqv]
   exact decide_eq_false ne
  rw [e0]
  exact ⟨_,rfl,sc5⟩
 ·rintro σ Hc ⟨z,rfl,sc⟩
  have sMc:=sM13.trans sc
  have K3:=J3.same sc
  have K4:=J4.same sc
  have S15:=S14.same sc
  have hfoc:=sc _ _ hfo13
  have tab1c:=tab113.same sc
  have hT2c:=sc _ _ hT213
  clear J3 J4 S14 hfo13 tab113 hT213 hdu13 hs13 hcs13 ixs' sc
  refine nxS eE fun dE eE=>?_
  refine ⟨b,wh,sh,bed,wished,ts,rfl,K3,K4,S15,rect,al,small,(fun t ht=>⟨(tok t ht).1,(tok t ht).2.2.2⟩),t6,b20,(fun c hc=>(hts_hgt rect bh hc).2),(fun c hc=>(hts_hgt (al.rect rect) whh hc).1),tab1c,.inl hT2c,nT,fun MV Hm km tab1m mvs=>?_⟩
  obtain ⟨pt1,ept1⟩:=tab1c.tbl
  have sMm:Same M Hm:=fun x o e=>km x o (fun z=>by rw [z,nM1] at e; cases e) (fun z=>by rw [z,nM2] at e; cases e) (sMc x o e)
  have hfom:Hm fo=some (.lst ((needF bed wished ts).map V.int)):=km _ _ (fun z=>by rw [z,ept1] at hfoc; cases hfoc) (fun z=>by rw [z,hT2c] at hfoc; cases hfoc) hfoc
  clear K3 K4 S15 hfoc tab1c hT2c ept1 km
  refine nxS eE fun dE eE=>?_
  refine bC fun g_=>?_
  obtain ⟨mts,ms,hmv,mva,_,gm⟩:=mvs
  refine g_ ?_
  clear g_
  have mtl:=mva.len
  refine ⟨MV,rfl,⟨_,SqL.of hmv⟩,fun p1 hp1=>?_⟩
  refine ⟨Wd mts.length (fun i σ acc G=>∃ (z:Option V),σ=[z,some (.ref fo)]∧acc=[]∧Same Hm G∧G p1=some (.lst [])),wd_0 ⟨none,rfl,rfl,same_upd hp1 _,upd_same⟩,?_⟩
  rintro i im σ acc G h_
  refine bC fun g_=>?_
  obtain ⟨e10_,hi0,z,e11_,e12_,sg,hpg⟩:=h_
  refine g_ ?_
  clear g_
  obtain rfl:=e10_
  obtain rfl:=e11_
  obtain rfl:=e12_
  refine lc_ask (K:=K) (xs:=mts.map V.ref) (SqL.of (sg _ _ hmv)) (by rw [List.length_map]; exact hi0) (fun x hx hi=>?_) (fun hend=>?_)
  ·obtain ⟨mt,hmt,rfl⟩:=ref_get hx
   rw [List.length_map] at hi
   have em:=List.getElem?_eq_getElem (l:=ms) (i:=i) (by lia)
   have gt:=sg _ _ (mva.at_ hmt em)
   have g0:=gm _ (List.getElem_mem (l:=ms) (n:=i) (by lia))
   generalize ms[i]=m at gt g0
   have done:∃ m',m' < mts.length - i∧Wd mts.length (fun i σ acc G=>∃ (z:Option V),σ=[z,some (.ref fo)]∧acc=[]∧Same Hm G∧G p1=some (.lst [])) (i + 1) m' [some (.ref mt),some (.ref fo)] [] G:=wd_next hi ⟨_,rfl,rfl,sg,hpg⟩
   cases g0 with
   | hold n hnn =>
    refine ⟨mt,_,0,.str "hold",rfl,rfl,SqT.of gt,rfl,rfl,?_⟩
    refine ⟨mt,_,1,.int n,rfl,rfl,SqT.of gt,rfl,.int n,(needF bed wished ts).map .int,.int n,.lst (SqL.of (sg _ _ hfom)) (ints_rp _),shaped_of rc (by decide),rfl,?_⟩
    have ea:(if true=true then !((needF bed wished ts).map PyData.int).any (fun z=>PyData.eqv z (.int n)) else ((needF bed wished ts).map PyData.int).any fun z=>PyData.eqv z (.int n))=false:=by
     rw [if_pos rfl,Bool.not_eq_false',List.any_eq_true]
     exact ⟨.int n,List.mem_map.mpr ⟨n,hnn,rfl⟩,eqv_self _ rfl⟩
    rw [ea]
    exact done
   | go k a n hk =>
    refine ⟨mt,_,0,.str k,rfl,rfl,SqT.of gt,rfl,rfl,?_⟩
    refine ite2 (c:=decide (V.str k=V.str "hold")=true) (fun h=>absurd (V.str.inj (of_decide_eq_true h)) hk) (fun Z=>done)
  ·refine ⟨Nat.zero_le _,fun p2 hp2=>?_⟩
   have up:=same_upd hp2 (.lst [])
   refine ⟨_,_,.lst (SqL.of (up _ _ hpg)) .nil,.lst (SqL.of upd_same) .nil,nil_sh,nil_sh,?_⟩
   have smp:=sg.trans up
   have sMp:=sMm.trans smp
   have hfop:=smp _ _ hfom
   have tab1p:=tab1m.same smp
   generalize upd G p2 (.lst [])=Hp at hfop tab1p sMp
   clear up smp hpg sg mva hmv gm hfom tab1m sMm hp1 hp2
   refine nxS eE fun dE eE=>?_
   refine ⟨.inl ⟨rfl,_,SqL.of hfop⟩,fo,_,.int 7,rfl,rfl,hfop,(by rw [List.length_map]; exact line3 (show (needF bed wished ts).length≤1000 by lia) (by decide)),?_⟩
   have sMq:=same_in (o:=.lst ((needF bed wished ts).map V.int++[V.int 7])) sMp nM
   have tab1q:=tab_upd (ys:=(needF bed wished ts).map V.int++[V.int 7]) tab1p hfop
   have hfoq:upd Hp fo (.lst ((needF bed wished ts).map V.int++[V.int 7])) fo=some (.lst ((needF bed wished ts++[7]).map V.int)):=by rw [upd_same,List.map_append]; rfl
   generalize upd Hp fo (.lst ((needF bed wished ts).map V.int++[V.int 7]))=Hq at sMq tab1q hfoq
   obtain ⟨ptq,eptq⟩:=tab1q.tbl
   refine nxS1 eE ?_
   refine ⟨b,wh,sh,bed,wished,ts,rfl,M3.same sMq,M4.same sMq,MS.same sMq,rect,al,small,feet100,(by lia),tab1q,fun f2 Hz Z kz Z hf2=>?_⟩
   have hfoz:=kz.lst eptq hfoq
   refine ⟨1,rfl,(-1:Int),rfl,fo,_,rfl,SqL.of hfoz,fun p3 hp3=>?_⟩
   rw [cut_last]
   have uz:=same_upd hp3 (.lst ((needF bed wished ts).map V.int))
   refine ⟨_,_,.lst (SqL.of (uz _ _ hf2)) (ints_rp _),.lst (SqL.of upd_same) (ints_rp _),shaped_of rc (by decide),shaped_of rc (by decide),?_⟩
   rw [eq_true rc.1]
   exact q _
end
theorem fnT_mk {K:PySem.W.Frag} {x:Str} {st:Stmt} {f:Addr} {oc:Value} {od an:Option Addr} {osl:Array (Option Value)} {kV doc pm cdv ct:Value} (a:PySem.W.nsIn K mainGlobals x=some (some (.ref f)))
  (l:K.lookup f=some ⟨oc,od,.func (PySem.W.fnOf x x (defArgs st) (defBody st) (defScope st) .none kV doc pm an cdv ct),osl⟩) (c:PySem.W.codeIn K cdv x=true) (k:PySem.W.keepIn K (.ref f)=true):∃ f fd,FnT K x st f fd:=⟨_,_,a,fun_mk l c k⟩
theorem C_Cells_mk {K:PySem.W.Frag} {C f0 f1 f2 f3 f4:Addr} {od0 an0 od1 an1 od2 an2 od3 an3 od4 an4:Option Addr} {sl0 sl1 sl2 sl3 sl4:Array (Option Value)} {oc0 kV0 dc0 pm0 cd0 ct0 oc1 kV1 dc1 pm1 cd1 ct1 oc2 kV2 dc2 pm2 cd2 ct2 oc3 kV3 dc3 pm3 cd3 ct3 oc4 kV4 dc4 pm4 cd4 ct4:Value}
  (aC:PySem.W.nsIn K mainGlobals "Cells"=some (some (.ref C)))
  (a0:PySem.W.findIn K (.ref C) "__init__"=some (some (.ref f0))) (i0:PySem.W.isFn K (.ref f0)=true) (l0:K.lookup f0=some ⟨oc0,od0,.func (PySem.W.fnOf "__init__" "Cells.__init__" (defArgs (inClass (top 3) 0)) (defBody (inClass (top 3) 0)) (defScope (inClass (top 3) 0)) .none kV0 dc0 pm0 an0 cd0 ct0),sl0⟩) (c0:PySem.W.codeIn K cd0 "Cells.__init__"=true) (k0:PySem.W.keepIn K (.ref f0)=true)
  (a1:PySem.W.findIn K (.ref C) "has_cell"=some (some (.ref f1))) (i1:PySem.W.isFn K (.ref f1)=true) (l1:K.lookup f1=some ⟨oc1,od1,.func (PySem.W.fnOf "has_cell" "Cells.has_cell" (defArgs (inClass (top 3) 1)) (defBody (inClass (top 3) 1)) (defScope (inClass (top 3) 1)) .none kV1 dc1 pm1 an1 cd1 ct1),sl1⟩) (c1:PySem.W.codeIn K cd1 "Cells.has_cell"=true) (k1:PySem.W.keepIn K (.ref f1)=true)
  (a2:PySem.W.findIn K (.ref C) "under"=some (some (.ref f2))) (i2:PySem.W.isFn K (.ref f2)=true) (l2:K.lookup f2=some ⟨oc2,od2,.func (PySem.W.fnOf "under" "Cells.under" (defArgs (inClass (top 3) 2)) (defBody (inClass (top 3) 2)) (defScope (inClass (top 3) 2)) .none kV2 dc2 pm2 an2 cd2 ct2),sl2⟩) (c2:PySem.W.codeIn K cd2 "Cells.under"=true) (k2:PySem.W.keepIn K (.ref f2)=true)
  (a3:PySem.W.findIn K (.ref C) "rises_above"=some (some (.ref f3))) (i3:PySem.W.isFn K (.ref f3)=true) (l3:K.lookup f3=some ⟨oc3,od3,.func (PySem.W.fnOf "rises_above" "Cells.rises_above" (defArgs (inClass (top 3) 3)) (defBody (inClass (top 3) 3)) (defScope (inClass (top 3) 3)) .none kV3 dc3 pm3 an3 cd3 ct3),sl3⟩) (c3:PySem.W.codeIn K cd3 "Cells.rises_above"=true) (k3:PySem.W.keepIn K (.ref f3)=true)
  (a4:PySem.W.findIn K (.ref C) "cut_down"=some (some (.ref f4))) (i4:PySem.W.isFn K (.ref f4)=true) (l4:K.lookup f4=some ⟨oc4,od4,.func (PySem.W.fnOf "cut_down" "Cells.cut_down" (defArgs (inClass (top 3) 4)) (defBody (inClass (top 3) 4)) (defScope (inClass (top 3) 4)) .none kV4 dc4 pm4 an4 cd4 ct4),sl4⟩) (c4:PySem.W.codeIn K cd4 "Cells.cut_down"=true) (k4:PySem.W.keepIn K (.ref f4)=true)
  (pg:PySem.W.plainGet K C Str.empty=true) (hd:PySem.W.hasDictIn K C=true) (po:PySem.W.plainOver K C=true) (sa:PySem.W.findIn K (.ref C) "__setattr__"=some (some (.builtin "object.__setattr__"))) (mk:PySem.W.makesIn K C=true) (kc:PySem.W.keepIn K (.ref C)=true) (n0:PySem.W.findIn K (.ref C) "rows"=some none) :
  ∃ C f0 f1 f2 f3 f4 d0 d1 d2 d3 d4,C_Cells K C f0 f1 f2 f3 f4 d0 d1 d2 d3 d4 :=
 ⟨C,f0,f1,f2,f3,f4,_,_,_,_,_,aC,⟨pg,hd,po,sa⟩,fun_mk l0 c0 k0,⟨mk,a0,i0,kc⟩,fun_mk l1 c1 k1,⟨a1,i1,k1⟩,fun_mk l2 c2 k2,⟨a2,i2,k2⟩,fun_mk l3 c3 k3,⟨a3,i3,k3⟩,fun_mk l4 c4 k4,⟨a4,i4,k4⟩,n0⟩
theorem C_Share_mk {K:PySem.W.Frag} {C f0 f1 f2 f3 f4:Addr} {od0 an0 od1 an1 od2 an2 od3 an3 od4 an4:Option Addr} {sl0 sl1 sl2 sl3 sl4:Array (Option Value)} {oc0 kV0 dc0 pm0 cd0 ct0 oc1 kV1 dc1 pm1 cd1 ct1 oc2 kV2 dc2 pm2 cd2 ct2 oc3 kV3 dc3 pm3 cd3 ct3 oc4 kV4 dc4 pm4 cd4 ct4:Value}
  (aC:PySem.W.nsIn K mainGlobals "Share"=some (some (.ref C)))
  (a0:PySem.W.findIn K (.ref C) "__init__"=some (some (.ref f0))) (i0:PySem.W.isFn K (.ref f0)=true) (l0:K.lookup f0=some ⟨oc0,od0,.func (PySem.W.fnOf "__init__" "Share.__init__" (defArgs (inClass (top 15) 0)) (defBody (inClass (top 15) 0)) (defScope (inClass (top 15) 0)) .none kV0 dc0 pm0 an0 cd0 ct0),sl0⟩) (c0:PySem.W.codeIn K cd0 "Share.__init__"=true) (k0:PySem.W.keepIn K (.ref f0)=true)
  (a1:PySem.W.findIn K (.ref C) "is_due"=some (some (.ref f1))) (i1:PySem.W.isFn K (.ref f1)=true) (l1:K.lookup f1=some ⟨oc1,od1,.func (PySem.W.fnOf "is_due" "Share.is_due" (defArgs (inClass (top 15) 1)) (defBody (inClass (top 15) 1)) (defScope (inClass (top 15) 1)) .none kV1 dc1 pm1 an1 cd1 ct1),sl1⟩) (c1:PySem.W.codeIn K cd1 "Share.is_due"=true) (k1:PySem.W.keepIn K (.ref f1)=true)
  (a2:PySem.W.findIn K (.ref C) "trimmed"=some (some (.ref f2))) (i2:PySem.W.isFn K (.ref f2)=true) (l2:K.lookup f2=some ⟨oc2,od2,.func (PySem.W.fnOf "trimmed" "Share.trimmed" (defArgs (inClass (top 15) 2)) (defBody (inClass (top 15) 2)) (defScope (inClass (top 15) 2)) .none kV2 dc2 pm2 an2 cd2 ct2),sl2⟩) (c2:PySem.W.codeIn K cd2 "Share.trimmed"=true) (k2:PySem.W.keepIn K (.ref f2)=true)
  (a3:PySem.W.findIn K (.ref C) "lowest_along"=some (some (.ref f3))) (i3:PySem.W.isFn K (.ref f3)=true) (l3:K.lookup f3=some ⟨oc3,od3,.func (PySem.W.fnOf "lowest_along" "Share.lowest_along" (defArgs (inClass (top 15) 3)) (defBody (inClass (top 15) 3)) (defScope (inClass (top 15) 3)) .none kV3 dc3 pm3 an3 cd3 ct3),sl3⟩) (c3:PySem.W.codeIn K cd3 "Share.lowest_along"=true) (k3:PySem.W.keepIn K (.ref f3)=true)
  (a4:PySem.W.findIn K (.ref C) "parts_below"=some (some (.ref f4))) (i4:PySem.W.isFn K (.ref f4)=true) (l4:K.lookup f4=some ⟨oc4,od4,.func (PySem.W.fnOf "parts_below" "Share.parts_below" (defArgs (inClass (top 15) 4)) (defBody (inClass (top 15) 4)) (defScope (inClass (top 15) 4)) .none kV4 dc4 pm4 an4 cd4 ct4),sl4⟩) (c4:PySem.W.codeIn K cd4 "Share.parts_below"=true) (k4:PySem.W.keepIn K (.ref f4)=true)
  (pg:PySem.W.plainGet K C Str.empty=true) (hd:PySem.W.hasDictIn K C=true) (po:PySem.W.plainOver K C=true) (sa:PySem.W.findIn K (.ref C) "__setattr__"=some (some (.builtin "object.__setattr__"))) (mk:PySem.W.makesIn K C=true) (kc:PySem.W.keepIn K (.ref C)=true) (n0:PySem.W.findIn K (.ref C) "cutter"=some none) (n1:PySem.W.findIn K (.ref C) "lowests"=some none) (n2:PySem.W.findIn K (.ref C) "due"=some none) :
  ∃ C f0 f1 f2 f3 f4 d0 d1 d2 d3 d4,C_Share K C f0 f1 f2 f3 f4 d0 d1 d2 d3 d4 :=
 ⟨C,f0,f1,f2,f3,f4,_,_,_,_,_,aC,⟨pg,hd,po,sa⟩,fun_mk l0 c0 k0,⟨mk,a0,i0,kc⟩,fun_mk l1 c1 k1,⟨a1,i1,k1⟩,fun_mk l2 c2 k2,⟨a2,i2,k2⟩,fun_mk l3 c3 k3,⟨a3,i3,k3⟩,fun_mk l4 c4 k4,⟨a4,i4,k4⟩,n0,n1,n2⟩
theorem C_Plan_mk {K:PySem.W.Frag} {C f0 f1 f2 f3 f4 f5:Addr} {od0 an0 od1 an1 od2 an2 od3 an3 od4 an4 od5 an5:Option Addr} {sl0 sl1 sl2 sl3 sl4 sl5:Array (Option Value)} {oc0 kV0 dc0 pm0 cd0 ct0 oc1 kV1 dc1 pm1 cd1 ct1 oc2 kV2 dc2 pm2 cd2 ct2 oc3 kV3 dc3 pm3 cd3 ct3 oc4 kV4 dc4 pm4 cd4 ct4 oc5 kV5 dc5 pm5 cd5 ct5:Value}
  (aC:PySem.W.nsIn K mainGlobals "Plan"=some (some (.ref C)))
  (a0:PySem.W.findIn K (.ref C) "__init__"=some (some (.ref f0))) (i0:PySem.W.isFn K (.ref f0)=true) (l0:K.lookup f0=some ⟨oc0,od0,.func (PySem.W.fnOf "__init__" "Plan.__init__" (defArgs (inClass (top 17) 0)) (defBody (inClass (top 17) 0)) (defScope (inClass (top 17) 0)) .none kV0 dc0 pm0 an0 cd0 ct0),sl0⟩) (c0:PySem.W.codeIn K cd0 "Plan.__init__"=true) (k0:PySem.W.keepIn K (.ref f0)=true)
  (a1:PySem.W.findIn K (.ref C) "go_to"=some (some (.ref f1))) (i1:PySem.W.isFn K (.ref f1)=true) (l1:K.lookup f1=some ⟨oc1,od1,.func (PySem.W.fnOf "go_to" "Plan.go_to" (defArgs (inClass (top 17) 1)) (defBody (inClass (top 17) 1)) (defScope (inClass (top 17) 1)) .none kV1 dc1 pm1 an1 cd1 ct1),sl1⟩) (c1:PySem.W.codeIn K cd1 "Plan.go_to"=true) (k1:PySem.W.keepIn K (.ref f1)=true)
  (a2:PySem.W.findIn K (.ref C) "take_cutter"=some (some (.ref f2))) (i2:PySem.W.isFn K (.ref f2)=true) (l2:K.lookup f2=some ⟨oc2,od2,.func (PySem.W.fnOf "take_cutter" "Plan.take_cutter" (defArgs (inClass (top 17) 2)) (defBody (inClass (top 17) 2)) (defScope (inClass (top 17) 2)) .none kV2 dc2 pm2 an2 cd2 ct2),sl2⟩) (c2:PySem.W.codeIn K cd2 "Plan.take_cutter"=true) (k2:PySem.W.keepIn K (.ref f2)=true)
  (a3:PySem.W.findIn K (.ref C) "go_above"=some (some (.ref f3))) (i3:PySem.W.isFn K (.ref f3)=true) (l3:K.lookup f3=some ⟨oc3,od3,.func (PySem.W.fnOf "go_above" "Plan.go_above" (defArgs (inClass (top 17) 3)) (defBody (inClass (top 17) 3)) (defScope (inClass (top 17) 3)) .none kV3 dc3 pm3 an3 cd3 ct3),sl3⟩) (c3:PySem.W.codeIn K cd3 "Plan.go_above"=true) (k3:PySem.W.keepIn K (.ref f3)=true)
  (a4:PySem.W.findIn K (.ref C) "sweep"=some (some (.ref f4))) (i4:PySem.W.isFn K (.ref f4)=true) (l4:K.lookup f4=some ⟨oc4,od4,.func (PySem.W.fnOf "sweep" "Plan.sweep" (defArgs (inClass (top 17) 4)) (defBody (inClass (top 17) 4)) (defScope (inClass (top 17) 4)) .none kV4 dc4 pm4 an4 cd4 ct4),sl4⟩) (c4:PySem.W.codeIn K cd4 "Plan.sweep"=true) (k4:PySem.W.keepIn K (.ref f4)=true)
  (a5:PySem.W.findIn K (.ref C) "do_row"=some (some (.ref f5))) (i5:PySem.W.isFn K (.ref f5)=true) (l5:K.lookup f5=some ⟨oc5,od5,.func (PySem.W.fnOf "do_row" "Plan.do_row" (defArgs (inClass (top 17) 5)) (defBody (inClass (top 17) 5)) (defScope (inClass (top 17) 5)) .none kV5 dc5 pm5 an5 cd5 ct5),sl5⟩) (c5:PySem.W.codeIn K cd5 "Plan.do_row"=true) (k5:PySem.W.keepIn K (.ref f5)=true)
  (pg:PySem.W.plainGet K C Str.empty=true) (hd:PySem.W.hasDictIn K C=true) (po:PySem.W.plainOver K C=true) (sa:PySem.W.findIn K (.ref C) "__setattr__"=some (some (.builtin "object.__setattr__"))) (mk:PySem.W.makesIn K C=true) (kc:PySem.W.keepIn K (.ref C)=true) (n0:PySem.W.findIn K (.ref C) "stuff"=some none) (n1:PySem.W.findIn K (.ref C) "stands"=some none) (n2:PySem.W.findIn K (.ref C) "moves"=some none) :
  ∃ C f0 f1 f2 f3 f4 f5 d0 d1 d2 d3 d4 d5,C_Plan K C f0 f1 f2 f3 f4 f5 d0 d1 d2 d3 d4 d5 :=
 ⟨C,f0,f1,f2,f3,f4,f5,_,_,_,_,_,_,aC,⟨pg,hd,po,sa⟩,fun_mk l0 c0 k0,⟨mk,a0,i0,kc⟩,fun_mk l1 c1 k1,⟨a1,i1,k1⟩,fun_mk l2 c2 k2,⟨a2,i2,k2⟩,fun_mk l3 c3 k3,⟨a3,i3,k3⟩,fun_mk l4 c4 k4,⟨a4,i4,k4⟩,fun_mk l5 c5 k5,⟨a5,i5,k5⟩,n0,n1,n2⟩
theorem fnTL_mk {K:PySem.W.Frag} {x:Str} {st:Stmt} {f c:Addr} (P:Addr) {oc:Value} {od an:Option Addr} {osl:Array (Option Value)} {kV doc pm ct:Value} (a:PySem.W.nsIn K mainGlobals x=some (some (.ref f)))
  (l:K.lookup f=some ⟨oc,od,.func (PySem.W.fnOf x x (defArgs st) (defBody st) (defScope st) .none kV doc pm an (.ref c) ct),osl⟩) (hc:PySem.W.codeIn K (.ref c) x=true) (k:PySem.W.keepIn K (.ref f)=true) (hd:PySem.W.codeHdIn K c P=true):∃ f fd c,FnTL K x st f fd c P:=⟨_,_,_,a,⟨⟨_,_,_,_,_,_,_,_,rfl,l,hc⟩,k⟩,hd⟩
theorem FunL.toFun {K:PySem.W.Frag} {x:Str} {st:Stmt} {f c:Addr} {fd:FuncData} (F:FunL K x st f fd c):Fun K x x st f fd:=by
 obtain ⟨oc,od,kV,doc,pm,an,ct,osl,rfl,lk,hcd⟩:=F.ex
 exact fun_mk lk hcd F.kp
theorem byLen0 {P:List Value→Prop} (h:P []):∀ us:List Value,us.length=0→P us:=fun us hl=>by
 rw [List.length_eq_zero_iff.mp hl]
 exact h
theorem byLenS {n:Nat} {P:List Value→Prop} (h:∀ (a:Value) (us:List Value),us.length=n→P (a :: us)):∀ us:List Value,us.length=n + 1→P us:=fun us hl=>by
 cases us with
 | nil=>cases hl
 | cons a r=>exact h a r (Nat.succ.inj hl)
theorem byLen1 {P:List Value→Prop} (h:∀ a0:Value,P [a0]):∀ us:List Value,us.length=1→P us:=byLenS fun a=>byLen0 (P:=fun us=>P (a :: us)) (h a)
theorem byLen2 {P:List Value→Prop} (h:∀ a0 a1:Value,P [a0,a1]):∀ us:List Value,us.length=2→P us:=byLenS fun a=>byLen1 (P:=fun us=>P (a :: us)) (h a)
theorem byLen3 {P:List Value→Prop} (h:∀ a0 a1 a2:Value,P [a0,a1,a2]):∀ us:List Value,us.length=3→P us:=byLenS fun a=>byLen2 (P:=fun us=>P (a :: us)) (h a)
theorem byLen4 {P:List Value→Prop} (h:∀ a0 a1 a2 a3:Value,P [a0,a1,a2,a3]):∀ us:List Value,us.length=4→P us:=byLenS fun a=>byLen3 (P:=fun us=>P (a :: us)) (h a)
theorem byLen5 {P:List Value→Prop} (h:∀ a0 a1 a2 a3 a4:Value,P [a0,a1,a2,a3,a4]):∀ us:List Value,us.length=5→P us:=byLenS fun a=>byLen4 (P:=fun us=>P (a :: us)) (h a)
theorem int_mk {K:PySem.W.Frag} {x:Str} {i:Int} {t:Tok} (a:PySem.W.nsIn K mainGlobals x=some (some (.int i t))):∃ t,PySem.W.nsIn K mainGlobals x=some (some (.int i t)):=⟨t,a⟩
theorem FnT.fnB {P:Program} {w:World} {K:PySem.W.Frag} {mg:Str→Option Value} {base h:Heap} {x:Str} {st:Stmt} {f:Addr} {fd:FuncData} {k:Nat} {ps:List Str} {sp:Sp} (T:FnT K x st f fd) (X:K.In h) (G:h.Ns mainGlobals mg) (ok:FnOk P w K mg base (CX1 P w) k f fd ps sp) (bi:Binds K fd ps []):Fn P w K mg base x k ps sp :=
 ⟨f,fd,ok,PySem.W.mg_of X G T.ns,T.fn.kp,bi⟩
theorem main45 {h:Heap} {f_law:Addr} {d_law:FuncData} (p:Prem K mg h CC CS CV) (T_law:FnT K "law" (top 28) f_law d_law) (bmb:BmB mg base):FnOk P w K mg base (CX1 P w) 6 f_law d_law ["script"] (spLaw 110 219 K):=by
 refine bC fun g_=>?_
 obtain ⟨X,G,N,i1,T_cells_of,T_within,T_cells_under,T_greatest,T_cut_down,T_had,T_lesser_row,T_least_of,T_levels,T__law_cell_at,T__law_stir,T__law_bed,T__law_wished,T__law_foot,T__law_shelf,T__law_lowest,T__law_had,T_needed,T_moves_for,T_Cells,T_Share,T_Plan⟩:=p
 obtain ⟨t1,i1⟩:=i1
 obtain ⟨f_cells_of,d_cells_of,T_cells_of⟩:=T_cells_of
 obtain ⟨f_within,d_within,T_within⟩:=T_within
 obtain ⟨f_cells_under,d_cells_under,T_cells_under⟩:=T_cells_under
 obtain ⟨f_greatest,d_greatest,T_greatest⟩:=T_greatest
 obtain ⟨f_cut_down,d_cut_down,T_cut_down⟩:=T_cut_down
 obtain ⟨f_had,d_had,T_had⟩:=T_had
 obtain ⟨f_lesser_row,d_lesser_row,T_lesser_row⟩:=T_lesser_row
 obtain ⟨f_least_of,d_least_of,T_least_of⟩:=T_least_of
 obtain ⟨f_levels,d_levels,T_levels⟩:=T_levels
 obtain ⟨f__law_cell_at,d__law_cell_at,T__law_cell_at⟩:=T__law_cell_at
 obtain ⟨f__law_stir,d__law_stir,T__law_stir⟩:=T__law_stir
 obtain ⟨f__law_bed,d__law_bed,T__law_bed⟩:=T__law_bed
 obtain ⟨f__law_wished,d__law_wished,T__law_wished⟩:=T__law_wished
 obtain ⟨f__law_foot,d__law_foot,T__law_foot⟩:=T__law_foot
 obtain ⟨f__law_shelf,d__law_shelf,T__law_shelf⟩:=T__law_shelf
 obtain ⟨f__law_lowest,d__law_lowest,T__law_lowest⟩:=T__law_lowest
 obtain ⟨f__law_had,d__law_had,T__law_had⟩:=T__law_had
 obtain ⟨f_needed,d_needed,c_needed,T_needed⟩:=T_needed
 obtain ⟨f_moves_for,d_moves_for,c_moves_for,T_moves_for⟩:=T_moves_for
 obtain ⟨c0,c1,c2,c3,c4,g0,g1,g2,g3,g4,CL⟩:=T_Cells
 obtain ⟨u0,u1,u2,u3,u4,w0,w1,w2,w3,w4,SR⟩:=T_Share
 obtain ⟨v0,v1,v2,v3,v4,v5,e0,e1,e2,e3,e4,e5,VR⟩:=T_Plan
 refine g_ ?_
 clear g_
 have L:LawT mg:=⟨PySem.W.mg_none_of X G N.len,PySem.W.mg_none_of X G N.max,PySem.W.mg_none_of X G N.min,PySem.W.mg_none_of X G N.range,PySem.W.mg_none_of X G N.isin,PySem.W.mg_none_of X G N.abs,PySem.W.mg_none_of X G N.tuple,PySem.W.mg_none_of X G N.list,PySem.W.mg_none_of X G N.bool,PySem.W.mg_none_of X G N.int⟩
 have NE:=PySem.W.mg_none_of X G N.enum
 have NZ:=PySem.W.mg_none_of X G N.zip
 have NO:=PySem.W.mg_none_of X G N.sorted
 have NT:=PySem.W.mg_none_of X G N.set
 have VV:VT K mg CV CC:=⟨VR.cl,CL.cl,VR.n_stuff,VR.n_stands,VR.n_moves,CL.n_rows,PySem.W.mg_none_of X G N.any,⟨t1,PySem.W.mg_of X G i1⟩⟩
 have SH:SHT K CS:=⟨SR.cl,SR.n_cutter,SR.n_lowests,SR.n_due⟩
 have F1:=T_within.fnB X G (ok_within L T_within.fn) (T_within.fn.binds fun Z Z Z Z Z Z=>byLen2 fun Z Z=>rfl)
 have F2:=T_cells_under.fnB X G (ok_under F1 T_cells_under.fn) (T_cells_under.fn.binds fun Z Z Z Z Z Z=>byLen4 fun Z Z Z Z=>rfl)
 have F3:=T_greatest.fnB X G (ok_great L T_greatest.fn) (T_greatest.fn.binds fun Z Z Z Z Z Z=>byLen2 fun Z Z=>rfl)
 have F4:=T_cells_of.fnB X G (ok_cells L NE T_cells_of.fn) (T_cells_of.fn.binds fun Z Z Z Z Z Z=>byLen1 fun Z=>rfl)
 have F5:=T_cut_down.fnB X G (ok_cut L T_cut_down.fn) (T_cut_down.fn.binds fun Z Z Z Z Z Z=>byLen3 fun Z Z Z=>rfl)
 have F6:=T_had.fnB X G (ok_had L F4 F2 F3 F5 T_had.fn) (T_had.fn.binds fun Z Z Z Z Z Z=>byLen3 fun Z Z Z=>rfl)
 have F7:=T_lesser_row.fnB X G (ok_less L NZ T_lesser_row.fn) (T_lesser_row.fn.binds fun Z Z Z Z Z Z=>byLen2 fun Z Z=>rfl)
 have F8:=T_least_of.fnB X G (ok_least L NZ F7 T_least_of.fn) (T_least_of.fn.binds fun Z Z Z Z Z Z=>byLen1 fun Z=>rfl)
 have FV:=T_levels.fnB X G (ok_lev L T_levels.fn) (T_levels.fn.binds fun Z Z Z Z Z Z=>byLen3 fun Z Z Z=>rfl)
 have FN:Fn P w K mg base "needed" 4 ["bed","wished","shelf"] (spNeed 110):=⟨f_needed,d_needed,ok_need L NO ⟨T_needed.hd,bmb⟩ F6 F8 T_needed.fn,PySem.W.mg_of X G T_needed.ns,T_needed.fn.kp,(T_needed.fn.toFun.binds fun Z Z Z Z Z Z=>byLen3 fun Z Z Z=>rfl)⟩
 have MHas:Mt P w K mg base CC "has_cell" 1 ["self","x","y"] (spHas CC):=⟨c1,g1,ok_has L VV CL.fn_has_cell,CL.mt_has_cell,CL.cl,(CL.fn_has_cell.binds fun Z Z Z Z Z Z=>byLen3 fun Z Z Z=>rfl)⟩
 have MUnd:Mt P w K mg base CC "under" 2 ["self","foot","way"] (spUnd CC):=⟨c2,g2,ok_und L VV MHas CL.fn_under,CL.mt_under,CL.cl,(CL.fn_under.binds fun Z Z Z Z Z Z=>byLen3 fun Z Z Z=>rfl)⟩
 have MDown:Mt P w K mg base CC "cut_down" 1 ["self","under","height"] (spDown CC):=⟨c4,g4,ok_down VV CL.fn_cut_down,CL.mt_cut_down,CL.cl,(CL.fn_cut_down.binds fun Z Z Z Z Z Z=>byLen3 fun Z Z Z=>rfl)⟩
 have MCells:Mc P w K mg base "Cells" CC 1 ["self","bed"] (spCellsI CC):=⟨c0,g0,ok_cellsI L VV CL.fn___init__,CL.mks,PySem.W.mg_of X G CL.ns,(CL.fn___init__.binds fun Z Z Z Z Z Z=>byLen2 fun Z Z=>rfl)⟩
 have MDue:Mt P w K mg base CS "is_due" 1 ["self","place","rows"] (spIsDue CS):=⟨u1,w1,ok_isDue VV SH SR.fn_is_due,SR.mt_is_due,SR.cl,(SR.fn_is_due.binds fun Z Z Z Z Z Z=>byLen3 fun Z Z Z=>rfl)⟩
 have MTrim:Mt P w K mg base CS "trimmed" 2 ["self","run","y","rows"] (spTrim CS):=⟨u2,w2,ok_trim L MDue SR.fn_trimmed,SR.mt_trimmed,SR.cl,(SR.fn_trimmed.binds fun Z Z Z Z Z Z=>byLen4 fun Z Z Z Z=>rfl)⟩
 have MAlong:Mt P w K mg base CS "lowest_along" 1 ["self","run","y"] (spAlong CS):=⟨u3,w3,ok_along L SH SR.fn_lowest_along,SR.mt_lowest_along,SR.cl,(SR.fn_lowest_along.binds fun Z Z Z Z Z Z=>byLen3 fun Z Z Z=>rfl)⟩
 have MParts:Mt P w K mg base CS "parts_below" 1 ["self","run","y","lowest"] (spParts CS):=⟨u4,w4,ok_parts L NZ SH SR.fn_parts_below,SR.mt_parts_below,SR.cl,(SR.fn_parts_below.binds fun Z Z Z Z Z Z=>byLen4 fun Z Z Z Z=>rfl)⟩
 have MSh:Mc P w K mg base "Share" CS 3 ["self","cutter","wished","goal","rows"] (spShI CS):=⟨u0,w0,ok_shI L SH F4 F2 F3 SR.fn___init__,SR.mks,PySem.W.mg_of X G SR.ns,(SR.fn___init__.binds fun Z Z Z Z Z Z=>byLen5 fun Z Z Z Z Z=>rfl)⟩
 have MGo:∀ nd,Mt P w K mg base CV "go_to" 1 ["self","kind","axis","to"] (spGo CV nd):=fun nd=>⟨v1,e1,ok_go VV VR.fn_go_to,VR.mt_go_to,VR.cl,(VR.fn_go_to.binds fun Z Z Z Z Z Z=>byLen4 fun Z Z Z Z=>rfl)⟩
 have MTk:∀ nd,Mt P w K mg base CV "take_cutter" 2 ["self","number"] (spTake CV nd):=fun nd=>⟨v2,e2,ok_take VV (MGo nd) VR.fn_take_cutter,VR.mt_take_cutter,VR.cl,(VR.fn_take_cutter.binds fun Z Z Z Z Z Z=>byLen2 fun Z Z=>rfl)⟩
 have MAb:∀ nd,Mt P w K mg base CV "go_above" 2 ["self","x","y","z"] (spAbove CV nd):=fun nd=>⟨v3,e3,ok_above VV (MGo nd) VR.fn_go_above,VR.mt_go_above,VR.cl,(VR.fn_go_above.binds fun Z Z Z Z Z Z=>byLen4 fun Z Z Z Z=>rfl)⟩
 have MSw:∀ nd,Mt P w K mg base CV "sweep" 3 ["self","cutter","run","y","lowest"] (spSweep CV CC nd):=fun nd=>⟨v4,e4,ok_sweep VV F3 FV MUnd MDown (MGo nd) (MAb nd) VR.fn_sweep,VR.mt_sweep,VR.cl,(VR.fn_sweep.binds fun Z Z Z Z Z Z=>byLen5 fun Z Z Z Z Z=>rfl)⟩
 have MRw:∀ nd,Mt P w K mg base CV "do_row" 4 ["self","share","y"] (spRow CV CC CS nd):=fun nd=>⟨v5,e5,ok_row L VV SH MTrim MAlong MParts (MSw nd) VR.fn_do_row,VR.mt_do_row,VR.cl,(VR.fn_do_row.binds fun Z Z Z Z Z Z=>byLen3 fun Z Z Z=>rfl)⟩
 have MPl:∀ nd,Mc P w K mg base "Plan" CV 3 ["self","bed"] (spPlI CV CC nd):=fun nd=>⟨v0,e0,ok_plI VV MCells VR.fn___init__,VR.mks,PySem.W.mg_of X G VR.ns,(VR.fn___init__.binds fun Z Z Z Z Z Z=>byLen2 fun Z Z=>rfl)⟩
 have FM:Fn P w K mg base "moves_for" 5 ["bed","wished","shelf"] (spMoves 110 219):=⟨f_moves_for,d_moves_for,ok_moves L NO ⟨T_moves_for.hd,bmb⟩ VV F6 FN MPl MSh MTk MRw T_moves_for.fn,PySem.W.mg_of X G T_moves_for.ns,T_moves_for.fn.kp,(T_moves_for.fn.toFun.binds fun Z Z Z Z Z Z=>byLen3 fun Z Z Z=>rfl)⟩
 have FA:=T__law_cell_at.fnB X G (ok_at L T__law_cell_at.fn) (T__law_cell_at.fn.binds fun Z Z Z Z Z Z=>byLen2 fun Z Z=>rfl)
 have FS:=T__law_stir.fnB X G (ok_stir T__law_stir.fn) (T__law_stir.fn.binds fun Z Z Z Z Z Z=>byLen2 fun Z Z=>rfl)
 have FB:=T__law_bed.fnB X G (ok_bed L FA FS T__law_bed.fn) (T__law_bed.fn.binds fun Z Z Z Z Z Z=>byLen2 fun Z Z=>rfl)
 have FW:=T__law_wished.fnB X G (ok_wish L FA FS T__law_wished.fn) (T__law_wished.fn.binds fun Z Z Z Z Z Z=>byLen3 fun Z Z Z=>rfl)
 have FF:=T__law_foot.fnB X G (ok_foot L FS T__law_foot.fn) (T__law_foot.fn.binds fun Z Z Z Z Z Z=>byLen2 fun Z Z=>rfl)
 have FE:=T__law_shelf.fnB X G (ok_shelf L FA FS FF T__law_shelf.fn) (T__law_shelf.fn.binds fun Z Z Z Z Z Z=>byLen2 fun Z Z=>rfl)
 have FO:=T__law_lowest.fnB X G (ok_low L T__law_lowest.fn) (T__law_lowest.fn.binds fun Z Z Z Z Z Z=>byLen4 fun Z Z Z Z=>rfl)
 have FH:=T__law_had.fnB X G (ok_hadL L FO T__law_had.fn) (T__law_had.fn.binds fun Z Z Z Z Z Z=>byLen3 fun Z Z Z=>rfl)
 exact ok_law L NO NT FA FB FW FE FH FN FM T_law.fn
theorem all_ok (e:Ev) {h:Heap} {f:Addr} {d:FuncData} (p:Prem e.K e.mg h e.CC e.CS e.CV) (t:FnT e.K "law" (top 28) f d) (b:BmB e.mg e.base):FnOk e.P e.w e.K e.mg e.base (CX1 e.P e.w) 6 f d ["script"] (spLaw 110 219 e.K):=by
 refine Classical.byContradiction fun no=>?_
 have hb:Bad ev:=Classical.epsilon_spec (p:=Bad) ⟨e,⟨h,f,d,p,t,b,no⟩⟩
 obtain ⟨h,f,d,p,t,b,no⟩:=hb
 exact no (main45 p t b)
theorem all {P:Program} {w:World} {K:PySem.W.Frag} {mg:Str→Option Value} {h:Heap} {fa:Addr} (X:K.In h) (G:h.Ns mainGlobals mg) (hfa:mg "law"=some (.ref fa)) (N:NoneT K) (noT1:K.lookup 110=none) (noT2:K.lookup 219=none)
  (i1:∃ t,PySem.W.nsIn K mainGlobals "TOP"=some (some (.int 1000 t)))
  (T_cells_of:∃ f fd,FnT K "cells_of" (top 5) f fd) (T_within:∃ f fd,FnT K "within" (top 6) f fd) (T_cells_under:∃ f fd,FnT K "cells_under" (top 7) f fd) (T_greatest:∃ f fd,FnT K "greatest" (top 8) f fd) (T_cut_down:∃ f fd,FnT K "cut_down" (top 9) f fd) (T_had:∃ f fd,FnT K "had" (top 10) f fd) (T_lesser_row:∃ f fd,FnT K "lesser_row" (top 12) f fd) (T_least_of:∃ f fd,FnT K "least_of" (top 13) f fd) (T_levels:∃ f fd,FnT K "levels" (top 16) f fd) (T__law_cell_at:∃ f fd,FnT K "_law_cell_at" (top 20) f fd) (T__law_stir:∃ f fd,FnT K "_law_stir" (top 21) f fd) (T__law_bed:∃ f fd,FnT K "_law_bed" (top 22) f fd) (T__law_wished:∃ f fd,FnT K "_law_wished" (top 23) f fd) (T__law_foot:∃ f fd,FnT K "_law_foot" (top 24) f fd) (T__law_shelf:∃ f fd,FnT K "_law_shelf" (top 25) f fd) (T__law_lowest:∃ f fd,FnT K "_law_lowest" (top 26) f fd) (T__law_had:∃ f fd,FnT K "_law_had" (top 27) f fd) (T_law:∃ f fd,FnT K "law" (top 28) f fd) (T_needed:∃ f fd c,FnTL K "needed" (top 14) f fd c 110) (T_moves_for:∃ f fd c,FnTL K "moves_for" (top 18) f fd c 219)
  (T_Cells:∃ C f0 f1 f2 f3 f4 d0 d1 d2 d3 d4,C_Cells K C f0 f1 f2 f3 f4 d0 d1 d2 d3 d4) (T_Share:∃ C f0 f1 f2 f3 f4 d0 d1 d2 d3 d4,C_Share K C f0 f1 f2 f3 f4 d0 d1 d2 d3 d4) (T_Plan:∃ C f0 f1 f2 f3 f4 f5 d0 d1 d2 d3 d4 d5,C_Plan K C f0 f1 f2 f3 f4 f5 d0 d1 d2 d3 d4 d5) :
  TabsK K [219,110]∧∃ fd:FuncData,(∀ (s:Shared) (v:Value),BindsTo s fd ⟨[v],[]⟩ [("script",v)])∧∀ base:Heap,K.In base→base.Ns mainGlobals mg→BmB mg base→FnOk P w K mg base (CX1 P w) 6 fa fd ["script"] (spLaw 110 219 K):=by
 refine bC fun g_=>?_
 obtain ⟨f_law,d_law,T_law⟩:=T_law
 obtain ⟨CC,T_Cells⟩:=T_Cells
 obtain ⟨CS,T_Share⟩:=T_Share
 obtain ⟨CV,T_Plan⟩:=T_Plan
 have p:Prem K mg h CC CS CV:=⟨X,G,N,i1,T_cells_of,T_within,T_cells_under,T_greatest,T_cut_down,T_had,T_lesser_row,T_least_of,T_levels,T__law_cell_at,T__law_stir,T__law_bed,T__law_wished,T__law_foot,T__law_shelf,T__law_lowest,T__law_had,T_needed,T_moves_for,T_Cells,T_Share,T_Plan⟩
 obtain ⟨f_needed,d_needed,c_needed,T_needed⟩:=T_needed
 obtain ⟨f_moves_for,d_moves_for,c_moves_for,T_moves_for⟩:=T_moves_for
 refine g_ ?_
 clear g_
 have e:=hfa.symm.trans (PySem.W.mg_of X G T_law.ns)
 cases e
 refine ⟨fun T hT=>?_,d_law,?_,fun base Z Z bmb=>?_⟩
 ·rcases List.mem_cons.mp hT with rfl | hT
  ·exact ⟨noT2,_,T_moves_for.hd⟩
  ·rw [List.mem_singleton.mp hT]
   exact ⟨noT1,_,T_needed.hd⟩
 ·obtain ⟨oc,od,kV,doc,pm,an,cdv,ct,osl,rfl,lk,hcd⟩:=T_law.fn.ex
  exact fun s v=>.of_eq rfl
 exact all_ok ⟨P,w,K,mg,base,CC,CS,CV⟩ p T_law bmb
theorem walk {l:PySem.W.OpenLaw} {q:Program} {loose:List Str} {XP:(Str→Option Value)→Heap→Prop} {YP:World→Heap→Prop} {d:DefRec} {K:Params→PySem.W.Frag} (hn:l.most=some 63) (hdf:d.params.defaults=[])
  (hY:∀ (w:World) (h:Heap),YP w h→(K w.params).In h∧∀ T∈[219,110],h.get? T=some (PySem.W.tabObj #[]))
  (F:∀ (w:World) (mg:Str→Option Value) (fa:Addr) (h:Heap),(K w.params).In h→h.Ns mainGlobals mg→mg d.name=some (.ref fa) →
   TabsK (K w.params) [219,110]∧∃ fd:FuncData,(∀ (s:Shared) (u:Value),BindsTo s fd ⟨[u],[]⟩ [("script",u)])∧∀ base:Heap,(K w.params).In base→base.Ns mainGlobals mg→BmB mg base→FnOk l.prog w (K w.params) mg base (CX1 l.prog w) 6 fa fd ["script"] (spLaw 110 219 (K w.params))) :
  PySem.W.WalkO q loose XP YP l.row.toRowW d [] (fun f vs=>PySem.call f vs) :=
 L2.walk_ofT (n:=63) (k:=6) (x:="script") (CX:=fun w=>CX1 l.prog w) (sp:=fun w=>spLaw 110 219 (K w.params)) (tabs:=[219,110]) hn (by decide) hdf ⟨rfl,by decide,by decide⟩ hY F (fun Z Z a ns hl hT hS=>⟨a,ns,rfl,hS,hT 110 (List.mem_cons_of_mem _ List.mem_cons_self),hT 219 List.mem_cons_self,(by decide),fun Z=>rfl⟩) fun Z Z Z Z Z z=>by
  obtain ⟨_,_,_,_,_,_,_,_,_,_,_,_,_,_,_,ff⟩:=z
  exact ff
end Car
set_option tactic.hygienic true
open PySem PySem.W PyProof.Rows
set_option maxRecDepth 100000 in
set_option maxHeartbeats 0 in
theorem PySem.Challenge.cw_carvebed_k45_needed_cutters_holds : PySem.Challenge.rw_carvebed_k45_needed_cutters.Holds := by
 w_on; o_law; k_head; (case hw=>w_witness2)
 k_fill
 refine Car.walk (l:=PySem.Challenge.rw_carvebed_k45_needed_cutters) rfl rfl (fun w h Y=>⟨PySem.W.km_in_of Y,PySem.W.km_tabs_of Y⟩) ?F
 case F =>
  intro w mg fa h KX G hmg
  have T_Cells:∃ C f0 f1 f2 f3 f4 d0 d1 d2 d3 d4,Car.C_Cells (L2.KOf KX) C f0 f1 f2 f3 f4 d0 d1 d2 d3 d4:=by
   dsimp only [L2.KOf]
   refine' Car.C_Cells_mk ?aC ?a0 ?i0 ?l0 ?c0 ?k0 ?a1 ?i1 ?l1 ?c1 ?k1 ?a2 ?i2 ?l2 ?c2 ?k2 ?a3 ?i3 ?l3 ?c3 ?k3 ?a4 ?i4 ?l4 ?c4 ?k4 ?pg ?hd ?po ?sa ?mk ?kc ?n0
   (case aC=>k_is); (case a0=>k_is); (case i0=>k_is); (case l0=>k_is); (case c0=>k_is); (case k0=>k_is); (case a1=>k_is); (case i1=>k_is); (case l1=>k_is); (case c1=>k_is); (case k1=>k_is); (case a2=>k_is); (case i2=>k_is); (case l2=>k_is); (case c2=>k_is); (case k2=>k_is); (case a3=>k_is); (case i3=>k_is); (case l3=>k_is); (case c3=>k_is); (case k3=>k_is); (case a4=>k_is); (case i4=>k_is); (case l4=>k_is); (case c4=>k_is); (case k4=>k_is); (case pg=>k_is); (case hd=>k_is); (case po=>k_is); (case sa=>k_is); (case mk=>k_is); (case kc=>k_is); (case n0=>k_is)
  have T_cells_of:∃ f fd,Car.FnT (L2.KOf KX) "cells_of" (Car.top 5) f fd:=by
   dsimp only [L2.KOf]
   refine' Car.fnT_mk ?a ?l ?c ?k
   (case a=>k_is); (case l=>k_is); (case c=>k_is); (case k=>k_is)
  have T_within:∃ f fd,Car.FnT (L2.KOf KX) "within" (Car.top 6) f fd:=by
   dsimp only [L2.KOf]
   refine' Car.fnT_mk ?a ?l ?c ?k
   (case a=>k_is); (case l=>k_is); (case c=>k_is); (case k=>k_is)
  have T_cells_under:∃ f fd,Car.FnT (L2.KOf KX) "cells_under" (Car.top 7) f fd:=by
   dsimp only [L2.KOf]
   refine' Car.fnT_mk ?a ?l ?c ?k
   (case a=>k_is); (case l=>k_is); (case c=>k_is); (case k=>k_is)
  have T_greatest:∃ f fd,Car.FnT (L2.KOf KX) "greatest" (Car.top 8) f fd:=by
   dsimp only [L2.KOf]
   refine' Car.fnT_mk ?a ?l ?c ?k
   (case a=>k_is); (case l=>k_is); (case c=>k_is); (case k=>k_is)
  have T_cut_down:∃ f fd,Car.FnT (L2.KOf KX) "cut_down" (Car.top 9) f fd:=by
   dsimp only [L2.KOf]
   refine' Car.fnT_mk ?a ?l ?c ?k
   (case a=>k_is); (case l=>k_is); (case c=>k_is); (case k=>k_is)
  have T_had:∃ f fd,Car.FnT (L2.KOf KX) "had" (Car.top 10) f fd:=by
   dsimp only [L2.KOf]
   refine' Car.fnT_mk ?a ?l ?c ?k
   (case a=>k_is); (case l=>k_is); (case c=>k_is); (case k=>k_is)
  have T_lesser_row:∃ f fd,Car.FnT (L2.KOf KX) "lesser_row" (Car.top 12) f fd:=by
   dsimp only [L2.KOf]
   refine' Car.fnT_mk ?a ?l ?c ?k
   (case a=>k_is); (case l=>k_is); (case c=>k_is); (case k=>k_is)
  have T_least_of:∃ f fd,Car.FnT (L2.KOf KX) "least_of" (Car.top 13) f fd:=by
   dsimp only [L2.KOf]
   refine' Car.fnT_mk ?a ?l ?c ?k
   (case a=>k_is); (case l=>k_is); (case c=>k_is); (case k=>k_is)
  have T_needed:∃ f fd c,Car.FnTL (L2.KOf KX) "needed" (Car.top 14) f fd c 110:=by
   dsimp only [L2.KOf]
   refine' Car.fnTL_mk 110 ?a ?l ?c ?k ?d
   (case a=>k_is); (case l=>k_is); (case c=>k_is); (case k=>k_is); (case d=>kernel_rfl)
  have T_Share:∃ C f0 f1 f2 f3 f4 d0 d1 d2 d3 d4,Car.C_Share (L2.KOf KX) C f0 f1 f2 f3 f4 d0 d1 d2 d3 d4:=by
   dsimp only [L2.KOf]
   refine' Car.C_Share_mk ?aC ?a0 ?i0 ?l0 ?c0 ?k0 ?a1 ?i1 ?l1 ?c1 ?k1 ?a2 ?i2 ?l2 ?c2 ?k2 ?a3 ?i3 ?l3 ?c3 ?k3 ?a4 ?i4 ?l4 ?c4 ?k4 ?pg ?hd ?po ?sa ?mk ?kc ?n0 ?n1 ?n2
   (case aC=>k_is); (case a0=>k_is); (case i0=>k_is); (case l0=>k_is); (case c0=>k_is); (case k0=>k_is); (case a1=>k_is); (case i1=>k_is); (case l1=>k_is); (case c1=>k_is); (case k1=>k_is); (case a2=>k_is); (case i2=>k_is); (case l2=>k_is); (case c2=>k_is); (case k2=>k_is); (case a3=>k_is); (case i3=>k_is); (case l3=>k_is); (case c3=>k_is); (case k3=>k_is); (case a4=>k_is); (case i4=>k_is); (case l4=>k_is); (case c4=>k_is); (case k4=>k_is); (case pg=>k_is); (case hd=>k_is); (case po=>k_is); (case sa=>k_is); (case mk=>k_is); (case kc=>k_is); (case n0=>k_is); (case n1=>k_is); (case n2=>k_is)
  have T_levels:∃ f fd,Car.FnT (L2.KOf KX) "levels" (Car.top 16) f fd:=by
   dsimp only [L2.KOf]
   refine' Car.fnT_mk ?a ?l ?c ?k
   (case a=>k_is); (case l=>k_is); (case c=>k_is); (case k=>k_is)
  have T_Plan:∃ C f0 f1 f2 f3 f4 f5 d0 d1 d2 d3 d4 d5,Car.C_Plan (L2.KOf KX) C f0 f1 f2 f3 f4 f5 d0 d1 d2 d3 d4 d5:=by
   dsimp only [L2.KOf]
   refine' Car.C_Plan_mk ?aC ?a0 ?i0 ?l0 ?c0 ?k0 ?a1 ?i1 ?l1 ?c1 ?k1 ?a2 ?i2 ?l2 ?c2 ?k2 ?a3 ?i3 ?l3 ?c3 ?k3 ?a4 ?i4 ?l4 ?c4 ?k4 ?a5 ?i5 ?l5 ?c5 ?k5 ?pg ?hd ?po ?sa ?mk ?kc ?n0 ?n1 ?n2
   (case aC=>k_is); (case a0=>k_is); (case i0=>k_is); (case l0=>k_is); (case c0=>k_is); (case k0=>k_is); (case a1=>k_is); (case i1=>k_is); (case l1=>k_is); (case c1=>k_is); (case k1=>k_is); (case a2=>k_is); (case i2=>k_is); (case l2=>k_is); (case c2=>k_is); (case k2=>k_is); (case a3=>k_is); (case i3=>k_is); (case l3=>k_is); (case c3=>k_is); (case k3=>k_is); (case a4=>k_is); (case i4=>k_is); (case l4=>k_is); (case c4=>k_is); (case k4=>k_is); (case a5=>k_is); (case i5=>k_is); (case l5=>k_is); (case c5=>k_is); (case k5=>k_is); (case pg=>k_is); (case hd=>k_is); (case po=>k_is); (case sa=>k_is); (case mk=>k_is); (case kc=>k_is); (case n0=>k_is); (case n1=>k_is); (case n2=>k_is)
  have T_moves_for:∃ f fd c,Car.FnTL (L2.KOf KX) "moves_for" (Car.top 18) f fd c 219:=by
   dsimp only [L2.KOf]
   refine' Car.fnTL_mk 219 ?a ?l ?c ?k ?d
   (case a=>k_is); (case l=>k_is); (case c=>k_is); (case k=>k_is); (case d=>kernel_rfl)
  have T__law_cell_at:∃ f fd,Car.FnT (L2.KOf KX) "_law_cell_at" (Car.top 20) f fd:=by
   dsimp only [L2.KOf]
   refine' Car.fnT_mk ?a ?l ?c ?k
   (case a=>k_is); (case l=>k_is); (case c=>k_is); (case k=>k_is)
  have T__law_stir:∃ f fd,Car.FnT (L2.KOf KX) "_law_stir" (Car.top 21) f fd:=by
   dsimp only [L2.KOf]
   refine' Car.fnT_mk ?a ?l ?c ?k
   (case a=>k_is); (case l=>k_is); (case c=>k_is); (case k=>k_is)
  have T__law_bed:∃ f fd,Car.FnT (L2.KOf KX) "_law_bed" (Car.top 22) f fd:=by
   dsimp only [L2.KOf]
   refine' Car.fnT_mk ?a ?l ?c ?k
   (case a=>k_is); (case l=>k_is); (case c=>k_is); (case k=>k_is)
  have T__law_wished:∃ f fd,Car.FnT (L2.KOf KX) "_law_wished" (Car.top 23) f fd:=by
   dsimp only [L2.KOf]
   refine' Car.fnT_mk ?a ?l ?c ?k
   (case a=>k_is); (case l=>k_is); (case c=>k_is); (case k=>k_is)
  have T__law_foot:∃ f fd,Car.FnT (L2.KOf KX) "_law_foot" (Car.top 24) f fd:=by
   dsimp only [L2.KOf]
   refine' Car.fnT_mk ?a ?l ?c ?k
   (case a=>k_is); (case l=>k_is); (case c=>k_is); (case k=>k_is)
  have T__law_shelf:∃ f fd,Car.FnT (L2.KOf KX) "_law_shelf" (Car.top 25) f fd:=by
   dsimp only [L2.KOf]
   refine' Car.fnT_mk ?a ?l ?c ?k
   (case a=>k_is); (case l=>k_is); (case c=>k_is); (case k=>k_is)
  have T__law_lowest:∃ f fd,Car.FnT (L2.KOf KX) "_law_lowest" (Car.top 26) f fd:=by
   dsimp only [L2.KOf]
   refine' Car.fnT_mk ?a ?l ?c ?k
   (case a=>k_is); (case l=>k_is); (case c=>k_is); (case k=>k_is)
  have T__law_had:∃ f fd,Car.FnT (L2.KOf KX) "_law_had" (Car.top 27) f fd:=by
   dsimp only [L2.KOf]
   refine' Car.fnT_mk ?a ?l ?c ?k
   (case a=>k_is); (case l=>k_is); (case c=>k_is); (case k=>k_is)
  have T_law:∃ f fd,Car.FnT (L2.KOf KX) "law" (Car.top 28) f fd:=by
   dsimp only [L2.KOf]
   refine' Car.fnT_mk ?a ?l ?c ?k
   (case a=>k_is); (case l=>k_is); (case c=>k_is); (case k=>k_is)
  have noT1:(L2.KOf KX).lookup 110=none:=by
   dsimp only [L2.KOf]
   kernel_rfl
  have noT2:(L2.KOf KX).lookup 219=none:=by
   dsimp only [L2.KOf]
   kernel_rfl
  have N:Car.NoneT (L2.KOf KX):=by
   dsimp only [L2.KOf]
   refine' ⟨?n0,?n1,?n2,?n3,?n4,?n5,?n6,?n7,?n8,?n9,?n10,?n11,?n12,?n13,?n14⟩
   (case n0=>k_is); (case n1=>k_is); (case n2=>k_is); (case n3=>k_is); (case n4=>k_is); (case n5=>k_is); (case n6=>k_is); (case n7=>k_is); (case n8=>k_is); (case n9=>k_is); (case n10=>k_is); (case n11=>k_is); (case n12=>k_is); (case n13=>k_is); (case n14=>k_is)
  have i1:∃ t,PySem.W.nsIn (L2.KOf KX) mainGlobals "TOP"=some (some (.int 1000 t)):=by
   dsimp only [L2.KOf]
   refine' Car.int_mk ?a
   (case a=>k_is)
  exact Car.all KX G hmg N noT1 noT2 i1 T_cells_of T_within T_cells_under T_greatest T_cut_down T_had T_lesser_row T_least_of T_levels T__law_cell_at T__law_stir T__law_bed T__law_wished T__law_foot T__law_shelf T__law_lowest T__law_had T_law T_needed T_moves_for T_Cells T_Share T_Plan
#print axioms PySem.Challenge.cw_carvebed_k45_needed_cutters_holds
