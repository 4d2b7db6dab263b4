import PyProof.Rows.All
import Wide.All
import OpenK.AllK
import Wide.FinOn
import Lean
import PyProof.EqAt
import PyProof.EqKinds
import PyProof.TupleCall
import PySem.Challenge.RW_carvebed_k42_whole_what_would_be_spoilt
set_option Elab.async false
set_option linter.all false
set_option maxRecDepth 100000
set_option maxHeartbeats 4000000
open List renaming length_map → AA, getElem?_eq_getElem → AD, getElem?_eq_some_iff → AF, getElem?_map → AH, mem_cons → AK, map_append → AM, length_append → AN, take_of_length_le → AO, size_toArray → AQ, length_cons → AS, mem_append → AW, append_assoc → AY, mem_cons_self → AZ, mem_cons_of_mem → Aa, length_take → Ae, map_cons → Af, mem_map → Ai, mem_filter → Aj, mem_of_getElem? → Al, mem_singleton → An, mem_append_right → Ar, take_zero → As, not_mem_nil → Ay, getElem_mem → Az, append_nil → A2, mem_of_mem_take → A6, take_append_drop → A8, take_add_one → A9, mem_range → BH, pairwise_append → BK
open PySem renaming wpAny_bind → AB, wpAny_pure → AG, sizeLine → AR, mainGlobals → Ab, starEach → Ak, wpAny_holding → BE, boot_len → BI, wpAny_loadPart_at → BJ
open PySem.Heap renaming get?_push_of_some → AC, lt_size → AJ, get?_push_size → Ah, get?_update_other → A1
open Nat renaming le_refl → AE, ne_of_lt → AU, lt_of_lt_of_le → AX, zero_le → Ap, le_trans → Au
open PySem.W renaming kasC_bind → AI, kasC_pure → AL, nsIn → AV, findIn → Ao, keepIn → Av, mg_none_of → A0, codeIn → A5, fnOf → A7
open PySem.Value renaming ref → AT, none → BD
open Array renaming length_toList → Ac, getElem?_toList → At, toList_append → BG
open True renaming intro → Ad
open ForInStep renaming done → Ag, yield → BB
open PyProof.Rows renaming pendingOf → Am
open Int renaming toNat_natCast → Aq, le_refl → BC
open Option.some renaming inj → Aw
open Bool renaming false_ne_true → Ax
open PySem.Obj renaming mapSeq → BA
open False renaming elim → BF
namespace L2
open PySem PySem.Spec PyProof.Rows
abbrev Key:=Sum Int Str
def keyIs:Key→Value→Bool
 | .inl k,v=>Value.isInt k v
 | .inr x,v=>Value.isStrOf x v
def keyH (w:World):Key→Int
 | .inl k=>hashInt k
 | .inr x=>hashStr w x
theorem keyIs_shape:∀ {k:Key} {v:Value},keyIs k v=true→(∃ i t,k=Sum.inl i∧v=Value.int i t)∨(∃ x t,k=Sum.inr x∧v=Value.str x t)
 | .inl i,v,h=>by
  obtain ⟨t,e⟩:=Value.isInt_shape (k:=i) (v:=v) h
  exact .inl ⟨i,t,rfl,e⟩
 | .inr x,v,h=>by
  obtain ⟨t,e⟩:=Value.isStrOf_shape (x:=x) (v:=v) h
  exact .inr ⟨x,t,rfl,e⟩
theorem keyIs_int (i:Int) (t:Tok):keyIs (.inl i) (.int i t)=true:=by simp [keyIs,Value.isInt]
theorem keyIs_str (x:Str) (t:Tok):keyIs (.inr x) (.str x t)=true:=by simp [keyIs,Value.isStrOf]
theorem key_ll (a b:Int):decide ((Sum.inl a:Key)=Sum.inl b)=(a == b):=by
 by_cases e:a=b
 ·subst e; simp
 ·have h:¬ (Sum.inl a:Key)=Sum.inl b:=fun q=>e (Sum.inl.inj q)
  rw [decide_eq_false h]
  exact (beq_eq_false_iff_ne.mpr e).symm
theorem key_rr (a b:Str):decide ((Sum.inr a:Key)=Sum.inr b)=decide (a=b):=by
 by_cases e:a=b
 ·subst e; simp
 ·have h:¬ (Sum.inr a:Key)=Sum.inr b:=fun q=>e (Sum.inr.inj q)
  rw [decide_eq_false h,decide_eq_false e]
theorem key_lr (a:Int) (b:Str):decide ((Sum.inl a:Key)=Sum.inr b)=false:=decide_eq_false (fun q=>nomatch q)
theorem key_rl (a:Str) (b:Int):decide ((Sum.inr a:Key)=Sum.inl b)=false:=decide_eq_false (fun q=>nomatch q)
def mixKind (prog:Program) (w:World):PySem.KeyKind prog w Key where
 is:=keyIs
 hash:=keyH w
 inj:=fun v a b ha hb=>by
  rcases keyIs_shape ha with ⟨i,t,rfl,rfl⟩ | ⟨x,t,rfl,rfl⟩
  ·rcases keyIs_shape hb with ⟨j,u,rfl,e⟩ | ⟨y,u,rfl,e⟩
   ·injection e with e1 _; rw [e1]
   ·exact nomatch e
  ·rcases keyIs_shape hb with ⟨j,u,rfl,e⟩ | ⟨y,u,rfl,e⟩
   ·exact nomatch e
   ·injection e with e1 _; rw [e1]
 byValue:=fun k v h=>by
  rcases keyIs_shape h with ⟨i,t,rfl,rfl⟩ | ⟨x,t,rfl,rfl⟩ <;> rfl
 pyHash:=fun hv h=>by
  rcases keyIs_shape hv with ⟨i,t,rfl,rfl⟩ | ⟨x,t,rfl,rfl⟩
  ·exact wpAny_pyHash_int h
  ·exact wpAny_pyHash_str h
 eqBool:=fun hu hv h=>by
  rcases keyIs_shape hu with ⟨i,t,rfl,rfl⟩ | ⟨x,t,rfl,rfl⟩
  ·rcases keyIs_shape hv with ⟨j,u,rfl,rfl⟩ | ⟨y,u,rfl,rfl⟩
   ·rw [key_ll] at h; exact wpAny_eqBool_int h
   ·rw [key_lr] at h; exact SeqAt.EqAt.int_str i t y u _ _ _ _ h
  ·rcases keyIs_shape hv with ⟨j,u,rfl,rfl⟩ | ⟨y,u,rfl,rfl⟩
   ·rw [key_rl] at h; exact SeqAt.EqAt.str_int x t j u _ _ _ _ h
   ·rw [key_rr] at h; exact wpAny_eqBool_str h
 «strs»:=fun k x t v h=>by
  rcases keyIs_shape h with ⟨i,u,rfl,e⟩ | ⟨y,u,rfl,e⟩
  ·exact nomatch e
  ·injection e with e1 _
   subst e1
   cases v <;> rfl
theorem mixKind_int (prog:Program) (w:World) (i:Int) (t:Tok):(mixKind prog w).is (.inl i) (.int i t)=true:=keyIs_int i t
theorem mixKind_str (prog:Program) (w:World) (x:Str) (t:Tok):(mixKind prog w).is (.inr x) (.str x t)=true:=keyIs_str x t
inductive V where
 | non | bl (b:Bool) | int (i:Int) | str (x:Str) | byt (b:Array UInt8) | flt (b:UInt64) | ref (a:Addr) | ty (n:String)
 deriving DecidableEq
def RelV:V→Value→Prop
 | .non,u=>u=BD
 | .bl b,u=>u=Value.bool b
 | .int i,u=>∃ t,u=Value.int i t
 | .str x,u=>∃ t,u=Value.str x t
 | .byt b,u=>∃ t,u=Value.bytes b t
 | .flt b,u=>∃ t,u=Value.float b t
 | .ref a,u=>u=AT a
 | .ty n,u=>u=Value.type n
abbrev Vals:List V→List Value→Prop:=Paired RelV
theorem Vals.length {xs:List V} {us:List Value} (r:Vals xs us):xs.length=us.length:=Paired.length r
theorem Vals.get:∀ {xs:List V} {us:List Value} {i:Nat} {x:V},Vals xs us→xs[i]?=some x→∃ u,us[i]?=some u∧RelV x u
 | _,_,_,_,.nil,e=>by simp at e
 | _,_,0,_,.cons r _,e=>by simp at e; subst e; exact ⟨_,rfl,r⟩
 | _,_,i + 1,x,.cons _ t,e=>by
  obtain ⟨u,h1,h2⟩:=Vals.get (i:=i) (x:=x) t (by simpa using e)
  exact ⟨u,by simpa using h1,h2⟩
theorem Vals.set {x:V} {u:Value} (r:RelV x u):∀ {xs:List V} {us:List Value} (i:Nat),Vals xs us→Vals (xs.set i x) (us.set i u)
 | _,_,_,.nil=>.nil
 | _,_,0,.cons _ t=>.cons r t
 | _,_,i + 1,.cons q t=>.cons q (Vals.set r i t)
theorem Vals.append:∀ {xs ys:List V} {us ws:List Value},Vals xs us→Vals ys ws→Vals (xs++ys) (us++ws)
 | _,_,_,_,.nil,s=>s
 | _,_,_,_,.cons r t,s=>.cons r (Vals.append t s)
theorem Vals.take:∀ {xs:List V} {us:List Value} (n:Nat),Vals xs us→Vals (xs.take n) (us.take n)
 | _,_,0,_=>.nil
 | _,_,_ + 1,.nil=>.nil
 | _,_,n + 1,.cons r t=>.cons r (Vals.take n t)
theorem Vals.drop:∀ {xs:List V} {us:List Value} (n:Nat),Vals xs us→Vals (xs.drop n) (us.drop n)
 | _,_,0,r=>r
 | _,_,_ + 1,.nil=>.nil
 | _,_,n + 1,.cons _ t=>Vals.drop n t
def RelO:Option V→Option Value→Prop
 | some v,some u=>RelV v u
 | none,none=>True
 | _,_=>False
def KV {κ:Type}:List (κ×V)→List (κ×Value)→Prop:=Paired fun (p:κ×V) (q:κ×Value)=>p.1=q.1∧RelV p.2 q.2
def kV:Key→V
 | .inl i=>.int i
 | .inr x=>.str x
inductive HO where
  | lst (xs:List V)
  | tup (xs:List V)
  | dK (kvs:List (Key×V)) | dT (kvs:List (List Key×V))
  | set (S:Int→Bool) (n:Nat)
  | ins (C dx:Addr) (fs:List (Str×V))
  | own (x:Addr)
  | xd (fs:List (Str×V))
  | met (f x:Addr)
  | rng (lo hi:Int)
  | frz (o:Obj) (u:HO)
  | tbl (ps:Array Value)
  | ext (φ:Heap→Prop)
abbrev Hp:=Addr→Option HO
def upd (H:Hp) (a:Addr) (o:HO):Hp:=fun b=>if b=a then some o else H b
theorem upd_same {H:Hp} {a:Addr} {o:HO}:upd H a o a=some o:=by unfold upd; rw [if_pos rfl]
theorem upd_ne {H:Hp} {a b:Addr} {o:HO} (h:b≠a):upd H a o b=H b:=by unfold upd; rw [if_neg h]
theorem upd_upd {H:Hp} {a:Addr} {o u:HO}:upd (upd H a o) a u=upd H a u:=by
 funext b; unfold upd; split <;> rfl
theorem ne_of {H:Hp} {a b:Addr} {o u:HO} (h:H a=some o) (h':H b=some u) (d:o≠u):a≠b:=by
 intro e; subst e; rw [h] at h'; exact d (Aw h')
theorem ne_of_none {H:Hp} {a b:Addr} {o:HO} (h:H a=some o) (h':H b=none):a≠b:=by
 intro e; subst e; rw [h] at h'; cases h'
section
variable (P:Program) (w:World)
def ObjOk (H:Hp) (h:Heap) (a:Addr):HO→Prop
 | .lst xs=>xs.length≤AR∧∃ (its:List Value) (n:Nat),Vals xs its∧h.get? a=some { cls:=.type "list",data:=.seq its.toArray n }
 | .tup xs=>xs.length≤AR∧∃ its:List Value,Vals xs its∧IsTup h a its.toArray
 | .dK kvs=>kvs.length≤AR∧(a == sysModules)=false∧∃ vs,KV kvs vs∧h.DictOf (mixKind P w) a vs
 | .dT kvs=>kvs.length≤AR∧(a == sysModules)=false∧∃ xs:List (List Key×Addr×Value),
   Paired (fun (p:List Key×V) (q:List Key×Addr×Value)=>p.1=q.1∧H q.2.1=some (.tup (p.1.map kV))∧RelV p.2 q.2.2) kvs xs ∧
   ∃ o es ep,h.get? a=some o∧o.ExactDict∧o.data=.dict es ep∧es.toList=xs.map (entryOfKey (tupleKind (mixKind P w)))∧(xs.map (·.1)).Nodup
 | .set S n=>h.SetOf (intKind P w) a S n
 | .ins C dx fs=>H dx=some (.own a)∧fs.length≤1000∧dx≠a∧h.get? a=some (PySem.W.instObj C dx) ∧
   ∃ mA,h.Ns1 dx mA∧(∀ f,RelO (fs.lookup f) (mA f))∧PySem.Within mA (fs.map (·.1))
 | .own _=>∃ o,h.get? a=some o
 | .xd fs=>∃ mA,h.Ns1 a mA∧∀ f,RelO (fs.lookup f) (mA f)
 | .rng lo hi=>∃ t u v,h.get? a=some { cls:=.type "range",data:=.fields #[.int lo t,.int hi u,.int 1 v] }
 | .frz o u=>h.get? a=some o∧ObjOk H h a u
 | .tbl ps=>h.get? a=some { cls:=.none,data:=.fields ps }
 | .met f x=>h.get? a=some (PySem.W.methodObj (.ref f) (.ref x))
 | .ext φ=>φ h∧(∃ o,h.get? a=some o)∧∀ h1 h2:Heap,φ h1→(∀ o,h1.get? a=some o→h2.get? a=some o)→φ h2
def HOk (H:Hp) (h:Heap):Prop:=∀ a o,H a=some o→ObjOk P w H h a o
end
section
variable {P:Program} {w:World} {H H':Hp} {h h':Heap} {a:Addr} {o:HO}
theorem ObjOk.lt (x:ObjOk P w H h a o):a < h.objs.size:=by
 cases o with
 | lst xs=>obtain ⟨_,_,_,_,e⟩:=x; exact AJ e
 | tup xs=>obtain ⟨_,_,_,p⟩:=x; exact p.lt
 | dK kvs=>obtain ⟨_,_,_,_,o,_,_,e,_⟩:=x; exact AJ e
 | dT kvs=>obtain ⟨_,_,_,_,o,_,_,e,_⟩:=x; exact AJ e
 | set S n=>obtain ⟨o,_,_,_,e,_⟩:=x; exact AJ e
 | ins C dx fs=>obtain ⟨_,_,_,e,_⟩:=x; exact AJ e
 | own y=>obtain ⟨_,e⟩:=x; exact AJ e
 | xd fs=>obtain ⟨_,⟨_,_,_,e,_⟩,_⟩:=x; exact AJ e
 | rng lo hi=>obtain ⟨_,_,_,e⟩:=x; exact AJ e
 | frz ob u=>obtain ⟨e,_⟩:=x; exact AJ e
 | tbl ps=>exact AJ (show h.get? a=some _ from x)
 | met f y=>exact AJ (show h.get? a=some _ from x)
 | ext φ=>obtain ⟨_,⟨_,e⟩,_⟩:=x; exact AJ e
theorem Paired.mapP {α β:Type} {F G:α→β→Prop}:∀ {l₁:List α} {l₂:List β},Paired F l₁ l₂→(∀ a b,F a b→G a b)→Paired G l₁ l₂
 | _,_,.nil,_=>.nil
 | _,_,.cons r t,f=>.cons (f _ _ r) (Paired.mapP t f)
theorem ObjOk.stay (x:ObjOk P w H h a o) (k:∀ b u,(b=a∨H b=some (.own a))→h.get? b=some u→h'.get? b=some u)
  (ho:∀ b,H b=some (.own a)→H' b=some (.own a)) (ht:∀ b xs,H b=some (.tup xs)→H' b=some (.tup xs)):ObjOk P w H' h' a o:=by
 induction o with
 | lst xs=>obtain ⟨z,its,n,r,e⟩:=x; exact ⟨z,its,n,r,k _ _ (.inl rfl) e⟩
 | tup xs=>obtain ⟨z,its,r,ob,e,c⟩:=x; exact ⟨z,its,r,ob,k _ _ (.inl rfl) e,c⟩
 | dK kvs=>obtain ⟨z,y,vs,r,ob,es,ep,e,c⟩:=x; exact ⟨z,y,vs,r,ob,es,ep,k _ _ (.inl rfl) e,c⟩
 | dT kvs =>
  obtain ⟨z,y,xs,r,ob,es,ep,e,c⟩:=x
  exact ⟨z,y,xs,Paired.mapP r fun p q z=>⟨z.1,ht _ _ z.2.1,z.2.2⟩,ob,es,ep,k _ _ (.inl rfl) e,c⟩
 | set S n=>obtain ⟨ob,es,ep,t,e,c⟩:=x; exact ⟨ob,es,ep,t,k _ _ (.inl rfl) e,c⟩
 | ins C dx fs =>
  obtain ⟨d,z,ne,e,mA,⟨od,es,ep,e2,c⟩,r⟩:=x
  exact ⟨ho _ d,z,ne,k _ _ (.inl rfl) e,mA,⟨od,es,ep,k _ _ (.inr d) e2,c⟩,r⟩
 | own y=>obtain ⟨ob,e⟩:=x; exact ⟨ob,k _ _ (.inl rfl) e⟩
 | xd fs=>obtain ⟨mA,⟨od,es,ep,e,c⟩,r⟩:=x; exact ⟨mA,⟨od,es,ep,k _ _ (.inl rfl) e,c⟩,r⟩
 | rng lo hi=>obtain ⟨t,u,v,e⟩:=x; exact ⟨t,u,v,k _ _ (.inl rfl) e⟩
 | frz ob u ih=>obtain ⟨e,q⟩:=x; exact ⟨k _ _ (.inl rfl) e,ih q⟩
 | tbl ps =>
  have e:h.get? a=some { cls:=.none,data:=.fields ps }:=x
  show h'.get? a=some { cls:=.none,data:=.fields ps }
  exact k a _ (.inl rfl) e
 | met f y =>
  have e:h.get? a=some (PySem.W.methodObj (.ref f) (.ref y)):=x
  show h'.get? a=some (PySem.W.methodObj (.ref f) (.ref y))
  exact k a _ (.inl rfl) e
 | ext φ=>obtain ⟨p,⟨o,e⟩,st⟩:=x; exact ⟨st _ _ p fun o q=>k _ _ (.inl rfl) q,⟨o,k _ _ (.inl rfl) e⟩,st⟩
theorem HOk.lt (x:HOk P w H h) (e:H a=some o):a < h.objs.size:=(x a o e).lt
theorem HOk.fresh (x:HOk P w H h) (e:h.objs.size≤a):H a=none:=by
 cases q:H a with
 | none=>rfl
 | some u=>exact absurd (AX (x.lt q) e) (Nat.lt_irrefl _)
theorem HOk.kept (x:HOk P w H h) (k:∀ b u,h.get? b=some u→h'.get? b=some u):HOk P w H h':=fun a o e =>
 (x a o e).stay (fun b u _ q=>k b u q) (fun _ q=>q) fun _ _ q=>q
theorem HOk.laid (x:HOk P w H h) (k:∀ b u,h.get? b=some u→h'.get? b=some u) (hp:h.objs.size≤a) (new:ObjOk P w (upd H a o) h' a o):HOk P w (upd H a o) h':=fun b u e=>by
 have hn:=x.fresh hp
 by_cases hb:b=a
 ·subst hb; rw [upd_same] at e; cases e; exact new
 ·rw [upd_ne hb] at e
  exact (x b u e).stay (fun c v _ q=>k c v q) (fun c q=>by rw [upd_ne (ne_of_none q hn)]; exact q) fun c xs q=>by rw [upd_ne (ne_of_none q hn)]; exact q
end
def Rd (H:Hp) (a:Addr) (u:HO):Prop:=H a=some u∨∃ o,H a=some (.frz o u)
theorem Rd.ok {P:Program} {w:World} {H:Hp} {h:Heap} {a:Addr} {u:HO} (r:Rd H a u) (x:HOk P w H h):ObjOk P w H h a u:=by
 rcases r with r | ⟨o,r⟩
 ·exact x a u r
 ·obtain ⟨_,q⟩:=x a _ r
  exact q
def Mut:Option HO→Prop
 | some (.lst _)=>True
 | some (.dK _)=>True
 | some (.dT _)=>True
 | some (.set _ _)=>True
 | some (.ins _ _ _)=>True
 | some (.ext _)=>True
 | _=>False
section
variable {P:Program} {w:World} {H:Hp} {h h':Heap} {x e:Addr} {o':HO}
theorem HOk.write (ok:HOk P w H h) (mu:Mut (H x)) (he:e=x∨H e=some (.own x)) (k:∀ b u,b≠e→h.get? b=some u→h'.get? b=some u) (heo:∃ u,h'.get? e=some u)
  (new:ObjOk P w (upd H x o') h' x o'):HOk P w (upd H x o') h':=fun b u q=>by
 have nown:∀ c y,H c=some (.own y)→c≠x:=fun c y r z=>by subst z; rw [r] at mu; exact mu
 have ntup:∀ c xs,H c=some (.tup xs)→c≠x:=fun c xs r z=>by subst z; rw [r] at mu; exact mu
 by_cases hb:b=x
 ·subst hb; rw [upd_same] at q; cases q; exact new
 ·rw [upd_ne hb] at q
  by_cases hbe:b=e
  ·have q':H b=some (.own x):=by
    rcases he with z | z
    ·exact absurd (hbe.trans z) hb
    ·rw [hbe]; exact z
   rw [q] at q'; cases q'
   obtain ⟨v,hv⟩:=heo
   exact ⟨v,by rw [hbe]; exact hv⟩
  ·refine (ok b u q).stay (fun c v hc r=>k c v ?_ r) (fun c r=>by rw [upd_ne (nown c b r)]; exact r) fun c xs r=>by rw [upd_ne (ntup c xs r)]; exact r
   rcases hc with rfl | hc
   ·exact hbe
   ·rintro rfl
    rcases he with z | z
    ·exact nown c b hc z
    ·rw [hc] at z; cases z; exact hb rfl
end
structure Un (fs ex:List Addr) (H H':Hp) (h h':Heap):Prop where
 keep:∀ b o,h.get? b=some o→H b=none→b ∉ fs→b ∉ ex→h'.get? b=some o
 slot:∀ b o,h.get? b=some o→H b=none→b∈fs→b ∉ ex→∃ sl,h'.get? b=some { o with slots:=sl }
 free:∀ b o,h.get? b=some o→H b=none→b ∉ ex→H' b=none
 there:∀ b o,h.get? b=some o→b ∉ ex→∃ o',h'.get? b=some o'
 tups:∀ b xs,H b=some (.tup xs)→H' b=some (.tup xs)
 frzs:∀ b o u,H b=some (.frz o u)→H' b=some (.frz o u)
 tbls:∀ b ps,H b=some (.tbl ps)→∃ more,H' b=some (.tbl (ps++more))
section
variable {fs fs' ex ex':List Addr} {H H1 H2:Hp} {h h1 h2 h':Heap} {a x e:Addr} {o:HO}
theorem Un.any (u:Un fs ex H H1 h h1) {b:Addr} {ob:Obj} (q:h.get? b=some ob) (n:H b=none) (hx:b ∉ ex):∃ sl,h1.get? b=some { ob with slots:=sl }:=by
 by_cases hb:b∈fs
 ·exact u.slot b ob q n hb hx
 ·exact ⟨ob.slots,u.keep b ob q n hb hx⟩
theorem Un.kept (k:∀ b u,h.get? b=some u→h'.get? b=some u):Un fs ex H H h h' :=
 ⟨fun b ob q _ _ _=>k b ob q,fun b ob q _ _ _=>⟨ob.slots,k b ob q⟩,fun _ _ _ n _=>n,fun b ob q _=>⟨ob,k b ob q⟩,fun _ _ q=>q,fun _ _ _ q=>q,fun _ ps q=>⟨#[],by rw [q]; simp⟩⟩
theorem Un.refl:Un fs ex H H h h:=Un.kept fun _ _ q=>q
theorem Un.laid (k:∀ b u,h.get? b=some u→h'.get? b=some u) (hp:h.objs.size≤a) (hn:H a=none):Un fs ex H (upd H a o) h h' where
 keep:=fun b u q _ _ _=>k b u q
 slot:=fun b u q _ _ _=>⟨u.slots,k b u q⟩
 free:=fun b u q n _=>by rw [upd_ne (AU (AX (AJ q) hp))]; exact n
 there:=fun b u q _=>⟨u,k b u q⟩
 tups:=fun b xs q=>by rw [upd_ne (ne_of_none q hn)]; exact q
 frzs:=fun b u xs q=>by rw [upd_ne (ne_of_none q hn)]; exact q
 tbls:=fun b ps q=>⟨#[],by rw [upd_ne (ne_of_none q hn),q]; simp⟩
theorem Un.write (mu:Mut (H x)) (he:e=x∨H e=some (.own x)) (k:∀ b u,b≠e→h.get? b=some u→h'.get? b=some u) (heo:∃ u,h'.get? e=some u):Un fs ex H (upd H x o) h h':=by
 have hx:∀ b,H b=none→b≠x:=fun b n z=>by subst z; rw [n] at mu; exact mu
 have hb:∀ b,H b=none→b≠e:=fun b n z=>by
  subst z
  rcases he with r | r
  ·exact hx b n r
  ·rw [n] at r; cases r
 have hm:∀ b u,H b=some u→¬ Mut (some u)→b≠x:=fun b u q nm z=>by subst z; rw [q] at mu; exact nm mu
 refine ⟨fun b u q n _ _=>k b u (hb b n) q,fun b u q n _ _=>⟨u.slots,k b u (hb b n) q⟩,fun b u q n _=>by rw [upd_ne (hx b n)]; exact n,fun b u q _=>?_,
  fun b xs q=>by rw [upd_ne (hm b _ q fun z=>z)]; exact q,fun b u xs q=>by rw [upd_ne (hm b _ q fun z=>z)]; exact q,fun b ps q=>⟨#[],by rw [upd_ne (hm b _ q fun z=>z),q]; simp⟩⟩
 by_cases hbe:b=e
 ·subst hbe; exact heo
 ·exact ⟨u,k b u hbe q⟩
end
def trk (h:Heap) (H:Hp):List Addr:=(List.range h.objs.size).filter fun a=>(H a).isSome
def hidT (h:Heap) (H:Hp):Heap:=PySem.W.hideAll h (trk h H)
theorem hidT_size (h:Heap) (H:Hp):(hidT h H).objs.size=h.objs.size:=PySem.W.hideAll_size _ _
theorem hidT_get {h:Heap} {H:Hp} {b:Addr} {o:Obj} (e:h.get? b=some o) (n:H b=none):(hidT h H).get? b=some o :=
 PySem.W.hideAll_get _ e fun hm=>by
  have q:(H b).isSome=true:=(Aj.mp hm).2
  rw [n] at q; simp at q
theorem of_hidT {h:Heap} {H:Hp} {b:Addr} {o:Obj} (e:(hidT h H).get? b=some o):h.get? b=some o∧H b=none:=by
 have e':h.get? b=some o:=PySem.W.of_hideAll (trk h H) e
 refine ⟨e',?_⟩
 cases q:H b with
 | none=>rfl
 | some x =>
  have hm:b∈trk h H:=Aj.mpr ⟨BH.mpr (AJ e'),by simp [q]⟩
  have z:(hidT h H).get? b=none:=PySem.W.hideAll_none (trk h H) hm
  rw [z] at e; cases e
structure Mod (K:PySem.W.Frag) (mg:Str→Option Value) (base:Heap):Prop where
 kin:K.In base
 glob:base.Ns Ab mg
 blt:∃ mb,base.Ns builtinsNs mb∧∀ x:Str,x≠"__name__"→mb x=bootBuiltins x
 nolimit:base.NoLimit
structure Cx where
 prog:Program
 w:World
 K:PySem.W.Frag
 mg:Str→Option Value
 base:Heap
 A:Around
 N:List Str
 s₀:Shared
 H₀:Hp
 env:Env
 outer:List Env
 stack:List Env
 ex:List Addr
 fn:Str→Bool
 calm:Bool
 pn:List (Addr×Obj)
 xe:Value→Shared→Prop
def frs (l:List Env):List Addr:=l.filterMap (·.frame)
abbrev Cx.fs (X:Cx):List Addr:=frs X.outer
def Vis (sc:Scope) (x:Str):Prop:=sc.names.lookup x=some .local∨sc.names.lookup x=some .cell∨sc.names.lookup x=some .free
def Loc (sc:Scope) (x:Str):Prop:=sc.names.lookup x=some .local∨sc.names.lookup x=some .cell
def Look (env:Env) (h:Heap) (m:Str→Option Value) (x:Str) (u:Value):Prop :=
 (env.kindOf x=some .local∧m x=some u)∨((env.kindOf x=some .cell∨env.kindOf x=some .free)∧∃ c,env.cells.lookup x=some c∧h.IsCell c (some u))
structure Cx.Ok (X:Cx):Prop where
 mod:Mod X.K X.mg X.base
 kind:X.env.scope.kind=.function
 glob:X.env.globals=Ab
 blt:X.env.builtins=builtinsNs
 above:X.s₀.heap.objs.size≤X.env.locals
 inj:∀ x y c,X.env.cells.lookup x=some c→X.env.cells.lookup y=some c→x=y
 has:∀ x,(X.env.kindOf x=some .cell∨X.env.kindOf x=some .free)→∃ c,X.env.cells.lookup x=some c
 cab:∀ x c,X.fn x=true→X.env.cells.lookup x=some c→X.s₀.heap.objs.size≤c
 hd:X.calm=true→X.A.handled=none
 frames:X.A.frames=some X.stack
 stk:X.stack=X.outer∨(X.stack=X.env :: X.outer∧X.env.frame=some X.env.locals)
 exf:∀ b∈X.ex,b≠X.env.locals∧∀ x c,X.env.cells.lookup x=some c→c≠b
 bs:∀ b o,X.base.get? b=some o→X.s₀.heap.get? b=some o∧X.H₀ b=none
 bsz:X.base.objs.size≤X.s₀.heap.objs.size
 noex:∀ b o,X.base.get? b=some o→b ∉ X.ex
 exfs:∀ b∈X.ex,b ∉ X.fs
 funs:X.s₀.heap.FunFrames X.base X.outer
 frf:∀ b∈X.fs,X.H₀ b=none
structure Inv (X:Cx) (pins:List (Addr×Obj)) (σ:List (Option V)) (H:Hp) (s:Shared):Prop where
 ok:X.Ok
 os:s.os=X.s₀.os
 bare:AllBare s.gens
 base:Un X.fs X.ex X.H₀ H X.s₀.heap s.heap
 loc:∃ m,s.heap.Ns X.env.locals m∧∀ (i:Nat) (x:Str) (v:V),X.N[i]?=some x→σ[i]?=some (some v)→Vis X.env.scope x→∃ u,RelV v u∧Look X.env s.heap m x u
 cell:∀ x c,X.env.cells.lookup x=some c→∃ v,s.heap.IsCell c v
 free:H X.env.locals=none
 freeC:∀ x c,X.env.cells.lookup x=some c→H c=none
 pin:∀ p∈X.pn++pins,s.heap.get? p.1=some p.2∧H p.1=none∧p.1≠X.env.locals∧p.1 ∉ X.fs∧∀ v,p.2.data≠.cell v
 hok:HOk X.prog X.w H s.heap
 len:σ.length=X.N.length
section
variable {X:Cx} {pins:List (Addr×Obj)} {σ:List (Option V)} {H H':Hp} {s:Shared} {h':Heap}
theorem Cx.Ok.nofr (ok:X.Ok) {b:Addr} {o:Obj} (e:X.base.get? b=some o):b ∉ X.fs:=fun hb=>by
 have:=(ok.funs.mem hb).1
 rw [e] at this; cases this
theorem Inv.bs (I:Inv X pins σ H s):∀ b o,X.base.get? b=some o→s.heap.get? b=some o∧H b=none:=fun b o e =>
 ⟨I.base.keep b o (I.ok.bs b o e).1 (I.ok.bs b o e).2 (I.ok.nofr e) (I.ok.noex b o e),I.base.free b o (I.ok.bs b o e).1 (I.ok.bs b o e).2 (I.ok.noex b o e)⟩
theorem Inv.bk (I:Inv X pins σ H s):∀ b o,X.base.get? b=some o→s.heap.get? b=some o:=fun b o e=>(I.bs b o e).1
theorem Inv.mod (I:Inv X pins σ H s):Mod X.K X.mg X.base:=I.ok.mod
theorem Inv.kIn (I:Inv X pins σ H s):X.K.In s.heap:=I.ok.mod.kin.keeps I.bk
theorem Inv.lt (I:Inv X pins σ H s):X.env.locals < s.heap.objs.size:=let ⟨_,hn,_⟩:=I.loc; hn.lt
theorem Inv.sz (I:Inv X pins σ H s):X.s₀.heap.objs.size≤s.heap.objs.size:=Au I.ok.above (Nat.le_of_lt I.lt)
theorem Inv.nofs (I:Inv X pins σ H s) {a:Addr} (h:s.heap.objs.size≤a):a ∉ X.fs:=fun hb=>by
 obtain ⟨_,o,ho,_⟩:=I.ok.funs.mem hb
 exact absurd (AX (AJ ho) (Au I.sz h)) (Nat.lt_irrefl _)
theorem Inv.cne (I:Inv X pins σ H s):∀ x c,X.env.cells.lookup x=some c→c≠X.env.locals:=fun x c e z=>by
 obtain ⟨v,o,ho,hd⟩:=I.cell x c e
 obtain ⟨m,⟨o',es,ep,ho',hd',_⟩,_⟩:=I.loc
 rw [z,ho'] at ho; cases ho; rw [hd'] at hd; cases hd
theorem Inv.funs (I:Inv X pins σ H s):s.heap.FunFrames X.base X.outer:=by
 have all:∀ (l:List Env),(∀ b∈frs l,b∈X.fs)→X.s₀.heap.FunFrames X.base l→s.heap.FunFrames X.base l:=by
  intro l
  induction l with
  | nil=>intro _ _; trivial
  | cons env r ih =>
   intro hs hl
   obtain ⟨hk,⟨L,o,hf,hn,ho,hd⟩,hr⟩:=hl
   have hL:L∈X.fs:=hs L (by unfold frs; rw [List.filterMap_cons,hf]; exact AZ)
   obtain ⟨sl,e⟩:=I.base.slot L o ho (I.ok.frf L hL) hL fun z=>I.ok.exfs L z hL
   exact ⟨hk,⟨L,_,hf,hn,e,hd⟩,ih (fun b hb=>hs b (by unfold frs; rw [List.filterMap_cons,hf]; exact Aa _ hb)) hr⟩
 exact all X.outer (fun _ hb=>hb) I.ok.funs
theorem Inv.stack (I:Inv X pins σ H s):s.heap.FunFrames X.base X.stack:=by
 rcases I.ok.stk with e | ⟨e,hf⟩
 ·rw [e]; exact I.funs
 ·rw [e]
  obtain ⟨m,hn,_⟩:=I.loc
  refine .cons (by rw [I.ok.kind]; decide) hf hn ?_ I.funs
  exact Heap.get?_none_of_le (Au I.ok.bsz I.ok.above)
theorem Inv.stkSub (I:Inv X pins σ H s):∀ b∈frs X.stack,b∈X.env.locals :: X.fs:=fun b hb=>by
 rcases I.ok.stk with e | ⟨e,hf⟩
 ·rw [e] at hb; exact Aa _ hb
 ·rw [e] at hb
  unfold frs at hb
  rw [List.filterMap_cons,hf] at hb
  exact hb
theorem Inv.stkFree (I:Inv X pins σ H s):∀ b∈frs X.stack,H b=none:=fun b hb=>by
 rcases AK.mp (I.stkSub b hb) with e | hb
 ·rw [e]; exact I.free
 ·obtain ⟨_,o,ho,_⟩:=I.ok.funs.mem hb
  exact I.base.free b o ho (I.ok.frf b hb) fun z=>I.ok.exfs b z hb
theorem Inv.step {g':Array GenState} {t':Nat} {d':Drawn} {ch:List Addr} (I:Inv X pins σ H s)
  (hch:∀ b∈ch,(b∈X.ex∨X.s₀.heap.objs.size≤b)∧b≠X.env.locals∧(∀ x c,X.env.cells.lookup x=some c→c≠b)∧∀ p∈X.pn++pins,p.1≠b)
  (keep:∀ b o,b≠X.env.locals→b ∉ X.fs→b ∉ ch→s.heap.get? b=some o→H b=none→h'.get? b=some o)
  (slot:∀ b o,b≠X.env.locals→b∈X.fs→b ∉ ch→s.heap.get? b=some o→H b=none→∃ sl,h'.get? b=some { o with slots:=sl }) (free:∀ b o,b ∉ ch→s.heap.get? b=some o→H b=none→H' b=none)
  (there:∀ b o,b ∉ ch→s.heap.get? b=some o→∃ o',h'.get? b=some o')
  (tups:∀ b xs,H b=some (.tup xs)→H' b=some (.tup xs)) (frzs:∀ b o u,H b=some (.frz o u)→H' b=some (.frz o u)) (tbls:∀ b ps,H b=some (.tbl ps)→∃ more,H' b=some (.tbl (ps++more)))
  (ns:∀ m,s.heap.Ns X.env.locals m→h'.Ns X.env.locals m) (hok:HOk X.prog X.w H' h') (hg:AllBare g') :
  Inv X pins σ H' { s with heap:=h',gens:=g',drawn:=d',toks:=t' }:=by
 have neL:∀ b o,X.s₀.heap.get? b=some o→b≠X.env.locals:=fun b o e=>AU (AX (AJ e) I.ok.above)
 have neC:∀ b o,X.s₀.heap.get? b=some o→b ∉ X.ex→b ∉ ch:=fun b o e hx hb=>by
  rcases (hch b hb).1 with z | z
  ·exact hx z
  ·exact absurd (AX (AJ e) z) (Nat.lt_irrefl _)
 have cellK:∀ x c,X.env.cells.lookup x=some c→∀ v,s.heap.IsCell c v→h'.IsCell c v:=fun x c e v ⟨o,ho,hd⟩=>by
  have nch:c ∉ ch:=fun z=>(hch c z).2.2.1 x c e rfl
  by_cases hc:c∈X.fs
  ·obtain ⟨sl,q⟩:=slot c o (I.cne x c e) hc nch ho (I.freeC x c e)
   exact ⟨_,q,hd⟩
  ·exact ⟨o,keep c o (I.cne x c e) hc nch ho (I.freeC x c e),hd⟩
 refine ⟨I.ok,I.os,hg,⟨fun b o e n hb hx=>?_,fun b o e n hb hx=>?_,fun b o e n hx=>?_,fun b o e hx=>?_,fun b xs e=>tups b xs (I.base.tups b xs e),fun b o xs e=>frzs b o xs (I.base.frzs b o xs e),fun b ps e=>?_⟩,?_,fun x c e=>?_,?_,fun x c e=>?_,fun p hp=>?_,hok,I.len⟩
 ·exact keep b o (neL b o e) hb (neC b o e hx) (I.base.keep b o e n hb hx) (I.base.free b o e n hx)
 ·obtain ⟨sl,e1⟩:=I.base.slot b o e n hb hx
  obtain ⟨sl',e2⟩:=slot b _ (neL b o e) hb (neC b o e hx) e1 (I.base.free b o e n hx)
  exact ⟨sl',e2⟩
 ·obtain ⟨o',e1⟩:=I.base.there b o e hx
  exact free b o' (neC b o e hx) e1 (I.base.free b o e n hx)
 ·obtain ⟨o',e1⟩:=I.base.there b o e hx
  exact there b o' (neC b o e hx) e1
 ·obtain ⟨m1,e1⟩:=I.base.tbls b ps e
  obtain ⟨m2,e2⟩:=tbls b _ e1
  exact ⟨m1++m2,by rw [e2,Array.append_assoc]⟩
 ·obtain ⟨m,hn,hl⟩:=I.loc
  refine ⟨m,ns m hn,fun i x v e1 e2 e3=>?_⟩
  obtain ⟨u,r,l⟩:=hl i x v e1 e2 e3
  refine ⟨u,r,?_⟩
  rcases l with l | ⟨k,c,e,z⟩
  ·exact .inl l
  ·exact .inr ⟨k,c,e,cellK x c e _ z⟩
 ·obtain ⟨v,z⟩:=I.cell x c e
  exact ⟨v,cellK x c e v z⟩
 ·obtain ⟨m,⟨o,_,_,ho,_⟩,_⟩:=I.loc
  exact free _ o (fun z=>(hch _ z).2.1 rfl) ho I.free
 ·obtain ⟨v,o,ho,hd⟩:=I.cell x c e
  exact free c o (fun z=>(hch c z).2.2.1 x c e rfl) ho (I.freeC x c e)
 ·obtain ⟨e,n,ne,nf,d⟩:=I.pin p hp
  have nch:p.1 ∉ ch:=fun z=>(hch p.1 z).2.2.2 p hp rfl
  exact ⟨keep p.1 p.2 ne nf nch e n,free p.1 p.2 nch e n,ne,nf,d⟩
theorem Inv.un {t':Nat} (I:Inv X pins σ H s) (u:Un X.fs [] H H' s.heap h') (hok:HOk X.prog X.w H' h'):Inv X pins σ H' { s with heap:=h',toks:=t' }:=by
 obtain ⟨m,⟨o,es,ep,ho,r⟩,_⟩:=id I.loc
 obtain ⟨sl,hL⟩:=u.any ho I.free (by simp)
 exact I.step (g':=s.gens) (d':=s.drawn) (ch:=[]) (fun _ z=>nomatch z) (fun b o _ hb _ e n=>u.keep b o e n hb (by simp)) (fun b o _ hb _ e n=>u.slot b o e n hb (by simp)) (fun b o _ e n=>u.free b o e n (by simp)) (fun b o _ e=>u.there b o e (by simp)) u.tups u.frzs u.tbls (fun m' hm=>by
  obtain ⟨o',es',ep',ho',r'⟩:=hm
  rw [ho] at ho'; cases ho'
  exact ⟨_,es',ep',hL,r'⟩) hok I.bare
theorem Inv.call {g':Array GenState} {t':Nat} {d':Drawn} {ch:List Addr} (I:Inv X pins σ H s) (u:Un (frs X.stack) ch H H' s.heap h') (hok:HOk X.prog X.w H' h') (hg:AllBare g')
  (hch:∀ b∈ch,(b∈X.ex∨X.s₀.heap.objs.size≤b)∧b≠X.env.locals∧(∀ x c,X.env.cells.lookup x=some c→c≠b)∧∀ p∈X.pn++pins,p.1≠b) :
  Inv X pins σ H' { s with heap:=h',gens:=g',drawn:=d',toks:=t' }:=by
 obtain ⟨m,⟨o,es,ep,ho,r⟩,_⟩:=id I.loc
 obtain ⟨sl,hL⟩:=u.any ho I.free fun z=>(hch _ z).2.1 rfl
 exact I.step (ch:=ch) hch (fun b o hL hb hc e n=>u.keep b o e n (fun z=>(AK.mp (I.stkSub b z)).elim hL hb) hc) (fun b o _ _ hc e n=>u.any e n hc) (fun b o hc e n=>u.free b o e n hc) (fun b o hc e=>u.there b o e hc) u.tups u.frzs u.tbls (fun m' hm=>by
  obtain ⟨o',es',ep',ho',r'⟩:=hm
  rw [ho] at ho'; cases ho'
  exact ⟨_,es',ep',hL,r'⟩) hok hg
theorem Inv.turned {t':Nat} {it:Addr} (I:Inv X pins σ H s) (k:∀ b o,b≠it→s.heap.get? b=some o→h'.get? b=some o) (hn:H it=none) (hL:it≠X.env.locals)
  (h1:it∈X.ex∨X.s₀.heap.objs.size≤it) (h2:∀ x c,X.env.cells.lookup x=some c→c≠it) (h3:∀ p∈X.pn++pins,p.1≠it):Inv X pins σ H { s with heap:=h',toks:=t' }:=by
 have nit:∀ b u,H b=some u→b≠it:=fun b u e z=>by rw [z,hn] at e; cases e
 refine I.step (g':=s.gens) (d':=s.drawn) (ch:=[it]) (fun b hb=>?_) (fun b o _ _ hc e _=>k b o (fun z=>hc (by simp [z])) e) (fun b o _ _ hc e _=>⟨o.slots,k b o (fun z=>hc (by simp [z])) e⟩) (fun _ _ _ _ n=>n)
  (fun b o hc e=>⟨o,k b o (fun z=>hc (by simp [z])) e⟩) (fun _ _ e=>e) (fun _ _ _ e=>e) (fun b ps e=>⟨#[],by rw [e]; simp⟩) (fun m hm=>?_) (fun b u e=>?_) I.bare
 ·have e:b=it:=by simpa using hb
  subst e
  exact ⟨h1,hL,h2,h3⟩
 ·obtain ⟨o,es,ep,ho,r⟩:=hm
  exact ⟨o,es,ep,k _ o (Ne.symm hL) ho,r⟩
 ·refine (I.hok b u e).stay (fun c v hc q=>k c v ?_ q) (fun _ q=>q) fun _ _ q=>q
  rcases hc with z | z
  ·rw [z]; exact nit b u e
  ·exact nit c _ z
theorem Inv.tok (I:Inv X pins σ H s) (t:Nat):Inv X pins σ H { s with toks:=t }:=I.un (h':=s.heap) (t':=t) Un.refl I.hok
theorem Inv.kept {t':Nat} (I:Inv X pins σ H s) (k:∀ b u,s.heap.get? b=some u→h'.get? b=some u):Inv X pins σ H { s with heap:=h',toks:=t' }:=I.un (Un.kept k) (I.hok.kept k)
theorem Inv.laid {a:Addr} {o:HO} {t':Nat} (I:Inv X pins σ H s) (k:∀ b u,s.heap.get? b=some u→h'.get? b=some u) (hp:s.heap.objs.size≤a) (new:ObjOk X.prog X.w (upd H a o) h' a o) :
  Inv X pins σ (upd H a o) { s with heap:=h',toks:=t' }:=I.un (Un.laid k hp (I.hok.fresh hp)) (I.hok.laid k hp new)
theorem Inv.write {x e:Addr} {o:HO} {t':Nat} (I:Inv X pins σ H s) (mu:Mut (H x)) (he:e=x∨H e=some (.own x)) (k:∀ b u,b≠e→s.heap.get? b=some u→h'.get? b=some u) (heo:∃ u,h'.get? e=some u)
  (new:ObjOk X.prog X.w (upd H x o) h' x o):Inv X pins σ (upd H x o) { s with heap:=h',toks:=t' }:=I.un (Un.write mu he k heo) (I.hok.write mu he k heo new)
theorem Inv.pins_of {pins':List (Addr×Obj)} (I:Inv X pins σ H s) (h:∀ p∈pins',s.heap.get? p.1=some p.2∧H p.1=none∧p.1≠X.env.locals∧p.1 ∉ X.fs∧∀ v,p.2.data≠.cell v):Inv X pins' σ H s :=
 ⟨I.ok,I.os,I.bare,I.base,I.loc,I.cell,I.free,I.freeC,fun p hp=>(AW.mp hp).elim (fun z=>I.pin p (List.mem_append_left _ z)) (h p),I.hok,I.len⟩
theorem nodup_ix {N:List Str} (hN:N.Nodup) {i j:Nat} {x:Str} (a:N[i]?=some x) (b:N[j]?=some x):i=j:=by
 obtain ⟨h1,e1⟩:=AF.mp a
 obtain ⟨h2,e2⟩:=AF.mp b
 exact (List.getElem_inj hN).mp (e1.trans e2.symm)
theorem store_ok2 {M:Model} {A:Around} {E:Value→Shared→Prop} {i:Nat} {x:Str} {v:V} {u:Value} {Q:Unit→Shared→Prop} (I:Inv X pins σ H s) (hN:X.N.Nodup) (hi:X.N[i]?=some x) (hx:Loc X.env.scope x) (r:RelV v u)
  (h:∀ s',Inv X pins (σ.set i (some v)) H s'→(∃ a,Heap.SameBut a s.heap s'.heap∧(a=X.env.locals∨X.env.cells.lookup x=some a))→Q () s') (hf:X.fn x=true∨X.env.scope.names.lookup x=some .local:=by first | exact .inl rfl | exact .inr rfl | assumption):wpAny M A (storeName X.env x u) Q E s:=by
 obtain ⟨m,hn,hl⟩:=id I.loc
 have hcls:(X.env.scope.kind == .class || (X.env.scope.kind == .module && X.env.locals != X.env.globals))=false:=by rw [I.ok.kind]; rfl
 have hiσ:i < σ.length:=by rw [I.len]; exact (AF.mp hi).1
 have cne:=I.cne
 have tracked:∀ {a:Addr} {h':Heap},(∃ o,s.heap.get? a=some o∧H a=none)→Heap.SameBut a s.heap h'→HOk X.prog X.w H h':=fun {a h'} ha hs b ob e=>by
  obtain ⟨_,_,hfree⟩:=ha
  refine (I.hok b ob e).stay (fun c w' hc q=>(hs.2 c ?_).trans q) (fun _ q=>q) fun _ _ q=>q
  rintro rfl
  rcases hc with rfl | hc
  ·rw [hfree] at e; cases e
  ·rw [hfree] at hc; cases hc
 rcases hx with hk | hk
 ·refine wpAny_storeName_local hk hn (fun h' hn' hs=>?_) hcls
  obtain ⟨oL,_,_,hoL,_⟩:=id hn
  refine h _ ⟨I.ok,I.os,I.bare,⟨fun b o e n hb hx=>?_,fun b o e n hb hx=>?_,I.base.free,fun b o e hx=>?_,I.base.tups,I.base.frzs,I.base.tbls⟩,⟨_,hn',fun j y v' e1 e2 e3=>?_⟩,fun y c e=>?_,I.free,I.freeC,fun p hp=>?_,tracked ⟨oL,hoL,I.free⟩ hs,by simpa using I.len⟩ ⟨_,hs,.inl rfl⟩
  ·exact (hs.2 b (AU (AX (AJ e) I.ok.above))).trans (I.base.keep b o e n hb hx)
  ·obtain ⟨sl,e1⟩:=I.base.slot b o e n hb hx
   exact ⟨sl,(hs.2 b (AU (AX (AJ e) I.ok.above))).trans e1⟩
  ·obtain ⟨o',e1⟩:=I.base.there b o e hx
   exact ⟨o',(hs.2 b (AU (AX (AJ e) I.ok.above))).trans e1⟩
  ·by_cases hj:j=i
   ·subst hj
    rw [hi] at e1; cases e1
    rw [List.getElem?_set_self hiσ] at e2
    cases e2
    exact ⟨u,r,.inl ⟨hk,by simp⟩⟩
   ·rw [List.getElem?_set_ne (Ne.symm hj)] at e2
    obtain ⟨u',r',q⟩:=hl j y v' e1 e2 e3
    refine ⟨u',r',?_⟩
    rcases q with ⟨k,e⟩ | ⟨k,c,e,z⟩
    ·refine .inl ⟨k,?_⟩
     have:y≠x:=fun e=>hj (nodup_ix hN e1 (e ▸ hi))
     simp [this,e]
    ·exact .inr ⟨k,c,e,z.sameBut hs (cne y c e)⟩
  ·obtain ⟨w',z⟩:=I.cell y c e
   exact ⟨w',z.sameBut hs (cne y c e)⟩
  ·obtain ⟨e,n,ne,nf,d⟩:=I.pin p hp
   exact ⟨(hs.2 p.1 ne).trans e,n,ne,nf,d⟩
 ·have hfn:X.fn x=true:=by
   rcases hf with z | z
   ·exact z
   ·rw [z] at hk; cases hk
  obtain ⟨c,hc⟩:=I.ok.has x (.inl hk)
  obtain ⟨w',z⟩:=I.cell x c hc
  refine wpAny_storeName_cell I.ok.kind hk hc z (fun h' hc' hs=>?_)
  obtain ⟨oc,hoc,hocd⟩:=id z
  refine h { s with heap:=h' } ⟨I.ok,I.os,I.bare,⟨fun b o e n hb hx=>?_,fun b o e n hb hx=>?_,I.base.free,fun b o e hx=>?_,I.base.tups,I.base.frzs,I.base.tbls⟩,⟨m,hn.sameBut hs (Ne.symm (cne x c hc)),fun j y v' e1 e2 e3=>?_⟩,fun y c' e=>?_,I.free,I.freeC,fun p hp=>?_,tracked ⟨oc,hoc,I.freeC x c hc⟩ hs,by simpa using I.len⟩ ⟨c,hs,.inr hc⟩
  ·exact (hs.2 b (AU (AX (AJ e) (I.ok.cab x c hfn hc)))).trans (I.base.keep b o e n hb hx)
  ·obtain ⟨sl,e1⟩:=I.base.slot b o e n hb hx
   exact ⟨sl,(hs.2 b (AU (AX (AJ e) (I.ok.cab x c hfn hc)))).trans e1⟩
  ·obtain ⟨o',e1⟩:=I.base.there b o e hx
   exact ⟨o',(hs.2 b (AU (AX (AJ e) (I.ok.cab x c hfn hc)))).trans e1⟩
  ·by_cases hj:j=i
   ·subst hj
    rw [hi] at e1; cases e1
    rw [List.getElem?_set_self hiσ] at e2
    cases e2
    exact ⟨u,r,.inr ⟨.inl hk,c,hc,hc'⟩⟩
   ·rw [List.getElem?_set_ne (Ne.symm hj)] at e2
    obtain ⟨u',r',q⟩:=hl j y v' e1 e2 e3
    refine ⟨u',r',?_⟩
    rcases q with q | ⟨k,c',e,z'⟩
    ·exact .inl q
    ·refine .inr ⟨k,c',e,z'.sameBut hs ?_⟩
     rintro rfl
     exact hj (nodup_ix hN e1 (I.ok.inj _ _ _ e hc ▸ hi))
  ·by_cases hcc:c'=c
   ·subst hcc; exact ⟨_,hc'⟩
   ·obtain ⟨w2,z2⟩:=I.cell y c' e
    exact ⟨w2,z2.sameBut hs hcc⟩
  ·obtain ⟨e,n,ne,nf,d⟩:=I.pin p hp
   refine ⟨(hs.2 p.1 ?_).trans e,n,ne,nf,d⟩
   intro q
   rw [q,hoc] at e
   have q':oc=p.2:=Aw e
   exact d w' (by rw [← q']; exact hocd)
theorem store_ok {M:Model} {A:Around} {E:Value→Shared→Prop} {i:Nat} {x:Str} {v:V} {u:Value} {Q:Unit→Shared→Prop} (I:Inv X pins σ H s) (hN:X.N.Nodup) (hi:X.N[i]?=some x) (hx:Loc X.env.scope x) (r:RelV v u)
  (h:∀ s',Inv X pins (σ.set i (some v)) H s'→Q () s') (hf:X.fn x=true∨X.env.scope.names.lookup x=some .local:=by first | exact .inl rfl | exact .inr rfl | assumption):wpAny M A (storeName X.env x u) Q E s :=
 store_ok2 I hN hi hx r (fun s' I' _=>h s' I') hf
theorem Inv.call' {s':Shared} {ch:List Addr} (I:Inv X pins σ H s) (ho:s'.os=s.os) (u:Un (frs X.stack) ch H H' s.heap s'.heap) (hok:HOk X.prog X.w H' s'.heap) (hg:AllBare s'.gens)
  (hch:∀ b∈ch,(b∈X.ex∨X.s₀.heap.objs.size≤b)∧b≠X.env.locals∧(∀ x c,X.env.cells.lookup x=some c→c≠b)∧∀ p∈X.pn++pins,p.1≠b):Inv X pins σ H' s':=by
 obtain ⟨h',g',d',t',o'⟩:=s'
 have e:o'=s.os:=ho
 subst e
 exact I.call (g':=g') (t':=t') (d':=d') u hok hg hch
end
abbrev XK:=Value→Option Addr→Hp→Prop
abbrev St:=List (Option V)
abbrev VK:=V→Hp→Prop
abbrev TE:=St→Hp→VK→Prop
abbrev TT:=St→Hp→(Bool→Hp→Prop)→Prop
abbrev TA:=St→Hp→(List V→Hp→Prop)→Prop
structure Ends where
 nx:St→Hp→Prop
 rt:VK
 bk:St→Hp→Prop:=fun _ _=>False
 ct:St→Hp→Prop:=fun _ _=>False
abbrev TS:=Ends→St→Hp→Prop
def EP (X:Cx) (pins:List (Addr×Obj)) (σ:St) (Q:VK) (u:Value) (s':Shared):Prop:=∃ v H',Inv X pins σ H' s'∧RelV v u∧Q v H'
def TP (X:Cx) (pins:List (Addr×Obj)) (σ:St) (Q:Bool→Hp→Prop) (b:Bool) (s':Shared):Prop:=∃ H',Inv X pins σ H' s'∧Q b H'
def AP (X:Cx) (pins:List (Addr×Obj)) (σ:St) (Q:List V→Hp→Prop) (us:List Value) (s':Shared):Prop:=∃ vs H',Inv X pins σ H' s'∧Vals vs us∧Q vs H'
def SP (X:Cx) (pins:List (Addr×Obj)) (D:Ends) (f:Flow) (s':Shared):Prop :=
 match f with
 | .next=>∃ σ' H',Inv X pins σ' H' s'∧D.nx σ' H'
 | .brk=>∃ σ' H',Inv X pins σ' H' s'∧D.bk σ' H'
 | .cont=>∃ σ' H',Inv X pins σ' H' s'∧D.ct σ' H'
 | .ret u=>∃ v σ' H',Inv X pins σ' H' s'∧RelV v u∧D.rt v H'
def PE (X:Cx) (e:Expr) (t:TE):Prop :=
 ∀ (pins:List (Addr×Obj)) (s:Shared) (σ:St) (H:Hp) (Q:VK),Inv X pins σ H s→t σ H Q→wpAny (model X.prog X.w) X.A (eval e X.env) (EP X pins σ Q) X.xe s
def PT (X:Cx) (e:Expr) (t:TT):Prop :=
 ∀ (pins:List (Addr×Obj)) (s:Shared) (σ:St) (H:Hp) (Q:Bool→Hp→Prop),Inv X pins σ H s→t σ H Q→wpAny (model X.prog X.w) X.A (isTrue e X.env (eval e X.env)) (TP X pins σ Q) X.xe s
def PW (X:Cx) (e:Expr) (t:TT):Prop :=
 ∀ (whole:Sem Value) (pins:List (Addr×Obj)) (s:Shared) (σ:St) (H:Hp) (Q:Bool→Hp→Prop),Inv X pins σ H s→t σ H Q→wpAny (model X.prog X.w) X.A (isTrue e X.env whole) (TP X pins σ Q) X.xe s
theorem PW.pt {X:Cx} {e:Expr} {t:TT} (h:PW X e t):PT X e t:=h _
def PA (X:Cx) (es:List Expr) (t:TA):Prop :=
 ∀ (pos:Pos) (pins:List (Addr×Obj)) (s:Shared) (σ:St) (H:Hp) (Q:List V→Hp→Prop),Inv X pins σ H s→t σ H Q→wpAny (model X.prog X.w) X.A (spliced (backTo pos (Ak es X.env))) (AP X pins σ Q) X.xe s
def PS (X:Cx) (st:Stmt) (t:TS):Prop :=
 ∀ (pins:List (Addr×Obj)) (s:Shared) (σ:St) (H:Hp) (D:Ends),Inv X pins σ H s→t D σ H→wpAny (model X.prog X.w) X.A (exec st X.env) (SP X pins D) X.xe s
def PSs (X:Cx) (st:List Stmt) (t:TS):Prop :=
 ∀ (pins:List (Addr×Obj)) (s:Shared) (σ:St) (H:Hp) (D:Ends),Inv X pins σ H s→t D σ H→wpAny (model X.prog X.w) X.A (execs st X.env) (SP X pins D) X.xe s
theorem thn {α:Type} {t:Sem α} {Q Q':α→Shared→Prop} {M:Model} {A:Around} {E:Value→Shared→Prop} {s:Shared} (h:wpAny M A t Q E s) (hQ:∀ a s,Q a s→Q' a s):wpAny M A t Q' E s:=wpAny_mono h hQ fun _ _ x=>x
section
variable {X:Cx}
theorem bin {a b:Expr} {ta tb:TE} (ha:PE X a ta) (hb:PE X b tb) {pins:List (Addr×Obj)} {s:Shared} {σ:St} {H:Hp} {R:V→V→Hp→Prop} (I:Inv X pins σ H s) (h:ta σ H fun x H1=>tb σ H1 fun y H2=>R x y H2)
  {α:Type} {Q:α→Shared→Prop} {f:Value→Value→Sem α}
  (hf:∀ v u s2 x y H2,Inv X pins σ H2 s2→RelV x v→RelV y u→R x y H2→wpAny (model X.prog X.w) X.A (f v u) Q X.xe s2) :
  wpAny (model X.prog X.w) X.A (eval a X.env) (fun v s₁=>wpAny (model X.prog X.w) X.A (eval b X.env) (fun u s₂=>wpAny (model X.prog X.w) X.A (f v u) Q X.xe s₂) X.xe s₁) X.xe s:=by
 refine thn (ha pins s σ H _ I h) fun v s1 ⟨x,H1,I1,r1,q1⟩=>?_
 refine thn (hb pins s1 σ H1 _ I1 q1) fun u s2 ⟨y,H2,I2,r2,q2⟩=>?_
 exact hf v u s2 x y H2 I2 r1 r2 q2
def tVar (i:Nat):TE:=fun σ H Q=>∃ v,σ[i]?=some (some v)∧Q v H
def tC (v:V):TE:=fun _ H Q=>Q v H
theorem pe_var {i:Nat} {x:Str} {pos:Pos} (hN:X.N[i]?=some x) (hv:Vis X.env.scope x) (hd:(x == ("__debug__":Str))=false:=by decide) (hcd:(x == ("__classdict__":Str))=false:=by decide):PE X (.Name x pos) (tVar i):=by
 intro pins s σ H Q I h
 obtain ⟨v,e,h⟩:=h
 obtain ⟨m,hn,hl⟩:=I.loc
 obtain ⟨u,r,l⟩:=hl i x v hN e hv
 have fin:EP X pins σ Q u s:=⟨v,H,I,r,h⟩
 rcases l with ⟨hk,hm⟩ | ⟨hk,c,hc,hcell⟩
 ·exact wpAny_Name (wpAny_loadName_local I.ok.kind hk hn hm fin) hd
 ·rcases hk with hk | hk
  ·exact wpAny_Name (wpAny_loadName_cell I.ok.kind hk hc hcell fin) hd
  ·exact wpAny_Name (wpAny_loadName_free I.ok.kind hk hc hcell fin hcd) hd
theorem pe_int {i j pos}:PE X (.Constant (.int i) j pos) (tC (.int i)):=fun _ _ _ H _ I h=>wpAny_Constant_int ⟨.int i,H,I.tok _,⟨_,rfl⟩,h⟩
theorem pe_bl {b j pos}:PE X (.Constant (.bool b) j pos) (tC (.bl b)):=fun _ _ _ H _ I h=>Constant_bool ⟨.bl b,H,I,rfl,h⟩
theorem pe_non {j pos}:PE X (.Constant .none j pos) (tC .non):=fun _ _ _ H _ I h=>Constant_none ⟨.non,H,I,rfl,h⟩
theorem pe_str {x j pos}:PE X (.Constant (.str x) j pos) (tC (.str x)):=fun _ _ _ H _ I h=>Calls.Constant_str ⟨.str x,H,I.tok _,⟨_,rfl⟩,h⟩
def Gl (X:Cx) (x:Str):Prop:=X.env.kindOf x=some .globalImplicit
theorem ld_glob {E:Value→Shared→Prop} {pins:List (Addr×Obj)} {s:Shared} {σ:St} {H:Hp} {x:Str} {u:Value} {pos:Pos} {Q:Value→Shared→Prop} (I:Inv X pins σ H s) (hg:Gl X x) (hm:X.mg x=some u) (h:Q u s)
  (hd:(x == ("__debug__":Str))=false:=by decide):wpAny (model X.prog X.w) X.A (eval (.Name x pos) X.env) Q E s :=
 Calls.Name_function_global I.ok.kind hg (Calls.loadGlobal_global (by rw [I.ok.glob]; exact I.mod.glob.keeps I.bk) hm h) hd
theorem ld_blt {E:Value→Shared→Prop} {pins:List (Addr×Obj)} {s:Shared} {σ:St} {H:Hp} {x:Str} {u:Value} {pos:Pos} {Q:Value→Shared→Prop} (I:Inv X pins σ H s) (hg:Gl X x) (hm:X.mg x=none) (hv:bootBuiltins x=some u) (h:Q u s)
  (hn:x≠"__name__":=by decide) (hd:(x == ("__debug__":Str))=false:=by decide):wpAny (model X.prog X.w) X.A (eval (.Name x pos) X.env) Q E s:=by
 obtain ⟨mb,h1,h2⟩:=I.mod.blt
 exact Calls.Name_function_global I.ok.kind hg (Calls.loadGlobal_builtin (by rw [I.ok.glob]; exact I.mod.glob.keeps I.bk) hm (by rw [I.ok.blt]; exact h1.keeps I.bk) ((h2 x hn).trans hv) h) hd
theorem pe_glob {x:Str} {v:V} {u:Value} {pos:Pos} (hg:Gl X x) (hm:X.mg x=some u) (r:RelV v u) (hd:(x == ("__debug__":Str))=false:=by decide):PE X (.Name x pos) (tC v) :=
 fun _ _ _ H _ I h=>ld_glob I hg hm ⟨v,H,I,r,h⟩ hd
variable {a b:Expr} {ta tb:TE} {pos:Pos}
variable {tA tB':TT} {rest:List Expr}
def tAnd (t u:TT):TT:=fun σ H Q=>t σ H fun c H1=>if c=true then u σ H1 Q else Q false H1
def tOr (t u:TT):TT:=fun σ H Q=>t σ H fun c H1=>if c=true then Q true H1 else u σ H1 Q
def tNot (t:TT):TT:=fun σ H Q=>t σ H fun c H1=>Q (!c) H1
theorem pw_and1 (ha:PT X a tA):PW X (.BoolOp .And [a] pos) tA:=by
 intro wh pins s σ H Q I h
 refine isTrue_and (thn (ha pins s σ H Q I h) fun c s1 e=>?_)
 cases c with
 | true=>exact isTrue_and_nil e
 | false=>exact e
theorem pw_or1 (ha:PT X a tA):PW X (.BoolOp .Or [a] pos) tA:=by
 intro wh pins s σ H Q I h
 refine isTrue_or (thn (ha pins s σ H Q I h) fun c s1 e=>?_)
 cases c with
 | false=>exact isTrue_or_nil e
 | true=>exact e
theorem pw_and (ha:PT X a tA) (hb:PW X (.BoolOp .And (b :: rest) pos) tB'):PW X (.BoolOp .And (a :: b :: rest) pos) (tAnd tA tB'):=by
 intro wh pins s σ H Q I h
 refine isTrue_and (thn (ha pins s σ H _ I h) fun c s1 ⟨H1,I1,q1⟩=>?_)
 cases c with
 | true=>exact hb wh pins s1 σ H1 Q I1 q1
 | false=>exact ⟨H1,I1,q1⟩
theorem pw_or (ha:PT X a tA) (hb:PW X (.BoolOp .Or (b :: rest) pos) tB'):PW X (.BoolOp .Or (a :: b :: rest) pos) (tOr tA tB'):=by
 intro wh pins s σ H Q I h
 refine isTrue_or (thn (ha pins s σ H _ I h) fun c s1 ⟨H1,I1,q1⟩=>?_)
 cases c with
 | true=>exact ⟨H1,I1,q1⟩
 | false=>exact hb wh pins s1 σ H1 Q I1 q1
theorem pt_not (ha:PT X a tA):PT X (.UnaryOp .Not a pos) (tNot tA):=by
 intro pins s σ H Q I h
 exact isTrue_not (ha pins s σ H (fun c H1=>Q (!c) H1) I h)
def tAndV (ta tb:TE):TE:=fun σ H Q=>ta σ H fun x H1=>∃ c,x=.bl c∧if c=true then tb σ H1 Q else Q (.bl false) H1
theorem pe_one {op} {t:TE} (h:PE X a t):PE X (.BoolOp op [a] pos) t:=fun pins s σ H Q I hw=>BoolOp_one (h pins s σ H Q I hw)
theorem pe_and (ha:PE X a ta) (hb:PE X (.BoolOp .And (b :: rest) pos) tb):PE X (.BoolOp .And (a :: b :: rest) pos) (tAndV ta tb):=by
 intro pins s σ H Q I h
 refine BoolOp_and (thn (ha pins s σ H _ I h) fun v s1 ⟨x,H1,I1,r1,q1⟩=>?_)
 obtain ⟨c,rfl,q1⟩:=q1
 cases r1
 refine wpAny_truthy_bool ?_
 cases c with
 | true=>exact hb pins s1 σ H1 Q I1 q1
 | false=>exact ⟨.bl false,H1,I1,rfl,q1⟩
end
def SqL (K:PySem.W.Frag) (H:Hp) (a:Addr) (xs:List V):Prop :=
 Rd H a (.lst xs) ∨
  ∃ (o:Obj) (its:Array Value) (n:Nat),K.lookup a=some o∧o.cls=.type "list"∧o.dict=none∧o.data=.seq its n∧its.size≤AR∧Vals xs its.toList
def SqT (K:PySem.W.Frag) (H:Hp) (a:Addr) (xs:List V):Prop :=
 Rd H a (.tup xs) ∨
  ∃ (o:Obj) (its:Array Value) (n:Nat),K.lookup a=some o∧o.cls=.type "tuple"∧o.data=.seq its n∧its.size≤AR∧Vals xs its.toList
def absV:Value→Option V
 | .none=>some .non
 | .bool b=>some (.bl b)
 | .int i _=>some (.int i)
 | .str x _=>some (.str x)
 | .bytes b _=>some (.byt b)
 | .float b _=>some (.flt b)
 | .ref a=>some (.ref a)
 | .type n=>some (.ty n)
 | _=>none
theorem RelV.abs {x:V} {u:Value} (r:RelV x u):absV u=some x:=by
 cases x with
 | non=>cases r; rfl
 | bl _=>cases r; rfl
 | int _=>obtain ⟨t,rfl⟩:=r; rfl
 | str _=>obtain ⟨t,rfl⟩:=r; rfl
 | byt _=>obtain ⟨t,rfl⟩:=r; rfl
 | flt _=>obtain ⟨t,rfl⟩:=r; rfl
 | ref _=>cases r; rfl
 | ty _=>cases r; rfl
theorem RelV.inj {x y:V} {u:Value} (r:RelV x u) (q:RelV y u):x=y:=Aw (r.abs.symm.trans q.abs)
theorem Vals.inj:∀ {xs ys:List V} {us:List Value},Vals xs us→Vals ys us→xs=ys
 | _,_,_,.nil,.nil=>rfl
 | _,_,_,.cons r t,.cons r' t'=>by rw [r.inj r',Vals.inj t t']
section
variable {X:Cx} {pins:List (Addr×Obj)} {σ:St} {H:Hp} {s:Shared} {a:Addr} {xs ys:List V}
theorem SqL.of {K:PySem.W.Frag} (h:H a=some (.lst xs)):SqL K H a xs:=.inl (.inl h)
theorem SqT.of {K:PySem.W.Frag} (h:H a=some (.tup xs)):SqT K H a xs:=.inl (.inl h)
theorem Inv.list (I:Inv X pins σ H s) (h:SqL X.K H a xs):∃ its:List Value,Vals xs its∧PlainL s.heap a its.toArray∧xs.length≤AR:=by
 rcases h with h | ⟨o,its,n,hk,hc,hd,hs,hz,r⟩
 ·obtain ⟨z,its,n,r,e⟩:=h.ok I.hok
  exact ⟨its,r,⟨_,n,e,rfl,rfl,rfl⟩,z⟩
 ·refine ⟨its.toList,r,⟨o,n,I.kIn a o hk,hc,hd,by simpa using hs⟩,?_⟩
  have e:=r.length
  simp only [Ac] at e
  omega
theorem Inv.tuple (I:Inv X pins σ H s) (h:SqT X.K H a xs):∃ its:List Value,Vals xs its∧IsTup s.heap a its.toArray∧xs.length≤AR:=by
 rcases h with h | ⟨o,its,n,hk,hc,hs,hz,r⟩
 ·obtain ⟨z,its,r,p⟩:=h.ok I.hok
  exact ⟨its,r,p,z⟩
 ·refine ⟨its.toList,r,⟨o,I.kIn a o hk,hc,n,by simpa using hs⟩,?_⟩
  have e:=r.length
  simp only [Ac] at e
  omega
theorem Inv.list_inj (I:Inv X pins σ H s) (h:SqL X.K H a xs) (h':SqL X.K H a ys):xs=ys:=by
 obtain ⟨its,r,⟨o,n,e,_,_,d⟩,_⟩:=I.list h
 obtain ⟨its',r',⟨o',n',e',_,_,d'⟩,_⟩:=I.list h'
 rw [e] at e'; cases e'
 rw [d] at d'
 injection d' with d1 _
 have:its=its':=by simpa using congrArg Array.toList d1
 subst this
 exact r.inj r'
end
abbrev Cx.wish (X:Cx) (E:Value→Shared→Prop):Cx:={ X with xe:=E }
theorem Cx.Ok.wish {X:Cx} (ok:X.Ok) (E:Value→Shared→Prop):(X.wish E).Ok :=
 ⟨ok.mod,ok.kind,ok.glob,ok.blt,ok.above,ok.inj,ok.has,ok.cab,ok.hd,ok.frames,ok.stk,ok.exf,ok.bs,ok.bsz,ok.noex,ok.exfs,ok.funs,ok.frf⟩
theorem Cx.Ok.unwish {X:Cx} {E:Value→Shared→Prop} (ok:(X.wish E).Ok):X.Ok :=
 ⟨ok.mod,ok.kind,ok.glob,ok.blt,ok.above,ok.inj,ok.has,ok.cab,ok.hd,ok.frames,ok.stk,ok.exf,ok.bs,ok.bsz,ok.noex,ok.exfs,ok.funs,ok.frf⟩
section
variable {X:Cx} {pins:List (Addr×Obj)} {σ:St} {H:Hp} {s:Shared} {E:Value→Shared→Prop}
theorem Inv.wish (I:Inv X pins σ H s) (E:Value→Shared→Prop):Inv (X.wish E) pins σ H s:=⟨I.ok.wish E,I.os,I.bare,I.base,I.loc,I.cell,I.free,I.freeC,I.pin,I.hok,I.len⟩
theorem Inv.unwish (I:Inv (X.wish E) pins σ H s):Inv X pins σ H s:=⟨I.ok.unwish,I.os,I.bare,I.base,I.loc,I.cell,I.free,I.freeC,I.pin,I.hok,I.len⟩
end
section
variable {X:Cx} {st:Stmt} {rest:List Stmt} {t u:TS} {e:Expr} {te:TE} {pos:Pos}
def tNext:TS:=fun D σ H=>D.nx σ H
def tSeq (t u:TS):TS:=fun D σ H=>t { D with nx:=u D } σ H
theorem pss_nil:PSs X [] tNext:=fun _ _ σ H _ I h=>wpAny_execs_nil ⟨σ,H,I,h⟩
theorem pss_cons (h1:PS X st t) (h2:PSs X rest u):PSs X (st :: rest) (tSeq t u):=by
 intro pins s σ H D I h
 refine wpAny_execs_cons (thn (h1 pins s σ H { D with nx:=u D } I h) fun f s1 q=>?_)
 cases f with
 | next =>
  obtain ⟨σ',H',I',q⟩:=q
  exact h2 pins s1 σ' H' D I' q
 | ret v=>exact q
 | brk=>exact q
 | cont=>exact q
theorem pss_one (h1:PS X st t):PSs X [st] t:=by
 intro pins s σ H D I h
 refine wpAny_execs_cons (thn (h1 pins s σ H D I h) fun f s1 q=>?_)
 cases f with
 | next=>exact wpAny_execs_nil q
 | ret v=>exact q
 | brk=>exact q
 | cont=>exact q
theorem Inv.quiet {pins:List (Addr×Obj)} {σ:St} {H:Hp} {s:Shared} (I:Inv X pins σ H s):interactive X.env=false:=by simp [interactive,I.ok.kind]
def tDrop (te:TE):TS:=fun D σ H=>te σ H fun _ H1=>D.nx σ H1
theorem ps_expr (he:PE X e te) (hs:swapsWith e none pos.line X.env=pure false:=by rfl):PS X (.Expr e pos) (tDrop te):=by
 intro pins s σ H D I h
 exact wpAny_Expr_any (thn (he pins s σ H _ I h) fun v s1 ⟨x,H1,I1,r1,q1⟩=>⟨σ,H1,I1,q1⟩) I.quiet hs
def tRet (te:TE):TS:=fun D σ H=>te σ H D.rt
theorem ps_ret (he:PE X e te):PS X (.Return (some e) pos) (tRet te):=by
 intro pins s σ H D I h
 exact wpAny_Return_some (thn (he pins s σ H _ I h) fun v s1 ⟨x,H1,I1,r1,q1⟩=>⟨x,σ,H1,I1,r1,q1⟩)
def tIfS (c:TT) (t u:TS):TS:=fun D σ H=>c σ H fun b H1=>if b=true then t D σ H1 else u D σ H1
theorem ps_if {c:Expr} {a b:List Stmt} {tc:TT} (hc:PT X c tc) (ha:PSs X a t) (hb:PSs X b u):PS X (.If c a b pos) (tIfS tc t u):=by
 intro pins s σ H D I h
 refine wpAny_If (thn (hc pins s σ H _ I h) fun d s1 ⟨H1,I1,q1⟩=>?_)
 cases d with
 | true=>exact ha pins s1 σ H1 D I1 q1
 | false=>exact hb pins s1 σ H1 D I1 q1
end
abbrev TG:=V→St→Hp→(St→Hp→Prop)→Prop
abbrev TGs:=List V→St→Hp→(St→Hp→Prop)→Prop
def PG (X:Cx) (target:Expr) (t:TG):Prop :=
 ∀ (pins:List (Addr×Obj)) (s:Shared) (σ:St) (H:Hp) (v:V) (u:Value) (Q:St→Hp→Prop),Inv X pins σ H s→RelV v u→t v σ H Q →
  wpAny (model X.prog X.w) X.A (assign target X.env u) (fun _ s'=>∃ σ' H',Inv X pins σ' H' s'∧Q σ' H') X.xe s
def PGs (X:Cx) (ts:List Expr) (t:TGs):Prop :=
 ∀ (pins:List (Addr×Obj)) (s:Shared) (σ:St) (H:Hp) (vs:List V) (us:List Value) (Q:St→Hp→Prop),Inv X pins σ H s→Vals vs us→t vs σ H Q →
  wpAny (model X.prog X.w) X.A (assignInOrder ((assignEach ts X.env).map (·.2)) us) (fun _ s'=>∃ σ' H',Inv X pins σ' H' s'∧Q σ' H') X.xe s
abbrev TSet:=V→V→V→Hp→(Hp→Prop)→Prop
def PSet (X:Cx) (t:TSet):Prop :=
 ∀ (pins:List (Addr×Obj)) (s:Shared) (σ:St) (H:Hp) (o i v:V) (ov iv u:Value) (Q:Hp→Prop),Inv X pins σ H s→RelV o ov→RelV i iv→RelV v u→t o i v H Q →
  wpAny (model X.prog X.w) X.A (setItem ov iv u) (fun _ s'=>∃ H',Inv X pins σ H' s'∧Q H') X.xe s
abbrev TIp:=V→V→Hp→VK→Prop
def PIp (X:Cx) (op:Operator) (t:TIp):Prop :=
 ∀ (pins:List (Addr×Obj)) (s:Shared) (σ:St) (H:Hp) (x y:V) (v u:Value) (Q:VK),Inv X pins σ H s→RelV x v→RelV y u→t x y H Q →
  wpAny (model X.prog X.w) X.A (inplaceOp op v u) (EP X pins σ Q) X.xe s
section
variable {X:Cx} {pos:Pos}
def gName (i:Nat):TG:=fun v σ H Q=>Q (σ.set i (some v)) H
theorem pg_name {i:Nat} {x:Str} (hN:X.N.Nodup) (hi:X.N[i]?=some x) (hx:Loc X.env.scope x) (hf:X.fn x=true∨X.env.scope.names.lookup x=some .local:=by first | exact .inl rfl | exact .inr rfl | assumption):PG X (.Name x pos) (gName i):=by
 intro pins s σ H v u Q I r h
 exact wpAny_assign_Name (store_ok I hN hi hx r (fun s' I'=>⟨_,H,I',h⟩) hf)
def gNil:TGs:=fun vs σ H Q=>vs=[]∧Q σ H
def gCons (t:TG) (u:TGs):TGs:=fun vs σ H Q=>∃ v r,vs=v :: r∧t v σ H fun σ' H'=>u r σ' H' Q
theorem pgs_nil:PGs X [] gNil:=by
 intro pins s σ H vs us Q I r h
 obtain ⟨e,h⟩:=h
 subst e
 cases r
 exact assignInOrder_nil ⟨σ,H,I,h⟩
theorem pgs_cons {e:Expr} {es:List Expr} {t:TG} {u:TGs} (h1:PG X e t) (h2:PGs X es u)
  (hs:(assignEach (e :: es) X.env).map (·.2)=assign e X.env :: (assignEach es X.env).map (·.2):=by rfl):PGs X (e :: es) (gCons t u):=by
 intro pins s σ H vs us Q I r h
 obtain ⟨v,vr,e1,h⟩:=h
 subst e1
 cases r with
 | cons r rr =>
  rw [hs]
  refine assignInOrder_cons (thn (h1 pins s σ H _ _ _ I r h) fun _ s1 ⟨σ1,H1,I1,q1⟩=>?_)
  exact h2 pins s1 σ1 H1 _ _ Q I1 rr q1
def gTup (K:PySem.W.Frag) (n:Nat) (t:TGs):TG:=fun v σ H Q=>∃ a xs,v=.ref a∧SqT K H a xs∧xs.length=n∧t xs σ H Q
theorem pg_tup {es:List Expr} {k:Nat} {t:TGs} {n:Nat} (hc:X.calm=true) (h:PGs X es t)
  (hn:(assignEach es X.env).length=n:=by rfl) (hst:(assignEach es X.env).findIdx? (·.1)=none:=by rfl):PG X (.Tuple es k pos) (gTup X.K n t):=by
 intro pins s σ H v u Q I r hw
 obtain ⟨a,xs,e1,hq,hl,hw⟩:=hw
 subst e1
 cases r
 obtain ⟨its,rv,ht,hz⟩:=I.tuple hq
 refine assign_Tuple_tuple (I.ok.hd hc) ht (by simp [hn,← hl,rv.length]) hst fun h' hx=>?_
 have I1:Inv X pins σ H { s with heap:=h' }:=I.kept (t':=s.toks) fun b o e=>hx b o (AU (AJ e)) e
 exact h pins _ σ H xs _ Q I1 (by simpa using rv) hw
def gSub (to ti:TE) (t:TSet):TG:=fun v σ H Q=>to σ H fun o H1=>ti σ H1 fun i H2=>t o i v H2 fun H3=>Q σ H3
theorem pg_sub {o i:Expr} {to ti:TE} {t:TSet} (ho:PE X o to) (hi:PE X i ti) (hs:PSet X t)
  (ha:∀ v,assign (.Subscript o i pos) X.env v=(do
   let ov ← holding [v] (eval o X.env)
   let iv ← holding [v,ov] (eval i X.env)
   standAt pos
   holding [v,ov,iv] (setItem ov iv v)
   release [v,ov,iv] []):=by intro _; rfl):PG X (.Subscript o i pos) (gSub to ti t):=by
 intro pins s σ H v u Q I r h
 rw [ha]
 refine AB (BE (thn (ho pins s σ H _ I h) fun ov s1 ⟨x,H1,I1,r1,q1⟩=>?_))
 refine AB (BE (thn (hi pins s1 σ H1 _ I1 q1) fun iv s2 ⟨y,H2,I2,r2,q2⟩=>?_))
 refine AB (wpAny_standAt (AB (BE (thn (hs pins s2 σ H2 x y v ov iv u _ I2 r1 r2 r q2) fun _ s3 ⟨H3,I3,q3⟩=>?_))))
 exact wpAny_release ⟨σ,H3,I3,q3⟩
def tAsg (te:TE) (g:TG):TS:=fun D σ H=>te σ H fun x H1=>g x σ H1 D.nx
theorem ps_asg {tg e:Expr} {te:TE} {g:TG} (he:PE X e te) (hg:PG X tg g) (hs:swapsWithSole [tg] e pos.line X.env=pure false:=by rfl) (hw:swappedStores [tg] e X.env=pure none:=by rfl)
  (h1:(assignEach [tg] X.env).map (·.2)=[assign tg X.env]:=by rfl):PS X (.Assign [tg] e pos) (tAsg te g):=by
 intro pins s σ H D I h
 refine wpAny_Assign_stores (thn (he pins s σ H _ I h) fun v s1 ⟨x,H1,I1,r1,q1⟩=>?_) hs hw
 rw [h1]
 exact thn (hg pins s1 σ H1 x v _ I1 r1 q1) fun _ s2 q=>q
theorem ps_set {i:Nat} {x:Str} {e:Expr} {te:TE} {pos':Pos} (hN:X.N.Nodup) (hi:X.N[i]?=some x) (hx:Loc X.env.scope x) (he:PE X e te) (hs:swapsWith e (some (.Name x pos')) pos.line X.env=pure false:=by rfl) (hf:X.fn x=true∨X.env.scope.names.lookup x=some .local:=by first | exact .inl rfl | exact .inr rfl | assumption) :
  PS X (.Assign [.Name x pos'] e pos) (tAsg te (gName i)):=by
 intro pins s σ H D I h
 refine wpAny_Assign_Name (thn (he pins s σ H _ I h) fun v s1 ⟨y,H1,I1,r1,q1⟩=>?_) hs
 exact store_ok I1 hN hi hx r1 (fun s2 I2=>⟨_,H1,I2,q1⟩) hf
def tAug (i:Nat) (te:TE) (ti:TIp):TS:=fun D σ H=>∃ x,σ[i]?=some (some x)∧te σ H fun y H1=>ti x y H1 fun z H2=>D.nx (σ.set i (some z)) H2
theorem ps_aug {i:Nat} {x:Str} {e:Expr} {te:TE} {op:Operator} {ti:TIp} {pos':Pos} (hN:X.N.Nodup) (hi:X.N[i]?=some x) (hx:Loc X.env.scope x) (he:PE X e te) (ho:PIp X op ti) (hf:X.fn x=true∨X.env.scope.names.lookup x=some .local:=by first | exact .inl rfl | exact .inr rfl | assumption) :
  PS X (.AugAssign (.Name x pos') op e pos) (tAug i te ti):=by
 intro pins s σ H D I h
 obtain ⟨v,e1,h⟩:=h
 obtain ⟨m,hn,hl⟩:=I.loc
 have vis:Vis X.env.scope x:=by rcases hx with k | k; exact .inl k; exact .inr (.inl k)
 obtain ⟨u,r,l⟩:=hl i x v hi e1 vis
 refine wpAny_AugAssign_Name ?_
 have go:wpAny (model X.prog X.w) X.A (eval e X.env) (fun w s₂=>wpAny (model X.prog X.w) X.A (inplaceOp op u w) (fun r s₃=>wpAny (model X.prog X.w) X.A (storeName X.env x r) (fun _=>SP X pins D .next) X.xe s₃) X.xe s₂) X.xe s:=by
  refine thn (he pins s σ H _ I h) fun w s1 ⟨y,H1,I1,r1,q1⟩=>?_
  refine thn (ho pins s1 σ H1 v y u w _ I1 r r1 q1) fun z s2 ⟨zv,H2,I2,r2,q2⟩=>?_
  exact store_ok I2 hN hi hx r2 (fun s3 I3=>⟨_,H2,I3,q2⟩) hf
 rcases l with ⟨hk,hm⟩ | ⟨hk,c,hc,hcell⟩
 ·exact wpAny_loadName_local I.ok.kind hk hn hm go
 ·rcases hk with hk | hk
  ·exact wpAny_loadName_cell I.ok.kind hk hc hcell go
  ·rcases hx with k | k
   ·have:X.env.scope.names.lookup x=some .free:=hk
    rw [k] at this; cases this
   ·have:X.env.scope.names.lookup x=some .free:=hk
    rw [k] at this; cases this
def ipI (f:Int→Int→Int):TIp:=fun x y H Q=>∃ i j,x=.int i∧y=.int j∧Q (.int (f i j)) H
theorem ip_add:PIp X .Add (ipI fun i j=>i + j):=by
 intro pins s σ H x y v u Q I r1 r2 h
 obtain ⟨i,j,e1,e2,q⟩:=h
 subst e1; subst e2
 obtain ⟨t,rfl⟩:=r1
 obtain ⟨t',rfl⟩:=r2
 exact iadd_int ⟨.int _,H,I.tok _,⟨_,rfl⟩,q⟩
end
section
variable {X:Cx} {pos:Pos}
end
structure It where
 go:Nat→Hp→Prop
 yld:Nat→Hp→V→Hp→Prop
 stop:Nat→Hp→Prop
def FpOk (X:Cx) (pins:List (Addr×Obj)) (H:Hp) (b:Addr):Prop :=
 H b=none∧b≠X.env.locals∧b ∉ X.fs∧(b∈X.ex∨X.s₀.heap.objs.size≤b)∧(∀ x c,X.env.cells.lookup x=some c→c≠b)∧∀ p∈X.pn++pins,p.1≠b
theorem Inv.fpOk {X:Cx} {pins:List (Addr×Obj)} {σ:St} {H H':Hp} {s:Shared} {b:Addr} (I:Inv X pins σ H s) (hb:s.heap.objs.size≤b) (hn:H' b=none):FpOk X pins H' b:=by
 refine ⟨hn,Nat.ne_of_gt (AX I.lt hb),I.nofs hb,.inr (Au I.sz hb),fun x c e z=>?_,fun p hp z=>?_⟩
 ·obtain ⟨v,q⟩:=I.cell x c e
  exact absurd (AX q.lt (by rw [z]; exact hb)) (Nat.lt_irrefl _)
 ·exact absurd (AX (AJ (I.pin p hp).1) (by rw [z]; exact hb)) (Nat.lt_irrefl _)
structure Turn (P:Program) (w:World) (K:PySem.W.Frag) (tg:Expr) (J:It) (fp:List Addr) (it:Addr) (tn:Nat→Heap→Prop):Prop where
 mem:it∈fp
 obj:∀ i h,tn i h→∀ b∈fp,∃ o,h.get? b=some o∧∀ v,o.data≠.cell v
 keep:∀ i h h',tn i h→(∀ b∈fp,∀ o,h.get? b=some o→h'.get? b=some o)→tn i h'
 item:∀ (X:Cx),X.prog=P→X.w=w→X.K=K→X.calm=true→∀ (i:Nat) (pins:List (Addr×Obj)) (s:Shared) (σ:St) (H:Hp) (E:Value→Shared→Prop),Inv X pins σ H s→(∀ b∈fp,FpOk X pins H b)→tn i s.heap→J.go i H →
  wpAny (model P w) X.A (pyNext (.ref it)) (fun r s1=>∃ u,r=some u ∧
   wpAny (model P w) X.A (letOwnedTupleGo tg (.ref it) u) (fun _ s2=>∃ x H',Inv X pins σ H' s2∧RelV x u∧J.yld i H x H'∧tn (i + 1) s2.heap∧∀ b∈fp,H' b=none) E s1) E s
 done:∀ (X:Cx),X.prog=P→X.w=w→X.K=K→X.calm=true→∀ (i:Nat) (pins:List (Addr×Obj)) (s:Shared) (σ:St) (H:Hp) (E:Value→Shared→Prop),Inv X pins σ H s→(∀ b∈fp,FpOk X pins H b)→tn i s.heap→J.stop i H →
  wpAny (model P w) X.A (pyNext (.ref it)) (fun r s1=>r=none∧Inv X pins σ H s1) E s
 self:∀ (A:Around) (i:Nat) (s:Shared) (Q:Value→Shared→Prop) (E:Value→Shared→Prop),tn i s.heap→Q (.ref it) s→wpAny (model P w) A (pyIter (.ref it)) Q E s
abbrev TI:=St→Hp→(It→Hp→Prop)→Prop
def PIE (X:Cx) (pins:List (Addr×Obj)) (σ:St) (tg:Expr) (R:It→Hp→Prop) (itv:Value) (s2:Shared):Prop :=
 ∃ (it:Addr) (fp:List Addr) (tn:Nat→Heap→Prop) (J:It) (H':Hp),itv=.ref it∧Inv X pins σ H' s2∧Turn X.prog X.w X.K tg J fp it tn∧tn 0 s2.heap∧(∀ b∈fp,FpOk X pins H' b)∧R J H'
def PI (X:Cx) (tg iter:Expr) (wi:TI):Prop :=
 ∀ (pins:List (Addr×Obj)) (s:Shared) (σ:St) (H:Hp) (R:It→Hp→Prop),Inv X pins σ H s→wi σ H R →
  wpAny (model X.prog X.w) X.A (eval iter X.env) (fun v s1=>wpAny (model X.prog X.w) X.A (pyIter v) (PIE X pins σ tg R) X.xe s1) X.xe s
theorem go_of {M:Model} {A:Around} {E:Value→Shared→Prop} {s:Shared} {tg:Expr} {it:Addr} {u:Value} {o:Obj} {n:String} {vs:Array Value} {Q:Unit→Shared→Prop} (ho:s.heap.get? it=some o) (hc:o.cls=.type n) (hd:o.data=.fields vs)
  (hn:["enumerate","zip","dict_itemiterator","dict_reverseitemiterator","odict_iterator","itertools.zip_longest","itertools.pairwise"].contains n=false) (hQ:Q () s):wpAny M A (letOwnedTupleGo tg (.ref it) u) Q E s:=by
 unfold letOwnedTupleGo
 cases tg <;> first
  | exact AG hQ
  | (cases u <;> first
    | exact AG hQ
    | (refine AB (wpAny_load ho ?_)
       rw [hc,hd]
       show wpAny M A (if (["enumerate","zip","dict_itemiterator","dict_reverseitemiterator","odict_iterator","itertools.zip_longest","itertools.pairwise"].contains n && vs[0]? == some (rawInt _))=true then _ else _) Q E s
       rw [if_neg (by intro h; rw [hn,Bool.false_and] at h; cases h)]
       exact AG hQ))
def Itl (K:PySem.W.Frag) (a:Addr):It :=
 ⟨fun i H=>∃ xs x,SqL K H a xs∧xs[i]?=some x,fun i H x H'=>H'=H∧∀ xs,SqL K H a xs→xs[i]?=some x,fun i H=>∃ xs,SqL K H a xs∧xs.length≤i⟩
def Itr (lo:Int) (n:Nat):It:=⟨fun i _=>i < n,fun i H x H'=>H'=H∧x=.int (lo + i),fun i _=>n≤i⟩
theorem turn_list {P:Program} {w:World} {K:PySem.W.Frag} {tg:Expr} (a it:Addr):Turn P w K tg (Itl K a) [it] it (fun i h=>h.IsListIter it a i) where
 mem:=by simp
 obj:=fun i h st b hb=>by
  have e:b=it:=by simpa using hb
  subst e
  obtain ⟨o,e,c,d⟩:=st
  exact ⟨o,e,fun v z=>by rw [d] at z; cases z⟩
 keep:=fun i h h' st k=>st.at fun o e=>k it (by simp) o e
 item:=by
  intro X hP hw hK hc i pins s σ H E I hf st hg
  subst hP hw hK
  obtain ⟨xs,x,hq,hx⟩:=hg
  obtain ⟨its,rv,p,hz⟩:=I.list hq
  obtain ⟨u,hu,ru⟩:=rv.get hx
  obtain ⟨f0,f1,f2,f3,f4,f5⟩:=hf it (by simp)
  refine wpAny_pyNext_list_item st p.isList (x:=u) (by simpa using hu) fun h' st' sb=>?_
  have I1:Inv X pins σ H { s with heap:=h' }:=I.turned (t':=s.toks) (fun b o hb e=>(sb.2 b hb).trans e) f0 f1 f3 f4 f5
  obtain ⟨o,e,c,d⟩:=id st'
  exact ⟨u,rfl,go_of (s:={ s with heap:=h' }) e c d (by decide) ⟨x,H,I1,ru,⟨rfl,fun ys hy=>by rw [I.list_inj hy hq]; exact hx⟩,st',fun b hb=>(hf b hb).1⟩⟩
 done:=by
  intro X hP hw hK hc i pins s σ H E I hf st hg
  subst hP hw hK
  obtain ⟨xs,hq,hx⟩:=hg
  obtain ⟨its,rv,p,hz⟩:=I.list hq
  obtain ⟨f0,f1,f2,f3,f4,f5⟩:=hf it (by simp)
  have hl:=rv.length
  exact wpAny_pyNext_list_end (I.ok.hd hc) st p.isList (by simp; omega) fun h' eb=>⟨rfl,I.turned (t':=s.toks) (fun b o hb e=>eb b o hb e) f0 f1 f3 f4 f5⟩
 self:=fun _ _ _ _ _ st h=>wpAny_pyIter_listiter st h
theorem turn_range {P:Program} {w:World} {K:PySem.W.Frag} {tg:Expr} (it:Addr) (lo:Int) (n:Nat):Turn P w K tg (Itr lo n) [it] it (fun i h=>IsRangeIter h it (lo + (i:Nat) * 1) ((n:Int) - (i:Nat)) 1) where
 mem:=by simp
 obj:=fun i h st b hb=>by
  have e:b=it:=by simpa using hb
  subst e
  exact ⟨_,st,fun v z=>by
   have z':Data.fields _=Data.cell v:=z
   cases z'⟩
 keep:=fun i h h' st k=>k it (by simp) _ st
 item:=by
  intro X hP hw hK hc i pins s σ H E I hf st hg
  subst hP hw hK
  obtain ⟨f0,f1,f2,f3,f4,f5⟩:=hf it (by simp)
  have W:=Walks.range (prog:=X.prog) (w:=X.w) (I.ok.hd hc) it lo 1 n
  refine W.item i s _ _ hg st fun v h' tk hv st' kk=>?_
  obtain ⟨t,rfl⟩:=hv
  have I1:Inv X pins σ H { s with heap:=h',toks:=tk }:=I.turned (fun b o hb e=>kk b o (by simpa using hb) e) f0 f1 f3 f4 f5
  refine ⟨_,rfl,go_of (s:={ s with heap:=h',toks:=tk }) (n:="range_iterator") st' rfl rfl (by decide) ⟨.int (lo + i),H,I1,⟨t,?_⟩,⟨rfl,rfl⟩,st',fun b hb=>(hf b hb).1⟩⟩
  rw [Int.mul_one]
 done:=by
  intro X hP hw hK hc i pins s σ H E I hf st hg
  subst hP hw hK
  obtain ⟨f0,f1,f2,f3,f4,f5⟩:=hf it (by simp)
  exact wpAny_pyNext_range_end (I.ok.hd hc) st (by have:n≤i:=hg; omega) fun h' eb=>⟨rfl,I.turned (t':=s.toks) (fun b o hb e=>eb b o hb e) f0 f1 f3 f4 f5⟩
 self:=fun _ _ _ _ _ st h=>wpAny_pyIter_rangeiter st h
section
variable {X:Cx} {tg:Expr}
def iList (K:PySem.W.Frag) (tl:TE):TI:=fun σ H R=>tl σ H fun x H1=>∃ a,x=.ref a∧(∃ xs,SqL K H1 a xs)∧R (Itl K a) H1
theorem pi_list {l:Expr} {tl:TE} (hl:PE X l tl):PI X tg l (iList X.K tl):=by
 intro pins s σ H R I h
 refine thn (hl pins s σ H _ I h) fun v s1 ⟨x,H1,I1,r1,q1⟩=>?_
 obtain ⟨a,e,⟨xs,hq⟩,q⟩:=q1
 subst e
 cases r1
 obtain ⟨its,rv,p,hz⟩:=I1.list hq
 refine wpAny_pyIter_list p.isList ?_
 refine ⟨s1.heap.objs.size,[s1.heap.objs.size],_,_,H1,rfl,I1.kept (t':=s1.toks) fun b o e=>AC _ e,turn_list a _,⟨_,Ah _ rfl,rfl,rfl⟩,fun b hb=>?_,q⟩
 have e:b=s1.heap.objs.size:=by simpa using hb
 subst e
 exact I1.fpOk (AE _) (I1.hok.fresh (AE _))
theorem range_it {pins:List (Addr×Obj)} {σ:St} {H:Hp} {s:Shared} {R:It→Hp→Prop} {E:Value→Shared→Prop} {lo hi:Int} {t u v:Tok} {tk:Nat} (I:Inv X pins σ H s) (h1:-(2 ^ 62)≤lo) (h2:lo < 2 ^ 62) (h3:-(2 ^ 62)≤hi) (h4:hi < 2 ^ 62)
  (q:R (Itr lo (hi - lo).toNat) H):wpAny (model X.prog X.w) X.A (pyIter (.ref s.heap.objs.size)) (PIE X pins σ tg R) E { s with heap:=s.heap.push { cls:=.type "range",data:=.fields #[.int lo t,.int hi u,.int 1 v] },toks:=tk }:=by
 refine wpAny_pyIter_range (IsRange.new ..) (small_one h1 h2 h3 h4) ?_
 have I1:Inv X pins σ H { s with heap:=s.heap.push { cls:=.type "range",data:=.fields #[.int lo t,.int hi u,.int 1 v] },toks:=tk }:=I.kept fun b o e=>AC _ e
 refine ⟨(s.heap.push { cls:=.type "range",data:=.fields #[.int lo t,.int hi u,.int 1 v] }).objs.size,[(s.heap.push { cls:=.type "range",data:=.fields #[.int lo t,.int hi u,.int 1 v] }).objs.size],_,_,H,rfl,
  I1.kept (t':=tk) fun b o e=>AC _ e,turn_range _ lo (hi - lo).toNat,?_,fun b hb=>?_,q⟩
 ·have e1:lo + ((0:Nat):Int) * 1=lo:=by simp
  have e2:(((hi - lo).toNat:Nat):Int) - ((0:Nat):Int)=Builtin.Range.rangeSize lo hi 1:=by rw [rangeSize_one]; split <;> omega
  show IsRangeIter _ _ (lo + ((0:Nat):Int) * 1) ((((hi - lo).toNat:Nat):Int) - ((0:Nat):Int)) 1
  rw [e1,e2]
  exact Ah _ rfl
 ·have e:b=(s.heap.push { cls:=.type "range",data:=.fields #[.int lo t,.int hi u,.int 1 v] }).objs.size:=by simpa using hb
  subst e
  exact I1.fpOk (AE _) (I1.hok.fresh (AE _))
def iRng1 (ta:TA):TI:=fun σ H R=>ta σ H fun vs H1=>∃ j:Int,vs=[.int j]∧-(2 ^ 62)≤j∧j < 2 ^ 62∧R (Itr 0 j.toNat) H1
def iRng2 (ta:TA):TI:=fun σ H R=>ta σ H fun vs H1=>∃ i j:Int,vs=[.int i,.int j]∧(-(2 ^ 62)≤i∧i < 2 ^ 62∧-(2 ^ 62)≤j∧j < 2 ^ 62)∧R (Itr i (j - i).toNat) H1
theorem pi_range1 {a:Expr} {ta:TA} {p pos:Pos} (hg:Gl X "range") (hm:X.mg "range"=none) (ha:PA X [a] ta) (hs:Ak [a] X.env=[(false,eval a X.env)]:=by rfl):PI X tg (.Call (.Name "range" p) [a] [] pos) (iRng1 ta):=by
 intro pins s σ H R I h
 refine Call_ (ld_blt I hg hm boot_range (PyProof.Rows.callWith_type1 (thn (ha pos pins s σ H _ I h) fun us s1 ⟨vs,H1,I1,r1,q1⟩=>?_) hs rfl))
 obtain ⟨j,e,q1,q2,q⟩:=q1
 subst e
 cases r1 with
 | cons r rr =>
  cases rr
  obtain ⟨t,rfl⟩:=r
  exact call_range_1 (range_it I1 (by omega) (by omega) q1 q2 (by simpa using q))
theorem pi_range2 {a b:Expr} {ta:TA} {p pos:Pos} (hg:Gl X "range") (hm:X.mg "range"=none) (ha:PA X [a,b] ta) (hs:Ak [a,b] X.env=[(false,eval a X.env),(false,eval b X.env)]:=by rfl) (hs2:Ak [b] X.env=[(false,eval b X.env)]:=by rfl) :
  PI X tg (.Call (.Name "range" p) [a,b] [] pos) (iRng2 ta):=by
 intro pins s σ H R I h
 refine Call_ (ld_blt I hg hm boot_range (PyProof.Rows.callWith_type1 (thn (ha pos pins s σ H _ I h) fun us s1 ⟨vs,H1,I1,r1,q1⟩=>?_) (by rw [hs,hs2]) (by rw [hs2]; rfl)))
 obtain ⟨i,j,e,⟨q1,q2,q3,q4⟩,q⟩:=q1
 subst e
 cases r1 with
 | cons r rr =>
  cases rr with
  | cons r' rr =>
   cases rr
   obtain ⟨t,rfl⟩:=r
   obtain ⟨t',rfl⟩:=r'
   exact call_range_2 (range_it I1 q1 q2 q3 q4 q)
def tFor (wi:TI) (g:TG) (tb:TS):TS:=fun D σ H=>wi σ H fun J H1=>∃ W:Nat→Nat→St→Hp→Prop,(∃ m,W 0 m σ H1)∧∀ i m σ H,W i m σ H →
 (J.stop i H∧D.nx σ H)∨(J.go i H∧∃ N:St→Hp→Prop,(∀ σ' H',N σ' H'→∃ m',m' < m∧W (i + 1) m' σ' H')∧∀ x H',J.yld i H x H'→g x σ H' fun σ2 H2=>tb { D with nx:=N,ct:=N,bk:=D.nx } σ2 H2)
def pinsAt (fp:List Addr) (h:Heap):List (Addr×Obj):=fp.filterMap fun b=>(h.get? b).map fun o=>(b,o)
theorem mem_pinsAt {fp:List Addr} {h:Heap} {b:Addr} {o:Obj} (hb:b∈fp) (e:h.get? b=some o):(b,o)∈pinsAt fp h:=List.mem_filterMap.mpr ⟨b,hb,by rw [e]; rfl⟩
theorem of_pinsAt {fp:List Addr} {h:Heap} {p:Addr×Obj} (hp:p∈pinsAt fp h):p.1∈fp∧h.get? p.1=some p.2:=by
 obtain ⟨b,hb,e⟩:=List.mem_filterMap.mp hp
 cases q:h.get? b with
 | none=>rw [q] at e; cases e
 | some o =>
  rw [q] at e
  have e':(b,o)=p:=Aw e
  subst e'
  exact ⟨hb,q⟩
theorem Inv.pinned {pins:List (Addr×Obj)} {σ:St} {H:Hp} {s:Shared} {fp:List Addr} (I:Inv X pins σ H s) (hf:∀ b∈fp,FpOk X pins H b) (ho:∀ b∈fp,∃ o,s.heap.get? b=some o∧∀ v,o.data≠.cell v):Inv X (pins++pinsAt fp s.heap) σ H s :=
 I.pins_of fun p hp=>(AW.mp hp).elim (fun z=>I.pin p (Ar _ z)) fun z=>by
  obtain ⟨hb,e⟩:=of_pinsAt z
  obtain ⟨f0,f1,f2,_⟩:=hf p.1 hb
  obtain ⟨o,e',d⟩:=ho p.1 hb
  rw [e] at e'; cases e'
  exact ⟨e,f0,f1,f2,d⟩
theorem Inv.unpinned {pins pl:List (Addr×Obj)} {σ:St} {H:Hp} {s:Shared} (I:Inv X (pins++pl) σ H s):Inv X pins σ H s:=I.pins_of fun p hp=>I.pin p (Ar _ (List.mem_append_left _ hp))
theorem ps_for {iter:Expr} {body:List Stmt} {wi:TI} {g:TG} {tb:TS} {pos:Pos} (hp:PassesOwn (model X.prog X.w) X.A X.env X.xe) (hc:X.calm=true) (hi:PI X tg iter wi) (hg:PG X tg g) (hb:PSs X body tb)
  (hs:∀ x,foldedSetIterable iter X.env x=pure x:=by intro _; rfl):PS X (.For tg iter body [] pos) (tFor wi g tb):=by
 intro pins s σ H D I h
 refine wpAny_For (thn (hi pins s σ H _ I h) fun v s1 h1=>thn h1 fun itv s2 h2=>?_) hs
 obtain ⟨it,fp,tn,J,H2,e,I2,T,st2,f2,W,⟨m0,w0⟩,turn⟩:=h2
 subst e
 have stat:∀ {H':Hp},(∀ b∈fp,H' b=none)→∀ b∈fp,FpOk X pins H' b:=fun hn b hb=>⟨hn b hb,(f2 b hb).2⟩
 refine codeAny_forLoop_any (fun n s'=>∃ i σ' H',Inv X pins σ' H' s'∧tn i s'.heap∧(∀ b∈fp,H' b=none)∧W i n σ' H') ?_ m0 ⟨0,σ,H2,I2,st2,fun b hb=>(f2 b hb).1,w0⟩
 rintro n s3 ⟨i,σ3,H3,I3,st3,fr3,w3⟩
 rcases turn i n σ3 H3 w3 with ⟨stop,qn⟩ | ⟨go,N,hN,step⟩
 ·refine wpAny_passesOwn hp (thn (T.done X rfl rfl rfl hc i pins s3 σ3 H3 X.xe I3 (stat fr3) st3 stop) fun r s4 ⟨hr,I4⟩=>?_)
  subst hr
  exact wpAny_execs_nil ⟨σ3,H3,I4,qn⟩
 ·refine wpAny_passesOwn hp (thn (T.item X rfl rfl rfl hc i pins s3 σ3 H3 X.xe I3 (stat fr3) st3 go) fun r s4 ⟨u,hr,h4⟩=>?_)
  subst hr
  refine wpAny_passesOwn hp (thn h4 fun _ s5 ⟨x,H5,I5,r5,y5,st5,fr5⟩=>?_)
  have I5':=I5.pinned (stat fr5) (T.obj _ _ st5)
  refine wpAny_passesOwn hp (thn (hg _ s5 σ3 H5 x u _ I5' r5 (step x H5 y5)) fun _ s6 ⟨σ6,H6,I6,q6⟩=>?_)
  refine wpAny_passesOwn hp (thn (hb _ s6 σ6 H6 _ I6 q6) fun f s7 q7=>?_)
  have again:∀ {σ7:St} {H7:Hp},Inv X (pins++pinsAt fp s5.heap) σ7 H7 s7→N σ7 H7→∃ m,m < n∧∃ i σ' H',Inv X pins σ' H' s7∧tn i s7.heap∧(∀ b∈fp,H' b=none)∧W i m σ' H':=fun {σ7 H7} I7 n7=>by
   obtain ⟨m',hm,w7⟩:=hN σ7 H7 n7
   refine ⟨m',hm,i + 1,σ7,H7,I7.unpinned,T.keep _ _ _ st5 fun b hb o e=>(I7.pin (b,o) (Ar _ (Ar _ (mem_pinsAt hb e)))).1,fun b hb=>?_,w7⟩
   obtain ⟨o,e,d⟩:=T.obj _ _ st5 b hb
   exact (I7.pin (b,o) (Ar _ (Ar _ (mem_pinsAt hb e)))).2.1
  cases f with
  | next=>obtain ⟨σ7,H7,I7,n7⟩:=q7; exact again I7 n7
  | cont=>obtain ⟨σ7,H7,I7,n7⟩:=q7; exact again I7 n7
  | brk=>obtain ⟨σ7,H7,I7,q7⟩:=q7; exact ⟨σ7,H7,I7.unpinned,q7⟩
  | ret v=>obtain ⟨x7,σ7,H7,I7,r7,q7⟩:=q7; exact ⟨x7,σ7,H7,I7.unpinned,r7,q7⟩
end
theorem for_list {K:PySem.W.Frag} {a:Addr} {xs:List V} {g:TG} {tb:TS} {D:Ends} {σ:St} {H:Hp} (Pv:Nat→St→Hp→Prop) (h0:Pv 0 σ H) (hl:∀ i σ H,i≤xs.length→Pv i σ H→SqL K H a xs)
  (hs:∀ i x σ H,xs[i]?=some x→Pv i σ H→g x σ H fun σ2 H2=>tb { D with nx:=Pv (i + 1),ct:=Pv (i + 1),bk:=D.nx } σ2 H2) (hd:∀ σ H,Pv xs.length σ H→D.nx σ H) :
  ∃ W:Nat→Nat→St→Hp→Prop,(∃ m,W 0 m σ H)∧∀ i m σ H,W i m σ H →
   ((Itl K a).stop i H∧D.nx σ H)∨((Itl K a).go i H∧∃ N:St→Hp→Prop,(∀ σ' H',N σ' H'→∃ m',m' < m∧W (i + 1) m' σ' H')∧∀ x H',(Itl K a).yld i H x H'→g x σ H' fun σ2 H2=>tb { D with nx:=N,ct:=N,bk:=D.nx } σ2 H2):=by
 refine ⟨fun i m σ H=>m=xs.length - i∧i≤xs.length∧Pv i σ H,⟨xs.length,by simp,Ap _,h0⟩,?_⟩
 rintro i m σ H ⟨rfl,hi,p⟩
 have q:=hl i σ H hi p
 by_cases hlt:i < xs.length
 ·refine .inr ⟨⟨xs,xs[i],q,by simp [hlt]⟩,Pv (i + 1),fun σ' H' p'=>⟨xs.length - (i + 1),by omega,rfl,hlt,p'⟩,fun x H' y=>?_⟩
  obtain ⟨e,y⟩:=y
  subst e
  exact hs i x σ _ (y xs q) p
 ·have e:i=xs.length:=by omega
  subst e
  exact .inl ⟨⟨xs,q,AE _⟩,hd σ H p⟩
theorem for_range {lo:Int} {n:Nat} {g:TG} {tb:TS} {D:Ends} {σ:St} {H:Hp} (Pv:Nat→St→Hp→Prop) (h0:Pv 0 σ H)
  (hs:∀ i σ H,i < n→Pv i σ H→g (.int (lo + i)) σ H fun σ2 H2=>tb { D with nx:=Pv (i + 1),ct:=Pv (i + 1),bk:=D.nx } σ2 H2) (hd:∀ σ H,Pv n σ H→D.nx σ H) :
  ∃ W:Nat→Nat→St→Hp→Prop,(∃ m,W 0 m σ H)∧∀ i m σ H,W i m σ H →
   ((Itr lo n).stop i H∧D.nx σ H)∨((Itr lo n).go i H∧∃ N:St→Hp→Prop,(∀ σ' H',N σ' H'→∃ m',m' < m∧W (i + 1) m' σ' H')∧∀ x H',(Itr lo n).yld i H x H'→g x σ H' fun σ2 H2=>tb { D with nx:=N,ct:=N,bk:=D.nx } σ2 H2):=by
 refine ⟨fun i m σ H=>m=n - i∧i≤n∧Pv i σ H,⟨n,by simp,Ap _,h0⟩,?_⟩
 rintro i m σ H ⟨rfl,hi,p⟩
 by_cases hlt:i < n
 ·refine .inr ⟨hlt,Pv (i + 1),fun σ' H' p'=>⟨n - (i + 1),by omega,rfl,hlt,p'⟩,fun x H' y=>?_⟩
  obtain ⟨e,y⟩:=y
  subst e y
  exact hs i σ _ hlt p
 ·have e:i=n:=by omega
  subst e
  exact .inl ⟨AE _,hd σ H p⟩
abbrev R2:=V→V→Hp→VK→Prop
def OpR (X:Cx) (f:Value→Value→Sem Value) (r:R2):Prop :=
 ∀ (pins:List (Addr×Obj)) (s:Shared) (σ:St) (H:Hp) (x y:V) (v u:Value) (Q:VK),Inv X pins σ H s→RelV x v→RelV y u→r x y H Q →
  wpAny (model X.prog X.w) X.A (f v u) (EP X pins σ Q) X.xe s
def CallR (X:Cx) (f:Value) (r:List V→Hp→VK→Prop):Prop :=
 ∀ (pins:List (Addr×Obj)) (s:Shared) (σ:St) (H:Hp) (xs:List V) (us:List Value) (Q:VK),Inv X pins σ H s→Vals xs us→r xs H Q →
  wpAny (model X.prog X.w) X.A (call f us) (EP X pins σ Q) X.xe s
def TruR (X:Cx) (r:V→Hp→(Bool→Hp→Prop)→Prop):Prop :=
 ∀ (pins:List (Addr×Obj)) (s:Shared) (σ:St) (H:Hp) (x:V) (v:Value) (Q:Bool→Hp→Prop),Inv X pins σ H s→RelV x v→r x H Q →
  wpAny (model X.prog X.w) X.A (truthy v) (TP X pins σ Q) X.xe s
def tOp (r:R2) (ta tb:TE):TE:=fun σ H Q=>ta σ H fun x H1=>tb σ H1 fun y H2=>r x y H2 Q
def rI (C:Int→Int→Prop) (g:Int→Int→V):R2:=fun x y H Q=>∃ i j,x=.int i∧y=.int j∧C i j∧Q (g i j) H
def rI0 (g:Int→Int→V):R2:=fun x y H Q=>∃ i j,x=.int i∧y=.int j∧Q (g i j) H
section
variable {X:Cx} {a b c:Expr} {ta tb tc:TE} {pos:Pos}
theorem binT (ha:PE X a ta) (hb:PE X b tb) {pins:List (Addr×Obj)} {s:Shared} {σ:St} {H:Hp} {R:V→V→Hp→Prop} (I:Inv X pins σ H s)
  (h:ta σ H fun x H1=>tb σ H1 fun y H2=>R x y H2) {Q:Value→Shared→Prop} {f:Value→Value→Sem Value}
  (hf:∀ v u s2 x y H2,Inv X pins σ H2 s2→RelV x v→RelV y u→R x y H2→wpAny (model X.prog X.w) X.A (f v u) Q X.xe s2) :
  wpAny (model X.prog X.w) X.A (eval a X.env) (fun v s₁=>wpAny (model X.prog X.w) X.A (eval b X.env) (fun u s₂=>wpAny (model X.prog X.w) X.A (f v u) Q X.xe s₂) X.xe s₁) X.xe s:=by
 refine thn (ha pins s σ H _ I h) fun v s1 ⟨x,H1,I1,r1,q1⟩=>?_
 refine thn (hb pins s1 σ H1 _ I1 q1) fun u s2 ⟨y,H2,I2,r2,q2⟩=>?_
 exact hf v u s2 x y H2 I2 r1 r2 q2
theorem pe_op {op:Operator} {r:R2} (ho:OpR X (binaryOp op) r) (ha:PE X a ta) (hb:PE X b tb):PE X (.BinOp a op b pos) (tOp r ta tb):=by
 intro pins s σ H Q I h
 exact wpAny_BinOp (binT ha hb I h fun v u s2 x y H2 I2 rx ry q=>ho pins s2 σ H2 x y v u Q I2 rx ry q)
theorem opI {f:Value→Value→Sem Value} {C:Int→Int→Prop} {g:Int→Int→Int}
  (rule:∀ (i j:Int) (t u:Tok) (s:Shared) (Q:Value→Shared→Prop) (E:Value→Shared→Prop),C i j→Q (.int (g i j) s.toks) { s with toks:=s.toks + 1 }→wpAny (model X.prog X.w) X.A (f (.int i t) (.int j u)) Q E s) :
  OpR X f (rI C fun i j=>.int (g i j)):=by
 intro pins s σ H x y v u Q I rx ry h
 obtain ⟨i,j,rfl,rfl,hc,q⟩:=h
 obtain ⟨t,rfl⟩:=rx
 obtain ⟨t',rfl⟩:=ry
 exact rule i j t t' s _ _ hc ⟨.int (g i j),H,I.tok _,⟨_,rfl⟩,q⟩
theorem opI0 {f:Value→Value→Sem Value} {g:Int→Int→Int}
  (rule:∀ (i j:Int) (t u:Tok) (s:Shared) (Q:Value→Shared→Prop) (E:Value→Shared→Prop),Q (.int (g i j) s.toks) { s with toks:=s.toks + 1 }→wpAny (model X.prog X.w) X.A (f (.int i t) (.int j u)) Q E s) :
  OpR X f (rI0 fun i j=>.int (g i j)):=by
 intro pins s σ H x y v u Q I rx ry h
 obtain ⟨i,j,rfl,rfl,q⟩:=h
 obtain ⟨t,rfl⟩:=rx
 obtain ⟨t',rfl⟩:=ry
 exact rule i j t t' s _ _ ⟨.int (g i j),H,I.tok _,⟨_,rfl⟩,q⟩
theorem opB0 {f:Value→Value→Sem Value} {g:Int→Int→Bool}
  (rule:∀ (i j:Int) (t u:Tok) (s:Shared) (Q:Value→Shared→Prop) (E:Value→Shared→Prop),Q (.bool (g i j)) s→wpAny (model X.prog X.w) X.A (f (.int i t) (.int j u)) Q E s) :
  OpR X f (rI0 fun i j=>.bl (g i j)):=by
 intro pins s σ H x y v u Q I rx ry h
 obtain ⟨i,j,rfl,rfl,q⟩:=h
 obtain ⟨t,rfl⟩:=rx
 obtain ⟨t',rfl⟩:=ry
 exact rule i j t t' s _ _ ⟨.bl (g i j),H,I,rfl,q⟩
def CDiv (i j:Int):Prop:=0 < j∧j < 1073741824
def CMul (i j:Int):Prop:=(-(2 ^ 64) < i∧i < 2 ^ 64)∨(-(2 ^ 64) < j∧j < 2 ^ 64)
theorem CMul.ok {i j:Int} (h:CMul i j):IntMulOk i j:=by
 rcases h with ⟨h1,h2⟩ | ⟨h1,h2⟩
 ·exact .of_left (intBits_le_64 h1 h2)
 ·exact .of_right (intBits_le_64 h1 h2)
theorem op_add:OpR X (binaryOp .Add) (rI0 fun i j=>.int (i + j)):=opI0 fun _ _ _ _ _ _ _ q=>add_int q
theorem op_sub:OpR X (binaryOp .Sub) (rI0 fun i j=>.int (i - j)):=opI0 fun _ _ _ _ _ _ _ q=>sub_int q
theorem op_mul:OpR X (binaryOp .Mult) (rI CMul fun i j=>.int (i * j)):=opI fun _ _ _ _ _ _ _ hc q=>mul_int q hc.ok
theorem op_fdiv:OpR X (binaryOp .FloorDiv) (rI CDiv fun i j=>.int (i / j)):=opI fun i j _ _ _ _ _ hc q=>by
 have h1:(0:Int) < j:=hc.1
 have h2:j < 1073741824:=hc.2
 exact floordiv_int (by omega) (by rw [Int.fdiv_eq_ediv_of_nonneg i (by omega)]; exact q) (.inl (PyProof.noPylong_small (by omega)))
theorem op_mod:OpR X (binaryOp .Mod) (rI (fun _ j=>0 < j) fun i j=>.int (i % j)):=opI fun i j _ _ _ _ _ hc q=>by
 have h1:(0:Int) < j:=hc
 exact mod_int' (by omega) (by rw [Int.fmod_eq_emod_of_nonneg i (by omega)]; exact q)
end
def scal:V→V→Bool
 | .non,.non=>true | .non,.int _=>true | .int _,.non=>true | .non,.bl _=>true | .bl _,.non=>true | .non,.str _=>true | .str _,.non=>true
 | .int _,.int _=>true | .bl _,.bl _=>true | .str _,.str _=>true | .byt _,.byt _=>true
 | .int _,.str _=>true | .str _,.int _=>true | .bl _,.str _=>true | .str _,.bl _=>true
 | _,_=>false
def rEq:R2:=fun x y H Q=>scal x y=true∧Q (.bl (decide (x=y))) H
def rNe:R2:=fun x y H Q=>scal x y=true∧Q (.bl (!decide (x=y))) H
theorem dec_int {i j:Int}:decide (V.int i=V.int j)=(i == j):=by
 rw [Bool.eq_iff_iff]
 simp
theorem dec_bl {i j:Bool}:decide (V.bl i=V.bl j)=(i == j):=by
 rw [Bool.eq_iff_iff]
 simp
theorem dec_str {i j:Str}:decide (V.str i=V.str j)=(i == j):=by
 rw [Bool.eq_iff_iff]
 simp
theorem dec_byt {i j:Array UInt8}:decide (V.byt i=V.byt j)=(i.toList == j.toList):=by
 rw [Bool.eq_iff_iff]
 cases i
 cases j
 simp
section
variable {X:Cx} {a b c:Expr} {ta tb tc:TE} {pos:Pos}
theorem fin_bl {pins:List (Addr×Obj)} {σ:St} {H:Hp} {s:Shared} {Q:VK} {k k':Bool} (I:Inv X pins σ H s) (q:Q (.bl k) H) (e:k=k'):EP X pins σ Q (.bool k') s:=by
 subst e
 exact ⟨.bl k,H,I,rfl,q⟩
theorem op_eq:OpR X (compareOp .Eq) rEq:=by
 intro pins s σ H x y v u Q I rx ry h
 obtain ⟨hs,q⟩:=h
 cases x with
 | non =>
  cases rx
  cases y with
  | non=>cases ry; exact PySem.EqNone.eq_none_none (fin_bl I q (by simp))
  | bl j=>cases ry; exact PySem.EqNone.eq_none_bool (fin_bl I q (by simp))
  | int j=>obtain ⟨t',rfl⟩:=ry; exact PySem.EqNone.eq_none_int (fin_bl I q (by simp))
  | str j=>obtain ⟨t',rfl⟩:=ry; exact PySem.EqNone.eq_none_str (fin_bl I q (by simp))
  | _=>exact absurd (show false=true from hs) Ax
 | bl i =>
  cases rx
  cases y with
  | non=>cases ry; exact PySem.EqNone.eq_bool_none (fin_bl I q (by simp))
  | bl j=>cases ry; exact eq_bool (fin_bl I q dec_bl)
  | str j=>obtain ⟨t',rfl⟩:=ry; exact PySem.EqMixed.eq_bool_str (fin_bl I q (by simp))
  | _=>exact absurd (show false=true from hs) Ax
 | int i =>
  obtain ⟨t,rfl⟩:=rx
  cases y with
  | non=>cases ry; exact PySem.EqNone.eq_int_none (fin_bl I q (by simp))
  | int j=>obtain ⟨t',rfl⟩:=ry; exact eq_int (fin_bl I q dec_int)
  | str j=>obtain ⟨t',rfl⟩:=ry; exact PySem.EqMixed.eq_int_str (fin_bl I q (by simp))
  | _=>exact absurd (show false=true from hs) Ax
 | str i =>
  obtain ⟨t,rfl⟩:=rx
  cases y with
  | non=>cases ry; exact PySem.EqNone.eq_str_none (fin_bl I q (by simp))
  | bl j=>cases ry; exact PySem.EqMixed.eq_str_bool (fin_bl I q (by simp))
  | int j=>obtain ⟨t',rfl⟩:=ry; exact PySem.EqMixed.eq_str_int (fin_bl I q (by simp))
  | str j=>obtain ⟨t',rfl⟩:=ry; exact eq_str (fin_bl I q dec_str)
  | _=>exact absurd (show false=true from hs) Ax
 | byt i =>
  obtain ⟨t,rfl⟩:=rx
  cases y with
  | byt j=>obtain ⟨t',rfl⟩:=ry; exact PySem.W.eq_bytes (fin_bl I q dec_byt)
  | _=>exact absurd (show false=true from hs) Ax
 | _=>cases y <;> exact absurd (show false=true from hs) Ax
theorem op_ne:OpR X (compareOp .NotEq) rNe:=by
 intro pins s σ H x y v u Q I rx ry h
 obtain ⟨hs,q⟩:=h
 cases x with
 | non =>
  cases rx
  cases y with
  | non=>cases ry; exact PySem.EqNone.ne_none_none (fin_bl I q (by simp))
  | bl j=>cases ry; exact PySem.EqNone.ne_none_bool (fin_bl I q (by simp))
  | int j=>obtain ⟨t',rfl⟩:=ry; exact PySem.EqNone.ne_none_int (fin_bl I q (by simp))
  | str j=>obtain ⟨t',rfl⟩:=ry; exact PySem.EqNone.ne_none_str (fin_bl I q (by simp))
  | _=>exact absurd (show false=true from hs) Ax
 | bl i =>
  cases rx
  cases y with
  | non=>cases ry; exact PySem.EqNone.ne_bool_none (fin_bl I q (by simp))
  | bl j=>cases ry; exact ne_bool (fin_bl I q (congrArg not dec_bl))
  | str j=>obtain ⟨t',rfl⟩:=ry; exact PySem.EqMixed.ne_bool_str (fin_bl I q (by simp))
  | _=>exact absurd (show false=true from hs) Ax
 | int i =>
  obtain ⟨t,rfl⟩:=rx
  cases y with
  | non=>cases ry; exact PySem.EqNone.ne_int_none (fin_bl I q (by simp))
  | int j=>obtain ⟨t',rfl⟩:=ry; exact ne_int (fin_bl I q (congrArg not dec_int))
  | str j=>obtain ⟨t',rfl⟩:=ry; exact PySem.EqMixed.ne_int_str (fin_bl I q (by simp))
  | _=>exact absurd (show false=true from hs) Ax
 | str i =>
  obtain ⟨t,rfl⟩:=rx
  cases y with
  | non=>cases ry; exact PySem.EqNone.ne_str_none (fin_bl I q (by simp))
  | bl j=>cases ry; exact PySem.EqMixed.ne_str_bool (fin_bl I q (by simp))
  | int j=>obtain ⟨t',rfl⟩:=ry; exact PySem.EqMixed.ne_str_int (fin_bl I q (by simp))
  | str j=>obtain ⟨t',rfl⟩:=ry; exact ne_str (fin_bl I q (congrArg not dec_str))
  | _=>exact absurd (show false=true from hs) Ax
 | byt i =>
  obtain ⟨t,rfl⟩:=rx
  cases y with
  | byt j=>obtain ⟨t',rfl⟩:=ry; exact PySem.W.ne_bytes (fin_bl I q (congrArg not dec_byt))
  | _=>exact absurd (show false=true from hs) Ax
 | _=>cases y <;> exact absurd (show false=true from hs) Ax
theorem op_lt:OpR X (compareOp .Lt) (rI0 fun i j=>.bl (decide (i < j))):=opB0 fun _ _ _ _ _ _ _ q=>lt_int q
theorem op_le:OpR X (compareOp .LtE) (rI0 fun i j=>.bl (decide (i≤j))):=opB0 fun _ _ _ _ _ _ _ q=>le_int q
theorem op_gt:OpR X (compareOp .Gt) (rI0 fun i j=>.bl (decide (j < i))):=opB0 fun _ _ _ _ _ _ _ q=>gt_int q
theorem op_ge:OpR X (compareOp .GtE) (rI0 fun i j=>.bl (decide (j≤i))):=opB0 fun _ _ _ _ _ _ _ q=>ge_int q
theorem op_isN:OpR X (compareOp .Is) (fun x y H Q=>y=.non∧Q (.bl (decide (x=.non))) H):=by
 intro pins s σ H x y v u Q I rx ry h
 obtain ⟨rfl,q⟩:=h
 cases ry
 refine is_none_gen (fin_bl I q ?_)
 cases x <;> first
  | (cases rx; rfl)
  | (obtain ⟨t,rfl⟩:=rx; rfl)
theorem nomark (b:Expr) {op:CmpOp} (h:op≠.In:=by decide) (h2:op≠.NotIn:=by decide):behindInMarks op b=false:=by
 have e1:(op == CmpOp.In)=false:=by cases op <;> first | rfl | exact absurd rfl h
 have e2:(op == CmpOp.NotIn)=false:=by cases op <;> first | rfl | exact absurd rfl h2
 cases b <;> simp [behindInMarks,e1,e2]
theorem pe_cmpR {op:CmpOp} {r:R2} (ho:OpR X (compareOp op) r) (ha:PE X a ta) (hb:PE X b tb) (hm:behindInMarks op b=false):PE X (.Compare a [op] [b] pos) (tOp r ta tb):=by
 intro pins s σ H Q I h
 exact wpAny_Compare1 (binT ha hb I h fun v u s2 x y H2 I2 rx ry q=>ho pins s2 σ H2 x y v u Q I2 rx ry q) hm
def tTest (t:TE):TT:=fun σ H Q=>t σ H fun x H'=>∃ k,x=.bl k∧Q k H'
theorem pt_cmpR {op:CmpOp} {r:R2} (ho:OpR X (compareOp op) r) (ha:PE X a ta) (hb:PE X b tb) (hm:behindInMarks op b=false):PT X (.Compare a [op] [b] pos) (tTest (tOp r ta tb)):=by
 intro pins s σ H Q I h
 refine wpAny_isTrue_Compare1 (thn (ha pins s σ H _ I h) fun v s1 ⟨x,H1,I1,r1,q1⟩=>thn (hb pins s1 σ H1 _ I1 q1) fun u s2 ⟨y,H2,I2,r2,q2⟩ =>
  thn (ho pins s2 σ H2 x y v u _ I2 r1 r2 q2) fun c s3 ⟨z,H3,I3,r3,k,e,q3⟩=>?_) hm
 subst e
 cases r3
 exact wpAny_truthy_bool ⟨H3,I3,q3⟩
def tChain (r r':R2) (ta tb tc:TE):TE:=fun σ H Q=>ta σ H fun x H1=>tb σ H1 fun y H2=>r x y H2 fun z H3=>∃ k,z=.bl k ∧
 (if k=true then tc σ H3 fun w' H4=>r' y w' H4 Q else Q (.bl false) H3)
theorem pe_chain {op op':CmpOp} {r r':R2} (ho:OpR X (compareOp op) r) (ho':OpR X (compareOp op') r') (ha:PE X a ta) (hb:PE X b tb) (hc:PE X c tc)
  (hm:lastMarks [op,op'] [b,c]=false:=by with_unfolding_all rfl):PE X (.Compare a [op,op'] [b,c] pos) (tChain r r' ta tb tc):=by
 intro pins s σ H Q I h
 refine Compare_chain (thn (ha pins s σ H _ I h) fun v s1 ⟨x,H1,I1,r1,q1⟩=>chain_link (thn (hb pins s1 σ H1 _ I1 q1) fun u s2 ⟨y,H2,I2,r2,q2⟩ =>
  thn (ho pins s2 σ H2 x y v u _ I2 r1 r2 q2) fun d s3 ⟨z,H3,I3,r3,k,e,q3⟩=>?_)) hm
 subst e
 cases r3
 refine wpAny_truthy_bool ?_
 cases k with
 | false=>exact ite_ff ⟨.bl false,H3,I3,rfl,q3⟩
 | true=>exact ite_tt (chain_last (thn (hc pins s3 σ H3 _ I3 q3) fun w' s4 ⟨z',H4,I4,r4,q4⟩=>ho' pins s4 σ H4 y z' u w' Q I4 r2 r4 q4))
theorem pt_chain {op op':CmpOp} {r r':R2} (ho:OpR X (compareOp op) r) (ho':OpR X (compareOp op') r') (ha:PE X a ta) (hb:PE X b tb) (hc:PE X c tc)
  (hm:lastMarks [op,op'] [b,c]=false:=by with_unfolding_all rfl):PT X (.Compare a [op,op'] [b,c] pos) (tTest (tChain r r' ta tb tc)):=by
 intro pins s σ H Q I h
 refine isTrue_chain (thn (ha pins s σ H _ I h) fun v s1 ⟨x,H1,I1,r1,q1⟩=>test_link (thn (hb pins s1 σ H1 _ I1 q1) fun u s2 ⟨y,H2,I2,r2,q2⟩ =>
  thn (ho pins s2 σ H2 x y v u _ I2 r1 r2 q2) fun d s3 ⟨z,H3,I3,r3,k,e,q3⟩=>?_)) hm
 subst e
 cases r3
 refine wpAny_truthy_bool ?_
 cases k with
 | false =>
  obtain ⟨k',e',q'⟩:=q3
  cases e'
  exact ite_ff ⟨H3,I3,q'⟩
 | true =>
  refine ite_tt (test_last (thn (hc pins s3 σ H3 _ I3 q3) fun w' s4 ⟨z',H4,I4,r4,q4⟩=>thn (ho' pins s4 σ H4 y z' u w' _ I4 r2 r4 q4) fun d' s5 ⟨z2,H5,I5,r5,k2,e2,q5⟩=>?_))
  subst e2
  cases r5
  exact wpAny_truthy_bool ⟨H5,I5,q5⟩
def TruV (K:PySem.W.Frag) (x:V) (H:Hp) (k:Bool):Prop :=
 match x with
 | .non=>k=false
 | .bl b=>k=b
 | .int i=>k=(i != 0)
 | .str y=>y.length≤AR∧k=((y.length:Int) != 0)
 | .byt y=>y.size≤AR∧k=((y.size:Int) != 0)
 | .ref p=>(∃ xs,SqL K H p xs∧k=!xs.isEmpty)∨(∃ xs,SqT K H p xs∧k=!xs.isEmpty)∨∃ kvs,H p=some (.dK kvs)∧k=!kvs.isEmpty
 | _=>False
theorem isEmpty_kv {κ:Type} {kvs:List (κ×V)} {vs:List (κ×Value)} (r:KV kvs vs):(!vs.isEmpty)=!kvs.isEmpty:=by
 cases r <;> rfl
theorem isEmpty_of {xs:List V} {its:List Value} (r:Vals xs its):(!its.toArray.isEmpty)=!xs.isEmpty:=by
 cases r <;> simp
theorem line63:(AR:Nat) < 2 ^ 63:=by rw [sizeLine_eq]; decide
theorem tru_ok:TruR X (fun x H Q=>∃ k,TruV X.K x H k∧Q k H):=by
 intro pins s σ H x v Q I rx h
 obtain ⟨k,e,q⟩:=h
 have hl:=line63
 have hs:AR=16777216:=sizeLine_eq
 cases x with
 | non =>
  cases rx
  have e':k=false:=e
  subst e'
  exact truthy_none ⟨H,I,q⟩
 | bl b =>
  cases rx
  have e':k=b:=e
  subst e'
  exact wpAny_truthy_bool ⟨H,I,q⟩
 | int i =>
  obtain ⟨t,rfl⟩:=rx
  have e':k=(i != 0):=e
  subst e'
  exact PySem.P.truthy_int ⟨H,I,q⟩
 | str y =>
  obtain ⟨t,rfl⟩:=rx
  obtain ⟨hy,e'⟩:y.length≤AR∧k=((y.length:Int) != 0):=e
  subst e'
  exact PySem.P.truthy_str (by omega) ⟨H,I.tok _,q⟩
 | byt y =>
  obtain ⟨t,rfl⟩:=rx
  obtain ⟨hy,e'⟩:y.size≤AR∧k=((y.size:Int) != 0):=e
  subst e'
  exact PySem.W.truthy_bytes (by omega) ⟨H,I.tok _,q⟩
 | ref p =>
  cases rx
  have e':(∃ xs,SqL X.K H p xs∧k=!xs.isEmpty)∨(∃ xs,SqT X.K H p xs∧k=!xs.isEmpty)∨∃ kvs,H p=some (.dK kvs)∧k=!kvs.isEmpty:=e
  rcases e' with ⟨xs,hx,e'⟩ | ⟨xs,hx,e'⟩ | ⟨kvs,hx,e'⟩
  ·subst e'
   obtain ⟨its,r,pl,hz⟩:=I.list hx
   have hlen:=r.length
   exact wpAny_truthy_list pl.isList (by simp only [AQ]; omega) ⟨H,I.tok _,by rw [isEmpty_of r]; exact q⟩
  ·subst e'
   obtain ⟨its,r,pl,hz⟩:=I.tuple hx
   have hlen:=r.length
   exact truthy_tuple pl (by simp only [AQ]; omega) ⟨H,I.tok _,by rw [isEmpty_of r]; exact q⟩
  ·subst e'
   obtain ⟨hz,hS,vs,r,m⟩:kvs.length≤AR∧(p == sysModules)=false∧∃ vs,KV kvs vs∧s.heap.DictOf (mixKind X.prog X.w) p vs:=I.hok p _ hx
   have hlen:kvs.length=vs.length:=Paired.length r
   exact wpAny_truthy_dict hS m (by omega) ⟨H,I.tok _,by rw [isEmpty_kv r]; exact q⟩
 | _=>exact (show False from e).elim
theorem pt_truth (ha:PE X a ta) (he:∀ whole,isTrue a X.env whole=(do let v ← whole; standAt a.pos; holding [v] (truthy v))) :
  PT X a (fun σ H Q=>ta σ H fun x H'=>∃ k,TruV X.K x H' k∧Q k H'):=by
 intro pins s σ H Q I h
 exact isTrue_plain (thn (ha pins s σ H _ I h) fun v s1 ⟨x,H1,I1,r1,q1⟩=>tru_ok pins s1 σ H1 x v Q I1 r1 q1) (he _)
theorem vals1 {x:V} {us:List Value} (r:Vals [x] us):∃ u,us=[u]∧RelV x u:=by
 cases r with
 | cons r1 r2=>cases r2; exact ⟨_,rfl,r1⟩
theorem vals2 {x y:V} {us:List Value} (r:Vals [x,y] us):∃ u w',us=[u,w']∧RelV x u∧RelV y w':=by
 cases r with
 | cons r1 r2 =>
  cases r2 with
  | cons r3 r4=>cases r4; exact ⟨_,_,rfl,r1,r3⟩
theorem call_max2 (hc:X.calm=true):CallR X (.builtin "max") (fun xs H Q=>∃ i j,xs=[.int i,.int j]∧Q (.int (if j > i then j else i)) H):=by
 intro pins s σ H xs us Q I r h
 obtain ⟨i,j,rfl,q⟩:=h
 obtain ⟨u,w',rfl,⟨t,rfl⟩,⟨t',rfl⟩⟩:=vals2 r
 refine max_two_ints (I.ok.hd hc) fun h' tk k=>⟨_,H,I.kept k,?_,q⟩
 by_cases hj:j > i
 ·rw [if_pos hj,if_pos hj]; exact ⟨_,rfl⟩
 ·rw [if_neg hj,if_neg hj]; exact ⟨_,rfl⟩
theorem call_min2 (hc:X.calm=true):CallR X (.builtin "min") (fun xs H Q=>∃ i j,xs=[.int i,.int j]∧Q (.int (if j < i then j else i)) H):=by
 intro pins s σ H xs us Q I r h
 obtain ⟨i,j,rfl,q⟩:=h
 obtain ⟨u,w',rfl,⟨t,rfl⟩,⟨t',rfl⟩⟩:=vals2 r
 refine min_two_ints (I.ok.hd hc) fun h' tk k=>⟨_,H,I.kept k,?_,q⟩
 by_cases hj:j < i
 ·rw [if_pos hj,if_pos hj]; exact ⟨_,rfl⟩
 ·rw [if_neg hj,if_neg hj]; exact ⟨_,rfl⟩
end
structure ObjM (h:Heap) (x dx C:Addr) (mA:Str→Option Value):Prop where
 obj:h.get? x=some (PySem.W.instObj C dx)
 ns:h.Ns1 dx mA
 ne:dx≠x
theorem lookIn_ns {h:Heap} {dx:Addr} {mA:Str→Option Value} (n:h.Ns1 dx mA):∃ od,h.get? dx=some od∧∀ name,PySem.W.lookIn name od=some (mA name):=by
 obtain ⟨o,es,ep,ho,hd,hk,_,hm⟩:=n
 refine ⟨o,ho,fun name=>?_⟩
 have e:=hm name
 unfold nsFind findBy at e
 rw [← Array.find?_toList] at e
 unfold PySem.W.lookIn
 rw [hd]
 dsimp only
 split
 ·rename_i y q
  rw [q] at e
  exact congrArg some e
 ·rename_i q
  rw [q] at e
  have a:es.toList.any (·.refKey)=false:=by
   rw [List.any_eq_false]
   intro y hy
   obtain ⟨z,t,hkey⟩:=hk y (Array.mem_toList_iff.mp hy)
   simp [DictEntry.refKey,hkey]
  have a':¬ es.toList.any (·.refKey)=true:=by rw [a]; exact Ax
  rw [if_neg a']
  exact congrArg some e
theorem ObjM.look {h:Heap} {x dx C:Addr} {mA:Str→Option Value} (I:ObjM h x dx C mA):∃ od,PySem.W.InstAt h x (PySem.W.instObj C dx) C (some od)∧∀ name,PySem.W.lookIn name od=some (mA name) :=
 let ⟨od,ho,hl⟩:=lookIn_ns I.ns
 ⟨od,⟨I.obj,rfl,rfl,ho⟩,hl⟩
section
variable {prog:Program} {w:World} {A:Around} {E:Value→Shared→Prop} {s:Shared} {K:PySem.W.Frag} {x dx C f:Addr} {mA:Str→Option Value} {name:Str} {v:Value}
theorem get_map {expr:Bool} {Q:Value→Shared→Prop} (X:K.In s.heap) (I:ObjM s.heap x dx C mA) (hg:PySem.W.plainGet K C name=true) (hh:PySem.W.hasDictIn K C=true)
  (ha:Ao K (.ref C) name=some none) (hv:mA name=some v) (hv':PySem.W.handedIn v=true) (h:Q v { s with toks:=s.toks + 1 }) :
  wpAny (model prog w) A (getAttr (.ref x) name expr) Q E s:=by
 obtain ⟨od,J,hl⟩:=I.look
 exact PySem.W.get_value X J (PySem.W.plainGet_of hg).1 (PySem.W.findObj_own hh ha rfl (by rw [hl,hv])) hv' h
theorem get_meth {pl:Sem Bool} {Q:Value×List Value→Shared→Prop} (X:K.In s.heap) (I:ObjM s.heap x dx C mA) (hg:PySem.W.plainGet K C name=true)
  (hf:Ao K (.ref C) name=some (some (.ref f))) (ht:PySem.W.isFn K (.ref f)=true) (hv:mA name=none) (h:Q (.ref f,[.ref x]) s) :
  wpAny (model prog w) A (getMethod (.ref x) name pl) Q E s:=by
 obtain ⟨od,J,hl⟩:=I.look
 exact PySem.W.method_fn X J (PySem.W.plainGet_of hg).1 (PySem.W.plainGet_of hg).2 hf (beq_iff_eq.mp ht) (by show (PySem.W.lookIn name od).map (·.isSome)=some false; rw [hl,hv]; rfl) h
theorem set_map {ns:List Str} {Q:Unit→Shared→Prop} (X:K.In s.heap) (I:ObjM s.heap x dx C mA)
  (hs:Ao K (.ref C) "__setattr__"=some (some (.builtin "object.__setattr__"))) (hp:PySem.W.plainOver K C=true) (ht:PySem.W.takerIn K C name=some none) (hh:PySem.W.hasDictIn K C=true)
  (hw:PySem.Within mA ns) (hsz:ns.length≤AR)
  (h:∀ h',ObjM h' x dx C (fun y=>if y=name then some v else mA y)→Heap.SameBut dx s.heap h'→Q () { s with heap:=h',toks:=s.toks + 2 }) :
  wpAny (model prog w) A (setAttr (.ref x) name v) Q E s:=by
 obtain ⟨od,J,hl⟩:=I.look
 refine PySem.W.set_plain X J hs (PySem.W.osa_open (s:={ s with toks:=s.toks + 1 }) (r:=none) X J hp ht fun b=>?_)
 obtain ⟨cd,hc,hd'⟩:=PySem.W.any_some hh
 have hx:s.heap.get? x=some ⟨.ref C,some dx,.plain,#[]⟩:=I.obj
 refine AB (AG (AB (AB (wpAny_loadPart hx (AB (PySem.W.Looks.here (s:={ s with toks:=s.toks + 1 }) (PySem.W.looks_clsIn X hc) ?_))))))
 rw [hd']
 refine AG (a:=some dx) (AB (AG (AB ?_)))
 refine wpAny_nsSet1 (s:={ s with toks:=s.toks + 1 }) I.ns fun h' hn2 hs2=>?_
 obtain ⟨oD,esD,epD,hoD,hdD,hcD⟩:=hn2.count (PySem.Within.cons name v hw)
 refine AB (wpAny_lookBehind hoD (by rw [hdD]; exact pastItsLine_dict (Au hcD (by rw [AS]; omega))) ?_)
 exact AG (h _ ⟨(hs2.2 _ (Ne.symm I.ne)).trans I.obj,hn2,I.ne⟩ hs2)
theorem make_map {R:Result→Shared→Prop} {vs:List Value} {kw:List (Str×Value)} (X:K.In s.heap) (hm:PySem.W.makesIn K C=true)
  (hi:Ao K (.ref C) "__init__"=some (some (.ref f))) (hf:PySem.W.typeIn K (.ref f)=some (.type "function"))
  (h:codeAny (model prog w) (A.under (.builtin "type.__call__" ⟨.ref C :: vs,kw⟩)) (.call (.ref f) ⟨.ref (s.heap.objs.size + 1) :: vs,kw⟩) (PySem.W.InitBack (s.heap.objs.size + 1) R)
   { s with heap:=(s.heap.push PySem.W.emptyDict).push (PySem.W.instObj C s.heap.objs.size) }) :
  codeAny (model prog w) A (.call (.ref C) ⟨vs,kw⟩) R s:=by
 obtain ⟨hh,g,d,t,os⟩:=s
 exact PySem.W.make_core (PySem.W.makes_of X hm) (PySem.W.looks_findIn X hi) (fun self=>PySem.W.bind_fn X self hf) (.inl rfl) h
end
def putF (f:Str) (v:V):List (Str×V)→List (Str×V)
 | []=>[(f,v)]
 | (g,x) :: r=>if g=f then (g,v) :: r else (g,x) :: putF f v r
theorem lookup_putF (f g:Str) (v:V):∀ fs:List (Str×V),(putF f v fs).lookup g=if g=f then some v else fs.lookup g
 | []=>by
  show List.lookup g [(f,v)]=_
  by_cases h:g=f
  ·have hb:(g == f)=true:=beq_iff_eq.mpr h
   simp only [List.lookup,hb,if_pos h]
  ·have hb:(g == f)=false:=beq_eq_false_iff_ne.mpr h
   simp only [List.lookup,hb,if_neg h]
 | (k,x) :: r=>by
  have ih:=lookup_putF f g v r
  rw [show putF f v ((k,x) :: r)=(if k=f then (k,v) :: r else (k,x) :: putF f v r) from rfl]
  by_cases hk:k=f
  ·rw [if_pos hk]
   by_cases h:g=k
   ·have hb:(g == k)=true:=beq_iff_eq.mpr h
    simp only [List.lookup,hb,if_pos (h.trans hk)]
   ·have hb:(g == k)=false:=beq_eq_false_iff_ne.mpr h
    simp only [List.lookup,hb,if_neg (fun e:g=f=>h (e.trans hk.symm))]
  ·rw [if_neg hk]
   by_cases h:g=k
   ·have hb:(g == k)=true:=beq_iff_eq.mpr h
    simp only [List.lookup,hb,if_neg (fun e:g=f=>hk (h.symm.trans e))]
   ·have hb:(g == k)=false:=beq_eq_false_iff_ne.mpr h
    simp only [List.lookup,hb]
    exact ih
theorem keys_putF (f:Str) (v:V):∀ fs:List (Str×V),f∈(putF f v fs).map (·.1)∧∀ g,g∈fs.map (·.1)→g∈(putF f v fs).map (·.1)
 | []=>⟨by simp [putF],fun g h=>by simp at h⟩
 | (k,x) :: r=>by
  obtain ⟨i1,i2⟩:=keys_putF f v r
  rw [show putF f v ((k,x) :: r)=(if k=f then (k,v) :: r else (k,x) :: putF f v r) from rfl]
  by_cases hk:k=f
  ·rw [if_pos hk]
   subst hk
   exact ⟨by simp,fun g h=>by simpa using h⟩
  ·rw [if_neg hk]
   refine ⟨?_,fun g h=>?_⟩
   ·rw [Af]
    exact Aa _ i1
   ·rw [Af] at h ⊢
    rcases AK.mp h with e | e
    ·exact AK.mpr (.inl e)
    ·exact Aa _ (i2 g e)
theorem length_putF (f:Str) (v:V):∀ fs:List (Str×V),(putF f v fs).length≤fs.length + 1
 | []=>by simp [putF]
 | (k,x) :: r=>by
  have ih:=length_putF f v r
  rw [show putF f v ((k,x) :: r)=(if k=f then (k,v) :: r else (k,x) :: putF f v r) from rfl]
  by_cases hk:k=f
  ·rw [if_pos hk,AS,AS]; omega
  ·rw [if_neg hk,AS,AS]; omega
theorem RelO.some_of {v:V} {o:Option Value} (r:RelO (some v) o):∃ u,o=some u∧RelV v u:=by
 cases o with
 | none=>exact (show False from r).elim
 | some u=>exact ⟨u,rfl,r⟩
theorem RelO.none_of {o:Option Value} (r:RelO none o):o=none:=by
 cases o with
 | none=>rfl
 | some u=>exact (show False from r).elim
theorem handed_of {v:V} {u:Value} (r:RelV v u):PySem.W.handedIn u=true:=by
 cases v with
 | non=>cases (show u=BD from r); rfl
 | bl b=>cases (show u=Value.bool b from r); rfl
 | int i=>obtain ⟨t,e⟩:=(show ∃ t,u=Value.int i t from r); cases e; rfl
 | str x=>obtain ⟨t,e⟩:=(show ∃ t,u=Value.str x t from r); cases e; rfl
 | byt b=>obtain ⟨t,e⟩:=(show ∃ t,u=Value.bytes b t from r); cases e; rfl
 | flt b=>obtain ⟨t,e⟩:=(show ∃ t,u=Value.float b t from r); cases e; rfl
 | ref a=>cases (show u=AT a from r); rfl
 | ty n=>cases (show u=Value.type n from r); rfl
section
variable {P:Program} {w:World} {H H':Hp} {h h':Heap} {a C dx:Addr} {fs fs':List (Str×V)}
theorem ins_get (hok:HOk P w H h) (e:H a=some (.ins C dx fs)):∃ mA,ObjM h a dx C mA∧(∀ f,RelO (fs.lookup f) (mA f))∧PySem.Within mA (fs.map (·.1))∧fs.length≤1000∧H dx=some (.own a):=by
 obtain ⟨d,z,ne,ob,mA,n,r,q⟩:=(show ObjOk P w H h a (.ins C dx fs) from hok a _ e)
 exact ⟨mA,⟨ob,n,ne⟩,r,q,z,d⟩
end
structure Cls (K:PySem.W.Frag) (C:Addr):Prop where
 pg:PySem.W.plainGet K C Str.empty=true
 hd:PySem.W.hasDictIn K C=true
 po:PySem.W.plainOver K C=true
 sa:Ao K (.ref C) "__setattr__"=some (some (.builtin "object.__setattr__"))
theorem Cls.get {K:PySem.W.Frag} {C:Addr} (c:Cls K C) (f:Str):PySem.W.plainGet K C f=true:=c.pg
def NoAttr (K:PySem.W.Frag) (C:Addr) (f:Str):Prop:=Ao K (.ref C) f=some none
theorem NoAttr.taker {K:PySem.W.Frag} {C:Addr} {f:Str} (n:NoAttr K C f):PySem.W.takerIn K C f=some none:=by
 unfold PySem.W.takerIn
 rw [show Ao K (.ref C) f=some none from n]
 rfl
structure Meth (K:PySem.W.Frag) (C:Addr) (m:Str) (f:Addr):Prop where
 at_:Ao K (.ref C) m=some (some (.ref f))
 fn:PySem.W.isFn K (.ref f)=true
 kp:Av K (.ref f)=true
section
variable {X:Cx} {pins:List (Addr×Obj)} {σ:St} {H:Hp} {s:Shared} {a C dx:Addr} {fs:List (Str×V)} {f:Str} {v:V} {A:Around} {E:Value→Shared→Prop}
theorem getattr_ok {b:Bool} {Q:Value→Shared→Prop} (I:Inv X pins σ H s) (e:H a=some (.ins C dx fs)) (c:Cls X.K C) (n:NoAttr X.K C f) (l:fs.lookup f=some v)
  (h:∀ u s',Inv X pins σ H s'→RelV v u→Q u s'):wpAny (model X.prog X.w) A (getAttr (.ref a) f b) Q E s:=by
 obtain ⟨mA,O,r,_,_,_⟩:=ins_get I.hok e
 obtain ⟨u,hu,ru⟩:=RelO.some_of (v:=v) (o:=mA f) (by rw [← l]; exact r f)
 exact get_map I.kIn O (c.get f) c.hd n hu (handed_of ru) (h u _ (I.tok _) ru)
theorem getmeth_ok {m:Str} {g:Addr} {pl:Sem Bool} {Q:Value×List Value→Shared→Prop} (I:Inv X pins σ H s) (e:H a=some (.ins C dx fs)) (c:Cls X.K C) (k:Meth X.K C m g) (l:fs.lookup m=none)
  (h:Q (.ref g,[.ref a]) s):wpAny (model X.prog X.w) A (getMethod (.ref a) m pl) Q E s:=by
 obtain ⟨mA,O,r,_,_,_⟩:=ins_get I.hok e
 have hn:mA m=none:=RelO.none_of (by rw [← l]; exact r m)
 exact get_meth I.kIn O (c.get m) k.at_ k.fn hn h
theorem setattr_ok {y:V} {u:Value} {Q:Unit→Shared→Prop} (I:Inv X pins σ H s) (e:H a=some (.ins C dx fs)) (c:Cls X.K C) (n:NoAttr X.K C f) (hl:fs.length < 1000) (ry:RelV y u)
  (h:∀ s',Inv X pins σ (upd H a (.ins C dx (putF f y fs))) s'→Q () s'):wpAny (model X.prog X.w) A (setAttr (.ref a) f u) Q E s:=by
 obtain ⟨mA,O,r,wi,_,ho⟩:=ins_get I.hok e
 have hz:(fs.map (·.1)).length≤AR:=by rw [AA,sizeLine_eq]; omega
 refine set_map I.kIn O c.sa c.po n.taker c.hd wi hz fun h' O' sb=>h _ ?_
 have hd:∃ o,h'.get? dx=some o:=let ⟨o,_,_,e',_⟩:=O'.ns; ⟨o,e'⟩
 refine I.write (x:=a) (e:=dx) (by rw [e]; exact Ad) (.inr ho) (fun b q hb z=>(sb.2 b hb).trans z) hd ?_
 refine ⟨by rw [upd_ne O.ne]; exact ho,?_,O.ne,O'.obj,_,O'.ns,fun g=>?_,fun g hg=>?_⟩
 ·have:=length_putF f y fs; omega
 ·show RelO ((putF f y fs).lookup g) (if g=f then some u else mA g)
  rw [lookup_putF]
  by_cases q:g=f
  ·rw [if_pos q,if_pos q]; exact ry
  ·rw [if_neg q,if_neg q]; exact r g
 ·by_cases q:g=f
  ·rw [q]; exact (keys_putF f y fs).1
  ·refine (keys_putF f y fs).2 g (wi g fun z=>hg ?_)
   show (if g=f then some u else mA g)=none
   rw [if_neg q]; exact z
theorem Inv.made (I:Inv X pins σ H s):Inv X pins σ (upd (upd H s.heap.objs.size (.own (s.heap.objs.size + 1))) (s.heap.objs.size + 1) (.ins C s.heap.objs.size []))
  { s with heap:=(s.heap.push PySem.W.emptyDict).push (PySem.W.instObj C s.heap.objs.size) }:=by
 have e1:(s.heap.push PySem.W.emptyDict).get? s.heap.objs.size=some PySem.W.emptyDict:=Ah s.heap rfl
 have e2:((s.heap.push PySem.W.emptyDict).push (PySem.W.instObj C s.heap.objs.size)).get? (s.heap.objs.size + 1)=some (PySem.W.instObj C s.heap.objs.size):=by
  have:=Ah (s.heap.push PySem.W.emptyDict) (o:=PySem.W.instObj C s.heap.objs.size) rfl
  rwa [Heap.size_push] at this
 have e3:(s.heap.push PySem.W.emptyDict).Ns s.heap.objs.size (fun _=>none):=⟨PySem.W.emptyDict,#[],_,e1,rfl,(fun e he=>absurd he (by simp)),fun _=>rfl⟩
 have I1:=I.laid (a:=s.heap.objs.size) (o:=.own (s.heap.objs.size + 1)) (h':=s.heap.push PySem.W.emptyDict) (t':=s.toks) (fun b u q=>AC _ q) (AE _) ⟨_,e1⟩
 refine I1.laid (a:=s.heap.objs.size + 1) (o:=.ins C s.heap.objs.size []) (t':=s.toks) (fun b u q=>AC _ q) (Nat.le_of_eq (Heap.size_push _ _)) ?_
 have ne:s.heap.objs.size≠s.heap.objs.size + 1:=AU (Nat.lt_succ_self _)
 refine ⟨by rw [upd_ne ne,upd_same],Ap _,ne,e2,fun _=>none,(Heap.Ns1.of_empty e3).at fun o q=>AC _ q,fun _=>Ad,fun y hy=>absurd rfl hy⟩
theorem attr_of {prog:Program} {w:World} {env:Env} {e:Expr} {f:Str} {pos:Pos} {s:Shared} {Q:Value→Shared→Prop} (hb:attributeBase e f env (eval e env)=eval e env)
  (h:wpAny (model prog w) A (eval e env) (fun o s₁=>wpAny (model prog w) A (getAttr o f true) Q E s₁) E s):wpAny (model prog w) A (eval (.Attribute e f pos) env) Q E s :=
 Attribute_any_ h (by rw [arm_eval_Attribute,hb])
end
def tFld (K:PySem.W.Frag) (ta:TE) (f:Str):TE:=fun σ H Q=>ta σ H fun x H1=>∃ a C dx fs v,x=.ref a∧H1 a=some (.ins C dx fs)∧Cls K C∧NoAttr K C f∧fs.lookup f=some v∧Q v H1
def sFld (K:PySem.W.Frag) (ta tv:TE) (f:Str):TS:=fun D σ H=>tv σ H fun y H1=>ta σ H1 fun x H2=>∃ a C dx fs,x=.ref a∧H2 a=some (.ins C dx fs)∧Cls K C∧NoAttr K C f∧fs.length < 1000 ∧
 D.nx σ (upd H2 a (.ins C dx (putF f y fs)))
section
variable {X:Cx} {o e value:Expr} {f:Str} {pos pos' tpos:Pos} {ta tv:TE}
theorem pe_fld (he:PE X e ta) (hb:attributeBase e f X.env (eval e X.env)=eval e X.env):PE X (.Attribute e f pos) (tFld X.K ta f):=by
 intro pins s σ H Q I h
 refine attr_of hb (thn (he pins s σ H _ I h) fun u s1 ⟨x,H1,I1,rx,a,C,dx,fs,v,ex,ea,c,n,l,q⟩=>?_)
 subst ex
 obtain rfl:u=AT a:=rx
 exact getattr_ok I1 ea c n l fun u' s2 I2 ru=>⟨v,H1,I2,ru,q⟩
theorem ps_fld (ha:PE X o ta) (hv:PE X value tv) (hs:swapsWith value (some (.Attribute o f pos')) pos.line X.env=pure false):PS X (.Assign [.Attribute o f pos'] value pos) (sFld X.K ta tv f):=by
 intro pins s σ H D I h
 refine plainObj_wpAny_Assign_Attribute (thn (hv pins s σ H _ I h) fun u s1 ⟨y,H1,I1,ry,q⟩=>thn (ha pins s1 σ H1 _ I1 q) fun ov s2 ⟨x,H2,I2,rx,a,C,dx,fs,ex,ea,c,n,l,q2⟩=>?_) hs
 subst ex
 obtain rfl:ov=AT a:=rx
 exact setattr_ok I2 ea c n l ry fun s3 I3=>⟨σ,_,I3,q2⟩
theorem methcall_of {pl:Sem Bool} {m:Str} {apos:Pos} {args:List Expr} {pins:List (Addr×Obj)} {s:Shared} {σ:St} {H:Hp} {Q:Value→Shared→Prop} {te:TE} (he:PE X e te) (I:Inv X pins σ H s)
  (h:te σ H fun x H1=>∃ a C dx fs g,x=.ref a∧H1 a=some (.ins C dx fs)∧Cls X.K C∧Meth X.K C m g∧fs.lookup m=none ∧
   ∀ s1,Inv X pins σ H1 s1→wpAny (model X.prog X.w) X.A (callWith pos (.ref g) [.ref a] (backTo pos (Ak args X.env)) (backToKw pos (keywordEach [] X.env))) Q X.xe s1)
  (ht:eval (.Call (.Attribute e m apos) args [] pos) X.env=(do
   let ov ← eval e X.env
   standAt apos.atName
   let (f,first) ← holding [ov] (getMethod ov m pl)
   callWith pos f first (backTo pos (Ak args X.env)) (backToKw pos (keywordEach [] X.env)))) :
  wpAny (model X.prog X.w) X.A (eval (.Call (.Attribute e m apos) args [] pos) X.env) Q X.xe s:=by
 refine PySem.W.methodCall_KW (pl:=pl) (thn (he pins s σ H _ I h) fun u s1 ⟨x,H1,I1,rx,a,C,dx,fs,g,ex,ea,c,k,l,q⟩=>?_) ht
 subst ex
 obtain rfl:u=AT a:=rx
 exact getmeth_ok I1 ea c k l (q s1 I1)
end
section
variable {X:Cx} {pins:List (Addr×Obj)} {σ:St} {H:Hp} {s:Shared} {A:Around} {E:Value→Shared→Prop} {Q:Value→Shared→Prop} {c:Value} {b:Bool}
end
structure Room (k:Nat) (A:Around):Prop where
 hd:A.handled=none
 dp:A.depth + 3 * k + 5 < recursionLimit
 un:A.units + 16 * k + 200 < cLine
theorem Room.mono {j k:Nat} {A:Around} (r:Room k A) (h:j≤k):Room j A:=⟨r.hd,by have:=r.dp; omega,by have:=r.un; omega⟩
theorem Room.deeper {k:Nat} {A:Around} (r:Room (k + 1) A) (env:Env):Room k (A.deeper env) :=
 ⟨r.hd,by have:=r.dp; show A.depth + 1 + 3 * k + 5 < _; omega,by have:=r.un; show A.units + 3 + 16 * k + 200 < _; omega⟩
theorem Room.in1 {k:Nat} {A:Around} (r:Room (k + 1) A):Room k A.in1 :=
 ⟨r.hd,by have:=r.dp; show A.depth + 3 * k + 5 < _; omega,by have:=r.un; show A.units + 1 + 16 * k + 200 < _; omega⟩
theorem make_depth {A:Around} {C:Addr} {us:List Value} {kw:List (Str×Value)}:(A.under (.builtin "type.__call__" ⟨.ref C :: us,kw⟩)).depth=A.depth + 1:=by
 first | rfl | simp [Around.under,Code.weight,Code.isCreation,Code.isGuard,Code.isCaller,Code.frames,Code.isFrame,guardIds]
theorem make_units {A:Around} {C:Addr} {us:List Value} {kw:List (Str×Value)}:(A.under (.builtin "type.__call__" ⟨.ref C :: us,kw⟩)).units=A.units + 1:=by
 first | rfl | simp [Around.under,Code.cUnits,Code.frames,Code.isFrame]
theorem Room.make {k:Nat} {A:Around} (r:Room (k + 1) A) (C:Addr) (us:List Value) (kw:List (Str×Value)):Room k (A.under (.builtin "type.__call__" ⟨.ref C :: us,kw⟩)) :=
 ⟨r.hd,by have:=r.dp; rw [make_depth]; omega,by have:=r.un; rw [make_units]; omega⟩
theorem Room.depth {k:Nat} {A:Around} (r:Room k A):A.depth < recursionLimit:=by have:=r.dp; omega
theorem Room.units {k:Nat} {A:Around} (r:Room k A):A.units + 64 < cLine:=by have:=r.un; omega
def tNil:TA:=fun _ H Q=>Q [] H
def tCons (ta:TE) (tr:TA):TA:=fun σ H Q=>ta σ H fun x H1=>tr σ H1 fun xs H2=>Q (x :: xs) H2
section
variable {X:Cx} {e:Expr} {es:List Expr} {te:TE} {t:TA} {pos:Pos}
theorem pa_nil:PA X [] tNil:=fun _ _ _ _ H Q I h=>Calls.spliced_nil ⟨[],H,I,.nil,h⟩
theorem pa_cons (ha:PE X e te) (hr:PA X es t) (hs:Ak (e :: es) X.env=(false,eval e X.env) :: Ak es X.env:=by rfl):PA X (e :: es) (tCons te t):=by
 intro pos pins s σ H Q I h
 rw [hs]
 show wpAny _ _ (spliced ((false,eval e X.env) :: backTo pos (Ak es X.env))) _ _ s
 refine Calls.spliced_cons (thn (ha pins s σ H _ I h) fun u s1 ⟨x,H1,I1,r1,q1⟩=>?_)
 exact thn (hr pos pins s1 σ H1 _ I1 q1) fun us s2 ⟨xs,H2,I2,r2,q2⟩=>⟨x :: xs,H2,I2,.cons r1 r2,q2⟩
def tTup (t:TA):TE:=fun σ H Q=>t σ H fun xs H1=>xs.length≤AR∧∀ p,H1 p=none→Q (.ref p) (upd H1 p (.tup xs))
def tLst (t:TA):TE:=fun σ H Q=>t σ H fun xs H1=>xs.length≤AR∧∀ p,H1 p=none→Q (.ref p) (upd H1 p (.lst xs))
theorem pe_tup {x1} (h:PA X es t):PE X (.Tuple es x1 pos) (tTup t):=by
 intro pins s σ H Q I hq
 refine wpAny_Tuple_spliced (thn (h pos pins s σ H _ I hq) fun us s1 ⟨xs,H1,I1,r,z,q⟩=>⟨by rw [← r.length]; exact z,?_⟩)
 have hf:H1 s1.heap.objs.size=none:=I1.hok.fresh (AE _)
 refine ⟨.ref s1.heap.objs.size,upd H1 s1.heap.objs.size (.tup xs),I1.laid (t':=s1.toks) (fun b u e=>AC _ e) (AE _) ?_,rfl,q _ hf⟩
 exact ⟨z,us,r,⟨_,Ah _ rfl,rfl,_,rfl⟩⟩
theorem pe_lst (h:PA X es t):PE X (.List es pos) (tLst t):=by
 intro pins s σ H Q I hq
 refine wpAny_List_spliced (thn (h pos pins s σ H _ I hq) fun us s1 ⟨xs,H1,I1,r,z,q⟩=>⟨by rw [← r.length]; exact z,?_⟩)
 have hf:H1 s1.heap.objs.size=none:=I1.hok.fresh (AE _)
 refine ⟨.ref s1.heap.objs.size,upd H1 s1.heap.objs.size (.lst xs),I1.laid (t':=s1.toks) (fun b u e=>AC _ e) (AE _) ?_,rfl,q _ hf⟩
 exact ⟨z,us,0,r,Ah _ rfl⟩
end
abbrev Sp:=List V→Hp→VK→XK→Prop
abbrev CXT:=List Env→Hp→Shared→XK→Value→Shared→Prop
structure Env0 (P:Program) (w:World) (K:PySem.W.Frag) (mg:Str→Option Value) (base:Heap) (A:Around) (outer:List Env) (s:Shared) (H:Hp):Prop where
 frames:A.frames=some outer
 mod:Mod K mg base
 bs:∀ b o,base.get? b=some o→s.heap.get? b=some o∧H b=none
 bsz:base.objs.size≤s.heap.objs.size
 funs:s.heap.FunFrames base outer
 frf:∀ b∈frs outer,H b=none
 hok:HOk P w H s.heap
 bare:AllBare s.gens
def CE (outer:List Env) (P:Program) (w:World) (H:Hp) (s:Shared) (Q:VK) (u:Value) (s':Shared):Prop :=
 ∃ v H',s'.os=s.os∧AllBare s'.gens∧Un (frs outer) [] H H' s.heap s'.heap∧HOk P w H' s'.heap∧RelV v u∧Q v H'
def CR (CX:CXT) (outer:List Env) (P:Program) (w:World) (H:Hp) (s:Shared) (Q:VK) (E:XK) (r:Result) (s':Shared):Prop :=
 match r with
 | .ok (.ret u)=>CE outer P w H s Q u s'
 | .ok _=>False
 | .error e=>CX outer H s E e s'
structure FnOk (P:Program) (w:World) (K:PySem.W.Frag) (mg:Str→Option Value) (base:Heap) (CX:CXT) (k:Nat) (f:Addr) (fd:FuncData) (ps:List Str) (sp:Sp):Prop where
 len:∀ vs H Q E,sp vs H Q E→vs.length=ps.length
 run:∀ (A:Around) (outer:List Env) (s:Shared) (H:Hp) (args:Args) (us:List Value) (vs:List V) (Q:VK) (E:XK),Room k A→Env0 P w K mg base A outer s H→BindsTo s fd args (ps.zip us)→Vals vs us→sp vs H Q E →
  codeAny (model P w) A (.call (.ref f) args) (CR CX outer P w H s Q E) s
theorem Env0.make {P:Program} {w:World} {K:PySem.W.Frag} {mg:Str→Option Value} {base:Heap} {A:Around} {outer:List Env} {s:Shared} {H:Hp} (e:Env0 P w K mg base A outer s H) (C:Addr) (us:List Value) (kw:List (Str×Value)) :
  Env0 P w K mg base (A.under (.builtin "type.__call__" ⟨.ref C :: us,kw⟩)) outer s H:=⟨by first | exact e.frames | (simpa [Around.under,Code.envs,Code.isFrame,pushEnvs] using e.frames),e.mod,e.bs,e.bsz,e.funs,e.frf,e.hok,e.bare⟩
theorem Env0.in1 {P:Program} {w:World} {K:PySem.W.Frag} {mg:Str→Option Value} {base:Heap} {A:Around} {outer:List Env} {s:Shared} {H:Hp} (e:Env0 P w K mg base A outer s H) :
  Env0 P w K mg base A.in1 outer s H:=⟨e.frames,e.mod,e.bs,e.bsz,e.funs,e.frf,e.hok,e.bare⟩
section
variable {X:Cx} {pins:List (Addr×Obj)} {σ:St} {H:Hp} {s s':Shared}
theorem Inv.env0 (I:Inv X pins σ H s):Env0 X.prog X.w X.K X.mg X.base X.A X.stack s H :=
 ⟨I.ok.frames,I.ok.mod,I.bs,Au I.ok.bsz I.sz,I.stack,I.stkFree,I.hok,I.bare⟩
theorem Inv.after {Q:VK} {u:Value} (I:Inv X pins σ H s) (h:CE X.stack X.prog X.w H s Q u s'):EP X pins σ Q u s':=by
 obtain ⟨v,H',os,bare,un,hok,r,q⟩:=h
 obtain ⟨hh,g,d,t,os'⟩:=s'
 obtain rfl:os'=s.os:=os
 exact ⟨v,H',I.call (h':=hh) (g':=g) (d':=d) (t':=t) (ch:=[]) un hok bare (fun b z=>absurd z (by simp)),r,q⟩
end
def tCall (sp:Sp) (dvs:List V) (E:XK) (t:TA):TE:=fun σ H Q=>t σ H fun vs H1=>sp (vs++dvs) H1 Q E
def tMeth (C:Addr) (m:Str) (sp:Sp) (dvs:List V) (E:XK) (ta:TE) (t:TA):TE:=fun σ H Q=>ta σ H fun x H1=>∃ a dx fs,x=.ref a∧H1 a=some (.ins C dx fs)∧fs.lookup m=none ∧
 t σ H1 fun vs H2=>sp (x :: (vs++dvs)) H2 Q E
def tMake (C:Addr) (sp:Sp) (dvs:List V) (E:XK) (t:TA):TE:=fun σ H Q=>t σ H fun vs H1=>∀ x dx,H1 x=none→H1 dx=none→dx≠x →
 sp (.ref x :: (vs++dvs)) (upd (upd H1 dx (.own x)) x (.ins C dx [])) (fun v H2=>v=.non∧Q (.ref x) H2) E
def Binds (K:PySem.W.Frag) (fd:FuncData) (ps:List Str) (ds:List Value):Prop :=
 ∀ (s:Shared) (us:List Value),K.In s.heap→(us++ds).length=ps.length→BindsTo s fd ⟨us,[]⟩ (ps.zip (us++ds))
theorem Binds.all {K:PySem.W.Frag} {fd:FuncData} {ps:List Str} (h:∀ us:List Value,us.length=ps.length→bindArgs fd ⟨us,[]⟩=pure (ps.zip us)):Binds K fd ps []:=fun s us _ hl=>by
 rw [A2] at hl ⊢
 exact .of_eq (h us hl)
def Passes (CX:CXT) (X:Cx) (E:XK):Prop:=∀ (pins:List (Addr×Obj)) (σ:St) (H:Hp) (s:Shared) (e:Value) (s':Shared),Inv X pins σ H s→CX X.stack H s E e s'→X.xe e s'
section
variable {X:Cx} {CX:CXT} {k:Nat} {f C:Addr} {fd:FuncData} {ps:List Str} {sp:Sp} {dvs:List V} {ds:List Value} {E:XK} {x m:Str} {p pos apos:Pos} {e o:Expr} {es:List Expr} {ta:TE} {t:TA}
theorem run_fn {pins:List (Addr×Obj)} {σ:St} {H:Hp} {s:Shared} {Q:VK} {us:List Value} {vs:List V} (F:FnOk X.prog X.w X.K X.mg X.base CX k f fd ps sp) (hr:Room k X.A) (hb:Binds X.K fd ps ds) (hd:Vals dvs ds) (hx:Passes CX X E)
  (I:Inv X pins σ H s) (r:Vals vs us) (h:sp (vs++dvs) H Q E):wpAny (model X.prog X.w) X.A (call (.ref f) us) (EP X pins σ Q) X.xe s:=by
 have r2:Vals (vs++dvs) (us++ds):=r.append hd
 have hl:(us++ds).length=ps.length:=by rw [← r2.length]; exact F.len _ _ _ _ h
 refine wpAny_call (codeAny_mono (F.run X.A X.stack s H ⟨us,[]⟩ (us++ds) (vs++dvs) Q E hr I.env0 (hb s us I.kIn hl) r2 h) fun r s' hq=>?_)
 cases r with
 | error e=>exact hx pins σ H s e s' I hq
 | ok fl =>
  cases fl with
  | ret u=>exact I.after hq
  | next=>exact BF hq
  | brk=>exact BF hq
  | cont=>exact BF hq
theorem pe_call (F:FnOk X.prog X.w X.K X.mg X.base CX k f fd ps sp) (hr:Room k X.A) (hg:Gl X x) (hm:X.mg x=some (.ref f)) (hk:Av X.K (.ref f)=true) (hb:Binds X.K fd ps ds) (hd:Vals dvs ds) (hx:Passes CX X E)
  (ha:PA X (e :: es) t) (hdb:(x == ("__debug__":Str))=false:=by decide) (he:Ak (e :: es) X.env=(false,eval e X.env) :: Ak es X.env:=by rfl) (hpl:(backTo pos (Ak es X.env)).any (·.1)=false:=by rfl) :
  PE X (.Call (.Name x p) (e :: es) [] pos) (tCall sp dvs E t):=by
 intro pins s σ H Q I h
 refine wpAny_Call_Name_kw (ld_glob I hg hm ?_ hdb)
 refine PySem.W.callWith_K (h₀:=X.base) I.ok.mod.kin hk (thn (ha pos pins s σ H _ I h) fun us s1 ⟨vs,H1,I1,r,q⟩=>⟨I1.kIn,?_⟩) he hpl
 exact run_fn F hr hb hd hx I1 r q
theorem pe_meth {pl:Sem Bool} (he:PE X o ta) (c:Cls X.K C) (hm:Meth X.K C m f) (F:FnOk X.prog X.w X.K X.mg X.base CX k f fd ps sp) (hr:Room k X.A) (hb:Binds X.K fd ps ds) (hd:Vals dvs ds) (hx:Passes CX X E) (ha:PA X (e :: es) t)
  (hst:Ak (e :: es) X.env=(false,eval e X.env) :: Ak es X.env:=by rfl) (hpl:(backTo pos (Ak es X.env)).any (·.1)=false:=by rfl)
  (ht:eval (.Call (.Attribute o m apos) (e :: es) [] pos) X.env=(do
   let ov ← eval o X.env
   standAt apos.atName
   let (f,first) ← holding [ov] (getMethod ov m pl)
   callWith pos f first (backTo pos (Ak (e :: es) X.env)) (backToKw pos (keywordEach [] X.env))):=by rfl) :
  PE X (.Call (.Attribute o m apos) (e :: es) [] pos) (tMeth C m sp dvs E ta t):=by
 intro pins s σ H Q I h
 refine PySem.W.methodCall_KW (pl:=pl) (thn (he pins s σ H _ I h) fun u s1 ⟨x,H1,I1,rx,a,dx,fs,ex,ea,l,q⟩=>?_) ht
 subst ex
 obtain rfl:u=AT a:=rx
 refine getmeth_ok I1 ea c hm l ?_
 refine PySem.W.callWith_K (first:=[.ref a]) (h₀:=X.base) I.ok.mod.kin hm.kp (thn (ha pos pins s1 σ H1 _ I1 q) fun us s2 ⟨vs,H2,I2,r,q2⟩=>⟨I2.kIn,?_⟩) hst hpl
 exact run_fn (us:=.ref a :: us) (vs:=.ref a :: vs) F hr hb hd hx I2 (.cons rfl r) q2
structure Mk (K:PySem.W.Frag) (C f:Addr):Prop where
 makes:PySem.W.makesIn K C=true
 init:Ao K (.ref C) "__init__"=some (some (.ref f))
 fn:PySem.W.isFn K (.ref f)=true
 kp:Av K (.ref C)=true
theorem run_make {pins:List (Addr×Obj)} {σ:St} {H:Hp} {s:Shared} {Q:VK} {us:List Value} {vs:List V} (M:Mk X.K C f) (F:FnOk X.prog X.w X.K X.mg X.base CX k f fd ps sp) (hr:Room (k + 1) X.A) (hb:Binds X.K fd ps ds) (hd:Vals dvs ds)
  (hx:Passes CX X E) (I:Inv X pins σ H s) (r:Vals vs us)
  (h:∀ x dx,H x=none→H dx=none→dx≠x→sp (.ref x :: (vs++dvs)) (upd (upd H dx (.own x)) x (.ins C dx [])) (fun v H2=>v=.non∧Q (.ref x) H2) E) :
  wpAny (model X.prog X.w) X.A (call (.ref C) us) (EP X pins σ Q) X.xe s:=by
 have hq:=h (s.heap.objs.size + 1) s.heap.objs.size (I.hok.fresh (Nat.le_succ _)) (I.hok.fresh (AE _)) (AU (Nat.lt_succ_self _))
 have I2:=Inv.made (C:=C) I
 have r2:Vals (V.ref (s.heap.objs.size + 1) :: (vs++dvs)) (AT (s.heap.objs.size + 1) :: (us++ds)):=.cons rfl (r.append hd)
 have hl:(AT (s.heap.objs.size + 1) :: us++ds).length=ps.length:=by
  have e:=r2.length
  rw [F.len _ _ _ _ hq] at e
  exact e.symm
 refine wpAny_call (make_map (f:=f) I.kIn M.makes M.init (beq_iff_eq.mp M.fn) (codeAny_mono (F.run _ X.stack _ _ ⟨AT (s.heap.objs.size + 1) :: us,[]⟩ (AT (s.heap.objs.size + 1) :: (us++ds)) _ _ E (hr.make C us [])
  (I2.env0.make C us []) (hb _ (AT (s.heap.objs.size + 1) :: us) I2.kIn hl) r2 hq) fun r s' hq'=>?_))
 cases r with
 | error e=>exact hx pins σ _ _ e s' I2 hq'
 | ok fl =>
  cases fl with
  | ret u =>
   obtain ⟨v,H',I3,rv,ev,q3⟩:=I2.after hq'
   subst ev
   exact ⟨rv,⟨V.ref (s.heap.objs.size + 1),H',I3,rfl,q3⟩⟩
  | next=>exact BF hq'
  | brk=>exact BF hq'
  | cont=>exact BF hq'
theorem pe_make (M:Mk X.K C f) (F:FnOk X.prog X.w X.K X.mg X.base CX k f fd ps sp) (hr:Room (k + 1) X.A) (hg:Gl X x) (hm:X.mg x=some (.ref C)) (hb:Binds X.K fd ps ds) (hd:Vals dvs ds) (hx:Passes CX X E)
  (ha:PA X (e :: es) t) (hdb:(x == ("__debug__":Str))=false:=by decide) (he:Ak (e :: es) X.env=(false,eval e X.env) :: Ak es X.env:=by rfl) (hpl:(backTo pos (Ak es X.env)).any (·.1)=false:=by rfl) :
  PE X (.Call (.Name x p) (e :: es) [] pos) (tMake C sp dvs E t):=by
 intro pins s σ H Q I h
 refine wpAny_Call_Name_kw (ld_glob I hg hm ?_ hdb)
 refine PySem.W.callWith_K (h₀:=X.base) I.ok.mod.kin M.kp (thn (ha pos pins s σ H _ I h) fun us s1 ⟨vs,H1,I1,r,q⟩=>⟨I1.kIn,?_⟩) he hpl
 exact run_make M F hr hb hd hx I1 r q
end
def PK (X:Cx) (kws:List Keyword) (t:TA):Prop :=
 ∀ (pos:Pos) (pins:List (Addr×Obj)) (s:Shared) (σ:St) (H:Hp) (Q:List V→Hp→Prop),Inv X pins σ H s→t σ H Q→wpAny (model X.prog X.w) X.A (evalAll ((backToKw pos (keywordEach kws X.env)).map (·.2))) (AP X pins σ Q) X.xe s
section
variable {X:Cx} {CX:CXT} {k:Nat} {f C:Addr} {fd:FuncData} {ps ks:List Str} {sp:Sp} {E:XK} {x m:Str} {p pos apos kpos:Pos} {e o:Expr} {es:List Expr} {kws:List Keyword} {te ta:TE} {t tk:TA} {nm:Option Str}
theorem pk_nil:PK X [] tNil:=fun _ _ _ _ H Q I h=>wpAny_evalAll_nil ⟨[],H,I,.nil,h⟩
theorem pk_cons (ha:PE X e te) (hr:PK X kws t):PK X (⟨nm,e,kpos⟩ :: kws) (tCons te t):=by
 intro pos pins s σ H Q I h
 show wpAny _ _ (evalAll ((do let v ← eval e X.env; standAt pos; pure v) :: (backToKw pos (keywordEach kws X.env)).map (·.2))) _ _ s
 refine wpAny_evalAll_cons (AB (thn (ha pins s σ H _ I h) fun u s1 ⟨x,H1,I1,r1,q1⟩=>AB (wpAny_standAt (AG ?_))))
 exact thn (hr pos pins s1 σ H1 _ I1 q1) fun us s2 ⟨xs,H2,I2,r2,q2⟩=>⟨x :: xs,H2,I2,.cons r1 r2,q2⟩
variable {g:List Value→List Value→List Value} {gV:List V→List V→List V}
end
structure FnScope (N P:List Str) (sc:Scope):Prop where
 kind:sc.kind=.function
 co:sc.isCoroutine=false
 gen:sc.isGenerator=false
 nd:N.Nodup
 pre:N.take P.length=P
 par:∀ x∈P,sc.names.lookup x=some .local∨sc.names.lookup x=some .cell
 nofree:∀ y∈sc.names,y.2≠.free
theorem bindL_out {kindOf:Str→Option NameKind} {x:Str}:∀ {binds:List (Str×Value)} {m:Str→Option Value},(∀ v,(x,v) ∉ binds)→bindL kindOf binds m x=m x
 | [],_,_=>rfl
 | (n,v) :: r,m,h=>by
  unfold bindL
  rw [bindL_out fun w hw=>h w (Aa _ hw)]
  split
  ·have:x≠n:=by rintro rfl; exact h v AZ
   simp [this]
  ·rfl
theorem bindC_out {kindOf:Str→Option NameKind} {x:Str}:∀ {binds:List (Str×Value)} {m:Str→Option Value},(∀ v,(x,v) ∉ binds)→bindC kindOf binds m x=m x
 | [],_,_=>rfl
 | (n,v) :: r,m,h=>by
  unfold bindC
  rw [bindC_out fun w hw=>h w (Aa _ hw)]
  split
  ·rfl
  ·have:x≠n:=by rintro rfl; exact h v AZ
   simp [this]
theorem bindL_get {kindOf:Str→Option NameKind} {x:Str} {v:Value}:∀ {P:List Str} {vs:List Value} {i:Nat} {m:Str→Option Value},P.Nodup→P[i]?=some x→vs[i]?=some v→kindOf x=some .local →
  bindL kindOf (P.zip vs) m x=some v
 | [],_,_,_,_,h,_,_=>by simp at h
 | _ :: _,[],_,_,_,_,h,_=>by simp at h
 | p :: P,w :: vs,0,m,nd,h1,h2,hk=>by
  simp at h1 h2; subst h1; subst h2
  show bindL kindOf ((p,w) :: P.zip vs) m p=_
  unfold bindL
  rw [bindL_out fun v hv=>(List.nodup_cons.mp nd).1 (List.of_mem_zip hv).1,if_pos hk]
  simp
 | p :: P,w :: vs,i + 1,m,nd,h1,h2,hk=>by
  show bindL kindOf ((p,w) :: P.zip vs) m x=_
  unfold bindL
  exact bindL_get (i:=i) (List.nodup_cons.mp nd).2 (by simpa using h1) (by simpa using h2) hk
theorem bindC_get {kindOf:Str→Option NameKind} {x:Str} {v:Value}:∀ {P:List Str} {vs:List Value} {i:Nat} {m:Str→Option Value},P.Nodup→P[i]?=some x→vs[i]?=some v→kindOf x≠some .local →
  bindC kindOf (P.zip vs) m x=some v
 | [],_,_,_,_,h,_,_=>by simp at h
 | _ :: _,[],_,_,_,_,h,_=>by simp at h
 | p :: P,w :: vs,0,m,nd,h1,h2,hk=>by
  simp at h1 h2; subst h1; subst h2
  show bindC kindOf ((p,w) :: P.zip vs) m p=_
  unfold bindC
  rw [bindC_out fun v hv=>(List.nodup_cons.mp nd).1 (List.of_mem_zip hv).1,if_neg hk]
  simp
 | p :: P,w :: vs,i + 1,m,nd,h1,h2,hk=>by
  show bindC kindOf ((p,w) :: P.zip vs) m x=_
  unfold bindC
  exact bindC_get (i:=i) (List.nodup_cons.mp nd).2 (by simpa using h1) (by simpa using h2) hk
def start (N:List Str) (vs:List V):St:=vs.map some++List.replicate (N.length - vs.length) none
def cxOf (CX:CXT) (P:Program) (w:World) (K:PySem.W.Frag) (mg:Str→Option Value) (base:Heap) (N:List Str) (qual:Str) (scope:Scope) (f:Addr) (cd:Value) (A:Around) (outer:List Env) (s:Shared) (H:Hp) (E:XK):Cx where
 prog:=P
 w:=w
 K:=K
 mg:=mg
 base:=base
 A:=A.deeper (envOfC qual scope s.heap.objs.size f cd)
 N:=N
 s₀:=s
 H₀:=H
 env:=envOfC qual scope s.heap.objs.size f cd
 outer:=outer
 stack:=envOfC qual scope s.heap.objs.size f cd :: outer
 ex:=[]
 calm:=true
 fn:=fun _=>true
 pn:=[]
 xe:=fun e s'=>wpAny (model P w) (A.deeper (envOfC qual scope s.heap.objs.size f cd)) (leaving (envOfC qual scope s.heap.objs.size f cd) e) (fun _ s''=>CX outer H s E e s'') (fun e' s''=>CX outer H s E e' s'') s'
theorem cell_has {sc:Scope} {n:Nat} {x:Str} (h:sc.names.lookup x=some .cell):∃ c,(cellsFrom n sc.names []).lookup x=some c:=by
 have q:=PySem.W.cellsFrom_some sc.names n [] (.inl h)
 exact Option.isSome_iff_exists.mp q
theorem inv_start {CX:CXT} {P:Program} {w:World} {K:PySem.W.Frag} {mg:Str→Option Value} {base:Heap} {N ps:List Str} {qual:Str} {scope:Scope} {f:Addr} {cd:Value} {A:Around} {outer:List Env} {s s1:Shared} {H:Hp} {E:XK} {us:List Value} {vs:List V}
  (S:FnScope N ps scope) (hd:A.handled=none) (e0:Env0 P w K mg base A outer s H) (hl:vs.length=ps.length) (r:Vals vs us)
  (x:InCallC s s.heap.objs.size (bindL (envOfC qual scope s.heap.objs.size f cd).kindOf (ps.zip us) fun _=>none) (cellsFrom (s.heap.objs.size + 1) scope.names []) (bindC (envOfC qual scope s.heap.objs.size f cd).kindOf (ps.zip us) fun _=>none) s1) :
  Inv (cxOf CX P w K mg base N qual scope f cd A outer s H E) [] (start N vs) H s1:=by
 have hpl:ps.length≤N.length:=by have:=congrArg List.length S.pre; rw [Ae] at this; omega
 obtain ⟨h1,tk,rfl,hk⟩:=x.done
 have noA:∀ b:Addr,b ∉ (cxOf CX P w K mg base N qual scope f cd A outer s H E).ex:=fun b z=>absurd (show b∈([]:List Addr) from z) (by simp)
 refine ⟨⟨e0.mod,S.kind,rfl,rfl,AE _,fun y z c h1 h2=>?_,fun y hy=>?_,fun y c _ h=>?_,fun _=>hd,Around.frames_deeper e0.frames,.inr ⟨rfl,rfl⟩,fun b z=>absurd z (noA b),e0.bs,e0.bsz,fun b _ _=>noA b,fun b z=>absurd z (noA b),e0.funs,e0.frf⟩,
  rfl,e0.bare,Un.kept hk,⟨_,x.toInCall.ns,fun i y v h1 h2 h3=>?_⟩,fun y c h=>⟨_,x.cell y c h⟩,e0.hok.fresh (AE _),fun y c h=>?_,fun p hp=>absurd (show p∈([]:List (Addr×Obj)) from hp) (by simp),e0.hok.kept hk,?_⟩
 ·exact name_of_addr x.apart (PySem.mem_of_lookup h1) (PySem.mem_of_lookup h2)
 ·have hy:scope.names.lookup y=some .cell∨scope.names.lookup y=some .free:=hy
  rcases hy with hy | hy
  ·exact cell_has hy
  ·exact absurd rfl (S.nofree _ (PySem.mem_of_lookup hy))
 ·exact Nat.le_of_lt (x.above y c (PySem.mem_of_lookup h))
 ·have hi:i < vs.length:=by
   unfold start at h2
   by_cases hi:i < vs.length
   ·exact hi
   ·rw [List.getElem?_append_right (by simpa using hi)] at h2
    rw [List.getElem?_replicate] at h2
    split at h2 <;> cases h2
  have ha:vs[i]?=some v:=by
   unfold start at h2
   rw [List.getElem?_append_left (by simpa using hi),AH] at h2
   cases e:vs[i]? with
   | none=>rw [e] at h2; cases h2
   | some a=>rw [e] at h2; cases h2; rfl
  obtain ⟨u,hu,rv⟩:=r.get ha
  have hp:ps[i]?=some y:=by
   rw [← S.pre,List.getElem?_take_of_lt (by omega)]; exact h1
  have ndP:ps.Nodup:=by rw [← S.pre]; exact S.nd.sublist (List.take_sublist _ _)
  refine ⟨u,rv,?_⟩
  rcases S.par y (Al hp) with k | k
  ·exact .inl ⟨k,bindL_get ndP hp hu k⟩
  ·obtain ⟨c,e⟩:=cell_has (n:=s.heap.objs.size + 1) k
   refine .inr ⟨.inl k,c,e,?_⟩
   have q:=x.cell y c e
   rw [bindC_get ndP hp hu (by show scope.names.lookup y≠_; rw [k]; decide)] at q
   exact q
 ·exact e0.hok.fresh (Nat.le_of_lt (x.above y c (PySem.mem_of_lookup h)))
 ·unfold start
  show _=N.length
  rw [AN,AA,List.length_replicate]
  omega
theorem fn_of {CX:CXT} {P:Program} {w:World} {K:PySem.W.Frag} {mg:Str→Option Value} {base:Heap} {k:Nat} {f:Addr} {name qual:Str} {params:Arguments} {body:List Stmt} {scope:Scope} {dV kV doc pm cdv ct oc:Value} {an od:Option Addr}
  {osl:Array (Option Value)} {N ps:List Str} {sp:Sp} (lk:K.lookup f=some ⟨oc,od,.func (A7 name qual params body scope dV kV doc pm an cdv ct),osl⟩) (hcd:A5 K cdv qual=true) (S:FnScope N ps scope)
  (len:∀ vs H Q E,sp vs H Q E→vs.length=ps.length)
  (hbody:∀ (A:Around) (outer:List Env) (s:Shared) (H:Hp) (vs:List V) (Q:VK) (E:XK),Room k (A.deeper (envOfC qual scope s.heap.objs.size f cdv))→sp vs H Q E →
   ∃ t,PSs (cxOf CX P w K mg base N qual scope f cdv A outer s H E) body t∧t { nx:=fun _ H'=>Q .non H',rt:=Q } (start N vs) H) :
  FnOk P w K mg base CX (k + 1) f (A7 name qual params body scope dV kV doc pm an cdv ct) ps sp:=by
 refine ⟨len,fun A outer s H args us vs Q E hr e0 hb r hsp=>?_⟩
 have hl:=len _ _ _ _ hsp
 have KX:K.In s.heap:=e0.mod.kin.keeps fun b o e=>(e0.bs b o e).1
 have lim:s.heap.NoLimit:=e0.mod.nolimit.keeps fun b o e=>(e0.bs b o e).1
 have hkind:∀ y∈ps.zip us,scope.names.lookup y.1=some .local∨(scope.names.lookup y.1=some .cell∧((cellsFrom (s.heap.objs.size + 1) scope.names []).lookup y.1).isSome=true):=fun ⟨n,v⟩ hy=>by
  rcases S.par n (List.of_mem_zip hy).1 with q | q
  ·exact .inl q
  ·exact .inr ⟨q,PySem.W.cellsFrom_some _ _ _ (.inl q)⟩
 refine codeAny_call_function hr.depth (KX _ _ lk) rfl S.co S.gen rfl (PySem.W.codeRec_of KX hcd) (hb _ _ _ _ ?_)
 refine wpAny_newFunctionEnv_cells S.kind hkind fun env he s1 x=>?_
 subst he
 refine ⟨lim.keeps x.toInCall.keep,codeAny_func ?_⟩
 obtain ⟨t,ht,hq⟩:=hbody A outer s H vs Q E (hr.deeper _) hsp
 have I:Inv (cxOf CX P w K mg base N qual scope f cdv A outer s H E) [] (start N vs) H s1:=inv_start S hr.hd e0 hl r x
 refine wpAny_mono (ht [] s1 (start N vs) H _ I hq) (fun fl s' hs=>?_) fun e s' hs=>hs
 have fin:∀ {σ':St} {H':Hp} {v:V} {u:Value},Inv (cxOf CX P w K mg base N qual scope f cdv A outer s H E) [] σ' H' s'→RelV v u→Q v H'→CE outer P w H s Q u s' :=
  fun {σ' H' v u} J rv q=>⟨v,H',J.os,J.bare,J.base,J.hok,rv,q⟩
 cases fl with
 | ret u =>
  obtain ⟨v,σ',H',J,rv,q⟩:=hs
  exact fin J rv q
 | next =>
  obtain ⟨σ',H',J,q⟩:=hs
  exact fin (v:=V.non) (u:=BD) J rfl q
 | brk =>
  obtain ⟨_,_,_,q⟩:=hs
  exact BF q
 | cont =>
  obtain ⟨_,_,_,q⟩:=hs
  exact BF q
section
variable {X:Cx} {x:Str} {p pos:Pos} {e:Expr} {es:List Expr} {t:TA} {id T:String} {r:List V→Hp→VK→Prop}
def tCB (r:List V→Hp→VK→Prop) (t:TA):TE:=fun σ H Q=>t σ H fun vs H1=>r vs H1 Q
theorem pe_callB (hc:CallR X (.builtin id) r) (hg:Gl X x) (hm:X.mg x=none) (hv:bootBuiltins x=some (.builtin id)) (ha:PA X (e :: es) t) (hn:x≠"__name__":=by decide) (hdb:(x == ("__debug__":Str))=false:=by decide)
  (he:Ak (e :: es) X.env=(false,eval e X.env) :: Ak es X.env:=by rfl) (hpl:(backTo pos (Ak es X.env)).any (·.1)=false:=by rfl):PE X (.Call (.Name x p) (e :: es) [] pos) (tCB r t):=by
 intro pins s σ H Q I h
 refine wpAny_Call_Name_kw (ld_blt I hg hm hv ?_ hn hdb)
 exact PyProof.Rows.callWith_builtin1 (thn (ha pos pins s σ H _ I h) fun us s1 ⟨vs,H1,I1,r1,q1⟩=>hc pins s1 σ H1 vs us Q I1 r1 q1) he hpl
theorem pe_callTy (hc:CallR X (.type T) r) (hg:Gl X x) (hm:X.mg x=none) (hv:bootBuiltins x=some (.type T)) (ha:PA X (e :: es) t) (hn:x≠"__name__":=by decide) (hdb:(x == ("__debug__":Str))=false:=by decide)
  (he:Ak (e :: es) X.env=(false,eval e X.env) :: Ak es X.env:=by rfl) (hpl:(backTo pos (Ak es X.env)).any (·.1)=false:=by rfl):PE X (.Call (.Name x p) (e :: es) [] pos) (tCB r t):=by
 intro pins s σ H Q I h
 refine wpAny_Call_Name_kw (ld_blt I hg hm hv ?_ hn hdb)
 exact PyProof.Rows.callWith_type1 (thn (ha pos pins s σ H _ I h) fun us s1 ⟨vs,H1,I1,r1,q1⟩=>hc pins s1 σ H1 vs us Q I1 r1 q1) he hpl
end
section
variable {κ:Type} [DecidableEq κ]
def valV (kvs:List (κ×V)) (k:κ):Option V:=(kvs.find? fun kv=>decide (kv.1=k)).map (·.2)
def putK (kvs:List (κ×V)) (k:κ) (v:V):List (κ×V) :=
 if (kvs.any fun kv=>decide (kv.1=k))=true then kvs.map (fun kv=>if kv.1=k then (kv.1,v) else kv) else kvs++[(k,v)]
theorem valV_pos {p:κ×V} {r:List (κ×V)} {k:κ} (e:p.1=k):valV (p :: r) k=some p.2:=by simp [valV,List.find?_cons,e]
theorem valV_neg {p:κ×V} {r:List (κ×V)} {k:κ} (e:¬ p.1=k):valV (p :: r) k=valV r k:=by simp [valV,List.find?_cons,e]
theorem valV_any (k:κ):∀ kvs:List (κ×V),(kvs.any fun kv=>decide (kv.1=k))=(valV kvs k).isSome
 | []=>rfl
 | p :: r=>by
  rw [List.any_cons]
  by_cases e:p.1=k
  ·simp only [valV_pos e,decide_eq_true e,Bool.true_or,Option.isSome_some]
  ·rw [valV_neg e,decide_eq_false e,Bool.false_or]; exact valV_any k r
theorem length_putK (kvs:List (κ×V)) (k:κ) (v:V):(putK kvs k v).length≤kvs.length + 1:=by
 unfold putK
 split
 ·rw [AA]; omega
 ·rw [AN,AS,List.length_nil]; omega
theorem RelO.isSome_eq {o:Option V} {u:Option Value} (r:RelO o u):o.isSome=u.isSome:=by
 cases o with
 | none=>cases u with
  | none=>rfl
  | some _=>exact (show False from r).elim
 | some _=>cases u with
  | none=>exact (show False from r).elim
  | some _=>rfl
theorem KV.val {kvs:List (κ×V)} {vs:List (κ×Value)} (r:KV kvs vs) (k:κ):RelO (valV kvs k) (valueAt vs k):=by
 unfold KV at r
 induction r with
 | nil=>exact Ad
 | @cons p q ps qs h t ih =>
  obtain ⟨h1,h2⟩:=h
  by_cases e:p.1=k
  ·have e':q.1=k:=h1.symm.trans e
   have b:valueAt (q :: qs) k=some q.2:=by simp [valueAt,List.find?_cons,e']
   rw [valV_pos e,b]; exact h2
  ·have e':¬ q.1=k:=fun z=>e (h1.trans z)
   have b:valueAt (q :: qs) k=valueAt qs k:=by simp [valueAt,List.find?_cons,e']
   rw [valV_neg e,b]; exact ih
theorem KV.any {kvs:List (κ×V)} {vs:List (κ×Value)} (r:KV kvs vs) (k:κ):(kvs.any fun kv=>decide (kv.1=k))=vs.any fun kv=>decide (kv.1=k):=by
 unfold KV at r
 induction r with
 | nil=>rfl
 | cons h t ih=>rw [List.any_cons,List.any_cons,ih,h.1]
theorem KV.repl {kvs:List (κ×V)} {vs:List (κ×Value)} (r:KV kvs vs) (k:κ) {y:V} {u:Value} (ry:RelV y u) :
  KV (kvs.map fun kv=>if kv.1=k then (kv.1,y) else kv) (vs.map fun kv=>if kv.1=k then (kv.1,u) else kv):=by
 unfold KV at r ⊢
 induction r with
 | nil=>exact .nil
 | @cons p q ps qs h t ih =>
  rw [Af,Af]
  refine .cons ?_ ih
  obtain ⟨h1,h2⟩:=h
  by_cases e:p.1=k
  ·rw [if_pos e,if_pos (h1.symm.trans e)]; exact ⟨h1,ry⟩
  ·rw [if_neg e,if_neg (fun z=>e (h1.trans z))]; exact ⟨h1,h2⟩
theorem KV.put {kvs:List (κ×V)} {vs:List (κ×Value)} (r:KV kvs vs) (k:κ) {y:V} {u:Value} (ry:RelV y u):KV (putK kvs k y) (stored vs k u):=by
 unfold putK stored
 rw [r.any k]
 by_cases e:(vs.any fun kv=>decide (kv.1=k))=true
 ·rw [if_pos e,if_pos e]; exact r.repl k ry
 ·rw [if_neg e,if_neg e]; exact Paired.snoc r ⟨rfl,ry⟩
theorem KV.length {kvs:List (κ×V)} {vs:List (κ×Value)} (r:KV kvs vs):kvs.length=vs.length:=Paired.length r
end
theorem kV_is {P:Program} {w:World} {k:Key} {u:Value} (r:RelV (kV k) u):(mixKind P w).is k u=true:=by
 cases k with
 | inl i=>obtain ⟨t,e⟩:=(show ∃ t,u=Value.int i t from r); subst e; exact mixKind_int P w i t
 | inr x=>obtain ⟨t,e⟩:=(show ∃ t,u=Value.str x t from r); subst e; exact mixKind_str P w x t
theorem items_are {P:Program} {w:World}:∀ {ks:List Key} {us:List Value},Vals (ks.map kV) us→ItemsAre (mixKind P w) ks us
 | [],_,r=>by rw [List.map_nil] at r; cases r; exact .nil
 | k :: ks,_,r=>by
  rw [Af] at r
  cases r with
  | cons h t=>exact .cons (kV_is h) (items_are t)
abbrev KT (H:Hp):List (List Key×V)→List (List Key×Addr×Value)→Prop:=Paired fun p q=>p.1=q.1∧H q.2.1=some (.tup (p.1.map kV))∧RelV p.2 q.2.2
theorem KT.val {H:Hp} {kvs:List (List Key×V)} {xs:List (List Key×Addr×Value)} (r:KT H kvs xs) (k:List Key):RelO (valV kvs k) ((atKey xs k).map (·.2)):=by
 induction r with
 | nil=>exact Ad
 | @cons p q ps qs h t ih =>
  obtain ⟨h1,_,h2⟩:=h
  by_cases e:p.1=k
  ·have e':q.1=k:=h1.symm.trans e
   have b:atKey (q :: qs) k=some q.2:=by simp [atKey,List.find?_cons,e']
   rw [valV_pos e,b]; exact h2
  ·have e':¬ q.1=k:=fun z=>e (h1.trans z)
   have b:atKey (q :: qs) k=atKey qs k:=by simp [atKey,List.find?_cons,e']
   rw [valV_neg e,b]; exact ih
theorem KT.repl {H:Hp} {kvs:List (List Key×V)} {xs:List (List Key×Addr×Value)} (r:KT H kvs xs) (k:List Key) {y:V} {u:Value} (ry:RelV y u) :
  KT H (kvs.map fun kv=>if kv.1=k then (kv.1,y) else kv) (xs.map (putAt k u)):=by
 induction r with
 | nil=>exact .nil
 | @cons p q ps qs h t ih =>
  rw [Af,Af]
  refine .cons ?_ ih
  obtain ⟨h1,h2,h3⟩:=h
  unfold putAt
  by_cases e:p.1=k
  ·rw [if_pos e,if_pos (h1.symm.trans e)]; exact ⟨h1,h2,ry⟩
  ·rw [if_neg e,if_neg (fun z=>e (h1.trans z))]; exact ⟨h1,h2,h3⟩
theorem KT.put {H:Hp} {kvs:List (List Key×V)} {xs:List (List Key×Addr×Value)} (r:KT H kvs xs) (k:List Key) {b:Addr} {y:V} {u:Value} (hb:H b=some (.tup (k.map kV))) (ry:RelV y u) :
  KT H (putK kvs k y) (storedH xs k b u):=by
 have e:(kvs.any fun kv=>decide (kv.1=k))=(atKey xs k).isSome:=by
  rw [valV_any,(r.val k).isSome_eq,Option.isSome_map]
 unfold putK storedH
 rw [e]
 by_cases q:(atKey xs k).isSome=true
 ·rw [if_pos q,if_pos q]; exact r.repl k ry
 ·rw [if_neg q,if_neg q]; exact Paired.snoc r ⟨rfl,hb,ry⟩
theorem KT.keeps {H H':Hp} {kvs:List (List Key×V)} {xs:List (List Key×Addr×Value)} (r:KT H kvs xs) (ht:∀ b ys,H b=some (.tup ys)→H' b=some (.tup ys)):KT H' kvs xs :=
 Paired.mapP r fun _ _ z=>⟨z.1,ht _ _ z.2.1,z.2.2⟩
section
variable {P:Program} {w:World} {H:Hp} {h:Heap} {a:Addr}
theorem rd_of {u:HO} (ok:HOk P w H h) (e:Rd H a u):ObjOk P w H h a u:=e.ok ok
theorem dk_rd {kvs:List (Key×V)} (ok:HOk P w H h) (e:Rd H a (.dK kvs)):kvs.length≤AR∧(a == sysModules)=false∧∃ vs,KV kvs vs∧h.DictOf (mixKind P w) a vs :=
 show ObjOk P w H h a (.dK kvs) from rd_of ok e
theorem dk_of {kvs:List (Key×V)} (ok:HOk P w H h) (e:H a=some (.dK kvs)):kvs.length≤AR∧(a == sysModules)=false∧∃ vs,KV kvs vs∧h.DictOf (mixKind P w) a vs:=dk_rd ok (.inl e)
theorem key_of {ks:List Key} (ok:HOk P w H h) (e:H a=some (.tup (ks.map kV))):(tupleKind (mixKind P w)).is h ks a:=by
 obtain ⟨_,its,r,o,h1,h2,n,h3⟩:=(show ObjOk P w H h a (.tup (ks.map kV)) from ok a _ e)
 exact ⟨o,its.toArray,n,h1,h2,h3,by simpa using items_are r⟩
theorem dt_rd {kvs:List (List Key×V)} (ok:HOk P w H h) (e:Rd H a (.dT kvs)):kvs.length≤AR∧(a == sysModules)=false ∧
  ∃ xs,KT H kvs xs∧h.DictOfH (tupleKind (mixKind P w)) a xs:=by
 obtain ⟨z,y,xs,r,o,es,ep,h1,h2,h3,h4,h5⟩:=(show ObjOk P w H h a (.dT kvs) from rd_of ok e)
 refine ⟨z,y,xs,r,o,es,ep,h1,h2,h3,h4,fun x hx=>?_,h5⟩
 have all:∀ {l:List (List Key×V)} {m:List (List Key×Addr×Value)},KT H l m→∀ x∈m,(tupleKind (mixKind P w)).is h x.1 x.2.1:=by
  intro l m q
  induction q with
  | nil=>intro x hx; exact nomatch hx
  | @cons p q ps qs hq t ih =>
   intro x hx
   rcases AK.mp hx with e | hx
   ·subst e
    exact key_of ok (by rw [← hq.1]; exact hq.2.1)
   ·exact ih x hx
 exact all r x hx
theorem dt_of {kvs:List (List Key×V)} (ok:HOk P w H h) (e:H a=some (.dT kvs)):kvs.length≤AR∧(a == sysModules)=false ∧
  ∃ xs,KT H kvs xs∧h.DictOfH (tupleKind (mixKind P w)) a xs:=dt_rd ok (.inl e)
end
def DGet (H:Hp) (a:Addr) (y:V) (r:Option V):Prop :=
 (∃ kvs k,Rd H a (.dK kvs)∧y=kV k∧r=valV kvs k)∨∃ kvs k b,Rd H a (.dT kvs)∧y=.ref b∧H b=some (.tup (k.map kV))∧r=valV kvs k
def DPut (H:Hp) (a:Addr) (y v:V) (H':Hp):Prop :=
 (∃ kvs k,H a=some (.dK kvs)∧y=kV k∧kvs.length < AR∧H'=upd H a (.dK (putK kvs k v))) ∨
 ∃ kvs k b,H a=some (.dT kvs)∧y=.ref b∧H b=some (.tup (k.map kV))∧kvs.length < AR∧H'=upd H a (.dT (putK kvs k v))
theorem DGet.k {H:Hp} {a:Addr} {kvs:List (Key×V)} {k:Key} (e:H a=some (.dK kvs)):DGet H a (kV k) (valV kvs k):=.inl ⟨kvs,k,.inl e,rfl,rfl⟩
theorem DPut.k {H:Hp} {a:Addr} {kvs:List (Key×V)} {k:Key} {v:V} (e:H a=some (.dK kvs)) (hl:kvs.length < AR):DPut H a (kV k) v (upd H a (.dK (putK kvs k v))):=.inl ⟨kvs,k,e,rfl,hl,rfl⟩
theorem DPut.t {H:Hp} {a b:Addr} {kvs:List (List Key×V)} {k:List Key} {v:V} (e:H a=some (.dT kvs)) (eb:H b=some (.tup (k.map kV))) (hl:kvs.length < AR) :
  DPut H a (.ref b) v (upd H a (.dT (putK kvs k v))):=.inr ⟨kvs,k,b,e,rfl,eb,hl,rfl⟩
section
variable {X:Cx} {pins:List (Addr×Obj)} {σ:St} {H:Hp} {s:Shared} {a:Addr} {y v:V} {u r:Value} {o:Option V} {A:Around} {E:Value→Shared→Prop}
theorem Inv.big (I:Inv X pins σ H s):sysModules < s.heap.objs.size:=by
 have h:Ab < s.heap.objs.size:=(I.mod.glob.keeps I.bk).lt
 exact Nat.lt_trans (by decide) h
theorem d_getItem {Q:Value→Shared→Prop} (hu:A.units + 1 < cLine) (I:Inv X pins σ H s) (g:DGet H a y (some v)) (ry:RelV y u) (h:∀ w' s',Inv X pins σ H s'→RelV v w'→Q w' s') :
  wpAny (model X.prog X.w) A (getItem (.ref a) u) Q E s:=by
 rcases g with ⟨kvs,k,e,ey,l⟩ | ⟨kvs,k,b,e,ey,eb,l⟩
 ·subst ey
  obtain ⟨z,hd,vs,rel,dd⟩:=dk_rd I.hok e
  obtain ⟨w',hw,rw'⟩:=RelO.some_of (v:=v) (o:=valueAt vs k) (by rw [l]; exact rel.val k)
  exact wpAny_getItem_of (kV_is ry) dd.mapOf hw (h w' _ (I.tok _) rw')
 ·subst ey
  cases (show u=AT b from ry)
  obtain ⟨z,hd,xs,rel,dd⟩:=dt_rd I.hok e
  obtain ⟨w',hw,rw'⟩:=RelO.some_of (v:=v) (o:=(atKey xs k).map (·.2)) (by rw [l]; exact rel.val k)
  obtain ⟨p,hp,hp2⟩:=Option.map_eq_some_iff.mp hw
  refine wpAny_getItem_heap (tupleKind_room_in1 hu) (key_of I.hok eb) dd hp ?_
  rw [hp2]
  exact h w' _ (I.tok _) rw'
theorem d_write {h':Heap} {t':Nat} {ob:HO} (I:Inv X pins σ H s) (mu:Mut (H a)) (hs:Heap.SameBut a s.heap h') (he:∃ q,h'.get? a=some q) (new:ObjOk X.prog X.w (upd H a ob) h' a ob) :
  Inv X pins σ (upd H a ob) { s with heap:=h',toks:=t' } :=
 I.write (x:=a) (e:=a) mu (.inl rfl) (fun b q hb z=>(hs.2 b hb).trans z) he new
theorem dk_new {P:Program} {w:World} {H':Hp} {h':Heap} {kvs:List (Key×V)} {vs:List (Key×Value)} (z:kvs.length≤AR) (hd:(a == sysModules)=false) (rel:KV kvs vs) (dd:h'.DictOf (mixKind P w) a vs) :
  ObjOk P w H' h' a (.dK kvs):=⟨z,hd,vs,rel,dd⟩
theorem d_setItem {H':Hp} {Q:Unit→Shared→Prop} (hu:A.units + 1 < cLine) (I:Inv X pins σ H s) (g:DPut H a y v H') (ry:RelV y u) (rv:RelV v r) (h:∀ s',Inv X pins σ H' s'→Q () s') :
  wpAny (model X.prog X.w) A (setItem (.ref a) u r) Q E s:=by
 rcases g with ⟨kvs,k,e,ey,l,eH⟩ | ⟨kvs,k,b,e,ey,eb,l,eH⟩
 ·subst ey eH
  obtain ⟨z,hd,vs,rel,dd⟩:=dk_of I.hok e
  have hz:vs.length≤AR:=by rw [← rel.length]; exact z
  have hl:(putK kvs k v).length≤AR:=by have:=length_putK kvs k v; omega
  refine wpAny_setItem_pairs (hsz:=hz) (kV_is ry) dd fun h' dd' hs=>h _ ?_
  have he:∃ q,h'.get? a=some q:=let ⟨q,_,_,hq,_⟩:=dd'; ⟨q,hq⟩
  exact d_write I (by rw [e]; exact Ad) hs he (dk_new hl hd (rel.put k rv) dd')
 ·subst ey eH
  cases (show u=AT b from ry)
  obtain ⟨z,hd,xs,rel,dd⟩:=dt_of I.hok e
  have hz:xs.length≤AR:=by rw [← Paired.length rel]; exact z
  have hl:(putK kvs k v).length≤AR:=by have:=length_putK kvs k v; omega
  refine wpAny_setItem_heap (hsz:=hz) (tupleKind_room_in1 hu) (key_of I.hok eb) dd fun h' dd' hs=>h _ ?_
  obtain ⟨q,es,ep,hq,h2,h3,h4,_,h5⟩:=dd'
  refine d_write I (by rw [e]; exact Ad) hs ⟨q,hq⟩ ⟨hl,hd,_,(rel.put k eb rv).keeps fun c ys ec=>?_,q,es,ep,hq,h2,h3,h4,h5⟩
  rw [upd_ne (ne_of ec e (fun z=>nomatch z))]
  exact ec
end
section
variable {X:Cx} {pins:List (Addr×Obj)} {σ:St} {H:Hp} {s:Shared} {a:Addr} {kvs:List (Key×V)} {k:Key} {u:Value} {A:Around} {E:Value→Shared→Prop}
end
def NoSl (i:Expr):Prop:=∀ ov iv,subscripted i false ov iv=operate [ov,iv] (getItem ov iv)
theorem subD_of {prog:Program} {w:World} {A:Around} {E:Value→Shared→Prop} {s:Shared} {env:Env} {value slice:Expr} {pos:Pos} {T id:String} {Q:Value→Shared→Prop}
  (hl:typeLookup (.type T) "__getitem__"=pure (some (.builtin id))) (hs:NoSl slice)
  (h:wpAny (model prog w) A (eval value env) (fun o s₁=>wpAny (model prog w) A (eval slice env) (fun i s₂=>s₂.TypeIs o T∧wpAny (model prog w) A (getItem o i) Q E s₂) E s₁) E s) :
  wpAny (model prog w) A (eval (.Subscript value slice pos) env) Q E s:=by
 refine Subscript_ (wpAny_mono h (fun o s₁ h₁=>wpAny_mono h₁ (fun i s₂ h₂=>?_) fun _ _ x=>x) fun _ _ x=>x)
 obtain ⟨hT,h₂⟩:=h₂
 unfold subscriptTail
 refine AB ?_
 rw [getitemInPython_of_ne hT.not_modules]
 refine AB (wpAny_specialOf hT hl ?_)
 have fin:wpAny (model prog w) A (subscripted slice false o i) (fun r s₃=>wpAny (model prog w) A (letTemporaryGo value o r >>= fun _=>pure r) Q E s₃) E s₂:=by
  rw [hs o i]
  exact wpAny_operating (wpAny_mono h₂ (fun r s₃ h₃=>AB (wpAny_letTemporaryGo (AG h₃))) fun _ _ x=>x)
 first
  | exact AG (AB fin)
  | exact AB (AG (AB fin))
  | exact AB fin
theorem dict_typeIs {X:Cx} {pins:List (Addr×Obj)} {σ:St} {H:Hp} {s:Shared} {a:Addr} {y:V} {o:Option V} (I:Inv X pins σ H s) (g:DGet H a y o):s.TypeIs (.ref a) "dict":=by
 rcases g with ⟨kvs,k,e,_,_⟩ | ⟨kvs,k,b,e,_,_,_⟩
 ·obtain ⟨_,_,vs,_,dd⟩:=dk_rd I.hok e
  exact dd.typeIs
 ·obtain ⟨_,_,xs,_,dd⟩:=dt_rd I.hok e
  exact dd.typeIs
def tDGet (td ty:TE):TE:=fun σ H Q=>td σ H fun x H1=>ty σ H1 fun y H2=>∃ a v,x=.ref a∧DGet H2 a y (some v)∧Q v H2
def sDPut (td ty tv:TE):TS:=fun D σ H=>tv σ H fun v H1=>td σ H1 fun x H2=>ty σ H2 fun y H3=>∃ a H4,x=.ref a∧DPut H3 a y v H4∧D.nx σ H4
section
variable {X:Cx} {o i e value:Expr} {pos pos' tpos:Pos} {td ty tv:TE}
theorem pe_dget (hu:X.A.units + 1 < cLine) (ho:PE X o td) (hi:PE X i ty) (hs:NoSl i):PE X (.Subscript o i pos) (tDGet td ty):=by
 intro pins s σ H Q I h
 refine subD_of PySem.F.slot_dict_getitem.lookup hs (thn (ho pins s σ H _ I h) fun u s1 ⟨x,H1,I1,rx,q1⟩=>thn (hi pins s1 σ H1 _ I1 q1) fun iv s2 ⟨y,H2,I2,ry,a,v,ex,g,q2⟩=>?_)
 subst ex
 obtain rfl:u=AT a:=rx
 exact ⟨dict_typeIs I2 g,d_getItem hu I2 g ry fun w' s3 I3 rw'=>⟨v,H2,I3,rw',q2⟩⟩
theorem ps_dput (hu:X.A.units + 1 < cLine) (ho:PE X o td) (hi:PE X i ty) (hv:PE X value tv) (hs:swapsWith value (some (.Subscript o i pos')) pos.line X.env=pure false) :
  PS X (.Assign [.Subscript o i pos'] value pos) (sDPut td ty tv):=by
 intro pins s σ H D I h
 refine wpAny_Assign_Subscript (thn (hv pins s σ H _ I h) fun r s1 ⟨v,H1,I1,rv,q1⟩=>thn (ho pins s1 σ H1 _ I1 q1) fun u s2 ⟨x,H2,I2,rx,q2⟩=>thn (hi pins s2 σ H2 _ I2 q2) fun iv s3 ⟨y,H3,I3,ry,a,H4,ex,g,q3⟩=>?_) hs
 subst ex
 obtain rfl:u=AT a:=rx
 exact d_setItem hu I3 g ry rv fun s4 I4=>⟨σ,H4,I4,q3⟩
end
theorem dt_empty {P:Program} {w:World} {H:Hp} (h:Heap) (hb:sysModules < h.objs.size):ObjOk P w H (h.push { cls:=.type "dict",data:=.dict #[] }) h.objs.size (.dT []) :=
 ⟨Ap _,beq_eq_false_iff_ne.mpr (Ne.symm (AU hb)),[],.nil,_,#[],0,Ah _ rfl,⟨rfl,rfl,rfl⟩,rfl,rfl,List.nodup_nil⟩
def tDNewT:TE:=fun _ H Q=>∀ p,H p=none→Q (.ref p) (upd H p (.dT []))
section
variable {X:Cx} {pos:Pos}
theorem pe_dnewT:PE X (.Dict [] [] pos) tDNewT:=fun pins s σ H Q I h =>
 wpAny_Dict_empty ⟨.ref s.heap.objs.size,_,I.laid (a:=s.heap.objs.size) (o:=.dT []) (t':=s.toks) (fun _ _ q=>AC _ q) (AE _) (dt_empty s.heap I.big),rfl,h _ (I.hok.fresh (AE _))⟩
end
section
variable {X:Cx} {pins:List (Addr×Obj)} {σ:St} {H:Hp} {s:Shared} {a:Addr} {y d:V} {u r:Value} {o:Option V} {A:Around} {E:Value→Shared→Prop}
end
section
variable {X:Cx} {o e f:Expr} {apos cpos:Pos} {td ty tx:TE}
end
section
variable {X:Cx} {pins:List (Addr×Obj)} {σ:St} {H:Hp} {s:Shared} {a:Addr} {kvs:List (Key×V)} {A:Around} {E:Value→Shared→Prop}
theorem d_copyOf {Q:Value→Shared→Prop} (I:Inv X pins σ H s) (e:Rd H a (.dK kvs)) (h:∀ p s',H p=none→Inv X pins σ (upd H p (.dK kvs)) s'→Q (.ref p) s'):wpAny (model X.prog X.w) A (call (.type "dict") [.ref a]) Q E s:=by
 obtain ⟨z,hd,vs,rel,dd⟩:=dk_rd I.hok e
 refine kt_call_dict hd dd (by rw [← rel.length]; exact z) fun h' dd' hs=>?_
 refine h _ _ (I.hok.fresh (AE _)) (I.laid (a:=s.heap.objs.size) (o:=.dK kvs) (t':=s.toks) (fun b q hq=>?_) (AE _) (dk_new z (beq_eq_false_iff_ne.mpr (Ne.symm (AU I.big))) rel dd'))
 exact (hs.2 b (AU (AJ hq))).trans (AC _ hq)
end
section
variable {X:Cx} {pins:List (Addr×Obj)} {σ:St} {H:Hp} {s:Shared} {a:Addr} {y:V} {u:Value} {A:Around} {E:Value→Shared→Prop}
end
end L2
namespace HT
open PySem PyProof.Rows
def lexLt:List Int→List Int→Bool
 | [],[]=>false
 | [],_ :: _=>true
 | _ :: _,[]=>false
 | x :: xs,y :: ys=>if x=y then lexLt xs ys else decide (x < y)
theorem lexLt_cons (x y:Int) (xs ys:List Int):lexLt (x :: xs) (y :: ys)=if x=y then lexLt xs ys else decide (x < y):=rfl
theorem lexLt_nil_nil:lexLt [] []=false:=rfl
theorem lexLt_nil_cons (y:Int) (ys:List Int):lexLt [] (y :: ys)=true:=rfl
theorem lexLt_cons_nil (x:Int) (xs:List Int):lexLt (x :: xs) []=false:=rfl
theorem eqAt_int (A:Around) (s:Shared) (a:Int) (t:Tok) (c:Int) (u:Tok):∃ e,SeqAt.EqAt A s (.int a t) (.int c u) e∧(e=true↔a=c) :=
 ⟨(a == c),SeqAt.EqAt.int_int a t c u,by simp⟩
theorem rcLt_int (A:Around) (s:Shared) (a:Int) (t:Tok) (c:Int) (u:Tok) (prog:Program) (w:World) (E:Value→Shared→Prop) (Q:Value→Shared→Prop) (h:Q (.bool (decide (a < c))) s) :
  wpAny (model prog w) A (richCompare .Lt (.int a t) (.int c u)) Q E s :=
 (PyProof.Rows.lt_int h:wpAny (model prog w) A (compareOp .Lt (.int a t) (.int c u)) Q E s)
section
open PySem.SeqAt
open PySem.AutoSeq1 (wpAny_loadPart')
open PySem.MeetsSeq PySem.MeetsSeq2 PySem.MeetsSeq3
theorem tuple_lt_ints (l b:Addr) (items items2:Array Value) (n n2:Nat) (dd dd2:Option Addr) (sl sl2:Array (Option Value)) (ns ms:List Int) (hi:IntsAre items.toList ns) (hj:IntsAre items2.toList ms) :
  Meets (Builtin.«tuple.__lt__» ⟨[.ref l,.ref b],[]⟩)
   (fun _ R s=>s.heap.get? l=some { cls:=.type "tuple",dict:=dd,data:=.seq items n,slots:=sl }∧s.heap.get? b=some { cls:=.type "tuple",dict:=dd2,data:=.seq items2 n2,slots:=sl2 } ∧
    R (.ok (.ret (.bool (lexLt ns ms)))) s) :=
 .of_wp fun prog w A R s h=>by
  obtain ⟨hp,g,d,tk,os⟩:=s; obtain ⟨hl,hb,h⟩:=h
  have f2:=AutoSeq1.sub_tuple_tuple
  have z1:items.size=ns.length:=by rw [← hi.length]; simp
  have z2:items2.size=ms.length:=by rw [← hj.length]; simp
  wp_walk using wpAny_loadPart' hl,wpAny_loadPart' hb,wpAny_forIn_list _ (fun rest b s'=>b.1=none∧s'=⟨hp,g,d,tk,os⟩∧∃ (vs ws:List Value) (ns' ms':List Int),rest=vs.zip ws ∧
   IntsAre vs ns'∧IntsAre ws ms'∧ns'.length + items2.size=ms'.length + items.size∧R (.ok (.ret (.bool (lexLt ns' ms')))) ⟨hp,g,d,tk,os⟩) _
  case turn =>
   rintro ⟨y,x⟩ rest b s' ⟨hb',rfl,vs,ws,ns',ms',hz,hvi,hwi,hlen,hR⟩
   cases hvi with
   | nil=>rw [List.zip_nil_left] at hz; cases hz
   | cons a t hvi' =>
    cases hwi with
    | nil=>rw [List.zip_nil_right] at hz; cases hz
    | cons c u hwi' =>
     rw [List.zip_cons_cons] at hz
     injection hz with hyx hrest
     injection hyx with hy hx
     subst hy hx
     rw [lexLt_cons] at hR
     simp only [AS] at hlen
     obtain ⟨e,he,hiff⟩:=eqAt_int A.in1 ⟨hp,g,d,tk,os⟩ a t c u
     refine AB (he prog w _ _ ?_)
     cases e with
     | true =>
      rw [if_pos (hiff.mp rfl)] at hR
      wp_walk
      exact ⟨rfl,rfl,_,_,_,_,hrest,hvi',hwi',by omega,hR⟩
     | false =>
      rw [if_neg (fun q=>absurd (hiff.mpr q) Ax)] at hR
      have hri:=rcLt_int A.in1 ⟨hp,g,d,tk,os⟩ a t c u prog w
      wp_walk using hri
      exact ⟨_,rfl,by simpa using hR⟩
  case fin =>
   rintro ⟨b1,b2⟩ s' ⟨hb',rfl,vs,ws,ns',ms',hz,hvi,hwi,hlen,hR⟩
   simp only at hb'
   subst hb'
   have hv:lexLt ns' ms'=decide (items.size < items2.size):=by
    cases hvi with
    | nil =>
     cases hwi with
     | nil =>
      simp only [List.length_nil] at hlen
      rw [lexLt_nil_nil]
      exact (decide_eq_false (by omega)).symm
     | cons c u hw =>
      simp only [List.length_nil,AS] at hlen
      rw [lexLt_nil_cons]
      exact (decide_eq_true (by omega)).symm
    | cons a t hv =>
     cases hwi with
     | nil =>
      simp only [List.length_nil,AS] at hlen
      rw [lexLt_cons_nil]
      exact (decide_eq_false (by omega)).symm
     | cons c u hw =>
      rw [List.zip_cons_cons] at hz
      cases hz
   rw [hv] at hR
   wp_walk
   exact ⟨_,rfl,by simpa [Builtin.Tuple.tupleCompareSizes] using hR⟩
  case h =>
   exact ⟨rfl,rfl,items.toList,items2.toList,ns,ms,rfl,hi,hj,by omega,h⟩
end
section
variable {prog:Program} {w:World} {A:Around} {E:Value→Shared→Prop} {s:Shared}
theorem lt_tupInts {l b:Addr} {items items2:Array Value} {ns ms:List Int} {Q:Value→Shared→Prop} (hl:IsTup s.heap l items) (hb:IsTup s.heap b items2) (hi:IntsAre items.toList ns) (hj:IntsAre items2.toList ms)
  (hu:A.units < cLine) (h:Q (.bool (lexLt ns ms)) s):wpAny (model prog w) A (compareOp .Lt (.ref l) (.ref b)) Q E s:=by
 obtain ⟨⟨cls,dd,data,sl⟩,ho,hc,n,hd⟩:=id hl
 obtain ⟨⟨cls2,dd2,data2,sl2⟩,ho2,hc2,n2,hd2⟩:=id hb
 simp only at hc hd hc2 hd2
 subst hc hd hc2 hd2
 exact richCompare_meets_room (op:=.Lt) ⟨_,ho,rfl⟩ ⟨_,ho2,rfl⟩ PySem.F.slot_tuple_lt PySem.F.entry_tuple_lt (PySem.F.args_tuple_lt_2 _ _) (tuple_lt_ints l b items items2 n n2 dd dd2 sl sl2 ns ms hi hj)
  ⟨ho,ho2,show Value.bool (lexLt ns ms)≠Value.notImplemented∧Q (.bool (lexLt ns ms)) s from ⟨(fun x=>nomatch x),h⟩⟩ hu
def sIx (n d:Nat):Option Int→Nat
 | none=>d
 | some v=>if v < 0 then (v + (n:Int)).toNat else min v.toNat n
theorem sIx_none (n d:Nat):sIx n d none=d:=rfl
theorem sIx_nat (n d k:Nat):sIx n d (some (k:Int))=min k n:=by
 show (if (k:Int) < 0 then ((k:Int) + (n:Int)).toNat else min (k:Int).toNat n)=min k n
 rw [if_neg (by omega),Aq]
theorem sIx_le (n d:Nat) (hd:d≤n) (o:Option Int):sIx n d o≤n:=by
 cases o with
 | none=>exact hd
 | some v =>
  show (if v < 0 then (v + (n:Int)).toNat else min v.toNat n)≤n
  by_cases hv:v < 0
  ·rw [if_pos hv]; omega
  ·rw [if_neg hv]; exact Nat.min_le_right _ _
theorem clip_eq (v:Int) (n d:Nat):(if v < 0 then max (v + (n:Int)) 0 else min v (n:Int))=((sIx n d (some v):Nat):Int):=by
 show (if v < 0 then max (v + (n:Int)) 0 else min v (n:Int))=(((if v < 0 then (v + (n:Int)).toNat else min v.toNat n):Nat):Int)
 by_cases hv:v < 0
 ·simp only [if_pos hv]; omega
 ·simp only [if_neg hv]; omega
theorem adjust_gen (lo hi:Option Int) (n:Nat):Builtin.Slice.sliceAdjust lo hi 1 (n:Int)=(((sIx n 0 lo:Nat):Int),((sIx n n hi:Nat):Int)):=by
 have h1:¬ ((1:Int) < 0):=by omega
 unfold Builtin.Slice.sliceAdjust
 simp only [h1,if_false]
 refine Prod.ext ?_ ?_
 ·cases lo with
  | none=>rfl
  | some v=>exact clip_eq v n 0
 ·cases hi with
  | none=>rfl
  | some v=>exact clip_eq v n n
theorem places_gen (i j:Nat):Builtin.Slice.slicePlaces (i:Int) (j:Int) 1=j - i:=by
 unfold Builtin.Slice.slicePlaces
 have h1:(1:Int) > 0:=by omega
 simp only [h1,if_true,Int.ediv_one]
 split <;> omega
theorem slicePart_ {v:Value} {o:Option Int} {Q:Option Int→Shared→Prop} (p:IsPart v o) (h:Q o s):wpAny (model prog w) A (Builtin.Slice.slicePartIndex v) Q E s:=by
 cases p with
 | none=>exact slicePart_none h
 | int i t=>exact slicePart_int h
theorem sliceApplied_gen {sl:Addr} {vl vu:Value} {lo hi:Option Int} {n:Nat} {Q:Int×Int×Nat→Shared→Prop} (hs:s.heap.IsSliceOf sl vl vu .none) (pl:IsPart vl lo) (pu:IsPart vu hi)
  (h:Q (((sIx n 0 lo:Nat):Int),1,sIx n n hi - sIx n 0 lo) s):wpAny (model prog w) A (Builtin.Slice.sliceApplied (.ref sl) (pure (n:Int))) Q E s:=by
 obtain ⟨os,hos,hcs,hds⟩:=id hs
 unfold Builtin.Slice.sliceApplied Builtin.Slice.sliceFields
 refine AB (AB (wpAny_field hos hds (x:=vl) rfl (AB (wpAny_field hos hds (x:=vu) rfl (AB (wpAny_field hos hds (x:=.none) rfl (AG ?_)))))))
 refine AB (slicePart_none ?_)
 show wpAny _ _ (if ((1:Int) == 0)=true then _ else _) _ _ s
 rw [if_neg (by decide)]
 refine AB (slicePart_ pl (AB (slicePart_ pu (AB (AG ?_)))))
 show wpAny _ _ (match Builtin.Slice.sliceAdjust lo hi 1 (n:Int) with | (lo,hi)=>pure (lo,(1:Int),Builtin.Slice.slicePlaces lo hi 1)) _ _ s
 rw [adjust_gen lo hi n]
 show wpAny _ _ (pure (((sIx n 0 lo:Nat):Int),(1:Int),Builtin.Slice.slicePlaces ((sIx n 0 lo:Nat):Int) ((sIx n n hi:Nat):Int) 1)) _ _ s
 rw [places_gen]
 exact AG h
theorem pick_gen (xs:Array Value) (i k:Nat):((List.range k).filterMap fun (m:Nat)=>xs[((i:Int) + (m:Int) * 1).toNat]?).toArray=((xs.toList.drop i).take k).toArray:=by
 have e:(fun (m:Nat)=>xs[((i:Int) + (m:Int) * 1).toNat]?)=fun m=>xs[i + m]?:=by
  funext m
  have:((i:Int) + (m:Int) * 1).toNat=i + m:=by omega
  rw [this]
 rw [e]
 have:=pick_run xs i k
 rw [List.filterMap_map] at this
 have e2:((fun x=>xs[x]?) ∘ fun x=>i + x)=fun m=>xs[i + m]?:=rfl
 rw [e2] at this
 rw [this]
theorem getItem_tuple_cut {t sl:Addr} {items:Array Value} {vl vu:Value} {lo hi:Option Int} {Q:Value→Shared→Prop} (ht:IsTup s.heap t items) (hs:s.heap.IsSliceOf sl vl vu .none) (pl:IsPart vl lo) (pu:IsPart vu hi)
  (hw:¬ (sIx items.size 0 lo=0∧sIx items.size items.size hi=items.size))
  (h:Q (.ref s.heap.objs.size) { s with heap:=s.heap.push { cls:=.type "tuple",data:=.seq ((items.toList.drop (sIx items.size 0 lo)).take (sIx items.size items.size hi - sIx items.size 0 lo)).toArray } })
  (hsz:items.size≤AR):wpAny (model prog w) A (getItem (.ref t) (.ref sl)) Q E s:=by
 have htake:sizeOk (.seq ((items.toList.drop (sIx items.size 0 lo)).take (sIx items.size items.size hi - sIx items.size 0 lo)).toArray):=by
  show ((items.toList.drop (sIx items.size 0 lo)).take (sIx items.size items.size hi - sIx items.size 0 lo)).toArray.size≤AR
  rw [AQ,Ae,List.length_drop,Ac]
  omega
 have hj:sIx items.size items.size hi≤items.size:=sIx_le _ _ (AE _) hi
 obtain ⟨os,hos,hcs,hds⟩:=id hs
 have hTs:s.TypeIs (.ref sl) "slice":=⟨os,hos,hcs⟩
 unfold getItem
 try with_reducible refine BE ?_
 first | refine AB (AG ?_) | skip
 refine AB (wpAny_sequenceKey ht.typeIs (by decide) ?_)
 refine AB (wpAny_callSpecial?_slot (name:=Str.ofString "__getitem__") ht.typeIs PyProof.Rows.slot_tuple_getitem
  (wpAny_call_entry PyProof.Rows.slot_tuple_getitem ht.typeIs entry_tuple_getitem ?_ (args_tuple_getitem _ _)))
 show wpAny _ _ (Builtin.Tuple.tupleItemsOf (.ref t) >>= _) _ _ s
 refine AB (tupleItemsOf_ ht ?_)
 refine AB (wpAny_typeOf hTs ?_)
 rw [if_pos (by decide)]
 refine AB (sliceApplied_gen hs pl pu ?_)
 have hno:¬ ((((sIx items.size 0 lo:Nat):Int) == 0 && (1:Int) == 1 && (sIx items.size items.size hi - sIx items.size 0 lo) == items.size)=true):=by
  intro q
  rw [Bool.and_eq_true,Bool.and_eq_true] at q
  have q1:((sIx items.size 0 lo:Nat):Int)=0:=eq_of_beq q.1.1
  have q2:sIx items.size items.size hi - sIx items.size 0 lo=items.size:=eq_of_beq q.2
  exact hw ⟨by omega,by omega⟩
 show wpAny _ _ (if (((sIx items.size 0 lo:Nat):Int) == 0 && (1:Int) == 1 && (sIx items.size items.size hi - sIx items.size 0 lo) == items.size)=true then _ else _) _ _ s
 rw [if_neg hno,pick_gen]
 first
  | exact AB (m:=Builtin.Tuple.tupleExact _) (wpAny_newObj_type (AG ⟨_,rfl,AG h⟩) htake)
  | exact AB (m:=Builtin.Tuple.tupleExact _) (wpAny_newObj_type (AB (AG (AG ⟨_,rfl,AG h⟩))) htake)
  | exact AB (AB (m:=Builtin.Tuple.tupleExact _) (wpAny_newObj_type (AG (AG ⟨_,rfl,AG h⟩)) htake))
  | exact AB (AB (m:=Builtin.Tuple.tupleExact _) (wpAny_newObj_type (AG ⟨_,rfl,AG h⟩) htake))
end
end HT
namespace L2
open PySem PySem.Spec PyProof.Rows
abbrev TO:=St→Hp→(Option Int→Hp→Prop)→Prop
def PO (X:Cx) (e:Option Expr) (t:TO):Prop :=
 ∀ (pins:List (Addr×Obj)) (s:Shared) (σ:St) (H:Hp) (Q:Option Int→Hp→Prop),Inv X pins σ H s→t σ H Q →
  wpAny (model X.prog X.w) X.A (evalPart e X.env) (fun u s'=>∃ o H',Inv X pins σ H' s'∧IsPart u o∧Q o H') X.xe s
def tNoPart:TO:=fun _ H Q=>Q none H
def tPart (t:TE):TO:=fun σ H Q=>t σ H fun x H1=>∃ i,x=.int i∧Q (some i) H1
theorem intsAre_of {ns:List Int}:∀ {us:List Value},Vals (ns.map V.int) us→IntsAre us ns:=by
 induction ns with
 | nil=>intro us r; rw [List.map_nil] at r; cases r; exact .nil
 | cons n ns ih =>
  intro us r
  rw [Af] at r
  cases r with
  | cons r1 r2 =>
   obtain ⟨t,e⟩:=r1
   subst e
   exact .cons n t (ih r2)
section
variable {X:Cx} {e:Expr} {te:TE} {lo hi:Option Expr} {tl th:TO} {pos p2:Pos}
theorem po_none:PO X none tNoPart:=by
 intro pins s σ H Q I h
 rw [evalPart_none]
 exact AG ⟨none,H,I,.none,h⟩
theorem po_some (h:PE X e te):PO X (some e) (tPart te):=by
 intro pins s σ H Q I hw
 rw [evalPart_some]
 refine thn (h pins s σ H _ I hw) fun u s1 ⟨x,H1,I1,r1,q1⟩=>?_
 obtain ⟨i,rfl,q⟩:=q1
 obtain ⟨t,rfl⟩:=r1
 exact ⟨some i,H1,I1,.int i t,q⟩
def SlR (X:Cx) (r:V→Option Int→Option Int→Hp→VK→Prop):Prop :=
 ∀ (pins:List (Addr×Obj)) (s:Shared) (σ:St) (H:Hp) (x:V) (v vl vu:Value) (lo hi:Option Int) (sl:Addr) (Q:VK),Inv X pins σ H s→RelV x v→s.heap.IsSliceOf sl vl vu .none→IsPart vl lo→IsPart vu hi→r x lo hi H Q →
  ∃ T id,typeLookup (.type T) "__getitem__"=pure (some (.builtin id))∧s.TypeIs v T∧wpAny (model X.prog X.w) X.A (getItem v (.ref sl)) (EP X pins σ Q) X.xe s
def tSl (r:V→Option Int→Option Int→Hp→VK→Prop) (te:TE) (tl th:TO):TE:=fun σ H Q=>te σ H fun x H1=>tl σ H1 fun l H2=>th σ H2 fun u H3=>r x l u H3 Q
theorem pe_slice {r:V→Option Int→Option Int→Hp→VK→Prop} (hr:SlR X r) (he:PE X e te) (hl:PO X lo tl) (hu:PO X hi th):PE X (.Subscript e (.Slice lo hi none p2) pos) (tSl r te tl th):=by
 intro pins s σ H Q I h
 refine Subscript_ (thn (he pins s σ H _ I h) fun v s1 ⟨x,H1,I1,r1,q1⟩=>?_)
 refine wpAny_Slice (thn (hl pins s1 σ H1 _ I1 q1) fun vl s2 ⟨l,H2,I2,pl,q2⟩=>thn (hu pins s2 σ H2 _ I2 q2) fun vu s3 ⟨u,H3,I3,pu,q3⟩=>?_)
 rw [evalPart_none]
 refine AG ?_
 have I4:Inv X pins σ H3 { s3 with heap:=s3.heap.push { cls:=.type "slice",data:=.fields #[vl,vu,.none] } }:=I3.kept (t':=s3.toks) fun b ob q=>AC _ q
 obtain ⟨T,id,hT,ht,hg⟩:=hr pins { s3 with heap:=s3.heap.push { cls:=.type "slice",data:=.fields #[vl,vu,.none] } } σ H3 x v vl vu l u s3.heap.objs.size Q I4 r1 (Heap.IsSliceOf.new ..) pl pu q3
 show wpAny (model X.prog X.w) X.A (subscriptTail e (.Slice lo hi none p2) v (.ref s3.heap.objs.size)) (EP X pins σ Q) X.xe { s3 with heap:=s3.heap.push { cls:=.type "slice",data:=.fields #[vl,vu,.none] } }
 exact tail_any (ops:=[.ref s3.heap.objs.size,v]) ht hT hg (by with_unfolding_all rfl)
def cutV (xs:List V) (lo hi:Option Int):List V:=(xs.drop (HT.sIx xs.length 0 lo)).take (HT.sIx xs.length xs.length hi - HT.sIx xs.length 0 lo)
theorem cutV_length (xs:List V) (lo hi:Option Int):(cutV xs lo hi).length≤xs.length:=by
 unfold cutV
 rw [Ae,List.length_drop]
 omega
def rSlT (K:PySem.W.Frag):V→Option Int→Option Int→Hp→VK→Prop:=fun x lo hi H Q=>∃ a xs,x=.ref a∧SqT K H a xs ∧
 ¬ (HT.sIx xs.length 0 lo=0∧HT.sIx xs.length xs.length hi=xs.length)∧∀ p,H p=none→Q (.ref p) (upd H p (.tup (cutV xs lo hi)))
theorem sl_tup:SlR X (rSlT X.K):=by
 intro pins s σ H x v vl vu lo hi sl Q I rx hs pl pu h
 obtain ⟨a,xs,rfl,hx,hw,q⟩:=h
 cases rx
 obtain ⟨its,r,ht,hz⟩:=I.tuple hx
 have hlen:its.toArray.size=xs.length:=by rw [AQ]; exact r.length.symm
 refine ⟨"tuple",_,PyProof.Rows.slot_tuple_getitem.lookup,ht.typeIs,?_⟩
 refine HT.getItem_tuple_cut ht hs pl pu (by rw [hlen]; exact hw) ?_ (by rw [hlen]; exact hz)
 rw [hlen]
 refine ⟨.ref s.heap.objs.size,_,I.laid (t':=s.toks) (o:=.tup (cutV xs lo hi)) (fun b ob q=>AC _ q) (AE _) ?_,rfl,q _ (I.hok.fresh (AE _))⟩
 exact ⟨Au (cutV_length xs lo hi) hz,_,(r.drop (HT.sIx xs.length 0 lo)).take (HT.sIx xs.length xs.length hi - HT.sIx xs.length 0 lo),IsTup.new _ _⟩
end
def ixN (n:Nat) (i:Int):Option Nat:=if 0≤i then (if i < n then some i.toNat else none) else if -(n:Int)≤i then some (i + n).toNat else none
def atI {α:Type} (xs:List α) (i:Int):Option α:=(ixN xs.length i).bind fun j=>xs[j]?
theorem ixN_seq {n:Nat} {i:Int} {j:Nat} (h:ixN n i=some j):seqIndex? i n=some j∧j < n∧-(n:Int)≤i∧i < n:=by
 unfold ixN at h
 by_cases h0:0≤i
 ·rw [if_pos h0] at h
  by_cases h1:i < n
  ·rw [if_pos h1] at h
   have e:i.toNat=j:=Aw h
   exact ⟨by rw [seqIndex_of h0 h1,e],by omega,by omega,h1⟩
  ·rw [if_neg h1] at h; cases h
 ·rw [if_neg h0] at h
  by_cases h1:-(n:Int)≤i
  ·rw [if_pos h1] at h
   have e:(i + n).toNat=j:=Aw h
   exact ⟨by rw [seqIndex_neg (by omega) h1,e],by omega,h1,by omega⟩
  ·rw [if_neg h1] at h; cases h
theorem atI_get {α:Type} {xs:List α} {i:Int} {v:α} (h:atI xs i=some v):∃ j,seqIndex? i xs.length=some j∧xs[j]?=some v∧j < xs.length∧-(xs.length:Int)≤i∧i < xs.length:=by
 unfold atI at h
 cases e:ixN xs.length i with
 | none=>rw [e] at h; cases h
 | some j =>
  rw [e] at h
  obtain ⟨h1,h2,h3,h4⟩:=ixN_seq e
  exact ⟨j,h1,h,h2,h3,h4⟩
theorem atI_nat {α:Type} {xs:List α} {j:Nat} {v:α} (h:xs[j]?=some v):atI xs (j:Int)=some v:=by
 have hj:j < xs.length:=(AF.mp h).1
 have e:ixN xs.length (j:Int)=some j:=by
  unfold ixN
  rw [if_pos (by omega),if_pos (by omega)]; simp
 unfold atI; rw [e]; exact h
def PlainIx (b:Expr):Prop:=∀ o i,subscripted b false o i=operate [o,i] (getItem o i)
def IxR (X:Cx) (r:R2):Prop :=
 ∀ (value slice:Expr) (pins:List (Addr×Obj)) (s:Shared) (σ:St) (H:Hp) (x y:V) (v u:Value) (Q:VK),Inv X pins σ H s→RelV x v→RelV y u→r x y H Q →
  subscripted slice false v u=operate [v,u] (getItem v u)→wpAny (model X.prog X.w) X.A (subscriptTail value slice v u) (EP X pins σ Q) X.xe s
def MtR (X:Cx) (id:String) (r:V→List V→Hp→VK→Prop):Prop :=
 ∀ (pins:List (Addr×Obj)) (s:Shared) (σ:St) (H:Hp) (x:V) (xs:List V) (v:Value) (us:List Value) (Q:VK),Inv X pins σ H s→RelV x v→Vals xs us→r x xs H Q →
  wpAny (model X.prog X.w) X.A (call (.builtin id) (v :: us)) (EP X pins σ Q) X.xe s
section
variable {X:Cx} {a b:Expr} {ta tb:TE} {pos:Pos}
theorem pe_ix {r:R2} (hr:IxR X r) (ha:PE X a ta) (hb:PE X b tb) (hs:PlainIx b):PE X (.Subscript a b pos) (tOp r ta tb):=by
 intro pins s σ H Q I h
 exact Subscript_ (binT ha hb I h fun v u s2 x y H2 I2 rx ry q=>hr a b pins s2 σ H2 x y v u Q I2 rx ry q (hs _ _))
def rIxL (K:PySem.W.Frag):R2:=fun x y H Q=>∃ p xs i v,x=.ref p∧y=.int i∧SqL K H p xs∧atI xs i=some v∧Q v H
def rIxT (K:PySem.W.Frag):R2:=fun x y H Q=>∃ p xs i v,x=.ref p∧y=.int i∧SqT K H p xs∧atI xs i=some v∧Q v H
theorem ix_list:IxR X (rIxL X.K):=by
 intro value slice pins s σ H x y v u Q I rx ry h hs
 obtain ⟨p,xs,i,z,rfl,rfl,hq,he,q⟩:=h
 cases rx
 obtain ⟨t,rfl⟩:=ry
 obtain ⟨its,r,pl,hz⟩:=I.list hq
 obtain ⟨j,h1,h2,h3,h4,h5⟩:=atI_get he
 obtain ⟨w,ew,rw'⟩:=r.get h2
 have hl:=r.length
 have hn:=line63
 have fin:EP X pins σ Q w s:=⟨z,H,I,rw',q⟩
 by_cases h0:0≤i
 ·have hj:i.toNat=j:=by
   rw [seqIndex_of h0 h5] at h1
   exact Aw h1
  exact item_listR pl.isList h0 (by omega) (by rw [hj]; simpa using ew) fin hs
 ·have hj:(i + (its.toArray.size:Int)).toNat=j:=by
   rw [seqIndex_neg (by omega) h4] at h1
   rw [AQ,← hl]
   exact Aw h1
  exact subscriptTail_builtinR (x:=w) pl.isList.typeIs slot_list_getitem.lookup
   (wpAny_getItem_list_neg (Q:=fun r s'=>r=w∧EP X pins σ Q r s') pl.isList (by omega) (by rw [AQ] <;> omega) (by omega) (by rw [hj]; simpa using ew) ⟨rfl,fin⟩) hs
theorem ix_tup:IxR X (rIxT X.K):=by
 intro value slice pins s σ H x y v u Q I rx ry h hs
 obtain ⟨p,xs,i,z,rfl,rfl,hq,he,q⟩:=h
 cases rx
 obtain ⟨t,rfl⟩:=ry
 obtain ⟨its,r,pl,hz⟩:=I.tuple hq
 obtain ⟨j,h1,h2,h3,h4,h5⟩:=atI_get he
 obtain ⟨w,ew,rw'⟩:=r.get h2
 have hl:=r.length
 have hn:=line63
 have fin:EP X pins σ Q w s:=⟨z,H,I,rw',q⟩
 exact subscriptTail_builtinR (x:=w) pl.typeIs slot_tuple_getitem.lookup
  (getItem_tuple (j:=j) (Q:=fun r s'=>r=w∧EP X pins σ Q r s') pl (by omega) (by omega) (by rw [AQ,← hl]; exact h1) (by simpa using ew) ⟨rfl,fin⟩) hs
theorem mapSeq_set (its:List Value) (n j:Nat) (u:Value):BA (·.setIfInBounds j u) { cls:=.type "list",data:=.seq its.toArray n }={ cls:=.type "list",data:=.seq (its.set j u).toArray n }:=by
 simp [BA]
theorem Inv.lst {pins:List (Addr×Obj)} {σ:St} {H:Hp} {s:Shared} {p:Addr} {xs:List V} (I:Inv X pins σ H s) (h:H p=some (.lst xs)) :
  ∃ (its:List Value) (n:Nat),Vals xs its∧s.heap.get? p=some { cls:=.type "list",data:=.seq its.toArray n }∧xs.length≤AR:=by
 obtain ⟨z,its,n,r,e⟩:=I.hok p _ h
 exact ⟨its,n,r,e,z⟩
theorem Inv.lstUpd {pins:List (Addr×Obj)} {σ:St} {H:Hp} {s:Shared} {p:Addr} {xs ys:List V} {its its':List Value} {n n':Nat} {f:Obj→Obj} (I:Inv X pins σ H s) (h:H p=some (.lst xs))
  (ho:s.heap.get? p=some { cls:=.type "list",data:=.seq its.toArray n }) (hf:f { cls:=.type "list",data:=.seq its.toArray n }={ cls:=.type "list",data:=.seq its'.toArray n' }) (r:Vals ys its') (hz:ys.length≤AR) (t:Nat) :
  Inv X pins σ (upd H p (.lst ys)) { s with heap:=s.heap.update p f,toks:=t }:=by
 have e:(s.heap.update p f).get? p=some { cls:=.type "list",data:=.seq its'.toArray n' }:=by
  rw [Heap.get?_update_self f ho (by rw [hf] <;> rfl),hf]
 refine I.write (x:=p) (e:=p) (by rw [h]; trivial) (.inl rfl) (fun b u hb q=>(A1 _ _ (Ne.symm hb)).trans q) ⟨_,e⟩ ?_
 exact ⟨hz,its',n',r,e⟩
def rSetL:V→V→V→Hp→(Hp→Prop)→Prop:=fun o i v H Q=>∃ p xs k j,o=.ref p∧i=.int k∧H p=some (.lst xs)∧ixN xs.length k=some j∧Q (upd H p (.lst (xs.set j v)))
theorem set_list:PSet X rSetL:=by
 intro pins s σ H o i v ov iv u Q I ro ri rv h
 obtain ⟨p,xs,k,j,rfl,rfl,hp,hj,q⟩:=h
 cases ro
 obtain ⟨t,rfl⟩:=ri
 obtain ⟨its,n,r,ho,hz⟩:=I.lst hp
 obtain ⟨h1,h2,h3,h4⟩:=ixN_seq hj
 have hl:=r.length
 have hn:=line63
 have I':Inv X pins σ (upd H p (.lst (xs.set j v))) { s with heap:=s.heap.update p (BA (·.setIfInBounds j u)) } :=
  I.lstUpd hp ho (mapSeq_set its n j u) (r.set rv j) (by rw [List.length_set]; exact hz) s.toks
 by_cases h0:0≤k
 ·have hk:k.toNat=j:=by
   rw [seqIndex_of h0 h4] at h1
   exact Aw h1
  exact PySem.W.ki_setAt ho h0 (by omega) (by rw [AQ,← hl]; exact h4) (by rw [hk]; exact ⟨_,I',q⟩)
 ·have hk:(k + (its.toArray.size:Int)).toNat=j:=by
   rw [seqIndex_neg (by omega) h3] at h1
   rw [AQ,← hl]
   exact Aw h1
  exact PySem.W.ki_setBack ho (by omega) (by rw [AQ,← hl]; exact h3) (by omega) (by rw [hk]; exact ⟨_,I',q⟩)
theorem slice_bounds (lo hi:Option Int) (n:Nat):(sliceBounds lo hi none n).1=((HT.sIx n 0 lo:Nat):Int)∧(sliceBounds lo hi none n).2.1=((HT.sIx n n hi:Nat):Int)∧(sliceBounds lo hi none n).2.2=1:=by
 refine ⟨?_,?_,rfl⟩
 ·cases lo with
  | none=>simp [sliceBounds,HT.sIx]
  | some i =>
   simp only [sliceBounds,HT.sIx,Option.getD_none,show (1:Int) > 0 by decide,if_true]
   by_cases h:i < 0
   ·simp only [h,if_true] <;> omega
   ·simp only [h,if_false] <;> omega
 ·cases hi with
  | none=>simp [sliceBounds,HT.sIx]
  | some i =>
   simp only [sliceBounds,HT.sIx,Option.getD_none,show (1:Int) > 0 by decide,if_true]
   by_cases h:i < 0
   ·simp only [h,if_true] <;> omega
   ·simp only [h,if_false] <;> omega
theorem slicePick_cut (its:List Value) (lo hi:Option Int):slicePick its.toArray lo hi none=((its.drop (HT.sIx its.length 0 lo)).take (HT.sIx its.length its.length hi - HT.sIx its.length 0 lo)).toArray:=by
 obtain ⟨h1,h2,h3⟩:=slice_bounds lo hi its.toArray.size
 unfold slicePick
 rw [h1,h2,h3]
 simp only [sliceRange_one,pick_run,AQ] <;> rfl
def rSlL (K:PySem.W.Frag):V→Option Int→Option Int→Hp→VK→Prop:=fun x lo hi H Q=>∃ a xs,x=.ref a∧SqL K H a xs∧∀ p,H p=none→Q (.ref p) (upd H p (.lst (cutV xs lo hi)))
theorem sl_list:SlR X (rSlL X.K):=by
 intro pins s σ H x v vl vu lo hi sl Q I rx hs pl pu h
 obtain ⟨a,xs,rfl,hx,q⟩:=h
 cases rx
 obtain ⟨its,r,ht,hz⟩:=I.list hx
 have hlen:=r.length
 refine ⟨"list",_,slot_list_getitem.lookup,ht.isList.typeIs,?_⟩
 refine wpAny_getItem_list_slice ht.isList hs pl pu .none (by simp) ?_ (by rw [AQ] <;> omega)
 rw [slicePick_cut,← hlen]
 refine ⟨.ref s.heap.objs.size,_,I.laid (t':=s.toks) (o:=.lst (cutV xs lo hi)) (fun b ob q=>AC _ q) (AE _) ?_,rfl,q _ (I.hok.fresh (AE _))⟩
 exact ⟨Au (cutV_length xs lo hi) hz,_,0,(r.drop (HT.sIx xs.length 0 lo)).take (HT.sIx xs.length xs.length hi - HT.sIx xs.length 0 lo),Ah _ rfl⟩
theorem call_len_seq:CallR X (.builtin "len") (fun xs H Q=>∃ p ys,xs=[.ref p]∧(SqL X.K H p ys∨SqT X.K H p ys)∧Q (.int ys.length) H):=by
 intro pins s σ H xs us Q I r h
 obtain ⟨p,ys,rfl,hq,q⟩:=h
 obtain ⟨u,rfl,rx⟩:=vals1 r
 cases rx
 have hn:=line63
 rcases hq with hq | hq
 ·obtain ⟨its,r',pl,hz⟩:=I.list hq
  have hlen:=r'.length
  exact Calls.call_len_list pl.isList (by simp only [AQ] <;> omega) ⟨.int ys.length,H,I.tok _,⟨s.toks + 1,by rw [AQ,hlen]⟩,q⟩
 ·obtain ⟨its,r',pl,hz⟩:=I.tuple hq
  have hlen:=r'.length
  exact len_tuple pl (by simp only [AQ] <;> omega) ⟨.int ys.length,H,I.tok _,⟨s.toks + 1,by rw [AQ,hlen]⟩,q⟩
theorem call_list_of:CallR X (.type "list") (fun xs H Q=>∃ p ys,xs=[.ref p]∧(SqL X.K H p ys∨SqT X.K H p ys)∧∀ l,H l=none→Q (.ref l) (upd H l (.lst ys))):=by
 intro pins s σ H xs us Q I r h
 obtain ⟨p,ys,rfl,hq,q⟩:=h
 obtain ⟨u,rfl,rx⟩:=vals1 r
 cases rx
 have fin:∀ (its:List Value),Vals ys its→ys.length≤AR→∀ (h':Heap) (c':Nat),(∀ b o',s.heap.get? b=some o'→h'.get? b=some o') →
   h'.get? s.heap.objs.size=some { cls:=.type "list",dict:=none,data:=.seq its.toArray c',slots:=#[] }→EP X pins σ Q (.ref s.heap.objs.size) { s with heap:=h' }:=fun its r' hz h' c' kp e =>
  ⟨.ref s.heap.objs.size,_,I.laid (t':=s.toks) kp (AE _) (show ObjOk X.prog X.w _ h' _ (.lst ys) from ⟨hz,its,c',r',e⟩),rfl,q _ (I.hok.fresh (AE _))⟩
 rcases hq with hq | hq
 ·obtain ⟨its,r',pl,hz⟩:=I.list hq
  have hlen:=r'.length
  obtain ⟨o,ho,hc,n,hd⟩:=pl.isList
  exact call_list_seq p (.inl rfl) ho hc hd (fun h' c' kp e=>fin its r' hz h' c' kp e) (by simp only [AQ] <;> omega)
 ·obtain ⟨its,r',pl,hz⟩:=I.tuple hq
  have hlen:=r'.length
  obtain ⟨o,ho,hc,n,hd⟩:=pl
  exact call_list_seq p (.inr rfl) ho hc hd (fun h' c' kp e=>fin its r' hz h' c' kp e) (by simp only [AQ] <;> omega)
def tyV (K:PySem.W.Frag) (T:String) (x:V) (H:Hp):Prop:=match x with
 | .str _=>T="str"
 | .int _=>T="int"
 | .ref p=>(T="list"∧∃ xs,SqL K H p xs)∨(T="tuple"∧∃ o,K.lookup p=some o∧o.cls=.type "tuple"∧o.dict=none) ∨
   (T="dict"∧((∃ kvs,H p=some (.dK kvs))∨∃ kvs,H p=some (.dT kvs)))∨(T="set"∧∃ S n,H p=some (.set S n))
 | _=>False
theorem tyV_is {pins:List (Addr×Obj)} {σ:St} {H:Hp} {s:Shared} {T:String} {x:V} {v:Value} (I:Inv X pins σ H s) (r:RelV x v) (ty:tyV X.K T x H) :
  s.TypeIs v T∧∀ a,v=.ref a→∃ ob,s.heap.get? a=some ob∧ob.dict=none:=by
 cases x with
 | str z =>
  obtain ⟨t,rfl⟩:=r
  cases (show T="str" from ty)
  exact ⟨typeIs_str s z t,fun _ e=>nomatch e⟩
 | int i =>
  obtain ⟨t,rfl⟩:=r
  cases (show T="int" from ty)
  exact ⟨typeIs_int s i t,fun _ e=>nomatch e⟩
 | ref p =>
  cases r
  rcases ty with ⟨rfl,xs,hq⟩ | ⟨rfl,o,hk,hc,hd⟩ | ⟨rfl,hk⟩ | ⟨rfl,S,n,hk⟩
  ·obtain ⟨its,_,pl,_⟩:=I.list hq
   refine ⟨pl.isList.typeIs,fun a e=>?_⟩
   cases e
   obtain ⟨o,n,e,c,hd,_⟩:=pl
   exact ⟨o,e,hd⟩
  ·refine ⟨⟨o,I.kIn p o hk,hc⟩,fun a e=>?_⟩
   cases e
   exact ⟨o,I.kIn _ o hk,hd⟩
  ·have z:∃ o,s.heap.get? p=some o∧o.ExactDict:=by
    rcases hk with ⟨kvs,hk⟩ | ⟨kvs,hk⟩
    ·obtain ⟨_,_,_,_,o,_,_,e,ex,_⟩:=I.hok p _ hk
     exact ⟨o,e,ex⟩
    ·obtain ⟨_,_,_,_,o,_,_,e,ex,_⟩:=I.hok p _ hk
     exact ⟨o,e,ex⟩
   obtain ⟨o,e,ex⟩:=z
   refine ⟨⟨o,e,ex.1⟩,fun a e2=>?_⟩
   cases e2
   exact ⟨o,e,ex.2.1⟩
  ·obtain ⟨o,_,_,_,e,ex,_⟩:=I.hok p _ hk
   refine ⟨⟨o,e,ex.1⟩,fun a e2=>?_⟩
   cases e2
   exact ⟨o,e,ex.2.1⟩
 | _=>exact BF ty
def tBM (K:PySem.W.Frag) (T:String) (r:V→List V→Hp→VK→Prop) (to:TE) (t:TA):TE:=fun σ H Q=>to σ H fun x H1=>tyV K T x H1∧t σ H1 fun xs H2=>r x xs H2 Q
variable {o e:Expr} {es:List Expr} {to:TE} {t:TA} {name:Str} {apos cpos:Pos} {T id:String} {r:V→List V→Hp→VK→Prop}
theorem pe_bm (pa:PlainAttrs T) (slot:Slot T name id) (hty:typeOf (.builtin id)=pure (.type "method_descriptor")) (hm:MtR X id r) (ho:PE X o to) (ha:PA X (e :: es) t)
  (hbase:attributeBase o name X.env (eval o X.env)=eval o X.env:=by rfl)
  (hfew:((backTo cpos (Ak (e :: es) X.env)).all (fun x=>!x.1) && (backToKw cpos (keywordEach [] X.env)).all (fun x=>x.1.isSome)
   && decide ((e :: es).length + ([]:List Keyword).length + (if ([]:List Keyword).isEmpty then 0 else 1) < 30))=true:=by rfl)
  (hline:(apos.endLine == cpos.line)=true:=by rfl) (hs:Ak (e :: es) X.env=(false,eval e X.env) :: Ak es X.env:=by rfl) (hplain:(backTo cpos (Ak es X.env)).any (·.1)=false:=by rfl) :
  PE X (.Call (.Attribute o name apos) (e :: es) [] cpos) (tBM X.K T r to t):=by
 intro pins s σ H Q I h
 refine wpAny_Call_method_late hbase hfew hline rfl (thn (ho pins s σ H _ I h) fun v s1 ⟨x,H1,I1,r1,ty,q1⟩=>?_)
 obtain ⟨h1,h2⟩:=tyV_is I1 r1 ty
 refine ⟨T,id,pa,slot,hty,h1,h2,?_⟩
 have hA:=ha cpos pins s1 σ H1 _ I1 q1
 rw [hs] at hA ⊢
 refine Calls.callWith_builtin (by show (false || (backTo cpos (Ak es X.env)).any (·.1))=false; rw [hplain] <;> rfl) (Calls.evalArgs_plain ?_)
 exact thn hA fun us s2 ⟨vs,H2,I2,r2,q2⟩=>hm pins s2 σ H2 x vs v us Q I2 r1 r2 q2
end
def MtM (X:Cx) (id:String) (r:V→List V→Hp→VK→Prop):Prop :=
 ∀ (pins:List (Addr×Obj)) (s:Shared) (σ:St) (H:Hp) (x:V) (xs:List V) (v:Value) (us:List Value) (Q:VK),Inv X pins σ H s→RelV x v→Vals xs us→r x xs H Q →
  wpAny (model X.prog X.w) X.A (call (.builtin id) (v :: us)) (EP X pins σ Q) X.xe s
theorem Vals.one:∀ {x:V} {us:List Value},Vals [x] us→∃ u,us=[u]∧RelV x u
 | _,_,.cons r .nil=>⟨_,rfl,r⟩
theorem Vals.two:∀ {x y:V} {us:List Value},Vals [x,y] us→∃ u v,us=[u,v]∧RelV x u∧RelV y v
 | _,_,_,.cons r (.cons q .nil)=>⟨_,_,rfl,r,q⟩
section
variable {X:Cx} {pins:List (Addr×Obj)} {σ:St} {H:Hp} {s:Shared} {l b:Addr} {xs ys zs:List V}
theorem Inv.lset {its its':List Value} {n:Nat} {f:Array Value→Array Value} {t':Nat} (I:Inv X pins σ H s) (hH:H l=some (.lst xs))
  (e:s.heap.get? l=some { cls:=.type "list",data:=.seq its.toArray n }) (hf:f its.toArray=its'.toArray) (hv:Vals ys its') (hz:ys.length≤AR) :
  Inv X pins σ (upd H l (.lst ys)) { s with heap:=s.heap.update l (BA f),toks:=t' }:=by
 have q:=PySem.IsL.update e f
 rw [hf] at q
 refine I.write (x:=l) (e:=l) (by rw [hH]; exact trivial) (.inl rfl) (fun b' u hb hu=>(A1 s.heap (BA f) (Ne.symm hb)).trans hu) ⟨_,q⟩ ?_
 exact ⟨hz,its',_,hv,q⟩
theorem Inv.lnew {its:List Value} {t':Nat} (I:Inv X pins σ H s) (hv:Vals ys its) (hz:ys.length≤AR) :
  Inv X pins σ (upd H s.heap.objs.size (.lst ys)) { s with heap:=s.heap.push { cls:=.type "list",data:=.seq its.toArray },toks:=t' } :=
 I.laid (fun _ _ q=>AC _ q) (AE _) ⟨hz,its,0,hv,Ah _ rfl⟩
theorem Inv.fresh (I:Inv X pins σ H s):H s.heap.objs.size=none:=I.hok.fresh (AE _)
theorem Inv.lstM (I:Inv X pins σ H s) (hH:H l=some (.lst xs)):xs.length≤AR∧∃ (its:List Value) (n:Nat),Vals xs its∧xs.length=its.length∧s.heap.get? l=some { cls:=.type "list",data:=.seq its.toArray n }:=by
 obtain ⟨z,its,n,r,e⟩:=I.hok l _ hH
 exact ⟨z,its,n,r,r.length,e⟩
theorem notLongL {n:Nat} (h:n≤AR):Builtin.List.listTooLong n=false:=by
 unfold Builtin.List.listTooLong
 exact decide_eq_false (by omega)
end
section
variable {X:Cx}
def rAppend:V→List V→Hp→VK→Prop:=fun x vs H Q=>∃ l xs y,x=.ref l∧vs=[y]∧H l=some (.lst xs)∧xs.length < AR∧Q .non (upd H l (.lst (xs++[y])))
theorem mt_append:MtM X "list.append" rAppend:=by
 intro pins s σ H x vs v us Q I rx rv h
 obtain ⟨l,xs,y,rfl,rfl,hH,hz,q⟩:=h
 cases rx
 obtain ⟨u,rfl,ru⟩:=rv.one
 obtain ⟨z,its,n,r,hl,e⟩:=I.lstM hH
 refine call_meets F.slot_list_append ⟨_,e,rfl⟩ F.entry_list_append (F.args_list_append_2 _ _) (PySem.list_append l its.toArray n u (by rw [AQ]; omega)) ⟨e,?_⟩
 refine ⟨.non,_,I.lset (its':=its++[u]) hH e (by simp) (r.append (.cons ru .nil)) ?_,rfl,q⟩
 rw [AN,List.length_singleton]
 omega
def rExtend:V→List V→Hp→VK→Prop:=fun x vs H Q=>∃ l b xs zs,x=.ref l∧vs=[.ref b]∧H l=some (.lst xs)∧H b=some (.lst zs)∧xs.length + zs.length≤AR∧Q .non (upd H l (.lst (xs++zs)))
theorem mt_extend:MtM X "list.extend" rExtend:=by
 intro pins s σ H x vs v us Q I rx rv h
 obtain ⟨l,b,xs,zs,rfl,rfl,hH,hB,hz,q⟩:=h
 cases rx
 obtain ⟨u,rfl,ru⟩:=rv.one
 cases ru
 obtain ⟨z,its,n,r,hl,e⟩:=I.lstM hH
 obtain ⟨z2,its2,n2,r2,hl2,e2⟩:=I.lstM hB
 have hsz:its.toArray.size + its2.toArray.size≤AR:=by rw [AQ,AQ]; omega
 have hlong:¬ (!its.toArray.isEmpty && Builtin.List.listTooLong (its.toArray.size + its2.toArray.size))=true:=by
  rw [notLongL hsz,Bool.and_false]
  exact Ax
 refine call_meets F.slot_list_extend ⟨_,e,rfl⟩ F.entry_list_extend (F.args_list_extend_2 _ _)
  (AutoSeq1.list_extend_list_list_0 l its.toArray n b its2.toArray n2 hlong (by rw [AQ]; omega) (by omega)) ⟨e,e2,?_⟩
 refine ⟨.non,_,I.lset (its':=its++its2) hH e (by simp) (r.append r2) ?_,rfl,q⟩
 rw [AN]
 omega
def rCat:R2:=fun x y H Q=>∃ l b xs zs,x=.ref l∧y=.ref b∧H l=some (.lst xs)∧H b=some (.lst zs)∧xs.length + zs.length≤AR∧∀ p,H p=none→Q (.ref p) (upd H p (.lst (xs++zs)))
theorem op_cat:OpR X (binaryOp .Add) rCat:=by
 intro pins s σ H x y v u Q I rx ry h
 obtain ⟨l,b,xs,zs,rfl,rfl,hH,hB,hz,q⟩:=h
 cases rx
 cases ry
 obtain ⟨z,its,n,r,hl,e⟩:=I.lstM hH
 obtain ⟨z2,its2,n2,r2,hl2,e2⟩:=I.lstM hB
 refine PySem.P.add_list e e2 ?_ (by rw [AQ,AQ]; omega)
 have ea:its.toArray++its2.toArray=(its++its2).toArray:=by simp
 rw [ea]
 exact ⟨.ref _,_,I.lnew (t':=s.toks) (r.append r2) (by rw [AN]; omega),rfl,q _ I.fresh⟩
end
section
variable {prog:Program} {w:World} {A:Around} {E:Value→Shared→Prop} {s:Shared}
set_option maxRecDepth 100000 in
end
section
variable {X:Cx}
end
end L2
namespace Att
open PySem PySem.W PySem.Calls PyProof.Rows
theorem ints_of_wellAll {P:Params} {h:Heap}:∀ (ns:List Int) (vs:List Value),WellAll P h vs (ns.map WData.int)→IntsAre vs ns:=by
 intro ns
 induction ns with
 | nil =>
  intro vs w
  rw [List.map_nil] at w
  cases w
  exact .nil
 | cons n ns ih =>
  intro vs w
  rw [Af] at w
  cases w with
  | cons a b =>
   cases a
   exact .cons _ _ (ih _ b)
theorem script_of {l:OpenLaw} {n:Nat} (hn:l.most=some n) {P:Params} {h:Heap} {args:List WData} {vals:List Value}
  (hpre:l.row.toRowW.claim.pre args=true) (hwl:WellAll P h vals args) :
  ∃ a vs ns,vals=[AT a]∧args=[WData.list (ns.map WData.int)]∧h.get? a=some { cls:=.type "list",data:=.seq vs.toArray }∧IntsAre vs ns∧ns.length≤n:=by
 have hsh:WShape.hasAll [] args [.list .int]=true:=(pre_splitW hpre).1
 have hc:l.pre.holds [] { args:=args }=true:=(pre_splitW hpre).2
 obtain ⟨d,r,rfl,h1,h2⟩:=hasAllW_cons hsh
 obtain rfl:=hasAllW_nil h2
 obtain ⟨xs,rfl,h3⟩:=hasW_list h1
 obtain ⟨ns,rfl⟩:=items_int h3
 have hlen:ns.length≤n:=by
  unfold OpenLaw.pre at hc
  have h4:(WTm.not (.lt (.lit (.int (n:Int))) (.len (.arg 0)))).holds [] { args:=[.list (ns.map .int)] }=true:=by
   have h4:=(holds_andW hc).1
   rw [hn] at h4
   exact h4
  have h5:=condW_of h4 (w_not (w_lt w_lit (w_len_list (w_arg rfl))))
  rw [AA] at h5
  refine Nat.le_of_not_lt fun q=>?_
  have q':(n:Int) < ((ns.length:Nat):Int):=by omega
  first
   | (rw [decide_eq_true q'] at h5; exact absurd h5 (by decide))
   | (simp at h5; omega)
 cases hwl with
 | cons w1 w2 =>
  cases w2
  cases w1 with
  | list ho hall=>exact ⟨_,_,ns,rfl,rfl,ho,ints_of_wellAll ns _ hall,hlen⟩
theorem post_true (l:OpenLaw) (args:List WData):l.row.toRowW.claim.post args (.bool true) args=true :=
 postW_of (r:=l.row.toRowW) (X:=(true == true))
  (show WShape.has [] (.bool true) .bool=true by first | rfl | decide | simp [WShape.has,WShape.arms,WShape.armsAll])
  (show (WTm.eq .res (.lit (.bool true))).value [] { args:=args,res:=some (.bool true),after:=args }=some (.bool (true == true)) from w_eq_bool (w_res rfl) w_lit) rfl
theorem attach_call {l:OpenLaw} {n:Nat} {q:Program} {loose:List Str} {XP:(Str→Option Value)→Heap→Prop} {YP:World→Heap→Prop} {d:DefRec}
  (hn:l.most=some n) (hdf:d.params.defaults=[])
  (call:∀ (w:World) (s₀ s₁:Shared) (mg mb:Str→Option Value) (fa:Addr) (o:Obj) (pm cd doc:Value) (a:Addr) (vs:List Value) (ns:List Int),
   Ground q loose [] XP w s₀ mg mb s₁.heap→YP w s₁.heap →
   s₁.heap.get? fa=some o→o.data=.func (docDef d.name d.params d.body d.scope pm cd doc)→s₁.heap.CodeRec cd d.name→mg d.name=some (.ref fa) →
   s₁.heap.get? a=some { cls:=.type "list",data:=.seq vs.toArray }→IntsAre vs ns→ns.length≤n→s₁.gens=#[] →
   codeAny (model l.prog w) callerA (.call (.ref fa) ⟨[.ref a],[]⟩) (fun r s'=>r=.ok (.ret (.bool true))∧OldK s₁.heap s'.heap∧s'.os=s₁.os∧AllBare s'.gens) s₁) :
  WalkO q loose XP YP l.row.toRowW d [] (fun f vs=>PySem.call f vs):=by
 intro w s₀ s₁ mg mb G Y fa o pm cd doc dV kV ho hd hcd hD hmg hg args vals as hpre hlay hrd hwl hlo
 obtain rfl:dV=.none:=Dflts.none hD hdf
 obtain rfl:kV=.none:=Dflts.noKw hD
 obtain ⟨a,vs,ns,rfl,rfl,hobj,hints,hlen⟩:=script_of hn hpre hwl
 refine enter_call (codeAny_mono (call w s₀ s₁ mg mb fa o pm cd doc a vs ns G Y ho (fd_plain hd) hcd hmg hobj hints hlen hg) fun r s' hq=>?_)
 obtain ⟨rfl,h2,h3,h4⟩:=hq
 exact ⟨.inl ⟨.bool true,.bool true,[],rfl,fun _=>rfl,.bool true,post_true l _,fun _=>⟨List.Pairwise.nil,fun _ hm=>(nomatch hm)⟩⟩,h2,h3,h4⟩
section
variable {prog:Program} {w:World} {A:Around} {E:Value→Shared→Prop} {s:Shared} {K:Frag}
end
end Att
namespace L2
open PySem PySem.Spec PyProof.Rows
theorem vals_ints:∀ {vs:List Value} {ns:List Int},IntsAre vs ns→Vals (ns.map V.int) vs
 | _,_,.nil=>.nil
 | _,_,.cons n t h=>.cons ⟨t,rfl⟩ (vals_ints h)
abbrev KOf {K:PySem.W.Frag} {h:Heap} (_:K.In h):PySem.W.Frag:=K
end L2
namespace L2
open PySem PySem.Spec PyProof.Rows
def inClass (s:Stmt) (j:Nat):Stmt:=match s with
 | .ClassDef _ _ _ body _ _ _ _ _ _ _=>body.getD j (.Pass ⟨0,0,0,0⟩)
 | _=>.Pass ⟨0,0,0,0⟩
def defArgs (s:Stmt):Arguments:=match s with
 | .FunctionDef _ a _ _ _ _ _ _ _ _=>a
 | _=>{ posonlyargs:=[],args:=[],vararg:=none,kwonlyargs:=[],kw_defaults:=[],kwarg:=none,defaults:=[] }
def defBody (s:Stmt):List Stmt:=match s with
 | .FunctionDef _ _ b _ _ _ _ _ _ _=>b
 | _=>[]
def defScope (s:Stmt):Scope:=match s with
 | .FunctionDef _ _ _ _ _ _ sc _ _ _=>sc
 | _=>{ kind:=.function,names:=[],isGenerator:=false,isCoroutine:=false }
abbrev E0:XK:=fun _ _ _=>False
structure Fun (K:PySem.W.Frag) (x qual:Str) (st:Stmt) (f:Addr) (fd:FuncData):Prop where
 ex:∃ (oc:Value) (od:Option Addr) (kV doc pm:Value) (an:Option Addr) (cdv ct:Value) (osl:Array (Option Value)),
  fd=A7 x qual (defArgs st) (defBody st) (defScope st) .none kV doc pm an cdv ct∧K.lookup f=some ⟨oc,od,.func fd,osl⟩∧A5 K cdv qual=true
 kp:Av K (.ref f)=true
section
variable {P:Program} {w:World} {K:PySem.W.Frag} {mg:Str→Option Value} {base:Heap}
theorem Fun.binds {x qual:Str} {st:Stmt} {f:Addr} {fd:FuncData} {ps:List Str} (F:Fun K x qual st f fd)
  (h:∀ (kV doc pm:Value) (an:Option Addr) (cdv ct:Value) (us:List Value),us.length=ps.length→bindArgs (A7 x qual (defArgs st) (defBody st) (defScope st) .none kV doc pm an cdv ct) ⟨us,[]⟩=pure (ps.zip us)):Binds K fd ps []:=by
 obtain ⟨oc,od,kV,doc,pm,an,cdv,ct,osl,rfl,lk,hcd⟩:=F.ex
 exact .all (h kV doc pm an cdv ct)
theorem fun_mk {x qual:Str} {st:Stmt} {f:Addr} {oc:Value} {od an:Option Addr} {osl:Array (Option Value)} {kV doc pm cdv ct:Value} (l:K.lookup f=some ⟨oc,od,.func (A7 x qual (defArgs st) (defBody st) (defScope st) .none kV doc pm an cdv ct),osl⟩)
  (c:A5 K cdv qual=true) (k:Av K (.ref f)=true):Fun K x qual st f (A7 x qual (defArgs st) (defBody st) (defScope st) .none kV doc pm an cdv ct):=⟨⟨oc,od,kV,doc,pm,an,cdv,ct,osl,rfl,l,c⟩,k⟩
end
section
variable {X:Cx}
theorem pv (i:Nat) {x:Str} {pos:Pos} (hN:X.N[i]?=some x:=by rfl) (hv:Vis X.env.scope x:=by first | exact Or.inl rfl | exact Or.inr (Or.inl rfl) | exact Or.inr (Or.inr rfl)) (hd:(x == ("__debug__":Str))=false:=by decide)
  (hcd:(x == ("__classdict__":Str))=false:=by decide):PE X (.Name x pos) (tVar i):=pe_var hN hv hd hcd
end
theorem iteF {A B:Prop} (h:B):if false=true then A else B:=by
 rw [if_neg Ax]
 exact h
theorem iteT {A B:Prop} (h:A):if true=true then A else B:=by
 rw [if_pos rfl]
 exact h
theorem ite2 {c A B:Prop} [Decidable c] (h1:c→A) (h2:¬ c→B):if c then A else B:=by
 by_cases h:c
 ·rw [if_pos h]
  exact h1 h
 ·rw [if_neg h]
  exact h2 h
def Same (H H':Hp):Prop:=∀ b o,H b=some o→H' b=some o
theorem Same.refl (H:Hp):Same H H:=fun _ _ h=>h
theorem Same.trans {H H1 H2:Hp} (a:Same H H1) (b:Same H1 H2):Same H H2:=fun c o h=>b c o (a c o h)
theorem Same.free {H H':Hp} (e:Same H H') {l:Addr} (h:H' l=Option.none):H l=Option.none:=by
 cases q:H l with
 | none=>rfl
 | some o =>
  rw [e l o q] at h
  cases h
theorem Same.seq {K:PySem.W.Frag} {H H':Hp} {a:Addr} {xs:List V} (e:Same H H') (h:SqL K H a xs):SqL K H' a xs:=by
 rcases h with (h | ⟨o,h⟩) | h
 ·exact .inl (.inl (e _ _ h))
 ·exact .inl (.inr ⟨o,e _ _ h⟩)
 ·exact .inr h
section
variable {κ:Type} [DecidableEq κ]
end
def Fly (h:Heap) (e T:Addr) (cls:Value) (dct:Option Addr):Prop :=
 ∃ oe vs oT ts,h.get? e=some oe∧oe.cls=cls∧oe.dict=dct∧oe.data=.fields vs∧vs[1]?=some (.ref T)∧T≠e∧h.get? T=some oT∧oT.data=.fields ts∧ts[3]?=some .none
def FlyAt (h:Heap) (e T:Addr) (cls:Value) (dct:Option Addr) (fl:Value):Prop :=
 ∃ oe vs oT ts,h.get? e=some oe∧oe.cls=cls∧oe.dict=dct∧oe.data=.fields vs∧vs[1]?=some (.ref T)∧T≠e∧h.get? T=some oT∧oT.data=.fields ts∧ts[3]?=some fl
structure Noted (fs:List Addr) (e T:Addr) (h h':Heap):Prop where
 keep:∀ b o,b≠e→b ∉ fs→h.get? b=some o→h'.get? b=some o
 slot:∀ b o,b≠e→h.get? b=some o→∃ sl,h'.get? b=some { o with slots:=sl }
 new:h.objs.size≤T
section
variable {M:Model} {A:Around} {E:Value→Shared→Prop} {s:Shared}
theorem entry_x {base:Heap} {env:Env} {outer:List Env} {L e:Addr} {oe:Obj} {vs:Array Value} {head:Value} {hadNext:Bool} {Q:Unit→Shared→Prop}
  (hfr:A.frames=some (env :: outer)) (hl:s.heap.FunFrames base (env :: outer)) (hf:env.frame=some L) (he:s.heap.get? e=some oe) (hd:oe.data=.fields vs) (hsz:1 < vs.size)
  (h:∀ h' T,Noted (frs (env :: outer)) e T s.heap h'→FlyAt h' e T oe.cls oe.dict (rawInt L)→Q () { s with heap:=h' }) :
  wpAny M A (do
   let a ← frameOf env
   let pl ← entryPlaceOf L hadNext
   let b ← EntryCells.newEntry head a .none (rawInt L) .none pl
   setField (.ref e) 1 b) Q E s:=by
 have nf:e ∉ (env :: outer).filterMap (·.frame):=fun hm=>by
  obtain ⟨_,o,ho,hnf⟩:=hl.mem hm
  rw [he] at ho
  cases ho
  exact hnf vs hd
 refine AB (wpAny_frameOf_fun hfr hl hf fun h1 so=>AB (wpAny_entryPlaceOf fun pl hpl=>?_))
 unfold EntryCells.newEntry newFields
 refine AB (wpAny_newObj_type ?_ (hpl.sizeOk5 _ _ _ _ _))
 have e1:h1.get? e=some oe:=(so.2.1 e nf).trans he
 generalize hn:([head,AT L,BD,rawInt L,BD]++(if pl.isEmpty=true then List.replicate 6 BD else pl))=cells
 have c3:cells.toArray[3]?=some (rawInt L):=by subst hn; simp
 have e2:=AC (h:=h1) { cls:=.type "traceback",dict:=none,data:=.fields cells.toArray } e1
 refine wpAny_setField e2 hd hsz ?_
 have ne:h1.objs.size≠e:=Nat.ne_of_gt (AJ e1)
 have d3:=Obj.data_mapFields hd (·.setIfInBounds 1 (AT h1.objs.size))
 refine h _ h1.objs.size ⟨fun b o hbe hbf hb=>?_,fun b o hbe hb=>?_,Nat.le_of_eq so.1.symm⟩ ?_
 ·rw [A1 _ _ (Ne.symm hbe)]
  exact AC _ ((so.2.1 b hbf).trans hb)
 ·obtain ⟨sl,hs⟩:=so.2.2 b o hb
  refine ⟨sl,?_⟩
  rw [A1 _ _ (Ne.symm hbe)]
  exact AC _ hs
 ·refine ⟨_,_,{ cls:=.type "traceback",dict:=none,data:=.fields cells.toArray },cells.toArray,Heap.get?_update_self _ e2 (Obj.isFreed_of_fields d3),Obj.cls_mapFields _ _,?_,d3,by simp [hsz],ne,?_,rfl,c3⟩
  ·obtain ⟨c,d,dt,sl⟩:=oe
   cases dt <;> rfl
  ·rw [A1 _ _ (Ne.symm ne)]
   exact Ah h1 rfl
theorem flight_x {e T:Addr} {cls:Value} {dct:Option Addr} {fl:Value} {Q:Unit→Shared→Prop} (ht:FlyAt s.heap e T cls dct fl)
  (h:∀ h',(∀ b o,b≠T→s.heap.get? b=some o→h'.get? b=some o)→Fly h' e T cls dct→Q () { s with heap:=h' }):wpAny M A (setFlight (.ref e) none) Q E s:=by
 obtain ⟨oe,vs,oT,ts,he,hc,hdx,hd,h1,ne,hT,hdT,h3⟩:=ht
 have hsz:3 < ts.size:=(Array.getElem?_eq_some_iff.mp h3).1
 refine wpAny_setFlight_none he hd h1 hT hdT hsz (h _ (fun b o hb q=>?_) ?_)
 ·rw [A1 _ _ (Ne.symm hb)]
  exact q
 ·refine ⟨oe,vs,_,_,?_,hc,hdx,hd,h1,ne,Heap.get?_update_self _ hT (Obj.isFreed_of_fields (Obj.data_mapFields hdT _)),Obj.data_mapFields hdT _,by simp [hsz]⟩
  rw [A1 _ _ ne]
  exact he
theorem note_first {base:Heap} {env:Env} {outer:List Env} {L e:Addr} {oe:Obj} {vs:Array Value} {Q:Unit→Shared→Prop}
  (hfr:A.frames=some (env :: outer)) (hl:s.heap.FunFrames base (env :: outer)) (hf:env.frame=some L) (he:s.heap.get? e=some oe) (hd:oe.data=.fields vs) (h1:vs[1]?=some .none)
  (h:∀ h' T,Noted (frs (env :: outer)) e T s.heap h'→FlyAt h' e T oe.cls oe.dict (rawInt L)→Q () { s with heap:=h' }):wpAny M A (noteFrame (.ref e) env) Q E s:=by
 unfold noteFrame
 simp only [hf]
 refine AB (wpAny_field he hd h1 ?_)
 rw [if_neg (by decide)]
 exact entry_x hfr hl hf he hd (Array.getElem?_eq_some_iff.mp h1).1 h
theorem note_next {base:Heap} {env:Env} {outer:List Env} {L e T0:Addr} {cls:Value} {dct:Option Addr} {Q:Unit→Shared→Prop}
  (hfr:A.frames=some (env :: outer)) (hl:s.heap.FunFrames base (env :: outer)) (hf:env.frame=some L) (ht:Fly s.heap e T0 cls dct)
  (h:∀ h' T,(∀ b o,b≠e→b≠T0→b ∉ frs (env :: outer)→s.heap.get? b=some o→h'.get? b=some o)→(∀ b o,b≠e→b≠T0→s.heap.get? b=some o→∃ sl,h'.get? b=some { o with slots:=sl })→s.heap.objs.size≤T →
   FlyAt h' e T cls dct (rawInt L)→(∀ b o,s.heap.get? b=some o→∃ o',h'.get? b=some o')→Q () { s with heap:=h' }):wpAny M A (noteFrame (.ref e) env) Q E s:=by
 obtain ⟨oe,vs,oT,ts,he,rfl,rfl,hd,h1,ne,hT,hdT,h3⟩:=ht
 unfold noteFrame
 simp only [hf]
 refine AB (wpAny_field he hd h1 ?_)
 rw [if_pos (show (AT T0 != BD)=true from by simp)]
 refine AB (wpAny_field hT hdT h3 ?_)
 rw [if_neg (show ¬ ((BD == rawInt L)=true) from by simp [rawInt])]
 refine AB (wpAny_setField hT hdT (Array.getElem?_eq_some_iff.mp h3).1 ?_)
 have oth:∀ b,b≠T0→(s.heap.update T0 (Obj.mapFields (·.setIfInBounds 3 BD))).get? b=s.heap.get? b:=fun b hb=>A1 _ _ (Ne.symm hb)
 have selfT:=Heap.get?_update_self (Obj.mapFields (·.setIfInBounds 3 BD)) hT (Obj.isFreed_of_fields (Obj.data_mapFields hdT _))
 have nrec:∀ b o,s.heap.get? b=some o→(∀ vs,o.data≠.fields vs)→b≠T0:=fun b o hb hnf q=>by
  rw [q,hT] at hb
  cases hb
  exact hnf ts hdT
 have hl':(s.heap.update T0 (Obj.mapFields (·.setIfInBounds 3 BD))).FunFrames base (env :: outer):=hl.of_keeps fun b o hb hnf=>⟨o,(oth b (nrec b o hb hnf)).trans hb,rfl⟩
 refine entry_x (s:={ s with heap:=s.heap.update T0 (Obj.mapFields (·.setIfInBounds 3 BD)) }) hfr hl' hf ((oth e (Ne.symm ne)).trans he) hd (Array.getElem?_eq_some_iff.mp h1).1 fun h' T N F=>?_
 refine h h' T (fun b o b1 b2 b3 q=>N.keep b o b1 b3 ((oth b b2).trans q)) (fun b o b1 b2 q=>N.slot b o b1 ((oth b b2).trans q)) (Au (Nat.le_of_eq (Heap.size_after_update _ _ _).symm) N.new) F fun b o q=>?_
 by_cases b1:b=e
 ·subst b1
  obtain ⟨oe',_,_,_,q',_⟩:=F
  exact ⟨oe',q'⟩
 ·by_cases b2:b=T0
  ·subst b2
   obtain ⟨sl,q'⟩:=N.slot b _ b1 selfT
   exact ⟨_,q'⟩
  ·obtain ⟨sl,q'⟩:=N.slot b o b1 ((oth b b2).trans q)
   exact ⟨_,q'⟩
end
def CX1 (P:Program) (w:World):CXT:=fun outer H s E ev s' =>
 ∃ e T cls dct H',ev=.ref e∧s'.os=s.os∧AllBare s'.gens∧Un (frs outer) [] H H' s.heap s'.heap∧HOk P w H' s'.heap∧Fly s'.heap e T cls dct ∧
  s.heap.get? e=none∧s.heap.get? T=none∧H' e=none∧H' T=none∧E cls dct H'
section
variable {X:Cx} {pins:List (Addr×Obj)} {σ:St} {H:Hp} {s:Shared} {h':Heap}
theorem left_ok (I:Inv X pins σ H s) (hex:X.ex=[]) (bad:List Addr) (hb:∀ b∈bad,X.s₀.heap.get? b=none∧H b=none)
  (k1:∀ b o,b ∉ bad→b ∉ frs X.stack→s.heap.get? b=some o→h'.get? b=some o) (k2:∀ b o,b ∉ bad→s.heap.get? b=some o→∃ sl,h'.get? b=some { o with slots:=sl })
  (k3:∀ b o,s.heap.get? b=some o→∃ o',h'.get? b=some o'):Un X.fs [] X.H₀ H X.s₀.heap h'∧HOk X.prog X.w H h':=by
 have B:=I.base
 rw [hex] at B
 have nb:∀ b o,X.s₀.heap.get? b=some o→b ∉ bad:=fun b o q z=>by
  rw [(hb b z).1] at q
  cases q
 have nL:∀ b o,X.s₀.heap.get? b=some o→b≠X.env.locals:=fun b o q=>AU (AX (AJ q) I.ok.above)
 have e0:∀ b:Addr,b ∉ ([]:List Addr):=fun b=>by simp
 refine ⟨⟨fun b o q n hf _=>?_,fun b o q n hf _=>?_,B.free,fun b o q _=>?_,B.tups,B.frzs,B.tbls⟩,fun a u q=>?_⟩
 ·refine k1 b o (nb b o q) (fun z=>?_) (B.keep b o q n hf (e0 b))
  rcases AK.mp (I.stkSub b z) with z | z
  ·exact nL b o q z
  ·exact hf z
 ·obtain ⟨sl,q1⟩:=B.slot b o q n hf (e0 b)
  obtain ⟨sl',q2⟩:=k2 b _ (nb b o q) q1
  exact ⟨sl',q2⟩
 ·obtain ⟨o1,q1⟩:=B.there b o q (e0 b)
  exact k3 b o1 q1
 ·have tr:∀ b v,H b=some v→b ∉ bad∧b ∉ frs X.stack:=fun b v z=>⟨(fun y=>absurd ((hb b y).2.symm.trans z) (by simp)),fun y=>absurd ((I.stkFree b y).symm.trans z) (by simp)⟩
  refine (I.hok a u q).stay (fun b v hbv z=>?_) (fun _ z=>z) fun _ _ z=>z
  rcases hbv with rfl | hbv
  ·exact k1 b v (tr b _ q).1 (tr b _ q).2 z
  ·exact k1 b v (tr b _ hbv).1 (tr b _ hbv).2 z
end
section
variable {P:Program} {w:World} {K:PySem.W.Frag} {mg:Str→Option Value} {base:Heap} {N:List Str} {qual:Str} {scope:Scope} {f:Addr} {cd:Value} {A:Around} {outer:List Env} {s₀:Shared} {H₀:Hp} {E:XK}
abbrev cx1 (P:Program) (w:World) (K:PySem.W.Frag) (mg:Str→Option Value) (base:Heap) (N:List Str) (qual:Str) (scope:Scope) (f:Addr) (cd:Value) (A:Around) (outer:List Env) (s₀:Shared) (H₀:Hp) (E:XK):Cx :=
 cxOf (CX1 P w) P w K mg base N qual scope f cd A outer s₀ H₀ E
theorem xe_made {pins:List (Addr×Obj)} {σ:St} {H:Hp} {s:Shared} {e:Addr} {oe:Obj} {vs:Array Value} (I:Inv (cx1 P w K mg base N qual scope f cd A outer s₀ H₀ E) pins σ H s)
  (he:s.heap.get? e=some oe) (hd:oe.data=.fields vs) (h1:vs[1]?=some .none) (hn:s₀.heap.get? e=none) (hH:H e=none) (q:E oe.cls oe.dict H):(cx1 P w K mg base N qual scope f cd A outer s₀ H₀ E).xe (.ref e) s:=by
 show wpAny _ _ (leaving _ _) _ _ _
 unfold leaving
 refine AB (note_first (base:=base) (L:=s₀.heap.objs.size) I.ok.frames I.stack rfl he hd h1 fun h1' T Nt F=>?_)
 refine flight_x (s:={ s with heap:=h1' }) F fun h2 k F2=>?_
 have bT:s.heap.objs.size≤T:=Nt.new
 have tn:∀ b o,s.heap.get? b=some o→b≠T:=fun b o z=>AU (AX (AJ z) bT)
 have s0T:s₀.heap.objs.size≤T:=Au I.sz bT
 obtain ⟨u,hk⟩:=left_ok (h':=h2) I rfl [e] (fun b hb=>by
   have z:b=e:=by simpa using hb
   subst z
   exact ⟨hn,hH⟩)
  (fun b o b1 b2 z=>k b o (tn b o z) (Nt.keep b o (by simpa using b1) b2 z))
  (fun b o b1 z=>by
   obtain ⟨sl,z1⟩:=Nt.slot b o (by simpa using b1) z
   exact ⟨sl,k b _ (tn b o z) z1⟩)
  (fun b o z=>by
   by_cases b1:b=e
   ·subst b1
    obtain ⟨oe',_,_,_,z1,_⟩:=F2
    exact ⟨oe',z1⟩
   ·obtain ⟨sl,z1⟩:=Nt.slot b o b1 z
    exact ⟨_,k b _ (tn b o z) z1⟩)
 exact ⟨e,T,_,_,H,rfl,I.os,I.bare,u,hk,F2,hn,Heap.get?_none_of_le s0T,hH,I.hok.fresh bT,q⟩
theorem pass1:Passes (CX1 P w) (cx1 P w K mg base N qual scope f cd A outer s₀ H₀ E) E:=by
 intro pins σ H s ev s' I hc
 obtain ⟨e,T0,cls,dct,H',rfl,os,bare,un,hok,F0,hne,hnT,hHe,hHT,q⟩:=hc
 have I':Inv (cx1 P w K mg base N qual scope f cd A outer s₀ H₀ E) pins σ H' s':=I.call' (ch:=[]) os un hok bare fun b z=>absurd z (by simp)
 have old:∀ b,s.heap.get? b=none→s₀.heap.get? b=none:=fun b z=>by
  cases q1:s₀.heap.get? b with
  | none=>rfl
  | some o =>
   obtain ⟨o',q2⟩:=I.base.there b o q1 (show b ∉ ([]:List Addr) by simp)
   rw [z] at q2
   cases q2
 show wpAny _ _ (leaving _ _) _ _ _
 unfold leaving
 refine AB (note_next (base:=base) (L:=s₀.heap.objs.size) I'.ok.frames I'.stack rfl F0 fun h1' T k1 k2 bT F k3=>?_)
 refine flight_x (s:={ s' with heap:=h1' }) F fun h2 k F2=>?_
 have tn:∀ b o,s'.heap.get? b=some o→b≠T:=fun b o z=>AU (AX (AJ z) bT)
 have s0T:s₀.heap.objs.size≤T:=Au I'.sz bT
 obtain ⟨u,hk⟩:=left_ok (h':=h2) I' rfl [e,T0] (fun b hb=>by
   rcases AK.mp hb with z | hb
   ·subst z
    exact ⟨old b hne,hHe⟩
   ·have z:b=T0:=by simpa using hb
    subst z
    exact ⟨old b hnT,hHT⟩)
  (fun b o b1 b2 z=>k b o (tn b o z) (k1 b o (fun y=>b1 (by simp [y])) (fun y=>b1 (by simp [y])) b2 z))
  (fun b o b1 z=>by
   obtain ⟨sl,z1⟩:=k2 b o (fun y=>b1 (by simp [y])) (fun y=>b1 (by simp [y])) z
   exact ⟨sl,k b _ (tn b o z) z1⟩)
  (fun b o z=>by
   obtain ⟨o1,z1⟩:=k3 b o z
   exact ⟨o1,k b _ (tn b o z) z1⟩)
 exact ⟨e,T,cls,dct,H',rfl,I'.os,bare,u,hk,F2,old e hne,Heap.get?_none_of_le s0T,hHe,hok.fresh bT,q⟩
theorem own1:PassesOwn (model P w) (cx1 P w K mg base N qual scope f cd A outer s₀ H₀ E).A (cx1 P w K mg base N qual scope f cd A outer s₀ H₀ E).env (cx1 P w K mg base N qual scope f cd A outer s₀ H₀ E).xe:=PassesOwn.leaving
end
theorem ObjOk.there {P:Program} {w:World} {H:Hp} {h:Heap} {a:Addr} {o:HO} (x:ObjOk P w H h a o):∃ ob,h.get? a=some ob:=by
 cases o with
 | lst xs=>obtain ⟨_,_,_,_,e⟩:=x; exact ⟨_,e⟩
 | tup xs=>obtain ⟨_,_,_,o,e,_⟩:=x; exact ⟨_,e⟩
 | dK kvs=>obtain ⟨_,_,_,_,o,_,_,e,_⟩:=x; exact ⟨_,e⟩
 | dT kvs=>obtain ⟨_,_,_,_,o,_,_,e,_⟩:=x; exact ⟨_,e⟩
 | set S n=>obtain ⟨o,_,_,_,e,_⟩:=x; exact ⟨_,e⟩
 | ins C dx fs=>obtain ⟨_,_,_,e,_⟩:=x; exact ⟨_,e⟩
 | own y=>exact x
 | xd fs=>obtain ⟨_,⟨_,_,_,e,_⟩,_⟩:=x; exact ⟨_,e⟩
 | rng lo hi=>obtain ⟨_,_,_,e⟩:=x; exact ⟨_,e⟩
 | frz ob u=>obtain ⟨e,_⟩:=x; exact ⟨_,e⟩
 | tbl ps=>exact ⟨_,(show h.get? a=some _ from x)⟩
 | met f y=>exact ⟨_,(show h.get? a=some _ from x)⟩
 | ext φ=>obtain ⟨_,e,_⟩:=x; exact e
theorem HOk.new {P:Program} {w:World} {H:Hp} {h:Heap} {a:Addr} (x:HOk P w H h) (e:h.get? a=none):H a=none:=by
 cases q:H a with
 | none=>rfl
 | some u =>
  obtain ⟨o,z⟩:=(x a u q).there
  rw [e] at z
  cases z
section
variable {P:Program} {w:World} {K:PySem.W.Frag} {mg:Str→Option Value} {base:Heap} {N:List Str} {qual:Str} {scope:Scope} {f:Addr} {cd:Value} {A:Around} {outer:List Env} {s₀:Shared} {H₀:Hp} {E:XK}
end
section
variable {X:Cx} {x:Str} {C:Addr} {B newId initId:String} {bm:List Value} {np cpos pos:Pos} {E:XK} {e₀:Expr} {rest:List Expr} {t:TA}
end
section
variable {X:Cx} {pins:List (Addr×Obj)} {σ:St} {H H':Hp} {s:Shared} {h':Heap}
theorem Inv.stepN {g':Array GenState} {t':Nat} {d':Drawn} {ch:List Addr} (I:Inv X pins σ H s)
  (hch:∀ b∈ch,(b∈X.ex∨X.s₀.heap.get? b=none)∧b≠X.env.locals∧(∀ x c,X.env.cells.lookup x=some c→c≠b)∧∀ p∈X.pn++pins,p.1≠b)
  (keep:∀ b o,b≠X.env.locals→b ∉ X.fs→b ∉ ch→s.heap.get? b=some o→H b=none→h'.get? b=some o)
  (slot:∀ b o,b≠X.env.locals→b∈X.fs→b ∉ ch→s.heap.get? b=some o→H b=none→∃ sl,h'.get? b=some { o with slots:=sl }) (free:∀ b o,b ∉ ch→s.heap.get? b=some o→H b=none→H' b=none)
  (there:∀ b o,b ∉ ch→s.heap.get? b=some o→∃ o',h'.get? b=some o')
  (tups:∀ b xs,H b=some (.tup xs)→H' b=some (.tup xs)) (frzs:∀ b o u,H b=some (.frz o u)→H' b=some (.frz o u)) (tbls:∀ b ps,H b=some (.tbl ps)→∃ more,H' b=some (.tbl (ps++more)))
  (ns:∀ m,s.heap.Ns X.env.locals m→h'.Ns X.env.locals m) (hok:HOk X.prog X.w H' h') (hg:AllBare g') :
  Inv X pins σ H' { s with heap:=h',gens:=g',drawn:=d',toks:=t' }:=by
 have neL:∀ b o,X.s₀.heap.get? b=some o→b≠X.env.locals:=fun b o e=>AU (AX (AJ e) I.ok.above)
 have neC:∀ b o,X.s₀.heap.get? b=some o→b ∉ X.ex→b ∉ ch:=fun b o e hx hb=>by
  rcases (hch b hb).1 with z | z
  ·exact hx z
  ·rw [z] at e
   cases e
 have cellK:∀ x c,X.env.cells.lookup x=some c→∀ v,s.heap.IsCell c v→h'.IsCell c v:=fun x c e v ⟨o,ho,hd⟩=>by
  have nch:c ∉ ch:=fun z=>(hch c z).2.2.1 x c e rfl
  by_cases hc:c∈X.fs
  ·obtain ⟨sl,q⟩:=slot c o (I.cne x c e) hc nch ho (I.freeC x c e)
   exact ⟨_,q,hd⟩
  ·exact ⟨o,keep c o (I.cne x c e) hc nch ho (I.freeC x c e),hd⟩
 refine ⟨I.ok,I.os,hg,⟨fun b o e n hb hx=>?_,fun b o e n hb hx=>?_,fun b o e n hx=>?_,fun b o e hx=>?_,fun b xs e=>tups b xs (I.base.tups b xs e),fun b o xs e=>frzs b o xs (I.base.frzs b o xs e),fun b ps e=>?_⟩,?_,fun x c e=>?_,?_,fun x c e=>?_,fun p hp=>?_,hok,I.len⟩
 ·exact keep b o (neL b o e) hb (neC b o e hx) (I.base.keep b o e n hb hx) (I.base.free b o e n hx)
 ·obtain ⟨sl,e1⟩:=I.base.slot b o e n hb hx
  obtain ⟨sl',e2⟩:=slot b _ (neL b o e) hb (neC b o e hx) e1 (I.base.free b o e n hx)
  exact ⟨sl',e2⟩
 ·obtain ⟨o',e1⟩:=I.base.there b o e hx
  exact free b o' (neC b o e hx) e1 (I.base.free b o e n hx)
 ·obtain ⟨o',e1⟩:=I.base.there b o e hx
  exact there b o' (neC b o e hx) e1
 ·obtain ⟨m1,e1⟩:=I.base.tbls b ps e
  obtain ⟨m2,e2⟩:=tbls b _ e1
  exact ⟨m1++m2,by rw [e2,Array.append_assoc]⟩
 ·obtain ⟨m,hn,hl⟩:=I.loc
  refine ⟨m,ns m hn,fun i x v e1 e2 e3=>?_⟩
  obtain ⟨u,r,l⟩:=hl i x v e1 e2 e3
  refine ⟨u,r,?_⟩
  rcases l with l | ⟨k,c,e,z⟩
  ·exact .inl l
  ·exact .inr ⟨k,c,e,cellK x c e _ z⟩
 ·obtain ⟨v,z⟩:=I.cell x c e
  exact ⟨v,cellK x c e v z⟩
 ·obtain ⟨m,⟨o,_,_,ho,_⟩,_⟩:=I.loc
  exact free _ o (fun z=>(hch _ z).2.1 rfl) ho I.free
 ·obtain ⟨v,o,ho,hd⟩:=I.cell x c e
  exact free c o (fun z=>(hch c z).2.2.1 x c e rfl) ho (I.freeC x c e)
 ·obtain ⟨e,n,ne,nf,d⟩:=I.pin p hp
  have nch:p.1 ∉ ch:=fun z=>(hch p.1 z).2.2.2 p hp rfl
  exact ⟨keep p.1 p.2 ne nf nch e n,free p.1 p.2 nch e n,ne,nf,d⟩
structure Apart (X:Cx) (pins:List (Addr×Obj)) (e:Addr):Prop where
 old:X.s₀.heap.get? e=none
 loc:e≠X.env.locals
 cel:∀ x c,X.env.cells.lookup x=some c→c≠e
 pin:∀ p∈X.pn++pins,p.1≠e
theorem Inv.apart (I:Inv X pins σ H s) (hex:X.ex=[]) {e:Addr} (hn:s.heap.get? e=none):Apart X pins e:=by
 have ne:∀ b o,s.heap.get? b=some o→b≠e:=fun b o q z=>by
  rw [z,hn] at q
  cases q
 refine ⟨?_,?_,fun x c q=>?_,fun p hp=>ne _ _ (I.pin p hp).1⟩
 ·cases q1:X.s₀.heap.get? e with
  | none=>rfl
  | some o =>
   obtain ⟨o',q2⟩:=I.base.there e o q1 (by rw [hex]; simp)
   rw [hn] at q2
   cases q2
 ·obtain ⟨m,⟨o,_,_,ho,_⟩,_⟩:=I.loc
  exact Ne.symm (ne _ _ ho)
 ·obtain ⟨v,o,ho,_⟩:=I.cell x c q
  exact ne _ _ ho
theorem Inv.track {e:Addr} {φ:Heap→Prop} (I:Inv X pins σ H s) (a:Apart X pins e) (hH:H e=none) (ht:∃ o,s.heap.get? e=some o) (p:φ s.heap) (st:∀ h1 h2:Heap,φ h1→(∀ o,h1.get? e=some o→h2.get? e=some o)→φ h2) :
  Inv X pins σ (upd H e (.ext φ)) s:=by
 have nn:∀ b u,H b=some u→b≠e:=fun b u q z=>by
  rw [z,hH] at q
  cases q
 refine ⟨I.ok,I.os,I.bare,⟨I.base.keep,I.base.slot,fun b o q n hx=>?_,I.base.there,fun b xs q=>?_,fun b o u q=>?_,fun b ps q=>?_⟩,I.loc,I.cell,?_,fun x c q=>?_,fun pp hp=>?_,fun b u q=>?_,I.len⟩
 ·rw [upd_ne (fun z=>by rw [z,a.old] at q; cases q)]
  exact I.base.free b o q n hx
 ·rw [upd_ne (nn b _ (I.base.tups b xs q))]
  exact I.base.tups b xs q
 ·rw [upd_ne (nn b _ (I.base.frzs b o u q))]
  exact I.base.frzs b o u q
 ·obtain ⟨m,z⟩:=I.base.tbls b ps q
  exact ⟨m,by rw [upd_ne (nn b _ z)]; exact z⟩
 ·rw [upd_ne (Ne.symm a.loc)]
  exact I.free
 ·rw [upd_ne (a.cel x c q)]
  exact I.freeC x c q
 ·obtain ⟨z1,z2,z3⟩:=I.pin pp hp
  exact ⟨z1,by rw [upd_ne (a.pin pp hp)]; exact z2,z3⟩
 ·by_cases hb:b=e
  ·subst hb
   rw [upd_same] at q
   cases q
   exact ⟨p,ht,st⟩
  ·rw [upd_ne hb] at q
   exact (I.hok b u q).stay (fun _ _ _ z=>z) (fun c z=>by rw [upd_ne (nn c _ z)]; exact z) fun c xs z=>by rw [upd_ne (nn c _ z)]; exact z
def drop (H:Hp) (e:Addr):Hp:=fun b=>if b=e then none else H b
theorem drop_same {H:Hp} {e:Addr}:drop H e e=none:=if_pos rfl
theorem drop_ne {H:Hp} {e b:Addr} (h:b≠e):drop H e b=H b:=if_neg h
theorem Inv.untrack {e:Addr} {φ:Heap→Prop} (I:Inv X pins σ H s) (hH:H e=some (.ext φ)):Inv X pins σ (drop H e) s:=by
 have nn:∀ b u,H b=some u→(∀ ψ,u≠.ext ψ)→b≠e:=fun b u q nu z=>by
  rw [z,hH] at q
  cases q
  exact nu φ rfl
 have n0:∀ b,H b=none→drop H e b=none:=fun b q=>by
  unfold drop
  split
  ·rfl
  ·exact q
 refine ⟨I.ok,I.os,I.bare,⟨I.base.keep,I.base.slot,fun b o q n hx=>n0 b (I.base.free b o q n hx),I.base.there,fun b xs q=>?_,fun b o u q=>?_,fun b ps q=>?_⟩,I.loc,I.cell,n0 _ I.free,fun x c q=>n0 _ (I.freeC x c q),fun pp hp=>?_,fun b u q=>?_,I.len⟩
 ·have z:=I.base.tups b xs q
  rw [drop_ne (nn b _ z fun ψ y=>by cases y)]
  exact z
 ·have z:=I.base.frzs b o u q
  rw [drop_ne (nn b _ z fun ψ y=>by cases y)]
  exact z
 ·obtain ⟨m,z⟩:=I.base.tbls b ps q
  exact ⟨m,by rw [drop_ne (nn b _ z fun ψ y=>by cases y)]; exact z⟩
 ·obtain ⟨z1,z2,z3⟩:=I.pin pp hp
  exact ⟨z1,n0 _ z2,z3⟩
 ·by_cases hb:b=e
  ·subst hb
   rw [drop_same] at q
   cases q
  ·rw [drop_ne hb] at q
   exact (I.hok b u q).stay (fun _ _ _ z=>z) (fun c z=>by rw [drop_ne (nn c _ z fun ψ y=>by cases y)]; exact z) fun c xs z=>by rw [drop_ne (nn c _ z fun ψ y=>by cases y)]; exact z
theorem gone_ok {M:Model} {A:Around} {E:Value→Shared→Prop} {i:Nat} {n:Str} {pos:Pos} {Q:Unit→Shared→Prop} (I:Inv X pins σ H s) (hN:X.N.Nodup) (hi:X.N[i]?=some n) (hk:X.env.scope.names.lookup n=some .local)
  (h:∀ s',Inv X pins (σ.set i none) H s'→Q () s'):wpAny M A (do bindName X.env n .none; unbindBehindTheSuite X.env n pos) Q E s:=by
 obtain ⟨m,hn,hl⟩:=id I.loc
 have hcls:(X.env.scope.kind == .class || (X.env.scope.kind == .module && X.env.locals != X.env.globals))=false:=by rw [I.ok.kind]; rfl
 have hiσ:i < σ.length:=by rw [I.len]; exact (AF.mp hi).1
 refine wpAny_nameGoes_keeps hk hn hcls fun h' v hn' hs=>h _ ?_
 obtain ⟨oL,_,_,hoL,_⟩:=id hn
 refine ⟨I.ok,I.os,I.bare,⟨fun b o e n hb hx=>?_,fun b o e n hb hx=>?_,I.base.free,fun b o e hx=>?_,I.base.tups,I.base.frzs,I.base.tbls⟩,⟨_,hn',fun j y v' e1 e2 e3=>?_⟩,fun y c e=>?_,I.free,I.freeC,fun p hp=>?_,fun b ob e=>?_,by simpa using I.len⟩
 ·exact (hs.2 b (AU (AX (AJ e) I.ok.above))).trans (I.base.keep b o e n hb hx)
 ·obtain ⟨sl,e1⟩:=I.base.slot b o e n hb hx
  exact ⟨sl,(hs.2 b (AU (AX (AJ e) I.ok.above))).trans e1⟩
 ·obtain ⟨o',e1⟩:=I.base.there b o e hx
  exact ⟨o',(hs.2 b (AU (AX (AJ e) I.ok.above))).trans e1⟩
 ·by_cases hj:j=i
  ·subst hj
   rw [List.getElem?_set_self hiσ] at e2
   cases e2
  ·rw [List.getElem?_set_ne (Ne.symm hj)] at e2
   obtain ⟨u',r',q⟩:=hl j y v' e1 e2 e3
   refine ⟨u',r',?_⟩
   rcases q with ⟨k,e⟩ | ⟨k,c,e,z⟩
   ·refine .inl ⟨k,?_⟩
    have:y≠n:=fun e=>hj (nodup_ix hN e1 (e ▸ hi))
    simp [this,e]
   ·exact .inr ⟨k,c,e,z.sameBut hs (I.cne y c e)⟩
 ·obtain ⟨w',z⟩:=I.cell y c e
  exact ⟨w',z.sameBut hs (I.cne y c e)⟩
 ·obtain ⟨e,n,ne,nf,d⟩:=I.pin p hp
  exact ⟨(hs.2 p.1 ne).trans e,n,ne,nf,d⟩
 ·refine (I.hok b ob e).stay (fun c w' hc q=>(hs.2 c ?_).trans q) (fun _ q=>q) fun _ _ q=>q
  rintro rfl
  have fr:=I.free
  rcases hc with rfl | hc
  ·rw [fr] at e; cases e
  ·rw [fr] at hc; cases hc
end
structure CatchC (K:PySem.W.Frag) (mg:Str→Option Value) (x:Str) (C:Addr):Prop where
 bound:mg x=some (.ref C)
 obj:∃ dd cd sl,K.lookup C=some ⟨.type "type",dd,.cls cd,sl⟩
 exc:PySem.W.mroIn K C (.type "BaseException")=some true
theorem excm_K {K:PySem.W.Frag} {mg:Str→Option Value} {x:Str} {prog:Program} {w:World} {A:Around} {E:Value→Shared→Prop} {s:Shared} {e C Cc:Addr} {oe:Obj} {b:Bool} {Q:Bool→Shared→Prop} (X:K.In s.heap) (hm:PySem.W.mroIn K C (.ref Cc)=some b)
  (cc:CatchC K mg x Cc) (he:s.heap.get? e=some oe) (hcls:oe.cls=.ref C) (q:Q b s):wpAny (model prog w) A (excMatches (.ref e) (.ref Cc)) Q E s:=by
 obtain ⟨dd,cd,sl,hl⟩:=cc.obj
 have L1:=PySem.W.looks_mroIn (M:=model prog w) X hm
 have L2:=PySem.W.looks_mroIn (M:=model prog w) X cc.exc
 have hC:=X _ _ hl
 have f:=tc_notTuple
 have hT:s.TypeIs (.ref Cc) "type":=⟨_,hC,rfl⟩
 obtain ⟨hp,g,d,tk,os⟩:=s
 unfold excMatches
 repeat (first | (with_reducible refine BJ he ?_; rw [hcls]) | (with_reducible refine BJ hC ?_) | (with_reducible refine L1.here ?_) | (with_reducible refine L2.here ?_) | wp_step)
 cases b with
 | true =>
  wp_walk
  exact q
 | false =>
  wp_walk
  exact q
def ExcC (e:Addr) (cls:Value) (dct:Option Addr):HO:=.ext fun h=>∃ oe vs,h.get? e=some oe∧oe.cls=cls∧oe.dict=dct∧oe.data=.fields vs
abbrev Cx.sup (X:Cx) (e:Addr):Cx:={ X with A:=X.A.mark (some (.ref e)),calm:=false,xe:=fun _ _=>False }
theorem Cx.Ok.sup {X:Cx} (ok:X.Ok) (e:Addr):(X.sup e).Ok :=
 ⟨ok.mod,ok.kind,ok.glob,ok.blt,ok.above,ok.inj,ok.has,ok.cab,(fun z=>absurd (show false=true from z) (by decide)),ok.frames,ok.stk,ok.exf,ok.bs,ok.bsz,ok.noex,ok.exfs,ok.funs,ok.frf⟩
section
variable {X:Cx} {pins:List (Addr×Obj)} {σ:St} {H:Hp} {s:Shared} {e:Addr}
theorem Inv.sup (I:Inv X pins σ H s) (e:Addr):Inv (X.sup e) pins σ H s:=⟨I.ok.sup e,I.os,I.bare,I.base,I.loc,I.cell,I.free,I.freeC,I.pin,I.hok,I.len⟩
theorem Inv.unsup (ok:X.Ok) (I:Inv (X.sup e) pins σ H s):Inv X pins σ H s:=⟨ok,I.os,I.bare,I.base,I.loc,I.cell,I.free,I.freeC,I.pin,I.hok,I.len⟩
theorem Inv.recd {T:Addr} {h':Heap} (I:Inv X pins σ H s) (a:Apart X pins T) (hT:H T=none) (nf:T ∉ X.fs) (k:∀ b o,b≠T→s.heap.get? b=some o→h'.get? b=some o):Inv X pins σ H { s with heap:=h' }:=by
 have kt:∀ b u,H b=some u→b≠T:=fun b u q z=>by
  rw [z,hT] at q
  cases q
 refine I.stepN (g':=s.gens) (d':=s.drawn) (t':=s.toks) (ch:=[T]) (fun b hb=>?_) (fun b o _ _ hc q _=>k b o (by simpa using hc) q) (fun b o _ hf hc q _=>⟨o.slots,k b o (by simpa using hc) q⟩) (fun b o _ _ n=>n)
  (fun b o hc q=>⟨o,k b o (by simpa using hc) q⟩) (fun _ _ q=>q) (fun _ _ _ q=>q) (fun b ps q=>⟨#[],by rw [q]; simp⟩) (fun m hm=>?_) (fun b u q=>?_) I.bare
 ·have z:b=T:=by simpa using hb
  subst z
  exact ⟨.inr a.old,a.loc,a.cel,a.pin⟩
 ·obtain ⟨o,es,ep,ho,r⟩:=hm
  exact ⟨o,es,ep,k _ o (Ne.symm a.loc) ho,r⟩
 ·refine (I.hok b u q).stay (fun c v hc z=>k c v ?_ z) (fun _ z=>z) fun _ _ z=>z
  rcases hc with rfl | hc
  ·exact kt c u q
  ·exact kt c _ hc
theorem catch_core {M:Model} {E0:Value→Shared→Prop} {E:XK} {ev:Value} {s':Shared} {Q:Shared→Prop} (hst:X.stack=X.env :: X.outer) (hfr:X.env.frame=some X.env.locals) (hex:X.ex=[]) (I:Inv X pins σ H s)
  (hc:CX1 X.prog X.w X.stack H s E ev s')
  (k:∀ e T cls dct H' s3,ev=.ref e→E cls dct H'→H' e=none→H' T=none→Apart X pins e→Apart X pins T→T ∉ X.fs→Inv X pins σ H' s3→Fly s3.heap e T cls dct→Q s3) :
  wpAny M X.A (noteFrame ev X.env) (fun _ s2=>wpAny M X.A (setFlight ev none) (fun _ s3=>Q s3) E0 s2) E0 s':=by
 obtain ⟨e,T0,cls,dct,H',rfl,os,bare,un,hok,F0,hne,hnT,hHe,hHT,q⟩:=hc
 have I':Inv X pins σ H' s':=I.call' (ch:=[]) os un hok bare fun b z=>absurd z (by simp)
 have ae:=I.apart hex hne
 have aT0:=I.apart hex hnT
 have hfr':X.A.frames=some (X.env :: X.outer):=by rw [I.ok.frames,hst]
 have hst':s'.heap.FunFrames X.base (X.env :: X.outer):=by have z:=I'.stack; rwa [hst] at z
 have nfs:∀ b,b≠X.env.locals→b ∉ X.fs→b ∉ frs (X.env :: X.outer):=fun b h1 h2 z=>by
  unfold frs at z
  rw [List.filterMap_cons,hfr] at z
  rcases AK.mp z with z | z
  ·exact h1 z
  ·exact h2 z
 refine note_next (base:=X.base) (L:=X.env.locals) hfr' hst' hfr F0 fun h1 T k1 k2 bT F1 k3=>?_
 refine flight_x (s:={ s' with heap:=h1 }) F1 fun h2 k4 F2=>?_
 have tn:∀ b o,s'.heap.get? b=some o→b≠T:=fun b o z=>AU (AX (AJ z) bT)
 have HT:H' T=none:=hok.fresh bT
 have aT:=I'.apart hex (Heap.get?_none_of_le bT)
 have tr:∀ b u,H' b=some u→b≠e∧b≠T0∧b ∉ frs (X.env :: X.outer):=fun b u z=>⟨(fun y=>absurd ((congrArg H' y).symm.trans z) (by rw [hHe]; simp)),(fun y=>absurd ((congrArg H' y).symm.trans z) (by rw [hHT]; simp)),fun y=>absurd ((I'.stkFree b (by rw [hst]; exact y)).symm.trans z) (by simp)⟩
 refine k e T cls dct H' { s' with heap:=h2 } rfl q hHe HT ae aT (I'.nofs bT) ?_ F2
 refine I'.stepN (g':=s'.gens) (d':=s'.drawn) (t':=s'.toks) (ch:=[e,T0]) (fun b hb=>?_) (fun b o hL hf hc z _=>k4 b o (tn b o z) (k1 b o (fun y=>hc (by simp [y])) (fun y=>hc (by simp [y])) (nfs b hL hf) z))
  (fun b o _ _ hc z _=>by
   obtain ⟨sl,z1⟩:=k2 b o (fun y=>hc (by simp [y])) (fun y=>hc (by simp [y])) z
   exact ⟨sl,k4 b _ (tn b o z) z1⟩) (fun _ _ _ _ n=>n)
  (fun b o _ z=>by
   obtain ⟨o1,z1⟩:=k3 b o z
   exact ⟨o1,k4 b _ (tn b o z) z1⟩) (fun _ _ z=>z) (fun _ _ _ z=>z) (fun b ps z=>⟨#[],by rw [z]; simp⟩) (fun m hm=>?_) (fun b u z=>?_) bare
 ·rcases AK.mp hb with z | hb
  ·subst z
   exact ⟨.inr ae.old,ae.loc,ae.cel,ae.pin⟩
  ·have z:b=T0:=by simpa using hb
   subst z
   exact ⟨.inr aT0.old,aT0.loc,aT0.cel,aT0.pin⟩
 ·obtain ⟨o,es,ep,ho,r⟩:=hm
  obtain ⟨sl,z1⟩:=k2 _ o (Ne.symm ae.loc) (Ne.symm aT0.loc) ho
  exact ⟨_,es,ep,k4 _ _ (tn _ o ho) z1,r⟩
 ·refine (I'.hok b u z).stay (fun c v hc y=>?_) (fun _ y=>y) fun _ _ y=>y
  have t3:c≠e∧c≠T0∧c ∉ frs (X.env :: X.outer):=by
   rcases hc with rfl | hc
   ·exact tr c u z
   ·exact tr c _ hc
  exact k4 c v (tn c v y) (k1 c v t3.1 t3.2.1 t3.2.2 y)
theorem suite_as {Cc e T:Addr} {cls:Value} {dct:Option Addr} {s3:Shared} {D:Ends} {cx n:Str} {np hpos:Pos} {i:Nat} {b₀:Stmt} {suite:List Stmt} {rest:List ExceptHandler} {ts:TS} (cc:CatchC X.K X.mg cx Cc) (hg:Gl X cx)
  (hN:X.N.Nodup) (hi:X.N[i]?=some n) (hk:X.env.scope.names.lookup n=some .local) (hs:PSs (X.sup e) (b₀ :: suite) ts) (hm:∃ C,cls=.ref C∧PySem.W.mroIn X.K C (.ref Cc)=some true)
  (hH:H e=none) (hT:H T=none) (ae:Apart X pins e) (aT:Apart X pins T) (nT:T ∉ X.fs) (I:Inv X pins σ H s3) (F:Fly s3.heap e T cls dct)
  (h:ts { nx:=fun σ' H'=>D.nx (σ'.set i none) H',rt:=D.rt,bk:=fun σ' H'=>D.bk (σ'.set i none) H',ct:=fun σ' H'=>D.ct (σ'.set i none) H' } (σ.set i (some (.ref e))) (upd H e (ExcC e cls dct))) (hd:(cx == ("__debug__":Str))=false:=by decide) :
  wpAny (model X.prog X.w) X.A (handleBy (.ref e) X.env (.ExceptHandler (some (.Name cx np)) (some n) (b₀ :: suite) hpos :: rest)) (SP X pins D) X.xe s3:=by
 obtain ⟨C,rfl,hmro⟩:=hm
 obtain ⟨oe,vs,oT,ts',he,hcl,hdx,hdt,h1,ne,hoT,hdT,h3⟩:=id F
 have Is:=I.sup e
 refine wpAny_handleBy_cons (codeAny_handlers_test (ld_glob (X:=X.sup e) Is hg cc.bound ?_ hd)) (by intro q; cases q)
 refine excm_K I.kIn hmro cc he hcl ?_
 refine codeAny_handlers_suite_as (flight_x F fun h' k' F'=>?_)
 have I1:Inv X pins σ H { s3 with heap:=h' }:=I.recd aT hT nT k'
 obtain ⟨oe',vs',oT',tsx,he',hcl',hdx',hdt',_⟩:=id F'
 have I2:Inv X pins σ (upd H e (ExcC e (.ref C) dct)) { s3 with heap:=h' }:=I1.track ae hH ⟨oe',he'⟩ ⟨oe',vs',he',hcl',hdx',hdt'⟩ fun g1 g2 ⟨a,b,c,d⟩ z=>⟨a,b,z a c,d⟩
 refine store_ok (X:=X.sup e) (I2.sup e) hN hi (.inl hk) (v:=.ref e) rfl (fun s4 I4=>?_) (.inr hk)
 refine wpAny_mono (hs pins s4 _ _ _ I4 h) (fun f s5 q=>?_) fun _ _ z=>BF z
 have go:∀ {σ5:St} {H5:Hp} {f:Flow},Inv (X.sup e) pins σ5 H5 s5→(∀ s6,Inv X pins (σ5.set i none) H5 s6→SP X pins D f s6)→wpAny (model X.prog X.w) X.A (do bindName X.env n .none; unbindBehindTheSuite X.env n hpos) (fun _ s6=>SP X pins D f s6) X.xe s5 :=
  fun I5 k5=>gone_ok (I5.unsup I.ok) hN hi hk fun s6 I6=>k5 s6 I6
 cases f with
 | next=>obtain ⟨σ5,H5,I5,q5⟩:=q; exact go I5 fun s6 I6=>⟨_,H5,I6,q5⟩
 | brk=>obtain ⟨σ5,H5,I5,q5⟩:=q; exact go I5 fun s6 I6=>⟨_,H5,I6,q5⟩
 | cont=>obtain ⟨σ5,H5,I5,q5⟩:=q; exact go I5 fun s6 I6=>⟨_,H5,I6,q5⟩
 | ret u=>obtain ⟨v5,σ5,H5,I5,r5,q5⟩:=q; exact go I5 fun s6 I6=>⟨v5,_,H5,I6,r5,q5⟩
end
def PX (X:Cx) (e:Expr) (te:XK→TE):Prop :=
 ∀ (pins:List (Addr×Obj)) (s:Shared) (σ:St) (H:Hp) (Q:VK) (E:XK) (W:Value→Shared→Prop),Inv X pins σ H s→te E σ H Q →
  (∀ s1 H1 ev s',Inv X pins σ H1 s1→CX1 X.prog X.w X.stack H1 s1 E ev s'→W ev s')→wpAny (model X.prog X.w) X.A (eval e X.env) (EP X pins σ Q) W s
section
variable {X:Cx} {k:Nat} {f C:Addr} {fd:FuncData} {ps:List Str} {sp:Sp} {dvs:List V} {ds:List Value} {x m:Str} {p pos apos epos cpos:Pos} {e o:Expr} {es:List Expr} {ta:TE} {t:TA}
theorem run_fnW {W:Value→Shared→Prop} {E:XK} {pins:List (Addr×Obj)} {σ:St} {H:Hp} {s:Shared} {Q:VK} {us:List Value} {vs:List V} (F:FnOk X.prog X.w X.K X.mg X.base (CX1 X.prog X.w) k f fd ps sp) (hr:Room k X.A) (hb:Binds X.K fd ps ds) (hd:Vals dvs ds)
  (I:Inv X pins σ H s) (r:Vals vs us) (h:sp (vs++dvs) H Q E) (hx:∀ ev s',CX1 X.prog X.w X.stack H s E ev s'→W ev s'):wpAny (model X.prog X.w) X.A (call (.ref f) us) (EP X pins σ Q) W s:=by
 have r2:Vals (vs++dvs) (us++ds):=r.append hd
 have hl:(us++ds).length=ps.length:=by rw [← r2.length]; exact F.len _ _ _ _ h
 refine wpAny_call (codeAny_mono (F.run X.A X.stack s H ⟨us,[]⟩ (us++ds) (vs++dvs) Q E hr I.env0 (hb s us I.kIn hl) r2 h) fun r s' hq=>?_)
 cases r with
 | error ev=>exact hx ev s' hq
 | ok fl =>
  cases fl with
  | ret u=>exact I.after hq
  | next=>exact BF hq
  | brk=>exact BF hq
  | cont=>exact BF hq
variable {te:XK→TE} {cx n:Str} {np hpos tpos:Pos} {i:Nat} {b₀:Stmt} {suite:List Stmt} {ts:TS} {Cc:Addr} {call:Expr}
def tTryAs (K:PySem.W.Frag) (Cc:Addr) (i:Nat) (te:XK→TE) (ts:TS):TS:=fun D σ H=>te (fun cls dct H'=>(∃ C,cls=.ref C∧PySem.W.mroIn K C (.ref Cc)=some true)∧∀ e,H' e=none →
  ts { nx:=fun σ' H'=>D.nx (σ'.set i none) H',rt:=D.rt,bk:=fun σ' H'=>D.bk (σ'.set i none) H',ct:=fun σ' H'=>D.ct (σ'.set i none) H' } (σ.set i (some (.ref e))) (upd H' e (ExcC e cls dct))) σ H fun _ H1=>D.nx σ H1
theorem body_one {W:Value→Shared→Prop} {Q:Flow→Shared→Prop} {s:Shared} {pins:List (Addr×Obj)} {σ:St} {Q':VK} (hq:X.env.scope.kind=.function) (h:wpAny (model X.prog X.w) X.A (eval call X.env) (EP X pins σ Q') W s) (k:∀ s' v H',Inv X pins σ H' s'→Q' v H'→Q .next s')
  (hs:swapsWith call none epos.line X.env=pure false:=by rfl):wpAny (model X.prog X.w) X.A (execs [.Expr call epos] X.env) Q W s:=by
 refine wpAny_execs_cons (wpAny_Expr_any (thn h fun v s1 ⟨x,H1,I1,r1,q1⟩=>?_) (by simp [interactive,hq]) hs)
 exact wpAny_execs_nil (k s1 x H1 I1 q1)
theorem ps_tryAs (hst:X.stack=X.env :: X.outer) (hfr:X.env.frame=some X.env.locals) (hex:X.ex=[]) (hc:PX X call te) (cc:CatchC X.K X.mg cx Cc) (hg:Gl X cx)
  (hN:X.N.Nodup) (hi:X.N[i]?=some n) (hk:X.env.scope.names.lookup n=some .local) (hs:∀ e,PSs (X.sup e) (b₀ :: suite) ts) (hd:(cx == ("__debug__":Str))=false:=by decide)
  (hsw:swapsWith call none epos.line X.env=pure false:=by rfl) :
  PS X (.Try [.Expr call epos] [.ExceptHandler (some (.Name cx np)) (some n) (b₀ :: suite) hpos] [] [] tpos) (tTryAs X.K Cc i te ts):=by
 intro pins s σ H D I h
 refine wpAny_Try_except (body_one I.ok.kind (hc pins s σ H _ _ _ I h fun s1 H1 ev s' I1 z=>?_) (fun s' v H' I' q=>?_) hsw)
 ·refine catch_core hst hfr hex I1 z fun e T cls dct H' s3 ee q hHe hHT ae aT nT I3 F3=>?_
  subst ee
  exact suite_as cc hg hN hi hk (hs e) q.1 hHe hHT ae aT nT I3 F3 (q.2 e hHe) hd
 ·exact wpAny_execs_nil ⟨σ,H',I',q⟩
end
section
variable {P:Program} {w:World} {K:PySem.W.Frag} {mg:Str→Option Value} {base:Heap}
theorem Fun.ok1 {x qual:Str} {st:Stmt} {f:Addr} {fd:FuncData} {N ps:List Str} {k:Nat} {sp:Sp} (F:Fun K x qual st f fd) (S:FnScope N ps (defScope st)) (len:∀ vs H Q E,sp vs H Q E→vs.length=ps.length)
  (hbody:∀ (cdv:Value) (A:Around) (outer:List Env) (s:Shared) (H:Hp) (vs:List V) (Q:VK) (E:XK),Room k (A.deeper (envOfC qual (defScope st) s.heap.objs.size f cdv))→sp vs H Q E →
   ∃ t,PSs (cx1 P w K mg base N qual (defScope st) f cdv A outer s H E) (defBody st) t∧t { nx:=fun _ H'=>Q .non H',rt:=Q } (start N vs) H):FnOk P w K mg base (CX1 P w) (k + 1) f fd ps sp:=by
 obtain ⟨oc,od,kV,doc,pm,an,cdv,ct,osl,rfl,lk,hcd⟩:=F.ex
 exact fn_of lk hcd S len fun A outer s H vs Q E hr hsp=>hbody cdv A outer s H vs Q E hr hsp
end
open Builtin Builtin.ObjectAttr
abbrev bmE:List Value:=[.type "Exception",.type "BaseException",.type "object"]
section
variable {prog:Program} {w:World} {A:Around} {E:Value→Shared→Prop} {h:Heap} {g:Array GenState} {d:Drawn} {t:Nat} {os:OsState}
variable {nm q:Str} {C N x:Addr} {bs:List Value} {sn:List Str} {sub:List Value} {ab:Bool} {col:Option Bool} {dd:Option Addr} {k0 k1 k2 k3 k5:Option Value} {newId:String}
 {mN mA:Str→Option Value} {name:Str} {v:Value}
theorem chk_exc {M:Model} {o:Obj} {nameV:Value} {Q:Unit→Shared→Prop} (hC:h.get? C=some (excClassObj nm q C N bs bmE true sn sub ab col dd k0 k1 k2 k3 k5 newId)) (hx:h.get? x=some o) (hc:o.cls=.ref C)
  (hq:Q () ⟨h,g,d,t,os⟩):wpAny M A (checkBuiltinCall "BaseException.__getattribute__" ⟨[.ref x,nameV],[]⟩) Q E ⟨h,g,d,t,os⟩:=by
 have b1:builtinKind "BaseException.__getattribute__"=some .slot:=by decide +kernel
 have b2:splitId "BaseException.__getattribute__"=some ("BaseException","__getattribute__"):=by decide +kernel
 have b3:(AT C :: bmE).contains (.type "BaseException")=true:=by rw [List.contains_cons,show bmE.contains (.type "BaseException")=true by decide,Bool.or_true]
 have b4:=F.args_bexc_ga (.ref x) nameV
 simp only [checkBuiltinCall,b1,b2]
 refine AB ?_
 unfold isInstance
 repeat (first | (with_reducible refine BJ hx ?_; rw [hc]) | (with_reducible refine wpAny_isSubtype_exc hC ?_; rw [b3]) | wp_step)
 exact hq
theorem ent_exc {tk:Tok} {Q:PySem.Fin→Shared→Prop} (hC:h.get? C=some (excClassObj nm q C N bs bmE true sn sub ab col dd k0 k1 k2 k3 k5 newId)) (hn:h.Ns N mN) (hna:mN name=none)
  (hB:typeLookup (.type "Exception") name=pure none) (I:h.Inst x C mA) (hv:mA name=some v) (hq:Q (.done (.ret v)) ⟨h,g,d,t,os⟩) :
  wpAny (model prog w) A (Builtin.«object.__getattribute__» ⟨[.ref x,.str name tk],[]⟩) Q E ⟨h,g,d,t,os⟩:=by
 obtain ⟨o,hx,hc,hnc,hd⟩:=I
 rcases hd with ⟨_,hmA⟩ | ⟨dx,hdx,hne,hns⟩
 ·rw [hmA name] at hv
  cases hv
 unfold Builtin.«object.__getattribute__»
 repeat (first | (with_reducible refine BJ hx ?_; rw [hc]) | (with_reducible refine wpAny_typeLookup_exc hC hn F.attrBase_Exception.mro hB ?_; rw [hna]) | wp_step)
 split
 ·rename_i c hcd
  exact absurd hcd (hnc c)
 unfold instanceDict
 repeat (first | (with_reducible refine BJ hx ?_; rw [hc]) | with_reducible refine BJ hC ?_ | wp_step)
 rw [hdx]
 repeat (first | (with_reducible refine wpAny_nsGet hns.ns ?_; rw [hv]) | wp_step)
 exact hq
theorem load_exc {expr:Bool} {Q:Value→Shared→Prop} (hC:h.get? C=some (excClassObj nm q C N bs bmE true sn sub ab col dd k0 k1 k2 k3 k5 newId)) (hn:h.Ns N mN) (hng:mN "__getattribute__"=none) (hnh:mN "__getattr__"=none) (hna:mN name=none)
  (hB:typeLookup (.type "Exception") name=pure none) (I:h.Inst x C mA) (hv:mA name=some v) (hh:handedOut v=pure v) (hq:Q v ⟨h,g,d,t + 1,os⟩):wpAny (model prog w) A (getAttr (.ref x) name expr) Q E ⟨h,g,d,t,os⟩:=by
 obtain ⟨o,hx,hc,_⟩:=id I
 have FB:=F.attrBase_Exception
 have f3:=FB.ga.bind (.ref x)
 have x0:(expr && onTheHeap (Value.builtin "BaseException.__getattribute__"))=false:=by cases expr <;> rfl
 have x2:(Value.builtin "BaseException.__getattribute__" == Value.builtin "object.__getattribute__")=false:=by decide +kernel
 have x1:(onTheHeap (AT C) && Value.builtin "BaseException.__getattribute__" == Value.builtin "object.__getattribute__")=false:=by rw [x2]; rfl
 unfold getAttr getAttrBy
 repeat (any_goals (first | assumption | (with_reducible refine BJ hx ?_; rw [hc]) | (with_reducible refine wpAny_typeLookup_exc hC hn FB.mro FB.ga.lookup ?_; rw [hng]) | (with_reducible refine wpAny_typeLookup_exc hC hn FB.mro FB.noGetattr ?_; rw [hnh]) | wp_step))
 refine codeAny_call_builtin FB.ga.plain F.entry_bexc_ga (chk_exc hC hx hc (ent_exc hC hn hna hB I hv ?_))
 show wpAny _ _ (handedOut v) _ _ _
 rw [hh]
 exact AG hq
end
open Builtin Builtin.ObjectAttr
section
variable {prog:Program} {w:World} {A:Around} {E:Value→Shared→Prop} {h:Heap} {g:Array GenState} {d:Drawn} {t:Nat} {os:OsState}
variable {nm q:Str} {C N x:Addr} {bs:List Value} {sn:List Str} {sub:List Value} {ab:Bool} {col:Option Bool} {dd:Option Addr} {k0 k1 k2 k3 k5:Option Value} {newId:String}
 {mN mA:Str→Option Value} {name:Str} {v:Value}
theorem sav_dict {tk:Tok} {o:Obj} {vs:Array Value} {b:Bool} {Q:PySem.Fin→Shared→Prop} (hC:h.get? C=some (excClassObj nm q C N bs bmE true sn sub ab col dd k0 k1 k2 k3 k5 newId)) (hx:h.get? x=some o) (hc:o.cls=.ref C) (hdn:o.dict=none) (hdt:o.data=.fields vs)
  (hq:∀ h' tk,h'.get? x=some { o with dict:=some h.objs.size }→h'.Ns1 h.objs.size (fun y=>if y=name then some v else none)→(∀ b ob,b≠x→h.get? b=some ob→h'.get? b=some ob)→Q (.done (.ret .none)) ⟨h',g,d,tk,os⟩) :
  wpAny (model prog w) A (storeInOwnDict (.ref x) (.ref C) (.str name tk) name v b) Q E ⟨h,g,d,t,os⟩:=by
 unfold storeInOwnDict ownStreamTells ownDictForStores instanceDict
 repeat (first | (with_reducible refine BJ hx ?_; rw [hc]) | with_reducible refine BJ hC ?_ | wp_step)
 rw [hdn,if_neg (by simp [typeHasDict]),hdt]
 have x1:(h.push { cls:=.type "dict",data:=.dict #[] }).get? x=some o:=AC _ hx
 have xs:x≠h.objs.size:=AU (AJ hx)
 refine AB (wpAny_alloc' (AB (wpAny_update' x1 (AG ?_))))
 generalize hu:((h.push { cls:=.type "dict",data:=.dict #[] }).update x fun o=>{ cls:=o.cls,dict:=some h.objs.size,data:=o.data,slots:=o.slots })=hh
 have g1:hh.get? h.objs.size=some { cls:=.type "dict",data:=.dict #[] }:=by
  rw [← hu]
  exact (Heap.get?_update_ne _ _ _ _ xs.symm).trans (Heap.get?_push_at rfl rfl)
 have g2:hh.get? x=some { o with dict:=some h.objs.size }:=by
  rw [← hu]
  refine Heap.get?_update_self _ x1 ?_
  obtain ⟨oc,od,odt,osl⟩:=o
  cases hdt
  rfl
 have nd:hh.Ns h.objs.size (fun _=>none):=⟨_,#[],_,g1,rfl,fun e he=>absurd he (by simp),fun _=>rfl⟩
 show wpAny _ _ (storeInDict h.objs.size (.str name tk) name v) _ _ _
 unfold storeInDict newKeyGuard
 refine AB (AG (AB (wpAny_nsSet1 (Heap.Ns1.of_empty nd) fun h' hn' hs=>?_)))
 obtain ⟨oD,esD,epD,hoD,hdD,hcD⟩:=hn'.count (Within.cons name v Within.nil)
 refine AB (wpAny_lookBehind hoD (by rw [hdD]; exact pastItsLine_dict (Au hcD (by rw [AS,List.length_nil,sizeLine_eq]; omega))) ?_)
 wp_walk
 refine hq h' _ ((hs.2 x xs).trans g2) hn' fun b ob hb z=>(hs.2 b (AU (AJ z))).trans ?_
 show hh.get? b=some ob
 rw [← hu]
 exact (Heap.get?_update_ne _ _ _ _ hb).trans (AC _ z)
theorem sav_entry {tk:Tok} {o:Obj} {vs:Array Value} {Q:PySem.Fin→Shared→Prop} (hC:h.get? C=some (excClassObj nm q C N bs bmE true sn sub ab col dd k0 k1 k2 k3 k5 newId)) (hn:h.Ns N mN) (hna:mN name=none)
  (hB:typeLookup (.type "Exception") name=pure none) (hx:h.get? x=some o) (hc:o.cls=.ref C) (hdn:o.dict=none) (hdt:o.data=.fields vs)
  (hq:∀ h' tk,h'.get? x=some { o with dict:=some h.objs.size }→h'.Ns1 h.objs.size (fun y=>if y=name then some v else none)→(∀ b ob,b≠x→h.get? b=some ob→h'.get? b=some ob)→Q (.done (.ret .none)) ⟨h',g,d,tk,os⟩) :
  wpAny (model prog w) A (Builtin.«object.__setattr__» ⟨[.ref x,.str name tk,v],[]⟩) Q E ⟨h,g,d,t,os⟩:=by
 rw [PySem.W.osa_eq,refuse_eq]
 have hT:∀ {Q:Value→Shared→Prop},Q (.ref C) ⟨h,g,d,t,os⟩→wpAny (model prog w) A (typeOf (.ref x)) Q E ⟨h,g,d,t,os⟩:=fun {Q} z=>by
  unfold typeOf
  repeat (first | (with_reducible refine BJ hx ?_; rw [hc]) | wp_step)
  exact z
 refine AB (AB (hT (AB (wpAny_mroOf_exc hC ?_))))
 rw [refuseLoop_ref,F.store_Exception.passes (.ref x)]
 refine AG (AB (hT (AB (wpAny_typeLookup_exc hC hn F.store_Exception.mro hB ?_))))
 rw [hna]
 refine AB (AG ?_)
 exact sav_dict hC hx hc hdn hdt hq
theorem store_E:StoreFacts "Exception" bmE "object.__setattr__" "object":=F.store_Exception
theorem sav_chk {tk:Tok} {o:Obj} {Q:Unit→Shared→Prop} (hC:h.get? C=some (excClassObj nm q C N bs bmE true sn sub ab col dd k0 k1 k2 k3 k5 newId)) (hx:h.get? x=some o) (hc:o.cls=.ref C) (hq:Q () ⟨h,g,d,t,os⟩) :
  wpAny (model prog w) A (checkBuiltinCall "object.__setattr__" ⟨[.ref x,.str name tk,v],[]⟩) Q E ⟨h,g,d,t,os⟩ :=
 @wpAny_check_sa A E h g d t os nm q C N x bs bmE sn sub ab col dd k0 k1 k2 k3 k5 "Exception" newId "object.__setattr__" "object" v (model prog w) o (.str name tk) Q store_E hC hx hc hq
theorem sav_call {tk:Tok} {o:Obj} {vs:Array Value} {R:Result→Shared→Prop} (hC:h.get? C=some (excClassObj nm q C N bs bmE true sn sub ab col dd k0 k1 k2 k3 k5 newId)) (hn:h.Ns N mN) (hna:mN name=none)
  (hB:typeLookup (.type "Exception") name=pure none) (hx:h.get? x=some o) (hc:o.cls=.ref C) (hdn:o.dict=none) (hdt:o.data=.fields vs)
  (hq:∀ h' tk,h'.get? x=some { o with dict:=some h.objs.size }→h'.Ns1 h.objs.size (fun y=>if y=name then some v else none)→(∀ b ob,b≠x→h.get? b=some ob→h'.get? b=some ob)→R (.ok (.ret .none)) ⟨h',g,d,tk,os⟩) :
  codeAny (model prog w) A (.call (.builtin "object.__setattr__") ⟨[.ref x,.str name tk,v],[]⟩) R ⟨h,g,d,t,os⟩:=by
 refine codeAny_call_builtin store_E.slot.plain store_E.entry ?_
 exact sav_chk hC hx hc (sav_entry (vs:=vs) hC hn hna hB hx hc hdn hdt hq)
theorem sav_exc {o:Obj} {vs:Array Value} {Q:Unit→Shared→Prop} (hC:h.get? C=some (excClassObj nm q C N bs bmE true sn sub ab col dd k0 k1 k2 k3 k5 newId)) (hn:h.Ns N mN) (hns:mN "__setattr__"=none) (hna:mN name=none)
  (hB:typeLookup (.type "Exception") name=pure none) (hx:h.get? x=some o) (hc:o.cls=.ref C) (hdn:o.dict=none) (hdt:o.data=.fields vs)
  (hq:∀ h' tk,h'.get? x=some { o with dict:=some h.objs.size }→h'.Ns1 h.objs.size (fun y=>if y=name then some v else none)→(∀ b ob,b≠x→h.get? b=some ob→h'.get? b=some ob)→Q () ⟨h',g,d,tk,os⟩) :
  wpAny (model prog w) A (setAttr (.ref x) name v) Q E ⟨h,g,d,t,os⟩:=by
 have SF:=F.store_Exception
 have f3:=SF.slot.bind (.ref x)
 unfold setAttr callSpecial? specialOf
 repeat (any_goals (first | assumption | (with_reducible refine BJ hx ?_; rw [hc]) | (with_reducible refine wpAny_typeLookup_exc hC hn SF.mro SF.slot.lookup ?_; rw [hns]) | wp_step))
 refine sav_call hC hn hna hB hx hc hdn hdt fun h' tk a b c=>?_
 repeat (any_goals (first | assumption | wp_step))
 exact hq h' tk a b c
end
section
variable {prog:Program} {w:World} {A:Around} {R:Result→Shared→Prop} {s:Shared}
theorem comp_loop {elt target iter:Expr} {ifs:List Expr} {scope:Scope} {pos:Pos} {it acc:Value} {env:Env} (I:Nat→Shared→Prop)
  (turn:∀ n s,I n s→wpAny (model prog w) A (pyNext it) (fun r s1=>match r with
   | none=>R (.ok .next) s1
   | some v=>wpAny (model prog w) A (letOwnedTupleGo target it v) (fun _ s1'=>wpAny (model prog w) A (assign target env v) (fun _ s2 =>
     wpAny (model prog w) A (forIn ifs true fun c r=>if r=true then do let ok ← isTrue c env (eval c env); pure (BB ok) else pure (BB r)) (fun ok s3 =>
      if ok=true then wpAny (model prog w) A (eval elt env) (fun x s4 =>
       wpAny (model prog w) A (call (.builtin "list.append") [acc,x]) (fun _ s5=>∃ m,m < n∧I m s5) (notedBy (model prog w) A env fun e s'=>R (.error e) s') s4) (notedBy (model prog w) A env fun e s'=>R (.error e) s') s3
      else ∃ m,m < n∧I m s3) (notedBy (model prog w) A env fun e s'=>R (.error e) s') s2) (notedBy (model prog w) A env fun e s'=>R (.error e) s') s1') (notedBy (model prog w) A env fun e s'=>R (.error e) s') s1) (notedBy (model prog w) A env fun e s'=>R (.error e) s') s)
  (n:Nat) (h:I n s):codeAny (model prog w) A (.compLoop (.ListComp elt [⟨target,iter,ifs,0⟩] scope pos) 0 it acc env) R s:=by
 refine codeAny_loop rfl I (fun n s hI=>?_) n h
 show wpAny _ A ((compTurn (.ListComp elt [⟨target,iter,ifs,0⟩] scope pos) 0 it acc env).onRaise (fun x=>do noteFrame x env; theTreesLotGoes x)) _ _ s
 refine wpAny_noted ?_
 rw [compTurn_list]
 refine AB (wpAny_standAt (AB (thn (turn n s hI) fun r s1 h1=>?_)))
 cases r with
 | none=>exact AG h1
 | some v =>
  refine AB (thn h1 fun _ s1' h1'=>AB (thn h1' fun _ s2 h2=>AB (thn h2 fun ok s3 h3=>?_)))
  cases ok with
  | false=>exact AG ⟨rfl,h3⟩
  | true=>exact AB (AB (thn h3 fun x s4 h4=>AB (thn h4 fun _ s5 h5=>AG (AG ⟨rfl,h5⟩))))
end
def PIfs (X:Cx) (ifs:List Expr) (t:TT):Prop :=
 ∀ (pins:List (Addr×Obj)) (s:Shared) (σ:St) (H:Hp) (Q:Bool→Hp→Prop),Inv X pins σ H s→t σ H Q →
  wpAny (model X.prog X.w) X.A (forIn ifs true fun c r=>if r=true then do let ok ← isTrue c X.env (eval c X.env); pure (BB ok) else pure (BB r)) (TP X pins σ Q) X.xe s
def tNoIf:TT:=fun _ H Q=>Q true H
theorem pifs_nil {X:Cx}:PIfs X [] tNoIf:=by
 intro pins s σ H Q I h
 exact AG ⟨H,I,h⟩
theorem pifs_one {X:Cx} {c:Expr} {t:TT} (hc:PT X c t):PIfs X [c] t:=by
 intro pins s σ H Q I h
 show wpAny _ _ (forIn [c] true _) _ _ _
 rw [List.forIn_cons]
 refine AB ?_
 rw [if_pos rfl]
 refine AB (thn (hc pins s σ H Q I h) fun b s1 q=>AG ?_)
 exact AG q
section
variable {X:Cx} {pins:List (Addr×Obj)} {σ:St} {H:Hp} {s:Shared}
theorem closure_go (env:Env):∀ (names:List (Str×NameKind)) (acc:List (Str×Addr)),(∀ y∈names,y.2=.free→∃ c,env.cells.lookup y.1=some c)→(∀ x c,acc.lookup x=some c→env.cells.lookup x=some c) →
  ∃ cl,(forIn names acc fun (x:Str×NameKind) (r:List (Str×Addr))=>(match x with | (name,kind)=>if (kind == NameKind.free)=true then do let a ← cellOf env name; pure (BB ((name,a) :: r)) else pure (BB r):Sem (ForInStep (List (Str×Addr)))))=pure cl ∧
   (∀ x c,cl.lookup x=some c→env.cells.lookup x=some c)∧(∀ x c,acc.lookup x=some c→∃ c',cl.lookup x=some c')∧∀ y∈names,y.2=.free→∃ c,cl.lookup y.1=some c:=by
 intro names
 induction names with
 | nil=>exact fun acc _ h2=>⟨acc,rfl,h2,fun x c e=>⟨c,e⟩,fun y hy=>by simp at hy⟩
 | cons p r ih =>
  intro acc h1 h2
  obtain ⟨n,k⟩:=p
  rw [List.forIn_cons]
  by_cases hk:k=.free
  ·subst hk
   obtain ⟨c,hc⟩:=h1 (n,.free) AZ rfl
   obtain ⟨cl,e1,e2,e3,e4⟩:=ih ((n,c) :: acc) (fun y hy=>h1 y (Aa _ hy)) (fun x c' e=>by
    rw [List.lookup_cons] at e
    cases hx:x == n with
    | true =>
     rw [hx] at e
     have:x=n:=by simpa using hx
     subst this
     cases e
     exact hc
    | false =>
     rw [hx] at e
     exact h2 x c' e)
   refine ⟨cl,?_,e2,fun x c' e=>?_,fun y hy hf=>?_⟩
   ·have hcell:cellOf env n=pure c:=by simp only [cellOf,hc]
    simp only [beq_self_eq_true,if_true,hcell,pure_bind]
    exact e1
   ·cases hx:x == n with
    | true=>exact e3 x c (by rw [List.lookup_cons,hx])
    | false=>exact e3 x c' (by rw [List.lookup_cons,hx]; exact e)
   ·rcases AK.mp hy with rfl | hy
    ·exact e3 n c (by rw [List.lookup_cons]; simp)
    ·exact e4 y hy hf
  ·obtain ⟨cl,e1,e2,e3,e4⟩:=ih acc (fun y hy=>h1 y (Aa _ hy)) h2
   refine ⟨cl,?_,e2,e3,fun y hy hf=>?_⟩
   ·have hb:(k == NameKind.free)=false:=by simpa using hk
    simp only [hb,Bool.false_eq_true,if_false,pure_bind]
    exact e1
   ·rcases AK.mp hy with rfl | hy
    ·exact absurd hf hk
    ·exact e4 y hy hf
theorem closure_of {env:Env} {scope:Scope} (h:∀ y∈scope.names,y.2=.free→∃ c,env.cells.lookup y.1=some c) :
  ∃ cl,closureFor scope env=pure cl∧(∀ x c,cl.lookup x=some c→env.cells.lookup x=some c)∧∀ y∈scope.names,y.2=.free→∃ c,cl.lookup y.1=some c:=by
 obtain ⟨cl,e1,e2,_,e4⟩:=closure_go env scope.names [] h (fun x c e=>by simp at e)
 refine ⟨cl,?_,e2,e4⟩
 unfold closureFor
 show (forIn scope.names [] _ >>= fun r=>pure r)=pure cl
 rw [show ∀ m:Sem (List (Str×Addr)),(m >>= fun r=>pure r)=m from fun m=>bind_pure m]
 exact e1
end
def Cx.blk (X:Cx) (scope:Scope) (N:List Str) (cl:List (Str×Addr)) (C:Addr) (s:Shared) (H:Hp) (fp:List Addr) (pins:List (Addr×Obj)):Cx where
 prog:=X.prog
 w:=X.w
 K:=X.K
 mg:=X.mg
 base:=X.base
 A:=X.A
 N:=N
 s₀:=s
 H₀:=H
 env:=compEnvC scope cl C X.env
 outer:=X.stack
 stack:=X.stack
 ex:=fp
 fn:=fun _=>false
 calm:=X.calm
 pn:=X.pn++pins
 xe:=fun _ _=>False
def capsOf (k:Nat) (is:List Nat) (σ:St):St:=List.replicate k none++is.map fun i=>(σ[i]?).join
theorem lookup_relabel {env:Env}:∀ {names:List (Str×NameKind)} {x:Str} {k:NameKind},
  (names.map fun (n,k)=>if (k == NameKind.free && env.scope.kind == .function && env.kindOf n == some .cell) then (n,NameKind.cell) else (n,k)).lookup x=some k→∃ k0,(x,k0)∈names∧(k0=k∨k0=.free):=by
 intro names
 induction names with
 | nil=>intro x k h; simp at h
 | cons p r ih =>
  obtain ⟨n,k0⟩:=p
  intro x k h
  rw [Af] at h
  have st:∃ k1,(if (k0 == NameKind.free && env.scope.kind == .function && env.kindOf n == some .cell)=true then (n,NameKind.cell) else (n,k0))=(n,k1)∧(k1=k0∨k0=.free):=by
   split
   ·rename_i hc
    refine ⟨_,rfl,.inr ?_⟩
    simp only [Bool.and_eq_true,beq_iff_eq] at hc
    exact hc.1.1
   ·exact ⟨_,rfl,.inl rfl⟩
  obtain ⟨k1,e1,e2⟩:=st
  simp only at h
  rw [e1,List.lookup_cons] at h
  cases hx:x == n with
  | true =>
   rw [hx] at h
   have:x=n:=by simpa using hx
   subst this
   cases h
   refine ⟨k0,AZ,?_⟩
   rcases e2 with e2 | e2
   ·exact .inl e2.symm
   ·exact .inr e2
  | false =>
   rw [hx] at h
   obtain ⟨k2,m,z⟩:=ih h
   exact ⟨k2,Aa _ m,z⟩
structure BlkScope (X:Cx) (scope:Scope) (own capn:List Str) (capI:List Nat):Prop where
 kind:scope.kind=.function
 cell:∀ y∈scope.names,y.2≠.cell
 names:∀ y∈scope.names,y.2=.local→scope.names.lookup y.1=some .local
 free:∀ y∈scope.names,y.2=.free→X.env.scope.names.lookup y.1=some .cell
 caps:capI.map (fun i=>X.N[i]?)=capn.map some
 capc:∀ y∈capn,X.env.scope.names.lookup y=some .cell∧(relabel scope X.env).names.lookup y=some .cell
section
variable {X:Cx} {pins:List (Addr×Obj)} {σ:St} {H:Hp} {s:Shared}
theorem blk_start {scope:Scope} {own capn:List Str} {capI:List Nat} {cl:List (Str×Addr)} {fp:List Addr} {h':Heap} {t':Nat} (B:BlkScope X scope own capn capI) (I:Inv X pins σ H s) (hf:∀ b∈fp,FpOk X pins H b) (ho:∀ b∈fp,∃ o,s.heap.get? b=some o)
  (hcl:∀ x c,cl.lookup x=some c→X.env.cells.lookup x=some c) (hcf:∀ y∈scope.names,y.2=.free→∃ c,cl.lookup y.1=some c)
  (hn:h'.Ns s.heap.objs.size (fun _=>none)) (hk:∀ b o,s.heap.get? b=some o→h'.get? b=some o) :
  Inv (X.blk scope (own++capn) cl s.heap.objs.size s H fp pins) [] (capsOf own.length capI σ) H { s with heap:=h',toks:=t' }:=by
 have lt:∀ b o,s.heap.get? b=some o→b≠s.heap.objs.size:=fun b o e=>AU (AJ e)
 have hkind:∀ x,((relabel scope X.env).names.lookup x=some .cell∨(relabel scope X.env).names.lookup x=some .free)→∃ c,cl.lookup x=some c:=fun x hx=>by
  have z:∃ k,(k=.cell∨k=.free)∧(relabel scope X.env).names.lookup x=some k:=by
   rcases hx with hx | hx
   ·exact ⟨_,.inl rfl,hx⟩
   ·exact ⟨_,.inr rfl,hx⟩
  obtain ⟨k,hk,hx⟩:=z
  obtain ⟨k0,m,z⟩:=lookup_relabel (env:=X.env) hx
  have:k0=.free:=by
   rcases z with z | z
   ·rcases hk with hk | hk
    ·exact absurd (z.trans hk) (B.cell _ m)
    ·exact z.trans hk
   ·exact z
  exact hcf _ m this
 have nfs:∀ b,b≠X.env.locals→b ∉ X.fs→b ∉ frs X.stack:=fun b h1 h2 z=>by
  rcases AK.mp (I.stkSub b z) with z | z
  ·exact h1 z
  ·exact h2 z
 have cellAt:∀ x c,cl.lookup x=some c→∃ v o,s.heap.get? c=some o∧o.data=.cell v:=fun x c e=>by
  obtain ⟨v,o,ho,hd⟩:=I.cell x c (hcl x c e)
  exact ⟨v,o,ho,hd⟩
 have ok:(X.blk scope (own++capn) cl s.heap.objs.size s H fp pins).Ok:=by
  refine ⟨I.ok.mod,B.kind,I.ok.glob,I.ok.blt,AE _,fun x y c e1 e2=>I.ok.inj x y c (hcl x c e1) (hcl y c e2),fun x hx=>hkind x hx,(fun x c e=>absurd (show false=true from e) (by decide)),I.ok.hd,I.ok.frames,.inl rfl,fun b hb=>?_,I.bs,Au I.ok.bsz I.sz,fun b o e hb=>?_,fun b hb=>?_,I.stack,fun b hb=>I.stkFree b hb⟩
  ·obtain ⟨o,e⟩:=ho b hb
   exact ⟨lt b o e,fun x c ec=>(hf b hb).2.2.2.2.1 x c (hcl x c ec)⟩
  ·rcases (hf b hb).2.2.2.1 with z | z
   ·exact I.ok.noex b o e z
   ·exact absurd (AX (AJ (I.ok.bs b o e).1) z) (Nat.lt_irrefl _)
  ·exact nfs b (hf b hb).2.1 (hf b hb).2.2.1
 refine ⟨ok,rfl,I.bare,Un.kept hk,⟨_,hn,fun i x v e1 e2 e3=>?_⟩,fun x c e=>?_,I.hok.fresh (AE _),fun x c e=>I.freeC x c (hcl x c e),fun p hp=>?_,I.hok.kept hk,?_⟩
 ·unfold capsOf at e2
  have hi:own.length≤i:=by
   by_cases h:own.length≤i
   ·exact h
   ·rw [List.getElem?_append_left (by simpa using h),List.getElem?_replicate] at e2
    split at e2 <;> cases e2
  rw [List.getElem?_append_right (by simpa using hi),List.length_replicate,AH] at e2
  have e1':(own++capn)[i]?=some x:=e1
  rw [List.getElem?_append_right hi] at e1'
  cases hc:capI[i - own.length]? with
  | none=>rw [hc] at e2; cases e2
  | some j =>
   rw [hc] at e2
   have e4:(σ[j]?).join=some v:=by simpa using e2
   have e5:σ[j]?=some (some v):=by
    cases q:σ[j]? with
    | none=>rw [q] at e4; cases e4
    | some o=>rw [q] at e4; cases o with | none=>cases e4 | some v'=>cases e4; rfl
   have e6:X.N[j]?=some x:=by
    have z:=congrArg (fun l=>l[i - own.length]?) B.caps
    simp only [AH,hc,e1',Option.map_some] at z
    exact Aw z
   have cx:=B.capc x (Al e1')
   obtain ⟨m,hm,hl⟩:=I.loc
   obtain ⟨u,r,l⟩:=hl j x v e6 e5 (.inr (.inl cx.1))
   refine ⟨u,r,.inr ?_⟩
   obtain ⟨c',hc'⟩:=hkind x (.inl cx.2)
   have hc2:=hcl x c' hc'
   rcases l with ⟨k,_⟩ | ⟨_,c,ec,o,hoc,hdc⟩
   ·have k':X.env.scope.names.lookup x=some .local:=k
    rw [cx.1] at k'
    cases k'
   ·rw [hc2] at ec
    cases ec
    exact ⟨.inl cx.2,c',hc',o,hk _ _ hoc,hdc⟩
 ·obtain ⟨v,o,hoc,hd⟩:=cellAt x c e
  exact ⟨v,o,hk _ _ hoc,hd⟩
 ·have hp':p∈X.pn++pins:=by
   have z:p∈(X.pn++pins)++[]:=hp
   simpa using z
  obtain ⟨e,n,ne,nf,d⟩:=I.pin p hp'
  exact ⟨hk _ _ e,n,lt _ _ e,nfs _ ne nf,d⟩
 ·show (List.replicate own.length none++capI.map _).length=(own++capn).length
  have z:=congrArg List.length B.caps
  simp only [AA] at z
  simp [z]
end
def tLC (wi:TI) (k:Nat) (capI:List Nat) (g:TG) (tt:TT) (te:TE):TE:=fun σ H Q=>wi σ H fun J H1=>∀ D,H1 D=none→∃ W:Nat→Nat→St→List V→Hp→Prop,(∃ m,W 0 m (capsOf k capI σ) [] (upd H1 D (.lst []))) ∧
 ∀ i m σ' acc H,W i m σ' acc H→(J.stop i H∧Q (.ref D) H)∨(J.go i H∧∀ x H',J.yld i H x H'→g x σ' H' fun σ2 H2=>tt σ2 H2 fun b H3 =>
  if b=true then te σ2 H3 fun y H4=>H4 D=some (.lst acc)∧acc.length < AR∧∃ m',m' < m∧W (i + 1) m' σ2 (acc++[y]) (upd H4 D (.lst (acc++[y]))) else ∃ m',m' < m∧W (i + 1) m' σ2 acc H3)
section
variable {X:Cx} {pins:List (Addr×Obj)} {σ:St} {H:Hp} {s:Shared}
theorem blk_end {scope:Scope} {N:List Str} {cl:List (Str×Addr)} {fp:List Addr} {h':Heap} {σ':St} {H':Hp} {s':Shared} (I:Inv X pins σ H s) (hf:∀ b∈fp,FpOk X pins H b)
  (J:Inv (X.blk scope N cl s.heap.objs.size s H fp pins) [] σ' H' s') (hs:Heap.SameBut s.heap.objs.size s'.heap h'):Inv X pins σ H' { s' with heap:=h' }:=by
 have B:=J.base
 have ne:∀ b o,s.heap.get? b=some o→b≠s.heap.objs.size:=fun b o e=>AU (AJ e)
 have u:Un (frs X.stack) fp H H' s.heap h':=⟨fun b o e n h1 h2=>(hs.2 b (ne b o e)).trans (B.keep b o e n h1 h2),fun b o e n h1 h2=>by
   obtain ⟨sl,z⟩:=B.slot b o e n h1 h2
   exact ⟨sl,(hs.2 b (ne b o e)).trans z⟩,B.free,fun b o e h2=>by
   obtain ⟨o',z⟩:=B.there b o e h2
   exact ⟨o',(hs.2 b (ne b o e)).trans z⟩,B.tups,B.frzs,B.tbls⟩
 have hok:HOk X.prog X.w H' h':=fun b o e=>by
  refine (J.hok b o e).stay (fun c v hc q=>(hs.2 c ?_).trans q) (fun _ z=>z) fun _ _ z=>z
  have fr:H' s.heap.objs.size=none:=J.free
  rintro rfl
  rcases hc with z | z
  ·rw [← z,fr] at e
   cases e
  ·rw [fr] at z
   cases z
 exact I.call' (s':={ s' with heap:=h' }) (ch:=fp) J.os u hok J.bare fun b hb=>⟨(hf b hb).2.2.2.1,(hf b hb).2.1,(hf b hb).2.2.2.2.1,(hf b hb).2.2.2.2.2⟩
variable {elt iter tg:Expr} {ifs:List Expr} {scope:Scope} {pos:Pos} {own capn:List Str} {capI:List Nat} {wi:TI} {g:TG} {tt:TT} {te:TE}
theorem pe_lc (hc:X.calm=true) (B:BlkScope X scope own capn capI) (hi:PI X tg iter wi) (hg:∀ cl C s H fp pins,PG (X.blk scope (own++capn) cl C s H fp pins) tg g)
  (ht:∀ cl C s H fp pins,PIfs (X.blk scope (own++capn) cl C s H fp pins) ifs tt) (he:∀ cl C s H fp pins,PE (X.blk scope (own++capn) cl C s H fp pins) elt te)
  (hs:∀ x,foldedSetIterable iter X.env x=pure x:=by intro _; rfl):PE X (.ListComp elt [⟨tg,iter,ifs,0⟩] scope pos) (tLC wi own.length capI g tt te):=by
 intro pins s σ H Q I h
 rw [eval_ListComp]
 obtain ⟨cl,hclos,hcl,hcf⟩:=closure_of (env:=X.env) (scope:=scope) (fun y hy hf=>I.ok.has y.1 (.inl (B.free y hy hf)))
 refine wpAny_comprehension_free (use:=none) rfl hs hclos B.kind B.names (thn (hi pins s σ H _ I h) fun v s1 h1=>thn h1 fun itv s2 h2=>?_)
 obtain ⟨it,fp,tn,J,H2,e,I2,T,st2,f2,hW⟩:=h2
 subst e
 obtain ⟨W,⟨m0,w0⟩,turn⟩:=hW s2.heap.objs.size (I2.hok.fresh (AE _))
 refine wpAny_newObj_type (wpAny_newFunctionEnv B.cell (by intro y hy; simp at hy) (fun h4 hns hsb=>?_) B.kind)
 dsimp only at hns hsb ⊢
 have I3:Inv X pins σ (upd H2 s2.heap.objs.size (.lst [])) { s2 with heap:=s2.heap.push { cls:=.type "list",dict:=none,data:=.seq ([]:List Value).toArray } } :=
  I2.laid (t':=s2.toks) (fun b u e=>AC _ e) (AE _) ⟨Ap _,[],0,.nil,Ah _ rfl⟩
 generalize hs3:({ s2 with heap:=s2.heap.push { cls:=.type "list",dict:=none,data:=.seq ([]:List Value).toArray } }:Shared)=s3 at I3
 have e3:s2.heap.push { cls:=.type "list",dict:=none,data:=.seq ([]:List Value).toArray }=s3.heap:=by rw [← hs3]
 have ob2:∀ b∈fp,∃ o,s2.heap.get? b=some o:=fun b hb=>let ⟨o,z,_⟩:=T.obj _ _ st2 b hb; ⟨o,z⟩
 have up3:∀ b o,s2.heap.get? b=some o→s3.heap.get? b=some o:=fun b o z=>by
  rw [← e3]
  exact AC _ z
 have f3:∀ b∈fp,FpOk X pins (upd H2 s2.heap.objs.size (.lst [])) b:=fun b hb=>by
  obtain ⟨o,z⟩:=ob2 b hb
  exact ⟨by rw [upd_ne (AU (AJ z))]; exact (f2 b hb).1,(f2 b hb).2⟩
 have ob3:∀ b∈fp,∃ o,s3.heap.get? b=some o:=fun b hb=>let ⟨o,z⟩:=ob2 b hb; ⟨o,up3 b o z⟩
 rw [e3] at hns hsb ⊢
 have up4:∀ b o,s3.heap.get? b=some o→h4.get? b=some o:=fun b o z=>(hsb.2 b (AU (AJ z))).trans (AC _ z)
 have IB:=blk_start (t':=s2.toks + ([]:List (Str×Value)).length) B I3 f3 ob3 hcl hcf hns up4
 have e4:({ s3 with heap:=h4,toks:=s2.toks + ([]:List (Str×Value)).length }:Shared)={ s2 with heap:=h4,toks:=s2.toks + ([]:List (Str×Value)).length }:=by rw [← hs3]
 rw [e4] at IB
 have tn4:tn 0 h4:=T.keep _ _ _ st2 fun b hb o z=>up4 b o (up3 b o z)
 have fst:∀ {H':Hp},(∀ b∈fp,H' b=none)→∀ b∈fp,FpOk (X.blk scope (own++capn) cl s3.heap.objs.size s3 (upd H2 s2.heap.objs.size (.lst [])) fp pins) [] H' b:=fun {H'} hn b hb=>by
  obtain ⟨o,z⟩:=ob3 b hb
  refine ⟨hn b hb,AU (AJ z),fun y=>?_,.inl hb,fun x c ec=>(f3 b hb).2.2.2.2.1 x c (hcl x c ec),fun p hp=>(f3 b hb).2.2.2.2.2 p (by have y:p∈(X.pn++pins)++[]:=hp; simpa using y)⟩
  rcases AK.mp (I3.stkSub b y) with y | y
  ·exact (f3 b hb).2.1 y
  ·exact (f3 b hb).2.2.1 y
 have loop:codeAny (model X.prog X.w) X.A (.compLoop (.ListComp elt [⟨tg,iter,ifs,0⟩] scope pos) 0 (.ref it) (.ref s2.heap.objs.size) (compEnvC scope cl s3.heap.objs.size X.env))
   (compPost (model X.prog X.w) X.A X.xe none (EP X pins σ Q) (.ref s2.heap.objs.size) s3.heap.objs.size) { s2 with heap:=h4,toks:=s2.toks + ([]:List (Str×Value)).length }:=by
  refine comp_loop (fun n s'=>∃ i σ' acc H',Inv (X.blk scope (own++capn) cl s3.heap.objs.size s3 (upd H2 s2.heap.objs.size (.lst [])) fp pins) [] σ' H' s'∧tn i s'.heap∧(∀ b∈fp,H' b=none)∧W i n σ' acc H') ?_ m0 ⟨0,_,[],_,IB,tn4,fun b hb=>(f3 b hb).1,w0⟩
  rintro n s5 ⟨i,σ5,acc,H5,I5,st5,fr5,w5⟩
  have no:∀ {α:Type} {t:Sem α} {Q:α→Shared→Prop} {E:Value→Shared→Prop} {s:Shared},wpAny (model X.prog X.w) X.A t Q (fun _ _=>False) s→wpAny (model X.prog X.w) X.A t Q E s:=fun z=>wpAny_mono z (fun _ _ y=>y) fun _ _ y=>y.elim
  rcases turn i n σ5 acc H5 w5 with ⟨stop,qn⟩ | ⟨go,step⟩
  ·refine no (thn (T.done (X.blk scope (own++capn) cl s3.heap.objs.size s3 (upd H2 s2.heap.objs.size (.lst [])) fp pins) rfl rfl rfl hc i [] s5 σ5 H5 _ I5 (fst fr5) st5 stop) fun r s6 ⟨hr,I6⟩=>?_)
   subst hr
   obtain ⟨m,hm,_⟩:=id I6.loc
   exact ⟨m,hm,fun h' hs'=>⟨.ref s2.heap.objs.size,H5,blk_end I3 f3 I6 hs',rfl,qn⟩⟩
  ·refine no (thn (T.item (X.blk scope (own++capn) cl s3.heap.objs.size s3 (upd H2 s2.heap.objs.size (.lst [])) fp pins) rfl rfl rfl hc i [] s5 σ5 H5 _ I5 (fst fr5) st5 go) fun r s6 ⟨u,hr,h6⟩=>?_)
   subst hr
   refine no (thn h6 fun _ s7 ⟨x,H7,I7,r7,y7,st7,fr7⟩=>?_)
   have I7':=I7.pinned (fst fr7) (T.obj _ _ st7)
   have kp:∀ {σ8:St} {H8:Hp} {s8:Shared},Inv (X.blk scope (own++capn) cl s3.heap.objs.size s3 (upd H2 s2.heap.objs.size (.lst [])) fp pins) ([]++pinsAt fp s7.heap) σ8 H8 s8→tn (i + 1) s8.heap∧∀ b∈fp,H8 b=none:=fun {σ8 H8 s8} I8=>by
    refine ⟨T.keep _ _ _ st7 fun b hb o z=>(I8.pin (b,o) (Ar _ (Ar _ (mem_pinsAt hb z)))).1,fun b hb=>?_⟩
    obtain ⟨o,z,d⟩:=T.obj _ _ st7 b hb
    exact (I8.pin (b,o) (Ar _ (Ar _ (mem_pinsAt hb z)))).2.1
   refine no (thn (hg cl s3.heap.objs.size s3 _ fp pins _ s7 σ5 H7 x u _ I7' r7 (step x H7 y7)) fun _ s8 ⟨σ8,H8,I8,q8⟩=>?_)
   refine no (thn (ht cl s3.heap.objs.size s3 _ fp pins _ s8 σ8 H8 _ I8 q8) fun b s9 ⟨H9,I9,q9⟩=>?_)
   cases b with
   | false =>
    obtain ⟨m',hm,w9⟩:=q9
    exact ⟨m',hm,i + 1,σ8,acc,H9,I9.unpinned,(kp I9).1,(kp I9).2,w9⟩
   | true =>
    refine no (thn (he cl s3.heap.objs.size s3 _ fp pins _ s9 σ8 H9 _ I9 q9) fun y s10 ⟨yv,H10,I10,r10,hD,hz,m',hm,w10⟩=>?_)
    refine no (thn (mt_append _ s10 σ8 H10 (.ref s2.heap.objs.size) [yv] (.ref s2.heap.objs.size) [y] (fun v H11=>v=.non∧H11=upd H10 s2.heap.objs.size (.lst (acc++[yv]))) I10 rfl (.cons r10 .nil) ⟨_,acc,yv,rfl,rfl,hD,hz,rfl,rfl⟩) fun _ s11 ⟨_,H11,I11,_,_,e11⟩=>?_)
    subst e11
    exact ⟨m',hm,i + 1,σ8,acc++[yv],_,I11.unpinned,(kp I11).1,(kp I11).2,w10⟩
 exact codeAny_compStart_list loop (T.self _ 0 _ _ _ tn4 loop)
end
theorem ns_some_of {K:PySem.W.Frag} {h:Heap} {N:Addr} {mg:Str→Option Value} {n:Str} {v:Value} (X:K.In h) (G:h.Ns N mg) (e:AV K N n=some (some v)):mg n=some v:=by
 obtain ⟨o,es,ep,ho,hd,_,hf⟩:=G
 unfold AV at e
 split at e
 ·rename_i c d es' n' sl q
  have z:=X _ _ q
  rw [ho] at z
  cases z
  cases hd
  split at e
  ·rename_i en he
   cases e
   rw [← hf]
   unfold nsFind findBy
   rw [← Array.find?_toList,he]
   rfl
  ·split at e
   ·cases e
   ·cases e
 ·cases e
structure StopC (K:PySem.W.Frag) (mg:Str→Option Value) (x:Str) (C fI:Addr) (a:Str):Prop where
 bound:mg x=some (.ref C)
 obj:∃ nm q N bs sn sub ab col dd k0 k1 k2 k3 k5,K.lookup C=some (excClassObj nm q C N bs bmE true sn sub ab col dd k0 k1 k2 k3 k5 "Exception.__new__")∧PySem.W.nsOkIn K N=true∧AV K N "__init__"=some (some (.ref fI)) ∧
  AV K N "__setattr__"=some none∧AV K N "__getattribute__"=some none∧AV K N "__getattr__"=some none∧AV K N a=some none
 fn:PySem.W.typeIn K (.ref fI)=some (.type "function")
 lk:typeLookup (.type "Exception") a=pure none
def ExcN (e C:Addr):HO:=.ext fun h=>∃ vs,h.get? e=some { cls:=.ref C,data:=.fields vs }∧vs[1]?=some .none
def ExcD (e C dx:Addr):HO:=.ext fun h=>∃ vs,h.get? e=some { cls:=.ref C,dict:=some dx,data:=.fields vs }∧vs[1]?=some .none
section
variable {X:Cx} {x a:Str} {C fI:Addr} {o value:Expr} {pos pos':Pos} {ta tv:TE} {mg:Str→Option Value}
def sXset (C:Addr) (a:Str) (ta tv:TE):TS:=fun D σ H=>tv σ H fun y H1=>ta σ H1 fun x H2=>∃ e,x=.ref e∧H2 e=some (ExcN e C)∧∀ dx,H2 dx=none→D.nx σ (upd (upd H2 dx (.xd [(a,y)])) e (ExcD e C dx))
theorem ps_xset (S:StopC X.K mg x C fI a) (ha:PE X o ta) (hv:PE X value tv) (hs:swapsWith value (some (.Attribute o a pos')) pos.line X.env=pure false) :
  PS X (.Assign [.Attribute o a pos'] value pos) (sXset C a ta tv):=by
 intro pins s σ H D I h
 refine plainObj_wpAny_Assign_Attribute (thn (hv pins s σ H _ I h) fun u s1 ⟨y,H1,I1,ry,h1⟩=>thn (ha pins s1 σ H1 _ I1 h1) fun ov s2 ⟨xv,H2,I2,rx,e,ex,he,q⟩=>?_) hs
 subst ex
 obtain rfl:ov=AT e:=rx
 obtain ⟨nm,qn,N,bs,sn,sub,ab,col,dd,k0,k1,k2,k3,k5,hl,hok,hi,n1,n2,n3,n4⟩:=S.obj
 obtain ⟨⟨vs,hoe,h1v⟩,_,_⟩:=I2.hok e _ he
 have KI:=I2.kIn
 have fresh:H2 s2.heap.objs.size=none:=I2.hok.fresh (AE _)
 have hq:=q s2.heap.objs.size fresh
 have ne:e≠s2.heap.objs.size:=AU (AJ hoe)
 have hn:s2.heap.Ns N (s2.heap.nsMap N):=.of_isNs (PySem.W.isNs_of_in KI hok)
 have m1:=PySem.W.nsMap_none_of_in KI hok n1
 have m4:=PySem.W.nsMap_none_of_in KI hok n4
 have hC:=KI _ _ hl
 have fin:∀ (h':Heap) (tk:Nat),h'.get? e=some { cls:=.ref C,dict:=some s2.heap.objs.size,data:=.fields vs }→h'.Ns1 s2.heap.objs.size (fun y'=>if y'=a then some u else none)→(∀ b ob,b≠e→s2.heap.get? b=some ob→h'.get? b=some ob) →
   Inv X pins σ (upd (upd H2 s2.heap.objs.size (.xd [(a,y)])) e (ExcD e C s2.heap.objs.size)) { s2 with heap:=h',toks:=tk }:=fun h' tk g1 g2 g3=>by
  have nd:∀ b v,H2 b=some v→b≠s2.heap.objs.size:=fun b v z w=>by
   rw [w,fresh] at z
   cases z
  have nx:∀ b v,H2 b=some v→(∀ ψ,v≠.ext ψ)→b≠e:=fun b v z nu w=>by
   rw [w,he] at z
   cases z
   exact nu _ rfl
  have n0:∀ b,H2 b=none→b≠e:=fun b z w=>by
   rw [w,he] at z
   cases z
  refine I2.un (Un.mk (fun b ob z n _ _=>g3 b ob (n0 b n) z) (fun b ob z n _ _=>⟨ob.slots,g3 b ob (n0 b n) z⟩) (fun b ob z n _=>?_) (fun b ob z _=>?_) (fun b xs z=>?_) (fun b ob v z=>?_) fun b ps z=>?_) fun b v z=>?_
  ·rw [upd_ne (n0 b n),upd_ne (AU (AJ z))]
   exact n
  ·by_cases hb:b=e
   ·subst hb
    exact ⟨_,g1⟩
   ·exact ⟨ob,g3 b ob hb z⟩
  ·rw [upd_ne (nx b _ z fun ψ w=>by cases w),upd_ne (nd b _ z)]
   exact z
  ·rw [upd_ne (nx b _ z fun ψ w=>by cases w),upd_ne (nd b _ z)]
   exact z
  ·exact ⟨#[],by rw [upd_ne (nx b _ z fun ψ w=>by cases w),upd_ne (nd b _ z),z]; simp⟩
  ·by_cases hb:b=e
   ·subst hb
    rw [upd_same] at z
    cases z
    exact ⟨⟨vs,g1,h1v⟩,⟨_,g1⟩,fun a1 a2 ⟨ws,w1,w2⟩ w=>⟨ws,w _ w1,w2⟩⟩
   ·rw [upd_ne hb] at z
    by_cases hb2:b=s2.heap.objs.size
    ·subst hb2
     rw [upd_same] at z
     cases z
     refine ⟨_,g2,fun f=>?_⟩
     by_cases hf:f=a
     ·subst hf
      show RelO (List.lookup f [(f,y)]) (if f=f then some u else none)
      rw [if_pos rfl,List.lookup_cons]
      simp only [beq_self_eq_true]
      exact ry
     ·show RelO (List.lookup f [(a,y)]) (if f=a then some u else none)
      rw [if_neg hf,List.lookup_cons,show (f == a)=false by simpa using hf]
      exact Ad
    ·rw [upd_ne hb2] at z
     refine (I2.hok b v z).stay (fun c w hc y'=>g3 c w ?_ y') (fun c w=>?_) fun c xs w=>?_
     ·rcases hc with rfl | hc
      ·exact hb
      ·exact nx c _ hc fun ψ w=>by cases w
     ·rw [upd_ne (nx c _ w fun ψ w=>by cases w),upd_ne (nd c _ w)]
      exact w
     ·rw [upd_ne (nx c _ w fun ψ w=>by cases w),upd_ne (nd c _ w)]
      exact w
 obtain ⟨hp,g,d,t,os⟩:=s2
 exact sav_exc (vs:=vs) hC hn m1 m4 S.lk hoe rfl rfl rfl fun h' tk g1 g2 g3=>⟨σ,_,fin h' tk g1 g2 g3,hq⟩
def tXfld (C:Addr) (a:Str) (ta:TE):TE:=fun σ H Q=>ta σ H fun x H1=>∃ e dx fs v,x=.ref e∧H1 e=some (ExcC e (.ref C) (some dx))∧e≠dx∧H1 dx=some (.xd fs)∧fs.lookup a=some v∧Q v H1
theorem pe_xfld (S:StopC X.K mg x C fI a) (ha:PE X o ta) (hb:attributeBase o a X.env (eval o X.env)=eval o X.env):PE X (.Attribute o a pos) (tXfld C a ta):=by
 intro pins s σ H Q I h
 refine attr_of hb (thn (ha pins s σ H _ I h) fun u s1 ⟨xv,H1,I1,rx,e,dx,fs,v,ex,he,ned,hdx,hl,q⟩=>?_)
 subst ex
 obtain rfl:u=AT e:=rx
 obtain ⟨nm,qn,N,bs,sn,sub,ab,col,dd,k0,k1,k2,k3,k5,hlC,hok,hi,n1,n2,n3,n4⟩:=S.obj
 obtain ⟨⟨oe,vs,hoe,hcl,hde,hdt⟩,_,_⟩:=I1.hok e _ he
 obtain ⟨mA,hns,rel⟩:=I1.hok dx _ hdx
 have ra:=rel a
 rw [hl] at ra
 obtain ⟨uv,huv,rv⟩:=RelO.some_of ra
 have KI:=I1.kIn
 have hn:s1.heap.Ns N (s1.heap.nsMap N):=.of_isNs (PySem.W.isNs_of_in KI hok)
 have m2:=PySem.W.nsMap_none_of_in KI hok n2
 have m3:=PySem.W.nsMap_none_of_in KI hok n3
 have m4:=PySem.W.nsMap_none_of_in KI hok n4
 have hC:=KI _ _ hlC
 have inst:s1.heap.Inst e C mA:=⟨oe,hoe,hcl,(fun c z=>by rw [hdt] at z; cases z),.inr ⟨dx,hde,Ne.symm ned,hns⟩⟩
 have fin:EP X pins σ Q uv { s1 with toks:=s1.toks + 1 }:=⟨v,H1,I1.tok _,rv,q⟩
 obtain ⟨hp,g,d,t,os⟩:=s1
 exact load_exc hC hn m2 m3 m4 S.lk inst huv (PySem.W.handedOut_of (handed_of rv)) fin
end
section
variable {M:Model} {A:Around} {E:Value→Shared→Prop} {env:Env}
variable {nm q:Str} {C N:Addr} {bs bm:List Value} {hdct:Bool} {sn:List Str} {sub:List Value} {ab:Bool} {col:Option Bool} {dd:Option Addr} {k0 k1 k2 k3 k5:Option Value} {newId:String}
theorem raise_x {s:Shared} {x:Sem Value} {Q:Flow→Shared→Prop} (hbase:bm.contains (.type "BaseException")=true) (hh:A.handled=none)
  (h:wpAny M A x (fun v s1=>∃ e oe,v=.ref e∧s1.heap.get? C=some (excClassObj nm q C N bs bm hdct sn sub ab col dd k0 k1 k2 k3 k5 newId)∧s1.heap.get? e=some oe∧oe.cls=.ref C∧(∃ vs,oe.data=.fields vs∧vs[1]?=some .none)∧E (.ref e) s1) E s) :
  wpAny M A (raiseStmt env (some x) none) Q E s:=by
 have hcB:(AT C :: bm).contains (.type "BaseException")=true:=by rw [List.contains_cons,hbase,Bool.or_true]
 unfold raiseStmt
 refine AB (thn h fun v s1 h1=>?_)
 obtain ⟨e,oe,rfl,hC,he,hcl,⟨vs,hdt,h1v⟩,hE⟩:=h1
 obtain ⟨hp,g,d,tk,os⟩:=s1
 repeat (first | (with_reducible refine BJ he ?_; first | rw [hcl] | rw [hdt]) | with_reducible refine BJ hC ?_ | (with_reducible refine wpAny_isSubtype_exc hC ?_; rw [hcB]) | wp_step)
 rw [hdt]
 refine AG ?_
 rw [h1v]
 refine AG ?_
 rw [if_neg (by decide)]
 exact AG (wpAny_raiseNew_none hh hE)
end
def Flies (X:Cx) (E:XK):Prop:=∀ (pins:List (Addr×Obj)) (σ:St) (H:Hp) (s:Shared) (e:Addr) (oe:Obj) (vs:Array Value),Inv X pins σ H s→s.heap.get? e=some oe→oe.data=.fields vs→vs[1]?=some .none→X.s₀.heap.get? e=none→H e=none→E oe.cls oe.dict H→X.xe (.ref e) s
section
variable {P:Program} {w:World} {K:PySem.W.Frag} {mg:Str→Option Value} {base:Heap} {N:List Str} {qual:Str} {scope:Scope} {f:Addr} {cd:Value} {A:Around} {outer:List Env} {s₀:Shared} {H₀:Hp} {E:XK}
theorem flies1:Flies (cx1 P w K mg base N qual scope f cd A outer s₀ H₀ E) E:=fun pins σ H s e oe vs I he hd h1 hn hH q=>xe_made I he hd h1 hn hH q
end
section
variable {X:Cx} {x a:Str} {C fI:Addr} {np cpos pos:Pos} {E:XK} {e₀:Expr} {rest:List Expr} {t:TA} {k:Nat} {fd:FuncData} {ps:List Str} {sp:Sp}
def tRaiseI (C:Addr) (sp:Sp) (E:XK) (t:TA):TS:=fun _ σ H=>t σ H fun vs H1=>vs.length≤AR∧∀ e,H1 e=none→sp (.ref e :: vs) (upd H1 e (ExcN e C)) (fun v H2=>v=.non∧∃ dx,H2 e=some (ExcD e C dx)∧E (.ref C) (some dx) (drop H2 e)) E0
theorem ps_raiseI (S:StopC X.K X.mg x C fI a) (hg:Gl X x) (hc:X.calm=true) (hex:X.ex=[]) (hx:Flies X E) (F:FnOk X.prog X.w X.K X.mg X.base (CX1 X.prog X.w) k fI fd ps sp) (hr:Room (k + 1) X.A) (hb:Binds X.K fd ps []) (ha:PA X (e₀ :: rest) t)
  (he:Ak (e₀ :: rest) X.env=(false,eval e₀ X.env) :: Ak rest X.env:=by rfl) (hpl:(backTo cpos (Ak rest X.env)).any (·.1)=false:=by rfl) (hd:(x == ("__debug__":Str))=false:=by decide) :
  PS X (.Raise (some (.Call (.Name x np) (e₀ :: rest) [] cpos)) none pos) (tRaiseI C sp E t):=by
 intro pins s σ H D I h
 obtain ⟨nm,qn,N,bs,sn,sub,ab,col,dd,k0,k1,k2,k3,k5,hlC,hok,hi,n1,n2,n3,n4⟩:=S.obj
 have hplain:(backTo cpos (Ak (e₀ :: rest) X.env)).any (·.1)=false:=by rw [he]; exact hpl
 rw [arm_exec_Raise]
 refine AB (wpAny_standAt (raise_x (C:=C) (nm:=nm) (q:=qn) (N:=N) (bs:=bs) (bm:=bmE) (hdct:=true) (sn:=sn) (sub:=sub) (ab:=ab) (col:=col) (dd:=dd) (k0:=k0) (k1:=k1) (k2:=k2) (k3:=k3) (k5:=k5) (newId:="Exception.__new__") (by decide) (I.ok.hd hc) ?_))
 refine AB (thn (wpAny_Call_ofName (ld_glob I hg S.bound ?_ hd)) fun v s3 h3=>AB (wpAny_standAt (AG h3)))
 unfold callWith
 have hp:=ha cpos pins s σ H _ I h
 rw [he] at hp ⊢
 refine AB (BE (Calls.evalArgs_plain (thn hp fun us s2 ⟨vs,H1,I1,r1,z,hE⟩=>AB (wpAny_standAt ?_))))
 have KI:=I1.kIn
 have hC:=KI _ _ hlC
 have hn:s2.heap.Ns N (s2.heap.nsMap N):=.of_isNs (PySem.W.isNs_of_in KI hok)
 have mi:=ns_some_of KI hn hi
 obtain ⟨oI,hoI,hfc⟩:=Option.map_eq_some_iff.mp S.fn
 have hzu:us.length≤AR:=by rw [← r1.length]; exact z
 have hfold:(backTo cpos ((false,eval e₀ X.env) :: Ak rest X.env)).any (·.1)=false:=by rw [he] at hplain; exact hplain
 have main:∀ h' e,Heap.MadeExcOf s2.heap h' e (.ref C) us→wpAny (model X.prog X.w) (X.A.under (.builtin "type.__call__" ⟨.ref C :: us,[]⟩)) (call (.ref fI) (.ref e :: us))
   (fun r s'=>r=.none∧∃ e' oe,AT e=.ref e'∧s'.heap.get? C=some (excClassObj nm qn C N bs bmE true sn sub ab col dd k0 k1 k2 k3 k5 "Exception.__new__")∧s'.heap.get? e'=some oe∧oe.cls=.ref C∧(∃ vs,oe.data=.fields vs∧vs[1]?=some .none)∧X.xe (.ref e') s') X.xe { s2 with heap:=h' }:=fun h' e Md=>by
  obtain ⟨tt,he',_,_⟩:=Md.there
  have I2:Inv X pins σ H1 { s2 with heap:=h' }:=I1.kept (t':=s2.toks) Md.keeps
  have ap:=I1.apart hex Md.new
  have hHe:H1 e=none:=I1.hok.new Md.new
  have I3:Inv X pins σ (upd H1 e (ExcN e C)) { s2 with heap:=h' }:=I2.track ap hHe ⟨_,he'⟩ ⟨_,he',rfl⟩ fun g1 g2 ⟨ws,w1,w2⟩ w=>⟨ws,w _ w1,w2⟩
  have hq:=hE e hHe
  have r2:Vals (V.ref e :: vs) (AT e :: us):=.cons rfl r1
  have hl:(AT e :: us++[]).length=ps.length:=by
   have l1:=r2.length
   rw [F.len _ _ _ _ hq] at l1
   simpa using l1.symm
  have hbb:=hb { s2 with heap:=h' } (AT e :: us) I3.kIn hl
  rw [A2] at hbb
  refine wpAny_call (codeAny_mono (F.run _ X.stack _ _ ⟨AT e :: us,[]⟩ (AT e :: us) _ _ E0 (hr.make C us []) (I3.env0.make C us []) hbb r2 hq) fun r s' hq'=>?_)
  cases r with
  | error ev =>
   obtain ⟨_,_,_,_,_,_,_,_,_,_,_,_,_,_,_,ff⟩:=hq'
   exact ff.elim
  | ok fl =>
   cases fl with
   | ret u =>
    obtain ⟨v,H',I4,rv,ev,dx,hD,hE'⟩:=I3.after hq'
    subst ev
    obtain ⟨⟨ws,w1,w2⟩,_,_⟩:=I4.hok e _ hD
    refine ⟨rv,e,_,rfl,I4.kIn _ _ hlC,w1,rfl,⟨_,rfl,w2⟩,?_⟩
    exact hx pins σ (drop H' e) s' e _ ws (I4.untrack hD) w1 rfl w2 ap.old drop_same hE'
   | next=>exact BF hq'
   | brk=>exact BF hq'
   | cont=>exact BF hq'
 obtain ⟨hp2,g,d,tk,os⟩:=s2
 simp only [hfold]
 refine AB (wpAny_keeperOf_exc hC ?_)
 refine AB (wpAny_call_exc_init (hrest:=hzu) PySem.F.excBase_Exception hC hn mi (KI _ _ hoI) hfc fun h' e Md=>?_)
 refine thn (main h' e Md) fun r s' ⟨e1,e2⟩=>⟨e1,AB (BE (wpAny_point (AG e2)))⟩
end
theorem list_keys_miss:typeLookup (.type "list") "keys"=pure none:=by rw [typeLookup_type,builtinLookup_eq_fast]; kernel_rfl
theorem entry_uloop:entryFor table "dict.update.loop"=some Builtin.«dict.update.loop»:=entryFor_of_tree (by kernel_rfl)
theorem no_keys {prog:Program} {w:World} {A:Around} {E:Value→Shared→Prop} {s:Shared} {a:Addr} {xs:Array Value} {k:Nat} {sl:Array (Option Value)} {Q:Option Value→Shared→Prop}
  (hx:s.heap.get? a=some { cls:=.type "list",dict:=none,data:=.seq xs k,slots:=sl }) (hA:A.handled=none)
  (h:∀ h' tk,(∀ b o,s.heap.get? b=some o→h'.get? b=some o)→Q none { s with heap:=h',toks:=tk }):wpAny (model prog w) A (getAttr? (.ref a) "keys") Q E s:=by
 obtain ⟨hp,g,d,tk,os⟩:=s
 have hT:∀ tk',(⟨hp,g,d,tk',os⟩:Shared).TypeIs (.ref a) "list":=fun _=>⟨_,hx,rfl⟩
 have f1:=sub_AttributeError
 have f3:=PySem.F.slot_list_getattribute.lookup
 have f4:=PySem.F.slot_list_getattribute.bind (.ref a)
 have f5:=am_list_getattr_none
 unfold getAttr? getAttrBy? getAttrBy
 repeat (any_goals (first | assumption | exact hT _ | ((with_reducible show wpAny _ _ (call (Value.builtin "list.__getattribute__") _ _) _ _ _); refine call_meets PySem.F.slot_list_getattribute (hT _) am_entry_list_getattribute (PySem.F.args_list_getattribute_2 _ _) (meets_getattribute_miss_list a xs k sl "keys" _ list_keys_miss (by decide)) ⟨hx,hA,fun h' tk' e hx'=>?_⟩) | wp_step))
 obtain ⟨t',u',he⟩:=hx'.there
 show wpAny _ _ (getattributeRaised _ _ _ _ _ _ _) _ _ _
 unfold getattributeRaised
 repeat (any_goals (first | assumption | wp_step))
 exact h _ _ hx'.of.keeps
section
variable {prog:Program} {w:World} {K:Type} [DecidableEq K] {knd:KeyKind prog w K} {A:Around}
def putAll (kvs:List (K×Value)):List (K×Value)→List (K×Value)
 | []=>kvs
 | p :: r=>putAll (stored kvs p.1 p.2) r
theorem len_stored (kvs:List (K×Value)) (k:K) (v:Value):(stored kvs k v).length≤kvs.length + 1:=by
 unfold stored
 split
 ·rw [AA]; omega
 ·rw [AN,List.length_singleton]; omega
theorem upd_loop {l it d:Addr} (hA:A.handled=none) (hA1:A.in1.handled=none):∀ (ps:List (K×Value)) (i:Nat) (s:Shared) (t:Tok) (kvs:List (K×Value)) (items:Array Value) (R:Result→Shared→Prop),s.heap.IsListIter it l i→s.heap.IsList l items→it≠d→l≠d→l≠it →
  items.size=i + ps.length→(∀ (j:Nat) (p:K×Value),ps[j]?=some p→∃ (b:Addr) (key:Value),items[i + j]?=some (.ref b)∧b≠d∧b≠it∧knd.is p.1 key=true∧∃ n sl dd,s.heap.get? b=some { cls:=.type "tuple",dict:=dd,data:=.seq #[key,p.2] n,slots:=sl }) →
  s.heap.DictOf knd d kvs→kvs.length + ps.length≤AR →
  (∀ h' tk,h'.DictOf knd d (putAll kvs ps)→(∀ b o,b≠d→b≠it→s.heap.get? b=some o→h'.get? b=some o)→R (.ok (.ret .none)) { s with heap:=h',toks:=tk }) →
  codeAny (model prog w) A (.builtin "dict.update.loop" ⟨[.ref d,.ref it,.int i t,.none],[]⟩) R s
 | [],i,s,t,kvs,items,R,hit,hl,n1,n2,n3,hsz,hp,hd,hz,hR=>by
  refine codeAny_builtin entry_uloop ?_
  unfold Builtin.«dict.update.loop»
  dsimp only
  refine AB (wpAny_pyNext_list_end hA hit hl (Array.getElem?_eq_none (by rw [hsz]; simp)) fun h' eb=>?_)
  show wpAny _ _ (Builtin.Dict.addKeywords d [] >>= _) _ _ _
  refine AB (AG (AG ?_))
  exact hR h' s.toks (let ⟨o,es,ep,ho,r⟩:=hd; ⟨o,es,ep,eb d o (Ne.symm n1) ho,r⟩) fun b o _ h2 e=>eb b o h2 e
 | p :: ps,i,s,t,kvs,items,R,hit,hl,n1,n2,n3,hsz,hp,hd,hz,hR=>by
  obtain ⟨b,key,hi,b1,b2,hk,n,sl,dd,hb⟩:=hp 0 p rfl
  refine codeAny_builtin entry_uloop ?_
  unfold Builtin.«dict.update.loop»
  dsimp only
  refine AB (wpAny_pyNext_list_item hit hl (x:=.ref b) hi fun h' hit' hs=>?_)
  dsimp only
  have hb':h'.get? b=some { cls:=.type "tuple",dict:=dd,data:=.seq #[key,p.2] n,slots:=sl }:=(hs.2 b b2).trans hb
  refine AB (BE (AB ?_))
  have hT:({ s with heap:=h' }:Shared).TypeIs (.ref b) "tuple":=⟨_,hb',rfl⟩
  refine wpAny_tryCatch (AB (wpAny_typeOf hT ?_))
  rw [if_pos (by decide)]
  refine AB (AB (wpAny_load hb' (AG ?_)))
  refine AG ?_
  show wpAny _ _ (holding [key,p.2] (dictSet d key p.2)) _ _ _
  have hd':h'.DictOf knd d kvs:=let ⟨o,es,ep,ho,r⟩:=hd; ⟨o,es,ep,(hs.2 d (Ne.symm n1)).trans ho,r⟩
  refine BE (wpAny_dictSet_pairs (s:={ s with heap:=h' }) hk hd' (fun h2 hd2 hs2=>?_) (by rw [AS] at hz; omega))
  refine AG ⟨Code.quiet_builtin _ (by decide +kernel),?_⟩
  have keep:∀ c o,c≠d→c≠it→s.heap.get? c=some o→h2.get? c=some o:=fun c o c1 c2 e=>(hs2.2 c c1).trans ((hs.2 c c2).trans e)
  have ls:=len_stored kvs p.1 p.2
  refine upd_loop hA hA1 ps (i + 1) { s with heap:=h2,toks:=s.toks + 1 } _ (stored kvs p.1 p.2) items R ?_ ?_ n1 n2 n3 (by rw [hsz,AS]; omega) (fun j q e=>?_) hd2 (by rw [AS] at hz; omega) fun h3 tk hd3 k3=>hR h3 tk hd3 fun c o c1 c2 e=>k3 c o c1 c2 (keep c o c1 c2 e)
  ·exact hit'.at fun o e=>(hs2.2 it n1).trans e
  ·obtain ⟨o,ho,r⟩:=hl
   exact ⟨o,keep l o n2 n3 ho,r⟩
  ·obtain ⟨b',key',x1,x2,x3,x4,n',sl',dd',x5⟩:=hp (j + 1) q (by simpa using e)
   exact ⟨b',key',by rw [show i + 1 + j=i + (j + 1) by omega]; exact x1,x2,x3,x4,n',sl',dd',keep b' _ x2 x3 x5⟩
theorem call_dict_pairs {E:Value→Shared→Prop} {s:Shared} {l:Addr} {items:Array Value} {n:Nat} {sl:Array (Option Value)} {Q:Value→Shared→Prop} (hA:A.handled=none) (ps:List (K×Value)) (hl:s.heap.get? l=some { cls:=.type "list",dict:=none,data:=.seq items n,slots:=sl })
  (hsz:items.size=ps.length) (hp:∀ (j:Nat) (p:K×Value),ps[j]?=some p→∃ (b:Addr) (key:Value),items[j]?=some (.ref b)∧knd.is p.1 key=true∧∃ n sl dd,s.heap.get? b=some { cls:=.type "tuple",dict:=dd,data:=.seq #[key,p.2] n,slots:=sl })
  (hz:ps.length≤AR)
  (h:∀ h' tk d,s.heap.objs.size≤d→h'.DictOf knd d (putAll [] ps)→(∀ b o,s.heap.get? b=some o→h'.get? b=some o)→Q (.ref d) { s with heap:=h',toks:=tk }):wpAny (model prog w) A (call (.type "dict") [.ref l]) Q E s:=by
 refine callType_codes (Q₁:=fun obj s₁=>obj=.ref s.heap.objs.size∧s₁={ s with heap:=s.heap.push { cls:=.type "dict",data:=.dict #[] } }) PySem.F.kt_called_dict (PySem.F.kt_typeCall_dict_1 _) PySem.F.entry_dict_init (kt_code_dict_new _ ⟨rfl,rfl⟩) ?_
 rintro obj s₁ ⟨rfl,rfl⟩
 have hnew:(s.heap.push { cls:=.type "dict",data:=.dict #[] }).DictOf knd s.heap.objs.size []:=Heap.DictOf.new s.heap
 have hl1:=AC { cls:=.type "dict",data:=.dict #[] } hl
 refine ⟨hnew.typeIs,PySem.F.args_dict_init_2 _ _,?_⟩
 unfold Builtin.«dict.__init__»
 refine AB ?_
 unfold Builtin.Dict.selfAndRest
 refine AB (wpAny_notOrdered_dict hnew.typeIs ?_)
 show wpAny _ _ (pure (s.heap.objs.size,[AT l])) _ _ _
 refine AG ?_
 show wpAny _ _ (Builtin.Dict.updateFrom "dict.__init__" s.heap.objs.size (.ref l) [] .none) _ _ _
 unfold Builtin.Dict.updateFrom
 refine AB (wpAny_typeOf (T:="list") ⟨_,hl1,rfl⟩ ?_)
 rw [if_pos (by decide)]
 refine AB (no_keys hl1 hA fun h' tk kp=>?_)
 rw [if_pos (by decide)]
 refine AB (wpAny_rule (AB ?_))
 have hl2:h'.IsList l items:=⟨_,kp _ _ hl1,rfl,n,rfl⟩
 refine wpAny_pyIter_list hl2 ?_
 refine AG ⟨Code.quiet_builtin _ (by decide +kernel),?_⟩
 have dlt:s.heap.objs.size < h'.objs.size:=by
  obtain ⟨o,_,_,ho,_⟩:=hnew
  exact AJ (kp _ _ ho)
 have up:∀ b o,s.heap.get? b=some o→(h'.push { cls:=.type "list_iterator",data:=.fields #[.ref l,.int 0 0] }).get? b=some o:=fun b o e=>AC _ (kp _ _ (AC _ e))
 have ne:∀ b o,s.heap.get? b=some o→b≠s.heap.objs.size∧b≠h'.objs.size:=fun b o e=>⟨AU (AJ e),AU (Nat.lt_trans (AJ e) dlt)⟩
 refine upd_loop (knd:=knd) (l:=l) (it:=h'.objs.size) (d:=s.heap.objs.size) (A:=A.in1) hA hA ps 0 { s with heap:=h'.push { cls:=.type "list_iterator",data:=.fields #[.ref l,.int 0 0] },toks:=tk } _ [] items _ ?_ ?_ (Nat.ne_of_gt dlt) (ne l _ hl).1 (ne l _ hl).2 (by rw [hsz]; simp) (fun j p e=>?_) ?_ (by simpa using hz) fun h3 tk3 hd3 k3=>?_
 ·exact ⟨_,Ah _ rfl,rfl,rfl⟩
 ·exact ⟨_,up _ _ hl,rfl,n,rfl⟩
 ·obtain ⟨b,key,x1,x2,n',sl',dd',x3⟩:=hp j p e
  exact ⟨b,key,by rw [Nat.zero_add]; exact x1,(ne b _ x3).1,(ne b _ x3).2,x2,n',sl',dd',up _ _ x3⟩
 ·obtain ⟨o,es,ep,ho,r⟩:=hnew
  exact ⟨o,es,ep,AC _ (kp _ _ ho),r⟩
 ·exact ⟨rfl,h h3 tk3 _ (AE _) hd3 fun b o e=>k3 b o (ne b o e).1 (ne b o e).2 (up b o e)⟩
end
def putAllK (kvs:List (Key×V)):List (Key×V)→List (Key×V)
 | []=>kvs
 | p :: r=>putAllK (putK kvs p.1 p.2) r
theorem KV.putAll:∀ {ps:List (Key×V)} {qs:List (Key×Value)} {kvs:List (Key×V)} {vs:List (Key×Value)},KV ps qs→KV kvs vs→KV (putAllK kvs ps) (L2.putAll vs qs)
 | _,_,_,_,.nil,r=>r
 | _,_,_,_,.cons h t,r=>by
  rw [putAllK,L2.putAll,← h.1]
  exact KV.putAll t (r.put _ h.2)
theorem len_putAllK:∀ (ps kvs:List (Key×V)),(putAllK kvs ps).length≤kvs.length + ps.length
 | [],kvs=>by simp [putAllK]
 | p :: r,kvs=>by
  have h1:=len_putAllK r (putK kvs p.1 p.2)
  have h2:=length_putK kvs p.1 p.2
  rw [putAllK,AS]
  omega
section
variable {X:Cx}
def rDictL (xs:List V) (H:Hp) (Q:VK):Prop:=∃ (l:Addr) (ts:List (Addr×Key×V)),xs=[.ref l]∧H l=some (.lst (ts.map fun t=>.ref t.1))∧(∀ t∈ts,H t.1=some (.tup [kV t.2.1,t.2.2]))∧∀ d,H d=none→Q (.ref d) (upd H d (.dK (putAllK [] (ts.map (·.2)))))
theorem kV_key {k:Key} {v:Value} (r:RelV (kV k) v):keyIs k v=true:=by
 cases k with
 | inl i=>obtain ⟨t,rfl⟩:=r; exact keyIs_int i t
 | inr x=>obtain ⟨t,rfl⟩:=r; exact keyIs_str x t
theorem call_dict_l (hc:X.calm=true):CallR X (.type "dict") rDictL:=by
 intro pins s σ H xs us Q I r h
 obtain ⟨l,ts,rfl,hl,ht,q⟩:=h
 obtain ⟨u,rfl,ru⟩:=vals1 r
 cases ru
 obtain ⟨z,its,n,rv,e⟩:=I.hok l _ hl
 have hlen:its.length=ts.length:=by rw [← rv.length,AA]
 have get:∀ (j:Nat) (t:Addr×Key×V),ts[j]?=some t→its[j]?=some (.ref t.1)∧∃ key val,RelV (kV t.2.1) key∧RelV t.2.2 val∧∃ n sl dd,s.heap.get? t.1=some { cls:=.type "tuple",dict:=dd,data:=.seq #[key,val] n,slots:=sl }:=fun j t ej=>by
  obtain ⟨w,hw,rw'⟩:=rv.get (i:=j) (x:=.ref t.1) (by rw [AH,ej]; rfl)
  cases rw'
  refine ⟨hw,?_⟩
  obtain ⟨z2,its2,r2,o2,h2,c2,n2,d2⟩:=I.hok t.1 _ (ht t (Al ej))
  obtain ⟨a1,a2,e2,ra1,ra2⟩:∃ a1 a2,its2=[a1,a2]∧RelV (kV t.2.1) a1∧RelV t.2.2 a2:=by
   cases r2 with
   | cons p1 q1 =>
    cases q1 with
    | cons p2 q2 =>
     cases q2
     exact ⟨_,_,rfl,p1,p2⟩
  subst e2
  obtain ⟨oc,od,odt,osl⟩:=o2
  dsimp only at c2 d2
  subst c2 d2
  exact ⟨a1,a2,ra1,ra2,n2,osl,od,h2⟩
 obtain ⟨qs,hqs,hq2⟩:∃ qs:List (Key×Value),KV (ts.map (·.2)) qs∧∀ (j:Nat) (p:Key×Value),qs[j]?=some p→∃ (b:Addr) (key:Value),its.toArray[j]?=some (.ref b)∧(mixKind X.prog X.w).is p.1 key=true∧∃ n sl dd,s.heap.get? b=some { cls:=.type "tuple",dict:=dd,data:=.seq #[key,p.2] n,slots:=sl }:=by
  have gen:∀ (k:Nat) (ts:List (Addr×Key×V)),(∀ (j:Nat) (t:Addr×Key×V),ts[j]?=some t→its[k + j]?=some (.ref t.1)∧∃ key val,RelV (kV t.2.1) key∧RelV t.2.2 val∧∃ n sl dd,s.heap.get? t.1=some { cls:=.type "tuple",dict:=dd,data:=.seq #[key,val] n,slots:=sl }) →
    ∃ qs:List (Key×Value),KV (ts.map (·.2)) qs∧∀ (j:Nat) (p:Key×Value),qs[j]?=some p→∃ (b:Addr) (key:Value),its.toArray[k + j]?=some (.ref b)∧(mixKind X.prog X.w).is p.1 key=true∧∃ n sl dd,s.heap.get? b=some { cls:=.type "tuple",dict:=dd,data:=.seq #[key,p.2] n,slots:=sl }:=by
   intro k ts
   induction ts generalizing k with
   | nil=>intro _; exact ⟨[],.nil,fun j p e=>by simp at e⟩
   | cons t r ih =>
    intro hh
    obtain ⟨h1,key,val,r1,r2,n',sl',dd',h2⟩:=hh 0 t rfl
    obtain ⟨qs,a1,a2⟩:=ih (k + 1) fun j t' e=>by
     have z:=hh (j + 1) t' (by simpa using e)
     rw [show k + (j + 1)=k + 1 + j by omega] at z
     exact z
    refine ⟨(t.2.1,val) :: qs,.cons ⟨rfl,r2⟩ a1,fun j p e=>?_⟩
    cases j with
    | zero =>
     simp at e
     subst e
     exact ⟨t.1,key,by simpa using h1,kV_key r1,n',sl',dd',h2⟩
    | succ j =>
     obtain ⟨b,key',z⟩:=a2 j p (by simpa using e)
     rw [show k + 1 + j=k + (j + 1) by omega] at z
     exact ⟨b,key',z⟩
  obtain ⟨qs,a1,a2⟩:=gen 0 ts fun j t e=>by rw [Nat.zero_add]; exact get j t e
  exact ⟨qs,a1,fun j p e=>by have z:=a2 j p e; rw [Nat.zero_add] at z; exact z⟩
 have hql:qs.length=ts.length:=by have z:=Paired.length hqs; rw [AA] at z; exact z.symm
 have zt:ts.length≤AR:=by rw [AA] at z; exact z
 refine call_dict_pairs (knd:=mixKind X.prog X.w) (I.ok.hd hc) qs e (by rw [AQ,hlen,hql]) hq2 (by rw [hql]; exact zt) fun h' tk d hd dd k=>?_
 have hf:H d=none:=I.hok.fresh hd
 refine ⟨.ref d,upd H d (.dK (putAllK [] (ts.map (·.2)))),I.laid (t':=tk) k hd (dk_new ?_ (beq_eq_false_iff_ne.mpr (Nat.ne_of_gt (AX I.big hd))) (KV.putAll hqs .nil) dd),rfl,q d hf⟩
 have z:=len_putAllK (ts.map (·.2)) []
 rw [AA,List.length_nil] at z
 omega
def DkK (P:Program) (w:World) (K:PySem.W.Frag) (a:Addr) (kvs:List (Key×V)):Prop:=(a == sysModules)=false∧kvs.length≤AR∧∃ vs,KV kvs vs∧∀ h:Heap,K.In h→h.DictOf (mixKind P w) a vs
def rDictD (P:Program) (w:World) (K:PySem.W.Frag) (xs:List V) (H:Hp) (Q:VK):Prop:=∃ a kvs,xs=[.ref a]∧(Rd H a (.dK kvs)∨DkK P w K a kvs)∧∀ d,H d=none→Q (.ref d) (upd H d (.dK kvs))
theorem call_dict_d:CallR X (.type "dict") (rDictD X.prog X.w X.K):=by
 intro pins s σ H xs us Q I r h
 obtain ⟨a,kvs,rfl,ha,q⟩:=h
 obtain ⟨u,rfl,ru⟩:=vals1 r
 cases ru
 rcases ha with ha | ⟨hS,hz,vs,rel,hd⟩
 ·exact d_copyOf I ha fun p s' hp I'=>⟨.ref p,_,I',rfl,q p hp⟩
 ·refine kt_call_dict hS (hd _ I.kIn) (by rw [← Paired.length rel]; exact hz) fun h' dd' hs=>?_
  have hf:=I.hok.fresh (AE s.heap.objs.size)
  refine ⟨.ref s.heap.objs.size,upd H s.heap.objs.size (.dK kvs),I.laid (t':=s.toks) (fun b o e=>(hs.2 b (AU (AJ e))).trans (AC _ e)) (AE _) (dk_new hz (beq_eq_false_iff_ne.mpr (Ne.symm (AU I.big))) rel dd'),rfl,q _ hf⟩
def CDiv64 (i j:Int):Prop:=0 < j∧j < 2 ^ 64
theorem op_fdiv64:OpR X (binaryOp .FloorDiv) (rI CDiv64 fun i j=>.int (i / j)):=opI fun i j _ _ s Q E hc q=>by
 have e:i.fdiv j=i / j:=Int.fdiv_eq_ediv_of_nonneg i (Int.le_of_lt hc.1)
 refine floordiv_int (by have:=hc.1; omega) (by rw [e]; exact q) (.inl (PyProof.noPylong_of_log2 ?_))
 have h1:j.natAbs < 2 ^ 64:=by have:=hc.2; have:=hc.1; omega
 have h2:j.natAbs.log2 < 64:=(Nat.log2_lt (by have:=hc.1; omega)).mpr h1
 omega
end
mutual
inductive Rp (K:PySem.W.Frag) (H:Hp):V→PyData→Prop
 | non:Rp K H .non .none
 | bl (b:Bool):Rp K H (.bl b) (.bool b)
 | int (i:Int):Rp K H (.int i) (.int i)
 | str (x:Str):Rp K H (.str x) (.str x)
 | tup {a:Addr} {xs:List V} {ds:List PyData}:SqT K H a xs→Rps K H xs ds→Rp K H (.ref a) (.tuple ds)
 | lst {a:Addr} {xs:List V} {ds:List PyData}:SqL K H a xs→Rps K H xs ds→Rp K H (.ref a) (.list ds)
inductive Rps (K:PySem.W.Frag) (H:Hp):List V→List PyData→Prop
 | nil:Rps K H [] []
 | cons {x:V} {d:PyData} {xs:List V} {ds:List PyData}:Rp K H x d→Rps K H xs ds→Rps K H (x :: xs) (d :: ds)
end
theorem Same.sqT {K:PySem.W.Frag} {H H':Hp} {a:Addr} {xs:List V} (e:Same H H') (h:SqT K H a xs):SqT K H' a xs:=by
 rcases h with (h | ⟨o,h⟩) | h
 ·exact .inl (.inl (e _ _ h))
 ·exact .inl (.inr ⟨o,e _ _ h⟩)
 ·exact .inr h
theorem Rp.same {K:PySem.W.Frag} {H H':Hp} (s:Same H H') {v:V} {d:PyData} (h:Rp K H v d):Rp K H' v d :=
 Rp.rec (motive_1:=fun v d _=>Rp K H' v d) (motive_2:=fun v d _=>Rps K H' v d) .non .bl .int .str (fun h _ r=>.tup (s.sqT h) r) (fun h _ r=>.lst (s.seq h) r) .nil (fun _ _ a b=>.cons a b) h
section
variable {X:Cx} {pins:List (Addr×Obj)} {σ:St} {H:Hp} {s:Shared}
theorem Rp.reads (I:Inv X pins σ H s) {v:V} {d:PyData} {u:Value} (h:Rp X.K H v d) (r:RelV v u):∃ as,Reads s.heap u d as:=by
 refine Rp.rec (motive_1:=fun v d _=>∀ u,RelV v u→∃ as,Reads s.heap u d as) (motive_2:=fun v d _=>∀ u,Vals v u→∃ as,ReadsAll s.heap u d as) ?_ ?_ ?_ ?_ ?_ ?_ ?_ ?_ h u r
 ·intro u r; cases (show _=BD from r); exact ⟨_,Reads.none⟩
 ·intro b u r; cases (show _=Value.bool b from r); exact ⟨_,Reads.bool b⟩
 ·intro i u r; obtain ⟨t,rfl⟩:=r; exact ⟨_,Reads.int i t⟩
 ·intro x u r; obtain ⟨t,rfl⟩:=r; exact ⟨_,Reads.str x t⟩
 ·intro a xs ds h q ih u r
  cases (show _=AT _ from r)
  obtain ⟨its,rv,⟨o,e,c,n,d⟩,_⟩:=I.tuple h
  obtain ⟨as,z⟩:=ih _ rv
  exact ⟨as,reads_tuple_at e c d (by simpa using z)⟩
 ·intro a xs ds h q ih u r
  cases (show _=AT _ from r)
  obtain ⟨its,rv,⟨o,n,e,c,_,d⟩,_⟩:=I.list h
  obtain ⟨as,z⟩:=ih _ rv
  exact ⟨_,reads_list_at e c d (by simpa using z)⟩
 ·intro u r; cases r; exact ⟨_,ReadsAll.nil⟩
 ·intro x d xs ds h q i1 i2 u r
  cases r with
  | cons r t =>
   obtain ⟨as,a⟩:=i1 _ r
   obtain ⟨bs,b⟩:=i2 _ t
   exact ⟨_,ReadsAll.cons a b⟩
def rEqD (K:PySem.W.Frag) (neg:Bool):R2:=fun x y H Q=>∃ d e,Rp K H x d∧Rp K H y e∧SeqAt.shaped d=true∧SeqAt.shaped e=true∧Q (.bl (if neg then !PyData.eqv d e else PyData.eqv d e)) H
theorem op_neD (hu:X.A.units + 64 < cLine):OpR X (compareOp .NotEq) (rEqD X.K true):=by
 intro pins s σ H x y v u Q I rx ry h
 obtain ⟨d,e,hd,he,sd,se,q⟩:=h
 obtain ⟨as,ra⟩:=hd.reads I rx
 obtain ⟨bs,rb⟩:=he.reads I ry
 exact ne_dataH ra rb sd se hu ⟨.bl _,H,I,rfl,q⟩
end
structure Fn (P:Program) (w:World) (K:PySem.W.Frag) (mg:Str→Option Value) (base:Heap) (x:Str) (k:Nat) (ps:List Str) (sp:Sp):Prop where
 ex:∃ f fd,FnOk P w K mg base (CX1 P w) k f fd ps sp∧mg x=some (.ref f)∧Av K (.ref f)=true∧Binds K fd ps []
structure Mt (P:Program) (w:World) (K:PySem.W.Frag) (mg:Str→Option Value) (base:Heap) (C:Addr) (m:Str) (k:Nat) (ps:List Str) (sp:Sp):Prop where
 ex:∃ f fd,FnOk P w K mg base (CX1 P w) k f fd ps sp∧Meth K C m f∧Cls K C∧Binds K fd ps []
structure Mc (P:Program) (w:World) (K:PySem.W.Frag) (mg:Str→Option Value) (base:Heap) (x:Str) (C:Addr) (k:Nat) (ps:List Str) (sp:Sp):Prop where
 ex:∃ f fd,FnOk P w K mg base (CX1 P w) k f fd ps sp∧Mk K C f∧mg x=some (.ref C)∧Binds K fd ps []
section
variable {X:Cx} {k:Nat} {C:Addr} {ps:List Str} {sp:Sp} {E:XK} {x m:Str} {p pos apos:Pos} {e o:Expr} {es:List Expr} {ta:TE} {t:TA}
theorem pf_call (F:Fn X.prog X.w X.K X.mg X.base x k ps sp) (hr:Room k X.A) (hg:Gl X x) (hx:Passes (CX1 X.prog X.w) X E) (ha:PA X (e :: es) t) (hdb:(x == ("__debug__":Str))=false:=by decide)
  (he:Ak (e :: es) X.env=(false,eval e X.env) :: Ak es X.env:=by rfl) (hpl:(backTo pos (Ak es X.env)).any (·.1)=false:=by rfl):PE X (.Call (.Name x p) (e :: es) [] pos) (tCall sp [] E t):=by
 obtain ⟨f,fd,ok,mgf,kp,bi⟩:=F.ex
 exact pe_call ok hr hg mgf kp bi .nil hx ha hdb he hpl
theorem pf_meth {pl:Sem Bool} (F:Mt X.prog X.w X.K X.mg X.base C m k ps sp) (ho:PE X o ta) (hr:Room k X.A) (hx:Passes (CX1 X.prog X.w) X E) (ha:PA X (e :: es) t)
  (hst:Ak (e :: es) X.env=(false,eval e X.env) :: Ak es X.env:=by rfl) (hpl:(backTo pos (Ak es X.env)).any (·.1)=false:=by rfl)
  (ht:eval (.Call (.Attribute o m apos) (e :: es) [] pos) X.env=(do
   let ov ← eval o X.env
   standAt apos.atName
   let (f,first) ← holding [ov] (getMethod ov m pl)
   callWith pos f first (backTo pos (Ak (e :: es) X.env)) (backToKw pos (keywordEach [] X.env))):=by rfl) :
  PE X (.Call (.Attribute o m apos) (e :: es) [] pos) (tMeth C m sp [] E ta t):=by
 obtain ⟨f,fd,ok,mt,cl,bi⟩:=F.ex
 exact pe_meth (pl:=pl) ho cl mt ok hr bi .nil hx ha hst hpl ht
theorem pf_make (F:Mc X.prog X.w X.K X.mg X.base x C k ps sp) (hr:Room (k + 1) X.A) (hg:Gl X x) (hx:Passes (CX1 X.prog X.w) X E) (ha:PA X (e :: es) t) (hdb:(x == ("__debug__":Str))=false:=by decide)
  (he:Ak (e :: es) X.env=(false,eval e X.env) :: Ak es X.env:=by rfl) (hpl:(backTo pos (Ak es X.env)).any (·.1)=false:=by rfl):PE X (.Call (.Name x p) (e :: es) [] pos) (tMake C sp [] E t):=by
 obtain ⟨f,fd,ok,mk,mgx,bi⟩:=F.ex
 exact pe_make mk ok hr hg mgx bi .nil hx ha hdb he hpl
end
section
variable {X:Cx} {es:List Expr} {env:Env}
end
section
variable {X:Cx} {elt iter tg:Expr} {ifs:List Expr} {scope:Scope} {pos:Pos} {own capn:List Str} {capI:List Nat} {wi:TI} {g:TG} {tt:TT} {te:TE}
theorem ps_setC {i:Nat} {y:Str} {py spos:Pos} (hN:X.N.Nodup) (hi:X.N[i]?=some y) (hy:Loc X.env.scope y) (hex:X.ex=[]) (hc:X.calm=true) (B:BlkScope X scope own capn capI) (hit:PI X tg iter wi) (hg:∀ cl C s H fp pins,PG (X.blk scope (own++capn) cl C s H fp pins) tg g)
  (ht:∀ cl C s H fp pins,PIfs (X.blk scope (own++capn) cl C s H fp pins) ifs tt) (he:∀ cl C s H fp pins,PE (X.blk scope (own++capn) cl C s H fp pins) elt te)
  (hs:∀ x,foldedSetIterable iter X.env x=pure x:=by intro _; rfl) (hsw:swapsWith (.ListComp elt [⟨tg,iter,ifs,0⟩] scope pos) (some (.Name y py)) spos.line X.env=pure true:=by rfl)
  (hf:X.fn y=true∨X.env.scope.names.lookup y=some .local:=by first | exact .inl rfl | exact .inr rfl | assumption) :
  PS X (.Assign [.Name y py] (.ListComp elt [⟨tg,iter,ifs,0⟩] scope pos) spos) (tAsg (tLC wi own.length capI g tt te) (gName i)):=by
 intro pins s σ H D0 I h
 rw [exec_Assign_Name_used _ _ _ _ hsw]
 refine AB (wpAny_standAt (AB ?_))
 show wpAny _ X.A (do let _ ← comprehension (.ListComp elt [⟨tg,iter,ifs,0⟩] scope pos) scope X.env _ (newList []) false (eval iter X.env) (some (assign (.Name y py) X.env))) _ _ s
 obtain ⟨cl,hclos,hcl,hcf⟩:=closure_of (env:=X.env) (scope:=scope) (fun y hy hf=>I.ok.has y.1 (.inl (B.free y hy hf)))
 refine AB (wpAny_mono (wpAny_comprehension_free (use:=some (assign (.Name y py) X.env)) (Q:=fun _ s'=>SP X pins D0 .next s') rfl hs hclos B.kind B.names (thn (hit pins s σ H _ I h) fun v s1 h1=>thn h1 fun itv s2 h2=>?_)) (fun _ s' hq=>AG (AG hq)) fun _ _ e=>e)
 obtain ⟨it,fp,tn,J,H2,e,I2,T,st2,f2,hW⟩:=h2
 subst e
 obtain ⟨W,⟨m0,w0⟩,turn⟩:=hW s2.heap.objs.size (I2.hok.fresh (AE _))
 refine wpAny_newObj_type (wpAny_newFunctionEnv B.cell (by intro y hy; simp at hy) (fun h4 hns hsb=>?_) B.kind)
 dsimp only at hns hsb ⊢
 have I3:Inv X pins σ (upd H2 s2.heap.objs.size (.lst [])) { s2 with heap:=s2.heap.push { cls:=.type "list",dict:=none,data:=.seq ([]:List Value).toArray } } :=
  I2.laid (t':=s2.toks) (fun b u e=>AC _ e) (AE _) ⟨Ap _,[],0,.nil,Ah _ rfl⟩
 generalize hs3:({ s2 with heap:=s2.heap.push { cls:=.type "list",dict:=none,data:=.seq ([]:List Value).toArray } }:Shared)=s3 at I3
 have e3:s2.heap.push { cls:=.type "list",dict:=none,data:=.seq ([]:List Value).toArray }=s3.heap:=by rw [← hs3]
 have ob2:∀ b∈fp,∃ o,s2.heap.get? b=some o:=fun b hb=>let ⟨o,z,_⟩:=T.obj _ _ st2 b hb; ⟨o,z⟩
 have up3:∀ b o,s2.heap.get? b=some o→s3.heap.get? b=some o:=fun b o z=>by
  rw [← e3]
  exact AC _ z
 have f3:∀ b∈fp,FpOk X pins (upd H2 s2.heap.objs.size (.lst [])) b:=fun b hb=>by
  obtain ⟨o,z⟩:=ob2 b hb
  exact ⟨by rw [upd_ne (AU (AJ z))]; exact (f2 b hb).1,(f2 b hb).2⟩
 have ob3:∀ b∈fp,∃ o,s3.heap.get? b=some o:=fun b hb=>let ⟨o,z⟩:=ob2 b hb; ⟨o,up3 b o z⟩
 rw [e3] at hns hsb ⊢
 have up4:∀ b o,s3.heap.get? b=some o→h4.get? b=some o:=fun b o z=>(hsb.2 b (AU (AJ z))).trans (AC _ z)
 have IB:=blk_start (t':=s2.toks + ([]:List (Str×Value)).length) B I3 f3 ob3 hcl hcf hns up4
 have e4:({ s3 with heap:=h4,toks:=s2.toks + ([]:List (Str×Value)).length }:Shared)={ s2 with heap:=h4,toks:=s2.toks + ([]:List (Str×Value)).length }:=by rw [← hs3]
 rw [e4] at IB
 have tn4:tn 0 h4:=T.keep _ _ _ st2 fun b hb o z=>up4 b o (up3 b o z)
 have fst:∀ {H':Hp},(∀ b∈fp,H' b=none)→∀ b∈fp,FpOk (X.blk scope (own++capn) cl s3.heap.objs.size s3 (upd H2 s2.heap.objs.size (.lst [])) fp pins) [] H' b:=fun {H'} hn b hb=>by
  obtain ⟨o,z⟩:=ob3 b hb
  refine ⟨hn b hb,AU (AJ z),fun y=>?_,.inl hb,fun x c ec=>(f3 b hb).2.2.2.2.1 x c (hcl x c ec),fun p hp=>(f3 b hb).2.2.2.2.2 p (by have y:p∈(X.pn++pins)++[]:=hp; simpa using y)⟩
  rcases AK.mp (I3.stkSub b y) with y | y
  ·exact (f3 b hb).2.1 y
  ·exact (f3 b hb).2.2.1 y
 have loop:codeAny (model X.prog X.w) X.A (.compLoop (.ListComp elt [⟨tg,iter,ifs,0⟩] scope pos) 0 (.ref it) (.ref s2.heap.objs.size) (compEnvC scope cl s3.heap.objs.size X.env))
   (compPost (model X.prog X.w) X.A X.xe (some (assign (.Name y py) X.env)) (fun _ s'=>SP X pins D0 .next s') (.ref s2.heap.objs.size) s3.heap.objs.size) { s2 with heap:=h4,toks:=s2.toks + ([]:List (Str×Value)).length }:=by
  refine comp_loop (fun n s'=>∃ i σ' acc H',Inv (X.blk scope (own++capn) cl s3.heap.objs.size s3 (upd H2 s2.heap.objs.size (.lst [])) fp pins) [] σ' H' s'∧tn i s'.heap∧(∀ b∈fp,H' b=none)∧W i n σ' acc H') ?_ m0 ⟨0,_,[],_,IB,tn4,fun b hb=>(f3 b hb).1,w0⟩
  rintro n s5 ⟨i,σ5,acc,H5,I5,st5,fr5,w5⟩
  have no:∀ {α:Type} {t:Sem α} {Q:α→Shared→Prop} {E:Value→Shared→Prop} {s:Shared},wpAny (model X.prog X.w) X.A t Q (fun _ _=>False) s→wpAny (model X.prog X.w) X.A t Q E s:=fun z=>wpAny_mono z (fun _ _ y=>y) fun _ _ y=>y.elim
  rcases turn i n σ5 acc H5 w5 with ⟨stop,qn⟩ | ⟨go,step⟩
  ·refine no (thn (T.done (X.blk scope (own++capn) cl s3.heap.objs.size s3 (upd H2 s2.heap.objs.size (.lst [])) fp pins) rfl rfl rfl hc i [] s5 σ5 H5 _ I5 (fst fr5) st5 stop) fun r s6 ⟨hr,I6⟩=>?_)
   subst hr
   obtain ⟨m,hm,_⟩:=id I6.loc
   have IX:Inv X pins σ H5 s6:=blk_end I3 f3 I6 (Heap.SameBut.refl _ _)
   have fC:∀ b∈[s3.heap.objs.size],FpOk X pins H5 b:=fun b hb=>by
    obtain rfl:b=s3.heap.objs.size:=by simpa using hb
    exact I3.fpOk (AE _) I6.free
   obtain ⟨oC,esC,epC,hoC,hdC,hrC⟩:=id hm
   have Ip:=IX.pinned fC (fun b hb=>by
    obtain rfl:b=s3.heap.objs.size:=by simpa using hb
    exact ⟨oC,hoC,fun v z=>by rw [hdC] at z; cases z⟩)
   have apC:=I3.apart hex (Heap.get?_none_of_le (AE s3.heap.objs.size))
   have nfC:=I3.nofs (AE s3.heap.objs.size)
   show wpAny _ X.A (assign (.Name y py) X.env (.ref s2.heap.objs.size)) _ _ _
   refine wpAny_assign_Name (store_ok Ip hN hi hy (v:=.ref s2.heap.objs.size) rfl (fun s7 I7=>?_) hf)
   have hC7:s7.heap.get? s3.heap.objs.size=some oC:=(I7.pin (s3.heap.objs.size,oC) (Ar _ (Ar _ (mem_pinsAt (by simp) hoC)))).1
   refine ⟨m,⟨oC,esC,epC,hC7,hdC,hrC⟩,fun h' hs'=>⟨_,H5,?_,qn⟩⟩
   exact I7.unpinned.recd apC I6.free nfC fun b o hb z=>(hs'.2 b hb).trans z
  ·refine no (thn (T.item (X.blk scope (own++capn) cl s3.heap.objs.size s3 (upd H2 s2.heap.objs.size (.lst [])) fp pins) rfl rfl rfl hc i [] s5 σ5 H5 _ I5 (fst fr5) st5 go) fun r s6 ⟨u,hr,h6⟩=>?_)
   subst hr
   refine no (thn h6 fun _ s7 ⟨x,H7,I7,r7,y7,st7,fr7⟩=>?_)
   have I7':=I7.pinned (fst fr7) (T.obj _ _ st7)
   have kp:∀ {σ8:St} {H8:Hp} {s8:Shared},Inv (X.blk scope (own++capn) cl s3.heap.objs.size s3 (upd H2 s2.heap.objs.size (.lst [])) fp pins) ([]++pinsAt fp s7.heap) σ8 H8 s8→tn (i + 1) s8.heap∧∀ b∈fp,H8 b=none:=fun {σ8 H8 s8} I8=>by
    refine ⟨T.keep _ _ _ st7 fun b hb o z=>(I8.pin (b,o) (Ar _ (Ar _ (mem_pinsAt hb z)))).1,fun b hb=>?_⟩
    obtain ⟨o,z,d⟩:=T.obj _ _ st7 b hb
    exact (I8.pin (b,o) (Ar _ (Ar _ (mem_pinsAt hb z)))).2.1
   refine no (thn (hg cl s3.heap.objs.size s3 _ fp pins _ s7 σ5 H7 x u _ I7' r7 (step x H7 y7)) fun _ s8 ⟨σ8,H8,I8,q8⟩=>?_)
   refine no (thn (ht cl s3.heap.objs.size s3 _ fp pins _ s8 σ8 H8 _ I8 q8) fun b s9 ⟨H9,I9,q9⟩=>?_)
   cases b with
   | false =>
    obtain ⟨m',hm,w9⟩:=q9
    exact ⟨m',hm,i + 1,σ8,acc,H9,I9.unpinned,(kp I9).1,(kp I9).2,w9⟩
   | true =>
    refine no (thn (he cl s3.heap.objs.size s3 _ fp pins _ s9 σ8 H9 _ I9 q9) fun y s10 ⟨yv,H10,I10,r10,hD,hz,m',hm,w10⟩=>?_)
    refine no (thn (mt_append _ s10 σ8 H10 (.ref s2.heap.objs.size) [yv] (.ref s2.heap.objs.size) [y] (fun v H11=>v=.non∧H11=upd H10 s2.heap.objs.size (.lst (acc++[yv]))) I10 rfl (.cons r10 .nil) ⟨_,acc,yv,rfl,rfl,hD,hz,rfl,rfl⟩) fun _ s11 ⟨_,H11,I11,_,_,e11⟩=>?_)
    subst e11
    exact ⟨m',hm,i + 1,σ8,acc++[yv],_,I11.unpinned,(kp I11).1,(kp I11).2,w10⟩
 exact codeAny_compStart_list loop (T.self _ 0 _ _ _ tn4 loop)
end
section
variable {X:Cx}
end
section
variable {prog:Program} {w:World} {A:Around} {E:Value→Shared→Prop} {s:Shared}
end
section
variable {prog:Program} {w:World} {K:Type} [DecidableEq K] {knd:KeyKind prog w K} {A:Around}
end
section
variable {prog:Program} {w:World} {K:Type} [DecidableEq K] {knd:KeyKind prog w K} {A:Around}
end
section
variable {X:Cx}
end
section
variable {X:Cx} {e st:Expr} {te:TE} {lo hi:Option Expr} {tl th ts:TO} {pos p2:Pos}
theorem rg_ask {lo:Int} {n i:Nat} {H:Hp} {A:Prop} {B:V→Hp→Prop} (hi:i≤n) (hs:i < n→B (.int (lo + i)) H) (hd:i=n→A) :
  ((Itr lo n).stop i H∧A)∨((Itr lo n).go i H∧∀ x H',(Itr lo n).yld i H x H'→B x H'):=by
 by_cases hlt:i < n
 ·refine .inr ⟨hlt,fun x H' y=>?_⟩
  obtain ⟨rfl,rfl⟩:=y
  exact hs hlt
 ·exact .inl ⟨by show n≤i; omega,hd (by omega)⟩
theorem ints_items:∀ {ns:List Int} {its:List Value},Vals (ns.map V.int) its→∃ xs:List (Int×Tok),its=xs.map fun p=>Value.int p.1 p.2
 | [],its,h=>by cases h; exact ⟨[],rfl⟩
 | n :: ns,its,h=>by
  cases h with
  | cons a b =>
   obtain ⟨t,rfl⟩:=a
   obtain ⟨xs,rfl⟩:=ints_items b
   exact ⟨(n,t) :: xs,rfl⟩
def rSumW (K:PySem.W.Frag) (xs:List V) (H:Hp) (Q:VK):Prop:=∃ (l:Addr) (ns:List Int),xs=[.ref l]∧SqL K H l (ns.map V.int)∧∀ z:Int,Q (.int z) H
theorem call_sumW (hc:X.calm=true):CallR X (.builtin "sum") (rSumW X.K):=by
 intro pins s σ H xs us Q I r h
 obtain ⟨l,ns,rfl,hl,q⟩:=h
 obtain ⟨u,rfl,ru⟩:=vals1 r
 obtain rfl:u=AT l:=ru
 obtain ⟨its,v,P1,z1⟩:=I.list hl
 obtain ⟨ys,rfl⟩:=ints_items v
 have hl':s.heap.IsList l (intItems ys.toArray):=by
  have:=P1.isList
  rw [show (ys.map fun p=>Value.int p.1 p.2).toArray=intItems ys.toArray by unfold intItems; simp] at this
  exact this
 exact sum_intListG (I.ok.hd hc) hl' fun h' tk t' hk=>⟨.int _,H,I.kept (t':=tk) hk,⟨t',rfl⟩,q _⟩
end
section
variable {X:Cx} {pins:List (Addr×Obj)} {σ:List (Option V)} {H H':Hp} {s:Shared} {h':Heap}
theorem Inv.turnedL {t':Nat} {wr:List Addr} (I:Inv X pins σ H s) (k:∀ b o,b ∉ wr→s.heap.get? b=some o→h'.get? b=some o) (hf:∀ b∈wr,FpOk X pins H b):Inv X pins σ H { s with heap:=h',toks:=t' }:=by
 have nit:∀ b u,H b=some u→b ∉ wr:=fun b u e z=>by rw [(hf b z).1] at e; cases e
 refine I.step (g':=s.gens) (d':=s.drawn) (ch:=wr) (fun b hb=>⟨(hf b hb).2.2.2.1,(hf b hb).2.1,(hf b hb).2.2.2.2.1,(hf b hb).2.2.2.2.2⟩) (fun b o _ _ hc e _=>k b o hc e) (fun b o _ _ hc e _=>⟨o.slots,k b o hc e⟩) (fun _ _ _ _ n=>n)
  (fun b o hc e=>⟨o,k b o hc e⟩) (fun _ _ e=>e) (fun _ _ _ e=>e) (fun b ps e=>⟨#[],by rw [e]; simp⟩) (fun m hm=>?_) (fun b u e=>?_) I.bare
 ·obtain ⟨o,es,ep,ho,r⟩:=hm
  exact ⟨o,es,ep,k _ o (fun z=>(hf _ z).2.1 rfl) ho,r⟩
 ·refine (I.hok b u e).stay (fun c v hc q=>k c v ?_ q) (fun _ q=>q) fun _ _ q=>q
  rcases hc with z | z
  ·rw [z]; exact nit b u e
  ·exact nit c _ z
theorem Inv.turnedT {t':Nat} {wr:List Addr} {T:Addr} {xs:List V} {its:List Value} (I:Inv X pins σ H s) (k:∀ b o,b ∉ wr→s.heap.get? b=some o→h'.get? b=some o) (hf:∀ b∈wr,FpOk X pins H b)
  (hT:s.heap.objs.size≤T) (hw:T ∉ wr) (rv:Vals xs its) (hl:xs.length≤AR) (ht:IsTup h' T its.toArray):Inv X pins σ (upd H T (.tup xs)) { s with heap:=h',toks:=t' }:=by
 have hn:H T=none:=I.hok.fresh hT
 have neT:∀ b o,s.heap.get? b=some o→b≠T:=fun b o e=>AU (AX (AJ e) hT)
 have nit:∀ b u,H b=some u→b ∉ wr:=fun b u e z=>by rw [(hf b z).1] at e; cases e
 refine I.step (g':=s.gens) (d':=s.drawn) (ch:=wr) (fun b hb=>⟨(hf b hb).2.2.2.1,(hf b hb).2.1,(hf b hb).2.2.2.2.1,(hf b hb).2.2.2.2.2⟩) (fun b o _ _ hc e _=>k b o hc e) (fun b o _ _ hc e _=>⟨o.slots,k b o hc e⟩) (fun b o _ e n=>by rw [upd_ne (neT b o e)]; exact n)
  (fun b o hc e=>⟨o,k b o hc e⟩) (fun b xs e=>by rw [upd_ne (ne_of_none e hn)]; exact e) (fun b _ _ e=>by rw [upd_ne (ne_of_none e hn)]; exact e) (fun b ps e=>⟨#[],by rw [upd_ne (ne_of_none e hn),e]; simp⟩) (fun m hm=>?_) (fun b u e=>?_) I.bare
 ·obtain ⟨o,es,ep,ho,r⟩:=hm
  exact ⟨o,es,ep,k _ o (fun z=>(hf _ z).2.1 rfl) ho,r⟩
 ·by_cases hb:b=T
  ·subst hb
   rw [upd_same] at e
   cases e
   exact ⟨hl,its,rv,ht⟩
  ·rw [upd_ne hb] at e
   refine (I.hok b u e).stay (fun c v hc q=>k c v ?_ q) (fun c q=>?_) fun c _ q=>?_
   ·rcases hc with z | z
    ·rw [z]; exact nit b u e
    ·exact nit c _ z
   ·rw [upd_ne (ne_of_none q hn)]; exact q
   ·rw [upd_ne (ne_of_none q hn)]; exact q
end
theorem turn_pair {X:Cx} {pins:List (Addr×Obj)} {σ:St} {H:Hp} {s:Shared} {E:Value→Shared→Prop} {z:Addr} {fpw wr:List Addr} {n i:Nat} {Pt:Nat→Array Value→Prop} {St':Nat→Heap→Prop} {Mid:Nat→Addr→Heap→Prop}
  {elts:List Expr} {kk:Nat} {pos:Pos} {Yl:V→Hp→Prop} {Tn:Heap→Prop} {fp:List Addr}
  (W:WalksT X.prog X.w X.A z fpw wr n Pt St' Mid) (I:Inv X pins σ H s) (hf:∀ b∈fp,FpOk X pins H b) (hfp:∀ b∈fp,∃ o,s.heap.get? b=some o) (hwr:∀ b∈wr,b∈fp) (hi:i < n) (st:St' i s.heap) (hn:∀ h,St' (i + 1) h→Tn h)
  (hv:∀ vals,Pt i vals→∃ xs:List V,Vals xs vals.toList∧xs.length≤AR∧∀ T,H T=none→Yl (.ref T) (upd H T (.tup xs))) :
  wpAny (model X.prog X.w) X.A (pyNext (.ref z)) (fun r s1=>∃ u,r=some u ∧
   wpAny (model X.prog X.w) X.A (letOwnedTupleGo (.Tuple elts kk pos) (.ref z) u) (fun _ s2=>∃ x H',Inv X pins σ H' s2∧RelV x u∧Yl x H'∧Tn s2.heap∧∀ b∈fp,H' b=none) E s1) E s:=by
 refine W.item i s _ E hi st fun T vals h' tk hp hT ht hm hk=>⟨_,rfl,?_⟩
 obtain ⟨xs,rv,hl,hy⟩:=hv vals hp
 have hTw:T ∉ wr:=W.apart i T h' hm
 have hTn:H T=none:=I.hok.fresh hT
 have hwf:∀ b∈wr,FpOk X pins H b:=fun b hb=>hf b (hwr b hb)
 have ht':IsTup h' T vals.toList.toArray:=by
  rw [Array.toArray_toList]
  exact ht
 have I1:Inv X pins σ (upd H T (.tup xs)) { s with heap:=h',toks:=tk }:=I.turnedT hk hwf hT hTw rv hl ht'
 have neT:∀ b∈fp,b≠T:=fun b hb e=>by
  subst e
  obtain ⟨o,q⟩:=hfp b hb
  exact absurd (AX (AJ q) hT) (Nat.lt_irrefl _)
 have hw2:∀ b∈wr,FpOk X pins (upd H T (.tup xs)) b:=fun b hb=>⟨by rw [upd_ne (neT b (hwr b hb))]; exact (hwf b hb).1,(hwf b hb).2⟩
 refine W.go elts kk pos i T _ _ _ hm fun h2 st2 hk2=>?_
 have I2:=I1.turnedL (t':=tk) (h':=h2) hk2 hw2
 exact ⟨.ref T,_,I2,rfl,hy T hTn,hn _ st2,fun b hb=>by rw [upd_ne (neT b hb)]; exact (hf b hb).1⟩
theorem turn_pair_end {X:Cx} {pins:List (Addr×Obj)} {σ:St} {H:Hp} {s:Shared} {E:Value→Shared→Prop} {z:Addr} {fpw wr:List Addr} {n:Nat} {Pt:Nat→Array Value→Prop} {St':Nat→Heap→Prop} {Mid:Nat→Addr→Heap→Prop}
  (W:WalksT X.prog X.w X.A z fpw wr n Pt St' Mid) (I:Inv X pins σ H s) (hf:∀ b∈wr,FpOk X pins H b) (st:St' n s.heap) :
  wpAny (model X.prog X.w) X.A (pyNext (.ref z)) (fun r s1=>r=none∧Inv X pins σ H s1) E s :=
 W.done s _ E st fun h' tk hk=>⟨rfl,I.turnedL hk hf⟩
def Ite (K:PySem.W.Frag) (a:Addr):It :=
 ⟨fun i H=>∃ xs x,SqL K H a xs∧xs[i]?=some x,fun i H v H'=>∃ T,v=.ref T∧H T=none∧∀ xs x,SqL K H a xs→xs[i]?=some x→H'=upd H T (.tup [.int i,x]),fun i H=>∃ xs,SqL K H a xs∧xs.length=i⟩
theorem vals_two {x y:V} {u v:Value} (h1:RelV x u) (h2:RelV y v):Vals [x,y] [u,v]:=.cons h1 (.cons h2 .nil)
theorem turn_enum {P:Program} {w:World} {K:PySem.W.Frag} {elts:List Expr} {kk:Nat} {pos:Pos} (e it a:Addr) (hei:e≠it) (hae:a≠e) (hai:a≠it) :
  Turn P w K (.Tuple elts kk pos) (Ite K a) [e,it] e (fun i h=>(∃ old,IsEnum h e it i old)∧h.IsListIter it a i) where
 mem:=by simp
 obj:=fun i h st b hb=>by
  obtain ⟨⟨old,h1⟩,o,h2,c,d⟩:=st
  rcases AK.mp hb with rfl | hb
  ·exact ⟨_,h1,fun v z=>by
    have z':Data.fields _=Data.cell v:=z
    cases z'⟩
  ·have e':b=it:=by simpa using hb
   subst e'
   exact ⟨o,h2,fun v z=>by rw [d] at z; cases z⟩
 keep:=fun i h h' st k=>by
  obtain ⟨⟨old,h1⟩,h2⟩:=st
  exact ⟨⟨old,k e (by simp) _ h1⟩,h2.at fun o q=>k it (by simp) o q⟩
 item:=by
  intro X hP hw hK hc i pins s σ H E I hf st hg
  subst hP hw hK
  obtain ⟨xs,x,hq,hx⟩:=hg
  obtain ⟨its,rv,p,hz⟩:=I.list hq
  obtain ⟨u,hu,ru⟩:=rv.get hx
  have hil:i < its.length:=by
   obtain ⟨h,_⟩:=AF.mp hu
   exact h
  refine turn_pair (Yl:=fun x H'=>(Ite X.K a).yld i H x H') (Tn:=fun h=>(∃ old,IsEnum h e it ((i + 1:Nat):Int) old)∧h.IsListIter it a (i + 1)) (WalksT.enumerate (I.ok.hd hc) e it a hei hae hai its.toArray) I hf (fun b hb=>?_) (fun b hb=>hb) (by simpa using hil) ⟨st.1,st.2,p.isList⟩ (fun h q=>⟨q.1,q.2.1⟩) fun vals hp=>?_
  ·obtain ⟨⟨old,h1⟩,o,h2,c,d⟩:=st
   rcases AK.mp hb with rfl | hb
   ·exact ⟨_,h1⟩
   ·have e':b=it:=by simpa using hb
    subst e'
    exact ⟨o,h2⟩
  ·obtain ⟨t,y,hy,rfl⟩:=hp
   have hy':its[i]?=some y:=by simpa using hy
   rw [hu] at hy'
   cases hy'
   refine ⟨[.int i,x],vals_two ⟨t,rfl⟩ ru,by show 2≤AR; decide,fun T hT=>⟨T,rfl,hT,fun xs' x' hq' hx'=>?_⟩⟩
   rw [I.list_inj hq' hq,hx] at hx'
   cases hx'
   rfl
 done:=by
  intro X hP hw hK hc i pins s σ H E I hf st hg
  subst hP hw hK
  obtain ⟨xs,hq,hx⟩:=hg
  obtain ⟨its,rv,p,hz⟩:=I.list hq
  have hl:=rv.length
  have hn:its.toArray.size=i:=by simp; omega
  have:=turn_pair_end (E:=E) (WalksT.enumerate (prog:=X.prog) (w:=X.w) (I.ok.hd hc) e it a hei hae hai its.toArray) I hf (by rw [hn]; exact ⟨st.1,st.2,p.isList⟩)
  exact this
 self:=fun _ _ _ _ _ st h=>by
  obtain ⟨⟨old,h1⟩,_⟩:=st
  exact wpAny_pyIter_enum h1 h
section
variable {X:Cx} {elts:List Expr} {kk:Nat} {pt:Pos}
def iEnum (K:PySem.W.Frag) (ta:TA):TI:=fun σ H R=>ta σ H fun vs H1=>∃ a xs,vs=[.ref a]∧SqL K H1 a xs∧R (Ite K a) H1
theorem boot_enum:bootBuiltins "enumerate"=some (.type "enumerate"):=by rfl
theorem pi_enum {a:Expr} {ta:TA} {p pos:Pos} (hg:Gl X "enumerate") (hm:X.mg "enumerate"=none) (ha:PA X [a] ta) (hs:Ak [a] X.env=[(false,eval a X.env)]:=by rfl) :
  PI X (.Tuple elts kk pt) (.Call (.Name "enumerate" p) [a] [] pos) (iEnum X.K ta):=by
 intro pins s σ H R I h
 refine Call_ (ld_blt I hg hm boot_enum (PyProof.Rows.callWith_type1 (thn (ha pos pins s σ H _ I h) fun us s1 ⟨vs,H1,I1,r1,q1⟩=>?_) hs rfl))
 obtain ⟨l,xs,e,hq,q⟩:=q1
 subst e
 cases r1 with
 | cons r rr =>
  cases rr
  cases r
  obtain ⟨its,rv,pl,hz⟩:=I1.list hq
  have hll:l < s1.heap.objs.size:=by
   obtain ⟨o,z,_⟩:=pl.isList
   exact AJ z
  refine call_enumerate_list pl.isList fun h' he hit hsz hk=>?_
  refine wpAny_pyIter_enum he ?_
  refine ⟨s1.heap.objs.size + 1,[s1.heap.objs.size + 1,s1.heap.objs.size],_,_,H1,rfl,I1.kept (t':=s1.toks) hk,turn_enum (s1.heap.objs.size + 1) s1.heap.objs.size l (Nat.ne_of_gt (Nat.lt_succ_self _)) (AU (Nat.lt_succ_of_lt hll)) (AU hll),⟨⟨_,he⟩,hit⟩,fun b hb=>?_,q⟩
  have hb':s1.heap.objs.size≤b:=by
   simp at hb
   rcases hb with rfl | rfl
   ·exact Nat.le_succ _
   ·exact AE _
  exact I1.fpOk hb' (I1.hok.fresh hb')
end
section
variable {X:Cx} {o i:Expr} {pos:Pos} {td ty:TE}
end
section
variable {X:Cx} {k:Nat} {f C:Addr} {fd:FuncData} {ps:List Str} {sp:Sp} {dvs:List V} {ds:List Value} {m:Str} {p pos apos epos cpos:Pos} {e o:Expr} {es:List Expr} {ta:TE} {t:TA}
theorem px_meth {pl:Sem Bool} (he:∀ W,PE (X.wish W) o ta) (c:Cls X.K C) (hm:Meth X.K C m f) (F:FnOk X.prog X.w X.K X.mg X.base (CX1 X.prog X.w) k f fd ps sp) (hr:Room k X.A) (hb:Binds X.K fd ps []) (ha:∀ W,PA (X.wish W) (e :: es) t)
  (ht:eval (.Call (.Attribute o m apos) (e :: es) [] pos) X.env=(do
   let ov ← eval o X.env
   standAt apos.atName
   let (f,first) ← holding [ov] (getMethod ov m pl)
   callWith pos f first (backTo pos (Ak (e :: es) X.env)) (backToKw pos (keywordEach [] X.env))):=by rfl)
  (hs:Ak (e :: es) X.env=(false,eval e X.env) :: Ak es X.env:=by rfl) (hpl:(backTo pos (Ak es X.env)).any (·.1)=false:=by rfl) :
  PX X (.Call (.Attribute o m apos) (e :: es) [] pos) (fun E=>tMeth C m sp [] E ta t):=by
 intro pins s σ H Q E W I h hx
 refine PySem.W.methodCall_KW (pl:=pl) (thn (he W pins s σ H _ (I.wish W) h) fun u s1 ⟨x,H1,I1,rx,a,dx,fs,ex,ea,l,q⟩=>?_) ht
 subst ex
 obtain rfl:u=AT a:=rx
 have I1':Inv X pins σ H1 s1:=I1.unwish
 refine getmeth_ok I1' ea c hm l ?_
 refine PySem.W.callWith_K (first:=[.ref a]) (h₀:=X.base) I.ok.mod.kin hm.kp (thn (ha W pos pins s1 σ H1 _ I1 q) fun us s2 ⟨vs,H2,I2,r,q⟩=>⟨I2.kIn,?_⟩) hs hpl
 exact run_fnW (us:=.ref a :: us) (vs:=.ref a :: vs) F hr hb .nil I2.unwish (.cons rfl r) q fun ev s' z=>hx s2 H2 ev s' I2.unwish z
variable {te:XK→TE} {cx n:Str} {np hpos tpos wpos:Pos} {i j:Nat} {b₀:Stmt} {suite:List Stmt} {ts:TS} {Cc:Addr} {call:Expr}
end
def mxF:Int→List Int→Int
 | a,[]=>a
 | a,b :: r=>mxF (if b > a then b else a) r
def mxD (d:Int):List Int→Int
 | []=>d
 | a :: r=>mxF a r
theorem mxF_snoc:∀ (r:List Int) (a b:Int),mxF a (r++[b])=if b > mxF a r then b else mxF a r
 | [],_,_=>rfl
 | _ :: r,_,b=>mxF_snoc r _ b
theorem numAt_list {ns:List Int} {ys:List (Int×Tok)} (h:ys.map (·.1)=ns) (i:Nat):numAt ys.toArray i=(ns[i]?).getD 0:=by
 subst h
 simp [numAt]
theorem best_mx {ns:List Int} {a:Int} {r:List Int} {ys:List (Int×Tok)} (h:ys.map (·.1)=ns) (e:ns=a :: r):∀ k,k < ns.length→numAt ys.toArray (argBest (fun i j=>decide (numAt ys.toArray i > numAt ys.toArray j)) k)=mxF a (r.take k)∧argBest (fun i j=>decide (numAt ys.toArray i > numAt ys.toArray j)) k≤k
 | 0,_=>by
  rw [argBest,numAt_list h,e,As]
  exact ⟨rfl,AE _⟩
 | k + 1,hk=>by
  obtain ⟨ih,le⟩:=best_mx h e k (by omega)
  have hk':k < r.length:=by
   rw [e,AS] at hk
   omega
  have x1:numAt ys.toArray (k + 1)=r[k]:=by
   rw [numAt_list h,e,List.getElem?_cons_succ,AD hk']
   rfl
  rw [A9,AD hk',Option.toList_some,mxF_snoc,argBest]
  by_cases c:r[k] > mxF a (r.take k)
  ·rw [if_pos c,if_pos (by rw [decide_eq_true_eq,x1,ih]; exact c)]
   exact ⟨x1,AE _⟩
  ·rw [if_neg c,if_neg (by rw [decide_eq_true_eq,x1,ih]; exact c)]
   exact ⟨ih,by omega⟩
section
variable {prog:Program} {w:World} {A:Around} {R:Result→Shared→Prop} {I S:Addr} {fp wr:List Addr} {n:Nat} {P:Nat→Value→Prop} {St:Nat→Heap→Prop} {kw:List (Str×Value)} {bt:Nat→Nat→Bool}
abbrev pairL (b:Value) (c:Nat):Obj:={ cls:=.type "list",dict:=none,data:=.seq #[b,b] c,slots:=#[] }
theorem mx_loop (W:Walks prog w A.in1 I fp wr n P St) (cm:CmpOf prog w A.in1 .Gt P bt) (nf:S ∉ fp):∀ (r i:Nat) (s:Shared) (b:Value) (c:Nat),i + 1 + r=n→St (i + 1) s.heap→P (argBest bt i) b→s.heap.get? S=some (pairL b c) →
  (∀ v h' tk,P (argBest bt (n - 1)) v→(∀ x o,x ∉ wr→x≠S→s.heap.get? x=some o→h'.get? x=some o)→R (.ok (.ret v)) { s with heap:=h',toks:=tk })→codeAny (model prog w) A (.builtin "max.loop" ⟨[.ref I,.none,.ref S],kw⟩) R s:=by
 have nw:S ∉ wr:=fun z=>nf (W.sub _ z)
 have nm:(toString "max"++toString ".loop":String)="max.loop":=by decide
 intro r
 induction r with
 | zero =>
  intro i s b c e st pb gS q
  refine codeAny_builtin PySem.F.entry_max_loop (by
   rw [PySem.Around.under_plainId PySem.F.plain_max_loop]
   show wpAny _ A.in1 (seqItems? (AT S) >>= _) _ _ s
   refine AB (wpAny_seqItems gS rfl ?_)
   show wpAny _ A.in1 (tryCatch (pyNext (AT I)) _ >>= _) _ _ s
   refine AB (wpAny_tryCatch (W.done s _ _ (show St n s.heap by rw [← e]; exact st) fun h1 tk1 k1=>?_))
   show wpAny _ A.in1 (updateSeq S (fun _=>#[]) >>= _) _ _ _
   refine AB (wpAny_updateSeq (k1 S _ nw gS) rfl (AB (wpAny_letGo (AG ?_))))
   exact q b _ tk1 (by rw [show n - 1=i by omega]; exact pb) fun x o x1 x2 y=>(A1 _ _ (Ne.symm x2)).trans (k1 x o x1 y))
 | succ r ih =>
  intro i s b c e st pb gS q
  refine codeAny_builtin PySem.F.entry_max_loop (by
   rw [PySem.Around.under_plainId PySem.F.plain_max_loop]
   show wpAny _ A.in1 (seqItems? (AT S) >>= _) _ _ s
   refine AB (wpAny_seqItems gS rfl ?_)
   show wpAny _ A.in1 (tryCatch (pyNext (AT I)) _ >>= _) _ _ s
   refine AB (wpAny_tryCatch (W.item (i + 1) s _ _ (by omega) st fun v h1 tk1 pv st1 k1=>?_))
   have gS1:=k1 S _ nw gS
   show wpAny _ A.in1 (tryCatch (holding [v,v] (richCompare .Gt v b >>= _)) _ >>= _) _ _ _
   refine AB (wpAny_tryCatch (BE (AB (cm (i + 1) (argBest bt i) v b _ _ _ pv pb (AB (BE (wpAny_truthy_bool (AB (wpAny_letGo (AG ?_))))))))))
   cases hb:bt (i + 1) (argBest bt i) with
   | true =>
    simp only [if_true]
    refine AB (wpAny_updateSeq gS1 rfl (AB (wpAny_letGo ?_)))
    rw [nm]
    refine AG ⟨plainId_quiet PySem.F.plain_max_loop _,ih (i + 1) _ v _ (by omega) (W.frame _ _ _ st1 fun x xf o y=>(A1 _ _ (fun z:S=x=>nf (by rw [z]; exact xf))).trans y) (by simp only [argBest,hb,if_true]; exact pv) (Heap.get?_update_self _ gS1 rfl) fun v2 h2 tk2 p2 k2=>q v2 h2 tk2 p2 fun x o x1 x2 y=>k2 x o x1 x2 ((A1 _ _ (Ne.symm x2)).trans (k1 x o x1 y))⟩
   | false =>
    simp only [Bool.false_eq_true,if_false]
    refine AB (wpAny_letGo ?_)
    rw [nm]
    refine AG ⟨plainId_quiet PySem.F.plain_max_loop _,ih (i + 1) _ b c (by omega) st1 (by simp only [argBest,hb,Bool.false_eq_true,if_false]; exact pb) gS1 fun v2 h2 tk2 p2 k2=>q v2 h2 tk2 p2 fun x o x1 x2 y=>k2 x o x1 x2 (k1 x o x1 y)⟩)
theorem mx_start (W:Walks prog w A.in1 I fp wr n P St) (cm:CmpOf prog w A.in1 .Gt P bt) (nf:S ∉ fp) {d:Value} {s:Shared} {c:Nat} (st:St 0 s.heap) (gS:s.heap.get? S=some { cls:=.type "list",dict:=none,data:=.seq #[] c,slots:=#[] })
  (q:∀ v h' tk,(0 < n→P (argBest bt (n - 1)) v)→(n=0→v=d)→(∀ x o,x ∉ wr→x≠S→s.heap.get? x=some o→h'.get? x=some o)→R (.ok (.ret v)) { s with heap:=h',toks:=tk }):codeAny (model prog w) A (.builtin "max.loop" ⟨[.ref I,.none,.ref S],[("default",d)]⟩) R s:=by
 have nw:S ∉ wr:=fun z=>nf (W.sub _ z)
 have nm:(toString "max"++toString ".loop":String)="max.loop":=by decide
 refine codeAny_builtin PySem.F.entry_max_loop (by
  rw [PySem.Around.under_plainId PySem.F.plain_max_loop]
  show wpAny _ A.in1 (seqItems? (AT S) >>= _) _ _ s
  refine AB (wpAny_seqItems gS rfl ?_)
  show wpAny _ A.in1 (tryCatch (pyNext (AT I)) _ >>= _) _ _ s
  by_cases n0:n=0
  ·subst n0
   refine AB (wpAny_tryCatch (W.done s _ _ st fun h1 tk1 k1=>?_))
   show wpAny _ A.in1 (rule _ >>= _) _ _ _
   refine AB (wpAny_rule (AG ?_))
   exact q d h1 tk1 (fun z=>absurd z (Nat.lt_irrefl _)) (fun _=>rfl) fun x o x1 _ y=>k1 x o x1 y
  ·refine AB (wpAny_tryCatch (W.item 0 s _ _ (by omega) st fun v h1 tk1 pv st1 k1=>?_))
   have gS1:=k1 S _ nw gS
   show wpAny _ A.in1 (updateSeq S (fun _=>#[v,v]) >>= _) _ _ _
   refine AB (wpAny_updateSeq gS1 rfl ?_)
   rw [nm]
   refine AG ⟨plainId_quiet PySem.F.plain_max_loop _,mx_loop W cm nf (n - 1) 0 _ v _ (by omega) (W.frame _ _ _ st1 fun x xf o y=>(A1 _ _ (fun z:S=x=>nf (by rw [z]; exact xf))).trans y) pv (Heap.get?_update_self _ gS1 rfl) fun v2 h2 tk2 p2 k2=>?_⟩
   exact q v2 h2 tk2 (fun _=>p2) (fun z=>absurd z n0) fun x o x1 x2 y=>k2 x o x1 x2 ((A1 _ _ (Ne.symm x2)).trans (k1 x o x1 y)))
end
section
variable {X:Cx}
theorem mx_args (a d:Value):argsOk "max" ⟨[a],[("default",d)]⟩:=by unfold argsOk; kernel_rfl
theorem items_toks {ns:List Int} {ys:List (Int×Tok)} (v:Vals (ns.map V.int) (ys.map fun p=>Value.int p.1 p.2)):ys.map (·.1)=ns:=by
 induction ns generalizing ys with
 | nil =>
  cases ys with
  | nil=>rfl
  | cons y ys=>cases v
 | cons n ns ih =>
  cases ys with
  | nil=>cases v
  | cons y ys =>
   cases v with
   | cons a b =>
    obtain ⟨t,e⟩:=a
    cases e
    rw [Af,ih b]
def tMaxD (K:PySem.W.Frag) (t tk:TA):TE:=fun σ H Q=>t σ H fun vs H1=>tk σ H1 fun zs H2=>∃ (l:Addr) (ns:List Int) (d:Int),vs=[.ref l]∧zs=[.int d]∧SqL K H2 l (ns.map V.int)∧Q (.int (mxD d ns)) H2
theorem call_mxD (hc:X.calm=true) {pins:List (Addr×Obj)} {σ:St} {H:Hp} {s:Shared} {Q:VK} {l:Addr} {ns:List Int} {d:Int} {u:Value} (I:Inv X pins σ H s) (hl:SqL X.K H l (ns.map V.int)) (hu:RelV (.int d) u) (q:Q (.int (mxD d ns)) H) :
  wpAny (model X.prog X.w) X.A (call (.builtin "max") [.ref l] [("default",u)]) (EP X pins σ Q) X.xe s:=by
 obtain ⟨its,v,P1,z1⟩:=I.list hl
 obtain ⟨ys,rfl⟩:=ints_items v
 have hys:=items_toks v
 have hl':s.heap.IsList l (intItems ys.toArray):=by
  have:=P1.isList
  rw [show (ys.map fun p=>Value.int p.1 p.2).toArray=intItems ys.toArray by unfold intItems; simp] at this
  exact this
 have nm:(toString "max"++toString ".loop":String)="max.loop":=by decide
 refine kmk_tree PySem.F.kind_max PySem.F.plain_max PySem.F.entry_max (mx_args _ _) ?_
 show wpAny _ X.A.in1 (Builtin.Builtins.bindParams "max" ["key","default"] 0 ⟨[],[("default",u)]⟩ >>= _) _ _ s
 refine AB (wpAny_of_eq (show Builtin.Builtins.bindParams "max" ["key","default"] 0 ⟨[],[("default",u)]⟩=pure [none,some u] from rfl) ?_)
 refine AB (AG (AB (iter_intList hl' fun s2 e2 st2 fp2 ne2=>?_)))
 subst e2
 refine AB (wpAny_newObj_type ?_)
 rw [nm]
 refine AG ⟨plainId_quiet PySem.F.plain_max_loop _,mx_start (d:=u) (Walks.list (A:=X.A.in1) (I.ok.hd hc) _ l ne2 (intItems ys.toArray)) (CmpOf.ints_gt (numAt ys.toArray) (fun _ _=>intItems_at)) (fun z=>Nat.lt_irrefl _ (fp2 _ z)) ⟨st2.1.at fun o y=>AC _ y,st2.2.at fun o y=>AC _ y⟩ (Ah _ rfl) fun v2 h2 tk2 p2 p0 k2=>?_⟩
 have kk:∀ x o,s.heap.get? x=some o→h2.get? x=some o:=fun x o y=>by
  have lt:=AJ y
  refine k2 x o (by simpa using AU lt) (fun z=>?_) (AC _ (AC _ y))
  rw [z,Heap.size_push] at lt
  exact Nat.lt_asymm lt (Nat.lt_succ_self _)
 have sz:(intItems ys.toArray).size=ns.length:=by rw [← hys]; simp [intItems]
 rw [sz] at p2 p0
 obtain ⟨t,ev⟩:∃ t,v2=.int (mxD d ns) t:=by
  cases hn:ns with
  | nil =>
   rw [p0 (by rw [hn]; rfl)]
   exact hu
  | cons a r =>
   have lt:ns.length - 1 < ns.length:=by rw [hn,AS]; omega
   obtain ⟨t,e⟩:=intItems_at (p2 (by omega))
   refine ⟨t,?_⟩
   rw [e,(best_mx hys hn _ lt).1,hn,AS,Nat.add_sub_cancel,AO (AE _)]
   rfl
 subst ev
 exact ⟨.int _,H,I.kept (t':=tk2) kk,⟨t,rfl⟩,q⟩
theorem pe_maxD {e v:Expr} {t tk:TA} {p pos kp:Pos} (hc:X.calm=true) (hg:Gl X "max") (hm:X.mg "max"=none) (ha:PA X [e] t) (hkw:PK X [⟨some "default",v,kp⟩] tk) (he:backTo pos (Ak [e] X.env)=(false,eval e X.env) :: backTo pos (Ak [] X.env):=by rfl) (hpl:(backTo pos (Ak [e] X.env)).any (·.1)=false:=by rfl) :
  PE X (.Call (.Name "max" p) [e] [⟨some "default",v,kp⟩] pos) (tMaxD X.K t tk):=by
 intro pins s σ H Q I h
 refine wpAny_Call_Name_kw (ld_blt I hg hm (u:=.builtin "max") (by decide +kernel) ?_)
 refine PyProof.Rows.callWith_kw (thn (ha pos pins s σ H _ I h) fun us s1 ⟨vs,H1,I1,r1,q1⟩=>?_) he hpl
 refine thn (hkw pos pins s1 σ H1 _ I1 q1) fun ws s2 ⟨zs,H2,I2,r2,q2⟩=>?_
 obtain ⟨l,ns,d,rfl,rfl,hl,q⟩:=q2
 obtain ⟨u,rfl,ru⟩:=vals1 r1
 obtain ⟨u2,rfl,ru2⟩:=vals1 r2
 obtain rfl:u=AT l:=ru
 exact call_mxD hc I2 hl ru2 q
end
section
variable {X:Cx} {pins:List (Addr×Obj)} {σ:St} {H:Hp} {s:Shared}
variable {elt iter tg:Expr} {ifs:List Expr} {scope:Scope} {pos:Pos} {own capn:List Str} {capI:List Nat} {wi:TI} {g:TG} {tt:TT} {te:TE}
end
section
variable {X:Cx} {pins:List (Addr×Obj)} {σ:St} {H:Hp} {s:Shared} {a:Addr} {u:HO} {o:Obj}
theorem HOk.swap {P:Program} {w:World} {h:Heap} {v v':HO} (ok:HOk P w H h) (e:H a=some v) (n1:∀ y,v≠.own y) (n2:∀ xs,v≠.tup xs) (new:ObjOk P w (upd H a v') h a v'):HOk P w (upd H a v') h:=fun b z q=>by
 by_cases hb:b=a
 ·subst hb
  rw [upd_same] at q
  cases q
  exact new
 ·rw [upd_ne hb] at q
  exact (ok b z q).stay (fun _ _ _ r=>r) (fun c r=>by rw [upd_ne (fun y=>by rw [y,e] at r; cases r; exact n1 _ rfl)]; exact r) (fun c xs r=>by rw [upd_ne (fun y=>by rw [y,e] at r; cases r; exact n2 _ rfl)]; exact r)
theorem Inv.swap {v v':HO} (I:Inv X pins σ H s) (e:H a=some v) (n1:∀ y,v≠.own y) (n2:∀ xs,v≠.tup xs) (n3:∀ p,v≠.tbl p) (n4:∀ o' u',v=.frz o' u'→X.H₀ a≠some (.frz o' u')) (new:ObjOk X.prog X.w (upd H a v') s.heap a v'):Inv X pins σ (upd H a v') s:=by
 have none':∀ b,H b=none→upd H a v' b=none:=fun b n=>by rw [upd_ne (fun y=>by rw [y,e] at n; cases n)]; exact n
 refine ⟨I.ok,I.os,I.bare,⟨I.base.keep,I.base.slot,fun b q r n x=>none' b (I.base.free b q r n x),I.base.there,fun b xs q=>?_,fun b o' u' q=>?_,fun b ps q=>?_⟩,I.loc,I.cell,none' _ I.free,fun x c q=>none' c (I.freeC x c q),fun p hp=>?_,I.hok.swap e n1 n2 new,I.len⟩
 ·have r:=I.base.tups b xs q
  rw [upd_ne (fun y=>by rw [y,e] at r; cases r; exact n2 _ rfl)]
  exact r
 ·have r:=I.base.frzs b o' u' q
  rw [upd_ne (fun y=>by rw [y,e] at r; cases r; rw [y] at q; exact n4 _ _ rfl q)]
  exact r
 ·obtain ⟨m,r⟩:=I.base.tbls b ps q
  exact ⟨m,by rw [upd_ne (fun y=>by rw [y,e] at r; cases r; exact n3 _ rfl)]; exact r⟩
 ·obtain ⟨r,n,z⟩:=I.pin p hp
  exact ⟨r,none' _ n,z⟩
def IsDc:HO→Prop
 | .dK _=>True
 | .dT _=>True
 | _=>False
theorem IsDc.at_ {P:Program} {w:World} {h:Heap} (d:IsDc u) (x:ObjOk P w H h a u):∃ o,h.get? a=some o:=by
 cases u with
 | dK kvs =>
  obtain ⟨_,_,vs,_,o,_,_,r,_⟩:=x
  exact ⟨o,r⟩
 | dT kvs =>
  obtain ⟨_,_,_,_,o,_,_,r,_⟩:=x
  exact ⟨o,r⟩
 | _=>exact d.elim
theorem IsDc.no (d:IsDc u):(∀ y,u≠.own y)∧(∀ xs,u≠.tup xs)∧(∀ p,u≠.tbl p)∧∀ o' u',u≠.frz o' u':=by
 cases u <;> first
  | exact d.elim
  | exact ⟨(fun _ z=>by cases z),(fun _ z=>by cases z),(fun _ z=>by cases z),(fun _ _ z=>by cases z)⟩
theorem ObjOk.mv {P:Program} {w:World} {h:Heap} {v v':HO} (x:ObjOk P w H h a u) (e:H a=some v) (n1:∀ y,v≠.own y) (n2:∀ xs,v≠.tup xs):ObjOk P w (upd H a v') h a u :=
 x.stay (fun _ _ _ r=>r) (fun c r=>by rw [upd_ne (fun y=>by rw [y,e] at r; cases r; exact n1 _ rfl)]; exact r) (fun c xs r=>by rw [upd_ne (fun y=>by rw [y,e] at r; cases r; exact n2 _ rfl)]; exact r)
theorem Inv.frz (I:Inv X pins σ H s) (d:IsDc u) (e:H a=some u) (ho:s.heap.get? a=some o):Inv X pins σ (upd H a (.frz o u)) s :=
 I.swap e d.no.1 d.no.2.1 d.no.2.2.1 (fun o' u' z=>(d.no.2.2.2 o' u' z).elim) ⟨ho,(I.hok a u e).mv e d.no.1 d.no.2.1⟩
theorem Inv.thaw (I:Inv X pins σ H s) (e:H a=some (.frz o u)) (n:X.H₀ a≠some (.frz o u)):Inv X pins σ (upd H a u) s :=
 I.swap e (fun _ z=>by cases z) (fun _ z=>by cases z) (fun _ z=>by cases z) (fun o' u' z=>by cases z; exact n) ((show ObjOk X.prog X.w H s.heap a (.frz o u) from I.hok a _ e).2.mv e (fun _ z=>by cases z) (fun _ z=>by cases z))
def tFrz (te:TE):TE:=fun σ H Q=>∃ a u,H a=some u∧IsDc u∧∀ o,te σ (upd H a (.frz o u)) fun v H'=>H' a=some (.frz o u)∧Q v (upd H' a u)
theorem pe_frz {e:Expr} {te:TE} (he:PE X e te):PE X e (tFrz te):=by
 intro pins s σ H Q I ⟨a,u,ea,d,h⟩
 obtain ⟨o,ho⟩:=d.at_ (I.hok a u ea)
 have n0:X.H₀ a≠some (.frz o u):=fun z=>by
  have r:=I.base.frzs a o u z
  rw [ea] at r
  exact d.no.2.2.2 _ _ (Aw r)
 exact thn (he pins s σ _ _ (I.frz d ea ho) (h o)) fun v s1 ⟨x,H1,I1,r1,e1,q1⟩=>⟨x,_,I1.thaw e1 n0,r1,q1⟩
end
section
variable {prog:Program} {w:World} {A:Around} {E:Value→Shared→Prop} {sh:Shared} {ic dc:Addr} {i ep:Nat} {od:Obj} {es:Array DictEntry} {Q:Option Value→Shared→Prop}
theorem nx_key (hi:sh.heap.IsKeyIter ic dc i es.size ep) (hd:sh.heap.get? dc=some od) (he:od.data=.dict es ep) (hl:i < es.size)
  (q:∀ h',h'.IsKeyIter ic dc (i + 1) es.size ep→Heap.SameBut ic sh.heap h'→Q (some es[i].key) { sh with heap:=h' }):wpAny (model prog w) A (pyNext (.ref ic)) Q E sh:=by
 obtain ⟨oi,e1,e2,e3⟩:=id hi
 unfold pyNext
 refine AB (wpAny_attempt (wpAny_callSpecial?_slot (name:=Str.ofString "__next__") hi.typeIs F.slot_dict_keyiterator_next (wpAny_call_entry F.slot_dict_keyiterator_next hi.typeIs F.entry_dict_keyiterator_next ?_ (F.args_dict_keyiterator_next_1 _))))
 refine AB (AG (AB (AB ?_)))
 first | refine AB (wpAny_typeNameOfWhole_keyiter hi.typeIs (AG (AB (wpAny_fieldsOf e1 e3 ?_)))) | refine AB (wpAny_typeNameOf_keyiter hi.typeIs (AG (AB (wpAny_fieldsOf e1 e3 ?_))))
 simp only [show Builtin.Dict_items.ownsTuple "dict_keyiterator"=false by decide,Bool.false_eq_true,if_false]
 show wpAny _ _ (if (AT dc == BD)=true then _ else _) _ _ sh
 rw [if_neg (show ¬ ((AT dc == BD)=true) from Ax)]
 refine AB (AG (AB (wpAny_dictEntries hd he ?_)))
 rw [if_neg (by simp)]
 refine AB (AG (AB (wpAny_dictEpoch hd he ?_)))
 rw [if_neg (by simp)]
 refine AG ?_
 simp only [show ¬ ((i:Int) < 0) from by omega,if_false,Aq,Array.getElem?_eq_getElem hl]
 refine AB ?_
 first | refine AB (wpAny_typeNameOfWhole_keyiter hi.typeIs (AG (AB (wpAny_isOneOf_keyiter hi.typeIs ?_)))) | refine AB (wpAny_typeNameOf_keyiter hi.typeIs (AG (AB (wpAny_isOneOf_keyiter hi.typeIs ?_))))
 show wpAny _ _ (setField (.ref ic) 1 (rawInt ((i:Int) + 1)) >>= _) _ _ sh
 refine AB (wpAny_setField e1 e3 (by simp) ?_)
 have hn:(sh.heap.update ic (Obj.mapFields (·.setIfInBounds 1 (rawInt ((i:Int) + 1))))).IsKeyIter ic dc (i + 1) es.size ep :=
  ⟨_,Heap.get?_update_self _ e1 (Obj.isFreed_of_fields (Obj.data_mapFields e3 _)),(Obj.cls_mapFields ..).trans e2,by rw [Obj.data_mapFields e3]; simp [rawInt]⟩
 refine AB (BE (AB (wpAny_isOneOf_keyiter (s:={ sh with heap:=sh.heap.update ic (Obj.mapFields (·.setIfInBounds 1 (rawInt ((i:Int) + 1)))) }) hn.typeIs ?_)))
 show wpAny _ _ (pure es[i].key) _ _ _; exact AG (AG ⟨_,rfl,AG (q _ hn (Heap.SameBut.update ..))⟩)
theorem nx_end (hh:A.handled=none) (hi:sh.heap.IsKeyIter ic dc i es.size ep) (hd:sh.heap.get? dc=some od) (he:od.data=.dict es ep) (hl:es.size≤i)
  (q:∀ h',Heap.ExtBut ic sh.heap h'→Q none { sh with heap:=h' }):wpAny (model prog w) A (pyNext (.ref ic)) Q E sh:=by
 obtain ⟨oi,e1,e2,e3⟩:=id hi
 unfold pyNext
 refine AB (wpAny_attempt (wpAny_callSpecial?_slot (name:=Str.ofString "__next__") hi.typeIs F.slot_dict_keyiterator_next (wpAny_call_entry F.slot_dict_keyiterator_next hi.typeIs F.entry_dict_keyiterator_next ?_ (F.args_dict_keyiterator_next_1 _))))
 refine AB (AG (AB (AB ?_)))
 first | refine AB (wpAny_typeNameOfWhole_keyiter hi.typeIs (AG (AB (wpAny_fieldsOf e1 e3 ?_)))) | refine AB (wpAny_typeNameOf_keyiter hi.typeIs (AG (AB (wpAny_fieldsOf e1 e3 ?_))))
 simp only [show Builtin.Dict_items.ownsTuple "dict_keyiterator"=false by decide,Bool.false_eq_true,if_false]
 show wpAny _ _ (if (AT dc == BD)=true then _ else _) _ _ sh
 rw [if_neg (show ¬ ((AT dc == BD)=true) from Ax)]
 refine AB (AG (AB (wpAny_dictEntries hd he ?_)))
 rw [if_neg (by simp)]
 refine AB (AG (AB (wpAny_dictEpoch hd he ?_)))
 rw [if_neg (by simp)]
 refine AG ?_
 simp only [show ¬ ((i:Int) < 0) from by omega,if_false,Aq,Array.getElem?_eq_none hl]
 refine AB ?_
 first | refine AB (wpAny_typeNameOfWhole_keyiter hi.typeIs (AG ?_)) | refine AB (wpAny_typeNameOf_keyiter hi.typeIs (AG ?_))
 show wpAny _ _ (setField (.ref ic) 0 .none >>= _) _ _ sh
 refine AB (wpAny_setField e1 e3 (by simp) ?_)
 show wpAny _ _ (newExc (.type "StopIteration") [] >>= _) _ _ _; refine AB ?_
 simp only [newExc,newTuple]; refine AB (wpAny_newObj_type ?_ (by size_fits))
 refine AB (m:=firstArgMember _ _) (wpAny_of_eq (a:=BD) (by first | rfl | (simp only [firstArgMember]; rfl)) (wpAny_newObj_type ?_ (by size_fits)))
 simp only [raiseNew]; refine AB (wpAny_handled ?_); rw [show A.in1.handled=none from hh]
 refine AB (AG (wpAny_throw ?_)); refine AB (wpAny_isInstance (T:="StopIteration") (b:=true) ⟨_,Ah _ rfl,rfl⟩ isSubtype_stop ?_)
 exact AG (q _ (((Heap.SameBut.update ..).extBut.push _).push _))
theorem it_key {Q:Value→Shared→Prop} (hs:(dc == sysModules)=false) (hd:sh.heap.get? dc=some od) (hx:od.ExactDict) (he:od.data=.dict es ep)
  (q:Q (.ref sh.heap.objs.size) { sh with heap:=sh.heap.push { cls:=.type "dict_keyiterator",data:=.fields #[.ref dc,.int 0 0,.int es.size 0,.int ep 0] } }):wpAny (model prog w) A (pyIter (.ref dc)) Q E sh:=by
 have ty:sh.TypeIs (.ref dc) "dict":=⟨od,hd,hx.1⟩
 refine wpAny_pyIter_slot ty F.slot_dict_iter (wpAny_call_entry F.slot_dict_iter ty F.entry_dict_iter ?_ (F.args_dict_iter_1 _))
 unfold Builtin.«dict.__iter__»; refine AB ?_; unfold Builtin.Dict.dictSlotNone
 refine AB (wpAny_notOrdered_dict ty ?_)
 show wpAny _ _ (pure (AT dc)) _ _ sh
 refine AG ?_
 show wpAny _ _ (Builtin.Dict.showsAll dc >>= _) _ _ sh
 unfold Builtin.Dict.showsAll
 rw [if_neg (by rw [hs]; exact Ax)]
 refine AB (AG (AB (wpAny_dictEntries hd he (AB (wpAny_dictEpoch hd he ?_)))))
 refine AB (wpAny_newObj_type (AG ⟨_,rfl,"dict_keyiterator",_,⟨_,Ah _ rfl,rfl⟩,F.slot_dict_keyiterator_next.lookup,?_⟩)); simpa [rawInt] using q
end
def Itk (o:Obj) (a:Addr):It :=
 ⟨fun i H=>∃ kvs p,H a=some (.frz o (.dT kvs))∧kvs[i]?=some p,fun i H x H'=>H'=H∧∃ t,x=.ref t∧∀ kvs p,H a=some (.frz o (.dT kvs))→kvs[i]?=some p→H t=some (.tup (p.1.map kV)),fun i H=>∃ kvs,H a=some (.frz o (.dT kvs))∧kvs.length=i⟩
theorem KT.get {H:Hp} {kvs:List (List Key×V)} {xs:List (List Key×Addr×Value)} (r:KT H kvs xs):xs.length=kvs.length∧∀ (i:Nat) (p:List Key×V),kvs[i]?=some p→∃ q,xs[i]?=some q∧H q.2.1=some (.tup (p.1.map kV)):=by
 induction r with
 | nil=>exact ⟨rfl,fun i p e=>by cases e⟩
 | @cons p q ps qs hq t ih =>
  refine ⟨by rw [AS,AS,ih.1],fun i p' e=>?_⟩
  cases i with
  | zero =>
   cases e
   exact ⟨q,rfl,hq.2.1⟩
  | succ i=>exact ih.2 i p' e
theorem turn_key {P:Program} {w:World} {K:PySem.W.Frag} {tg:Expr} {o:Obj} {es:Array DictEntry} {ep:Nat} (a it:Addr) (hd:o.data=.dict es ep):Turn P w K tg (Itk o a) [it] it (fun i h=>h.IsKeyIter it a i es.size ep) where
 mem:=by simp
 obj:=fun i h st b hb=>by
  have e:b=it:=by simpa using hb
  subst e
  obtain ⟨oi,e,c,d⟩:=st
  exact ⟨oi,e,fun v z=>by rw [d] at z; cases z⟩
 keep:=fun i h h' st k=>st.at fun oi e=>k it (by simp) oi e
 item:=by
  intro X hP hw hK hc i pins s σ H E I hf st hg
  subst hP hw hK
  obtain ⟨kvs,p,hq,hx⟩:=hg
  obtain ⟨ho,_,_,xs,r,od,es',ep',h1,h2,h3,h4,h5⟩:=(show ObjOk X.prog X.w H s.heap a (.frz o (.dT kvs)) from I.hok a _ hq)
  rw [ho] at h1
  cases h1
  rw [hd] at h3
  cases h3
  obtain ⟨rl,rg⟩:=KT.get r
  obtain ⟨q,hq1,hq2⟩:=rg i p hx
  have hsz:es.size=kvs.length:=by rw [← Ac,h4,AA,rl]
  have hil:i < es.size:=by rw [hsz]; exact (AF.mp hx).1
  have hkey:es[i].key=.ref q.2.1:=by
   have e1:es.toList[i]?=some es[i]:=by simp [hil]
   rw [h4,AH,hq1] at e1
   have e2:=(Aw e1).symm
   rw [e2]
   rfl
  obtain ⟨f0,f1,f2,f3,f4,f5⟩:=hf it (by simp)
  refine nx_key st ho hd hil fun h' st' sb=>?_
  rw [hkey]
  have I1:Inv X pins σ H { s with heap:=h' }:=I.turned (t':=s.toks) (fun b ob hb e=>(sb.2 b hb).trans e) f0 f1 f3 f4 f5
  obtain ⟨oi,e,c,d⟩:=id st'
  refine ⟨_,rfl,go_of (s:={ s with heap:=h' }) e c d (by decide) ⟨.ref q.2.1,H,I1,rfl,⟨rfl,q.2.1,rfl,fun kvs' p' hq' hx'=>?_⟩,st',fun b hb=>(hf b hb).1⟩⟩
  rw [hq] at hq'
  cases hq'
  rw [hx] at hx'
  cases hx'
  exact hq2
 done:=by
  intro X hP hw hK hc i pins s σ H E I hf st hg
  subst hP hw hK
  obtain ⟨kvs,hq,hx⟩:=hg
  obtain ⟨ho,_,_,xs,r,od,es',ep',h1,h2,h3,h4,h5⟩:=(show ObjOk X.prog X.w H s.heap a (.frz o (.dT kvs)) from I.hok a _ hq)
  rw [ho] at h1
  cases h1
  rw [hd] at h3
  cases h3
  have hsz:es.size=kvs.length:=by rw [← Ac,h4,AA,(KT.get r).1]
  obtain ⟨f0,f1,f2,f3,f4,f5⟩:=hf it (by simp)
  exact nx_end (I.ok.hd hc) st ho hd (by omega) fun h' eb=>⟨rfl,I.turned (t':=s.toks) (fun b ob hb e=>eb b ob hb e) f0 f1 f3 f4 f5⟩
 self:=fun _ _ _ _ _ st h=>wpAny_pyIter_keyiter st h
section
variable {X:Cx} {tg:Expr}
def iKeys (tl:TE):TI:=fun σ H R=>tl σ H fun x H1=>∃ a o kvs,x=.ref a∧H1 a=some (.frz o (.dT kvs))∧R (Itk o a) H1
theorem pi_keys {l:Expr} {tl:TE} (hl:PE X l tl):PI X tg l (iKeys tl):=by
 intro pins s σ H R I h
 refine thn (hl pins s σ H _ I h) fun v s1 ⟨x,H1,I1,r1,q1⟩=>?_
 obtain ⟨a,o,kvs,e,hq,q⟩:=q1
 subst e
 cases r1
 obtain ⟨ho,_,hs,xs,r,od,es,ep,h1,h2,h3,h4,h5⟩:=(show ObjOk X.prog X.w H1 s1.heap a (.frz o (.dT kvs)) from I1.hok a _ hq)
 rw [ho] at h1
 cases h1
 refine it_key hs ho h2 h3 ?_
 refine ⟨s1.heap.objs.size,[s1.heap.objs.size],_,_,H1,rfl,I1.kept (t':=s1.toks) fun b ob e=>AC _ e,turn_key a _ h3,⟨_,Ah _ rfl,rfl,rfl⟩,fun b hb=>?_,q⟩
 have e:b=s1.heap.objs.size:=by simpa using hb
 subst e
 exact I1.fpOk (AE _) (I1.hok.fresh (AE _))
end
theorem ky_ask {o:Obj} {a:Addr} {kvs:List (List Key×V)} {i:Nat} {H:Hp} {A:Prop} {B:V→Hp→Prop} (q:H a=some (.frz o (.dT kvs))) (hi:i≤kvs.length)
  (hs:∀ p,kvs[i]?=some p→i < kvs.length→∀ t,H t=some (.tup (p.1.map kV))→B (.ref t) H) (hd:i=kvs.length→A) :
  ((Itk o a).stop i H∧A)∨((Itk o a).go i H∧∀ x H',(Itk o a).yld i H x H'→B x H'):=by
 by_cases hlt:i < kvs.length
 ·refine .inr ⟨⟨kvs,kvs[i],q,AD hlt⟩,fun x H' y=>?_⟩
  obtain ⟨rfl,t,rfl,y⟩:=y
  exact hs kvs[i] (AD hlt) hlt t (y _ _ q (AD hlt))
 ·exact .inl ⟨⟨kvs,q,by omega⟩,hd (by omega)⟩
def Iti (o:Obj) (a:Addr):It :=
 ⟨fun i H=>∃ kvs p,H a=some (.frz o (.dK kvs))∧kvs[i]?=some p,fun i H x H'=>∃ T,x=.ref T∧H T=none∧∀ kvs p,H a=some (.frz o (.dK kvs))→kvs[i]?=some p→H'=upd H T (.tup [kV p.1,p.2]),fun i H=>∃ kvs,H a=some (.frz o (.dK kvs))∧kvs.length=i⟩
theorem KV.get {κ:Type} {kvs:List (κ×V)} {vs:List (κ×Value)} (r:KV kvs vs):∀ (i:Nat) (p:κ×V),kvs[i]?=some p→∃ v,vs[i]?=some (p.1,v)∧RelV p.2 v:=by
 unfold KV at r
 induction r with
 | nil=>exact fun i p e=>by cases e
 | @cons p q ps qs hq t ih =>
  intro i p' e
  cases i with
  | zero =>
   cases e
   exact ⟨q.2,by rw [hq.1]; rfl,hq.2⟩
  | succ i=>exact ih i p' e
theorem is_kV {P:Program} {w:World} {k:Key} {u:Value} (h:(mixKind P w).is k u=true):RelV (kV k) u:=by
 rcases keyIs_shape h with ⟨i,t,rfl,rfl⟩ | ⟨x,t,rfl,rfl⟩
 ·exact ⟨t,rfl⟩
 ·exact ⟨t,rfl⟩
theorem frz_dK {P:Program} {w:World} {H:Hp} {h:Heap} {a:Addr} {o:Obj} {kvs:List (Key×V)} {es:Array DictEntry} {ep:Nat} (ok:HOk P w H h) (hq:H a=some (.frz o (.dK kvs))) (hd:o.data=.dict es ep) :
  ∃ vs,KV kvs vs∧h.DictAt (mixKind P w) a vs ep∧es.size=vs.length∧(a == sysModules)=false∧o.ExactDict:=by
 obtain ⟨ho,_,hs,vs,r,od,es',ep',h1,h2,h3,h4,h5,h6⟩:=(show ObjOk P w H h a (.frz o (.dK kvs)) from ok a _ hq)
 rw [ho] at h1
 cases h1
 rw [hd] at h3
 cases h3
 exact ⟨vs,r,⟨o,es,ho,h2,hd,h4,h5,h6⟩,by rw [← h5.length]; simp,hs,h2⟩
theorem turn_items {P:Program} {w:World} {K:PySem.W.Frag} {elts:List Expr} {kk:Nat} {pos:Pos} {o:Obj} {es:Array DictEntry} {ep:Nat} (a it:Addr) (hd:o.data=.dict es ep):Turn P w K (.Tuple elts kk pos) (Iti o a) [it] it (fun i h=>∃ k v,IsItemIter h it a i es.size ep k v) where
 mem:=by simp
 obj:=fun i h st b hb=>by
  have e:b=it:=by simpa using hb
  subst e
  obtain ⟨k,v,e⟩:=st
  exact ⟨_,e,fun v z=>by
   have z':Data.fields _=Data.cell v:=z
   cases z'⟩
 keep:=fun i h h' st f=>by
  obtain ⟨k,v,e⟩:=st
  exact ⟨k,v,f it (by simp) _ e⟩
 item:=by
  intro X hP hw hK hc i pins s σ H E I hf st hg
  subst hP hw hK
  obtain ⟨kvs,p,hq,hx⟩:=hg
  obtain ⟨k0,v0,st⟩:=st
  obtain ⟨vs,r,da,hsz,_,_⟩:=frz_dK I.hok hq hd
  obtain ⟨v,hv,rv⟩:=KV.get r i p hx
  rw [hsz] at st
  refine wpAny_pyNext_items_item st da hv fun key h' hk out ht hs' k'=>⟨_,rfl,?_⟩
  refine wpAny_letOwnedTupleGo_items out fun h2 st2 sb=>?_
  have hlt:it≠s.heap.objs.size:=AU (AJ st)
  have ht2:h2.get? s.heap.objs.size=some { cls:=.type "tuple",data:=.seq #[key,v] }:=(sb.2 _ (Ne.symm hlt)).trans ht
  have I1:Inv X pins σ (upd H s.heap.objs.size (.tup [kV p.1,p.2])) { s with heap:=h2,toks:=s.toks } :=
   I.turnedT (wr:=[it]) (its:=[key,v]) (fun b ob hb e=>by
    have hb':b≠it:=fun z=>hb (by simp [z])
    exact (sb.2 b hb').trans (k' b ob hb' e)) hf (AE _) (by simpa using Ne.symm hlt) (vals_two (is_kV hk) rv) (show 2≤AR by decide) ⟨_,ht2,rfl,_,rfl⟩
  have hn:H s.heap.objs.size=none:=I.hok.fresh (AE _)
  refine ⟨.ref s.heap.objs.size,_,I1,rfl,⟨_,rfl,hn,fun kvs' p' hq' hx'=>?_⟩,⟨key,v,by rw [hsz]; exact st2⟩,fun b hb=>?_⟩
  ·rw [hq] at hq'
   cases hq'
   rw [hx] at hx'
   cases hx'
   rfl
  ·have e:b=it:=by simpa using hb
   subst e
   rw [upd_ne hlt]
   exact (hf b hb).1
 done:=by
  intro X hP hw hK hc i pins s σ H E I hf st hg
  subst hP hw hK
  obtain ⟨kvs,hq,hx⟩:=hg
  obtain ⟨k0,v0,st⟩:=st
  obtain ⟨vs,r,da,hsz,_,_⟩:=frz_dK I.hok hq hd
  rw [hsz] at st
  obtain ⟨f0,f1,f2,f3,f4,f5⟩:=hf it (by simp)
  exact wpAny_pyNext_items_end (I.ok.hd hc) st da (List.getElem?_eq_none (by rw [← r.length]; omega)) fun h' eb=>⟨rfl,I.turned (t':=s.toks) (fun b ob hb e=>eb b ob hb e) f0 f1 f3 f4 f5⟩
 self:=fun _ _ _ _ _ st h=>by
  obtain ⟨k,v,st⟩:=st
  exact PySem.W.kcp_self st h
section
variable {X:Cx} {elts:List Expr} {kk:Nat} {pt:Pos}
def iItems (tl:TE):TI:=fun σ H R=>tl σ H fun x H1=>∃ a o kvs,x=.ref a∧H1 a=some (.frz o (.dK kvs))∧R (Iti o a) H1
theorem pi_items {l:Expr} {tl:TE} {apos pos:Pos} (hl:PE X l tl) (hb:attributeBase l "items" X.env (eval l X.env)=eval l X.env:=by rfl) (hp:(apos.endLine == pos.line)=true:=by rfl):PI X (.Tuple elts kk pt) (.Call (.Attribute l "items" apos) [] [] pos) (iItems tl):=by
 intro pins s σ H R I h
 refine wpAny_Call_method0_late hb hp (thn (hl pins s σ H _ I h) fun v s1 ⟨x,H1,I1,r1,q1⟩=>?_)
 obtain ⟨a,o,kvs,e,hq,q⟩:=q1
 subst e
 cases r1
 obtain ⟨ho,_,hs,vs,r,od,es,ep,h1,h2,h3,h4⟩:=(show ObjOk X.prog X.w H1 s1.heap a (.frz o (.dK kvs)) from I1.hok a _ hq)
 rw [ho] at h1
 cases h1
 have dof:s1.heap.DictOf (mixKind X.prog X.w) a vs:=⟨o,es,ep,ho,h2,h3,h4⟩
 refine ⟨"dict","dict.items",PySem.F.plainAttrs_dict,PySem.F.slot_dict_items,PySem.F.type_dict_items,dof.typeIs,dof.mapOf.noDict,method_meetsIn PySem.F.slot_dict_items PySem.F.entry_dict_items rfl (PySem.evalArgs_none ⟨rfl,dof.typeIs,PySem.F.args_dict_items_1 _,_,meets_dict_items (mixKind X.prog X.w) a hs,⟨vs,dof⟩,?_⟩)⟩
 have I2:Inv X pins σ H1 { s1 with heap:=s1.heap.push { cls:=.type "dict_items",data:=.fields #[.ref a] } }:=I1.kept (t':=s1.toks) fun b ob e=>AC _ e
 obtain ⟨vs',r',da,hsz,_,_⟩:=frz_dK I2.hok hq h3
 refine wpAny_pyIter_items (s:={ s1 with heap:=s1.heap.push { cls:=.type "dict_items",data:=.fields #[.ref a] } }) ⟨_,Ah _ rfl,rfl,rfl⟩ da ?_
 refine ⟨_,[_],_,_,H1,rfl,I2.kept (t':=s1.toks) fun b ob e=>AC _ e,turn_items a _ h3,⟨.none,.none,by rw [hsz]; exact Ah _ rfl⟩,fun b hb=>?_,q⟩
 have e:=An.mp hb
 subst e
 exact I2.fpOk (AE _) (I2.hok.fresh (AE _))
end
theorem im_ask {o:Obj} {a:Addr} {kvs:List (Key×V)} {i:Nat} {H:Hp} {A:Prop} {B:V→Hp→Prop} (q:H a=some (.frz o (.dK kvs))) (hi:i≤kvs.length)
  (hs:∀ p,kvs[i]?=some p→i < kvs.length→∀ T,H T=none→B (.ref T) (upd H T (.tup [kV p.1,p.2]))) (hd:i=kvs.length→A) :
  ((Iti o a).stop i H∧A)∨((Iti o a).go i H∧∀ x H',(Iti o a).yld i H x H'→B x H'):=by
 by_cases hlt:i < kvs.length
 ·refine .inr ⟨⟨kvs,kvs[i],q,AD hlt⟩,fun x H' y=>?_⟩
  obtain ⟨T,rfl,hT,y⟩:=y
  rw [y _ _ q (AD hlt)]
  exact hs kvs[i] (AD hlt) hlt T hT
 ·exact .inl ⟨⟨kvs,q,by omega⟩,hd (by omega)⟩
theorem bools_items:∀ {bs:List Bool} {its:List Value},Vals (bs.map V.bl) its→its=bs.map Value.bool
 | [],its,h=>by cases h; rfl
 | b :: bs,its,h=>by
  cases h with
  | cons a r =>
   rw [bools_items r]
   cases a
   rfl
def rAnyB (K:PySem.W.Frag):List V→Hp→VK→Prop:=fun xs H Q=>∃ (l:Addr) (bs:List Bool),xs=[.ref l]∧SqL K H l (bs.map V.bl)∧Q (.bl (bs.any id)) H
theorem call_anyB {X:Cx} (hc:X.calm=true):CallR X (.builtin "any") (rAnyB X.K):=by
 intro pins s σ H xs us Q I r h
 obtain ⟨l,bs,rfl,hl,q⟩:=h
 obtain ⟨u,rfl,ru⟩:=vals1 r
 obtain rfl:u=AT l:=ru
 obtain ⟨its,v,P1,z1⟩:=I.list hl
 have e:=bools_items v
 subst e
 have hll:l < s.heap.objs.size:=by
  obtain ⟨o,z,_⟩:=P1.isList
  exact AJ z
 refine call_any_walk (wpAny_pyIter_list P1.isList ?_)
 refine ⟨s.heap.objs.size,_,_,_,_,_,(fun i=>bs.getD i false),rfl,Walks.list (A:=X.A.in1) (show X.A.in1.handled=none from I.ok.hd hc) s.heap.objs.size l (AU hll) (bs.map Value.bool).toArray,⟨⟨_,Ah _ rfl,rfl,rfl⟩,?_⟩,fun i v s' Q' E' hv hq=>?_,fun h' tk k=>?_⟩
 ·exact P1.isList.at fun o z=>AC _ z
 ·have hv':(bs.map Value.bool)[i]?=some v:=by simpa using hv
  rw [AH] at hv'
  cases hb:bs[i]? with
  | none=>rw [hb] at hv'; cases hv'
  | some b =>
   rw [hb] at hv'
   cases hv'
   refine wpAny_truthy_bool ?_
   have hq':Q' (bs.getD i false) s':=hq
   rw [List.getD_eq_getElem?_getD,hb] at hq'
   exact hq'
 ·have ea:((List.range (bs.map Value.bool).toArray.size).any fun i=>bs.getD i false)=bs.any id:=by
   rw [AQ,AA,Bool.eq_iff_iff,List.any_eq_true,List.any_eq_true]
   constructor
   ·rintro ⟨i,hi,hb⟩
    have hi':=BH.mp hi
    rw [List.getD_eq_getElem?_getD,AD hi'] at hb
    exact ⟨bs[i],Az hi',hb⟩
   ·rintro ⟨b,hb,e⟩
    obtain ⟨i,hi⟩:=List.getElem?_of_mem hb
    exact ⟨i,BH.mpr (AF.mp hi).1,by rw [List.getD_eq_getElem?_getD,hi]; exact e⟩
  rw [ea]
  have I1:Inv X pins σ H { s with heap:=s.heap.push { cls:=.type "list_iterator",data:=.fields #[.ref l,.int 0 0] } }:=I.kept (t':=s.toks) fun b ob e=>AC _ e
  refine ⟨.bl _,H,I1.turnedL (t':=tk) (wr:=[s.heap.objs.size]) k fun b hb=>?_,rfl,q⟩
  have e:=An.mp hb
  subst e
  exact I.fpOk (AE _) (I.hok.fresh (AE _))
section
variable {X:Cx} {o e:Expr} {to:TE} {te:XK→TE} {apos cpos:Pos}
theorem px_append (ho:∀ W,PE (X.wish W) o to) (ha:PX X e te)
  (hbase:attributeBase o "append" X.env (eval o X.env)=eval o X.env:=by rfl)
  (hfew:((backTo cpos (Ak [e] X.env)).all (fun x=>!x.1) && (backToKw cpos (keywordEach [] X.env)).all (fun x=>x.1.isSome) && decide (([e]:List Expr).length + ([]:List Keyword).length + (if ([]:List Keyword).isEmpty then 0 else 1) < 30))=true:=by rfl)
  (hline:(apos.endLine == cpos.line)=true:=by rfl) (hs:Ak [e] X.env=[(false,eval e X.env)]:=by rfl) :
  PX X (.Call (.Attribute o "append" apos) [e] [] cpos) (fun E=>tBM X.K "list" rAppend to (tCons (te E) tNil)):=by
 intro pins s σ H Q E W I h hx
 refine wpAny_Call_method_late hbase hfew hline rfl (thn (ho W pins s σ H _ (I.wish W) h) fun v s1 ⟨x,H1,I1,r1,ty,q1⟩=>?_)
 have I1':Inv X pins σ H1 s1:=I1.unwish
 obtain ⟨h1,h2⟩:=tyV_is I1' r1 ty
 refine ⟨"list","list.append",PySem.F.plainAttrs_list,PySem.F.slot_list_append,PySem.F.type_list_append,h1,h2,?_⟩
 rw [hs]
 refine Calls.callWith_builtin rfl (Calls.evalArgs_plain ?_)
 show wpAny _ _ (spliced ((false,eval e X.env) :: backTo cpos [])) _ _ s1
 refine Calls.spliced_cons (thn (ha pins s1 σ H1 _ E W I1' q1 hx) fun u s2 ⟨y,H2,I2,r2,q2⟩=>?_)
 refine Calls.spliced_nil ?_
 have I3:Inv (X.wish W) pins σ H2 s2:=I2.wish W
 have:=mt_append (X:=X.wish W) pins s2 σ H2 x [y] v [u] Q I3 r1 (.cons r2 .nil) q2
 exact thn this fun w s3 ⟨z,H3,I4,r4,q4⟩=>⟨z,H3,I4.unwish,r4,q4⟩
end
section
variable {X:Cx}
end
section
variable {X:Cx} {pins:List (Addr×Obj)} {σ:St} {H:Hp} {s:Shared} {a:Addr} {u:HO} {o:Obj}
end
section
variable {prog:Program} {w:World} {A:Around} {E:Value→Shared→Prop} {sh:Shared} {ic dc:Addr} {i ep:Nat} {od:Obj} {es:Array DictEntry}
end
section
variable {X:Cx}
end
end L2
namespace Srt
open PySem PySem.W PyProof.Rows
section
variable {n:Nat} {rk:Nat→Int} {S:Shared}
def ans (n:Nat) (rk:Nat→Int) (i j:Nat) (C:Bool→Shared→Prop) (s:Shared):Prop:=i < n∧j < n∧C (decide (rk i < rk j)) s
abbrev Wp (n:Nat) (rk:Nat→Int) (s:Shared) {α:Type} (t:KasT α) (Q:α→Prop):Prop:=t.kasWp (ans n rk) (fun a s'=>s'=s∧Q a) s
theorem wp_ret {α:Type} {a:α} {Q:α→Prop} (h:Q a):Wp n rk S (.ret a) Q:=⟨rfl,h⟩
theorem wp_ask {α:Type} {i j:Nat} {k:Bool→KasT α} {Q:α→Prop} (hi:i < n) (hj:j < n) (h1:rk i < rk j→Wp n rk S (k true) Q) (h2:rk j≤rk i→Wp n rk S (k false) Q):Wp n rk S (.ask i j k) Q:=by
 refine ⟨hi,hj,?_⟩
 by_cases h:rk i < rk j
 ·rw [decide_eq_true h]
  exact h1 h
 ·rw [decide_eq_false h]
  exact h2 (Int.not_lt.mp h)
theorem wp_go {α:Type} {s:Shared} {Q R:α→Shared→Prop} (h:∀ a s,Q a s→R a s):∀ (t:KasT α) (s:Shared),t.kasWp (ans n rk) Q s→t.kasWp (ans n rk) R s
 | .ret a,s,q=>h a s q
 | .ask _ _ k,s,q=>⟨q.1,q.2.1,wp_go (s:=s) h (k _) s q.2.2⟩
theorem wp_bind {α β:Type} {t:KasT α} {f:α→KasT β} {Q:β→Prop} (h:Wp n rk S t fun a=>Wp n rk S (f a) Q):Wp n rk S (t.bind f) Q:=by
 unfold Wp
 rw [KasT.kasWp_bind]
 refine wp_go (s:=S) (fun a s q=>?_) t S h
 obtain ⟨rfl,q⟩:=q
 exact q
theorem wp_mono {α:Type} {t:KasT α} {Q R:α→Prop} (q:Wp n rk S t Q) (h:∀ a,Q a→R a):Wp n rk S t R:=wp_go (s:=S) (fun a _ z=>⟨z.1,h a z.2⟩) t S q
def Ord (n:Nat) (p:Array Nat):Prop:=p.Perm (List.range n).toArray
theorem Ord.size {p:Array Nat} (h:Ord n p):p.size=n:=by
 rw [Array.Perm.size_eq h]
 simp
theorem Ord.lt {p:Array Nat} (h:Ord n p) {i:Nat} (hi:i < n):p.getD i 0 < n:=by
 have hz:i < p.size:=by rw [h.size]; exact hi
 have e:p.getD i 0=p[i]:=by simp [Array.getD,hz]
 have m:p[i]∈(List.range n).toArray.toList:=(Array.perm_iff_toList_perm.mp h).mem_iff.mp (by simp)
 rw [e]
 simpa using m
abbrev ky (rk:Nat→Int) (p:Array Nat) (i:Nat):Int:=rk (p.getD i 0)
theorem ky_of {p q:Array Nat} {i j:Nat} (h:p[i]?=q[j]?):ky rk p i=ky rk q j:=by
 unfold ky
 rw [Array.getD_eq_getD_getElem?,Array.getD_eq_getD_getElem?,h]
theorem ky_rev {p:Array Nat} {i j:Nat} (hj:j≤p.size) (k:Nat):ky rk (kas_rev p i j) k=if i≤k∧k < j then ky rk p (i + j - 1 - k) else ky rk p k:=by
 have e:=getElem?_mirror_all (i:=i) hj k
 unfold kas_rev
 by_cases h:i≤k∧k < j
 ·rw [if_pos h] at e ⊢
  exact ky_of e
 ·rw [if_neg h] at e ⊢
  exact ky_of e
theorem ky_bub {p:Array Nat} {c d:Nat} (hc:c < p.size) (hd:d≤c) (k:Nat):ky rk (bubble p c d) k=if k=c - d then ky rk p c else if c - d < k∧k≤c then ky rk p (k - 1) else ky rk p k:=by
 have e:=getElem?_bubble hc d hd k
 by_cases h1:k=c - d
 ·rw [if_pos h1] at e ⊢
  exact ky_of e
 ·rw [if_neg h1] at e ⊢
  by_cases h2:c - d < k∧k≤c
  ·rw [if_pos h2] at e ⊢
   exact ky_of e
  ·rw [if_neg h2] at e ⊢
   exact ky_of e
theorem Ord.rev {p:Array Nat} (h:Ord n p) (i j:Nat):Ord n (kas_rev p i j):=(mirror_perm _ _ _ _).trans h
theorem Ord.bub {p:Array Nat} (h:Ord n p) (i j:Nat):Ord n (bubble p i j):=(bubble_perm _ _ _).trans h
def Up (rk:Nat→Int) (p:Array Nat) (m:Nat):Prop:=∀ i j,i≤j→j < m→ky rk p i≤ky rk p j
def Dn (rk:Nat→Int) (p:Array Nat) (m:Nat):Prop:=∀ i j,i≤j→j < m→ky rk p j≤ky rk p i
theorem Up.snoc {p:Array Nat} {m:Nat} (h:Up rk p m) (h1:1≤m) (l:ky rk p (m - 1)≤ky rk p m):Up rk p (m + 1):=fun i j hij hj=>by
 by_cases e:j < m
 ·exact h i j hij e
 ·have:j=m:=by omega
  subst this
  by_cases e2:i=j
  ·rw [e2]; exact BC _
  ·exact Int.le_trans (h i (j - 1) (by omega) (by omega)) l
theorem Dn.snoc {p:Array Nat} {m:Nat} (h:Dn rk p m) (h1:1≤m) (l:ky rk p m≤ky rk p (m - 1)):Dn rk p (m + 1):=fun i j hij hj=>by
 by_cases e:j < m
 ·exact h i j hij e
 ·have:j=m:=by omega
  subst this
  by_cases e2:i=j
  ·rw [e2]; exact BC _
  ·exact Int.le_trans l (h i (j - 1) (by omega) (by omega))
theorem asc {p:Array Nat} (O:Ord n p) {Q:Nat→Prop}:∀ (f a:Nat),1≤a→a + f≤n→Up rk p a→(∀ m,a≤m→m≤a + f→Up rk p m→(m=a + f∨ky rk p m < ky rk p (m - 1))→Q m)→Wp n rk S (kas_asc p f a) Q
 | 0,a,_,_,u,h=>wp_ret (h a (AE _) (AE _) u (.inl rfl))
 | f + 1,a,h1,hn,u,h=>by
  refine wp_ask (O.lt (by omega)) (O.lt (by omega)) (fun c=>?_) (fun c=>?_)
  ·exact wp_ret (h a (AE _) (by omega) u (.inr c))
  ·exact asc O f (a + 1) (by omega) (by omega) (u.snoc h1 c) fun m h2 h3 um hm=>h m (by omega) (by omega) um (hm.imp (fun z=>by omega) id)
def Tl (rk:Nat→Int) (p:Array Nat) (m q:Nat):Prop:=∀ i,m - (q + 1)≤i→i < m→ky rk p i=ky rk p (m - 1)
theorem Tl.rev {p:Array Nat} {m q:Nat} (h:Tl rk p m q) (hm:m≤p.size) (k:Nat):ky rk (kas_rev p (m - (q + 1)) m) k=ky rk p k:=by
 rw [ky_rev hm]
 split
 ·rename_i c
  rw [h _ (by omega) (by omega),h k c.1 c.2]
 ·rfl
theorem Dn.like {p q:Array Nat} {m:Nat} (h:Dn rk p m) (e:∀ k,ky rk q k=ky rk p k):Dn rk q m:=fun i j hij hj=>by rw [e,e]; exact h i j hij hj
theorem desc {Q:Array Nat×Nat×Nat→Prop}:∀ (f:Nat) (p:Array Nat) (a q:Nat),Ord n p→1≤a→a + f≤n→Dn rk p a→Tl rk p a q→(∀ p' m q',Ord n p'→1≤m→m≤a + f→Dn rk p' m→Tl rk p' m q'→Q (p',m,q'))→Wp n rk S (kas_desc f p a q) Q
 | 0,p,a,q,O,h1,hn,d,t,h=>wp_ret (h p a q O h1 (AE _) d t)
 | f + 1,p,a,q,O,h1,hn,d,t,h=>by
  have next:∀ p' q',Ord n p'→Dn rk p' (a + 1)→Tl rk p' (a + 1) q'→Wp n rk S (kas_desc f p' (a + 1) q') Q:=fun p' q' O' d' t'=>desc f p' (a + 1) q' O' (by omega) (by omega) d' t' fun p2 m q2 O2 g1 g2 d2 t2=>h p2 m q2 O2 g1 (by omega) d2 t2
  have one:∀ p',Tl rk p' (a + 1) 0:=fun p' i g1 g2=>by
   have:i=a + 1 - 1:=by omega
   rw [this]
  refine wp_ask (O.lt (by omega)) (O.lt (by omega)) (fun c=>?_) (fun c=>?_)
  ·show Wp n rk S (if q > 0 then kas_desc f (kas_rev p (a - (q + 1)) a) (a + 1) 0 else kas_desc f p (a + 1) 0) Q
   have d2:=d.snoc h1 (Int.le_of_lt c)
   split
   ·exact next _ _ (O.rev _ _) (d2.like (t.rev (by rw [O.size]; omega))) (one _)
   ·exact next _ _ O d2 (one _)
  ·refine wp_ask (O.lt (by omega)) (O.lt (by omega)) (fun c2=>?_) (fun c2=>?_)
   ·exact wp_ret (h p a q O h1 (by omega) d t)
   ·have e:ky rk p a=ky rk p (a - 1):=Int.le_antisymm c2 c
    refine next _ _ O (d.snoc h1 c2) fun i g1 g2=>?_
    show _=ky rk p a
    by_cases z:i=a
    ·rw [z]
    ·rw [e]
     exact t i (by omega) (by omega)
abbrev Run (n:Nat) (rk:Nat→Int) (r:Nat×Array Nat):Prop:=1≤r.1∧r.1≤n∧Ord n r.2∧Up rk r.2 r.1
theorem tail3 {p:Array Nat} {m:Nat} (O:Ord n p) (h1:1≤m) (hm:m≤n) (d:Dn rk p m):Wp n rk S (kas_tail3 m n p) (Run n rk):=by
 have u:Up rk (kas_rev p 0 m) m:=fun i j hij hj=>by
  rw [ky_rev (by rw [O.size]; exact hm),ky_rev (by rw [O.size]; exact hm),if_pos ⟨Ap _,by omega⟩,if_pos ⟨Ap _,hj⟩]
  exact d _ _ (by omega) (by omega)
 exact wp_bind (asc (O.rev _ _) _ _ h1 (by omega) u fun k g1 g2 uk _=>wp_ret ⟨by omega,by omega,O.rev _ _,uk⟩)
theorem descPart {p:Array Nat} {m:Nat} (O:Ord n p) (hm:m + 1≤n) (d:Dn rk p (m + 1)):Wp n rk S (kas_descPart m n p) (Run n rk):=by
 refine wp_bind (desc _ _ _ _ O (by omega) (by omega) d (fun i g1 g2=>?_) fun p' k q O' g1 g2 d' t'=>?_)
 ·have:i=m + 1 - 1:=by omega
  rw [this]
 ·show Wp n rk S (if q > 0 then kas_tail3 k n (kas_rev p' (k - (q + 1)) k) else kas_tail3 k n p') _
  split
  ·exact tail3 (O'.rev _ _) g1 (by omega) (d'.like (t'.rev (by rw [O'.size]; omega)))
  ·exact tail3 O' g1 (by omega) d'
theorem count {p:Array Nat} (O:Ord n p) (h1:1≤n):Wp n rk S (kas_count n p) (Run n rk):=by
 refine wp_bind (asc O _ _ (AE 1) (by omega) (fun i j hij hj=>?_) fun m g1 g2 u hm=>?_)
 ·have:i=j:=by omega
  rw [this]
  exact BC _
 ·have g3:m≤n:=by omega
  show Wp n rk S (if (m == n)=true then .ret (m,p) else if m > 1 then .ask (p.getD 0 0) (p.getD (m - 1) 0) fun c=>if c=true then .ret (m,p) else kas_descPart m n (kas_rev p 0 m) else kas_descPart m n p) _
  split
  ·exact wp_ret ⟨g1,g3,O,u⟩
  ·rename_i c
   have g4:m < n:=by
    have:m≠n:=fun z=>c (by rw [z]; exact beq_self_eq_true _)
    omega
   have l:ky rk p m < ky rk p (m - 1):=hm.resolve_left (by omega)
   split
   ·rename_i c2
    refine wp_ask (O.lt (by omega)) (O.lt (by omega)) (fun _=>wp_ret ⟨g1,g3,O,u⟩) (fun c3=>?_)
    have al:∀ i,i < m→ky rk p i=ky rk p (m - 1):=fun i hi=>Int.le_antisymm (u i (m - 1) (by omega) (by omega)) (Int.le_trans c3 (u 0 i (by omega) hi))
    have t:Tl rk p m (m - 1):=fun i _ hi=>al i hi
    refine descPart (O.rev _ _) g4 ?_
    have e:∀ k,ky rk (kas_rev p 0 m) k=ky rk p k:=fun k=>by
     have:=t.rev (by rw [O.size]; exact g3) k
     rw [show m - (m - 1 + 1)=0 by omega] at this
     exact this
    refine Dn.like (Dn.snoc (fun i j _ hj=>?_) g1 (Int.le_of_lt l)) e
    rw [al i (by omega),al j hj]
    exact BC _
   ·have e1:m=1:=by omega
    subst e1
    refine descPart O g4 (Dn.snoc (fun i j _ hj=>?_) g1 (Int.le_of_lt l))
    have:i=j:=by omega
    rw [this]
    exact BC _
theorem place {p:Array Nat} (O:Ord n p) {k:Nat} (hk:k < n) (u:Up rk p k) {Q:Nat→Prop} (h:∀ l,l≤k→(∀ i,i < l→ky rk p i≤ky rk p k)→(∀ i,l≤i→i < k→ky rk p k≤ky rk p i)→Q l) :
  ∀ (f l r:Nat),l≤r→r≤k→r - l≤f→(∀ i,i < l→ky rk p i≤ky rk p k)→(∀ i,r≤i→i < k→ky rk p k≤ky rk p i)→Wp n rk S (kas_place p k f l r) Q
 | 0,l,r,a,b,c,d,e=>wp_ret (h l (by omega) d fun i g1 g2=>e i (by omega) g2)
 | f + 1,l,r,a,b,c,d,e=>by
  show Wp n rk S (if l ≥ r then .ret l else .ask (p.getD k 0) (p.getD ((l + r) / 2) 0) fun c=>if c=true then kas_place p k f l ((l + r) / 2) else kas_place p k f ((l + r) / 2 + 1) r) Q
  split
  ·exact wp_ret (h l (by omega) d fun i g1 g2=>e i (by omega) g2)
  ·refine wp_ask (O.lt hk) (O.lt (by omega)) (fun c1=>?_) (fun c1=>?_)
   ·exact place O hk u h f l ((l + r) / 2) (by omega) (by omega) (by omega) d fun i g1 g2=>Int.le_trans (Int.le_of_lt c1) (u _ _ g1 g2)
   ·exact place O hk u h f ((l + r) / 2 + 1) r (by omega) b (by omega) (fun i g1=>Int.le_trans (u _ _ (by omega) (by omega)) c1) e
theorem bin:∀ (f:Nat) (p:Array Nat) (k:Nat),Ord n p→k + f=n→Up rk p k→Wp n rk S (kas_bin f p k) fun p'=>Ord n p'∧Up rk p' n
 | 0,p,k,O,e,u=>wp_ret ⟨O,by rw [← e]; exact u⟩
 | f + 1,p,k,O,e,u=>by
  refine wp_bind (place O (by omega) u (fun l hl a b=>?_) _ _ _ (Ap _) (AE _) (by omega) (fun i hi=>by omega) (fun i g1 g2=>by omega))
  refine bin f _ (k + 1) (O.bub _ _) (by omega) fun i j hij hj=>?_
  have hz:k < p.size:=by rw [O.size]; omega
  rw [ky_bub hz (by omega),ky_bub hz (by omega),show k - (k - l)=l by omega]
  by_cases i1:i=l
  ·rw [if_pos i1]
   by_cases j1:j=l
   ·rw [if_pos j1]; exact BC _
   ·rw [if_neg j1,if_pos ⟨by omega,by omega⟩]
    exact b _ (by omega) (by omega)
  ·rw [if_neg i1]
   by_cases i2:l < i∧i≤k
   ·rw [if_pos i2,if_neg (by omega),if_pos ⟨by omega,by omega⟩]
    exact u _ _ (by omega) (by omega)
   ·rw [if_neg i2]
    by_cases j1:j=l
    ·rw [if_pos j1]
     exact a i (by omega)
    ·rw [if_neg j1]
     by_cases j2:l < j∧j≤k
     ·rw [if_pos j2]
      exact u _ _ (by omega) (by omega)
     ·rw [if_neg j2]
      exact u _ _ (by omega) (by omega)
theorem sort (h1:1≤n):Wp n rk S (kas_sort n) fun p=>Ord n p∧Up rk p n:=by
 refine wp_bind (wp_mono (count (Array.Perm.refl _) h1) fun r hr=>?_)
 obtain ⟨m,p⟩:=r
 obtain ⟨a,b,O,u⟩:=hr
 show Wp n rk S (if m < n then kas_bin (n - max m 1) p (max m 1) else .ret p) _
 split
 ·have e:max m 1=m:=Nat.max_eq_left a
  rw [e]
  exact bin _ _ _ O (by omega) u
 ·have e:m=n:=by
   have:m≤n:=b
   omega
  subst e
  exact wp_ret ⟨O,u⟩
end
theorem conv {n:Nat} {rk:Nat→Int} {S:Shared} {cmp:Nat→Nat→(Bool→Shared→Prop)→Shared→Prop} {α:Type} {Q:α→Shared→Prop} (hc:∀ i j C,i < n→j < n→C (decide (rk i < rk j)) S→cmp i j C S):∀ t:KasT α,t.kasWp (ans n rk) Q S→t.kasWp cmp Q S
 | .ret _,q=>q
 | .ask i j k,q=>hc i j _ q.1 q.2.1 (conv hc (k _) q.2.2)
end Srt
namespace L2
open PySem PySem.Spec PyProof.Rows PySem.W
def rkP (c:Int×Int):Int:=c.1 * 1099511627776 + c.2
def inP (c:Int×Int):Prop:=-274877906944≤c.2∧c.2≤274877906944
section
variable {prog:Program} {w:World} {A:Around} {E:Value→Shared→Prop} {s:Shared}
theorem ask_pair {c d:Int×Int} {t1 t2 u1 u2:Tok} {Q:Bool→Shared→Prop} (hc:inP c) (hd:inP d) (h:Q (decide (rkP c < rkP d)) s) :
  KatLex prog w A true false Q [(.int c.1 t1,.int d.1 u1),(.int c.2 t2,.int d.2 u2)] 0 s:=by
 obtain ⟨a,b⟩:=c
 obtain ⟨x,y⟩:=d
 obtain ⟨b1,b2⟩:-274877906944≤b∧b≤274877906944:=hc
 obtain ⟨y1,y2⟩:-274877906944≤y∧y≤274877906944:=hd
 have h':Q (decide (a * 1099511627776 + b < x * 1099511627776 + y)) s:=h
 refine kat_cons (wpAny_eqBool_int (kat_go (fun e=>kat_yes (kat_cons (wpAny_eqBool_int (kat_go (fun e2=>kat_yes (kat_nil ?_)) (fun e2=>kat_no ?_))))) (fun e=>kat_no ?_)))
 ·have e1:a=x:=eq_of_beq e
  have e3:b=y:=eq_of_beq e2
  rw [e1,e3,decide_eq_false (Int.lt_irrefl _)] at h'
  exact h'
 ·have e1:a=x:=eq_of_beq e
  show wpAny _ _ (oneLt' false (.int b t2) (.int y u2)) _ _ _
  refine kat_one _ _ (wpAny_lt_int ?_)
  show Q (decide (b < y)) s
  rw [show decide (b < y)=decide (a * 1099511627776 + b < x * 1099511627776 + y) from decide_eq_decide.mpr (by rw [e1]; omega)]
  exact h'
 ·have e1:a≠x:=fun z=>by rw [z,beq_self_eq_true] at e; cases e
  show wpAny _ _ (oneLt' true (.int a t1) (.int x u1)) _ _ _
  refine oneLt_int ?_
  rw [show decide (a < x)=decide (a * 1099511627776 + b < x * 1099511627776 + y) from decide_eq_decide.mpr (by omega)]
  exact h'
def KeptB (a:Addr) (h g:Heap):Prop:=∀ b o,b≠a→h.get? b=some o→g.get? b=some o
theorem sort_at {a:Addr} {vs:List Value} {m:Nat} {P:PySem.Fin→Shared→Prop} {rk:Nat→Int} (there:s.heap.get? a=some (seqObj "list" vs.toArray m)) (few:vs.length < 64)
  (ty:∀ g:Heap,KeptB a s.heap g→∃ fs,KatTups g vs fs∧fs.length=vs.length∧∀ v∈fs,∃ i t,v=.int i t)
  (ask:∀ g:Heap,KeptB a s.heap g→∀ i j C,i < vs.length→j < vs.length→C (decide (rk i < rk j)) { s with heap:=g }→kas_ask prog w A (tuples' true) vs i j C { s with heap:=g })
  (fin:∀ p:Array Nat,Srt.Ord vs.length p→Srt.Up rk p vs.length→P (.done (.ret .none)) { s with heap:=sortedHeap s.heap a vs (p.toList.map fun i=>vs.getD i BD).toArray }) :
  wpAny (model prog w) A (Builtin.«list.sort» ⟨[.ref a],[]⟩) P E s:=by
 have al:a < s.heap.objs.size:=AJ there
 have zl:vs.length≤AR:=by rw [sizeLine_eq]; omega
 rw [list_sort_plain]
 refine AB (listItems_at there rfl (AB (listUpdate_at there rfl ?_ (by rw [AQ]; omega) (Ap _))))
 obtain ⟨ep,gone⟩:∃ ep,(s.heap.update a (BA fun _=>#[])).get? a=some (seqObj "list" #[] ep):=⟨_,get?_update_seq there _⟩
 refine AB (seqEpoch_at gone rfl (AB (wpAny_newTuple ?_ (by show vs.length≤_; exact zl))))
 refine AB (wpAny_newList (BE ?_) (Ap _))
 have kept:KeptB a s.heap (((s.heap.update a (BA fun _=>#[])).push (seqObj "tuple" vs.toArray 0)).push (seqObj "list" #[] 0)):=fun b o ne e=>AC _ (AC _ (by rw [Heap.get?_update_ne _ _ _ _ ne]; exact e))
 have now:(((s.heap.update a (BA fun _=>#[])).push (seqObj "tuple" vs.toArray 0)).push (seqObj "list" #[] 0)).get? a=some (seqObj "list" #[] ep):=AC _ (AC _ gone)
 show wpAny (model prog w) A _ P E { s with heap:=_ }
 dsimp only
 by_cases two:vs.toArray.size < 2
 ·rw [if_pos two,if_pos two]
  refine AB (AG ?_)
  rw [StateT.run_pure]
  refine AB (AG ?_)
  dsimp only
  have e0:((vs.toArray.zip vs.toArray).map (·.2))=((List.range vs.length).toArray.toList.map fun i=>vs.getD i BD).toArray:=by
   apply Array.ext'
   simp only [Array.toList_map,Array.toList_zip,List.toList_toArray]
   rw [List.map_snd_zip (AE _)]
   apply List.ext_getElem?
   intro i
   rw [AH]
   by_cases hi:i < vs.length
   ·rw [List.getElem?_range hi,AD hi]
    simp [hi]
   ·rw [List.getElem?_eq_none (by omega),List.getElem?_eq_none (by rw [List.length_range]; omega)]
    rfl
  refine AB (seqEpoch_at now rfl (AB (listUpdate_at now rfl ?_ (Ap _) (by
   show ((vs.toArray.zip vs.toArray).map (·.2)).size≤_
   rw [Array.size_map,Array.size_zip,AQ,Nat.min_self]
   omega))))
  simp only [bne_self_eq_false,Bool.false_eq_true,if_false]
  have f0:=fin (List.range vs.length).toArray (Array.Perm.refl _) fun i j ij jl=>by
   rw [AQ] at two
   rw [show i=j by omega]
   exact BC _
  rw [← e0] at f0
  exact AG f0
 ·rw [if_neg two,if_neg two]
  rw [AQ] at two
  obtain ⟨fs,tups,fl,nums⟩:=ty _ kept
  refine AB (kat_kind (T:=.type "int") tups (by omega) (fun v hv=>by obtain ⟨i,t,rfl⟩:=nums v hv; exact Looks.of_pure rfl) rfl ?_)
  have run:=Srt.conv (Q:=fun p s'=>s'={ s with heap:=(((s.heap.update a (BA fun _=>#[])).push (seqObj "tuple" vs.toArray 0)).push (seqObj "list" #[] 0)) }∧Srt.Ord vs.length p∧Srt.Up rk p vs.length) (ask _ kept) (kas_sort vs.length) (Srt.sort (by omega))
  refine AB (wpAny_mono (kat_run (Q:=fun st' s'=>s'={ s with heap:=(((s.heap.update a (BA fun _=>#[])).push (seqObj "tuple" vs.toArray 0)).push (seqObj "list" #[] 0)) }∧∃ p:Array Nat,Srt.Ord vs.length p∧Srt.Up rk p vs.length∧arrOf st'=p.map (kas_item (vs.toArray.zip vs.toArray))∧failedOf st'=none)
   rfl (by omega) few (fun p st' s' _ b1 b2 g=>⟨g.1,p,g.2.1,g.2.2,b1,b2⟩) run) ?_ fun _ _ z=>z)
  rintro ⟨⟨⟩,st'⟩ s' ⟨rfl,p,o,u,b1,b2⟩
  dsimp only
  have e1:=kat_snds (ks:=vs) (vs:=vs) rfl b1
  rw [e1]
  refine AB (seqEpoch_at now rfl (AB (listUpdate_at now rfl ?_ (Ap _) (by
   show (List.toArray (p.toList.map fun i=>vs.getD i BD)).size≤_
   rw [AQ,AA,Ac,o.size]
   omega))))
  rw [b2]
  simp only [bne_self_eq_false,Bool.false_eq_true,if_false]
  exact AG (fin p o u)
theorem sorted_at {l:Addr} {vs:List Value} {Q:Value→Shared→Prop} {rk:Nat→Int} (hl:s.heap.IsList l vs.toArray) (few:vs.length < 64)
  (ty:∀ g:Heap,(∀ b o,s.heap.get? b=some o→g.get? b=some o)→∃ fs,KatTups g vs fs∧fs.length=vs.length∧∀ v∈fs,∃ i t,v=.int i t)
  (ask:∀ (B:Around) (g:Heap),(∀ b o,s.heap.get? b=some o→g.get? b=some o)→∀ i j C,i < vs.length→j < vs.length→C (decide (rk i < rk j)) { s with heap:=g }→kas_ask prog w B (tuples' true) vs i j C { s with heap:=g })
  (fin:∀ p:Array Nat,Srt.Ord vs.length p→Srt.Up rk p vs.length→Q (.ref (s.heap.objs.size + 1)) { s with heap:=sortedAll s.heap vs (p.toList.map fun i=>vs.getD i BD).toArray }) :
  wpAny (model prog w) A (call (.builtin "sorted") [.ref l]) Q E s:=by
 have zl:vs.length≤AR:=by rw [sizeLine_eq]; omega
 refine Calls.call_function_entry kind_sorted plain_sorted entry_sorted (args_sorted1 _) ?_
 unfold Builtin.«sorted»
 refine AB (m:=checkCount "sorted" 1 1 _) (AG (AB (collect_list hl (AB (wpAny_newList ?_ zl)) zl)))
 have z1:((s.heap.push (seqObj "list" #[] 0)).update s.heap.objs.size (BA (·++vs.toArray))).objs.size=s.heap.objs.size + 1:=by rw [Heap.size_update,size_push']
 have new:(((s.heap.push (seqObj "list" #[] 0)).update s.heap.objs.size (BA (·++vs.toArray))).push (seqObj "list" vs.toArray 0)).get? (s.heap.objs.size + 1)=some (seqObj "list" vs.toArray 0):=by
  rw [← z1]
  exact Ah _ rfl
 have old:∀ b o,s.heap.get? b=some o→(((s.heap.push (seqObj "list" #[] 0)).update s.heap.objs.size (BA (·++vs.toArray))).push (seqObj "list" vs.toArray 0)).get? b=some o:=fun b o e=>AC _ (by
  rw [Heap.get?_update_ne _ _ _ _ (AU (AJ e))]
  exact AC _ e)
 have ne:∀ b o,s.heap.get? b=some o→b≠s.heap.objs.size + 1:=fun b o e=>AU (Nat.lt_succ_of_lt (AJ e))
 show wpAny _ _ _ _ _ { s with heap:=_ }
 rw [z1]
 refine AB (BE (wpAny_call_entry slot_list_sort ⟨_,new,rfl⟩ entry_list_sort (sort_at (rk:=rk) new few (fun g k=>ty g fun b o e=>k b o (ne b o e) (old b o e)) (fun g k=>ask _ g fun b o e=>k b o (ne b o e) (old b o e)) fun p o u=>⟨_,rfl,AG ⟨_,rfl,fin p o u⟩⟩) (args_list_sort _)))
end
theorem paired_get {R:Addr→Int×Int→Prop}:∀ {ts:List Addr} {cs:List (Int×Int)},Paired R ts cs→ts.length=cs.length∧∀ i,i < ts.length→R (ts.getD i 0) (cs.getD i (0,0))
 | _,_,.nil=>⟨rfl,fun i h=>absurd h (Nat.not_lt_zero _)⟩
 | _,_,.cons (l₁:=ts) (l₂:=cs) r t=>by
  obtain ⟨a,b⟩:=paired_get t
  refine ⟨by rw [AS,AS,a],fun i h=>?_⟩
  cases i with
  | zero=>exact r
  | succ i=>exact b i (Nat.lt_of_succ_lt_succ h)
theorem paired_map {α β γ:Type} {R:β→γ→Prop} {f:α→β} {g:α→γ}:∀ l:List α,(∀ i∈l,R (f i) (g i))→Paired R (l.map f) (l.map g)
 | [],_=>.nil
 | i :: l,h=>.cons (h i AZ) (paired_map l fun j hj=>h j (Aa _ hj))
theorem map_getD {α:Type} (d:α) (l:List α):(List.range l.length).map (fun i=>l.getD i d)=l:=by
 apply List.ext_getElem?
 intro i
 rw [AH]
 by_cases hi:i < l.length
 ·rw [List.getElem?_range hi,AD hi]
  simp [hi]
 ·rw [List.getElem?_eq_none (by rw [List.length_range]; omega),List.getElem?_eq_none (by omega)]
  rfl
theorem vals_refs:∀ {ts:List Addr} {its:List Value},Vals (ts.map V.ref) its→its=ts.map AT
 | [],_,.nil=>rfl
 | t :: ts,_,.cons r q=>by
  cases r
  rw [vals_refs q]
  rfl
theorem refs_vals:∀ ts:List Addr,Vals (ts.map V.ref) (ts.map AT)
 | []=>.nil
 | _ :: ts=>.cons rfl (refs_vals ts)
def PrIs (h:Heap) (t:Addr) (c:Int×Int):Prop:=∃ (t1 t2:Tok) (o:Obj) (n:Nat),h.get? t=some o∧o.cls=.type "tuple"∧o.data=.seq (List.toArray [Value.int c.1 t1,Value.int c.2 t2]) n
theorem PrIs.tups {h:Heap}:∀ {ts:List Addr} {cs:List (Int×Int)},Paired (PrIs h) ts cs→∃ fs,PySem.W.KatTups h (ts.map AT) fs∧fs.length=(ts.map AT).length∧∀ v∈fs,∃ i t,v=Value.int i t
 | _,_,.nil=>⟨[],PySem.W.KatTups.nil,rfl,fun v hv=>by cases hv⟩
 | _,_,.cons (l₁:=ts) r t=>by
  obtain ⟨fs,a,b,c⟩:=PrIs.tups t
  obtain ⟨t1,t2,o,n,h1,h2,h3⟩:=r
  refine ⟨Value.int _ t1 :: fs,PySem.W.KatTups.cons h1 h2 h3 rfl a,by rw [Af,AS,AS,b],fun v hv=>?_⟩
  rcases AK.mp hv with rfl | hv
  ·exact ⟨_,_,rfl⟩
  ·exact c v hv
inductive rSortP (K:PySem.W.Frag) (xs:List V) (H:Hp) (Q:VK):Prop
 | mk (l:Addr) (ts:List Addr) (cs:List (Int×Int)) (h0:xs=[.ref l]) (h1:SqL K H l (ts.map V.ref)) (h2:Paired (fun t c=>SqT K H t [.int c.1,.int c.2]) ts cs) (h3:ts.length < 64) (h4:∀ c∈cs,inP c)
   (h5:∀ (D:Addr) (us:List Addr) (ds:List (Int×Int)),H D=none→ds.Perm cs→ds.Pairwise (fun a b=>rkP a≤rkP b)→us.length=ts.length→(∀ R:Addr→Int×Int→Prop,Paired R ts cs→Paired R us ds)→Q (.ref D) (upd H D (.lst (us.map V.ref)))):rSortP K xs H Q
section
variable {X:Cx}
theorem call_sortP:CallR X (.builtin "sorted") (rSortP X.K):=by
 intro pins s σ H xs us Q I r h
 obtain ⟨l,ts,cs,rfl,hl,tp,few,bnd,q⟩:=h
 obtain ⟨u,rfl,ru⟩:=vals1 r
 cases ru
 obtain ⟨its,v,P1,z1⟩:=I.list hl
 rw [vals_refs v] at P1
 rw [AA] at z1
 obtain ⟨tl,tg⟩:=paired_get tp
 have pi:∀ t c,SqT X.K H t [.int c.1,.int c.2]→PrIs s.heap t c:=fun t c ht=>by
  obtain ⟨its,v,⟨o,h1,h2,n,h3⟩,_⟩:=I.tuple ht
  obtain ⟨a,b,rfl,⟨t1,rfl⟩,⟨t2,rfl⟩⟩:=v.two
  exact ⟨t1,t2,o,n,h1,h2,h3⟩
 have pp:Paired (PrIs s.heap) ts cs:=Paired.mapP tp pi
 have keepP:∀ g:Heap,(∀ b o,s.heap.get? b=some o→g.get? b=some o)→∀ t c,PrIs s.heap t c→PrIs g t c:=fun g k t c ⟨t1,t2,o,n,h1,h2,h3⟩=>⟨t1,t2,o,n,k _ _ h1,h2,h3⟩
 have gd:∀ i,i < ts.length→(ts.map AT).getD i BD=AT (ts.getD i 0):=fun i hi=>by simp [hi]
 have hcs:∀ i,i < ts.length→inP (cs.getD i (0,0)):=fun i hi=>by
  have hi2:i < cs.length:=by omega
  have e:cs.getD i (0,0)=cs[i]:=by simp [hi2]
  rw [e]
  exact bnd _ (Az hi2)
 refine sorted_at (rk:=fun i=>rkP (cs.getD i (0,0))) P1.isList (by rw [AA]; exact few) (fun g k=>PrIs.tups (Paired.mapP pp (keepP g k))) (fun B g k i j C hi hj hC=>?_) (fun p o up=>?_)
 ·rw [AA] at hi hj
  have a1:=(paired_get (Paired.mapP pp (keepP g k))).2 i hi
  have a2:=(paired_get (Paired.mapP pp (keepP g k))).2 j hj
  obtain ⟨t1,t2,o1,n1,b1,_,b3⟩:=a1
  obtain ⟨u1,u2,o2,n2,d1,_,d3⟩:=a2
  unfold PySem.W.kas_ask
  rw [gd i hi,gd j hj]
  exact PySem.W.kat_lt b1 b3 d1 d3 (ask_pair (hcs i hi) (hcs j hj) hC)
 ·rw [AA] at o up
  have pl:p.toList.Perm (List.range ts.length):=by
   have:=Array.perm_iff_toList_perm.mp o
   simpa using this
  have lt:∀ i∈p.toList,i < ts.length:=fun i hi=>BH.mp (pl.mem_iff.mp hi)
  have ev:(p.toList.map fun i=>(ts.map AT).getD i BD)=(p.toList.map fun i=>ts.getD i 0).map AT:=by
   rw [List.map_map]
   exact List.map_congr_left fun i hi=>gd i (lt i hi)
  have ul:(p.toList.map fun i=>ts.getD i 0).length=ts.length:=by rw [AA,Ac,o.size]
  obtain ⟨c',hc'⟩:=sortedAll_at s.heap (ts.map AT) (p.toList.map fun i=>(ts.map AT).getD i BD).toArray
  refine ⟨.ref (s.heap.objs.size + 1),upd H (s.heap.objs.size + 1) (.lst ((p.toList.map fun i=>ts.getD i 0).map V.ref)),I.laid (t':=s.toks) (fun b ob e=>sortedAll_old e) (Nat.le_succ _) (show ObjOk X.prog X.w _ _ _ (.lst _) from ⟨by rw [AA,ul]; exact z1,_,c',refs_vals _,by rw [← ev]; exact hc'⟩),rfl,?_⟩
  refine q _ _ (p.toList.map fun i=>cs.getD i (0,0)) (I.hok.fresh (Nat.le_succ _)) ?_ ?_ ul fun R hR=>?_
  ·have:=pl.map fun i=>cs.getD i (0,0)
   rw [tl,map_getD] at this
   exact this
  ·rw [List.pairwise_map,List.pairwise_iff_getElem]
   intro i j hi hj hij
   have hi':i < p.size:=by simpa using hi
   have hj':j < p.size:=by simpa using hj
   have:=up i j (Nat.le_of_lt hij) (by rw [← o.size]; exact hj')
   unfold Srt.ky at this
   rw [show p.getD i 0=p.toList[i] by simp [Array.getD,hi'],show p.getD j 0=p.toList[j] by simp [Array.getD,hj']] at this
   exact this
  ·have g:=(paired_get hR).2
   exact paired_map _ fun i hi=>g i (lt i hi)
end
end L2
namespace L2
open PySem PySem.Spec PyProof.Rows
theorem lam_run {CX:CXT} {P:Program} {w:World} {K:PySem.W.Frag} {mg:Str→Option Value} {base:Heap} {k:Nat} {q c':Addr} {name qual:Str} {params:Arguments} {body:Expr} {scope:Scope} {pm ctv:Value} {N ps:List Str} {A:Around} {outer:List Env} {s:Shared} {H:Hp} {args:Args}
  {us:List Value} {vs:List V} {Q:VK} {E:XK} {t:TE} (ho:s.heap.get? q=some (PySem.W.kla_obj name qual params body scope [] pm c' ctv)) (hcd:s.heap.CodeRec (.ref c') qual) (S:FnScope N ps scope) (hr:Room (k + 1) A) (e0:Env0 P w K mg base A outer s H)
  (hb:BindsTo s (PySem.W.kla_fn name qual params body scope [] pm (.ref c') ctv) args (ps.zip us)) (r:Vals vs us) (hl:vs.length=ps.length)
  (ht:Room k (A.deeper (envOfC qual scope s.heap.objs.size q (.ref c')))→PE (cxOf CX P w K mg base N qual scope q (.ref c') A outer s H E) body t) (hq:t (start N vs) H Q) :
  codeAny (model P w) A (.call (.ref q) args) (CR CX outer P w H s Q E) s:=by
 have KX:K.In s.heap:=e0.mod.kin.keeps fun b o e=>(e0.bs b o e).1
 have lim:s.heap.NoLimit:=e0.mod.nolimit.keeps fun b o e=>(e0.bs b o e).1
 have hkind:∀ y∈ps.zip us,scope.names.lookup y.1=some .local∨(scope.names.lookup y.1=some .cell∧((cellsFrom (s.heap.objs.size + 1) scope.names []).lookup y.1).isSome=true):=fun ⟨n,v⟩ hy=>by
  rcases S.par n (List.of_mem_zip hy).1 with q | q
  ·exact .inl q
  ·exact .inr ⟨q,PySem.W.cellsFrom_some _ _ _ (.inl q)⟩
 refine PySem.W.kla_callFunE hr.depth ho rfl S.co S.gen rfl hcd (hb _ _ _ _ ?_)
 refine wpAny_newFunctionEnv_cells S.kind hkind fun env he s1 x=>?_
 subst he
 refine ⟨lim.keeps x.toInCall.keep,PySem.W.kla_codeExpr ?_⟩
 have I:Inv (cxOf CX P w K mg base N qual scope q (.ref c') A outer s H E) [] (start N vs) H s1:=inv_start S hr.hd e0 hl r x
 refine wpAny_mono (ht (hr.deeper _) [] s1 (start N vs) H _ I hq) (fun u s' hs=>?_) fun e s' hs=>hs
 obtain ⟨v,H',J,rv,q'⟩:=hs
 exact ⟨v,H',J.os,J.bare,J.base,J.hok,rv,q'⟩
def BmB (mg:Str→Option Value) (base:Heap):Prop:=∃ (bm:Addr) (ob:Obj),mg "__builtins__"=some (.ref bm)∧bm≠builtinsNs∧bm≠Ab∧base.get? bm=some ob∧ob.cls=.type "module"∧ob.dict=some builtinsNs∧ob.data=.plain
structure LamT (K:PySem.W.Frag) (mg:Str→Option Value) (base:Heap) (c P:Addr):Prop where
 hd:PySem.W.codeHdIn K c P=true
 bm:BmB mg base
def CodO (c':Addr) (qual:Str):HO:=.ext fun h=>h.CodeRec (.ref c') qual
def TabAt (P:Addr) (pos:Pos) (qual:Str) (H:Hp):Prop:=H P=some (.tbl #[])∨∃ c':Addr,H P=some (.tbl #[rawInt pos.line,rawInt pos.col,.ref c'])∧H c'=some (CodO c' qual)
theorem codO_ok {P:Program} {w:World} {H:Hp} {h:Heap} {c':Addr} {qual:Str} (x:h.CodeRec (.ref c') qual):ObjOk P w H h c' (CodO c' qual):=by
 have st:∀ h1 h2:Heap,h1.CodeRec (.ref c') qual→(∀ o,h1.get? c'=some o→h2.get? c'=some o)→h2.CodeRec (.ref c') qual:=fun h1 h2 ⟨c,oc,vs,tq,e,g,d,v⟩ k=>by
  cases e
  exact ⟨_,oc,vs,tq,rfl,k _ g,d,v⟩
 refine ⟨x,?_,st⟩
 obtain ⟨c,oc,vs,tq,e,g,d,v⟩:=x
 cases e
 exact ⟨oc,g⟩
section
variable {X:Cx} {pins:List (Addr×Obj)} {σ:St} {H:Hp} {s:Shared} {c P:Addr} {params:Arguments} {body:Expr} {scope:Scope} {pos:Pos}
theorem lam_eval {clos:List (Str×Addr)} {A:Around} {E:Value→Shared→Prop} (I:Inv X pins σ H s) (L:LamT X.K X.mg X.base c P) (hcode:X.env.code=.ref c) (hcl:closureFor scope X.env=pure clos) (hdef:defaultsOf params X.env=([],[])) (tb:TabAt P pos (X.env.qual++"<lambda>") H) :
  wpAny (model X.prog X.w) A (eval (.Lambda params body scope pos) X.env) (fun v s'=>∃ (q c':Addr) (ctv:Value) (H':Hp),v=.ref q∧Inv X pins σ H' s'∧s'.heap.get? q=some (PySem.W.kla_obj "<lambda>" (X.env.qual++"<lambda>") params body scope clos ((X.mg "__name__").getD .none) c' ctv) ∧
   H' q=none∧H' c'=some (CodO c' (X.env.qual++"<lambda>"))∧s.heap.objs.size≤q∧(∀ b o,b≠P→H b=some o→H' b=some o)∧(∀ b,H' b=none→H b=none)∧TabAt P pos (X.env.qual++"<lambda>") H') E s:=by
 have C:PySem.W.CodeHd s.heap c P:=PySem.W.codeHd_of_K I.kIn L.hd
 have G:s.heap.Ns Ab X.mg:=I.ok.mod.glob.keeps I.bk
 have hP:∃ ps,H P=some (.tbl ps):=by
  rcases tb with e | ⟨_,e,_⟩ <;> exact ⟨_,e⟩
 have bsn:∀ b o,X.base.get? b=some o→b≠P:=fun b o e z=>by
  obtain ⟨ps,hps⟩:=hP
  have:=(I.bs b o e).2
  rw [z,hps] at this
  cases this
 have B:s.heap.BuiltinsAt X.mg P:=by
  obtain ⟨bm,ob,e1,e2,e3,e4,e5,e6,e7⟩:=L.bm
  exact ⟨bm,ob,e1,e2,e3,bsn bm ob e4,I.bk _ _ e4,e5,e6,e7⟩
 have gP:Ab≠P:=by
  obtain ⟨o,es,ep,e,_⟩:=I.ok.mod.glob
  exact bsn _ o e
 refine PySem.W.kla_eval hdef ?_
 rcases tb with e | ⟨c',e,ec⟩
 ·have hp0:s.heap.get? P=some (PySem.W.tabObj #[]):=I.hok P _ e
  refine PySem.W.kla_makeFunction (mg:=X.mg) hcl I.ok.glob G hcode C hp0 trivial (by rfl) gP B fun c' ctv h' tk hx hge hlt hrec htb=>?_
  have sz:s.heap.objs.size < h'.objs.size:=Nat.lt_of_le_of_lt hge hlt
  have hcn:H c'=none:=I.hok.fresh hge
  have hqn:H h'.objs.size=none:=I.hok.fresh (Nat.le_of_lt sz)
  have ncP:c'≠P:=fun z=>by rw [z,e] at hcn; cases hcn
  have nqP:h'.objs.size≠P:=fun z=>by rw [z,e] at hqn; cases hqn
  have nqc:h'.objs.size≠c':=Nat.ne_of_gt hlt
  obtain ⟨ps,hps⟩:∃ ps:Array Value,(#[]:Array Value)++#[rawInt pos.line,rawInt pos.col,.ref c']=ps:=⟨_,rfl⟩
  have hps':ps=#[rawInt pos.line,rawInt pos.col,.ref c']:=by rw [← hps]; rfl
  rw [hps] at htb
  have up:∀ b o,b≠P→b≠c'→upd (upd H P (.tbl ps)) c' (CodO c' (X.env.qual++"<lambda>")) b=some o→H b=some o:=fun b o h1 h2 z=>by
   rw [upd_ne h2,upd_ne h1] at z
   exact z
  have dn:∀ b o,b≠P→H b=some o→upd (upd H P (.tbl ps)) c' (CodO c' (X.env.qual++"<lambda>")) b=some o:=fun b o h1 z=>by
   rw [upd_ne (fun y=>by rw [y,hcn] at z; cases z),upd_ne h1]
   exact z
  have hPP:upd (upd H P (.tbl ps)) c' (CodO c' (X.env.qual++"<lambda>")) P=some (.tbl ps):=by rw [upd_ne (Ne.symm ncP),upd_same]
  have keep:∀ b o,b≠P→s.heap.get? b=some o→(h'.push (PySem.W.kla_obj "<lambda>" (X.env.qual++"<lambda>") params body scope clos ((X.mg "__name__").getD .none) c' ctv)).get? b=some o:=fun b o h1 z=>AC _ (hx b o h1 z)
  have nP:∀ b,H b=none→b≠P:=fun b n z=>by rw [z,e] at n; cases n
  have un:Un X.fs [] H (upd (upd H P (.tbl ps)) c' (CodO c' (X.env.qual++"<lambda>"))) s.heap (h'.push (PySem.W.kla_obj "<lambda>" (X.env.qual++"<lambda>") params body scope clos ((X.mg "__name__").getD .none) c' ctv)):=by
   refine ⟨fun b o z n _ _=>keep b o (nP b n) z,fun b o z n _ _=>⟨o.slots,keep b o (nP b n) z⟩,fun b o z n _=>?_,fun b o z _=>?_,fun b xs z=>dn b _ (fun y=>by rw [y,e] at z; cases z) z,fun b o u z=>dn b _ (fun y=>by rw [y,e] at z; cases z) z,fun b qs z=>?_⟩
   ·rw [upd_ne (AU (AX (AJ z) hge)),upd_ne (nP b n)]
    exact n
   ·by_cases y:b=P
    ·exact ⟨_,by rw [y]; exact AC _ htb⟩
    ·exact ⟨o,keep b o y z⟩
   ·by_cases y:b=P
    ·subst y
     rw [e] at z
     cases z
     exact ⟨_,by rw [hPP,← hps]⟩
    ·exact ⟨#[],by rw [dn b _ y z]; simp⟩
  have hok:HOk X.prog X.w (upd (upd H P (.tbl ps)) c' (CodO c' (X.env.qual++"<lambda>"))) (h'.push (PySem.W.kla_obj "<lambda>" (X.env.qual++"<lambda>") params body scope clos ((X.mg "__name__").getD .none) c' ctv)):=fun b u z=>by
   by_cases y1:b=c'
   ·subst y1
    rw [upd_same] at z
    cases z
    refine codO_ok ?_
    obtain ⟨c,oc,vs,tq,e1,g,d,v⟩:=hrec
    exact ⟨c,oc,vs,tq,e1,AC _ g,d,v⟩
   ·by_cases y2:b=P
    ·subst y2
     rw [hPP] at z
     cases z
     exact AC _ htb
    ·refine (I.hok b u (up b u y2 y1 z)).stay (fun d v hd g=>keep d v ?_ g) (fun d g=>dn d _ (fun y=>by rw [y,e] at g; cases g) g) fun d xs g=>dn d _ (fun y=>by rw [y,e] at g; cases g) g
     rcases hd with rfl | hd
     ·exact y2
     ·exact fun y=>by rw [y,e] at hd; cases hd
  refine ⟨h'.objs.size,c',ctv,_,rfl,I.un (t':=tk) un hok,Ah _ rfl,?_,upd_same,Nat.le_of_lt sz,fun b o h1 z=>dn b o h1 z,fun b z=>?_,.inr ⟨c',?_,upd_same⟩⟩
  ·rw [upd_ne nqc,upd_ne nqP]
   exact hqn
  ·by_cases y1:b=c'
   ·rw [y1]; exact hcn
   ·by_cases y2:b=P
    ·rw [y2,hPP] at z; cases z
    ·rw [upd_ne y1,upd_ne y2] at z; exact z
  ·rw [hPP,hps']
 ·have hp0:s.heap.get? P=some (PySem.W.tabObj #[rawInt pos.line,rawInt pos.col,.ref c']):=I.hok P _ e
  refine PySem.W.kla_makeFunctionHit (mg:=X.mg) (cv:=.ref c') hcl I.ok.glob G hcode C hp0 (show TriplesOk ([]:List Value) from trivial) (codeAmong_snoc (pos:=pos) (c:=.ref c') [] trivial rfl) B fun ctv h' tk hk hsz=>?_
  have hqn:H h'.objs.size=none:=I.hok.fresh hsz
  exact ⟨h'.objs.size,c',ctv,H,rfl,I.kept (t':=tk) (fun b o z=>AC _ (hk b o z)),Ah _ rfl,hqn,ec,hsz,fun b o _ z=>z,fun b z=>z,.inr ⟨c',e,ec⟩⟩
end
def lt2 (p q:Int×Int):Prop:=p.1 < q.1∨(p.1=q.1∧p.2 < q.2)
theorem lexLt2 (p q:Int×Int):HT.lexLt [p.1,p.2] [q.1,q.2]=true↔lt2 p q:=by
 rw [HT.lexLt_cons]
 unfold lt2
 by_cases h:p.1=q.1
 ·rw [if_pos h,HT.lexLt_cons]
  by_cases g:p.2=q.2
  ·rw [if_pos g,HT.lexLt_nil_nil]
   constructor
   ·intro z; cases z
   ·intro z; omega
  ·rw [if_neg g]
   constructor
   ·intro z; exact .inr ⟨h,of_decide_eq_true z⟩
   ·intro z; exact decide_eq_true (by omega)
 ·rw [if_neg h]
  constructor
  ·intro z; exact .inl (of_decide_eq_true z)
  ·intro z; exact decide_eq_true (by omega)
section
variable {X:Cx} {pins:List (Addr×Obj)} {σ:St} {H H0:Hp} {s0:Shared} {l q I S:Addr} {ts:List Addr} {ks:Nat→Int×Int} {oq:Obj} {R:Result→Shared→Prop}
theorem Inv.beyond (I0:Inv X pins σ H0 s0) {b:Addr} (h:s0.heap.objs.size≤b):b ∉ frs X.stack∧b≠X.env.locals∧(∀ x c,X.env.cells.lookup x=some c→c≠b)∧(∀ p∈X.pn++pins,p.1≠b)∧X.s₀.heap.objs.size≤b:=by
 have hl:b≠X.env.locals:=fun z=>by
  have:=I0.lt
  rw [z] at h
  exact absurd (AX this h) (Nat.lt_irrefl _)
 refine ⟨fun z=>?_,hl,fun x c e z=>?_,fun p hp z=>?_,Au I0.sz h⟩
 ·rcases AK.mp (I0.stkSub b z) with y | y
  ·exact hl y
  ·exact I0.nofs h y
 ·obtain ⟨v,o,ho,_⟩:=I0.cell x c e
  rw [z] at ho
  exact absurd (AX (AJ ho) h) (Nat.lt_irrefl _)
 ·have:=(I0.pin p hp).1
  rw [z] at this
  exact absurd (AX (AJ this) h) (Nat.lt_irrefl _)
def TurnOk (X:Cx) (pins:List (Addr×Obj)) (σ:St) (H:Hp) (q:Addr) (oq:Obj) (ts:List Addr) (ks:Nat→Int×Int):Prop :=
 ∀ (i:Nat) (t:Addr),ts[i]?=some t→∀ (H1:Hp) (s1:Shared),Inv X pins σ H1 s1→Same H H1→s1.heap.get? q=some oq→H1 q=none →
  wpAny (model X.prog X.w) X.A.in1 (call (.ref q) [.ref t]) (fun v s2=>∃ (p:Addr) (H2:Hp),v=.ref p∧Inv X pins σ H2 s2∧Un (frs X.stack) [] H1 H2 s1.heap s2.heap∧Same H1 H2∧H2 p=some (.tup [.int (ks i).1,.int (ks i).2])) (fun _ _=>False) s1
theorem refs_of:∀ {ts:List Addr} {us:List Value},Vals (ts.map V.ref) us→us=ts.map AT
 | [],_,.nil=>rfl
 | t :: ts,_,.cons r rs=>by
  cases r
  rw [Af,refs_of rs]
theorem isList_of {H1:Hp} {s1:Shared} (J:Inv X pins σ H1 s1) (hl:H1 l=some (.lst (ts.map V.ref))):s1.heap.IsList l (ts.map AT).toArray:=by
 obtain ⟨its,rv,⟨o,n,e,c,_,d⟩,_⟩:=J.list (SqL.of hl)
 rw [refs_of rv] at d
 exact ⟨o,e,c,n,d⟩
theorem min_loop (hh:X.A.handled=none) (hu:X.A.in1.units < cLine) (I0:Inv X pins σ H0 s0) (hl:H l=some (.lst (ts.map V.ref))) (turn:TurnOk X pins σ H q oq ts ks) (hI:s0.heap.objs.size≤I) (hS:s0.heap.objs.size≤S) (hq:s0.heap.objs.size≤q) (hlI:l≠I) (hSI:S≠I) (hqI:q≠I) (hqS:q≠S)
  (hR:∀ i t H' s',ts[i]?=some t→(∀ j,j < ts.length→¬ lt2 (ks j) (ks i))→Inv X pins σ H' s'→Same H H'→R (.ok (.ret (.ref t))) s') :
  ∀ (r j i:Nat) (H1:Hp) (s1:Shared) (tb kb:Addr) (c:Nat),ts.length - (j + 1)=r→j + 1≤ts.length→Inv X pins σ H1 s1→Same H H1→H1 I=none→H1 S=none→H1 q=none→s1.heap.get? q=some oq→s1.heap.get? S=some (seqObj "list" #[.ref tb,.ref kb] c) →
   H1 kb=some (.tup [.int (ks i).1,.int (ks i).2])→s1.heap.IsListIter I l (j + 1)→ts[i]?=some tb→(∀ j',j'≤j→¬ lt2 (ks j') (ks i)) →
   codeAny (model X.prog X.w) X.A (.builtin "min.loop" ⟨[.ref I,.ref q,.ref S],[]⟩) R s1:=by
 have hname:(toString "min"++toString ".loop":String)="min.loop":=by decide
 have W:=Walks.list (prog:=X.prog) (w:=X.w) (A:=X.A.in1) hh I l hlI (ts.map AT).toArray
 have hsz:(ts.map AT).toArray.size=ts.length:=by rw [AQ,AA]
 have bI:=I0.beyond hI
 have bS:=I0.beyond hS
 have bq:=I0.beyond hq
 have turnI:∀ {H1:Hp} {s1:Shared} {h':Heap} {tk:Nat},Inv X pins σ H1 s1→H1 I=none→(∀ b o,b ∉ [I]→s1.heap.get? b=some o→h'.get? b=some o)→Inv X pins σ H1 { s1 with heap:=h',toks:=tk }:=fun J n k =>
  J.turned (fun b o hb e=>k b o (by simpa using hb) e) n bI.2.1 (.inr bI.2.2.2.2) bI.2.2.1 bI.2.2.2.1
 have turnS:∀ {H1:Hp} {s1:Shared} {h':Heap} {tk:Nat},Inv X pins σ H1 s1→H1 S=none→Heap.SameBut S s1.heap h'→Inv X pins σ H1 { s1 with heap:=h',toks:=tk }:=fun J n k =>
  J.turned (fun b o hb e=>(k.2 b hb).trans e) n bS.2.1 (.inr bS.2.2.2.2) bS.2.2.1 bS.2.2.2.1
 intro r
 induction r with
 | zero =>
  intro j i H1 s1 tb kb c hr hj J sm nI nS nq eq eS ek hit htb best
  have hin:j + 1=ts.length:=by omega
  refine codeAny_builtin PySem.F.entry_min_loop ?_
  rw [Around.under_plainId PySem.F.plain_min_loop _]
  show wpAny _ X.A.in1 (seqItems? (.ref S) >>= _) _ _ _
  refine AB (wpAny_seqItems eS rfl ?_)
  show wpAny _ X.A.in1 (tryCatch (pyNext (.ref I)) _ >>= _) _ _ _
  refine AB (wpAny_tryCatch (W.done _ _ _ ⟨by rw [hsz,← hin]; exact hit,isList_of J (sm _ _ hl)⟩ fun h' tk' hk'=>?_))
  have J1:=turnI (tk:=tk') J nI hk'
  have hS':=hk' S _ (by simpa using hSI) eS
  have sb:=Heap.SameBut.update h' S (BA fun _=>(#[]:Array Value))
  show wpAny _ X.A.in1 (updateSeq S (fun _=>#[]) >>= _) _ _ _
  refine AB ?_
  refine wpAny_updateSeq hS' rfl (AB (wpAny_letGo (AG ?_)))
  exact hR i tb H1 _ htb (fun j' hj'=>best j' (by omega)) (turnS J1 nS sb) sm
 | succ r ih =>
  intro j i H1 s1 tb kb c hr hj J sm nI nS nq eq eS ek hit htb best
  have hlt:j + 1 < ts.length:=by omega
  refine codeAny_builtin PySem.F.entry_min_loop ?_
  rw [Around.under_plainId PySem.F.plain_min_loop _]
  show wpAny _ X.A.in1 (seqItems? (.ref S) >>= _) _ _ _
  refine AB (wpAny_seqItems eS rfl ?_)
  show wpAny _ X.A.in1 (tryCatch (pyNext (.ref I)) _ >>= _) _ _ _
  refine AB (wpAny_tryCatch (W.item (j + 1) _ _ _ (by rw [hsz]; exact hlt) ⟨hit,isList_of J (sm _ _ hl)⟩ fun v h' tk' hP hst' hk'=>?_))
  obtain ⟨t,ht⟩:∃ t,ts[j + 1]?=some t:=⟨_,AD hlt⟩
  have hv:v=.ref t:=by
   have hP':(ts.map AT).toArray[j + 1]?=some v:=by simpa using hP
   rw [List.getElem?_toArray,AH,ht] at hP'
   exact (Aw hP').symm
  subst hv
  have J1:=turnI (tk:=tk') J nI hk'
  have eS1:=hk' S _ (by simpa using hSI) eS
  have eq1:=hk' q _ (by simpa using hqI) eq
  show wpAny _ X.A.in1 (tryCatch (holding [.ref t] (call (.ref q) [.ref t])) _ >>= _) _ _ _
  refine AB (wpAny_tryCatch (BE (wpAny_mono (turn (j + 1) t ht H1 _ J1 sm eq1 nq) (fun x s2 he=>?_) fun _ _ hF=>hF.elim)))
  obtain ⟨p,H2,rfl,J2,un,sm2,ep⟩:=he
  have eS2:=un.keep S _ eS1 nS bS.1 (by simp)
  have nS2:=un.free S _ eS1 nS (by simp)
  have eq2:=un.keep q _ eq1 nq bq.1 (by simp)
  have nq2:=un.free q _ eq1 nq (by simp)
  obtain ⟨oI',hoI',hoc,hod⟩:=id hst'.1
  have eI2:=un.keep I _ hoI' nI bI.1 (by simp)
  have nI2:=un.free I _ hoI' nI (by simp)
  have hit2:s2.heap.IsListIter I l (j + 1 + 1):=⟨oI',eI2,hoc,hod⟩
  have ek2:=sm2 _ _ ek
  obtain ⟨its1,rv1,tp1,_⟩:=J2.tuple (SqT.of ep)
  obtain ⟨its2,rv2,tp2,_⟩:=J2.tuple (SqT.of ek2)
  have i1:IntsAre its1.toArray.toList [(ks (j + 1)).1,(ks (j + 1)).2]:=intsAre_of (ns:=[(ks (j + 1)).1,(ks (j + 1)).2]) rv1
  have i2:IntsAre its2.toArray.toList [(ks i).1,(ks i).2]:=intsAre_of (ns:=[(ks i).1,(ks i).2]) rv2
  show wpAny _ X.A.in1 (tryCatch (holding [.ref t,.ref p] (richCompare .Lt (.ref p) (.ref kb) >>= _)) _ >>= _) _ _ _
  refine AB (wpAny_tryCatch (BE (AB (HT.lt_tupInts tp1 tp2 i1 i2 hu ?_))))
  refine AB (BE (wpAny_truthy_bool ?_))
  refine AB (wpAny_letGo (AG ?_))
  by_cases hb:lt2 (ks (j + 1)) (ks i)
  ·rw [(lexLt2 _ _).mpr hb]
   have sb:=Heap.SameBut.update s2.heap S (BA fun _=>#[.ref t,.ref p])
   obtain ⟨c2,hc2⟩:∃ c2,(s2.heap.update S (BA fun _=>#[.ref t,.ref p])).get? S=some (seqObj "list" #[.ref t,.ref p] c2):=⟨_,get?_update_seq eS2 fun _=>#[.ref t,.ref p]⟩
   simp only [if_true]
   refine AB ?_
   refine wpAny_updateSeq eS2 rfl (AB (wpAny_letGo ?_))
   rw [hname]
   refine AG ⟨plainId_quiet PySem.F.plain_min_loop _,ih (j + 1) (j + 1) H2 _ t p c2 (by omega) hlt (turnS (tk:=s2.toks) J2 nS2 sb) (sm.trans sm2) nI2 nS2 nq2 ((sb.2 q hqS).trans eq2) hc2 ep ⟨oI',(sb.2 I hSI.symm).trans eI2,hoc,hod⟩ ht fun j' hj'=>?_⟩
   by_cases e:j'=j + 1
   ·subst e
    unfold lt2
    omega
   ·have b1:=best j' (by omega)
    unfold lt2 at b1 hb ⊢
    omega
  ·have hf:HT.lexLt [(ks (j + 1)).1,(ks (j + 1)).2] [(ks i).1,(ks i).2]=false:=by
    cases z:HT.lexLt [(ks (j + 1)).1,(ks (j + 1)).2] [(ks i).1,(ks i).2] with
    | false=>rfl
    | true=>exact absurd ((lexLt2 _ _).mp z) hb
   rw [hf]
   simp only [Bool.false_eq_true,if_false]
   refine AB (wpAny_letGo ?_)
   rw [hname]
   refine AG ⟨plainId_quiet PySem.F.plain_min_loop _,ih (j + 1) i H2 _ tb kb c (by omega) hlt J2 (sm.trans sm2) nI2 nS2 nq2 eq2 eS2 ek2 hit2 htb fun j' hj'=>?_⟩
   by_cases e:j'=j + 1
   ·subst e
    exact hb
   ·exact best j' (by omega)
end
section
variable {X:Cx} {pins:List (Addr×Obj)} {σ:St} {H H0:Hp} {s s0:Shared} {l q:Addr} {ts:List Addr} {ks:Nat→Int×Int} {oq:Obj} {Q:Value→Shared→Prop} {E:Value→Shared→Prop}
theorem min_lam (hh:X.A.handled=none) (hu:X.A.in1.units < cLine) (J:Inv X pins σ H s) (I0:Inv X pins σ H0 s0) (hss:s0.heap.objs.size≤s.heap.objs.size) (hl:H l=some (.lst (ts.map V.ref))) (hne:0 < ts.length) (turn:TurnOk X pins σ H q oq ts ks) (hq:s0.heap.objs.size≤q) (eq:s.heap.get? q=some oq) (nq:H q=none)
  (hQ:∀ i t H' s',ts[i]?=some t→(∀ j,j < ts.length→¬ lt2 (ks j) (ks i))→Inv X pins σ H' s'→Same H H'→Q (.ref t) s') :
  wpAny (model X.prog X.w) X.A (call (.builtin "min") [.ref l] [(Str.ofString "key",.ref q)]) Q E s:=by
 have hname:(toString "min"++toString ".loop":String)="min.loop":=by decide
 have hls:=isList_of J hl
 obtain ⟨ol,hol,_⟩:=id hls
 have hll:l < s.heap.objs.size:=AJ hol
 have hqq:q < s.heap.objs.size:=AJ eq
 refine kmk_tree PySem.F.kind_min PySem.F.plain_min PySem.F.entry_min (kmk_min_key _ _) ?_
 show wpAny _ X.A.in1 (Builtin.Builtins.bindParams "min" ["key","default"] 0 ⟨[],[(Str.ofString "key",.ref q)]⟩ >>= _) _ _ s
 refine AB (wpAny_of_eq (show Builtin.Builtins.bindParams "min" ["key","default"] 0 ⟨[],[(Str.ofString "key",.ref q)]⟩=pure [some (.ref q),none] from rfl) ?_)
 refine AB (AG ?_)
 refine AB (wpAny_pyIter_list hls ?_)
 refine AB (wpAny_newList ?_ (Ap _))
 rw [hname]
 have hS:(s.heap.push { cls:=.type "list_iterator",data:=.fields #[.ref l,.int 0 0] }).objs.size=s.heap.objs.size + 1:=size_push' ..
 have hlI:l≠s.heap.objs.size:=AU hll
 have hSI:(s.heap.push { cls:=.type "list_iterator",data:=.fields #[.ref l,.int 0 0] }).objs.size≠s.heap.objs.size:=by rw [hS]; exact Nat.ne_of_gt (Nat.lt_succ_self _)
 have hqI:q≠s.heap.objs.size:=AU hqq
 have hqS:q≠(s.heap.push { cls:=.type "list_iterator",data:=.fields #[.ref l,.int 0 0] }).objs.size:=by rw [hS]; exact AU (Nat.lt_succ_of_lt hqq)
 have hI0:s0.heap.objs.size≤s.heap.objs.size:=hss
 have hS0:s0.heap.objs.size≤(s.heap.push { cls:=.type "list_iterator",data:=.fields #[.ref l,.int 0 0] }).objs.size:=by rw [hS]; exact Nat.le_succ_of_le hss
 have nI:H s.heap.objs.size=none:=J.hok.fresh (AE _)
 have nS:H (s.heap.push { cls:=.type "list_iterator",data:=.fields #[.ref l,.int 0 0] }).objs.size=none:=J.hok.fresh (by rw [hS]; exact Nat.le_succ _)
 have kp:∀ b o,s.heap.get? b=some o→((s.heap.push { cls:=.type "list_iterator",data:=.fields #[.ref l,.int 0 0] }).push (seqObj "list" #[] 0)).get? b=some o:=fun b o e=>AC _ (AC _ e)
 refine AG ⟨plainId_quiet PySem.F.plain_min_loop _,?_⟩
 have gI:((s.heap.push { cls:=.type "list_iterator",data:=.fields #[.ref l,.int 0 0] }).push (seqObj "list" #[] 0)).get? s.heap.objs.size=some { cls:=.type "list_iterator",data:=.fields #[.ref l,.int 0 0] } :=
  AC _ (Ah _ rfl)
 have gS:((s.heap.push { cls:=.type "list_iterator",data:=.fields #[.ref l,.int 0 0] }).push (seqObj "list" #[] 0)).get? (s.heap.push { cls:=.type "list_iterator",data:=.fields #[.ref l,.int 0 0] }).objs.size=some (seqObj "list" #[] 0):=Ah _ rfl
 have W:=Walks.list (prog:=X.prog) (w:=X.w) (A:=X.A.in1) hh s.heap.objs.size l hlI (ts.map AT).toArray
 have hsz:(ts.map AT).toArray.size=ts.length:=by rw [AQ,AA]
 have J0:Inv X pins σ H { s with heap:=(s.heap.push { cls:=.type "list_iterator",data:=.fields #[.ref l,.int 0 0] }).push (seqObj "list" #[] 0) }:=J.kept (t':=s.toks) kp
 have bI:=I0.beyond hI0
 have bS:=I0.beyond hS0
 have bq:=I0.beyond hq
 generalize hSa:(s.heap.push { cls:=.type "list_iterator",data:=.fields #[.ref l,.int 0 0] }).objs.size=S at *
 generalize hIa:s.heap.objs.size=I at *
 refine codeAny_builtin PySem.F.entry_min_loop ?_
 rw [Around.under_plainId PySem.F.plain_min_loop _]
 show wpAny _ X.A.in1 (seqItems? (.ref _) >>= _) _ _ _
 refine AB (wpAny_seqItems gS rfl ?_)
 show wpAny _ X.A.in1 (tryCatch (pyNext (.ref I)) _ >>= _) _ _ _
 refine AB (wpAny_tryCatch (W.item 0 _ _ _ (by rw [hsz]; exact hne) ⟨⟨_,gI,rfl,rfl⟩,isList_of J0 hl⟩ fun v h' tk' hP hst' hk'=>?_))
 obtain ⟨t,ht⟩:∃ t,ts[0]?=some t:=⟨_,AD hne⟩
 have hv:v=.ref t:=by
  have hP':(ts.map AT).toArray[0]?=some v:=by simpa using hP
  rw [List.getElem?_toArray,AH,ht] at hP'
  exact (Aw hP').symm
 subst hv
 obtain ⟨oI',hoI',hoc,hod⟩:=id hst'.1
 have J1:=Inv.turned (h':=h') (t':=tk') (it:=I) J0 (fun b o hb e=>hk' b o (by simpa using hb) e) nI bI.2.1 (.inr bI.2.2.2.2) bI.2.2.1 bI.2.2.2.1
 have eS1:=hk' S _ (by simpa using hSI) gS
 have eq1:=hk' q _ (by simpa using hqI) (kp q _ eq)
 show wpAny _ X.A.in1 (tryCatch (holding [.ref t] (call (.ref q) [.ref t])) _ >>= _) _ _ _
 refine AB (wpAny_tryCatch (BE (wpAny_mono (turn 0 t ht H _ J1 (Same.refl _) eq1 nq) (fun x s2 he=>?_) fun _ _ hF=>hF.elim)))
 obtain ⟨p,H2,rfl,J2,un,sm2,ep⟩:=he
 have eS2:=un.keep S _ eS1 nS bS.1 (by simp)
 have nS2:=un.free S _ eS1 nS (by simp)
 have eq2:=un.keep q _ eq1 nq bq.1 (by simp)
 have nq2:=un.free q _ eq1 nq (by simp)
 have eI2:=un.keep I _ hoI' nI bI.1 (by simp)
 have nI2:=un.free I _ hoI' nI (by simp)
 have sb:=Heap.SameBut.update s2.heap S (BA fun _=>#[.ref t,.ref p])
 obtain ⟨c2,hc2⟩:∃ c2,(s2.heap.update S (BA fun _=>#[.ref t,.ref p])).get? S=some (seqObj "list" #[.ref t,.ref p] c2):=⟨_,get?_update_seq eS2 fun _=>#[.ref t,.ref p]⟩
 have J3:Inv X pins σ H2 { s2 with heap:=s2.heap.update S (BA fun _=>#[.ref t,.ref p]) }:=J2.turned (t':=s2.toks) (fun b o hb e=>(sb.2 b hb).trans e) nS2 bS.2.1 (.inr bS.2.2.2.2) bS.2.2.1 bS.2.2.2.1
 show wpAny _ X.A.in1 (updateSeq S (fun _=>#[.ref t,.ref p]) >>= _) _ _ _
 refine AB ?_
 refine wpAny_updateSeq eS2 rfl ?_
 rw [hname]
 refine AG ⟨plainId_quiet PySem.F.plain_min_loop _,min_loop hh hu I0 hl turn hI0 hS0 hq hlI hSI hqI hqS hQ _ 0 0 H2 _ t p c2 rfl hne J3 sm2 nI2 nS2 nq2 ((sb.2 q hqS).trans eq2) hc2 ep ⟨oI',(sb.2 I hSI.symm).trans eI2,hoc,hod⟩ ht fun j' hj'=>?_⟩
 have e:j'=0:=by omega
 subst e
 unfold lt2
 omega
end
def MinB (P:Addr) (lpos:Pos) (qual:Str) (Q:VK) (v:V) (H1:Hp):Prop:=∃ (l:Addr) (ts:List Addr) (cs:List (Int×Int)),v=.ref l∧H1 l=some (.lst (ts.map V.ref))∧(∀ (i:Nat) (t:Addr),ts[i]?=some t→∃ c:Int×Int,cs[i]?=some c∧H1 t=some (.tup [.int c.1,.int c.2]))∧ts.length=cs.length∧0 < ts.length∧TabAt P lpos qual H1 ∧
 ∀ (i:Nat) (t:Addr) (c:Int×Int) (H':Hp),ts[i]?=some t→cs[i]?=some c→(∀ d∈cs,¬ lt2 (d.2,d.1) (c.2,c.1))→(∀ b o,b≠P→H1 b=some o→H' b=some o)→TabAt P lpos qual H'→Q (.ref t) H'
def tMinL (P:Addr) (lpos:Pos) (qual:Str) (te:TE):TE:=fun σ H Q=>te σ H (MinB P lpos qual Q)
theorem TabAt.same {P:Addr} {lpos:Pos} {qual:Str} {H H':Hp} (h:TabAt P lpos qual H) (s:Same H H'):TabAt P lpos qual H':=by
 rcases h with e | ⟨c',e,ec⟩
 ·exact .inl (s _ _ e)
 ·exact .inr ⟨c',s _ _ e,s _ _ ec⟩
theorem TabAt.tbl {P:Addr} {lpos:Pos} {qual:Str} {H:Hp} (h:TabAt P lpos qual H):∃ ps,H P=some (.tbl ps):=by
 rcases h with e | ⟨_,e,_⟩ <;> exact ⟨_,e⟩
section
variable {X:Cx} {c P:Addr} {e body:Expr} {params:Arguments} {scope:Scope} {p lpos kp pos:Pos} {te t:TE}
theorem pe_minL (hg:Gl X "min") (hm:X.mg "min"=none) (he:PE X e te) (L:LamT X.K X.mg X.base c P) (hcode:X.env.code=.ref c) (hcalm:X.calm=true) (hr:Room 2 X.A) (hcl:closureFor scope X.env=pure []) (hdef:defaultsOf params X.env=([],[])) (S:FnScope ["cell"] ["cell"] scope)
  (hb:∀ s u pm (c':Addr) ctv,BindsTo s (PySem.W.kla_fn "<lambda>" (X.env.qual++"<lambda>") params body scope [] pm (.ref c') ctv) ⟨[u],[]⟩ [("cell",u)])
  (hbody:∀ (CX:CXT) (A:Around) (outer:List Env) (s:Shared) (H:Hp) (E:XK) (q c':Addr),PE (cxOf CX X.prog X.w X.K X.mg X.base ["cell"] (X.env.qual++"<lambda>") scope q (.ref c') A outer s H E) body t)
  (ht:∀ (H:Hp) (Q:VK) (a:Addr) (x y:Int),H a=some (.tup [.int x,.int y])→(∀ p,H p=none→Q (.ref p) (upd H p (.tup [.int y,.int x])))→t [some (.ref a)] H Q)
  (hs:Ak [e] X.env=(false,eval e X.env) :: Ak [] X.env:=by rfl) (hpl:(backTo pos (Ak [e] X.env)).any (·.1)=false:=by rfl) (he2:backTo pos (Ak [e] X.env)=(false,eval e X.env) :: backTo pos (Ak [] X.env):=by rfl) :
  PE X (.Call (.Name "min" p) [e] [⟨some "key",.Lambda params body scope lpos,kp⟩] pos) (tMinL P lpos (X.env.qual++"<lambda>") te):=by
 intro pins s σ H Q I h
 refine wpAny_Call_Name_kw (ld_blt I hg hm (show bootBuiltins "min"=some (.builtin "min") by decide +kernel) ?_)
 refine callWith_kw (thn ((pa_cons he pa_nil hs) pos pins s σ H (fun xs H1=>match xs with | [v]=>MinB P lpos (X.env.qual++"<lambda>") Q v H1 | _=>False) I h) fun us s1 ⟨vs,H1,I1,r1,q1⟩=>?_) he2 hpl
 match vs,r1,q1 with
 | [],_,q1=>exact q1.elim
 | _ :: _ :: _,_,q1=>exact q1.elim
 | [v],.cons rv .nil,⟨l,ts,cs,ev,hl,hp,hlen,hne,tab,hQ⟩ =>
 subst ev
 cases rv
 refine kws_cons (wpAny_mono (lam_eval (E:=X.xe) I1 L hcode hcl hdef tab) (fun v s2 hv=>?_) fun _ _ z=>z)
 obtain ⟨q,c',ctv,H2,rfl,J2,eq,nq,ec,hq,hkeep,hfree,tab2⟩:=hv
 refine kws_nil ?_
 show wpAny (model X.prog X.w) X.A (call (.builtin "min") [.ref l] [(Str.ofString "key",.ref q)]) _ _ s2
 obtain ⟨pt,ept⟩:=tab.tbl
 have nlP:l≠P:=fun z=>by rw [z,ept] at hl; cases hl
 have ntP:∀ t x,H1 t=some (.tup x)→t≠P:=fun t x e z=>by rw [z,ept] at e; cases e
 have hss:s1.heap.objs.size≤s2.heap.objs.size:=Nat.le_of_lt (Nat.lt_of_le_of_lt hq (AJ eq))
 have ksE:∀ (i:Nat) (cc:Int×Int),cs[i]?=some cc→((cs.getD i (0,0)).2,(cs.getD i (0,0)).1)=(cc.2,cc.1):=fun i cc hc=>by rw [List.getD_eq_getElem?_getD,hc]; rfl
 refine min_lam (ks:=fun i=>((cs.getD i (0,0)).2,(cs.getD i (0,0)).1)) (I1.ok.hd hcalm) (show X.A.units + 1 < cLine by have:=hr.un; omega) J2 I1 hss (hkeep _ _ nlP hl) hne ?_ hq eq nq ?_
 ·intro i t hti H3 s3 J3 sm3 eq3 nq3
  obtain ⟨cc,hcc,htup⟩:=hp i t hti
  have ht3:=sm3 _ _ (hkeep _ _ (ntP _ _ htup) htup)
  have hcr:s3.heap.CodeRec (.ref c') (X.env.qual++"<lambda>"):=(J3.hok c' _ (sm3 _ _ ec)).1
  refine wpAny_call (codeAny_mono (lam_run (CX:=fun _ _ _ _ _ _=>False) (k:=0) (E:=fun _ _ _=>False) (N:=["cell"]) (ps:=["cell"]) (us:=[.ref t]) (vs:=[.ref t]) (Q:=fun v H'=>∃ p,v=.ref p∧Same H3 H'∧H' p=some (.tup [.int cc.2,.int cc.1])) eq3 hcr S hr.in1 J3.env0.in1 (hb _ _ _ _ _) (.cons rfl .nil) rfl (fun _=>hbody _ _ _ _ _ _ _ _) (ht _ _ t cc.1 cc.2 ht3 fun p hpn=>⟨p,rfl,fun b o e=>(by rw [upd_ne (ne_of_none e hpn)]; exact e),upd_same⟩)) fun r s' hs'=>?_)
  cases r with
  | error ev=>exact BF hs'
  | ok fl =>
   cases fl with
   | next=>exact BF hs'
   | brk=>exact BF hs'
   | cont=>exact BF hs'
   | ret u =>
    obtain ⟨v,H',os,bare,un,hok,rv,p,ev,sm,ep⟩:=hs'
    subst ev
    cases rv
    obtain ⟨hh,g,d,tk,os'⟩:=s'
    obtain rfl:os'=s3.os:=os
    refine ⟨p,H',rfl,J3.call (h':=hh) (g':=g) (d':=d) (t':=tk) (ch:=[]) un hok bare (fun b z=>absurd z (by simp)),un,sm,?_⟩
    have e3:cs.getD i (0,0)=cc:=by rw [List.getD_eq_getElem?_getD,hcc]; rfl
    dsimp only
    rw [e3]
    exact ep
 ·intro i t H' s' hti best J' sm'
  obtain ⟨cc,hcc,_⟩:=hp i t hti
  refine ⟨.ref t,H',J',rfl,hQ i t cc H' hti hcc (fun d hd=>?_) (fun b o hb e=>sm' _ _ (hkeep b o hb e)) (tab2.same sm')⟩
  obtain ⟨j,hj,ej⟩:=List.getElem_of_mem hd
  have b1:=best j (by rw [hlen]; exact hj)
  have e1:=ksE j d (by rw [AD hj,ej])
  have e2:=ksE i cc hcc
  show ¬ lt2 (d.2,d.1) (cc.2,cc.1)
  rw [← e1,← e2]
  exact b1
end
def TabsK (K:PySem.W.Frag) (tabs:List Addr):Prop:=∀ P∈tabs,K.lookup P=none∧∃ c,PySem.W.codeHdIn K c P=true
theorem law_callT {P:Program} {w:World} {K:PySem.W.Frag} {mg mb:Str→Option Value} {CX:CXT} {k:Nat} {fa a:Addr} {fd:FuncData} {x:Str} {sp:Sp} {s₁:Shared} {vs:List Value} {ns:List Int} {tabs:List Addr}
  (KX:K.In s₁.heap) (hns:s₁.heap.Ns Ab mg) (hb:s₁.heap.Ns builtinsNs mb) (hbb:∀ x:Str,x≠"__name__"→mb x=bootBuiltins x) (hlim:s₁.heap.NoLimit) (hg:s₁.gens=#[])
  (ha:s₁.heap.get? a=some { cls:=.type "list",data:=.seq vs.toArray }) (hi:IntsAre vs ns) (hl:ns.length≤AR) (hr:Room k callerA)
  (ht:∀ T∈tabs,s₁.heap.get? T=some (PySem.W.tabObj #[])) (hK:TabsK K tabs) (hbm:BmB mg s₁.heap)
  (F:∀ base:Heap,K.In base→base.Ns Ab mg→BmB mg base→FnOk P w K mg base CX k fa fd [x] sp) (hbind:∀ (s:Shared) (u:Value),BindsTo s fd ⟨[u],[]⟩ [(x,u)])
  (hsp:∀ H:Hp,(∀ T∈tabs,H T=some (.tbl #[]))→SqL K H a (ns.map V.int)→sp [.ref a] H (fun v _=>v=.bl true) fun _ _ _=>False)
  (hCX:∀ H e s',CX [] H s₁ (fun _ _ _=>False) e s'→False) :
  codeAny (model P w) callerA (.call (.ref fa) ⟨[.ref a],[]⟩) (fun r s'=>r=.ok (.ret (.bool true))∧OldK s₁.heap s'.heap∧s'.os=s₁.os∧AllBare s'.gens) s₁:=by
 have rv:=vals_ints hi
 have lenV:=hi.length
 have aT:∀ T∈tabs,T≠a:=fun T hT z=>by
  have e:=ht T hT
  rw [z,ha] at e
  cases e
 have core:∀ H:Hp,(∀ b,H b=none∨(b=a∧∃ o xs,H b=some (.frz o (.lst xs)))∨(b∈tabs∧H b=some (.tbl #[])))→(∀ T∈tabs,H T=some (.tbl #[]))→SqL K H a (ns.map V.int)→HOk P w H s₁.heap→(H a≠none→K.lookup a=none) →
   codeAny (model P w) callerA (.call (.ref fa) ⟨[.ref a],[]⟩) (fun r s'=>r=.ok (.ret (.bool true))∧OldK s₁.heap s'.heap∧s'.os=s₁.os∧AllBare s'.gens) s₁:=by
  intro H hO hT hS hok hKa
  have base_of:∀ {b:Addr} {o:Obj},s₁.heap.get? b=some o→H b=none→(hidT s₁.heap H).get? b=some o:=fun e n=>hidT_get e n
  have noA:∀ {b:Addr} {o:Obj} {es:Array DictEntry} {ep:Nat},s₁.heap.get? b=some o→o.data=.dict es ep→H b=none:=fun {b o es ep} e d=>by
   rcases hO b with z | ⟨z,_⟩ | ⟨z,_⟩
   ·exact z
   ·rw [z,ha] at e
    cases e
    have d':Data.seq vs.toArray _=Data.dict es ep:=d
    cases d'
   ·rw [ht b z] at e
    cases e
    have d':Data.fields _=Data.dict es ep:=d
    cases d'
  have nsK:∀ {b:Addr} {m:Str→Option Value},s₁.heap.Ns b m→(hidT s₁.heap H).Ns b m:=fun {b m} ⟨o,es,ep,e,d,r⟩=>⟨o,es,ep,base_of e (noA e d),d,r⟩
  have hKb:K.In (hidT s₁.heap H):=fun b o e=>base_of (KX b o e) (by
   rcases hO b with z | ⟨z,u,xs,y⟩ | ⟨z,_⟩
   ·exact z
   ·rw [z] at e y
    rw [hKa (by rw [y]; simp)] at e
    cases e
   ·rw [(hK b z).1] at e
    cases e)
  have hBm:BmB mg (hidT s₁.heap H):=by
   obtain ⟨bm,ob,e1,e2,e3,e4,e5,e6,e7⟩:=hbm
   refine ⟨bm,ob,e1,e2,e3,base_of e4 ?_,e5,e6,e7⟩
   rcases hO bm with z | ⟨z,_⟩ | ⟨z,_⟩
   ·exact z
   ·rw [z,ha] at e4
    cases e4
    cases e7
   ·rw [ht bm z] at e4
    cases e4
    cases e7
  have hM:Mod K mg (hidT s₁.heap H):=⟨hKb,nsK hns,⟨mb,nsK hb,hbb⟩,let ⟨mc,h1,h2⟩:=hlim; ⟨mc,nsK h1,h2⟩⟩
  have e0:Env0 P w K mg (hidT s₁.heap H) callerA [] s₁ H:=⟨rfl,hM,fun b o e=>of_hidT e,Nat.le_of_eq (hidT_size _ _),trivial,fun b hb=>absurd (show b∈([]:List Addr) from hb) (by simp),hok,.of_eq hg⟩
  refine codeAny_mono ((F _ hKb (nsK hns) hBm).run callerA [] s₁ H ⟨[.ref a],[]⟩ [.ref a] [.ref a] _ _ hr e0 (hbind s₁ (.ref a)) (.cons rfl .nil) (hsp H hT hS)) fun r s' h=>?_
  cases r with
  | error e=>exact (hCX H e s' h).elim
  | ok fl =>
   cases fl with
   | next=>exact BF h
   | brk=>exact BF h
   | cont=>exact BF h
   | ret u =>
    obtain ⟨v,H',os,bare,un,hok',r',q⟩:=h
    have q':v=.bl true:=q
    subst q'
    obtain rfl:u=Value.bool true:=r'
    refine ⟨rfl,⟨fun b o e=>?_,fun b o e=>un.there b o e (by simp)⟩,os,bare⟩
    rcases hO b with z | ⟨z,ob,xs,y⟩ | ⟨z,y⟩
    ·exact .inl (un.keep b o e z (by intro z; exact absurd (show b∈([]:List Addr) from z) (by simp)) (by simp))
    ·have z2:=un.frzs b ob _ y
     obtain ⟨e1,_⟩:=hok b _ y
     obtain ⟨e2,_⟩:=hok' b _ z2
     rw [e] at e1; cases e1
     exact .inl e2
    ·obtain ⟨more,y2⟩:=un.tbls b _ y
     have e2:s'.heap.get? b=some { cls:=.none,data:=.fields (#[]++more) }:=hok' b _ y2
     obtain ⟨_,c,hc⟩:=hK b z
     have e1:=ht b z
     rw [e1] at e
     cases e
     exact .inr (.inl ⟨((PySem.W.codeHd_of_K KX hc).tab e1).isCodeTable,rfl,#[],more,rfl,e2⟩)
 cases hk:K.lookup a with
 | some o =>
  have e:=KX a o hk
  rw [ha] at e
  cases e
  refine core (fun b=>if b∈tabs then some (.tbl #[]) else none) (fun b=>?_) (fun T hT=>if_pos hT) (.inr ⟨_,vs.toArray,_,hk,rfl,rfl,rfl,by rw [AQ,lenV]; exact hl,by simpa using rv⟩) (fun b u z=>?_) fun z=>absurd (if_neg (fun y=>aT a y rfl)) z
  ·by_cases hb:b∈tabs
   ·exact .inr (.inr ⟨hb,if_pos hb⟩)
   ·exact .inl (if_neg hb)
  ·by_cases hb:b∈tabs
   ·have z':=(if_pos hb).symm.trans z
    cases z'
    exact ht b hb
   ·have z':=(if_neg hb).symm.trans z
    cases z'
 | none =>
  refine core (fun b=>if b=a then some (.frz { cls:=.type "list",data:=.seq vs.toArray } (.lst (ns.map V.int))) else if b∈tabs then some (.tbl #[]) else none) (fun b=>?_) (fun T hT=>by rw [if_neg (aT T hT),if_pos hT]) (.inl (.inr ⟨{ cls:=.type "list",data:=.seq vs.toArray },if_pos rfl⟩)) (fun b u z=>?_) fun _=>hk
  ·by_cases hb:b=a
   ·exact .inr (.inl ⟨hb,_,_,if_pos hb⟩)
   ·by_cases hb2:b∈tabs
    ·exact .inr (.inr ⟨hb2,by rw [if_neg hb,if_pos hb2]⟩)
    ·exact .inl (by rw [if_neg hb,if_neg hb2])
  ·by_cases hb:b=a
   ·have z':=(if_pos hb).symm.trans z
    cases z'
    subst hb
    exact ⟨ha,by rw [AA]; exact hl,vs,_,rv,ha⟩
   ·by_cases hb2:b∈tabs
    ·have z':=((if_neg hb).trans (if_pos hb2)).symm.trans z
     cases z'
     exact ht b hb2
    ·have z':=((if_neg hb).trans (if_neg hb2)).symm.trans z
     cases z'
theorem bm_of {p:Program} {loose:List Str} {mean:ExcName→Option Value} {mg mb:Str→Option Value} {h:Heap} (T:PyProof.Rows.Top p loose mean mg mb h):BmB mg h:=by
 obtain ⟨bm,ob,b1,b2,b3,b4,b5,b6⟩:=T.bmain
 refine ⟨bm,ob,b1,b2,fun q=>?_,b3,b4,b5,b6⟩
 obtain ⟨o,es,ep,e,hd,_⟩:=T.g
 rw [q,e] at b3
 cases b3
 rw [hd] at b6
 cases b6
theorem walk_ofT {l:PySem.W.OpenLaw} {n k:Nat} {q:Program} {loose:List Str} {XP:(Str→Option Value)→Heap→Prop} {YP:World→Heap→Prop} {d:DefRec} {K:Params→PySem.W.Frag} {CX:World→CXT} {sp:World→Sp} {x:Str} {tabs:List Addr}
  (hn:l.most=some n) (hn2:n≤AR) (hdf:d.params.defaults=[]) (hr:Room k callerA)
  (hY:∀ (w:World) (h:Heap),YP w h→(K w.params).In h∧∀ T∈tabs,h.get? T=some (PySem.W.tabObj #[]))
  (F:∀ (w:World) (mg:Str→Option Value) (fa:Addr) (h:Heap),(K w.params).In h→h.Ns Ab mg→mg d.name=some (.ref fa) →
   TabsK (K w.params) tabs∧∃ fd:FuncData,(∀ (s:Shared) (u:Value),BindsTo s fd ⟨[u],[]⟩ [(x,u)]) ∧
    ∀ base:Heap,(K w.params).In base→base.Ns Ab mg→BmB mg base→FnOk l.prog w (K w.params) mg base (CX w) k fa fd [x] (sp w))
  (hsp:∀ (w:World) (H:Hp) (a:Addr) (ns:List Int),ns.length≤n→(∀ T∈tabs,H T=some (.tbl #[]))→SqL (K w.params) H a (ns.map V.int)→sp w [.ref a] H (fun v _=>v=.bl true) fun _ _ _=>False)
  (hCX:∀ (w:World) (H:Hp) (s:Shared) (e:Value) (s':Shared),CX w [] H s (fun _ _ _=>False) e s'→False) :
  PySem.W.WalkO q loose XP YP l.row.toRowW d [] (fun f vs=>PySem.call f vs):=by
 refine Att.attach_call hn hdf fun w s₀ s₁ mg mb fa o pm cd doc a vs ns G Y ho hd hcd hmg hobj hints hlen hg=>?_
 obtain ⟨KX,hT⟩:=hY w _ Y
 obtain ⟨hK,fd,hb,hF⟩:=F w mg fa _ KX G.T.g hmg
 exact law_callT KX G.T.g G.T.b G.T.builtins G.T.nolimit hg hobj hints (Au hlen hn2) hr hT hK (bm_of G.T) hF hb (fun H hO hS=>hsp w H a ns hlen hO hS) fun H e s'=>hCX w H s₁ e s'
end L2
namespace L2
open PySem PySem.Spec PySem.SeqAt PyProof.Rows
section
variable {X:Cx}
def rInD (K:PySem.W.Frag) (neg:Bool):R2:=fun x y H Q=>∃ d es,Rp K H x d∧Rp K H y (.list es)∧SeqAt.shaped (.list es)=true∧SeqAt.shaped d=true∧Q (.bl (if neg then !(es.any fun z=>PyData.eqv z d) else es.any fun z=>PyData.eqv z d)) H
theorem op_notInD (hu:X.A.units + 65 < cLine):OpR X (compareOp .NotIn) (rInD X.K true):=by
 intro pins s σ H x y v u Q I rx ry h
 obtain ⟨d,e,hd,he,se,sd,q⟩:=h
 obtain ⟨as,ra⟩:=hd.reads I rx
 obtain ⟨bs,rb⟩:=he.reads I ry
 exact notIn_list_reads rb ra (canLay_of_shaped se) (canLay_of_shaped sd) (room_in_shaped sd hu) ⟨.bl _,H,I,rfl,q⟩
theorem Room.units65 {k:Nat} {A:Around} (r:Room k A):A.units + 65 < cLine:=by have:=r.un; omega
end
end L2
namespace Tim
open PySem PySem.W PyProof.Rows
def gallop':Bool→Keyed→Array Keyed→Nat→Nat→Nat→StateT SortSt Sem (Option Nat):=sortPriv% PySem.Builtin.gallop
section
variable {M:Model} {A:Around} {E:Value→Shared→Prop} {σ:Type}
theorem ifT {α:Type} {c:Prop} [Decidable c] {t e:StateT σ Sem α} {Q:α→σ→Shared→Prop} {st:σ} {s:Shared} (hc:c) (h:kasC M A E t Q st s):kasC M A E (if c then t else e) Q st s:=by
 rw [if_pos hc]
 exact h
theorem ifF {α:Type} {c:Prop} [Decidable c] {t e:StateT σ Sem α} {Q:α→σ→Shared→Prop} {st:σ} {s:Shared} (hc:¬ c) (h:kasC M A E e Q st s):kasC M A E (if c then t else e) Q st s:=by
 rw [if_neg hc]
 exact h
theorem inv {β:Type} {a b:Nat} {c:β} {f:Nat→β→StateT σ Sem (ForInStep β)} {Q:β→σ→Shared→Prop} {st:σ} {s:Shared} (I:Nat→β→σ→Shared→Prop) (h0:I 0 c st s)
  (hs:∀ k c st s,k < b - a→I k c st s→kasC M A E (f (a + k) c) (fun r st' s'=>match r with | .done b'=>Q b' st' s' | .yield b'=>I (k + 1) b' st' s') st s)
  (he:∀ c st s,I (b - a) c st s→Q c st s):kasC M A E (forIn [a:b] c f) Q st s:=by
 refine kasC_range ?_
 have go:∀ (m k:Nat) (c:β) (st:σ) (s:Shared),m + k=b - a→I k c st s→kasC M A E (forIn (List.range' (a + k) m) c f) Q st s:=by
  intro m
  induction m with
  | zero=>intro k c st s e h; exact kasC_nil (he c st s (by rw [← e,Nat.zero_add]; exact h))
  | succ m ih =>
   intro k c st s e h
   rw [List.range'_succ]
   refine kasC_cons ?_
   have:=hs k c st s (by (first | lia | lia)) h
   unfold kasC at this ⊢
   refine wpAny_mono this (fun r s' h'=>?_) fun _ _ z=>z
   obtain ⟨r,st'⟩:=r
   cases r with
   | done b'=>exact h'
   | yield b'=>exact ih (k + 1) b' st' s' (by (first | lia | lia)) h'
 exact go (b - a) 0 c st s (by (first | lia | lia)) h0
end
end Tim
namespace Tim
open PySem PySem.W PyProof.Rows
def gtail (beyond:Nat→StateT SortSt Sem (Option Bool)) (n lo0 hi0:Nat):StateT SortSt Sem (Option Nat):=do
 let mut lo:=lo0
 let mut hi:=hi0
 for _ in [0:n] do
  if lo ≥ hi then break
  let m:=lo + (hi - lo) / 2
  let some more ← beyond m | return none
  if more then lo:=m + 1 else hi:=m
 return some hi
def gup (beyond:Nat→StateT SortSt Sem (Option Bool)) (n hint:Nat):StateT SortSt Sem (Option Nat):=do
 let mut lastofs:=0
 let mut ofs:=1
 let maxofs:=n - hint
 for _ in [0:n] do
  if ofs ≥ maxofs then break
  let some more ← beyond (hint + ofs) | return none
  if !more then break
  lastofs:=ofs
  ofs:=2 * ofs + 1
 gtail beyond n (hint + lastofs + 1) (hint + min ofs maxofs)
def gdown (beyond:Nat→StateT SortSt Sem (Option Bool)) (n hint:Nat):StateT SortSt Sem (Option Nat):=do
 let mut lastofs:=0
 let mut ofs:=1
 let maxofs:=hint + 1
 for _ in [0:n] do
  if ofs ≥ maxofs then break
  let some found ← beyond (hint - ofs) | return none
  if found then break
  lastofs:=ofs
  ofs:=2 * ofs + 1
 gtail beyond n (hint + 1 - min ofs maxofs) (hint - lastofs)
def gbody (beyond:Nat→StateT SortSt Sem (Option Bool)) (n hint:Nat):StateT SortSt Sem (Option Nat):=do
 let some right ← beyond hint | return none
 if right then gup beyond n hint else gdown beyond n hint
theorem gallop'_body (left:Bool) (key:Keyed) (arr:Array Keyed) (base n hint:Nat):gallop' left key arr base n hint=gbody (fun i=>do
  let x ← elem' arr (base + i)
  if left then lt' x key else return (← lt' key x).map (!·)) n hint:=rfl
section
variable {M:Model} {A:Around} {E:Value→Shared→Prop} {beyond:Nat→StateT SortSt Sem (Option Bool)} {B:Nat→Bool} {n:Nat} {st:SortSt} {s:Shared}
structure Edge (B:Nat→Bool) (n k:Nat):Prop where
 le:k≤n
 yes:∀ i,i < k→B i=true
 no:∀ i,k≤i→i < n→B i=false
structure Mid (B:Nat→Bool) (n lo hi:Nat):Prop where
 lh:lo≤hi
 le:hi≤n
 yes:∀ i,i < lo→B i=true
 no:∀ i,hi≤i→i < n→B i=false
structure Asks (M:Model) (A:Around) (E:Value→Shared→Prop) (beyond:Nat→StateT SortSt Sem (Option Bool)) (B:Nat→Bool) (n:Nat) (st:SortSt) (s:Shared):Prop where
 ask:∀ i,i < n→∀ R:Option Bool→SortSt→Shared→Prop,R (some (B i)) st s→kasC M A E (beyond i) R st s
 mono:∀ i j,i≤j→j < n→B j=true→B i=true
theorem Asks.low (a:Asks M A E beyond B n st s) {i j:Nat} (h:i≤j) (hj:j < n) (e:B i=false):B j=false:=by
 cases e2:B j with
 | false=>rfl
 | true=>rw [a.mono i j h hj e2] at e; cases e
theorem gtail_ok (a:Asks M A E beyond B n st s) {lo hi:Nat} {Q:Option Nat→SortSt→Shared→Prop} (m0:Mid B n lo hi) (h:∀ k,Edge B n k→Q (some k) st s):kasC M A E (gtail beyond n lo hi) Q st s:=by
 unfold gtail
 refine AI (inv (fun k r st' s'=>st'=st∧s'=s∧r.1=none∧Mid B n r.2.1 r.2.2∧(r.2.2 - r.2.1) + k≤n) ⟨rfl,rfl,rfl,m0,by have:=m0.le; show hi - lo + 0≤n; lia⟩ ?_ ?_)
 ·rintro k ⟨r,lo,hi⟩ st' s' hk ⟨rfl,rfl,e,m,l⟩
  cases e
  dsimp only at m l ⊢
  by_cases c:lo ≥ hi
  ·rw [if_pos c]
   refine AL ?_
   dsimp only
   have e:lo=hi:=Nat.le_antisymm m.lh c
   exact AL (h hi ⟨m.le,fun i hi'=>m.yes i (by lia),m.no⟩)
  ·rw [if_neg c]
   have hm:lo + (hi - lo) / 2 < hi:=by lia
   refine AI (a.ask _ (by have:=m.le; lia) _ ?_)
   dsimp only
   cases e:B (lo + (hi - lo) / 2) with
   | true =>
    rw [if_pos rfl]
    refine AL ?_
    have mm:Mid B n (lo + (hi - lo) / 2 + 1) hi:=⟨by lia,m.le,fun i hi'=>a.mono i _ (by lia) (by have:=m.le; lia) e,m.no⟩
    refine ⟨rfl,rfl,rfl,mm,?_⟩
    show hi - (lo + (hi - lo) / 2 + 1) + (k + 1)≤n
    lia
   | false =>
    rw [if_neg (by decide)]
    refine AL ?_
    have mm:Mid B n lo (lo + (hi - lo) / 2):=⟨by lia,by have:=m.le; lia,m.yes,fun i h1 h2=>a.low (by lia) h2 e⟩
    refine ⟨rfl,rfl,rfl,mm,?_⟩
    show lo + (hi - lo) / 2 - lo + (k + 1)≤n
    lia
 ·rintro ⟨r,lo,hi⟩ st' s' ⟨rfl,rfl,e,m,l⟩
  cases e
  dsimp only at m l ⊢
  have e:lo=hi:=by have:=m.lh; lia
  exact AL (h hi ⟨m.le,fun i hi'=>m.yes i (by lia),m.no⟩)
theorem gup_ok (a:Asks M A E beyond B n st s) {hint:Nat} {Q:Option Nat→SortSt→Shared→Prop} (hh:hint < n) (hB:B hint=true) (h:∀ k,Edge B n k→Q (some k) st s):kasC M A E (gup beyond n hint) Q st s:=by
 unfold gup
 refine AI (inv (fun k r st' s'=>st'=st∧s'=s∧r.1=none∧r.2.1 < r.2.2∧k < r.2.2∧hint + r.2.1 < n∧B (hint + r.2.1)=true) ⟨rfl,rfl,rfl,(by show 0 < 1; decide),(by show 0 < 1; decide),hh,hB⟩ ?_ ?_)
 ·rintro k ⟨r,lo,os⟩ st' s' hk ⟨rfl,rfl,e,l1,l2,l3,b⟩
  cases e
  dsimp only at l1 l2 l3 b ⊢
  by_cases c:os ≥ n - hint
  ·rw [if_pos c]
   refine AL ?_
   dsimp only
   refine gtail_ok a ⟨by lia,by lia,fun i hi=>a.mono i _ (by lia) l3 b,fun i h1 h2=>?_⟩ h
   lia
  ·rw [if_neg c]
   refine AI (a.ask _ (by lia) _ ?_)
   dsimp only
   cases e:B (hint + os) with
   | false =>
    rw [if_pos (by decide)]
    refine AL ?_
    dsimp only
    exact gtail_ok a ⟨by lia,by lia,fun i hi=>a.mono i _ (by lia) l3 b,fun i h1 h2=>a.low (by lia) h2 e⟩ h
   | true =>
    rw [if_neg (by decide)]
    refine AL ?_
    refine ⟨rfl,rfl,rfl,?_,?_,?_,e⟩
    ·show os < 2 * os + 1
     lia
    ·show k + 1 < 2 * os + 1
     lia
    ·show hint + os < n
     lia
 ·rintro ⟨r,lo,os⟩ st' s' ⟨rfl,rfl,e,l1,l2,l3,b⟩
  cases e
  dsimp only at l1 l2 l3 b ⊢
  refine gtail_ok a ⟨by lia,by lia,fun i hi=>a.mono i _ (by lia) l3 b,fun i h1 h2=>?_⟩ h
  lia
theorem gdown_ok (a:Asks M A E beyond B n st s) {hint:Nat} {Q:Option Nat→SortSt→Shared→Prop} (hh:hint < n) (hB:B hint=false) (h:∀ k,Edge B n k→Q (some k) st s):kasC M A E (gdown beyond n hint) Q st s:=by
 unfold gdown
 refine AI (inv (fun k r st' s'=>st'=st∧s'=s∧r.1=none∧r.2.1 < r.2.2∧k < r.2.2∧r.2.1≤hint∧B (hint - r.2.1)=false) ⟨rfl,rfl,rfl,(by show 0 < 1; decide),(by show 0 < 1; decide),Ap _,hB⟩ ?_ ?_)
 ·rintro k ⟨r,lo,os⟩ st' s' hk ⟨rfl,rfl,e,l1,l2,l3,b⟩
  cases e
  dsimp only at l1 l2 l3 b ⊢
  by_cases c:os ≥ hint + 1
  ·rw [if_pos c]
   refine AL ?_
   dsimp only
   refine gtail_ok a ⟨by lia,by lia,fun i hi=>?_,fun i h1 h2=>a.low h1 h2 b⟩ h
   lia
  ·rw [if_neg c]
   refine AI (a.ask _ (by lia) _ ?_)
   dsimp only
   cases e:B (hint - os) with
   | true =>
    rw [if_pos rfl]
    refine AL ?_
    dsimp only
    exact gtail_ok a ⟨by lia,by lia,fun i hi=>a.mono i _ (by lia) (by lia) e,fun i h1 h2=>a.low h1 h2 b⟩ h
   | false =>
    rw [if_neg (by decide)]
    refine AL ?_
    refine ⟨rfl,rfl,rfl,?_,?_,?_,e⟩
    ·show os < 2 * os + 1
     lia
    ·show k + 1 < 2 * os + 1
     lia
    ·show os≤hint
     lia
 ·rintro ⟨r,lo,os⟩ st' s' ⟨rfl,rfl,e,l1,l2,l3,b⟩
  cases e
  dsimp only at l1 l2 l3 b ⊢
  refine gtail_ok a ⟨by lia,by lia,fun i hi=>?_,fun i h1 h2=>a.low h1 h2 b⟩ h
  lia
theorem gbody_ok (a:Asks M A E beyond B n st s) {hint:Nat} {Q:Option Nat→SortSt→Shared→Prop} (hh:hint < n) (h:∀ k,Edge B n k→Q (some k) st s):kasC M A E (gbody beyond n hint) Q st s:=by
 unfold gbody
 refine AI (a.ask _ hh _ ?_)
 dsimp only
 cases e:B hint with
 | true=>rw [if_pos rfl]; exact gup_ok a hh e h
 | false=>rw [if_neg (by decide)]; exact gdown_ok a hh e h
end
end Tim
namespace Tim
open PySem PySem.W PyProof.Rows
section
variable {rk:Keyed→Int} {xs ys out:List Keyed} {i j:Nat}
def Up (rk:Keyed→Int) (xs:List Keyed):Prop:=xs.Pairwise fun x y=>rk x≤rk y
structure Mg (rk:Keyed→Int) (xs ys out:List Keyed) (i j:Nat):Prop where
 perm:out.Perm (xs.take i++ys.take j)
 srt:Up rk out
 upx:∀ o∈out,∀ x∈xs.drop i,rk o≤rk x
 upy:∀ o∈out,∀ y∈ys.drop j,rk o≤rk y
structure Fine (rk:Keyed→Int) (xs ys r:List Keyed):Prop where
 perm:r.Perm (xs++ys)
 srt:Up rk r
theorem Up.drop (h:Up rk xs) (i:Nat):Up rk (xs.drop i):=h.sublist (List.drop_sublist i xs)
theorem Up.take (h:Up rk xs) (i:Nat):Up rk (xs.take i):=h.sublist (List.take_sublist i xs)
theorem Up.cut (h:Up rk xs) (k:Nat):∀ x∈xs.take k,∀ y∈xs.drop k,rk x≤rk y:=by
 have:=h
 unfold Up at this
 rw [← A8 k xs,BK] at this
 exact this.2.2
theorem Up.at_ (h:Up rk xs) {x y:Keyed} (hij:i≤j) (hx:xs[i]?=some x) (hy:xs[j]?=some y):rk x≤rk y:=by
 obtain ⟨h1,e1⟩:=AF.mp hx
 obtain ⟨h2,e2⟩:=AF.mp hy
 rcases Nat.lt_or_eq_of_le hij with l | l
 ·have:=List.pairwise_iff_getElem.mp h i j h1 h2 l
  rw [e1,e2] at this
  exact this
 ·subst l
  rw [hx] at hy
  cases hy
  exact BC _
theorem Mg.takeX (h:Mg rk xs ys out i j) (sx:Up rk xs) (k:Nat) (le:∀ x∈(xs.drop i).take k,∀ y∈ys.drop j,rk x≤rk y):Mg rk xs ys (out++(xs.drop i).take k) (i + k) j where
 perm:=by
  rw [List.take_add]
  refine (h.perm.append_right _).trans ?_
  rw [AY,AY]
  exact List.Perm.append_left _ List.perm_append_comm
 srt:=BK.mpr ⟨h.srt,(sx.drop i).take k,fun o ho x hx=>h.upx o ho x (A6 hx)⟩
 upx:=fun o ho x hx=>by
  rw [← List.drop_drop] at hx
  rcases AW.mp ho with ho | ho
  ·exact h.upx o ho x (List.mem_of_mem_drop hx)
  ·exact (sx.drop i).cut k o ho x hx
 upy:=fun o ho y hy=>by
  rcases AW.mp ho with ho | ho
  ·exact h.upy o ho y hy
  ·exact le o ho y hy
theorem Mg.swap (h:Mg rk xs ys out i j):Mg rk ys xs out j i:=⟨h.perm.trans List.perm_append_comm,h.srt,h.upy,h.upx⟩
theorem Fine.swap {r:List Keyed} (h:Fine rk xs ys r):Fine rk ys xs r:=⟨h.perm.trans List.perm_append_comm,h.srt⟩
theorem Mg.takeY (h:Mg rk xs ys out i j) (sy:Up rk ys) (k:Nat) (le:∀ y∈(ys.drop j).take k,∀ x∈xs.drop i,rk y≤rk x):Mg rk xs ys (out++(ys.drop j).take k) i (j + k):=(h.swap.takeX sy k le).swap
theorem Mg.done (h:Mg rk xs ys out i j) (sx:Up rk xs) (sy:Up rk ys) (le:∀ x∈xs.drop i,∀ y∈ys.drop j,rk x≤rk y):Fine rk xs ys (out++xs.drop i++ys.drop j) where
 perm:=by
  refine ((h.perm.append_right _).append_right _).trans ?_
  have e:(xs++ys).Perm (xs.take i++xs.drop i++(ys.take j++ys.drop j)):=by rw [A8,A8]
  refine List.Perm.trans ?_ e.symm
  rw [AY,AY,AY]
  refine List.Perm.append_left _ ?_
  rw [← AY,← AY]
  exact List.Perm.append_right _ List.perm_append_comm
 srt:=by
  refine BK.mpr ⟨BK.mpr ⟨h.srt,sx.drop i,h.upx⟩,sy.drop j,fun o ho y hy=>?_⟩
  rcases AW.mp ho with ho | ho
  ·exact h.upy o ho y hy
  ·exact le o ho y hy
theorem Mg.doneY (h:Mg rk xs ys out i j) (sx:Up rk xs) (sy:Up rk ys) (le:∀ y∈ys.drop j,∀ x∈xs.drop i,rk y≤rk x):Fine rk xs ys (out++ys.drop j++xs.drop i):=(h.swap.done sy sx le).swap
end
section
variable {M:Model} {A:Around} {E:Value→Shared→Prop} {κ:SortKind} {ok:Keyed→Prop} {rk:Keyed→Int} {s:Shared}
structure Cmp (M:Model) (A:Around) (E:Value→Shared→Prop) (κ:SortKind) (ok:Keyed→Prop) (rk:Keyed→Int) (s:Shared):Prop where
 lt:∀ x y,ok x→ok y→∀ (st:SortSt) (R:Option Bool→SortSt→Shared→Prop),kindOf st=κ→R (some (decide (rk x < rk y))) st s→kasC M A E (lt' x y) R st s
theorem elem_ok {arr:Array Keyed} {i:Nat} {x:Keyed} {st:SortSt} {R:Keyed→SortSt→Shared→Prop} (e:arr[i]?=some x) (h:R x st s):kasC M A E (elem' arr i) R st s:=by
 rw [elem'_eq,e]
 exact AL h
theorem rule_ok {r:String} {st:SortSt} {R:PUnit→SortSt→Shared→Prop} (h:R ⟨⟩ st s):kasC M A E (liftM (rule r):StateT SortSt Sem PUnit) R st s:=kasC_lift (wpAny_rule h)
theorem get_at {arr:Array Keyed} {i:Nat} (h:i < arr.size):arr[i]?=some (arr.getD i default):=by simp [Array.getD,h]
theorem mid_at {arr:Array Keyed} {base n i:Nat} (len:base + n≤arr.size) (hi:i < n):((arr.toList.drop base).take n)[i]?=some (arr.getD (base + i) default):=by
 rw [List.getElem?_take_of_lt hi,List.getElem?_drop,At]
 exact get_at (by lia)
def bL (rk:Keyed→Int) (arr:Array Keyed) (base:Nat) (key:Keyed) (i:Nat):Bool:=decide (rk (arr.getD (base + i) default) < rk key)
def bR (rk:Keyed→Int) (arr:Array Keyed) (base:Nat) (key:Keyed) (i:Nat):Bool:=!decide (rk key < rk (arr.getD (base + i) default))
theorem gallop_left (C:Cmp M A E κ ok rk s) {arr:Array Keyed} {base n hint:Nat} {key:Keyed} {st:SortSt} {Q:Option Nat→SortSt→Shared→Prop} (hk:kindOf st=κ) (okk:ok key) (len:base + n≤arr.size) (oka:∀ x∈arr.toList,ok x) (up:Up rk ((arr.toList.drop base).take n)) (hh:hint < n)
  (h:∀ k,Edge (bL rk arr base key) n k→Q (some k) st s):kasC M A E (gallop' true key arr base n hint) Q st s:=by
 rw [gallop'_body]
 refine gbody_ok (B:=bL rk arr base key) ⟨fun i hi R hR=>?_,fun i j hij hj hb=>?_⟩ hh h
 ·have e:=get_at (arr:=arr) (i:=base + i) (by lia)
  refine AI (elem_ok e ?_)
  rw [if_pos rfl]
  exact C.lt _ _ (oka _ (Array.mem_toList_iff.mpr (Array.mem_of_getElem? e))) okk st _ hk hR
 ·have l:=up.at_ hij (mid_at len (by lia)) (mid_at len hj)
  have:=of_decide_eq_true hb
  exact decide_eq_true (by lia)
theorem gallop_right (C:Cmp M A E κ ok rk s) {arr:Array Keyed} {base n hint:Nat} {key:Keyed} {st:SortSt} {Q:Option Nat→SortSt→Shared→Prop} (hk:kindOf st=κ) (okk:ok key) (len:base + n≤arr.size) (oka:∀ x∈arr.toList,ok x) (up:Up rk ((arr.toList.drop base).take n)) (hh:hint < n)
  (h:∀ k,Edge (bR rk arr base key) n k→Q (some k) st s):kasC M A E (gallop' false key arr base n hint) Q st s:=by
 rw [gallop'_body]
 refine gbody_ok (B:=bR rk arr base key) ⟨fun i hi R hR=>?_,fun i j hij hj hb=>?_⟩ hh h
 ·have e:=get_at (arr:=arr) (i:=base + i) (by lia)
  refine AI (elem_ok e ?_)
  rw [if_neg (by decide)]
  refine AI (C.lt _ _ okk (oka _ (Array.mem_toList_iff.mpr (Array.mem_of_getElem? e))) st _ hk ?_)
  exact AL hR
 ·have l:=up.at_ hij (mid_at len (by lia)) (mid_at len hj)
  unfold bR at hb ⊢
  rw [Bool.not_eq_true',decide_eq_false_iff_not] at hb ⊢
  lia
end
end Tim
namespace Tim
open PySem PySem.W PyProof.Rows
def setMinGallop':Nat→StateT SortSt Sem Unit:=sortPriv% PySem.Builtin.setMinGallop
def mergeLo':Array Keyed→Array Keyed→StateT SortSt Sem (Array Keyed):=sortPriv% PySem.Builtin.mergeLo
def mergeHi':Array Keyed→Array Keyed→StateT SortSt Sem (Array Keyed):=sortPriv% PySem.Builtin.mergeHi
abbrev setG (st:SortSt) (g:Nat):SortSt:=SortSt.mk' (kindOf st) (arrOf st) (Am st) g (failedOf st)
theorem setMinGallop'_eq (g:Nat):setMinGallop' g=modify fun st=>setG st g:=rfl
section
variable {M:Model} {A:Around} {E:Value→Shared→Prop} {κ:SortKind} {ok:Keyed→Prop} {rk:Keyed→Int} {s:Shared} {a b out:Array Keyed} {ia ib:Nat}
theorem kasC_mono {σ α:Type} {m:StateT σ Sem α} {Q R:α→σ→Shared→Prop} {st:σ} {s:Shared} (h:kasC M A E m Q st s) (k:∀ x st' s',Q x st' s'→R x st' s'):kasC M A E m R st s:=by
 unfold kasC at h ⊢
 exact wpAny_mono h (fun r s' h'=>k r.1 r.2 s' h') fun _ _ z=>z
theorem ext_all (a:Array Keyed) (i:Nat):(a.extract i a.size).toList=a.toList.drop i:=by
 rw [Array.toList_extract,List.extract_eq_take_drop,AO]
 rw [List.length_drop]
 exact AE _
theorem ext_mid (a:Array Keyed) (i k:Nat):(a.extract i (i + k)).toList=(a.toList.drop i).take k:=by
 rw [Array.toList_extract,List.extract_eq_take_drop,Nat.add_sub_cancel_left]
theorem drop_one {xs:List Keyed} {i:Nat} {x:Keyed} (e:xs[i]?=some x):(xs.drop i).take 1=[x]:=by
 obtain ⟨h,rfl⟩:=AF.mp e
 rw [List.drop_eq_getElem_cons h]
 rfl
theorem Up.head (h:Up rk xs) {x0:Keyed} {i:Nat} (e:xs[i]?=some x0):∀ x∈xs.drop i,rk x0≤rk x:=fun x hx=>by
 obtain ⟨j,hj⟩:=List.mem_iff_getElem?.mp hx
 rw [List.getElem?_drop] at hj
 exact h.at_ (Nat.le_add_right i j) e hj
theorem mem_mid {arr:Array Keyed} {base n k:Nat} {x:Keyed} (len:base + n≤arr.size) (hk:k≤n) (h:x∈(arr.toList.drop base).take k):∃ i,i < k∧x=arr.getD (base + i) default:=by
 obtain ⟨i,hi⟩:=List.mem_iff_getElem?.mp h
 have hl:i < k:=by
  obtain ⟨h1,_⟩:=AF.mp hi
  rw [Ae] at h1
  lia
 rw [mid_at (by lia) hl] at hi
 exact ⟨i,hl,(Aw hi).symm⟩
theorem mem_end {arr:Array Keyed} {base k:Nat} {x:Keyed} (h:x∈arr.toList.drop (base + k)):∃ i,k≤i∧base + i < arr.size∧x=arr.getD (base + i) default:=by
 obtain ⟨i,hi⟩:=List.mem_iff_getElem?.mp h
 rw [List.getElem?_drop,At] at hi
 have hl:base + k + i < arr.size:=by
  rcases Nat.lt_or_ge (base + k + i) arr.size with h | h
  ·exact h
  ·rw [Array.getElem?_eq_none h] at hi
   cases hi
 rw [get_at hl] at hi
 exact ⟨k + i,Nat.le_add_right _ _,by lia,by rw [← Nat.add_assoc]; exact (Aw hi).symm⟩
structure Two (ok:Keyed→Prop) (rk:Keyed→Int) (a b:Array Keyed):Prop where
 sa:Up rk a.toList
 sb:Up rk b.toList
 oa:∀ x∈a.toList,ok x
 ob:∀ x∈b.toList,ok x
 pa:0 < a.size
 pb:0 < b.size
 first:∀ y,b[0]?=some y→∀ x∈a.toList,rk y≤rk x
 last:∀ y∈b.toList,∀ x∈a.toList.drop (a.size - 1),rk y≤rk x
theorem ok_at {arr:Array Keyed} {i:Nat} (o:∀ x∈arr.toList,ok x) (h:i < arr.size):ok (arr.getD i default):=o _ (Array.mem_toList_iff.mpr (Array.mem_of_getElem? (get_at h)))
structure Run (rk:Keyed→Int) (a b out:Array Keyed) (ia ib:Nat):Prop where
 mg:Mg rk a.toList b.toList out.toList ia ib
 la:ia + 1 < a.size
 lb:ib < b.size
theorem Two.fin_a (T:Two ok rk a b) (m:Mg rk a.toList b.toList out.toList ia ib) (e:ia + 1=a.size):Fine rk a.toList b.toList (out++b.extract ib b.size++a.extract ia a.size).toList:=by
 rw [BG,BG,ext_all,ext_all]
 refine m.doneY T.sa T.sb fun y hy x hx=>T.last y (List.mem_of_mem_drop hy) x ?_
 rw [← e,Nat.add_sub_cancel]
 exact hx
theorem Two.fin_b (T:Two ok rk a b) (m:Mg rk a.toList b.toList out.toList ia ib) (e:ia=a.size∨ib=b.size):Fine rk a.toList b.toList (out++a.extract ia a.size++b.extract ib b.size).toList:=by
 rw [BG,BG,ext_all,ext_all]
 refine m.done T.sa T.sb fun x hx y hy=>?_
 rcases e with e | e
 ·rw [e,← Ac,List.drop_length] at hx
  cases hx
 ·rw [e,← Ac,List.drop_length] at hy
  cases hy
theorem Mg.pushX (m:Mg rk a.toList b.toList out.toList ia ib) (sa:Up rk a.toList) (la:ia < a.size) (le:∀ y∈b.toList.drop ib,rk (a.getD ia default)≤rk y):Mg rk a.toList b.toList (out.push (a.getD ia default)).toList (ia + 1) ib:=by
 have e:=drop_one (xs:=a.toList) (by rw [At]; exact get_at la)
 have:=m.takeX sa 1 (by rw [e]; intro x hx; rw [An.mp hx]; exact le)
 rw [e] at this
 rw [Array.toList_push]
 exact this
theorem Mg.pushY (m:Mg rk a.toList b.toList out.toList ia ib) (sb:Up rk b.toList) (lb:ib < b.size) (le:∀ x∈a.toList.drop ia,rk (b.getD ib default)≤rk x):Mg rk a.toList b.toList (out.push (b.getD ib default)).toList ia (ib + 1):=by
 have e:=drop_one (xs:=b.toList) (by rw [At]; exact get_at lb)
 have:=m.takeY sb 1 (by rw [e]; intro x hx; rw [An.mp hx]; exact le)
 rw [e] at this
 rw [Array.toList_push]
 exact this
theorem Up.here {arr:Array Keyed} (h:Up rk arr.toList) {i:Nat} (hi:i < arr.size):∀ x∈arr.toList.drop i,rk (arr.getD i default)≤rk x:=h.head (by rw [At]; exact get_at hi)
end
end Tim
namespace Tim
open PySem PySem.W PyProof.Rows
section
variable {M:Model} {A:Around} {E:Value→Shared→Prop} {κ:SortKind} {ok:Keyed→Prop} {rk:Keyed→Int} {s:Shared} {a b out:Array Keyed} {ia ib:Nat}
theorem setG_ok {g:Nat} {st:SortSt} {R:PUnit→SortSt→Shared→Prop} (h:R ⟨⟩ (setG st g) s):kasC M A E (setMinGallop' g) R st s:=by
 rw [setMinGallop'_eq]
 exact kasC_modify h
def Left (rk:Keyed→Int) (a b:Array Keyed) (c:Nat) (r:Option (Array Keyed)) (out:Array Keyed) (ia ib:Nat):Prop :=
 (∃ res,r=some res∧Fine rk a.toList b.toList res.toList)∨(r=none∧Run rk a b out ia ib∧c≤ia + ib)
abbrev LoSt:=Option (Array Keyed)×Array Keyed×Nat×Nat×Nat×Nat×Nat
def lo3 (a b out:Array Keyed) (ia ib mg ac bc:Nat):StateT SortSt Sem (ForInStep LoSt):=do
 let x ← elem' a ia
 if (ia + 1 + 1 == a.size)=true then pure (Ag (some (out.push x++b.extract ib b.size++a.extract (ia + 1) a.size),out.push x,ia + 1,ib,mg,ac,bc))
 else if (decide (ac < 7) && decide (bc < 7))=true then pure (Ag (none,out.push x,ia + 1,ib,mg,ac,bc))
 else pure (BB (none,out.push x,ia + 1,ib,mg,ac,bc))
def lo2 (a b out:Array Keyed) (ia ib mg ac bc:Nat):StateT SortSt Sem (ForInStep LoSt):=do
 let x ← elem' b ib
 if (ib + 1 == b.size)=true then pure (Ag (some (out.push x++a.extract ia a.size++b.extract (ib + 1) b.size),out.push x,ia,ib + 1,mg,ac,bc))
 else do
  let y ← elem' a ia
  let some k ← gallop' true y b (ib + 1) (b.size - (ib + 1)) 0 | pure (Ag (some (out.push x++a.extract ia a.size++b.extract (ib + 1) b.size),out.push x,ia,ib + 1,mg,ac,bc))
  (if k > 0 then (if (ib + 1 + k == b.size)=true then pure (Ag (some (out.push x++b.extract (ib + 1) (ib + 1 + k)++a.extract ia a.size++b.extract (ib + 1 + k) b.size),out.push x++b.extract (ib + 1) (ib + 1 + k),ia,ib + 1 + k,mg,ac,k)) else lo3 a b (out.push x++b.extract (ib + 1) (ib + 1 + k)) ia (ib + 1 + k) mg ac k) else lo3 a b (out.push x) ia (ib + 1) mg ac k)
def lo1 (a b out:Array Keyed) (ia ib mg ac bc:Nat):StateT SortSt Sem (ForInStep LoSt):=do
 setMinGallop' mg
 let x ← elem' b ib
 let some k ← gallop' false x a ia (a.size - ia) 0 | pure (Ag (some (out++a.extract ia a.size++b.extract ib b.size),out,ia,ib,mg,ac,bc))
 (if k > 0 then (if (ia + k + 1 == a.size)=true then pure (Ag (some (out++a.extract ia (ia + k)++b.extract ib b.size++a.extract (ia + k) a.size),out++a.extract ia (ia + k),ia + k,ib,mg,k,bc))
   else if (ia + k == a.size)=true then pure (Ag (some (out++a.extract ia (ia + k)++a.extract (ia + k) a.size++b.extract ib b.size),out++a.extract ia (ia + k),ia + k,ib,mg,k,bc))
   else lo2 a b (out++a.extract ia (ia + k)) (ia + k) ib mg k bc) else lo2 a b out ia ib mg k bc)
def Post (rk:Keyed→Int) (a b:Array Keyed) (st:SortSt) (s:Shared) (c:Nat) (r:ForInStep LoSt) (st':SortSt) (s':Shared):Prop:=(∃ g,st'=setG st g)∧s=s'∧match r with
 | .done r=>Left rk a b c r.1 r.2.1 r.2.2.1 r.2.2.2.1
 | .yield r=>r.1=none∧Run rk a b r.2.1 r.2.2.1 r.2.2.2.1∧c≤r.2.2.1 + r.2.2.2.1
theorem lo3_ok (T:Two ok rk a b) {st:SortSt} {g mg ac bc c:Nat} (m:Mg rk a.toList b.toList out.toList ia ib) (la:ia + 1 < a.size) (lb:ib < b.size) (le:∀ y∈b.toList.drop ib,rk (a.getD ia default)≤rk y) (pr:c≤ia + ib + 1) :
  kasC M A E (lo3 a b out ia ib mg ac bc) (Post rk a b st s c) (setG st g) s:=by
 unfold lo3
 refine AI (elem_ok (get_at (by lia)) ?_)
 have m2:=m.pushX T.sa (by lia) le
 by_cases c1:(ia + 1 + 1 == a.size)=true
 ·rw [if_pos c1]
  exact AL ⟨⟨g,rfl⟩,rfl,.inl ⟨_,rfl,T.fin_a m2 (by simpa using c1)⟩⟩
 rw [if_neg c1]
 have c1':ia + 1 + 1≠a.size:=by simpa using c1
 have R2:Run rk a b (out.push (a.getD ia default)) (ia + 1) ib:=⟨m2,by lia,lb⟩
 by_cases c2:(decide (ac < 7) && decide (bc < 7))=true
 ·rw [if_pos c2]
  exact AL ⟨⟨g,rfl⟩,rfl,.inr ⟨rfl,R2,by show c≤ia + 1 + ib; lia⟩⟩
 ·rw [if_neg c2]
  exact AL ⟨⟨g,rfl⟩,rfl,rfl,R2,by show c≤ia + 1 + ib; lia⟩
theorem lo2_ok (C:Cmp M A E κ ok rk s) (T:Two ok rk a b) {st:SortSt} {g mg ac bc c:Nat} (hk:kindOf st=κ) (m:Mg rk a.toList b.toList out.toList ia ib) (la:ia + 1 < a.size) (lb:ib < b.size) (le:∀ x∈a.toList.drop ia,rk (b.getD ib default)≤rk x) (pr:c≤ia + ib + 2) :
  kasC M A E (lo2 a b out ia ib mg ac bc) (Post rk a b st s c) (setG st g) s:=by
 unfold lo2
 refine AI (elem_ok (get_at lb) ?_)
 have m2:=m.pushY T.sb lb le
 by_cases c1:(ib + 1 == b.size)=true
 ·rw [if_pos c1]
  exact AL ⟨⟨g,rfl⟩,rfl,.inl ⟨_,rfl,T.fin_b m2 (.inr (by simpa using c1))⟩⟩
 rw [if_neg c1]
 have c1':ib + 1≠b.size:=by simpa using c1
 refine AI (elem_ok (get_at (by lia)) ?_)
 have here:=T.sa.here (i:=ia) (by lia)
 refine AI (gallop_left C hk (ok_at T.oa (by lia)) (by lia) T.ob ((T.sb.drop _).take _) (by lia) fun k ed=>?_)
 dsimp only
 have no:∀ y∈b.toList.drop (ib + 1 + k),rk (a.getD ia default)≤rk y:=fun y hy=>by
  obtain ⟨i,h1,h2,rfl⟩:=mem_end hy
  have:=of_decide_eq_false (ed.no i h1 (by lia))
  lia
 have edl:=ed.le
 by_cases c2:k > 0
 ·rw [if_pos c2]
  have m3:Mg rk a.toList b.toList (out.push (b.getD ib default)++b.extract (ib + 1) (ib + 1 + k)).toList ia (ib + 1 + k):=by
   rw [BG,ext_mid]
   refine m2.takeY T.sb k fun y hy x hx=>?_
   obtain ⟨i,h1,rfl⟩:=mem_mid (n:=k) (by lia) (AE _) hy
   have:=of_decide_eq_true (ed.yes i h1)
   have:=here x hx
   lia
  by_cases c3:(ib + 1 + k == b.size)=true
  ·rw [if_pos c3]
   exact AL ⟨⟨g,rfl⟩,rfl,.inl ⟨_,rfl,T.fin_b m3 (.inr (by simpa using c3))⟩⟩
  rw [if_neg c3]
  have c3':ib + 1 + k≠b.size:=by simpa using c3
  exact lo3_ok T m3 la (by lia) no (by lia)
 ·rw [if_neg c2]
  have k0:k=0:=by lia
  subst k0
  exact lo3_ok T m2 la (by lia) no (by lia)
theorem lo1_ok (C:Cmp M A E κ ok rk s) (T:Two ok rk a b) {st:SortSt} {g mg ac bc c:Nat} (hk:kindOf st=κ) (R:Run rk a b out ia ib) (pr:c≤ia + ib + 2) :
  kasC M A E (lo1 a b out ia ib mg ac bc) (Post rk a b st s c) (setG st g) s:=by
 unfold lo1
 refine AI (setG_ok ?_)
 refine AI (elem_ok (get_at R.lb) ?_)
 have la:=R.la
 have here:=T.sb.here R.lb
 refine AI (gallop_right C hk (ok_at T.ob R.lb) (by lia) T.oa ((T.sa.drop _).take _) (by lia) fun k ed=>?_)
 dsimp only
 have no:∀ x∈a.toList.drop (ia + k),rk (b.getD ib default)≤rk x:=fun x hx=>by
  obtain ⟨i,h1,h2,rfl⟩:=mem_end hx
  have:=ed.no i h1 (by lia)
  unfold bR at this
  rw [Bool.not_eq_false',decide_eq_true_eq] at this
  lia
 have edl:=ed.le
 by_cases c2:k > 0
 ·rw [if_pos c2]
  have m3:Mg rk a.toList b.toList (out++a.extract ia (ia + k)).toList (ia + k) ib:=by
   rw [BG,ext_mid]
   refine R.mg.takeX T.sa k fun x hx y hy=>?_
   obtain ⟨i,h1,rfl⟩:=mem_mid (n:=k) (by lia) (AE _) hx
   have:=ed.yes i h1
   unfold bR at this
   rw [Bool.not_eq_true',decide_eq_false_iff_not] at this
   have:=here y hy
   lia
  by_cases c3:(ia + k + 1 == a.size)=true
  ·rw [if_pos c3]
   exact AL ⟨⟨_,rfl⟩,rfl,.inl ⟨_,rfl,T.fin_a m3 (by simpa using c3)⟩⟩
  rw [if_neg c3]
  have c3':ia + k + 1≠a.size:=by simpa using c3
  by_cases c4:(ia + k == a.size)=true
  ·rw [if_pos c4]
   exact AL ⟨⟨_,rfl⟩,rfl,.inl ⟨_,rfl,T.fin_b m3 (.inl (by simpa using c4))⟩⟩
  rw [if_neg c4]
  have c4':ia + k≠a.size:=by simpa using c4
  exact lo2_ok C T hk m3 (by lia) R.lb no (by lia)
 ·rw [if_neg c2]
  have k0:k=0:=by lia
  subst k0
  exact lo2_ok C T hk R.mg la R.lb no (by lia)
abbrev LpSt:=Option (Array Keyed)×Array Keyed×Nat×Nat×Nat×Nat
abbrev LoutSt:=Option (Array Keyed)×Array Keyed×Nat×Nat×Nat
def loP (a b:Array Keyed) (mg:Nat) (r:LpSt):StateT SortSt Sem (ForInStep LpSt):=do
 let y ← elem' b r.2.2.2.1
 let x ← elem' a r.2.2.1
 let some c ← lt' y x | pure (Ag (some (r.2.1++a.extract r.2.2.1 a.size++b.extract r.2.2.2.1 b.size),r.2.1,r.2.2.1,r.2.2.2.1,r.2.2.2.2.1,r.2.2.2.2.2))
 (if c=true then (do
  let y ← elem' b r.2.2.2.1
  (if (r.2.2.2.1 + 1 == b.size)=true then pure (Ag (some (r.2.1.push y++a.extract r.2.2.1 a.size++b.extract (r.2.2.2.1 + 1) b.size),r.2.1.push y,r.2.2.1,r.2.2.2.1 + 1,0,r.2.2.2.2.2 + 1))
   else if r.2.2.2.2.2 + 1 ≥ mg then pure (Ag (none,r.2.1.push y,r.2.2.1,r.2.2.2.1 + 1,0,r.2.2.2.2.2 + 1)) else pure (BB (none,r.2.1.push y,r.2.2.1,r.2.2.2.1 + 1,0,r.2.2.2.2.2 + 1))))
 else (do
  let x ← elem' a r.2.2.1
  (if (r.2.2.1 + 1 + 1 == a.size)=true then pure (Ag (some (r.2.1.push x++b.extract r.2.2.2.1 b.size++a.extract (r.2.2.1 + 1) a.size),r.2.1.push x,r.2.2.1 + 1,r.2.2.2.1,r.2.2.2.2.1 + 1,0))
   else if r.2.2.2.2.1 + 1 ≥ mg then pure (Ag (none,r.2.1.push x,r.2.2.1 + 1,r.2.2.2.1,r.2.2.2.2.1 + 1,0)) else pure (BB (none,r.2.1.push x,r.2.2.1 + 1,r.2.2.2.1,r.2.2.2.2.1 + 1,0)))))
def loG (a b:Array Keyed) (r:LoSt):StateT SortSt Sem (ForInStep LoSt) :=
 if r.2.2.2.2.1 > 1 then lo1 a b r.2.1 r.2.2.1 r.2.2.2.1 (r.2.2.2.2.1 - 1) r.2.2.2.2.2.1 r.2.2.2.2.2.2 else lo1 a b r.2.1 r.2.2.1 r.2.2.2.1 r.2.2.2.2.1 r.2.2.2.2.2.1 r.2.2.2.2.2.2
def loB (r:LoSt):StateT SortSt Sem (ForInStep LoutSt):=match r.1 with
 | some x=>pure (Ag (some x,r.2.1,r.2.2.1,r.2.2.2.1,r.2.2.2.2.1))
 | none=>do
  setMinGallop' (r.2.2.2.2.1 + 1)
  pure (BB (none,r.2.1,r.2.2.1,r.2.2.2.1,r.2.2.2.2.1 + 1))
def loA (a b:Array Keyed) (total mg:Nat) (r:LpSt):StateT SortSt Sem (ForInStep LoutSt):=match r.1 with
 | some x=>pure (Ag (some x,r.2.1,r.2.2.1,r.2.2.2.1,mg))
 | none=>do
  rule "list.sort.gallop"
  let r2 ← forIn [0:total] ((none,r.2.1,r.2.2.1,r.2.2.2.1,mg + 1,r.2.2.2.2.1,r.2.2.2.2.2):LoSt) fun _ r=>loG a b r
  loB r2
def loO (a b:Array Keyed) (total:Nat) (r:LoutSt):StateT SortSt Sem (ForInStep LoutSt):=do
 let r1 ← forIn [0:total] ((none,r.2.1,r.2.2.1,r.2.2.2.1,0,0):LpSt) fun _ q=>loP a b r.2.2.2.2 q
 loA a b total r.2.2.2.2 r1
def loE (r:LoutSt):StateT SortSt Sem (Array Keyed):=match r.1 with
 | some x=>pure x
 | none=>liftM (unsupported "internal:list.sort.merge-bound":Sem (Array Keyed))
def mLo2 (a b:Array Keyed):StateT SortSt Sem (Array Keyed):=do
 rule "list.sort.merge-lo"
 let y ← elem' b 0
 (if (1 == b.size)=true then pure (#[y]++a.extract 0 a.size++b.extract 1 b.size)
  else if (0 + 1 == a.size)=true then pure (#[y]++b.extract 1 b.size++a.extract 0 a.size)
  else (do
   let t ← get
   let r ← forIn [0:a.size + b.size] ((none,#[y],0,1,gallopOf t):LoutSt) fun _ r=>loO a b (a.size + b.size) r
   loE r))
theorem mergeLo2_eq (a b:Array Keyed):mergeLo' a b=mLo2 a b:=by kernel_rfl
def PostP (rk:Keyed→Int) (a b:Array Keyed) (st:SortSt) (s:Shared) (c:Nat) (r:ForInStep LpSt) (st':SortSt) (s':Shared):Prop:=st'=st∧s=s'∧match r with
 | .done r=>Left rk a b c r.1 r.2.1 r.2.2.1 r.2.2.2.1
 | .yield r=>r.1=none∧Run rk a b r.2.1 r.2.2.1 r.2.2.2.1∧c≤r.2.2.1 + r.2.2.2.1
theorem loP_ok (C:Cmp M A E κ ok rk s) (T:Two ok rk a b) {st:SortSt} {mg ac bc c:Nat} (hk:kindOf st=κ) (R:Run rk a b out ia ib) (pr:c≤ia + ib):kasC M A E (loP a b mg (none,out,ia,ib,ac,bc)) (PostP rk a b st s c) st s:=by
 unfold loP
 have la:ia < a.size:=by have:=R.la; lia
 refine AI (elem_ok (get_at R.lb) ?_)
 refine AI (elem_ok (get_at la) ?_)
 refine AI (C.lt _ _ (ok_at T.ob R.lb) (ok_at T.oa la) _ _ hk ?_)
 by_cases l:rk (b.getD ib default) < rk (a.getD ia default)
 ·refine ifT (decide_eq_true l) ?_
  refine AI (elem_ok (get_at R.lb) ?_)
  have m:=R.mg.pushY T.sb R.lb fun x hx=>by have:=T.sa.here la x hx; lia
  by_cases c3:(ib + 1 == b.size)=true
  ·exact ifT c3 (AL ⟨rfl,rfl,.inl ⟨_,rfl,T.fin_b m (.inr (beq_iff_eq.mp c3))⟩⟩)
  refine ifF c3 ?_
  have c3':ib + 1≠b.size:=fun z=>c3 (beq_iff_eq.mpr z)
  have R2:Run rk a b (out.push (b.getD ib default)) ia (ib + 1):=⟨m,R.la,by have:=R.lb; lia⟩
  by_cases c4:bc + 1 ≥ mg
  ·exact ifT c4 (AL ⟨rfl,rfl,.inr ⟨rfl,R2,by show c≤ia + (ib + 1); lia⟩⟩)
  ·exact ifF c4 (AL ⟨rfl,rfl,rfl,R2,by show c≤ia + (ib + 1); lia⟩)
 ·refine ifF (fun z=>l (of_decide_eq_true z)) ?_
  refine AI (elem_ok (get_at la) ?_)
  have m:=R.mg.pushX T.sa la fun y hy=>by have:=T.sb.here R.lb y hy; lia
  by_cases c3:(ia + 1 + 1 == a.size)=true
  ·exact ifT c3 (AL ⟨rfl,rfl,.inl ⟨_,rfl,T.fin_a m (beq_iff_eq.mp c3)⟩⟩)
  refine ifF c3 ?_
  have c3':ia + 1 + 1≠a.size:=fun z=>c3 (beq_iff_eq.mpr z)
  have R2:Run rk a b (out.push (a.getD ia default)) (ia + 1) ib:=⟨m,by have:=R.la; lia,R.lb⟩
  by_cases c4:ac + 1 ≥ mg
  ·exact ifT c4 (AL ⟨rfl,rfl,.inr ⟨rfl,R2,by show c≤ia + 1 + ib; lia⟩⟩)
  ·exact ifF c4 (AL ⟨rfl,rfl,rfl,R2,by show c≤ia + 1 + ib; lia⟩)
theorem loG_ok (C:Cmp M A E κ ok rk s) (T:Two ok rk a b) {st:SortSt} {g mg ac bc c:Nat} (hk:kindOf st=κ) (R:Run rk a b out ia ib) (pr:c≤ia + ib + 2):kasC M A E (loG a b (none,out,ia,ib,mg,ac,bc)) (Post rk a b st s c) (setG st g) s:=by
 unfold loG
 by_cases c4:mg > 1
 ·exact ifT c4 (lo1_ok C T hk R pr)
 ·exact ifF c4 (lo1_ok C T hk R pr)
def PostO (rk:Keyed→Int) (a b:Array Keyed) (st:SortSt) (s:Shared) (c:Nat) (r:ForInStep LoutSt) (st':SortSt) (s':Shared):Prop:=(∃ g,st'=setG st g)∧s=s'∧match r with
 | .done r=>∃ res,r.1=some res∧Fine rk a.toList b.toList res.toList
 | .yield r=>r.1=none∧Run rk a b r.2.1 r.2.2.1 r.2.2.2.1∧c≤r.2.2.1 + r.2.2.2.1
theorem loB_ok {st:SortSt} {g c:Nat} {r:LoSt} (L:Left rk a b c r.1 r.2.1 r.2.2.1 r.2.2.2.1):kasC M A E (loB r) (PostO rk a b st s c) (setG st g) s:=by
 obtain ⟨r,out,ia,ib,mg,ac,bc⟩:=r
 dsimp only at L
 rcases L with ⟨res,rfl,fi⟩ | ⟨rfl,R,pr⟩
 ·exact AL ⟨⟨g,rfl⟩,rfl,res,rfl,fi⟩
 ·exact AI (setG_ok (AL ⟨⟨_,rfl⟩,rfl,rfl,R,pr⟩))
theorem loA_ok (C:Cmp M A E κ ok rk s) (T:Two ok rk a b) {st:SortSt} {g mg c n:Nat} {r:LpSt} (hk:kindOf st=κ) (hn:0 < n) (L:Left rk a b c r.1 r.2.1 r.2.2.1 r.2.2.2.1):kasC M A E (loA a b n mg r) (PostO rk a b st s (c + 1)) (setG st g) s:=by
 obtain ⟨r,out,ia,ib,ac,bc⟩:=r
 dsimp only at L
 rcases L with ⟨res,rfl,fi⟩ | ⟨rfl,R,pr⟩
 ·exact AL ⟨⟨g,rfl⟩,rfl,res,rfl,fi⟩
 refine AI (rule_ok ?_)
 refine AI (inv (fun k2 r st' s'=>(∃ g,st'=setG st g)∧s=s'∧r.1=none∧Run rk a b r.2.1 r.2.2.1 r.2.2.2.1∧c≤r.2.2.1 + r.2.2.2.1∧(k2=0∨c + 1≤r.2.2.1 + r.2.2.2.1)) ⟨⟨g,rfl⟩,rfl,rfl,R,pr,.inl rfl⟩ ?_ ?_)
 ·rintro k2 ⟨r,out,ia,ib,mg,ac,bc⟩ st' s' _ ⟨⟨g,rfl⟩,rfl,e,R,pr,_⟩
  cases e
  refine kasC_mono (loG_ok (c:=c + 1) C T hk R (by dsimp only at pr; lia)) fun r st' s' z=>?_
  obtain ⟨⟨g,rfl⟩,rfl,z3⟩:=z
  cases r with
  | done r=>exact loB_ok z3
  | yield r=>exact ⟨⟨g,rfl⟩,rfl,z3.1,z3.2.1,by have:=z3.2.2; lia,.inr z3.2.2⟩
 ·rintro r st' s' ⟨⟨g,rfl⟩,rfl,e,R,pr,p2⟩
  exact loB_ok (.inr ⟨e,R,by lia⟩)
theorem loO_ok (C:Cmp M A E κ ok rk s) (T:Two ok rk a b) {st:SortSt} {g mg c n:Nat} (hk:kindOf st=κ) (hn:0 < n) (R:Run rk a b out ia ib) (pr:c≤ia + ib):kasC M A E (loO a b n (none,out,ia,ib,mg)) (PostO rk a b st s (c + 1)) (setG st g) s:=by
 unfold loO
 refine AI (inv (fun _ r st' s'=>st'=setG st g∧s=s'∧r.1=none∧Run rk a b r.2.1 r.2.2.1 r.2.2.2.1∧c≤r.2.2.1 + r.2.2.2.1) ⟨rfl,rfl,rfl,R,pr⟩ ?_ ?_)
 ·rintro k2 ⟨r,out,ia,ib,ac,bc⟩ st' s' _ ⟨rfl,rfl,e,R,pr⟩
  cases e
  refine kasC_mono (loP_ok (st:=setG st g) (c:=c) C T hk R pr) fun r st' s' z=>?_
  obtain ⟨rfl,rfl,z3⟩:=z
  cases r with
  | done r=>exact loA_ok C T hk hn z3
  | yield r=>exact ⟨rfl,rfl,z3⟩
 ·rintro r st' s' ⟨rfl,rfl,e,R,pr⟩
  exact loA_ok C T hk hn (.inr ⟨e,R,pr⟩)
theorem mLo_ok (C:Cmp M A E κ ok rk s) (T:Two ok rk a b) {st:SortSt} {Q:Array Keyed→SortSt→Shared→Prop} (hk:kindOf st=κ) (h:∀ r g,Fine rk a.toList b.toList r.toList→Q r (setG st g) s):kasC M A E (mLo2 a b) Q st s:=by
 unfold mLo2
 refine AI (rule_ok ?_)
 refine AI (elem_ok (get_at T.pb) ?_)
 have m0:Mg rk a.toList b.toList #[b.getD 0 default].toList 0 1:=by
  refine ⟨?_,List.pairwise_singleton _ _,fun o ho x hx=>?_,fun o ho y hy=>?_⟩
  ·have e:=drop_one (xs:=b.toList) (i:=0) (by rw [At]; exact get_at T.pb)
   rw [List.drop_zero] at e
   rw [e,As]
   exact List.Perm.refl _
  ·rw [An.mp ho]
   exact T.first _ (get_at T.pb) x hx
  ·rw [An.mp ho]
   exact T.sb.here T.pb y (List.mem_of_mem_drop hy)
 have same:∀ r,Fine rk a.toList b.toList r.toList→Q r st s:=fun r hr=>h r (gallopOf st) hr
 by_cases c1:(1 == b.size)=true
 ·exact ifT c1 (AL (same _ (T.fin_b m0 (.inr (beq_iff_eq.mp c1)))))
 refine ifF c1 ?_
 by_cases c2:(0 + 1 == a.size)=true
 ·exact ifT c2 (AL (same _ (T.fin_a m0 (beq_iff_eq.mp c2))))
 refine ifF c2 ?_
 have c1':1≠b.size:=fun z=>c1 (beq_iff_eq.mpr z)
 have c2':0 + 1≠a.size:=fun z=>c2 (beq_iff_eq.mpr z)
 have pa:=T.pa
 have pb:=T.pb
 have R0:Run rk a b #[b.getD 0 default] 0 1:=⟨m0,by lia,by lia⟩
 refine AI (kasC_get ?_)
 refine AI (inv (fun k r st' s'=>∃ g,st'=setG st g∧s=s'∧r.1=none∧Run rk a b r.2.1 r.2.2.1 r.2.2.2.1∧k + 1≤r.2.2.1 + r.2.2.2.1) ⟨gallopOf st,rfl,rfl,rfl,R0,AE _⟩ ?_ ?_)
 ·rintro k ⟨r,out,ia,ib,mg⟩ st' s' _ ⟨g,rfl,rfl,e,R,pr⟩
  cases e
  refine kasC_mono (loO_ok (st:=st) (g:=g) (c:=k + 1) C T hk (by lia) R pr) fun r st' s' z=>?_
  obtain ⟨⟨g,rfl⟩,rfl,z3⟩:=z
  cases r with
  | done r =>
   obtain ⟨r,out,ia,ib,mg⟩:=r
   obtain ⟨res,e,fi⟩:=z3
   cases e
   exact AL (h _ _ fi)
  | yield r=>exact ⟨g,rfl,rfl,z3⟩
 ·rintro ⟨r,out,ia,ib,mg⟩ st' s' ⟨g,rfl,rfl,e,R,pr⟩
  dsimp only at R pr
  have:=R.la
  have:=R.lb
  lia
end
end Tim
namespace Tim
open PySem PySem.W PyProof.Rows
section
variable {rk:Keyed→Int} {xs ys o:List Keyed} {i j:Nat}
structure Mh (rk:Keyed→Int) (xs ys o:List Keyed) (i j:Nat):Prop where
 perm:o.Perm (xs.drop i++ys.drop j)
 srt:Up rk o
 upx:∀ x∈xs.take i,∀ t∈o,rk x≤rk t
 upy:∀ y∈ys.take j,∀ t∈o,rk y≤rk t
theorem Mh.swap (h:Mh rk xs ys o i j):Mh rk ys xs o j i:=⟨h.perm.trans List.perm_append_comm,h.srt,h.upy,h.upx⟩
theorem drop_cut (xs:List Keyed) {k i:Nat} (hk:k≤i):xs.drop k=(xs.take i).drop k++xs.drop i:=by
 have e:=congrArg (List.drop k) (A8 i xs).symm
 rcases Nat.le_total i xs.length with h | h
 ·rw [List.drop_append_of_le_length (by rw [Ae]; lia)] at e
  exact e
 ·rw [AO h,List.drop_of_length_le h,A2]
theorem Mh.takeX (h:Mh rk xs ys o i j) (sx:Up rk xs) {k:Nat} (hk:k≤i) (le:∀ y∈ys.take j,∀ x∈(xs.take i).drop k,rk y≤rk x):Mh rk xs ys ((xs.take i).drop k++o) k j where
 perm:=by
  rw [drop_cut xs hk,AY]
  exact List.Perm.append_left _ h.perm
 srt:=BK.mpr ⟨(sx.take i).drop k,h.srt,fun x hx t ht=>h.upx x (List.mem_of_mem_drop hx) t ht⟩
 upx:=fun x hx t ht=>by
  have e:xs.take k=(xs.take i).take k:=by rw [List.take_take,Nat.min_eq_left hk]
  rw [e] at hx
  rcases AW.mp ht with ht | ht
  ·exact (sx.take i).cut k x hx t ht
  ·exact h.upx x (A6 hx) t ht
 upy:=fun y hy t ht=>by
  rcases AW.mp ht with ht | ht
  ·exact le y hy t ht
  ·exact h.upy y hy t ht
theorem Mh.takeY (h:Mh rk xs ys o i j) (sy:Up rk ys) {k:Nat} (hk:k≤j) (le:∀ x∈xs.take i,∀ y∈(ys.take j).drop k,rk x≤rk y):Mh rk xs ys ((ys.take j).drop k++o) i k:=(h.swap.takeX sy hk le).swap
theorem Mh.done (h:Mh rk xs ys o i j) (sx:Up rk xs) (sy:Up rk ys) (le:∀ x∈xs.take i,∀ y∈ys.take j,rk x≤rk y):Fine rk xs ys (xs.take i++ys.take j++o) where
 perm:=by
  refine (List.Perm.append_left _ h.perm).trans ?_
  have e:(xs++ys).Perm (xs.take i++xs.drop i++(ys.take j++ys.drop j)):=by rw [A8,A8]
  refine List.Perm.trans ?_ e.symm
  rw [AY,AY]
  refine List.Perm.append_left _ ?_
  rw [← AY,← AY]
  exact List.Perm.append_right _ List.perm_append_comm
 srt:=by
  refine BK.mpr ⟨BK.mpr ⟨sx.take i,sy.take j,le⟩,h.srt,fun z hz t ht=>?_⟩
  rcases AW.mp hz with hz | hz
  ·exact h.upx z hz t ht
  ·exact h.upy z hz t ht
theorem Mh.doneY (h:Mh rk xs ys o i j) (sx:Up rk xs) (sy:Up rk ys) (le:∀ y∈ys.take j,∀ x∈xs.take i,rk y≤rk x):Fine rk xs ys (ys.take j++xs.take i++o):=(h.swap.done sy sx le).swap
end
section
variable {M:Model} {A:Around} {E:Value→Shared→Prop} {κ:SortKind} {ok:Keyed→Prop} {rk:Keyed→Int} {s:Shared} {a b out:Array Keyed} {na nb:Nat}
theorem ext_low (a:Array Keyed) (n:Nat):(a.extract 0 n).toList=a.toList.take n:=by
 rw [Array.toList_extract,List.extract_eq_take_drop,List.drop_zero,Nat.sub_zero]
theorem ext_to (a:Array Keyed) (k n:Nat):(a.extract k n).toList=(a.toList.take n).drop k:=by
 rw [Array.toList_extract,List.extract_eq_take_drop,List.drop_take]
theorem last_one {arr:Array Keyed} {n:Nat} (h0:0 < n) (h:n≤arr.size):(arr.toList.take n).drop (n - 1)=[arr.getD (n - 1) default]:=by
 rw [List.drop_take,show n - (n - 1)=1 by lia]
 exact drop_one (by rw [At]; exact get_at (by lia))
theorem Up.till {arr:Array Keyed} (h:Up rk arr.toList) {n:Nat} (hn:n≤arr.size):∀ x∈arr.toList.take n,rk x≤rk (arr.getD (n - 1) default):=fun x hx=>by
 obtain ⟨i,hi⟩:=List.mem_iff_getElem?.mp hx
 obtain ⟨h1,_⟩:=AF.mp hi
 rw [Ae] at h1
 rw [List.getElem?_take_of_lt (by lia)] at hi
 exact h.at_ (i:=i) (j:=n - 1) (by lia) hi (by rw [At]; exact get_at (by lia))
theorem mem_low {arr:Array Keyed} {k:Nat} {x:Keyed} (h:x∈arr.toList.take k):∃ i,i < k∧i < arr.size∧x=arr.getD i default:=by
 obtain ⟨i,hi⟩:=List.mem_iff_getElem?.mp h
 obtain ⟨h1,_⟩:=AF.mp hi
 rw [Ae,Ac] at h1
 rw [List.getElem?_take_of_lt (by lia),At,get_at (by lia)] at hi
 exact ⟨i,by lia,by lia,(Aw hi).symm⟩
theorem mem_btw {arr:Array Keyed} {k n:Nat} {x:Keyed} (h:x∈(arr.toList.take n).drop k):∃ i,k≤i∧i < n∧i < arr.size∧x=arr.getD i default:=by
 obtain ⟨i,hi⟩:=List.mem_iff_getElem?.mp h
 rw [List.getElem?_drop] at hi
 obtain ⟨h1,_⟩:=AF.mp hi
 rw [Ae,Ac] at h1
 rw [List.getElem?_take_of_lt (by lia),At,get_at (by lia)] at hi
 exact ⟨k + i,by lia,by lia,by lia,(Aw hi).symm⟩
structure RunH (rk:Keyed→Int) (a b out:Array Keyed) (na nb:Nat):Prop where
 mh:Mh rk a.toList b.toList out.toList.reverse na nb
 pa:0 < na
 la:na≤a.size
 pb:1 < nb
 lb:nb≤b.size
theorem Two.fin_first (T:Two ok rk a b) (m:Mh rk a.toList b.toList out.toList.reverse na nb) (e:nb=1):Fine rk a.toList b.toList (b.extract 0 nb++a.extract 0 na++out.reverse).toList:=by
 rw [BG,BG,ext_low,ext_low,Array.toList_reverse]
 refine m.doneY T.sa T.sb fun y hy x hx=>?_
 rw [e] at hy
 obtain ⟨i,h1,h2,rfl⟩:=mem_low hy
 have i0:i=0:=by lia
 subst i0
 exact T.first _ (get_at T.pb) x (A6 hx)
theorem Two.fin_none (T:Two ok rk a b) (m:Mh rk a.toList b.toList out.toList.reverse na nb) (e:na=0∨nb=0):Fine rk a.toList b.toList (a.extract 0 na++b.extract 0 nb++out.reverse).toList:=by
 rw [BG,BG,ext_low,ext_low,Array.toList_reverse]
 refine m.done T.sa T.sb fun x hx y hy=>?_
 rcases e with e | e
 ·rw [e,As] at hx
  cases hx
 ·rw [e,As] at hy
  cases hy
theorem Mh.pushX (m:Mh rk a.toList b.toList out.toList.reverse na nb) (sa:Up rk a.toList) (pa:0 < na) (la:na≤a.size) (le:∀ y∈b.toList.take nb,rk y≤rk (a.getD (na - 1) default)):Mh rk a.toList b.toList (out.push (a.getD (na - 1) default)).toList.reverse (na - 1) nb:=by
 have e:=last_one (arr:=a) pa la
 have:=m.takeX sa (k:=na - 1) (by lia) (by rw [e]; intro y hy x hx; rw [An.mp hx]; exact le y hy)
 rw [e] at this
 rw [Array.toList_push,List.reverse_append]
 exact this
theorem Mh.pushY (m:Mh rk a.toList b.toList out.toList.reverse na nb) (sb:Up rk b.toList) (pb:0 < nb) (lb:nb≤b.size) (le:∀ x∈a.toList.take na,rk x≤rk (b.getD (nb - 1) default)):Mh rk a.toList b.toList (out.push (b.getD (nb - 1) default)).toList.reverse na (nb - 1):=by
 have e:=last_one (arr:=b) pb lb
 have:=m.takeY sb (k:=nb - 1) (by lia) (by rw [e]; intro y hy x hx; rw [An.mp hx]; exact le y hy)
 rw [e] at this
 rw [Array.toList_push,List.reverse_append]
 exact this
end
end Tim
namespace Tim
open PySem PySem.W PyProof.Rows
section
variable {M:Model} {A:Around} {E:Value→Shared→Prop} {κ:SortKind} {ok:Keyed→Prop} {rk:Keyed→Int} {s:Shared} {a b out:Array Keyed} {na nb:Nat}
def LeftH (rk:Keyed→Int) (a b:Array Keyed) (c:Nat) (r:Option (Array Keyed)) (out:Array Keyed) (na nb:Nat):Prop :=
 (∃ res,r=some res∧Fine rk a.toList b.toList res.toList)∨(r=none∧RunH rk a b out na nb∧na + nb + c≤a.size + b.size)
abbrev HiSt:=Option (Array Keyed)×Nat×Nat×Array Keyed×Nat×Nat×Nat
def hi3 (a b out:Array Keyed) (na nb mg ac bc:Nat):StateT SortSt Sem (ForInStep HiSt):=do
 let x ← elem' a (na - 1)
 if (na - 1 == 0)=true then pure (Ag (some (a.extract 0 (na - 1)++b.extract 0 nb++(out.push x).reverse),na - 1,nb,out.push x,mg,ac,bc))
 else if (decide (ac < 7) && decide (bc < 7))=true then pure (Ag (none,na - 1,nb,out.push x,mg,ac,bc))
 else pure (BB (none,na - 1,nb,out.push x,mg,ac,bc))
def hi2 (a b out:Array Keyed) (na nb mg ac bc:Nat):StateT SortSt Sem (ForInStep HiSt):=do
 let x ← elem' b (nb - 1)
 if (nb - 1 == 1)=true then pure (Ag (some (b.extract 0 (nb - 1)++a.extract 0 na++(out.push x).reverse),na,nb - 1,out.push x,mg,ac,bc))
 else do
  let y ← elem' a (na - 1)
  let some at_ ← gallop' true y b 0 (nb - 1) (nb - 1 - 1) | pure (Ag (some (a.extract 0 na++b.extract 0 (nb - 1)++(out.push x).reverse),na,nb - 1,out.push x,mg,ac,bc))
  (if nb - 1 - at_ > 0 then (if (at_ == 1)=true then pure (Ag (some (b.extract 0 at_++a.extract 0 na++(out.push x++(b.extract at_ (nb - 1)).reverse).reverse),na,at_,out.push x++(b.extract at_ (nb - 1)).reverse,mg,ac,nb - 1 - at_))
    else if (at_ == 0)=true then pure (Ag (some (a.extract 0 na++b.extract 0 at_++(out.push x++(b.extract at_ (nb - 1)).reverse).reverse),na,at_,out.push x++(b.extract at_ (nb - 1)).reverse,mg,ac,nb - 1 - at_))
    else hi3 a b (out.push x++(b.extract at_ (nb - 1)).reverse) na at_ mg ac (nb - 1 - at_)) else hi3 a b (out.push x) na (nb - 1) mg ac (nb - 1 - at_))
def hi1 (a b out:Array Keyed) (na nb mg ac bc:Nat):StateT SortSt Sem (ForInStep HiSt):=do
 setMinGallop' mg
 let x ← elem' b (nb - 1)
 let some at_ ← gallop' false x a 0 na (na - 1) | pure (Ag (some (a.extract 0 na++b.extract 0 nb++out.reverse),na,nb,out,mg,ac,bc))
 (if na - at_ > 0 then (if (at_ == 0)=true then pure (Ag (some (a.extract 0 at_++b.extract 0 nb++(out++(a.extract at_ na).reverse).reverse),at_,nb,out++(a.extract at_ na).reverse,mg,na - at_,bc))
   else hi2 a b (out++(a.extract at_ na).reverse) at_ nb mg (na - at_) bc) else hi2 a b out na nb mg (na - at_) bc)
def PostH (rk:Keyed→Int) (a b:Array Keyed) (st:SortSt) (s:Shared) (c:Nat) (r:ForInStep HiSt) (st':SortSt) (s':Shared):Prop:=(∃ g,st'=setG st g)∧s=s'∧match r with
 | .done r=>LeftH rk a b c r.1 r.2.2.2.1 r.2.1 r.2.2.1
 | .yield r=>r.1=none∧RunH rk a b r.2.2.2.1 r.2.1 r.2.2.1∧r.2.1 + r.2.2.1 + c≤a.size + b.size
theorem hi3_ok (T:Two ok rk a b) {st:SortSt} {g mg ac bc c:Nat} (m:Mh rk a.toList b.toList out.toList.reverse na nb) (pa:0 < na) (la:na≤a.size) (pb:1 < nb) (lb:nb≤b.size) (le:∀ y∈b.toList.take nb,rk y≤rk (a.getD (na - 1) default)) (pr:na + nb + c≤a.size + b.size + 1) :
  kasC M A E (hi3 a b out na nb mg ac bc) (PostH rk a b st s c) (setG st g) s:=by
 unfold hi3
 refine AI (elem_ok (get_at (by lia)) ?_)
 have m2:=m.pushX T.sa pa la le
 by_cases c1:(na - 1 == 0)=true
 ·rw [if_pos c1]
  exact AL ⟨⟨g,rfl⟩,rfl,.inl ⟨_,rfl,T.fin_none m2 (.inl (beq_iff_eq.mp c1))⟩⟩
 rw [if_neg c1]
 have c1':na - 1≠0:=fun z=>c1 (beq_iff_eq.mpr z)
 have R2:RunH rk a b (out.push (a.getD (na - 1) default)) (na - 1) nb:=⟨m2,by lia,by lia,pb,lb⟩
 by_cases c2:(decide (ac < 7) && decide (bc < 7))=true
 ·rw [if_pos c2]
  exact AL ⟨⟨g,rfl⟩,rfl,.inr ⟨rfl,R2,by show na - 1 + nb + c≤_; lia⟩⟩
 ·rw [if_neg c2]
  exact AL ⟨⟨g,rfl⟩,rfl,rfl,R2,by show na - 1 + nb + c≤_; lia⟩
theorem hi2_ok (C:Cmp M A E κ ok rk s) (T:Two ok rk a b) {st:SortSt} {g mg ac bc c:Nat} (hk:kindOf st=κ) (m:Mh rk a.toList b.toList out.toList.reverse na nb) (pa:0 < na) (la:na≤a.size) (pb:1 < nb) (lb:nb≤b.size) (le:∀ x∈a.toList.take na,rk x≤rk (b.getD (nb - 1) default)) (pr:na + nb + c≤a.size + b.size + 2) :
  kasC M A E (hi2 a b out na nb mg ac bc) (PostH rk a b st s c) (setG st g) s:=by
 unfold hi2
 refine AI (elem_ok (get_at (by lia)) ?_)
 have m2:=m.pushY T.sb (by lia) lb le
 by_cases c1:(nb - 1 == 1)=true
 ·rw [if_pos c1]
  exact AL ⟨⟨g,rfl⟩,rfl,.inl ⟨_,rfl,T.fin_first m2 (beq_iff_eq.mp c1)⟩⟩
 rw [if_neg c1]
 have c1':nb - 1≠1:=fun z=>c1 (beq_iff_eq.mpr z)
 refine AI (elem_ok (get_at (by lia)) ?_)
 have till:=T.sa.till la
 refine AI (gallop_left C hk (ok_at T.oa (by lia)) (by lia) T.ob ((T.sb.drop _).take _) (by lia) fun k ed=>?_)
 dsimp only
 have edl:=ed.le
 have yes:∀ y∈b.toList.take k,rk y≤rk (a.getD (na - 1) default):=fun y hy=>by
  obtain ⟨i,h1,h2,rfl⟩:=mem_low hy
  have:=of_decide_eq_true (ed.yes i h1)
  rw [Nat.zero_add] at this
  lia
 by_cases c2:nb - 1 - k > 0
 ·rw [if_pos c2]
  have m3:Mh rk a.toList b.toList (out.push (b.getD (nb - 1) default)++(b.extract k (nb - 1)).reverse).toList.reverse na k:=by
   rw [BG,Array.toList_reverse,List.reverse_append,List.reverse_reverse,ext_to]
   refine m2.takeY T.sb (by lia) fun x hx y hy=>?_
   obtain ⟨i,h1,h2,h3,rfl⟩:=mem_btw hy
   have:=of_decide_eq_false (ed.no i h1 h2)
   rw [Nat.zero_add] at this
   have:=till x hx
   lia
  by_cases c3:(k == 1)=true
  ·rw [if_pos c3]
   exact AL ⟨⟨g,rfl⟩,rfl,.inl ⟨_,rfl,T.fin_first m3 (beq_iff_eq.mp c3)⟩⟩
  rw [if_neg c3]
  have c3':k≠1:=fun z=>c3 (beq_iff_eq.mpr z)
  by_cases c4:(k == 0)=true
  ·rw [if_pos c4]
   exact AL ⟨⟨g,rfl⟩,rfl,.inl ⟨_,rfl,T.fin_none m3 (.inr (beq_iff_eq.mp c4))⟩⟩
  rw [if_neg c4]
  have c4':k≠0:=fun z=>c4 (beq_iff_eq.mpr z)
  exact hi3_ok T m3 pa la (by lia) (by lia) yes (by lia)
 ·rw [if_neg c2]
  have k0:k=nb - 1:=by lia
  subst k0
  exact hi3_ok T m2 pa la (by lia) (by lia) yes (by lia)
theorem hi1_ok (C:Cmp M A E κ ok rk s) (T:Two ok rk a b) {st:SortSt} {g mg ac bc c:Nat} (hk:kindOf st=κ) (R:RunH rk a b out na nb) (pr:na + nb + c≤a.size + b.size + 2) :
  kasC M A E (hi1 a b out na nb mg ac bc) (PostH rk a b st s c) (setG st g) s:=by
 unfold hi1
 have pa:=R.pa
 have la:=R.la
 have pb:=R.pb
 have lb:=R.lb
 refine AI (setG_ok ?_)
 refine AI (elem_ok (get_at (by lia)) ?_)
 have till:=T.sb.till lb
 refine AI (gallop_right C hk (ok_at T.ob (by lia)) (by lia) T.oa ((T.sa.drop _).take _) (by lia) fun k ed=>?_)
 dsimp only
 have edl:=ed.le
 have yes:∀ x∈a.toList.take k,rk x≤rk (b.getD (nb - 1) default):=fun x hx=>by
  obtain ⟨i,h1,h2,rfl⟩:=mem_low hx
  have:=ed.yes i h1
  unfold bR at this
  rw [Bool.not_eq_true',decide_eq_false_iff_not,Nat.zero_add] at this
  lia
 by_cases c2:na - k > 0
 ·rw [if_pos c2]
  have m3:Mh rk a.toList b.toList (out++(a.extract k na).reverse).toList.reverse k nb:=by
   rw [BG,Array.toList_reverse,List.reverse_append,List.reverse_reverse,ext_to]
   refine R.mh.takeX T.sa (by lia) fun y hy x hx=>?_
   obtain ⟨i,h1,h2,h3,rfl⟩:=mem_btw hx
   have:=ed.no i h1 h2
   unfold bR at this
   rw [Bool.not_eq_false',decide_eq_true_eq,Nat.zero_add] at this
   have:=till y hy
   lia
  by_cases c3:(k == 0)=true
  ·rw [if_pos c3]
   exact AL ⟨⟨_,rfl⟩,rfl,.inl ⟨_,rfl,T.fin_none m3 (.inl (beq_iff_eq.mp c3))⟩⟩
  rw [if_neg c3]
  have c3':k≠0:=fun z=>c3 (beq_iff_eq.mpr z)
  exact hi2_ok C T hk m3 (by lia) (by lia) pb lb yes (by lia)
 ·rw [if_neg c2]
  have k0:k=na:=by lia
  subst k0
  exact hi2_ok C T hk R.mh pa la pb lb yes (by lia)
abbrev HpSt:=Option (Array Keyed)×Nat×Nat×Array Keyed×Nat×Nat
abbrev HoutSt:=Option (Array Keyed)×Nat×Nat×Array Keyed×Nat
def hiP (a b:Array Keyed) (mg:Nat) (r:HpSt):StateT SortSt Sem (ForInStep HpSt):=do
 let y ← elem' b (r.2.2.1 - 1)
 let x ← elem' a (r.2.1 - 1)
 let some c ← lt' y x | pure (Ag (some (a.extract 0 r.2.1++b.extract 0 r.2.2.1++r.2.2.2.1.reverse),r.2.1,r.2.2.1,r.2.2.2.1,r.2.2.2.2.1,r.2.2.2.2.2))
 (if c=true then (do
  let x ← elem' a (r.2.1 - 1)
  (if (r.2.1 - 1 == 0)=true then pure (Ag (some (a.extract 0 (r.2.1 - 1)++b.extract 0 r.2.2.1++(r.2.2.2.1.push x).reverse),r.2.1 - 1,r.2.2.1,r.2.2.2.1.push x,r.2.2.2.2.1 + 1,0))
   else if r.2.2.2.2.1 + 1 ≥ mg then pure (Ag (none,r.2.1 - 1,r.2.2.1,r.2.2.2.1.push x,r.2.2.2.2.1 + 1,0)) else pure (BB (none,r.2.1 - 1,r.2.2.1,r.2.2.2.1.push x,r.2.2.2.2.1 + 1,0))))
 else (do
  let y ← elem' b (r.2.2.1 - 1)
  (if (r.2.2.1 - 1 == 1)=true then pure (Ag (some (b.extract 0 (r.2.2.1 - 1)++a.extract 0 r.2.1++(r.2.2.2.1.push y).reverse),r.2.1,r.2.2.1 - 1,r.2.2.2.1.push y,0,r.2.2.2.2.2 + 1))
   else if r.2.2.2.2.2 + 1 ≥ mg then pure (Ag (none,r.2.1,r.2.2.1 - 1,r.2.2.2.1.push y,0,r.2.2.2.2.2 + 1)) else pure (BB (none,r.2.1,r.2.2.1 - 1,r.2.2.2.1.push y,0,r.2.2.2.2.2 + 1)))))
def hiG (a b:Array Keyed) (r:HiSt):StateT SortSt Sem (ForInStep HiSt) :=
 if r.2.2.2.2.1 > 1 then hi1 a b r.2.2.2.1 r.2.1 r.2.2.1 (r.2.2.2.2.1 - 1) r.2.2.2.2.2.1 r.2.2.2.2.2.2 else hi1 a b r.2.2.2.1 r.2.1 r.2.2.1 r.2.2.2.2.1 r.2.2.2.2.2.1 r.2.2.2.2.2.2
def hiB (r:HiSt):StateT SortSt Sem (ForInStep HoutSt):=match r.1 with
 | some x=>pure (Ag (some x,r.2.1,r.2.2.1,r.2.2.2.1,r.2.2.2.2.1))
 | none=>do
  setMinGallop' (r.2.2.2.2.1 + 1)
  pure (BB (none,r.2.1,r.2.2.1,r.2.2.2.1,r.2.2.2.2.1 + 1))
def hiA (a b:Array Keyed) (total mg:Nat) (r:HpSt):StateT SortSt Sem (ForInStep HoutSt):=match r.1 with
 | some x=>pure (Ag (some x,r.2.1,r.2.2.1,r.2.2.2.1,mg))
 | none=>do
  rule "list.sort.gallop"
  let r2 ← forIn [0:total] ((none,r.2.1,r.2.2.1,r.2.2.2.1,mg + 1,r.2.2.2.2.1,r.2.2.2.2.2):HiSt) fun _ r=>hiG a b r
  hiB r2
def hiO (a b:Array Keyed) (total:Nat) (r:HoutSt):StateT SortSt Sem (ForInStep HoutSt):=do
 let r1 ← forIn [0:total] ((none,r.2.1,r.2.2.1,r.2.2.2.1,0,0):HpSt) fun _ q=>hiP a b r.2.2.2.2 q
 hiA a b total r.2.2.2.2 r1
def hiE (r:HoutSt):StateT SortSt Sem (Array Keyed):=match r.1 with
 | some x=>pure x
 | none=>liftM (unsupported "internal:list.sort.merge-bound":Sem (Array Keyed))
def mHi2 (a b:Array Keyed):StateT SortSt Sem (Array Keyed):=do
 rule "list.sort.merge-hi"
 let x ← elem' a (a.size - 1)
 (if (a.size - 1 == 0)=true then pure (a.extract 0 (a.size - 1)++b.extract 0 b.size++#[x].reverse)
  else if (b.size == 1)=true then pure (b.extract 0 b.size++a.extract 0 (a.size - 1)++#[x].reverse)
  else (do
   let t ← get
   let r ← forIn [0:a.size + b.size] ((none,a.size - 1,b.size,#[x],gallopOf t):HoutSt) fun _ r=>hiO a b (a.size + b.size) r
   hiE r))
theorem mergeHi2_eq (a b:Array Keyed):mergeHi' a b=mHi2 a b:=by kernel_rfl
def PostPH (rk:Keyed→Int) (a b:Array Keyed) (st:SortSt) (s:Shared) (c:Nat) (r:ForInStep HpSt) (st':SortSt) (s':Shared):Prop:=st'=st∧s=s'∧match r with
 | .done r=>LeftH rk a b c r.1 r.2.2.2.1 r.2.1 r.2.2.1
 | .yield r=>r.1=none∧RunH rk a b r.2.2.2.1 r.2.1 r.2.2.1∧r.2.1 + r.2.2.1 + c≤a.size + b.size
theorem hiP_ok (C:Cmp M A E κ ok rk s) (T:Two ok rk a b) {st:SortSt} {mg ac bc c:Nat} (hk:kindOf st=κ) (R:RunH rk a b out na nb) (pr:na + nb + c≤a.size + b.size):kasC M A E (hiP a b mg (none,na,nb,out,ac,bc)) (PostPH rk a b st s c) st s:=by
 unfold hiP
 have pa:=R.pa
 have la:=R.la
 have pb:=R.pb
 have lb:=R.lb
 refine AI (elem_ok (get_at (show nb - 1 < b.size by lia)) ?_)
 refine AI (elem_ok (get_at (show na - 1 < a.size by lia)) ?_)
 refine AI (C.lt _ _ (ok_at T.ob (show nb - 1 < b.size by lia)) (ok_at T.oa (show na - 1 < a.size by lia)) _ _ hk ?_)
 by_cases l:rk (b.getD (nb - 1) default) < rk (a.getD (na - 1) default)
 ·refine ifT (decide_eq_true l) ?_
  refine AI (elem_ok (get_at (show na - 1 < a.size by lia)) ?_)
  have m:=R.mh.pushX T.sa pa la fun y hy=>by have:=T.sb.till lb y hy; lia
  by_cases c3:(na - 1 == 0)=true
  ·exact ifT c3 (AL ⟨rfl,rfl,.inl ⟨_,rfl,T.fin_none m (.inl (beq_iff_eq.mp c3))⟩⟩)
  refine ifF c3 ?_
  have c3':na - 1≠0:=fun z=>c3 (beq_iff_eq.mpr z)
  have R2:RunH rk a b (out.push (a.getD (na - 1) default)) (na - 1) nb:=⟨m,by lia,by lia,pb,lb⟩
  by_cases c4:ac + 1 ≥ mg
  ·exact ifT c4 (AL ⟨rfl,rfl,.inr ⟨rfl,R2,by show na - 1 + nb + c≤_; lia⟩⟩)
  ·exact ifF c4 (AL ⟨rfl,rfl,rfl,R2,by show na - 1 + nb + c≤_; lia⟩)
 ·refine ifF (fun z=>l (of_decide_eq_true z)) ?_
  refine AI (elem_ok (get_at (show nb - 1 < b.size by lia)) ?_)
  have m:=R.mh.pushY T.sb (by lia) lb fun x hx=>by have:=T.sa.till la x hx; lia
  by_cases c3:(nb - 1 == 1)=true
  ·exact ifT c3 (AL ⟨rfl,rfl,.inl ⟨_,rfl,T.fin_first m (beq_iff_eq.mp c3)⟩⟩)
  refine ifF c3 ?_
  have c3':nb - 1≠1:=fun z=>c3 (beq_iff_eq.mpr z)
  have R2:RunH rk a b (out.push (b.getD (nb - 1) default)) na (nb - 1):=⟨m,pa,la,by lia,by lia⟩
  by_cases c4:bc + 1 ≥ mg
  ·exact ifT c4 (AL ⟨rfl,rfl,.inr ⟨rfl,R2,by show na + (nb - 1) + c≤_; lia⟩⟩)
  ·exact ifF c4 (AL ⟨rfl,rfl,rfl,R2,by show na + (nb - 1) + c≤_; lia⟩)
theorem hiG_ok (C:Cmp M A E κ ok rk s) (T:Two ok rk a b) {st:SortSt} {g mg ac bc c:Nat} (hk:kindOf st=κ) (R:RunH rk a b out na nb) (pr:na + nb + c≤a.size + b.size + 2):kasC M A E (hiG a b (none,na,nb,out,mg,ac,bc)) (PostH rk a b st s c) (setG st g) s:=by
 unfold hiG
 by_cases c4:mg > 1
 ·exact ifT c4 (hi1_ok C T hk R pr)
 ·exact ifF c4 (hi1_ok C T hk R pr)
def PostOH (rk:Keyed→Int) (a b:Array Keyed) (st:SortSt) (s:Shared) (c:Nat) (r:ForInStep HoutSt) (st':SortSt) (s':Shared):Prop:=(∃ g,st'=setG st g)∧s=s'∧match r with
 | .done r=>∃ res,r.1=some res∧Fine rk a.toList b.toList res.toList
 | .yield r=>r.1=none∧RunH rk a b r.2.2.2.1 r.2.1 r.2.2.1∧r.2.1 + r.2.2.1 + c≤a.size + b.size
theorem hiB_ok {st:SortSt} {g c:Nat} {r:HiSt} (L:LeftH rk a b c r.1 r.2.2.2.1 r.2.1 r.2.2.1):kasC M A E (hiB r) (PostOH rk a b st s c) (setG st g) s:=by
 obtain ⟨r,na,nb,out,mg,ac,bc⟩:=r
 dsimp only at L
 rcases L with ⟨res,rfl,fi⟩ | ⟨rfl,R,pr⟩
 ·exact AL ⟨⟨g,rfl⟩,rfl,res,rfl,fi⟩
 ·exact AI (setG_ok (AL ⟨⟨_,rfl⟩,rfl,rfl,R,pr⟩))
theorem hiA_ok (C:Cmp M A E κ ok rk s) (T:Two ok rk a b) {st:SortSt} {g mg c n:Nat} {r:HpSt} (hk:kindOf st=κ) (hn:0 < n) (L:LeftH rk a b c r.1 r.2.2.2.1 r.2.1 r.2.2.1):kasC M A E (hiA a b n mg r) (PostOH rk a b st s (c + 1)) (setG st g) s:=by
 obtain ⟨r,na,nb,out,ac,bc⟩:=r
 dsimp only at L
 rcases L with ⟨res,rfl,fi⟩ | ⟨rfl,R,pr⟩
 ·exact AL ⟨⟨g,rfl⟩,rfl,res,rfl,fi⟩
 refine AI (rule_ok ?_)
 refine AI (inv (fun k2 r st' s'=>(∃ g,st'=setG st g)∧s=s'∧r.1=none∧RunH rk a b r.2.2.2.1 r.2.1 r.2.2.1∧r.2.1 + r.2.2.1 + c≤a.size + b.size∧(k2=0∨r.2.1 + r.2.2.1 + (c + 1)≤a.size + b.size)) ⟨⟨g,rfl⟩,rfl,rfl,R,pr,.inl rfl⟩ ?_ ?_)
 ·rintro k2 ⟨r,na,nb,out,mg,ac,bc⟩ st' s' _ ⟨⟨g,rfl⟩,rfl,e,R,pr,_⟩
  cases e
  refine kasC_mono (hiG_ok (c:=c + 1) C T hk R (by dsimp only at pr; lia)) fun r st' s' z=>?_
  obtain ⟨⟨g,rfl⟩,rfl,z3⟩:=z
  cases r with
  | done r=>exact hiB_ok z3
  | yield r=>exact ⟨⟨g,rfl⟩,rfl,z3.1,z3.2.1,by have:=z3.2.2; lia,.inr z3.2.2⟩
 ·rintro r st' s' ⟨⟨g,rfl⟩,rfl,e,R,pr,p2⟩
  exact hiB_ok (.inr ⟨e,R,by lia⟩)
theorem hiO_ok (C:Cmp M A E κ ok rk s) (T:Two ok rk a b) {st:SortSt} {g mg c n:Nat} (hk:kindOf st=κ) (hn:0 < n) (R:RunH rk a b out na nb) (pr:na + nb + c≤a.size + b.size):kasC M A E (hiO a b n (none,na,nb,out,mg)) (PostOH rk a b st s (c + 1)) (setG st g) s:=by
 unfold hiO
 refine AI (inv (fun _ r st' s'=>st'=setG st g∧s=s'∧r.1=none∧RunH rk a b r.2.2.2.1 r.2.1 r.2.2.1∧r.2.1 + r.2.2.1 + c≤a.size + b.size) ⟨rfl,rfl,rfl,R,pr⟩ ?_ ?_)
 ·rintro k2 ⟨r,na,nb,out,ac,bc⟩ st' s' _ ⟨rfl,rfl,e,R,pr⟩
  cases e
  refine kasC_mono (hiP_ok (st:=setG st g) (c:=c) C T hk R pr) fun r st' s' z=>?_
  obtain ⟨rfl,rfl,z3⟩:=z
  cases r with
  | done r=>exact hiA_ok C T hk hn z3
  | yield r=>exact ⟨rfl,rfl,z3⟩
 ·rintro r st' s' ⟨rfl,rfl,e,R,pr⟩
  exact hiA_ok C T hk hn (.inr ⟨e,R,pr⟩)
theorem mHi_ok (C:Cmp M A E κ ok rk s) (T:Two ok rk a b) {st:SortSt} {Q:Array Keyed→SortSt→Shared→Prop} (hk:kindOf st=κ) (h:∀ r g,Fine rk a.toList b.toList r.toList→Q r (setG st g) s):kasC M A E (mHi2 a b) Q st s:=by
 unfold mHi2
 have pa:=T.pa
 have pb:=T.pb
 refine AI (rule_ok ?_)
 refine AI (elem_ok (get_at (show a.size - 1 < a.size by lia)) ?_)
 have m0:Mh rk a.toList b.toList #[a.getD (a.size - 1) default].toList.reverse (a.size - 1) b.size:=by
  have e:=drop_one (xs:=a.toList) (i:=a.size - 1) (by rw [At]; exact get_at (by lia))
  rw [AO (by rw [List.length_drop,Ac]; lia)] at e
  refine ⟨?_,List.pairwise_singleton _ _,fun x hx t ht=>?_,fun y hy t ht=>?_⟩
  ·rw [e,← Ac (xs:=b),List.drop_length]
   exact List.Perm.refl _
  ·have ht':t=a.getD (a.size - 1) default:=An.mp ht
   rw [ht']
   have:=T.sa.till (AE _)
   exact this x (by rw [AO (by rw [Ac]; exact AE _)]; exact A6 hx)
  ·have ht':t=a.getD (a.size - 1) default:=An.mp ht
   rw [ht']
   exact T.last y (A6 hy) _ (by rw [e]; exact List.mem_singleton_self _)
 have same:∀ r,Fine rk a.toList b.toList r.toList→Q r st s:=fun r hr=>h r (gallopOf st) hr
 by_cases c1:(a.size - 1 == 0)=true
 ·exact ifT c1 (AL (same _ (T.fin_none m0 (.inl (beq_iff_eq.mp c1)))))
 refine ifF c1 ?_
 by_cases c2:(b.size == 1)=true
 ·exact ifT c2 (AL (same _ (T.fin_first m0 (beq_iff_eq.mp c2))))
 refine ifF c2 ?_
 have c1':a.size - 1≠0:=fun z=>c1 (beq_iff_eq.mpr z)
 have c2':b.size≠1:=fun z=>c2 (beq_iff_eq.mpr z)
 have R0:RunH rk a b #[a.getD (a.size - 1) default] (a.size - 1) b.size:=⟨m0,by lia,by lia,by lia,AE _⟩
 refine AI (kasC_get ?_)
 refine AI (inv (fun k r st' s'=>∃ g,st'=setG st g∧s=s'∧r.1=none∧RunH rk a b r.2.2.2.1 r.2.1 r.2.2.1∧r.2.1 + r.2.2.1 + (k + 1)≤a.size + b.size) ⟨gallopOf st,rfl,rfl,rfl,R0,by show a.size - 1 + b.size + 1≤_; lia⟩ ?_ ?_)
 ·rintro k ⟨r,na,nb,out,mg⟩ st' s' _ ⟨g,rfl,rfl,e,R,pr⟩
  cases e
  refine kasC_mono (hiO_ok (st:=st) (g:=g) (c:=k + 1) C T hk (by lia) R pr) fun r st' s' z=>?_
  obtain ⟨⟨g,rfl⟩,rfl,z3⟩:=z
  cases r with
  | done r =>
   obtain ⟨r,na,nb,out,mg⟩:=r
   obtain ⟨res,e,fi⟩:=z3
   cases e
   exact AL (h _ _ fi)
  | yield r=>exact ⟨g,rfl,rfl,z3⟩
 ·rintro ⟨r,na,nb,out,mg⟩ st' s' ⟨g,rfl,rfl,e,R,pr⟩
  dsimp only at R pr
  lia
end
end Tim
namespace Tim
open PySem PySem.W PyProof.Rows
def fill (arr:Array Keyed) (sa:Nat) (m:List Keyed):Array Keyed:=m.zipIdx.foldl (fun a (p,j)=>a.setIfInBounds (sa + j) p) arr
def mAt (i:Nat):StateT SortSt Sem Bool:=do
 let s ← get
 let (some (sa,na,power),some (sb,nb,_)):=((Am s)[i]?,(Am s)[i + 1]?) | unsupported "internal:list.sort.pending"
 set (setPending s (((Am s).setIfInBounds i (sa,na + nb,power)).eraseIdxIfInBounds (i + 1)))
 let some k ← gallop' false (← elem' (arrOf s) sb) (arrOf s) sa na 0 | return false
 let (sa,na):=(sa + k,na - k)
 if na == 0 then return true
 let some nb ← gallop' true (← elem' (arrOf s) (sa + na - 1)) (arrOf s) sb nb (nb - 1) | return false
 if nb == 0 then return true
 let x:=(arrOf s).extract sa sb
 let y:=(arrOf s).extract sb (sb + nb)
 let merged ← if na≤nb then mergeLo' x y else mergeHi' x y
 modify fun s=>setArr s (fill (arrOf s) sa merged.toList)
 return (failedOf (← get)).isNone
theorem mergeAt'_eq (i:Nat):mergeAt' i=mAt i:=rfl
section
variable {M:Model} {A:Around} {E:Value→Shared→Prop} {s:Shared} {rk:Keyed→Int}
theorem kasC_set {σ:Type} {st' st:σ} {Q:PUnit→σ→Shared→Prop} (h:Q ⟨⟩ st' s):kasC M A E (set st':StateT σ Sem PUnit) Q st s:=by
 unfold kasC
 rw [StateT.run_set]
 exact AG h
theorem fill_list:∀ (m:List Keyed) (arr:Array Keyed) (sa:Nat) (j:Nat),sa + j + m.length≤arr.size→((m.zipIdx j).foldl (fun a (p,j)=>a.setIfInBounds (sa + j) p) arr).toList=arr.toList.take (sa + j)++m++arr.toList.drop (sa + j + m.length)
 | [],arr,sa,j,h=>by
  rw [List.zipIdx_nil,List.foldl_nil,A2,List.length_nil,Nat.add_zero,A8]
 | x :: m,arr,sa,j,h=>by
  rw [AS] at h
  rw [List.zipIdx_cons,List.foldl_cons]
  rw [fill_list m _ sa (j + 1) (by rw [Array.size_setIfInBounds]; lia)]
  dsimp only
  rw [Array.toList_setIfInBounds]
  have hl:sa + j < arr.toList.length:=by rw [Ac]; lia
  rw [← Nat.add_assoc,List.take_set,List.drop_set,if_pos (by lia),AS]
  have e:sa + j + 1 + m.length=sa + j + (m.length + 1):=by lia
  rw [e]
  have e2:(arr.toList.take (sa + j + 1)).set (sa + j) x=arr.toList.take (sa + j)++[x]:=by
   rw [List.take_succ_eq_append_getElem hl,List.set_append_right _ _ (by rw [Ae]; lia)]
   rw [Ae,Nat.min_eq_left (by lia),Nat.sub_self]
   rfl
  rw [e2,AY,AY,AY]
  rfl
theorem fill_ok (arr:Array Keyed) (sa:Nat) (m:List Keyed) (h:sa + m.length≤arr.size):(fill arr sa m).toList=arr.toList.take sa++m++arr.toList.drop (sa + m.length):=by
 have:=fill_list m arr sa 0 (by lia)
 rw [Nat.add_zero] at this
 exact this
end
end Tim
namespace Tim
open PySem PySem.W PyProof.Rows
section
variable {M:Model} {A:Around} {E:Value→Shared→Prop} {κ:SortKind} {ok:Keyed→Prop} {rk:Keyed→Int} {s:Shared}
def cut (L:List Keyed) (i n:Nat):List Keyed:=(L.drop i).take n
theorem cut_len {L:List Keyed} {i n:Nat} (h:i + n≤L.length):(cut L i n).length=n:=by
 unfold cut
 rw [Ae,List.length_drop]
 lia
theorem cut_take {L:List Keyed} {i n k:Nat} (h:k≤n):(cut L i n).take k=cut L i k:=by
 unfold cut
 rw [List.take_take,Nat.min_eq_left h]
theorem cut_drop {L:List Keyed} {i n k:Nat}:(cut L i n).drop k=cut L (i + k) (n - k):=by
 unfold cut
 rw [List.drop_take,List.drop_drop]
theorem take_cut (L:List Keyed) (i k:Nat):L.take (i + k)=L.take i++cut L i k:=List.take_add
theorem drop_cut' (L:List Keyed) (i k:Nat):L.drop i=cut L i k++L.drop (i + k):=by
 unfold cut
 rw [← List.drop_drop,A8]
theorem all_cut (L:List Keyed) (i n m:Nat):L=L.take i++(cut L i n++cut L (i + n) m)++L.drop (i + n + m):=by
 have e1:=drop_cut' L i n
 have e2:=drop_cut' L (i + n) m
 have e0:=A8 i L
 rw [e1,e2] at e0
 rw [AY,AY]
 exact e0.symm
theorem cut_at {arr:Array Keyed} {i n j:Nat} (len:i + n≤arr.size) (hj:j < n):(cut arr.toList i n)[j]?=some (arr.getD (i + j) default):=mid_at len hj
theorem mem_cut {arr:Array Keyed} {i n:Nat} {x:Keyed} (len:i + n≤arr.size) (h:x∈cut arr.toList i n):∃ j,j < n∧x=arr.getD (i + j) default:=mem_mid (n:=n) len (AE _) h
theorem Fine.plain {xs ys:List Keyed} (ux:Up rk xs) (uy:Up rk ys) (le:∀ x∈xs,∀ y∈ys,rk x≤rk y):Fine rk xs ys (xs++ys):=⟨List.Perm.refl _,BK.mpr ⟨ux,uy,le⟩⟩
theorem Fine.wrap {xs ys r:List Keyed} {k m:Nat} (ux:Up rk xs) (uy:Up rk ys) (f:Fine rk (xs.drop k) (ys.take m) r) (l1:∀ x∈xs.take k,∀ y∈ys,rk x≤rk y) (l2:∀ x∈xs,∀ y∈ys.drop m,rk x≤rk y):Fine rk xs ys (xs.take k++r++ys.drop m) where
 perm:=by
  refine ((List.Perm.append_left _ f.perm).append_right _).trans ?_
  have e:xs.take k++(xs.drop k++ys.take m)++ys.drop m=xs++ys:=by
   rw [← AY,A8,AY,A8]
  rw [e]
 srt:=by
  have mr:∀ z∈r,z∈xs.drop k∨z∈ys.take m:=fun z hz=>AW.mp (f.perm.mem_iff.mp hz)
  refine BK.mpr ⟨BK.mpr ⟨ux.take k,f.srt,fun x hx z hz=>?_⟩,uy.drop m,fun z hz y hy=>?_⟩
  ·rcases mr z hz with h | h
   ·exact ux.cut k x hx z h
   ·exact l1 x hx z (A6 h)
  ·rcases AW.mp hz with h | h
   ·exact l2 z (A6 h) y hy
   ·rcases mr z h with h | h
    ·exact l2 z (List.mem_of_mem_drop h) y hy
    ·exact uy.cut m z h y hy
theorem mAt_ok (C:Cmp M A E κ ok rk s) {st:SortSt} {i sa na pw nb pw2:Nat} {Q:Bool→SortSt→Shared→Prop} (hk:kindOf st=κ) (hf:failedOf st=none) (p1:(Am st)[i]?=some (sa,na,pw)) (p2:(Am st)[i + 1]?=some (sa + na,nb,pw2)) (pa:0 < na) (pb:0 < nb) (len:sa + na + nb≤(arrOf st).size)
  (oka:∀ x∈(arrOf st).toList,ok x) (ux:Up rk (cut (arrOf st).toList sa na)) (uy:Up rk (cut (arrOf st).toList (sa + na) nb))
  (h:∀ (st':SortSt) (zs:List Keyed),kindOf st'=κ→failedOf st'=none→Am st'=((Am st).setIfInBounds i (sa,na + nb,pw)).eraseIdxIfInBounds (i + 1)→Fine rk (cut (arrOf st).toList sa na) (cut (arrOf st).toList (sa + na) nb) zs →
   (arrOf st').toList=(arrOf st).toList.take sa++zs++(arrOf st).toList.drop (sa + na + nb)→Q true st' s):kasC M A E (mAt i) Q st s:=by
 unfold mAt
 refine AI (kasC_get ?_)
 rw [p1,p2]
 dsimp only
 refine AI (kasC_set ?_)
 refine AI (elem_ok (get_at (by lia)) ?_)
 have lenL:(arrOf st).toList.length=(arrOf st).size:=Ac
 have ok0:ok ((arrOf st).getD (sa + na) default):=ok_at oka (by lia)
 refine AI (gallop_right C hk ok0 (by lia) oka ux pa fun k ed=>?_)
 dsimp only
 have edl:=ed.le
 have y0:∀ y∈cut (arrOf st).toList (sa + na) nb,rk ((arrOf st).getD (sa + na) default)≤rk y:=fun y hy=>by
  obtain ⟨j,hj,rfl⟩:=mem_cut (by lia) hy
  exact uy.at_ (i:=0) (j:=j) (Ap _) (cut_at (by lia) pb) (cut_at (by lia) hj)
 have l1:∀ x∈(cut (arrOf st).toList sa na).take k,∀ y∈cut (arrOf st).toList (sa + na) nb,rk x≤rk y:=fun x hx y hy=>by
  rw [cut_take edl] at hx
  obtain ⟨j,hj,rfl⟩:=mem_cut (by lia) hx
  have:=ed.yes j hj
  unfold bR at this
  rw [Bool.not_eq_true',decide_eq_false_iff_not] at this
  have:=y0 y hy
  lia
 have whole:=all_cut (arrOf st).toList sa na nb
 by_cases c1:(na - k == 0)=true
 ·rw [if_pos c1]
  have c1':na - k=0:=beq_iff_eq.mp c1
  have e:k=na:=by lia
  refine AL (h _ _ hk hf rfl (Fine.plain ux uy fun x hx y hy=>l1 x ?_ y hy) whole)
  rw [e,AO (by rw [cut_len (by lia)]; exact AE _)]
  exact hx
 rw [if_neg c1]
 have c1':na - k≠0:=fun z=>c1 (beq_iff_eq.mpr z)
 refine AI (elem_ok (get_at (by lia)) ?_)
 have ix:sa + k + (na - k) - 1=sa + (na - 1):=by lia
 rw [ix]
 refine AI (gallop_left C hk (ok_at oka (by lia)) (by lia) oka uy (by lia) fun m ed2=>?_)
 dsimp only
 have ed2l:=ed2.le
 have xl:∀ x∈cut (arrOf st).toList sa na,rk x≤rk ((arrOf st).getD (sa + (na - 1)) default):=fun x hx=>by
  obtain ⟨j,hj,rfl⟩:=mem_cut (by lia) hx
  exact ux.at_ (i:=j) (j:=na - 1) (by lia) (cut_at (by lia) hj) (cut_at (by lia) (by lia))
 have l2:∀ x∈cut (arrOf st).toList sa na,∀ y∈(cut (arrOf st).toList (sa + na) nb).drop m,rk x≤rk y:=fun x hx y hy=>by
  rw [cut_drop] at hy
  obtain ⟨j,hj,rfl⟩:=mem_cut (by lia) hy
  have:=of_decide_eq_false (ed2.no (m + j) (by lia) (by lia))
  rw [← Nat.add_assoc] at this
  have:=xl x hx
  lia
 by_cases c2:(m == 0)=true
 ·rw [if_pos c2]
  have m0:m=0:=beq_iff_eq.mp c2
  subst m0
  rw [List.drop_zero] at l2
  exact AL (h _ _ hk hf rfl (Fine.plain ux uy l2) whole)
 rw [if_neg c2]
 have c2':m≠0:=fun z=>c2 (beq_iff_eq.mpr z)
 have eX:((arrOf st).extract (sa + k) (sa + na)).toList=(cut (arrOf st).toList sa na).drop k:=by
  rw [ext_to,cut_drop]
  unfold cut
  rw [List.drop_take]
  congr 1
  lia
 have eY:((arrOf st).extract (sa + na) (sa + na + m)).toList=(cut (arrOf st).toList (sa + na) nb).take m:=by
  rw [ext_mid,cut_take ed2l]
  rfl
 have sX:((arrOf st).extract (sa + k) (sa + na)).size=na - k:=by
  rw [← Ac,eX,List.length_drop,cut_len (by lia)]
 have sY:((arrOf st).extract (sa + na) (sa + na + m)).size=m:=by
  rw [← Ac,eY,Ae,cut_len (by lia),Nat.min_eq_left ed2l]
 have T:Two ok rk ((arrOf st).extract (sa + k) (sa + na)) ((arrOf st).extract (sa + na) (sa + na + m)):=by
  refine ⟨by rw [eX]; exact ux.drop k,by rw [eY]; exact uy.take m,fun x hx=>?_,fun y hy=>?_,by lia,by lia,fun y hy x hx=>?_,fun y hy x hx=>?_⟩
  ·rw [eX] at hx
   exact oka x (List.mem_of_mem_drop (A6 (List.mem_of_mem_drop hx)))
  ·rw [eY] at hy
   exact oka y (List.mem_of_mem_drop (A6 (A6 hy)))
  ·rw [← At,eY,List.getElem?_take_of_lt (by lia),cut_at (by lia) pb] at hy
   cases hy
   rw [eX,cut_drop] at hx
   obtain ⟨j,hj,rfl⟩:=mem_cut (by lia) hx
   have:=ed.no (k + j) (by lia) (by lia)
   unfold bR at this
   rw [Bool.not_eq_false',decide_eq_true_eq,← Nat.add_assoc] at this
   rw [Nat.add_zero]
   lia
  ·rw [eY,cut_take ed2l] at hy
   obtain ⟨j,hj,rfl⟩:=mem_cut (by lia) hy
   have l:=of_decide_eq_true (ed2.yes j hj)
   rw [eX,sX,List.drop_drop,cut_drop] at hx
   obtain ⟨j2,hj2,rfl⟩:=mem_cut (by lia) hx
   have e:sa + (k + (na - k - 1)) + j2=sa + (na - 1):=by lia
   rw [e]
   lia
 have tail:∀ (r:Array Keyed) (g:Nat),Fine rk ((cut (arrOf st).toList sa na).drop k) ((cut (arrOf st).toList (sa + na) nb).take m) r.toList→kasC M A E (do
   modify fun s=>setArr s (fill (arrOf s) (sa + k) r.toList)
   let t ← get
   pure (failedOf t).isNone) Q (setG (setPending st (((Am st).setIfInBounds i (sa,na + nb,pw)).eraseIdxIfInBounds (i + 1))) g) s:=fun r g f=>by
  refine AI (kasC_modify ?_)
  refine AI (kasC_get ?_)
  have rl:r.toList.length=na - k + m:=by
   rw [f.perm.length_eq,AN,List.length_drop,Ae,cut_len (by lia),cut_len (by lia),Nat.min_eq_left ed2l]
  have fin:(fill (arrOf st) (sa + k) r.toList).toList=(arrOf st).toList.take sa++((cut (arrOf st).toList sa na).take k++r.toList++(cut (arrOf st).toList (sa + na) nb).drop m)++(arrOf st).toList.drop (sa + na + nb):=by
   rw [fill_ok _ _ _ (by lia),rl,take_cut,cut_take edl,cut_drop]
   have e1:sa + k + (na - k + m)=sa + na + m:=by lia
   rw [e1,drop_cut' (arrOf st).toList (sa + na + m) (nb - m)]
   have e2:sa + na + m + (nb - m)=sa + na + nb:=by lia
   rw [e2]
   simp only [AY]
  have hf':(failedOf (setArr (setG (setPending st (((Am st).setIfInBounds i (sa,na + nb,pw)).eraseIdxIfInBounds (i + 1))) g) (fill (arrOf st) (sa + k) r.toList))).isNone=true:=by
   show (failedOf st).isNone=true
   rw [hf]
   rfl
  refine AL ?_
  have q:=h (setArr (setG (setPending st (((Am st).setIfInBounds i (sa,na + nb,pw)).eraseIdxIfInBounds (i + 1))) g) (fill (arrOf st) (sa + k) r.toList)) _ hk hf rfl (Fine.wrap ux uy f l1 l2) fin
  rw [← hf'] at q
  exact q
 by_cases c3:na - k≤m
 ·rw [if_pos c3,mergeLo2_eq]
  exact AI (mLo_ok C T hk fun r g f=>tail r g (by rw [← eX,← eY]; exact f))
 ·rw [if_neg c3,mergeHi2_eq]
  exact AI (mHi_ok C T hk fun r g f=>tail r g (by rw [← eX,← eY]; exact f))
end
end Tim
namespace Tim
open PySem PySem.W PyProof.Rows
section
variable {M:Model} {A:Around} {E:Value→Shared→Prop} {κ:SortKind} {ok:Keyed→Prop} {rk:Keyed→Int} {s:Shared} {arr arr' arr2:Array Keyed} {lo hi:Nat}
def K (rk:Keyed→Int) (arr:Array Keyed) (k:Nat):Int:=rk (arr.getD k default)
theorem K_of {p q:Array Keyed} {i j:Nat} (h:p[i]?=q[j]?):K rk p i=K rk q j:=by
 unfold K
 rw [Array.getD_eq_getD_getElem?,Array.getD_eq_getD_getElem?,h]
theorem K_mir {i j:Nat} (hj:j≤arr.size) (k:Nat):K rk (mirror arr i j ((j - i) / 2)) k=if i≤k∧k < j then K rk arr (i + j - 1 - k) else K rk arr k:=by
 have e:=getElem?_mirror_all (xs:=arr) (i:=i) hj k
 by_cases h:i≤k∧k < j
 ·rw [if_pos h] at e ⊢
  exact K_of e
 ·rw [if_neg h] at e ⊢
  exact K_of e
theorem K_bub {c d:Nat} (hc:c < arr.size) (hd:d≤c) (k:Nat):K rk (bubble arr c d) k=if k=c - d then K rk arr c else if c - d < k∧k≤c then K rk arr (k - 1) else K rk arr k:=by
 have e:=getElem?_bubble (xs:=arr) hc d hd k
 by_cases h:k=c - d
 ·rw [if_pos h] at e ⊢
  exact K_of e
 ·rw [if_neg h] at e ⊢
  by_cases h2:c - d < k∧k≤c
  ·rw [if_pos h2] at e ⊢
   exact K_of e
  ·rw [if_neg h2] at e ⊢
   exact K_of e
structure Nx (arr arr':Array Keyed) (lo hi:Nat):Prop where
 perm:arr'.Perm arr
 out:∀ k,(k < lo∨hi≤k)→arr'[k]?=arr[k]?
theorem Nx.refl (arr:Array Keyed) (lo hi:Nat):Nx arr arr lo hi:=⟨Array.Perm.refl _,fun _ _=>rfl⟩
theorem Nx.trans (h:Nx arr arr' lo hi) (g:Nx arr' arr2 lo hi):Nx arr arr2 lo hi:=⟨g.perm.trans h.perm,fun k hk=>(g.out k hk).trans (h.out k hk)⟩
theorem Nx.size (h:Nx arr arr' lo hi):arr'.size=arr.size:=h.perm.size_eq
theorem Nx.mir {i j:Nat} (hj:j≤arr.size) (l1:lo≤i) (l2:j≤hi):Nx arr (mirror arr i j ((j - i) / 2)) lo hi:=⟨mirror_perm _ _ _ _,fun k hk=>by
 rw [getElem?_mirror_all hj,if_neg (by lia)]⟩
theorem Nx.bub {c d:Nat} (hc:c < arr.size) (hd:d≤c) (l1:lo≤c - d) (l2:c < hi):Nx arr (bubble arr c d) lo hi:=⟨bubble_perm _ _ _,fun k hk=>by
 rw [getElem?_bubble hc d hd,if_neg (by lia),if_neg (by lia)]⟩
theorem Nx.oks (h:Nx arr arr' lo hi) (o:∀ x∈arr.toList,ok x):∀ x∈arr'.toList,ok x:=fun x hx=>o x (h.perm.toList.mem_iff.mp hx)
def UpI (rk:Keyed→Int) (arr:Array Keyed) (lo n:Nat):Prop:=∀ i j,i≤j→j < n→K rk arr (lo + i)≤K rk arr (lo + j)
def DnI (rk:Keyed→Int) (arr:Array Keyed) (lo n:Nat):Prop:=∀ i j,i≤j→j < n→K rk arr (lo + j)≤K rk arr (lo + i)
theorem UpI.snoc {n:Nat} (h:UpI rk arr lo n) (h1:1≤n) (l:K rk arr (lo + n - 1)≤K rk arr (lo + n)):UpI rk arr lo (n + 1):=fun i j hij hj=>by
 rcases Nat.lt_or_ge j n with c | c
 ·exact h i j hij c
 ·have e:j=n:=by lia
  subst e
  rcases Nat.lt_or_ge i j with c | c
  ·have:=h i (j - 1) (by lia) (by lia)
   rw [show lo + (j - 1)=lo + j - 1 by lia] at this
   lia
  ·rw [show i=j by lia]
   exact BC _
theorem DnI.snoc {n:Nat} (h:DnI rk arr lo n) (h1:1≤n) (l:K rk arr (lo + n)≤K rk arr (lo + n - 1)):DnI rk arr lo (n + 1):=fun i j hij hj=>by
 rcases Nat.lt_or_ge j n with c | c
 ·exact h i j hij c
 ·have e:j=n:=by lia
  subst e
  rcases Nat.lt_or_ge i j with c | c
  ·have:=h i (j - 1) (by lia) (by lia)
   rw [show lo + (j - 1)=lo + j - 1 by lia] at this
   lia
  ·rw [show i=j by lia]
   exact BC _
theorem DnI.like {n:Nat} (h:DnI rk arr lo n) (e:∀ k,K rk arr' k=K rk arr k):DnI rk arr' lo n:=fun i j hij hj=>by rw [e,e]; exact h i j hij hj
theorem DnI.rev {n:Nat} (h:DnI rk arr lo n) (hn:lo + n≤arr.size):UpI rk (mirror arr lo (lo + n) ((lo + n - lo) / 2)) lo n:=fun i j hij hj=>by
 rw [K_mir hn,K_mir hn,if_pos (by lia),if_pos (by lia)]
 have:=h (n - 1 - j) (n - 1 - i) (by lia) (by lia)
 rw [show lo + (lo + n) - 1 - (lo + i)=lo + (n - 1 - i) by lia,show lo + (lo + n) - 1 - (lo + j)=lo + (n - 1 - j) by lia]
 exact this
theorem ltAt_ok (C:Cmp M A E κ ok rk s) {st:SortSt} {i j:Nat} {R:Option Bool→SortSt→Shared→Prop} (hk:kindOf st=κ) (o:∀ x∈(arrOf st).toList,ok x) (hi:i < (arrOf st).size) (hj:j < (arrOf st).size) (h:R (some (decide (K rk (arrOf st) i < K rk (arrOf st) j))) st s):kasC M A E (ltAt' i j) R st s:=by
 rw [ltAt'_eq]
 refine AI (kasC_get ?_)
 refine AI (elem_ok (get_at hi) ?_)
 refine AI (elem_ok (get_at hj) ?_)
 exact C.lt _ _ (ok_at o hi) (ok_at o hj) st R hk h
theorem rev_ok {st:SortSt} {i j:Nat} {R:PUnit→SortSt→Shared→Prop} (h:R ⟨⟩ (setArr st (mirror (arrOf st) i j ((j - i) / 2))) s):kasC M A E (reverseSlice' i j) R st s:=by
 rw [reverseSlice'_eq]
 exact kasC_modify h
end
def cTail (lo nrem n0:Nat):StateT SortSt Sem (Option Nat):=do
 let mut n:=n0
 for _ in [n0:nrem] do
  let some smaller ← ltAt' (lo + n) (lo + n - 1) | return none
  if smaller then break
  n:=n + 1
 return some n
def cRev (lo nrem n:Nat):StateT SortSt Sem (Option Nat):=do
 reverseSlice' lo (lo + n)
 cTail lo nrem n
def cDesc (lo nrem n0:Nat):StateT SortSt Sem (Option Nat):=do
 rule "list.sort.descending-run"
 let mut n:=n0 + 1
 let mut neq:=0
 for _ in [n0 + 1:nrem] do
  let some smaller ← ltAt' (lo + n) (lo + n - 1) | return none
  if smaller then
   if neq > 0 then reverseSlice' (lo + n - (neq + 1)) (lo + n)
   neq:=0
  else
   let some larger ← ltAt' (lo + n - 1) (lo + n) | return none
   if larger then break
   neq:=neq + 1
  n:=n + 1
 if neq > 0 then
  reverseSlice' (lo + n - (neq + 1)) (lo + n)
  cRev lo nrem n
 else cRev lo nrem n
def cRun (lo nrem:Nat):StateT SortSt Sem (Option Nat):=do
 let mut n:=1
 for _ in [1:nrem] do
  let some smaller ← ltAt' (lo + n) (lo + n - 1) | return none
  if smaller then break
  n:=n + 1
 if n == nrem then return some n
 if n > 1 then
  let some rose ← ltAt' lo (lo + n - 1) | return none
  if rose then return some n
  reverseSlice' lo (lo + n)
  cDesc lo nrem n
 else cDesc lo nrem n
theorem countRun'_c (lo nrem:Nat):countRun' lo nrem=cRun lo nrem:=rfl
end Tim
namespace Tim
open PySem PySem.W PyProof.Rows
section
variable {M:Model} {A:Around} {E:Value→Shared→Prop} {κ:SortKind} {ok:Keyed→Prop} {rk:Keyed→Int} {s:Shared} {arr:Array Keyed} {lo nrem:Nat} {st:SortSt} {Q:Option Nat→SortSt→Shared→Prop}
def Told (rk:Keyed→Int) (st:SortSt) (s:Shared) (arr:Array Keyed) (lo nrem:Nat) (Q:Option Nat→SortSt→Shared→Prop):Prop :=
 ∀ (n:Nat) (arr':Array Keyed),1≤n→n≤nrem→Nx arr arr' lo (lo + nrem)→UpI rk arr' lo n→Q (some n) (setArr st arr') s
theorem cTail_ok (C:Cmp M A E κ ok rk s) (hk:kindOf st=κ) (o:∀ x∈arr.toList,ok x) (len:lo + nrem≤arr.size) {b:Array Keyed} (x:Nx arr b lo (lo + nrem)) {n:Nat} (h1:1≤n) (hn:n≤nrem) (u:UpI rk b lo n) (h:Told rk st s arr lo nrem Q):kasC M A E (cTail lo nrem n) Q (setArr st b) s:=by
 unfold cTail
 have sz:=x.size
 refine AI (inv (fun k r st' s'=>st'=setArr st b∧s=s'∧r.1=none∧r.2=n + k∧UpI rk b lo (n + k)) ⟨rfl,rfl,rfl,rfl,u⟩ ?_ ?_)
 ·rintro k ⟨r,m⟩ st' s' hkk ⟨rfl,rfl,e,e2,u⟩
  cases e
  dsimp only at e2 ⊢
  subst e2
  refine AI (ltAt_ok C hk (x.oks o) (by show lo + (n + k) < b.size; lia) (by show lo + (n + k) - 1 < b.size; lia) ?_)
  dsimp only
  cases c:decide (K rk (arrOf (setArr st b)) (lo + (n + k)) < K rk (arrOf (setArr st b)) (lo + (n + k) - 1)) with
  | true =>
   rw [if_pos rfl]
   refine AL ?_
   dsimp only
   exact AL (h _ b (by lia) (by lia) x u)
  | false =>
   rw [if_neg (by decide)]
   have l:=of_decide_eq_false c
   refine AL ⟨rfl,rfl,rfl,rfl,?_⟩
   have l':¬ K rk b (lo + (n + k)) < K rk b (lo + (n + k) - 1):=l
   have u2:UpI rk b lo (n + k + 1):=UpI.snoc u (by lia) (by lia)
   exact u2
 ·rintro ⟨r,m⟩ st' s' ⟨rfl,rfl,e,e2,u⟩
  cases e
  dsimp only at e2 ⊢
  subst e2
  exact AL (h _ b (by lia) (by lia) x u)
theorem cRev_ok (C:Cmp M A E κ ok rk s) (hk:kindOf st=κ) (o:∀ x∈arr.toList,ok x) (len:lo + nrem≤arr.size) {b:Array Keyed} (x:Nx arr b lo (lo + nrem)) {n:Nat} (h1:1≤n) (hn:n≤nrem) (d:DnI rk b lo n) (h:Told rk st s arr lo nrem Q):kasC M A E (cRev lo nrem n) Q (setArr st b) s:=by
 unfold cRev
 have sz:=x.size
 refine AI (rev_ok ?_)
 exact cTail_ok C hk o len (x.trans (Nx.mir (by show lo + n≤b.size; lia) (AE _) (by lia))) h1 hn (d.rev (by lia)) h
def Tl (rk:Keyed→Int) (b:Array Keyed) (lo n q:Nat):Prop:=∀ i,n - (q + 1)≤i→i < n→K rk b (lo + i)=K rk b (lo + n - 1)
theorem Tl.rev {b:Array Keyed} {n q:Nat} (h:Tl rk b lo n q) (hq:q + 1≤n) (hn:lo + n≤b.size) (k:Nat):K rk (mirror b (lo + n - (q + 1)) (lo + n) ((lo + n - (lo + n - (q + 1))) / 2)) k=K rk b k:=by
 rw [K_mir hn]
 split
 ·rename_i c
  have e1:=h (k - lo) (by lia) (by lia)
  have e2:=h (lo + n - (q + 1) + (lo + n) - 1 - k - lo) (by lia) (by lia)
  rw [show lo + (k - lo)=k by lia] at e1
  rw [show lo + (lo + n - (q + 1) + (lo + n) - 1 - k - lo)=lo + n - (q + 1) + (lo + n) - 1 - k by lia] at e2
  rw [e1,e2]
 ·rfl
theorem cDesc_ok (C:Cmp M A E κ ok rk s) (hk:kindOf st=κ) (o:∀ x∈arr.toList,ok x) (len:lo + nrem≤arr.size) {b:Array Keyed} (x:Nx arr b lo (lo + nrem)) {n:Nat} (h1:1≤n) (hn:n + 1≤nrem) (d:DnI rk b lo (n + 1)) (h:Told rk st s arr lo nrem Q):kasC M A E (cDesc lo nrem n) Q (setArr st b) s:=by
 unfold cDesc
 refine AI (rule_ok ?_)
 try dsimp only
 have fin:∀ (c:Array Keyed) (m q:Nat),Nx arr c lo (lo + nrem)→1≤m→m≤nrem→DnI rk c lo m→Tl rk c lo m q→q + 1≤m→kasC M A E (if q > 0 then (do reverseSlice' (lo + m - (q + 1)) (lo + m); cRev lo nrem m) else cRev lo nrem m) Q (setArr st c) s:=by
  intro c m q x l1 l2 d t hq
  have sz:=x.size
  by_cases c1:q > 0
  ·rw [if_pos c1]
   refine AI (rev_ok ?_)
   exact cRev_ok C hk o len (x.trans (Nx.mir (by show lo + m≤c.size; lia) (by lia) (by lia))) l1 l2 (d.like (t.rev hq (by lia))) h
  ·rw [if_neg c1]
   exact cRev_ok C hk o len x l1 l2 d h
 refine AI (inv (fun k r st' s'=>∃ c,st'=setArr st c∧s=s'∧r.1=none∧r.2.1=n + 1 + k∧Nx arr c lo (lo + nrem)∧DnI rk c lo (n + 1 + k)∧Tl rk c lo (n + 1 + k) r.2.2∧r.2.2 + 1≤n + 1 + k) ⟨b,rfl,rfl,rfl,rfl,x,d,fun i l1 l2=>?_,by show 0 + 1≤n + 1 + 0; lia⟩ ?_ ?_)
 ·rw [show i=n by dsimp only at l1 l2; lia]
  rfl
 ·rintro k ⟨r,m,q⟩ st' s' hkk ⟨c,rfl,rfl,e,e2,x,d,t,hq⟩
  cases e
  dsimp only at e2 t hq ⊢
  subst e2
  have sz:=x.size
  refine AI (ltAt_ok C hk (x.oks o) (by show lo + (n + 1 + k) < c.size; lia) (by show lo + (n + 1 + k) - 1 < c.size; lia) ?_)
  dsimp only
  cases e:decide (K rk (arrOf (setArr st c)) (lo + (n + 1 + k)) < K rk (arrOf (setArr st c)) (lo + (n + 1 + k) - 1)) with
  | true =>
   have l:K rk c (lo + (n + 1 + k)) < K rk c (lo + (n + 1 + k) - 1):=of_decide_eq_true e
   rw [if_pos rfl]
   have one:∀ c':Array Keyed,Tl rk c' lo (n + 1 + (k + 1)) 0:=fun c' i l1 l2=>by
    rw [show i=n + 1 + k by lia]
    rfl
   by_cases c1:q > 0
   ·rw [if_pos c1]
    refine AI (rev_ok ?_)
    have lk:=t.rev hq (by lia)
    refine AL ⟨_,rfl,rfl,rfl,rfl,x.trans (Nx.mir (by show lo + (n + 1 + k)≤c.size; lia) (by lia) (by lia)),?_,one _,by show 0 + 1≤n + 1 + (k + 1); lia⟩
    have d2:DnI rk _ lo (n + 1 + k + 1):=DnI.snoc (d.like lk) (by lia) (by rw [lk,lk]; lia)
    exact d2
   ·rw [if_neg c1]
    have d2:DnI rk c lo (n + 1 + k + 1):=DnI.snoc d (by lia) (by lia)
    exact AL ⟨c,rfl,rfl,rfl,rfl,x,d2,one _,by show 0 + 1≤n + 1 + (k + 1); lia⟩
  | false =>
   have l:¬ K rk c (lo + (n + 1 + k)) < K rk c (lo + (n + 1 + k) - 1):=of_decide_eq_false e
   rw [if_neg (by decide)]
   refine AI (ltAt_ok C hk (x.oks o) (by show lo + (n + 1 + k) - 1 < c.size; lia) (by show lo + (n + 1 + k) < c.size; lia) ?_)
   dsimp only
   cases e2:decide (K rk (arrOf (setArr st c)) (lo + (n + 1 + k) - 1) < K rk (arrOf (setArr st c)) (lo + (n + 1 + k))) with
   | true =>
    rw [if_pos rfl]
    refine AL ?_
    dsimp only
    exact fin c _ q x (by lia) (by lia) d t hq
   | false =>
    have l2:¬ K rk c (lo + (n + 1 + k) - 1) < K rk c (lo + (n + 1 + k)):=of_decide_eq_false e2
    rw [if_neg (by decide)]
    have eq:K rk c (lo + (n + 1 + k))=K rk c (lo + (n + 1 + k) - 1):=by lia
    have d2:DnI rk c lo (n + 1 + k + 1):=DnI.snoc d (by lia) (by lia)
    refine AL ⟨c,rfl,rfl,rfl,rfl,x,d2,fun i l3 l4=>?_,by show q + 1 + 1≤n + 1 + (k + 1); lia⟩
    dsimp only at l3
    rw [show lo + (n + 1 + (k + 1)) - 1=lo + (n + 1 + k) by lia]
    rcases Nat.lt_or_ge i (n + 1 + k) with z | z
    ·rw [eq]
     exact t i (by lia) z
    ·rw [show i=n + 1 + k by lia]
 ·rintro ⟨r,m,q⟩ st' s' ⟨c,rfl,rfl,e,e2,x,d,t,hq⟩
  cases e
  dsimp only at e2 t hq ⊢
  subst e2
  exact fin c _ q x (by lia) (by lia) d t hq
theorem cRun_ok (C:Cmp M A E κ ok rk s) (hk:kindOf st=κ) (o:∀ x∈(arrOf st).toList,ok x) (len:lo + nrem≤(arrOf st).size) (h1:1≤nrem) (h:Told rk st s (arrOf st) lo nrem Q):kasC M A E (cRun lo nrem) Q st s:=by
 unfold cRun
 try dsimp only
 have x0:=Nx.refl (arrOf st) lo (lo + nrem)
 have fin:∀ m,1≤m→m≤nrem→UpI rk (arrOf st) lo m→(m=nrem∨K rk (arrOf st) (lo + m) < K rk (arrOf st) (lo + m - 1))→kasC M A E (if (m == nrem)=true then pure (some m) else if m > 1 then (do
   let some rose ← ltAt' lo (lo + m - 1) | return none
   if rose then return some m
   reverseSlice' lo (lo + m)
   cDesc lo nrem m) else cDesc lo nrem m) Q st s:=by
  intro m l1 l2 u w
  by_cases c1:(m == nrem)=true
  ·rw [if_pos c1]
   exact AL (h m (arrOf st) l1 l2 x0 u)
  rw [if_neg c1]
  have c1':m≠nrem:=fun z=>c1 (beq_iff_eq.mpr z)
  have w':K rk (arrOf st) (lo + m) < K rk (arrOf st) (lo + m - 1):=by
   rcases w with w | w
   ·exact absurd w c1'
   ·exact w
  by_cases c2:m > 1
  ·rw [if_pos c2]
   refine AI (ltAt_ok C hk o (by lia) (by lia) ?_)
   dsimp only
   cases e:decide (K rk (arrOf st) lo < K rk (arrOf st) (lo + m - 1)) with
   | true =>
    rw [if_pos rfl]
    exact AL (h m (arrOf st) l1 l2 x0 u)
   | false =>
    have l:=of_decide_eq_false e
    rw [if_neg (by decide)]
    refine AI (rev_ok ?_)
    have all:∀ i,i < m→K rk (arrOf st) (lo + i)=K rk (arrOf st) (lo + m - 1):=fun i hi=>by
     have a1:=u 0 i (by lia) hi
     have a2:=u i (m - 1) (by lia) (by lia)
     rw [show lo + (m - 1)=lo + m - 1 by lia] at a2
     rw [Nat.add_zero] at a1
     lia
    have lk:∀ k,K rk (mirror (arrOf st) lo (lo + m) ((lo + m - lo) / 2)) k=K rk (arrOf st) k:=fun k=>by
     rw [K_mir (by lia)]
     split
     ·rename_i c
      have e1:=all (k - lo) (by lia)
      have e2:=all (lo + (lo + m) - 1 - k - lo) (by lia)
      rw [show lo + (k - lo)=k by lia] at e1
      rw [show lo + (lo + (lo + m) - 1 - k - lo)=lo + (lo + m) - 1 - k by lia] at e2
      rw [e1,e2]
     ·rfl
    refine cDesc_ok C hk o len (Nx.mir (by lia) (AE _) (by lia)) l1 (by lia) (DnI.like ?_ lk) h
    refine DnI.snoc (fun i j hij hj=>?_) l1 (by lia)
    rw [all i (by lia),all j hj]
    exact BC _
  ·rw [if_neg c2]
   have m1:m=1:=by lia
   subst m1
   refine cDesc_ok C hk o len x0 l1 (by lia) (DnI.snoc (fun i j hij hj=>?_) (AE _) (by lia)) h
   rw [show i=j by lia]
   exact BC _
 refine AI (inv (fun k r st' s'=>st'=st∧s=s'∧r.1=none∧r.2=1 + k∧UpI rk (arrOf st) lo (1 + k)) ⟨rfl,rfl,rfl,rfl,fun i j hij hj=>?_⟩ ?_ ?_)
 ·rw [show i=j by lia]
  exact BC _
 ·rintro k ⟨r,m⟩ st' s' hkk ⟨rfl,rfl,e,e2,u⟩
  cases e
  dsimp only at e2 ⊢
  subst e2
  refine AI (ltAt_ok C hk o (by lia) (by lia) ?_)
  dsimp only
  cases e:decide (K rk (arrOf st') (lo + (1 + k)) < K rk (arrOf st') (lo + (1 + k) - 1)) with
  | true =>
   rw [if_pos rfl]
   refine AL ?_
   dsimp only
   exact fin _ (by lia) (by lia) u (.inr (of_decide_eq_true e))
  | false =>
   have l:=of_decide_eq_false e
   rw [if_neg (by decide)]
   have u2:UpI rk (arrOf st') lo (1 + k + 1):=UpI.snoc u (by lia) (by lia)
   exact AL ⟨rfl,rfl,rfl,rfl,u2⟩
 ·rintro ⟨r,m⟩ st' s' ⟨rfl,rfl,e,e2,u⟩
  cases e
  dsimp only at e2 ⊢
  subst e2
  exact fin _ (by lia) (by lia) u (.inl (by lia))
end
end Tim
namespace Tim
open PySem PySem.W PyProof.Rows
section
variable {M:Model} {A:Around} {E:Value→Shared→Prop} {κ:SortKind} {ok:Keyed→Prop} {rk:Keyed→Int} {s:Shared} {lo n:Nat} {st:SortSt} {Q:Bool→SortSt→Shared→Prop}
theorem UpI.less {b:Array Keyed} {m:Nat} (h:UpI rk b lo m) (l:n≤m):UpI rk b lo n:=fun i j hij hj=>h i j hij (by lia)
theorem move_ok {i j:Nat} {R:PUnit→SortSt→Shared→Prop} (h:R ⟨⟩ (setArr st (bubble (arrOf st) i (i - j))) s):kasC M A E (moveDown' i j) R st s:=by
 rw [moveDown'_eq]
 exact kasC_modify h
theorem UpI.put {b:Array Keyed} {q l:Nat} (u:UpI rk b lo q) (hl:l≤q) (hq:lo + q < b.size) (h1:∀ i,i < l→K rk b (lo + i)≤K rk b (lo + q)) (h2:∀ i,l≤i→i < q→K rk b (lo + q)≤K rk b (lo + i)):UpI rk (bubble b (lo + q) (q - l)) lo (q + 1):=fun i j hij hj=>by
 have e:∀ k,k≤q→K rk (bubble b (lo + q) (q - l)) (lo + k)=if k=l then K rk b (lo + q) else if l < k then K rk b (lo + (k - 1)) else K rk b (lo + k):=fun k hk=>by
  rw [K_bub hq (by lia)]
  by_cases c1:k=l
  ·rw [if_pos (by lia),if_pos c1]
  ·rw [if_neg (by lia),if_neg c1]
   by_cases c2:l < k
   ·rw [if_pos (by lia),if_pos c2,show lo + k - 1=lo + (k - 1) by lia]
   ·rw [if_neg (by lia),if_neg c2]
 rw [e i (by lia),e j (by lia)]
 by_cases a1:i=l
 ·rw [if_pos a1]
  by_cases b1:j=l
  ·rw [if_pos b1]
   exact BC _
  ·rw [if_neg b1,if_pos (by lia)]
   exact h2 _ (by lia) (by lia)
 ·rw [if_neg a1]
  by_cases a2:l < i
  ·rw [if_pos a2,if_neg (by lia),if_pos (by lia)]
   exact u _ _ (by lia) (by lia)
  ·rw [if_neg a2]
   by_cases b1:j=l
   ·rw [if_pos b1]
    exact h1 i (by lia)
   ·rw [if_neg b1]
    by_cases b2:l < j
    ·rw [if_pos b2]
     exact u _ _ (by lia) (by lia)
    ·rw [if_neg b2]
     exact u _ _ hij (by lia)
theorem bSort_ok (C:Cmp M A E κ ok rk s) (hk:kindOf st=κ) (o:∀ x∈(arrOf st).toList,ok x) (len:lo + n≤(arrOf st).size) {p:Nat} (hp:p≤n) (u:UpI rk (arrOf st) lo p)
  (h:∀ b,Nx (arrOf st) b lo (lo + n)→UpI rk b lo n→Q true (setArr st b) s):kasC M A E (binarySort' lo n p) Q st s:=by
 rw [binarySort'_eq]
 refine AI (inv (fun k r st' s'=>∃ b,st'=setArr st b∧s=s'∧r.1=none∧Nx (arrOf st) b lo (lo + n)∧UpI rk b lo (max p 1 + k)) ⟨arrOf st,rfl,rfl,rfl,Nx.refl _ _ _,fun i j hij hj=>?_⟩ ?_ ?_)
 ·rcases Nat.eq_zero_or_pos p with z | z
  ·rw [show i=j by lia]
   exact BC _
  ·exact u i j hij (by lia)
 ·rintro k ⟨r,v⟩ st' s' hkk ⟨b,rfl,rfl,e,x,u⟩
  cases e
  try dsimp only
  have sz:=x.size
  have hq:max p 1 + k < n:=by lia
  generalize hqe:max p 1 + k=q at u hq ⊢
  refine AI (kasC_mono (Q:=fun r st' s'=>st'=setArr st b∧s=s'∧r.1=none∧r.2.1≤q∧(∀ i,i < r.2.1→K rk b (lo + i)≤K rk b (lo + q))∧(∀ i,r.2.1≤i→i < q→K rk b (lo + q)≤K rk b (lo + i)))
   (inv (fun k r st' s'=>st'=setArr st b∧s=s'∧r.1=none∧r.2.1≤r.2.2∧r.2.2≤q∧r.2.2 - r.2.1 + k≤q∧(∀ i,i < r.2.1→K rk b (lo + i)≤K rk b (lo + q))∧(∀ i,r.2.2≤i→i < q→K rk b (lo + q)≤K rk b (lo + i))) ⟨rfl,rfl,rfl,Ap _,AE _,by show q - 0 + 0≤q; lia,fun i hi=>absurd hi (Nat.not_lt_zero i),fun i h1 h2=>absurd h1 (Nat.not_le.mpr h2)⟩ ?_ ?_) ?_)
  ·rintro j ⟨r,l,m⟩ st' s' hj ⟨rfl,rfl,e,l1,l2,l3,y1,y2⟩
   cases e
   dsimp only at l1 l2 l3 y1 y2 ⊢
   by_cases c1:l ≥ m
   ·rw [if_pos c1]
    refine AL ⟨rfl,rfl,rfl,?_,y1,?_⟩
    ·show l≤q
     lia
    ·show ∀ i,l≤i→i < q→_
     exact fun i h1 h2=>y2 i (by lia) h2
   rw [if_neg c1]
   refine AI (ltAt_ok C hk (x.oks o) (by show lo + q < b.size; lia) (by show lo + (l + m) / 2 < b.size; lia) ?_)
   try dsimp only
   cases e:decide (K rk (arrOf (setArr st b)) (lo + q) < K rk (arrOf (setArr st b)) (lo + (l + m) / 2)) with
   | true =>
    have z:K rk b (lo + q) < K rk b (lo + (l + m) / 2):=of_decide_eq_true e
    rw [if_pos rfl]
    refine AL ⟨rfl,rfl,rfl,?_,?_,?_,y1,?_⟩
    ·show l≤(l + m) / 2
     lia
    ·show (l + m) / 2≤q
     lia
    ·show (l + m) / 2 - l + (j + 1)≤q
     lia
    ·show ∀ i,(l + m) / 2≤i→i < q→_
     intro i h1 h2
     have:=u ((l + m) / 2) i h1 h2
     lia
   | false =>
    have z:¬ K rk b (lo + q) < K rk b (lo + (l + m) / 2):=of_decide_eq_false e
    rw [if_neg (by decide)]
    refine AL ⟨rfl,rfl,rfl,?_,?_,?_,?_,y2⟩
    ·show (l + m) / 2 + 1≤m
     lia
    ·exact l2
    ·show m - ((l + m) / 2 + 1) + (j + 1)≤q
     lia
    ·show ∀ i,i < (l + m) / 2 + 1→_
     intro i hi
     have:=u i ((l + m) / 2) (by lia) (by lia)
     lia
  ·rintro ⟨r,l,m⟩ st' s' ⟨rfl,rfl,e,l1,l2,l3,y1,y2⟩
   dsimp only at l1 l2 l3 y1 y2 ⊢
   exact ⟨rfl,rfl,e,by lia,y1,fun i h1 h2=>y2 i (by lia) h2⟩
  rintro ⟨r,l,m⟩ st' s' ⟨rfl,rfl,e,l1,y1,y2⟩
  cases e
  dsimp only at l1 y1 y2 ⊢
  refine AI (move_ok ?_)
  have e:lo + q - (lo + l)=q - l:=by lia
  rw [e]
  refine AL ⟨_,rfl,rfl,rfl,x.trans (Nx.bub (by show lo + q < b.size; lia) (by lia) (by lia) (by lia)),?_⟩
  rw [show max p 1 + (k + 1)=q + 1 by lia]
  exact UpI.put u l1 (show lo + q < b.size by lia) y1 y2
 ·rintro ⟨r,v⟩ st' s' ⟨b,rfl,rfl,e,x,u⟩
  cases e
  exact AL (h b x (u.less (by lia)))
end
end Tim
namespace Tim
open PySem PySem.W PyProof.Rows
section
variable {rk:Keyed→Int} {L L':List Keyed}
def Runs (rk:Keyed→Int) (L:List Keyed):List (Nat×Nat×Nat)→Nat→Nat→Prop
 | [],a,b=>a=b
 | (st,len,_) :: r,a,b=>st=a∧0 < len∧Up rk (cut L st len)∧Runs rk L r (a + len) b
theorem Runs.le:∀ {p:List (Nat×Nat×Nat)} {a b:Nat},Runs rk L p a b→a + p.length≤b
 | [],a,b,h=>by have h':a=b:=h; rw [List.length_nil]; lia
 | (st,len,_) :: r,a,b,h=>by
  have:=Runs.le h.2.2.2
  have:=h.2.1
  rw [AS]
  lia
theorem Runs.app:∀ {p q:List (Nat×Nat×Nat)} {a b:Nat},Runs rk L (p++q) a b↔∃ c,Runs rk L p a c∧Runs rk L q c b
 | [],q,a,b=>⟨fun h=>⟨a,rfl,h⟩,fun ⟨c,e,h⟩=>by have e':a=c:=e; subst e'; exact h⟩
 | (st,len,w) :: r,q,a,b=>by
  constructor
  ·intro h
   obtain ⟨c,h1,h2⟩:=Runs.app.mp h.2.2.2
   exact ⟨c,⟨h.1,h.2.1,h.2.2.1,h1⟩,h2⟩
  ·rintro ⟨c,h1,h2⟩
   exact ⟨h1.1,h1.2.1,h1.2.2.1,Runs.app.mpr ⟨c,h1.2.2.2,h2⟩⟩
theorem cut_low {i n h:Nat} (e:L'.take h=L.take h) (l:i + n≤h):cut L' i n=cut L i n:=by
 have f:∀ X:List Keyed,cut X i n=((X.take h).drop i).take n:=fun X=>by
  unfold cut
  rw [List.drop_take,List.take_take,Nat.min_eq_left (by lia)]
 rw [f,f,e]
theorem cut_high {i n h:Nat} (e:L'.drop h=L.drop h) (l:h≤i):cut L' i n=cut L i n:=by
 have f:∀ X:List Keyed,cut X i n=((X.drop h).drop (i - h)).take n:=fun X=>by
  unfold cut
  rw [List.drop_drop,show h + (i - h)=i by lia]
 rw [f,f,e]
theorem Runs.low {h:Nat} (e:L'.take h=L.take h):∀ {p:List (Nat×Nat×Nat)} {a b:Nat},Runs rk L p a b→b≤h→Runs rk L' p a b
 | [],a,b,r,_=>r
 | (st,len,w) :: r,a,b,⟨h1,h2,h3,h4⟩,l=>by
  have:=Runs.le h4
  refine ⟨h1,h2,?_,Runs.low e h4 l⟩
  rw [cut_low e (by lia)]
  exact h3
theorem Runs.high {h:Nat} (e:L'.drop h=L.drop h):∀ {p:List (Nat×Nat×Nat)} {a b:Nat},Runs rk L p a b→h≤a→Runs rk L' p a b
 | [],a,b,r,_=>r
 | (st,len,w) :: r,a,b,⟨h1,h2,h3,h4⟩,l=>by
  refine ⟨h1,h2,?_,Runs.high e h4 (by lia)⟩
  rw [cut_high e (by lia)]
  exact h3
theorem Runs.like:∀ {p q:List (Nat×Nat×Nat)} {a b:Nat},p.map (fun r=>(r.1,r.2.1))=q.map (fun r=>(r.1,r.2.1))→Runs rk L p a b→Runs rk L q a b
 | [],[],a,b,_,h=>h
 | [],_ :: _,a,b,e,_=>by cases e
 | _ :: _,[],a,b,e,_=>by cases e
 | (s1,l1,w1) :: r,(s2,l2,w2) :: r',a,b,e,h=>by
  rw [Af,Af,List.cons.injEq,Prod.mk.injEq] at e
  obtain ⟨⟨e1,e2⟩,e3⟩:=e
  dsimp only at e1 e2
  subst e1 e2
  exact ⟨h.1,h.2.1,h.2.2.1,Runs.like e3 h.2.2.2⟩
theorem split2 {α:Type} {p:List α} {i:Nat} {x y:α} (h1:p[i]?=some x) (h2:p[i + 1]?=some y):p=p.take i++x :: y :: p.drop (i + 2):=by
 obtain ⟨l1,e1⟩:=AF.mp h1
 obtain ⟨l2,e2⟩:=AF.mp h2
 have a:=A8 i p
 rw [List.drop_eq_getElem_cons l1,List.drop_eq_getElem_cons l2,e1,e2] at a
 exact a.symm
theorem merge2 {α:Type} {p:Array α} {i:Nat} {x y z:α} (h1:p[i]?=some x) (h2:p[i + 1]?=some y):((p.setIfInBounds i z).eraseIdxIfInBounds (i + 1)).toList=p.toList.take i++z :: p.toList.drop (i + 2):=by
 have l2:i + 1 < p.size:=by
  rcases Nat.lt_or_ge (i + 1) p.size with h | h
  ·exact h
  ·rw [Array.getElem?_eq_none h] at h2
   cases h2
 have e:(p.setIfInBounds i z).eraseIdxIfInBounds (i + 1)=(p.setIfInBounds i z).eraseIdx (i + 1) (by rw [Array.size_setIfInBounds]; exact l2):=by
  unfold Array.eraseIdxIfInBounds
  rw [dif_pos]
 rw [e,Array.toList_eraseIdx,Array.toList_setIfInBounds,List.eraseIdx_eq_take_drop_succ,List.take_set,List.drop_set,if_pos (by lia)]
 have hl:i < p.toList.length:=by rw [Ac]; lia
 rw [List.take_succ_eq_append_getElem hl,List.set_append_right _ _ (by rw [Ae]; lia),Ae,Nat.min_eq_left (by lia),Nat.sub_self]
 show List.take i p.toList++[z]++List.drop (i + 1 + 1) p.toList=_
 rw [AY]
 rfl
end
end Tim
namespace Tim
open PySem PySem.W PyProof.Rows
section
variable {M:Model} {A:Around} {E:Value→Shared→Prop} {κ:SortKind} {ok:Keyed→Prop} {rk:Keyed→Int} {s:Shared} {a0:Array Keyed} {lo:Nat} {st:SortSt}
structure Way (κ:SortKind) (rk:Keyed→Int) (a0:Array Keyed) (st:SortSt) (lo:Nat):Prop where
 kd:kindOf st=κ
 fl:failedOf st=none
 pm:(arrOf st).toList.Perm a0.toList
 rn:Runs rk (arrOf st).toList (Am st).toList 0 lo
 le:lo≤a0.size
theorem Way.size (w:Way κ rk a0 st lo):(arrOf st).size=a0.size:=by
 rw [← Ac,w.pm.length_eq,Ac]
theorem Way.oks (w:Way κ rk a0 st lo) (o:∀ x∈a0.toList,ok x):∀ x∈(arrOf st).toList,ok x:=fun x hx=>o x (w.pm.mem_iff.mp hx)
theorem UpI.up {arr:Array Keyed} {n:Nat} (u:UpI rk arr lo n) (h:lo + n≤arr.size):Up rk (cut arr.toList lo n):=by
 refine List.pairwise_iff_getElem.mpr fun i j hi hj hij=>?_
 have e1:(cut arr.toList lo n)[i]?=some _:=AD hi
 have e2:(cut arr.toList lo n)[j]?=some _:=AD hj
 have ln:=cut_len (L:=arr.toList) (i:=lo) (n:=n) (by rw [Ac]; exact h)
 rw [cut_at h (by lia)] at e1 e2
 rw [← Aw e1,← Aw e2]
 exact u i j (by lia) (by lia)
theorem Nx.takes {arr b:Array Keyed} {hi:Nat} (x:Nx arr b lo hi):b.toList.take lo=arr.toList.take lo:=by
 apply List.ext_getElem?
 intro k
 rcases Nat.lt_or_ge k lo with h | h
 ·rw [List.getElem?_take_of_lt h,List.getElem?_take_of_lt h,At,At]
  exact x.out k (.inl h)
 ·rw [List.getElem?_eq_none (by rw [Ae]; lia),List.getElem?_eq_none (by rw [Ae]; lia)]
theorem Way.moved (w:Way κ rk a0 st lo) {b:Array Keyed} {hi:Nat} (x:Nx (arrOf st) b lo hi):Way κ rk a0 (setArr st b) lo:=⟨w.kd,w.fl,x.perm.toList.trans w.pm,w.rn.low x.takes (AE _),w.le⟩
theorem merge_ok (C:Cmp M A E κ ok rk s) (o:∀ x∈a0.toList,ok x) (w:Way κ rk a0 st lo) {i:Nat} {Q:Bool→SortSt→Shared→Prop} (hi:i + 1 < (Am st).size) (h:∀ st',Way κ rk a0 st' lo→(Am st').size + 1=(Am st).size→(arrOf st').toList.drop lo=(arrOf st).toList.drop lo→Q true st' s):kasC M A E (mergeAt' i) Q st s:=by
 rw [mergeAt'_eq]
 have hl:(Am st).toList.length=(Am st).size:=Ac
 obtain ⟨⟨sa,na,pw⟩,p1⟩:∃ r,(Am st)[i]?=some r:=⟨_,Array.getElem?_eq_getElem (by lia)⟩
 obtain ⟨⟨sb,nb,pw2⟩,p2⟩:∃ r,(Am st)[i + 1]?=some r:=⟨_,Array.getElem?_eq_getElem hi⟩
 have sp:=split2 (p:=(Am st).toList) (i:=i) (by rw [At]; exact p1) (by rw [At]; exact p2)
 have rn:=w.rn
 rw [sp] at rn
 obtain ⟨c,r1,r2⟩:=Runs.app.mp rn
 obtain ⟨e1,q1,u1,e2,q2,u2,r3⟩:=r2
 subst e1 e2
 have r1l:=Runs.le r1
 have r3l:=Runs.le r3
 have sz:=w.size
 have wl:=w.le
 have lenL:(arrOf st).toList.length=(arrOf st).size:=Ac
 refine mAt_ok C w.kd w.fl p1 p2 q1 q2 (by lia) (w.oks o) u1 u2 fun st' zs k1 k2 k3 f eL=>?_
 have zl:zs.length=na + nb:=by rw [f.perm.length_eq,AN,cut_len (by lia),cut_len (by lia)]
 have tk:(arrOf st').toList.take sa=(arrOf st).toList.take sa:=by
  rw [eL,AY,List.take_append_of_le_length (by rw [Ae]; lia),AO (by rw [Ae]; lia)]
 have lt:((arrOf st).toList.take sa).length=sa:=by rw [Ae]; lia
 have dr:(arrOf st').toList.drop (sa + na + nb)=(arrOf st).toList.drop (sa + na + nb):=by
  rw [eL,List.drop_append_of_le_length (by rw [AN,lt,zl]; lia),List.drop_of_length_le (by rw [AN,lt,zl]; lia),List.nil_append]
 have mid:cut (arrOf st').toList sa (na + nb)=zs:=by
  unfold cut
  rw [eL,AY,List.drop_append_of_le_length (by lia),List.drop_of_length_le (by lia),List.nil_append,List.take_append_of_le_length (by lia),AO (by lia)]
 have pl:=merge2 (z:=(sa,na + nb,pw)) p1 p2
 have w':Way κ rk a0 st' lo:=by
  refine ⟨k1,k2,?_,?_,wl⟩
  ·refine List.Perm.trans ?_ w.pm
   rw [eL]
   exact ((List.Perm.append_left _ f.perm).append_right _).trans (List.Perm.of_eq (all_cut (arrOf st).toList sa na nb).symm)
  ·rw [k3,pl]
   refine Runs.app.mpr ⟨sa,Runs.low tk r1 (AE _),rfl,by lia,by rw [mid]; exact f.srt,?_⟩
   rw [← Nat.add_assoc]
   exact Runs.high dr r3 (AE _)
 refine h st' w' ?_ (by rw [show lo=sa + na + nb + (lo - (sa + na + nb)) by lia,← List.drop_drop,dr,List.drop_drop])
 rw [← Ac (xs:=Am st'),k3,pl,AN,AS,Ae,List.length_drop,hl]
 lia
end
end Tim
namespace Tim
open PySem PySem.W PyProof.Rows
def sPush (lo n:Nat):StateT SortSt Sem (ForInStep (Option Unit×Nat)):=do
 modify fun s=>setPending s ((Am s).push (lo,n,0))
 pure (BB (none,lo + n))
def sNext (size lo n:Nat):StateT SortSt Sem (ForInStep (Option Unit×Nat)):=do
 let t ← get
 if let some (s1,n1,_):=(Am t).back? then
  let pw:=power' size (2 * s1 + n1) (2 * s1 + n1 + n1 + n) size
  let r ← forIn [0:size] ((none,()):Option Unit×Unit) fun _ _=>(do
    let t ← get
    let p:=Am t
    let some (_,_,older):=(if p.size > 1 then p[p.size - 2]? else none) | pure (Ag (none,()))
    if older≤pw then pure (Ag (none,())) else do
     let ok ← mergeAt' (p.size - 2)
     if (!ok)=true then pure (Ag (some (),())) else pure (BB (none,())))
  match r.fst with
  | some r=>pure (Ag (some r,lo))
  | none=>do
   modify fun s=>setPending s ((Am s).modify ((Am s).size - 1) fun (st,len,_)=>(st,len,pw))
   sPush lo n
 else sPush lo n
section
variable {M:Model} {A:Around} {E:Value→Shared→Prop} {κ:SortKind} {ok:Keyed→Prop} {rk:Keyed→Int} {s:Shared} {a0:Array Keyed} {lo n:Nat} {st:SortSt}
theorem Way.pw (w:Way κ rk a0 st lo) (pw:Nat):Way κ rk a0 (setPending st ((Am st).modify ((Am st).size - 1) fun (st,len,_)=>(st,len,pw))) lo:=by
 refine ⟨w.kd,w.fl,w.pm,Runs.like ?_ w.rn,w.le⟩
 show _=List.map _ ((Am st).modify ((Am st).size - 1) fun (st,len,_)=>(st,len,pw)).toList
 apply List.ext_getElem?
 intro k
 rw [AH,AH,At,At,Array.getElem?_modify]
 split
 ·cases (Am st)[k]? with
  | none=>rfl
  | some r=>rfl
 ·rfl
end
end Tim
namespace Tim
open PySem PySem.W PyProof.Rows
section
variable {M:Model} {A:Around} {E:Value→Shared→Prop} {κ:SortKind} {ok:Keyed→Prop} {rk:Keyed→Int} {s:Shared} {a0:Array Keyed} {st:SortSt}
theorem have_ {M:Model} {A:Around} {E:Value→Shared→Prop} {s:Shared} {α:Type} {P:Nat→StateT SortSt Sem α} {R:α→SortSt→Shared→Prop} {H:Nat→SortSt→Prop} {G:Prop} (main:(∀ n stx,H n stx→kasC M A E (P n) R stx s)→G) (next:∀ n stx,H n stx→kasC M A E (P n) R stx s):G:=main next
theorem sort_ok (C:Cmp M A E κ ok rk s) (hk:kindOf st=κ) (hf:failedOf st=none) (hp:Am st=#[]) (o:∀ x∈(arrOf st).toList,ok x) {Q:Unit→SortSt→Shared→Prop}
  (h:∀ st':SortSt,kindOf st'=κ→failedOf st'=none→(arrOf st').toList.Perm (arrOf st).toList→Up rk (arrOf st').toList→Q () st' s):kasC M A E sortRuns' Q st s:=by
 rw [sortRuns'_eq]
 refine AI (kasC_get ?_)
 try dsimp only
 generalize e0:arrOf st=a0 at o h ⊢
 generalize minRun' a0.size a0.size 0=mr
 have w0:Way κ rk a0 st 0:=⟨hk,hf,by rw [e0],by rw [hp]; exact rfl,Ap _⟩
 have fin:∀ (st':SortSt) (F:Option Unit×Unit→StateT SortSt Sem Unit),(∀ r,r.1=none→F r=pure ())→Way κ rk a0 st' a0.size→kasC M A E (forIn [0:a0.size] ((none,()):Option Unit×Unit) (fun _ _=>(do
    let t ← get
    if (Am t).size≤1 then pure (Ag (none,()))
    else do
     let ok ← mergeAt' (if Option.any (fun x=>decide (x < (Am t)[(Am t).size - 2 + 1]?.elim 0 fun x=>x.2.1)) (if (Am t).size - 2 > 0 then Option.map (fun x=>x.2.1) (Am t)[(Am t).size - 2 - 1]? else none)=true then (Am t).size - 2 - 1 else (Am t).size - 2)
     if (!ok)=true then pure (Ag (some (),())) else pure (BB (none,())))) >>= F) Q st' s:=by
  intro st' F hF w
  have last:∀ st2,Way κ rk a0 st2 a0.size→(Am st2).size≤1→Q () st2 s:=by
   intro st2 w2 c
   refine h st2 w2.kd w2.fl w2.pm ?_
   have rn:=w2.rn
   have pl:(Am st2).toList.length=(Am st2).size:=Ac
   have sl:(arrOf st2).toList.length=a0.size:=by rw [Ac]; exact w2.size
   cases e:(Am st2).toList with
   | nil =>
    rw [e] at rn
    have z:0=a0.size:=rn
    rw [List.eq_nil_of_length_eq_zero (by lia:(arrOf st2).toList.length=0)]
    exact List.Pairwise.nil
   | cons r1 rest =>
    obtain ⟨x1,x2,x3⟩:=r1
    have re:rest=[]:=List.eq_nil_of_length_eq_zero (by rw [e,AS] at pl; lia)
    rw [e,re] at rn
    obtain ⟨y1,y2,y3,y4⟩:=rn
    have y5:0 + x2=a0.size:=y4
    subst y1
    have ec:cut (arrOf st2).toList 0 x2=(arrOf st2).toList:=by
     unfold cut
     rw [List.drop_zero,AO (by lia)]
    rw [ec] at y3
    exact y3
  refine AI (inv (fun k r st2 s'=>s=s'∧r.1=none∧Way κ rk a0 st2 a0.size∧((Am st2).size≤1∨(Am st2).size + k≤a0.size)) ⟨rfl,rfl,w,?_⟩ ?_ ?_)
  ·have:=Runs.le w.rn
   rw [Ac] at this
   right
   lia
  ·rintro k ⟨r,v⟩ st2 s' hkk ⟨rfl,e,w2,p⟩
   cases e
   refine AI (kasC_get ?_)
   by_cases c1:(Am st2).size≤1
   ·rw [if_pos c1]
    refine AL ?_
    show kasC M A E (F (none,())) Q st2 s
    rw [hF _ rfl]
    exact AL (last st2 w2 c1)
   ·rw [if_neg c1]
    refine AI (merge_ok C o w2 ?_ fun st3 w3 z _=>?_)
    ·have low:∀ (c:Bool) (m:Nat),(if c=true then m - 1 else m)≤m:=by
      intro c m
      split <;> lia
     exact Nat.lt_of_le_of_lt (Nat.succ_le_succ (low _ _)) (by lia)
    ·rw [if_neg (by decide)]
     refine AL ⟨rfl,rfl,w3,?_⟩
     lia
  ·rintro ⟨r,v⟩ st2 s' ⟨rfl,e,w2,p⟩
   rw [hF _ e]
   exact AL (last st2 w2 (by lia))
 refine AI (inv (fun k r st' s'=>s=s'∧r.1=none∧Way κ rk a0 st' r.2∧k≤r.2) ⟨rfl,rfl,w0,AE _⟩ ?_ ?_)
 ·rintro k ⟨r,lo⟩ st' s' hkk ⟨rfl,e,w,kl⟩
  cases e
  dsimp only at w kl ⊢
  have wl:=w.le
  have sz:=w.size
  by_cases c1:lo ≥ a0.size
  ·rw [if_pos c1]
   refine AL ?_
   have e:lo=a0.size:=Nat.le_antisymm wl c1
   subst e
   exact fin st' _ (fun r e=>by obtain ⟨r,v⟩:=r; cases e; rfl) w
  rw [if_neg c1]
  apply have_ (M:=M) (A:=A) (E:=E) (s:=s) (α:=ForInStep (Option Unit×Nat)) (H:=fun n stx=>Way κ rk a0 stx lo∧0 < n∧lo + n≤a0.size∧Up rk (cut (arrOf stx).toList lo n)∧k + 1≤lo + n)
  case main =>
   intro nx
   rw [countRun'_c]
   refine AI (cRun_ok C w.kd (w.oks o) (by lia) (by lia) fun n b n1 nl x u=>?_)
   try dsimp only
   have wb:=w.moved x
   have bs:b.size=a0.size:=x.size.trans sz
   by_cases c2:¬ n < mr
   ·rw [if_neg c2]
    exact nx n (setArr st' b) ⟨wb,by lia,by lia,UpI.up (arr:=b) u (by lia),by lia⟩
   ·have c2':n < mr:=by lia
    rw [if_pos c2']
    refine AI (rule_ok ?_)
    refine AI (bSort_ok C wb.kd (wb.oks o) (by show lo + min (a0.size - lo) mr≤b.size; lia) (by lia) u fun b2 x2 u2=>?_)
    rw [if_neg (by decide)]
    exact nx (min (a0.size - lo) mr) (setArr (setArr st' b) b2) ⟨wb.moved x2,by lia,by lia,UpI.up u2 (by rw [x2.size]; show lo + min (a0.size - lo) mr≤b.size; lia),by lia⟩
  case next =>
   rintro n stx ⟨w,hn,hl,u,kn⟩
   try dsimp only
   have psh:∀ st2,Way κ rk a0 st2 lo→Up rk (cut (arrOf st2).toList lo n)→Way κ rk a0 (setPending st2 ((Am st2).push (lo,n,0))) (lo + n):=by
    intro st2 w2 u2
    refine ⟨w2.kd,w2.fl,w2.pm,?_,hl⟩
    show Runs rk (arrOf st2).toList ((Am st2).push (lo,n,0)).toList 0 (lo + n)
    rw [Array.toList_push]
    exact Runs.app.mpr ⟨lo,w2.rn,rfl,hn,u2,rfl⟩
   refine AI (kasC_get ?_)
   cases e:(Am stx).back? with
   | none =>
    refine AI (kasC_modify ?_)
    exact AL ⟨rfl,rfl,psh stx w u,kn⟩
   | some r =>
    obtain ⟨s1,n1,w1⟩:=r
    try dsimp only
    generalize power' a0.size (2 * s1 + n1) (2 * s1 + n1 + n1 + n) a0.size=pw
    have cutu:∀ st2:SortSt,(arrOf st2).toList.drop lo=(arrOf stx).toList.drop lo→Up rk (cut (arrOf st2).toList lo n):=fun st2 d=>by
     rw [cut_high d (AE _)]
     exact u
    refine AI (kasC_mono (Q:=fun r st2 s'=>s=s'∧r.1=none∧Way κ rk a0 st2 lo∧(arrOf st2).toList.drop lo=(arrOf stx).toList.drop lo) (inv (fun _ r st2 s'=>s=s'∧r.1=none∧Way κ rk a0 st2 lo∧(arrOf st2).toList.drop lo=(arrOf stx).toList.drop lo) ⟨rfl,rfl,w,rfl⟩ ?_ (fun _ _ _ z=>z)) ?_)
    ·rintro k ⟨r,v⟩ st2 s' _ ⟨rfl,e,w2,d⟩
     cases e
     refine AI (kasC_get ?_)
     try dsimp only
     by_cases c1:(Am st2).size > 1
     ·rw [if_pos c1]
      cases e2:(Am st2)[(Am st2).size - 2]? with
      | none=>exact AL ⟨rfl,rfl,w2,d⟩
      | some r =>
       obtain ⟨z1,z2,older⟩:=r
       try dsimp only
       by_cases c2:older≤pw
       ·rw [if_pos c2]
        exact AL ⟨rfl,rfl,w2,d⟩
       ·rw [if_neg c2]
        refine AI (merge_ok C o w2 (by lia) fun st3 w3 _ d2=>?_)
        rw [if_neg (by decide)]
        exact AL ⟨rfl,rfl,w3,d2.trans d⟩
     ·rw [if_neg c1]
      exact AL ⟨rfl,rfl,w2,d⟩
    ·rintro ⟨r,v⟩ st2 s' ⟨rfl,e,w2,d⟩
     cases e
     try dsimp only
     refine AI (kasC_modify ?_)
     refine AI (kasC_modify ?_)
     exact AL ⟨rfl,rfl,psh _ (w2.pw pw) (cutu st2 d),kn⟩
 ·rintro ⟨r,lo⟩ st' s' ⟨rfl,e,w,kl⟩
  cases e
  dsimp only at w kl ⊢
  have wl:=w.le
  have e:lo=a0.size:=by lia
  subst e
  exact fin st' _ (fun r e=>by obtain ⟨r,v⟩:=r; cases e; rfl) w
end
end Tim
namespace L2
open PySem PySem.Spec PyProof.Rows PySem.W
section
variable {prog:Program} {w:World} {A:Around} {E:Value→Shared→Prop} {s:Shared}
theorem zip_self':∀ vs:List Value,vs.zip vs=vs.map fun v=>(v,v)
 | []=>rfl
 | v :: vs=>by rw [List.zip_cons_cons,zip_self' vs,Af]
theorem zip_self (vs:List Value):(vs.toArray.zip vs.toArray).toList=vs.map fun v=>(v,v):=by
 rw [Array.toList_zip,List.toList_toArray]
 exact zip_self' vs
theorem sort_atL {a:Addr} {vs:List Value} {m:Nat} {P:PySem.Fin→Shared→Prop} {ok:Keyed→Prop} {rk:Keyed→Int} (there:s.heap.get? a=some (seqObj "list" vs.toArray m)) (zl:vs.length≤AR)
  (ty:∀ g:Heap,KeptB a s.heap g→∃ fs,KatTups g vs fs∧fs.length=vs.length∧∀ v∈fs,∃ i t,v=.int i t)
  (ask:∀ g:Heap,KeptB a s.heap g→Tim.Cmp (model prog w) A E (tuples' true) ok rk { s with heap:=g }) (oks:∀ v∈vs,ok (v,v))
  (fin:∀ ws:List Value,ws.Perm vs→(ws.Pairwise fun v u=>rk (v,v)≤rk (u,u))→P (.done (.ret .none)) { s with heap:=sortedHeap s.heap a vs ws.toArray }) :
  wpAny (model prog w) A (Builtin.«list.sort» ⟨[.ref a],[]⟩) P E s:=by
 have al:a < s.heap.objs.size:=AJ there
 rw [list_sort_plain]
 refine AB (listItems_at there rfl (AB (listUpdate_at there rfl ?_ (by rw [AQ]; exact zl) (Ap _))))
 obtain ⟨ep,gone⟩:∃ ep,(s.heap.update a (BA fun _=>#[])).get? a=some (seqObj "list" #[] ep):=⟨_,get?_update_seq there _⟩
 refine AB (seqEpoch_at gone rfl (AB (wpAny_newTuple ?_ (by show vs.length≤_; exact zl))))
 refine AB (wpAny_newList (BE ?_) (Ap _))
 have kept:KeptB a s.heap (((s.heap.update a (BA fun _=>#[])).push (seqObj "tuple" vs.toArray 0)).push (seqObj "list" #[] 0)):=fun b o ne e=>AC _ (AC _ (by rw [Heap.get?_update_ne _ _ _ _ ne]; exact e))
 have now:(((s.heap.update a (BA fun _=>#[])).push (seqObj "tuple" vs.toArray 0)).push (seqObj "list" #[] 0)).get? a=some (seqObj "list" #[] ep):=AC _ (AC _ gone)
 show wpAny (model prog w) A _ P E { s with heap:=_ }
 dsimp only
 by_cases two:vs.toArray.size < 2
 ·rw [if_pos two,if_pos two]
  refine AB (AG ?_)
  rw [StateT.run_pure]
  refine AB (AG ?_)
  dsimp only
  have e0:((vs.toArray.zip vs.toArray).map (·.2))=vs.toArray:=by
   apply Array.ext'
   rw [Array.toList_map,zip_self,List.map_map,List.toList_toArray]
   exact List.map_id'' (fun _=>rfl) vs
  rw [e0]
  refine AB (seqEpoch_at now rfl (AB (listUpdate_at now rfl ?_ (Ap _) (by
   show vs.toArray.size≤_
   rw [AQ]
   exact Nat.le_succ_of_le zl))))
  simp only [bne_self_eq_false,Bool.false_eq_true,if_false]
  refine AG (fin vs (List.Perm.refl _) ?_)
  rw [AQ] at two
  match vs,two with
  | [],_=>exact List.Pairwise.nil
  | [v],_=>exact List.pairwise_singleton _ _
  | _ :: _ :: _,h=>simp at h; lia
 ·rw [if_neg two,if_neg two]
  rw [AQ] at two
  obtain ⟨fs,tups,fl,nums⟩:=ty _ kept
  refine AB (kat_kind (T:=.type "int") tups (by lia) (fun v hv=>by obtain ⟨i,t,rfl⟩:=nums v hv; exact Looks.of_pure rfl) rfl ?_)
  have run:=Tim.sort_ok (st:=SortSt.mk' (tuples' true) (vs.toArray.zip vs.toArray) #[] 7 none) (Q:=fun _ st' s'=>s'={ s with heap:=(((s.heap.update a (BA fun _=>#[])).push (seqObj "tuple" vs.toArray 0)).push (seqObj "list" #[] 0)) }∧failedOf st'=none∧(arrOf st').toList.Perm (vs.toArray.zip vs.toArray).toList∧Tim.Up rk (arrOf st').toList)
   (ask _ kept) rfl rfl rfl (fun x hx=>by
    have hx':x∈(vs.toArray.zip vs.toArray).toList:=hx
    rw [zip_self] at hx'
    obtain ⟨v,hv,rfl⟩:=Ai.mp hx'
    exact oks v hv) fun st' _ b p u=>⟨rfl,b,p,u⟩
  refine AB (wpAny_mono run ?_ fun _ _ z=>z)
  rintro ⟨⟨⟩,st'⟩ s' ⟨rfl,b2,p,u⟩
  dsimp only at b2 p u ⊢
  rw [zip_self] at p
  have self:∀ x∈(arrOf st').toList,x=(x.2,x.2):=fun x hx=>by
   obtain ⟨v,hv,rfl⟩:=Ai.mp (p.mem_iff.mp hx)
   rfl
  have e1:(arrOf st').map (·.2)=((arrOf st').toList.map (·.2)).toArray:=by
   apply Array.ext'
   rw [Array.toList_map,List.toList_toArray]
  have pm:((arrOf st').toList.map (·.2)).Perm vs:=by
   have:=p.map (·.2)
   rw [List.map_map] at this
   exact this.trans (List.Perm.of_eq (List.map_id'' (fun _=>rfl) vs))
  have so:((arrOf st').toList.map (·.2)).Pairwise fun v u=>rk (v,v)≤rk (u,u):=by
   rw [List.pairwise_map]
   refine List.Pairwise.imp_of_mem (fun {x y} hx hy l=>?_) u
   rw [← self x hx,← self y hy]
   exact l
  rw [e1]
  refine AB (seqEpoch_at now rfl (AB (listUpdate_at now rfl ?_ (Ap _) (by
   show (List.toArray ((arrOf st').toList.map (·.2))).size≤_
   rw [AQ,pm.length_eq]
   exact Nat.le_succ_of_le zl))))
  rw [b2]
  simp only [bne_self_eq_false,Bool.false_eq_true,if_false]
  exact AG (fin _ pm so)
end
section
variable {prog:Program} {w:World} {A:Around} {E:Value→Shared→Prop} {s:Shared}
theorem sorted_atL {l:Addr} {vs:List Value} {Q:Value→Shared→Prop} {ok:Keyed→Prop} {rk:Keyed→Int} (hl:s.heap.IsList l vs.toArray) (zl:vs.length≤AR)
  (ty:∀ g:Heap,(∀ b o,s.heap.get? b=some o→g.get? b=some o)→∃ fs,KatTups g vs fs∧fs.length=vs.length∧∀ v∈fs,∃ i t,v=.int i t)
  (ask:∀ (B:Around) (F:Value→Shared→Prop) (g:Heap),(∀ b o,s.heap.get? b=some o→g.get? b=some o)→Tim.Cmp (model prog w) B F (tuples' true) ok rk { s with heap:=g }) (oks:∀ v∈vs,ok (v,v))
  (fin:∀ ws:List Value,ws.Perm vs→(ws.Pairwise fun v u=>rk (v,v)≤rk (u,u))→Q (.ref (s.heap.objs.size + 1)) { s with heap:=sortedAll s.heap vs ws.toArray }) :
  wpAny (model prog w) A (call (.builtin "sorted") [.ref l]) Q E s:=by
 refine Calls.call_function_entry kind_sorted plain_sorted entry_sorted (args_sorted1 _) ?_
 unfold Builtin.«sorted»
 refine AB (m:=checkCount "sorted" 1 1 _) (AG (AB (collect_list hl (AB (wpAny_newList ?_ zl)) zl)))
 have z1:((s.heap.push (seqObj "list" #[] 0)).update s.heap.objs.size (BA (·++vs.toArray))).objs.size=s.heap.objs.size + 1:=by rw [Heap.size_update,size_push']
 have new:(((s.heap.push (seqObj "list" #[] 0)).update s.heap.objs.size (BA (·++vs.toArray))).push (seqObj "list" vs.toArray 0)).get? (s.heap.objs.size + 1)=some (seqObj "list" vs.toArray 0):=by
  rw [← z1]
  exact Ah _ rfl
 have old:∀ b o,s.heap.get? b=some o→(((s.heap.push (seqObj "list" #[] 0)).update s.heap.objs.size (BA (·++vs.toArray))).push (seqObj "list" vs.toArray 0)).get? b=some o:=fun b o e=>AC _ (by
  rw [Heap.get?_update_ne _ _ _ _ (AU (AJ e))]
  exact AC _ e)
 have ne:∀ b o,s.heap.get? b=some o→b≠s.heap.objs.size + 1:=fun b o e=>AU (Nat.lt_succ_of_lt (AJ e))
 show wpAny _ _ _ _ _ { s with heap:=_ }
 rw [z1]
 refine AB (BE (wpAny_call_entry slot_list_sort ⟨_,new,rfl⟩ entry_list_sort (sort_atL (ok:=ok) (rk:=rk) new zl (fun g k=>ty g fun b o e=>k b o (ne b o e) (old b o e)) (fun g k=>ask _ _ g fun b o e=>k b o (ne b o e) (old b o e)) oks fun ws p u=>⟨_,rfl,AG ⟨_,rfl,fin ws p u⟩⟩) (args_list_sort _)))
def rkT (c:Int×Int×Int):Int:=c.1 * 1208925819614629174706176 + (c.2.1 * 1099511627776 + c.2.2)
def inT (c:Int×Int×Int):Prop:=(-274877906944≤c.2.1∧c.2.1≤274877906944)∧-274877906944≤c.2.2∧c.2.2≤274877906944
theorem ask_trip {c d:Int×Int×Int} {t1 t2 t3 u1 u2 u3:Tok} {Q:Bool→Shared→Prop} (hc:inT c) (hd:inT d) (h:Q (decide (rkT c < rkT d)) s) :
  KatLex prog w A true false Q [(.int c.1 t1,.int d.1 u1),(.int c.2.1 t2,.int d.2.1 u2),(.int c.2.2 t3,.int d.2.2 u3)] 0 s:=by
 obtain ⟨a,b,c⟩:=c
 obtain ⟨x,y,z⟩:=d
 obtain ⟨⟨b1,b2⟩,c1,c2⟩:(-274877906944≤b∧b≤274877906944)∧-274877906944≤c∧c≤274877906944:=hc
 obtain ⟨⟨y1,y2⟩,z1,z2⟩:(-274877906944≤y∧y≤274877906944)∧-274877906944≤z∧z≤274877906944:=hd
 have h':Q (decide (a * 1208925819614629174706176 + (b * 1099511627776 + c) < x * 1208925819614629174706176 + (y * 1099511627776 + z))) s:=h
 refine kat_cons (wpAny_eqBool_int (kat_go (fun e=>kat_yes (kat_cons (wpAny_eqBool_int (kat_go (fun e2=>kat_yes (kat_cons (wpAny_eqBool_int (kat_go (fun e3=>kat_yes (kat_nil ?_)) (fun e3=>kat_no ?_))))) (fun e2=>kat_no ?_))))) (fun e=>kat_no ?_)))
 ·have f1:a=x:=eq_of_beq e
  have f2:b=y:=eq_of_beq e2
  have f3:c=z:=eq_of_beq e3
  rw [f1,f2,f3,decide_eq_false (Int.lt_irrefl _)] at h'
  exact h'
 ·have f1:a=x:=eq_of_beq e
  have f2:b=y:=eq_of_beq e2
  show wpAny _ _ (oneLt' false (.int c t3) (.int z u3)) _ _ _
  refine kat_one _ _ (wpAny_lt_int ?_)
  show Q (decide (c < z)) s
  rw [show decide (c < z)=decide (a * 1208925819614629174706176 + (b * 1099511627776 + c) < x * 1208925819614629174706176 + (y * 1099511627776 + z)) from decide_eq_decide.mpr (by rw [f1,f2]; lia)]
  exact h'
 ·have f1:a=x:=eq_of_beq e
  have f2:b≠y:=fun q=>by rw [q,beq_self_eq_true] at e2; cases e2
  show wpAny _ _ (oneLt' false (.int b t2) (.int y u2)) _ _ _
  refine kat_one _ _ (wpAny_lt_int ?_)
  show Q (decide (b < y)) s
  rw [show decide (b < y)=decide (a * 1208925819614629174706176 + (b * 1099511627776 + c) < x * 1208925819614629174706176 + (y * 1099511627776 + z)) from decide_eq_decide.mpr (by rw [f1]; lia)]
  exact h'
 ·have f1:a≠x:=fun q=>by rw [q,beq_self_eq_true] at e; cases e
  show wpAny _ _ (oneLt' true (.int a t1) (.int x u1)) _ _ _
  refine oneLt_int ?_
  rw [show decide (a < x)=decide (a * 1208925819614629174706176 + (b * 1099511627776 + c) < x * 1208925819614629174706176 + (y * 1099511627776 + z)) from decide_eq_decide.mpr (by lia)]
  exact h'
end
def TrIs (h:Heap) (t:Addr) (c:Int×Int×Int):Prop:=∃ (t1 t2 t3:Tok) (o:Obj) (n:Nat),h.get? t=some o∧o.cls=.type "tuple"∧o.data=.seq (List.toArray [Value.int c.1 t1,Value.int c.2.1 t2,Value.int c.2.2 t3]) n
theorem TrIs.one {h:Heap} {t:Addr} {c d:Int×Int×Int} (a:TrIs h t c) (b:TrIs h t d):c=d:=by
 obtain ⟨t1,t2,t3,o,n,h1,_,h3⟩:=a
 obtain ⟨u1,u2,u3,p,m,g1,_,g3⟩:=b
 rw [h1] at g1
 cases g1
 rw [h3] at g3
 have g4:=congrArg Array.toList (Data.seq.inj g3).1
 obtain ⟨e1,g5⟩:=List.cons.inj g4
 obtain ⟨e2,g6⟩:=List.cons.inj g5
 obtain ⟨e3,_⟩:=List.cons.inj g6
 exact Prod.ext (Value.int.inj e1).1 (Prod.ext (Value.int.inj e2).1 (Value.int.inj e3).1)
theorem TrIs.tups {h:Heap}:∀ {ts:List Addr} {cs:List (Int×Int×Int)},Paired (TrIs h) ts cs→∃ fs,PySem.W.KatTups h (ts.map AT) fs∧fs.length=(ts.map AT).length∧∀ v∈fs,∃ i t,v=Value.int i t
 | _,_,.nil=>⟨[],PySem.W.KatTups.nil,rfl,fun v hv=>by cases hv⟩
 | _,_,.cons (l₁:=ts) r t=>by
  obtain ⟨fs,a,b,c⟩:=TrIs.tups t
  obtain ⟨t1,t2,t3,o,n,h1,h2,h3⟩:=r
  refine ⟨Value.int _ t1 :: fs,PySem.W.KatTups.cons h1 h2 h3 rfl a,by rw [Af,AS,AS,b],fun v hv=>?_⟩
  rcases AK.mp hv with rfl | hv
  ·exact ⟨_,_,rfl⟩
  ·exact c v hv
open Classical in
noncomputable def cOf (h:Heap) (t:Addr):Int×Int×Int:=if e:∃ c,TrIs h t c then e.choose else (0,0,0)
theorem cOf_is {h:Heap} {t:Addr} {c:Int×Int×Int} (a:TrIs h t c):cOf h t=c:=by
 unfold cOf
 rw [dif_pos ⟨c,a⟩]
 exact (Exists.choose_spec (p:=fun c=>TrIs h t c) ⟨c,a⟩).one a
theorem paired_f {α β:Type} {R:α→β→Prop} {f:α→β} (hf:∀ a b,R a b→f a=b):∀ {xs:List α} {ys:List β},Paired R xs ys→ys=xs.map f∧∀ a∈xs,R a (f a)
 | _,_,.nil=>⟨rfl,fun a ha=>by cases ha⟩
 | _,_,.cons (l₁:=xs) r t=>by
  obtain ⟨e,g⟩:=paired_f hf t
  have e0:=hf _ _ r
  refine ⟨by rw [Af,e0,← e],fun a ha=>?_⟩
  rcases AK.mp ha with rfl | ha
  ·rw [e0]
   exact r
  ·exact g a ha
theorem paired_of {α β:Type} {R:α→β→Prop} {f:α→β}:∀ {xs:List α},(∀ a∈xs,R a (f a))→Paired R xs (xs.map f)
 | [],_=>.nil
 | a :: xs,h=>.cons (h a AZ) (paired_of fun b hb=>h b (Aa _ hb))
theorem of_paired {α β:Type} {R:α→β→Prop} {f:α→β}:∀ {xs:List α},Paired R xs (xs.map f)→∀ a∈xs,R a (f a)
 | [],_,_,h=>by cases h
 | _ :: xs,.cons r t,a,h=>by
  rcases AK.mp h with rfl | h
  ·exact r
  ·exact of_paired t a h
def unref:Value→Addr
 | .ref t=>t
 | _=>0
noncomputable def rkK (h:Heap) (x:Keyed):Int:=rkT (cOf h (unref x.1))
def okK (h:Heap) (x:Keyed):Prop:=∃ t c,x=(.ref t,.ref t)∧TrIs h t c∧inT c
theorem cmpT {prog:Program} {w:World} {A:Around} {E:Value→Shared→Prop} {s:Shared} {h0:Heap} (k:∀ b o,h0.get? b=some o→s.heap.get? b=some o):Tim.Cmp (model prog w) A E (tuples' true) (okK h0) (rkK h0) s where
 lt:=fun x y hx hy st R hk h=>by
  obtain ⟨t,c,rfl,hc,bc⟩:=hx
  obtain ⟨u,d,rfl,hd,bd⟩:=hy
  have e1:rkK h0 (.ref t,.ref t)=rkT c:=congrArg rkT (cOf_is hc)
  have e2:rkK h0 (.ref u,.ref u)=rkT d:=congrArg rkT (cOf_is hd)
  rw [e1,e2] at h
  obtain ⟨t1,t2,t3,o1,n1,b1,_,b3⟩:=hc
  obtain ⟨u1,u2,u3,o2,n2,d1,_,d3⟩:=hd
  rw [lt'_eq]
  refine AI (kasC_get ?_)
  dsimp only
  rw [hk]
  have q:wpAny (model prog w) A (keyLt' (tuples' true) (.ref t) (.ref u)) (fun b s'=>R (some b) st s') (fun _ _=>False) s:=kat_lt (k _ _ b1) b3 (k _ _ d1) d3 (ask_trip bc bd h)
  refine AI (kasC_lift (wpAny_attempt (wpAny_mono q (fun b s' hb=>?_) fun _ _ z=>z.elim)))
  exact AL hb
inductive rSortT (K:PySem.W.Frag) (xs:List V) (H:Hp) (Q:VK):Prop
 | mk (l:Addr) (ts:List Addr) (cs:List (Int×Int×Int)) (h0:xs=[.ref l]) (h1:SqL K H l (ts.map V.ref)) (h2:Paired (fun t c=>SqT K H t [.int c.1,.int c.2.1,.int c.2.2]) ts cs) (h4:∀ c∈cs,inT c)
   (h5:∀ (D:Addr) (us:List Addr) (ds:List (Int×Int×Int)),H D=none→ds.Perm cs→ds.Pairwise (fun a b=>rkT a≤rkT b)→us.length=ts.length→(∀ R:Addr→Int×Int×Int→Prop,Paired R ts cs→Paired R us ds)→Q (.ref D) (upd H D (.lst (us.map V.ref)))):rSortT K xs H Q
section
variable {X:Cx}
theorem call_sortT:CallR X (.builtin "sorted") (rSortT X.K):=by
 intro pins s σ H xs us Q I r h
 obtain ⟨l,ts,cs,rfl,hl,tp,bnd,q⟩:=h
 obtain ⟨u,rfl,ru⟩:=vals1 r
 cases ru
 obtain ⟨its,v,P1,z1⟩:=I.list hl
 rw [vals_refs v] at P1
 rw [AA] at z1
 have pi:∀ t c,SqT X.K H t [.int c.1,.int c.2.1,.int c.2.2]→TrIs s.heap t c:=fun t c ht=>by
  obtain ⟨its,v,⟨o,h1,h2,n,h3⟩,_⟩:=I.tuple ht
  cases v with
  | cons r1 v=>cases v with
   | cons r2 v=>cases v with
    | cons r3 v =>
     cases v
     obtain ⟨t1,rfl⟩:=r1
     obtain ⟨t2,rfl⟩:=r2
     obtain ⟨t3,rfl⟩:=r3
     exact ⟨t1,t2,t3,o,n,h1,h2,h3⟩
 have pp:Paired (TrIs s.heap) ts cs:=Paired.mapP tp pi
 obtain ⟨ec,ist⟩:=paired_f (f:=cOf s.heap) (fun t c a=>cOf_is a) pp
 have keepP:∀ g:Heap,(∀ b o,s.heap.get? b=some o→g.get? b=some o)→∀ t c,TrIs s.heap t c→TrIs g t c:=fun g k t c ⟨t1,t2,t3,o,n,h1,h2,h3⟩=>⟨t1,t2,t3,o,n,k _ _ h1,h2,h3⟩
 refine sorted_atL (ok:=okK s.heap) (rk:=rkK s.heap) P1.isList (by rw [AA]; exact z1) (fun g k=>TrIs.tups (Paired.mapP pp (keepP g k))) (fun B F g k=>cmpT k) (fun v hv=>?_) (fun ws p up=>?_)
 ·obtain ⟨t,ht,rfl⟩:=Ai.mp hv
  exact ⟨t,_,rfl,ist t ht,bnd _ (by rw [ec]; exact Ai.mpr ⟨t,ht,rfl⟩)⟩
 ·have wr:(ws.map unref).map AT=ws:=by
   rw [List.map_map]
   refine (List.map_congr_left fun v hv=>?_).trans (List.map_id ws)
   obtain ⟨t,_,rfl⟩:=Ai.mp (p.mem_iff.mp hv)
   rfl
  have pu:(ws.map unref).Perm ts:=by
   have:=p.map unref
   rw [List.map_map] at this
   exact this.trans (List.Perm.of_eq ((List.map_congr_left fun v _=>rfl).trans (List.map_id ts)))
  have ul:(ws.map unref).length=ts.length:=pu.length_eq
  obtain ⟨c',hc'⟩:=sortedAll_at s.heap (ts.map AT) ws.toArray
  refine ⟨.ref (s.heap.objs.size + 1),upd H (s.heap.objs.size + 1) (.lst ((ws.map unref).map V.ref)),I.laid (t':=s.toks) (fun b ob e=>sortedAll_old e) (Nat.le_succ _) (show ObjOk X.prog X.w _ _ _ (.lst _) from ⟨by rw [AA,ul]; exact z1,_,c',refs_vals _,by rw [wr]; exact hc'⟩),rfl,?_⟩
  refine q _ _ ((ws.map unref).map (cOf s.heap)) (I.hok.fresh (Nat.le_succ _)) (by rw [ec]; exact pu.map _) ?_ ul fun R hR=>?_
  ·rw [List.pairwise_map,List.pairwise_map]
   exact up
  ·rw [ec] at hR
   exact paired_of fun t ht=>of_paired hR t (pu.mem_iff.mp ht)
end
end L2
namespace L2
open PySem PySem.Spec PyProof.Rows
section
variable {X:Cx} {K:PySem.W.Frag} {a:Expr} {ta:TE}
theorem blk0 {scope:Scope} {own:List Str} (kind:scope.kind=.function) (h:(scope.names.all fun y=>decide (y.2≠.cell) && (decide (y.2≠.free) && decide (y.2=.local→scope.names.lookup y.1=some .local)))=true):BlkScope X scope own [] []:=by
 have g:∀ y∈scope.names,y.2≠.cell∧y.2≠.free∧(y.2=.local→scope.names.lookup y.1=some .local):=fun y hy=>by
  have:=List.all_eq_true.mp h y hy
  rw [Bool.and_eq_true,Bool.and_eq_true] at this
  exact ⟨of_decide_eq_true this.1,of_decide_eq_true this.2.1,of_decide_eq_true this.2.2⟩
 exact ⟨kind,fun y hy=>(g y hy).1,fun y hy=>(g y hy).2.2,fun y hy e=>absurd e (g y hy).2.1,rfl,fun y hy=>by simp at hy⟩
theorem nd1 (x:Str):[x].Nodup:=by simp
theorem ix_tupK (h:X.K=K):IxR X (rIxT K):=by subst h; exact ix_tup
theorem ix_listK (h:X.K=K):IxR X (rIxL K):=by subst h; exact ix_list
theorem pe_fldK {f:Str} {pos:Pos} (h:X.K=K) (he:PE X a ta) (hb:attributeBase a f X.env (eval a X.env)=eval a X.env):PE X (.Attribute a f pos) (tFld K ta f):=by subst h; exact pe_fld he hb
theorem pt_truthK (h:X.K=K) (ha:PE X a ta) (he:∀ whole,isTrue a X.env whole=(do let v ← whole; standAt a.pos; holding [v] (truthy v))):PT X a (fun σ H Q=>ta σ H fun x H'=>∃ k,TruV K x H' k∧Q k H'):=by subst h; exact pt_truth ha he
end
end L2
namespace Car
open PySem L2
def top (i:Nat):Stmt:=PySem.Challenge.pw_carvebed_k42_whole_what_would_be_spoilt.main.body.getD i (.Pass ⟨0,0,0,0⟩)
theorem same_upd {H:Hp} {p:Addr} (h:H p=none) (o:HO):Same H (upd H p o):=fun b u q=>by rw [upd_ne (ne_of_none q h)]; exact q
section
variable {K:PySem.W.Frag} {H:Hp}
end
def MvAt (H:Hp):List Addr→List (List V)→Prop
 | [],[]=>True
 | t :: ts,m :: ms=>H t=some (.tup m)∧MvAt H ts ms
 | _,_=>False
theorem MvAt.upd {H:Hp} {q:Addr} {o:HO} (hq:∀ m,H q≠some (.tup m)):∀ {ts:List Addr} {ms:List (List V)},MvAt H ts ms→MvAt (upd H q o) ts ms
 | [],[],_=>Ad
 | t :: ts,m :: ms,⟨h,r⟩=>⟨by rw [upd_ne (fun z=>hq m (by rw [← z]; exact h))]; exact h,MvAt.upd hq r⟩
theorem MvAt.same {H H':Hp} (s:Same H H'):∀ {ts:List Addr} {ms:List (List V)},MvAt H ts ms→MvAt H' ts ms
 | [],[],_=>Ad
 | t :: ts,m :: ms,⟨h,r⟩=>⟨s _ _ h,MvAt.same s r⟩
theorem MvAt.snoc {H:Hp} {t:Addr} {m:List V} (h:H t=some (.tup m)):∀ {ts:List Addr} {ms:List (List V)},MvAt H ts ms→MvAt H (ts++[t]) (ms++[m])
 | [],[],_=>⟨h,Ad⟩
 | t :: ts,m :: ms,⟨h1,r⟩=>⟨h1,MvAt.snoc h r⟩
theorem MvAt.len {H:Hp}:∀ {ts:List Addr} {ms:List (List V)},MvAt H ts ms→ts.length=ms.length
 | [],[],_=>rfl
 | t :: ts,m :: ms,⟨_,r⟩=>by rw [AS,AS,r.len]
theorem same_in {H0 H:Hp} {q:Addr} {o:HO} (s:Same H0 H) (h:H0 q=none):Same H0 (upd H q o):=fun b u e=>by
 rw [upd_ne (ne_of_none e h)]
 exact s b u e
theorem line3 {n c:Nat} (h:n≤c) (h2:c≤2000):n < AR:=Nat.lt_of_le_of_lt (Au h h2) (by decide)
def Wd (n:Nat) (Pv:Nat→St→List V→Hp→Prop) (i m:Nat) (σ:St) (acc:List V) (H:Hp):Prop:=m=n - i∧i≤n∧Pv i σ acc H
theorem wd_next {n:Nat} {Pv:Nat→St→List V→Hp→Prop} {i:Nat} {σ:St} {acc:List V} {H:Hp} (h:i < n) (p:Pv (i + 1) σ acc H):∃ m',m' < n - i∧Wd n Pv (i + 1) m' σ acc H:=⟨n - (i + 1),by omega,rfl,h,p⟩
theorem lc_ask {K:PySem.W.Frag} {a:Addr} {xs:List V} {i:Nat} {H:Hp} {A:Prop} {B:V→Hp→Prop} (q:SqL K H a xs) (hi:i≤xs.length) (hs:∀ x,xs[i]?=some x→i < xs.length→B x H) (hd:i=xs.length→A) :
  ((Itl K a).stop i H∧A)∨((Itl K a).go i H∧∀ x H',(Itl K a).yld i H x H'→B x H'):=by
 by_cases hlt:i < xs.length
 ·refine .inr ⟨⟨xs,xs[i],q,by simp [hlt]⟩,fun x H' y=>?_⟩
  obtain ⟨e,y⟩:=y
  subst e
  exact hs x (y xs q) hlt
 ·exact .inl ⟨⟨xs,q,by omega⟩,hd (by omega)⟩
theorem wd_0 {n:Nat} {Pv:Nat→St→List V→Hp→Prop} {σ:St} {acc:List V} {H:Hp} (h:Pv 0 σ acc H):∃ m,Wd n Pv 0 m σ acc H:=⟨n,by simp,Ap _,h⟩
end Car
namespace L2
open PySem PySem.Spec PyProof.Rows
def tMid (t u:TS):TS:=fun D σ H=>∃ N:St→Hp→Prop,t { D with nx:=N } σ H∧∀ σ' H',N σ' H'→u D σ' H'
theorem pss_mid {X:Cx} {st:Stmt} {rest:List Stmt} {t u:TS} (h1:PS X st t) (h2:PSs X rest u):PSs X (st :: rest) (tMid t u):=by
 intro pins s σ H D I ⟨N,h,hN⟩
 refine wpAny_execs_cons (thn (h1 pins s σ H { D with nx:=N } I h) fun f s1 q=>?_)
 cases f with
 | next =>
  obtain ⟨σ',H',I',q⟩:=q
  exact h2 pins s1 σ' H' D I' (hN σ' H' q)
 | ret v=>exact q
 | brk=>exact q
 | cont=>exact q
theorem drop_le {H:Hp} {d:Addr}:Same (drop H d) H:=fun b o e=>by
 by_cases hb:b=d
 ·rw [hb,drop_same] at e; cases e
 ·rw [drop_ne hb] at e; exact e
end L2
namespace Car
open PySem L2
theorem bt_max:bootBuiltins "max"=some (.builtin "max"):=by decide +kernel
theorem bt_min:bootBuiltins "min"=some (.builtin "min"):=by decide +kernel
theorem bt_list:bootBuiltins "list"=some (.type "list"):=by decide +kernel
theorem bt_sum:bootBuiltins "sum"=some (.builtin "sum"):=by decide +kernel
structure LawT (mg:Str→Option Value):Prop where
 len:mg "len"=none
 max:mg "max"=none
 min:mg "min"=none
 range:mg "range"=none
 isin:mg "isinstance"=none
 abs:mg "abs"=none
 tuple:mg "tuple"=none
 list:mg "list"=none
 bool:mg "bool"=none
 int:mg "int"=none
theorem mod_lt (n:Int) {m:Int} (h:0 < m):0≤n % m∧n % m < m:=⟨Int.emod_nonneg _ (by omega),Int.emod_lt_of_pos _ h⟩
section
variable {P:Program} {w:World} {K:PySem.W.Frag} {mg:Str→Option Value} {base:Heap} {f:Addr} {fd':FuncData}
theorem passN {X:Cx}:Passes (CX1 P w) X E0:=fun _ _ _ _ _ _ _ h=>by
 obtain ⟨_,_,_,_,_,_,_,_,_,_,_,_,_,_,_,ff⟩:=h
 exact ff.elim
end
mutual
theorem eqv_self:∀ d:PyData,PyData.canLay0 d=true→PyData.eqv d d=true
 | .none,_=>by rw [PyData.eqv]
 | .bool b,_=>by rw [PyData.eqv]; simp
 | .int i,_=>by rw [PyData.eqv]; simp
 | .str x,_=>by rw [PyData.eqv]; simp
 | .list xs,h=>by rw [PyData.canLay0] at h; rw [PyData.eqv]; exact eqvAll_self xs h
 | .tuple xs,h=>by rw [PyData.canLay0] at h; rw [PyData.eqv]; exact eqvAll_self xs h
 | .dict _,h=>by rw [PyData.canLay0] at h; cases h
theorem eqvAll_self:∀ xs:List PyData,PyData.canLayAll0 xs=true→PyData.eqvAll xs xs=true
 | [],_=>by rw [PyData.eqvAll]
 | x :: r,h=>by
  rw [PyData.canLayAll0,Bool.and_eq_true] at h
  rw [PyData.eqvAll,eqv_self x h.1,eqvAll_self r h.2]
  rfl
end
theorem le1:1≤AR:=by decide
theorem le2:2≤AR:=by decide
theorem le3:3≤AR:=by decide
section
variable {P:Program} {w:World} {K:PySem.W.Frag} {mg:Str→Option Value} {base:Heap} {f:Addr} {fd':FuncData}
theorem blkC {X:Cx} {scope:Scope} {own capn:List Str} {capI:List Nat} (sc:Scope) (hsc:X.env.scope=sc) (kind:scope.kind=.function) (h:(scope.names.all fun y=>decide (y.2≠.cell) && (decide (y.2=.local→scope.names.lookup y.1=some .local) && decide (y.2=.free→sc.names.lookup y.1=some .cell)))=true) (caps:capI.map (fun i=>X.N[i]?)=capn.map some)
  (capc:∀ y∈capn,X.env.scope.names.lookup y=some .cell∧(relabel scope X.env).names.lookup y=some .cell):BlkScope X scope own capn capI:=by
 have g:∀ y∈scope.names,y.2≠.cell∧(y.2=.local→scope.names.lookup y.1=some .local)∧(y.2=.free→sc.names.lookup y.1=some .cell):=fun y hy=>by
  have:=List.all_eq_true.mp h y hy
  rw [Bool.and_eq_true,Bool.and_eq_true] at this
  exact ⟨of_decide_eq_true this.1,of_decide_eq_true this.2.1,of_decide_eq_true this.2.2⟩
 exact ⟨kind,fun y hy=>(g y hy).1,fun y hy=>(g y hy).2.1,fun y hy e=>by rw [hsc]; exact (g y hy).2.2 e,caps,capc⟩
end
end Car
namespace L2
open PySem PySem.Spec PyProof.Rows
section
variable {X:Cx} {pos:Pos}
end
end L2
namespace Car
open PySem PySem.W PySem.Calls PyProof.Rows L2
def goT (tbl:String→Option Builtin) (pr:Program) (wd:World) (lo:Nat) (an:Option Value):Nat→SharedT→Thread→Option SharedT
 | 0,_,_=>none
 | fuel + 1,sh,th=>if through th then some sh else
  if stepOk lo an th then (stepT (denote tbl) pr wd sh th).bind fun x=>goT tbl pr wd lo an fuel x.1 x.2 else none
theorem goT_run {tbl:String→Option Builtin} {pr:Program} {wd:World} {lo:Nat} {an:Option Value} (fuel:Nat):∀ (sh out:SharedT) (th:Thread),goT tbl pr wd lo an fuel sh th=some out→topRun tbl pr wd lo an fuel sh.abs th=some out.abs:=by
 induction fuel with
 | zero=>intro sh out th h; exact absurd h (by simp [goT])
 | succ k ih =>
  intro sh out th h
  unfold goT at h
  unfold topRun
  by_cases a:through th=true
  ·rw [if_pos a] at h; rw [a]; cases h; rfl
  ·rw [if_neg a] at h
   rw [Bool.not_eq_true] at a
   rw [a]
   by_cases b:stepOk lo an th=true
   ·rw [if_pos b] at h
    rw [b]
    obtain ⟨x,hx,hr⟩:=Option.bind_eq_some_iff.mp h
    rw [stepT_spec (s':=x.1) (t':=x.2) hx]
    exact ih _ _ _ hr
   ·rw [if_neg b] at h; cases h
def plant:List Obj→Nat→BT→BT
 | [],_,tr=>tr
 | ob :: more,i,tr=>plant more (i + 1) (tr.ins i ob)
noncomputable def boot0 (P:Params) (os:OsState):SharedT:=⟨plant (boot_heap P).objs.toList 0 .nil,11,(boot_heap P).life,#[],boot_drawn,boot_toks,os⟩
theorem boot0_abs (P:Params) (os:OsState):(boot0 P os).abs=⟨boot_heap P,#[],boot_drawn,boot_toks,os⟩:=by kernel_rfl
noncomputable def sight {α:Type} (pr q:Program) (loose:List Str) (Yf:Shared→α) (M:Nat) (wd:World) (os:OsState) :=
 (goT treeTable pr wd 11 (some (.ref 6)) M (boot0 wd.params os) (topStub pr)).map fun x =>
  ((staticsOk (importedModules pr.main.body) (boot_heap wd.params) x.abs.heap && namesBound pr x.abs.heap && gensDone x.abs && laidKept (boot_heap wd.params) x.abs.heap),
   openSeen q loose (importedModules pr.main.body) (fun s=>xlAt q [] s && recOk [] s) true x.abs,Yf x.abs)
theorem left_by {α:Type} {pr q:Program} {loose:List Str} {Yf:Shared→α} {Ya:World→α} {N M:Nat} (le:Nat.ble M N=true)
  (hop:opening pr=plainProg pr.main.scope.names) (hN:Nat.ble 600 N=true) (hf:∀ s,fenceModules? pr s=some s)
  (hs:∀ wd os,sight pr q loose Yf M wd os=some (true,openGood q loose,Ya wd)):LeftO pr q loose (fun s=>xlAt q [] s && recOk [] s) Yf Ya N true:=fun wd=>by
 obtain ⟨⟨hp,gs,d,k,os⟩,e,e'⟩:=Option.map_eq_some_iff.mp (boot_open hop hN hf wd)
 simp only [Prod.mk.injEq] at e'
 obtain ⟨rfl,rfl,rfl,rfl⟩:=e'
 obtain ⟨x,hx,hv⟩:=Option.map_eq_some_iff.mp (hs wd os)
 simp only [Prod.mk.injEq] at hv
 obtain ⟨h1,h2,h3⟩:=hv
 have r:=topRun_mono (N - M) _ _ _ _ (goT_run _ _ _ _ hx)
 have hm:M + (N - M)=N:=Nat.add_sub_cancel' (Nat.le_of_ble_eq_true le)
 rw [hm,boot0_abs] at r
 have z1:((boot_heap wd.params).isNs Ab && (#[]:Array GenState).size == 0)=true:=by kernel_rfl
 have z2:(boot_heap wd.params).objs.size=11:=by kernel_rfl
 have z3:(boot_heap wd.params).nsMap Ab "__annotations__"=some (.ref 6):=by kernel_rfl
 have t:topFrom treeTable pr wd N ⟨boot_heap wd.params,#[],boot_drawn,boot_toks,os⟩=some x.abs:=by
  unfold topFrom
  dsimp only
  rw [z1,z2,z3]
  dsimp only
  rw [show topRun treeTable pr wd 11 (some (.ref 6)) N ⟨boot_heap wd.params,#[],boot_drawn,boot_toks,os⟩ (topStub pr)=some x.abs from r]
  dsimp only [Option.bind]
  rw [h1]
 unfold openEnds
 rw [e]
 dsimp only [Option.bind]
 rw [show topFrom treeTable pr wd N ⟨boot_heap wd.params,{ toList:=[] },boot_drawn,boot_toks,os⟩=some x.abs from t]
 dsimp only [Option.map]
 rw [h2,h3]
def dS (P:Params) (x:Str) (t:Nat) (v:Value):DictEntry:=⟨PyData.keyHash P x,.str x t,v⟩
def fF (x q:Str) (s:Stmt) (dv kv doc pm:Value) (an:Option Addr) (cd ct:Value):FuncData:=fnOf x q (defArgs s) (defBody s) (defScope s) dv kv doc pm an cd ct
def cO (x q:Str) (t l a r1 r2:Nat) (u v z:Value) (r3 g:Nat):Obj:=⟨.type "code",none,.fields #[.str x t,.str q (t + 1),.str "/claim/cut.py" (t + 2),.int l 0,.int a 0,.int 0 0,.int 0 0,.int 3 0,.ref r1,.bool true,.int 181 0,.ref r2,u,v,z,.ref r3,.int g 0,.int l 0,.str "/claim/cut.py" (g + 1)],#[]⟩
noncomputable def o2 (P:Params):Obj:=⟨.none,none,(.dict #[dS P "type.__subclasses__.Exception.0" 322 (.int 95 0),dS P "type.__subclasses__.Exception.n" 323 (.int 1 0)] 2),#[]⟩
noncomputable def o3 (P:Params):Obj:=⟨.type "dict",none,(.dict #[dS P "__name__" 165 (.str "law_carvebed_k42_whole_what_would_be_spoilt" 507),dS P "__doc__" 166 .none,dS P "__package__" 167 .none,dS P "__loader__" 168 (.builtin "__main__.__loader__#opaque"),dS P "__spec__" 169 .none,dS P "__annotations__" 170 (.ref 6),dS P "__builtins__" 171 (.ref 4),dS P "__file__" 173 (.str "/claim/cut.py" 172),dS P "__cached__" 174 .none,dS P "cells_of" 194 (.ref 19),dS P "within" 200 (.ref 24),dS P "cells_under" 206 (.ref 29),dS P "places_over" 212 (.ref 34),dS P "greatest" 218 (.ref 39),dS P "lowest_at" 228 (.ref 46),dS P "lowest_over" 242 (.ref 53),dS P "cut_down" 253 (.ref 60),dS P "had" 259 (.ref 65),dS P "first_as_high" 265 (.ref 70),dS P "why_left" 282 (.ref 77),dS P "TOP" 286 (.int 1000 285),dS P "BEGINNING" 296 (.ref 78),dS P "Fault" 325 (.ref 95),dS P "Carver" 420 (.ref 162),dS P "do_moves" 433 (.ref 173),dS P "Cells" 495 (.ref 212),dS P "carved" 506 (.ref 223),dS P "_law_take" 517 (.ref 230),dS P "_law_cell_at" 525 (.ref 237),dS P "_law_cutter" 537 (.ref 244),dS P "_law_drop" 546 (.ref 251),dS P "_law_rows" 552 (.ref 256),dS P "_law_case" 558 (.ref 261),dS P "_law_over" 572 (.ref 268),dS P "_law_spoils" 594 (.ref 275),dS P "law" 600 (.ref 280)] 36),#[]⟩
noncomputable def o18:Obj:=cO "cells_of" "cells_of" 189 2 1 15 16 .none .none .none 17 192
noncomputable def o19:Obj:=⟨.type "function",none,(.func (fF "cells_of" "cells_of" (top 1) .none .none .none (.str "carvebed.reach" 187) none (.ref 18) .none)),#[]⟩
noncomputable def o23:Obj:=cO "within" "within" 195 7 2 20 21 .none .none .none 22 198
noncomputable def o24:Obj:=⟨.type "function",none,(.func (fF "within" "within" (top 2) .none .none .none (.str "carvebed.reach" 187) none (.ref 23) .none)),#[]⟩
noncomputable def o28:Obj:=cO "cells_under" "cells_under" 201 9 4 25 26 .none .none .none 27 204
noncomputable def o29:Obj:=⟨.type "function",none,(.func (fF "cells_under" "cells_under" (top 3) .none .none .none (.str "carvebed.reach" 187) none (.ref 28) .none)),#[]⟩
noncomputable def o33:Obj:=cO "places_over" "places_over" 207 11 4 30 31 .none .none .none 32 210
noncomputable def o34:Obj:=⟨.type "function",none,(.func (fF "places_over" "places_over" (top 4) .none .none .none (.str "carvebed.reach" 187) none (.ref 33) .none)),#[]⟩
noncomputable def o38:Obj:=cO "greatest" "greatest" 213 13 2 35 36 .none .none .none 37 216
noncomputable def o39:Obj:=⟨.type "function",none,(.func (fF "greatest" "greatest" (top 5) .none .none .none (.str "carvebed.reach" 187) none (.ref 38) .none)),#[]⟩
noncomputable def o45:Obj:=cO "lowest_at" "lowest_at" 219 15 4 40 41 .none (.ref 42) (.ref 43) 44 226
noncomputable def o46:Obj:=⟨.type "function",none,(.func (fF "lowest_at" "lowest_at" (top 6) .none .none .none (.str "carvebed.reach" 187) none (.ref 45) .none)),#[]⟩
noncomputable def o52:Obj:=cO "lowest_over" "lowest_over" 229 17 5 47 48 .none (.ref 49) (.ref 50) 51 240
noncomputable def o53:Obj:=⟨.type "function",none,(.func (fF "lowest_over" "lowest_over" (top 7) .none .none .none (.str "carvebed.reach" 187) none (.ref 52) .none)),#[]⟩
noncomputable def o59:Obj:=cO "cut_down" "cut_down" 243 23 3 54 55 .none (.ref 56) (.ref 57) 58 251
noncomputable def o60:Obj:=⟨.type "function",none,(.func (fF "cut_down" "cut_down" (top 8) .none .none .none (.str "carvebed.reach" 187) none (.ref 59) .none)),#[]⟩
noncomputable def o64:Obj:=cO "had" "had" 254 27 3 61 62 .none .none .none 63 257
noncomputable def o65:Obj:=⟨.type "function",none,(.func (fF "had" "had" (top 9) .none .none .none (.str "carvebed.reach" 187) none (.ref 64) .none)),#[]⟩
noncomputable def o69:Obj:=cO "first_as_high" "first_as_high" 260 34 3 66 67 .none .none .none 68 263
noncomputable def o70:Obj:=⟨.type "function",none,(.func (fF "first_as_high" "first_as_high" (top 10) .none .none .none (.str "carvebed.reach" 187) none (.ref 69) .none)),#[]⟩
noncomputable def o76:Obj:=cO "why_left" "why_left" 266 37 5 71 72 .none (.ref 73) (.ref 74) 75 280
noncomputable def o77:Obj:=⟨.type "function",none,(.func (fF "why_left" "why_left" (top 11) .none .none .none (.str "carvebed.reach" 187) none (.ref 76) .none)),#[]⟩
noncomputable def o78 (P:Params):Obj:=⟨.type "dict",none,(.dict #[dS P "x" 287 (.int 0 288),dS P "y" 289 (.int 0 290),dS P "z" 291 (.int 1000 292)] 3),#[]⟩
noncomputable def o91:Obj:=cO "__init__" "Fault.__init__" 309 50 2 86 87 .none (.ref 88) (.ref 89) 90 314
noncomputable def o92:Obj:=⟨.type "function",none,(.func (fF "__init__" "Fault.__init__" (inClass (top 15) 0) .none .none .none (.str "carvebed.carver" 283) none (.ref 91) .none)),#[]⟩
noncomputable def o94 (P:Params):Obj:=⟨.type "dict",none,(.dict #[dS P "__module__" 304 (.str "carvebed.carver" 283),dS P "__firstlineno__" 308 (.int 48 307),dS P "__init__" 316 (.ref 92),dS P "__static_attributes__" 318 (.ref 93),dS P "__weakref__" 320 (.ref 96),dS P "__doc__" 321 .none] 3),#[]⟩
noncomputable def o95:Obj:=⟨.type "type",none,(.cls { name:="Fault",bases:=[.type "Exception"],mro:=[.ref 95,.type "Exception",.type "BaseException",.type "object"],ns:=94,qualname:="Fault",hasDict:=true,slotNames:=[],subclasses:=[],abstract:=false,collection:=none,hasDel:=false }),#[some (.ref 79),none,some (.str "Fault" 297),some (.str "Fault" 305),some (.builtin "Exception.__new__"),some (.bool true)]⟩
noncomputable def o96:Obj:=⟨.type "getset_descriptor",none,(.fields #[.str "__weakref__" 319,.ref 95,.builtin "ExceptionGroup.__weakref__",.none]),#[]⟩
noncomputable def o111:Obj:=cO "__init__" "Carver.__init__" 338 54 3 106 107 .none (.ref 108) (.ref 109) 110 344
noncomputable def o112:Obj:=⟨.type "function",none,(.func (fF "__init__" "Carver.__init__" (inClass (top 16) 0) .none .none .none (.str "carvebed.carver" 283) none (.ref 111) .none)),#[]⟩
noncomputable def o118:Obj:=cO "do" "Carver.do" 347 60 2 113 114 .none (.ref 115) (.ref 116) 117 352
noncomputable def o119:Obj:=⟨.type "function",none,(.func (fF "do" "Carver.do" (inClass (top 16) 1) .none .none .none (.str "carvebed.carver" 283) none (.ref 118) .none)),#[]⟩
noncomputable def o125:Obj:=cO "do_hold" "Carver.do_hold" 355 65 2 120 121 .none (.ref 122) (.ref 123) 124 360
noncomputable def o126:Obj:=⟨.type "function",none,(.func (fF "do_hold" "Carver.do_hold" (inClass (top 16) 2) .none .none .none (.str "carvebed.carver" 283) none (.ref 125) .none)),#[]⟩
noncomputable def o132:Obj:=cO "do_move" "Carver.do_move" 363 73 4 127 128 .none (.ref 129) (.ref 130) 131 372
noncomputable def o133:Obj:=⟨.type "function",none,(.func (fF "do_move" "Carver.do_move" (inClass (top 16) 3) .none .none .none (.str "carvebed.carver" 283) none (.ref 132) .none)),#[]⟩
noncomputable def o139:Obj:=cO "has_room" "Carver.has_room" 375 86 3 134 135 .none (.ref 136) (.ref 137) 138 381
noncomputable def o140:Obj:=⟨.type "function",none,(.func (fF "has_room" "Carver.has_room" (inClass (top 16) 4) .none .none .none (.str "carvebed.carver" 283) none (.ref 139) .none)),#[]⟩
noncomputable def o144:Obj:=cO "way_to" "Carver.way_to" 384 93 3 141 142 .none .none .none 143 387
noncomputable def o145:Obj:=⟨.type "function",none,(.func (fF "way_to" "Carver.way_to" (inClass (top 16) 5) .none .none .none (.str "carvebed.carver" 283) none (.ref 144) .none)),#[]⟩
noncomputable def o151:Obj:=cO "pass_over" "Carver.pass_over" 390 99 2 146 147 .none (.ref 148) (.ref 149) 150 396
noncomputable def o152:Obj:=⟨.type "function",none,(.func (fF "pass_over" "Carver.pass_over" (inClass (top 16) 6) .none .none .none (.str "carvebed.carver" 283) none (.ref 151) .none)),#[]⟩
noncomputable def o158:Obj:=cO "cut_along" "Carver.cut_along" 399 105 2 153 154 .none (.ref 155) (.ref 156) 157 406
noncomputable def o159:Obj:=⟨.type "function",none,(.func (fF "cut_along" "Carver.cut_along" (inClass (top 16) 7) .none .none .none (.str "carvebed.carver" 283) none (.ref 158) .none)),#[]⟩
noncomputable def o161 (P:Params):Obj:=⟨.type "dict",none,(.dict #[dS P "__module__" 333 (.str "carvebed.carver" 283),dS P "__firstlineno__" 337 (.int 52 336),dS P "__init__" 346 (.ref 112),dS P "do" 354 (.ref 119),dS P "do_hold" 362 (.ref 126),dS P "do_move" 374 (.ref 133),dS P "has_room" 383 (.ref 140),dS P "way_to" 389 (.ref 145),dS P "pass_over" 398 (.ref 152),dS P "cut_along" 408 (.ref 159),dS P "__static_attributes__" 413 (.ref 160),dS P "__dict__" 415 (.ref 163),dS P "__weakref__" 417 (.ref 164),dS P "__doc__" 418 .none] 4),#[]⟩
noncomputable def o162:Obj:=⟨.type "type",none,(.cls { name:="Carver",bases:=[.type "object"],mro:=[.ref 162,.type "object"],ns:=161,qualname:="Carver",hasDict:=true,slotNames:=[],subclasses:=[],abstract:=false,collection:=none,hasDel:=false }),#[none,none,some (.str "Carver" 326),some (.str "Carver" 334),some (.builtin "object.__new__"),some (.bool true)]⟩
noncomputable def o163:Obj:=⟨.type "getset_descriptor",none,(.fields #[.str "__dict__" 414,.ref 162,.builtin "function.__dict__",.builtin "function.__dict__#set"]),#[]⟩
noncomputable def o164:Obj:=⟨.type "getset_descriptor",none,(.fields #[.str "__weakref__" 416,.ref 162,.builtin "ExceptionGroup.__weakref__",.none]),#[]⟩
noncomputable def o172:Obj:=cO "do_moves" "do_moves" 421 111 3 167 168 .none (.ref 169) (.ref 170) 171 431
noncomputable def o173:Obj:=⟨.type "function",none,(.func (fF "do_moves" "do_moves" (top 17) .none .none .none (.str "carvebed.carver" 283) none (.ref 172) .none)),#[]⟩
noncomputable def o184:Obj:=cO "__init__" "Cells.__init__" 448 123 2 181 182 .none .none .none 183 451
noncomputable def o185:Obj:=⟨.type "function",none,(.func (fF "__init__" "Cells.__init__" (inClass (top 19) 0) .none .none .none (.str "carvebed.beds" 434) none (.ref 184) .none)),#[]⟩
noncomputable def o191:Obj:=cO "has_cell" "Cells.has_cell" 454 126 3 186 187 .none (.ref 188) (.ref 189) 190 460
noncomputable def o192:Obj:=⟨.type "function",none,(.func (fF "has_cell" "Cells.has_cell" (inClass (top 19) 1) .none .none .none (.str "carvebed.beds" 434) none (.ref 191) .none)),#[]⟩
noncomputable def o196:Obj:=cO "under" "Cells.under" 463 129 3 193 194 .none .none .none 195 466
noncomputable def o197:Obj:=⟨.type "function",none,(.func (fF "under" "Cells.under" (inClass (top 19) 2) .none .none .none (.str "carvebed.beds" 434) none (.ref 196) .none)),#[]⟩
noncomputable def o201:Obj:=cO "rises_above" "Cells.rises_above" 469 137 3 198 199 .none .none .none 200 472
noncomputable def o202:Obj:=⟨.type "function",none,(.func (fF "rises_above" "Cells.rises_above" (inClass (top 19) 3) .none .none .none (.str "carvebed.beds" 434) none (.ref 201) .none)),#[]⟩
noncomputable def o208:Obj:=cO "cut_down" "Cells.cut_down" 475 140 3 203 204 .none (.ref 205) (.ref 206) 207 484
noncomputable def o209:Obj:=⟨.type "function",none,(.func (fF "cut_down" "Cells.cut_down" (inClass (top 19) 4) .none .none .none (.str "carvebed.beds" 434) none (.ref 208) .none)),#[]⟩
noncomputable def o211 (P:Params):Obj:=⟨.type "dict",none,(.dict #[dS P "__module__" 443 (.str "carvebed.beds" 434),dS P "__firstlineno__" 447 (.int 121 446),dS P "__init__" 453 (.ref 185),dS P "has_cell" 462 (.ref 192),dS P "under" 468 (.ref 197),dS P "rises_above" 474 (.ref 202),dS P "cut_down" 486 (.ref 209),dS P "__static_attributes__" 488 (.ref 210),dS P "__dict__" 490 (.ref 213),dS P "__weakref__" 492 (.ref 214),dS P "__doc__" 493 .none] 4),#[]⟩
noncomputable def o212:Obj:=⟨.type "type",none,(.cls { name:="Cells",bases:=[.type "object"],mro:=[.ref 212,.type "object"],ns:=211,qualname:="Cells",hasDict:=true,slotNames:=[],subclasses:=[],abstract:=false,collection:=none,hasDel:=false }),#[none,none,some (.str "Cells" 436),some (.str "Cells" 444),some (.builtin "object.__new__"),some (.bool true)]⟩
noncomputable def o213:Obj:=⟨.type "getset_descriptor",none,(.fields #[.str "__dict__" 489,.ref 212,.builtin "function.__dict__",.builtin "function.__dict__#set"]),#[]⟩
noncomputable def o214:Obj:=⟨.type "getset_descriptor",none,(.fields #[.str "__weakref__" 491,.ref 212,.builtin "ExceptionGroup.__weakref__",.none]),#[]⟩
noncomputable def o222:Obj:=cO "carved" "carved" 496 148 3 217 218 .none (.ref 219) (.ref 220) 221 504
noncomputable def o223:Obj:=⟨.type "function",none,(.func (fF "carved" "carved" (top 20) .none .none .none (.str "carvebed.beds" 434) none (.ref 222) .none)),#[]⟩
noncomputable def o229:Obj:=cO "_law_take" "_law_take" 509 153 2 224 225 .none (.ref 226) (.ref 227) 228 515
noncomputable def o230:Obj:=⟨.type "function",none,(.func (fF "_law_take" "_law_take" (top 22) .none .none .none (.str "law_carvebed_k42_whole_what_would_be_spoilt" 507) none (.ref 229) .none)),#[]⟩
noncomputable def o236:Obj:=cO "_law_cell_at" "_law_cell_at" 518 161 2 231 232 .none (.ref 233) (.ref 234) 235 523
noncomputable def o237:Obj:=⟨.type "function",none,(.func (fF "_law_cell_at" "_law_cell_at" (top 23) .none .none .none (.str "law_carvebed_k42_whole_what_would_be_spoilt" 507) none (.ref 236) .none)),#[]⟩
noncomputable def o243:Obj:=cO "_law_cutter" "_law_cutter" 526 165 2 238 239 .none (.ref 240) (.ref 241) 242 535
noncomputable def o244:Obj:=⟨.type "function",none,(.func (fF "_law_cutter" "_law_cutter" (top 24) .none .none .none (.str "law_carvebed_k42_whole_what_would_be_spoilt" 507) none (.ref 243) .none)),#[]⟩
noncomputable def o250:Obj:=cO "_law_drop" "_law_drop" 538 173 2 245 246 .none (.ref 247) (.ref 248) 249 544
noncomputable def o251:Obj:=⟨.type "function",none,(.func (fF "_law_drop" "_law_drop" (top 25) .none .none .none (.str "law_carvebed_k42_whole_what_would_be_spoilt" 507) none (.ref 250) .none)),#[]⟩
noncomputable def o255:Obj:=cO "_law_rows" "_law_rows" 547 176 4 252 253 .none .none .none 254 550
noncomputable def o256:Obj:=⟨.type "function",none,(.func (fF "_law_rows" "_law_rows" (top 26) .none .none .none (.str "law_carvebed_k42_whole_what_would_be_spoilt" 507) none (.ref 255) .none)),#[]⟩
noncomputable def o260:Obj:=cO "_law_case" "_law_case" 553 187 1 257 258 .none .none .none 259 556
noncomputable def o261:Obj:=⟨.type "function",none,(.func (fF "_law_case" "_law_case" (top 27) .none .none .none (.str "law_carvebed_k42_whole_what_would_be_spoilt" 507) none (.ref 260) .none)),#[]⟩
noncomputable def o267:Obj:=cO "_law_over" "_law_over" 559 196 4 262 263 .none (.ref 264) (.ref 265) 266 570
noncomputable def o268:Obj:=⟨.type "function",none,(.func (fF "_law_over" "_law_over" (top 28) .none .none .none (.str "law_carvebed_k42_whole_what_would_be_spoilt" 507) none (.ref 267) .none)),#[]⟩
noncomputable def o274:Obj:=cO "_law_spoils" "_law_spoils" 573 203 7 269 270 .none (.ref 271) (.ref 272) 273 592
noncomputable def o275:Obj:=⟨.type "function",none,(.func (fF "_law_spoils" "_law_spoils" (top 29) .none .none .none (.str "law_carvebed_k42_whole_what_would_be_spoilt" 507) none (.ref 274) .none)),#[]⟩
noncomputable def o279:Obj:=cO "law" "law" 595 210 1 276 277 .none .none .none 278 598
noncomputable def o280:Obj:=⟨.type "function",none,(.func (fF "law" "law" (top 30) .none .none .none (.str "law_carvebed_k42_whole_what_would_be_spoilt" 507) none (.ref 279) .none)),#[]⟩
noncomputable def KK (P:Params):PySem.W.Frag:=(nat_lit 2,o2 P) :: (nat_lit 3,o3 P) :: (nat_lit 18,o18) :: (nat_lit 19,o19) :: (nat_lit 23,o23) :: (nat_lit 24,o24) :: (nat_lit 28,o28) :: (nat_lit 29,o29) :: (nat_lit 33,o33) :: (nat_lit 34,o34) :: (nat_lit 38,o38) :: (nat_lit 39,o39) :: (nat_lit 45,o45) :: (nat_lit 46,o46) :: (nat_lit 52,o52) :: (nat_lit 53,o53) :: (nat_lit 59,o59) :: (nat_lit 60,o60) :: (nat_lit 64,o64) :: (nat_lit 65,o65) :: (nat_lit 69,o69) :: (nat_lit 70,o70) :: (nat_lit 76,o76) :: (nat_lit 77,o77) :: (nat_lit 78,o78 P) :: (nat_lit 91,o91) :: (nat_lit 92,o92) :: (nat_lit 94,o94 P) :: (nat_lit 95,o95) :: (nat_lit 96,o96) :: (nat_lit 111,o111) :: (nat_lit 112,o112) :: (nat_lit 118,o118) :: (nat_lit 119,o119) :: (nat_lit 125,o125) :: (nat_lit 126,o126) :: (nat_lit 132,o132) :: (nat_lit 133,o133) :: (nat_lit 139,o139) :: (nat_lit 140,o140) :: (nat_lit 144,o144) :: (nat_lit 145,o145) :: (nat_lit 151,o151) :: (nat_lit 152,o152) :: (nat_lit 158,o158) :: (nat_lit 159,o159) :: (nat_lit 161,o161 P) :: (nat_lit 162,o162) :: (nat_lit 163,o163) :: (nat_lit 164,o164) :: (nat_lit 172,o172) :: (nat_lit 173,o173) :: (nat_lit 184,o184) :: (nat_lit 185,o185) :: (nat_lit 191,o191) :: (nat_lit 192,o192) :: (nat_lit 196,o196) :: (nat_lit 197,o197) :: (nat_lit 201,o201) :: (nat_lit 202,o202) :: (nat_lit 208,o208) :: (nat_lit 209,o209) :: (nat_lit 211,o211 P) :: (nat_lit 212,o212) :: (nat_lit 213,o213) :: (nat_lit 214,o214) :: (nat_lit 222,o222) :: (nat_lit 223,o223) :: (nat_lit 229,o229) :: (nat_lit 230,o230) :: (nat_lit 236,o236) :: (nat_lit 237,o237) :: (nat_lit 243,o243) :: (nat_lit 244,o244) :: (nat_lit 250,o250) :: (nat_lit 251,o251) :: (nat_lit 255,o255) :: (nat_lit 256,o256) :: (nat_lit 260,o260) :: (nat_lit 261,o261) :: (nat_lit 267,o267) :: (nat_lit 268,o268) :: (nat_lit 274,o274) :: (nat_lit 275,o275) :: (nat_lit 279,o279) :: (nat_lit 280,o280) :: []
def KKas:List Addr:=nat_lit 2 :: nat_lit 3 :: nat_lit 18 :: nat_lit 19 :: nat_lit 23 :: nat_lit 24 :: nat_lit 28 :: nat_lit 29 :: nat_lit 33 :: nat_lit 34 :: nat_lit 38 :: nat_lit 39 :: nat_lit 45 :: nat_lit 46 :: nat_lit 52 :: nat_lit 53 :: nat_lit 59 :: nat_lit 60 :: nat_lit 64 :: nat_lit 65 :: nat_lit 69 :: nat_lit 70 :: nat_lit 76 :: nat_lit 77 :: nat_lit 78 :: nat_lit 91 :: nat_lit 92 :: nat_lit 94 :: nat_lit 95 :: nat_lit 96 :: nat_lit 111 :: nat_lit 112 :: nat_lit 118 :: nat_lit 119 :: nat_lit 125 :: nat_lit 126 :: nat_lit 132 :: nat_lit 133 :: nat_lit 139 :: nat_lit 140 :: nat_lit 144 :: nat_lit 145 :: nat_lit 151 :: nat_lit 152 :: nat_lit 158 :: nat_lit 159 :: nat_lit 161 :: nat_lit 162 :: nat_lit 163 :: nat_lit 164 :: nat_lit 172 :: nat_lit 173 :: nat_lit 184 :: nat_lit 185 :: nat_lit 191 :: nat_lit 192 :: nat_lit 196 :: nat_lit 197 :: nat_lit 201 :: nat_lit 202 :: nat_lit 208 :: nat_lit 209 :: nat_lit 211 :: nat_lit 212 :: nat_lit 213 :: nat_lit 214 :: nat_lit 222 :: nat_lit 223 :: nat_lit 229 :: nat_lit 230 :: nat_lit 236 :: nat_lit 237 :: nat_lit 243 :: nat_lit 244 :: nat_lit 250 :: nat_lit 251 :: nat_lit 255 :: nat_lit 256 :: nat_lit 260 :: nat_lit 261 :: nat_lit 267 :: nat_lit 268 :: nat_lit 274 :: nat_lit 275 :: nat_lit 279 :: nat_lit 280 :: []
noncomputable def kc0 (P:Params) (r:List (Option Obj)):List (Option Obj):=some (o2 P) :: some (o3 P) :: some (o18) :: some (o19) :: some (o23) :: some (o24) :: some (o28) :: some (o29) :: some (o33) :: some (o34) :: some (o38) :: some (o39) :: r
noncomputable def kc1 (P:Params) (r:List (Option Obj)):List (Option Obj):=some (o45) :: some (o46) :: some (o52) :: some (o53) :: some (o59) :: some (o60) :: some (o64) :: some (o65) :: some (o69) :: some (o70) :: some (o76) :: some (o77) :: r
noncomputable def kc2 (P:Params) (r:List (Option Obj)):List (Option Obj):=some (o78 P) :: some (o91) :: some (o92) :: some (o94 P) :: some (o95) :: some (o96) :: some (o111) :: some (o112) :: some (o118) :: some (o119) :: some (o125) :: some (o126) :: r
noncomputable def kc3 (P:Params) (r:List (Option Obj)):List (Option Obj):=some (o132) :: some (o133) :: some (o139) :: some (o140) :: some (o144) :: some (o145) :: some (o151) :: some (o152) :: some (o158) :: some (o159) :: some (o161 P) :: some (o162) :: r
noncomputable def kc4 (P:Params) (r:List (Option Obj)):List (Option Obj):=some (o163) :: some (o164) :: some (o172) :: some (o173) :: some (o184) :: some (o185) :: some (o191) :: some (o192) :: some (o196) :: some (o197) :: some (o201) :: some (o202) :: r
noncomputable def kc5 (P:Params) (r:List (Option Obj)):List (Option Obj):=some (o208) :: some (o209) :: some (o211 P) :: some (o212) :: some (o213) :: some (o214) :: some (o222) :: some (o223) :: some (o229) :: some (o230) :: some (o236) :: some (o237) :: r
noncomputable def kc6 (P:Params) (r:List (Option Obj)):List (Option Obj):=some (o243) :: some (o244) :: some (o250) :: some (o251) :: some (o255) :: some (o256) :: some (o260) :: some (o261) :: some (o267) :: some (o268) :: some (o274) :: some (o275) :: r
noncomputable def kc7 (P:Params) (r:List (Option Obj)):List (Option Obj):=some (o279) :: some (o280) :: r
noncomputable def KKv (P:Params):List (Option Obj):=kc0 P (kc1 P (kc2 P (kc3 P (kc4 P (kc5 P (kc6 P (kc7 P ([]))))))))
def hLoose:List Str:=.ofString "cells_of" :: .ofString "within" :: .ofString "cells_under" :: .ofString "places_over" :: .ofString "greatest" :: .ofString "lowest_at" :: .ofString "lowest_over" :: .ofString "cut_down" :: .ofString "had" :: .ofString "first_as_high" :: .ofString "why_left" :: .ofString "TOP" :: .ofString "BEGINNING" :: .ofString "Fault" :: .ofString "Carver" :: .ofString "do_moves" :: .ofString "Cells" :: .ofString "carved" :: .ofString "_law_take" :: .ofString "_law_cell_at" :: .ofString "_law_cutter" :: .ofString "_law_drop" :: .ofString "_law_rows" :: .ofString "_law_case" :: .ofString "_law_over" :: .ofString "_law_spoils" :: []
noncomputable def hQ:Program:={ PySem.Challenge.pw_carvebed_k42_whole_what_would_be_spoilt with main:={ PySem.Challenge.pw_carvebed_k42_whole_what_would_be_spoilt.main with body:=[top 30] } }
def hTabs:List Addr:=[nat_lit 67]
noncomputable def hL (wd:World) (os:OsState):=sight PySem.Challenge.pw_carvebed_k42_whole_what_would_be_spoilt hQ hLoose (fun s=>(KKas.map s.heap.get?,hTabs.map s.heap.get?)) 1832 wd os
noncomputable def hR (wd:World):=some (true,openGood hQ hLoose,(KKv wd.params,hTabs.map fun _=>some (tabObj #[])))
theorem hL_e:hL=hL:=Eq.refl hL
theorem hR_e:hR=hR:=Eq.refl hR
name_quick hLq for Car.hL by Car.hL_e
name_quick hRq for Car.hR by Car.hR_e
set_option maxHeartbeats 0 in
theorem hTf (wd:World) (os:OsState):PySem.W.Fast.hLq (wd.withFollow "special-get-raises" false) os=PySem.W.Fast.hRq (wd.withFollow "special-get-raises" false):=by kernel_rfl
set_option maxHeartbeats 0 in
theorem hTt (wd:World) (os:OsState):PySem.W.Fast.hLq (wd.withFollow "special-get-raises" true) os=PySem.W.Fast.hRq (wd.withFollow "special-get-raises" true):=by kernel_rfl
theorem hAll:∀ (wd:World) (os:OsState),PySem.W.Fast.hLq wd os=PySem.W.Fast.hRq wd:=(byRow2 "special-get-raises" (P:=fun wd=>∀ os,PySem.W.Fast.hLq wd os=PySem.W.Fast.hRq wd) (fun wd os=>hTf wd os) (fun wd os=>hTt wd os))
theorem hSeen (wd:World) (os:OsState):sight PySem.Challenge.pw_carvebed_k42_whole_what_would_be_spoilt hQ hLoose (fun s=>(KKas.map s.heap.get?,hTabs.map s.heap.get?)) 1832 wd os=some (true,openGood hQ hLoose,(((KK wd.params).map fun x=>some x.2),hTabs.map fun _=>some (tabObj #[]))) :=
 (congrFun (congrFun PySem.W.Fast.hLq_eq wd) os).trans ((hAll wd os).trans (congrFun PySem.W.Fast.hRq_eq wd).symm)
noncomputable def hH:Hook:=kmHook KK KKas (fun _=>rfl) hTabs
theorem hLeft:LeftO PySem.Challenge.pw_carvebed_k42_whole_what_would_be_spoilt hQ hLoose (fun s=>xlAt hQ [] s && recOk [] s) (Hook.obs hH) (Hook.val hH) 3724:=left_by rfl (Eq.refl _) rfl (fun s=>Eq.refl _) hSeen
end Car
namespace L2
open PySem PySem.Spec PyProof.Rows
section
variable {X:Cx} {K:PySem.W.Frag}
theorem call_lenK (h:X.K=K):CallR X (.builtin "len") (fun xs H Q=>∃ p ys,xs=[.ref p]∧(SqL K H p ys∨SqT K H p ys)∧Q (.int ys.length) H):=by subst h; exact call_len_seq
theorem call_listK (h:X.K=K):CallR X (.type "list") (fun xs H Q=>∃ p ys,xs=[.ref p]∧(SqL K H p ys∨SqT K H p ys)∧∀ l,H l=none→Q (.ref l) (upd H l (.lst ys))):=by subst h; exact call_list_of
end
end L2
namespace Car
open PySem L2
abbrev sCells:Stmt:=top 1
abbrev sWithin:Stmt:=top 2
abbrev sUnder:Stmt:=top 3
abbrev sGreat:Stmt:=top 5
abbrev sCut:Stmt:=top 8
abbrev sHad:Stmt:=top 9
abbrev sTk:Stmt:=top 22
abbrev sAt:Stmt:=top 23
abbrev sCutter:Stmt:=top 24
abbrev sDrop:Stmt:=top 25
abbrev sRows:Stmt:=top 26
abbrev sCase:Stmt:=top 27
abbrev sFaultI:Stmt:=inClass (top 15) 0
abbrev sCarI:Stmt:=inClass (top 16) 0
abbrev sDo:Stmt:=inClass (top 16) 1
abbrev sDoHold:Stmt:=inClass (top 16) 2
abbrev sDoMove:Stmt:=inClass (top 16) 3
abbrev sRoom:Stmt:=inClass (top 16) 4
abbrev sWayTo:Stmt:=inClass (top 16) 5
abbrev sPass:Stmt:=inClass (top 16) 6
abbrev sAlong:Stmt:=inClass (top 16) 7
abbrev sDoMoves:Stmt:=top 17
abbrev sCellsI:Stmt:=inClass (top 19) 0
abbrev sHas:Stmt:=inClass (top 19) 1
abbrev sUnd:Stmt:=inClass (top 19) 2
abbrev sRises:Stmt:=inClass (top 19) 3
abbrev sDown:Stmt:=inClass (top 19) 4
abbrev sCarved:Stmt:=top 20
abbrev sPlaces:Stmt:=top 4
abbrev sLowest:Stmt:=top 6
abbrev sLowOver:Stmt:=top 7
abbrev sHigh:Stmt:=top 10
abbrev sWhy:Stmt:=top 11
abbrev sOvr:Stmt:=top 28
abbrev sSpoils:Stmt:=top 29
abbrev sLaw:Stmt:=top 30
abbrev pr (c:Int×Int):List V:=[.int c.1,.int c.2]
def RowsAt (H:Hp):List Addr→List (List Int)→Prop
 | [],[]=>True
 | r :: rs,row :: rows=>H r=some (.lst (row.map V.int))∧RowsAt H rs rows
 | _,_=>False
theorem RowsAt.same {H H':Hp} (s:Same H H'):∀ {rs:List Addr} {rows:List (List Int)},RowsAt H rs rows→RowsAt H' rs rows
 | [],[],_=>Ad
 | _ :: _,_ :: _,h=>⟨s _ _ h.1,RowsAt.same s h.2⟩
 | [],_ :: _,h=>h.elim
 | _ :: _,[],h=>h.elim
theorem RowsAt.len {H:Hp}:∀ {rs:List Addr} {rows:List (List Int)},RowsAt H rs rows→rs.length=rows.length
 | [],[],_=>rfl
 | _ :: _,_ :: _,h=>by rw [AS,AS,RowsAt.len h.2]
 | [],_ :: _,h=>h.elim
 | _ :: _,[],h=>h.elim
theorem RowsAt.at_ {H:Hp}:∀ {rs:List Addr} {rows:List (List Int)} {i:Nat} {row:List Int},RowsAt H rs rows→rows[i]?=some row→∃ r,rs[i]?=some r∧H r=some (.lst (row.map V.int))
 | [],[],_,_,_,e=>by simp at e
 | r :: _,_ :: _,0,_,h,e=>by cases e; exact ⟨r,rfl,h.1⟩
 | _ :: _,_ :: _,i + 1,_,h,e=>by
  obtain ⟨r,a,b⟩:=RowsAt.at_ (i:=i) h.2 e
  exact ⟨r,a,b⟩
 | [],_ :: _,_,_,h,_=>h.elim
 | _ :: _,[],_,_,h,_=>h.elim
theorem MvAt.at_ {H:Hp}:∀ {ts:List Addr} {ms:List (List V)} {i:Nat} {t:Addr} {m:List V},MvAt H ts ms→ts[i]?=some t→ms[i]?=some m→H t=some (.tup m)
 | [],[],_,_,_,_,e,_=>by simp at e
 | _ :: _,_ :: _,0,_,_,⟨h,_⟩,e,e'=>by
  cases e
  cases e'
  exact h
 | _ :: _,_ :: _,i + 1,_,_,h,e,e'=>MvAt.at_ (i:=i) h.2 e e'
def BdAt (H:Hp) (b:Addr) (rows:List (List Int)):Prop:=∃ rs,H b=some (.lst (rs.map V.ref))∧RowsAt H rs rows
def FtAt (H:Hp) (f:Addr) (cs:List (Int×Int)):Prop:=∃ ts,H f=some (.lst (ts.map V.ref))∧MvAt H ts (cs.map pr)
theorem BdAt.same {H H':Hp} {b:Addr} {rows:List (List Int)} (h:BdAt H b rows) (s:Same H H'):BdAt H' b rows:=by
 obtain ⟨rs,a,c⟩:=h
 exact ⟨rs,s _ _ a,c.same s⟩
theorem FtAt.same {H H':Hp} {b:Addr} {cs:List (Int×Int)} (h:FtAt H b cs) (s:Same H H'):FtAt H' b cs:=by
 obtain ⟨rs,a,c⟩:=h
 exact ⟨rs,s _ _ a,c.same s⟩
def ins (rows:List (List Int)) (c:Int×Int):Bool:=decide (0≤c.2∧c.2 < rows.length∧0≤c.1∧c.1 < (rows.headD []).length)
def hgt (rows:List (List Int)) (c:Int×Int):Int:=((rows[c.2.toNat]?).bind fun r=>r[c.1.toNat]?).getD 0
def Rect (rows:List (List Int)):Prop:=rows≠[]∧∀ r∈rows,r.length=(rows.headD []).length
theorem ins_at {rows:List (List Int)} {c:Int×Int} (h:ins rows c=true) (R:Rect rows):∃ (i j:Nat) (row:List Int) (v:Int),c=((j:Int),(i:Int))∧rows[i]?=some row∧row[j]?=some v∧hgt rows c=v:=by
 obtain ⟨x,y⟩:=c
 obtain ⟨a1,a2,a3,a4⟩:0≤y∧y < rows.length∧0≤x∧x < (rows.headD []).length:=of_decide_eq_true h
 have hy:y.toNat < rows.length:=by omega
 have hr:=R.2 _ (Az hy)
 have hx:x.toNat < (rows[y.toNat]).length:=by omega
 have e1:=AD hy
 have e2:=AD hx
 refine ⟨y.toNat,x.toNat,rows[y.toNat],(rows[y.toNat])[x.toNat],?_,e1,e2,?_⟩
 ·rw [Int.toNat_of_nonneg a1,Int.toNat_of_nonneg a3]
 ·unfold hgt
  rw [e1,Option.bind_some,e2]
  rfl
theorem ref_get {ts:List Addr} {i:Nat} {x:V} (h:(ts.map V.ref)[i]?=some x):∃ t,ts[i]?=some t∧x=.ref t:=by
 rw [AH] at h
 cases e:ts[i]? with
 | none=>rw [e] at h; cases h
 | some p=>rw [e] at h; cases h; exact ⟨p,rfl,rfl⟩
theorem MvAt.app {H:Hp}:∀ {ts us:List Addr} {ms ns:List (List V)},MvAt H ts ms→MvAt H us ns→MvAt H (ts++us) (ms++ns)
 | [],_,[],_,_,h=>h
 | _ :: _,_,_ :: _,_,h,h2=>⟨h.1,MvAt.app h.2 h2⟩
 | [],_,_ :: _,_,h,_=>h.elim
 | _ :: _,_,[],_,h,_=>h.elim
theorem mv_new {H:Hp} {ts:List Addr} {ms:List (List V)} {t:Addr} {m:List V} (M:MvAt H ts ms) (h:H t=none):MvAt (upd H t (.tup m)) (ts++[t]) (ms++[m]):=(M.same (same_upd h _)).snoc upd_same
theorem sbn {a:Addr} {H:Hp} {xs:List V} (h:H a=some (.lst xs)):∀ m,H a≠some (.tup m):=fun m e=>by rw [h] at e; cases e
theorem lc_tupC {K:PySem.W.Frag} {a:Addr} {xs:List V} {te:TE} {F:V→List V} {H1:Hp} {A:Hp→Prop} (caps:St) (hl:SqL K H1 a xs) (hx:xs.length≤1000)
  (hte:∀ x∈xs,∀ (H2:Hp) (R:VK),Same H1 H2→(∀ t,H2 t=none→R (.ref t) (upd H2 t (.tup (F x))))→te (some x :: caps) H2 R) {D:Addr} (hD:H1 D=none)
  (q:∀ (ts:List Addr) (H':Hp),Same H1 H'→H' D=some (.lst (ts.map V.ref))→MvAt H' ts (xs.map F)→A H') :
  ∃ W:Nat→Nat→St→List V→Hp→Prop,(∃ m,W 0 m (none :: caps) [] (upd H1 D (.lst []))) ∧
   ∀ i m σ' acc H,W i m σ' acc H→((Itl K a).stop i H∧A H)∨((Itl K a).go i H∧∀ x H',(Itl K a).yld i H x H'→gName 0 x σ' H' fun σ2 H2=>tNoIf σ2 H2 fun b H3 =>
    if b=true then te σ2 H3 fun y H4=>H4 D=some (.lst acc)∧acc.length < AR∧∃ m',m' < m∧W (i + 1) m' σ2 (acc++[y]) (upd H4 D (.lst (acc++[y]))) else ∃ m',m' < m∧W (i + 1) m' σ2 acc H3):=by
 refine ⟨Wd xs.length (fun i σ acc H2=>∃ (z:Option V) (ts:List Addr),σ=z :: caps∧acc=ts.map V.ref∧ts.length=i∧MvAt H2 ts ((xs.take i).map F)∧Same H1 H2∧H2 D=some (.lst acc)),wd_0 ⟨none,[],rfl,rfl,rfl,by rw [As]; exact Ad,same_upd hD _,upd_same⟩,?_⟩
 rintro i mm σ acc H2 ⟨rfl,hi0,z,ts,rfl,rfl,tl,mv,s2,hB2⟩
 refine lc_ask (K:=K) (xs:=xs) (s2.seq hl) hi0 (fun x hx1 hi=>?_) (fun hend=>?_)
 ·show te (some x :: caps) H2 _
  refine hte x (Al hx1) H2 _ s2 fun t ht=>⟨same_upd ht _ _ _ hB2,?_,wd_next hi ?_⟩
  ·rw [AA,tl]
   exact line3 (show i≤1000 by omega) (by decide)
  ·refine ⟨_,ts++[t],rfl,by rw [AM]; rfl,by rw [AN,tl]; rfl,?_,same_in (s2.trans (same_upd ht _)) hD,upd_same⟩
   have e:(xs.take (i + 1)).map F=(xs.take i).map F++[F x]:=by
    rw [A9,hx1,AM]
    rfl
   rw [e]
   exact (mv_new mv ht).upd (sbn (same_upd ht _ _ _ hB2))
 ·rw [hend,AO (AE _)] at mv
  exact q ts H2 s2 hB2 mv
theorem lc_valC {K:PySem.W.Frag} {a:Addr} {xs:List V} {te:TE} {F:V→V} {H1:Hp} {A:Hp→Prop} (caps:St) (hl:SqL K H1 a xs) (hx:xs.length≤1000)
  (hte:∀ x∈xs,∀ (H2:Hp) (R:VK),Same H1 H2→R (F x) H2→te (some x :: caps) H2 R) {D:Addr} (hD:H1 D=none)
  (q:∀ (H':Hp),Same H1 H'→H' D=some (.lst (xs.map F))→A H') :
  ∃ W:Nat→Nat→St→List V→Hp→Prop,(∃ m,W 0 m (none :: caps) [] (upd H1 D (.lst []))) ∧
   ∀ i m σ' acc H,W i m σ' acc H→((Itl K a).stop i H∧A H)∨((Itl K a).go i H∧∀ x H',(Itl K a).yld i H x H'→gName 0 x σ' H' fun σ2 H2=>tNoIf σ2 H2 fun b H3 =>
    if b=true then te σ2 H3 fun y H4=>H4 D=some (.lst acc)∧acc.length < AR∧∃ m',m' < m∧W (i + 1) m' σ2 (acc++[y]) (upd H4 D (.lst (acc++[y]))) else ∃ m',m' < m∧W (i + 1) m' σ2 acc H3):=by
 refine ⟨Wd xs.length (fun i σ acc H2=>∃ (z:Option V),σ=z :: caps∧acc=(xs.take i).map F∧Same H1 H2∧H2 D=some (.lst acc)),wd_0 ⟨none,rfl,by rw [As]; rfl,same_upd hD _,upd_same⟩,?_⟩
 rintro i mm σ acc H2 ⟨rfl,hi0,z,rfl,rfl,s2,hB2⟩
 refine lc_ask (K:=K) (xs:=xs) (s2.seq hl) hi0 (fun x hx1 hi=>?_) (fun hend=>?_)
 ·show te (some x :: caps) H2 _
  refine hte x (Al hx1) H2 _ s2 ⟨hB2,?_,wd_next hi ?_⟩
  ·rw [AA,Ae]
   exact line3 (show min i xs.length≤1000 by omega) (by decide)
  ·refine ⟨_,rfl,?_,same_in s2 hD,upd_same⟩
   rw [A9,hx1,AM]
   rfl
 ·rw [hend,AO (AE _)] at hB2
  exact q H2 s2 hB2
seal L2.PE L2.PT L2.PW L2.PA L2.PS L2.PSs L2.PG L2.PGs L2.PI L2.PSet L2.PIp L2.OpR L2.CallR L2.TruR L2.IxR L2.SlR L2.PO L2.PK L2.PX L2.PIfs
section
variable {P:Program} {w:World} {K:PySem.W.Frag} {mg:Str→Option Value} {base:Heap} {f:Addr} {fd':FuncData}
def spWithin:Sp:=fun vs H Q _=>∃ (b c:Addr) (rows:List (List Int)) (cs:List (Int×Int)),vs=[.ref b,.ref c]∧BdAt H b rows∧rows≠[]∧FtAt H c cs∧cs.length≤1000∧∀ D H',H D=none→Same H H'→FtAt H' D (cs.filter (ins rows))→Q (.ref D) H'
theorem scWithin:FnScope ["bed","cells"] ["bed","cells"] (defScope sWithin):=⟨rfl,rfl,rfl,by decide +kernel,rfl,by decide +kernel,by decide +kernel⟩
theorem nd2 {x y:Str} (h:x≠y):[x,y].Nodup:=by simp [h]
theorem ok_within (T:LawT mg) (F:Fun K "within" "within" sWithin f fd'):FnOk P w K mg base (CX1 P w) 1 f fd' ["bed","cells"] spWithin:=by
 have nd:=scWithin.nd
 refine F.ok1 scWithin (fun vs H Q E h=>?_) (fun cdv A outer s H vs Q E hr h=>?_)
 ·obtain ⟨b,c,rows,cs,rfl,_⟩:=h
  rfl
 obtain ⟨b,c,rows,cs,rfl,hb,hne,⟨ts,hc,mvc⟩,hl,q⟩:=h
 have tl:ts.length=cs.length:=by rw [mvc.len,AA]
 refine ⟨_,(pss_one (ps_ret (pe_lc (own:=["cell"]) (capn:=["bed"]) (capI:=[0]) rfl (blkC (defScope sWithin) rfl rfl (by decide +kernel) rfl (fun y hy=>by rcases AK.mp hy with rfl | hy; exact ⟨rfl,rfl⟩; cases hy)) (pi_list (pv 1)) (fun _ _ _ _ _ _=>pg_name (i:=0) (nd2 (x:="cell") (y:="bed") (by decide +kernel)) rfl (Or.inl rfl))
  (fun _ _ _ _ _ _=>(pifs_one (PW.pt (pw_and (pt_chain op_le op_lt pe_int (pe_ix (ix_tupK (K:=K) rfl) (pv 0) pe_int (fun _ _=>rfl)) (pe_callB (call_lenK (K:=K) rfl) rfl T.len BI (pa_cons (pv 1) pa_nil))) (pw_and1 (pt_chain op_le op_lt pe_int (pe_ix (ix_tupK (K:=K) rfl) (pv 0) pe_int (fun _ _=>rfl)) (pe_callB (call_lenK (K:=K) rfl) rfl T.len BI (pa_cons (pe_ix (ix_listK (K:=K) rfl) (pv 1) pe_int (fun _ _=>rfl)) pa_nil)))))))) (fun _ _ _ _ _ _=>(pv 0))))),?_⟩
 refine ⟨_,rfl,c,rfl,⟨_,SqL.of hc⟩,fun D hD=>?_⟩
 refine ⟨Wd ts.length (fun i σ acc H2=>∃ (z:Option V) (us:List Addr),σ=[z,some (.ref b)]∧acc=us.map V.ref∧us.length≤i∧MvAt H2 us (((cs.take i).filter (ins rows)).map pr)∧Same H H2∧H2 D=some (.lst acc)),wd_0 ⟨none,[],rfl,rfl,AE _,by rw [As]; exact Ad,same_upd hD _,upd_same⟩,?_⟩
 rintro i im σ acc H2 ⟨rfl,hi0,z,us,rfl,rfl,ul,mv,s2,hD2⟩
 refine lc_ask (K:=K) (xs:=ts.map V.ref) (SqL.of (s2 _ _ hc)) (by rw [AA]; exact hi0) (fun x hx hi=>?_) (fun hend=>?_)
 ·obtain ⟨t,ht,rfl⟩:=ref_get hx
  have hi':i < ts.length:=by rw [AA] at hi; exact hi
  have hic:i < cs.length:=by omega
  have ec:=AD hic
  have gt:H2 t=some (.tup (pr cs[i])):=s2 _ _ (mvc.at_ ht (by rw [AH,ec]; rfl))
  generalize cs[i]=c1 at ec gt
  obtain ⟨rs,hb2,ra⟩:=hb.same s2
  obtain ⟨r0,rr,er⟩:∃ r0 rr,rows=r0 :: rr:=by
   cases rows with
   | nil=>exact absurd rfl hne
   | cons r0 rr=>exact ⟨r0,rr,rfl⟩
  obtain ⟨a0,ha0,hr0⟩:=ra.at_ (i:=0) (row:=r0) (by rw [er]; rfl)
  have rl:=ra.len
  have hw:(rows.headD []).length=r0.length:=by rw [er]; rfl
  have skip:∀ {m':Nat},ins rows c1=false→∃ m',m' < ts.length - i∧Wd ts.length (fun i σ acc H2=>∃ (z:Option V) (us:List Addr),σ=[z,some (.ref b)]∧acc=us.map V.ref∧us.length≤i∧MvAt H2 us (((cs.take i).filter (ins rows)).map pr)∧Same H H2∧H2 D=some (.lst acc)) (i + 1) m' [some (.ref t),some (.ref b)] (us.map V.ref) H2:=fun e=>wd_next hi' ⟨_,us,rfl,rfl,by omega,by rw [A9,ec,List.filter_append]; simp [e]; simpa using mv,s2,hD2⟩
  refine ⟨_,rfl,t,_,1,.int c1.2,rfl,rfl,SqT.of gt,rfl,_,_,rfl,rfl,_,rfl,?_⟩
  refine ite2 (fun h1=>?_) (fun h1=>?_)
  ·refine ⟨_,rfl,b,_,rfl,.inl (SqL.of hb2),_,_,rfl,rfl,_,rfl,?_⟩
   refine ite2 (fun h2=>?_) (fun h2=>?_)
   ·refine ⟨_,rfl,t,_,0,.int c1.1,rfl,rfl,SqT.of gt,rfl,_,_,rfl,rfl,_,rfl,?_⟩
    refine ite2 (fun h3=>?_) (fun h3=>?_)
    ·refine ⟨_,rfl,b,_,0,.ref a0,rfl,rfl,SqL.of hb2,?_,a0,_,rfl,.inl (SqL.of hr0),_,_,rfl,rfl,_,rfl,?_⟩
     ·cases rs with
      | nil=>cases ha0
      | cons r1 rs=>cases ha0; exact atI_nat (xs:=(a0 :: rs).map V.ref) (j:=0) rfl
     ·refine ite2 (fun h4=>?_) (fun h4=>?_)
      ·refine ⟨_,rfl,hD2,?_,wd_next hi' ⟨_,us++[t],rfl,by rw [AM]; rfl,by rw [AN]; show us.length + 1≤_; omega,?_,same_in s2 hD,upd_same⟩⟩
       ·rw [AA]
        exact line3 (show us.length≤1000 by omega) (by decide)
       ·have hin:ins rows c1=true:=by
         have a1:=of_decide_eq_true h1
         have a2:=of_decide_eq_true h2
         have a3:=of_decide_eq_true h3
         have a4:=of_decide_eq_true h4
         rw [AA] at a2 a4
         exact decide_eq_true ⟨a1,by omega,a3,by omega⟩
        rw [A9,ec,List.filter_append,AM]
        have e1:(Option.toList (some c1)).filter (ins rows)=[c1]:=by simp [hin]
        rw [e1]
        exact (mv.snoc gt).upd (sbn hD2)
      ·exact skip (m':=0) (by
        refine decide_eq_false fun z=>h4 ?_
        rw [AA]
        exact decide_eq_true (by omega))
    ·exact ⟨_,rfl,iteF (skip (m':=0) (decide_eq_false fun z=>h3 (decide_eq_true z.2.2.1)))⟩
   ·exact iteF (skip (m':=0) (by
     refine decide_eq_false fun z=>h2 ?_
     rw [AA]
     exact decide_eq_true (by omega)))
  ·exact ⟨_,rfl,iteF (iteF (skip (m':=0) (decide_eq_false fun z=>h1 (decide_eq_true z.1))))⟩
 ·rw [AA] at hend
  rw [hend,tl,AO (AE _)] at mv
  exact q D H2 hD s2 ⟨us,hD2,mv⟩
end
section
variable {P:Program} {w:World} {K:PySem.W.Frag} {mg:Str→Option Value} {base:Heap} {f:Addr} {fd':FuncData}
def shf (x y:Int) (c:Int×Int):Int×Int:=(x + c.1,y + c.2)
def und (rows:List (List Int)) (foot:List (Int×Int)) (x y:Int):List (Int×Int):=(foot.map (shf x y)).filter (ins rows)
def spUnder:Sp:=fun vs H Q _=>∃ (b ct ft:Addr) (tv:V) (x y:Int) (rows:List (List Int)) (foot:List (Int×Int)),vs=[.ref b,.ref ct,.int x,.int y]∧BdAt H b rows∧rows≠[]∧H ct=some (.tup [.ref ft,tv])∧FtAt H ft foot∧foot.length≤1000∧∀ D H',H D=none→Same H H'→FtAt H' D (und rows foot x y)→Q (.ref D) H'
theorem scUnder:FnScope ["bed","cutter","x","y"] ["bed","cutter","x","y"] (defScope sUnder):=⟨rfl,rfl,rfl,by decide +kernel,rfl,by decide +kernel,by decide +kernel⟩
theorem nd3:(["step","x","y"]:List Str).Nodup:=by decide +kernel
theorem ok_under (FW:Fn P w K mg base "within" 1 ["bed","cells"] spWithin) (F:Fun K "cells_under" "cells_under" sUnder f fd'):FnOk P w K mg base (CX1 P w) 2 f fd' ["bed","cutter","x","y"] spUnder:=by
 have nd:=scUnder.nd
 refine F.ok1 scUnder (fun vs H Q E h=>?_) (fun cdv A outer s H vs Q E hr h=>?_)
 ·obtain ⟨b,ct,ft,tv,x,y,rows,foot,rfl,_⟩:=h
  rfl
 obtain ⟨b,ct,ft,tv,x,y,rows,foot,rfl,hb,hne,hct,⟨ts,hft,mvf⟩,hl,q⟩:=h
 have hr1:Room 1 _:=hr.mono (by decide)
 have tl:ts.length=foot.length:=by rw [mvf.len,AA]
 refine ⟨_,(pss_one (ps_ret (pf_call FW hr1 rfl (pass1 (E:=E)) (pa_cons (pv 0) (pa_cons (pe_lc (own:=["step"]) (capn:=["x","y"]) (capI:=[2,3]) rfl (blkC (defScope sUnder) rfl rfl (by decide +kernel) rfl (fun y hy=>by rcases AK.mp hy with rfl | hy; exact ⟨rfl,rfl⟩; rcases AK.mp hy with rfl | hy; exact ⟨rfl,rfl⟩; cases hy)) (pi_list (pe_ix ix_tup (pv 1) pe_int (fun _ _=>rfl))) (fun _ _ _ _ _ _=>pg_name (i:=0) nd3 rfl (Or.inl rfl)) (fun _ _ _ _ _ _=>pifs_nil) (fun _ _ _ _ _ _=>(pe_tup (pa_cons (pe_op op_add (pv 1) (pe_ix (ix_tupK (K:=K) rfl) (pv 0) pe_int (fun _ _=>rfl))) (pa_cons (pe_op op_add (pv 2) (pe_ix (ix_tupK (K:=K) rfl) (pv 0) pe_int (fun _ _=>rfl))) pa_nil))))) pa_nil))))),?_⟩
 refine ⟨_,rfl,_,rfl,ct,_,0,.ref ft,rfl,rfl,SqT.of hct,rfl,ft,rfl,⟨_,SqL.of hft⟩,fun D hD=>?_⟩
 obtain ⟨g,hg⟩:∃ g:V→Int×Int,∀ t c,MvAt H [t] [pr c]→g (.ref t)=c:=by
  refine ⟨fun v=>match v with | .ref t=>(match H t with | some (.tup [.int a,.int b])=>(a,b) | _=>(0,0)) | _=>(0,0),fun t c h=>?_⟩
  have e:H t=some (.tup [.int c.1,.int c.2]):=h.1
  simp only [e]
 have gall:∀ (us:List Addr) (cs:List (Int×Int)),MvAt H us (cs.map pr)→(us.map V.ref).map (fun v=>pr (shf x y (g v)))=(cs.map (shf x y)).map pr:=by
  intro us
  induction us with
  | nil =>
   intro cs h
   cases cs with
   | nil=>rfl
   | cons c cs=>exact h.elim
  | cons u us ih =>
   intro cs h
   cases cs with
   | nil=>exact h.elim
   | cons c cs =>
    rw [Af,Af,Af,Af,ih cs h.2,hg u c ⟨h.1,Ad⟩]
 refine lc_tupC (K:=K) (xs:=ts.map V.ref) (F:=fun v=>pr (shf x y (g v))) [some (.int x),some (.int y)] (SqL.of hft) (by rw [AA]; omega) (fun v hv H2 R s2 r=>?_) hD (fun us H2 s2 hD2 mv2=>?_)
 ·obtain ⟨t,ht,rfl⟩:=Ai.mp hv
  obtain ⟨i,hi⟩:=List.getElem?_of_mem ht
  have hif:i < foot.length:=by have:=(AF.mp hi).1; omega
  have e1:=mvf.at_ hi (by rw [AH,AD hif]; rfl)
  have e2:=s2 _ _ e1
  have e3:=hg t _ ⟨e1,Ad⟩
  generalize foot[i]=c1 at e1 e2 e3
  rw [e3] at r
  exact ⟨_,rfl,_,rfl,t,_,0,.int c1.1,rfl,rfl,SqT.of e2,rfl,_,_,rfl,rfl,_,rfl,_,rfl,t,_,1,.int c1.2,rfl,rfl,SqT.of e2,rfl,_,_,rfl,rfl,le2,r⟩
 ·rw [gall ts foot mvf] at mv2
  exact ⟨b,D,rows,foot.map (shf x y),rfl,hb.same s2,hne,⟨us,hD2,mv2⟩,by rw [AA]; exact hl,fun D2 H3 n3 s3 h3=>q D2 H3 (s2.free n3) (s2.trans s3) h3⟩
def spGreat:Sp:=fun vs H Q _=>∃ (b c:Addr) (rows:List (List Int)) (cs:List (Int×Int)),vs=[.ref b,.ref c]∧BdAt H b rows∧Rect rows∧FtAt H c cs∧cs.length≤1000∧(∀ x∈cs,ins rows x=true)∧∀ H',Same H H'→Q (.int (mxD 0 (cs.map (hgt rows)))) H'
theorem scGreat:FnScope ["bed","cells"] ["bed","cells"] (defScope sGreat):=⟨rfl,rfl,rfl,by decide +kernel,rfl,by decide +kernel,by decide +kernel⟩
theorem ok_great (T:LawT mg) (F:Fun K "greatest" "greatest" sGreat f fd'):FnOk P w K mg base (CX1 P w) 1 f fd' ["bed","cells"] spGreat:=by
 have nd:=scGreat.nd
 refine F.ok1 scGreat (fun vs H Q E h=>?_) (fun cdv A outer s H vs Q E hr h=>?_)
 ·obtain ⟨b,c,rows,cs,rfl,_⟩:=h
  rfl
 obtain ⟨b,c,rows,cs,rfl,hb,rect,⟨ts,hc,mvc⟩,hl,hin,q⟩:=h
 have tl:ts.length=cs.length:=by rw [mvc.len,AA]
 refine ⟨_,(pss_one (ps_ret (pe_maxD rfl rfl T.max (pa_cons (pe_lc (own:=["cell"]) (capn:=["bed"]) (capI:=[0]) rfl (blkC (defScope sGreat) rfl rfl (by decide +kernel) rfl (fun y hy=>by rcases AK.mp hy with rfl | hy; exact ⟨rfl,rfl⟩; cases hy)) (pi_list (pv 1)) (fun _ _ _ _ _ _=>pg_name (i:=0) (nd2 (x:="cell") (y:="bed") (by decide +kernel)) rfl (Or.inl rfl)) (fun _ _ _ _ _ _=>pifs_nil)
  (fun _ _ _ _ _ _=>(pe_ix (ix_listK (K:=K) rfl) (pe_ix (ix_listK (K:=K) rfl) (pv 1) (pe_ix (ix_tupK (K:=K) rfl) (pv 0) pe_int (fun _ _=>rfl)) (fun _ _=>rfl)) (pe_ix (ix_tupK (K:=K) rfl) (pv 0) pe_int (fun _ _=>rfl)) (fun _ _=>rfl)))) pa_nil) (pk_cons pe_int pk_nil)))),?_⟩
 refine ⟨_,rfl,c,rfl,⟨_,SqL.of hc⟩,fun D hD=>?_⟩
 obtain ⟨g,hg⟩:∃ g:V→Int×Int,∀ t c,MvAt H [t] [pr c]→g (.ref t)=c:=by
  refine ⟨fun v=>match v with | .ref t=>(match H t with | some (.tup [.int a,.int b])=>(a,b) | _=>(0,0)) | _=>(0,0),fun t c h=>?_⟩
  have e:H t=some (.tup [.int c.1,.int c.2]):=h.1
  simp only [e]
 have gall:∀ (us:List Addr) (cs:List (Int×Int)),MvAt H us (cs.map pr)→(us.map V.ref).map (fun v=>V.int (hgt rows (g v)))=(cs.map (hgt rows)).map V.int:=by
  intro us
  induction us with
  | nil =>
   intro cs h
   cases cs with
   | nil=>rfl
   | cons c cs=>exact h.elim
  | cons u us ih =>
   intro cs h
   cases cs with
   | nil=>exact h.elim
   | cons c cs =>
    rw [Af,Af,Af,Af,ih cs h.2,hg u c ⟨h.1,Ad⟩]
 refine lc_valC (K:=K) (xs:=ts.map V.ref) (F:=fun v=>V.int (hgt rows (g v))) [some (.ref b)] (SqL.of hc) (by rw [AA]; omega) (fun v hv H2 R s2 r=>?_) hD (fun H2 s2 hD2=>?_)
 ·obtain ⟨t,ht,rfl⟩:=Ai.mp hv
  obtain ⟨i,hi⟩:=List.getElem?_of_mem ht
  have hif:i < cs.length:=by have:=(AF.mp hi).1; omega
  have e1:=mvc.at_ hi (by rw [AH,AD hif]; rfl)
  have e2:=s2 _ _ e1
  have e3:=hg t _ ⟨e1,Ad⟩
  have e4:=hin _ (Az hif)
  generalize cs[i]=c1 at e1 e2 e3 e4
  rw [e3] at r
  obtain ⟨y,x,row,v,ec,er,ev,eh⟩:=ins_at e4 rect
  rw [eh] at r
  subst ec
  obtain ⟨rs,hb2,ra⟩:=hb.same s2
  obtain ⟨a,ha,hra⟩:=ra.at_ er
  exact ⟨_,rfl,_,rfl,t,_,1,.int (y:Int),rfl,rfl,SqT.of e2,rfl,b,_,_,.ref a,rfl,rfl,SqL.of hb2,atI_nat (by rw [AH,ha]; rfl),_,rfl,t,_,0,.int (x:Int),rfl,rfl,SqT.of e2,rfl,a,_,_,.int v,rfl,rfl,SqL.of hra,atI_nat (by rw [AH,ev]; rfl),r⟩
 ·rw [gall ts cs mvc] at hD2
  exact ⟨D,_,0,rfl,rfl,SqL.of hD2,q H2 s2⟩
def lowAt (rows:List (List Int)) (foot:List (Int×Int)) (x y:Int):Int:=mxD 0 ((und rows foot x y).map (hgt rows))
end
def mn (a b:Int):Int:=if b < a then b else a
theorem le_mn {z a b:Int}:z≤mn a b↔z≤a∧z≤b:=by
 unfold mn
 split <;> omega
def cutC (rows:List (List Int)) (o:(Int×Int)×Int):List (List Int):=rows.set o.1.2.toNat (((rows[o.1.2.toNat]?).getD []).set o.1.1.toNat (mn (hgt rows o.1) o.2))
theorem cutC_len (rows:List (List Int)) (o:(Int×Int)×Int):(cutC rows o).length=rows.length:=List.length_set
def Alike (a b:List (List Int)):Prop:=a.length=b.length∧∀ (i:Nat) (r s:List Int),a[i]?=some r→b[i]?=some s→r.length=s.length
theorem Alike.refl (a:List (List Int)):Alike a a:=⟨rfl,fun i r s h g=>by rw [h] at g; cases g; rfl⟩
theorem Alike.trans {a b c:List (List Int)} (h:Alike a b) (g:Alike b c):Alike a c:=⟨h.1.trans g.1,fun i r t x y=>by
 have hi:i < b.length:=by rw [← h.1]; exact (AF.mp x).1
 have e:=AD hi
 exact (h.2 i _ _ x e).trans (g.2 i _ _ e y)⟩
theorem cutC_alike (rows:List (List Int)) (o:(Int×Int)×Int):Alike rows (cutC rows o):=by
 refine ⟨(cutC_len rows o).symm,fun i r s h g=>?_⟩
 unfold cutC at g
 by_cases e:o.1.2.toNat=i
 ·subst e
  rw [List.getElem?_set_self (AF.mp h).1] at g
  cases g
  rw [h,Option.getD_some,List.length_set]
 ·rw [List.getElem?_set_ne e,h] at g
  cases g
  rfl
theorem Alike.ins {a b:List (List Int)} (h:Alike a b) (c:Int×Int):ins a c=ins b c:=by
 unfold Car.ins
 have hw:(a.headD []).length=(b.headD []).length:=by
  cases a with
  | nil =>
   cases b with
   | nil=>rfl
   | cons s b=>exact absurd h.1 (by simp)
  | cons r a =>
   cases b with
   | nil=>exact absurd h.1 (by simp)
   | cons s b=>exact h.2 0 r s rfl rfl
 rw [h.1,hw]
theorem Alike.rect {a b:List (List Int)} (h:Alike a b) (R:Rect a):Rect b:=by
 have hw:(a.headD []).length=(b.headD []).length:=by
  cases a with
  | nil=>exact absurd rfl R.1
  | cons r a =>
   cases b with
   | nil=>exact absurd h.1 (by simp)
   | cons s b=>exact h.2 0 r s rfl rfl
 refine ⟨fun z=>?_,fun s hs=>?_⟩
 ·have e:=h.1
  rw [z] at e
  cases a with
  | nil=>exact R.1 rfl
  | cons r a=>cases e
 ·obtain ⟨i,hi⟩:=List.getElem?_of_mem hs
  have hia:i < a.length:=by rw [h.1]; exact (AF.mp hi).1
  have e:=AD hia
  rw [← h.2 i _ _ e hi,← hw]
  exact R.2 _ (Az hia)
theorem hgt_cut {rows:List (List Int)} (R:Rect rows) {c d:Int×Int} {h:Int} (hc:ins rows c=true) (hd:ins rows d=true):hgt (cutC rows (c,h)) d=if d=c then mn (hgt rows c) h else hgt rows d:=by
 obtain ⟨i,j,row,v,e1,e2,e3,e4⟩:=ins_at hc R
 obtain ⟨k,l,row2,v2,f1,f2,f3,f4⟩:=ins_at hd R
 subst e1
 subst f1
 have hi:=(AF.mp e2).1
 have hj:=(AF.mp e3).1
 unfold cutC
 simp only [Aq]
 rw [e2,Option.getD_some]
 by_cases ik:i=k
 ·subst ik
  rw [e2] at f2
  cases f2
  by_cases jl:j=l
  ·subst jl
   rw [if_pos rfl]
   unfold hgt
   simp only [Aq]
   rw [List.getElem?_set_self hi,Option.bind_some,List.getElem?_set_self hj]
   rfl
  ·rw [if_neg (fun z=>jl (by have:=congrArg Prod.fst z; simp at this; omega))]
   unfold hgt
   simp only [Aq]
   rw [List.getElem?_set_self hi,Option.bind_some,List.getElem?_set_ne jl,e2,Option.bind_some]
 ·rw [if_neg (fun z=>ik (by have:=congrArg Prod.snd z; simp at this; omega))]
  unfold hgt
  simp only [Aq]
  rw [List.getElem?_set_ne ik]
def cutsF (rows:List (List Int)) (os:List ((Int×Int)×Int)):List (List Int):=os.foldl cutC rows
theorem cuts_alike:∀ (os:List ((Int×Int)×Int)) (rows:List (List Int)),Alike rows (cutsF rows os)
 | [],rows=>Alike.refl rows
 | o :: os,rows=>(cutC_alike rows o).trans (cuts_alike os (cutC rows o))
theorem le_cuts {d:Int×Int}:∀ (os:List ((Int×Int)×Int)) (rows:List (List Int)),Rect rows→(∀ o∈os,ins rows o.1=true)→ins rows d=true→∀ z,z≤hgt (cutsF rows os) d↔z≤hgt rows d∧∀ o∈os,o.1=d→z≤o.2
 | [],rows,R,_,hd,z=>⟨fun h=>⟨h,fun _ m=>(Ay m).elim⟩,fun h=>h.1⟩
 | (c,h) :: os,rows,R,hi,hd,z=>by
  have A:=cutC_alike rows (c,h)
  have hc:=hi (c,h) AZ
  have ih:=le_cuts (d:=d) os (cutC rows (c,h)) (A.rect R) (fun o m=>by rw [← A.ins]; exact hi o (Aa _ m)) (by rw [← A.ins]; exact hd) z
  show z≤hgt (cutsF (cutC rows (c,h)) os) d↔_
  rw [ih,hgt_cut R hc hd]
  by_cases e:d=c
  ·subst e
   rw [if_pos rfl,le_mn]
   constructor
   ·rintro ⟨⟨a,b⟩,k⟩
    refine ⟨a,fun o m=>?_⟩
    rcases AK.mp m with rfl | m
    ·exact fun _=>b
    ·exact k o m
   ·rintro ⟨a,k⟩
    exact ⟨⟨a,k (d,h) AZ rfl⟩,fun o m=>k o (Aa _ m)⟩
  ·rw [if_neg e]
   constructor
   ·rintro ⟨a,k⟩
    refine ⟨a,fun o m=>?_⟩
    rcases AK.mp m with rfl | m
    ·exact fun z=>absurd z.symm e
    ·exact k o m
   ·rintro ⟨a,k⟩
    exact ⟨a,fun o m=>k o (Aa _ m)⟩
theorem eq_of_le {a b:Int} (h:∀ z,z≤a↔z≤b):a=b:=Int.le_antisymm ((h a).mp (BC _)) ((h b).mpr (BC _))
def cellsR (w:Nat) (y:Nat):List (Int×Int):=(List.range w).map fun (x:Nat)=>((x:Int),(y:Int))
def cellsF:Nat→List (List Int)→List (Int×Int)
 | _,[]=>[]
 | y,r :: rows=>cellsR r.length y++cellsF (y + 1) rows
abbrev Tool:=List (Int×Int)×Int
def opsP (bed wished:List (List Int)) (t:Tool) (p:Int×Int):List ((Int×Int)×Int):=(und bed t.1 p.1 p.2).map fun c=>(c,mxD 0 ((und bed t.1 p.1 p.2).map (hgt wished)))
def opsT (bed wished:List (List Int)) (t:Tool):List ((Int×Int)×Int):=(cellsF 0 bed).flatMap (opsP bed wished t)
def opsS (bed wished:List (List Int)) (ts:List Tool):List ((Int×Int)×Int):=ts.flatMap (opsT bed wished)
def hadF (bed wished:List (List Int)) (ts:List Tool):List (List Int):=cutsF bed (opsS bed wished ts)
theorem cuts_app (rows:List (List Int)) (a b:List ((Int×Int)×Int)):cutsF rows (a++b)=cutsF (cutsF rows a) b:=List.foldl_append
theorem mem_cellsF:∀ (rows:List (List Int)) (y:Nat) (c:Int×Int),c∈cellsF y rows↔∃ (i x:Nat) (r:List Int),rows[i]?=some r∧x < r.length∧c=((x:Int),((y + i:Nat):Int))
 | [],y,c=>⟨fun h=>(Ay h).elim,fun ⟨i,x,r,h,_⟩=>by cases h⟩
 | r :: rows,y,c=>by
  rw [cellsF,AW,mem_cellsF rows (y + 1) c]
  constructor
  ·rintro (h | ⟨i,x,r',h1,h2,h3⟩)
   ·obtain ⟨x,hx,rfl⟩:=Ai.mp h
    exact ⟨0,x,r,rfl,BH.mp hx,rfl⟩
   ·exact ⟨i + 1,x,r',h1,h2,by rw [h3,show y + 1 + i=y + (i + 1) by omega]⟩
  ·rintro ⟨i,x,r',h1,h2,h3⟩
   cases i with
   | zero =>
    cases h1
    exact .inl (Ai.mpr ⟨x,BH.mpr h2,h3.symm⟩)
   | succ i=>exact .inr ⟨i,x,r',h1,h2,by rw [h3,show y + 1 + i=y + (i + 1) by omega]⟩
theorem mem_cells {rows:List (List Int)} (R:Rect rows) (c:Int×Int):c∈cellsF 0 rows↔ins rows c=true:=by
 rw [mem_cellsF]
 constructor
 ·rintro ⟨i,x,r,h1,h2,rfl⟩
  have hi:=(AF.mp h1).1
  have hw:=R.2 r (Al h1)
  exact decide_eq_true ⟨show (0:Int)≤((0 + i:Nat):Int) by omega,show ((0 + i:Nat):Int) < (rows.length:Int) by omega,show (0:Int)≤(x:Int) by omega,show (x:Int) < ((rows.headD []).length:Int) by omega⟩
 ·intro h
  obtain ⟨i,j,row,v,e1,e2,e3,_⟩:=ins_at h R
  exact ⟨i,j,row,e2,(AF.mp e3).1,by rw [e1,Nat.zero_add]⟩
theorem mem_ops {bed wished:List (List Int)} (R:Rect bed) {ts:List Tool} {o:(Int×Int)×Int}:o∈opsS bed wished ts↔∃ t∈ts,∃ s∈t.1,∃ p,ins bed p=true∧o.1=shf p.1 p.2 s∧ins bed o.1=true∧o.2=mxD 0 ((und bed t.1 p.1 p.2).map (hgt wished)):=by
 unfold opsS opsT
 constructor
 ·intro h
  obtain ⟨t,ht,h⟩:=List.mem_flatMap.mp h
  obtain ⟨p,hp,h⟩:=List.mem_flatMap.mp h
  obtain ⟨c,hc,rfl⟩:=Ai.mp h
  obtain ⟨hc1,hc2⟩:=Aj.mp hc
  obtain ⟨s,hs,rfl⟩:=Ai.mp hc1
  exact ⟨t,ht,s,hs,p,(mem_cells R p).mp hp,rfl,hc2,rfl⟩
 ·rintro ⟨t,ht,s,hs,p,hp,e1,e2,e3⟩
  refine List.mem_flatMap.mpr ⟨t,ht,List.mem_flatMap.mpr ⟨p,(mem_cells R p).mpr hp,Ai.mpr ⟨o.1,Aj.mpr ⟨Ai.mpr ⟨s,hs,e1.symm⟩,e2⟩,?_⟩⟩⟩
  rw [← e3]
theorem ops_in {bed wished:List (List Int)} (R:Rect bed) {ts:List Tool}:∀ o∈opsS bed wished ts,ins bed o.1=true:=fun o h=>by
 obtain ⟨t,_,s,_,p,_,_,e,_⟩:=(mem_ops R).mp h
 exact e
theorem le_had {bed wished:List (List Int)} (R:Rect bed) {ts:List Tool} {d:Int×Int} (hd:ins bed d=true) (z:Int):z≤hgt (hadF bed wished ts) d↔z≤hgt bed d∧∀ t∈ts,∀ s∈t.1,∀ p,ins bed p=true→d=shf p.1 p.2 s→z≤mxD 0 ((und bed t.1 p.1 p.2).map (hgt wished)):=by
 unfold hadF
 rw [le_cuts _ bed R (ops_in R) hd]
 constructor
 ·rintro ⟨a,k⟩
  refine ⟨a,fun t ht s hs p hp e=>?_⟩
  exact k (d,mxD 0 ((und bed t.1 p.1 p.2).map (hgt wished))) ((mem_ops R).mpr ⟨t,ht,s,hs,p,hp,e,hd,rfl⟩) rfl
 ·rintro ⟨a,k⟩
  refine ⟨a,fun o ho e=>?_⟩
  obtain ⟨t,ht,s,hs,p,hp,e1,e2,e3⟩:=(mem_ops R).mp ho
  rw [e3]
  exact k t ht s hs p hp (e ▸ e1)
end Car
namespace L2
open PySem PySem.Spec PyProof.Rows
theorem for_enum {K:PySem.W.Frag} {a:Addr} {xs:List V} {g:TG} {tb:TS} {D:Ends} {σ:St} {H:Hp} (Pv:Nat→St→Hp→Prop) (h0:Pv 0 σ H) (hl:∀ i σ H,i≤xs.length→Pv i σ H→SqL K H a xs)
  (hs:∀ i x σ H,xs[i]?=some x→Pv i σ H→∀ T,H T=none→g (.ref T) σ (upd H T (.tup [.int i,x])) fun σ2 H2=>tb { D with nx:=Pv (i + 1),ct:=Pv (i + 1),bk:=D.nx } σ2 H2) (hd:∀ σ H,Pv xs.length σ H→D.nx σ H) :
  ∃ W:Nat→Nat→St→Hp→Prop,(∃ m,W 0 m σ H)∧∀ i m σ H,W i m σ H →
   ((Ite K a).stop i H∧D.nx σ H)∨((Ite K a).go i H∧∃ N:St→Hp→Prop,(∀ σ' H',N σ' H'→∃ m',m' < m∧W (i + 1) m' σ' H')∧∀ x H',(Ite K a).yld i H x H'→g x σ H' fun σ2 H2=>tb { D with nx:=N,ct:=N,bk:=D.nx } σ2 H2):=by
 refine ⟨fun i m σ H=>m=xs.length - i∧i≤xs.length∧Pv i σ H,⟨xs.length,by simp,Ap _,h0⟩,?_⟩
 rintro i m σ H ⟨rfl,hi,p⟩
 have q:=hl i σ H hi p
 by_cases hlt:i < xs.length
 ·refine .inr ⟨⟨xs,xs[i],q,by simp [hlt]⟩,Pv (i + 1),fun σ' H' p'=>⟨xs.length - (i + 1),by omega,rfl,hlt,p'⟩,fun x H' y=>?_⟩
  obtain ⟨T,rfl,hT,y⟩:=y
  rw [y xs xs[i] q (by simp [hlt])]
  exact hs i xs[i] σ _ (by simp [hlt]) p T hT
 ·have e:i=xs.length:=by omega
  subst e
  exact .inl ⟨⟨xs,q,rfl⟩,hd σ H p⟩
end L2
namespace Car
open PySem L2
theorem ne_new {H:Hp} {a b:Addr} {o:HO} (h:H a=some o) (g:H b=none):b≠a:=fun z=>by rw [z,h] at g; cases g
theorem cellsF_snoc (r:List Int):∀ (rows:List (List Int)) (y:Nat),cellsF y (rows++[r])=cellsF y rows++cellsR r.length (y + rows.length)
 | [],y=>by
  show cellsR r.length y++[]=[]++cellsR r.length (y + 0)
  rw [A2,List.nil_append,Nat.add_zero]
 | s :: rows,y=>by
  show cellsR s.length y++cellsF (y + 1) (rows++[r])=(cellsR s.length y++cellsF (y + 1) rows)++cellsR r.length (y + (rows.length + 1))
  rw [cellsF_snoc r rows,AY,show y + 1 + rows.length=y + (rows.length + 1) by omega]
theorem cellsF_le:∀ (rows:List (List Int)) (y:Nat),(∀ r∈rows,r.length≤40)→(cellsF y rows).length≤40 * rows.length
 | [],_,_=>AE _
 | r :: rows,y,h=>by
  have h1:=h r AZ
  have h2:=cellsF_le rows (y + 1) fun x hx=>h x (Aa _ hx)
  rw [cellsF,AN,cellsR,AA,List.length_range,AS]
  omega
def Small (rows:List (List Int)):Prop:=rows.length≤40∧∀ r∈rows,r.length≤40
section
variable {P:Program} {w:World} {K:PySem.W.Frag} {mg:Str→Option Value} {base:Heap} {f:Addr} {fd':FuncData}
def spCells:Sp:=fun vs H Q _=>∃ (b:Addr) (rows:List (List Int)),vs=[.ref b]∧BdAt H b rows∧Small rows∧∀ D H',H D=none→Same H H'→FtAt H' D (cellsF 0 rows)→Q (.ref D) H'
theorem scCells:FnScope ["bed","told","y","row"] ["bed"] (defScope sCells):=⟨rfl,rfl,rfl,by decide +kernel,rfl,by decide +kernel,by decide +kernel⟩
theorem ok_cells (T:LawT mg) (hen:mg "enumerate"=none) (F:Fun K "cells_of" "cells_of" sCells f fd'):FnOk P w K mg base (CX1 P w) 1 f fd' ["bed"] spCells:=by
 have nd:=scCells.nd
 refine F.ok1 scCells (fun vs H Q E h=>?_) (fun cdv A outer s H vs Q E hr h=>?_)
 ·obtain ⟨b,rows,rfl,_⟩:=h
  rfl
 obtain ⟨b,rows,rfl,⟨rs,hb,ra⟩,⟨sm1,sm2⟩,q⟩:=h
 have rsl:=ra.len
 refine ⟨_,(pss_cons (ps_set (i:=1) nd rfl (Or.inl rfl) (pe_lst pa_nil))
  (pss_cons (ps_for own1 rfl (pi_enum rfl hen (pa_cons (pv 0) pa_nil)) (pg_tup (n:=2) rfl (pgs_cons (pg_name (i:=2) nd rfl (Or.inr rfl)) (pgs_cons (pg_name (i:=3) nd rfl (Or.inl rfl)) pgs_nil))) (pss_one (ps_expr (pe_bm PySem.F.plainAttrs_list PySem.F.slot_list_extend PySem.F.type_list_extend mt_extend (pv 1) (pa_cons (pe_lc (own:=["x"]) (capn:=["y"]) (capI:=[2]) rfl (blkC (defScope sCells) rfl rfl (by decide +kernel) rfl (fun y hy=>by rcases AK.mp hy with rfl | hy; exact ⟨rfl,rfl⟩; cases hy)) (pi_range1 rfl T.range (pa_cons (pe_callB call_len_seq rfl T.len BI (pa_cons (pv 3) pa_nil)) pa_nil)) (fun _ _ _ _ _ _=>pg_name (i:=0) (nd2 (x:="x") (y:="y") (by decide +kernel)) rfl (Or.inl rfl)) (fun _ _ _ _ _ _=>pifs_nil) (fun _ _ _ _ _ _=>(pe_tup (pa_cons (pv 0) (pa_cons (pv 1) pa_nil))))) pa_nil)))))
  (pss_one (ps_ret (pv 1))))),?_⟩
 refine ⟨Ap _,fun tl htl=>?_⟩
 have u0:=same_upd htl (.lst [])
 refine ⟨_,rfl,b,_,rfl,SqL.of (u0 _ _ hb),?_⟩
 refine for_enum (xs:=rs.map V.ref) (fun i σ H2=>∃ (x2 x3:Option V) (us:List Addr),σ=[some (.ref b),some (.ref tl),x2,x3]∧H2 tl=some (.lst (us.map V.ref))∧MvAt H2 us ((cellsF 0 (rows.take i)).map pr)∧Same H H2) ⟨none,none,[],rfl,upd_same,by rw [As]; exact Ad,u0⟩ ?_ ?_ ?_
 ·rintro i σ H2 _ ⟨x2,x3,us,rfl,_,_,s2⟩
  exact SqL.of (s2 _ _ hb)
 ·rintro i x σ H2 hx ⟨x2,x3,us,rfl,ht2,mu2,s2⟩ t ht
  obtain ⟨r,hr1,rfl⟩:=ref_get hx
  have hi:i < rows.length:=by have:=(AF.mp hr1).1; omega
  have er:=AD hi
  obtain ⟨r',e1,e2⟩:=ra.at_ er
  have e3:r=r':=by rw [hr1] at e1; cases e1; rfl
  subst e3
  have hw:=sm2 _ (Az hi)
  generalize rows[i]=row at er e2 hw
  have u1:=same_upd ht (.tup [.int (i:Int),.ref r])
  have ht3:=u1 _ _ ht2
  have mu3:=mu2.same u1
  have s3:=s2.trans u1
  have hrow:=s3 _ _ e2
  refine ⟨t,_,rfl,SqT.of upd_same,rfl,_,_,rfl,_,_,rfl,rfl,?_⟩
  generalize upd H2 t (.tup [.int (i:Int),.ref r])=H3 at ht3 mu3 s3 hrow
  refine ⟨_,rfl,.inl ⟨rfl,_,SqL.of ht3⟩,_,rfl,r,_,rfl,.inl (SqL.of hrow),_,rfl,(by rw [AA]; omega),(by rw [AA]; omega),fun D2 hD2=>?_⟩
  rw [AA,Aq]
  refine ⟨Wd row.length (fun j σ2 acc H5=>∃ (z:Option V) (vs:List Addr),σ2=[z,some (.int (i:Int))]∧acc=vs.map V.ref∧vs.length=j∧MvAt H5 vs (((List.range j).map fun (x:Nat)=>((x:Int),(i:Int))).map pr)∧Same H3 H5∧H5 D2=some (.lst acc)),wd_0 ⟨none,[],rfl,rfl,rfl,Ad,same_upd hD2 _,upd_same⟩,?_⟩
  rintro j jm σ2 acc H5 ⟨rfl,hj0,z2,vs,rfl,rfl,vl,mv5,s5,hD5⟩
  refine rg_ask hj0 (fun hj=>?_) (fun hend=>?_)
  ·rw [Int.zero_add]
   refine ⟨_,rfl,_,rfl,le2,fun t ht=>?_⟩
   have u:=same_upd ht (.tup [V.int (j:Int),.int (i:Int)])
   refine ⟨u _ _ hD5,(by rw [AA,vl]; exact line3 (show j≤1000 by omega) (by decide)),wd_next hj ⟨_,vs++[t],rfl,by rw [AM]; rfl,by rw [AN,vl]; rfl,?_,same_in (s5.trans u) hD2,upd_same⟩⟩
   rw [List.range_succ,AM,AM]
   exact ((mv5.same u).snoc upd_same).upd (fun m e=>by rw [u _ _ hD5] at e; cases e)
  ·subst hend
   have ht5:=s5 _ _ ht3
   have ul:us.length≤1600:=by
    rw [mu3.len,AA]
    have:=cellsF_le (rows.take i) 0 fun r hr=>sm2 r (A6 hr)
    rw [Ae] at this
    omega
   refine ⟨tl,D2,_,_,rfl,rfl,ht5,hD5,(by rw [AA,AA,vl]; exact Au (show us.length + row.length≤2000 by omega) (by decide)),?_⟩
   refine ⟨_,_,us++vs,rfl,by rw [upd_same,AM],?_,same_in (s3.trans s5) htl⟩
   rw [A9,er]
   show MvAt _ _ ((cellsF 0 (rows.take i++[row])).map pr)
   rw [cellsF_snoc,Ae,Nat.min_eq_left (by omega),Nat.zero_add,AM]
   have app:∀ {ts us:List Addr} {ms ns:List (List V)},MvAt H5 ts ms→MvAt H5 us ns→MvAt H5 (ts++us) (ms++ns):=fun a b=>MvAt.app a b
   exact (app (mu3.same s5) mv5).upd (fun m e=>by rw [ht5] at e; cases e)
 ·rintro σ H2 ⟨x2,x3,us,rfl,ht2,mu2,s2⟩
  rw [AA,rsl,AO (AE _)] at mu2
  exact ⟨_,rfl,q tl H2 htl s2 ⟨us,ht2,mu2⟩⟩
def Kp (rs:List Addr) (H H':Hp):Prop:=∀ x o,x ∉ rs→H x=some o→H' x=some o
theorem Kp.trans {rs:List Addr} {H H1 H2:Hp} (h:Kp rs H H1) (g:Kp rs H1 H2):Kp rs H H2:=fun x o n e=>g x o n (h x o n e)
theorem Kp.of {rs:List Addr} {H H1:Hp} (h:Same H H1):Kp rs H H1:=fun x o _ e=>h x o e
theorem RowsAt.mem {H:Hp}:∀ {rs:List Addr} {rows:List (List Int)} {r:Addr},RowsAt H rs rows→r∈rs→∃ xs,H r=some (.lst xs)
 | _ :: _,_ :: _,r,h,m=>by
  rcases AK.mp m with rfl | m
  ·exact ⟨_,h.1⟩
  ·exact RowsAt.mem h.2 m
 | [],_,_,_,m=>by cases m
 | _ :: _,[],_,h,_=>h.elim
theorem RowsAt.out {H:Hp} {rs:List Addr} {rows:List (List Int)} {t:Addr} {m:List V} (h:RowsAt H rs rows) (e:H t=some (.tup m)):t ∉ rs:=fun z=>by
 obtain ⟨xs,h⟩:=h.mem z
 rw [h] at e
 cases e
theorem RowsAt.set {H:Hp} {a:Addr} {row:List Int}:∀ {rs:List Addr} {rows:List (List Int)} {i:Nat},rs.Nodup→RowsAt H rs rows→rs[i]?=some a→RowsAt (upd H a (.lst (row.map V.int))) rs (rows.set i row)
 | r :: rs,s :: rows,0,nd,h,e=>by
  cases e
  have n:=(List.nodup_cons.mp nd).1
  refine ⟨upd_same,?_⟩
  have keep:∀ {ts:List Addr} {us:List (List Int)},(∀ t∈ts,t≠a)→RowsAt H ts us→RowsAt (upd H a (.lst (row.map V.int))) ts us:=by
   intro ts
   induction ts with
   | nil =>
    intro us _ h
    cases us with
    | nil=>exact Ad
    | cons u us=>exact h.elim
   | cons t ts ih =>
    intro us k h
    cases us with
    | nil=>exact h.elim
    | cons u us=>exact ⟨by rw [upd_ne (k t AZ)]; exact h.1,ih (fun x hx=>k x (Aa _ hx)) h.2⟩
  exact keep (fun t ht z=>n (by rw [← z]; exact ht)) h.2
 | r :: rs,s :: rows,i + 1,nd,h,e=>by
  have n:=(List.nodup_cons.mp nd).1
  have m:a∈rs:=Al (i:=i) (by simpa using e)
  refine ⟨?_,RowsAt.set (i:=i) (List.nodup_cons.mp nd).2 h.2 (by simpa using e)⟩
  rw [upd_ne (fun z=>n (by rw [z]; exact m))]
  exact h.1
 | [],_,_,_,_,e=>by cases e
 | _ :: _,[],_,_,h,_=>h.elim
def spCut:Sp:=fun vs H Q _=>∃ (b c:Addr) (h:Int) (rs:List Addr) (rows:List (List Int)) (cs:List (Int×Int)),vs=[.ref b,.ref c,.int h]∧H b=some (.lst (rs.map V.ref))∧RowsAt H rs rows∧rs.Nodup∧b ∉ rs∧c ∉ rs∧FtAt H c cs∧Rect rows∧(∀ x∈cs,ins rows x=true) ∧
 ∀ H',Kp rs H H'→RowsAt H' rs (cutsF rows (cs.map fun x=>(x,h)))→Q .non H'
theorem scCut:FnScope ["bed","cells","height","cell","row"] ["bed","cells","height"] (defScope sCut):=⟨rfl,rfl,rfl,by decide +kernel,rfl,by decide +kernel,by decide +kernel⟩
theorem ixN_nat {n j:Nat} (h:j < n):ixN n (j:Int)=some j:=by
 unfold ixN
 rw [if_pos (by omega),if_pos (by omega)]
 simp
theorem ok_cut (T:LawT mg) (F:Fun K "cut_down" "cut_down" sCut f fd'):FnOk P w K mg base (CX1 P w) 1 f fd' ["bed","cells","height"] spCut:=by
 have nd:=scCut.nd
 refine F.ok1 scCut (fun vs H Q E h=>?_) (fun cdv A outer s H vs Q E hr h=>?_)
 ·obtain ⟨b,c,h,rs,rows,cs,rfl,_⟩:=h
  rfl
 obtain ⟨b,c,h,rs,rows,cs,rfl,hb,ra,rnd,nb,nc,⟨ts,hc,mvc⟩,rect,hin,q⟩:=h
 have tl:ts.length=cs.length:=by rw [mvc.len,AA]
 refine ⟨_,(pss_one (ps_for own1 rfl (pi_list (pv 1)) (pg_name (i:=3) nd rfl (Or.inl rfl)) (pss_cons (ps_set (i:=4) nd rfl (Or.inl rfl) (pe_ix ix_list (pv 0) (pe_ix ix_tup (pv 3) pe_int (fun _ _=>rfl)) (fun _ _=>rfl)))
  (pss_one (ps_asg (pe_callB (call_min2 rfl) rfl T.min bt_min (pa_cons (pe_ix ix_list (pv 4) (pe_ix ix_tup (pv 3) pe_int (fun _ _=>rfl)) (fun _ _=>rfl)) (pa_cons (pv 2) pa_nil))) (pg_sub (pv 4) (pe_ix ix_tup (pv 3) pe_int (fun _ _=>rfl)) set_list)))))),?_⟩
 refine ⟨_,rfl,c,rfl,⟨_,SqL.of hc⟩,?_⟩
 refine for_list (K:=K) (xs:=ts.map V.ref) (fun i σ H2=>∃ x3 x4:Option V,σ=[some (.ref b),some (.ref c),some (.int h),x3,x4]∧Kp rs H H2∧RowsAt H2 rs (cutsF rows ((cs.take i).map fun x=>(x,h)))) ⟨none,none,rfl,fun _ _ _ e=>e,by rw [As]; exact ra⟩ ?_ ?_ ?_
 ·rintro i σ H2 _ ⟨x3,x4,rfl,k2,_⟩
  exact SqL.of (k2 _ _ nc hc)
 ·rintro i v σ H2 hx ⟨x3,x4,rfl,k2,ra2⟩
  obtain ⟨t,ht,rfl⟩:=ref_get hx
  have hic:i < cs.length:=by have:=(AF.mp ht).1; omega
  have ec:=AD hic
  have gt0:=mvc.at_ ht (by rw [AH,ec]; rfl)
  have gt:H2 t=some (.tup (pr cs[i])):=k2 _ _ (ra.out gt0) gt0
  have hi1:=hin _ (Az hic)
  generalize cs[i]=c1 at ec gt hi1 gt0
  have al:=cuts_alike ((cs.take i).map fun x=>(x,h)) rows
  have hi2:ins (cutsF rows ((cs.take i).map fun x=>(x,h))) c1=true:=by rw [← al.ins]; exact hi1
  obtain ⟨iy,ix,row,v,e5,e6,e7,e8⟩:=ins_at hi2 (al.rect rect)
  have ex:c1.1=(ix:Int):=congrArg Prod.fst e5
  have ey:c1.2=(iy:Int):=congrArg Prod.snd e5
  obtain ⟨a,ha,hra⟩:=ra2.at_ e6
  have hb2:=k2 _ _ nb hb
  have ay:atI (rs.map V.ref) c1.2=some (.ref a):=by rw [ey]; exact atI_nat (by rw [AH,ha]; rfl)
  have ax:atI (row.map V.int) c1.1=some (.int v):=by rw [ex]; exact atI_nat (by rw [AH,e7]; rfl)
  have jx:ixN (row.map V.int).length c1.1=some ix:=by rw [ex]; exact ixN_nat (by rw [AA]; exact (AF.mp e7).1)
  refine ⟨_,rfl,_,rfl,t,_,1,.int c1.2,rfl,rfl,SqT.of gt,rfl,b,_,_,.ref a,rfl,rfl,SqL.of hb2,ay,?_⟩
  refine ⟨_,rfl,_,rfl,t,_,0,.int c1.1,rfl,rfl,SqT.of gt,rfl,a,_,_,.int v,rfl,rfl,SqL.of hra,ax,_,rfl,_,_,rfl,_,rfl,_,rfl,t,_,0,.int c1.1,rfl,rfl,SqT.of gt,rfl,a,_,_,ix,rfl,rfl,hra,jx,?_⟩
  have em:(row.map V.int).set ix (.int (if h < v then h else v))=(row.set ix (mn v h)).map V.int:=List.map_set.symm
  rw [em]
  refine ⟨_,_,rfl,fun x o nx e=>?_,?_⟩
  ·rw [upd_ne (fun z=>nx (by rw [z]; exact Al ha))]
   exact k2 x o nx e
  ·have e9:(cs.take (i + 1)).map (fun x=>(x,h))=(cs.take i).map (fun x=>(x,h))++[(c1,h)]:=by
    rw [A9,ec,AM]
    rfl
   rw [e9,cuts_app]
   show RowsAt _ rs (cutC (cutsF rows ((cs.take i).map fun x=>(x,h))) (c1,h))
   have e10:cutC (cutsF rows ((cs.take i).map fun x=>(x,h))) (c1,h)=(cutsF rows ((cs.take i).map fun x=>(x,h))).set iy (row.set ix (mn v h)):=by
    unfold cutC
    simp only [e8]
    rw [ex,ey,Aq,Aq,e6]
    rfl
   rw [e10]
   exact ra2.set rnd ha
 ·rintro σ H2 ⟨x3,x4,rfl,k2,ra2⟩
  rw [AA,tl,AO (AE _)] at ra2
  exact q H2 k2 ra2
end
def CtAt (H:Hp) (ct:Addr) (t:Tool):Prop:=∃ ft,H ct=some (.tup [.ref ft,.int t.2])∧FtAt H ft t.1
theorem CtAt.same {H H':Hp} {ct:Addr} {t:Tool} (h:CtAt H ct t) (s:Same H H'):CtAt H' ct t:=by
 obtain ⟨ft,a,b⟩:=h
 exact ⟨ft,s _ _ a,b.same s⟩
def CtsAt (H:Hp):List Addr→List Tool→Prop
 | [],[]=>True
 | c :: cs,t :: ts=>CtAt H c t∧CtsAt H cs ts
 | _,_=>False
theorem CtsAt.same {H H':Hp} (s:Same H H'):∀ {cs:List Addr} {ts:List Tool},CtsAt H cs ts→CtsAt H' cs ts
 | [],[],_=>Ad
 | _ :: _,_ :: _,h=>⟨h.1.same s,CtsAt.same s h.2⟩
 | [],_ :: _,h=>h.elim
 | _ :: _,[],h=>h.elim
theorem CtsAt.len {H:Hp}:∀ {cs:List Addr} {ts:List Tool},CtsAt H cs ts→cs.length=ts.length
 | [],[],_=>rfl
 | _ :: _,_ :: _,h=>by rw [AS,AS,CtsAt.len h.2]
 | [],_ :: _,h=>h.elim
 | _ :: _,[],h=>h.elim
theorem CtsAt.at_ {H:Hp}:∀ {cs:List Addr} {ts:List Tool} {i:Nat} {c:Addr},CtsAt H cs ts→cs[i]?=some c→∃ t,ts[i]?=some t∧CtAt H c t
 | [],[],_,_,_,e=>by cases e
 | _ :: _,t :: _,0,_,h,e=>by cases e; exact ⟨t,rfl,h.1⟩
 | _ :: _,_ :: _,i + 1,_,h,e=>by
  obtain ⟨t,a,b⟩:=CtsAt.at_ (i:=i) h.2 e
  exact ⟨t,a,b⟩
 | [],_ :: _,_,_,h,_=>h.elim
 | _ :: _,[],_,_,h,_=>h.elim
def ShAt (H:Hp) (sh:Addr) (ts:List Tool):Prop:=∃ cs,H sh=some (.lst (cs.map V.ref))∧CtsAt H cs ts
theorem ShAt.same {H H':Hp} {sh:Addr} {ts:List Tool} (h:ShAt H sh ts) (s:Same H H'):ShAt H' sh ts:=by
 obtain ⟨cs,a,b⟩:=h
 exact ⟨cs,s _ _ a,b.same s⟩
theorem RowsAt.keep {H H':Hp}:∀ {rs:List Addr} {rows:List (List Int)},(∀ r∈rs,∀ o,H r=some o→H' r=some o)→RowsAt H rs rows→RowsAt H' rs rows
 | [],[],_,_=>Ad
 | r :: _,_ :: _,k,h=>⟨k r AZ _ h.1,RowsAt.keep (fun x hx=>k x (Aa _ hx)) h.2⟩
 | [],_ :: _,_,h=>h.elim
 | _ :: _,[],_,h=>h.elim
theorem RowsAt.snoc {H:Hp} {r:Addr} {row:List Int} (e:H r=some (.lst (row.map V.int))):∀ {rs:List Addr} {rows:List (List Int)},RowsAt H rs rows→RowsAt H (rs++[r]) (rows++[row])
 | [],[],_=>⟨e,Ad⟩
 | _ :: _,_ :: _,h=>⟨h.1,RowsAt.snoc e h.2⟩
 | [],_ :: _,h=>h.elim
 | _ :: _,[],h=>h.elim
theorem Kp.same {rs:List Addr} {H H1 H2:Hp} (s:Same H H1) (n:∀ r∈rs,H r=none) (k:Kp rs H1 H2):Same H H2:=fun x o e=>k x o (fun z=>by rw [n x z] at e; cases e) (s x o e)
section
variable {P:Program} {w:World} {K:PySem.W.Frag} {mg:Str→Option Value} {base:Heap} {f:Addr} {fd':FuncData}
theorem lc_rows {b:Addr} {rs:List Addr} {rows:List (List Int)} {te:TE} {H1:Hp} {A:Hp→Prop} (hb:H1 b=some (.lst (rs.map V.ref))) (ra:RowsAt H1 rs rows) (sm:rows.length≤1000)
  (hte:∀ (r:Addr) (row:List Int) (H2:Hp) (R:VK),H2 r=some (.lst (row.map V.int))→(∀ p,H2 p=none→R (.ref p) (upd H2 p (.lst (row.map V.int))))→te [some (.ref r)] H2 R) {D:Addr} (hD:H1 D=none)
  (q:∀ (hs:List Addr) (H':Hp),Same H1 H'→H' D=some (.lst (hs.map V.ref))→RowsAt H' hs rows→hs.Nodup→(∀ h∈hs,H1 h=none)→D ∉ hs→A H') :
  ∃ W:Nat→Nat→St→List V→Hp→Prop,(∃ m,W 0 m [none] [] (upd H1 D (.lst []))) ∧
   ∀ i m σ' acc H,W i m σ' acc H→((Itl K b).stop i H∧A H)∨((Itl K b).go i H∧∀ x H',(Itl K b).yld i H x H'→gName 0 x σ' H' fun σ2 H2=>tNoIf σ2 H2 fun b H3 =>
    if b=true then te σ2 H3 fun y H4=>H4 D=some (.lst acc)∧acc.length < AR∧∃ m',m' < m∧W (i + 1) m' σ2 (acc++[y]) (upd H4 D (.lst (acc++[y]))) else ∃ m',m' < m∧W (i + 1) m' σ2 acc H3):=by
 have rsl:=ra.len
 refine ⟨Wd rows.length (fun i σ acc H2=>∃ (z:Option V) (hs:List Addr),σ=[z]∧acc=hs.map V.ref∧RowsAt H2 hs (rows.take i)∧(∀ h∈hs,H1 h=none)∧D ∉ hs∧hs.Nodup∧Same H1 H2∧H2 D=some (.lst acc)),wd_0 ⟨none,[],rfl,rfl,by rw [As]; exact Ad,fun _ h=>(Ay h).elim,Ay,List.nodup_nil,same_upd hD _,upd_same⟩,?_⟩
 rintro i im σ acc H2 ⟨rfl,hi0,z,hs,rfl,rfl,rh,nh,nD,ndh,s2,hD2⟩
 refine lc_ask (K:=K) (xs:=rs.map V.ref) (SqL.of (s2 _ _ hb)) (by rw [AA,rsl]; exact hi0) (fun x hx hi=>?_) (fun hend=>?_)
 ·obtain ⟨r,hr',rfl⟩:=ref_get hx
  have hi':i < rows.length:=by rw [AA,rsl] at hi; exact hi
  obtain ⟨r',e1,e2⟩:=ra.at_ (AD hi')
  have e3:r=r':=by rw [hr'] at e1; cases e1; rfl
  subst e3
  have hsl:=rh.len
  rw [Ae] at hsl
  show te [some (.ref r)] H2 _
  refine hte r rows[i] H2 _ (s2 _ _ e2) fun p hp=>?_
  have u:=same_upd hp (.lst ((rows[i]).map V.int))
  have np:=ne_new hD2 hp
  refine ⟨u _ _ hD2,(by rw [AA]; exact line3 (show hs.length≤1000 by omega) (by decide)),wd_next hi' ⟨_,hs++[p],rfl,by rw [AM]; rfl,?_,fun h hh=>?_,fun z=>?_,?_,same_in (s2.trans u) hD,upd_same⟩⟩
  ·rw [A9,AD hi']
   refine RowsAt.snoc (by rw [upd_ne np,upd_same]) (rh.keep fun r hr o e=>?_)
   rw [upd_ne (fun z=>nD (by rw [← z]; exact hr))]
   exact u _ _ e
  ·rcases AW.mp hh with hh | hh
   ·exact nh h hh
   ·rw [show h=p by simpa using hh]; exact s2.free hp
  ·rcases AW.mp z with z | z
   ·exact nD z
   ·exact np (An.mp z).symm
  ·refine List.nodup_append.mpr ⟨ndh,by simp,fun a ha b hb e=>?_⟩
   rw [show b=p by simpa using hb] at e
   obtain ⟨xs,hx⟩:=rh.mem ha
   rw [e,hp] at hx
   cases hx
 ·rw [AA,rsl] at hend
  rw [hend,AO (AE _)] at rh
  exact q hs H2 s2 hD2 rh ndh nh nD
def spHad:Sp:=fun vs H Q _=>∃ (b wh sh:Addr) (bed wished:List (List Int)) (ts:List Tool),vs=[.ref b,.ref wh,.ref sh]∧BdAt H b bed∧BdAt H wh wished∧ShAt H sh ts∧Rect bed∧Alike bed wished∧Small bed∧(∀ t∈ts,t.1.length≤100) ∧
 ∀ D hs H',H D=none→Same H H'→H' D=some (.lst (hs.map V.ref))→RowsAt H' hs (hadF bed wished ts)→hs.Nodup→(∀ h∈hs,H h=none)→D ∉ hs→Q (.ref D) H'
theorem scHad:FnScope ["bed","wished","shelf","told","cutter","place","under"] ["bed","wished","shelf"] (defScope sHad):=⟨rfl,rfl,rfl,by decide +kernel,rfl,by decide +kernel,by decide +kernel⟩
theorem opsS_snoc (bed wished:List (List Int)) (ts:List Tool) (t:Tool):opsS bed wished (ts++[t])=opsS bed wished ts++opsT bed wished t:=by
 unfold opsS
 rw [List.flatMap_append,List.flatMap_cons,List.flatMap_nil,A2]
theorem ok_had (T:LawT mg) (FC:Fn P w K mg base "cells_of" 1 ["bed"] spCells) (FU:Fn P w K mg base "cells_under" 2 ["bed","cutter","x","y"] spUnder) (FG:Fn P w K mg base "greatest" 1 ["bed","cells"] spGreat) (FD:Fn P w K mg base "cut_down" 1 ["bed","cells","height"] spCut)
  (F:Fun K "had" "had" sHad f fd'):FnOk P w K mg base (CX1 P w) 3 f fd' ["bed","wished","shelf"] spHad:=by
 have nd:=scHad.nd
 refine F.ok1 scHad (fun vs H Q E h=>?_) (fun cdv A outer s H vs Q E hr h=>?_)
 ·obtain ⟨b,wh,sh,bed,wished,ts,rfl,_⟩:=h
  rfl
 obtain ⟨b,wh,sh,bed,wished,ts,rfl,hb,hwh,hsh,rect,al,small,feet,q⟩:=h
 have hr1:Room 1 _:=hr.mono (by decide)
 have hr2:Room 2 _:=hr.mono (by decide)
 refine ⟨_,(pss_cons (ps_setC (i:=3) (own:=["row"]) (capn:=[]) (capI:=[]) nd rfl (Or.inl rfl) rfl rfl (blk0 rfl (by decide +kernel)) (pi_list (pv 0)) (fun _ _ _ _ _ _=>pg_name (i:=0) (nd1 "row") rfl (Or.inl rfl)) (fun _ _ _ _ _ _=>pifs_nil) (fun _ _ _ _ _ _=>(pe_callTy (call_listK (K:=K) rfl) rfl T.list bt_list (pa_cons (pv 0) pa_nil))))
  (pss_cons (ps_for own1 rfl (pi_list (pv 2)) (pg_name (i:=4) nd rfl (Or.inl rfl)) (pss_one (ps_for own1 rfl (pi_list (pf_call FC hr1 rfl (pass1 (E:=E)) (pa_cons (pv 0) pa_nil))) (pg_name (i:=5) nd rfl (Or.inl rfl)) (pss_cons (ps_set (i:=6) nd rfl (Or.inl rfl) (pf_call FU hr2 rfl (pass1 (E:=E)) (pa_cons (pv 0) (pa_cons (pv 4) (pa_cons (pe_ix ix_tup (pv 5) pe_int (fun _ _=>rfl)) (pa_cons (pe_ix ix_tup (pv 5) pe_int (fun _ _=>rfl)) pa_nil))))))
  (pss_one (ps_expr (pf_call FD hr1 rfl (pass1 (E:=E)) (pa_cons (pv 3) (pa_cons (pv 6) (pa_cons (pf_call FG hr1 rfl (pass1 (E:=E)) (pa_cons (pv 1) (pa_cons (pv 6) pa_nil))) pa_nil))))))))))
  (pss_one (ps_ret (pv 3))))),?_⟩
 obtain ⟨rs,hb1,ra⟩:=id hb
 refine ⟨_,rfl,b,rfl,⟨_,SqL.of hb1⟩,fun D hD=>?_⟩
 refine lc_rows (K:=K) hb1 ra (by have:=small.1; omega) (fun r row H2 R hr' k=>⟨_,rfl,r,_,rfl,.inl (SqL.of hr'),k⟩) hD (fun hs H1 s1 hD1 rh ndh nh nD=>?_)
 obtain ⟨cts,hs1,hs2⟩:=id hsh
 have ctl:=hs2.len
 have go:∀ {H2:Hp},Kp hs H1 H2→Same H H2:=fun k=>k.same s1 nh
 refine ⟨_,rfl,sh,rfl,⟨_,SqL.of (s1 _ _ hs1)⟩,?_⟩
 refine for_list (K:=K) (xs:=cts.map V.ref) (fun i σ H2=>∃ x4 x5 x6:Option V,σ=[some (.ref b),some (.ref wh),some (.ref sh),some (.ref D),x4,x5,x6]∧Kp hs H1 H2∧RowsAt H2 hs (cutsF bed (opsS bed wished (ts.take i)))) ⟨none,none,none,rfl,fun _ _ _ e=>e,by rw [As]; exact rh⟩ ?_ ?_ ?_
 ·rintro i σ H2 _ ⟨x4,x5,x6,rfl,k2,_⟩
  exact SqL.of ((go k2) _ _ hs1)
 ·rintro i v σ H2 hx ⟨x4,x5,x6,rfl,k2,ra2⟩
  obtain ⟨ct,hct,rfl⟩:=ref_get hx
  obtain ⟨t,et,hct1⟩:=hs2.at_ hct
  refine ⟨_,rfl,b,bed,rfl,hb.same (go k2),small,fun pl H3 npl s3 ⟨pts,hpl,mpl⟩=>?_⟩
  have plo:pl ∉ hs:=fun z=>by
   obtain ⟨xs,hz⟩:=ra2.mem z
   rw [hz] at npl
   cases npl
  have ptl:pts.length=(cellsF 0 bed).length:=by rw [mpl.len,AA]
  have ra3:=ra2.same s3
  have k3:Kp hs H1 H3:=k2.trans (Kp.of s3)
  refine ⟨pl,rfl,⟨_,SqL.of hpl⟩,?_⟩
  refine for_list (K:=K) (xs:=pts.map V.ref) (fun j σ H4=>∃ x5 x6:Option V,σ=[some (.ref b),some (.ref wh),some (.ref sh),some (.ref D),some (.ref ct),x5,x6]∧Kp hs H3 H4∧RowsAt H4 hs (cutsF (cutsF bed (opsS bed wished (ts.take i))) (((cellsF 0 bed).take j).flatMap (opsP bed wished t)))) ⟨x5,x6,rfl,fun _ _ _ e=>e,by rw [As]; exact ra3⟩ ?_ ?_ ?_
  ·rintro j σ H4 _ ⟨x5,x6,rfl,k4,_⟩
   exact SqL.of (k4 _ _ plo hpl)
  ·rintro j v σ H4 hx ⟨x5,x6,rfl,k4,ra4⟩
   obtain ⟨pt,hpt,rfl⟩:=ref_get hx
   have hj:j < (cellsF 0 bed).length:=by have:=(AF.mp hpt).1; omega
   have ep:=AD hj
   have gt0:=mpl.at_ hpt (by rw [AH,ep]; rfl)
   have gt:H4 pt=some (.tup (pr (cellsF 0 bed)[j])):=k4 _ _ (ra3.out gt0) gt0
   generalize (cellsF 0 bed)[j]=p at ep gt gt0
   have sH:=go (k3.trans k4)
   obtain ⟨ft,hc1,hc2⟩:=hct1.same sH
   have ft100:=feet t (Al et)
   refine ⟨_,rfl,_,rfl,_,rfl,pt,_,0,.int p.1,rfl,rfl,SqT.of gt,rfl,_,rfl,pt,_,1,.int p.2,rfl,rfl,SqT.of gt,rfl,b,ct,ft,.int t.2,p.1,p.2,bed,t.1,rfl,hb.same sH,rect.1,hc1,hc2,by omega,fun u H5 nu s5 hu=>?_⟩
   have ulen:(und bed t.1 p.1 p.2).length≤1000:=Au (List.length_filter_le _ _) (by rw [AA]; omega)
   have uin:∀ x∈und bed t.1 p.1 p.2,ins bed x=true:=fun x hx=>(Aj.mp hx).2
   refine ⟨_,rfl,_,rfl,_,rfl,_,rfl,wh,u,wished,und bed t.1 p.1 p.2,rfl,hwh.same (sH.trans s5),al.rect rect,hu,ulen,(fun x hx=>by rw [← al.ins]; exact uin x hx),fun H6 s6=>?_⟩
   have s46:=s5.trans s6
   have uo:u ∉ hs:=fun z=>by
    obtain ⟨xs,hz⟩:=ra4.mem z
    rw [hz] at nu
    cases nu
   have al2:Alike bed (cutsF (cutsF bed (opsS bed wished (ts.take i))) (((cellsF 0 bed).take j).flatMap (opsP bed wished t))):=(cuts_alike _ _).trans (cuts_alike _ _)
   have hD6:H6 D=some (.lst (hs.map V.ref)):=s46 _ _ (k4 _ _ nD (k3 _ _ nD hD1))
   refine ⟨D,u,_,hs,_,und bed t.1 p.1 p.2,rfl,hD6,ra4.same s46,ndh,nD,uo,hu.same s6,al2.rect rect,(fun x hx=>by rw [← al2.ins]; exact uin x hx),fun H7 k7 ra7=>?_⟩
   refine ⟨_,_,rfl,(k4.trans (Kp.of s46)).trans k7,?_⟩
   rw [A9,ep,List.flatMap_append,cuts_app]
   show RowsAt H7 hs (cutsF _ ([p].flatMap (opsP bed wished t)))
   rw [List.flatMap_cons,List.flatMap_nil,A2]
   exact ra7
  ·rintro σ H4 ⟨x5,x6,rfl,k4,ra4⟩
   rw [AA,ptl,AO (AE _)] at ra4
   refine ⟨_,_,_,rfl,k3.trans k4,?_⟩
   rw [A9,et]
   show RowsAt H4 hs (cutsF bed (opsS bed wished (ts.take i++[t])))
   rw [opsS_snoc,cuts_app]
   exact ra4
 ·rintro σ H2 ⟨x4,x5,x6,rfl,k2,ra2⟩
  rw [AA,ctl,AO (AE _)] at ra2
  exact ⟨_,rfl,q D hs H2 hD (go k2) (k2 _ _ nD hD1) ra2 ndh nh nD⟩
end
def Sb (a:Addr) (H H':Hp):Prop:=∀ x o,x≠a→H x=some o→H' x=some o
theorem Sb.trans {a:Addr} {H H1 H2:Hp} (h:Sb a H H1) (k:Sb a H1 H2):Sb a H H2:=fun x o n e=>k x o n (h x o n e)
theorem Sb.of {a:Addr} {H H':Hp} (s:Same H H'):Sb a H H':=fun x o _ e=>s x o e
theorem sb_upd {a:Addr} {H:Hp} {o:HO}:Sb a H (upd H a o):=fun x u n e=>by rw [upd_ne n]; exact e
theorem mv_keep {a:Addr} {H H':Hp} (s:Sb a H H') (nt:∀ m,H a≠some (.tup m)):∀ {ts:List Addr} {ms:List (List V)},MvAt H ts ms→MvAt H' ts ms
 | [],[],_=>Ad
 | t :: _,m :: _,h=>⟨s t _ (fun z=>nt m (by rw [← z]; exact h.1)) h.1,mv_keep s nt h.2⟩
 | [],_ :: _,h=>h.elim
 | _ :: _,[],h=>h.elim
section
variable {P:Program} {w:World} {K:PySem.W.Frag} {mg:Str→Option Value} {base:Heap} {f:Addr} {fd':FuncData}
def spTk:Sp:=fun vs H Q _=>∃ (a:Addr) (c b m:Int),vs=[.ref a,.int m]∧H a=some (.lst [.int c,.int b])∧0 < m∧m < 2 ^ 63∧∀ n c':Int,0≤n→n < m→Q (.int n) (upd H a (.lst [.int c',.int b]))
theorem scTk:FnScope ["state","many","found"] ["state","many"] (defScope sTk):=⟨rfl,rfl,rfl,by decide +kernel,rfl,by decide +kernel,by decide +kernel⟩
theorem ok_tk (F:Fun K "_law_take" "_law_take" sTk f fd'):FnOk P w K mg base (CX1 P w) 1 f fd' ["state","many"] spTk:=by
 have nd:=scTk.nd
 refine F.ok1 scTk (fun vs H Q E h=>?_) (fun cdv A outer s H vs Q E hr h=>?_)
 ·obtain ⟨a,c,b,m,rfl,_⟩:=h
  rfl
 obtain ⟨a,c,b,m,rfl,ha,m0,m1,q⟩:=h
 refine ⟨_,(pss_cons (ps_if (pt_cmpR op_eq (pe_ix ix_list (pv 0) pe_int (fun _ _=>rfl)) pe_int (nomark _)) (pss_cons (ps_asg (pe_op op_mod (pe_op op_mul (pe_op op_add (pe_ix ix_list (pv 0) pe_int (fun _ _=>rfl)) pe_int) pe_int) pe_int) (pg_sub (pv 0) pe_int set_list))
  (pss_cons (ps_asg (pe_op op_mod (pe_op op_mul (pe_ix ix_list (pv 0) pe_int (fun _ _=>rfl)) (pe_ix ix_list (pv 0) pe_int (fun _ _=>rfl))) pe_int) (pg_sub (pv 0) pe_int set_list))
  (pss_one (ps_ret (pe_op op_mod (pe_op op_fdiv (pe_op op_mod (pe_op op_mul (pe_ix ix_list (pv 0) pe_int (fun _ _=>rfl)) pe_int) pe_int) pe_int) (pv 1)))))) pss_nil)
  (pss_cons (ps_set (i:=2) nd rfl (Or.inl rfl) (pe_op op_mod (pe_ix ix_list (pv 0) pe_int (fun _ _=>rfl)) (pv 1)))
  (pss_cons (ps_asg (pe_op op_fdiv64 (pe_ix ix_list (pv 0) pe_int (fun _ _=>rfl)) (pv 1)) (pg_sub (pv 0) pe_int set_list))
  (pss_one (ps_ret (pv 2)))))),?_⟩
 refine ⟨_,rfl,a,_,1,.int b,rfl,rfl,SqL.of ha,rfl,rfl,_,rfl,?_⟩
 refine ite2 (fun _=>?_) (fun _=>?_)
 ·refine ⟨_,rfl,a,_,0,.int c,rfl,rfl,SqL.of ha,rfl,_,_,rfl,rfl,_,_,rfl,rfl,.inr ⟨by decide,by decide⟩,_,_,rfl,rfl,(by show (0:Int) < 2147483647; decide),?_⟩
  refine ⟨_,rfl,a,_,0,0,rfl,rfl,ha,rfl,?_⟩
  have b1:=mod_lt ((c + 1) * 48271) (show (0:Int) < 2147483647 by decide)
  refine ⟨_,rfl,a,_,0,.int ((c + 1) * 48271 % 2147483647),rfl,rfl,SqL.of upd_same,rfl,_,rfl,a,_,0,.int ((c + 1) * 48271 % 2147483647),rfl,rfl,SqL.of upd_same,rfl,_,_,rfl,rfl,.inl ⟨by omega,by omega⟩,_,_,rfl,rfl,(by show (0:Int) < 2147483629; decide),?_⟩
  refine ⟨_,rfl,a,_,0,0,rfl,rfl,upd_same,rfl,?_⟩
  rw [upd_upd]
  refine ⟨_,rfl,a,_,0,.int ((c + 1) * 48271 % 2147483647 * ((c + 1) * 48271 % 2147483647) % 2147483629),rfl,rfl,SqL.of upd_same,rfl,_,_,rfl,rfl,.inr ⟨by decide,by decide⟩,_,_,rfl,rfl,(by show (0:Int) < 2147483587; decide),_,_,rfl,rfl,⟨by decide,by decide⟩,_,rfl,_,_,rfl,rfl,m0,?_⟩
  exact q _ _ (mod_lt _ m0).1 (mod_lt _ m0).2
 ·refine ⟨_,rfl,a,_,0,.int c,rfl,rfl,SqL.of ha,rfl,_,rfl,_,_,rfl,rfl,m0,?_⟩
  refine ⟨_,rfl,a,_,0,.int c,rfl,rfl,SqL.of ha,rfl,_,rfl,_,_,rfl,rfl,⟨m0,by omega⟩,?_⟩
  refine ⟨_,rfl,a,_,0,0,rfl,rfl,ha,rfl,?_⟩
  exact ⟨_,rfl,q _ (c / m) (mod_lt _ m0).1 (mod_lt _ m0).2⟩
def prD (c:Int×Int):PyData:=.tuple [.int c.1,.int c.2]
theorem prD_can (c:Int×Int):PyData.canLay0 (prD c)=true∧PyData.depth (prD c)=1:=⟨rfl,rfl⟩
theorem prD_sh (c:Int×Int):SeqAt.shaped (prD c)=true:=by
 unfold SeqAt.shaped
 rw [(prD_can c).1,Bool.true_and]
 exact decide_eq_true (by rw [(prD_can c).2]; decide)
theorem prs_rp {H:Hp}:∀ {ts:List Addr} {cs:List (Int×Int)},MvAt H ts (cs.map pr)→Rps K H (ts.map V.ref) (cs.map prD)
 | [],[],_=>.nil
 | _ :: _,_ :: _,h=>.cons (.tup (SqT.of h.1) (.cons (.int _) (.cons (.int _) .nil))) (prs_rp h.2)
 | [],_ :: _,h=>h.elim
 | _ :: _,[],h=>h.elim
theorem MvAt.tk {H:Hp}:∀ {ts:List Addr} {ms:List (List V)} (m:Nat),MvAt H ts ms→MvAt H (ts.take m) (ms.take m)
 | _,_,0,_=>by rw [As,As]; exact Ad
 | [],[],_ + 1,h=>h
 | _ :: _,_ :: _,m + 1,h=>⟨h.1,MvAt.tk m h.2⟩
theorem MvAt.dp {H:Hp}:∀ {ts:List Addr} {ms:List (List V)} (m:Nat),MvAt H ts ms→MvAt H (ts.drop m) (ms.drop m)
 | _,_,0,h=>h
 | [],[],_ + 1,h=>h
 | _ :: _,_ :: _,m + 1,h=>MvAt.dp m h.2
theorem prD_eqv (a b:Int×Int):PyData.eqv (prD a) (prD b)=decide (a=b):=by
 rcases a with ⟨a1,a2⟩
 rcases b with ⟨b1,b2⟩
 unfold prD
 rw [PyData.eqv,PyData.eqvAll,PyData.eqvAll,PyData.eqvAll,PyData.eqv,PyData.eqv]
 by_cases h1:a1=b1 <;> by_cases h2:a2=b2 <;> simp [h1,h2]
theorem prD_any (c:Int×Int):∀ cs:List (Int×Int),((cs.map prD).any fun z=>PyData.eqv z (prD c))=decide (c∈cs)
 | []=>rfl
 | d :: r=>by
  rw [Af,List.any_cons,prD_any c r,prD_eqv]
  by_cases h1:d=c
  ·subst h1
   simp
  ·have h1':¬ c=d:=fun z=>h1 z.symm
   simp [h1,h1']
theorem prDs_can:∀ cs:List (Int×Int),PyData.canLayAll0 (cs.map prD)=true∧PyData.depthAll (cs.map prD)≤1
 | []=>⟨rfl,by decide⟩
 | c :: r=>by
  obtain ⟨a,b⟩:=prDs_can r
  rw [Af,PyData.canLayAll0,PyData.depthAll,(prD_can c).1,(prD_can c).2,a]
  exact ⟨rfl,by omega⟩
theorem prDs_sh (cs:List (Int×Int)):SeqAt.shaped (.list (cs.map prD))=true:=by
 obtain ⟨a,b⟩:=prDs_can cs
 unfold SeqAt.shaped
 rw [PyData.canLay0,PyData.depth,a,Bool.true_and]
 exact decide_eq_true (by omega)
theorem cut_take {α:Type} (g:α→V) (xs:List α) (k:Nat):cutV (xs.map g) none (some (k:Int))=(xs.take k).map g:=by
 unfold cutV
 rw [HT.sIx_none,HT.sIx_nat,List.drop_zero,← List.map_take,AA,Nat.sub_zero]
 congr 1
 rcases Nat.le_total k xs.length with h | h
 ·rw [Nat.min_eq_left h]
 ·rw [Nat.min_eq_right h,AO (AE _),AO h]
theorem cut_drop {α:Type} (g:α→V) (xs:List α) (k:Nat):cutV (xs.map g) (some (k:Int)) none=(xs.drop k).map g:=by
 unfold cutV
 rw [HT.sIx_none,HT.sIx_nat,AA,← List.map_drop,← List.map_take]
 congr 1
 rcases Nat.le_total k xs.length with h | h
 ·rw [Nat.min_eq_left h]
  exact AO (by rw [List.length_drop]; exact AE _)
 ·rw [Nat.min_eq_right h,Nat.sub_self,As,List.drop_of_length_le h]
theorem foot_nodup {cs:List (Int×Int)} (h:cs.Nodup) (h0:((0,0):Int×Int) ∉ cs) (k:Nat):(cs.take k++[(0,0)]++cs.drop k).Nodup:=by
 have p:(cs.take k++[((0,0):Int×Int)]++cs.drop k).Perm ((0,0) :: cs):=by
  have:=List.perm_middle (a:=((0,0):Int×Int)) (l₁:=cs.take k) (l₂:=cs.drop k)
  rw [A8] at this
  rw [AY]
  exact this
 exact p.nodup_iff.mpr (List.nodup_cons.mpr ⟨h0,h⟩)
def Nr (s:Int×Int):Prop:=-3≤s.1∧s.1≤3∧-3≤s.2∧s.2≤3
def spCutter:Sp:=fun vs H Q _=>∃ (st:Addr) (c b mo:Int),vs=[.ref st,.int mo]∧0 < mo∧mo≤25∧H st=some (.lst [.int c,.int b])∧∀ (ct ft:Addr) (foot:List (Int×Int)) (c':Int) (H':Hp),Sb st H H'→H ft=none→H' st=some (.lst [.int c',.int b])→ft≠st→H' ct=some (.tup [.ref ft,.int 1000])→FtAt H' ft foot→(0,0)∈foot→foot.length≤26→foot.Nodup→(∀ s∈foot,Nr s)→Q (.ref ct) H'
theorem scCutter:FnScope ["state","most","foot","k","one","at"] ["state","most"] (defScope sCutter):=⟨rfl,rfl,rfl,by decide +kernel,rfl,by decide +kernel,by decide +kernel⟩
theorem ok_cutter (T:LawT mg) (FT:Fn P w K mg base "_law_take" 1 ["state","many"] spTk) (F:Fun K "_law_cutter" "_law_cutter" sCutter f fd'):FnOk P w K mg base (CX1 P w) 2 f fd' ["state","most"] spCutter:=by
 have nd:=scCutter.nd
 refine F.ok1 scCutter (fun vs H Q E h=>?_) (fun cdv A outer s H vs Q E hr h=>?_)
 ·obtain ⟨st,c,b,mo,rfl,_⟩:=h
  rfl
 obtain ⟨st,c,b,mo,rfl,mo0,mo25,hst,q⟩:=h
 have hr1:Room 1 _:=hr.mono (by decide)
 refine ⟨_,(pss_cons (ps_set (i:=2) nd rfl (Or.inl rfl) (pe_lst pa_nil))
  (pss_cons (ps_for own1 rfl (pi_range1 rfl T.range (pa_cons (pf_call FT hr1 rfl (pass1 (E:=E)) (pa_cons (pv 0) (pa_cons (pv 1) pa_nil))) pa_nil)) (pg_name (i:=3) nd rfl (Or.inl rfl)) (pss_cons (ps_set (i:=4) nd rfl (Or.inl rfl) (pe_tup (pa_cons (pe_op op_sub (pf_call FT hr1 rfl (pass1 (E:=E)) (pa_cons (pv 0) (pa_cons pe_int pa_nil))) pe_int) (pa_cons (pe_op op_sub (pf_call FT hr1 rfl (pass1 (E:=E)) (pa_cons (pv 0) (pa_cons pe_int pa_nil))) pe_int) pa_nil))))
  (pss_one (ps_if (PW.pt (pw_and (pt_cmpR (op_notInD hr.units65) (pv 4) (pv 2) (by with_unfolding_all rfl)) (pw_and1 (pt_cmpR (op_neD hr.units) (pv 4) (pe_tup (pa_cons pe_int (pa_cons pe_int pa_nil))) (nomark _))))) (pss_one (ps_expr (pe_bm PySem.F.plainAttrs_list PySem.F.slot_list_append PySem.F.type_list_append mt_append (pv 2) (pa_cons (pv 4) pa_nil)))) pss_nil))))
  (pss_cons (ps_set (i:=5) nd rfl (Or.inl rfl) (pf_call FT hr1 rfl (pass1 (E:=E)) (pa_cons (pv 0) (pa_cons (pe_op op_add (pe_callB call_len_seq rfl T.len BI (pa_cons (pv 2) pa_nil)) pe_int) pa_nil))))
  (pss_one (ps_ret (pe_tup (pa_cons (pe_op op_cat (pe_op op_cat (pe_slice sl_list (pv 2) po_none (po_some (pv 5))) (pe_lst (pa_cons (pe_tup (pa_cons pe_int (pa_cons pe_int pa_nil))) pa_nil))) (pe_slice sl_list (pv 2) (po_some (pv 5)) po_none)) (pa_cons pe_int pa_nil)))))))),?_⟩
 refine ⟨Ap _,fun ft hft=>?_⟩
 have nft:=ne_new hst hft
 have u0:=same_upd hft (.lst [])
 have hst0:=u0 _ _ hst
 have eft:upd H ft (.lst []) ft=some (.lst []):=upd_same
 have w0:Sb st H (upd H ft (.lst [])):=Sb.of u0
 generalize upd H ft (.lst [])=H0 at hst0 eft w0
 refine ⟨_,rfl,_,rfl,st,c,b,mo,rfl,hst0,mo0,(by omega),fun z1 c3 a1 b1=>?_⟩
 have hst2:upd H0 st (.lst [V.int c3,.int b]) st=some (.lst [V.int c3,.int b]):=upd_same
 have eft2:upd H0 st (.lst [V.int c3,.int b]) ft=some (.lst []):=by rw [upd_ne nft]; exact eft
 have w2:Sb st H (upd H0 st (.lst [V.int c3,.int b])):=w0.trans sb_upd
 generalize upd H0 st (.lst [V.int c3,.int b])=H2 at hst2 eft2 w2
 obtain ⟨n,rfl,hn25⟩:∃ n:Nat,z1=(n:Int)∧n≤25:=⟨z1.toNat,by omega,by omega⟩
 clear hst0 eft w0
 refine ⟨(n:Int),rfl,(by omega),(by omega),?_⟩
 rw [Aq]
 refine for_range (n:=n) (fun i σ H3=>∃ (x2 x3:Option V) (ts:List Addr) (cs:List (Int×Int)) (c4:Int),σ=[some (.ref st),some (.int mo),some (.ref ft),x2,x3,none]∧H3 st=some (.lst [.int c4,.int b])∧H3 ft=some (.lst (ts.map V.ref))∧MvAt H3 ts (cs.map pr)∧cs.length≤i∧(cs.Nodup∧(0,0) ∉ cs∧∀ s∈cs,Nr s)∧Sb st H H3)
  ⟨none,none,[],[],c3,rfl,hst2,eft2,Ad,AE _,⟨List.nodup_nil,(fun z=>by cases z),fun s hs=>by cases hs⟩,w2⟩ ?_ ?_
 ·rintro i σ H3 hi ⟨x2,x3,ts,cs,c4,rfl,hs3,ef3,mv3,l3,nd3,w3⟩
  have tl:ts.length=cs.length:=by rw [mv3.len,AA]
  refine ⟨_,rfl,st,c4,b,7,rfl,hs3,(by decide),(by decide),fun y1 c5 ya yb=>⟨_,_,rfl,rfl,_,rfl,st,c5,b,7,rfl,upd_same,(by decide),(by decide),fun y2 c6 yc yd=>⟨_,_,rfl,rfl,le2,fun t ht=>?_⟩⟩⟩
  rw [upd_upd] at ht ⊢
  have hs4:upd H3 st (.lst [V.int c6,.int b]) st=some (.lst [V.int c6,.int b]):=upd_same
  have ef4:upd H3 st (.lst [V.int c6,.int b]) ft=some (.lst (ts.map V.ref)):=by rw [upd_ne nft]; exact ef3
  have mv4:MvAt (upd H3 st (.lst [V.int c6,.int b])) ts (cs.map pr):=mv3.upd (sbn hs3)
  have w4:Sb st H (upd H3 st (.lst [V.int c6,.int b])):=w3.trans sb_upd
  generalize upd H3 st (.lst [V.int c6,.int b])=H4 at hs4 ef4 mv4 w4 ht
  have u5:=same_upd ht (.tup [V.int (y1 - 3),.int (y2 - 3)])
  have et:upd H4 t (.tup [V.int (y1 - 3),.int (y2 - 3)]) t=some (.tup (pr (y1 - 3,y2 - 3))):=upd_same
  have hs5:=u5 _ _ hs4
  have ef5:=u5 _ _ ef4
  have mv5:=mv4.same u5
  have w5:Sb st H (upd H4 t (.tup [V.int (y1 - 3),.int (y2 - 3)])):=w4.trans (Sb.of u5)
  generalize upd H4 t (.tup [V.int (y1 - 3),.int (y2 - 3)])=H5 at et hs5 ef5 mv5 w5
  clear u5 hs4 ef4 mv4 w4 ht
  have rpt:∀ {H6:Hp},Same H5 H6→Rp K H6 (.ref t) (prD (y1 - 3,y2 - 3)):=fun s6=>.tup (SqT.of (s6 _ _ et)) (.cons (.int _) (.cons (.int _) .nil))
  have stay:∀ {H6:Hp},Same H5 H6→∃ (x2 x3:Option V) (ts:List Addr) (cs:List (Int×Int)) (c4:Int),[some (.ref st),some (.int mo),some (.ref ft),some (.int (0 + (i:Int))),some (.ref t),none]=[some (.ref st),some (.int mo),some (.ref ft),x2,x3,none]∧H6 st=some (.lst [.int c4,.int b])∧H6 ft=some (.lst (ts.map V.ref))∧MvAt H6 ts (cs.map pr)∧cs.length≤i + 1∧(cs.Nodup∧(0,0) ∉ cs∧∀ s∈cs,Nr s)∧Sb st H H6 :=
   fun s6=>⟨_,_,ts,cs,c6,rfl,s6 _ _ hs5,s6 _ _ ef5,mv5.same s6,by omega,nd3,w5.trans (Sb.of s6)⟩
  refine ⟨_,rfl,_,rfl,_,_,rpt (Same.refl _),.lst (SqL.of ef5) (prs_rp mv5),prDs_sh _,prD_sh _,_,rfl,?_⟩
  rw [show (if true=true then !((cs.map prD).any fun z=>PyData.eqv z (prD (y1 - 3,y2 - 3))) else (cs.map prD).any fun z=>PyData.eqv z (prD (y1 - 3,y2 - 3)))=!decide ((y1 - 3,y2 - 3)∈cs) by rw [prD_any]; rfl]
  refine ite2 (fun cn=>?_) (fun _=>iteF (stay (Same.refl _)))
  have hnew:(y1 - 3,y2 - 3) ∉ cs:=fun z=>by rw [decide_eq_true z] at cn; cases cn
  ·refine ⟨_,rfl,le2,fun t0 h0=>?_⟩
   have u6:=same_upd h0 (.tup [V.int 0,.int 0])
   refine ⟨prD (y1 - 3,y2 - 3),prD (0,0),rpt u6,.tup (SqT.of upd_same) (.cons (.int _) (.cons (.int _) .nil)),prD_sh _,prD_sh _,_,rfl,?_⟩
   rw [prD_eqv]
   refine ite2 (fun cz=>?_) (fun _=>stay u6)
   have hnz:¬ ((0,0):Int×Int)=(y1 - 3,y2 - 3):=fun z=>by
    rw [decide_eq_true z.symm] at cz
    cases cz
   have ef6:=u6 _ _ ef5
   refine ⟨_,rfl,.inl ⟨rfl,_,SqL.of ef6⟩,_,rfl,ft,_,.ref t,rfl,rfl,ef6,(by rw [AA]; exact Nat.lt_of_le_of_lt (show ts.length≤100 by omega) (by decide)),?_⟩
   refine ⟨_,_,ts++[t],cs++[(y1 - 3,y2 - 3)],c6,rfl,by rw [upd_ne (Ne.symm nft)]; exact u6 _ _ hs5,by rw [upd_same,AM]; rfl,?_,by rw [AN]; show cs.length + 1≤_; omega,⟨?_,?_,?_⟩,?_⟩
   ·rw [AM]
    exact ((mv5.same u6).snoc (u6 _ _ et)).upd (sbn ef6)
   ·exact (List.perm_append_singleton _ _).nodup_iff.mpr (List.nodup_cons.mpr ⟨hnew,nd3.1⟩)
   ·intro z
    rcases AW.mp z with z | z
    ·exact nd3.2.1 z
    ·exact hnz (An.mp z)
   ·intro s hs
    rcases AW.mp hs with hs | hs
    ·exact nd3.2.2 s hs
    ·rw [An.mp hs]
     exact ⟨by show -3≤y1 - 3; omega,by show y1 - 3≤3; omega,by show -3≤y2 - 3; omega,by show y2 - 3≤3; omega⟩
   ·refine fun x o nx e=>?_
    rw [upd_ne (ne_of_none e hft)]
    exact u6 _ _ (w5 x o nx e)
 ·rintro σ H3 ⟨x2,x3,ts,cs,c4,rfl,hs3,ef3,mv3,l3,nd3,w3⟩
  have tl:ts.length=cs.length:=by rw [mv3.len,AA]
  refine ⟨_,rfl,_,rfl,ft,_,rfl,.inl (SqL.of ef3),_,_,rfl,rfl,st,c4,b,_,rfl,hs3,(by rw [AA]; omega),(by rw [AA]; omega),fun z c5 zz0 zz1=>?_⟩
  obtain ⟨kz,rfl⟩:∃ kz:Nat,z=(kz:Int):=⟨z.toNat,by omega⟩
  have hs4:upd H3 st (.lst [V.int c5,.int b]) st=some (.lst [V.int c5,.int b]):=upd_same
  have ef4:upd H3 st (.lst [V.int c5,.int b]) ft=some (.lst (ts.map V.ref)):=by rw [upd_ne nft]; exact ef3
  have mv4:MvAt (upd H3 st (.lst [V.int c5,.int b])) ts (cs.map pr):=mv3.upd (sbn hs3)
  have w4:Sb st H (upd H3 st (.lst [V.int c5,.int b])):=w3.trans sb_upd
  generalize upd H3 st (.lst [V.int c5,.int b])=H4 at hs4 ef4 mv4 w4
  refine ⟨_,rfl,_,rfl,_,rfl,ft,_,rfl,SqL.of ef4,fun p1 hp1=>?_⟩
  have e1:=cut_take V.ref ts kz
  rw [e1]
  have u1:=same_upd hp1 (.lst ((ts.take kz).map V.ref))
  refine ⟨le2,fun t0 h0=>⟨le1,fun l2 hl2=>?_⟩⟩
  have u2:=same_upd h0 (.tup [V.int 0,.int 0])
  have u3:=same_upd hl2 (.lst [V.ref t0])
  have ln1:(ts.take kz).length≤25:=by rw [Ae]; omega
  refine ⟨p1,l2,_,_,rfl,rfl,u3 _ _ (u2 _ _ upd_same),upd_same,(by rw [AA]; exact Au (show _ + 1≤26 by show (ts.take kz).length + 1≤26; omega) (by decide)),fun p3 hp3=>?_⟩
  have u4:=same_upd hp3 (.lst ((ts.take kz).map V.ref++[V.ref t0]))
  have ef5:=(u1.trans (u2.trans (u3.trans u4))) _ _ ef4
  refine ⟨_,rfl,_,rfl,_,rfl,ft,_,rfl,SqL.of ef5,fun p4 hp4=>?_⟩
  have e2:=cut_drop V.ref ts kz
  rw [e2]
  have u5:=same_upd hp4 (.lst ((ts.drop kz).map V.ref))
  have ln2:(ts.drop kz).length≤25:=by rw [List.length_drop]; omega
  refine ⟨p3,p4,_,_,rfl,rfl,u5 _ _ upd_same,upd_same,(by rw [AN,AA,AA]; exact Au (show _≤51 by show (ts.take kz).length + 1 + (ts.drop kz).length≤51; omega) (by decide)),fun p5 hp5=>?_⟩
  have u6:=same_upd hp5 (.lst ((ts.take kz).map V.ref++[V.ref t0]++(ts.drop kz).map V.ref))
  have uu:=u1.trans (u2.trans (u3.trans (u4.trans (u5.trans u6))))
  have hs5:=uu _ _ hs4
  have n5:=ne_new ((u1.trans (u2.trans (u3.trans (u4.trans u5)))) _ _ hs4) hp5
  have mvf:MvAt _ (ts.take kz++[t0]++ts.drop kz) ((cs.map pr).take kz++[pr (0,0)]++(cs.map pr).drop kz):=(((mv4.tk kz).same uu).app (ts:=ts.take kz) (us:=[t0]) (ns:=[pr (0,0)]) ⟨(u3.trans (u4.trans (u5.trans u6))) _ _ upd_same,Ad⟩).app ((mv4.dp kz).same uu)
  have w5:=w4.trans (Sb.of uu)
  refine ⟨le2,fun ct hct=>?_⟩
  have u7:=same_upd hct (.tup [V.ref p5,.int 1000])
  have hp0:H p5=none:=by
   cases e:H p5 with
   | none=>rfl
   | some o=>rw [(w4.trans (Sb.of (u1.trans (u2.trans (u3.trans (u4.trans u5)))))) p5 o n5 e] at hp5; cases hp5
  refine q ct p5 (cs.take kz++[(0,0)]++cs.drop kz) c5 _ (w5.trans (Sb.of u7)) hp0 (u7 _ _ hs5) n5 upd_same ⟨ts.take kz++[t0]++ts.drop kz,u7 _ _ ?_,?_⟩ (by simp) ?_ (foot_nodup nd3.1 nd3.2.1 kz) (fun s hs=>by
   rcases AW.mp hs with hs | hs
   ·rcases AW.mp hs with hs | hs
    ·exact nd3.2.2 s (A6 hs)
    ·rw [An.mp hs]
     exact ⟨by decide,by decide,by decide,by decide⟩
   ·exact nd3.2.2 s (List.mem_of_mem_drop hs))
  ·rw [upd_same,AM,AM]
   rfl
  ·refine MvAt.same u7 ?_
   have hm1:(cs.take kz).map pr=(cs.map pr).take kz:=by rw [List.map_take]
   have hm2:(cs.drop kz).map pr=(cs.map pr).drop kz:=by rw [List.map_drop]
   rw [AM,AM,hm1,hm2]
   exact mvf
  ·rw [AN,AN,Ae,List.length_drop]
   show _ + 1 + _≤26
   omega
def spAt (K:PySem.W.Frag):Sp:=fun vs H Q _=>∃ (L:Addr) (ns:List Int) (k:Int),vs=[.ref L,.int k]∧SqL K H L (ns.map V.int)∧0≤k∧∀ z:Int,Q (.int z) H
theorem scAt:FnScope ["script","k"] ["script","k"] (defScope sAt):=⟨rfl,rfl,rfl,by decide +kernel,rfl,by decide +kernel,by decide +kernel⟩
theorem ok_at (T:LawT mg) (F:Fun K "_law_cell_at" "_law_cell_at" sAt f fd'):FnOk P w K mg base (CX1 P w) 1 f fd' ["script","k"] (spAt K):=by
 have nd:=scAt.nd
 refine F.ok1 scAt (fun vs H Q E h=>?_) (fun cdv A outer s H vs Q E hr h=>?_)
 ·obtain ⟨L,ns,k,rfl,_⟩:=h
  rfl
 obtain ⟨L,ns,k,rfl,hL,k0,q⟩:=h
 refine ⟨_,(pss_cons (ps_if (pt_cmpR op_lt (pv 1) (pe_callB call_len_seq rfl T.len BI (pa_cons (pv 0) pa_nil)) (nomark _)) (pss_one (ps_ret (pe_ix ix_list (pv 0) (pv 1) (fun _ _=>rfl)))) pss_nil)
  (pss_one (ps_ret pe_int))),?_⟩
 refine ⟨_,rfl,_,rfl,L,_,rfl,.inl hL,_,_,rfl,rfl,_,rfl,?_⟩
 refine ite2 (fun h=>?_) (fun _=>q _)
 have h':=of_decide_eq_true h
 rw [AA] at h'
 obtain ⟨j,rfl⟩:∃ j:Nat,k=(j:Int):=⟨k.toNat,by omega⟩
 have hj:j < ns.length:=by omega
 exact ⟨_,rfl,_,rfl,L,_,_,.int ns[j],rfl,rfl,hL,atI_nat (by rw [AH,AD hj]; rfl),q _⟩
def spDrop:Sp:=fun vs H Q _=>∃ (st:Addr) (c b h:Int),vs=[.ref st,.int h]∧H st=some (.lst [.int c,.int b])∧0≤h∧h≤100000∧∀ (n c':Int) (H':Hp),Sb st H H'→H' st=some (.lst [.int c',.int b])→0≤n→Q (.int n) H'
theorem scDrop:FnScope ["state","height","kind"] ["state","height"] (defScope sDrop):=⟨rfl,rfl,rfl,by decide +kernel,rfl,by decide +kernel,by decide +kernel⟩
theorem ok_drop (FT:Fn P w K mg base "_law_take" 1 ["state","many"] spTk) (F:Fun K "_law_drop" "_law_drop" sDrop f fd'):FnOk P w K mg base (CX1 P w) 2 f fd' ["state","height"] spDrop:=by
 have nd:=scDrop.nd
 refine F.ok1 scDrop (fun vs H Q E h=>?_) (fun cdv A outer s H vs Q E hr h=>?_)
 ·obtain ⟨st,c,b,h,rfl,_⟩:=h
  rfl
 obtain ⟨st,c,b,h,rfl,hst,h0,h9,q⟩:=h
 have hr1:Room 1 _:=hr.mono (by decide)
 refine ⟨_,(pss_cons (ps_set (i:=2) nd rfl (Or.inl rfl) (pf_call FT hr1 rfl (pass1 (E:=E)) (pa_cons (pv 0) (pa_cons pe_int pa_nil))))
  (pss_one (ps_ret (pe_ix ix_list (pe_lst (pa_cons pe_int (pa_cons (pf_call FT hr1 rfl (pass1 (E:=E)) (pa_cons (pv 0) (pa_cons pe_int pa_nil))) (pa_cons (pf_call FT hr1 rfl (pass1 (E:=E)) (pa_cons (pv 0) (pa_cons pe_int pa_nil))) (pa_cons (pf_call FT hr1 rfl (pass1 (E:=E)) (pa_cons (pv 0) (pa_cons (pe_op op_add (pv 1) pe_int) pa_nil))) pa_nil))))) (pv 2) (fun _ _=>rfl))))),?_⟩
 refine ⟨_,rfl,st,c,b,4,rfl,hst,(by decide),(by decide),fun kd c1 k0 k4=>?_⟩
 refine ⟨_,rfl,st,c1,b,3,rfl,upd_same,(by decide),(by decide),fun z1 c2 a1 b1=>?_⟩
 refine ⟨_,rfl,st,c2,b,200,rfl,upd_same,(by decide),(by decide),fun z2 c3 a2 b2=>?_⟩
 refine ⟨_,rfl,_,rfl,_,_,rfl,rfl,st,c3,b,_,rfl,upd_same,(by omega),(by omega),fun z3 c4 a3 b3=>⟨(by show 4≤AR; decide),fun l hl=>?_⟩⟩
 rw [upd_upd,upd_upd,upd_upd] at hl ⊢
 have u:=same_upd hl (.lst [V.int 0,.int z1,.int z2,.int z3])
 obtain ⟨n,hn,n0⟩:∃ n:Int,atI [V.int 0,V.int z1,V.int z2,V.int z3] kd=some (.int n)∧0≤n:=by
  have:kd=0∨kd=1∨kd=2∨kd=3:=by omega
  rcases this with rfl | rfl | rfl | rfl
  ·exact ⟨0,rfl,by decide⟩
  ·exact ⟨z1,rfl,a1⟩
  ·exact ⟨z2,rfl,a2⟩
  ·exact ⟨z3,rfl,a3⟩
 exact ⟨_,rfl,l,_,kd,.int n,rfl,rfl,SqL.of upd_same,hn,q n c4 _ (sb_upd.trans (Sb.of u)) (u _ _ upd_same) n0⟩
end
structure RwIn (H0 H:Hp) (b w:Addr) (rs ws:List Addr) (bed wished:List (List Int)) (wd n m:Nat):Prop where
 sm:Same H0 H
 nb:H0 b=none
 nw:H0 w=none
 bw:b≠w
 hb:H b=some (.lst (rs.map V.ref))
 hw:H w=some (.lst (ws.map V.ref))
 rb:RowsAt H rs bed
 rq:RowsAt H ws wished
 lb:bed.length=n
 lw:wished.length=m
 wb:∀ r∈bed,r.length=wd
 ww:∀ r∈wished,r.length=wd
 nn:∀ r∈wished,∀ v∈r,0≤v
 ob:∀ r∈rs,r≠b∧r≠w
 ow:∀ r∈ws,r≠b∧r≠w
section
variable {H0 H H':Hp} {b w:Addr} {rs ws:List Addr} {bed wished:List (List Int)} {wd n m:Nat}
theorem RwIn.same (M:RwIn H0 H b w rs ws bed wished wd n m) (s:Same H H'):RwIn H0 H' b w rs ws bed wished wd n m :=
 ⟨M.sm.trans s,M.nb,M.nw,M.bw,s _ _ M.hb,s _ _ M.hw,M.rb.same s,M.rq.same s,M.lb,M.lw,M.wb,M.ww,M.nn,M.ob,M.ow⟩
theorem RwIn.addB (M:RwIn H0 H b w rs ws bed wished wd n m) {r:Addr} {row:List Int} (hr:H r=some (.lst (row.map V.int))) (nr:r≠b∧r≠w) (hl:row.length=wd):RwIn H0 (upd H b (.lst (rs.map V.ref++[.ref r]))) b w (rs++[r]) ws (bed++[row]) wished wd (n + 1) m:=by
 refine ⟨same_in M.sm M.nb,M.nb,M.nw,M.bw,by rw [upd_same,AM]; rfl,by rw [upd_ne (Ne.symm M.bw)]; exact M.hw,RowsAt.snoc (by rw [upd_ne nr.1]; exact hr) (M.rb.keep fun x hx o e=>by rw [upd_ne (M.ob x hx).1]; exact e),M.rq.keep fun x hx o e=>by rw [upd_ne (M.ow x hx).1]; exact e,by rw [AN,M.lb]; rfl,M.lw,fun x hx=>?_,M.ww,M.nn,fun x hx=>?_,M.ow⟩
 ·rcases AW.mp hx with hx | hx
  ·exact M.wb x hx
  ·rw [show x=row by simpa using hx]; exact hl
 ·rcases AW.mp hx with hx | hx
  ·exact M.ob x hx
  ·rw [show x=r by simpa using hx]; exact nr
theorem RwIn.wish (M:RwIn H0 H b w rs ws bed wished wd n m) {r:Addr} {row:List Int} (hr:H r=some (.lst (row.map V.int))) (nr:r≠b∧r≠w) (hl:row.length=wd) (h0:∀ v∈row,0≤v):RwIn H0 (upd H w (.lst (ws.map V.ref++[.ref r]))) b w rs (ws++[r]) bed (wished++[row]) wd n (m + 1):=by
 refine ⟨same_in M.sm M.nw,M.nb,M.nw,M.bw,by rw [upd_ne M.bw]; exact M.hb,by rw [upd_same,AM]; rfl,M.rb.keep fun x hx o e=>by rw [upd_ne (M.ob x hx).2]; exact e,RowsAt.snoc (by rw [upd_ne nr.2]; exact hr) (M.rq.keep fun x hx o e=>by rw [upd_ne (M.ow x hx).2]; exact e),M.lb,by rw [AN,M.lw]; rfl,M.wb,fun x hx=>?_,fun x hx=>?_,M.ob,fun x hx=>?_⟩
 ·rcases AW.mp hx with hx | hx
  ·exact M.ww x hx
  ·rw [show x=row by simpa using hx]; exact hl
 ·rcases AW.mp hx with hx | hx
  ·exact M.nn x hx
  ·rw [show x=row by simpa using hx]; exact h0
 ·rcases AW.mp hx with hx | hx
  ·exact M.ow x hx
  ·rw [show x=r by simpa using hx]; exact nr
end
def LeL (us vs:List Int):Prop:=∀ (j:Nat) (u v:Int),us[j]?=some u→vs[j]?=some v→u≤v
def LeR (a b:List (List Int)):Prop:=∀ (i:Nat) (r s:List Int),a[i]?=some r→b[i]?=some s→LeL r s
theorem snoc_get {α:Type} {us:List α} {x:α} {j:Nat} {u:α} (h:(us++[x])[j]?=some u):(j < us.length∧us[j]?=some u)∨(j=us.length∧u=x):=by
 by_cases e:j < us.length
 ·rw [List.getElem?_append_left e] at h
  exact .inl ⟨e,h⟩
 ·rw [List.getElem?_append_right (by omega)] at h
  have hj:=(AF.mp h).1
  have e2:j - us.length=0:=by simp at hj; omega
  rw [e2] at h
  cases h
  exact .inr ⟨by omega,rfl⟩
theorem LeL.snoc {us vs:List Int} {x v:Int} (h:LeL us vs) (e:vs[us.length]?=some v) (l:x≤v):LeL (us++[x]) vs:=fun j u w hu hw=>by
 rcases snoc_get hu with ⟨_,h1⟩ | ⟨rfl,rfl⟩
 ·exact h j u w h1 hw
 ·rw [e] at hw
  cases hw
  exact l
theorem LeR.snoc {a b:List (List Int)} {r s:List Int} (h:LeR a b) (e:a.length=b.length) (l:LeL r s):LeR (a++[r]) (b++[s]):=fun i x y hx hy=>by
 rcases snoc_get hx with ⟨i1,h1⟩ | ⟨rfl,rfl⟩
 ·rcases snoc_get hy with ⟨_,h2⟩ | ⟨i2,_⟩
  ·exact h i x y h1 h2
  ·omega
 ·rcases snoc_get hy with ⟨i2,_⟩ | ⟨_,rfl⟩
  ·omega
  ·exact l
section
variable {P:Program} {w:World} {K:PySem.W.Frag} {mg:Str→Option Value} {base:Heap} {f:Addr} {fd':FuncData}
def spRows (K:PySem.W.Frag):Sp:=fun vs H Q _=>∃ (L:Addr) (ns:List Int) (mx:Int) (wd dp:Nat),vs=[.ref L,.int mx,.int (wd:Int),.int (dp:Int)]∧SqL K H L (ns.map V.int)∧0≤mx∧mx≤1∧1≤wd∧wd≤40∧1≤dp∧dp≤40 ∧
 ∀ (t b w:Addr) (rs ws:List Addr) (bed wished:List (List Int)) (H':Hp),Same H H'→H' t=some (.tup [.ref b,.ref w])→H b=none→H w=none→(∀ r∈rs,H r=none)→(∀ r∈ws,H r=none)→H' b=some (.lst (rs.map V.ref))→RowsAt H' rs bed→H' w=some (.lst (ws.map V.ref))→RowsAt H' ws wished→Rect bed→Alike bed wished→Small bed→LeR wished bed→(∀ r∈bed,∀ v∈r,v≤1000)→ins bed (0,0)=true→(∀ r∈wished,∀ v∈r,0≤v)→Q (.ref t) H'
theorem scRows:FnScope ["script","mixed","wide","deep","bed","wished","y","state","most","base","row"] ["script","mixed","wide","deep"] (defScope sRows):=⟨rfl,rfl,rfl,by decide +kernel,rfl,by decide +kernel,by decide +kernel⟩
theorem ndx:(["x","state","most","base"]:List Str).Nodup:=by decide +kernel
theorem alike_of {a b:List (List Int)} {wd n:Nat} (h1:a.length=n) (h2:b.length=n) (w1:∀ r∈a,r.length=wd) (w2:∀ r∈b,r.length=wd):Alike a b :=
 ⟨h1.trans h2.symm,fun i r s x y=>(w1 r (Al x)).trans (w2 s (Al y)).symm⟩
theorem rect_of {a:List (List Int)} {wd:Nat} (h1:a≠[]) (w1:∀ r∈a,r.length=wd):Rect a:=by
 refine ⟨h1,fun r hr=>?_⟩
 cases a with
 | nil=>exact absurd rfl h1
 | cons r0 a=>rw [w1 r hr]; exact (w1 r0 AZ).symm
theorem ok_rows (T:LawT mg) (FT:Fn P w K mg base "_law_take" 1 ["state","many"] spTk) (FA:Fn P w K mg base "_law_cell_at" 1 ["script","k"] (spAt K)) (FD:Fn P w K mg base "_law_drop" 2 ["state","height"] spDrop) (F:Fun K "_law_rows" "_law_rows" sRows f fd') :
  FnOk P w K mg base (CX1 P w) 3 f fd' ["script","mixed","wide","deep"] (spRows K):=by
 have nd:=scRows.nd
 refine F.ok1 scRows (fun vs H Q E h=>?_) (fun cdv A outer s H vs Q E hr h=>?_)
 ·obtain ⟨L,ns,mx,wd,dp,rfl,_⟩:=h
  rfl
 obtain ⟨L,ns,mx,wd,dp,rfl,hL,mx0,mx1,wd1,wd40,dp1,dp40,q⟩:=h
 have hr1:Room 1 _:=hr.mono (by decide)
 have hr2:Room 2 _:=hr.mono (by decide)
 refine ⟨_,(pss_cons (ps_set (i:=4) nd rfl (Or.inl rfl) (pe_lst pa_nil))
  (pss_cons (ps_set (i:=5) nd rfl (Or.inl rfl) (pe_lst pa_nil))
  (pss_cons (ps_for own1 rfl (pi_range1 rfl T.range (pa_cons (pv 3) pa_nil)) (pg_name (i:=6) nd rfl (Or.inl rfl)) (pss_cons (ps_set (i:=7) nd rfl (Or.inr rfl) (pe_lst (pa_cons (pe_op op_add (pf_call FA hr1 rfl (pass1 (E:=E)) (pa_cons (pv 0) (pa_cons (pe_op op_add pe_int (pv 6)) pa_nil))) (pe_op op_mul (pv 1) (pv 6))) (pa_cons (pv 1) pa_nil))))
  (pss_cons (ps_set (i:=8) nd rfl (Or.inr rfl) (pe_ix ix_list (pe_lst (pa_cons pe_int (pa_cons pe_int (pa_cons pe_int pa_nil)))) (pf_call FT hr1 rfl (pass1 (E:=E)) (pa_cons (pv 7) (pa_cons pe_int pa_nil))) (fun _ _=>rfl)))
  (pss_cons (ps_set (i:=9) nd rfl (Or.inr rfl) (pf_call FT hr1 rfl (pass1 (E:=E)) (pa_cons (pv 7) (pa_cons (pe_op op_sub pe_int (pv 8)) pa_nil))))
  (pss_cons (ps_setC (i:=10) (own:=["x"]) (capn:=["state","most","base"]) (capI:=[7,8,9]) nd rfl (Or.inl rfl) rfl rfl (blkC (defScope sRows) rfl rfl (by decide +kernel) rfl (fun y hy=>by rcases AK.mp hy with rfl | hy; exact ⟨rfl,rfl⟩; rcases AK.mp hy with rfl | hy; exact ⟨rfl,rfl⟩; rcases AK.mp hy with rfl | hy; exact ⟨rfl,rfl⟩; cases hy)) (pi_range1 rfl T.range (pa_cons (pv 2) pa_nil)) (fun _ _ _ _ _ _=>pg_name (i:=0) ndx rfl (Or.inl rfl)) (fun _ _ _ _ _ _=>pifs_nil) (fun _ _ _ _ _ _=>(pe_op op_add (pv 3) (pf_call FT hr1 rfl passN (pa_cons (pv 1) (pa_cons (pv 2) pa_nil))))))
  (pss_cons (ps_expr (pe_bm PySem.F.plainAttrs_list PySem.F.slot_list_append PySem.F.type_list_append mt_append (pv 4) (pa_cons (pv 10) pa_nil)))
  (pss_one (ps_expr (pe_bm PySem.F.plainAttrs_list PySem.F.slot_list_append PySem.F.type_list_append mt_append (pv 5) (pa_cons (pe_lc (own:=["height"]) (capn:=["state"]) (capI:=[7]) rfl (blkC (defScope sRows) rfl rfl (by decide +kernel) rfl (fun y hy=>by rcases AK.mp hy with rfl | hy; exact ⟨rfl,rfl⟩; cases hy)) (pi_list (pv 10)) (fun _ _ _ _ _ _=>pg_name (i:=0) (nd2 (x:="height") (y:="state") (by decide +kernel)) rfl (Or.inl rfl)) (fun _ _ _ _ _ _=>pifs_nil) (fun _ _ _ _ _ _=>(pe_callB (call_max2 rfl) rfl T.max bt_max (pa_cons pe_int (pa_cons (pe_op op_sub (pv 0) (pf_call FD hr2 rfl passN (pa_cons (pv 1) (pa_cons (pv 0) pa_nil)))) pa_nil))))) pa_nil))))))))))
  (pss_one (ps_ret (pe_tup (pa_cons (pv 4) (pa_cons (pv 5) pa_nil)))))))),?_⟩
 refine ⟨Ap _,fun b hb=>⟨Ap _,fun wh hwh=>?_⟩⟩
 have u1:=same_upd hb (.lst [])
 have u2:=same_upd hwh (.lst [])
 have eb:upd H b (.lst []) b=some (.lst []):=upd_same
 have M0:RwIn H (upd (upd H b (.lst [])) wh (.lst [])) b wh [] [] [] [] wd 0 0:=⟨u1.trans u2,hb,u1.free hwh,Ne.symm (ne_new eb hwh),u2 _ _ eb,upd_same,Ad,Ad,rfl,rfl,fun _ h=>(Ay h).elim,fun _ h=>(Ay h).elim,fun _ h=>(Ay h).elim,fun _ h=>(Ay h).elim,fun _ h=>(Ay h).elim⟩
 generalize upd (upd H b (.lst [])) wh (.lst [])=H1 at M0
 clear u1 u2 eb
 refine ⟨_,rfl,_,rfl,(by omega),(by omega),?_⟩
 rw [Aq]
 refine for_range (n:=dp) (fun i σ H2=>∃ (x6 x7 x8 x9 x10:Option V) (rs ws:List Addr) (bed wished:List (List Int)),σ=[some (.ref L),some (.int mx),some (.int (wd:Int)),some (.int (dp:Int)),some (.ref b),some (.ref wh),x6,x7,x8,x9,x10]∧RwIn H H2 b wh rs ws bed wished wd i i∧LeR wished bed∧(∀ r∈bed,∀ v∈r,v≤1000)∧(∀ r∈rs,H r=none)∧∀ r∈ws,H r=none)
  ⟨none,none,none,none,none,[],[],[],[],rfl,M0,(fun _ _ _ h=>by cases h),fun _ h=>(Ay h).elim,fun _ h=>(Ay h).elim,fun _ h=>(Ay h).elim⟩ ?_ ?_
 ·rintro i σ G hi ⟨x6,x7,x8,x9,x10,rs,ws,bed,wished,rfl,M,hle,hbd,hn1,hn2⟩
  refine ⟨_,rfl,_,rfl,_,_,rfl,rfl,L,ns,_,rfl,M.sm.seq hL,(by omega),fun z=>⟨_,rfl,_,rfl,_,_,rfl,rfl,.inl ⟨by omega,by omega⟩,_,_,rfl,rfl,_,rfl,le2,fun st hst=>?_⟩⟩
  have u1:=same_upd hst (.lst [V.int (z + mx * (0 + (i:Int))),.int mx])
  have es1:upd G st (.lst [V.int (z + mx * (0 + (i:Int))),.int mx]) st=some (.lst [V.int (z + mx * (0 + (i:Int))),.int mx]):=upd_same
  have M1:=M.same u1
  have nsb:=ne_new M.hb hst
  have nsw:=ne_new M.hw hst
  generalize upd G st (.lst [V.int (z + mx * (0 + (i:Int))),.int mx])=G1 at es1 M1 u1
  generalize z + mx * (0 + (i:Int))=c0 at es1
  refine ⟨le3,fun l1 hl1=>?_⟩
  have u2:=same_upd hl1 (.lst [V.int 1001,.int 5,.int 40])
  have n1:=ne_new es1 hl1
  refine ⟨_,rfl,st,c0,mx,3,rfl,u2 _ _ es1,(by decide),(by decide),fun z2 c2 a2 b2=>?_⟩
  have e1:upd (upd G1 l1 (.lst [V.int 1001,.int 5,.int 40])) st (.lst [V.int c2,.int mx]) l1=some (.lst [V.int 1001,.int 5,.int 40]):=by rw [upd_ne n1,upd_same]
  obtain ⟨mo,hmo,mo0,mo9⟩:∃ mo:Int,atI [V.int 1001,V.int 5,V.int 40] z2=some (.int mo)∧0 < mo∧mo≤1001:=by
   have:z2=0∨z2=1∨z2=2:=by omega
   rcases this with rfl | rfl | rfl
   ·exact ⟨1001,rfl,by decide,by decide⟩
   ·exact ⟨5,rfl,by decide,by decide⟩
   ·exact ⟨40,rfl,by decide,by decide⟩
  refine ⟨l1,_,z2,.int mo,rfl,rfl,SqL.of e1,hmo,?_⟩
  refine ⟨_,rfl,_,rfl,_,_,rfl,rfl,st,c2,mx,_,rfl,upd_same,(by omega),(by omega),fun z3 c3 a3 b3=>?_⟩
  rw [upd_upd]
  have es3:upd (upd G1 l1 (.lst [V.int 1001,.int 5,.int 40])) st (.lst [V.int c3,.int mx]) st=some (.lst [V.int c3,.int mx]):=upd_same
  have k3:Same G (upd (upd G1 l1 (.lst [V.int 1001,.int 5,.int 40])) st (.lst [V.int c3,.int mx])):=fun x o e=>by
   rw [upd_ne (ne_of_none e hst)]
   exact u2 _ _ (u1 _ _ e)
  generalize upd (upd G1 l1 (.lst [V.int 1001,.int 5,.int 40])) st (.lst [V.int c3,.int mx])=G3 at es3 k3
  clear e1 n1 u2 hl1 es1 M1 u1
  refine ⟨_,rfl,_,rfl,(by omega),(by omega),fun D hD=>?_⟩
  rw [Aq]
  have nD:=ne_new es3 hD
  have hDG:=k3.free hD
  refine ⟨Wd wd (fun j σ2 acc2 H6=>∃ (z2:Option V) (vs:List Int) (c6:Int),σ2=[z2,some (.ref st),some (.int mo),some (.int z3)]∧acc2=vs.map V.int∧vs.length=j∧(∀ v∈vs,0≤v∧v≤1000)∧H6 st=some (.lst [.int c6,.int mx])∧Same G H6∧H6 D=some (.lst acc2)),
   wd_0 ⟨none,[],c3,rfl,rfl,rfl,fun _ h=>(Ay h).elim,by rw [upd_ne (Ne.symm nD)]; exact es3,k3.trans (same_upd hD _),upd_same⟩,?_⟩
  rintro j jm σ2 acc2 H6 ⟨rfl,hj0,z2',vs,c6,rfl,rfl,vl,vb,hs6,w6,hD6⟩
  refine rg_ask hj0 (fun hj=>?_) (fun hend=>?_)
  ·refine ⟨_,rfl,_,rfl,_,rfl,st,c6,mx,mo,rfl,hs6,mo0,(by omega),fun v c7 v0 v9=>⟨_,_,rfl,rfl,?_⟩⟩
   have e6:upd H6 st (.lst [V.int c7,.int mx]) D=some (.lst (vs.map V.int)):=by rw [upd_ne nD]; exact hD6
   refine ⟨e6,?_,wd_next hj ⟨_,vs++[z3 + v],c7,rfl,by rw [AM]; rfl,by rw [AN,vl]; rfl,fun x hx=>?_,by rw [upd_ne (Ne.symm nD),upd_same],fun x o e=>?_,upd_same⟩⟩
   ·rw [AA,vl]
    exact line3 (show j≤1000 by omega) (by decide)
   ·rcases AW.mp hx with hx | hx
    ·exact vb x hx
    ·rw [show x=z3 + v by simpa using hx]
     exact ⟨by omega,by omega⟩
   ·rw [upd_ne (ne_of_none e hDG),upd_ne (ne_of_none e hst)]
    exact w6 x o e
  ·rw [hend] at vl
   have M6:=M.same w6
   have nDb:=ne_new M.hb hDG
   have nDw:=ne_new M.hw hDG
   have rsl:=M.rb.len
   have wsl:=M.rq.len
   have lb:=M.lb
   have lw:=M.lw
   refine ⟨_,rfl,.inl ⟨rfl,_,SqL.of M6.hb⟩,_,rfl,b,_,.ref D,rfl,rfl,M6.hb,(by rw [AA]; exact line3 (show rs.length≤1000 by omega) (by decide)),?_⟩
   have M7:=M6.addB hD6 ⟨nDb,nDw⟩ vl
   have hD7:upd H6 b (.lst (rs.map V.ref++[V.ref D])) D=some (.lst (vs.map V.int)):=by rw [upd_ne nDb]; exact hD6
   have hs7:upd H6 b (.lst (rs.map V.ref++[V.ref D])) st=some (.lst [.int c6,.int mx]):=by rw [upd_ne nsb]; exact hs6
   generalize upd H6 b (.lst (rs.map V.ref++[V.ref D]))=H7 at M7 hD7 hs7
   refine ⟨_,rfl,.inl ⟨rfl,_,SqL.of M7.hw⟩,_,rfl,D,rfl,⟨_,SqL.of hD7⟩,fun D2 hD2=>?_⟩
   have nD2:=ne_new hs7 hD2
   refine ⟨Wd vs.length (fun j σ2 acc2 H8=>∃ (z2:Option V) (us:List Int) (c8:Int),σ2=[z2,some (.ref st)]∧acc2=us.map V.int∧us.length=j∧(∀ v∈us,0≤v)∧LeL us vs∧H8 st=some (.lst [.int c8,.int mx])∧Sb st H7 H8∧H8 D2=some (.lst acc2)),
    wd_0 ⟨none,[],c6,rfl,rfl,rfl,fun _ h=>(Ay h).elim,(fun _ _ _ h=>by cases h),by rw [upd_ne (Ne.symm nD2)]; exact hs7,Sb.of (same_upd hD2 _),upd_same⟩,?_⟩
   rintro j jm σ2 acc2 H8 ⟨rfl,hj0,z2',us,c8,rfl,rfl,ul,ub,ule,hs8,w8,hD8⟩
   refine lc_ask (K:=K) (xs:=vs.map V.int) (SqL.of (w8 _ _ nD hD7)) (by rw [AA]; exact hj0) (fun x hx hj=>?_) (fun hend2=>?_)
   ·have hj':j < vs.length:=by rw [AA] at hj; exact hj
    obtain ⟨hv0,hv9⟩:=vb _ (Az hj')
    rw [AH,AD hj'] at hx
    cases hx
    have evj:vs[us.length]?=some vs[j]:=by rw [ul]; exact AD hj'
    generalize vs[j]=v at hv0 hv9 evj
    refine ⟨_,rfl,_,rfl,_,rfl,st,c8,mx,v,rfl,hs8,hv0,(by omega),fun n c9 H9 w9 hs9 hn0=>⟨_,_,rfl,rfl,_,_,rfl,?_⟩⟩
    have e9:=w9 _ _ nD2 hD8
    refine ⟨e9,?_,wd_next hj' ⟨_,us++[if v - n > 0 then v - n else 0],c9,rfl,by rw [AM]; rfl,by rw [AN,ul]; rfl,fun y hy=>?_,ule.snoc evj (by split <;> omega),by rw [upd_ne (Ne.symm nD2)]; exact hs9,fun y o ny e=>?_,upd_same⟩⟩
    ·rw [AA,ul]
     exact line3 (show j≤1000 by omega) (by decide)
    ·rcases AW.mp hy with hy | hy
     ·exact ub y hy
     ·rw [show y=if v - n > 0 then v - n else 0 by simpa using hy]
      split <;> omega
    ·rw [upd_ne (ne_of_none e hD2)]
     exact w9 y o ny (w8 y o ny e)
   ·rw [AA] at hend2
    rw [hend2,vl] at ul
    have hw8:=w8 _ _ (Ne.symm nsw) M7.hw
    have ns:Same H H8:=fun x o e=>w8 x o (fun z=>by rw [z,M.sm.free hst] at e; cases e) (M7.sm x o e)
    have rk:∀ r∈rs++[D],r≠st:=fun r hr z=>by
     obtain ⟨xs,hx⟩:=M7.rb.mem hr
     rcases AW.mp hr with hr | hr
     ·obtain ⟨ys,hy⟩:=M.rb.mem hr
      rw [z,hst] at hy
      cases hy
     ·exact nD ((An.mp hr).symm.trans z)
    have wk:∀ r∈ws,r≠st:=fun r hr z=>by
     obtain ⟨ys,hy⟩:=M.rq.mem hr
     rw [z,hst] at hy
     cases hy
    have M8:RwIn H H8 b wh (rs++[D]) ws (bed++[vs]) wished wd (i + 1) i:=⟨ns,M7.nb,M7.nw,M7.bw,w8 _ _ (Ne.symm nsb) M7.hb,hw8,M7.rb.keep fun r hr o e=>w8 r o (rk r hr) e,M7.rq.keep fun r hr o e=>w8 r o (wk r hr) e,M7.lb,M7.lw,M7.wb,M7.ww,M7.nn,M7.ob,M7.ow⟩
    refine ⟨wh,_,.ref D2,rfl,rfl,hw8,(by rw [AA]; exact line3 (show ws.length≤1000 by omega) (by decide)),?_⟩
    have nb2:=ne_new M7.hb hD2
    have nw2:=ne_new M7.hw hD2
    exact ⟨_,_,_,_,_,rs++[D],ws++[D2],bed++[vs],wished++[us],rfl,M8.wish hD8 ⟨nb2,nw2⟩ ul ub,hle.snoc (by rw [M.lb,M.lw]) ule,fun r hr=>by
     rcases AW.mp hr with hr | hr
     ·exact hbd r hr
     ·rw [show r=vs by simpa using hr]; exact fun v hv=>(vb v hv).2,fun r hr=>by
     rcases AW.mp hr with hr | hr
     ·exact hn1 r hr
     ·rw [show r=D by simpa using hr]; exact M.sm.free hDG,fun r hr=>by
     rcases AW.mp hr with hr | hr
     ·exact hn2 r hr
     ·rw [show r=D2 by simpa using hr]; exact M7.sm.free hD2⟩
 ·rintro σ H2 ⟨x6,x7,x8,x9,x10,rs,ws,bed,wished,rfl,M,hle,hbd,hn1,hn2⟩
  refine ⟨_,rfl,_,rfl,le2,fun t ht=>?_⟩
  have u:=same_upd ht (.tup [V.ref b,.ref wh])
  have M1:=M.same u
  have b0:bed≠[]:=fun z=>by
   have:=M.lb
   rw [z] at this
   have z2:(0:Nat)=dp:=this
   omega
  exact q t b wh rs ws bed wished _ M1.sm upd_same M.nb M.nw hn1 hn2 M1.hb M1.rb M1.hw M1.rq (rect_of b0 M.wb) (alike_of M.lb M.lw M.wb M.ww) ⟨by rw [M.lb]; exact dp40,fun r hr=>by rw [M.wb r hr]; exact wd40⟩ hle hbd (by
   have hl:=M.lb
   have hw:=M.wb
   revert hl hw b0
   cases bed with
   | nil=>intro b0; exact absurd rfl b0
   | cons r0 rr =>
    intro b0 hl hw
    have h0:=hw r0 AZ
    exact decide_eq_true ⟨show (0:Int)≤0 by decide,show (0:Int) < ((r0 :: rr).length:Int) by omega,show (0:Int)≤0 by decide,show (0:Int) < (r0.length:Int) by omega⟩) M.nn
end
theorem Alike.symm {a b:List (List Int)} (h:Alike a b):Alike b a:=⟨h.1.symm,fun i r s x y=>(h.2 i s r y x).symm⟩
theorem und_alike {a b:List (List Int)} (h:Alike a b) (foot:List (Int×Int)) (x y:Int):und a foot x y=und b foot x y:=by
 unfold und
 exact List.filter_congr fun c _=>h.ins c
theorem le_mxF:∀ (r:List Int) (a z:Int),z≤mxF a r↔z≤a∨∃ v∈r,z≤v
 | [],a,z=>by
  show z≤a↔_
  exact ⟨.inl,fun h=>h.elim id fun ⟨_,m,_⟩=>(Ay m).elim⟩
 | b :: r,a,z=>by
  show z≤mxF (if b > a then b else a) r↔_
  rw [le_mxF r]
  constructor
  ·rintro (h | ⟨v,m,h⟩)
   ·by_cases c:b > a
    ·rw [if_pos c] at h
     exact .inr ⟨b,AZ,h⟩
    ·rw [if_neg c] at h
     exact .inl h
   ·exact .inr ⟨v,Aa _ m,h⟩
  ·rintro (h | ⟨v,m,h⟩)
   ·left
    split <;> omega
   ·rcases AK.mp m with rfl | m
    ·left
     split <;> omega
    ·exact .inr ⟨v,m,h⟩
theorem le_mxD {l:List Int} {u:Int} (hu:u∈l) (z:Int):z≤mxD 0 l↔∃ v∈l,z≤v:=by
 cases l with
 | nil=>cases hu
 | cons a r =>
  show z≤mxF a r↔_
  rw [le_mxF]
  constructor
  ·rintro (h | ⟨v,m,h⟩)
   ·exact ⟨a,AZ,h⟩
   ·exact ⟨v,Aa _ m,h⟩
  ·rintro ⟨v,m,h⟩
   rcases AK.mp m with rfl | m
   ·exact .inl h
   ·exact .inr ⟨v,m,h⟩
def Cz (bed w:List (List Int)) (ts:List Tool) (d:Int×Int) (z:Int):Prop:=∀ t∈ts,∀ s∈t.1,∀ p,ins bed p=true→d=shf p.1 p.2 s→∃ s'∈t.1,ins bed (shf p.1 p.2 s')=true∧z≤hgt w (shf p.1 p.2 s')
theorem lhad {bed w:List (List Int)} (R:Rect bed) {ts:List Tool} {d:Int×Int} (hd:ins bed d=true) (z:Int):z≤hgt (hadF bed w ts) d↔z≤hgt bed d∧Cz bed w ts d z:=by
 rw [le_had R hd]
 refine and_congr Iff.rfl ?_
 have key:∀ t:Tool,∀ s∈t.1,∀ p:Int×Int,d=shf p.1 p.2 s→(z≤mxD 0 ((und bed t.1 p.1 p.2).map (hgt w))↔∃ s'∈t.1,ins bed (shf p.1 p.2 s')=true∧z≤hgt w (shf p.1 p.2 s')):=fun t s hs p e=>by
  have hm:d∈und bed t.1 p.1 p.2:=Aj.mpr ⟨Ai.mpr ⟨s,hs,e.symm⟩,hd⟩
  rw [le_mxD (Ai.mpr ⟨d,hm,rfl⟩)]
  constructor
  ·rintro ⟨v,hv,hz⟩
   obtain ⟨c,hc,rfl⟩:=Ai.mp hv
   obtain ⟨h1,h2⟩:=Aj.mp hc
   obtain ⟨s',hs',rfl⟩:=Ai.mp h1
   exact ⟨s',hs',h2,hz⟩
  ·rintro ⟨s',hs',h2,hz⟩
   exact ⟨_,Ai.mpr ⟨shf p.1 p.2 s',Aj.mpr ⟨Ai.mpr ⟨s',hs',rfl⟩,h2⟩,rfl⟩,hz⟩
 exact ⟨fun h t ht s hs p hp e=>(key t s hs p e).mp (h t ht s hs p hp e),fun h t ht s hs p hp e=>(key t s hs p e).mpr (h t ht s hs p hp e)⟩
theorem LeR.hgt {a b:List (List Int)} (R:Rect a) (A:Alike a b) (h:LeR a b) {c:Int×Int} (hc:ins a c=true):hgt a c≤hgt b c:=by
 obtain ⟨i,j,row,v,e1,e2,e3,e4⟩:=ins_at hc R
 obtain ⟨i',j',row',v',f1,f2,f3,f4⟩:=ins_at (show ins b c=true by rw [← A.ins]; exact hc) (A.rect R)
 have g1:i'=i:=by have:=congrArg Prod.snd (e1.symm.trans f1); simp at this; omega
 have g2:j'=j:=by have:=congrArg Prod.fst (e1.symm.trans f1); simp at this; omega
 subst g1 g2
 rw [e4,f4]
 exact h _ _ _ e2 f2 _ _ _ e3 f3
section
variable {bed w:List (List Int)} (R:Rect bed) (ts:List Tool)
include R
end
theorem hu_of' {k:Nat} {A:Around} (r:Room k A):A.units + 1 < cLine:=by have:=r.units; omega
structure VT (K:PySem.W.Frag) (mg:Str→Option Value) (CV CC:Addr):Prop where
 clV:Cls K CV
 clC:Cls K CC
 nStuff:NoAttr K CV "stuff"
 nShelf:NoAttr K CV "shelf"
 nCutter:NoAttr K CV "cutter"
 nStands:NoAttr K CV "stands"
 nRows:NoAttr K CC "rows"
 dict:mg "dict"=none
 any:mg "any"=none
 top:∃ t,mg "TOP"=some (.int 1000 t)
structure ClAt (CC:Addr) (H:Hp) (c R:Addr) (rs:List Addr) (rows:List (List Int)):Prop where
 ob:∃ dx,H c=some (.ins CC dx [("rows",.ref R)])
 hR:H R=some (.lst (rs.map V.ref))
 ra:RowsAt H rs rows
theorem ClAt.same {CC:Addr} {H H':Hp} {c R:Addr} {rs:List Addr} {rows:List (List Int)} (h:ClAt CC H c R rs rows) (s:Same H H'):ClAt CC H' c R rs rows:=by
 obtain ⟨dx,e⟩:=h.ob
 exact ⟨⟨dx,s _ _ e⟩,s _ _ h.hR,h.ra.same s⟩
theorem bt_any:bootBuiltins "any"=some (.builtin "any"):=by decide +kernel
theorem bt_dict:bootBuiltins "dict"=some (.type "dict"):=by decide +kernel
def addC (cs:List (Int×Int)) (c:Int×Int):List (Int×Int):=if c∈cs then cs else cs++[c]
theorem mem_addC {cs:List (Int×Int)} {c d:Int×Int}:d∈addC cs c↔d∈cs∨d=c:=by
 unfold addC
 split
 ·rename_i h
  exact ⟨.inl,fun z=>z.elim id fun e=>e ▸ h⟩
 ·rw [AW,An]
theorem mem_adds {d:Int×Int}:∀ (l cs:List (Int×Int)),d∈l.foldl addC cs↔d∈cs∨d∈l
 | [],cs=>⟨.inl,fun h=>h.elim id fun z=>(Ay z).elim⟩
 | c :: l,cs=>by
  rw [List.foldl_cons,mem_adds l,mem_addC,AK,or_assoc]
theorem len_adds:∀ (l cs:List (Int×Int)),(l.foldl addC cs).length≤cs.length + l.length
 | [],cs=>AE _
 | c :: l,cs=>by
  rw [List.foldl_cons,AS]
  have h1:=len_adds l (addC cs c)
  have h2:(addC cs c).length≤cs.length + 1:=by
   unfold addC
   split
   ·omega
   ·rw [AN]; exact AE _
  omega
def kvD (cs:List (Int×Int)):List (List Key×V):=cs.map fun c=>([(Sum.inl c.1:Key),Sum.inl c.2],V.bl true)
theorem put_kvD (cs:List (Int×Int)) (c:Int×Int):putK (kvD cs) [(Sum.inl c.1:Key),Sum.inl c.2] (V.bl true)=kvD (addC cs c):=by
 have h:((kvD cs).any fun kv=>decide (kv.1=[(Sum.inl c.1:Key),Sum.inl c.2]))=decide (c∈cs):=by
  unfold kvD
  rw [List.any_map,Bool.eq_iff_iff,List.any_eq_true,decide_eq_true_iff]
  constructor
  ·rintro ⟨d,hd,e⟩
   have e':=of_decide_eq_true e
   simp at e'
   rw [show c=d from Prod.ext e'.1.symm e'.2.symm]
   exact hd
  ·exact fun hc=>⟨c,hc,decide_eq_true rfl⟩
 unfold putK addC
 rw [h]
 by_cases hc:c∈cs
 ·rw [if_pos (decide_eq_true hc),if_pos hc]
  unfold kvD
  rw [List.map_map]
  refine List.map_congr_left fun d _=>?_
  show (if _ then _ else _)=_
  split
  ·rfl
  ·rfl
 ·rw [if_neg (fun z=>hc (of_decide_eq_true z)),if_neg hc]
  unfold kvD
  rw [AM]
  rfl
def rowW (foot:List (Int×Int)) (x0:Int) (nx:Nat) (y:Int):List (Int×Int):=(List.range nx).flatMap fun (i:Nat)=>foot.map (shf (x0 + (i:Int)) y)
def cellsW (foot:List (Int×Int)) (x0:Int) (nx:Nat) (y0:Int) (ny:Nat):List (Int×Int):=(List.range ny).flatMap fun (j:Nat)=>rowW foot x0 nx (y0 + (j:Int))
def undW (rows:List (List Int)) (foot:List (Int×Int)) (x0:Int) (nx:Nat) (y0:Int) (ny:Nat):List (Int×Int):=((cellsW foot x0 nx y0 ny).foldl addC []).filter (ins rows)
theorem rowW_succ (foot:List (Int×Int)) (x0:Int) (n:Nat) (y:Int):rowW foot x0 (n + 1) y=rowW foot x0 n y++foot.map (shf (x0 + (n:Int)) y):=by
 unfold rowW
 rw [List.range_succ,List.flatMap_append,List.flatMap_cons,List.flatMap_nil,A2]
theorem cellsW_succ (foot:List (Int×Int)) (x0:Int) (nx:Nat) (y0:Int) (n:Nat):cellsW foot x0 nx y0 (n + 1)=cellsW foot x0 nx y0 n++rowW foot x0 nx (y0 + (n:Int)):=by
 unfold cellsW
 rw [List.range_succ,List.flatMap_append,List.flatMap_cons,List.flatMap_nil,A2]
theorem rowW_len (foot:List (Int×Int)) (x0 y:Int):∀ n,(rowW foot x0 n y).length=n * foot.length
 | 0=>by rw [Nat.zero_mul]; rfl
 | n + 1=>by rw [rowW_succ,AN,rowW_len foot x0 y n,AA,Nat.succ_mul]
theorem cellsW_len (foot:List (Int×Int)) (x0:Int) (nx:Nat) (y0:Int):∀ n,(cellsW foot x0 nx y0 n).length=n * (nx * foot.length)
 | 0=>by rw [Nat.zero_mul]; rfl
 | n + 1=>by rw [cellsW_succ,AN,cellsW_len foot x0 nx y0 n,rowW_len,Nat.succ_mul]
theorem mem_undW {rows:List (List Int)} {foot:List (Int×Int)} {x0 y0:Int} {nx ny:Nat} {c:Int×Int}:c∈undW rows foot x0 nx y0 ny↔ins rows c=true∧∃ (i j:Nat),i < nx∧j < ny∧∃ s∈foot,c=shf (x0 + (i:Int)) (y0 + (j:Int)) s:=by
 unfold undW cellsW rowW
 rw [Aj,mem_adds]
 constructor
 ·rintro ⟨h | h,hi⟩
  ·exact (Ay h).elim
  ·obtain ⟨j,hj,h⟩:=List.mem_flatMap.mp h
   obtain ⟨i,hi',h⟩:=List.mem_flatMap.mp h
   obtain ⟨s,hs,rfl⟩:=Ai.mp h
   exact ⟨hi,i,j,BH.mp hi',BH.mp hj,s,hs,rfl⟩
 ·rintro ⟨hi,i,j,h1,h2,s,hs,rfl⟩
  exact ⟨.inr (List.mem_flatMap.mpr ⟨j,BH.mpr h2,List.mem_flatMap.mpr ⟨i,BH.mpr h1,Ai.mpr ⟨s,hs,rfl⟩⟩⟩),hi⟩
def stepD (h:Int) (s:List (List Int)×Int) (c:Int×Int):List (List Int)×Int:=(cutC s.1 (c,h),s.2 + if hgt s.1 c > h then hgt s.1 c - h else 0)
def dwn (rows:List (List Int)) (cs:List (Int×Int)) (h:Int):List (List Int)×Int:=cs.foldl (stepD h) (rows,0)
theorem dwn_fst (h:Int):∀ (cs:List (Int×Int)) (rows:List (List Int)) (t:Int),(cs.foldl (stepD h) (rows,t)).1=cutsF rows (cs.map fun c=>(c,h))
 | [],_,_=>rfl
 | c :: cs,rows,t=>dwn_fst h cs (cutC rows (c,h)) _
section
variable {P:Program} {w:World} {K:PySem.W.Frag} {mg:Str→Option Value} {base:Heap} {CV CC f:Addr} {fd':FuncData}
def spHas (CC:Addr):Sp:=fun vs H Q _=>∃ (c R:Addr) (rs:List Addr) (rows:List (List Int)) (x y:Int),vs=[.ref c,.int x,.int y]∧ClAt CC H c R rs rows∧Rect rows∧Q (.bl (ins rows (x,y))) H
theorem scHas:FnScope ["self","x","y"] ["self","x","y"] (defScope sHas):=⟨rfl,rfl,rfl,by decide +kernel,rfl,by decide +kernel,by decide +kernel⟩
theorem ok_has (T:LawT mg) (V:VT K mg CV CC) (F:Fun K "has_cell" "Cells.has_cell" sHas f fd'):FnOk P w K mg base (CX1 P w) 1 f fd' ["self","x","y"] (spHas CC):=by
 have nd:=scHas.nd
 refine F.ok1 scHas (fun vs H Q E h=>?_) (fun cdv A outer s H vs Q E hr h=>?_)
 ·obtain ⟨c,R,rs,rows,x,y,rfl,_⟩:=h
  rfl
 obtain ⟨c,R,rs,rows,x,y,rfl,⟨⟨dx,hc⟩,hR,ra⟩,rect,q⟩:=h
 have rsl:=ra.len
 refine ⟨_,(pss_one (ps_ret (pe_and (pe_chain op_le op_lt pe_int (pv 2) (pe_callB call_len_seq rfl T.len BI (pa_cons (pe_fld (pv 0) rfl) pa_nil))) (pe_one (pe_chain op_le op_lt pe_int (pv 1) (pe_callB call_len_seq rfl T.len BI (pa_cons (pe_ix ix_list (pe_fld (pv 0) rfl) (pv 2) (fun _ _=>rfl)) pa_nil))))))),?_⟩
 have no:¬ (0≤y∧y < rows.length∧0≤x∧x < (rows.headD []).length)→Q (.bl false) H:=fun n=>by
  rw [show ins rows (x,y)=false from decide_eq_false n] at q
  exact q
 refine ⟨_,rfl,_,_,rfl,rfl,_,rfl,?_⟩
 refine ite2 (fun h1=>?_) (fun h1=>?_)
 ·have h1':=of_decide_eq_true h1
  refine ⟨_,rfl,c,CC,dx,_,_,rfl,hc,V.clC,V.nRows,rfl,R,_,rfl,.inl (SqL.of hR),_,_,rfl,rfl,_,rfl,?_⟩
  refine ite2 (fun h2=>?_) (fun h2=>?_)
  ·have h2':=of_decide_eq_true h2
   rw [AA] at h2'
   obtain ⟨i,rfl⟩:∃ i:Nat,y=(i:Int):=⟨y.toNat,by omega⟩
   have hi:i < rows.length:=by omega
   obtain ⟨r,e1,e2⟩:=ra.at_ (AD hi)
   have hw:=rect.2 _ (Az hi)
   refine ⟨_,rfl,_,_,rfl,rfl,_,rfl,?_⟩
   refine ite2 (fun h3=>?_) (fun h3=>?_)
   ·have h3':=of_decide_eq_true h3
    refine ⟨_,rfl,c,CC,dx,_,_,rfl,hc,V.clC,V.nRows,rfl,_,rfl,R,_,_,.ref r,rfl,rfl,SqL.of hR,atI_nat (by rw [AH,e1]; rfl),r,_,rfl,.inl (SqL.of e2),_,_,rfl,rfl,?_⟩
    rw [AA]
    rw [show ins rows (x,(i:Int))=decide (x < ((rows[i]).length:Int)) from decide_eq_decide.mpr ⟨fun z=>by have:=z.2.2.2; show x < _; omega,fun z=>⟨h1',by show (i:Int) < _; omega,h3',by show x < _; omega⟩⟩] at q
    exact q
   ·exact no fun z=>h3 (decide_eq_true z.2.2.1)
  ·exact no fun z=>h2 (decide_eq_true (by rw [AA]; have:=z.2.1; omega))
 ·exact ⟨_,rfl,iteF (no fun z=>h1 (decide_eq_true z.1))⟩
end
def WyAt (H:Hp) (wy:Addr) (x0 x1 y0 y1 z0 z1:Int):Prop:=∃ tx ty tz,H wy=some (.dK [(Sum.inr "x",.ref tx),(Sum.inr "y",.ref ty),(Sum.inr "z",.ref tz)])∧H tx=some (.tup [.int x0,.int x1])∧H ty=some (.tup [.int y0,.int y1])∧H tz=some (.tup [.int z0,.int z1])
theorem WyAt.same {H H':Hp} {wy:Addr} {x0 x1 y0 y1 z0 z1:Int} (h:WyAt H wy x0 x1 y0 y1 z0 z1) (s:Same H H'):WyAt H' wy x0 x1 y0 y1 z0 z1:=by
 obtain ⟨tx,ty,tz,a,b,c,d⟩:=h
 exact ⟨tx,ty,tz,s _ _ a,s _ _ b,s _ _ c,s _ _ d⟩
section
variable {P:Program} {w:World} {K:PySem.W.Frag} {mg:Str→Option Value} {base:Heap} {CV CC f:Addr} {fd':FuncData}
def spUnd (CC:Addr):Sp:=fun vs H Q _=>∃ (c R ft wy:Addr) (rs:List Addr) (rows:List (List Int)) (foot:List (Int×Int)) (x0 y0 z0 z1:Int) (nx ny:Nat),vs=[.ref c,.ref ft,.ref wy]∧ClAt CC H c R rs rows∧Rect rows∧FtAt H ft foot∧WyAt H wy x0 (x0 + (nx:Int) - 1) y0 (y0 + (ny:Int) - 1) z0 z1 ∧
 foot.length≤100∧nx≤40∧ny≤40∧-1000≤x0∧x0≤1000∧-1000≤y0∧y0≤1000 ∧
 ∀ D H',H D=none→Same H H'→FtAt H' D (undW rows foot x0 nx y0 ny)→Q (.ref D) H'
theorem scUnd:FnScope ["self","foot","way","found","y","x","step"] ["self","foot","way"] (defScope sUnd):=⟨rfl,rfl,rfl,by decide +kernel,rfl,by decide +kernel,by decide +kernel⟩
theorem ndcs:(["cell","self"]:List Str).Nodup:=by decide +kernel
theorem big16 {n:Nat} (h:n≤160000):n < AR:=Nat.lt_of_le_of_lt h (by decide)
theorem ok_und (T:LawT mg) (VV:VT K mg CV CC) (MH:Mt P w K mg base CC "has_cell" 1 ["self","x","y"] (spHas CC)) (F:Fun K "under" "Cells.under" sUnd f fd'):FnOk P w K mg base (CX1 P w) 2 f fd' ["self","foot","way"] (spUnd CC):=by
 have nd:=scUnd.nd
 refine F.ok1 scUnd (fun vs H Q E h=>?_) (fun cdv A outer s H vs Q E hr h=>?_)
 ·obtain ⟨c,R,ft,wy,rs,rows,foot,x0,y0,z0,z1,nx,ny,rfl,_⟩:=h
  rfl
 obtain ⟨c,R,ft,wy,rs,rows,foot,x0,y0,z0,z1,nx,ny,rfl,C0,rect,⟨fts,hft,mft⟩,⟨tx,ty,tz,hwy,htx,hty,htz⟩,f100,nx40,ny40,xa,xb,ya,yb,q⟩:=h
 have hr1:Room 1 _:=hr.mono (by decide)
 have hu:=hu_of' hr
 have ftl:fts.length=foot.length:=by rw [mft.len,AA]
 refine ⟨_,(pss_cons (ps_set (i:=3) nd rfl (Or.inl rfl) pe_dnewT)
  (pss_cons (ps_for own1 rfl (pi_range2 rfl T.range (pa_cons (pe_ix ix_tup (pe_dget hu (pv 2) pe_str (fun _ _=>rfl)) pe_int (fun _ _=>rfl)) (pa_cons (pe_op op_add (pe_ix ix_tup (pe_dget hu (pv 2) pe_str (fun _ _=>rfl)) pe_int (fun _ _=>rfl)) pe_int) pa_nil))) (pg_name (i:=4) nd rfl (Or.inl rfl)) (pss_one (ps_for own1 rfl (pi_range2 rfl T.range (pa_cons (pe_ix ix_tup (pe_dget hu (pv 2) pe_str (fun _ _=>rfl)) pe_int (fun _ _=>rfl)) (pa_cons (pe_op op_add (pe_ix ix_tup (pe_dget hu (pv 2) pe_str (fun _ _=>rfl)) pe_int (fun _ _=>rfl)) pe_int) pa_nil))) (pg_name (i:=5) nd rfl (Or.inl rfl)) (pss_one (ps_for own1 rfl (pi_list (pv 1)) (pg_name (i:=6) nd rfl (Or.inl rfl)) (pss_one (ps_dput hu (pv 3) (pe_tup (pa_cons (pe_op op_add (pv 5) (pe_ix ix_tup (pv 6) pe_int (fun _ _=>rfl))) (pa_cons (pe_op op_add (pv 4) (pe_ix ix_tup (pv 6) pe_int (fun _ _=>rfl))) pa_nil))) pe_bl rfl)))))))
  (pss_one (ps_ret (pe_frz (pe_lc (own:=["cell"]) (capn:=["self"]) (capI:=[0]) rfl (blkC (defScope sUnd) rfl rfl (by decide +kernel) rfl (fun y hy=>by rcases AK.mp hy with rfl | hy; exact ⟨rfl,rfl⟩; cases hy)) (pi_keys (pv 3)) (fun _ _ _ _ _ _=>pg_name (i:=0) ndcs rfl (Or.inl rfl)) (fun _ _ _ _ _ _=>(pifs_one (pt_truthK (K:=K) rfl (pf_meth MH (pv 1) hr1 passN (pa_cons (pe_ix (ix_tupK (K:=K) rfl) (pv 0) pe_int (fun _ _=>rfl)) (pa_cons (pe_ix (ix_tupK (K:=K) rfl) (pv 0) pe_int (fun _ _=>rfl)) pa_nil))) (fun _=>rfl)))) (fun _ _ _ _ _ _=>(pv 0)))))))),?_⟩
 refine fun fo hfo=>?_
 have u0:=same_upd hfo (.dT [])
 have dg:∀ {G:Hp},Same H G→DGet G wy (.str "y") (some (.ref ty))∧DGet G wy (.str "x") (some (.ref tx)):=fun sG=>⟨DGet.k (k:=Sum.inr "y") (sG _ _ hwy),DGet.k (k:=Sum.inr "x") (sG _ _ hwy)⟩
 refine ⟨_,rfl,wy,.ref ty,rfl,(dg u0).1,ty,_,0,.int y0,rfl,rfl,SqT.of (u0 _ _ hty),rfl,_,rfl,wy,.ref ty,rfl,(dg u0).1,ty,_,1,.int (y0 + (ny:Int) - 1),rfl,rfl,SqT.of (u0 _ _ hty),rfl,_,_,rfl,rfl,_,_,rfl,(by omega),?_⟩
 rw [show (y0 + (ny:Int) - 1 + 1 - y0).toNat=ny by omega]
 refine for_range (lo:=y0) (n:=ny) (fun j σ H2=>∃ (x4 x5 x6:Option V),σ=[some (.ref c),some (.ref ft),some (.ref wy),some (.ref fo),x4,x5,x6]∧H2 fo=some (.dT (kvD ((cellsW foot x0 nx y0 j).foldl addC [])))∧Same H H2) ⟨none,none,none,rfl,upd_same,u0⟩ ?_ ?_
 ·rintro j σ H2 hj ⟨x4,x5,x6,rfl,hf2,s2⟩
  refine ⟨_,rfl,wy,.ref tx,rfl,(dg s2).2,tx,_,0,.int x0,rfl,rfl,SqT.of (s2 _ _ htx),rfl,_,rfl,wy,.ref tx,rfl,(dg s2).2,tx,_,1,.int (x0 + (nx:Int) - 1),rfl,rfl,SqT.of (s2 _ _ htx),rfl,_,_,rfl,rfl,_,_,rfl,(by omega),?_⟩
  rw [show (x0 + (nx:Int) - 1 + 1 - x0).toNat=nx by omega]
  refine for_range (lo:=x0) (n:=nx) (fun i σ H3=>∃ (x5 x6:Option V),σ=[some (.ref c),some (.ref ft),some (.ref wy),some (.ref fo),some (.int (y0 + (j:Int))),x5,x6]∧H3 fo=some (.dT (kvD ((cellsW foot x0 nx y0 j++rowW foot x0 i (y0 + (j:Int))).foldl addC [])))∧Same H H3) ⟨x5,x6,rfl,by rw [show rowW foot x0 0 (y0 + (j:Int))=[] from rfl,A2]; exact hf2,s2⟩ ?_ ?_
  ·rintro i σ H3 hi ⟨x5,x6,rfl,hf3,s3⟩
   refine ⟨_,rfl,ft,rfl,⟨_,SqL.of (s3 _ _ hft)⟩,?_⟩
   refine for_list (K:=K) (xs:=fts.map V.ref) (fun k σ H4=>∃ (x6:Option V),σ=[some (.ref c),some (.ref ft),some (.ref wy),some (.ref fo),some (.int (y0 + (j:Int))),some (.int (x0 + (i:Int))),x6]∧H4 fo=some (.dT (kvD ((cellsW foot x0 nx y0 j++rowW foot x0 i (y0 + (j:Int))++(foot.take k).map (shf (x0 + (i:Int)) (y0 + (j:Int)))).foldl addC [])))∧Same H H4) ⟨x6,rfl,by rw [As,List.map_nil,A2]; exact hf3,s3⟩ ?_ ?_ ?_
   ·rintro k σ H4 _ ⟨x6,rfl,_,s4⟩
    exact SqL.of (s4 _ _ hft)
   ·rintro k v σ H4 hx ⟨x6,rfl,hf4,s4⟩
    obtain ⟨t,ht1,rfl⟩:=ref_get hx
    have hk:k < foot.length:=by have:=(AF.mp ht1).1; omega
    have ef:=AD hk
    have gt:=s4 _ _ (mft.at_ ht1 (by rw [AH,ef]; rfl))
    generalize foot[k]=st at ef gt
    refine ⟨_,rfl,_,rfl,_,rfl,t,_,0,.int st.1,rfl,rfl,SqT.of gt,rfl,_,_,rfl,rfl,_,rfl,_,rfl,t,_,1,.int st.2,rfl,rfl,SqT.of gt,rfl,_,_,rfl,rfl,le2,fun t2 ht2=>?_⟩
    have v2:=same_upd ht2 (.tup [V.int (x0 + (i:Int) + st.1),.int (y0 + (j:Int) + st.2)])
    have lenb:(kvD ((cellsW foot x0 nx y0 j++rowW foot x0 i (y0 + (j:Int))++(foot.take k).map (shf (x0 + (i:Int)) (y0 + (j:Int)))).foldl addC [])).length < AR:=by
     unfold kvD
     rw [AA]
     refine big16 (Au (len_adds _ _) ?_)
     rw [AN,AN,cellsW_len,rowW_len,AA,Ae]
     have e1:j * (nx * foot.length)≤39 * (40 * 100):=Nat.mul_le_mul (by omega) (Nat.mul_le_mul nx40 f100)
     have e2:i * foot.length≤39 * 100:=Nat.mul_le_mul (by omega) f100
     show 0 + _≤_
     omega
    refine ⟨fo,_,rfl,DPut.t (k:=[Sum.inl (x0 + (i:Int) + st.1),Sum.inl (y0 + (j:Int) + st.2)]) (v2 _ _ hf4) upd_same lenb,_,rfl,?_,same_in (s4.trans v2) hfo⟩
    rw [upd_same,put_kvD _ (x0 + (i:Int) + st.1,y0 + (j:Int) + st.2),A9,ef,AM,← AY]
    generalize cellsW foot x0 nx y0 j++rowW foot x0 i (y0 + (j:Int))++(foot.take k).map (shf (x0 + (i:Int)) (y0 + (j:Int)))=pre
    rw [List.foldl_append]
    rfl
   ·rintro σ H4 ⟨x6,rfl,hf4,s4⟩
    rw [AA,ftl,AO (AE _),AY,← rowW_succ] at hf4
    exact ⟨_,_,rfl,hf4,s4⟩
  ·rintro σ H3 ⟨x5,x6,rfl,hf3,s3⟩
   rw [← cellsW_succ] at hf3
   exact ⟨_,_,_,rfl,hf3,s3⟩
 rintro σ H2 ⟨x4,x5,x6,rfl,hf2,s2⟩
 generalize hcs:(cellsW foot x0 nx y0 ny).foldl addC []=cs at hf2
 have csl:cs.length≤160000:=by
  rw [← hcs]
  refine Au (len_adds _ _) ?_
  rw [cellsW_len]
  have e1:ny * (nx * foot.length)≤40 * (40 * 100):=Nat.mul_le_mul ny40 (Nat.mul_le_mul nx40 f100)
  show 0 + _≤_
  omega
 refine ⟨fo,_,hf2,Ad,fun ob=>?_⟩
 refine ⟨_,rfl,fo,ob,_,rfl,upd_same,fun D hD=>?_⟩
 have nDf:D≠fo:=fun z=>by rw [z,upd_same] at hD; cases hD
 have hD2:H2 D=none:=by rw [upd_ne nDf] at hD; exact hD
 have nfo:∀ x o,H x=some o→x≠fo:=fun x o e=>ne_of_none e hfo
 refine ⟨Wd cs.length (fun i σ acc H5=>∃ (z:Option V) (us:List Addr),σ=[z,some (.ref c)]∧acc=us.map V.ref∧us.length≤i∧MvAt H5 us (((cs.take i).filter (ins rows)).map pr)∧H5 fo=some (.frz ob (.dT (kvD cs)))∧Same H H5∧H5 D=some (.lst acc)),wd_0 ⟨none,[],rfl,rfl,AE _,by rw [As]; exact Ad,by rw [upd_ne (Ne.symm nDf),upd_same],fun x o e=>by rw [upd_ne (fun z=>by rw [z,s2.free hD2] at e; cases e),upd_ne (nfo x o e)]; exact s2 x o e,upd_same⟩,?_⟩
 rintro i im σ acc H5 ⟨rfl,hi0,z,us,rfl,rfl,ul,mu,hf5,s5,hD5⟩
 have kl:(kvD cs).length=cs.length:=by unfold kvD; rw [AA]
 refine ky_ask hf5 (by rw [kl]; exact hi0) (fun p hp hi t ht=>?_) (fun hend=>?_)
 ·rw [kl] at hi
  have ec:=AD hi
  have ep:p=([(Sum.inl cs[i].1:Key),Sum.inl cs[i].2],V.bl true):=by
   unfold kvD at hp
   rw [AH,ec] at hp
   exact (Aw hp).symm
  subst ep
  have gt:H5 t=some (.tup (pr cs[i])):=ht
  generalize cs[i]=d at ec gt
  have C5:=C0.same s5
  obtain ⟨dx,hcc⟩:=C5.ob
  refine ⟨_,rfl,c,dx,_,rfl,hcc,rfl,_,rfl,t,_,0,.int d.1,rfl,rfl,SqT.of gt,rfl,_,rfl,t,_,1,.int d.2,rfl,rfl,SqT.of gt,rfl,c,R,rs,rows,d.1,d.2,rfl,C5,rect,_,rfl,?_⟩
  refine ite2 (fun h1=>?_) (fun h1=>?_)
  ·refine ⟨_,rfl,hD5,(by rw [AA]; exact Nat.lt_of_le_of_lt ul (big16 (by omega))),wd_next hi ⟨_,us++[t],rfl,by rw [AM]; rfl,by rw [AN]; exact Nat.succ_le_succ ul,?_,by rw [upd_ne (Ne.symm nDf)]; exact hf5,fun x o e=>by rw [upd_ne (fun z=>by rw [z,s2.free hD2] at e; cases e)]; exact s5 x o e,upd_same⟩⟩
   rw [A9,ec,List.filter_append,AM,Option.toList_some,List.filter_cons_of_pos h1]
   exact (mu.snoc gt).upd (fun m e=>by rw [hD5] at e; cases e)
  ·refine wd_next hi ⟨_,us,rfl,rfl,Nat.le_succ_of_le ul,?_,hf5,s5,hD5⟩
   rw [A9,ec,List.filter_append,Option.toList_some,List.filter_cons_of_neg h1,List.filter_nil,A2]
   exact mu
 ·rw [kl] at hend
  rw [hend,AO (AE _)] at mu
  refine ⟨hf5,q D _ (s2.free hD2) (same_in s5 hfo) ⟨us,by rw [upd_ne nDf]; exact hD5,?_⟩⟩
  unfold undW
  rw [hcs]
  exact mu.upd (fun m e=>by rw [hf5] at e; cases e)
end
theorem set_same {α:Type} {xs:List α} {i:Nat} {x:α} (h:xs[i]?=some x):xs.set i x=xs:=by
 refine List.ext_getElem? fun j=>?_
 by_cases e:i=j
 ·subst e
  rw [List.getElem?_set_self (AF.mp h).1,h]
 ·rw [List.getElem?_set_ne e]
section
variable {P:Program} {w:World} {K:PySem.W.Frag} {mg:Str→Option Value} {base:Heap} {CV CC f:Addr} {fd':FuncData}
def risF (rows:List (List Int)) (cs:List (Int×Int)) (h:Int):Bool:=cs.any fun c=>decide (hgt rows c > h)
def spRises (CC:Addr):Sp:=fun vs H Q _=>∃ (c R u:Addr) (rs:List Addr) (rows:List (List Int)) (cs:List (Int×Int)) (h:Int),vs=[.ref c,.ref u,.int h]∧ClAt CC H c R rs rows∧Rect rows∧FtAt H u cs∧cs.length≤160000∧(∀ d∈cs,ins rows d=true) ∧
 ∀ H',Same H H'→Q (.bl (risF rows cs h)) H'
theorem scRises:FnScope ["self","under","height"] ["self","under","height"] (defScope sRises):=⟨rfl,rfl,rfl,by decide +kernel,rfl,by decide +kernel,by decide +kernel⟩
theorem ndcsh:(["cell","self","height"]:List Str).Nodup:=by decide +kernel
theorem ok_rises (VV:VT K mg CV CC) (F:Fun K "rises_above" "Cells.rises_above" sRises f fd'):FnOk P w K mg base (CX1 P w) 1 f fd' ["self","under","height"] (spRises CC):=by
 have nd:=scRises.nd
 refine F.ok1 scRises (fun vs H Q E h=>?_) (fun cdv A outer s H vs Q E hr h=>?_)
 ·obtain ⟨c,R,u,rs,rows,cs,h,rfl,_⟩:=h
  rfl
 obtain ⟨c,R,u,rs,rows,cs,h,rfl,C0,rect,⟨ts,hu1,mu⟩,csl,hin,q⟩:=h
 have tl:ts.length=cs.length:=by rw [mu.len,AA]
 refine ⟨_,(pss_one (ps_ret (pe_callB (call_anyB rfl) rfl VV.any bt_any (pa_cons (pe_lc (own:=["cell"]) (capn:=["self","height"]) (capI:=[0,2]) rfl (blkC (defScope sRises) rfl rfl (by decide +kernel) rfl (fun y hy=>by rcases AK.mp hy with rfl | hy; exact ⟨rfl,rfl⟩; rcases AK.mp hy with rfl | hy; exact ⟨rfl,rfl⟩; cases hy)) (pi_list (pv 1)) (fun _ _ _ _ _ _=>pg_name (i:=0) ndcsh rfl (Or.inl rfl)) (fun _ _ _ _ _ _=>pifs_nil) (fun _ _ _ _ _ _=>(pe_cmpR op_gt (pe_ix (ix_listK (K:=K) rfl) (pe_ix (ix_listK (K:=K) rfl) (pe_fldK (K:=K) rfl (pv 1) rfl) (pe_ix (ix_tupK (K:=K) rfl) (pv 0) pe_int (fun _ _=>rfl)) (fun _ _=>rfl)) (pe_ix (ix_tupK (K:=K) rfl) (pv 0) pe_int (fun _ _=>rfl)) (fun _ _=>rfl)) (pv 2) (nomark _)))) pa_nil)))),?_⟩
 refine ⟨_,rfl,u,rfl,⟨_,SqL.of hu1⟩,fun D hD=>?_⟩
 refine ⟨Wd cs.length (fun i σ acc H5=>∃ (z:Option V),σ=[z,some (.ref c),some (.int h)]∧acc=((cs.take i).map fun d=>decide (hgt rows d > h)).map V.bl∧Same H H5∧H5 D=some (.lst acc)),wd_0 ⟨none,rfl,by rw [As]; rfl,same_upd hD _,upd_same⟩,?_⟩
 rintro i im σ acc H5 ⟨rfl,hi0,z,rfl,rfl,s5,hD5⟩
 refine lc_ask (K:=K) (xs:=ts.map V.ref) (SqL.of (s5 _ _ hu1)) (by rw [AA,tl]; exact hi0) (fun x hx hi=>?_) (fun hend=>?_)
 ·obtain ⟨t,ht1,rfl⟩:=ref_get hx
  have hi':i < cs.length:=by rw [AA,tl] at hi; exact hi
  have ec:=AD hi'
  have gt:=s5 _ _ (mu.at_ ht1 (by rw [AH,ec]; rfl))
  have hd:=hin _ (Az hi')
  generalize cs[i]=d at ec gt hd
  obtain ⟨y,x,row,v,e1,e2,e3,e4⟩:=ins_at hd rect
  subst e1
  have C5:=C0.same s5
  obtain ⟨dx,hcc⟩:=C5.ob
  obtain ⟨a,ha,hra⟩:=C5.ra.at_ e2
  refine ⟨_,rfl,c,CC,dx,_,_,rfl,hcc,VV.clC,VV.nRows,rfl,_,rfl,t,_,1,.int (y:Int),rfl,rfl,SqT.of gt,rfl,R,_,_,.ref a,rfl,rfl,SqL.of C5.hR,atI_nat (by rw [AH,ha]; rfl),_,rfl,t,_,0,.int (x:Int),rfl,rfl,SqT.of gt,rfl,a,_,_,.int v,rfl,rfl,SqL.of hra,atI_nat (by rw [AH,e3]; rfl),_,rfl,_,_,rfl,rfl,?_⟩
  refine ⟨hD5,(by rw [AA,AA,Ae]; exact big16 (by omega)),wd_next hi' ⟨_,rfl,?_,same_in s5 hD,upd_same⟩⟩
  rw [A9,ec,AM,AM]
  show _=_++[V.bl (decide (hgt rows ((x:Int),(y:Int)) > h))]
  rw [e4]
 ·rw [AA,tl] at hend
  rw [hend,AO (AE _)] at hD5
  refine ⟨D,_,rfl,SqL.of hD5,?_⟩
  have e:((cs.map fun d=>decide (hgt rows d > h)).any id)=risF rows cs h:=by
   unfold risF
   rw [List.any_map]
   rfl
  rw [e]
  exact q _ s5
def spDown (CC:Addr):Sp:=fun vs H Q _=>∃ (c R u:Addr) (rs:List Addr) (rows:List (List Int)) (cs:List (Int×Int)) (h:Int),vs=[.ref c,.ref u,.int h]∧ClAt CC H c R rs rows∧Rect rows∧rs.Nodup∧R ∉ rs∧u ∉ rs∧FtAt H u cs∧(∀ d∈cs,ins rows d=true) ∧
 ∀ H',Kp rs H H'→RowsAt H' rs (dwn rows cs h).1→Q (.int (dwn rows cs h).2) H'
theorem scDown:FnScope ["self","under","height","taken","cell","row"] ["self","under","height"] (defScope sDown):=⟨rfl,rfl,rfl,by decide +kernel,rfl,by decide +kernel,by decide +kernel⟩
theorem ok_down (VV:VT K mg CV CC) (F:Fun K "cut_down" "Cells.cut_down" sDown f fd'):FnOk P w K mg base (CX1 P w) 1 f fd' ["self","under","height"] (spDown CC):=by
 have nd:=scDown.nd
 refine F.ok1 scDown (fun vs H Q E h=>?_) (fun cdv A outer s H vs Q E hr h=>?_)
 ·obtain ⟨c,R,u,rs,rows,cs,h,rfl,_⟩:=h
  rfl
 obtain ⟨c,R,u,rs,rows,cs,h,rfl,⟨⟨dx,hc⟩,hR,ra⟩,rect,rnd,nR,nu,⟨ts,hu1,mu⟩,hin,q⟩:=h
 have tl:ts.length=cs.length:=by rw [mu.len,AA]
 have nc:c ∉ rs:=fun z=>by
  obtain ⟨xs,hx⟩:=ra.mem z
  rw [hc] at hx
  cases hx
 refine ⟨_,(pss_cons (ps_set (i:=3) nd rfl (Or.inl rfl) pe_int)
  (pss_cons (ps_for own1 rfl (pi_list (pv 1)) (pg_name (i:=4) nd rfl (Or.inl rfl)) (pss_cons (ps_set (i:=5) nd rfl (Or.inl rfl) (pe_ix ix_list (pe_fld (pv 0) rfl) (pe_ix ix_tup (pv 4) pe_int (fun _ _=>rfl)) (fun _ _=>rfl)))
  (pss_one (ps_if (pt_cmpR op_gt (pe_ix ix_list (pv 5) (pe_ix ix_tup (pv 4) pe_int (fun _ _=>rfl)) (fun _ _=>rfl)) (pv 2) (nomark _)) (pss_cons (ps_aug (i:=3) nd rfl (Or.inl rfl) (pe_op op_sub (pe_ix ix_list (pv 5) (pe_ix ix_tup (pv 4) pe_int (fun _ _=>rfl)) (fun _ _=>rfl)) (pv 2)) ip_add)
  (pss_one (ps_asg (pv 2) (pg_sub (pv 5) (pe_ix ix_tup (pv 4) pe_int (fun _ _=>rfl)) set_list)))) pss_nil))))
  (pss_one (ps_ret (pv 3))))),?_⟩
 refine ⟨_,rfl,u,rfl,⟨_,SqL.of hu1⟩,?_⟩
 refine for_list (K:=K) (xs:=ts.map V.ref) (fun i σ H2=>∃ (x4 x5:Option V),σ=[some (.ref c),some (.ref u),some (.int h),some (.int (dwn rows (cs.take i) h).2),x4,x5]∧Kp rs H H2∧RowsAt H2 rs (dwn rows (cs.take i) h).1) ⟨none,none,by rw [As]; rfl,fun _ _ _ e=>e,by rw [As]; exact ra⟩ ?_ ?_ ?_
 ·rintro i σ H2 _ ⟨x4,x5,rfl,k2,_⟩
  exact SqL.of (k2 _ _ nu hu1)
 ·rintro i v σ H2 hx ⟨x4,x5,rfl,k2,ra2⟩
  obtain ⟨t,ht,rfl⟩:=ref_get hx
  have hic:i < cs.length:=by have:=(AF.mp ht).1; omega
  have ec:=AD hic
  have gt0:=mu.at_ ht (by rw [AH,ec]; rfl)
  have gt:H2 t=some (.tup (pr cs[i])):=k2 _ _ (ra.out gt0) gt0
  have hi1:=hin _ (Az hic)
  generalize cs[i]=c1 at ec gt hi1 gt0
  have enx:dwn rows (cs.take (i + 1)) h=stepD h (dwn rows (cs.take i) h) c1:=by
   unfold dwn
   rw [A9,ec,List.foldl_append]
   rfl
  have al:Alike rows (dwn rows (cs.take i) h).1:=by
   unfold dwn
   rw [dwn_fst]
   exact cuts_alike _ _
  generalize dwn rows (cs.take i) h=S at ra2 enx al
  obtain ⟨rw0,tk⟩:=S
  have al':Alike rows rw0:=al
  have ra2':RowsAt H2 rs rw0:=ra2
  have hi2:ins rw0 c1=true:=by rw [← al'.ins]; exact hi1
  obtain ⟨iy,ix,row,v,e5,e6,e7,e8⟩:=ins_at hi2 (al'.rect rect)
  have ex:c1.1=(ix:Int):=congrArg Prod.fst e5
  have ey:c1.2=(iy:Int):=congrArg Prod.snd e5
  obtain ⟨a,ha,hra⟩:=ra2'.at_ e6
  have hR2:=k2 _ _ nR hR
  have hc2:=k2 _ _ nc hc
  have ay:atI (rs.map V.ref) c1.2=some (.ref a):=by rw [ey]; exact atI_nat (by rw [AH,ha]; rfl)
  have ax:atI (row.map V.int) c1.1=some (.int v):=by rw [ex]; exact atI_nat (by rw [AH,e7]; rfl)
  have jx:ixN (row.map V.int).length c1.1=some ix:=by rw [ex]; exact ixN_nat (by rw [AA]; exact (AF.mp e7).1)
  refine ⟨_,rfl,c,CC,dx,_,_,rfl,hc2,VV.clC,VV.nRows,rfl,_,rfl,t,_,1,.int c1.2,rfl,rfl,SqT.of gt,rfl,R,_,_,.ref a,rfl,rfl,SqL.of hR2,ay,?_⟩
  refine ⟨_,rfl,_,rfl,t,_,0,.int c1.1,rfl,rfl,SqT.of gt,rfl,a,_,_,.int v,rfl,rfl,SqL.of hra,ax,_,rfl,_,_,rfl,rfl,_,rfl,?_⟩
  rw [enx]
  refine ite2 (fun hg=>?_) (fun hg=>?_)
  ·have hg':v > h:=of_decide_eq_true hg
   refine ⟨_,rfl,_,rfl,_,rfl,t,_,0,.int c1.1,rfl,rfl,SqT.of gt,rfl,a,_,_,.int v,rfl,rfl,SqL.of hra,ax,_,rfl,_,_,rfl,rfl,_,_,rfl,rfl,?_⟩
   refine ⟨_,rfl,_,rfl,_,rfl,t,_,0,.int c1.1,rfl,rfl,SqT.of gt,rfl,a,_,_,ix,rfl,rfl,hra,jx,?_⟩
   have em:(row.map V.int).set ix (.int h)=(row.set ix h).map V.int:=List.map_set.symm
   rw [em]
   refine ⟨some (.ref t),some (.ref a),?_,fun x o nx e=>?_,?_⟩
   ·show _=[_,_,_,some (V.int (tk + if hgt rw0 c1 > h then hgt rw0 c1 - h else 0)),_,_]
    rw [e8,if_pos hg']
    rfl
   ·rw [upd_ne (fun z=>nx (by rw [z]; exact Al ha))]
    exact k2 x o nx e
   ·show RowsAt _ rs (cutC rw0 (c1,h))
    have e10:cutC rw0 (c1,h)=rw0.set iy (row.set ix h):=by
     unfold cutC
     simp only [e8]
     rw [ex,ey,Aq,Aq,e6]
     show rw0.set iy (row.set ix (mn v h))=_
     rw [show mn v h=h by unfold mn; rw [if_pos hg']]
    rw [e10]
    exact ra2'.set rnd ha
  ·have hg':¬ v > h:=fun z=>hg (decide_eq_true z)
   refine ⟨some (.ref t),some (.ref a),?_,k2,?_⟩
   ·show _=[_,_,_,some (V.int (tk + if hgt rw0 c1 > h then hgt rw0 c1 - h else 0)),_,_]
    rw [e8,if_neg hg',Int.add_zero]
    rfl
   ·show RowsAt _ rs (cutC rw0 (c1,h))
    have e10:cutC rw0 (c1,h)=rw0:=by
     unfold cutC
     simp only [e8]
     rw [ex,ey,Aq,Aq,e6]
     show rw0.set iy (row.set ix (mn v h))=_
     rw [show mn v h=v by unfold mn; split <;> omega,Car.set_same e7,Car.set_same e6]
    rw [e10]
    exact ra2'
 ·rintro σ H2 ⟨x4,x5,rfl,k2,ra2⟩
  rw [AA,tl,AO (AE _)] at ra2 ⊢
  exact ⟨_,rfl,q H2 k2 ra2⟩
def spCellsI (CC:Addr):Sp:=fun vs H Q _=>∃ (c dx b:Addr) (bed:List (List Int)),vs=[.ref c,.ref b]∧H c=some (.ins CC dx [])∧BdAt H b bed∧bed.length≤1000 ∧
 ∀ (R:Addr) (rs:List Addr) (H':Hp),(∀ x o,x≠c→H x=some o→H' x=some o)→H' c=some (.ins CC dx [("rows",.ref R)])→H' R=some (.lst (rs.map V.ref))→RowsAt H' rs bed→rs.Nodup→R ∉ rs→H R=none→(∀ r∈rs,H r=none)→Q .non H'
theorem scCellsI:FnScope ["self","bed"] ["self","bed"] (defScope sCellsI):=⟨rfl,rfl,rfl,by decide +kernel,rfl,by decide +kernel,by decide +kernel⟩
theorem ok_cellsI (T:LawT mg) (VV:VT K mg CV CC) (F:Fun K "__init__" "Cells.__init__" sCellsI f fd'):FnOk P w K mg base (CX1 P w) 1 f fd' ["self","bed"] (spCellsI CC):=by
 have nd:=scCellsI.nd
 refine F.ok1 scCellsI (fun vs H Q E h=>?_) (fun cdv A outer s H vs Q E hr h=>?_)
 ·obtain ⟨c,dx,b,bed,rfl,_⟩:=h
  rfl
 obtain ⟨c,dx,b,bed,rfl,hc,⟨bs,hb1,rb1⟩,bl,q⟩:=h
 refine ⟨_,(pss_one (ps_fld (pv 0) (pe_lc (own:=["row"]) (capn:=[]) (capI:=[]) rfl (blk0 rfl (by decide +kernel)) (pi_list (pv 1)) (fun _ _ _ _ _ _=>pg_name (i:=0) (nd1 "row") rfl (Or.inl rfl)) (fun _ _ _ _ _ _=>pifs_nil) (fun _ _ _ _ _ _=>(pe_callTy (call_listK (K:=K) rfl) rfl T.list bt_list (pa_cons (pv 0) pa_nil)))) rfl)),?_⟩
 refine ⟨_,rfl,b,rfl,⟨_,SqL.of hb1⟩,fun D hD=>?_⟩
 refine lc_rows (K:=K) hb1 rb1 bl (fun r row H2 R hr' k=>⟨_,rfl,r,_,rfl,.inl (SqL.of hr'),k⟩) hD (fun hs H1 s1 hD1 rh ndh nh nD=>?_)
 have hc1:=s1 _ _ hc
 have nDc:=ne_new hc hD
 have ncs:c ∉ hs:=fun z=>by
  have:=nh c z
  rw [hc] at this
  cases this
 refine ⟨_,rfl,c,CC,dx,_,rfl,hc1,VV.clC,VV.nRows,(by decide),?_⟩
 exact q D hs _ (fun x o n e=>by rw [upd_ne n]; exact s1 x o e) upd_same (by rw [upd_ne nDc]; exact hD1) (rh.keep fun r hr o e=>by rw [upd_ne (fun z=>ncs (by rw [← z]; exact hr))]; exact e) ndh nD hD nh
end
end Car
namespace L2
open PySem PySem.Spec PyProof.Rows
theorem pg_tupK {X:Cx} {K:PySem.W.Frag} {pos:Pos} {es:List Expr} {k:Nat} {t:TGs} {n:Nat} (hK:X.K=K) (hc:X.calm=true) (h:PGs X es t)
  (hn:(assignEach es X.env).length=n:=by rfl) (hst:(assignEach es X.env).findIdx? (·.1)=none:=by rfl):PG X (.Tuple es k pos) (gTup K n t):=by
 subst hK
 exact pg_tup hc h hn hst
end L2
namespace Car
open PySem L2
abbrev dF (x:Str):PyData:=.tuple [.str x]
def XE (K:PySem.W.Frag) (C:Addr) (H:Hp) (E:XK) (d:PyData):Prop:=∀ (dx:Addr) (v:V) (H':Hp),Same H H'→H' dx=some (.xd [("fault",v)])→Rp K H' v d→E (.ref C) (some dx) H'
def spFault (C:Addr):Sp:=fun vs H Q _=>∃ e y,vs=[.ref e,y]∧H e=some (ExcN e C)∧∀ dx,H dx=none→Q .non (upd (upd H dx (.xd [("fault",y)])) e (ExcD e C dx))
theorem fault_ok {K:PySem.W.Frag} {C p:Addr} {H:Hp} {E:XK} {d:PyData} {o:HO} (hp:H p=none) (hd:Rp K (upd H p o) (.ref p) d) (h:XE K C H E d):∀ e,upd H p o e=none→spFault C [.ref e,.ref p] (upd (upd H p o) e (ExcN e C)) (fun v H2=>v=.non∧∃ dx,H2 e=some (ExcD e C dx)∧E (.ref C) (some dx) (drop H2 e)) E0:=by
 intro e he
 have hep:e≠p:=fun z=>by rw [z,upd_same] at he; cases he
 refine ⟨e,.ref p,rfl,upd_same,fun dx hdx=>⟨rfl,dx,upd_same,?_⟩⟩
 have hde:dx≠e:=fun z=>by rw [z,upd_same] at hdx; cases hdx
 have hd1:upd H p o dx=none:=by rw [upd_ne hde] at hdx; exact hdx
 have s2:Same (upd H p o) (drop (upd (upd (upd (upd H p o) e (ExcN e C)) dx (.xd [("fault",.ref p)])) e (ExcD e C dx)) e):=fun b u q=>by
  have b1:b≠e:=ne_of_none q he
  have b2:b≠dx:=ne_of_none q hd1
  rw [drop_ne b1,upd_ne b1,upd_ne b2,upd_ne b1]
  exact q
 refine h dx (.ref p) _ ((same_upd hp o).trans s2) ?_ (hd.same s2)
 rw [drop_ne hde,upd_ne hde,upd_same]
structure FaT (P:Program) (w:World) (K:PySem.W.Frag) (mg:Str→Option Value) (base:Heap) (C fI:Addr) (fd:FuncData):Prop where
 S:StopC K mg "Fault" C fI "fault"
 ok:FnOk P w K mg base (CX1 P w) 1 fI fd ["self","fault"] (spFault C)
 bi:Binds K fd ["self","fault"] []
section
variable {P:Program} {w:World} {K:PySem.W.Frag} {mg:Str→Option Value} {base:Heap} {C fI f:Addr} {fd:FuncData}
theorem scFaultI:FnScope ["self","fault"] ["self","fault"] (defScope sFaultI):=⟨rfl,rfl,rfl,by decide +kernel,rfl,by decide +kernel,by decide +kernel⟩
theorem ok_fault {k:Nat} (S:StopC K mg "Fault" C fI "fault") (F:Fun K "__init__" "Fault.__init__" sFaultI f fd):FnOk P w K mg base (CX1 P w) (k + 1) f fd ["self","fault"] (spFault C):=by
 refine F.ok1 scFaultI (fun vs H Q E h=>?_) (fun cdv A outer s H vs Q E hr h=>?_)
 ·obtain ⟨e,y,rfl,_⟩:=h
  rfl
 obtain ⟨e,y,rfl,he,q⟩:=h
 refine ⟨_,pss_one (ps_xset S (pv 0) (pv 1) rfl),?_⟩
 exact ⟨_,rfl,_,rfl,e,rfl,he,q⟩
end
structure CS where
 rows:List (List Int)
 cut:Option Tool
 x:Int
 y:Int
 z:Int
structure CA where
 cv:Addr
 cells:Addr
 R:Addr
 sd:Addr
 sh:Addr
 rs:List Addr
def cuV (H:Hp) (ts:List Tool):Option Tool→V→Prop
 | none,cu=>cu=.non
 | some t,cu=>t∈ts∧∃ ct,cu=.ref ct∧CtAt H ct t
structure CIn (CV CC:Addr) (H0 H:Hp) (A:CA) (ts:List Tool) (S:CS):Prop where
 sm:Same H0 H
 ncv:H0 A.cv=none
 nR0:H0 A.R=none
 nsd:H0 A.sd=none
 nrs:∀ r∈A.rs,H0 r=none
 shelf:ShAt H0 A.sh ts
 feet:∀ t∈ts,t.1.length≤100
 ob:∃ dx cu,H A.cv=some (.ins CV dx [("stuff",.ref A.cells),("shelf",.ref A.sh),("cutter",cu),("stands",.ref A.sd)])∧cuV H0 ts S.cut cu
 cl:ClAt CC H A.cells A.R A.rs S.rows
 nd:A.rs.Nodup
 nR:A.R ∉ A.rs
 sd:H A.sd=some (.dK [(Sum.inr "x",.int S.x),(Sum.inr "y",.int S.y),(Sum.inr "z",.int S.z)])
 rect:Rect S.rows
 small:Small S.rows
 inb:ins S.rows (S.x,S.y)=true
 zb:0≤S.z∧S.z≤1000
theorem CIn.same {CV CC:Addr} {H0 H H':Hp} {A:CA} {ts:List Tool} {S:CS} (M:CIn CV CC H0 H A ts S) (s:Same H H'):CIn CV CC H0 H' A ts S:=by
 obtain ⟨dx,cu,e,h⟩:=M.ob
 exact ⟨M.sm.trans s,M.ncv,M.nR0,M.nsd,M.nrs,M.shelf,M.feet,⟨dx,cu,s _ _ e,h⟩,M.cl.same s,M.nd,M.nR,s _ _ M.sd,M.rect,M.small,M.inb,M.zb⟩
def IsAx (a:Str):Prop:=a="x"∨a="y"∨a="z"
def roomF (S:CS) (a:Str) (to:Int):Bool:=if a="x" then ins S.rows (to,S.y) else if a="y" then ins S.rows (S.x,to) else decide (0≤to∧to≤1000)
def CS.at_ (S:CS) (a:Str):Int:=if a="x" then S.x else if a="y" then S.y else S.z
def CS.to_ (S:CS) (a:Str) (to:Int):CS:=if a="x" then { S with x:=to } else if a="y" then { S with y:=to } else { S with z:=to }
def mx (a b:Int):Int:=if b > a then b else a
def wlo (S:CS) (a:Str) (to:Int) (b:Str):Int:=if a=b then mn (S.at_ a) to else S.at_ b
def whi (S:CS) (a:Str) (to:Int) (b:Str):Int:=if a=b then mx (S.at_ a) to else S.at_ b
theorem xy:("x":Str)≠"y":=by decide +kernel
theorem xz:("x":Str)≠"z":=by decide +kernel
theorem yz:("y":Str)≠"z":=by decide +kernel
theorem at_x (S:CS):S.at_ "x"=S.x:=if_pos rfl
theorem at_y (S:CS):S.at_ "y"=S.y:=by unfold CS.at_; rw [if_neg (Ne.symm xy),if_pos rfl]
theorem at_z (S:CS):S.at_ "z"=S.z:=by unfold CS.at_; rw [if_neg (Ne.symm xz),if_neg (Ne.symm yz)]
theorem wlo_same (S:CS) (a:Str) (to:Int):wlo S a to a=mn (S.at_ a) to:=if_pos rfl
theorem whi_same (S:CS) (a:Str) (to:Int):whi S a to a=mx (S.at_ a) to:=if_pos rfl
theorem wlo_ne (S:CS) {a b:Str} (to:Int) (h:a≠b):wlo S a to b=S.at_ b:=if_neg h
theorem whi_ne (S:CS) {a b:Str} (to:Int) (h:a≠b):whi S a to b=S.at_ b:=if_neg h
section
variable {P:Program} {w:World} {K:PySem.W.Frag} {mg:Str→Option Value} {base:Heap} {CV CC f:Addr} {fd':FuncData}
def spRoom (CV CC:Addr):Sp:=fun vs H Q _=>∃ (H0:Hp) (A:CA) (ts:List Tool) (S:CS) (a:Str) (to:Int),vs=[.ref A.cv,.str a,.int to]∧CIn CV CC H0 H A ts S∧IsAx a∧Q (.bl (roomF S a to)) H
theorem scRoom:FnScope ["self","axis","to"] ["self","axis","to"] (defScope sRoom):=⟨rfl,rfl,rfl,by decide +kernel,rfl,by decide +kernel,by decide +kernel⟩
theorem ok_room (VV:VT K mg CV CC) (MH:Mt P w K mg base CC "has_cell" 1 ["self","x","y"] (spHas CC)) (F:Fun K "has_room" "Carver.has_room" sRoom f fd'):FnOk P w K mg base (CX1 P w) 2 f fd' ["self","axis","to"] (spRoom CV CC):=by
 have nd:=scRoom.nd
 refine F.ok1 scRoom (fun vs H Q E h=>?_) (fun cdv A outer s H vs Q E hr h=>?_)
 ·obtain ⟨H0,A,ts,S,a,to,rfl,_⟩:=h
  rfl
 obtain ⟨H0,A,ts,S,a,to,rfl,M,ax,q⟩:=h
 have hr1:Room 1 _:=hr.mono (by decide)
 have hu:=hu_of' hr
 obtain ⟨tt,htop⟩:=VV.top
 refine ⟨_,(pss_cons (ps_if (pt_cmpR op_eq (pv 1) pe_str (nomark _)) (pss_one (ps_ret (pf_meth MH (pe_fld (pv 0) rfl) hr1 (pass1 (E:=E)) (pa_cons (pv 2) (pa_cons (pe_dget hu (pe_fld (pv 0) rfl) pe_str (fun _ _=>rfl)) pa_nil))))) pss_nil)
  (pss_cons (ps_if (pt_cmpR op_eq (pv 1) pe_str (nomark _)) (pss_one (ps_ret (pf_meth MH (pe_fld (pv 0) rfl) hr1 (pass1 (E:=E)) (pa_cons (pe_dget hu (pe_fld (pv 0) rfl) pe_str (fun _ _=>rfl)) (pa_cons (pv 2) pa_nil))))) pss_nil)
  (pss_one (ps_ret (pe_chain op_le op_le pe_int (pv 2) (pe_glob (v:=.int 1000) rfl htop ⟨_,rfl⟩)))))),?_⟩
 obtain ⟨dx,cu,hcv,_⟩:=M.ob
 obtain ⟨kx,hcl⟩:=M.cl.ob
 have gx:DGet H A.sd (.str "x") (some (.int S.x)):=DGet.k (k:=Sum.inr "x") M.sd
 have gy:DGet H A.sd (.str "y") (some (.int S.y)):=DGet.k (k:=Sum.inr "y") M.sd
 refine ⟨_,rfl,rfl,_,rfl,?_⟩
 refine ite2 (fun h1=>?_) (fun h1=>?_)
 ·have e:a="x":=V.str.inj (of_decide_eq_true h1)
  subst e
  refine ⟨_,rfl,A.cv,CV,dx,_,_,rfl,hcv,VV.clV,VV.nStuff,rfl,A.cells,kx,_,rfl,hcl,rfl,_,rfl,_,rfl,A.cv,CV,dx,_,_,rfl,hcv,VV.clV,VV.nStands,rfl,A.sd,_,rfl,gy,A.cells,A.R,A.rs,S.rows,to,S.y,rfl,M.cl,M.rect,?_⟩
  exact q
 ·have e:a≠"x":=fun z=>h1 (decide_eq_true (congrArg V.str z))
  refine ⟨_,rfl,rfl,_,rfl,?_⟩
  unfold roomF at q
  rw [if_neg e] at q
  refine ite2 (fun h2=>?_) (fun h2=>?_)
  ·have e2:a="y":=V.str.inj (of_decide_eq_true h2)
   rw [if_pos e2] at q
   refine ⟨_,rfl,A.cv,CV,dx,_,_,rfl,hcv,VV.clV,VV.nStuff,rfl,A.cells,kx,_,rfl,hcl,rfl,_,rfl,A.cv,CV,dx,_,_,rfl,hcv,VV.clV,VV.nStands,rfl,A.sd,_,rfl,gx,_,rfl,A.cells,A.R,A.rs,S.rows,S.x,to,rfl,M.cl,M.rect,?_⟩
   exact q
  ·rw [if_neg (fun z=>h2 (decide_eq_true (congrArg V.str z)))] at q
   refine ⟨_,rfl,_,_,rfl,rfl,_,rfl,?_⟩
   refine ite2 (fun h3=>?_) (fun h3=>?_)
   ·have h3':=of_decide_eq_true h3
    refine ⟨_,_,rfl,rfl,?_⟩
    rw [show decide (0≤to∧to≤1000)=decide (to≤1000) from decide_eq_decide.mpr ⟨fun z=>z.2,fun z=>⟨h3',z⟩⟩] at q
    exact q
   ·rw [show decide (0≤to∧to≤1000)=false from decide_eq_false fun z=>h3 (decide_eq_true z.1)] at q
    exact q
def spWayTo (CV CC:Addr):Sp:=fun vs H Q _=>∃ (H0:Hp) (A:CA) (ts:List Tool) (S:CS) (a:Str) (to:Int),vs=[.ref A.cv,.str a,.int to]∧CIn CV CC H0 H A ts S∧IsAx a ∧
 ∀ wy H',Same H H'→WyAt H' wy (wlo S a to "x") (whi S a to "x") (wlo S a to "y") (whi S a to "y") (wlo S a to "z") (whi S a to "z")→Q (.ref wy) H'
theorem scWayTo:FnScope ["self","axis","to","here","way"] ["self","axis","to"] (defScope sWayTo):=⟨rfl,rfl,rfl,by decide +kernel,rfl,by decide +kernel,by decide +kernel⟩
theorem ndop:(["one","place"]:List Str).Nodup:=by decide +kernel
theorem ok_wayTo (T:LawT mg) (VV:VT K mg CV CC) (F:Fun K "way_to" "Carver.way_to" sWayTo f fd'):FnOk P w K mg base (CX1 P w) 1 f fd' ["self","axis","to"] (spWayTo CV CC):=by
 have nd:=scWayTo.nd
 refine F.ok1 scWayTo (fun vs H Q E h=>?_) (fun cdv A outer s H vs Q E hr h=>?_)
 ·obtain ⟨H0,A,ts,S,a,to,rfl,_⟩:=h
  rfl
 obtain ⟨H0,A,ts,S,a,to,rfl,M,ax,q⟩:=h
 have hu:=hu_of' hr
 refine ⟨_,(pss_cons (ps_set (i:=3) nd rfl (Or.inl rfl) (pe_dget hu (pe_fld (pv 0) rfl) (pv 1) (fun _ _=>rfl)))
  (pss_cons (ps_set (i:=4) nd rfl (Or.inl rfl) (pe_callTy (call_dict_l rfl) rfl VV.dict bt_dict (pa_cons (pe_frz (pe_lc (own:=["one","place"]) (capn:=[]) (capI:=[]) rfl (blk0 rfl (by decide +kernel)) (pi_items (pe_fld (pv 0) rfl)) (fun _ _ _ _ _ _=>pg_tupK (K:=K) (n:=2) rfl rfl (pgs_cons (pg_name (i:=0) ndop rfl (Or.inl rfl)) (pgs_cons (pg_name (i:=1) ndop rfl (Or.inl rfl)) pgs_nil))) (fun _ _ _ _ _ _=>pifs_nil) (fun _ _ _ _ _ _=>(pe_tup (pa_cons (pv 0) (pa_cons (pe_tup (pa_cons (pv 1) (pa_cons (pv 1) pa_nil))) pa_nil)))))) pa_nil)))
  (pss_cons (ps_dput hu (pv 4) (pv 1) (pe_tup (pa_cons (pe_callB (call_min2 rfl) rfl T.min bt_min (pa_cons (pv 3) (pa_cons (pv 2) pa_nil))) (pa_cons (pe_callB (call_max2 rfl) rfl T.max bt_max (pa_cons (pv 3) (pa_cons (pv 2) pa_nil))) pa_nil))) rfl)
  (pss_one (ps_ret (pv 4)))))),?_⟩
 obtain ⟨dx,cu,hcv,_⟩:=M.ob
 have ga:DGet H A.sd (.str a) (some (.int (S.at_ a))):=by
  rcases ax with rfl | rfl | rfl
  ·exact DGet.k (k:=Sum.inr "x") M.sd
  ·exact DGet.k (k:=Sum.inr "y") M.sd
  ·exact DGet.k (k:=Sum.inr "z") M.sd
 refine ⟨_,rfl,A.cv,CV,dx,_,_,rfl,hcv,VV.clV,VV.nStands,rfl,_,rfl,A.sd,_,rfl,ga,?_⟩
 generalize hkv:([(Sum.inr "x",.int S.x),(Sum.inr "y",.int S.y),(Sum.inr "z",.int S.z)]:List (Key×V))=kvs
 have hsd:=M.sd
 rw [hkv] at hsd
 have kl:kvs.length=3:=by rw [← hkv]; rfl
 refine ⟨A.sd,_,hsd,Ad,fun ob=>?_⟩
 have ncs:A.cv≠A.sd:=fun z=>by rw [z,hsd] at hcv; cases hcv
 refine ⟨_,rfl,A.cv,CV,dx,_,_,rfl,(by rw [upd_ne ncs]; exact hcv),VV.clV,VV.nStands,rfl,A.sd,ob,kvs,rfl,upd_same,fun D hD=>?_⟩
 have nDs:D≠A.sd:=fun z=>by rw [z,upd_same] at hD; cases hD
 have hD1:H D=none:=by rw [upd_ne nDs] at hD; exact hD
 refine ⟨Wd 3 (fun i σ acc H5=>∃ (z z':Option V) (L:List (Addr×Addr)),σ=[z,z']∧acc=L.map (fun p=>V.ref p.1)∧L.length=i∧(∀ (j:Nat) (p:Addr×Addr) (kv:Key×V),L[j]?=some p→kvs[j]?=some kv→H5 p.1=some (.tup [kV kv.1,.ref p.2])∧H5 p.2=some (.tup [kv.2,kv.2]))∧H5 A.sd=some (.frz ob (.dK kvs))∧(∀ x o,x≠A.sd→H x=some o→H5 x=some o)∧H5 D=some (.lst acc)),
  wd_0 ⟨none,none,[],rfl,rfl,rfl,(fun _ _ _ h=>by cases h),by rw [upd_ne (Ne.symm nDs),upd_same],fun x o n e=>by rw [upd_ne (ne_of_none e hD1),upd_ne n]; exact e,upd_same⟩,?_⟩
 rintro i im σ acc H5 ⟨rfl,hi0,z,z',L,rfl,rfl,Ll,hL,hs5,k5,hD5⟩
 refine im_ask hs5 (by rw [kl]; exact hi0) (fun kv hkv' hi T' hT'=>?_) (fun hend=>?_)
 ·rw [kl] at hi
  have v1:=same_upd hT' (.tup [kV kv.1,kv.2])
  refine ⟨T',_,rfl,SqT.of upd_same,rfl,_,_,rfl,_,_,rfl,rfl,?_⟩
  refine ⟨_,rfl,_,rfl,_,rfl,le2,fun t1 ht1=>⟨le2,fun t2 ht2=>?_⟩⟩
  have v2:=same_upd ht1 (.tup [kv.2,kv.2])
  have v3:=same_upd ht2 (.tup [kV kv.1,.ref t1])
  have vv:=v1.trans (v2.trans v3)
  have hDn:=vv _ _ hD5
  have tupne:∀ {G:Hp} {p:Addr} {m:List V},G D=some (.lst (L.map fun p=>V.ref p.1))→G p=some (.tup m)→p≠D:=fun g e z=>by rw [z,g] at e; cases e
  refine ⟨hDn,(by rw [AA,Ll]; exact AX hi (by decide)),wd_next hi ⟨_,_,L++[(t2,t1)],rfl,by rw [AM]; rfl,by rw [AN,Ll]; rfl,fun j p kv' hp hk=>?_,by rw [upd_ne (Ne.symm nDs)]; exact vv _ _ hs5,fun x o n e=>by rw [upd_ne (ne_of_none e hD1)]; exact vv _ _ (k5 x o n e),upd_same⟩⟩
  rcases snoc_get hp with ⟨_,h1⟩ | ⟨rfl,rfl⟩
  ·obtain ⟨g1,g2⟩:=hL j p kv' h1 hk
   exact ⟨by rw [upd_ne (tupne hD5 g1)]; exact vv _ _ g1,by rw [upd_ne (tupne hD5 g2)]; exact vv _ _ g2⟩
  ·rw [Ll,hkv'] at hk
   cases hk
   have g2:=v3 _ _ (upd_same (a:=t1) (o:=.tup [kv.2,kv.2]))
   exact ⟨by rw [upd_ne (tupne hDn upd_same)]; exact upd_same,by rw [upd_ne (tupne hDn g2)]; exact g2⟩
 rw [kl] at hend
 subst hend
 refine ⟨hs5,?_⟩
 have k6:Same H (upd H5 A.sd (.dK kvs)):=fun x o e=>by
  by_cases hx:x=A.sd
  ·subst hx
   rw [hsd] at e
   cases e
   exact upd_same
  ·rw [upd_ne hx]
   exact k5 x o hx e
 obtain ⟨⟨a1,b1⟩,⟨a2,b2⟩,⟨a3,b3⟩,rfl⟩:∃ p1 p2 p3,L=[p1,p2,p3]:=by
  match L,Ll with
  | [p1,p2,p3],_=>exact ⟨p1,p2,p3,rfl⟩
 subst hkv
 obtain ⟨x1,x2⟩:=hL 0 _ _ rfl rfl
 obtain ⟨y1,y2⟩:=hL 1 _ _ rfl rfl
 obtain ⟨z1,z2⟩:=hL 2 _ _ rfl rfl
 have tn:∀ {p:Addr} {m:List V},H5 p=some (.tup m)→upd H5 A.sd (.dK [(Sum.inr "x",.int S.x),(Sum.inr "y",.int S.y),(Sum.inr "z",.int S.z)]) p=some (.tup m):=fun e=>by rw [upd_ne (fun z=>by rw [z,hs5] at e; cases e)]; exact e
 have hD6:upd H5 A.sd (.dK [(Sum.inr "x",.int S.x),(Sum.inr "y",.int S.y),(Sum.inr "z",.int S.z)]) D=some (.lst [.ref a1,.ref a2,.ref a3]):=by rw [upd_ne nDs]; exact hD5
 replace x1:=tn x1
 replace x2:=tn x2
 replace y1:=tn y1
 replace y2:=tn y2
 replace z1:=tn z1
 replace z2:=tn z2
 generalize upd H5 A.sd (.dK [(Sum.inr "x",.int S.x),(Sum.inr "y",.int S.y),(Sum.inr "z",.int S.z)])=H6 at k6 x1 x2 y1 y2 z1 z2 hD6
 refine ⟨D,[(a1,Sum.inr "x",.ref b1),(a2,Sum.inr "y",.ref b2),(a3,Sum.inr "z",.ref b3)],rfl,hD6,?_,fun wy hwy=>?_⟩
 ·intro t ht
  simp only [AK,Ay,or_false] at ht
  rcases ht with rfl | rfl | rfl
  ·exact x1
  ·exact y1
  ·exact z1
 have u7:=same_upd hwy (.dK [(Sum.inr "x",.ref b1),(Sum.inr "y",.ref b2),(Sum.inr "z",.ref b3)])
 have e7:upd H6 wy (.dK [(Sum.inr "x",.ref b1),(Sum.inr "y",.ref b2),(Sum.inr "z",.ref b3)]) wy=some (.dK [(Sum.inr "x",.ref b1),(Sum.inr "y",.ref b2),(Sum.inr "z",.ref b3)]):=upd_same
 have ea:putAllK [] (([(a1,Sum.inr "x",.ref b1),(a2,Sum.inr "y",.ref b2),(a3,Sum.inr "z",.ref b3)]:List (Addr×Key×V)).map (·.2))=([(Sum.inr "x",.ref b1),(Sum.inr "y",.ref b2),(Sum.inr "z",.ref b3)]:List (Key×V)):=by with_unfolding_all rfl
 rw [ea]
 generalize upd H6 wy (.dK [(Sum.inr "x",.ref b1),(Sum.inr "y",.ref b2),(Sum.inr "z",.ref b3)])=H7 at u7 e7
 refine ⟨_,rfl,_,rfl,_,_,rfl,_,rfl,_,rfl,_,_,rfl,le2,fun t ht=>?_⟩
 have u8:=same_upd ht (.tup [V.int (mn (S.at_ a) to),.int (mx (S.at_ a) to)])
 have s7:=k6.trans u7
 have nwy:H wy=none:=k6.free hwy
 have fin:∀ kvs',Same H (upd (upd H7 t (.tup [V.int (mn (S.at_ a) to),.int (mx (S.at_ a) to)])) wy (.dK kvs')):=fun kvs'=>same_in (s7.trans u8) nwy
 have keep:∀ {p:Addr} {m:List V} {kvs':List (Key×V)},H6 p=some (.tup m)→upd (upd H7 t (.tup [V.int (mn (S.at_ a) to),.int (mx (S.at_ a) to)])) wy (.dK kvs') p=some (.tup m):=fun e=>by rw [upd_ne (fun z=>by rw [z,hwy] at e; cases e)]; exact u8 _ _ (u7 _ _ e)
 have nt:t≠wy:=fun z=>by rw [z,e7] at ht; cases ht
 have et:∀ kvs',upd (upd H7 t (.tup [V.int (mn (S.at_ a) to),.int (mx (S.at_ a) to)])) wy (.dK kvs') t=some (.tup [V.int (mn (S.at_ a) to),.int (mx (S.at_ a) to)]):=fun kvs'=>by rw [upd_ne nt,upd_same]
 rcases ax with rfl | rfl | rfl
 ·refine ⟨_,rfl,_,rfl,wy,_,rfl,DPut.k (k:=Sum.inr "x") (u8 _ _ e7) (show 3 < AR by decide),_,rfl,q wy _ (fin _) ⟨t,b2,b3,?_,?_,?_,?_⟩⟩
  ·rw [upd_same]
   with_unfolding_all rfl
  ·rw [wlo_same,whi_same]
   exact et _
  ·rw [wlo_ne S to xy,whi_ne S to xy,at_y]
   exact keep y2
  ·rw [wlo_ne S to xz,whi_ne S to xz,at_z]
   exact keep z2
 ·refine ⟨_,rfl,_,rfl,wy,_,rfl,DPut.k (k:=Sum.inr "y") (u8 _ _ e7) (show 3 < AR by decide),_,rfl,q wy _ (fin _) ⟨b1,t,b3,?_,?_,?_,?_⟩⟩
  ·rw [upd_same]
   with_unfolding_all rfl
  ·rw [wlo_ne S to (Ne.symm xy),whi_ne S to (Ne.symm xy),at_x]
   exact keep x2
  ·rw [wlo_same,whi_same]
   exact et _
  ·rw [wlo_ne S to yz,whi_ne S to yz,at_z]
   exact keep z2
 ·refine ⟨_,rfl,_,rfl,wy,_,rfl,DPut.k (k:=Sum.inr "z") (u8 _ _ e7) (show 3 < AR by decide),_,rfl,q wy _ (fin _) ⟨b1,b2,t,?_,?_,?_,?_⟩⟩
  ·rw [upd_same]
   with_unfolding_all rfl
  ·rw [wlo_ne S to (Ne.symm xz),whi_ne S to (Ne.symm xz),at_x]
   exact keep x2
  ·rw [wlo_ne S to (Ne.symm yz),whi_ne S to (Ne.symm yz),at_y]
   exact keep y2
  ·rw [wlo_same,whi_same]
   exact et _
end
inductive Mo where
 | hold (n:Int)
 | go (k a:Str) (to:Int)
def Mo.ok:Mo→Prop
 | .hold _=>True
 | .go k a _=>k≠"hold"∧IsAx a
def moV:Mo→List V
 | .hold n=>[.str "hold",.int n]
 | .go k a to=>[.str k,.str a,.int to]
def nW (S:CS) (a:Str) (to:Int) (b:Str):Nat:=(whi S a to b - wlo S a to b + 1).toNat
def undS (S:CS) (t:Tool) (a:Str) (to:Int):List (Int×Int):=undW S.rows t.1 (wlo S a to "x") (nW S a to "x") (wlo S a to "y") (nW S a to "y")
def cutR (S:CS) (t:Tool) (k a:Str) (to:Int):Except Str (Int×List (List Int)) :=
 if k="fast" then (if risF S.rows (undS S t a to) (wlo S a to "z")=true then .error "crash" else .ok (0,S.rows))
 else (if risF S.rows (undS S t a to) (wlo S a to "z" + t.2)=true then .error "bite" else .ok ((dwn S.rows (undS S t a to) (wlo S a to "z")).2,(dwn S.rows (undS S t a to) (wlo S a to "z")).1))
def stepC (ts:List Tool) (S:CS):Mo→Except Str (Int×CS)
 | .hold n=>if 0≤n∧n < ts.length then (if S.z=1000 then (match ts[n.toNat]? with | some t=>.ok (0,{ S with cut:=some t }) | none=>.error "shelf") else .error "low") else .error "shelf"
 | .go k a to=>match S.cut with
  | none=>.error "bare"
  | some t=>if roomF S a to=true then (match cutR S t k a to with | .ok r=>.ok (r.1,({ S with rows:=r.2 }:CS).to_ a to) | .error x=>.error x) else .error "out"
def FrA (A:CA) (H H':Hp):Prop:=∀ x o,x≠A.cv→x≠A.sd→x ∉ A.rs→H x=some o→H' x=some o
theorem FrA.of {A:CA} {H H':Hp} (s:Same H H'):FrA A H H':=fun x o _ _ _ e=>s x o e
theorem FrA.trans {A:CA} {H H1 H2:Hp} (h:FrA A H H1) (g:FrA A H1 H2):FrA A H H2:=fun x o a b c e=>g x o a b c (h x o a b c e)
section
variable {CV CC:Addr} {H0 H H1 H':Hp} {A:CA} {ts:List Tool} {S:CS}
theorem CIn.out (M:CIn CV CC H0 H A ts S):A.cv ∉ A.rs∧A.cells ∉ A.rs∧A.sd ∉ A.rs∧A.cv≠A.sd∧A.R≠A.cv∧A.R≠A.sd∧A.cells≠A.sd∧A.R≠A.cells:=by
 obtain ⟨dx,cu,e,_⟩:=M.ob
 obtain ⟨kx,e2⟩:=M.cl.ob
 have l:∀ r∈A.rs,∃ xs,H r=some (.lst xs):=fun r hr=>M.cl.ra.mem hr
 refine ⟨fun z=>?_,fun z=>?_,fun z=>?_,fun z=>?_,fun z=>?_,fun z=>?_,fun z=>?_,fun z=>?_⟩
 ·obtain ⟨xs,h⟩:=l _ z
  rw [e] at h
  cases h
 ·obtain ⟨xs,h⟩:=l _ z
  rw [e2] at h
  cases h
 ·obtain ⟨xs,h⟩:=l _ z
  rw [M.sd] at h
  cases h
 ·rw [z,M.sd] at e
  cases e
 ·have h:=M.cl.hR
  rw [z,e] at h
  cases h
 ·have h:=M.cl.hR
  rw [z,M.sd] at h
  cases h
 ·rw [z,M.sd] at e2
  cases e2
 ·have h:=M.cl.hR
  rw [z,e2] at h
  cases h
theorem CIn.cutd (M:CIn CV CC H0 H A ts S) {rows':List (List Int)} (k:Kp A.rs H H') (ra:RowsAt H' A.rs rows') (al:Alike S.rows rows'):CIn CV CC H0 H' A ts { S with rows:=rows' }:=by
 obtain ⟨dx,cu,e,h⟩:=M.ob
 obtain ⟨kx,e2⟩:=M.cl.ob
 obtain ⟨o1,o2,o3,_⟩:=M.out
 exact ⟨k.same M.sm M.nrs,M.ncv,M.nR0,M.nsd,M.nrs,M.shelf,M.feet,⟨dx,cu,k _ _ o1 e,h⟩,⟨⟨kx,k _ _ o2 e2⟩,k _ _ M.nR M.cl.hR,ra⟩,M.nd,M.nR,k _ _ o3 M.sd,al.rect M.rect,⟨by rw [← al.1]; exact M.small.1,fun r hr=>by
  obtain ⟨i,hi⟩:=List.getElem?_of_mem hr
  have hia:i < S.rows.length:=by rw [al.1]; exact (AF.mp hi).1
  rw [← al.2 i _ _ (AD hia) hi]
  exact M.small.2 _ (Az hia)⟩,by show ins rows' (S.x,S.y)=true; rw [← al.ins]; exact M.inb,M.zb⟩
theorem in_lt {rows:List (List Int)} {x y:Int} (h:ins rows (x,y)=true) (sm:Small rows) (R:Rect rows):0≤x∧x < 40∧0≤y∧y < 40:=by
 obtain ⟨h1,h2,h3,h4⟩:0≤y∧y < rows.length∧0≤x∧x < (rows.headD []).length:=of_decide_eq_true h
 have hw:(rows.headD []).length≤40:=by
  cases hr:rows with
  | nil=>exact absurd hr R.1
  | cons r0 rr=>exact sm.2 r0 (by rw [hr]; exact AZ)
 have:=sm.1
 omega
theorem CIn.way (M:CIn CV CC H0 H A ts S) {a:Str} {to:Int} (ax:IsAx a) (rm:roomF S a to=true) :
  whi S a to "x"=wlo S a to "x" + (nW S a to "x":Int) - 1∧whi S a to "y"=wlo S a to "y" + (nW S a to "y":Int) - 1∧nW S a to "x"≤40∧nW S a to "y"≤40∧0≤wlo S a to "x"∧wlo S a to "x"≤1000∧0≤wlo S a to "y"∧wlo S a to "y"≤1000:=by
 have b:=in_lt M.inb M.small M.rect
 have mnx:∀ p q:Int,mn p q≤mx p q∧(mn p q=p∨mn p q=q)∧(mx p q=p∨mx p q=q):=fun p q=>by
  unfold mn mx
  split <;> split <;> omega
 unfold nW
 rcases ax with rfl | rfl | rfl
 ·have b2:0≤to∧to < 40∧_:=in_lt (show ins S.rows (to,S.y)=true from rm) M.small M.rect
  rw [wlo_same,whi_same,wlo_ne S to xy,whi_ne S to xy,at_x,at_y]
  have:=mnx S.x to
  omega
 ·have rm':ins S.rows (S.x,to)=true:=by
   unfold roomF at rm
   rw [if_neg (Ne.symm xy),if_pos rfl] at rm
   exact rm
  have b2:=in_lt rm' M.small M.rect
  rw [wlo_same,whi_same,wlo_ne S to (Ne.symm xy),whi_ne S to (Ne.symm xy),at_x,at_y]
  have:=mnx S.y to
  omega
 ·rw [wlo_ne S to (Ne.symm xz),whi_ne S to (Ne.symm xz),wlo_ne S to (Ne.symm yz),whi_ne S to (Ne.symm yz),at_x,at_y]
  omega
theorem CIn.stand (M:CIn CV CC H0 H A ts S) {a:Str} {to:Int} (ax:IsAx a) (rm:roomF S a to=true):CIn CV CC H0 (upd H A.sd (.dK (putK [(Sum.inr "x",.int S.x),(Sum.inr "y",.int S.y),(Sum.inr "z",.int S.z)] (Sum.inr a:Key) (.int to)))) A ts (S.to_ a to):=by
 obtain ⟨dx,cu,e,h⟩:=M.ob
 obtain ⟨kx,e2⟩:=M.cl.ob
 obtain ⟨o1,o2,o3,o4,o5,o6,o7,_⟩:=M.out
 have kp:∀ x o,x≠A.sd→H x=some o→upd H A.sd (.dK (putK [(Sum.inr "x",.int S.x),(Sum.inr "y",.int S.y),(Sum.inr "z",.int S.z)] (Sum.inr a:Key) (.int to))) x=some o:=fun x o n q=>by rw [upd_ne n]; exact q
 have ecut:(S.to_ a to).cut=S.cut∧(S.to_ a to).rows=S.rows:=by
  unfold CS.to_
  split
  ·exact ⟨rfl,rfl⟩
  ·split <;> exact ⟨rfl,rfl⟩
 refine ⟨same_in M.sm M.nsd,M.ncv,M.nR0,M.nsd,M.nrs,M.shelf,M.feet,⟨dx,cu,kp _ _ o4 e,by rw [ecut.1]; exact h⟩,⟨⟨kx,kp _ _ o7 e2⟩,kp _ _ o6 M.cl.hR,by rw [ecut.2]; exact M.cl.ra.keep fun r hr o q=>kp r o (fun z=>o3 (by rw [← z]; exact hr)) q⟩,M.nd,M.nR,?_,by rw [ecut.2]; exact M.rect,by rw [ecut.2]; exact M.small,?_,?_⟩
 ·rw [upd_same]
  rcases ax with rfl | rfl | rfl <;> with_unfolding_all rfl
 ·rw [ecut.2]
  rcases ax with rfl | rfl | rfl
  ·exact rm
  ·unfold roomF at rm
   rw [if_neg (Ne.symm xy),if_pos rfl] at rm
   unfold CS.to_
   rw [if_neg (Ne.symm xy),if_pos rfl]
   exact rm
  ·unfold CS.to_
   rw [if_neg (Ne.symm xz),if_neg (Ne.symm yz)]
   exact M.inb
 ·rcases ax with rfl | rfl | rfl
  ·exact M.zb
  ·unfold CS.to_
   rw [if_neg (Ne.symm xy),if_pos rfl]
   exact M.zb
  ·unfold roomF at rm
   rw [if_neg (Ne.symm xz),if_neg (Ne.symm yz)] at rm
   unfold CS.to_
   rw [if_neg (Ne.symm xz),if_neg (Ne.symm yz)]
   exact of_decide_eq_true rm
theorem undW_ok {rows:List (List Int)} {foot:List (Int×Int)} {x0 y0:Int} {nx ny:Nat} (f:foot.length≤100) (hx:nx≤40) (hy:ny≤40):(undW rows foot x0 nx y0 ny).length≤160000∧∀ d∈undW rows foot x0 nx y0 ny,ins rows d=true:=by
 refine ⟨Au (List.length_filter_le _ _) (Au (len_adds _ _) ?_),fun d hd=>(Aj.mp hd).2⟩
 rw [cellsW_len]
 have e1:ny * (nx * foot.length)≤40 * (40 * 100):=Nat.mul_le_mul hy (Nat.mul_le_mul hx f)
 show 0 + _≤_
 omega
end
section
variable {P:Program} {w:World} {K:PySem.W.Frag} {mg:Str→Option Value} {base:Heap} {CV CC C fI f:Addr} {fd fd':FuncData}
def spPass (K:PySem.W.Frag) (C CV CC:Addr):Sp:=fun vs H Q E=>∃ (H0:Hp) (A:CA) (ts:List Tool) (S:CS) (t:Tool) (wy:Addr) (x0 y0 z0 z1:Int) (nx ny:Nat),vs=[.ref A.cv,.ref wy]∧CIn CV CC H0 H A ts S∧S.cut=some t∧WyAt H wy x0 (x0 + (nx:Int) - 1) y0 (y0 + (ny:Int) - 1) z0 z1∧nx≤40∧ny≤40∧-1000≤x0∧x0≤1000∧-1000≤y0∧y0≤1000 ∧
 if risF S.rows (undW S.rows t.1 x0 nx y0 ny) z0=true then XE K C H E (dF "crash") else ∀ H',Same H H'→Q (.int 0) H'
theorem scPass:FnScope ["self","way","under"] ["self","way"] (defScope sPass):=⟨rfl,rfl,rfl,by decide +kernel,rfl,by decide +kernel,by decide +kernel⟩
theorem XE.from {H H1:Hp} {E:XK} {d:PyData} (h:XE K C H E d) (s:Same H H1):XE K C H1 E d:=fun dx v H' s' e r=>h dx v H' (s.trans s') e r
theorem ok_pass (VV:VT K mg CV CC) (FS:FaT P w K mg base C fI fd) (MU:Mt P w K mg base CC "under" 2 ["self","foot","way"] (spUnd CC)) (MR:Mt P w K mg base CC "rises_above" 1 ["self","under","height"] (spRises CC)) (F:Fun K "pass_over" "Carver.pass_over" sPass f fd'):FnOk P w K mg base (CX1 P w) 3 f fd' ["self","way"] (spPass K C CV CC):=by
 have nd:=scPass.nd
 refine F.ok1 scPass (fun vs H Q E h=>?_) (fun cdv A outer s H vs Q E hr h=>?_)
 ·obtain ⟨H0,A,ts,S,t,wy,x0,y0,z0,z1,nx,ny,rfl,_⟩:=h
  rfl
 obtain ⟨H0,A,ts,S,t,wy,x0,y0,z0,z1,nx,ny,rfl,M,hcut,W,nx40,ny40,xa,xb,ya,yb,q⟩:=h
 have hr1:Room 1 _:=hr.mono (by decide)
 have hu:=hu_of' hr
 refine ⟨_,(pss_cons (ps_set (i:=2) nd rfl (Or.inl rfl) (pf_meth MU (pe_fld (pv 0) rfl) hr (pass1 (E:=E)) (pa_cons (pe_ix ix_tup (pe_fld (pv 0) rfl) pe_int (fun _ _=>rfl)) (pa_cons (pv 1) pa_nil))))
  (pss_cons (ps_if (pt_truth (pf_meth MR (pe_fld (pv 0) rfl) hr1 (pass1 (E:=E)) (pa_cons (pv 2) (pa_cons (pe_ix ix_tup (pe_dget hu (pv 1) pe_str (fun _ _=>rfl)) pe_int (fun _ _=>rfl)) pa_nil))) (fun _=>rfl)) (pss_one (ps_raiseI FS.S rfl rfl rfl flies1 FS.ok hr FS.bi (pa_cons (pe_tup (pa_cons pe_str pa_nil)) pa_nil))) pss_nil)
  (pss_one (ps_ret pe_int)))),?_⟩
 obtain ⟨dx,cu,hcv,hcu⟩:=M.ob
 obtain ⟨kx,hcl⟩:=M.cl.ob
 rw [hcut] at hcu
 obtain ⟨htm,ct,rfl,hct⟩:=hcu
 obtain ⟨ft,hc1,hft⟩:=hct.same M.sm
 have f100:=M.feet t htm
 refine ⟨_,rfl,A.cv,CV,dx,_,_,rfl,hcv,VV.clV,VV.nStuff,rfl,A.cells,kx,_,rfl,hcl,rfl,_,rfl,A.cv,CV,dx,_,_,rfl,hcv,VV.clV,VV.nCutter,rfl,ct,_,0,.ref ft,rfl,rfl,SqT.of hc1,rfl,_,rfl,A.cells,A.R,ft,wy,A.rs,S.rows,t.1,x0,y0,z0,z1,nx,ny,rfl,M.cl,M.rect,hft,W,f100,nx40,ny40,xa,xb,ya,yb,fun u H1 nu s1 hu1=>?_⟩
 obtain ⟨ul,uin⟩:=undW_ok (rows:=S.rows) (x0:=x0) (y0:=y0) f100 nx40 ny40
 have M1:=M.same s1
 have W1:=W.same s1
 obtain ⟨tx,ty,tz,w1,w2,w3,w4⟩:=W1
 have gz:DGet H1 wy (.str "z") (some (.ref tz)):=DGet.k (k:=Sum.inr "z") w1
 refine ⟨_,rfl,A.cv,CV,dx,_,_,rfl,s1 _ _ hcv,VV.clV,VV.nStuff,rfl,A.cells,kx,_,rfl,s1 _ _ hcl,rfl,_,rfl,_,rfl,wy,_,rfl,gz,tz,_,0,.int z0,rfl,rfl,SqT.of w4,rfl,A.cells,A.R,u,A.rs,S.rows,_,z0,rfl,M1.cl,M.rect,hu1,ul,uin,fun H2 s2=>⟨_,rfl,?_⟩⟩
 have s12:=s1.trans s2
 refine ite2 (fun h1=>?_) (fun h1=>?_)
 ·rw [if_pos h1] at q
  refine ⟨le1,fun p hp=>⟨le1,?_⟩⟩
  exact fault_ok hp (.tup (SqT.of upd_same) (.cons (.str _) .nil)) (XE.from q s12)
 ·rw [if_neg h1] at q
  exact q _ s12
def spAlong (K:PySem.W.Frag) (C CV CC:Addr):Sp:=fun vs H Q E=>∃ (H0:Hp) (A:CA) (ts:List Tool) (S:CS) (t:Tool) (wy:Addr) (x0 y0 z0 z1:Int) (nx ny:Nat),vs=[.ref A.cv,.ref wy]∧CIn CV CC H0 H A ts S∧S.cut=some t∧WyAt H wy x0 (x0 + (nx:Int) - 1) y0 (y0 + (ny:Int) - 1) z0 z1∧nx≤40∧ny≤40∧-1000≤x0∧x0≤1000∧-1000≤y0∧y0≤1000 ∧
 if risF S.rows (undW S.rows t.1 x0 nx y0 ny) (z0 + t.2)=true then XE K C H E (dF "bite") else ∀ H',FrA A H H'→CIn CV CC H0 H' A ts { S with rows:=(dwn S.rows (undW S.rows t.1 x0 nx y0 ny) z0).1 }→Q (.int (dwn S.rows (undW S.rows t.1 x0 nx y0 ny) z0).2) H'
theorem scAlong:FnScope ["self","way","under","lowest"] ["self","way"] (defScope sAlong):=⟨rfl,rfl,rfl,by decide +kernel,rfl,by decide +kernel,by decide +kernel⟩
theorem ok_along (VV:VT K mg CV CC) (FS:FaT P w K mg base C fI fd) (MU:Mt P w K mg base CC "under" 2 ["self","foot","way"] (spUnd CC)) (MR:Mt P w K mg base CC "rises_above" 1 ["self","under","height"] (spRises CC)) (MD:Mt P w K mg base CC "cut_down" 1 ["self","under","height"] (spDown CC)) (F:Fun K "cut_along" "Carver.cut_along" sAlong f fd'):FnOk P w K mg base (CX1 P w) 3 f fd' ["self","way"] (spAlong K C CV CC):=by
 have nd:=scAlong.nd
 refine F.ok1 scAlong (fun vs H Q E h=>?_) (fun cdv A outer s H vs Q E hr h=>?_)
 ·obtain ⟨H0,A,ts,S,t,wy,x0,y0,z0,z1,nx,ny,rfl,_⟩:=h
  rfl
 obtain ⟨H0,A,ts,S,t,wy,x0,y0,z0,z1,nx,ny,rfl,M,hcut,W,nx40,ny40,xa,xb,ya,yb,q⟩:=h
 have hr1:Room 1 _:=hr.mono (by decide)
 have hu:=hu_of' hr
 refine ⟨_,(pss_cons (ps_set (i:=2) nd rfl (Or.inl rfl) (pf_meth MU (pe_fld (pv 0) rfl) hr (pass1 (E:=E)) (pa_cons (pe_ix ix_tup (pe_fld (pv 0) rfl) pe_int (fun _ _=>rfl)) (pa_cons (pv 1) pa_nil))))
  (pss_cons (ps_set (i:=3) nd rfl (Or.inl rfl) (pe_ix ix_tup (pe_dget hu (pv 1) pe_str (fun _ _=>rfl)) pe_int (fun _ _=>rfl)))
  (pss_cons (ps_if (pt_truth (pf_meth MR (pe_fld (pv 0) rfl) hr1 (pass1 (E:=E)) (pa_cons (pv 2) (pa_cons (pe_op op_add (pv 3) (pe_ix ix_tup (pe_fld (pv 0) rfl) pe_int (fun _ _=>rfl))) pa_nil))) (fun _=>rfl)) (pss_one (ps_raiseI FS.S rfl rfl rfl flies1 FS.ok hr FS.bi (pa_cons (pe_tup (pa_cons pe_str pa_nil)) pa_nil))) pss_nil)
  (pss_one (ps_ret (pf_meth MD (pe_fld (pv 0) rfl) hr1 (pass1 (E:=E)) (pa_cons (pv 2) (pa_cons (pv 3) pa_nil)))))))),?_⟩
 obtain ⟨dx,cu,hcv,hcu⟩:=M.ob
 obtain ⟨kx,hcl⟩:=M.cl.ob
 rw [hcut] at hcu
 obtain ⟨htm,ct,rfl,hct⟩:=hcu
 obtain ⟨ft,hc1,hft⟩:=hct.same M.sm
 have f100:=M.feet t htm
 refine ⟨_,rfl,A.cv,CV,dx,_,_,rfl,hcv,VV.clV,VV.nStuff,rfl,A.cells,kx,_,rfl,hcl,rfl,_,rfl,A.cv,CV,dx,_,_,rfl,hcv,VV.clV,VV.nCutter,rfl,ct,_,0,.ref ft,rfl,rfl,SqT.of hc1,rfl,_,rfl,A.cells,A.R,ft,wy,A.rs,S.rows,t.1,x0,y0,z0,z1,nx,ny,rfl,M.cl,M.rect,hft,W,f100,nx40,ny40,xa,xb,ya,yb,fun u H1 nu s1 hu1=>?_⟩
 obtain ⟨ul,uin⟩:=undW_ok (rows:=S.rows) (x0:=x0) (y0:=y0) f100 nx40 ny40
 have M1:=M.same s1
 have W1:=W.same s1
 obtain ⟨tx,ty,tz,w1,w2,w3,w4⟩:=W1
 have gz:DGet H1 wy (.str "z") (some (.ref tz)):=DGet.k (k:=Sum.inr "z") w1
 have hcv1:=s1 _ _ hcv
 have hc11:=s1 _ _ hc1
 have hcl1:=s1 _ _ hcl
 refine ⟨_,rfl,wy,_,rfl,gz,tz,_,0,.int z0,rfl,rfl,SqT.of w4,rfl,?_⟩
 refine ⟨_,rfl,A.cv,CV,dx,_,_,rfl,hcv1,VV.clV,VV.nStuff,rfl,A.cells,kx,_,rfl,hcl1,rfl,_,rfl,_,rfl,_,rfl,A.cv,CV,dx,_,_,rfl,hcv1,VV.clV,VV.nCutter,rfl,ct,_,1,.int t.2,rfl,rfl,SqT.of hc11,rfl,_,_,rfl,rfl,A.cells,A.R,u,A.rs,S.rows,_,z0 + t.2,rfl,M1.cl,M.rect,hu1,ul,uin,fun H2 s2=>⟨_,rfl,?_⟩⟩
 have s12:=s1.trans s2
 refine ite2 (fun h1=>?_) (fun h1=>?_)
 ·rw [if_pos h1] at q
  refine ⟨le1,fun p hp=>⟨le1,?_⟩⟩
  exact fault_ok hp (.tup (SqT.of upd_same) (.cons (.str _) .nil)) (XE.from q s12)
 ·rw [if_neg h1] at q
  have M2:=M1.same s2
  have nu2:u ∉ A.rs:=fun z=>by
   obtain ⟨xs,hx⟩:=M.cl.ra.mem z
   rw [hx] at nu
   cases nu
  refine ⟨_,rfl,A.cv,CV,dx,_,_,rfl,s2 _ _ hcv1,VV.clV,VV.nStuff,rfl,A.cells,kx,_,rfl,s2 _ _ hcl1,rfl,_,rfl,_,rfl,A.cells,A.R,u,A.rs,S.rows,_,z0,rfl,M2.cl,M.rect,M.nd,M.nR,nu2,hu1.same s2,uin,fun H3 k3 ra3=>?_⟩
  have al:Alike S.rows (dwn S.rows (undW S.rows t.1 x0 nx y0 ny) z0).1:=by
   unfold dwn
   rw [dwn_fst]
   exact cuts_alike _ _
  exact q H3 (fun x o _ _ n e=>k3 x o n (s12 x o e)) (M2.cutd k3 ra3 al)
end
section
variable {P:Program} {w:World} {K:PySem.W.Frag} {mg:Str→Option Value} {base:Heap} {CV CC C fI f:Addr} {fd fd':FuncData}
theorem stepC_none {ts:List Tool} {S:CS} {k a:Str} {to:Int} (h:S.cut=none):stepC ts S (.go k a to)=.error "bare":=by
 show (match S.cut with | none=>(.error "bare":Except Str (Int×CS)) | some t=>if roomF S a to=true then (match cutR S t k a to with | .ok r=>.ok (r.1,({ S with rows:=r.2 }:CS).to_ a to) | .error x=>.error x) else .error "out")=_
 rw [h]
theorem stepC_some {ts:List Tool} {S:CS} {k a:Str} {to:Int} {t:Tool} (h:S.cut=some t):stepC ts S (.go k a to)=if roomF S a to=true then (match cutR S t k a to with | .ok r=>.ok (r.1,({ S with rows:=r.2 }:CS).to_ a to) | .error x=>.error x) else .error "out":=by
 show (match S.cut with | none=>(.error "bare":Except Str (Int×CS)) | some t=>if roomF S a to=true then (match cutR S t k a to with | .ok r=>.ok (r.1,({ S with rows:=r.2 }:CS).to_ a to) | .error x=>.error x) else .error "out")=_
 rw [h]
def ResC (K:PySem.W.Frag) (C CV CC:Addr) (H0 H:Hp) (A:CA) (ts:List Tool) (Q:VK) (E:XK):Except Str (Int×CS)→Prop
 | .ok r=>∀ H',FrA A H H'→CIn CV CC H0 H' A ts r.2→Q (.int r.1) H'
 | .error x=>XE K C H E (dF x)
def spDoHold (K:PySem.W.Frag) (C CV CC:Addr):Sp:=fun vs H Q E=>∃ (H0:Hp) (A:CA) (ts:List Tool) (S:CS) (n:Int),vs=[.ref A.cv,.int n]∧CIn CV CC H0 H A ts S∧ResC K C CV CC H0 H A ts Q E (stepC ts S (.hold n))
theorem scDoHold:FnScope ["self","number"] ["self","number"] (defScope sDoHold):=⟨rfl,rfl,rfl,by decide +kernel,rfl,by decide +kernel,by decide +kernel⟩
theorem ok_doHold (T:LawT mg) (VV:VT K mg CV CC) (FS:FaT P w K mg base C fI fd) (F:Fun K "do_hold" "Carver.do_hold" sDoHold f fd'):FnOk P w K mg base (CX1 P w) 3 f fd' ["self","number"] (spDoHold K C CV CC):=by
 have nd:=scDoHold.nd
 refine F.ok1 scDoHold (fun vs H Q E h=>?_) (fun cdv A outer s H vs Q E hr h=>?_)
 ·obtain ⟨H0,A,ts,S,n,rfl,_⟩:=h
  rfl
 obtain ⟨H0,A,ts,S,n,rfl,M,q⟩:=h
 have hu:=hu_of' hr
 obtain ⟨tt,htop⟩:=VV.top
 refine ⟨_,(pss_cons (ps_if (pt_not (pt_chain op_le op_lt pe_int (pv 1) (pe_callB call_len_seq rfl T.len BI (pa_cons (pe_fld (pv 0) rfl) pa_nil)))) (pss_one (ps_raiseI FS.S rfl rfl rfl flies1 FS.ok hr FS.bi (pa_cons (pe_tup (pa_cons pe_str pa_nil)) pa_nil))) pss_nil)
  (pss_cons (ps_if (pt_cmpR op_ne (pe_dget hu (pe_fld (pv 0) rfl) pe_str (fun _ _=>rfl)) (pe_glob (v:=.int 1000) rfl htop ⟨_,rfl⟩) (nomark _)) (pss_one (ps_raiseI FS.S rfl rfl rfl flies1 FS.ok hr FS.bi (pa_cons (pe_tup (pa_cons pe_str pa_nil)) pa_nil))) pss_nil)
  (pss_cons (ps_fld (pv 0) (pe_ix ix_list (pe_fld (pv 0) rfl) (pv 1) (fun _ _=>rfl)) rfl)
  (pss_one (ps_ret pe_int))))),?_⟩
 obtain ⟨dx,cu,hcv,hcu⟩:=M.ob
 obtain ⟨cts,hsh0,hct0⟩:=id M.shelf
 have hsh:=M.sm _ _ hsh0
 have ctl:=hct0.len
 have gz:DGet H A.sd (.str "z") (some (.int S.z)):=DGet.k (k:=Sum.inr "z") M.sd
 have bad:∀ x:Str,¬ (0≤n∧n < ts.length)→XE K C H E (dF "shelf"):=fun _ h=>by
  rw [show stepC ts S (.hold n)=.error "shelf" from if_neg h] at q
  exact q
 refine ⟨_,rfl,_,_,rfl,rfl,_,rfl,?_⟩
 have raise:XE K C H E (dF "shelf")→1≤AR∧∀ p,H p=none→1≤AR∧∀ e,upd H p (.tup [.str "shelf"]) e=none→spFault C [.ref e,.ref p] (upd (upd H p (.tup [.str "shelf"])) e (ExcN e C)) (fun v H2=>v=.non∧∃ dx,H2 e=some (ExcD e C dx)∧E (.ref C) (some dx) (drop H2 e)) E0:=fun h=>⟨le1,fun p hp=>⟨le1,fault_ok hp (.tup (SqT.of upd_same) (.cons (.str _) .nil)) h⟩⟩
 refine ite2 (fun h1=>?_) (fun h1=>?_)
 ·have h1':=of_decide_eq_true h1
  refine ⟨_,rfl,A.cv,CV,dx,_,_,rfl,hcv,VV.clV,VV.nShelf,rfl,A.sh,_,rfl,.inl (SqL.of hsh),_,_,rfl,rfl,_,rfl,?_⟩
  refine ite2 (fun h2=>?_) (fun h2=>?_)
  ·have h2':¬ n < ((cts.map V.ref).length:Int):=fun z=>by
    rw [decide_eq_true z] at h2
    cases h2
   exact raise (bad "" fun z=>h2' (by rw [AA,ctl]; exact z.2))
  ·have h2':n < (ts.length:Int):=by
    have:decide (n < ((cts.map V.ref).length:Int))=true:=by
     cases e:decide (n < ((cts.map V.ref).length:Int)) with
     | true=>rfl
     | false=>rw [e] at h2; exact absurd rfl h2
    have:=of_decide_eq_true this
    rw [AA,ctl] at this
    exact this
   have es:stepC ts S (.hold n)=(if S.z=1000 then (match ts[n.toNat]? with | some t=>.ok (0,{ S with cut:=some t }) | none=>.error "shelf") else .error "low"):=if_pos ⟨h1',h2'⟩
   rw [es] at q
   refine ⟨_,rfl,A.cv,CV,dx,_,_,rfl,hcv,VV.clV,VV.nStands,rfl,A.sd,_,rfl,gz,rfl,_,rfl,?_⟩
   refine ite2 (fun h3=>?_) (fun h3=>?_)
   ·have h3':¬ S.z=1000:=fun z=>by
     rw [z,show decide (V.int 1000=V.int 1000)=true from decide_eq_true rfl] at h3
     cases h3
    rw [if_neg h3'] at q
    exact ⟨le1,fun p hp=>⟨le1,fault_ok hp (.tup (SqT.of upd_same) (.cons (.str _) .nil)) q⟩⟩
   ·have h3':S.z=1000:=by
     apply Classical.byContradiction
     intro z
     rw [show decide (V.int S.z=V.int 1000)=false from decide_eq_false fun e=>z (V.int.inj e)] at h3
     exact h3 rfl
    rw [if_pos h3'] at q
    obtain ⟨i,rfl⟩:∃ i:Nat,n=(i:Int):=⟨n.toNat,by omega⟩
    have hi:i < cts.length:=by omega
    have ei:=AD hi
    obtain ⟨t,et,hct⟩:=hct0.at_ ei
    generalize cts[i]=ct at ei hct
    rw [Aq,et] at q
    have q':∀ H',FrA A H H'→CIn CV CC H0 H' A ts { S with cut:=some t }→Q (.int 0) H':=q
    refine ⟨_,rfl,A.cv,CV,dx,_,_,rfl,hcv,VV.clV,VV.nShelf,rfl,_,rfl,A.sh,_,_,.ref ct,rfl,rfl,SqL.of hsh,atI_nat (by rw [AH,ei]; rfl),_,rfl,A.cv,CV,dx,_,rfl,hcv,VV.clV,VV.nCutter,(by show 4 < 1000; decide),?_⟩
    obtain ⟨o1,o2,o3,o4,o5,o6,o7,o8⟩:=M.out
    obtain ⟨kx,hcl⟩:=M.cl.ob
    have ncc:A.cells≠A.cv:=fun z=>by
     rw [z,hcv] at hcl
     simp at hcl
    have kp:∀ x o u,x≠A.cv→H x=some o→upd H A.cv u x=some o:=fun x o u hx e=>by rw [upd_ne hx]; exact e
    refine q' _ (fun x o hx _ _ e=>kp x o _ hx e) ⟨same_in M.sm M.ncv,M.ncv,M.nR0,M.nsd,M.nrs,M.shelf,M.feet,⟨dx,.ref ct,upd_same,Al et,ct,rfl,hct⟩,⟨⟨kx,kp _ _ _ ncc hcl⟩,kp _ _ _ o5 M.cl.hR,M.cl.ra.keep fun r hr o e=>kp r o _ (fun z=>o1 (by rw [← z]; exact hr)) e⟩,M.nd,M.nR,kp _ _ _ (Ne.symm o4) M.sd,M.rect,M.small,M.inb,M.zb⟩
 ·exact ⟨_,rfl,iteT (raise (bad "" fun z=>h1 (decide_eq_true z.1)))⟩
def spDoMove (K:PySem.W.Frag) (C CV CC:Addr):Sp:=fun vs H Q E=>∃ (H0:Hp) (A:CA) (ts:List Tool) (S:CS) (k a:Str) (to:Int),vs=[.ref A.cv,.str k,.str a,.int to]∧CIn CV CC H0 H A ts S∧IsAx a∧ResC K C CV CC H0 H A ts Q E (stepC ts S (.go k a to))
theorem scDoMove:FnScope ["self","kind","axis","to","way","taken"] ["self","kind","axis","to"] (defScope sDoMove):=⟨rfl,rfl,rfl,by decide +kernel,rfl,by decide +kernel,by decide +kernel⟩
theorem ok_doMove (VV:VT K mg CV CC) (FS:FaT P w K mg base C fI fd) (MRm:Mt P w K mg base CV "has_room" 2 ["self","axis","to"] (spRoom CV CC)) (MW:Mt P w K mg base CV "way_to" 1 ["self","axis","to"] (spWayTo CV CC)) (MP:Mt P w K mg base CV "pass_over" 3 ["self","way"] (spPass K C CV CC)) (MA:Mt P w K mg base CV "cut_along" 3 ["self","way"] (spAlong K C CV CC))
  (F:Fun K "do_move" "Carver.do_move" sDoMove f fd'):FnOk P w K mg base (CX1 P w) 4 f fd' ["self","kind","axis","to"] (spDoMove K C CV CC):=by
 have nd:=scDoMove.nd
 refine F.ok1 scDoMove (fun vs H Q E h=>?_) (fun cdv A outer s H vs Q E hr h=>?_)
 ·obtain ⟨H0,A,ts,S,k,a,to,rfl,_⟩:=h
  rfl
 obtain ⟨H0,A,ts,S,k,a,to,rfl,M,ax,q⟩:=h
 have hu:=hu_of' hr
 have hr1:Room 1 _:=hr.mono (by decide)
 have hr2:Room 2 _:=hr.mono (by decide)
 refine ⟨_,(pss_cons (ps_if (pt_cmpR op_isN (pe_fld (pv 0) rfl) pe_non (nomark _)) (pss_one (ps_raiseI FS.S rfl rfl rfl flies1 FS.ok hr2 FS.bi (pa_cons (pe_tup (pa_cons pe_str pa_nil)) pa_nil))) pss_nil)
  (pss_cons (ps_if (pt_not (pt_truth (pf_meth MRm (pv 0) hr2 (pass1 (E:=E)) (pa_cons (pv 2) (pa_cons (pv 3) pa_nil))) (fun _=>rfl))) (pss_one (ps_raiseI FS.S rfl rfl rfl flies1 FS.ok hr2 FS.bi (pa_cons (pe_tup (pa_cons pe_str pa_nil)) pa_nil))) pss_nil)
  (pss_cons (ps_set (i:=4) nd rfl (Or.inl rfl) (pf_meth MW (pv 0) hr1 (pass1 (E:=E)) (pa_cons (pv 2) (pa_cons (pv 3) pa_nil))))
  (pss_mid (ps_if (pt_cmpR op_eq (pv 1) pe_str (nomark _)) (pss_one (ps_set (i:=5) nd rfl (Or.inl rfl) (pf_meth MP (pv 0) hr (pass1 (E:=E)) (pa_cons (pv 4) pa_nil)))) (pss_one (ps_set (i:=5) nd rfl (Or.inl rfl) (pf_meth MA (pv 0) hr (pass1 (E:=E)) (pa_cons (pv 4) pa_nil)))))
  (pss_cons (ps_dput hu (pe_fld (pv 0) rfl) (pv 2) (pv 3) rfl)
  (pss_one (ps_ret (pv 5)))))))),?_⟩
 obtain ⟨dx,cu,hcv,hcu⟩:=M.ob
 refine ⟨_,rfl,A.cv,CV,dx,_,_,rfl,hcv,VV.clV,VV.nCutter,rfl,rfl,_,rfl,?_⟩
 cases hcut:S.cut with
 | none =>
  rw [hcut] at hcu
  have e:cu=.non:=hcu
  subst e
  rw [stepC_none hcut] at q
  refine ite2 (fun _=>?_) (fun h1=>absurd (decide_eq_true rfl) h1)
  exact ⟨le1,fun p hp=>⟨le1,fault_ok hp (.tup (SqT.of upd_same) (.cons (.str _) .nil)) q⟩⟩
 | some t =>
  rw [hcut] at hcu
  obtain ⟨htm,ct,rfl,hct⟩:=hcu
  refine ite2 (fun h1=>?_) (fun _=>?_)
  ·have:=of_decide_eq_true h1
   cases this
  rw [stepC_some hcut] at q
  refine ⟨_,rfl,A.cv,dx,_,rfl,hcv,rfl,_,rfl,_,rfl,H0,A,ts,S,a,to,rfl,M,ax,_,rfl,?_⟩
  refine ite2 (fun h2=>?_) (fun h2=>?_)
  ·have rm:¬ roomF S a to=true:=fun z=>by rw [z] at h2; cases h2
   rw [if_neg rm] at q
   exact ⟨le1,fun p hp=>⟨le1,fault_ok hp (.tup (SqT.of upd_same) (.cons (.str _) .nil)) q⟩⟩
  have rm:roomF S a to=true:=by
   cases e:roomF S a to with
   | true=>rfl
   | false=>rw [e] at h2; exact absurd rfl h2
  rw [if_pos rm] at q
  obtain ⟨wx,wy',nx40,ny40,xa,xb,ya,yb⟩:=M.way ax rm
  refine ⟨_,rfl,A.cv,dx,_,rfl,hcv,rfl,_,rfl,_,rfl,H0,A,ts,S,a,to,rfl,M,ax,fun wy H1 s1 W=>?_⟩
  rw [wx,wy'] at W
  have M1:=M.same s1
  refine ⟨fun σ G=>∃ (tk:Int) (rows':List (List Int)),cutR S t k a to=.ok (tk,rows')∧σ=[some (.ref A.cv),some (.str k),some (.str a),some (.int to),some (.ref wy),some (.int tk)]∧CIn CV CC H0 G A ts { S with rows:=rows' }∧FrA A H G,?_,?_⟩
  ·refine ⟨_,rfl,rfl,_,rfl,?_⟩
   refine ite2 (fun h3=>?_) (fun h3=>?_)
   ·have e3:k="fast":=V.str.inj (of_decide_eq_true h3)
    refine ⟨_,rfl,A.cv,dx,_,rfl,s1 _ _ hcv,rfl,_,rfl,H0,A,ts,S,t,wy,_,_,_,_,_,_,rfl,M1,hcut,W,nx40,ny40,(by omega),xb,(by omega),yb,?_⟩
    have ec:cutR S t k a to=if risF S.rows (undS S t a to) (wlo S a to "z")=true then .error "crash" else .ok (0,S.rows):=if_pos e3
    rw [ec] at q ⊢
    show if risF S.rows (undS S t a to) (wlo S a to "z")=true then _ else _
    by_cases hc:risF S.rows (undS S t a to) (wlo S a to "z")=true
    ·rw [if_pos hc] at q ⊢
     exact XE.from q s1
    ·rw [if_neg hc,if_neg hc]
     exact fun H2 s2=>⟨0,S.rows,rfl,rfl,M1.same s2,FrA.of (s1.trans s2)⟩
   ·have e3:¬ k="fast":=fun z=>h3 (decide_eq_true (congrArg V.str z))
    refine ⟨_,rfl,A.cv,dx,_,rfl,s1 _ _ hcv,rfl,_,rfl,H0,A,ts,S,t,wy,_,_,_,_,_,_,rfl,M1,hcut,W,nx40,ny40,(by omega),xb,(by omega),yb,?_⟩
    have ec:cutR S t k a to=if risF S.rows (undS S t a to) (wlo S a to "z" + t.2)=true then .error "bite" else .ok ((dwn S.rows (undS S t a to) (wlo S a to "z")).2,(dwn S.rows (undS S t a to) (wlo S a to "z")).1):=if_neg e3
    rw [ec] at q ⊢
    show if risF S.rows (undS S t a to) (wlo S a to "z" + t.2)=true then _ else _
    by_cases hc:risF S.rows (undS S t a to) (wlo S a to "z" + t.2)=true
    ·rw [if_pos hc] at q ⊢
     exact XE.from q s1
    ·rw [if_neg hc,if_neg hc]
     exact fun H2 f2 M2=>⟨_,_,rfl,rfl,M2,(FrA.of s1).trans f2⟩
  ·rintro _ G ⟨tk,rows',er,rfl,M2,fr⟩
   rw [er] at q
   have q':∀ H',FrA A H H'→CIn CV CC H0 H' A ts (({ S with rows:=rows' }:CS).to_ a to)→Q (.int tk) H':=q
   obtain ⟨dx2,cu2,hcv2,_⟩:=M2.ob
   have rm2:roomF ({ S with rows:=rows' }:CS) a to=true:=by
    have al:Alike S.rows rows':=by
     unfold cutR at er
     split at er
     ·split at er
      ·cases er
      ·cases er
       exact Alike.refl _
     ·split at er
      ·cases er
      ·cases er
       unfold dwn
       rw [dwn_fst]
       exact cuts_alike _ _
    unfold roomF at rm ⊢
    show (if a="x" then ins rows' (to,S.y) else if a="y" then ins rows' (S.x,to) else decide (0≤to∧to≤1000))=true
    rw [← al.ins,← al.ins]
    exact rm
   have M3:=M2.stand ax rm2
   refine ⟨_,rfl,_,rfl,A.cv,CV,dx2,_,_,rfl,hcv2,VV.clV,VV.nStands,rfl,_,rfl,A.sd,_,rfl,DPut.k (k:=Sum.inr a) M2.sd (show 3 < AR by decide),?_⟩
   exact ⟨_,rfl,q' _ (fun x o h1 h2 h3 e=>by rw [upd_ne h2]; exact fr x o h1 h2 h3 e) M3⟩
def spDo (K:PySem.W.Frag) (C CV CC:Addr):Sp:=fun vs H Q E=>∃ (H0:Hp) (A:CA) (ts:List Tool) (S:CS) (m:Mo) (mt:Addr),vs=[.ref A.cv,.ref mt]∧CIn CV CC H0 H A ts S∧m.ok∧H mt=some (.tup (moV m))∧ResC K C CV CC H0 H A ts Q E (stepC ts S m)
theorem scDo:FnScope ["self","move"] ["self","move"] (defScope sDo):=⟨rfl,rfl,rfl,by decide +kernel,rfl,by decide +kernel,by decide +kernel⟩
theorem ok_do (MH:Mt P w K mg base CV "do_hold" 3 ["self","number"] (spDoHold K C CV CC)) (MM:Mt P w K mg base CV "do_move" 4 ["self","kind","axis","to"] (spDoMove K C CV CC)) (F:Fun K "do" "Carver.do" sDo f fd'):FnOk P w K mg base (CX1 P w) 5 f fd' ["self","move"] (spDo K C CV CC):=by
 have nd:=scDo.nd
 refine F.ok1 scDo (fun vs H Q E h=>?_) (fun cdv A outer s H vs Q E hr h=>?_)
 ·obtain ⟨H0,A,ts,S,m,mt,rfl,_⟩:=h
  rfl
 obtain ⟨H0,A,ts,S,m,mt,rfl,M,mok,hmt,q⟩:=h
 have hr3:Room 3 _:=hr.mono (by decide)
 refine ⟨_,(pss_cons (ps_if (pt_cmpR op_eq (pe_ix ix_tup (pv 1) pe_int (fun _ _=>rfl)) pe_str (nomark _)) (pss_one (ps_ret (pf_meth MH (pv 0) hr3 (pass1 (E:=E)) (pa_cons (pe_ix ix_tup (pv 1) pe_int (fun _ _=>rfl)) pa_nil)))) pss_nil)
  (pss_one (ps_ret (pf_meth MM (pv 0) hr (pass1 (E:=E)) (pa_cons (pe_ix ix_tup (pv 1) pe_int (fun _ _=>rfl)) (pa_cons (pe_ix ix_tup (pv 1) pe_int (fun _ _=>rfl)) (pa_cons (pe_ix ix_tup (pv 1) pe_int (fun _ _=>rfl)) pa_nil))))))),?_⟩
 obtain ⟨dx,cu,hcv,_⟩:=M.ob
 cases m with
 | hold n =>
  have hm:H mt=some (.tup [.str "hold",.int n]):=hmt
  refine ⟨_,rfl,mt,_,0,.str "hold",rfl,rfl,SqT.of hm,rfl,rfl,_,rfl,?_⟩
  refine ite2 (fun _=>?_) (fun h1=>absurd (decide_eq_true rfl) h1)
  exact ⟨_,rfl,A.cv,dx,_,rfl,hcv,rfl,_,rfl,mt,_,1,.int n,rfl,rfl,SqT.of hm,rfl,H0,A,ts,S,n,rfl,M,q⟩
 | go k a to =>
  have hm:H mt=some (.tup [.str k,.str a,.int to]):=hmt
  refine ⟨_,rfl,mt,_,0,.str k,rfl,rfl,SqT.of hm,rfl,rfl,_,rfl,?_⟩
  refine ite2 (fun h1=>absurd (V.str.inj (of_decide_eq_true h1)) mok.1) (fun _=>?_)
  exact ⟨_,rfl,A.cv,dx,_,rfl,hcv,rfl,_,rfl,mt,_,0,.str k,rfl,rfl,SqT.of hm,rfl,_,rfl,mt,_,1,.str a,rfl,rfl,SqT.of hm,rfl,_,rfl,mt,_,2,.int to,rfl,rfl,SqT.of hm,rfl,H0,A,ts,S,k,a,to,rfl,M,mok.2,q⟩
end
def runM (ts:List Tool):CS→List Mo→List Int×CS×Option Str
 | S,[]=>([],S,none)
 | S,m :: ms=>match stepC ts S m with
  | .error x=>([],S,some x)
  | .ok r=>(r.1 :: (runM ts r.2 ms).1,(runM ts r.2 ms).2)
theorem runM_ok {ts:List Tool} {S:CS} {m:Mo} {ms:List Mo} {r:Int×CS} (h:stepC ts S m=.ok r):runM ts S (m :: ms)=(r.1 :: (runM ts r.2 ms).1,(runM ts r.2 ms).2):=by
 show (match stepC ts S m with | .error x=>(([],S,some x):List Int×CS×Option Str) | .ok r=>(r.1 :: (runM ts r.2 ms).1,(runM ts r.2 ms).2))=_
 rw [h]
theorem runM_err {ts:List Tool} {S:CS} {m:Mo} {ms:List Mo} {x:Str} (h:stepC ts S m=.error x):runM ts S (m :: ms)=([],S,some x):=by
 show (match stepC ts S m with | .error x=>(([],S,some x):List Int×CS×Option Str) | .ok r=>(r.1 :: (runM ts r.2 ms).1,(runM ts r.2 ms).2))=_
 rw [h]
def S00 (bed:List (List Int)):CS:=⟨bed,none,0,0,1000⟩
def fltD:Option Str→PyData
 | none=>.none
 | some x=>dF x
abbrev begK:List (Key×V):=[(Sum.inr "x",.int 0),(Sum.inr "y",.int 0),(Sum.inr "z",.int 1000)]
structure BegV (P:Program) (w:World) (K:PySem.W.Frag) (mg:Str→Option Value):Prop where
 ex:∃ a,mg "BEGINNING"=some (.ref a)∧DkK P w K a begK
section
variable {P:Program} {w:World} {K:PySem.W.Frag} {mg:Str→Option Value} {base:Heap} {CV CC C fI f:Addr} {fd fd':FuncData}
def spCarI (CV:Addr):Sp:=fun vs H Q _=>∃ (x dx:Addr) (st sh:V),vs=[.ref x,st,sh]∧H x=some (.ins CV dx []) ∧
 ∀ sd H',(∀ b o,b≠x→H b=some o→H' b=some o)→H' x=some (.ins CV dx [("stuff",st),("shelf",sh),("cutter",.non),("stands",.ref sd)])→H' sd=some (.dK begK)→H sd=none→Q .non H'
theorem scCarI:FnScope ["self","stuff","shelf"] ["self","stuff","shelf"] (defScope sCarI):=⟨rfl,rfl,rfl,by decide +kernel,rfl,by decide +kernel,by decide +kernel⟩
theorem ok_carI (VV:VT K mg CV CC) (B:BegV P w K mg) (F:Fun K "__init__" "Carver.__init__" sCarI f fd'):FnOk P w K mg base (CX1 P w) 1 f fd' ["self","stuff","shelf"] (spCarI CV):=by
 have nd:=scCarI.nd
 refine F.ok1 scCarI (fun vs H Q E h=>?_) (fun cdv A outer s H vs Q E hr h=>?_)
 ·obtain ⟨x,dx,st,sh,rfl,_⟩:=h
  rfl
 obtain ⟨x,dx,st,sh,rfl,hx,q⟩:=h
 obtain ⟨ab,mgb,dkb⟩:=B.ex
 refine ⟨_,(pss_cons (ps_fld (pv 0) (pv 1) rfl)
  (pss_cons (ps_fld (pv 0) (pv 2) rfl)
  (pss_cons (ps_fld (pv 0) pe_non rfl)
  (pss_one (ps_fld (pv 0) (pe_callTy call_dict_d rfl VV.dict rfl (pa_cons (pe_glob (v:=.ref ab) rfl mgb rfl) pa_nil)) rfl))))),?_⟩
 refine ⟨_,rfl,_,rfl,x,CV,dx,_,rfl,hx,VV.clV,VV.nStuff,(by decide),?_⟩
 refine ⟨_,rfl,_,rfl,x,CV,dx,_,rfl,upd_same,VV.clV,VV.nShelf,(by show 1 < 1000; decide),?_⟩
 refine ⟨_,rfl,x,CV,dx,_,rfl,upd_same,VV.clV,VV.nCutter,(by show 2 < 1000; decide),?_⟩
 refine ⟨ab,_,rfl,.inr dkb,fun sd hsd=>?_⟩
 have nsx:sd≠x:=fun z=>by rw [z,upd_same] at hsd; cases hsd
 refine ⟨_,rfl,x,CV,dx,_,rfl,(by rw [upd_ne (Ne.symm nsx)]; exact upd_same),VV.clV,VV.nStands,(by show 3 < 1000; decide),?_⟩
 have hsd0:H sd=none:=by
  rw [upd_ne nsx,upd_ne nsx,upd_ne nsx] at hsd
  exact hsd
 refine q sd _ (fun b o hb e=>?_) upd_same (by rw [upd_ne nsx,upd_same]) hsd0
 rw [upd_ne hb,upd_ne (ne_of_none e hsd0),upd_ne hb,upd_ne hb,upd_ne hb]
 exact e
def spDoMoves (K:PySem.W.Frag) (CC:Addr):Sp:=fun vs H Q _=>∃ (H0:Hp) (c R sh ml:Addr) (rs mts:List Addr) (bed:List (List Int)) (ts:List Tool) (ms:List Mo),vs=[.ref c,.ref sh,.ref ml]∧Same H0 H∧ClAt CC H c R rs bed∧H0 R=none∧(∀ r∈rs,H0 r=none)∧rs.Nodup∧R ∉ rs∧ShAt H0 sh ts∧(∀ t∈ts,t.1.length≤100) ∧
 H0 ml=some (.lst (mts.map V.ref))∧MvAt H0 mts (ms.map moV)∧(∀ m∈ms,m.ok)∧ms.length≤100000∧Rect bed∧Small bed∧ins bed (0,0)=true ∧
 ∀ (t tl:Addr) (fv:V) (H':Hp),Same H0 H'→H' t=some (.tup [.ref tl,fv])→H' tl=some (.lst ((runM ts (S00 bed) ms).1.map V.int))→Rp K H' fv (fltD (runM ts (S00 bed) ms).2.2)→ClAt CC H' c R rs (runM ts (S00 bed) ms).2.1.rows→Q (.ref t) H'
theorem scDoMoves:FnScope ["stuff","shelf","moves","carver","taken","move","fault"] ["stuff","shelf","moves"] (defScope sDoMoves):=⟨rfl,rfl,rfl,by decide +kernel,rfl,by decide +kernel,by decide +kernel⟩
theorem ok_doMoves (VV:VT K mg CV CC) (FS:FaT P w K mg base C fI fd) (CCt:CatchC K mg "Fault" C) (hm:PySem.W.mroIn K C (.ref C)=some true) (MC:Mc P w K mg base "Carver" CV 1 ["self","stuff","shelf"] (spCarI CV)) (MD:Mt P w K mg base CV "do" 5 ["self","move"] (spDo K C CV CC))
  (F:Fun K "do_moves" "do_moves" sDoMoves f fd'):FnOk P w K mg base (CX1 P w) 6 f fd' ["stuff","shelf","moves"] (spDoMoves K CC):=by
 have nd:=scDoMoves.nd
 obtain ⟨fg,fdg,okg,mtg,clg,big⟩:=MD.ex
 refine F.ok1 scDoMoves (fun vs H Q E h=>?_) (fun cdv A outer s H vs Q E hr h=>?_)
 ·obtain ⟨H0,c,R,sh,ml,rs,mts,bed,ts,ms,rfl,_⟩:=h
  rfl
 obtain ⟨H0,c,R,sh,ml,rs,mts,bed,ts,ms,rfl,s0,cl,nR0,nrs,rnd,nR,hsh,feet,hml,mml,mok,ml100,rect,small,inb,q⟩:=h
 have hr2:Room 2 _:=hr.mono (by decide)
 have mtl:mts.length=ms.length:=by rw [mml.len,AA]
 refine ⟨_,(pss_cons (ps_set (i:=3) nd rfl (Or.inl rfl) (pf_make MC hr2 rfl (pass1 (E:=E)) (pa_cons (pv 0) (pa_cons (pv 1) pa_nil))))
  (pss_cons (ps_set (i:=4) nd rfl (Or.inl rfl) (pe_lst pa_nil))
  (pss_cons (ps_for own1 rfl (pi_list (pv 2)) (pg_name (i:=5) nd rfl (Or.inl rfl)) (pss_one (ps_tryAs (i:=6) rfl rfl rfl (px_append (fun _=>pv 4) (px_meth (fun _=>pv 3) clg mtg okg hr big (fun _=>pa_cons (pv 5) pa_nil))) CCt rfl nd rfl rfl (fun _=>pss_one (ps_ret (pe_tup (pa_cons (pv 4) (pa_cons (pe_xfld FS.S (pv 6) rfl) pa_nil))))))))
  (pss_one (ps_ret (pe_tup (pa_cons (pv 4) (pa_cons pe_non pa_nil)))))))),?_⟩
 refine ⟨_,rfl,_,rfl,fun x dx hx hdx hne=>⟨x,dx,.ref c,.ref sh,rfl,upd_same,fun sd H1 k1 hx1 hsd1 nsd=>⟨rfl,?_⟩⟩⟩
 have kH:∀ b o,H b=some o→H1 b=some o:=fun b o e=>k1 b o (ne_of_none e hx) (by rw [upd_ne (ne_of_none e hx),upd_ne (ne_of_none e hdx)]; exact e)
 have sH1:Same H H1:=kH
 have nsd0:H sd=none:=by
  cases e:H sd with
  | none=>rfl
  | some o=>rw [upd_ne (ne_of_none e hx),upd_ne (ne_of_none e hdx),e] at nsd; cases nsd
 have cl1:=cl.same sH1
 have M0:CIn CV CC H0 H1 ⟨x,c,R,sd,sh,rs⟩ ts (S00 bed):=⟨s0.trans sH1,s0.free hx,nR0,s0.free nsd0,nrs,hsh,feet,⟨dx,.non,hx1,rfl⟩,cl1,rnd,nR,hsd1,rect,small,inb,⟨show (0:Int)≤1000 by decide,show (1000:Int)≤1000 by decide⟩⟩
 refine ⟨Ap _,fun tl htl=>?_⟩
 have u2:=same_upd htl (.lst [])
 have M1:=M0.same u2
 have ntl:tl≠x∧tl≠sd∧tl ∉ rs:=by
  refine ⟨fun z=>?_,fun z=>?_,fun z=>?_⟩
  ·rw [z,hx1] at htl; cases htl
  ·rw [z,hsd1] at htl; cases htl
  ·obtain ⟨xs,hz⟩:=cl1.ra.mem z
   rw [hz] at htl
   cases htl
 refine ⟨_,rfl,ml,rfl,⟨_,SqL.of (u2 _ _ (M0.sm _ _ hml))⟩,?_⟩
 refine for_list (K:=K) (xs:=mts.map V.ref) (fun i σ H2=>∃ (x5:Option V) (S:CS) (tks:List Int),σ=[some (.ref c),some (.ref sh),some (.ref ml),some (.ref x),some (.ref tl),x5,none]∧CIn CV CC H0 H2 ⟨x,c,R,sd,sh,rs⟩ ts S∧H2 tl=some (.lst (tks.map V.int))∧tks.length=i∧runM ts (S00 bed) ms=(tks++(runM ts S (ms.drop i)).1,(runM ts S (ms.drop i)).2))
  ⟨none,S00 bed,[],rfl,M1,upd_same,rfl,rfl⟩ ?_ ?_ ?_
 ·rintro i σ H2 _ ⟨x5,S,tks,rfl,M2,_⟩
  exact SqL.of (M2.sm _ _ hml)
 ·rintro i v σ H2 hx' ⟨x5,S,tks,rfl,M2,ht2,tkl,erun⟩
  obtain ⟨mt,hmt,rfl⟩:=ref_get hx'
  have hi:i < ms.length:=by have:=(AF.mp hmt).1; omega
  have em:=AD hi
  have gm:=M2.sm _ _ (mml.at_ hmt (by rw [AH,em]; rfl))
  have mo:=mok _ (Az hi)
  have edr:ms.drop i=ms[i] :: ms.drop (i + 1):=List.drop_eq_getElem_cons hi
  rw [edr] at erun
  generalize ms[i]=m at em gm mo erun
  obtain ⟨dx2,cu,hcv2,_⟩:=M2.ob
  refine ⟨_,rfl,.inl ⟨rfl,_,SqL.of ht2⟩,_,rfl,x,dx2,_,rfl,hcv2,rfl,_,rfl,H0,⟨x,c,R,sd,sh,rs⟩,ts,S,m,mt,rfl,M2,mo,gm,?_⟩
  cases es:stepC ts S m with
  | ok r =>
   rw [runM_ok es] at erun
   intro H3 f3 M3
   have ht3:=f3 _ _ ntl.1 ntl.2.1 ntl.2.2 ht2
   refine ⟨tl,_,.int r.1,rfl,rfl,ht3,(by rw [AA,tkl]; exact big16 (by omega)),?_⟩
   obtain ⟨o1,o2,o3,o4,o5,o6,o7,o8⟩:=M3.out
   have n0tl:H0 tl=none:=(s0.trans sH1).free htl
   obtain ⟨dx3,cu3,hcv3,hcu3⟩:=M3.ob
   obtain ⟨kx,hcl3⟩:=M3.cl.ob
   have kp:∀ y o,(∀ xs,o≠.lst xs)→H3 y=some o→upd H3 tl (.lst (tks.map V.int++[V.int r.1])) y=some o:=fun y o n e=>by rw [upd_ne (fun z=>by rw [z,ht3] at e; cases e; exact n _ rfl)]; exact e
   have nRt:R≠tl:=fun z=>by
    have h1:H1 R=some (.lst (rs.map V.ref)):=cl1.hR
    rw [z,htl] at h1
    cases h1
   refine ⟨_,r.2,tks++[r.1],rfl,⟨same_in M3.sm n0tl,M3.ncv,M3.nR0,M3.nsd,M3.nrs,M3.shelf,M3.feet,⟨dx3,cu3,kp _ _ (fun _ z=>by cases z) hcv3,hcu3⟩,⟨⟨kx,kp _ _ (fun _ z=>by cases z) hcl3⟩,by rw [upd_ne nRt]; exact M3.cl.hR,M3.cl.ra.keep fun r' hr' o e=>by rw [upd_ne (fun z=>ntl.2.2 (by rw [← z]; exact hr'))]; exact e⟩,M3.nd,M3.nR,kp _ _ (fun _ z=>by cases z) M3.sd,M3.rect,M3.small,M3.inb,M3.zb⟩,by rw [upd_same,AM]; rfl,by rw [AN,tkl]; rfl,?_⟩
   rw [erun,AY]
   rfl
  | error xf =>
   rw [runM_err es,A2] at erun
   intro dx4 v4 H4 s4 hdx4 hv4
   refine ⟨⟨C,rfl,hm⟩,fun e he=>?_⟩
   have s5:=same_upd he (ExcC e (.ref C) (some dx4))
   refine ⟨_,rfl,_,rfl,e,dx4,_,v4,rfl,upd_same,(Ne.symm (ne_of_none hdx4 he)),s5 _ _ hdx4,rfl,le2,fun t ht=>?_⟩
   have s6:=same_upd ht (.tup [.ref tl,v4])
   have s26:=s4.trans (s5.trans s6)
   have M4:=M2.same s26
   refine q t tl v4 _ M4.sm upd_same (by rw [erun]; exact s26 _ _ ht2) ?_ (by rw [erun]; exact M4.cl)
   rw [erun]
   exact (hv4.same s5).same s6
 ·rintro σ H2 ⟨x5,S,tks,rfl,M2,ht2,tkl,erun⟩
  rw [AA,mtl,List.drop_of_length_le (AE _)] at erun
  have er:runM ts (S00 bed) ms=(tks,S,none):=by
   rw [erun]
   show (tks++[],S,none)=_
   rw [A2]
  refine ⟨_,rfl,le2,fun t ht=>?_⟩
  have s6:=same_upd ht (.tup [.ref tl,.non])
  have M4:=M2.same s6
  exact q t tl .non _ M4.sm upd_same (by rw [er]; exact s6 _ _ ht2) (by rw [er]; exact .non) (by rw [er]; exact M4.cl)
def spCarved (K:PySem.W.Frag):Sp:=fun vs H Q _=>∃ (b sh ml:Addr) (mts:List Addr) (bed:List (List Int)) (ts:List Tool) (ms:List Mo),vs=[.ref b,.ref sh,.ref ml]∧BdAt H b bed∧ShAt H sh ts∧(∀ t∈ts,t.1.length≤100) ∧
 H ml=some (.lst (mts.map V.ref))∧MvAt H mts (ms.map moV)∧(∀ m∈ms,m.ok)∧ms.length≤100000∧Rect bed∧Small bed∧ins bed (0,0)=true ∧
 ∀ (t R tl:Addr) (fv:V) (rs:List Addr) (H':Hp),Same H H'→H' t=some (.tup [.ref R,.ref tl,fv])→H' tl=some (.lst ((runM ts (S00 bed) ms).1.map V.int))→Rp K H' fv (fltD (runM ts (S00 bed) ms).2.2)→H' R=some (.lst (rs.map V.ref))→RowsAt H' rs (runM ts (S00 bed) ms).2.1.rows→H R=none→(∀ r∈rs,H r=none)→Q (.ref t) H'
theorem scCarved:FnScope ["bed","shelf","moves","cells","done"] ["bed","shelf","moves"] (defScope sCarved):=⟨rfl,rfl,rfl,by decide +kernel,rfl,by decide +kernel,by decide +kernel⟩
theorem ok_carved (VV:VT K mg CV CC) (MC:Mc P w K mg base "Cells" CC 1 ["self","bed"] (spCellsI CC)) (FM:Fn P w K mg base "do_moves" 6 ["stuff","shelf","moves"] (spDoMoves K CC)) (F:Fun K "carved" "carved" sCarved f fd'):FnOk P w K mg base (CX1 P w) 7 f fd' ["bed","shelf","moves"] (spCarved K):=by
 have nd:=scCarved.nd
 refine F.ok1 scCarved (fun vs H Q E h=>?_) (fun cdv A outer s H vs Q E hr h=>?_)
 ·obtain ⟨b,sh,ml,mts,bed,ts,ms,rfl,_⟩:=h
  rfl
 obtain ⟨b,sh,ml,mts,bed,ts,ms,rfl,hb,hsh,feet,hml,mml,mok,ml100,rect,small,inb,q⟩:=h
 have hr2:Room 2 _:=hr.mono (by decide)
 refine ⟨_,(pss_cons (ps_set (i:=3) nd rfl (Or.inl rfl) (pf_make MC hr2 rfl (pass1 (E:=E)) (pa_cons (pv 0) pa_nil)))
  (pss_cons (ps_set (i:=4) nd rfl (Or.inl rfl) (pf_call FM hr rfl (pass1 (E:=E)) (pa_cons (pv 3) (pa_cons (pv 1) (pa_cons (pv 2) pa_nil)))))
  (pss_one (ps_ret (pe_tup (pa_cons (pe_fld (pv 3) rfl) (pa_cons (pe_ix ix_tup (pv 4) pe_int (fun _ _=>rfl)) (pa_cons (pe_ix ix_tup (pv 4) pe_int (fun _ _=>rfl)) pa_nil)))))))),?_⟩
 refine ⟨_,rfl,fun x dx hx hdx hne=>?_⟩
 have s1:Same H (upd (upd H dx (.own x)) x (.ins CC dx [])):=fun y o e=>by rw [upd_ne (ne_of_none e hx),upd_ne (ne_of_none e hdx)]; exact e
 have ex:upd (upd H dx (.own x)) x (.ins CC dx []) x=some (.ins CC dx []):=upd_same
 generalize upd (upd H dx (.own x)) x (.ins CC dx [])=G at s1 ex
 refine ⟨x,dx,b,bed,rfl,ex,hb.same s1,(by have:=small.1; omega),fun R rs H1 k1 hx1 hR rr rnd nR nR0 nrs=>⟨rfl,?_⟩⟩
 have s2:Same H H1:=fun y o e=>k1 y o (ne_of_none e hx) (s1 _ _ e)
 have nRH:H R=none:=s1.free nR0
 have nrsH:∀ r∈rs,H r=none:=fun r hr=>s1.free (nrs r hr)
 refine ⟨_,rfl,_,rfl,_,rfl,H,x,R,sh,ml,rs,mts,bed,ts,ms,rfl,s2,⟨⟨dx,hx1⟩,hR,rr⟩,nRH,nrsH,rnd,nR,hsh,feet,hml,mml,mok,ml100,rect,small,inb,fun t tl fv H2 s3 ht htl hfv cl2=>?_⟩
 obtain ⟨dx2,hx2⟩:=cl2.ob
 refine ⟨_,rfl,x,CC,dx2,_,_,rfl,hx2,VV.clC,VV.nRows,rfl,_,rfl,t,_,0,.ref tl,rfl,rfl,SqT.of ht,rfl,_,rfl,t,_,1,fv,rfl,rfl,SqT.of ht,rfl,le3,fun t2 ht2=>?_⟩
 have u:=same_upd ht2 (.tup [.ref R,.ref tl,fv])
 exact q t2 R tl fv rs _ (s3.trans u) upd_same (u _ _ htl) (hfv.same u) (u _ _ cl2.hR) (cl2.ra.same u) nRH nrsH
end
theorem hgt_dwn {rows:List (List Int)} (R:Rect rows) {cs:List (Int×Int)} (hin:∀ d∈cs,ins rows d=true) {h:Int} {d:Int×Int} (hd:ins rows d=true):hgt (dwn rows cs h).1 d=if d∈cs then mn (hgt rows d) h else hgt rows d:=by
 unfold dwn
 rw [dwn_fst]
 refine eq_of_le fun z=>?_
 rw [le_cuts _ rows R (fun o ho=>by obtain ⟨c,hc,rfl⟩:=Ai.mp ho; exact hin c hc) hd]
 by_cases hm:d∈cs
 ·rw [if_pos hm,le_mn]
  refine and_congr Iff.rfl ⟨fun k=>k (d,h) (Ai.mpr ⟨d,hm,rfl⟩) rfl,fun hz o ho e=>?_⟩
  obtain ⟨c,hc,rfl⟩:=Ai.mp ho
  exact hz
 ·rw [if_neg hm]
  refine ⟨fun k=>k.1,fun hz=>⟨hz,fun o ho e=>?_⟩⟩
  obtain ⟨c,hc,rfl⟩:=Ai.mp ho
  exact absurd (e ▸ hc) hm
theorem dwn_al (rows:List (List Int)) (cs:List (Int×Int)) (h:Int):Alike rows (dwn rows cs h).1:=by
 unfold dwn
 rw [dwn_fst]
 exact cuts_alike _ _
section
variable {bed:List (List Int)} {ts:List Tool}
theorem had_within {wished:List (List Int)} (R:Rect bed) (A:Alike bed wished) (L:LeR wished bed) {d:Int×Int} (hd:ins bed d=true):hgt wished d≤hgt (hadF bed wished ts) d∧hgt (hadF bed wished ts) d≤hgt bed d:=by
 refine ⟨(lhad R hd _).mpr ⟨LeR.hgt (A.rect R) A.symm L (by rw [← A.ins]; exact hd),fun t ht s hs p hp e=>⟨s,hs,e ▸ hd,by rw [← e]; exact BC _⟩⟩,((lhad R hd _).mp (BC _)).1⟩
end
def CtsO (H:Hp) (D:Addr):List Addr→List Tool→Prop
 | [],[]=>True
 | c :: cs,t :: ts=>(∃ ft,ft≠D∧H c=some (.tup [.ref ft,.int t.2])∧FtAt H ft t.1)∧CtsO H D cs ts
 | _,_=>False
theorem CtsO.cts {H:Hp} {D:Addr}:∀ {cs:List Addr} {ts:List Tool},CtsO H D cs ts→CtsAt H cs ts
 | [],[],_=>Ad
 | _ :: _,_ :: _,h=>by
  obtain ⟨⟨ft,_,a,b⟩,r⟩:=h
  exact ⟨⟨ft,a,b⟩,CtsO.cts r⟩
 | [],_ :: _,h=>h.elim
 | _ :: _,[],h=>h.elim
theorem CtsO.snoc {H:Hp} {D c:Addr} {t:Tool} (e:∃ ft,ft≠D∧H c=some (.tup [.ref ft,.int t.2])∧FtAt H ft t.1):∀ {cs:List Addr} {ts:List Tool},CtsO H D cs ts→CtsO H D (cs++[c]) (ts++[t])
 | [],[],_=>⟨e,Ad⟩
 | _ :: _,_ :: _,h=>⟨h.1,CtsO.snoc e h.2⟩
 | [],_ :: _,h=>h.elim
 | _ :: _,[],h=>h.elim
theorem CtsO.keep {H H':Hp} {D:Addr} (k:∀ x o,x≠D→H x=some o→H' x=some o) (hD:∃ xs,H D=some (.lst xs)):∀ {cs:List Addr} {ts:List Tool},CtsO H D cs ts→CtsO H' D cs ts
 | [],[],_=>Ad
 | c :: _,t :: _,h=>by
  obtain ⟨xs,hD'⟩:=hD
  have nt:∀ x m,H x=some (.tup m)→x≠D:=fun x m e z=>by rw [z,hD'] at e; cases e
  obtain ⟨⟨ft,n,a,⟨ts,b1,b2⟩⟩,r⟩:=h
  refine ⟨⟨ft,n,k _ _ (nt _ _ a) a,ts,k _ _ n b1,?_⟩,CtsO.keep k ⟨xs,hD'⟩ r⟩
  exact mv_keep (a:=D) k (fun m e=>by rw [hD'] at e; cases e) b2
 | [],_ :: _,_=>by rename_i h; exact h.elim
 | _ :: _,[],_=>by rename_i h; exact h.elim
theorem CtsO.keepD {H H':Hp} {st D:Addr}:∀ {cs:List Addr} {ts:List Tool},CtsO H st cs ts→CtsO H D cs ts→(∀ x o,x≠D→H x=some o→H' x=some o)→(∃ xs,H D=some (.lst xs))→CtsO H' st cs ts
 | [],[],_,_,_,_=>Ad
 | c :: _,t :: _,h,g,k,hD=>by
  obtain ⟨xs,hD'⟩:=hD
  have nt:∀ x m,H x=some (.tup m)→x≠D:=fun x m e z=>by rw [z,hD'] at e; cases e
  obtain ⟨⟨ft,n,a,⟨ts,b1,b2⟩⟩,r⟩:=h
  obtain ⟨⟨ft',n',a',_⟩,r'⟩:=g
  have e:ft'=ft:=by rw [a] at a'; cases a'; rfl
  subst e
  refine ⟨⟨ft',n,k _ _ (nt _ _ a) a,ts,k _ _ n' b1,?_⟩,CtsO.keepD r r' k ⟨xs,hD'⟩⟩
  exact mv_keep (a:=D) k (fun m e=>by rw [hD'] at e; cases e) b2
 | [],_ :: _,h,_,_,_=>h.elim
 | _ :: _,[],h,_,_,_=>h.elim
def OfB (H:Hp) (st b:Addr) (rows:List (List Int)):Prop:=∃ rs,H b=some (.lst (rs.map V.ref))∧RowsAt H rs rows∧b≠st∧st ∉ rs
theorem OfB.bd {H:Hp} {st b:Addr} {rows:List (List Int)} (h:OfB H st b rows):BdAt H b rows:=by
 obtain ⟨rs,a,c,_⟩:=h
 exact ⟨rs,a,c⟩
theorem OfB.keep {H H':Hp} {st b:Addr} {rows:List (List Int)} (h:OfB H st b rows) (s:Sb st H H'):OfB H' st b rows:=by
 obtain ⟨rs,a,c,d,e⟩:=h
 exact ⟨rs,s _ _ d a,c.keep (fun r hr o x=>s r o (fun z=>e (by rw [← z]; exact hr)) x),d,e⟩
theorem OfB.same {H H':Hp} {st b:Addr} {rows:List (List Int)} (h:OfB H st b rows) (s:Same H H'):OfB H' st b rows:=h.keep (Sb.of s)
def OfS (H:Hp) (st sh:Addr) (ts:List Tool):Prop:=∃ cs,H sh=some (.lst (cs.map V.ref))∧CtsO H st cs ts∧sh≠st
theorem OfS.sh {H:Hp} {st sh:Addr} {ts:List Tool} (h:OfS H st sh ts):ShAt H sh ts:=by
 obtain ⟨cs,a,c,_⟩:=h
 exact ⟨cs,a,c.cts⟩
theorem OfS.keep {H H':Hp} {st sh:Addr} {ts:List Tool} {xs:List V} (h:OfS H st sh ts) (e:H st=some (.lst xs)) (s:Sb st H H'):OfS H' st sh ts:=by
 obtain ⟨cs,a,c,d⟩:=h
 exact ⟨cs,s _ _ d a,c.keep s ⟨xs,e⟩,d⟩
section
variable {P:Program} {w:World} {K:PySem.W.Frag} {mg:Str→Option Value} {base:Heap} {f:Addr} {fd':FuncData}
def spCase (K:PySem.W.Frag):Sp:=fun vs H Q _=>∃ (L:Addr) (ns:List Int),vs=[.ref L]∧SqL K H L (ns.map V.int) ∧
 ∀ (t b w sh:Addr) (turn:Int) (bed wished:List (List Int)) (tools:List Tool) (H':Hp),Same H H'→H' t=some (.tup [.ref b,.ref w,.ref sh,.int turn])→BdAt H' b bed→BdAt H' w wished→ShAt H' sh tools→Rect bed→Alike bed wished→Small bed→(∀ t∈tools,t.1.length≤26∧t.1.Nodup∧∀ s∈t.1,Nr s)→tools.length≤6→0≤turn→(∀ t∈tools,t.2=1000)→LeR wished bed→(∀ r∈bed,∀ v∈r,v≤1000)→ins bed (0,0)=true→(∀ r∈wished,∀ v∈r,0≤v)→Q (.ref t) H'
theorem scCase:FnScope ["script","state","wide","deep","count","most","bed","wished","shelf"] ["script"] (defScope sCase):=⟨rfl,rfl,rfl,by decide +kernel,rfl,by decide +kernel,by decide +kernel⟩
theorem ndk:(["k","script","state","most"]:List Str).Nodup:=by decide +kernel
theorem ok_case (T:LawT mg) (hsu:mg "sum"=none) (FT:Fn P w K mg base "_law_take" 1 ["state","many"] spTk) (FA:Fn P w K mg base "_law_cell_at" 1 ["script","k"] (spAt K)) (FR:Fn P w K mg base "_law_rows" 3 ["script","mixed","wide","deep"] (spRows K)) (FC:Fn P w K mg base "_law_cutter" 2 ["state","most"] spCutter)
  (F:Fun K "_law_case" "_law_case" sCase f fd'):FnOk P w K mg base (CX1 P w) 4 f fd' ["script"] (spCase K):=by
 have nd:=scCase.nd
 refine F.ok1 scCase (fun vs H Q E h=>?_) (fun cdv A outer s H vs Q E hr h=>?_)
 ·obtain ⟨L,ns,rfl,_⟩:=h
  rfl
 obtain ⟨L,ns,rfl,hL,q⟩:=h
 have hr1:Room 1 _:=hr.mono (by decide)
 have hr2:Room 2 _:=hr.mono (by decide)
 have hr3:Room 3 _:=hr.mono (by decide)
 refine ⟨_,(pss_cons (ps_set (i:=1) nd rfl (Or.inr rfl) (pe_lst (pa_cons (pf_call FA hr1 rfl (pass1 (E:=E)) (pa_cons (pv 0) (pa_cons pe_int pa_nil))) (pa_cons (pe_op op_mod (pe_callB (call_sumW rfl) rfl hsu bt_sum (pa_cons (pv 0) pa_nil)) pe_int) pa_nil))))
  (pss_cons (ps_set (i:=2) nd rfl (Or.inl rfl) (pe_op op_add pe_int (pf_call FT hr1 rfl (pass1 (E:=E)) (pa_cons (pv 1) (pa_cons pe_int pa_nil)))))
  (pss_cons (ps_set (i:=3) nd rfl (Or.inl rfl) (pe_op op_add pe_int (pf_call FT hr1 rfl (pass1 (E:=E)) (pa_cons (pv 1) (pa_cons pe_int pa_nil)))))
  (pss_cons (ps_set (i:=4) nd rfl (Or.inl rfl) (pe_op op_add pe_int (pf_call FT hr1 rfl (pass1 (E:=E)) (pa_cons (pv 1) (pa_cons pe_int pa_nil)))))
  (pss_cons (ps_set (i:=5) nd rfl (Or.inr rfl) (pe_ix ix_list (pe_lst (pa_cons pe_int (pa_cons pe_int pa_nil))) (pf_call FT hr1 rfl (pass1 (E:=E)) (pa_cons (pv 1) (pa_cons pe_int pa_nil))) (fun _ _=>rfl)))
  (pss_cons (ps_asg (pf_call FR hr3 rfl (pass1 (E:=E)) (pa_cons (pv 0) (pa_cons (pe_ix ix_list (pv 1) pe_int (fun _ _=>rfl)) (pa_cons (pv 2) (pa_cons (pv 3) pa_nil))))) (pg_tup (n:=2) rfl (pgs_cons (pg_name (i:=6) nd rfl (Or.inl rfl)) (pgs_cons (pg_name (i:=7) nd rfl (Or.inl rfl)) pgs_nil))))
  (pss_cons (ps_setC (i:=8) (own:=["k"]) (capn:=["script","state","most"]) (capI:=[0,1,5]) nd rfl (Or.inl rfl) rfl rfl (blkC (defScope sCase) rfl rfl (by decide +kernel) rfl (fun y hy=>by rcases AK.mp hy with rfl | hy; exact ⟨rfl,rfl⟩; rcases AK.mp hy with rfl | hy; exact ⟨rfl,rfl⟩; rcases AK.mp hy with rfl | hy; exact ⟨rfl,rfl⟩; cases hy)) (pi_range1 rfl T.range (pa_cons (pv 4) pa_nil)) (fun _ _ _ _ _ _=>pg_name (i:=0) ndk rfl (Or.inl rfl)) (fun _ _ _ _ _ _=>pifs_nil) (fun _ _ _ _ _ _=>(pf_call FC hr2 rfl passN (pa_cons (pe_lst (pa_cons (pe_op op_add (pf_call FA hr1 rfl passN (pa_cons (pv 1) (pa_cons (pe_op op_add pe_int (pv 0)) pa_nil))) (pe_op op_mul (pv 0) (pe_ix (ix_listK (K:=K) rfl) (pv 2) pe_int (fun _ _=>rfl)))) (pa_cons (pe_ix (ix_listK (K:=K) rfl) (pv 2) pe_int (fun _ _=>rfl)) pa_nil))) (pa_cons (pv 3) pa_nil)))))
  (pss_one (ps_ret (pe_tup (pa_cons (pv 6) (pa_cons (pv 7) (pa_cons (pv 8) (pa_cons (pf_call FT hr1 rfl (pass1 (E:=E)) (pa_cons (pv 1) (pa_cons pe_int pa_nil))) pa_nil)))))))))))))),?_⟩
 refine ⟨_,rfl,L,ns,0,rfl,hL,(by decide),fun z=>⟨_,rfl,L,ns,rfl,hL,fun sm=>⟨_,_,rfl,rfl,(by show (0:Int) < 2; decide),le2,fun st hst=>?_⟩⟩⟩
 obtain ⟨b,hb,b0,b1⟩:∃ b:Int,b=sm % 2∧0≤b∧b≤1:=⟨sm % 2,rfl,by omega,by omega⟩
 have hb':(fun i j:Int=>V.int (i % j)) sm 2=V.int b:=by rw [hb]
 rw [hb']
 have u1:=same_upd hst (.lst [V.int z,.int b])
 have es1:upd H st (.lst [V.int z,.int b]) st=some (.lst [V.int z,.int b]):=upd_same
 generalize upd H st (.lst [V.int z,.int b])=H1 at u1 es1
 have tk:∀ {G:Hp} {c:Int},Same H G→upd G st (.lst [V.int c,.int b]) st=some (.lst [V.int c,.int b])∧Same H (upd G st (.lst [V.int c,.int b])):=fun s=>⟨upd_same,same_in s hst⟩
 refine ⟨_,rfl,st,z,b,6,rfl,es1,(by decide),(by decide),fun z1 c1 p1 q1=>⟨_,_,rfl,rfl,?_⟩⟩
 obtain ⟨es2,u2⟩:=tk (c:=c1) u1
 generalize upd H1 st (.lst [V.int c1,.int b])=H2 at es2 u2
 refine ⟨_,rfl,st,c1,b,6,rfl,es2,(by decide),(by decide),fun z2 c2 p2 q2=>⟨_,_,rfl,rfl,?_⟩⟩
 obtain ⟨es3,u3⟩:=tk (c:=c2) u2
 generalize upd H2 st (.lst [V.int c2,.int b])=H3 at es3 u3
 refine ⟨_,rfl,st,c2,b,4,rfl,es3,(by decide),(by decide),fun z3 c3 p3 q3=>⟨_,_,rfl,rfl,?_⟩⟩
 obtain ⟨es4,u4⟩:=tk (c:=c3) u3
 generalize upd H3 st (.lst [V.int c3,.int b])=H4 at es4 u4
 refine ⟨le2,fun l1 hl1=>?_⟩
 have v1:=same_upd hl1 (.lst [V.int 6,.int 25])
 have n1:=ne_new es4 hl1
 refine ⟨_,rfl,st,c3,b,2,rfl,v1 _ _ es4,(by decide),(by decide),fun z4 c4 p4 q4=>?_⟩
 have e1:upd (upd H4 l1 (.lst [V.int 6,.int 25])) st (.lst [V.int c4,.int b]) l1=some (.lst [V.int 6,.int 25]):=by rw [upd_ne n1,upd_same]
 obtain ⟨mo,hmo,mo0,mo25⟩:∃ mo:Int,atI [V.int 6,V.int 25] z4=some (.int mo)∧0 < mo∧mo≤25:=by
  have:z4=0∨z4=1:=by omega
  rcases this with rfl | rfl
  ·exact ⟨6,rfl,by decide,by decide⟩
  ·exact ⟨25,rfl,by decide,by decide⟩
 refine ⟨l1,_,z4,.int mo,rfl,rfl,SqL.of e1,hmo,?_⟩
 obtain ⟨es5,u5⟩:=tk (c:=c4) (u4.trans v1)
 generalize upd (upd H4 l1 (.lst [V.int 6,.int 25])) st (.lst [V.int c4,.int b])=H5 at es5 u5
 clear e1 n1 v1 hl1 es1 es2 es3 es4 u1 u2 u3 u4
 obtain ⟨wd,hwd,wd1,wd6⟩:∃ wd:Nat,(1 + z1)=(wd:Int)∧1≤wd∧wd≤40:=⟨(1 + z1).toNat,by omega,by omega,by omega⟩
 obtain ⟨dp,hdp,dp1,dp6⟩:∃ dp:Nat,(1 + z2)=(dp:Int)∧1≤dp∧dp≤40:=⟨(1 + z2).toNat,by omega,by omega,by omega⟩
 obtain ⟨ct,hct,ct1,ct6⟩:∃ ct:Nat,(1 + z3)=(ct:Int)∧1≤ct∧ct≤6:=⟨(1 + z3).toNat,by omega,by omega,by omega⟩
 have u7:=u5
 have es7:=es5
 have hw':(fun i j:Int=>V.int (i + j)) 1 z1=V.int (wd:Int):=congrArg V.int hwd
 have hd':(fun i j:Int=>V.int (i + j)) 1 z2=V.int (dp:Int):=congrArg V.int hdp
 have hc':(fun i j:Int=>V.int (i + j)) 1 z3=V.int (ct:Int):=congrArg V.int hct
 rw [hw',hd',hc']
 refine ⟨_,rfl,_,rfl,st,_,1,.int b,rfl,rfl,SqL.of es7,rfl,_,rfl,_,rfl,L,ns,b,wd,dp,rfl,u7.seq hL,b0,b1,wd1,wd6,dp1,dp6,fun t bd wh rs ws bed wished H6 s6 ht nbd nwh nrs nws hbd rbd hwh rwh rect al small hle hb9 in0 hnn=>?_⟩
 refine ⟨t,_,rfl,SqT.of ht,rfl,_,_,rfl,_,_,rfl,rfl,?_⟩
 have es8:=s6 _ _ es7
 have oB:OfB H6 st bd bed:=⟨rs,hbd,rbd,ne_new es7 nbd,fun z=>(by have:=nrs st z; rw [es7] at this; cases this)⟩
 have oW:OfB H6 st wh wished:=⟨ws,hwh,rwh,ne_new es7 nwh,fun z=>(by have:=nws st z; rw [es7] at this; cases this)⟩
 have u8:=u7.trans s6
 refine ⟨_,rfl,_,rfl,(by omega),(by omega),fun D hD=>?_⟩
 rw [Aq]
 refine ⟨Wd ct (fun i σ2 acc H7=>∃ (z:Option V) (cts:List Addr) (tools:List Tool),σ2=[z,some (.ref L),some (.ref st),some (.int mo)]∧acc=cts.map V.ref∧CtsO H7 D cts tools∧CtsO H7 st cts tools∧tools.length=i∧(∀ t∈tools,t.1.length≤26∧t.1.Nodup∧∀ s∈t.1,Nr s)∧(∀ t∈tools,t.2=1000)∧Same H6 H7∧H7 D=some (.lst acc)),wd_0 ⟨none,[],[],rfl,rfl,Ad,Ad,rfl,fun _ h=>(Ay h).elim,fun _ h=>(Ay h).elim,same_upd hD _,upd_same⟩,?_⟩
 rintro i im σ2 acc H7 ⟨rfl,hi0,z',cts,tools,rfl,rfl,co,cos,tl,t100,tb,s7,hD7⟩
 have ctl:=co.cts.len
 refine rg_ask hi0 (fun hi=>?_) (fun hend=>?_)
 ·have es9:=s7 _ _ es8
  refine ⟨_,rfl,_,rfl,_,_,rfl,rfl,L,ns,_,rfl,(u8.trans s7).seq hL,(by omega),fun zz=>⟨_,rfl,_,rfl,st,_,1,.int b,rfl,rfl,SqL.of es9,rfl,_,_,rfl,rfl,.inl ⟨by omega,by omega⟩,_,_,rfl,rfl,_,rfl,st,_,1,.int b,rfl,rfl,SqL.of es9,rfl,le2,fun s2 hs2=>?_⟩⟩
  have v2:=same_upd hs2 (.lst [V.int (zz + (0 + (i:Int)) * b),.int b])
  have nsD:=ne_new hD7 hs2
  refine ⟨_,rfl,s2,_,b,mo,rfl,mo0,mo25,upd_same,fun cta ft foot c' H8 w8 hf0 _ _ hcta hfta _ fl fnd fnr=>?_⟩
  have k8:Same H7 H8:=fun x o e=>w8 x o (ne_of_none e hs2) (v2 x o e)
  have hD8:=k8 _ _ hD7
  have nft:ft≠D:=fun z=>by
   rw [z,v2 _ _ hD7] at hf0
   cases hf0
  have nfs:ft≠st:=fun z=>by
   rw [z,v2 _ _ es9] at hf0
   cases hf0
  have nca:cta≠D:=fun z=>by rw [z,hD8] at hcta; cases hcta
  refine ⟨hD8,(by rw [AA]; exact line3 (show cts.length≤1000 by omega) (by decide)),wd_next hi ⟨_,cts++[cta],tools++[(foot,1000)],rfl,by rw [AM]; rfl,?_,?_,by rw [AN,tl]; rfl,fun x hx=>?_,(fun x hx=>by
   rcases AW.mp hx with hx | hx
   ·exact tb x hx
   ·rw [show x=(foot,1000) by simpa using hx]),same_in (s7.trans k8) hD,upd_same⟩⟩
  ·have co8:=CtsO.snoc (c:=cta) (t:=(foot,1000)) ⟨ft,nft,hcta,hfta⟩ (co.keep (fun x o _ e=>k8 x o e) ⟨_,hD7⟩)
   exact co8.keep (fun x o n e=>by rw [upd_ne n]; exact e) ⟨_,hD8⟩
  ·have co8:=CtsO.snoc (c:=cta) (t:=(foot,1000)) ⟨ft,nft,hcta,hfta⟩ (co.keep (fun x o _ e=>k8 x o e) ⟨_,hD7⟩)
   have cs8:=CtsO.snoc (c:=cta) (t:=(foot,1000)) ⟨ft,nfs,hcta,hfta⟩ (cos.keep (fun x o _ e=>k8 x o e) ⟨_,es9⟩)
   exact CtsO.keepD cs8 co8 (fun x o n e=>by rw [upd_ne n]; exact e) ⟨_,hD8⟩
  ·rcases AW.mp hx with hx | hx
   ·exact t100 x hx
   ·rw [show x=(foot,1000) by simpa using hx]; exact ⟨fl,fnd,fnr⟩
 ·have es9:=s7 _ _ es8
  refine ⟨_,rfl,_,rfl,_,rfl,_,rfl,st,_,b,36,rfl,es9,(by decide),(by decide),fun tn cN tn0 _=>⟨(by show 4≤AR; decide),fun t2 ht2=>?_⟩⟩
  have kst:Sb st H7 (upd H7 st (.lst [V.int cN,.int b])):=sb_upd
  have v:=same_upd ht2 (.tup [V.ref bd,.ref wh,.ref D,.int tn])
  have nDs:D≠st:=ne_new es8 hD
  have oS:OfS H7 st D tools:=⟨cts,hD7,cos,nDs⟩
  exact q t2 bd wh D tn bed wished tools _ (same_in (u8.trans s7) hst |>.trans v) upd_same (((oB.same s7).keep kst).same v).bd (((oW.same s7).keep kst).same v).bd ((oS.keep es9 kst).sh.same v) rect al small t100 (by omega) tn0 tb hle hb9 in0 hnn
end
def shb (x y:Int) (c:Int×Int):Int×Int:=(x - c.1,y - c.2)
def ovs (rows:List (List Int)) (foot:List (Int×Int)) (x y:Int):List (Int×Int):=(foot.map (shb x y)).filter (ins rows)
theorem mv_paired {K:PySem.W.Frag} {H:Hp}:∀ {ts:List Addr} {cs:List (Int×Int)},MvAt H ts (cs.map pr)→Paired (fun t (c:Int×Int)=>SqT K H t [.int c.1,.int c.2]) ts cs
 | [],[],_=>.nil
 | _ :: _,_ :: _,h=>.cons (SqT.of h.1) (mv_paired h.2)
 | [],_ :: _,h=>h.elim
 | _ :: _,[],h=>h.elim
theorem mv_pairedH {H:Hp}:∀ {ts:List Addr} {cs:List (Int×Int)},MvAt H ts (cs.map pr)→Paired (fun t (c:Int×Int)=>H t=some (.tup (pr c))) ts cs
 | [],[],_=>.nil
 | _ :: _,_ :: _,h=>.cons h.1 (mv_pairedH h.2)
 | [],_ :: _,h=>h.elim
 | _ :: _,[],h=>h.elim
theorem paired_mv {H:Hp}:∀ {ts:List Addr} {cs:List (Int×Int)},Paired (fun t (c:Int×Int)=>H t=some (.tup (pr c))) ts cs→MvAt H ts (cs.map pr)
 | _,_,.nil=>Ad
 | _,_,.cons h r=>⟨h,paired_mv r⟩
theorem bt_sorted:bootBuiltins "sorted"=some (.builtin "sorted"):=by decide +kernel
def SrtOf (cs:List (Int×Int)) (ds:List (Int×Int)):Prop:=ds.Perm cs∧ds.Pairwise fun a b=>rkP a≤rkP b
section
variable {P:Program} {w:World} {K:PySem.W.Frag} {mg:Str→Option Value} {base:Heap} {f:Addr} {fd':FuncData}
def spPlaces:Sp:=fun vs H Q _=>∃ (b ct ft:Addr) (tv:V) (x y:Int) (rows:List (List Int)) (foot:List (Int×Int)),vs=[.ref b,.ref ct,.int x,.int y]∧BdAt H b rows∧rows≠[]∧rows.length≤40∧H ct=some (.tup [.ref ft,tv])∧FtAt H ft foot∧foot.length < 64 ∧
 ∀ D H' ds,H D=none→Same H H'→FtAt H' D ds→SrtOf (ovs rows foot x y) ds→Q (.ref D) H'
theorem scPlaces:FnScope ["bed","cutter","x","y"] ["bed","cutter","x","y"] (defScope sPlaces):=⟨rfl,rfl,rfl,by decide +kernel,rfl,by decide +kernel,by decide +kernel⟩
theorem ok_places (hso:mg "sorted"=none) (FW:Fn P w K mg base "within" 1 ["bed","cells"] spWithin) (F:Fun K "places_over" "places_over" sPlaces f fd'):FnOk P w K mg base (CX1 P w) 2 f fd' ["bed","cutter","x","y"] spPlaces:=by
 have nd:=scPlaces.nd
 refine F.ok1 scPlaces (fun vs H Q E h=>?_) (fun cdv A outer s H vs Q E hr h=>?_)
 ·obtain ⟨b,ct,ft,tv,x,y,rows,foot,rfl,_⟩:=h
  rfl
 obtain ⟨b,ct,ft,tv,x,y,rows,foot,rfl,hb,hne,h40,hct,⟨ts,hft,mvf⟩,hl,q⟩:=h
 have hr1:Room 1 _:=hr.mono (by decide)
 have tl:ts.length=foot.length:=by rw [mvf.len,AA]
 refine ⟨_,(pss_one (ps_ret (pe_callB call_sortP rfl hso bt_sorted (pa_cons (pf_call FW hr1 rfl (pass1 (E:=E)) (pa_cons (pv 0) (pa_cons (pe_lc (own:=["step"]) (capn:=["x","y"]) (capI:=[2,3]) rfl (blkC (defScope sPlaces) rfl rfl (by decide +kernel) rfl (fun y hy=>by rcases AK.mp hy with rfl | hy; exact ⟨rfl,rfl⟩; rcases AK.mp hy with rfl | hy; exact ⟨rfl,rfl⟩; cases hy)) (pi_list (pe_ix ix_tup (pv 1) pe_int (fun _ _=>rfl))) (fun _ _ _ _ _ _=>pg_name (i:=0) nd3 rfl (Or.inl rfl)) (fun _ _ _ _ _ _=>pifs_nil) (fun _ _ _ _ _ _=>(pe_tup (pa_cons (pe_op op_sub (pv 1) (pe_ix (ix_tupK (K:=K) rfl) (pv 0) pe_int (fun _ _=>rfl))) (pa_cons (pe_op op_sub (pv 2) (pe_ix (ix_tupK (K:=K) rfl) (pv 0) pe_int (fun _ _=>rfl))) pa_nil))))) pa_nil))) pa_nil)))),?_⟩
 refine ⟨_,rfl,_,rfl,ct,_,0,.ref ft,rfl,rfl,SqT.of hct,rfl,ft,rfl,⟨_,SqL.of hft⟩,fun D hD=>?_⟩
 obtain ⟨g,hg⟩:∃ g:V→Int×Int,∀ t c,MvAt H [t] [pr c]→g (.ref t)=c:=by
  refine ⟨fun v=>match v with | .ref t=>(match H t with | some (.tup [.int a,.int b])=>(a,b) | _=>(0,0)) | _=>(0,0),fun t c h=>?_⟩
  have e:H t=some (.tup [.int c.1,.int c.2]):=h.1
  simp only [e]
 have gall:∀ (us:List Addr) (cs:List (Int×Int)),MvAt H us (cs.map pr)→(us.map V.ref).map (fun v=>pr (shb x y (g v)))=(cs.map (shb x y)).map pr:=by
  intro us
  induction us with
  | nil =>
   intro cs h
   cases cs with
   | nil=>rfl
   | cons c cs=>exact h.elim
  | cons u us ih =>
   intro cs h
   cases cs with
   | nil=>exact h.elim
   | cons c cs =>
    rw [Af,Af,Af,Af,ih cs h.2,hg u c ⟨h.1,Ad⟩]
 refine lc_tupC (K:=K) (xs:=ts.map V.ref) (F:=fun v=>pr (shb x y (g v))) [some (.int x),some (.int y)] (SqL.of hft) (by rw [AA]; omega) (fun v hv H2 R s2 r=>?_) hD (fun us H2 s2 hD2 mv2=>?_)
 ·obtain ⟨t,ht,rfl⟩:=Ai.mp hv
  obtain ⟨i,hi⟩:=List.getElem?_of_mem ht
  have hif:i < foot.length:=by have:=(AF.mp hi).1; omega
  have e1:=mvf.at_ hi (by rw [AH,AD hif]; rfl)
  have e2:=s2 _ _ e1
  have e3:=hg t _ ⟨e1,Ad⟩
  generalize foot[i]=c1 at e1 e2 e3
  rw [e3] at r
  exact ⟨_,rfl,_,rfl,t,_,0,.int c1.1,rfl,rfl,SqT.of e2,rfl,_,_,rfl,rfl,_,rfl,_,rfl,t,_,1,.int c1.2,rfl,rfl,SqT.of e2,rfl,_,_,rfl,rfl,le2,r⟩
 ·rw [gall ts foot mvf] at mv2
  refine ⟨b,D,rows,foot.map (shb x y),rfl,hb.same s2,hne,⟨us,hD2,mv2⟩,by rw [AA]; omega,fun D2 H3 n3 s3 h3=>?_⟩
  obtain ⟨ts3,h31,h32⟩:=h3
  have l3:ts3.length=(ovs rows foot x y).length:=by rw [h32.len,AA]; rfl
  have lo:(ovs rows foot x y).length≤foot.length:=by
   unfold ovs
   exact Au (List.length_filter_le _ _) (by rw [AA]; exact AE _)
  refine ⟨D2,ts3,ovs rows foot x y,rfl,SqL.of h31,mv_paired h32,by omega,fun c hc=>?_,fun D4 us4 ds n4 perm pw ul rel=>?_⟩
  ·have hi:=(Aj.mp hc).2
   unfold ins at hi
   have:=of_decide_eq_true hi
   unfold inP
   omega
  ·have u4:=same_upd n4 (.lst (us4.map V.ref))
   refine q D4 _ ds ((s2.trans s3).free n4) ((s2.trans s3).trans u4) ⟨us4,upd_same,(paired_mv (rel _ (mv_pairedH h32))).same u4⟩ ⟨perm,pw⟩
def spLowest:Sp:=fun vs H Q _=>∃ (b ct ft:Addr) (tv:V) (x y:Int) (rows:List (List Int)) (foot:List (Int×Int)),vs=[.ref b,.ref ct,.int x,.int y]∧BdAt H b rows∧Rect rows∧H ct=some (.tup [.ref ft,tv])∧FtAt H ft foot∧foot.length≤1000∧∀ H',Same H H'→Q (.int (lowAt rows foot x y)) H'
theorem scLowest:FnScope ["wished","cutter","x","y"] ["wished","cutter","x","y"] (defScope sLowest):=⟨rfl,rfl,rfl,by decide +kernel,rfl,by decide +kernel,by decide +kernel⟩
theorem ok_lowest (FU:Fn P w K mg base "cells_under" 2 ["bed","cutter","x","y"] spUnder) (FG:Fn P w K mg base "greatest" 1 ["bed","cells"] spGreat) (F:Fun K "lowest_at" "lowest_at" sLowest f fd'):FnOk P w K mg base (CX1 P w) 3 f fd' ["wished","cutter","x","y"] spLowest:=by
 have nd:=scLowest.nd
 refine F.ok1 scLowest (fun vs H Q E h=>?_) (fun cdv A outer s H vs Q E hr h=>?_)
 ·obtain ⟨b,ct,ft,tv,x,y,rows,foot,rfl,_⟩:=h
  rfl
 obtain ⟨b,ct,ft,tv,x,y,rows,foot,rfl,hb,rect,hct,hft,hl,q⟩:=h
 have hr1:Room 1 _:=hr.mono (by decide)
 have hr2:Room 2 _:=hr.mono (by decide)
 refine ⟨_,(pss_one (ps_ret (pf_call FG hr1 rfl (pass1 (E:=E)) (pa_cons (pv 0) (pa_cons (pf_call FU hr2 rfl (pass1 (E:=E)) (pa_cons (pv 0) (pa_cons (pv 1) (pa_cons (pv 2) (pa_cons (pv 3) pa_nil))))) pa_nil))))),?_⟩
 refine ⟨_,rfl,_,rfl,_,rfl,_,rfl,_,rfl,b,ct,ft,tv,x,y,rows,foot,rfl,hb,rect.1,hct,hft,hl,fun D H1 _ s1 hD=>?_⟩
 exact ⟨b,D,rows,und rows foot x y,rfl,hb.same s1,rect,hD,Au (List.length_filter_le _ _) (by rw [AA]; exact hl),fun c hc=>(Aj.mp hc).2,fun H2 s2=>q H2 (s1.trans s2)⟩
end
theorem shb_shf {x y:Int} {s p:Int×Int}:p=shb x y s↔(x,y)=shf p.1 p.2 s:=by
 rcases p with ⟨p1,p2⟩
 rcases s with ⟨s1,s2⟩
 unfold shb shf
 simp only [Prod.mk.injEq]
 omega
theorem mem_ovs {rows:List (List Int)} {foot:List (Int×Int)} {x y:Int} {p:Int×Int}:p∈ovs rows foot x y↔ins rows p=true∧∃ s∈foot,(x,y)=shf p.1 p.2 s:=by
 unfold ovs
 rw [Aj,Ai]
 constructor
 ·rintro ⟨⟨s,hs,e⟩,h⟩
  exact ⟨h,s,hs,shb_shf.mp e.symm⟩
 ·rintro ⟨h,s,hs,e⟩
  exact ⟨⟨s,hs,(shb_shf.mpr e).symm⟩,h⟩
theorem had_ovr {bed wished:List (List Int)} (R:Rect bed) (A:Alike bed wished) {ts:List Tool} {x y n:Int} (hin:ins bed (x,y)=true) (h:∀ z,z≤n↔z≤hgt bed (x,y)∧∀ t∈ts,∀ p∈ovs bed t.1 x y,z≤lowAt wished t.1 p.1 p.2):n=hgt (hadF bed wished ts) (x,y):=by
 refine eq_of_le fun z=>?_
 rw [h z,le_had R hin]
 constructor
 ·rintro ⟨a,k⟩
  refine ⟨a,fun t ht s hs p hp e=>?_⟩
  have:=k t ht p (mem_ovs.mpr ⟨hp,s,hs,e⟩)
  unfold lowAt at this
  rw [← und_alike A] at this
  exact this
 ·rintro ⟨a,k⟩
  refine ⟨a,fun t ht p hp=>?_⟩
  obtain ⟨h1,s,hs,e⟩:=mem_ovs.mp hp
  unfold lowAt
  rw [← und_alike A]
  exact k t ht s hs p h1 e
theorem take_snoc {α:Type} {xs:List α} {i:Nat} {x:α} (h:xs[i]?=some x):xs.take (i + 1)=xs.take i++[x]:=by
 rw [A9,h]
 rfl
section
variable {P:Program} {w:World} {K:PySem.W.Frag} {mg:Str→Option Value} {base:Heap} {f:Addr} {fd':FuncData}
def spOver:Sp:=fun vs H Q _=>∃ (b wh sh:Addr) (x y:Int) (bed wished:List (List Int)) (ts:List Tool),vs=[.ref b,.ref wh,.ref sh,.int x,.int y]∧BdAt H b bed∧BdAt H wh wished∧ShAt H sh ts∧Rect bed∧Alike bed wished∧Small bed∧(∀ t∈ts,t.1.length < 64)∧ins bed (x,y)=true∧∀ H',Same H H'→Q (.int (hgt (hadF bed wished ts) (x,y))) H'
theorem scOver:FnScope ["bed","wished","shelf","x","y","told","cutter","place"] ["bed","wished","shelf","x","y"] (defScope sLowOver):=⟨rfl,rfl,rfl,by decide +kernel,rfl,by decide +kernel,by decide +kernel⟩
theorem ok_over (T:LawT mg) (FP:Fn P w K mg base "places_over" 2 ["bed","cutter","x","y"] spPlaces) (FL:Fn P w K mg base "lowest_at" 3 ["wished","cutter","x","y"] spLowest) (F:Fun K "lowest_over" "lowest_over" sLowOver f fd'):FnOk P w K mg base (CX1 P w) 4 f fd' ["bed","wished","shelf","x","y"] spOver:=by
 have nd:=scOver.nd
 refine F.ok1 scOver (fun vs H Q E h=>?_) (fun cdv A outer s H vs Q E hr h=>?_)
 ·obtain ⟨b,wh,sh,x,y,bed,wished,ts,rfl,_⟩:=h
  rfl
 obtain ⟨b,wh,sh,x,y,bed,wished,ts,rfl,hb,hw,hs,rect,al,small,feet,hin,q⟩:=h
 have hr2:Room 2 _:=hr.mono (by decide)
 have hr3:Room 3 _:=hr.mono (by decide)
 refine ⟨_,(pss_cons (ps_set (i:=5) nd rfl (Or.inl rfl) (pe_ix ix_list (pe_ix ix_list (pv 0) (pv 4) (fun _ _=>rfl)) (pv 3) (fun _ _=>rfl)))
  (pss_cons (ps_for own1 rfl (pi_list (pv 2)) (pg_name (i:=6) nd rfl (Or.inl rfl)) (pss_one (ps_for own1 rfl (pi_list (pf_call FP hr2 rfl (pass1 (E:=E)) (pa_cons (pv 0) (pa_cons (pv 6) (pa_cons (pv 3) (pa_cons (pv 4) pa_nil)))))) (pg_name (i:=7) nd rfl (Or.inl rfl)) (pss_one (ps_set (i:=5) nd rfl (Or.inl rfl) (pe_callB (call_min2 rfl) rfl T.min bt_min (pa_cons (pv 5) (pa_cons (pf_call FL hr3 rfl (pass1 (E:=E)) (pa_cons (pv 1) (pa_cons (pv 6) (pa_cons (pe_ix ix_tup (pv 7) pe_int (fun _ _=>rfl)) (pa_cons (pe_ix ix_tup (pv 7) pe_int (fun _ _=>rfl)) pa_nil))))) pa_nil))))))))
  (pss_one (ps_ret (pv 5))))),?_⟩
 obtain ⟨i,j,row,v,exy,hrow,hv,hh⟩:=ins_at hin rect
 obtain ⟨rfl,rfl⟩:x=(j:Int)∧y=(i:Int):=by cases exy; exact ⟨rfl,rfl⟩
 obtain ⟨rs,hb1,ra⟩:=id hb
 obtain ⟨r,hr',hrl⟩:=ra.at_ hrow
 refine ⟨_,rfl,_,rfl,b,_,_,.ref r,rfl,rfl,SqL.of hb1,atI_nat (by rw [AH,hr']; rfl),_,rfl,r,_,_,.int v,rfl,rfl,SqL.of hrl,atI_nat (by rw [AH,hv]; rfl),?_⟩
 obtain ⟨cs,hs1,cts⟩:=hs
 have cl:=cts.len
 refine ⟨_,rfl,sh,rfl,⟨_,SqL.of hs1⟩,?_⟩
 refine for_list (K:=K) (a:=sh) (xs:=cs.map V.ref) (fun k σ Hc=>∃ (n:Int) (g6 g7:Option V),σ=[some (.ref b),some (.ref wh),some (.ref sh),some (.int (j:Int)),some (.int (i:Int)),some (.int n),g6,g7]∧(∀ z,z≤n↔z≤hgt bed ((j:Int),(i:Int))∧∀ t∈ts.take k,∀ p∈ovs bed t.1 j i,z≤lowAt wished t.1 p.1 p.2)∧Same H Hc)
  ⟨v,none,none,rfl,fun z=>by rw [hh,As]; exact ⟨fun a=>⟨a,fun t ht=>by cases ht⟩,fun a=>a.1⟩,Same.refl _⟩ (fun k σ Hc _ ⟨_,_,_,_,_,s⟩=>SqL.of (s _ _ hs1)) ?_ ?_
 ·rintro k x' σ Hc hx ⟨n,g6,g7,rfl,hn,s1⟩
  obtain ⟨c,hc,rfl⟩:=ref_get hx
  obtain ⟨t,ht,ct⟩:=(cts.same s1).at_ hc
  obtain ⟨ft,hct,hft⟩:=ct
  have htm:t∈ts:=Al ht
  refine ⟨_,rfl,_,rfl,_,rfl,_,rfl,b,c,ft,_,_,_,bed,t.1,rfl,hb.same s1,rect.1,small.1,hct,hft,feet t htm,fun D H2 ds nD s2 hD srt=>?_⟩
  obtain ⟨us,hD1,mvD⟩:=hD
  have ul:us.length=ds.length:=by rw [mvD.len,AA]
  refine ⟨D,rfl,⟨_,SqL.of hD1⟩,?_⟩
  refine for_list (K:=K) (a:=D) (xs:=us.map V.ref) (fun l σ Hd=>∃ (m:Int) (g7:Option V),σ=[some (.ref b),some (.ref wh),some (.ref sh),some (.int (j:Int)),some (.int (i:Int)),some (.int m),some (.ref c),g7]∧(∀ z,z≤m↔z≤n∧∀ p∈ds.take l,z≤lowAt wished t.1 p.1 p.2)∧Same H2 Hd)
   ⟨n,g7,rfl,fun z=>by rw [As]; exact ⟨fun a=>⟨a,fun t ht=>by cases ht⟩,fun a=>a.1⟩,Same.refl _⟩ (fun l σ Hd _ ⟨_,_,_,_,s⟩=>SqL.of (s _ _ hD1)) ?_ ?_
  ·rintro l x2 σ Hd hx2 ⟨m,g7',rfl,hm,s3⟩
   obtain ⟨u,hu,rfl⟩:=ref_get hx2
   have hld:l < ds.length:=by have:=(AF.mp hu).1; omega
   have ed:=AD hld
   have gu:Hd u=some (.tup (pr ds[l])):=s3 _ _ (mvD.at_ hu (by rw [AH,ed]; rfl))
   generalize ds[l]=p at ed gu
   have s1d:=s1.trans (s2.trans s3)
   have s2d:=s2.trans s3
   refine ⟨_,rfl,_,rfl,_,rfl,_,rfl,u,_,0,.int p.1,rfl,rfl,SqT.of gu,rfl,_,rfl,u,_,1,.int p.2,rfl,rfl,SqT.of gu,rfl,wh,c,ft,_,_,_,wished,t.1,rfl,hw.same s1d,al.rect rect,s2d _ _ hct,hft.same s2d,Au (Nat.le_of_lt (feet t htm)) (by decide),fun He s4=>⟨_,_,rfl,_,_,rfl,fun z=>?_,s3.trans s4⟩⟩
   rw [take_snoc ed]
   have hmz:=hm z
   have hmz':z≤(if lowAt wished t.1 p.1 p.2 < m then lowAt wished t.1 p.1 p.2 else m)↔z≤m∧z≤lowAt wished t.1 p.1 p.2:=by split <;> omega
   rw [hmz',hmz]
   constructor
   ·rintro ⟨⟨a,k1⟩,k2⟩
    refine ⟨a,fun p' hp'=>?_⟩
    rcases AW.mp hp' with hp' | hp'
    ·exact k1 p' hp'
    ·rw [An.mp hp']; exact k2
   ·rintro ⟨a,k1⟩
    exact ⟨⟨a,fun p' hp'=>k1 p' (List.mem_append_left _ hp')⟩,k1 p (Ar _ (An.mpr rfl))⟩
  ·rintro σ Hd ⟨m,g7',rfl,hm,s3⟩
   rw [AA,ul,AO (AE _)] at hm
   refine ⟨m,_,_,rfl,fun z=>?_,s1.trans (s2.trans s3)⟩
   rw [take_snoc ht,hm z,hn z]
   constructor
   ·rintro ⟨⟨a,k1⟩,k2⟩
    refine ⟨a,fun t' ht' p hp=>?_⟩
    rcases AW.mp ht' with ht' | ht'
    ·exact k1 t' ht' p hp
    ·rw [An.mp ht'] at hp ⊢
     exact k2 p (srt.1.mem_iff.mpr hp)
   ·rintro ⟨a,k1⟩
    exact ⟨⟨a,fun t' ht'=>k1 t' (List.mem_append_left _ ht')⟩,fun p hp=>k1 t (Ar _ (An.mpr rfl)) p (srt.1.mem_iff.mp hp)⟩
 ·rintro σ Hc ⟨n,g6,g7,rfl,hn,s1⟩
  rw [AA,cl,AO (AE _)] at hn
  have:=had_ovr rect al hin hn
  refine ⟨_,rfl,?_⟩
  rw [this]
  exact q Hc s1
end
def lamIn:List Stmt→Scope×Pos
 | [_,Stmt.Return (some (Expr.Call _ _ [⟨_,Expr.Lambda _ _ s p,_⟩] _)) _]=>(s,p)
 | _=>(defScope sHigh,⟨0,0,0,0⟩)
abbrev lpos:Pos:=(lamIn (defBody sHigh)).2
abbrev lscope:Scope:=(lamIn (defBody sHigh)).1
def qlam:Str:="first_as_high"++".<locals>."++"<lambda>"
theorem scLam:FnScope ["cell"] ["cell"] lscope:=⟨rfl,rfl,rfl,by decide +kernel,rfl,by decide +kernel,by decide +kernel⟩
def IsFst (S:List (Int×Int)) (c:Int×Int):Prop:=c∈S∧∀ d∈S,¬ lt2 (d.2,d.1) (c.2,c.1)
theorem IsFst.eq {S:List (Int×Int)} {c d:Int×Int} (h:IsFst S c) (g:IsFst S d):c=d:=by
 have a:=h.2 d g.1
 have b:=g.2 c h.1
 rcases c with ⟨c1,c2⟩
 rcases d with ⟨d1,d2⟩
 unfold lt2 at a b
 simp only [Prod.mk.injEq]
 dsimp only at a b
 omega
def highs (wished:List (List Int)) (h:Int) (cs:List (Int×Int)):List (Int×Int):=cs.filter fun c=>decide (h≤hgt wished c)
theorem nd3w:(["cell","wished","height"]:List Str).Nodup:=by decide +kernel
section
variable {P:Program} {w:World} {K:PySem.W.Frag} {mg:Str→Option Value} {base:Heap} {f:Addr} {fd':FuncData}
structure FunL (K:PySem.W.Frag) (x:Str) (st:Stmt) (f:Addr) (fd:FuncData) (c:Addr):Prop where
 ex:∃ (oc:Value) (od:Option Addr) (kV doc pm:Value) (an:Option Addr) (ct:Value) (osl:Array (Option Value)),fd=A7 x x (defArgs st) (defBody st) (defScope st) .none kV doc pm an (.ref c) ct∧K.lookup f=some ⟨oc,od,.func fd,osl⟩∧A5 K (.ref c) x=true
 kp:Av K (.ref f)=true
theorem FunL.ok1 {x:Str} {st:Stmt} {c:Addr} {N ps:List Str} {k:Nat} {sp:Sp} (F:FunL K x st f fd' c) (S:FnScope N ps (defScope st)) (len:∀ vs H Q E,sp vs H Q E→vs.length=ps.length)
  (hbody:∀ (A:Around) (outer:List Env) (s:Shared) (H:Hp) (vs:List V) (Q:VK) (E:XK),Room k (A.deeper (PyProof.Rows.envOfC x (defScope st) s.heap.objs.size f (.ref c)))→sp vs H Q E →
   ∃ t,PSs (cx1 P w K mg base N x (defScope st) f (.ref c) A outer s H E) (defBody st) t∧t { nx:=fun _ H'=>Q .non H',rt:=Q } (start N vs) H):FnOk P w K mg base (CX1 P w) (k + 1) f fd' ps sp:=by
 obtain ⟨oc,od,kV,doc,pm,an,ct,osl,rfl,lk,hcd⟩:=F.ex
 exact fn_of lk hcd S len fun A outer s H vs Q E hr hsp=>hbody A outer s H vs Q E hr hsp
def spHigh (Tb:Addr):Sp:=fun vs H Q _=>∃ (wh c:Addr) (h:Int) (wished:List (List Int)) (cs:List (Int×Int)),vs=[.ref wh,.ref c,.int h]∧BdAt H wh wished∧Rect wished∧FtAt H c cs∧cs.length≤1000∧(∀ x∈cs,ins wished x=true)∧(∃ d∈cs,h≤hgt wished d)∧TabAt Tb lpos qlam H ∧
 ∀ (t:Addr) (d:Int×Int) (H':Hp),IsFst (highs wished h cs) d→Sb Tb H H'→TabAt Tb lpos qlam H'→H' t=some (.tup (pr d))→Q (.ref t) H'
theorem scHigh:FnScope ["wished","cells","height","found"] ["wished","cells","height"] (defScope sHigh):=⟨rfl,rfl,rfl,by decide +kernel,rfl,by decide +kernel,by decide +kernel⟩
theorem ok_high {c0 Tb:Addr} (T:LawT mg) (L:LamT K mg base c0 Tb) (F:FunL K "first_as_high" sHigh f fd' c0):FnOk P w K mg base (CX1 P w) 3 f fd' ["wished","cells","height"] (spHigh Tb):=by
 have nd:=scHigh.nd
 refine F.ok1 scHigh (fun vs H Q E h=>?_) (fun A outer s H vs Q E hr h=>?_)
 ·obtain ⟨wh,c,h,wished,cs,rfl,_⟩:=h
  rfl
 obtain ⟨wh,c,h,wished,cs,rfl,hw,rect,⟨ts,hc,mvc⟩,hl,hin,hex,tab,q⟩:=h
 have tl:ts.length=cs.length:=by rw [mvc.len,AA]
 refine ⟨_,(pss_cons (ps_setC (i:=3) (own:=["cell"]) (capn:=["wished","height"]) (capI:=[0,2]) nd rfl (Or.inl rfl) rfl rfl (blkC (defScope sHigh) rfl rfl (by decide +kernel) rfl (fun y hy=>by rcases AK.mp hy with rfl | hy; exact ⟨rfl,rfl⟩; rcases AK.mp hy with rfl | hy; exact ⟨rfl,rfl⟩; cases hy)) (pi_list (pv 1)) (fun _ _ _ _ _ _=>pg_name (i:=0) nd3w rfl (Or.inl rfl)) (fun _ _ _ _ _ _=>(pifs_one (pt_cmpR op_ge (pe_ix (ix_listK (K:=K) rfl) (pe_ix (ix_listK (K:=K) rfl) (pv 1) (pe_ix (ix_tupK (K:=K) rfl) (pv 0) pe_int (fun _ _=>rfl)) (fun _ _=>rfl)) (pe_ix (ix_tupK (K:=K) rfl) (pv 0) pe_int (fun _ _=>rfl)) (fun _ _=>rfl)) (pv 2) (nomark _)))) (fun _ _ _ _ _ _=>(pv 0)))
  (pss_one (ps_ret (pe_minL (lpos:=lpos) (scope:=lscope) rfl T.min (pv 3) L rfl rfl hr rfl rfl scLam (fun _ _ _ _ _=>.of_eq rfl) (fun _ _ _ _ _ _ _ _=>pe_tup (pa_cons (pe_ix (ix_tupK (K:=K) rfl) (pv 0) pe_int (fun _ _=>rfl)) (pa_cons (pe_ix (ix_tupK (K:=K) rfl) (pv 0) pe_int (fun _ _=>rfl)) pa_nil))) (fun H Q a x y ha hq=>⟨_,rfl,a,_,1,.int y,rfl,rfl,SqT.of ha,rfl,_,rfl,a,_,0,.int x,rfl,rfl,SqT.of ha,rfl,le2,hq⟩))))),?_⟩
 obtain ⟨rs,hw1,ra⟩:=id hw
 have rl:=ra.len
 refine ⟨_,rfl,c,rfl,⟨_,SqL.of hc⟩,fun D hD=>?_⟩
 refine ⟨Wd ts.length (fun i σ acc H2=>∃ (z:Option V) (us:List Addr),σ=[z,some (.ref wh),some (.int h)]∧acc=us.map V.ref∧us.length≤i∧MvAt H2 us ((highs wished h (cs.take i)).map pr)∧Same H H2∧H2 D=some (.lst acc)),wd_0 ⟨none,[],rfl,rfl,AE _,by rw [As]; exact Ad,same_upd hD _,upd_same⟩,?_⟩
 rintro i im σ acc H2 ⟨rfl,hi0,z,us,rfl,rfl,ul,mv,s2,hD2⟩
 refine lc_ask (K:=K) (xs:=ts.map V.ref) (SqL.of (s2 _ _ hc)) (by rw [AA]; exact hi0) (fun x hx hi=>?_) (fun hend=>?_)
 ·obtain ⟨t,ht,rfl⟩:=ref_get hx
  have hi':i < ts.length:=by rw [AA] at hi; exact hi
  have hic:i < cs.length:=by omega
  have ec:=AD hic
  have gt:H2 t=some (.tup (pr cs[i])):=s2 _ _ (mvc.at_ ht (by rw [AH,ec]; rfl))
  have hcm:cs[i]∈cs:=Az hic
  generalize cs[i]=c1 at ec gt hcm
  obtain ⟨i1,j1,row,v,e1,hrow,hv,hh⟩:=ins_at (hin c1 hcm) rect
  obtain ⟨r,hr',hrl⟩:=ra.at_ hrow
  have t1:c1.1=(j1:Int):=by rw [e1]
  have t2:c1.2=(i1:Int):=by rw [e1]
  refine ⟨_,rfl,_,rfl,t,_,1,.int c1.2,rfl,rfl,SqT.of gt,rfl,wh,_,c1.2,.ref r,rfl,rfl,SqL.of (s2 _ _ hw1),by rw [t2]; exact atI_nat (by rw [AH,hr']; rfl),_,rfl,t,_,0,.int c1.1,rfl,rfl,SqT.of gt,rfl,r,_,c1.1,.int v,rfl,rfl,SqL.of (s2 _ _ hrl),by rw [t1]; exact atI_nat (by rw [AH,hv]; rfl),_,rfl,_,_,rfl,rfl,_,rfl,?_⟩
  rw [← hh]
  refine ite2 (fun h1=>?_) (fun h1=>?_)
  ·have a1:h≤hgt wished c1:=of_decide_eq_true h1
   refine ⟨_,rfl,hD2,?_,wd_next hi' ⟨_,us++[t],rfl,by rw [AM]; rfl,by rw [AN]; show us.length + 1≤_; omega,?_,same_in s2 hD,upd_same⟩⟩
   ·rw [AA]
    exact line3 (show us.length≤1000 by omega) (by decide)
   ·have e3:highs wished h (cs.take (i + 1))=highs wished h (cs.take i)++[c1]:=by
     unfold highs
     rw [take_snoc ec,List.filter_append]
     simp [a1]
    rw [e3,AM]
    exact (mv.snoc gt).upd (sbn hD2)
  ·refine wd_next hi' ⟨_,us,rfl,rfl,by omega,?_,s2,hD2⟩
   have a1:¬ h≤hgt wished c1:=fun z=>h1 (decide_eq_true z)
   have e3:highs wished h (cs.take (i + 1))=highs wished h (cs.take i):=by
    unfold highs
    rw [take_snoc ec,List.filter_append]
    simp [a1]
   rw [e3]
   exact mv
 ·rw [AA] at hend
  rw [hend,tl,AO (AE _)] at mv
  have ul2:us.length=(highs wished h cs).length:=by rw [mv.len,AA]
  have hpos:0 < us.length:=by
   obtain ⟨d,hd,hd2⟩:=hex
   rw [ul2]
   exact List.length_pos_of_mem (a:=d) (Aj.mpr ⟨hd,decide_eq_true hd2⟩)
  refine ⟨_,rfl,D,us,highs wished h cs,rfl,hD2,fun k t hk=>?_,ul2,hpos,tab.same s2,fun k t d H' hk hd best keep tab'=>?_⟩
  ·have hkl:k < (highs wished h cs).length:=by have:=(AF.mp hk).1; omega
   exact ⟨_,AD hkl,mv.at_ hk (by rw [AH,AD hkl]; rfl)⟩
  ·obtain ⟨pt,ept⟩:=(tab.same s2).tbl
   have et:H2 t=some (.tup (pr d)):=mv.at_ hk (by rw [AH,hd]; rfl)
   have ntT:t≠Tb:=fun z=>by rw [z,ept] at et; cases et
   exact q t d H' ⟨Al hd,best⟩ (fun x o n e=>keep x o n (s2 x o e)) tab' (keep _ _ ntT et)
end
def cols (w d:Nat):List (Int×Int):=(List.range w).flatMap fun (px:Nat)=>(List.range d).map fun (py:Nat)=>((px:Int),(py:Int))
def plc (rows:List (List Int)) (foot:List (Int×Int)) (x y:Int):List (Int×Int):=(cols (rows.headD []).length rows.length).filter fun p=>decide (shb x y p∈foot)
theorem mem_cols {w d:Nat} {p:Int×Int}:p∈cols w d↔0≤p.1∧p.1 < w∧0≤p.2∧p.2 < d:=by
 unfold cols
 rw [List.mem_flatMap]
 constructor
 ·rintro ⟨px,h1,h2⟩
  obtain ⟨py,h3,rfl⟩:=Ai.mp h2
  have a:=BH.mp h1
  have b:=BH.mp h3
  exact ⟨by show (0:Int)≤px; omega,by show (px:Int) < w; omega,by show (0:Int)≤py; omega,by show (py:Int) < d; omega⟩
 ·rintro ⟨a,b,c,e⟩
  refine ⟨p.1.toNat,BH.mpr (by omega),Ai.mpr ⟨p.2.toNat,BH.mpr (by omega),?_⟩⟩
  rcases p with ⟨p1,p2⟩
  dsimp only at a b c e ⊢
  rw [show ((p1.toNat:Nat):Int)=p1 by omega,show ((p2.toNat:Nat):Int)=p2 by omega]
theorem cols_up {w d:Nat} (hd:d≤1000):(cols w d).Pairwise fun a b=>rkP a < rkP b:=by
 unfold cols
 rw [List.pairwise_flatMap]
 refine ⟨fun px _=>?_,?_⟩
 ·rw [List.pairwise_map]
  refine List.Pairwise.imp (fun {a b} h=>?_) List.pairwise_lt_range
  unfold rkP
  dsimp only
  omega
 ·refine List.Pairwise.imp (fun {a b} h=>?_) List.pairwise_lt_range
  intro p hp q hq
  obtain ⟨p2,h1,rfl⟩:=Ai.mp hp
  obtain ⟨q2,h2,rfl⟩:=Ai.mp hq
  have:=BH.mp h1
  have:=BH.mp h2
  unfold rkP
  dsimp only
  omega
theorem sorted_eq:∀ {as bs:List (Int×Int)},as.Perm bs→as.Pairwise (fun a b=>rkP a≤rkP b)→bs.Pairwise (fun a b=>rkP a≤rkP b)→(∀ a∈as,∀ b∈as,rkP a=rkP b→a=b)→as=bs
 | [],bs,p,_,_,_=>(List.Perm.nil_eq p)
 | a :: as,[],p,_,_,_=>by have:=p.length_eq; simp at this
 | a :: as,b :: bs,p,h1,h2,inj=>by
  rw [List.pairwise_cons] at h1 h2
  have hab:a=b:=by
   by_cases e:a=b
   ·exact e
   ·have ha:a∈bs:=by
     rcases AK.mp (p.mem_iff.mp (AZ)) with z | z
     ·exact absurd z e
     ·exact z
    have hb:b∈as:=by
     rcases AK.mp (p.mem_iff.mpr (AZ)) with z | z
     ·exact absurd z.symm e
     ·exact z
    exact inj a AZ b (Aa _ hb) (Int.le_antisymm (h1.1 b hb) (h2.1 a ha))
  subst hab
  rw [sorted_eq (List.Perm.cons_inv p) h1.2 h2.2 fun x hx y hy=>inj x (Aa _ hx) y (Aa _ hy)]
theorem ins_cols {rows:List (List Int)} {p:Int×Int}:ins rows p=true↔p∈cols (rows.headD []).length rows.length:=by
 rw [mem_cols]
 unfold ins
 rw [decide_eq_true_iff]
 omega
theorem rk_inj {rows:List (List Int)} (h40:rows.length≤40) {a b:Int×Int} (ha:ins rows a=true) (hb:ins rows b=true) (e:rkP a=rkP b):a=b:=by
 have h1:=of_decide_eq_true ha
 have h2:=of_decide_eq_true hb
 unfold rkP at e
 rcases a with ⟨a1,a2⟩
 rcases b with ⟨b1,b2⟩
 dsimp only at h1 h2 e
 simp only [Prod.mk.injEq]
 omega
theorem shb_shb (x y:Int) (c:Int×Int):shb x y (shb x y c)=c:=by
 rcases c with ⟨a,b⟩
 unfold shb
 simp only [Prod.mk.injEq]
 omega
theorem plc_of {rows:List (List Int)} {foot ds:List (Int×Int)} {x y:Int} (h40:rows.length≤40) (nf:foot.Nodup) (h:SrtOf (ovs rows foot x y) ds):ds=plc rows foot x y:=by
 have up:(plc rows foot x y).Pairwise fun a b=>rkP a < rkP b:=(cols_up (by omega)).filter _
 have nd2:(plc rows foot x y).Nodup:=up.imp fun {a b} l e=>by rw [e] at l; omega
 have nd1:(ovs rows foot x y).Nodup:=by
  unfold ovs
  refine List.Pairwise.filter _ ?_
  refine List.Pairwise.map _ (fun a b hab e=>hab ?_) nf
  have:=congrArg (shb x y) e
  rw [shb_shb,shb_shb] at this
  exact this
 have pm:(ovs rows foot x y).Perm (plc rows foot x y):=by
  refine (List.perm_ext_iff_of_nodup nd1 nd2).mpr fun p=>?_
  unfold ovs plc
  rw [Aj,Aj,Ai,← ins_cols,decide_eq_true_iff]
  constructor
  ·rintro ⟨⟨s,hs,rfl⟩,hi⟩
   exact ⟨hi,by rw [shb_shb]; exact hs⟩
  ·rintro ⟨hi,hs⟩
   exact ⟨⟨_,hs,shb_shb x y p⟩,hi⟩
 refine sorted_eq (h.1.trans pm) h.2 (up.imp fun {a b} l=>Int.le_of_lt l) fun a ha b hb e=>?_
 have ia:∀ c∈ds,ins rows c=true:=fun c hc=>(Aj.mp (h.1.mem_iff.mp hc)).2
 exact rk_inj h40 (ia a ha) (ia b hb) e
open Classical in
noncomputable def fstF (S:List (Int×Int)):Int×Int:=if h:∃ c,IsFst S c then h.choose else (0,0)
theorem IsFst.f {S:List (Int×Int)} {c:Int×Int} (h:IsFst S c):fstF S=c:=by
 unfold fstF
 rw [dif_pos ⟨c,h⟩]
 exact (Exists.choose_spec (⟨c,h⟩:∃ c,IsFst S c)).eq h
noncomputable def rowF (bed wished:List (List Int)) (left:Int) (n:Nat) (t:Tool) (p:Int×Int):List Int:=[(n:Int),p.1,p.2,(fstF (highs wished left (und bed t.1 p.1 p.2))).1,(fstF (highs wished left (und bed t.1 p.1 p.2))).2]
noncomputable def whyF (bed wished:List (List Int)) (left x y:Int):Nat→List Tool→List (List Int)
 | _,[]=>[]
 | n,t :: ts=>(plc bed t.1 x y).map (rowF bed wished left n t)++whyF bed wished left x y (n + 1) ts
theorem whyF_snoc (bed wished:List (List Int)) (left x y:Int) (t:Tool):∀ (ts:List Tool) (n:Nat),whyF bed wished left x y n (ts++[t])=whyF bed wished left x y n ts++(plc bed t.1 x y).map (rowF bed wished left (n + ts.length) t)
 | [],n=>by
  rw [List.nil_append,whyF,whyF,whyF,A2,List.nil_append]
  rfl
 | u :: ts,n=>by
  rw [List.cons_append,whyF,whyF_snoc bed wished left x y t ts (n + 1),whyF,AY,AS]
  rw [show n + 1 + ts.length=n + (ts.length + 1) by omega]
theorem mxF_mem:∀ (r:List Int) (a:Int),mxF a r=a∨mxF a r∈r
 | [],a=>.inl rfl
 | b :: r,a=>by
  rw [mxF]
  rcases mxF_mem r (if b > a then b else a) with h | h
  ·rw [h]
   split
   ·exact .inr AZ
   ·exact .inl rfl
  ·exact .inr (Aa _ h)
theorem mxD_mem {r:List Int} (h:r≠[]):mxD 0 r∈r:=by
 cases r with
 | nil=>exact absurd rfl h
 | cons a r =>
  rw [mxD]
  rcases mxF_mem r a with e | e
  ·rw [e]; exact AZ
  ·exact Aa _ e
theorem high_some {bed wished:List (List Int)} (R:Rect bed) (A:Alike bed wished) {ts:List Tool} {x y:Int} (hin:ins bed (x,y)=true) {t:Tool} (ht:t∈ts) {p:Int×Int} (hp:p∈ovs bed t.1 x y):∃ d∈und bed t.1 p.1 p.2,hgt (hadF bed wished ts) (x,y)≤hgt wished d:=by
 obtain ⟨h1,s,hs,e⟩:=mem_ovs.mp hp
 have hle:=((le_had R hin (wished:=wished) (ts:=ts) _).mp (BC _)).2 t ht s hs p h1 e
 have hne:(x,y)∈und bed t.1 p.1 p.2:=by
  unfold und
  rw [Aj,Ai]
  exact ⟨⟨s,hs,e.symm⟩,hin⟩
 have hm:=mxD_mem (r:=(und bed t.1 p.1 p.2).map (hgt wished)) (fun z=>by
  rw [List.map_eq_nil_iff] at z
  rw [z] at hne
  cases hne)
 obtain ⟨d,hd,ed⟩:=Ai.mp hm
 exact ⟨d,hd,by rw [ed]; exact hle⟩
section
variable {H:Hp} {Tb:Addr} {ps:Array Value}
theorem dr_at (ht:H Tb=some (.tbl ps)) {x:Addr} {o:HO} (e:H x=some o) (n:∀ q,o≠.tbl q):L2.drop H Tb x=some o:=by
 rw [drop_ne (fun z=>by rw [z,ht] at e; exact n ps (Aw e).symm)]
 exact e
theorem RowsAt.dr (ht:H Tb=some (.tbl ps)):∀ {rs:List Addr} {rows:List (List Int)},RowsAt H rs rows→RowsAt (L2.drop H Tb) rs rows
 | [],[],_=>Ad
 | _ :: _,_ :: _,h=>⟨dr_at ht h.1 (fun q z=>by cases z),RowsAt.dr ht h.2⟩
 | [],_ :: _,h=>h.elim
 | _ :: _,[],h=>h.elim
theorem MvAt.dr (ht:H Tb=some (.tbl ps)):∀ {ts:List Addr} {ms:List (List V)},MvAt H ts ms→MvAt (L2.drop H Tb) ts ms
 | [],[],_=>Ad
 | _ :: _,_ :: _,h=>⟨dr_at ht h.1 (fun q z=>by cases z),MvAt.dr ht h.2⟩
 | [],_ :: _,h=>h.elim
 | _ :: _,[],h=>h.elim
theorem BdAt.dr (ht:H Tb=some (.tbl ps)) {b:Addr} {rows:List (List Int)} (h:BdAt H b rows):BdAt (L2.drop H Tb) b rows:=by
 obtain ⟨rs,a,c⟩:=h
 exact ⟨rs,dr_at ht a (fun q z=>by cases z),c.dr ht⟩
theorem FtAt.dr (ht:H Tb=some (.tbl ps)) {b:Addr} {cs:List (Int×Int)} (h:FtAt H b cs):FtAt (L2.drop H Tb) b cs:=by
 obtain ⟨rs,a,c⟩:=h
 exact ⟨rs,dr_at ht a (fun q z=>by cases z),c.dr ht⟩
theorem CtsAt.dr (ht:H Tb=some (.tbl ps)):∀ {cs:List Addr} {ts:List Tool},CtsAt H cs ts→CtsAt (L2.drop H Tb) cs ts
 | [],[],_=>Ad
 | _ :: _,_ :: _,h=>by
  obtain ⟨⟨ft,a,b⟩,r⟩:=h
  exact ⟨⟨ft,dr_at ht a (fun q z=>by cases z),b.dr ht⟩,CtsAt.dr ht r⟩
 | [],_ :: _,h=>h.elim
 | _ :: _,[],h=>h.elim
theorem ShAt.dr (ht:H Tb=some (.tbl ps)) {b:Addr} {ts:List Tool} (h:ShAt H b ts):ShAt (L2.drop H Tb) b ts:=by
 obtain ⟨cs,a,c⟩:=h
 exact ⟨cs,dr_at ht a (fun q z=>by cases z),c.dr ht⟩
theorem sb_dr {H':Hp}:Sb Tb H H'↔Same (L2.drop H Tb) H':=by
 constructor
 ·intro h x o e
  have n:x≠Tb:=fun z=>by rw [z,drop_same] at e; cases e
  rw [drop_ne n] at e
  exact h x o n e
 ·intro h x o n e
  exact h x o (by rw [drop_ne n]; exact e)
end
def RsAt (H:Hp) (R:Addr) (rows:List (List Int)):Prop:=∃ us,H R=some (.lst (us.map V.ref))∧MvAt H us (rows.map fun r=>r.map V.int)
section
variable {P:Program} {w:World} {K:PySem.W.Frag} {mg:Str→Option Value} {base:Heap} {f:Addr} {fd':FuncData}
noncomputable def spWhy (Tb:Addr):Sp:=fun vs H Q _=>∃ (b wh sh:Addr) (x y:Int) (bed wished:List (List Int)) (ts:List Tool),vs=[.ref b,.ref wh,.ref sh,.int x,.int y]∧BdAt H b bed∧BdAt H wh wished∧ShAt H sh ts∧Rect bed∧Alike bed wished∧Small bed∧(∀ t∈ts,t.1.length≤26∧t.1.Nodup)∧ts.length≤6∧ins bed (x,y)=true∧TabAt Tb lpos qlam H ∧
 ∀ (R:Addr) (H':Hp),H R=none→Sb Tb H H'→TabAt Tb lpos qlam H'→RsAt H' R (whyF bed wished (hgt (hadF bed wished ts) (x,y)) x y 0 ts)→Q (.ref R) H'
theorem scWhy:FnScope ["bed","wished","shelf","x","y","left","told","number","cutter","place","spoiled"] ["bed","wished","shelf","x","y"] (defScope sWhy):=⟨rfl,rfl,rfl,by decide +kernel,rfl,by decide +kernel,by decide +kernel⟩
theorem plc_len {rows:List (List Int)} {foot:List (Int×Int)} {x y:Int} {ds:List (Int×Int)} (h:SrtOf (ovs rows foot x y) ds):ds.length≤foot.length:=by
 rw [h.1.length_eq]
 unfold ovs
 exact Au (List.length_filter_le _ _) (by rw [AA]; exact AE _)
theorem ok_why {Tb:Addr} (T:LawT mg) (hen:mg "enumerate"=none) (FO:Fn P w K mg base "lowest_over" 4 ["bed","wished","shelf","x","y"] spOver) (FP:Fn P w K mg base "places_over" 2 ["bed","cutter","x","y"] spPlaces) (FU:Fn P w K mg base "cells_under" 2 ["bed","cutter","x","y"] spUnder) (FH:Fn P w K mg base "first_as_high" 3 ["wished","cells","height"] (spHigh Tb))
  (F:Fun K "why_left" "why_left" sWhy f fd'):FnOk P w K mg base (CX1 P w) 5 f fd' ["bed","wished","shelf","x","y"] (spWhy Tb):=by
 have nd:=scWhy.nd
 refine F.ok1 scWhy (fun vs H Q E h=>?_) (fun cdv A outer s H vs Q E hr h=>?_)
 ·obtain ⟨b,wh,sh,x,y,bed,wished,ts,rfl,_⟩:=h
  rfl
 obtain ⟨b,wh,sh,x,y,bed,wished,ts,rfl,hb,hw,hs,rect,al,small,feet,many,hin,tab,q⟩:=h
 have hr2:Room 2 _:=hr.mono (by decide)
 have hr3:Room 3 _:=hr.mono (by decide)
 refine ⟨_,(pss_cons (ps_set (i:=5) nd rfl (Or.inl rfl) (pf_call FO hr rfl (pass1 (E:=E)) (pa_cons (pv 0) (pa_cons (pv 1) (pa_cons (pv 2) (pa_cons (pv 3) (pa_cons (pv 4) pa_nil)))))))
  (pss_cons (ps_set (i:=6) nd rfl (Or.inl rfl) (pe_lst pa_nil))
  (pss_cons (ps_for own1 rfl (pi_enum rfl hen (pa_cons (pv 2) pa_nil)) (pg_tup (n:=2) rfl (pgs_cons (pg_name (i:=7) nd rfl (Or.inl rfl)) (pgs_cons (pg_name (i:=8) nd rfl (Or.inl rfl)) pgs_nil))) (pss_one (ps_for own1 rfl (pi_list (pf_call FP hr2 rfl (pass1 (E:=E)) (pa_cons (pv 0) (pa_cons (pv 8) (pa_cons (pv 3) (pa_cons (pv 4) pa_nil)))))) (pg_name (i:=9) nd rfl (Or.inl rfl)) (pss_cons (ps_set (i:=10) nd rfl (Or.inl rfl) (pf_call FH hr3 rfl (pass1 (E:=E)) (pa_cons (pv 1) (pa_cons (pf_call FU hr2 rfl (pass1 (E:=E)) (pa_cons (pv 0) (pa_cons (pv 8) (pa_cons (pe_ix ix_tup (pv 9) pe_int (fun _ _=>rfl)) (pa_cons (pe_ix ix_tup (pv 9) pe_int (fun _ _=>rfl)) pa_nil))))) (pa_cons (pv 5) pa_nil)))))
  (pss_one (ps_expr (pe_bm PySem.F.plainAttrs_list PySem.F.slot_list_append PySem.F.type_list_append mt_append (pv 6) (pa_cons (pe_tup (pa_cons (pv 7) (pa_cons (pe_ix ix_tup (pv 9) pe_int (fun _ _=>rfl)) (pa_cons (pe_ix ix_tup (pv 9) pe_int (fun _ _=>rfl)) (pa_cons (pe_ix ix_tup (pv 10) pe_int (fun _ _=>rfl)) (pa_cons (pe_ix ix_tup (pv 10) pe_int (fun _ _=>rfl)) pa_nil)))))) pa_nil))))))))
  (pss_one (ps_ret (pv 6)))))),?_⟩
 have feet64:∀ t∈ts,t.1.length < 64:=fun t ht=>by have:=(feet t ht).1; omega
 refine ⟨_,rfl,_,rfl,_,rfl,_,rfl,_,rfl,b,wh,sh,x,y,bed,wished,ts,rfl,hb,hw,hs,rect,al,small,feet64,hin,fun H1 s1=>?_⟩
 obtain ⟨left,hleft⟩:∃ left,hgt (hadF bed wished ts) (x,y)=left:=⟨_,rfl⟩
 rw [hleft] at q ⊢
 refine ⟨Ap _,fun R hR=>?_⟩
 have uR:=same_upd hR (.lst [])
 have s2:=s1.trans uR
 obtain ⟨ps,eTb⟩:=tab.tbl
 have nR:H R=none:=s1.free hR
 have nRT:R≠Tb:=fun z=>by rw [z,eTb] at nR; cases nR
 have hbD:=hb.dr eTb
 have hwD:=hw.dr eTb
 obtain ⟨cs,hs1,cts⟩:=hs.dr eTb
 have cl:=cts.len
 have nRD:L2.drop H Tb R=none:=by rw [drop_ne nRT]; exact nR
 have dR:∀ {Hc:Hp},Same H Hc→Same (L2.drop H Tb) Hc:=fun s=>drop_le.trans s
 refine ⟨_,rfl,sh,cs.map V.ref,rfl,SqL.of ((dR s2) _ _ hs1),?_⟩
 refine for_enum (K:=K) (a:=sh) (xs:=cs.map V.ref) (fun i σ Hc=>∃ (g7 g8 g9 g10:Option V) (us:List Addr),σ=[some (.ref b),some (.ref wh),some (.ref sh),some (.int x),some (.int y),some (.int left),some (.ref R),g7,g8,g9,g10]∧Same (L2.drop H Tb) Hc∧TabAt Tb lpos qlam Hc∧Hc R=some (.lst (us.map V.ref))∧us.length≤30 * i∧MvAt Hc us ((whyF bed wished left x y 0 (ts.take i)).map fun r=>r.map V.int))
  ⟨none,none,none,none,[],rfl,dR s2,tab.same s2,upd_same,Ap _,by rw [As]; exact Ad⟩ (fun i σ Hc _ ⟨_,_,_,_,_,_,s,_⟩=>SqL.of (s _ _ hs1)) ?_ ?_
 ·rintro i x' σ Hc hx ⟨g7,g8,g9,g10,us,rfl,sc,tabc,hRc,ul,mvc⟩ T0 hT0
  obtain ⟨c,hc,rfl⟩:=ref_get hx
  obtain ⟨t,ht,ct⟩:=(cts.same sc).at_ hc
  obtain ⟨ft,hct,hft⟩:=ct
  have htm:t∈ts:=Al ht
  have hit:i < ts.length:=(AF.mp ht).1
  have uT:=same_upd hT0 (.tup [V.int i,.ref c])
  refine ⟨T0,_,rfl,SqT.of upd_same,rfl,_,_,rfl,_,_,rfl,rfl,?_⟩
  refine ⟨_,rfl,_,rfl,_,rfl,_,rfl,b,c,ft,_,x,y,bed,t.1,rfl,hbD.same (sc.trans uT),rect.1,small.1,uT _ _ hct,hft.same uT,feet64 t htm,fun D H2 ds nD s2' hD srt=>?_⟩
  have dl:=plc_len srt
  have dlc:=plc_of small.1 (feet t htm).2 srt
  obtain ⟨us2,hD1,mvD⟩:=hD
  have ul2:us2.length=ds.length:=by rw [mvD.len,AA]
  have sT2:=uT.trans s2'
  have sc2:=sc.trans sT2
  have tab2:=tabc.same sT2
  have hR2:=sT2 _ _ hRc
  have mv2:=mvc.same sT2
  have hct2:=sT2 _ _ hct
  have hft2:=hft.same sT2
  obtain ⟨ps2,eTb2⟩:=tab2.tbl
  have hctD:=dr_at eTb2 hct2 (fun q z=>by cases z)
  have hftD:=hft2.dr eTb2
  have hDD:=dr_at eTb2 hD1 (fun q z=>by cases z)
  have mvDD:=mvD.dr eTb2
  have nDT:D≠Tb:=fun z=>by rw [z,eTb2] at hD1; cases hD1
  have f26:=(feet t htm).1
  refine ⟨D,rfl,⟨_,SqL.of hD1⟩,?_⟩
  refine for_list (K:=K) (a:=D) (xs:=us2.map V.ref) (fun j σ Hd=>∃ (g9 g10:Option V) (us3:List Addr),σ=[some (.ref b),some (.ref wh),some (.ref sh),some (.int x),some (.int y),some (.int left),some (.ref R),some (.int (i:Int)),some (.ref c),g9,g10]∧Same (L2.drop H Tb) Hd∧(∀ z o,z≠R→L2.drop H2 Tb z=some o→Hd z=some o)∧TabAt Tb lpos qlam Hd∧Hd R=some (.lst (us3.map V.ref))∧us3.length≤30 * i + j∧MvAt Hd us3 ((whyF bed wished left x y 0 (ts.take i)++(ds.take j).map (rowF bed wished left i t)).map fun r=>r.map V.int))
   ⟨g9,g10,us,rfl,sc2,fun z o _ e=>drop_le z o e,tab2,hR2,by omega,by rw [As,List.map_nil,A2]; exact mv2⟩ (fun j σ Hd _ ⟨_,_,_,_,_,k,_⟩=>SqL.of (k _ _ (fun z=>by rw [z] at hD1 nD; rw [uT _ _ hRc] at nD; cases nD) hDD)) ?_ ?_
  ·rintro j x2 σ Hd hx2 ⟨g9',g10',us3,rfl,scd,kd,tabd,hRd,ul3,mvd⟩
   have nDR:D≠R:=fun z=>by rw [z,uT _ _ hRc] at nD; cases nD
   obtain ⟨u,hu,rfl⟩:=ref_get hx2
   have hld:j < ds.length:=by have:=(AF.mp hu).1; omega
   have ed:=AD hld
   have gu0:L2.drop H2 Tb u=some (.tup (pr ds[j])):=mvDD.at_ hu (by rw [AH,ed]; rfl)
   have hpm:ds[j]∈ds:=Az hld
   generalize ds[j]=p at ed gu0 hpm
   have gu:Hd u=some (.tup (pr p)):=kd _ _ (fun z=>by rw [z] at gu0; have:=drop_le _ _ gu0; rw [hR2] at this; cases this) gu0
   obtain ⟨t',ht',ctd⟩:=(cts.same scd).at_ hc
   rw [ht] at ht'
   cases ht'
   obtain ⟨ftd,hctd,hftd⟩:=ctd
   have hpo:p∈ovs bed t.1 x y:=srt.1.mem_iff.mp hpm
   refine ⟨_,rfl,_,rfl,_,rfl,_,rfl,u,_,0,.int p.1,rfl,rfl,SqT.of gu,rfl,_,rfl,u,_,1,.int p.2,rfl,rfl,SqT.of gu,rfl,b,c,ftd,_,p.1,p.2,bed,t.1,rfl,hbD.same scd,rect.1,hctd,hftd,by omega,fun D2 H4 n4 s4 hD2=>?_⟩
   have sc4:=scd.trans s4
   have hsome:=high_some rect al (wished:=wished) hin htm hpo
   rw [hleft] at hsome
   refine ⟨_,rfl,wh,D2,left,wished,_,rfl,hwD.same sc4,al.rect rect,hD2,?_,fun c' hc'=>?_,hsome,tabd.same s4,fun t5 d5 H5 isf sb5 tab5 ht5=>?_⟩
   ·unfold und
    exact Au (List.length_filter_le _ _) (by rw [AA]; omega)
   ·rw [← al.ins]
    exact (Aj.mp hc').2
   obtain ⟨ps4,eTb4⟩:=(tabd.same s4).tbl
   have k5:Same (L2.drop H4 Tb) H5:=sb_dr.mp sb5
   have sc5:Same (L2.drop H Tb) H5:=fun z o e=>k5 z o (by
    have n:z≠Tb:=fun y=>by rw [y,drop_same] at e; cases e
    rw [drop_ne n]
    exact sc4 z o e)
   have hR5:H5 R=some (.lst (us3.map V.ref)):=k5 _ _ (dr_at eTb4 (s4 _ _ hRd) (fun q z=>by cases z))
   have gu5:H5 u=some (.tup (pr p)):=k5 _ _ (dr_at eTb4 (s4 _ _ gu) (fun q z=>by cases z))
   have mv5:MvAt H5 us3 ((whyF bed wished left x y 0 (ts.take i)++(ds.take j).map (rowF bed wished left i t)).map fun r=>r.map V.int):=((mvd.same s4).dr eTb4).same k5
   have kd5:∀ z o,z≠R→L2.drop H2 Tb z=some o→H5 z=some o:=fun z o n e=>by
    have nT:z≠Tb:=fun y=>by rw [y,drop_same] at e; cases e
    exact k5 z o (by rw [drop_ne nT]; exact s4 _ _ (kd z o n e))
   refine ⟨_,rfl,.inl ⟨rfl,_,SqL.of hR5⟩,_,rfl,_,rfl,u,_,0,.int p.1,rfl,rfl,SqT.of gu5,rfl,_,rfl,u,_,1,.int p.2,rfl,rfl,SqT.of gu5,rfl,_,rfl,t5,_,0,.int d5.1,rfl,rfl,SqT.of ht5,rfl,_,rfl,t5,_,1,.int d5.2,rfl,rfl,SqT.of ht5,rfl,(by show 5≤AR; decide),fun t6 h6=>?_⟩
   have u6:=same_upd h6 (.tup [V.int i,.int p.1,.int p.2,.int d5.1,.int d5.2])
   have hR6:=u6 _ _ hR5
   have n6R:t6≠R:=fun z=>by rw [z,hR5] at h6; cases h6
   refine ⟨R,_,_,rfl,rfl,hR6,?_,_,_,us3++[t6],rfl,?_,fun z o n e=>?_,?_,?_,?_,?_⟩
   ·rw [AA]
    exact line3 (show us3.length≤1000 by omega) (by decide)
   ·exact same_in (sc5.trans u6) nRD
   ·rw [upd_ne n]
    exact u6 _ _ (kd5 z o n e)
   ·have t6':=tab5.same u6
    rcases t6' with e | ⟨c',e,ec⟩
    ·exact .inl (by rw [upd_ne (Ne.symm nRT)]; exact e)
    ·refine .inr ⟨c',by rw [upd_ne (Ne.symm nRT)]; exact e,?_⟩
     rw [upd_ne (fun z=>by rw [z,hR6] at ec; cases ec)]
     exact ec
   ·rw [upd_same,AM]
    rfl
   ·rw [AN]
    show us3.length + 1≤_
    omega
   ·have el:(whyF bed wished left x y 0 (ts.take i)++(ds.take (j + 1)).map (rowF bed wished left i t)).map (fun r=>r.map V.int)=(whyF bed wished left x y 0 (ts.take i)++(ds.take j).map (rowF bed wished left i t)).map (fun r=>r.map V.int)++[(rowF bed wished left i t p).map V.int]:=by
     rw [take_snoc ed,AM (f:=rowF bed wished left i t),← AY,AM (l₂:=[p].map _)]
     rfl
    rw [el]
    refine MvAt.upd (sbn hR6) ((mv5.same u6).snoc ?_)
    rw [upd_same]
    have ef:=isf.f
    show some (HO.tup [V.int i,.int p.1,.int p.2,.int d5.1,.int d5.2])=some (.tup ((rowF bed wished left i t p).map V.int))
    rw [rowF,ef]
    rfl
  ·rintro σ Hd ⟨g9',g10',us3,rfl,scd,kd,tabd,hRd,ul3,mvd⟩
   rw [AA,ul2,AO (AE _)] at mvd
   refine ⟨_,_,_,_,us3,rfl,scd,tabd,hRd,?_,?_⟩
   ·rw [AA] at ul3
    omega
   ·rw [take_snoc ht,whyF_snoc,← dlc,Ae,Nat.min_eq_left (Nat.le_of_lt hit),Nat.zero_add]
    exact mvd
 ·rintro σ Hc ⟨g7,g8,g9,g10,us,rfl,sc,tabc,hRc,ul,mvc⟩
  rw [AA,cl,AO (AE _)] at mvc
  exact ⟨_,rfl,q R Hc nR (sb_dr.mpr sc) tabc ⟨us,hRc,mvc⟩⟩
end
theorem ins_parts {rows:List (List Int)} {p:Int×Int} (R:Rect rows) (h:ins rows p=true) (h0:ins rows (0,0)=true):ins rows (p.1,0)=true:=by
 have h':=of_decide_eq_true h
 have h0':=of_decide_eq_true h0
 exact decide_eq_true ⟨h0'.1,h0'.2.1,h'.2.2.1,h'.2.2.2⟩
theorem ris_no {rows:List (List Int)} {cs:List (Int×Int)} {z:Int} (h:∀ c∈cs,hgt rows c≤z):risF rows cs z=false:=by
 unfold risF
 rw [List.any_eq_false]
 intro c hc
 have:=h c hc
 simp only [decide_eq_true_eq]
 omega
theorem spoil_run {bed:List (List Int)} {ts:List Tool} (R:Rect bed) (hb:∀ c,ins bed c=true→hgt bed c≤1000) (in0:ins bed (0,0)=true) {n:Nat} {t:Tool} (ht:ts[n]?=some t) (bite:t.2=1000) {p:Int×Int} (hp:ins bed p=true) {h:Int} (h1:1≤h) (h2:h≤1000) :
  ∃ (S:CS),(runM ts (S00 bed) [.hold (n:Int),.go "fast" "x" p.1,.go "fast" "y" p.2,.go "slow" "z" (h - 1)]).2=(S,none)∧Alike bed S.rows∧∀ d,ins bed d=true→hgt S.rows d=if d∈und bed t.1 p.1 p.2 then mn (hgt bed d) (h - 1) else hgt bed d:=by
 have hn:n < ts.length:=(AF.mp ht).1
 have s1:stepC ts (S00 bed) (.hold (n:Int))=.ok (0,⟨bed,some t,0,0,1000⟩):=by
  show (if 0≤(n:Int)∧(n:Int) < ts.length then (if (1000:Int)=1000 then (match ts[(n:Int).toNat]? with | some t=>(.ok (0,{ S00 bed with cut:=some t }):Except Str (Int×CS)) | none=>.error "shelf") else .error "low") else .error "shelf")=_
  rw [if_pos ⟨by omega,by omega⟩,if_pos rfl,Aq,ht]
  rfl
 have low:∀ (S:CS) (a:Str) (to:Int),S.rows=bed→∀ c∈undS S t a to,hgt S.rows c≤1000:=fun S a to e c hc=>by
  have:=(mem_undW.mp hc).1
  rw [e] at this ⊢
  exact hb c this
 have s2:stepC ts ⟨bed,some t,0,0,1000⟩ (.go "fast" "x" p.1)=.ok (0,⟨bed,some t,p.1,0,1000⟩):=by
  rw [stepC_some rfl,if_pos (show roomF ⟨bed,some t,0,0,1000⟩ "x" p.1=true from ins_parts R hp in0)]
  have e:cutR ⟨bed,some t,0,0,1000⟩ t "fast" "x" p.1=.ok (0,bed):=by
   unfold cutR
   rw [if_pos rfl,ris_no (z:=wlo ⟨bed,some t,0,0,1000⟩ "x" p.1 "z") (low _ _ _ rfl),if_neg (by decide)]
  rw [e]
  rfl
 have s3:stepC ts ⟨bed,some t,p.1,0,1000⟩ (.go "fast" "y" p.2)=.ok (0,⟨bed,some t,p.1,p.2,1000⟩):=by
  rw [stepC_some rfl,if_pos (show roomF ⟨bed,some t,p.1,0,1000⟩ "y" p.2=true from hp)]
  have e:cutR ⟨bed,some t,p.1,0,1000⟩ t "fast" "y" p.2=.ok (0,bed):=by
   unfold cutR
   rw [if_pos rfl,ris_no (z:=wlo ⟨bed,some t,p.1,0,1000⟩ "y" p.2 "z") (low _ _ _ rfl),if_neg (by decide)]
  rw [e]
  rfl
 have ez:wlo ⟨bed,some t,p.1,p.2,1000⟩ "z" (h - 1) "z"=h - 1:=by
  show mn 1000 (h - 1)=h - 1
  unfold mn
  rw [if_pos (by omega)]
 have s4:stepC ts ⟨bed,some t,p.1,p.2,1000⟩ (.go "slow" "z" (h - 1))=.ok ((dwn bed (undS ⟨bed,some t,p.1,p.2,1000⟩ t "z" (h - 1)) (h - 1)).2,⟨(dwn bed (undS ⟨bed,some t,p.1,p.2,1000⟩ t "z" (h - 1)) (h - 1)).1,some t,p.1,p.2,h - 1⟩):=by
  rw [stepC_some rfl,if_pos (show roomF ⟨bed,some t,p.1,p.2,1000⟩ "z" (h - 1)=true from decide_eq_true ⟨by omega,by omega⟩)]
  have e:cutR ⟨bed,some t,p.1,p.2,1000⟩ t "slow" "z" (h - 1)=.ok ((dwn bed (undS ⟨bed,some t,p.1,p.2,1000⟩ t "z" (h - 1)) (h - 1)).2,(dwn bed (undS ⟨bed,some t,p.1,p.2,1000⟩ t "z" (h - 1)) (h - 1)).1):=by
   unfold cutR
   rw [if_neg (by decide +kernel),ez,ris_no (fun c hc=>Int.le_trans (low _ _ _ rfl c hc) (by omega)),if_neg (by decide)]
  rw [e]
  rfl
 rw [runM_ok s1,runM_ok s2,runM_ok s3,runM_ok s4]
 refine ⟨_,rfl,dwn_al _ _ _,fun d hd=>?_⟩
 have uin:∀ c∈undS ⟨bed,some t,p.1,p.2,1000⟩ t "z" (h - 1),ins bed c=true:=fun c hc=>(mem_undW.mp hc).1
 show hgt (dwn bed (undS ⟨bed,some t,p.1,p.2,1000⟩ t "z" (h - 1)) (h - 1)).1 d=_
 rw [hgt_dwn R uin hd]
 have em:d∈undS ⟨bed,some t,p.1,p.2,1000⟩ t "z" (h - 1)↔d∈und bed t.1 p.1 p.2:=by
  unfold undS
  rw [mem_undW]
  have n1:nW ⟨bed,some t,p.1,p.2,1000⟩ "z" (h - 1) "x"=1:=by
   show (p.1 - p.1 + 1).toNat=1
   rw [Int.sub_self]; rfl
  have n2:nW ⟨bed,some t,p.1,p.2,1000⟩ "z" (h - 1) "y"=1:=by
   show (p.2 - p.2 + 1).toNat=1
   rw [Int.sub_self]; rfl
  rw [n1,n2]
  unfold und
  rw [Aj,Ai]
  constructor
  ·rintro ⟨a,i,j,hi,hj,s,hs,e⟩
   have hi0:i=0:=by omega
   have hj0:j=0:=by omega
   subst hi0 hj0
   refine ⟨⟨s,hs,?_⟩,a⟩
   rw [e]
   show shf p.1 p.2 s=shf (p.1 + ((0:Nat):Int)) (p.2 + ((0:Nat):Int)) s
   rw [Int.natCast_zero,Int.add_zero,Int.add_zero]
  ·rintro ⟨⟨s,hs,e⟩,a⟩
   refine ⟨a,0,0,by decide,by decide,s,hs,?_⟩
   rw [← e]
   show shf p.1 p.2 s=shf (p.1 + ((0:Nat):Int)) (p.2 + ((0:Nat):Int)) s
   rw [Int.natCast_zero,Int.add_zero,Int.add_zero]
 by_cases hm:d∈und bed t.1 p.1 p.2
 ·rw [if_pos hm,if_pos (em.mpr hm)]
 ·rw [if_neg hm,if_neg (fun z=>hm (em.mp z))]
abbrev Tri:=Int×Int×Int
def trV (c:Tri):List V:=[.int c.1,.int c.2.1,.int c.2.2]
def triN (n:Nat) (p:Int×Int):Tri:=((n:Int),p.1,p.2)
def ovL (bed:List (List Int)) (x y:Int):Nat→List Tool→List Tri
 | _,[]=>[]
 | n,t :: ts=>(ovs bed t.1 x y).map (triN n)++ovL bed x y (n + 1) ts
def ovS (bed:List (List Int)) (x y:Int):Nat→List Tool→List Tri
 | _,[]=>[]
 | n,t :: ts=>(plc bed t.1 x y).map (triN n)++ovS bed x y (n + 1) ts
theorem ovL_snoc (bed:List (List Int)) (x y:Int) (t:Tool):∀ (ts:List Tool) (n:Nat),ovL bed x y n (ts++[t])=ovL bed x y n ts++(ovs bed t.1 x y).map (triN (n + ts.length))
 | [],n=>by
  rw [List.nil_append,ovL,ovL,ovL,A2,List.nil_append]
  rfl
 | u :: ts,n=>by
  rw [List.cons_append,ovL,ovL_snoc bed x y t ts (n + 1),ovL,AY,AS]
  rw [show n + 1 + ts.length=n + (ts.length + 1) by omega]
theorem plc_perm {rows:List (List Int)} {foot:List (Int×Int)} {x y:Int} (h40:rows.length≤40) (nf:foot.Nodup):(ovs rows foot x y).Perm (plc rows foot x y):=by
 have up:(plc rows foot x y).Pairwise fun a b=>rkP a < rkP b:=(cols_up (by omega)).filter _
 have nd2:(plc rows foot x y).Nodup:=up.imp fun {a b} l e=>by rw [e] at l; omega
 have nd1:(ovs rows foot x y).Nodup:=by
  unfold ovs
  refine List.Pairwise.filter _ ?_
  refine List.Pairwise.map _ (fun a b hab e=>hab ?_) nf
  have:=congrArg (shb x y) e
  rw [shb_shb,shb_shb] at this
  exact this
 refine (List.perm_ext_iff_of_nodup nd1 nd2).mpr fun p=>?_
 unfold ovs plc
 rw [Aj,Aj,Ai,← ins_cols,decide_eq_true_iff]
 constructor
 ·rintro ⟨⟨s,hs,rfl⟩,hi⟩
  exact ⟨hi,by rw [shb_shb]; exact hs⟩
 ·rintro ⟨hi,hs⟩
  exact ⟨⟨_,hs,shb_shb x y p⟩,hi⟩
theorem ov_perm {bed:List (List Int)} {x y:Int} (h40:bed.length≤40):∀ (ts:List Tool) (n:Nat),(∀ t∈ts,t.1.Nodup)→(ovL bed x y n ts).Perm (ovS bed x y n ts)
 | [],n,_=>by rw [ovL,ovS]
 | t :: ts,n,h=>by
  rw [ovL,ovS]
  exact ((plc_perm h40 (h t AZ)).map _).append (ov_perm h40 ts (n + 1) fun u hu=>h u (Aa _ hu))
theorem ovS_mem {bed:List (List Int)} {x y:Int} {c:Tri}:∀ (ts:List Tool) (n:Nat),c∈ovS bed x y n ts→(n:Int)≤c.1∧ins bed c.2=true
 | [],n,h=>by rw [ovS] at h; cases h
 | t :: ts,n,h=>by
  rw [ovS] at h
  rcases AW.mp h with h | h
  ·obtain ⟨p,hp,rfl⟩:=Ai.mp h
   exact ⟨BC _,ins_cols.mpr (Aj.mp hp).1⟩
  ·have:=ovS_mem ts (n + 1) h
   exact ⟨by have:=this.1; omega,this.2⟩
theorem ins_small {bed:List (List Int)} (sm:Small bed) {p:Int×Int} (h:ins bed p=true):0≤p.1∧p.1 < 1000∧0≤p.2∧p.2 < 1000:=by
 have h':=of_decide_eq_true h
 have h40:=sm.1
 have hw:(bed.headD []).length≤40:=by
  cases bed with
  | nil=>decide
  | cons r rr=>exact sm.2 r AZ
 obtain ⟨a1,a2,a3,a4⟩:=h'
 refine ⟨?_,?_,?_,?_⟩ <;> omega
theorem rkT_lt {a b:Tri} (h:a.1 < b.1) (ha:0≤a.2.1∧a.2.1 < 1000∧0≤a.2.2∧a.2.2 < 1000) (hb:0≤b.2.1∧b.2.1 < 1000∧0≤b.2.2∧b.2.2 < 1000):rkT a < rkT b:=by
 unfold rkT
 omega
theorem rkT_le {n:Nat} {a b:Int×Int} (h:rkP a < rkP b) (ha:0≤a.1∧a.1 < 1000∧0≤a.2∧a.2 < 1000) (hb:0≤b.1∧b.1 < 1000∧0≤b.2∧b.2 < 1000):rkT (triN n a) < rkT (triN n b):=by
 unfold rkT triN
 unfold rkP at h
 dsimp only
 omega
theorem ovS_up {bed:List (List Int)} {x y:Int} (sm:Small bed):∀ (ts:List Tool) (n:Nat),(ovS bed x y n ts).Pairwise fun a b=>rkT a < rkT b
 | [],n=>by rw [ovS]; exact List.Pairwise.nil
 | t :: ts,n=>by
  rw [ovS,BK]
  refine ⟨?_,ovS_up sm ts (n + 1),?_⟩
  ·have up:(plc bed t.1 x y).Pairwise fun a b=>rkP a < rkP b:=(cols_up (by have:=sm.1; omega)).filter _
   refine List.pairwise_map.mpr ?_
   refine List.Pairwise.imp_of_mem (fun {a b} ha hb l=>?_) up
   exact rkT_le l (ins_small sm (ins_cols.mpr (Aj.mp ha).1)) (ins_small sm (ins_cols.mpr (Aj.mp hb).1))
  ·intro a ha b hb
   obtain ⟨p,hp,rfl⟩:=Ai.mp ha
   have h2:=ovS_mem ts (n + 1) hb
   exact rkT_lt (by show (n:Int) < b.1; omega) (ins_small sm (ins_cols.mpr (Aj.mp hp).1)) (ins_small sm h2.2)
theorem sortedT_eq:∀ {as bs:List Tri},as.Perm bs→as.Pairwise (fun a b=>rkT a≤rkT b)→bs.Pairwise (fun a b=>rkT a < rkT b)→as=bs
 | [],bs,p,_,_=>(List.Perm.nil_eq p)
 | a :: as,[],p,_,_=>by have:=p.length_eq; simp at this
 | a :: as,b :: bs,p,h1,h2=>by
  rw [List.pairwise_cons] at h1 h2
  have hab:a=b:=by
   by_cases e:a=b
   ·exact e
   ·have ha:a∈bs:=by
     rcases AK.mp (p.mem_iff.mp (AZ)) with z | z
     ·exact absurd z e
     ·exact z
    have hb:b∈as:=by
     rcases AK.mp (p.mem_iff.mpr (AZ)) with z | z
     ·exact absurd z.symm e
     ·exact z
    have:=h1.1 b hb
    have:=h2.1 a ha
    omega
  subst hab
  rw [sortedT_eq (List.Perm.cons_inv p) h1.2 h2.2]
theorem mv_pairedT {K:PySem.W.Frag} {H:Hp}:∀ {ts:List Addr} {cs:List Tri},MvAt H ts (cs.map trV)→Paired (fun t (c:Tri)=>SqT K H t [.int c.1,.int c.2.1,.int c.2.2]) ts cs
 | [],[],_=>.nil
 | [],_ :: _,h=>h.elim
 | _ :: _,[],h=>h.elim
 | _ :: _,_ :: _,h=>.cons (SqT.of h.1) (mv_pairedT h.2)
theorem mv_pairedTH {H:Hp}:∀ {ts:List Addr} {cs:List Tri},MvAt H ts (cs.map trV)→Paired (fun t (c:Tri)=>H t=some (.tup (trV c))) ts cs
 | [],[],_=>.nil
 | [],_ :: _,h=>h.elim
 | _ :: _,[],h=>h.elim
 | _ :: _,_ :: _,h=>.cons h.1 (mv_pairedTH h.2)
theorem paired_mvT {H:Hp}:∀ {ts:List Addr} {cs:List Tri},Paired (fun t (c:Tri)=>H t=some (.tup (trV c))) ts cs→MvAt H ts (cs.map trV)
 | _,_,.nil=>Ad
 | _,_,.cons h r=>⟨h,paired_mvT r⟩
section
variable {P:Program} {w:World} {K:PySem.W.Frag} {mg:Str→Option Value} {base:Heap} {f:Addr} {fd':FuncData}
def spOvr:Sp:=fun vs H Q _=>∃ (b sh:Addr) (x y:Int) (bed:List (List Int)) (ts:List Tool),vs=[.ref b,.ref sh,.int x,.int y]∧BdAt H b bed∧ShAt H sh ts∧Rect bed∧Small bed∧(∀ t∈ts,t.1.length≤26∧t.1.Nodup)∧ts.length≤6 ∧
 ∀ (D:Addr) (us:List Addr) (H':Hp),H D=none→Same H H'→H' D=some (.lst (us.map V.ref))→MvAt H' us ((ovS bed x y 0 ts).map trV)→Q (.ref D) H'
theorem scOvr:FnScope ["bed","shelf","x","y","found","number","dx","dy"] ["bed","shelf","x","y"] (defScope sOvr):=⟨rfl,rfl,rfl,by decide +kernel,rfl,by decide +kernel,by decide +kernel⟩
theorem ok_ovr (T:LawT mg) (hso:mg "sorted"=none) (F:Fun K "_law_over" "_law_over" sOvr f fd'):FnOk P w K mg base (CX1 P w) 1 f fd' ["bed","shelf","x","y"] spOvr:=by
 have nd:=scOvr.nd
 refine F.ok1 scOvr (fun vs H Q E h=>?_) (fun cdv A outer s H vs Q E hr h=>?_)
 ·obtain ⟨b,sh,x,y,bed,ts,rfl,_⟩:=h
  rfl
 obtain ⟨b,sh,x,y,bed,ts,rfl,hb,hs,rect,small,feet,many,q⟩:=h
 refine ⟨_,(pss_cons (ps_set (i:=4) nd rfl (Or.inl rfl) (pe_lst pa_nil))
  (pss_cons (ps_for own1 rfl (pi_range1 rfl T.range (pa_cons (pe_callB call_len_seq rfl T.len BI (pa_cons (pv 1) pa_nil)) pa_nil)) (pg_name (i:=5) nd rfl (Or.inl rfl)) (pss_one (ps_for own1 rfl (pi_list (pe_ix ix_tup (pe_ix ix_list (pv 1) (pv 5) (fun _ _=>rfl)) pe_int (fun _ _=>rfl))) (pg_tup (n:=2) rfl (pgs_cons (pg_name (i:=6) nd rfl (Or.inl rfl)) (pgs_cons (pg_name (i:=7) nd rfl (Or.inl rfl)) pgs_nil))) (pss_one (ps_if (PW.pt (pw_and (pt_chain op_le op_lt pe_int (pe_op op_sub (pv 2) (pv 6)) (pe_callB call_len_seq rfl T.len BI (pa_cons (pe_ix ix_list (pv 0) pe_int (fun _ _=>rfl)) pa_nil))) (pw_and1 (pt_chain op_le op_lt pe_int (pe_op op_sub (pv 3) (pv 7)) (pe_callB call_len_seq rfl T.len BI (pa_cons (pv 0) pa_nil)))))) (pss_one (ps_expr (pe_bm PySem.F.plainAttrs_list PySem.F.slot_list_append PySem.F.type_list_append mt_append (pv 4) (pa_cons (pe_tup (pa_cons (pv 5) (pa_cons (pe_op op_sub (pv 2) (pv 6)) (pa_cons (pe_op op_sub (pv 3) (pv 7)) pa_nil)))) pa_nil)))) pss_nil)))))
  (pss_one (ps_ret (pe_callB call_sortT rfl hso bt_sorted (pa_cons (pv 4) pa_nil)))))),?_⟩
 refine ⟨Ap _,fun D hD=>?_⟩
 have u0:=same_upd hD (.lst [])
 have eD:upd H D (.lst []) D=some (.lst (([]:List Addr).map V.ref)):=upd_same
 generalize upd H D (.lst [])=H1 at u0 eD
 obtain ⟨cts,hs1,hs2⟩:=hs
 have ctl:=hs2.len
 obtain ⟨r0,rr,er⟩:∃ r0 rr,bed=r0 :: rr:=by
  cases bed with
  | nil=>exact absurd rfl rect.1
  | cons r0 rr=>exact ⟨r0,rr,rfl⟩
 have hwl:(bed.headD []).length=r0.length:=by rw [er]; rfl
 have bA:∀ {G:Hp},BdAt G b bed→∃ (rs:List Addr) (a0:Addr),G b=some (.lst (rs.map V.ref))∧rs.length=bed.length∧atI (rs.map V.ref) 0=some (.ref a0)∧G a0=some (.lst (r0.map V.int)):=fun h=>by
  obtain ⟨rs,hw1,ra⟩:=h
  obtain ⟨a0,ha0,hr0⟩:=ra.at_ (i:=0) (row:=r0) (by rw [er]; rfl)
  exact ⟨rs,a0,hw1,ra.len,atI_nat (j:=0) (by rw [AH,ha0]; rfl),hr0⟩
 refine ⟨_,rfl,sh,_,rfl,.inl (SqL.of (u0 _ _ hs1)),_,rfl,(by rw [AA]; omega),(by rw [AA]; omega),?_⟩
 rw [Aq,AA,ctl]
 refine for_range (n:=ts.length) (fun i σ Hc=>∃ (g5 g6 g7:Option V) (us:List Addr),σ=[some (.ref b),some (.ref sh),some (.int x),some (.int y),some (.ref D),g5,g6,g7]∧Same H Hc∧Hc D=some (.lst (us.map V.ref))∧us.length≤26 * i∧MvAt Hc us ((ovL bed x y 0 (ts.take i)).map trV))
  ⟨none,none,none,[],rfl,u0,eD,Ap _,by rw [As]; exact Ad⟩ ?_ ?_
 ·rintro i σ Hc hi ⟨g5,g6,g7,us,rfl,sc,hDc,ul,mvc⟩
  have hic:i < cts.length:=by omega
  obtain ⟨t,ht,ft,hct,fts,hft1,hft2⟩:=hs2.at_ (AD hic)
  have htm:t∈ts:=Al ht
  have ftl:fts.length=t.1.length:=by rw [hft2.len,AA]
  have f26:=(feet t htm).1
  refine ⟨_,rfl,_,rfl,sh,_,_,.ref cts[i],rfl,rfl,SqL.of (sc _ _ hs1),(by rw [Int.zero_add]; exact atI_nat (by rw [AH,AD hic]; rfl)),cts[i],_,0,.ref ft,rfl,rfl,SqT.of (sc _ _ hct),rfl,ft,rfl,⟨_,SqL.of (sc _ _ hft1)⟩,?_⟩
  refine for_list (K:=K) (a:=ft) (xs:=fts.map V.ref) (fun j σ Hd=>∃ (g6 g7:Option V) (us3:List Addr),σ=[some (.ref b),some (.ref sh),some (.int x),some (.int y),some (.ref D),some (.int (0 + (i:Int))),g6,g7]∧Same H Hd∧Hd D=some (.lst (us3.map V.ref))∧us3.length≤26 * i + j∧MvAt Hd us3 ((ovL bed x y 0 (ts.take i)++(ovs bed (t.1.take j) x y).map (triN i)).map trV))
   ⟨g6,g7,us,rfl,sc,hDc,by omega,by rw [As]; exact (by rw [show (ovs bed [] x y).map (triN i)=[] from rfl,A2]; exact mvc)⟩ (fun j σ Hd _ ⟨_,_,_,_,s,_⟩=>SqL.of (s _ _ hft1)) ?_ ?_
  ·rintro j v σ Hd hv ⟨g6',g7',us3,rfl,sd,hDd,ul3,mvd⟩
   obtain ⟨u,hu,rfl⟩:=ref_get hv
   have hjt:j < t.1.length:=by have:=(AF.mp hu).1; omega
   have ej:=AD hjt
   have gu:=sd _ _ (hft2.at_ hu (by rw [AH,ej]; rfl))
   generalize t.1[j]=sp at ej gu
   have etk:t.1.take (j + 1)=t.1.take j++[sp]:=take_snoc ej
   obtain ⟨dx,dy⟩:=sp
   refine ⟨u,_,rfl,SqT.of gu,rfl,_,_,rfl,_,_,rfl,rfl,?_⟩
   obtain ⟨rs1,a0,hb1,rl1,at0,ha0⟩:=bA (hb.same sd)
   have eov:ovs bed (t.1.take (j + 1)) x y=ovs bed (t.1.take j) x y++(if ins bed (x - dx,y - dy)=true then [(x - dx,y - dy)] else []):=by
    unfold ovs
    rw [etk,AM,List.filter_append]
    congr 1
    show List.filter (ins bed) [(x - dx,y - dy)]=_
    by_cases hc:ins bed (x - dx,y - dy)=true
    ·rw [if_pos hc,List.filter_cons_of_pos hc]; rfl
    ·rw [if_neg hc,List.filter_cons_of_neg hc]; rfl
   have stay:ins bed (x - dx,y - dy)≠true→∃ (g6 g7:Option V) (us3:List Addr),[some (.ref b),some (.ref sh),some (.int x),some (.int y),some (.ref D),some (.int (0 + (i:Int))),some (.int dx),some (.int dy)]=[some (.ref b),some (.ref sh),some (.int x),some (.int y),some (.ref D),some (.int (0 + (i:Int))),g6,g7]∧Same H Hd∧Hd D=some (.lst (us3.map V.ref))∧us3.length≤26 * i + (j + 1)∧MvAt Hd us3 ((ovL bed x y 0 (ts.take i)++(ovs bed (t.1.take (j + 1)) x y).map (triN i)).map trV) :=
    fun hn=>⟨_,_,us3,rfl,sd,hDd,by omega,by rw [eov,if_neg hn,A2]; exact mvd⟩
   have notin:¬ (0≤x - dx∧x - dx < (r0.length:Int)∧0≤y - dy∧y - dy < (bed.length:Int))→ins bed (x - dx,y - dy)≠true:=fun hn z=>hn (by
    have z':=of_decide_eq_true z
    obtain ⟨a1,a2,a3,a4⟩:=z'
    dsimp only at a1 a2 a3 a4
    rw [hwl] at a4
    exact ⟨a3,a4,a1,a2⟩)
   refine ⟨_,rfl,_,rfl,_,_,rfl,rfl,_,_,rfl,rfl,_,rfl,?_⟩
   refine ite2 (fun h1=>?_) (fun h1=>⟨_,rfl,iteF (stay (notin fun z=>h1 (decide_eq_true z.1)))⟩)
   refine ⟨_,rfl,b,_,0,.ref a0,rfl,rfl,SqL.of hb1,at0,a0,_,rfl,.inl (SqL.of ha0),_,_,rfl,rfl,_,rfl,?_⟩
   rw [AA]
   refine ite2 (fun h2=>?_) (fun h2=>iteF (stay (notin fun z=>h2 (decide_eq_true z.2.1))))
   refine ⟨_,rfl,_,rfl,_,_,rfl,rfl,_,_,rfl,rfl,_,rfl,?_⟩
   refine ite2 (fun h3=>?_) (fun h3=>⟨_,rfl,iteF (stay (notin fun z=>h3 (decide_eq_true z.2.2.1)))⟩)
   refine ⟨_,rfl,b,_,rfl,.inl (SqL.of hb1),_,_,rfl,rfl,_,rfl,?_⟩
   rw [AA,rl1]
   refine ite2 (fun h4=>?_) (fun h4=>stay (notin fun z=>h4 (decide_eq_true z.2.2.2)))
   have hin:ins bed (x - dx,y - dy)=true:=by
    have a1:=of_decide_eq_true h1
    have a2:=of_decide_eq_true h2
    have a3:=of_decide_eq_true h3
    have a4:=of_decide_eq_true h4
    exact decide_eq_true ⟨a3,a4,a1,by dsimp only; rw [hwl]; exact a2⟩
   have u3l:us3.length≤1000:=by omega
   refine ⟨_,rfl,.inl ⟨rfl,_,SqL.of hDd⟩,_,rfl,_,rfl,_,rfl,_,_,rfl,rfl,_,rfl,_,rfl,_,_,rfl,rfl,le3,fun t5 h5=>?_⟩
   have u5:=same_upd h5 (.tup [V.int (0 + (i:Int)),.int (x - dx),.int (y - dy)])
   refine ⟨D,_,.ref t5,rfl,rfl,u5 _ _ hDd,(by rw [AA]; exact line3 u3l (by decide)),?_⟩
   refine ⟨_,_,us3++[t5],rfl,fun z o e=>?_,by rw [upd_same,AM]; rfl,by rw [AN]; show us3.length + 1≤_; omega,?_⟩
   ·rw [upd_ne (ne_of_none e hD)]
    exact u5 _ _ (sd _ _ e)
   ·have el:(ovL bed x y 0 (ts.take i)++(ovs bed (t.1.take (j + 1)) x y).map (triN i)).map trV=(ovL bed x y 0 (ts.take i)++(ovs bed (t.1.take j) x y).map (triN i)).map trV++[trV (triN i (x - dx,y - dy))]:=by
     rw [eov,if_pos hin]
     simp only [AM,AY,Af,List.map_nil]
    rw [el]
    refine MvAt.upd (sbn (u5 _ _ hDd)) ((mvd.same u5).snoc ?_)
    show upd Hd t5 _ t5=_
    rw [upd_same,Int.zero_add]
    rfl
  ·rintro σ Hd ⟨g6',g7',us3,rfl,sd,hDd,ul3,mvd⟩
   refine ⟨_,_,_,us3,rfl,sd,hDd,?_,?_⟩
   ·rw [AA] at ul3
    omega
   ·rw [take_snoc ht,ovL_snoc,Ae,Nat.min_eq_left (by omega),Nat.zero_add]
    rw [AA,ftl,AO (AE _)] at mvd
    exact mvd
 ·rintro σ Hc ⟨g5,g6,g7,us,rfl,sc,hDc,ul,mvc⟩
  rw [AO (AE _)] at mvc
  have pm:=ov_perm (x:=x) (y:=y) small.1 ts 0 fun t ht=>(feet t ht).2
  refine ⟨_,rfl,D,us,ovL bed x y 0 ts,rfl,SqL.of hDc,mv_pairedT mvc,fun c hc=>?_,fun D4 us4 ds n4 perm pw ul4 rel=>?_⟩
  ·have:=ins_small small (ovS_mem ts 0 (pm.mem_iff.mp hc)).2
   unfold inT
   omega
  ·have u4:=same_upd n4 (.lst (us4.map V.ref))
   have e:=sortedT_eq (perm.trans pm) pw (ovS_up small ts 0)
   subst e
   exact q D4 us4 _ (sc.free n4) (sc.trans u4) upd_same ((paired_mvT (rel _ (mv_pairedTH mvc))).same u4)
end
theorem hgt_rd {H:Hp} {b:Addr} {rows:List (List Int)} (hb:BdAt H b rows) (R:Rect rows) {c:Int×Int} (hin:ins rows c=true):∃ (rs:List Addr) (r:Addr) (row:List Int),H b=some (.lst (rs.map V.ref))∧atI (rs.map V.ref) c.2=some (.ref r)∧H r=some (.lst (row.map V.int))∧atI (row.map V.int) c.1=some (.int (hgt rows c)):=by
 obtain ⟨rs,h1,ra⟩:=hb
 obtain ⟨i,j,row,v,e1,hrow,hv,hh⟩:=ins_at hin R
 obtain ⟨r,hr',hrl⟩:=ra.at_ hrow
 have t1:c.1=(j:Int):=by rw [e1]
 have t2:c.2=(i:Int):=by rw [e1]
 exact ⟨rs,r,row,h1,by rw [t2]; exact atI_nat (by rw [AH,hr']; rfl),hrl,by rw [t1,hh]; exact atI_nat (by rw [AH,hv]; rfl)⟩
section
variable {P:Program} {w:World} {K:PySem.W.Frag} {mg:Str→Option Value} {base:Heap} {f:Addr} {fd':FuncData}
def spSpoils:Sp:=fun vs H Q _=>∃ (b wh sh td:Addr) (x y h:Int) (n:Nat) (p c:Int×Int) (bed wished:List (List Int)) (ts:List Tool) (t:Tool),vs=[.ref b,.ref wh,.ref sh,.ref td,.int x,.int y,.int h]∧BdAt H b bed∧BdAt H wh wished∧ShAt H sh ts∧H td=some (.tup [.int (n:Int),.int p.1,.int p.2,.int c.1,.int c.2]) ∧
 Rect bed∧Alike bed wished∧Small bed∧(∀ t∈ts,t.1.length≤100)∧ins bed (0,0)=true∧(∀ c,ins bed c=true→hgt bed c≤1000)∧ts[n]?=some t∧t.2=1000∧ins bed p=true∧1≤h∧h≤1000∧(x,y)∈und bed t.1 p.1 p.2∧c∈und bed t.1 p.1 p.2∧h≤hgt wished c∧∀ H',Same H H'→Q (.bl true) H'
theorem scSpoils:FnScope ["bed","wished","shelf","told","x","y","height","number","px","py","cx","cy","moves","left","taken","fault"] ["bed","wished","shelf","told","x","y","height"] (defScope sSpoils):=⟨rfl,rfl,rfl,by decide +kernel,rfl,by decide +kernel,by decide +kernel⟩
theorem ok_spoils (T:LawT mg) (FV:Fn P w K mg base "carved" 7 ["bed","shelf","moves"] (spCarved K)) (F:Fun K "_law_spoils" "_law_spoils" sSpoils f fd'):FnOk P w K mg base (CX1 P w) 8 f fd' ["bed","wished","shelf","told","x","y","height"] spSpoils:=by
 have nd:=scSpoils.nd
 refine F.ok1 scSpoils (fun vs H Q E h=>?_) (fun cdv A outer s H vs Q E hr h=>?_)
 ·obtain ⟨b,wh,sh,td,x,y,h,n,p,c,bed,wished,ts,t,rfl,_⟩:=h
  rfl
 obtain ⟨b,wh,sh,td,x,y,h,n,p,c,bed,wished,ts,t,rfl,hb,hw,hs,htd,rect,al,small,feet,in0,low,ht,bite,hp,h1,h2,hxy,hc,hcw,q⟩:=h
 refine ⟨_,(pss_cons (ps_asg (pv 3) (pg_tup (n:=5) rfl (pgs_cons (pg_name (i:=7) nd rfl (Or.inl rfl)) (pgs_cons (pg_name (i:=8) nd rfl (Or.inl rfl)) (pgs_cons (pg_name (i:=9) nd rfl (Or.inl rfl)) (pgs_cons (pg_name (i:=10) nd rfl (Or.inl rfl)) (pgs_cons (pg_name (i:=11) nd rfl (Or.inl rfl)) pgs_nil)))))))
  (pss_cons (ps_if (PW.pt (pw_or (pt_not (pt_chain op_le op_lt pe_int (pv 10) (pe_callB call_len_seq rfl T.len BI (pa_cons (pe_ix ix_list (pv 0) pe_int (fun _ _=>rfl)) pa_nil)))) (pw_or1 (pt_not (pt_chain op_le op_lt pe_int (pv 11) (pe_callB call_len_seq rfl T.len BI (pa_cons (pv 0) pa_nil))))))) (pss_one (ps_ret pe_bl)) pss_nil)
  (pss_cons (ps_set (i:=12) nd rfl (Or.inl rfl) (pe_lst (pa_cons (pe_tup (pa_cons pe_str (pa_cons (pv 7) pa_nil))) (pa_cons (pe_tup (pa_cons pe_str (pa_cons pe_str (pa_cons (pv 8) pa_nil)))) (pa_cons (pe_tup (pa_cons pe_str (pa_cons pe_str (pa_cons (pv 9) pa_nil)))) (pa_cons (pe_tup (pa_cons pe_str (pa_cons pe_str (pa_cons (pe_op op_sub (pv 6) pe_int) pa_nil)))) pa_nil))))))
  (pss_cons (ps_asg (pf_call FV hr rfl (pass1 (E:=E)) (pa_cons (pv 0) (pa_cons (pv 2) (pa_cons (pv 12) pa_nil)))) (pg_tup (n:=3) rfl (pgs_cons (pg_name (i:=13) nd rfl (Or.inl rfl)) (pgs_cons (pg_name (i:=14) nd rfl (Or.inl rfl)) (pgs_cons (pg_name (i:=15) nd rfl (Or.inl rfl)) pgs_nil)))))
  (pss_one (ps_ret (pe_and (pe_cmpR op_isN (pv 15) pe_non (nomark _)) (pe_and (pe_cmpR op_lt (pe_ix ix_list (pe_ix ix_list (pv 13) (pv 11) (fun _ _=>rfl)) (pv 10) (fun _ _=>rfl)) (pe_ix ix_list (pe_ix ix_list (pv 1) (pv 11) (fun _ _=>rfl)) (pv 10) (fun _ _=>rfl)) (nomark _)) (pe_one (pe_cmpR op_lt (pe_ix ix_list (pe_ix ix_list (pv 13) (pv 5) (fun _ _=>rfl)) (pv 4) (fun _ _=>rfl)) (pv 6) (nomark _))))))))))),?_⟩
 obtain ⟨r0,rr,er⟩:∃ r0 rr,bed=r0 :: rr:=by
  cases bed with
  | nil=>exact absurd rfl rect.1
  | cons r0 rr=>exact ⟨r0,rr,rfl⟩
 have hwl:(bed.headD []).length=r0.length:=by rw [er]; rfl
 have cin:ins bed c=true:=(Aj.mp hc).2
 have xin:ins bed (x,y)=true:=(Aj.mp hxy).2
 have ci:=of_decide_eq_true cin
 rw [hwl] at ci
 obtain ⟨rs1,hb1,ra⟩:=id hb
 obtain ⟨a0,ha0,hr0⟩:=ra.at_ (i:=0) (row:=r0) (by rw [er]; rfl)
 have at0:atI (rs1.map V.ref) 0=some (.ref a0):=atI_nat (j:=0) (by rw [AH,ha0]; rfl)
 have rl1:=ra.len
 refine ⟨_,rfl,td,_,rfl,SqT.of htd,rfl,_,_,rfl,_,_,rfl,_,_,rfl,_,_,rfl,_,_,rfl,rfl,?_⟩
 refine ⟨_,rfl,_,_,rfl,rfl,_,rfl,?_⟩
 rw [decide_eq_true ci.2.2.1]
 refine ⟨_,rfl,b,_,0,.ref a0,rfl,rfl,SqL.of hb1,at0,a0,_,rfl,.inl (SqL.of hr0),_,_,rfl,rfl,_,rfl,?_⟩
 rw [AA,decide_eq_true ci.2.2.2]
 refine ⟨_,rfl,_,_,rfl,rfl,_,rfl,?_⟩
 rw [decide_eq_true ci.1]
 refine ⟨_,rfl,b,_,rfl,.inl (SqL.of hb1),_,_,rfl,rfl,_,rfl,?_⟩
 rw [AA,rl1,decide_eq_true ci.2.1]
 refine ⟨_,rfl,le2,fun m1 g1=>⟨_,rfl,le3,fun m2 g2=>⟨_,rfl,le3,fun m3 g3=>⟨_,rfl,_,_,rfl,rfl,le3,fun m4 g4=>⟨(by show 4≤AR; decide),fun ml gl=>?_⟩⟩⟩⟩⟩
 rw [show (fun i j:Int=>V.int (i - j)) h 1=V.int (h - 1) from rfl] at gl ⊢
 have u1:=same_upd g1 (.tup [V.str "hold",.int (n:Int)])
 have u2:=same_upd g2 (.tup [V.str "fast",.str "x",.int p.1])
 have u3:=same_upd g3 (.tup [V.str "fast",.str "y",.int p.2])
 have u4:=same_upd g4 (.tup [V.str "slow",.str "z",.int (h - 1)])
 have u5:=same_upd gl (.lst [V.ref m1,.ref m2,.ref m3,.ref m4])
 have sG:=u1.trans (u2.trans (u3.trans (u4.trans u5)))
 have e1:=(u2.trans (u3.trans (u4.trans u5))) _ _ (upd_same (H:=H) (a:=m1) (o:=.tup [V.str "hold",.int (n:Int)]))
 have e2:=(u3.trans (u4.trans u5)) _ _ upd_same
 have e3:=(u4.trans u5) _ _ upd_same
 have e4:=u5 _ _ upd_same
 have e5:upd (upd (upd (upd (upd H m1 (.tup [V.str "hold",.int (n:Int)])) m2 (.tup [V.str "fast",.str "x",.int p.1])) m3 (.tup [V.str "fast",.str "y",.int p.2])) m4 (.tup [V.str "slow",.str "z",.int (h - 1)])) ml (.lst [V.ref m1,.ref m2,.ref m3,.ref m4]) ml=_:=upd_same
 generalize upd (upd (upd (upd (upd H m1 (.tup [V.str "hold",.int (n:Int)])) m2 (.tup [V.str "fast",.str "x",.int p.1])) m3 (.tup [V.str "fast",.str "y",.int p.2])) m4 (.tup [V.str "slow",.str "z",.int (h - 1)])) ml (.lst [V.ref m1,.ref m2,.ref m3,.ref m4])=G at sG e1 e2 e3 e4 e5
 clear u1 u2 u3 u4 u5 g1 g2 g3 g4 gl
 obtain ⟨S,eS,alS,hgS⟩:=spoil_run rect low in0 ht bite hp h1 h2
 refine ⟨_,rfl,_,rfl,_,rfl,b,sh,ml,[m1,m2,m3,m4],bed,ts,[.hold (n:Int),.go "fast" "x" p.1,.go "fast" "y" p.2,.go "slow" "z" (h - 1)],rfl,hb.same sG,hs.same sG,feet,e5,⟨e1,e2,e3,e4,Ad⟩,fun m hm=>?_,(by show 4≤100000; decide),rect,small,in0,fun tt R tl fv rs H6 s6 htt htl rpf hR rR nR nrs=>?_⟩
 ·simp only [AK,Ay,or_false] at hm
  rcases hm with rfl | rfl | rfl | rfl
  ·exact Ad
  ·exact ⟨by decide +kernel,.inl rfl⟩
  ·exact ⟨by decide +kernel,.inr (.inl rfl)⟩
  ·exact ⟨by decide +kernel,.inr (.inr rfl)⟩
 rw [eS] at rpf rR
 have hfv:fv=.non:=by cases rpf; rfl
 subst hfv
 have hRb:BdAt H6 R S.rows:=⟨rs,hR,rR⟩
 have rS:=alS.rect rect
 have cS:ins S.rows c=true:=by rw [← alS.ins]; exact cin
 have xS:ins S.rows (x,y)=true:=by rw [← alS.ins]; exact xin
 have cW:ins wished c=true:=by rw [← al.ins]; exact cin
 have hc1:hgt S.rows c < hgt wished c:=by
  rw [hgS c cin,if_pos hc]
  have:=(le_mn (z:=mn (hgt bed c) (h - 1)) (a:=hgt bed c) (b:=h - 1)).mp (BC _)
  omega
 have hx1:hgt S.rows (x,y) < h:=by
  rw [hgS (x,y) xin,if_pos hxy]
  have:=(le_mn (z:=mn (hgt bed (x,y)) (h - 1)) (a:=hgt bed (x,y)) (b:=h - 1)).mp (BC _)
  omega
 obtain ⟨q1,q2,q3,d1,d2,d3,d4⟩:=hgt_rd hRb rS cS
 obtain ⟨w1,w2,w3,f1,f2,f3,f4⟩:=hgt_rd (hw.same (sG.trans s6)) (al.rect rect) cW
 obtain ⟨v1,v2,v3,k1,k2,k3,k4⟩:=hgt_rd hRb rS xS
 refine ⟨tt,_,rfl,SqT.of htt,rfl,_,_,rfl,_,_,rfl,_,_,rfl,rfl,?_⟩
 refine ⟨_,rfl,rfl,_,rfl,?_⟩
 rw [decide_eq_true (rfl:V.non=V.non)]
 refine ⟨_,rfl,_,rfl,R,_,_,.ref q2,rfl,rfl,SqL.of d1,d2,_,rfl,q2,_,_,_,rfl,rfl,SqL.of d3,d4,_,rfl,_,rfl,wh,_,_,.ref w2,rfl,rfl,SqL.of f1,f2,_,rfl,w2,_,_,_,rfl,rfl,SqL.of f3,f4,_,_,rfl,rfl,_,rfl,?_⟩
 rw [decide_eq_true hc1]
 refine ⟨_,rfl,_,rfl,R,_,_,.ref v2,rfl,rfl,SqL.of k1,k2,_,rfl,v2,_,_,_,rfl,rfl,SqL.of k3,k4,_,rfl,_,_,rfl,rfl,?_⟩
 show Q (V.bl (decide (hgt S.rows (x,y) < h))) H6
 rw [decide_eq_true hx1]
 exact q _ (sG.trans s6)
end
theorem shaped_of {d:PyData} {k:Nat} (h:PyData.canLay0 d=true∧PyData.depth d≤k) (hk:k≤10):SeqAt.shaped d=true:=by
 unfold SeqAt.shaped
 rw [h.1,Bool.true_and]
 exact decide_eq_true (by omega)
theorem eq_false {d:PyData} (h:PyData.canLay0 d=true):(if true=true then !PyData.eqv d d else PyData.eqv d d)=false:=by
 rw [eqv_self d h]
 rfl
theorem ints_can:∀ ns:List Int,PyData.canLayAll0 (ns.map .int)=true∧PyData.depthAll (ns.map .int)=0
 | []=>⟨rfl,rfl⟩
 | n :: ns=>by
  obtain ⟨a,b⟩:=ints_can ns
  rw [Af,PyData.canLayAll0,PyData.depthAll,a,b]
  exact ⟨rfl,rfl⟩
section
variable {K:PySem.W.Frag} {H:Hp}
theorem ints_rp:∀ ns:List Int,Rps K H (ns.map V.int) (ns.map .int)
 | []=>.nil
 | n :: ns=>.cons (.int n) (ints_rp ns)
end
def rwD (r:List Int):PyData:=.tuple (r.map .int)
theorem rws_can:∀ rows:List (List Int),PyData.canLayAll0 (rows.map rwD)=true∧PyData.depthAll (rows.map rwD)≤1
 | []=>⟨rfl,by decide⟩
 | r :: rows=>by
  obtain ⟨a,b⟩:=rws_can rows
  obtain ⟨c,d⟩:=ints_can r
  rw [Af,PyData.canLayAll0,PyData.depthAll,a,rwD,PyData.canLay0,PyData.depth,c,d]
  exact ⟨rfl,by omega⟩
theorem rwl_can (rows:List (List Int)):PyData.canLay0 (.list (rows.map rwD))=true∧PyData.depth (.list (rows.map rwD))≤10:=by
 obtain ⟨a,b⟩:=rws_can rows
 rw [PyData.canLay0,PyData.depth,a]
 exact ⟨rfl,by omega⟩
theorem mvs_rw {K:PySem.W.Frag} {H:Hp}:∀ {us:List Addr} {rows:List (List Int)},MvAt H us (rows.map fun r=>r.map V.int)→Rps K H (us.map V.ref) (rows.map rwD)
 | [],[],_=>.nil
 | _ :: _,_ :: _,h=>.cons (.tup (SqT.of h.1) (ints_rp _)) (mvs_rw h.2)
 | [],_ :: _,h=>h.elim
 | _ :: _,[],h=>h.elim
theorem RsAt.rp {K:PySem.W.Frag} {H:Hp} {R:Addr} {rows:List (List Int)} (h:RsAt H R rows):Rp K H (.ref R) (.list (rows.map rwD)):=by
 obtain ⟨us,a,b⟩:=h
 exact .lst (SqL.of a) (mvs_rw b)
theorem plc_ovs {rows:List (List Int)} {foot:List (Int×Int)} {x y:Int} {p:Int×Int} (h:p∈plc rows foot x y):p∈ovs rows foot x y:=by
 unfold plc at h
 rw [Aj] at h
 exact mem_ovs.mpr ⟨ins_cols.mpr h.1,_,of_decide_eq_true h.2,shb_shf.mp (shb_shb x y p).symm⟩
def triL (c:Tri):List Int:=[c.1,c.2.1,c.2.2]
theorem why_three (bed wished:List (List Int)) (left x y:Int):∀ (ts:List Tool) (n:Nat),(whyF bed wished left x y n ts).map (fun r=>r.take 3)=(ovS bed x y n ts).map triL
 | [],n=>by rw [whyF,ovS]; rfl
 | t :: ts,n=>by
  rw [whyF,ovS,AM,AM,why_three bed wished left x y ts (n + 1),List.map_map,List.map_map]
  rfl
theorem why_mem {bed wished:List (List Int)} {left x y:Int} {r:List Int}:∀ (ts:List Tool) (n:Nat),r∈whyF bed wished left x y n ts→∃ (m:Nat) (t:Tool) (p:Int×Int),ts[m]?=some t∧p∈plc bed t.1 x y∧r=rowF bed wished left (n + m) t p
 | [],n,h=>by rw [whyF] at h; cases h
 | t :: ts,n,h=>by
  rw [whyF] at h
  rcases AW.mp h with h | h
  ·obtain ⟨p,hp,rfl⟩:=Ai.mp h
   exact ⟨0,t,p,rfl,hp,rfl⟩
  ·obtain ⟨m,u,p,a,b,c⟩:=why_mem ts (n + 1) h
   exact ⟨m + 1,u,p,a,b,by rw [c,show n + 1 + m=n + (m + 1) by omega]⟩
theorem fst_ex:∀ (S:List (Int×Int)),S≠[]→∃ c,IsFst S c
 | [],h=>absurd rfl h
 | [a],_=>⟨a,AZ,fun d hd=>by
  rw [An.mp hd]
  unfold lt2
  omega⟩
 | a :: b :: r,_=>by
  obtain ⟨c,hc,hm⟩:=fst_ex (b :: r) (by simp)
  by_cases h:lt2 (a.2,a.1) (c.2,c.1)
  ·refine ⟨a,AZ,fun d hd=>?_⟩
   rcases AK.mp hd with rfl | hd
   ·unfold lt2; omega
   ·have:=hm d hd
    unfold lt2 at *
    dsimp only at *
    omega
  ·refine ⟨c,Aa _ hc,fun d hd=>?_⟩
   rcases AK.mp hd with rfl | hd
   ·exact h
   ·exact hm d hd
theorem fst_in {S:List (Int×Int)} (h:S≠[]):fstF S∈S:=by
 obtain ⟨c,hc⟩:=fst_ex S h
 rw [hc.f]
 exact hc.1
theorem why_row {bed wished:List (List Int)} (R:Rect bed) (A:Alike bed wished) {ts:List Tool} {x y:Int} (hin:ins bed (x,y)=true) {r:List Int} (h:r∈whyF bed wished (hgt (hadF bed wished ts) (x,y)) x y 0 ts) :
  ∃ (n:Nat) (t:Tool) (p c:Int×Int),ts[n]?=some t∧ins bed p=true∧(x,y)∈und bed t.1 p.1 p.2∧c∈und bed t.1 p.1 p.2∧hgt (hadF bed wished ts) (x,y)≤hgt wished c∧r=[(n:Int),p.1,p.2,c.1,c.2]:=by
 obtain ⟨m,t,p,ht,hp,e⟩:=why_mem ts 0 h
 have hpo:=plc_ovs hp
 obtain ⟨ip,s,hs,hxy⟩:=mem_ovs.mp hpo
 obtain ⟨d,hd,hh⟩:=high_some R A (wished:=wished) hin (Al ht) hpo
 have hne:highs wished (hgt (hadF bed wished ts) (x,y)) (und bed t.1 p.1 p.2)≠[]:=fun z=>by
  have:d∈highs wished (hgt (hadF bed wished ts) (x,y)) (und bed t.1 p.1 p.2):=Aj.mpr ⟨hd,decide_eq_true hh⟩
  rw [z] at this
  cases this
 have hf:=Aj.mp (fst_in hne)
 refine ⟨m,t,p,fstF (highs wished (hgt (hadF bed wished ts) (x,y)) (und bed t.1 p.1 p.2)),ht,ip,?_,hf.1,of_decide_eq_true hf.2,?_⟩
 ·unfold und
  rw [Aj,Ai]
  exact ⟨⟨s,hs,hxy.symm⟩,hin⟩
 ·rw [e,Nat.zero_add]
  rfl
end Car
namespace L2
open PySem
theorem sl_tupK {X:Cx} {K:PySem.W.Frag} (h:X.K=K):SlR X (rSlT K):=by subst h; exact sl_tup
end L2
namespace Car
open PySem L2
theorem ovL_len {bed:List (List Int)} {x y:Int}:∀ (ts:List Tool) (n:Nat),(∀ t∈ts,t.1.length≤26)→(ovL bed x y n ts).length≤26 * ts.length
 | [],n,_=>by rw [ovL]; exact Ap _
 | t :: ts,n,h=>by
  rw [ovL,AN,AA,AS]
  have a:=ovL_len (bed:=bed) (x:=x) (y:=y) ts (n + 1) fun u hu=>h u (Aa _ hu)
  have b:(ovs bed t.1 x y).length≤t.1.length:=by
   unfold ovs
   exact Au (List.length_filter_le _ _) (by rw [AA]; exact AE _)
  have c:=h t AZ
  omega
theorem nd5:(["x","wished","left","y"]:List Str).Nodup:=by decide +kernel
section
variable {P:Program} {w:World} {K:PySem.W.Frag} {mg:Str→Option Value} {base:Heap} {f:Addr} {fd':FuncData}
def spLaw (Tb:Addr) (K:PySem.W.Frag):Sp:=fun vs H Q _=>∃ (a:Addr) (ns:List Int),vs=[.ref a]∧SqL K H a (ns.map V.int)∧ns.length≤63∧H Tb=some (.tbl #[])∧∀ H',Q (.bl true) H'
theorem scLaw:FnScope ["script","bed","wished","shelf","turn","left","cells","y","x","rows","told"] ["script"] (defScope sLaw):=⟨rfl,rfl,rfl,by decide +kernel,rfl,by decide +kernel,by decide +kernel⟩
theorem ok_law {Tb:Addr} (T:LawT mg) (FC:Fn P w K mg base "_law_case" 4 ["script"] (spCase K)) (FO:Fn P w K mg base "_law_over" 1 ["bed","shelf","x","y"] spOvr) (FS:Fn P w K mg base "_law_spoils" 8 ["bed","wished","shelf","told","x","y","height"] spSpoils) (FH:Fn P w K mg base "had" 3 ["bed","wished","shelf"] spHad) (FY:Fn P w K mg base "why_left" 5 ["bed","wished","shelf","x","y"] (spWhy Tb))
  (F:Fun K "law" "law" sLaw f fd'):FnOk P w K mg base (CX1 P w) 9 f fd' ["script"] (spLaw Tb K):=by
 have nd:=scLaw.nd
 refine F.ok1 scLaw (fun vs H Q E h=>?_) (fun cdv A outer s H vs Q E hr h=>?_)
 ·obtain ⟨a,ns,rfl,_⟩:=h
  rfl
 obtain ⟨L,ns,rfl,hL,_,hTb,q⟩:=h
 have hr1:Room 1 _:=hr.mono (by decide)
 have hr3:Room 3 _:=hr.mono (by decide)
 have hr4:Room 4 _:=hr.mono (by decide)
 have hr5:Room 5 _:=hr.mono (by decide)
 refine ⟨_,(pss_cons (ps_asg (pf_call FC hr4 rfl (pass1 (E:=E)) (pa_cons (pv 0) pa_nil)) (pg_tup (n:=4) rfl (pgs_cons (pg_name (i:=1) nd rfl (Or.inl rfl)) (pgs_cons (pg_name (i:=2) nd rfl (Or.inr rfl)) (pgs_cons (pg_name (i:=3) nd rfl (Or.inl rfl)) (pgs_cons (pg_name (i:=4) nd rfl (Or.inl rfl)) pgs_nil))))))
  (pss_cons (ps_set (i:=5) nd rfl (Or.inr rfl) (pf_call FH hr3 rfl (pass1 (E:=E)) (pa_cons (pv 1) (pa_cons (pv 2) (pa_cons (pv 3) pa_nil)))))
  (pss_cons (ps_set (i:=6) nd rfl (Or.inl rfl) (pe_lst pa_nil))
  (pss_cons (ps_for own1 rfl (pi_range1 rfl T.range (pa_cons (pe_callB call_len_seq rfl T.len BI (pa_cons (pv 1) pa_nil)) pa_nil)) (pg_name (i:=7) nd rfl (Or.inr rfl)) (pss_one (ps_set (i:=6) nd rfl (Or.inl rfl) (pe_op op_cat (pv 6) (pe_lc (own:=["x"]) (capn:=["wished","left","y"]) (capI:=[2,5,7]) rfl (blkC (defScope sLaw) rfl rfl (by decide +kernel) rfl (fun y hy=>by rcases AK.mp hy with rfl | hy; exact ⟨rfl,rfl⟩; rcases AK.mp hy with rfl | hy; exact ⟨rfl,rfl⟩; rcases AK.mp hy with rfl | hy; exact ⟨rfl,rfl⟩; cases hy)) (pi_range1 rfl T.range (pa_cons (pe_callB call_len_seq rfl T.len BI (pa_cons (pe_ix ix_list (pv 1) pe_int (fun _ _=>rfl)) pa_nil)) pa_nil)) (fun _ _ _ _ _ _=>pg_name (i:=0) nd5 rfl (Or.inl rfl)) (fun _ _ _ _ _ _=>(pifs_one (pt_cmpR op_gt (pe_ix (ix_listK (K:=K) rfl) (pe_ix (ix_listK (K:=K) rfl) (pv 2) (pv 3) (fun _ _=>rfl)) (pv 0) (fun _ _=>rfl)) (pe_ix (ix_listK (K:=K) rfl) (pe_ix (ix_listK (K:=K) rfl) (pv 1) (pv 3) (fun _ _=>rfl)) (pv 0) (fun _ _=>rfl)) (nomark _)))) (fun _ _ _ _ _ _=>(pe_tup (pa_cons (pv 0) (pa_cons (pv 3) pa_nil)))))))))
  (pss_cons (ps_set (i:=4) nd rfl (Or.inl rfl) (pe_op op_mod (pv 4) (pe_callB (call_max2 rfl) rfl T.max bt_max (pa_cons pe_int (pa_cons (pe_callB call_len_seq rfl T.len BI (pa_cons (pv 6) pa_nil)) pa_nil)))))
  (pss_cons (ps_for own1 rfl (pi_list (pe_slice sl_list (pe_op op_cat (pe_slice sl_list (pv 6) (po_some (pv 4)) po_none) (pe_slice sl_list (pv 6) po_none (po_some (pv 4)))) po_none (po_some pe_int))) (pg_tup (n:=2) rfl (pgs_cons (pg_name (i:=8) nd rfl (Or.inl rfl)) (pgs_cons (pg_name (i:=7) nd rfl (Or.inr rfl)) pgs_nil))) (pss_cons (ps_set (i:=9) nd rfl (Or.inl rfl) (pf_call FY hr5 rfl (pass1 (E:=E)) (pa_cons (pv 1) (pa_cons (pv 2) (pa_cons (pv 3) (pa_cons (pv 8) (pa_cons (pv 7) pa_nil)))))))
  (pss_cons (ps_if (pt_cmpR (op_neD hr.units) (pe_lc (own:=["told"]) (capn:=[]) (capI:=[]) rfl (blk0 rfl (by decide +kernel)) (pi_list (pv 9)) (fun _ _ _ _ _ _=>pg_name (i:=0) (nd1 "told") rfl (Or.inl rfl)) (fun _ _ _ _ _ _=>pifs_nil) (fun _ _ _ _ _ _=>(pe_slice (sl_tupK (K:=K) rfl) (pv 0) po_none (po_some pe_int)))) (pf_call FO hr1 rfl (pass1 (E:=E)) (pa_cons (pv 1) (pa_cons (pv 3) (pa_cons (pv 8) (pa_cons (pv 7) pa_nil))))) (nomark _)) (pss_one (ps_ret pe_bl)) pss_nil)
  (pss_one (ps_for own1 rfl (pi_list (pv 9)) (pg_name (i:=10) nd rfl (Or.inl rfl)) (pss_one (ps_if (pt_not (pt_truth (pf_call FS hr rfl (pass1 (E:=E)) (pa_cons (pv 1) (pa_cons (pv 2) (pa_cons (pv 3) (pa_cons (pv 10) (pa_cons (pv 8) (pa_cons (pv 7) (pa_cons (pe_ix ix_list (pe_ix ix_list (pv 5) (pv 7) (fun _ _=>rfl)) (pv 8) (fun _ _=>rfl)) pa_nil)))))))) (fun _=>rfl))) (pss_one (ps_ret pe_bl)) pss_nil)))))))
  (pss_one (ps_ret pe_bl)))))))),?_⟩
 refine ⟨_,rfl,L,ns,rfl,hL,fun t b wh sh turn bed wished ts H1 s1 ht hb hwh hsh rect al small feet tl6 tn0 tb hle hb9 in0 hnn=>?_⟩
 refine ⟨t,_,rfl,SqT.of ht,rfl,_,_,rfl,_,_,rfl,_,_,rfl,_,_,rfl,rfl,?_⟩
 have hTb1:=s1 _ _ hTb
 have low:∀ c,ins bed c=true→hgt bed c≤1000:=fun c hc=>by
  obtain ⟨i,j,row,v,_,hrow,hv,hh⟩:=ins_at hc rect
  rw [hh]
  exact hb9 row (Al hrow) v (Al hv)
 have wnn:∀ c,ins bed c=true→0≤hgt wished c:=fun c hc=>by
  obtain ⟨i,j,row,v,_,hrow,hv,hh⟩:=ins_at (show ins wished c=true by rw [← al.ins]; exact hc) (al.rect rect)
  rw [hh]
  exact hnn row (Al hrow) v (Al hv)
 have ft100:∀ t∈ts,t.1.length≤100:=fun t ht=>Au (feet t ht).1 (by decide)
 clear ht hL hb9 hnn
 refine ⟨_,rfl,_,rfl,_,rfl,b,wh,sh,bed,wished,ts,rfl,hb,hwh,hsh,rect,al,small,ft100,fun fo fs H6 nfo s6 hfo rfo _ _ _=>?_⟩
 have hfb:BdAt H6 fo (hadF bed wished ts):=⟨fs,hfo,rfo⟩
 have alh:Alike bed (hadF bed wished ts):=cuts_alike _ _
 refine ⟨Ap _,fun c0 hc0=>?_⟩
 have u7:=same_upd hc0 (.lst [])
 have s7:=s6.trans u7
 have F3:=hb.same s7
 have F4:=hwh.same s7
 have G2:=hsh.same s7
 have FL:=hfb.same u7
 have hTb7:=s7 _ _ hTb1
 have ec0:upd H6 c0 (.lst []) c0=some (.lst (([]:List Addr).map V.ref)):=upd_same
 generalize upd H6 c0 (.lst [])=H7 at F3 F4 G2 FL hTb7 ec0
 clear hfb hfo rfo s6 s7 u7 hTb1 hc0 nfo hb hwh hsh
 obtain ⟨r0,rr,er⟩:∃ r0 rr,bed=r0 :: rr:=by
  cases bed with
  | nil=>exact absurd rfl rect.1
  | cons r0 rr=>exact ⟨r0,rr,rfl⟩
 have hwl:(bed.headD []).length=r0.length:=by rw [er]; rfl
 have r040:r0.length≤40:=small.2 r0 (by rw [er]; exact AZ)
 have b40:=small.1
 have bA:∀ {G:Hp},BdAt G b bed→∃ (rs:List Addr) (a0:Addr),G b=some (.lst (rs.map V.ref))∧rs.length=bed.length∧atI (rs.map V.ref) 0=some (.ref a0)∧G a0=some (.lst (r0.map V.int)):=fun h=>by
  obtain ⟨rs,hw1,ra⟩:=h
  obtain ⟨a0,ha0,hr0⟩:=ra.at_ (i:=0) (row:=r0) (by rw [er]; rfl)
  exact ⟨rs,a0,hw1,ra.len,atI_nat (j:=0) (by rw [AH,ha0]; rfl),hr0⟩
 obtain ⟨rsb,_,hbb,rbl,_,_⟩:=bA F3
 refine ⟨_,rfl,b,_,rfl,.inl (SqL.of hbb),_,rfl,(by rw [AA]; omega),(by rw [AA]; omega),?_⟩
 rw [Aq,AA,rbl]
 refine for_range (n:=bed.length) (fun i σ Hc=>∃ (cl:Addr) (cs:List (Int×Int)) (g9:Option V),σ=[some (.ref L),some (.ref b),some (.ref wh),some (.ref sh),some (.int turn),some (.ref fo),some (.ref cl),g9,none,none,none]∧Same H7 Hc∧FtAt Hc cl cs∧cs.length≤40 * i∧∀ c∈cs,ins bed c=true∧hgt wished c < hgt (hadF bed wished ts) c)
  ⟨c0,[],none,rfl,Same.refl _,⟨[],ec0,Ad⟩,Ap _,fun c hc=>by cases hc⟩ ?_ ?_
 ·rintro i σ Hc hi ⟨cl,cs,g9,rfl,sc,⟨us,hcl,mvc⟩,cl40,hin⟩
  obtain ⟨rs1,a0,hb1,_,at0,ha0⟩:=bA (F3.same sc)
  refine ⟨_,rfl,_,rfl,b,_,0,.ref a0,rfl,rfl,SqL.of hb1,at0,a0,_,rfl,.inl (SqL.of ha0),_,rfl,(by rw [AA]; omega),(by rw [AA]; omega),fun D3 hD3=>?_⟩
  rw [Aq,AA]
  refine ⟨Wd r0.length (fun j σ acc Hd=>∃ (z:Option V) (us2:List Addr) (cs2:List (Int×Int)),σ=[z,some (.ref wh),some (.ref fo),some (.int (0 + (i:Int)))]∧acc=us2.map V.ref∧MvAt Hd us2 (cs2.map pr)∧cs2.length≤j∧(∀ c∈cs2,ins bed c=true∧hgt wished c < hgt (hadF bed wished ts) c)∧Same Hc Hd∧Hd D3=some (.lst acc)),wd_0 ⟨none,[],[],rfl,rfl,Ad,AE _,(fun c hc=>by cases hc),same_upd hD3 _,upd_same⟩,?_⟩
  rintro j jm σ acc Hd ⟨rfl,hj0,z,us2,cs2,rfl,rfl,mv2,l2,in2,sd,hDd⟩
  refine rg_ask hj0 (fun hj=>?_) (fun hend=>?_)
  ·have hcin:ins bed ((0 + (j:Int)),(0 + (i:Int)))=true:=by
    refine decide_eq_true ⟨by dsimp only; omega,by dsimp only; omega,by dsimp only; omega,by dsimp only; omega⟩
   have s7d:=sc.trans sd
   obtain ⟨q1,q2,q3,e1,e2,e3,e4⟩:=hgt_rd (FL.same s7d) (alh.rect rect) (c:=((0 + (j:Int)),(0 + (i:Int)))) (by rw [← alh.ins]; exact hcin)
   obtain ⟨w1,w2,w3,f1,f2,f3,f4⟩:=hgt_rd (F4.same s7d) (al.rect rect) (c:=((0 + (j:Int)),(0 + (i:Int)))) (by rw [← al.ins]; exact hcin)
   refine ⟨_,rfl,_,rfl,fo,_,_,.ref q2,rfl,rfl,SqL.of e1,e2,_,rfl,q2,_,_,_,rfl,rfl,SqL.of e3,e4,_,rfl,_,rfl,wh,_,_,.ref w2,rfl,rfl,SqL.of f1,f2,_,rfl,w2,_,_,_,rfl,rfl,SqL.of f3,f4,_,_,rfl,rfl,_,rfl,?_⟩
   refine ite2 (fun hgt5=>?_) (fun _=>wd_next hj ⟨_,us2,cs2,rfl,rfl,mv2,by omega,in2,sd,hDd⟩)
   refine ⟨_,rfl,_,rfl,le2,fun t5 h5=>?_⟩
   have u5:=same_upd h5 (.tup [V.int (0 + (j:Int)),.int (0 + (i:Int))])
   have tl2:us2.length=cs2.length:=by rw [mv2.len,AA]
   refine ⟨u5 _ _ hDd,?_,wd_next hj ⟨_,us2++[t5],cs2++[((0 + (j:Int)),(0 + (i:Int)))],rfl,by rw [AM]; rfl,?_,by rw [AN]; show cs2.length + 1≤_; omega,fun c hc=>?_,same_in (sd.trans u5) hD3,upd_same⟩⟩
   ·rw [AA]
    exact line3 (show us2.length≤1000 by omega) (by decide)
   ·rw [AM]
    exact ((mv2.same u5).snoc upd_same).upd (sbn (u5 _ _ hDd))
   ·rcases AW.mp hc with hc | hc
    ·exact in2 c hc
    ·rw [An.mp hc]; exact ⟨hcin,of_decide_eq_true hgt5⟩
  ·have tl1:us.length=cs.length:=by rw [mvc.len,AA]
   have tl2:us2.length=cs2.length:=by rw [mv2.len,AA]
   refine ⟨cl,D3,_,_,rfl,rfl,sd _ _ hcl,hDd,?_,fun p5 h5=>?_⟩
   ·rw [AA,AA]
    exact Nat.le_of_lt (Nat.lt_of_le_of_lt (show us.length + us2.length≤2000 by omega) (by decide))
   have u5:=same_upd h5 (.lst (us.map V.ref++us2.map V.ref))
   have s5:=sd.trans u5
   refine ⟨p5,cs++cs2,_,rfl,sc.trans s5,⟨us++us2,by rw [upd_same,AM],?_⟩,?_,fun c hc=>?_⟩
   ·rw [AM]
    exact (mvc.same s5).app (mv2.same u5)
   ·rw [AN]
    omega
   ·rcases AW.mp hc with hc | hc
    ·exact hin c hc
    ·exact in2 c hc
 rintro σ H8 ⟨cl,cs,g9,rfl,s8,⟨us,hcl,mvc⟩,cl40,hin⟩
 have tl1:us.length=cs.length:=by rw [mvc.len,AA]
 have c1600:cs.length≤1600:=by omega
 have K3:=F3.same s8
 have K4:=F4.same s8
 have M2:=G2.same s8
 have KL:=FL.same s8
 have hTb8:=s8 _ _ hTb7
 clear F3 F4 G2 FL hTb7 s8 ec0 hbb
 refine ⟨_,rfl,_,rfl,cl,_,rfl,.inl (SqL.of hcl),_,_,rfl,?_⟩
 rw [AA]
 obtain ⟨mn,hmn⟩:∃ mn:Int,(if (us.length:Int) > 1 then (us.length:Int) else 1)=mn:=⟨_,rfl⟩
 rw [hmn]
 have mn1:1≤mn∧(us≠[]→mn=(us.length:Int)):=by
  rw [← hmn]
  constructor
  ·split <;> omega
  ·intro h
   have:=List.length_pos_iff.mpr h
   split <;> omega
 refine ⟨_,_,rfl,rfl,(by show (0:Int) < mn; omega),?_⟩
 have mt:=mod_lt turn (show 0 < mn by omega)
 obtain ⟨k,hk⟩:∃ k:Nat,turn % mn=(k:Int):=⟨(turn % mn).toNat,by omega⟩
 have hku:us≠[]→k < us.length:=fun h=>by have:=mn1.2 h; omega
 obtain ⟨tv,htv⟩:∃ tv:V,(fun i j:Int=>V.int (i % j)) turn mn=tv:=⟨_,rfl⟩
 have htv':tv=V.int (k:Int):=by rw [← htv,← hk]
 rw [htv,htv']
 clear htv htv' tv
 refine ⟨_,rfl,_,rfl,(k:Int),rfl,cl,_,rfl,SqL.of hcl,fun p1 hp1=>?_⟩
 rw [cut_drop]
 have v1:=same_upd hp1 (.lst ((us.drop k).map V.ref))
 refine ⟨_,rfl,_,rfl,(k:Int),rfl,cl,_,rfl,SqL.of (v1 _ _ hcl),fun p2 hp2=>?_⟩
 rw [cut_take]
 have v2:=same_upd hp2 (.lst ((us.take k).map V.ref))
 refine ⟨p1,p2,_,_,rfl,rfl,v2 _ _ upd_same,upd_same,?_,fun p3 hp3=>?_⟩
 ·rw [AA,AA,List.length_drop,Ae]
  exact Nat.le_of_lt (Nat.lt_of_le_of_lt (show _≤4000 by omega) (by decide))
 have v3:=same_upd hp3 (.lst ((us.drop k).map V.ref++(us.take k).map V.ref))
 have e3:upd (upd (upd H8 p1 (.lst ((us.drop k).map V.ref))) p2 (.lst ((us.take k).map V.ref))) p3 (.lst ((us.drop k).map V.ref++(us.take k).map V.ref)) p3=some (.lst ((us.drop k++us.take k).map V.ref)):=by rw [upd_same,AM]
 have v13:=v1.trans (v2.trans v3)
 generalize upd (upd (upd H8 p1 (.lst ((us.drop k).map V.ref))) p2 (.lst ((us.take k).map V.ref))) p3 (.lst ((us.drop k).map V.ref++(us.take k).map V.ref))=H9 at v13 e3
 clear v1 v2 v3 hp1 hp2 hp3
 refine ⟨_,rfl,p3,_,rfl,SqL.of e3,fun p5 hp5=>?_⟩
 have ecut:cutV ((us.drop k++us.take k).map V.ref) none (some (6:Int))=((us.drop k++us.take k).take 6).map V.ref:=cut_take V.ref (us.drop k++us.take k) 6
 rw [ecut]
 have v5:=same_upd hp5 (.lst (((us.drop k++us.take k).take 6).map V.ref))
 have e5:upd H9 p5 (.lst (((us.drop k++us.take k).take 6).map V.ref)) p5=some (.lst (((us.drop k++us.take k).take 6).map V.ref)):=upd_same
 have v15:=v13.trans v5
 generalize upd H9 p5 (.lst (((us.drop k++us.take k).take 6).map V.ref))=HA at v15 e5
 clear v13 e3 hp5 v5 ecut
 have sub:∀ u∈(us.drop k++us.take k).take 6,u∈us:=fun u hu=>by
  rcases AW.mp (A6 hu) with z | z
  ·exact List.mem_of_mem_drop z
  ·exact A6 z
 have hTbA:=v15 _ _ hTb8
 have N3:=(K3.same v15).dr hTbA
 have N4:=(K4.same v15).dr hTbA
 have O2:=(M2.same v15).dr hTbA
 have NL:=(KL.same v15).dr hTbA
 have NM:=(mvc.same v15).dr hTbA
 have NP:=dr_at hTbA e5 (fun q z=>by cases z)
 clear K3 K4 M2 KL hTb8 hcl mvc v15 e5
 refine ⟨p5,rfl,⟨_,SqL.of (drop_le _ _ NP)⟩,?_⟩
 refine for_list (K:=K) (a:=p5) (xs:=((us.drop k++us.take k).take 6).map V.ref) (fun i σ Hc=>∃ (g7 g8 g9 g10:Option V),σ=[some (.ref L),some (.ref b),some (.ref wh),some (.ref sh),some (.int (k:Int)),some (.ref fo),some (.ref cl),g7,g8,g9,g10]∧Same (L2.drop HA Tb) Hc∧TabAt Tb lpos qlam Hc)
  ⟨_,_,_,_,rfl,drop_le,.inl hTbA⟩ (fun i σ Hc _ ⟨_,_,_,_,_,s,_⟩=>SqL.of (s _ _ NP)) ?_ (fun σ Hc ⟨_,_,_,_,e,_,_⟩=>by subst e; exact q _)
 rintro i v σ Hc hv ⟨g7,g8,g9',g10,rfl,sc,tabc⟩
 obtain ⟨u,hu,rfl⟩:=ref_get hv
 have hum:u∈us:=sub u (Al hu)
 obtain ⟨m,hm⟩:=List.getElem?_of_mem hum
 have hmc:m < cs.length:=by have:=(AF.mp hm).1; omega
 have gu0:=NM.at_ hm (by rw [AH,AD hmc]; rfl)
 obtain ⟨cin,cgt⟩:=hin _ (Az hmc)
 generalize cs[m]=c at gu0 cin cgt
 have gu:=sc _ _ gu0
 obtain ⟨x,y⟩:=c
 refine ⟨u,_,rfl,SqT.of gu,rfl,_,_,rfl,_,_,rfl,rfl,?_⟩
 have h1:1≤hgt (hadF bed wished ts) (x,y):=by have:=wnn _ cin; omega
 have h2:hgt (hadF bed wished ts) (x,y)≤1000:=Int.le_trans (had_within rect al hle cin).2 (low _ cin)
 have wrow:∀ r∈whyF bed wished (hgt (hadF bed wished ts) (x,y)) x y 0 ts,_:=fun r hr=>why_row rect al (ts:=ts) cin hr
 refine ⟨_,rfl,_,rfl,_,rfl,_,rfl,_,rfl,b,wh,sh,x,y,bed,wished,ts,rfl,N3.same sc,N4.same sc,O2.same sc,rect,al,small,(fun t ht=>⟨(feet t ht).1,(feet t ht).2.1⟩),tl6,cin,tabc,fun R2 HC nR2 sbC tabC rsC=>?_⟩
 have kC:Same (L2.drop Hc Tb) HC:=sb_dr.mp sbC
 have noT:∀ {x:Addr} {o:HO},L2.drop HA Tb x=some o→x≠Tb:=fun {x o} e z=>by rw [z,drop_same] at e; cases e
 have scC:Same (L2.drop HA Tb) HC:=fun z o e=>kC z o (by rw [drop_ne (noT e)]; exact sc z o e)
 obtain ⟨left,hleft⟩:∃ left,hgt (hadF bed wished ts) (x,y)=left:=⟨_,rfl⟩
 have w3:=why_three bed wished left x y ts 0
 rw [hleft] at rsC h1 h2 wrow
 obtain ⟨us2,hR2,mvR2⟩:=rsC
 generalize whyF bed wished left x y 0 ts=rows at mvR2 wrow w3
 have ul2:us2.length=rows.length:=by rw [mvR2.len,AA]
 have rl:rows.length≤1000:=by
  have a:=congrArg List.length w3
  rw [AA,AA] at a
  have b:=(ov_perm (x:=x) (y:=y) small.1 ts 0 fun t ht=>(feet t ht).2.1).length_eq
  have c:=ovL_len (bed:=bed) (x:=x) (y:=y) ts 0 fun t ht=>(feet t ht).1
  omega
 have row5:∀ r∈rows,∃ a1 a2 a3 a4 a5:Int,r=[a1,a2,a3,a4,a5]:=fun r hr=>by
  obtain ⟨n,t,p,c,_,_,_,_,_,e⟩:=wrow r hr
  exact ⟨_,_,_,_,_,e⟩
 refine ⟨_,rfl,R2,rfl,⟨_,SqL.of hR2⟩,fun D hD=>?_⟩
 obtain ⟨g,hg⟩:∃ g:V→List V,∀ u m,HC u=some (.tup m)→g (.ref u)=m.take 3 :=
  ⟨fun v=>match v with | .ref u=>(match HC u with | some (.tup m)=>m.take 3 | _=>[]) | _=>[],fun u m e=>by simp only [e]⟩
 have gall:∀ (us:List Addr) (rs:List (List Int)),MvAt HC us (rs.map fun r=>r.map V.int)→(us.map V.ref).map g=(rs.map fun r=>r.take 3).map fun r=>r.map V.int:=by
  intro us
  induction us with
  | nil =>
   intro rs h
   cases rs with
   | nil=>rfl
   | cons c cs=>exact h.elim
  | cons u us ih =>
   intro rs h
   cases rs with
   | nil=>exact h.elim
   | cons r rs =>
    rw [Af,Af,Af,Af,ih rs h.2,hg u _ h.1,List.map_take]
 refine lc_tupC (K:=K) (xs:=us2.map V.ref) (F:=g) [] (SqL.of hR2) (by rw [AA]; omega) (fun v hv G R sG r=>?_) hD (fun us3 HD sD hD3 mv3=>?_)
 ·obtain ⟨u1,hu1,rfl⟩:=Ai.mp hv
  obtain ⟨j,hj⟩:=List.getElem?_of_mem hu1
  have hjr:j < rows.length:=by have:=(AF.mp hj).1; omega
  have e1:=mvR2.at_ hj (by rw [AH,AD hjr]; rfl)
  obtain ⟨a1,a2,a3,a4,a5,er5⟩:=row5 _ (Az hjr)
  have e2:=hg u1 _ e1
  rw [er5] at e1 e2
  rw [e2] at r
  exact ⟨_,rfl,3,rfl,u1,_,rfl,SqT.of (sG _ _ e1),(by show ¬ (HT.sIx 5 0 none=0∧HT.sIx 5 5 (some 3)=5); decide +kernel),r⟩
 rw [gall us2 rows mvR2,w3] at mv3
 have scD:=scC.trans sD
 refine ⟨_,rfl,_,rfl,_,rfl,_,rfl,b,sh,x,y,bed,ts,rfl,N3.same scD,O2.same scD,rect,small,(fun t ht=>⟨(feet t ht).1,(feet t ht).2.1⟩),tl6,fun D4 us4 HE nD4 sE hD4 mv4=>?_⟩
 have A3:RsAt HE D ((ovS bed x y 0 ts).map triL):=⟨us3,sE _ _ hD3,by rw [List.map_map] at mv3 ⊢; exact mv3.same sE⟩
 have A4:RsAt HE D4 ((ovS bed x y 0 ts).map triL):=⟨us4,hD4,by rw [List.map_map]; exact mv4⟩
 have wc:=rwl_can ((ovS bed x y 0 ts).map triL)
 refine ⟨_,_,A3.rp,A4.rp,shaped_of wc (by decide),shaped_of wc (by decide),_,rfl,?_⟩
 rw [eq_false wc.1]
 have sCE:=sD.trans sE
 have scE:=scC.trans sCE
 have hRE:=sCE _ _ hR2
 have mvE:=mvR2.same sCE
 have tabE:=tabC.same sCE
 clear A3 A4 mv3 mv4 hD3 hD4 gall hg
 refine iteF ?_
 refine ⟨_,rfl,R2,rfl,⟨_,SqL.of hRE⟩,?_⟩
 refine for_list (K:=K) (a:=R2) (xs:=us2.map V.ref) (fun j σ Hd=>∃ (g10:Option V),σ=[some (.ref L),some (.ref b),some (.ref wh),some (.ref sh),some (.int (k:Int)),some (.ref fo),some (.ref cl),some (.int y),some (.int x),some (.ref R2),g10]∧Same HE Hd)
  ⟨_,rfl,Same.refl _⟩ (fun j σ Hd _ ⟨_,_,s⟩=>SqL.of (s _ _ hRE)) ?_ (fun σ Hd ⟨g10,e,s⟩=>⟨_,_,_,_,e,scE.trans s,tabE.same s⟩)
 rintro j v σ Hd hv ⟨g10',rfl,sd⟩
 obtain ⟨u1,hu1,rfl⟩:=ref_get hv
 have hjr:j < rows.length:=by have:=(AF.mp hu1).1; omega
 have e1:=mvE.at_ hu1 (by rw [AH,AD hjr]; rfl)
 obtain ⟨n,t,p,c,hnt,hp,hxy,hc,hcw,er5⟩:=wrow _ (Az hjr)
 rw [er5] at e1
 have scd:=scE.trans sd
 obtain ⟨q1,q2,q3,d1,d2,d3,d4⟩:=hgt_rd (NL.same scd) (alh.rect rect) (c:=(x,y)) (by rw [← alh.ins]; exact cin)
 rw [hleft] at d4
 refine ⟨_,rfl,_,rfl,_,rfl,_,rfl,_,rfl,_,rfl,_,rfl,_,rfl,fo,_,_,.ref q2,rfl,rfl,SqL.of d1,d2,_,rfl,q2,_,_,_,rfl,rfl,SqL.of d3,d4,b,wh,sh,u1,x,y,left,n,p,c,bed,wished,ts,t,rfl,N3.same scd,N4.same scd,O2.same scd,sd _ _ e1,rect,al,small,ft100,in0,low,hnt,tb t (Al hnt),hp,h1,h2,hxy,hc,hcw,fun HF sF=>?_⟩
 exact ⟨_,rfl,iteF ⟨_,rfl,sd.trans sF⟩⟩
end
structure FnT (K:PySem.W.Frag) (x:Str) (st:Stmt) (f:Addr) (fd:FuncData):Prop where
 ns:AV K Ab x=some (some (.ref f))
 fn:Fun K x x st f fd
theorem fnT_mk {K:PySem.W.Frag} {x:Str} {st:Stmt} {f:Addr} {oc:Value} {od an:Option Addr} {osl:Array (Option Value)} {kV doc pm cdv ct:Value} (a:AV K Ab x=some (some (.ref f)))
  (l:K.lookup f=some ⟨oc,od,.func (A7 x x (defArgs st) (defBody st) (defScope st) .none kV doc pm an cdv ct),osl⟩) (c:A5 K cdv x=true) (k:Av K (.ref f)=true):∃ f fd,FnT K x st f fd:=⟨_,_,a,fun_mk l c k⟩
structure C_Carver (K:PySem.W.Frag) (C f0 f1 f2 f3 f4 f5 f6 f7:Addr) (d0 d1 d2 d3 d4 d5 d6 d7:FuncData):Prop where
 ns:AV K Ab "Carver"=some (some (.ref C))
 cl:Cls K C
 fn___init__:Fun K "__init__" "Carver.__init__" (inClass (top 16) 0) f0 d0
 mks:Mk K C f0
 fn_do:Fun K "do" "Carver.do" (inClass (top 16) 1) f1 d1
 mt_do:Meth K C "do" f1
 fn_do_hold:Fun K "do_hold" "Carver.do_hold" (inClass (top 16) 2) f2 d2
 mt_do_hold:Meth K C "do_hold" f2
 fn_do_move:Fun K "do_move" "Carver.do_move" (inClass (top 16) 3) f3 d3
 mt_do_move:Meth K C "do_move" f3
 fn_has_room:Fun K "has_room" "Carver.has_room" (inClass (top 16) 4) f4 d4
 mt_has_room:Meth K C "has_room" f4
 fn_way_to:Fun K "way_to" "Carver.way_to" (inClass (top 16) 5) f5 d5
 mt_way_to:Meth K C "way_to" f5
 fn_pass_over:Fun K "pass_over" "Carver.pass_over" (inClass (top 16) 6) f6 d6
 mt_pass_over:Meth K C "pass_over" f6
 fn_cut_along:Fun K "cut_along" "Carver.cut_along" (inClass (top 16) 7) f7 d7
 mt_cut_along:Meth K C "cut_along" f7
 n_stuff:NoAttr K C "stuff"
 n_shelf:NoAttr K C "shelf"
 n_cutter:NoAttr K C "cutter"
 n_stands:NoAttr K C "stands"
theorem C_Carver_mk {K:PySem.W.Frag} {C f0 f1 f2 f3 f4 f5 f6 f7:Addr} {od0 an0 od1 an1 od2 an2 od3 an3 od4 an4 od5 an5 od6 an6 od7 an7:Option Addr} {sl0 sl1 sl2 sl3 sl4 sl5 sl6 sl7:Array (Option Value)} {oc0 kV0 dc0 pm0 cd0 ct0 oc1 kV1 dc1 pm1 cd1 ct1 oc2 kV2 dc2 pm2 cd2 ct2 oc3 kV3 dc3 pm3 cd3 ct3 oc4 kV4 dc4 pm4 cd4 ct4 oc5 kV5 dc5 pm5 cd5 ct5 oc6 kV6 dc6 pm6 cd6 ct6 oc7 kV7 dc7 pm7 cd7 ct7:Value}
  (aC:AV K Ab "Carver"=some (some (.ref C)))
  (a0:Ao K (.ref C) "__init__"=some (some (.ref f0))) (i0:PySem.W.isFn K (.ref f0)=true) (l0:K.lookup f0=some ⟨oc0,od0,.func (A7 "__init__" "Carver.__init__" (defArgs (inClass (top 16) 0)) (defBody (inClass (top 16) 0)) (defScope (inClass (top 16) 0)) .none kV0 dc0 pm0 an0 cd0 ct0),sl0⟩) (c0:A5 K cd0 "Carver.__init__"=true) (k0:Av K (.ref f0)=true)
  (a1:Ao K (.ref C) "do"=some (some (.ref f1))) (i1:PySem.W.isFn K (.ref f1)=true) (l1:K.lookup f1=some ⟨oc1,od1,.func (A7 "do" "Carver.do" (defArgs (inClass (top 16) 1)) (defBody (inClass (top 16) 1)) (defScope (inClass (top 16) 1)) .none kV1 dc1 pm1 an1 cd1 ct1),sl1⟩) (c1:A5 K cd1 "Carver.do"=true) (k1:Av K (.ref f1)=true)
  (a2:Ao K (.ref C) "do_hold"=some (some (.ref f2))) (i2:PySem.W.isFn K (.ref f2)=true) (l2:K.lookup f2=some ⟨oc2,od2,.func (A7 "do_hold" "Carver.do_hold" (defArgs (inClass (top 16) 2)) (defBody (inClass (top 16) 2)) (defScope (inClass (top 16) 2)) .none kV2 dc2 pm2 an2 cd2 ct2),sl2⟩) (c2:A5 K cd2 "Carver.do_hold"=true) (k2:Av K (.ref f2)=true)
  (a3:Ao K (.ref C) "do_move"=some (some (.ref f3))) (i3:PySem.W.isFn K (.ref f3)=true) (l3:K.lookup f3=some ⟨oc3,od3,.func (A7 "do_move" "Carver.do_move" (defArgs (inClass (top 16) 3)) (defBody (inClass (top 16) 3)) (defScope (inClass (top 16) 3)) .none kV3 dc3 pm3 an3 cd3 ct3),sl3⟩) (c3:A5 K cd3 "Carver.do_move"=true) (k3:Av K (.ref f3)=true)
  (a4:Ao K (.ref C) "has_room"=some (some (.ref f4))) (i4:PySem.W.isFn K (.ref f4)=true) (l4:K.lookup f4=some ⟨oc4,od4,.func (A7 "has_room" "Carver.has_room" (defArgs (inClass (top 16) 4)) (defBody (inClass (top 16) 4)) (defScope (inClass (top 16) 4)) .none kV4 dc4 pm4 an4 cd4 ct4),sl4⟩) (c4:A5 K cd4 "Carver.has_room"=true) (k4:Av K (.ref f4)=true)
  (a5:Ao K (.ref C) "way_to"=some (some (.ref f5))) (i5:PySem.W.isFn K (.ref f5)=true) (l5:K.lookup f5=some ⟨oc5,od5,.func (A7 "way_to" "Carver.way_to" (defArgs (inClass (top 16) 5)) (defBody (inClass (top 16) 5)) (defScope (inClass (top 16) 5)) .none kV5 dc5 pm5 an5 cd5 ct5),sl5⟩) (c5:A5 K cd5 "Carver.way_to"=true) (k5:Av K (.ref f5)=true)
  (a6:Ao K (.ref C) "pass_over"=some (some (.ref f6))) (i6:PySem.W.isFn K (.ref f6)=true) (l6:K.lookup f6=some ⟨oc6,od6,.func (A7 "pass_over" "Carver.pass_over" (defArgs (inClass (top 16) 6)) (defBody (inClass (top 16) 6)) (defScope (inClass (top 16) 6)) .none kV6 dc6 pm6 an6 cd6 ct6),sl6⟩) (c6:A5 K cd6 "Carver.pass_over"=true) (k6:Av K (.ref f6)=true)
  (a7:Ao K (.ref C) "cut_along"=some (some (.ref f7))) (i7:PySem.W.isFn K (.ref f7)=true) (l7:K.lookup f7=some ⟨oc7,od7,.func (A7 "cut_along" "Carver.cut_along" (defArgs (inClass (top 16) 7)) (defBody (inClass (top 16) 7)) (defScope (inClass (top 16) 7)) .none kV7 dc7 pm7 an7 cd7 ct7),sl7⟩) (c7:A5 K cd7 "Carver.cut_along"=true) (k7:Av K (.ref f7)=true)
  (pg:PySem.W.plainGet K C Str.empty=true) (hd:PySem.W.hasDictIn K C=true) (po:PySem.W.plainOver K C=true) (sa:Ao K (.ref C) "__setattr__"=some (some (.builtin "object.__setattr__"))) (mk:PySem.W.makesIn K C=true) (kc:Av K (.ref C)=true) (n0:Ao K (.ref C) "stuff"=some none) (n1:Ao K (.ref C) "shelf"=some none) (n2:Ao K (.ref C) "cutter"=some none) (n3:Ao K (.ref C) "stands"=some none) :
  ∃ C f0 f1 f2 f3 f4 f5 f6 f7 d0 d1 d2 d3 d4 d5 d6 d7,C_Carver K C f0 f1 f2 f3 f4 f5 f6 f7 d0 d1 d2 d3 d4 d5 d6 d7 :=
 ⟨C,f0,f1,f2,f3,f4,f5,f6,f7,_,_,_,_,_,_,_,_,aC,⟨pg,hd,po,sa⟩,fun_mk l0 c0 k0,⟨mk,a0,i0,kc⟩,fun_mk l1 c1 k1,⟨a1,i1,k1⟩,fun_mk l2 c2 k2,⟨a2,i2,k2⟩,fun_mk l3 c3 k3,⟨a3,i3,k3⟩,fun_mk l4 c4 k4,⟨a4,i4,k4⟩,fun_mk l5 c5 k5,⟨a5,i5,k5⟩,fun_mk l6 c6 k6,⟨a6,i6,k6⟩,fun_mk l7 c7 k7,⟨a7,i7,k7⟩,n0,n1,n2,n3⟩
structure C_Cells (K:PySem.W.Frag) (C f0 f1 f2 f3 f4:Addr) (d0 d1 d2 d3 d4:FuncData):Prop where
 ns:AV K Ab "Cells"=some (some (.ref C))
 cl:Cls K C
 fn___init__:Fun K "__init__" "Cells.__init__" (inClass (top 19) 0) f0 d0
 mks:Mk K C f0
 fn_has_cell:Fun K "has_cell" "Cells.has_cell" (inClass (top 19) 1) f1 d1
 mt_has_cell:Meth K C "has_cell" f1
 fn_under:Fun K "under" "Cells.under" (inClass (top 19) 2) f2 d2
 mt_under:Meth K C "under" f2
 fn_rises_above:Fun K "rises_above" "Cells.rises_above" (inClass (top 19) 3) f3 d3
 mt_rises_above:Meth K C "rises_above" f3
 fn_cut_down:Fun K "cut_down" "Cells.cut_down" (inClass (top 19) 4) f4 d4
 mt_cut_down:Meth K C "cut_down" f4
 n_rows:NoAttr K C "rows"
theorem C_Cells_mk {K:PySem.W.Frag} {C f0 f1 f2 f3 f4:Addr} {od0 an0 od1 an1 od2 an2 od3 an3 od4 an4:Option Addr} {sl0 sl1 sl2 sl3 sl4:Array (Option Value)} {oc0 kV0 dc0 pm0 cd0 ct0 oc1 kV1 dc1 pm1 cd1 ct1 oc2 kV2 dc2 pm2 cd2 ct2 oc3 kV3 dc3 pm3 cd3 ct3 oc4 kV4 dc4 pm4 cd4 ct4:Value}
  (aC:AV K Ab "Cells"=some (some (.ref C)))
  (a0:Ao K (.ref C) "__init__"=some (some (.ref f0))) (i0:PySem.W.isFn K (.ref f0)=true) (l0:K.lookup f0=some ⟨oc0,od0,.func (A7 "__init__" "Cells.__init__" (defArgs (inClass (top 19) 0)) (defBody (inClass (top 19) 0)) (defScope (inClass (top 19) 0)) .none kV0 dc0 pm0 an0 cd0 ct0),sl0⟩) (c0:A5 K cd0 "Cells.__init__"=true) (k0:Av K (.ref f0)=true)
  (a1:Ao K (.ref C) "has_cell"=some (some (.ref f1))) (i1:PySem.W.isFn K (.ref f1)=true) (l1:K.lookup f1=some ⟨oc1,od1,.func (A7 "has_cell" "Cells.has_cell" (defArgs (inClass (top 19) 1)) (defBody (inClass (top 19) 1)) (defScope (inClass (top 19) 1)) .none kV1 dc1 pm1 an1 cd1 ct1),sl1⟩) (c1:A5 K cd1 "Cells.has_cell"=true) (k1:Av K (.ref f1)=true)
  (a2:Ao K (.ref C) "under"=some (some (.ref f2))) (i2:PySem.W.isFn K (.ref f2)=true) (l2:K.lookup f2=some ⟨oc2,od2,.func (A7 "under" "Cells.under" (defArgs (inClass (top 19) 2)) (defBody (inClass (top 19) 2)) (defScope (inClass (top 19) 2)) .none kV2 dc2 pm2 an2 cd2 ct2),sl2⟩) (c2:A5 K cd2 "Cells.under"=true) (k2:Av K (.ref f2)=true)
  (a3:Ao K (.ref C) "rises_above"=some (some (.ref f3))) (i3:PySem.W.isFn K (.ref f3)=true) (l3:K.lookup f3=some ⟨oc3,od3,.func (A7 "rises_above" "Cells.rises_above" (defArgs (inClass (top 19) 3)) (defBody (inClass (top 19) 3)) (defScope (inClass (top 19) 3)) .none kV3 dc3 pm3 an3 cd3 ct3),sl3⟩) (c3:A5 K cd3 "Cells.rises_above"=true) (k3:Av K (.ref f3)=true)
  (a4:Ao K (.ref C) "cut_down"=some (some (.ref f4))) (i4:PySem.W.isFn K (.ref f4)=true) (l4:K.lookup f4=some ⟨oc4,od4,.func (A7 "cut_down" "Cells.cut_down" (defArgs (inClass (top 19) 4)) (defBody (inClass (top 19) 4)) (defScope (inClass (top 19) 4)) .none kV4 dc4 pm4 an4 cd4 ct4),sl4⟩) (c4:A5 K cd4 "Cells.cut_down"=true) (k4:Av K (.ref f4)=true)
  (pg:PySem.W.plainGet K C Str.empty=true) (hd:PySem.W.hasDictIn K C=true) (po:PySem.W.plainOver K C=true) (sa:Ao K (.ref C) "__setattr__"=some (some (.builtin "object.__setattr__"))) (mk:PySem.W.makesIn K C=true) (kc:Av K (.ref C)=true) (n0:Ao K (.ref C) "rows"=some none) :
  ∃ C f0 f1 f2 f3 f4 d0 d1 d2 d3 d4,C_Cells K C f0 f1 f2 f3 f4 d0 d1 d2 d3 d4 :=
 ⟨C,f0,f1,f2,f3,f4,_,_,_,_,_,aC,⟨pg,hd,po,sa⟩,fun_mk l0 c0 k0,⟨mk,a0,i0,kc⟩,fun_mk l1 c1 k1,⟨a1,i1,k1⟩,fun_mk l2 c2 k2,⟨a2,i2,k2⟩,fun_mk l3 c3 k3,⟨a3,i3,k3⟩,fun_mk l4 c4 k4,⟨a4,i4,k4⟩,n0⟩
structure FnTL (K:PySem.W.Frag) (x:Str) (st:Stmt) (f:Addr) (fd:FuncData) (c P:Addr):Prop where
 ns:AV K Ab x=some (some (.ref f))
 fn:FunL K x st f fd c
 hd:PySem.W.codeHdIn K c P=true
theorem fnTL_mk {K:PySem.W.Frag} {x:Str} {st:Stmt} {f c:Addr} (P:Addr) {oc:Value} {od an:Option Addr} {osl:Array (Option Value)} {kV doc pm ct:Value} (a:AV K Ab x=some (some (.ref f)))
  (l:K.lookup f=some ⟨oc,od,.func (A7 x x (defArgs st) (defBody st) (defScope st) .none kV doc pm an (.ref c) ct),osl⟩) (hc:A5 K (.ref c) x=true) (k:Av K (.ref f)=true) (hd:PySem.W.codeHdIn K c P=true):∃ f fd c,FnTL K x st f fd c P:=⟨_,_,_,a,⟨⟨_,_,_,_,_,_,_,_,rfl,l,hc⟩,k⟩,hd⟩
theorem FunL.toFun {K:PySem.W.Frag} {x:Str} {st:Stmt} {f c:Addr} {fd:FuncData} (F:FunL K x st f fd c):Fun K x x st f fd:=by
 obtain ⟨oc,od,kV,doc,pm,an,ct,osl,rfl,lk,hcd⟩:=F.ex
 exact fun_mk lk hcd F.kp
theorem byLen0 {P:List Value→Prop} (h:P []):∀ us:List Value,us.length=0→P us:=fun us hl=>by
 rw [List.length_eq_zero_iff.mp hl]
 exact h
theorem byLenS {n:Nat} {P:List Value→Prop} (h:∀ (a:Value) (us:List Value),us.length=n→P (a :: us)):∀ us:List Value,us.length=n + 1→P us:=fun us hl=>by
 cases us with
 | nil=>cases hl
 | cons a r=>exact h a r (Nat.succ.inj hl)
theorem byLen1 {P:List Value→Prop} (h:∀ a0:Value,P [a0]):∀ us:List Value,us.length=1→P us:=byLenS fun a=>byLen0 (P:=fun us=>P (a :: us)) (h a)
theorem byLen2 {P:List Value→Prop} (h:∀ a0 a1:Value,P [a0,a1]):∀ us:List Value,us.length=2→P us:=byLenS fun a=>byLen1 (P:=fun us=>P (a :: us)) (h a)
theorem byLen3 {P:List Value→Prop} (h:∀ a0 a1 a2:Value,P [a0,a1,a2]):∀ us:List Value,us.length=3→P us:=byLenS fun a=>byLen2 (P:=fun us=>P (a :: us)) (h a)
theorem byLen4 {P:List Value→Prop} (h:∀ a0 a1 a2 a3:Value,P [a0,a1,a2,a3]):∀ us:List Value,us.length=4→P us:=byLenS fun a=>byLen3 (P:=fun us=>P (a :: us)) (h a)
theorem byLen5 {P:List Value→Prop} (h:∀ a0 a1 a2 a3 a4:Value,P [a0,a1,a2,a3,a4]):∀ us:List Value,us.length=5→P us:=byLenS fun a=>byLen4 (P:=fun us=>P (a :: us)) (h a)
theorem byLen6 {P:List Value→Prop} (h:∀ a0 a1 a2 a3 a4 a5:Value,P [a0,a1,a2,a3,a4,a5]):∀ us:List Value,us.length=6→P us:=byLenS fun a=>byLen5 (P:=fun us=>P (a :: us)) (h a)
theorem byLen7 {P:List Value→Prop} (h:∀ a0 a1 a2 a3 a4 a5 a6:Value,P [a0,a1,a2,a3,a4,a5,a6]):∀ us:List Value,us.length=7→P us:=byLenS fun a=>byLen6 (P:=fun us=>P (a :: us)) (h a)
structure C_Fault (K:PySem.W.Frag) (C f0:Addr) (d0:FuncData):Prop where
 ns:AV K Ab "Fault"=some (some (.ref C))
 fn:Fun K "__init__" "Fault.__init__" (inClass (top 15) 0) f0 d0
 obj:∃ nm q N bs sn sub ab col dd k0 k1 k2 k3 k5,K.lookup C=some (excClassObj nm q C N bs bmE true sn sub ab col dd k0 k1 k2 k3 k5 "Exception.__new__")∧PySem.W.nsOkIn K N=true∧AV K N "__init__"=some (some (.ref f0)) ∧
  AV K N "__setattr__"=some none∧AV K N "__getattribute__"=some none∧AV K N "__getattr__"=some none∧AV K N "fault"=some none
 ty:PySem.W.typeIn K (.ref f0)=some (.type "function")
 cobj:∃ dd cd sl,K.lookup C=some ⟨.type "type",dd,.cls cd,sl⟩
 exc:PySem.W.mroIn K C (.type "BaseException")=some true
 own:PySem.W.mroIn K C (.ref C)=some true
theorem C_Fault_mk {K:PySem.W.Frag} {C f0 N:Addr} {nm q:Str} {bs:List Value} {sn:List Str} {sub:List Value} {ab:Bool} {col:Option Bool} {dd:Option Addr} {k0 k1 k2 k3 k5:Option Value} {od an:Option Addr} {sl:Array (Option Value)} {oc kV dc pm cd ct:Value}
  {dd':Option Addr} {cd':ClassData} {sl':Array (Option Value)} {nc:Value} {ndd:Option Addr} {nes:Array DictEntry} {nep:Nat} {nsl:Array (Option Value)}
  (aC:AV K Ab "Fault"=some (some (.ref C)))
  (o1:K.lookup C=some (excClassObj nm q C N bs bmE true sn sub ab col dd k0 k1 k2 k3 k5 "Exception.__new__")) (o2:K.lookup N=some ⟨nc,ndd,.dict nes nep,nsl⟩) (o3:(nes.toList.all fun e=>match e.key with | .str _ _=>true | _=>false)=true) (a0:AV K N "__init__"=some (some (.ref f0)))
  (n1:AV K N "__setattr__"=some none) (n2:AV K N "__getattribute__"=some none) (n3:AV K N "__getattr__"=some none) (n4:AV K N "fault"=some none)
  (l0:K.lookup f0=some ⟨oc,od,.func (A7 "__init__" "Fault.__init__" (defArgs (inClass (top 15) 0)) (defBody (inClass (top 15) 0)) (defScope (inClass (top 15) 0)) .none kV dc pm an cd ct),sl⟩) (c0:A5 K cd "Fault.__init__"=true) (k:Av K (.ref f0)=true)
  (ty:PySem.W.typeIn K (.ref f0)=some (.type "function")) (co:K.lookup C=some ⟨.type "type",dd',.cls cd',sl'⟩) (ex:PySem.W.mroIn K C (.type "BaseException")=some true) (ow:PySem.W.mroIn K C (.ref C)=some true):∃ C f0 d0,C_Fault K C f0 d0 :=
 ⟨C,f0,_,aC,fun_mk l0 c0 k,⟨nm,q,N,bs,sn,sub,ab,col,dd,k0,k1,k2,k3,k5,o1,(by unfold PySem.W.nsOkIn; rw [o2]; dsimp only; rw [← Array.all_toList]; exact o3),a0,n1,n2,n3,n4⟩,ty,⟨dd',cd',sl',co⟩,ex,ow⟩
theorem int_mk {K:PySem.W.Frag} {x:Str} {i:Int} {t:Tok} (a:AV K Ab x=some (some (.int i t))):∃ t,AV K Ab x=some (some (.int i t)):=⟨t,a⟩
theorem look_end:typeLookup (.type "Exception") "fault"=pure none:=by rw [typeLookup_type,builtinLookup_eq_fast]; kernel_rfl
structure BegD (P:Program) (w:World) (K:PySem.W.Frag) (a:Addr):Prop where
 ns:AV K Ab "BEGINNING"=some (some (.ref a))
 dk:DkK P w K a begK
theorem beg_mk {P:Program} {w:World} {K:PySem.W.Frag} {a:Addr} {h1 h2 h3:Int} {t1 t2 t3 u1 u2 u3:Tok} {ep:Nat} (n:AV K Ab "BEGINNING"=some (some (.ref a)))
  (l:K.lookup a=some ⟨.type "dict",none,.dict #[⟨h1,.str "x" t1,.int 0 u1⟩,⟨h2,.str "y" t2,.int 0 u2⟩,⟨h3,.str "z" t3,.int 1000 u3⟩] ep,#[]⟩) (e1:h1=hashStr w "x") (e2:h2=hashStr w "y") (e3:h3=hashStr w "z") (hs:(a == sysModules)=false):∃ a,BegD P w K a:=by
 subst e1 e2 e3
 refine ⟨a,n,hs,(show 3≤AR by decide),[((Sum.inr "x":Key),.int 0 u1),(Sum.inr "y",.int 0 u2),(Sum.inr "z",.int 1000 u3)],.cons ⟨rfl,_,rfl⟩ (.cons ⟨rfl,_,rfl⟩ (.cons ⟨rfl,_,rfl⟩ .nil)),fun h X=>?_⟩
 refine ⟨_,#[⟨hashStr w "x",.str "x" t1,.int 0 u1⟩,⟨hashStr w "y",.str "y" t2,.int 0 u2⟩,⟨hashStr w "z",.str "z" t3,.int 1000 u3⟩],ep,X _ _ l,⟨rfl,rfl,rfl⟩,rfl,fun e he=>?_,.cons (keyIs_str "x" t1) rfl (.cons (keyIs_str "y" t2) rfl (.cons (keyIs_str "z" t3) rfl .nil)),(show List.Nodup [(Sum.inr "x":Key),Sum.inr "y",Sum.inr "z"] by decide +kernel)⟩
 have he':e∈[(⟨hashStr w "x",.str "x" t1,.int 0 u1⟩:DictEntry),⟨hashStr w "y",.str "y" t2,.int 0 u2⟩,⟨hashStr w "z",.str "z" t3,.int 1000 u3⟩]:=by simpa using he
 simp only [AK,List.mem_nil_iff,or_false] at he'
 rcases he' with rfl | rfl | rfl
 ·exact ⟨Sum.inr "x",keyIs_str "x" t1,rfl⟩
 ·exact ⟨Sum.inr "y",keyIs_str "y" t2,rfl⟩
 ·exact ⟨Sum.inr "z",keyIs_str "z" t3,rfl⟩
structure NoneT (K:PySem.W.Frag):Prop where
 len:AV K Ab "len"=some none
 max:AV K Ab "max"=some none
 min:AV K Ab "min"=some none
 range:AV K Ab "range"=some none
 isin:AV K Ab "isinstance"=some none
 abs:AV K Ab "abs"=some none
 tuple:AV K Ab "tuple"=some none
 list:AV K Ab "list"=some none
 bool:AV K Ab "bool"=some none
 int:AV K Ab "int"=some none
 enum:AV K Ab "enumerate"=some none
 zip:AV K Ab "zip"=some none
 sum:AV K Ab "sum"=some none
 dict:AV K Ab "dict"=some none
 any:AV K Ab "any"=some none
 sorted:AV K Ab "sorted"=some none
theorem FnT.fnB {P:Program} {w:World} {K:PySem.W.Frag} {mg:Str→Option Value} {base h:Heap} {x:Str} {st:Stmt} {f:Addr} {fd:FuncData} {k:Nat} {ps:List Str} {sp:Sp} (T:FnT K x st f fd) (X:K.In h) (G:h.Ns Ab mg) (ok:FnOk P w K mg base (CX1 P w) k f fd ps sp) (bi:Binds K fd ps []):Fn P w K mg base x k ps sp :=
 ⟨f,fd,ok,PySem.W.mg_of X G T.ns,T.fn.kp,bi⟩
theorem all {P:Program} {w:World} {K:PySem.W.Frag} {mg:Str→Option Value} {h:Heap} {fa:Addr} (X:K.In h) (G:h.Ns Ab mg) (hfa:mg "law"=some (.ref fa)) (N:NoneT K) (noT:K.lookup 67=none)
  (i1:∃ t,AV K Ab "TOP"=some (some (.int 1000 t))) (B:∃ a,BegD P w K a)
  (T_cells_of:∃ f fd,FnT K "cells_of" (top 1) f fd) (T_within:∃ f fd,FnT K "within" (top 2) f fd) (T_cells_under:∃ f fd,FnT K "cells_under" (top 3) f fd) (T_places_over:∃ f fd,FnT K "places_over" (top 4) f fd) (T_greatest:∃ f fd,FnT K "greatest" (top 5) f fd) (T_lowest_at:∃ f fd,FnT K "lowest_at" (top 6) f fd) (T_lowest_over:∃ f fd,FnT K "lowest_over" (top 7) f fd) (T_cut_down:∃ f fd,FnT K "cut_down" (top 8) f fd) (T_had:∃ f fd,FnT K "had" (top 9) f fd) (T_first_as_high:∃ f fd c,FnTL K "first_as_high" (top 10) f fd c 67) (T_why_left:∃ f fd,FnT K "why_left" (top 11) f fd) (T_do_moves:∃ f fd,FnT K "do_moves" (top 17) f fd) (T_carved:∃ f fd,FnT K "carved" (top 20) f fd) (T__law_take:∃ f fd,FnT K "_law_take" (top 22) f fd) (T__law_cell_at:∃ f fd,FnT K "_law_cell_at" (top 23) f fd) (T__law_cutter:∃ f fd,FnT K "_law_cutter" (top 24) f fd) (T__law_drop:∃ f fd,FnT K "_law_drop" (top 25) f fd) (T__law_rows:∃ f fd,FnT K "_law_rows" (top 26) f fd) (T__law_case:∃ f fd,FnT K "_law_case" (top 27) f fd) (T__law_over:∃ f fd,FnT K "_law_over" (top 28) f fd) (T__law_spoils:∃ f fd,FnT K "_law_spoils" (top 29) f fd) (T_law:∃ f fd,FnT K "law" (top 30) f fd)
  (T_Fault:∃ C f0 d0,C_Fault K C f0 d0) (T_Carver:∃ C f0 f1 f2 f3 f4 f5 f6 f7 d0 d1 d2 d3 d4 d5 d6 d7,C_Carver K C f0 f1 f2 f3 f4 f5 f6 f7 d0 d1 d2 d3 d4 d5 d6 d7) (T_Cells:∃ C f0 f1 f2 f3 f4 d0 d1 d2 d3 d4,C_Cells K C f0 f1 f2 f3 f4 d0 d1 d2 d3 d4) :
  TabsK K [67]∧∃ fd:FuncData,(∀ (s:Shared) (v:Value),BindsTo s fd ⟨[v],[]⟩ [("script",v)])∧∀ base:Heap,K.In base→base.Ns Ab mg→BmB mg base→FnOk P w K mg base (CX1 P w) 9 fa fd ["script"] (spLaw 67 K):=by
 obtain ⟨t1,i1⟩:=i1
 obtain ⟨ab,B⟩:=B
 obtain ⟨f_cells_of,d_cells_of,T_cells_of⟩:=T_cells_of
 obtain ⟨f_within,d_within,T_within⟩:=T_within
 obtain ⟨f_cells_under,d_cells_under,T_cells_under⟩:=T_cells_under
 obtain ⟨f_places_over,d_places_over,T_places_over⟩:=T_places_over
 obtain ⟨f_greatest,d_greatest,T_greatest⟩:=T_greatest
 obtain ⟨f_lowest_at,d_lowest_at,T_lowest_at⟩:=T_lowest_at
 obtain ⟨f_lowest_over,d_lowest_over,T_lowest_over⟩:=T_lowest_over
 obtain ⟨f_cut_down,d_cut_down,T_cut_down⟩:=T_cut_down
 obtain ⟨f_had,d_had,T_had⟩:=T_had
 obtain ⟨f_h,d_h,c_h,T_h⟩:=T_first_as_high
 obtain ⟨f_why_left,d_why_left,T_why_left⟩:=T_why_left
 obtain ⟨f_do_moves,d_do_moves,T_do_moves⟩:=T_do_moves
 obtain ⟨f_carved,d_carved,T_carved⟩:=T_carved
 obtain ⟨f__law_take,d__law_take,T__law_take⟩:=T__law_take
 obtain ⟨f__law_cell_at,d__law_cell_at,T__law_cell_at⟩:=T__law_cell_at
 obtain ⟨f__law_cutter,d__law_cutter,T__law_cutter⟩:=T__law_cutter
 obtain ⟨f__law_drop,d__law_drop,T__law_drop⟩:=T__law_drop
 obtain ⟨f__law_rows,d__law_rows,T__law_rows⟩:=T__law_rows
 obtain ⟨f__law_case,d__law_case,T__law_case⟩:=T__law_case
 obtain ⟨f__law_over,d__law_over,T__law_over⟩:=T__law_over
 obtain ⟨f__law_spoils,d__law_spoils,T__law_spoils⟩:=T__law_spoils
 obtain ⟨f_law,d_law,T_law⟩:=T_law
 obtain ⟨C,fI,dI,S⟩:=T_Fault
 obtain ⟨CV,v0,v1,v2,v3,v4,v5,v6,v7,e0,e1,e2,e3,e4,e5,e6,e7,VR⟩:=T_Carver
 obtain ⟨CC,c0,c1,c2,c3,c4,g0,g1,g2,g3,g4,CL⟩:=T_Cells
 have e:=hfa.symm.trans (PySem.W.mg_of X G T_law.ns)
 cases e
 refine ⟨fun T hT=>?_,d_law,?_,fun base _ _ bmb=>?_⟩
 ·rw [An.mp hT]
  exact ⟨noT,_,T_h.hd⟩
 ·obtain ⟨oc,od,kV,doc,pm,an,cdv,ct,osl,rfl,lk,hcd⟩:=T_law.fn.ex
  exact fun s v=>.of_eq rfl
 have L:LawT mg:=⟨A0 X G N.len,A0 X G N.max,A0 X G N.min,A0 X G N.range,A0 X G N.isin,A0 X G N.abs,A0 X G N.tuple,A0 X G N.list,A0 X G N.bool,A0 X G N.int⟩
 have NE:=A0 X G N.enum
 have NZ:=A0 X G N.zip
 have NS:=A0 X G N.sum
 have NO:=A0 X G N.sorted
 have VV:VT K mg CV CC:=⟨VR.cl,CL.cl,VR.n_stuff,VR.n_shelf,VR.n_cutter,VR.n_stands,CL.n_rows,A0 X G N.dict,A0 X G N.any,⟨t1,PySem.W.mg_of X G i1⟩⟩
 have SC:StopC K mg "Fault" C fI "fault":=⟨PySem.W.mg_of X G S.ns,S.obj,S.ty,look_end⟩
 have bI:=S.fn.binds (ps:=["self","fault"]) fun _ _ _ _ _ _=>byLen2 fun _ _=>rfl
 have FS:FaT P w K mg base C fI dI:=⟨SC,ok_fault (k:=0) SC S.fn,bI⟩
 have CCt:CatchC K mg "Fault" C:=⟨PySem.W.mg_of X G S.ns,S.cobj,S.exc⟩
 have MHas:Mt P w K mg base CC "has_cell" 1 ["self","x","y"] (spHas CC):=⟨c1,g1,ok_has L VV CL.fn_has_cell,CL.mt_has_cell,CL.cl,(CL.fn_has_cell.binds fun _ _ _ _ _ _=>byLen3 fun _ _ _=>rfl)⟩
 have MUnd:Mt P w K mg base CC "under" 2 ["self","foot","way"] (spUnd CC):=⟨c2,g2,ok_und L VV MHas CL.fn_under,CL.mt_under,CL.cl,(CL.fn_under.binds fun _ _ _ _ _ _=>byLen3 fun _ _ _=>rfl)⟩
 have MRis:Mt P w K mg base CC "rises_above" 1 ["self","under","height"] (spRises CC):=⟨c3,g3,ok_rises VV CL.fn_rises_above,CL.mt_rises_above,CL.cl,(CL.fn_rises_above.binds fun _ _ _ _ _ _=>byLen3 fun _ _ _=>rfl)⟩
 have MDown:Mt P w K mg base CC "cut_down" 1 ["self","under","height"] (spDown CC):=⟨c4,g4,ok_down VV CL.fn_cut_down,CL.mt_cut_down,CL.cl,(CL.fn_cut_down.binds fun _ _ _ _ _ _=>byLen3 fun _ _ _=>rfl)⟩
 have MCells:Mc P w K mg base "Cells" CC 1 ["self","bed"] (spCellsI CC):=⟨c0,g0,ok_cellsI L VV CL.fn___init__,CL.mks,PySem.W.mg_of X G CL.ns,(CL.fn___init__.binds fun _ _ _ _ _ _=>byLen2 fun _ _=>rfl)⟩
 have MRoom:Mt P w K mg base CV "has_room" 2 ["self","axis","to"] (spRoom CV CC):=⟨v4,e4,ok_room VV MHas VR.fn_has_room,VR.mt_has_room,VR.cl,(VR.fn_has_room.binds fun _ _ _ _ _ _=>byLen3 fun _ _ _=>rfl)⟩
 have MWay:Mt P w K mg base CV "way_to" 1 ["self","axis","to"] (spWayTo CV CC):=⟨v5,e5,ok_wayTo L VV VR.fn_way_to,VR.mt_way_to,VR.cl,(VR.fn_way_to.binds fun _ _ _ _ _ _=>byLen3 fun _ _ _=>rfl)⟩
 have MPass:Mt P w K mg base CV "pass_over" 3 ["self","way"] (spPass K C CV CC):=⟨v6,e6,ok_pass VV FS MUnd MRis VR.fn_pass_over,VR.mt_pass_over,VR.cl,(VR.fn_pass_over.binds fun _ _ _ _ _ _=>byLen2 fun _ _=>rfl)⟩
 have MAlong:Mt P w K mg base CV "cut_along" 3 ["self","way"] (spAlong K C CV CC):=⟨v7,e7,ok_along VV FS MUnd MRis MDown VR.fn_cut_along,VR.mt_cut_along,VR.cl,(VR.fn_cut_along.binds fun _ _ _ _ _ _=>byLen2 fun _ _=>rfl)⟩
 have MDoHold:Mt P w K mg base CV "do_hold" 3 ["self","number"] (spDoHold K C CV CC):=⟨v2,e2,ok_doHold L VV FS VR.fn_do_hold,VR.mt_do_hold,VR.cl,(VR.fn_do_hold.binds fun _ _ _ _ _ _=>byLen2 fun _ _=>rfl)⟩
 have MDoMove:Mt P w K mg base CV "do_move" 4 ["self","kind","axis","to"] (spDoMove K C CV CC):=⟨v3,e3,ok_doMove VV FS MRoom MWay MPass MAlong VR.fn_do_move,VR.mt_do_move,VR.cl,(VR.fn_do_move.binds fun _ _ _ _ _ _=>byLen4 fun _ _ _ _=>rfl)⟩
 have MDo:Mt P w K mg base CV "do" 5 ["self","move"] (spDo K C CV CC):=⟨v1,e1,ok_do MDoHold MDoMove VR.fn_do,VR.mt_do,VR.cl,(VR.fn_do.binds fun _ _ _ _ _ _=>byLen2 fun _ _=>rfl)⟩
 have MCar:Mc P w K mg base "Carver" CV 1 ["self","stuff","shelf"] (spCarI CV):=⟨v0,e0,ok_carI VV ⟨ab,PySem.W.mg_of X G B.ns,B.dk⟩ VR.fn___init__,VR.mks,PySem.W.mg_of X G VR.ns,(VR.fn___init__.binds fun _ _ _ _ _ _=>byLen3 fun _ _ _=>rfl)⟩
 have FDoMoves:=T_do_moves.fnB (P:=P) (w:=w) (base:=base) X G (ok_doMoves VV FS CCt S.own MCar MDo T_do_moves.fn) (T_do_moves.fn.binds fun _ _ _ _ _ _=>byLen3 fun _ _ _=>rfl)
 have FCarved:=T_carved.fnB (P:=P) (w:=w) (base:=base) X G (ok_carved VV MCells FDoMoves T_carved.fn) (T_carved.fn.binds fun _ _ _ _ _ _=>byLen3 fun _ _ _=>rfl)
 have F1:=T_within.fnB (P:=P) (w:=w) (base:=base) X G (ok_within L T_within.fn) (T_within.fn.binds fun _ _ _ _ _ _=>byLen2 fun _ _=>rfl)
 have F2:=T_cells_under.fnB (P:=P) (w:=w) (base:=base) X G (ok_under F1 T_cells_under.fn) (T_cells_under.fn.binds fun _ _ _ _ _ _=>byLen4 fun _ _ _ _=>rfl)
 have F3:=T_greatest.fnB (P:=P) (w:=w) (base:=base) X G (ok_great L T_greatest.fn) (T_greatest.fn.binds fun _ _ _ _ _ _=>byLen2 fun _ _=>rfl)
 have F4:=T_cells_of.fnB (P:=P) (w:=w) (base:=base) X G (ok_cells L NE T_cells_of.fn) (T_cells_of.fn.binds fun _ _ _ _ _ _=>byLen1 fun _=>rfl)
 have F5:=T_cut_down.fnB (P:=P) (w:=w) (base:=base) X G (ok_cut L T_cut_down.fn) (T_cut_down.fn.binds fun _ _ _ _ _ _=>byLen3 fun _ _ _=>rfl)
 have F6:=T_had.fnB (P:=P) (w:=w) (base:=base) X G (ok_had L F4 F2 F3 F5 T_had.fn) (T_had.fn.binds fun _ _ _ _ _ _=>byLen3 fun _ _ _=>rfl)
 have P1:=T_places_over.fnB (P:=P) (w:=w) (base:=base) X G (ok_places NO F1 T_places_over.fn) (T_places_over.fn.binds fun _ _ _ _ _ _=>byLen4 fun _ _ _ _=>rfl)
 have P2:=T_lowest_at.fnB (P:=P) (w:=w) (base:=base) X G (ok_lowest F2 F3 T_lowest_at.fn) (T_lowest_at.fn.binds fun _ _ _ _ _ _=>byLen4 fun _ _ _ _=>rfl)
 have P3:=T_lowest_over.fnB (P:=P) (w:=w) (base:=base) X G (ok_over L P1 P2 T_lowest_over.fn) (T_lowest_over.fn.binds fun _ _ _ _ _ _=>byLen5 fun _ _ _ _ _=>rfl)
 have P4:Fn P w K mg base "first_as_high" 3 ["wished","cells","height"] (spHigh 67):=⟨f_h,d_h,ok_high L ⟨T_h.hd,bmb⟩ T_h.fn,PySem.W.mg_of X G T_h.ns,T_h.fn.kp,(T_h.fn.toFun.binds fun _ _ _ _ _ _=>byLen3 fun _ _ _=>rfl)⟩
 have P5:=T_why_left.fnB (P:=P) (w:=w) (base:=base) X G (ok_why L NE P3 P1 F2 P4 T_why_left.fn) (T_why_left.fn.binds fun _ _ _ _ _ _=>byLen5 fun _ _ _ _ _=>rfl)
 have F7:=T__law_take.fnB (P:=P) (w:=w) (base:=base) X G (ok_tk T__law_take.fn) (T__law_take.fn.binds fun _ _ _ _ _ _=>byLen2 fun _ _=>rfl)
 have F8:=T__law_cell_at.fnB (P:=P) (w:=w) (base:=base) X G (ok_at L T__law_cell_at.fn) (T__law_cell_at.fn.binds fun _ _ _ _ _ _=>byLen2 fun _ _=>rfl)
 have F9:=T__law_cutter.fnB (P:=P) (w:=w) (base:=base) X G (ok_cutter L F7 T__law_cutter.fn) (T__law_cutter.fn.binds fun _ _ _ _ _ _=>byLen2 fun _ _=>rfl)
 have FA:=T__law_drop.fnB (P:=P) (w:=w) (base:=base) X G (ok_drop F7 T__law_drop.fn) (T__law_drop.fn.binds fun _ _ _ _ _ _=>byLen2 fun _ _=>rfl)
 have FB:=T__law_rows.fnB (P:=P) (w:=w) (base:=base) X G (ok_rows L F7 F8 FA T__law_rows.fn) (T__law_rows.fn.binds fun _ _ _ _ _ _=>byLen4 fun _ _ _ _=>rfl)
 have FC:=T__law_case.fnB (P:=P) (w:=w) (base:=base) X G (ok_case L NS F7 F8 FB F9 T__law_case.fn) (T__law_case.fn.binds fun _ _ _ _ _ _=>byLen1 fun _=>rfl)
 have FO:=T__law_over.fnB (P:=P) (w:=w) (base:=base) X G (ok_ovr L NO T__law_over.fn) (T__law_over.fn.binds fun _ _ _ _ _ _=>byLen4 fun _ _ _ _=>rfl)
 have FP:=T__law_spoils.fnB (P:=P) (w:=w) (base:=base) X G (ok_spoils L FCarved T__law_spoils.fn) (T__law_spoils.fn.binds fun _ _ _ _ _ _=>byLen7 fun _ _ _ _ _ _ _=>rfl)
 exact ok_law L FC FO FP F6 P5 T_law.fn
theorem walk {l:PySem.W.OpenLaw} {q:Program} {loose:List Str} {XP:(Str→Option Value)→Heap→Prop} {YP:World→Heap→Prop} {d:DefRec} {K:Params→PySem.W.Frag} (hn:l.most=some 63) (hdf:d.params.defaults=[])
  (hY:∀ (w:World) (h:Heap),YP w h→(K w.params).In h∧∀ T∈[67],h.get? T=some (PySem.W.tabObj #[]))
  (F:∀ (w:World) (mg:Str→Option Value) (fa:Addr) (h:Heap),(K w.params).In h→h.Ns Ab mg→mg d.name=some (.ref fa) →
   TabsK (K w.params) [67]∧∃ fd:FuncData,(∀ (s:Shared) (u:Value),BindsTo s fd ⟨[u],[]⟩ [("script",u)])∧∀ base:Heap,(K w.params).In base→base.Ns Ab mg→BmB mg base→FnOk l.prog w (K w.params) mg base (CX1 l.prog w) 9 fa fd ["script"] (spLaw 67 (K w.params))) :
  PySem.W.WalkO q loose XP YP l.row.toRowW d [] (fun f vs=>PySem.call f vs) :=
 L2.walk_ofT (n:=63) (k:=9) (x:="script") (CX:=fun w=>CX1 l.prog w) (sp:=fun w=>spLaw 67 (K w.params)) (tabs:=[67]) hn (by decide) hdf ⟨rfl,by decide,by decide⟩ hY F (fun _ _ a ns hl hT hS=>⟨a,ns,rfl,hS,hl,hT 67 (An.mpr rfl),fun _=>rfl⟩) fun _ _ _ _ _ z=>by
  obtain ⟨_,_,_,_,_,_,_,_,_,_,_,_,_,_,_,ff⟩:=z
  exact ff
end Car
open PySem PySem.W PyProof.Rows
set_option maxRecDepth 100000 in
set_option maxHeartbeats 0 in
theorem PySem.Challenge.cw_carvebed_k42_whole_what_would_be_spoilt_holds : PySem.Challenge.rw_carvebed_k42_whole_what_would_be_spoilt.Holds := by
 w_on; o_law
 refine @PySem.W.holds_open _ Car.hQ Car.hLoose (fun s=>PySem.W.xlAt Car.hQ [] s && PySem.W.recOk [] s) (PySem.W.XL Car.hQ []) _
  (PySem.W.Hook.obs Car.hH) (PySem.W.Hook.val Car.hH) (PySem.W.Hook.says Car.hH) _ _ 3724
  Car.hLeft (PySem.W.Hook.of Car.hH) (PySem.W.Hook.keeps Car.hH)
  (fun s e=>PySem.W.xl_of s (Bool.and_eq_true_iff.mp e).1) PySem.W.XL.keeps (by rfl) (by rfl) (by rfl)
  (fun s e=>PySem.W.recFacts_of (Bool.and_eq_true_iff.mp e).2) (by rfl) (by assumption)
  (by decide +kernel) ⟨rfl,rfl,rfl,rfl,rfl,by decide +kernel⟩ ?hw ?hc
 (case hw=>w_witness2)
 refine Car.walk (l:=PySem.Challenge.rw_carvebed_k42_whole_what_would_be_spoilt) rfl rfl (K:=Car.KK) (fun w h Y=>⟨PySem.W.km_in_of (K:=Car.KK) (as:=Car.KKas) (e:=fun _=>rfl) (ts:=Car.hTabs) Y,PySem.W.km_tabs_of (K:=Car.KK) (as:=Car.KKas) (e:=fun _=>rfl) (ts:=Car.hTabs) Y⟩) ?F
 case F =>
  k_fill
  intro w mg fa h KX G hmg
  have T_cells_of:∃ f fd,Car.FnT (L2.KOf KX) "cells_of" (Car.top 1) f fd:=by
   dsimp only [L2.KOf]
   refine' Car.fnT_mk ?a ?l ?c ?k
   (case a=>k_is); (case l=>k_is); (case c=>k_is); (case k=>k_is)
  have T_within:∃ f fd,Car.FnT (L2.KOf KX) "within" (Car.top 2) f fd:=by
   dsimp only [L2.KOf]
   refine' Car.fnT_mk ?a ?l ?c ?k
   (case a=>k_is); (case l=>k_is); (case c=>k_is); (case k=>k_is)
  have T_cells_under:∃ f fd,Car.FnT (L2.KOf KX) "cells_under" (Car.top 3) f fd:=by
   dsimp only [L2.KOf]
   refine' Car.fnT_mk ?a ?l ?c ?k
   (case a=>k_is); (case l=>k_is); (case c=>k_is); (case k=>k_is)
  have T_places_over:∃ f fd,Car.FnT (L2.KOf KX) "places_over" (Car.top 4) f fd:=by
   dsimp only [L2.KOf]
   refine' Car.fnT_mk ?a ?l ?c ?k
   (case a=>k_is); (case l=>k_is); (case c=>k_is); (case k=>k_is)
  have T_greatest:∃ f fd,Car.FnT (L2.KOf KX) "greatest" (Car.top 5) f fd:=by
   dsimp only [L2.KOf]
   refine' Car.fnT_mk ?a ?l ?c ?k
   (case a=>k_is); (case l=>k_is); (case c=>k_is); (case k=>k_is)
  have T_lowest_at:∃ f fd,Car.FnT (L2.KOf KX) "lowest_at" (Car.top 6) f fd:=by
   dsimp only [L2.KOf]
   refine' Car.fnT_mk ?a ?l ?c ?k
   (case a=>k_is); (case l=>k_is); (case c=>k_is); (case k=>k_is)
  have T_lowest_over:∃ f fd,Car.FnT (L2.KOf KX) "lowest_over" (Car.top 7) f fd:=by
   dsimp only [L2.KOf]
   refine' Car.fnT_mk ?a ?l ?c ?k
   (case a=>k_is); (case l=>k_is); (case c=>k_is); (case k=>k_is)
  have T_cut_down:∃ f fd,Car.FnT (L2.KOf KX) "cut_down" (Car.top 8) f fd:=by
   dsimp only [L2.KOf]
   refine' Car.fnT_mk ?a ?l ?c ?k
   (case a=>k_is); (case l=>k_is); (case c=>k_is); (case k=>k_is)
  have T_had:∃ f fd,Car.FnT (L2.KOf KX) "had" (Car.top 9) f fd:=by
   dsimp only [L2.KOf]
   refine' Car.fnT_mk ?a ?l ?c ?k
   (case a=>k_is); (case l=>k_is); (case c=>k_is); (case k=>k_is)
  have T_first_as_high:∃ f fd c,Car.FnTL (L2.KOf KX) "first_as_high" (Car.top 10) f fd c 67:=by
   dsimp only [L2.KOf]
   refine' Car.fnTL_mk 67 ?a ?l ?c ?k ?d
   (case a=>k_is); (case l=>k_is); (case c=>k_is); (case k=>k_is); (case d=>kernel_rfl)
  have noT:(L2.KOf KX).lookup 67=none:=by
   dsimp only [L2.KOf]
   kernel_rfl
  have T_why_left:∃ f fd,Car.FnT (L2.KOf KX) "why_left" (Car.top 11) f fd:=by
   dsimp only [L2.KOf]
   refine' Car.fnT_mk ?a ?l ?c ?k
   (case a=>k_is); (case l=>k_is); (case c=>k_is); (case k=>k_is)
  have T_Carver:∃ C f0 f1 f2 f3 f4 f5 f6 f7 d0 d1 d2 d3 d4 d5 d6 d7,Car.C_Carver (L2.KOf KX) C f0 f1 f2 f3 f4 f5 f6 f7 d0 d1 d2 d3 d4 d5 d6 d7:=by
   dsimp only [L2.KOf]
   refine' Car.C_Carver_mk ?aC ?a0 ?i0 ?l0 ?c0 ?k0 ?a1 ?i1 ?l1 ?c1 ?k1 ?a2 ?i2 ?l2 ?c2 ?k2 ?a3 ?i3 ?l3 ?c3 ?k3 ?a4 ?i4 ?l4 ?c4 ?k4 ?a5 ?i5 ?l5 ?c5 ?k5 ?a6 ?i6 ?l6 ?c6 ?k6 ?a7 ?i7 ?l7 ?c7 ?k7 ?pg ?hd ?po ?sa ?mk ?kc ?n0 ?n1 ?n2 ?n3
   (case aC=>k_is); (case a0=>k_is); (case i0=>k_is); (case l0=>k_is); (case c0=>k_is); (case k0=>k_is); (case a1=>k_is); (case i1=>k_is); (case l1=>k_is); (case c1=>k_is); (case k1=>k_is); (case a2=>k_is); (case i2=>k_is); (case l2=>k_is); (case c2=>k_is); (case k2=>k_is); (case a3=>k_is); (case i3=>k_is); (case l3=>k_is); (case c3=>k_is); (case k3=>k_is); (case a4=>k_is); (case i4=>k_is); (case l4=>k_is); (case c4=>k_is); (case k4=>k_is); (case a5=>k_is); (case i5=>k_is); (case l5=>k_is); (case c5=>k_is); (case k5=>k_is); (case a6=>k_is); (case i6=>k_is); (case l6=>k_is); (case c6=>k_is); (case k6=>k_is); (case a7=>k_is); (case i7=>k_is); (case l7=>k_is); (case c7=>k_is); (case k7=>k_is); (case pg=>k_is); (case hd=>k_is); (case po=>k_is); (case sa=>k_is); (case mk=>k_is); (case kc=>k_is); (case n0=>k_is); (case n1=>k_is); (case n2=>k_is); (case n3=>k_is)
  have T_do_moves:∃ f fd,Car.FnT (L2.KOf KX) "do_moves" (Car.top 17) f fd:=by
   dsimp only [L2.KOf]
   refine' Car.fnT_mk ?a ?l ?c ?k
   (case a=>k_is); (case l=>k_is); (case c=>k_is); (case k=>k_is)
  have T_Cells:∃ C f0 f1 f2 f3 f4 d0 d1 d2 d3 d4,Car.C_Cells (L2.KOf KX) C f0 f1 f2 f3 f4 d0 d1 d2 d3 d4:=by
   dsimp only [L2.KOf]
   refine' Car.C_Cells_mk ?aC ?a0 ?i0 ?l0 ?c0 ?k0 ?a1 ?i1 ?l1 ?c1 ?k1 ?a2 ?i2 ?l2 ?c2 ?k2 ?a3 ?i3 ?l3 ?c3 ?k3 ?a4 ?i4 ?l4 ?c4 ?k4 ?pg ?hd ?po ?sa ?mk ?kc ?n0
   (case aC=>k_is); (case a0=>k_is); (case i0=>k_is); (case l0=>k_is); (case c0=>k_is); (case k0=>k_is); (case a1=>k_is); (case i1=>k_is); (case l1=>k_is); (case c1=>k_is); (case k1=>k_is); (case a2=>k_is); (case i2=>k_is); (case l2=>k_is); (case c2=>k_is); (case k2=>k_is); (case a3=>k_is); (case i3=>k_is); (case l3=>k_is); (case c3=>k_is); (case k3=>k_is); (case a4=>k_is); (case i4=>k_is); (case l4=>k_is); (case c4=>k_is); (case k4=>k_is); (case pg=>k_is); (case hd=>k_is); (case po=>k_is); (case sa=>k_is); (case mk=>k_is); (case kc=>k_is); (case n0=>k_is)
  have T_carved:∃ f fd,Car.FnT (L2.KOf KX) "carved" (Car.top 20) f fd:=by
   dsimp only [L2.KOf]
   refine' Car.fnT_mk ?a ?l ?c ?k
   (case a=>k_is); (case l=>k_is); (case c=>k_is); (case k=>k_is)
  have T__law_take:∃ f fd,Car.FnT (L2.KOf KX) "_law_take" (Car.top 22) f fd:=by
   dsimp only [L2.KOf]
   refine' Car.fnT_mk ?a ?l ?c ?k
   (case a=>k_is); (case l=>k_is); (case c=>k_is); (case k=>k_is)
  have T__law_cell_at:∃ f fd,Car.FnT (L2.KOf KX) "_law_cell_at" (Car.top 23) f fd:=by
   dsimp only [L2.KOf]
   refine' Car.fnT_mk ?a ?l ?c ?k
   (case a=>k_is); (case l=>k_is); (case c=>k_is); (case k=>k_is)
  have T__law_cutter:∃ f fd,Car.FnT (L2.KOf KX) "_law_cutter" (Car.top 24) f fd:=by
   dsimp only [L2.KOf]
   refine' Car.fnT_mk ?a ?l ?c ?k
   (case a=>k_is); (case l=>k_is); (case c=>k_is); (case k=>k_is)
  have T__law_drop:∃ f fd,Car.FnT (L2.KOf KX) "_law_drop" (Car.top 25) f fd:=by
   dsimp only [L2.KOf]
   refine' Car.fnT_mk ?a ?l ?c ?k
   (case a=>k_is); (case l=>k_is); (case c=>k_is); (case k=>k_is)
  have T__law_rows:∃ f fd,Car.FnT (L2.KOf KX) "_law_rows" (Car.top 26) f fd:=by
   dsimp only [L2.KOf]
   refine' Car.fnT_mk ?a ?l ?c ?k
   (case a=>k_is); (case l=>k_is); (case c=>k_is); (case k=>k_is)
  have T__law_case:∃ f fd,Car.FnT (L2.KOf KX) "_law_case" (Car.top 27) f fd:=by
   dsimp only [L2.KOf]
   refine' Car.fnT_mk ?a ?l ?c ?k
   (case a=>k_is); (case l=>k_is); (case c=>k_is); (case k=>k_is)
  have T__law_over:∃ f fd,Car.FnT (L2.KOf KX) "_law_over" (Car.top 28) f fd:=by
   dsimp only [L2.KOf]
   refine' Car.fnT_mk ?a ?l ?c ?k
   (case a=>k_is); (case l=>k_is); (case c=>k_is); (case k=>k_is)
  have T__law_spoils:∃ f fd,Car.FnT (L2.KOf KX) "_law_spoils" (Car.top 29) f fd:=by
   dsimp only [L2.KOf]
   refine' Car.fnT_mk ?a ?l ?c ?k
   (case a=>k_is); (case l=>k_is); (case c=>k_is); (case k=>k_is)
  have T_law:∃ f fd,Car.FnT (L2.KOf KX) "law" (Car.top 30) f fd:=by
   dsimp only [L2.KOf]
   refine' Car.fnT_mk ?a ?l ?c ?k
   (case a=>k_is); (case l=>k_is); (case c=>k_is); (case k=>k_is)
  have N:Car.NoneT (L2.KOf KX):=by
   dsimp only [L2.KOf]
   refine' ⟨?n0,?n1,?n2,?n3,?n4,?n5,?n6,?n7,?n8,?n9,?n10,?n11,?n12,?n13,?n14,?n15⟩
   (case n0=>k_is); (case n1=>k_is); (case n2=>k_is); (case n3=>k_is); (case n4=>k_is); (case n5=>k_is); (case n6=>k_is); (case n7=>k_is); (case n8=>k_is); (case n9=>k_is); (case n10=>k_is); (case n11=>k_is); (case n12=>k_is); (case n13=>k_is); (case n14=>k_is); (case n15=>k_is)
  have i1:∃ t,AV (L2.KOf KX) Ab "TOP"=some (some (.int 1000 t)):=by
   dsimp only [L2.KOf]
   refine' Car.int_mk ?a
   (case a=>k_is)
  have B:∃ a,Car.BegD PySem.Challenge.rw_carvebed_k42_whole_what_would_be_spoilt.prog w (L2.KOf KX) a:=by
   dsimp only [L2.KOf]
   refine' Car.beg_mk ?n ?l ?e1 ?e2 ?e3 ?hs
   (case n=>k_is); (case l=>k_is); (case e1=>rfl); (case e2=>rfl); (case e3=>rfl); (case hs=>decide)
  have T_Fault:∃ C f0 d0,Car.C_Fault (L2.KOf KX) C f0 d0:=by
   dsimp only [L2.KOf]
   refine' Car.C_Fault_mk ?aC ?o1 ?o2 ?o3 ?a0 ?n1 ?n2 ?n3 ?n4 ?l0 ?c0 ?k ?ty ?co ?ex ?ow
   (case aC=>k_is); (case o1=>k_is); (case o2=>k_is); (case o3=>rfl); (case a0=>k_is); (case n1=>k_is); (case n2=>k_is); (case n3=>k_is); (case n4=>k_is); (case l0=>k_is); (case c0=>k_is); (case k=>k_is); (case ty=>k_is); (case co=>k_is); (case ex=>k_is); (case ow=>k_is)
  exact Car.all KX G hmg N noT i1 B T_cells_of T_within T_cells_under T_places_over T_greatest T_lowest_at T_lowest_over T_cut_down T_had T_first_as_high T_why_left T_do_moves T_carved T__law_take T__law_cell_at T__law_cutter T__law_drop T__law_rows T__law_case T__law_over T__law_spoils T_law T_Fault T_Carver T_Cells
