import PyProof.Rows.All
import Wide.All
import OpenK.AllK
import Wide.FinOn
import Lean
import PyProof.EqAt
import PyProof.EqKinds
import PyProof.TupleCall
import PySem.Challenge.RW_carvebed_k34_whole_moves_on_spans
set_option Elab.async false
set_option linter.all false
set_option maxRecDepth 100000
set_option maxHeartbeats 4000000
open List renaming length_map → AA, getElem?_eq_getElem → AB, getElem?_eq_some_iff → AE, getElem?_map → AF, map_append → AG, length_append → AI, mem_singleton → AJ, length_cons → AO, mem_cons_of_mem → AR, take_of_length_le → AT, size_toArray → AV, mem_cons → AW, mem_append → AY, mem_cons_self → Ab, mem_append_right → Ad, getElem_mem → Ak, take_zero → Am, take_add_one → An, getD_eq_getElem?_getD → Ar, map_cons → Az, length_take → A0, replicate → A3, mem_of_getElem? → A5, mem_map → A6, getElem?_of_mem → A8, getElem?_eq_none → A9, append_nil → BB
open PySem renaming wpAny_bind → AC, sizeLine → AL, wpAny_pure → AM, mainGlobals → AZ, starEach → Af, boot_len → Ao, wpAny_loadPart_at → BC
open Nat renaming le_refl → AD, ne_of_lt → AU, lt_of_lt_of_le → Aa, le_trans → Ag, zero_le → Ai
open PySem.Heap renaming get?_push_of_some → AH, lt_size → AK, get?_push_size → Al
open PySem.PyData renaming canLay0 → AN, canLayAll0 → Ae, depthAll → Ay, depth → BA
open PySem.W renaming nsIn → AQ, findIn → AX, keepIn → Ah, codeIn → As, fnOf → Av, mg_none_of → Aw, isFn → A4
open True renaming intro → AS
open PySem.Value renaming ref → Ac, none → A7
open Int renaming toNat_natCast → Aj
open Bool renaming false_ne_true → Ap
open PySem.F renaming plainAttrs_list → Aq, slot_list_append → At, type_list_append → Au
open Option.some renaming inj → Ax
namespace L2
open PySem PySem.Spec PyProof.Rows
abbrev Key:=Sum Int Str
def keyIs:Key→Value→Bool
 | .inl k,v=>Value.isInt k v
 | .inr x,v=>Value.isStrOf x v
def keyH (w:World):Key→Int
 | .inl k=>hashInt k
 | .inr x=>hashStr w x
theorem keyIs_shape:∀ {k:Key} {v:Value},keyIs k v=true→(∃ i t,k=Sum.inl i∧v=Value.int i t)∨(∃ x t,k=Sum.inr x∧v=Value.str x t)
 | .inl i,v,h=>by
  obtain ⟨t,e⟩:=Value.isInt_shape (k:=i) (v:=v) h
  exact .inl ⟨i,t,rfl,e⟩
 | .inr x,v,h=>by
  obtain ⟨t,e⟩:=Value.isStrOf_shape (x:=x) (v:=v) h
  exact .inr ⟨x,t,rfl,e⟩
theorem keyIs_int (i:Int) (t:Tok):keyIs (.inl i) (.int i t)=true:=by simp [keyIs,Value.isInt]
theorem keyIs_str (x:Str) (t:Tok):keyIs (.inr x) (.str x t)=true:=by simp [keyIs,Value.isStrOf]
theorem key_ll (a b:Int):decide ((Sum.inl a:Key)=Sum.inl b)=(a == b):=by
 by_cases e:a=b
 ·subst e; simp
 ·have h:¬ (Sum.inl a:Key)=Sum.inl b:=fun q=>e (Sum.inl.inj q)
  rw [decide_eq_false h]
  exact (beq_eq_false_iff_ne.mpr e).symm
theorem key_rr (a b:Str):decide ((Sum.inr a:Key)=Sum.inr b)=decide (a=b):=by
 by_cases e:a=b
 ·subst e; simp
 ·have h:¬ (Sum.inr a:Key)=Sum.inr b:=fun q=>e (Sum.inr.inj q)
  rw [decide_eq_false h,decide_eq_false e]
theorem key_lr (a:Int) (b:Str):decide ((Sum.inl a:Key)=Sum.inr b)=false:=decide_eq_false (fun q=>nomatch q)
theorem key_rl (a:Str) (b:Int):decide ((Sum.inr a:Key)=Sum.inl b)=false:=decide_eq_false (fun q=>nomatch q)
def mixKind (prog:Program) (w:World):PySem.KeyKind prog w Key where
 is:=keyIs
 hash:=keyH w
 inj:=fun v a b ha hb=>by
  rcases keyIs_shape ha with ⟨i,t,rfl,rfl⟩ | ⟨x,t,rfl,rfl⟩
  ·rcases keyIs_shape hb with ⟨j,u,rfl,e⟩ | ⟨y,u,rfl,e⟩
   ·injection e with e1 _; rw [e1]
   ·exact nomatch e
  ·rcases keyIs_shape hb with ⟨j,u,rfl,e⟩ | ⟨y,u,rfl,e⟩
   ·exact nomatch e
   ·injection e with e1 _; rw [e1]
 byValue:=fun k v h=>by
  rcases keyIs_shape h with ⟨i,t,rfl,rfl⟩ | ⟨x,t,rfl,rfl⟩ <;> rfl
 pyHash:=fun hv h=>by
  rcases keyIs_shape hv with ⟨i,t,rfl,rfl⟩ | ⟨x,t,rfl,rfl⟩
  ·exact wpAny_pyHash_int h
  ·exact wpAny_pyHash_str h
 eqBool:=fun hu hv h=>by
  rcases keyIs_shape hu with ⟨i,t,rfl,rfl⟩ | ⟨x,t,rfl,rfl⟩
  ·rcases keyIs_shape hv with ⟨j,u,rfl,rfl⟩ | ⟨y,u,rfl,rfl⟩
   ·rw [key_ll] at h; exact wpAny_eqBool_int h
   ·rw [key_lr] at h; exact SeqAt.EqAt.int_str i t y u _ _ _ _ h
  ·rcases keyIs_shape hv with ⟨j,u,rfl,rfl⟩ | ⟨y,u,rfl,rfl⟩
   ·rw [key_rl] at h; exact SeqAt.EqAt.str_int x t j u _ _ _ _ h
   ·rw [key_rr] at h; exact wpAny_eqBool_str h
 «strs»:=fun k x t v h=>by
  rcases keyIs_shape h with ⟨i,u,rfl,e⟩ | ⟨y,u,rfl,e⟩
  ·exact nomatch e
  ·injection e with e1 _
   subst e1
   cases v <;> rfl
theorem mixKind_int (prog:Program) (w:World) (i:Int) (t:Tok):(mixKind prog w).is (.inl i) (.int i t)=true:=keyIs_int i t
theorem mixKind_str (prog:Program) (w:World) (x:Str) (t:Tok):(mixKind prog w).is (.inr x) (.str x t)=true:=keyIs_str x t
inductive V where
 | non | bl (b:Bool) | int (i:Int) | str (x:Str) | byt (b:Array UInt8) | flt (b:UInt64) | ref (a:Addr) | ty (n:String)
 deriving DecidableEq
def RelV:V→Value→Prop
 | .non,u=>u=A7
 | .bl b,u=>u=Value.bool b
 | .int i,u=>∃ t,u=Value.int i t
 | .str x,u=>∃ t,u=Value.str x t
 | .byt b,u=>∃ t,u=Value.bytes b t
 | .flt b,u=>∃ t,u=Value.float b t
 | .ref a,u=>u=Ac a
 | .ty n,u=>u=Value.type n
abbrev Vals:List V→List Value→Prop:=Paired RelV
theorem Vals.length {xs:List V} {us:List Value} (r:Vals xs us):xs.length=us.length:=Paired.length r
theorem Vals.get:∀ {xs:List V} {us:List Value} {i:Nat} {x:V},Vals xs us→xs[i]?=some x→∃ u,us[i]?=some u∧RelV x u
 | _,_,_,_,.nil,e=>by simp at e
 | _,_,0,_,.cons r _,e=>by simp at e; subst e; exact ⟨_,rfl,r⟩
 | _,_,i + 1,x,.cons _ t,e=>by
  obtain ⟨u,h1,h2⟩:=Vals.get (i:=i) (x:=x) t (by simpa using e)
  exact ⟨u,by simpa using h1,h2⟩
theorem Vals.set {x:V} {u:Value} (r:RelV x u):∀ {xs:List V} {us:List Value} (i:Nat),Vals xs us→Vals (xs.set i x) (us.set i u)
 | _,_,_,.nil=>.nil
 | _,_,0,.cons _ t=>.cons r t
 | _,_,i + 1,.cons q t=>.cons q (Vals.set r i t)
theorem Vals.append:∀ {xs ys:List V} {us ws:List Value},Vals xs us→Vals ys ws→Vals (xs++ys) (us++ws)
 | _,_,_,_,.nil,s=>s
 | _,_,_,_,.cons r t,s=>.cons r (Vals.append t s)
theorem Vals.take:∀ {xs:List V} {us:List Value} (n:Nat),Vals xs us→Vals (xs.take n) (us.take n)
 | _,_,0,_=>.nil
 | _,_,_ + 1,.nil=>.nil
 | _,_,n + 1,.cons r t=>.cons r (Vals.take n t)
theorem Vals.drop:∀ {xs:List V} {us:List Value} (n:Nat),Vals xs us→Vals (xs.drop n) (us.drop n)
 | _,_,0,r=>r
 | _,_,_ + 1,.nil=>.nil
 | _,_,n + 1,.cons _ t=>Vals.drop n t
def RelO:Option V→Option Value→Prop
 | some v,some u=>RelV v u
 | none,none=>True
 | _,_=>False
def KV {κ:Type}:List (κ×V)→List (κ×Value)→Prop:=Paired fun (p:κ×V) (q:κ×Value)=>p.1=q.1∧RelV p.2 q.2
def kV:Key→V
 | .inl i=>.int i
 | .inr x=>.str x
inductive HO where
  | lst (xs:List V)
  | tup (xs:List V)
  | dK (kvs:List (Key×V)) | dT (kvs:List (List Key×V))
  | set (S:Int→Bool) (n:Nat)
  | ins (C dx:Addr) (fs:List (Str×V))
  | own (x:Addr)
  | xd (fs:List (Str×V))
  | met (f x:Addr)
  | rng (lo hi:Int)
  | frz (o:Obj) (u:HO)
  | tbl (ps:Array Value)
  | ext (φ:Heap→Prop)
abbrev Hp:=Addr→Option HO
def upd (H:Hp) (a:Addr) (o:HO):Hp:=fun b=>if b=a then some o else H b
theorem upd_same {H:Hp} {a:Addr} {o:HO}:upd H a o a=some o:=by unfold upd; rw [if_pos rfl]
theorem upd_ne {H:Hp} {a b:Addr} {o:HO} (h:b≠a):upd H a o b=H b:=by unfold upd; rw [if_neg h]
theorem upd_upd {H:Hp} {a:Addr} {o u:HO}:upd (upd H a o) a u=upd H a u:=by
 funext b; unfold upd; split <;> rfl
theorem ne_of {H:Hp} {a b:Addr} {o u:HO} (h:H a=some o) (h':H b=some u) (d:o≠u):a≠b:=by
 intro e; subst e; rw [h] at h'; exact d (Ax h')
theorem ne_of_none {H:Hp} {a b:Addr} {o:HO} (h:H a=some o) (h':H b=none):a≠b:=by
 intro e; subst e; rw [h] at h'; cases h'
section
variable (P:Program) (w:World)
def ObjOk (H:Hp) (h:Heap) (a:Addr):HO→Prop
 | .lst xs=>xs.length≤AL∧∃ (its:List Value) (n:Nat),Vals xs its∧h.get? a=some { cls:=.type "list",data:=.seq its.toArray n }
 | .tup xs=>xs.length≤AL∧∃ its:List Value,Vals xs its∧IsTup h a its.toArray
 | .dK kvs=>kvs.length≤AL∧(a == sysModules)=false∧∃ vs,KV kvs vs∧h.DictOf (mixKind P w) a vs
 | .dT kvs=>kvs.length≤AL∧(a == sysModules)=false∧∃ xs:List (List Key×Addr×Value),
   Paired (fun (p:List Key×V) (q:List Key×Addr×Value)=>p.1=q.1∧H q.2.1=some (.tup (p.1.map kV))∧RelV p.2 q.2.2) kvs xs ∧
   ∃ o es ep,h.get? a=some o∧o.ExactDict∧o.data=.dict es ep∧es.toList=xs.map (entryOfKey (tupleKind (mixKind P w)))∧(xs.map (·.1)).Nodup
 | .set S n=>h.SetOf (intKind P w) a S n
 | .ins C dx fs=>H dx=some (.own a)∧fs.length≤1000∧dx≠a∧h.get? a=some (PySem.W.instObj C dx) ∧
   ∃ mA,h.Ns1 dx mA∧(∀ f,RelO (fs.lookup f) (mA f))∧PySem.Within mA (fs.map (·.1))
 | .own _=>∃ o,h.get? a=some o
 | .xd fs=>∃ mA,h.Ns1 a mA∧∀ f,RelO (fs.lookup f) (mA f)
 | .rng lo hi=>∃ t u v,h.get? a=some { cls:=.type "range",data:=.fields #[.int lo t,.int hi u,.int 1 v] }
 | .frz o u=>h.get? a=some o∧ObjOk H h a u
 | .tbl ps=>h.get? a=some { cls:=.none,data:=.fields ps }
 | .met f x=>h.get? a=some (PySem.W.methodObj (.ref f) (.ref x))
 | .ext φ=>φ h∧(∃ o,h.get? a=some o)∧∀ h1 h2:Heap,φ h1→(∀ o,h1.get? a=some o→h2.get? a=some o)→φ h2
def HOk (H:Hp) (h:Heap):Prop:=∀ a o,H a=some o→ObjOk P w H h a o
end
section
variable {P:Program} {w:World} {H H':Hp} {h h':Heap} {a:Addr} {o:HO}
theorem ObjOk.lt (x:ObjOk P w H h a o):a < h.objs.size:=by
 cases o with
 | lst xs=>obtain ⟨_,_,_,_,e⟩:=x; exact AK e
 | tup xs=>obtain ⟨_,_,_,p⟩:=x; exact p.lt
 | dK kvs=>obtain ⟨_,_,_,_,o,_,_,e,_⟩:=x; exact AK e
 | dT kvs=>obtain ⟨_,_,_,_,o,_,_,e,_⟩:=x; exact AK e
 | set S n=>obtain ⟨o,_,_,_,e,_⟩:=x; exact AK e
 | ins C dx fs=>obtain ⟨_,_,_,e,_⟩:=x; exact AK e
 | own y=>obtain ⟨_,e⟩:=x; exact AK e
 | xd fs=>obtain ⟨_,⟨_,_,_,e,_⟩,_⟩:=x; exact AK e
 | rng lo hi=>obtain ⟨_,_,_,e⟩:=x; exact AK e
 | frz ob u=>obtain ⟨e,_⟩:=x; exact AK e
 | tbl ps=>exact AK (show h.get? a=some _ from x)
 | met f y=>exact AK (show h.get? a=some _ from x)
 | ext φ=>obtain ⟨_,⟨_,e⟩,_⟩:=x; exact AK e
theorem Paired.mapP {α β:Type} {F G:α→β→Prop}:∀ {l₁:List α} {l₂:List β},Paired F l₁ l₂→(∀ a b,F a b→G a b)→Paired G l₁ l₂
 | _,_,.nil,_=>.nil
 | _,_,.cons r t,f=>.cons (f _ _ r) (Paired.mapP t f)
theorem ObjOk.stay (x:ObjOk P w H h a o) (k:∀ b u,(b=a∨H b=some (.own a))→h.get? b=some u→h'.get? b=some u)
  (ho:∀ b,H b=some (.own a)→H' b=some (.own a)) (ht:∀ b xs,H b=some (.tup xs)→H' b=some (.tup xs)):ObjOk P w H' h' a o:=by
 induction o with
 | lst xs=>obtain ⟨z,its,n,r,e⟩:=x; exact ⟨z,its,n,r,k _ _ (.inl rfl) e⟩
 | tup xs=>obtain ⟨z,its,r,ob,e,c⟩:=x; exact ⟨z,its,r,ob,k _ _ (.inl rfl) e,c⟩
 | dK kvs=>obtain ⟨z,y,vs,r,ob,es,ep,e,c⟩:=x; exact ⟨z,y,vs,r,ob,es,ep,k _ _ (.inl rfl) e,c⟩
 | dT kvs =>
  obtain ⟨z,y,xs,r,ob,es,ep,e,c⟩:=x
  exact ⟨z,y,xs,Paired.mapP r fun p q z=>⟨z.1,ht _ _ z.2.1,z.2.2⟩,ob,es,ep,k _ _ (.inl rfl) e,c⟩
 | set S n=>obtain ⟨ob,es,ep,t,e,c⟩:=x; exact ⟨ob,es,ep,t,k _ _ (.inl rfl) e,c⟩
 | ins C dx fs =>
  obtain ⟨d,z,ne,e,mA,⟨od,es,ep,e2,c⟩,r⟩:=x
  exact ⟨ho _ d,z,ne,k _ _ (.inl rfl) e,mA,⟨od,es,ep,k _ _ (.inr d) e2,c⟩,r⟩
 | own y=>obtain ⟨ob,e⟩:=x; exact ⟨ob,k _ _ (.inl rfl) e⟩
 | xd fs=>obtain ⟨mA,⟨od,es,ep,e,c⟩,r⟩:=x; exact ⟨mA,⟨od,es,ep,k _ _ (.inl rfl) e,c⟩,r⟩
 | rng lo hi=>obtain ⟨t,u,v,e⟩:=x; exact ⟨t,u,v,k _ _ (.inl rfl) e⟩
 | frz ob u ih=>obtain ⟨e,q⟩:=x; exact ⟨k _ _ (.inl rfl) e,ih q⟩
 | tbl ps =>
  have e:h.get? a=some { cls:=.none,data:=.fields ps }:=x
  show h'.get? a=some { cls:=.none,data:=.fields ps }
  exact k a _ (.inl rfl) e
 | met f y =>
  have e:h.get? a=some (PySem.W.methodObj (.ref f) (.ref y)):=x
  show h'.get? a=some (PySem.W.methodObj (.ref f) (.ref y))
  exact k a _ (.inl rfl) e
 | ext φ=>obtain ⟨p,⟨o,e⟩,st⟩:=x; exact ⟨st _ _ p fun o q=>k _ _ (.inl rfl) q,⟨o,k _ _ (.inl rfl) e⟩,st⟩
theorem HOk.lt (x:HOk P w H h) (e:H a=some o):a < h.objs.size:=(x a o e).lt
theorem HOk.fresh (x:HOk P w H h) (e:h.objs.size≤a):H a=none:=by
 cases q:H a with
 | none=>rfl
 | some u=>exact absurd (Aa (x.lt q) e) (Nat.lt_irrefl _)
theorem HOk.kept (x:HOk P w H h) (k:∀ b u,h.get? b=some u→h'.get? b=some u):HOk P w H h':=fun a o e =>
 (x a o e).stay (fun b u _ q=>k b u q) (fun _ q=>q) fun _ _ q=>q
theorem HOk.laid (x:HOk P w H h) (k:∀ b u,h.get? b=some u→h'.get? b=some u) (hp:h.objs.size≤a) (new:ObjOk P w (upd H a o) h' a o):HOk P w (upd H a o) h':=fun b u e=>by
 have hn:=x.fresh hp
 by_cases hb:b=a
 ·subst hb; rw [upd_same] at e; cases e; exact new
 ·rw [upd_ne hb] at e
  exact (x b u e).stay (fun c v _ q=>k c v q) (fun c q=>by rw [upd_ne (ne_of_none q hn)]; exact q) fun c xs q=>by rw [upd_ne (ne_of_none q hn)]; exact q
end
def Rd (H:Hp) (a:Addr) (u:HO):Prop:=H a=some u∨∃ o,H a=some (.frz o u)
theorem Rd.ok {P:Program} {w:World} {H:Hp} {h:Heap} {a:Addr} {u:HO} (r:Rd H a u) (x:HOk P w H h):ObjOk P w H h a u:=by
 rcases r with r | ⟨o,r⟩
 ·exact x a u r
 ·obtain ⟨_,q⟩:=x a _ r
  exact q
def Mut:Option HO→Prop
 | some (.lst _)=>True
 | some (.dK _)=>True
 | some (.dT _)=>True
 | some (.set _ _)=>True
 | some (.ins _ _ _)=>True
 | some (.ext _)=>True
 | _=>False
section
variable {P:Program} {w:World} {H:Hp} {h h':Heap} {x e:Addr} {o':HO}
theorem HOk.write (ok:HOk P w H h) (mu:Mut (H x)) (he:e=x∨H e=some (.own x)) (k:∀ b u,b≠e→h.get? b=some u→h'.get? b=some u) (heo:∃ u,h'.get? e=some u)
  (new:ObjOk P w (upd H x o') h' x o'):HOk P w (upd H x o') h':=fun b u q=>by
 have nown:∀ c y,H c=some (.own y)→c≠x:=fun c y r z=>by subst z; rw [r] at mu; exact mu
 have ntup:∀ c xs,H c=some (.tup xs)→c≠x:=fun c xs r z=>by subst z; rw [r] at mu; exact mu
 by_cases hb:b=x
 ·subst hb; rw [upd_same] at q; cases q; exact new
 ·rw [upd_ne hb] at q
  by_cases hbe:b=e
  ·have q':H b=some (.own x):=by
    rcases he with z | z
    ·exact absurd (hbe.trans z) hb
    ·rw [hbe]; exact z
   rw [q] at q'; cases q'
   obtain ⟨v,hv⟩:=heo
   exact ⟨v,by rw [hbe]; exact hv⟩
  ·refine (ok b u q).stay (fun c v hc r=>k c v ?_ r) (fun c r=>by rw [upd_ne (nown c b r)]; exact r) fun c xs r=>by rw [upd_ne (ntup c xs r)]; exact r
   rcases hc with rfl | hc
   ·exact hbe
   ·rintro rfl
    rcases he with z | z
    ·exact nown c b hc z
    ·rw [hc] at z; cases z; exact hb rfl
end
structure Un (fs ex:List Addr) (H H':Hp) (h h':Heap):Prop where
 keep:∀ b o,h.get? b=some o→H b=none→b ∉ fs→b ∉ ex→h'.get? b=some o
 slot:∀ b o,h.get? b=some o→H b=none→b∈fs→b ∉ ex→∃ sl,h'.get? b=some { o with slots:=sl }
 free:∀ b o,h.get? b=some o→H b=none→b ∉ ex→H' b=none
 there:∀ b o,h.get? b=some o→b ∉ ex→∃ o',h'.get? b=some o'
 tups:∀ b xs,H b=some (.tup xs)→H' b=some (.tup xs)
 frzs:∀ b o u,H b=some (.frz o u)→H' b=some (.frz o u)
 tbls:∀ b ps,H b=some (.tbl ps)→∃ more,H' b=some (.tbl (ps++more))
section
variable {fs fs' ex ex':List Addr} {H H1 H2:Hp} {h h1 h2 h':Heap} {a x e:Addr} {o:HO}
theorem Un.any (u:Un fs ex H H1 h h1) {b:Addr} {ob:Obj} (q:h.get? b=some ob) (n:H b=none) (hx:b ∉ ex):∃ sl,h1.get? b=some { ob with slots:=sl }:=by
 by_cases hb:b∈fs
 ·exact u.slot b ob q n hb hx
 ·exact ⟨ob.slots,u.keep b ob q n hb hx⟩
theorem Un.kept (k:∀ b u,h.get? b=some u→h'.get? b=some u):Un fs ex H H h h' :=
 ⟨fun b ob q _ _ _=>k b ob q,fun b ob q _ _ _=>⟨ob.slots,k b ob q⟩,fun _ _ _ n _=>n,fun b ob q _=>⟨ob,k b ob q⟩,fun _ _ q=>q,fun _ _ _ q=>q,fun _ ps q=>⟨#[],by rw [q]; simp⟩⟩
theorem Un.refl:Un fs ex H H h h:=Un.kept fun _ _ q=>q
theorem Un.laid (k:∀ b u,h.get? b=some u→h'.get? b=some u) (hp:h.objs.size≤a) (hn:H a=none):Un fs ex H (upd H a o) h h' where
 keep:=fun b u q _ _ _=>k b u q
 slot:=fun b u q _ _ _=>⟨u.slots,k b u q⟩
 free:=fun b u q n _=>by rw [upd_ne (AU (Aa (AK q) hp))]; exact n
 there:=fun b u q _=>⟨u,k b u q⟩
 tups:=fun b xs q=>by rw [upd_ne (ne_of_none q hn)]; exact q
 frzs:=fun b u xs q=>by rw [upd_ne (ne_of_none q hn)]; exact q
 tbls:=fun b ps q=>⟨#[],by rw [upd_ne (ne_of_none q hn),q]; simp⟩
theorem Un.write (mu:Mut (H x)) (he:e=x∨H e=some (.own x)) (k:∀ b u,b≠e→h.get? b=some u→h'.get? b=some u) (heo:∃ u,h'.get? e=some u):Un fs ex H (upd H x o) h h':=by
 have hx:∀ b,H b=none→b≠x:=fun b n z=>by subst z; rw [n] at mu; exact mu
 have hb:∀ b,H b=none→b≠e:=fun b n z=>by
  subst z
  rcases he with r | r
  ·exact hx b n r
  ·rw [n] at r; cases r
 have hm:∀ b u,H b=some u→¬ Mut (some u)→b≠x:=fun b u q nm z=>by subst z; rw [q] at mu; exact nm mu
 refine ⟨fun b u q n _ _=>k b u (hb b n) q,fun b u q n _ _=>⟨u.slots,k b u (hb b n) q⟩,fun b u q n _=>by rw [upd_ne (hx b n)]; exact n,fun b u q _=>?_,
  fun b xs q=>by rw [upd_ne (hm b _ q fun z=>z)]; exact q,fun b u xs q=>by rw [upd_ne (hm b _ q fun z=>z)]; exact q,fun b ps q=>⟨#[],by rw [upd_ne (hm b _ q fun z=>z),q]; simp⟩⟩
 by_cases hbe:b=e
 ·subst hbe; exact heo
 ·exact ⟨u,k b u hbe q⟩
end
def trk (h:Heap) (H:Hp):List Addr:=(List.range h.objs.size).filter fun a=>(H a).isSome
def hidT (h:Heap) (H:Hp):Heap:=PySem.W.hideAll h (trk h H)
theorem hidT_size (h:Heap) (H:Hp):(hidT h H).objs.size=h.objs.size:=PySem.W.hideAll_size _ _
theorem hidT_get {h:Heap} {H:Hp} {b:Addr} {o:Obj} (e:h.get? b=some o) (n:H b=none):(hidT h H).get? b=some o :=
 PySem.W.hideAll_get _ e fun hm=>by
  have q:(H b).isSome=true:=(List.mem_filter.mp hm).2
  rw [n] at q; simp at q
theorem of_hidT {h:Heap} {H:Hp} {b:Addr} {o:Obj} (e:(hidT h H).get? b=some o):h.get? b=some o∧H b=none:=by
 have e':h.get? b=some o:=PySem.W.of_hideAll (trk h H) e
 refine ⟨e',?_⟩
 cases q:H b with
 | none=>rfl
 | some x =>
  have hm:b∈trk h H:=List.mem_filter.mpr ⟨List.mem_range.mpr (AK e'),by simp [q]⟩
  have z:(hidT h H).get? b=none:=PySem.W.hideAll_none (trk h H) hm
  rw [z] at e; cases e
structure Mod (K:PySem.W.Frag) (mg:Str→Option Value) (base:Heap):Prop where
 kin:K.In base
 glob:base.Ns AZ mg
 blt:∃ mb,base.Ns builtinsNs mb∧∀ x:Str,x≠"__name__"→mb x=bootBuiltins x
 nolimit:base.NoLimit
structure Cx where
 prog:Program
 w:World
 K:PySem.W.Frag
 mg:Str→Option Value
 base:Heap
 A:Around
 N:List Str
 s₀:Shared
 H₀:Hp
 env:Env
 outer:List Env
 stack:List Env
 ex:List Addr
 fn:Str→Bool
 calm:Bool
 pn:List (Addr×Obj)
 xe:Value→Shared→Prop
def frs (l:List Env):List Addr:=l.filterMap (·.frame)
abbrev Cx.fs (X:Cx):List Addr:=frs X.outer
def Vis (sc:Scope) (x:Str):Prop:=sc.names.lookup x=some .local∨sc.names.lookup x=some .cell∨sc.names.lookup x=some .free
def Loc (sc:Scope) (x:Str):Prop:=sc.names.lookup x=some .local∨sc.names.lookup x=some .cell
def Look (env:Env) (h:Heap) (m:Str→Option Value) (x:Str) (u:Value):Prop :=
 (env.kindOf x=some .local∧m x=some u)∨((env.kindOf x=some .cell∨env.kindOf x=some .free)∧∃ c,env.cells.lookup x=some c∧h.IsCell c (some u))
structure Cx.Ok (X:Cx):Prop where
 mod:Mod X.K X.mg X.base
 kind:X.env.scope.kind=.function
 glob:X.env.globals=AZ
 blt:X.env.builtins=builtinsNs
 above:X.s₀.heap.objs.size≤X.env.locals
 inj:∀ x y c,X.env.cells.lookup x=some c→X.env.cells.lookup y=some c→x=y
 has:∀ x,(X.env.kindOf x=some .cell∨X.env.kindOf x=some .free)→∃ c,X.env.cells.lookup x=some c
 cab:∀ x c,X.fn x=true→X.env.cells.lookup x=some c→X.s₀.heap.objs.size≤c
 hd:X.calm=true→X.A.handled=none
 frames:X.A.frames=some X.stack
 stk:X.stack=X.outer∨(X.stack=X.env :: X.outer∧X.env.frame=some X.env.locals)
 exf:∀ b∈X.ex,b≠X.env.locals∧∀ x c,X.env.cells.lookup x=some c→c≠b
 bs:∀ b o,X.base.get? b=some o→X.s₀.heap.get? b=some o∧X.H₀ b=none
 bsz:X.base.objs.size≤X.s₀.heap.objs.size
 noex:∀ b o,X.base.get? b=some o→b ∉ X.ex
 exfs:∀ b∈X.ex,b ∉ X.fs
 funs:X.s₀.heap.FunFrames X.base X.outer
 frf:∀ b∈X.fs,X.H₀ b=none
structure Inv (X:Cx) (pins:List (Addr×Obj)) (σ:List (Option V)) (H:Hp) (s:Shared):Prop where
 ok:X.Ok
 os:s.os=X.s₀.os
 bare:AllBare s.gens
 base:Un X.fs X.ex X.H₀ H X.s₀.heap s.heap
 loc:∃ m,s.heap.Ns X.env.locals m∧∀ (i:Nat) (x:Str) (v:V),X.N[i]?=some x→σ[i]?=some (some v)→Vis X.env.scope x→∃ u,RelV v u∧Look X.env s.heap m x u
 cell:∀ x c,X.env.cells.lookup x=some c→∃ v,s.heap.IsCell c v
 free:H X.env.locals=none
 freeC:∀ x c,X.env.cells.lookup x=some c→H c=none
 pin:∀ p∈X.pn++pins,s.heap.get? p.1=some p.2∧H p.1=none∧p.1≠X.env.locals∧p.1 ∉ X.fs∧∀ v,p.2.data≠.cell v
 hok:HOk X.prog X.w H s.heap
 len:σ.length=X.N.length
section
variable {X:Cx} {pins:List (Addr×Obj)} {σ:List (Option V)} {H H':Hp} {s:Shared} {h':Heap}
theorem Cx.Ok.nofr (ok:X.Ok) {b:Addr} {o:Obj} (e:X.base.get? b=some o):b ∉ X.fs:=fun hb=>by
 have:=(ok.funs.mem hb).1
 rw [e] at this; cases this
theorem Inv.bs (I:Inv X pins σ H s):∀ b o,X.base.get? b=some o→s.heap.get? b=some o∧H b=none:=fun b o e =>
 ⟨I.base.keep b o (I.ok.bs b o e).1 (I.ok.bs b o e).2 (I.ok.nofr e) (I.ok.noex b o e),I.base.free b o (I.ok.bs b o e).1 (I.ok.bs b o e).2 (I.ok.noex b o e)⟩
theorem Inv.bk (I:Inv X pins σ H s):∀ b o,X.base.get? b=some o→s.heap.get? b=some o:=fun b o e=>(I.bs b o e).1
theorem Inv.mod (I:Inv X pins σ H s):Mod X.K X.mg X.base:=I.ok.mod
theorem Inv.kIn (I:Inv X pins σ H s):X.K.In s.heap:=I.ok.mod.kin.keeps I.bk
theorem Inv.lt (I:Inv X pins σ H s):X.env.locals < s.heap.objs.size:=let ⟨_,hn,_⟩:=I.loc; hn.lt
theorem Inv.sz (I:Inv X pins σ H s):X.s₀.heap.objs.size≤s.heap.objs.size:=Ag I.ok.above (Nat.le_of_lt I.lt)
theorem Inv.nofs (I:Inv X pins σ H s) {a:Addr} (h:s.heap.objs.size≤a):a ∉ X.fs:=fun hb=>by
 obtain ⟨_,o,ho,_⟩:=I.ok.funs.mem hb
 exact absurd (Aa (AK ho) (Ag I.sz h)) (Nat.lt_irrefl _)
theorem Inv.cne (I:Inv X pins σ H s):∀ x c,X.env.cells.lookup x=some c→c≠X.env.locals:=fun x c e z=>by
 obtain ⟨v,o,ho,hd⟩:=I.cell x c e
 obtain ⟨m,⟨o',es,ep,ho',hd',_⟩,_⟩:=I.loc
 rw [z,ho'] at ho; cases ho; rw [hd'] at hd; cases hd
theorem Inv.funs (I:Inv X pins σ H s):s.heap.FunFrames X.base X.outer:=by
 have all:∀ (l:List Env),(∀ b∈frs l,b∈X.fs)→X.s₀.heap.FunFrames X.base l→s.heap.FunFrames X.base l:=by
  intro l
  induction l with
  | nil=>intro _ _; trivial
  | cons env r ih =>
   intro hs hl
   obtain ⟨hk,⟨L,o,hf,hn,ho,hd⟩,hr⟩:=hl
   have hL:L∈X.fs:=hs L (by unfold frs; rw [List.filterMap_cons,hf]; exact Ab)
   obtain ⟨sl,e⟩:=I.base.slot L o ho (I.ok.frf L hL) hL fun z=>I.ok.exfs L z hL
   exact ⟨hk,⟨L,_,hf,hn,e,hd⟩,ih (fun b hb=>hs b (by unfold frs; rw [List.filterMap_cons,hf]; exact AR _ hb)) hr⟩
 exact all X.outer (fun _ hb=>hb) I.ok.funs
theorem Inv.stack (I:Inv X pins σ H s):s.heap.FunFrames X.base X.stack:=by
 rcases I.ok.stk with e | ⟨e,hf⟩
 ·rw [e]; exact I.funs
 ·rw [e]
  obtain ⟨m,hn,_⟩:=I.loc
  refine .cons (by rw [I.ok.kind]; decide) hf hn ?_ I.funs
  exact Heap.get?_none_of_le (Ag I.ok.bsz I.ok.above)
theorem Inv.stkSub (I:Inv X pins σ H s):∀ b∈frs X.stack,b∈X.env.locals :: X.fs:=fun b hb=>by
 rcases I.ok.stk with e | ⟨e,hf⟩
 ·rw [e] at hb; exact AR _ hb
 ·rw [e] at hb
  unfold frs at hb
  rw [List.filterMap_cons,hf] at hb
  exact hb
theorem Inv.stkFree (I:Inv X pins σ H s):∀ b∈frs X.stack,H b=none:=fun b hb=>by
 rcases AW.mp (I.stkSub b hb) with e | hb
 ·rw [e]; exact I.free
 ·obtain ⟨_,o,ho,_⟩:=I.ok.funs.mem hb
  exact I.base.free b o ho (I.ok.frf b hb) fun z=>I.ok.exfs b z hb
theorem Inv.step {g':Array GenState} {t':Nat} {d':Drawn} {ch:List Addr} (I:Inv X pins σ H s)
  (hch:∀ b∈ch,(b∈X.ex∨X.s₀.heap.objs.size≤b)∧b≠X.env.locals∧(∀ x c,X.env.cells.lookup x=some c→c≠b)∧∀ p∈X.pn++pins,p.1≠b)
  (keep:∀ b o,b≠X.env.locals→b ∉ X.fs→b ∉ ch→s.heap.get? b=some o→H b=none→h'.get? b=some o)
  (slot:∀ b o,b≠X.env.locals→b∈X.fs→b ∉ ch→s.heap.get? b=some o→H b=none→∃ sl,h'.get? b=some { o with slots:=sl }) (free:∀ b o,b ∉ ch→s.heap.get? b=some o→H b=none→H' b=none)
  (there:∀ b o,b ∉ ch→s.heap.get? b=some o→∃ o',h'.get? b=some o')
  (tups:∀ b xs,H b=some (.tup xs)→H' b=some (.tup xs)) (frzs:∀ b o u,H b=some (.frz o u)→H' b=some (.frz o u)) (tbls:∀ b ps,H b=some (.tbl ps)→∃ more,H' b=some (.tbl (ps++more)))
  (ns:∀ m,s.heap.Ns X.env.locals m→h'.Ns X.env.locals m) (hok:HOk X.prog X.w H' h') (hg:AllBare g') :
  Inv X pins σ H' { s with heap:=h',gens:=g',drawn:=d',toks:=t' }:=by
 have neL:∀ b o,X.s₀.heap.get? b=some o→b≠X.env.locals:=fun b o e=>AU (Aa (AK e) I.ok.above)
 have neC:∀ b o,X.s₀.heap.get? b=some o→b ∉ X.ex→b ∉ ch:=fun b o e hx hb=>by
  rcases (hch b hb).1 with z | z
  ·exact hx z
  ·exact absurd (Aa (AK e) z) (Nat.lt_irrefl _)
 have cellK:∀ x c,X.env.cells.lookup x=some c→∀ v,s.heap.IsCell c v→h'.IsCell c v:=fun x c e v ⟨o,ho,hd⟩=>by
  have nch:c ∉ ch:=fun z=>(hch c z).2.2.1 x c e rfl
  by_cases hc:c∈X.fs
  ·obtain ⟨sl,q⟩:=slot c o (I.cne x c e) hc nch ho (I.freeC x c e)
   exact ⟨_,q,hd⟩
  ·exact ⟨o,keep c o (I.cne x c e) hc nch ho (I.freeC x c e),hd⟩
 refine ⟨I.ok,I.os,hg,⟨fun b o e n hb hx=>?_,fun b o e n hb hx=>?_,fun b o e n hx=>?_,fun b o e hx=>?_,fun b xs e=>tups b xs (I.base.tups b xs e),fun b o xs e=>frzs b o xs (I.base.frzs b o xs e),fun b ps e=>?_⟩,?_,fun x c e=>?_,?_,fun x c e=>?_,fun p hp=>?_,hok,I.len⟩
 ·exact keep b o (neL b o e) hb (neC b o e hx) (I.base.keep b o e n hb hx) (I.base.free b o e n hx)
 ·obtain ⟨sl,e1⟩:=I.base.slot b o e n hb hx
  obtain ⟨sl',e2⟩:=slot b _ (neL b o e) hb (neC b o e hx) e1 (I.base.free b o e n hx)
  exact ⟨sl',e2⟩
 ·obtain ⟨o',e1⟩:=I.base.there b o e hx
  exact free b o' (neC b o e hx) e1 (I.base.free b o e n hx)
 ·obtain ⟨o',e1⟩:=I.base.there b o e hx
  exact there b o' (neC b o e hx) e1
 ·obtain ⟨m1,e1⟩:=I.base.tbls b ps e
  obtain ⟨m2,e2⟩:=tbls b _ e1
  exact ⟨m1++m2,by rw [e2,Array.append_assoc]⟩
 ·obtain ⟨m,hn,hl⟩:=I.loc
  refine ⟨m,ns m hn,fun i x v e1 e2 e3=>?_⟩
  obtain ⟨u,r,l⟩:=hl i x v e1 e2 e3
  refine ⟨u,r,?_⟩
  rcases l with l | ⟨k,c,e,z⟩
  ·exact .inl l
  ·exact .inr ⟨k,c,e,cellK x c e _ z⟩
 ·obtain ⟨v,z⟩:=I.cell x c e
  exact ⟨v,cellK x c e v z⟩
 ·obtain ⟨m,⟨o,_,_,ho,_⟩,_⟩:=I.loc
  exact free _ o (fun z=>(hch _ z).2.1 rfl) ho I.free
 ·obtain ⟨v,o,ho,hd⟩:=I.cell x c e
  exact free c o (fun z=>(hch c z).2.2.1 x c e rfl) ho (I.freeC x c e)
 ·obtain ⟨e,n,ne,nf,d⟩:=I.pin p hp
  have nch:p.1 ∉ ch:=fun z=>(hch p.1 z).2.2.2 p hp rfl
  exact ⟨keep p.1 p.2 ne nf nch e n,free p.1 p.2 nch e n,ne,nf,d⟩
theorem Inv.un {t':Nat} (I:Inv X pins σ H s) (u:Un X.fs [] H H' s.heap h') (hok:HOk X.prog X.w H' h'):Inv X pins σ H' { s with heap:=h',toks:=t' }:=by
 obtain ⟨m,⟨o,es,ep,ho,r⟩,_⟩:=id I.loc
 obtain ⟨sl,hL⟩:=u.any ho I.free (by simp)
 exact I.step (g':=s.gens) (d':=s.drawn) (ch:=[]) (fun _ z=>nomatch z) (fun b o _ hb _ e n=>u.keep b o e n hb (by simp)) (fun b o _ hb _ e n=>u.slot b o e n hb (by simp)) (fun b o _ e n=>u.free b o e n (by simp)) (fun b o _ e=>u.there b o e (by simp)) u.tups u.frzs u.tbls (fun m' hm=>by
  obtain ⟨o',es',ep',ho',r'⟩:=hm
  rw [ho] at ho'; cases ho'
  exact ⟨_,es',ep',hL,r'⟩) hok I.bare
theorem Inv.call {g':Array GenState} {t':Nat} {d':Drawn} {ch:List Addr} (I:Inv X pins σ H s) (u:Un (frs X.stack) ch H H' s.heap h') (hok:HOk X.prog X.w H' h') (hg:AllBare g')
  (hch:∀ b∈ch,(b∈X.ex∨X.s₀.heap.objs.size≤b)∧b≠X.env.locals∧(∀ x c,X.env.cells.lookup x=some c→c≠b)∧∀ p∈X.pn++pins,p.1≠b) :
  Inv X pins σ H' { s with heap:=h',gens:=g',drawn:=d',toks:=t' }:=by
 obtain ⟨m,⟨o,es,ep,ho,r⟩,_⟩:=id I.loc
 obtain ⟨sl,hL⟩:=u.any ho I.free fun z=>(hch _ z).2.1 rfl
 exact I.step (ch:=ch) hch (fun b o hL hb hc e n=>u.keep b o e n (fun z=>(AW.mp (I.stkSub b z)).elim hL hb) hc) (fun b o _ _ hc e n=>u.any e n hc) (fun b o hc e n=>u.free b o e n hc) (fun b o hc e=>u.there b o e hc) u.tups u.frzs u.tbls (fun m' hm=>by
  obtain ⟨o',es',ep',ho',r'⟩:=hm
  rw [ho] at ho'; cases ho'
  exact ⟨_,es',ep',hL,r'⟩) hok hg
theorem Inv.turned {t':Nat} {it:Addr} (I:Inv X pins σ H s) (k:∀ b o,b≠it→s.heap.get? b=some o→h'.get? b=some o) (hn:H it=none) (hL:it≠X.env.locals)
  (h1:it∈X.ex∨X.s₀.heap.objs.size≤it) (h2:∀ x c,X.env.cells.lookup x=some c→c≠it) (h3:∀ p∈X.pn++pins,p.1≠it):Inv X pins σ H { s with heap:=h',toks:=t' }:=by
 have nit:∀ b u,H b=some u→b≠it:=fun b u e z=>by rw [z,hn] at e; cases e
 refine I.step (g':=s.gens) (d':=s.drawn) (ch:=[it]) (fun b hb=>?_) (fun b o _ _ hc e _=>k b o (fun z=>hc (by simp [z])) e) (fun b o _ _ hc e _=>⟨o.slots,k b o (fun z=>hc (by simp [z])) e⟩) (fun _ _ _ _ n=>n)
  (fun b o hc e=>⟨o,k b o (fun z=>hc (by simp [z])) e⟩) (fun _ _ e=>e) (fun _ _ _ e=>e) (fun b ps e=>⟨#[],by rw [e]; simp⟩) (fun m hm=>?_) (fun b u e=>?_) I.bare
 ·have e:b=it:=by simpa using hb
  subst e
  exact ⟨h1,hL,h2,h3⟩
 ·obtain ⟨o,es,ep,ho,r⟩:=hm
  exact ⟨o,es,ep,k _ o (Ne.symm hL) ho,r⟩
 ·refine (I.hok b u e).stay (fun c v hc q=>k c v ?_ q) (fun _ q=>q) fun _ _ q=>q
  rcases hc with z | z
  ·rw [z]; exact nit b u e
  ·exact nit c _ z
theorem Inv.tok (I:Inv X pins σ H s) (t:Nat):Inv X pins σ H { s with toks:=t }:=I.un (h':=s.heap) (t':=t) Un.refl I.hok
theorem Inv.kept {t':Nat} (I:Inv X pins σ H s) (k:∀ b u,s.heap.get? b=some u→h'.get? b=some u):Inv X pins σ H { s with heap:=h',toks:=t' }:=I.un (Un.kept k) (I.hok.kept k)
theorem Inv.laid {a:Addr} {o:HO} {t':Nat} (I:Inv X pins σ H s) (k:∀ b u,s.heap.get? b=some u→h'.get? b=some u) (hp:s.heap.objs.size≤a) (new:ObjOk X.prog X.w (upd H a o) h' a o) :
  Inv X pins σ (upd H a o) { s with heap:=h',toks:=t' }:=I.un (Un.laid k hp (I.hok.fresh hp)) (I.hok.laid k hp new)
theorem Inv.write {x e:Addr} {o:HO} {t':Nat} (I:Inv X pins σ H s) (mu:Mut (H x)) (he:e=x∨H e=some (.own x)) (k:∀ b u,b≠e→s.heap.get? b=some u→h'.get? b=some u) (heo:∃ u,h'.get? e=some u)
  (new:ObjOk X.prog X.w (upd H x o) h' x o):Inv X pins σ (upd H x o) { s with heap:=h',toks:=t' }:=I.un (Un.write mu he k heo) (I.hok.write mu he k heo new)
theorem Inv.pins_of {pins':List (Addr×Obj)} (I:Inv X pins σ H s) (h:∀ p∈pins',s.heap.get? p.1=some p.2∧H p.1=none∧p.1≠X.env.locals∧p.1 ∉ X.fs∧∀ v,p.2.data≠.cell v):Inv X pins' σ H s :=
 ⟨I.ok,I.os,I.bare,I.base,I.loc,I.cell,I.free,I.freeC,fun p hp=>(AY.mp hp).elim (fun z=>I.pin p (List.mem_append_left _ z)) (h p),I.hok,I.len⟩
theorem nodup_ix {N:List Str} (hN:N.Nodup) {i j:Nat} {x:Str} (a:N[i]?=some x) (b:N[j]?=some x):i=j:=by
 obtain ⟨h1,e1⟩:=AE.mp a
 obtain ⟨h2,e2⟩:=AE.mp b
 exact (List.getElem_inj hN).mp (e1.trans e2.symm)
theorem store_ok2 {M:Model} {A:Around} {E:Value→Shared→Prop} {i:Nat} {x:Str} {v:V} {u:Value} {Q:Unit→Shared→Prop} (I:Inv X pins σ H s) (hN:X.N.Nodup) (hi:X.N[i]?=some x) (hx:Loc X.env.scope x) (r:RelV v u)
  (h:∀ s',Inv X pins (σ.set i (some v)) H s'→(∃ a,Heap.SameBut a s.heap s'.heap∧(a=X.env.locals∨X.env.cells.lookup x=some a))→Q () s') (hf:X.fn x=true∨X.env.scope.names.lookup x=some .local:=by first | exact .inl rfl | exact .inr rfl | assumption):wpAny M A (storeName X.env x u) Q E s:=by
 obtain ⟨m,hn,hl⟩:=id I.loc
 have hcls:(X.env.scope.kind == .class || (X.env.scope.kind == .module && X.env.locals != X.env.globals))=false:=by rw [I.ok.kind]; rfl
 have hiσ:i < σ.length:=by rw [I.len]; exact (AE.mp hi).1
 have cne:=I.cne
 have tracked:∀ {a:Addr} {h':Heap},(∃ o,s.heap.get? a=some o∧H a=none)→Heap.SameBut a s.heap h'→HOk X.prog X.w H h':=fun {a h'} ha hs b ob e=>by
  obtain ⟨_,_,hfree⟩:=ha
  refine (I.hok b ob e).stay (fun c w' hc q=>(hs.2 c ?_).trans q) (fun _ q=>q) fun _ _ q=>q
  rintro rfl
  rcases hc with rfl | hc
  ·rw [hfree] at e; cases e
  ·rw [hfree] at hc; cases hc
 rcases hx with hk | hk
 ·refine wpAny_storeName_local hk hn (fun h' hn' hs=>?_) hcls
  obtain ⟨oL,_,_,hoL,_⟩:=id hn
  refine h _ ⟨I.ok,I.os,I.bare,⟨fun b o e n hb hx=>?_,fun b o e n hb hx=>?_,I.base.free,fun b o e hx=>?_,I.base.tups,I.base.frzs,I.base.tbls⟩,⟨_,hn',fun j y v' e1 e2 e3=>?_⟩,fun y c e=>?_,I.free,I.freeC,fun p hp=>?_,tracked ⟨oL,hoL,I.free⟩ hs,by simpa using I.len⟩ ⟨_,hs,.inl rfl⟩
  ·exact (hs.2 b (AU (Aa (AK e) I.ok.above))).trans (I.base.keep b o e n hb hx)
  ·obtain ⟨sl,e1⟩:=I.base.slot b o e n hb hx
   exact ⟨sl,(hs.2 b (AU (Aa (AK e) I.ok.above))).trans e1⟩
  ·obtain ⟨o',e1⟩:=I.base.there b o e hx
   exact ⟨o',(hs.2 b (AU (Aa (AK e) I.ok.above))).trans e1⟩
  ·by_cases hj:j=i
   ·subst hj
    rw [hi] at e1; cases e1
    rw [List.getElem?_set_self hiσ] at e2
    cases e2
    exact ⟨u,r,.inl ⟨hk,by simp⟩⟩
   ·rw [List.getElem?_set_ne (Ne.symm hj)] at e2
    obtain ⟨u',r',q⟩:=hl j y v' e1 e2 e3
    refine ⟨u',r',?_⟩
    rcases q with ⟨k,e⟩ | ⟨k,c,e,z⟩
    ·refine .inl ⟨k,?_⟩
     have:y≠x:=fun e=>hj (nodup_ix hN e1 (e ▸ hi))
     simp [this,e]
    ·exact .inr ⟨k,c,e,z.sameBut hs (cne y c e)⟩
  ·obtain ⟨w',z⟩:=I.cell y c e
   exact ⟨w',z.sameBut hs (cne y c e)⟩
  ·obtain ⟨e,n,ne,nf,d⟩:=I.pin p hp
   exact ⟨(hs.2 p.1 ne).trans e,n,ne,nf,d⟩
 ·have hfn:X.fn x=true:=by
   rcases hf with z | z
   ·exact z
   ·rw [z] at hk; cases hk
  obtain ⟨c,hc⟩:=I.ok.has x (.inl hk)
  obtain ⟨w',z⟩:=I.cell x c hc
  refine wpAny_storeName_cell I.ok.kind hk hc z (fun h' hc' hs=>?_)
  obtain ⟨oc,hoc,hocd⟩:=id z
  refine h { s with heap:=h' } ⟨I.ok,I.os,I.bare,⟨fun b o e n hb hx=>?_,fun b o e n hb hx=>?_,I.base.free,fun b o e hx=>?_,I.base.tups,I.base.frzs,I.base.tbls⟩,⟨m,hn.sameBut hs (Ne.symm (cne x c hc)),fun j y v' e1 e2 e3=>?_⟩,fun y c' e=>?_,I.free,I.freeC,fun p hp=>?_,tracked ⟨oc,hoc,I.freeC x c hc⟩ hs,by simpa using I.len⟩ ⟨c,hs,.inr hc⟩
  ·exact (hs.2 b (AU (Aa (AK e) (I.ok.cab x c hfn hc)))).trans (I.base.keep b o e n hb hx)
  ·obtain ⟨sl,e1⟩:=I.base.slot b o e n hb hx
   exact ⟨sl,(hs.2 b (AU (Aa (AK e) (I.ok.cab x c hfn hc)))).trans e1⟩
  ·obtain ⟨o',e1⟩:=I.base.there b o e hx
   exact ⟨o',(hs.2 b (AU (Aa (AK e) (I.ok.cab x c hfn hc)))).trans e1⟩
  ·by_cases hj:j=i
   ·subst hj
    rw [hi] at e1; cases e1
    rw [List.getElem?_set_self hiσ] at e2
    cases e2
    exact ⟨u,r,.inr ⟨.inl hk,c,hc,hc'⟩⟩
   ·rw [List.getElem?_set_ne (Ne.symm hj)] at e2
    obtain ⟨u',r',q⟩:=hl j y v' e1 e2 e3
    refine ⟨u',r',?_⟩
    rcases q with q | ⟨k,c',e,z'⟩
    ·exact .inl q
    ·refine .inr ⟨k,c',e,z'.sameBut hs ?_⟩
     rintro rfl
     exact hj (nodup_ix hN e1 (I.ok.inj _ _ _ e hc ▸ hi))
  ·by_cases hcc:c'=c
   ·subst hcc; exact ⟨_,hc'⟩
   ·obtain ⟨w2,z2⟩:=I.cell y c' e
    exact ⟨w2,z2.sameBut hs hcc⟩
  ·obtain ⟨e,n,ne,nf,d⟩:=I.pin p hp
   refine ⟨(hs.2 p.1 ?_).trans e,n,ne,nf,d⟩
   intro q
   rw [q,hoc] at e
   have q':oc=p.2:=Ax e
   exact d w' (by rw [← q']; exact hocd)
theorem store_ok {M:Model} {A:Around} {E:Value→Shared→Prop} {i:Nat} {x:Str} {v:V} {u:Value} {Q:Unit→Shared→Prop} (I:Inv X pins σ H s) (hN:X.N.Nodup) (hi:X.N[i]?=some x) (hx:Loc X.env.scope x) (r:RelV v u)
  (h:∀ s',Inv X pins (σ.set i (some v)) H s'→Q () s') (hf:X.fn x=true∨X.env.scope.names.lookup x=some .local:=by first | exact .inl rfl | exact .inr rfl | assumption):wpAny M A (storeName X.env x u) Q E s :=
 store_ok2 I hN hi hx r (fun s' I' _=>h s' I') hf
theorem Inv.call' {s':Shared} {ch:List Addr} (I:Inv X pins σ H s) (ho:s'.os=s.os) (u:Un (frs X.stack) ch H H' s.heap s'.heap) (hok:HOk X.prog X.w H' s'.heap) (hg:AllBare s'.gens)
  (hch:∀ b∈ch,(b∈X.ex∨X.s₀.heap.objs.size≤b)∧b≠X.env.locals∧(∀ x c,X.env.cells.lookup x=some c→c≠b)∧∀ p∈X.pn++pins,p.1≠b):Inv X pins σ H' s':=by
 obtain ⟨h',g',d',t',o'⟩:=s'
 have e:o'=s.os:=ho
 subst e
 exact I.call (g':=g') (t':=t') (d':=d') u hok hg hch
end
abbrev XK:=Value→Option Addr→Hp→Prop
abbrev St:=List (Option V)
abbrev VK:=V→Hp→Prop
abbrev TE:=St→Hp→VK→Prop
abbrev TT:=St→Hp→(Bool→Hp→Prop)→Prop
abbrev TA:=St→Hp→(List V→Hp→Prop)→Prop
structure Ends where
 nx:St→Hp→Prop
 rt:VK
 bk:St→Hp→Prop:=fun _ _=>False
 ct:St→Hp→Prop:=fun _ _=>False
abbrev TS:=Ends→St→Hp→Prop
def EP (X:Cx) (pins:List (Addr×Obj)) (σ:St) (Q:VK) (u:Value) (s':Shared):Prop:=∃ v H',Inv X pins σ H' s'∧RelV v u∧Q v H'
def TP (X:Cx) (pins:List (Addr×Obj)) (σ:St) (Q:Bool→Hp→Prop) (b:Bool) (s':Shared):Prop:=∃ H',Inv X pins σ H' s'∧Q b H'
def AP (X:Cx) (pins:List (Addr×Obj)) (σ:St) (Q:List V→Hp→Prop) (us:List Value) (s':Shared):Prop:=∃ vs H',Inv X pins σ H' s'∧Vals vs us∧Q vs H'
def SP (X:Cx) (pins:List (Addr×Obj)) (D:Ends) (f:Flow) (s':Shared):Prop :=
 match f with
 | .next=>∃ σ' H',Inv X pins σ' H' s'∧D.nx σ' H'
 | .brk=>∃ σ' H',Inv X pins σ' H' s'∧D.bk σ' H'
 | .cont=>∃ σ' H',Inv X pins σ' H' s'∧D.ct σ' H'
 | .ret u=>∃ v σ' H',Inv X pins σ' H' s'∧RelV v u∧D.rt v H'
def PE (X:Cx) (e:Expr) (t:TE):Prop :=
 ∀ (pins:List (Addr×Obj)) (s:Shared) (σ:St) (H:Hp) (Q:VK),Inv X pins σ H s→t σ H Q→wpAny (model X.prog X.w) X.A (eval e X.env) (EP X pins σ Q) X.xe s
def PT (X:Cx) (e:Expr) (t:TT):Prop :=
 ∀ (pins:List (Addr×Obj)) (s:Shared) (σ:St) (H:Hp) (Q:Bool→Hp→Prop),Inv X pins σ H s→t σ H Q→wpAny (model X.prog X.w) X.A (isTrue e X.env (eval e X.env)) (TP X pins σ Q) X.xe s
def PW (X:Cx) (e:Expr) (t:TT):Prop :=
 ∀ (whole:Sem Value) (pins:List (Addr×Obj)) (s:Shared) (σ:St) (H:Hp) (Q:Bool→Hp→Prop),Inv X pins σ H s→t σ H Q→wpAny (model X.prog X.w) X.A (isTrue e X.env whole) (TP X pins σ Q) X.xe s
theorem PW.pt {X:Cx} {e:Expr} {t:TT} (h:PW X e t):PT X e t:=h _
def PA (X:Cx) (es:List Expr) (t:TA):Prop :=
 ∀ (pos:Pos) (pins:List (Addr×Obj)) (s:Shared) (σ:St) (H:Hp) (Q:List V→Hp→Prop),Inv X pins σ H s→t σ H Q→wpAny (model X.prog X.w) X.A (spliced (backTo pos (Af es X.env))) (AP X pins σ Q) X.xe s
def PS (X:Cx) (st:Stmt) (t:TS):Prop :=
 ∀ (pins:List (Addr×Obj)) (s:Shared) (σ:St) (H:Hp) (D:Ends),Inv X pins σ H s→t D σ H→wpAny (model X.prog X.w) X.A (exec st X.env) (SP X pins D) X.xe s
def PSs (X:Cx) (st:List Stmt) (t:TS):Prop :=
 ∀ (pins:List (Addr×Obj)) (s:Shared) (σ:St) (H:Hp) (D:Ends),Inv X pins σ H s→t D σ H→wpAny (model X.prog X.w) X.A (execs st X.env) (SP X pins D) X.xe s
theorem thn {α:Type} {t:Sem α} {Q Q':α→Shared→Prop} {M:Model} {A:Around} {E:Value→Shared→Prop} {s:Shared} (h:wpAny M A t Q E s) (hQ:∀ a s,Q a s→Q' a s):wpAny M A t Q' E s:=wpAny_mono h hQ fun _ _ x=>x
section
variable {X:Cx}
theorem bin {a b:Expr} {ta tb:TE} (ha:PE X a ta) (hb:PE X b tb) {pins:List (Addr×Obj)} {s:Shared} {σ:St} {H:Hp} {R:V→V→Hp→Prop} (I:Inv X pins σ H s) (h:ta σ H fun x H1=>tb σ H1 fun y H2=>R x y H2)
  {α:Type} {Q:α→Shared→Prop} {f:Value→Value→Sem α}
  (hf:∀ v u s2 x y H2,Inv X pins σ H2 s2→RelV x v→RelV y u→R x y H2→wpAny (model X.prog X.w) X.A (f v u) Q X.xe s2) :
  wpAny (model X.prog X.w) X.A (eval a X.env) (fun v s₁=>wpAny (model X.prog X.w) X.A (eval b X.env) (fun u s₂=>wpAny (model X.prog X.w) X.A (f v u) Q X.xe s₂) X.xe s₁) X.xe s:=by
 refine thn (ha pins s σ H _ I h) fun v s1 ⟨x,H1,I1,r1,q1⟩=>?_
 refine thn (hb pins s1 σ H1 _ I1 q1) fun u s2 ⟨y,H2,I2,r2,q2⟩=>?_
 exact hf v u s2 x y H2 I2 r1 r2 q2
inductive IsBl (x:V) (H:Hp) (Q:Bool→Hp→Prop):Prop
 | mk (k:Bool) (h0:x=.bl k) (h1:Q k H):IsBl x H Q
inductive PtVar (i:Nat) (σ:St) (H:Hp) (Q:VK):Prop
 | mk (v:_) (h0:σ[i]?=some (some v)) (h1:Q v H):PtVar i σ H Q
def tVar (i:Nat):TE:=fun σ H Q=>PtVar i σ H Q
def tC (v:V):TE:=fun _ H Q=>Q v H
theorem pe_var {i:Nat} {x:Str} {pos:Pos} (hN:X.N[i]?=some x) (hv:Vis X.env.scope x) (hd:(x == ("__debug__":Str))=false:=by decide) (hcd:(x == ("__classdict__":Str))=false:=by decide):PE X (.Name x pos) (tVar i):=by
 intro pins s σ H Q I h
 obtain ⟨v,e,h⟩:=h
 obtain ⟨m,hn,hl⟩:=I.loc
 obtain ⟨u,r,l⟩:=hl i x v hN e hv
 have fin:EP X pins σ Q u s:=⟨v,H,I,r,h⟩
 rcases l with ⟨hk,hm⟩ | ⟨hk,c,hc,hcell⟩
 ·exact wpAny_Name (wpAny_loadName_local I.ok.kind hk hn hm fin) hd
 ·rcases hk with hk | hk
  ·exact wpAny_Name (wpAny_loadName_cell I.ok.kind hk hc hcell fin) hd
  ·exact wpAny_Name (wpAny_loadName_free I.ok.kind hk hc hcell fin hcd) hd
theorem pe_int {i j pos}:PE X (.Constant (.int i) j pos) (tC (.int i)):=fun _ _ _ H _ I h=>wpAny_Constant_int ⟨.int i,H,I.tok _,⟨_,rfl⟩,h⟩
theorem pe_bl {b j pos}:PE X (.Constant (.bool b) j pos) (tC (.bl b)):=fun _ _ _ H _ I h=>Constant_bool ⟨.bl b,H,I,rfl,h⟩
theorem pe_non {j pos}:PE X (.Constant .none j pos) (tC .non):=fun _ _ _ H _ I h=>Constant_none ⟨.non,H,I,rfl,h⟩
theorem pe_str {x j pos}:PE X (.Constant (.str x) j pos) (tC (.str x)):=fun _ _ _ H _ I h=>Calls.Constant_str ⟨.str x,H,I.tok _,⟨_,rfl⟩,h⟩
def Gl (X:Cx) (x:Str):Prop:=X.env.kindOf x=some .globalImplicit
theorem ld_glob {E:Value→Shared→Prop} {pins:List (Addr×Obj)} {s:Shared} {σ:St} {H:Hp} {x:Str} {u:Value} {pos:Pos} {Q:Value→Shared→Prop} (I:Inv X pins σ H s) (hg:Gl X x) (hm:X.mg x=some u) (h:Q u s)
  (hd:(x == ("__debug__":Str))=false:=by decide):wpAny (model X.prog X.w) X.A (eval (.Name x pos) X.env) Q E s :=
 Calls.Name_function_global I.ok.kind hg (Calls.loadGlobal_global (by rw [I.ok.glob]; exact I.mod.glob.keeps I.bk) hm h) hd
theorem ld_blt {E:Value→Shared→Prop} {pins:List (Addr×Obj)} {s:Shared} {σ:St} {H:Hp} {x:Str} {u:Value} {pos:Pos} {Q:Value→Shared→Prop} (I:Inv X pins σ H s) (hg:Gl X x) (hm:X.mg x=none) (hv:bootBuiltins x=some u) (h:Q u s)
  (hn:x≠"__name__":=by decide) (hd:(x == ("__debug__":Str))=false:=by decide):wpAny (model X.prog X.w) X.A (eval (.Name x pos) X.env) Q E s:=by
 obtain ⟨mb,h1,h2⟩:=I.mod.blt
 exact Calls.Name_function_global I.ok.kind hg (Calls.loadGlobal_builtin (by rw [I.ok.glob]; exact I.mod.glob.keeps I.bk) hm (by rw [I.ok.blt]; exact h1.keeps I.bk) ((h2 x hn).trans hv) h) hd
theorem pe_glob {x:Str} {v:V} {u:Value} {pos:Pos} (hg:Gl X x) (hm:X.mg x=some u) (r:RelV v u) (hd:(x == ("__debug__":Str))=false:=by decide):PE X (.Name x pos) (tC v) :=
 fun _ _ _ H _ I h=>ld_glob I hg hm ⟨v,H,I,r,h⟩ hd
theorem pe_bltn {x:Str} {v:V} {u:Value} {pos:Pos} (hg:Gl X x) (hm:X.mg x=none) (hv:bootBuiltins x=some u) (r:RelV v u) (hn:x≠"__name__":=by decide) (hd:(x == ("__debug__":Str))=false:=by decide):PE X (.Name x pos) (tC v) :=
 fun _ _ _ H _ I h=>ld_blt I hg hm hv ⟨v,H,I,r,h⟩ hn hd
variable {a b:Expr} {ta tb:TE} {pos:Pos}
variable {tA tB':TT} {rest:List Expr}
def tAnd (t u:TT):TT:=fun σ H Q=>t σ H fun c H1=>if c=true then u σ H1 Q else Q false H1
def tOr (t u:TT):TT:=fun σ H Q=>t σ H fun c H1=>if c=true then Q true H1 else u σ H1 Q
def tNot (t:TT):TT:=fun σ H Q=>t σ H fun c H1=>Q (!c) H1
theorem pw_and1 (ha:PT X a tA):PW X (.BoolOp .And [a] pos) tA:=by
 intro wh pins s σ H Q I h
 refine isTrue_and (thn (ha pins s σ H Q I h) fun c s1 e=>?_)
 cases c with
 | true=>exact isTrue_and_nil e
 | false=>exact e
theorem pw_or1 (ha:PT X a tA):PW X (.BoolOp .Or [a] pos) tA:=by
 intro wh pins s σ H Q I h
 refine isTrue_or (thn (ha pins s σ H Q I h) fun c s1 e=>?_)
 cases c with
 | false=>exact isTrue_or_nil e
 | true=>exact e
theorem pw_and (ha:PT X a tA) (hb:PW X (.BoolOp .And (b :: rest) pos) tB'):PW X (.BoolOp .And (a :: b :: rest) pos) (tAnd tA tB'):=by
 intro wh pins s σ H Q I h
 refine isTrue_and (thn (ha pins s σ H _ I h) fun c s1 ⟨H1,I1,q1⟩=>?_)
 cases c with
 | true=>exact hb wh pins s1 σ H1 Q I1 q1
 | false=>exact ⟨H1,I1,q1⟩
theorem pw_or (ha:PT X a tA) (hb:PW X (.BoolOp .Or (b :: rest) pos) tB'):PW X (.BoolOp .Or (a :: b :: rest) pos) (tOr tA tB'):=by
 intro wh pins s σ H Q I h
 refine isTrue_or (thn (ha pins s σ H _ I h) fun c s1 ⟨H1,I1,q1⟩=>?_)
 cases c with
 | true=>exact ⟨H1,I1,q1⟩
 | false=>exact hb wh pins s1 σ H1 Q I1 q1
theorem pt_not (ha:PT X a tA):PT X (.UnaryOp .Not a pos) (tNot tA):=by
 intro pins s σ H Q I h
 exact isTrue_not (ha pins s σ H (fun c H1=>Q (!c) H1) I h)
def tAndV (ta tb:TE):TE:=fun σ H Q=>ta σ H fun x H1=>∃ c,x=.bl c∧if c=true then tb σ H1 Q else Q (.bl false) H1
theorem pe_one {op} {t:TE} (h:PE X a t):PE X (.BoolOp op [a] pos) t:=fun pins s σ H Q I hw=>BoolOp_one (h pins s σ H Q I hw)
theorem pe_and (ha:PE X a ta) (hb:PE X (.BoolOp .And (b :: rest) pos) tb):PE X (.BoolOp .And (a :: b :: rest) pos) (tAndV ta tb):=by
 intro pins s σ H Q I h
 refine BoolOp_and (thn (ha pins s σ H _ I h) fun v s1 ⟨x,H1,I1,r1,q1⟩=>?_)
 obtain ⟨c,rfl,q1⟩:=q1
 cases r1
 refine wpAny_truthy_bool ?_
 cases c with
 | true=>exact hb pins s1 σ H1 Q I1 q1
 | false=>exact ⟨.bl false,H1,I1,rfl,q1⟩
end
def SqL (K:PySem.W.Frag) (H:Hp) (a:Addr) (xs:List V):Prop :=
 Rd H a (.lst xs) ∨
  ∃ (o:Obj) (its:Array Value) (n:Nat),K.lookup a=some o∧o.cls=.type "list"∧o.dict=none∧o.data=.seq its n∧its.size≤AL∧Vals xs its.toList
def SqT (K:PySem.W.Frag) (H:Hp) (a:Addr) (xs:List V):Prop :=
 Rd H a (.tup xs) ∨
  ∃ (o:Obj) (its:Array Value) (n:Nat),K.lookup a=some o∧o.cls=.type "tuple"∧o.data=.seq its n∧its.size≤AL∧Vals xs its.toList
def absV:Value→Option V
 | .none=>some .non
 | .bool b=>some (.bl b)
 | .int i _=>some (.int i)
 | .str x _=>some (.str x)
 | .bytes b _=>some (.byt b)
 | .float b _=>some (.flt b)
 | .ref a=>some (.ref a)
 | .type n=>some (.ty n)
 | _=>none
theorem RelV.abs {x:V} {u:Value} (r:RelV x u):absV u=some x:=by
 cases x with
 | non=>cases r; rfl
 | bl _=>cases r; rfl
 | int _=>obtain ⟨t,rfl⟩:=r; rfl
 | str _=>obtain ⟨t,rfl⟩:=r; rfl
 | byt _=>obtain ⟨t,rfl⟩:=r; rfl
 | flt _=>obtain ⟨t,rfl⟩:=r; rfl
 | ref _=>cases r; rfl
 | ty _=>cases r; rfl
theorem RelV.inj {x y:V} {u:Value} (r:RelV x u) (q:RelV y u):x=y:=Ax (r.abs.symm.trans q.abs)
theorem Vals.inj:∀ {xs ys:List V} {us:List Value},Vals xs us→Vals ys us→xs=ys
 | _,_,_,.nil,.nil=>rfl
 | _,_,_,.cons r t,.cons r' t'=>by rw [r.inj r',Vals.inj t t']
section
variable {X:Cx} {pins:List (Addr×Obj)} {σ:St} {H:Hp} {s:Shared} {a:Addr} {xs ys:List V}
theorem SqL.of {K:PySem.W.Frag} (h:H a=some (.lst xs)):SqL K H a xs:=.inl (.inl h)
theorem SqT.of {K:PySem.W.Frag} (h:H a=some (.tup xs)):SqT K H a xs:=.inl (.inl h)
theorem Inv.list (I:Inv X pins σ H s) (h:SqL X.K H a xs):∃ its:List Value,Vals xs its∧PlainL s.heap a its.toArray∧xs.length≤AL:=by
 rcases h with h | ⟨o,its,n,hk,hc,hd,hs,hz,r⟩
 ·obtain ⟨z,its,n,r,e⟩:=h.ok I.hok
  exact ⟨its,r,⟨_,n,e,rfl,rfl,rfl⟩,z⟩
 ·refine ⟨its.toList,r,⟨o,n,I.kIn a o hk,hc,hd,by simpa using hs⟩,?_⟩
  have e:=r.length
  simp only [Array.length_toList] at e
  lia
theorem Inv.tuple (I:Inv X pins σ H s) (h:SqT X.K H a xs):∃ its:List Value,Vals xs its∧IsTup s.heap a its.toArray∧xs.length≤AL:=by
 rcases h with h | ⟨o,its,n,hk,hc,hs,hz,r⟩
 ·obtain ⟨z,its,r,p⟩:=h.ok I.hok
  exact ⟨its,r,p,z⟩
 ·refine ⟨its.toList,r,⟨o,I.kIn a o hk,hc,n,by simpa using hs⟩,?_⟩
  have e:=r.length
  simp only [Array.length_toList] at e
  lia
theorem Inv.list_inj (I:Inv X pins σ H s) (h:SqL X.K H a xs) (h':SqL X.K H a ys):xs=ys:=by
 obtain ⟨its,r,⟨o,n,e,_,_,d⟩,_⟩:=I.list h
 obtain ⟨its',r',⟨o',n',e',_,_,d'⟩,_⟩:=I.list h'
 rw [e] at e'; cases e'
 rw [d] at d'
 injection d' with d1 _
 have:its=its':=by simpa using congrArg Array.toList d1
 subst this
 exact r.inj r'
end
abbrev Cx.wish (X:Cx) (E:Value→Shared→Prop):Cx:={ X with xe:=E }
theorem Cx.Ok.wish {X:Cx} (ok:X.Ok) (E:Value→Shared→Prop):(X.wish E).Ok :=
 ⟨ok.mod,ok.kind,ok.glob,ok.blt,ok.above,ok.inj,ok.has,ok.cab,ok.hd,ok.frames,ok.stk,ok.exf,ok.bs,ok.bsz,ok.noex,ok.exfs,ok.funs,ok.frf⟩
theorem Cx.Ok.unwish {X:Cx} {E:Value→Shared→Prop} (ok:(X.wish E).Ok):X.Ok :=
 ⟨ok.mod,ok.kind,ok.glob,ok.blt,ok.above,ok.inj,ok.has,ok.cab,ok.hd,ok.frames,ok.stk,ok.exf,ok.bs,ok.bsz,ok.noex,ok.exfs,ok.funs,ok.frf⟩
section
variable {X:Cx} {pins:List (Addr×Obj)} {σ:St} {H:Hp} {s:Shared} {E:Value→Shared→Prop}
theorem Inv.wish (I:Inv X pins σ H s) (E:Value→Shared→Prop):Inv (X.wish E) pins σ H s:=⟨I.ok.wish E,I.os,I.bare,I.base,I.loc,I.cell,I.free,I.freeC,I.pin,I.hok,I.len⟩
theorem Inv.unwish (I:Inv (X.wish E) pins σ H s):Inv X pins σ H s:=⟨I.ok.unwish,I.os,I.bare,I.base,I.loc,I.cell,I.free,I.freeC,I.pin,I.hok,I.len⟩
end
section
variable {X:Cx} {st:Stmt} {rest:List Stmt} {t u:TS} {e:Expr} {te:TE} {pos:Pos}
def tNext:TS:=fun D σ H=>D.nx σ H
def tSeq (t u:TS):TS:=fun D σ H=>t { D with nx:=u D } σ H
theorem pss_nil:PSs X [] tNext:=fun _ _ σ H _ I h=>wpAny_execs_nil ⟨σ,H,I,h⟩
theorem pss_cons (h1:PS X st t) (h2:PSs X rest u):PSs X (st :: rest) (tSeq t u):=by
 intro pins s σ H D I h
 refine wpAny_execs_cons (thn (h1 pins s σ H { D with nx:=u D } I h) fun f s1 q=>?_)
 cases f with
 | next =>
  obtain ⟨σ',H',I',q⟩:=q
  exact h2 pins s1 σ' H' D I' q
 | ret v=>exact q
 | brk=>exact q
 | cont=>exact q
theorem pss_one (h1:PS X st t):PSs X [st] t:=by
 intro pins s σ H D I h
 refine wpAny_execs_cons (thn (h1 pins s σ H D I h) fun f s1 q=>?_)
 cases f with
 | next=>exact wpAny_execs_nil q
 | ret v=>exact q
 | brk=>exact q
 | cont=>exact q
theorem Inv.quiet {pins:List (Addr×Obj)} {σ:St} {H:Hp} {s:Shared} (I:Inv X pins σ H s):interactive X.env=false:=by simp [interactive,I.ok.kind]
def tDrop (te:TE):TS:=fun D σ H=>te σ H fun _ H1=>D.nx σ H1
theorem ps_expr (he:PE X e te) (hs:swapsWith e none pos.line X.env=pure false:=by rfl):PS X (.Expr e pos) (tDrop te):=by
 intro pins s σ H D I h
 exact wpAny_Expr_any (thn (he pins s σ H _ I h) fun v s1 ⟨x,H1,I1,r1,q1⟩=>⟨σ,H1,I1,q1⟩) I.quiet hs
def tRet (te:TE):TS:=fun D σ H=>te σ H D.rt
theorem ps_ret (he:PE X e te):PS X (.Return (some e) pos) (tRet te):=by
 intro pins s σ H D I h
 exact wpAny_Return_some (thn (he pins s σ H _ I h) fun v s1 ⟨x,H1,I1,r1,q1⟩=>⟨x,σ,H1,I1,r1,q1⟩)
def tIfS (c:TT) (t u:TS):TS:=fun D σ H=>c σ H fun b H1=>if b=true then t D σ H1 else u D σ H1
theorem ps_if {c:Expr} {a b:List Stmt} {tc:TT} (hc:PT X c tc) (ha:PSs X a t) (hb:PSs X b u):PS X (.If c a b pos) (tIfS tc t u):=by
 intro pins s σ H D I h
 refine wpAny_If (thn (hc pins s σ H _ I h) fun d s1 ⟨H1,I1,q1⟩=>?_)
 cases d with
 | true=>exact ha pins s1 σ H1 D I1 q1
 | false=>exact hb pins s1 σ H1 D I1 q1
end
abbrev TG:=V→St→Hp→(St→Hp→Prop)→Prop
abbrev TGs:=List V→St→Hp→(St→Hp→Prop)→Prop
def PG (X:Cx) (target:Expr) (t:TG):Prop :=
 ∀ (pins:List (Addr×Obj)) (s:Shared) (σ:St) (H:Hp) (v:V) (u:Value) (Q:St→Hp→Prop),Inv X pins σ H s→RelV v u→t v σ H Q →
  wpAny (model X.prog X.w) X.A (assign target X.env u) (fun _ s'=>∃ σ' H',Inv X pins σ' H' s'∧Q σ' H') X.xe s
def PGs (X:Cx) (ts:List Expr) (t:TGs):Prop :=
 ∀ (pins:List (Addr×Obj)) (s:Shared) (σ:St) (H:Hp) (vs:List V) (us:List Value) (Q:St→Hp→Prop),Inv X pins σ H s→Vals vs us→t vs σ H Q →
  wpAny (model X.prog X.w) X.A (assignInOrder ((assignEach ts X.env).map (·.2)) us) (fun _ s'=>∃ σ' H',Inv X pins σ' H' s'∧Q σ' H') X.xe s
abbrev TSet:=V→V→V→Hp→(Hp→Prop)→Prop
def PSet (X:Cx) (t:TSet):Prop :=
 ∀ (pins:List (Addr×Obj)) (s:Shared) (σ:St) (H:Hp) (o i v:V) (ov iv u:Value) (Q:Hp→Prop),Inv X pins σ H s→RelV o ov→RelV i iv→RelV v u→t o i v H Q →
  wpAny (model X.prog X.w) X.A (setItem ov iv u) (fun _ s'=>∃ H',Inv X pins σ H' s'∧Q H') X.xe s
abbrev TIp:=V→V→Hp→VK→Prop
def PIp (X:Cx) (op:Operator) (t:TIp):Prop :=
 ∀ (pins:List (Addr×Obj)) (s:Shared) (σ:St) (H:Hp) (x y:V) (v u:Value) (Q:VK),Inv X pins σ H s→RelV x v→RelV y u→t x y H Q →
  wpAny (model X.prog X.w) X.A (inplaceOp op v u) (EP X pins σ Q) X.xe s
section
variable {X:Cx} {pos:Pos}
def gName (i:Nat):TG:=fun v σ H Q=>Q (σ.set i (some v)) H
theorem pg_name {i:Nat} {x:Str} (hN:X.N.Nodup) (hi:X.N[i]?=some x) (hx:Loc X.env.scope x) (hf:X.fn x=true∨X.env.scope.names.lookup x=some .local:=by first | exact .inl rfl | exact .inr rfl | assumption):PG X (.Name x pos) (gName i):=by
 intro pins s σ H v u Q I r h
 exact wpAny_assign_Name (store_ok I hN hi hx r (fun s' I'=>⟨_,H,I',h⟩) hf)
def gNil:TGs:=fun vs σ H Q=>vs=[]∧Q σ H
inductive PgCons (t:TG) (u:TGs) (vs:List V) (σ:St) (H:Hp) (Q:(St→Hp→Prop)):Prop
 | mk (v r:_) (h0:vs=v :: r) (h1:t v σ H fun σ' H'=>u r σ' H' Q):PgCons t u vs σ H Q
def gCons (t:TG) (u:TGs):TGs:=fun vs σ H Q=>PgCons t u vs σ H Q
theorem pgs_nil:PGs X [] gNil:=by
 intro pins s σ H vs us Q I r h
 obtain ⟨e,h⟩:=h
 subst e
 cases r
 exact assignInOrder_nil ⟨σ,H,I,h⟩
theorem pgs_cons {e:Expr} {es:List Expr} {t:TG} {u:TGs} (h1:PG X e t) (h2:PGs X es u)
  (hs:(assignEach (e :: es) X.env).map (·.2)=assign e X.env :: (assignEach es X.env).map (·.2):=by rfl):PGs X (e :: es) (gCons t u):=by
 intro pins s σ H vs us Q I r h
 obtain ⟨v,vr,e1,h⟩:=h
 subst e1
 cases r with
 | cons r rr =>
  rw [hs]
  refine assignInOrder_cons (thn (h1 pins s σ H _ _ _ I r h) fun _ s1 ⟨σ1,H1,I1,q1⟩=>?_)
  exact h2 pins s1 σ1 H1 _ _ Q I1 rr q1
inductive PgTup (K:PySem.W.Frag) (n:Nat) (t:TGs) (v:V) (σ:St) (H:Hp) (Q:(St→Hp→Prop)):Prop
 | mk (a xs:_) (h0:v=.ref a) (h1:SqT K H a xs) (h2:xs.length=n) (h3:t xs σ H Q):PgTup K n t v σ H Q
def gTup (K:PySem.W.Frag) (n:Nat) (t:TGs):TG:=fun v σ H Q=>PgTup K n t v σ H Q
theorem pg_tup {es:List Expr} {k:Nat} {t:TGs} {n:Nat} (hc:X.calm=true) (h:PGs X es t)
  (hn:(assignEach es X.env).length=n:=by rfl) (hst:(assignEach es X.env).findIdx? (·.1)=none:=by rfl):PG X (.Tuple es k pos) (gTup X.K n t):=by
 intro pins s σ H v u Q I r hw
 obtain ⟨a,xs,e1,hq,hl,hw⟩:=hw
 subst e1
 cases r
 obtain ⟨its,rv,ht,hz⟩:=I.tuple hq
 refine assign_Tuple_tuple (I.ok.hd hc) ht (by simp [hn,← hl,rv.length]) hst fun h' hx=>?_
 have I1:Inv X pins σ H { s with heap:=h' }:=I.kept (t':=s.toks) fun b o e=>hx b o (AU (AK e)) e
 exact h pins _ σ H xs _ Q I1 (by simpa using rv) hw
def gSub (to ti:TE) (t:TSet):TG:=fun v σ H Q=>to σ H fun o H1=>ti σ H1 fun i H2=>t o i v H2 fun H3=>Q σ H3
theorem pg_sub {o i:Expr} {to ti:TE} {t:TSet} (ho:PE X o to) (hi:PE X i ti) (hs:PSet X t)
  (ha:∀ v,assign (.Subscript o i pos) X.env v=(do
   let ov ← holding [v] (eval o X.env)
   let iv ← holding [v,ov] (eval i X.env)
   standAt pos
   holding [v,ov,iv] (setItem ov iv v)
   release [v,ov,iv] []):=by intro _; rfl):PG X (.Subscript o i pos) (gSub to ti t):=by
 intro pins s σ H v u Q I r h
 rw [ha]
 refine AC (wpAny_holding (thn (ho pins s σ H _ I h) fun ov s1 ⟨x,H1,I1,r1,q1⟩=>?_))
 refine AC (wpAny_holding (thn (hi pins s1 σ H1 _ I1 q1) fun iv s2 ⟨y,H2,I2,r2,q2⟩=>?_))
 refine AC (wpAny_standAt (AC (wpAny_holding (thn (hs pins s2 σ H2 x y v ov iv u _ I2 r1 r2 r q2) fun _ s3 ⟨H3,I3,q3⟩=>?_))))
 exact wpAny_release ⟨σ,H3,I3,q3⟩
def tAsg (te:TE) (g:TG):TS:=fun D σ H=>te σ H fun x H1=>g x σ H1 D.nx
theorem ps_asg {tg e:Expr} {te:TE} {g:TG} (he:PE X e te) (hg:PG X tg g) (hs:swapsWithSole [tg] e pos.line X.env=pure false:=by rfl) (hw:swappedStores [tg] e X.env=pure none:=by rfl)
  (h1:(assignEach [tg] X.env).map (·.2)=[assign tg X.env]:=by rfl):PS X (.Assign [tg] e pos) (tAsg te g):=by
 intro pins s σ H D I h
 refine wpAny_Assign_stores (thn (he pins s σ H _ I h) fun v s1 ⟨x,H1,I1,r1,q1⟩=>?_) hs hw
 rw [h1]
 exact thn (hg pins s1 σ H1 x v _ I1 r1 q1) fun _ s2 q=>q
theorem ps_set {i:Nat} {x:Str} {e:Expr} {te:TE} {pos':Pos} (hN:X.N.Nodup) (hi:X.N[i]?=some x) (hx:Loc X.env.scope x) (he:PE X e te) (hs:swapsWith e (some (.Name x pos')) pos.line X.env=pure false:=by rfl) (hf:X.fn x=true∨X.env.scope.names.lookup x=some .local:=by first | exact .inl rfl | exact .inr rfl | assumption) :
  PS X (.Assign [.Name x pos'] e pos) (tAsg te (gName i)):=by
 intro pins s σ H D I h
 refine wpAny_Assign_Name (thn (he pins s σ H _ I h) fun v s1 ⟨y,H1,I1,r1,q1⟩=>?_) hs
 exact store_ok I1 hN hi hx r1 (fun s2 I2=>⟨_,H1,I2,q1⟩) hf
def tAug (i:Nat) (te:TE) (ti:TIp):TS:=fun D σ H=>∃ x,σ[i]?=some (some x)∧te σ H fun y H1=>ti x y H1 fun z H2=>D.nx (σ.set i (some z)) H2
theorem ps_aug {i:Nat} {x:Str} {e:Expr} {te:TE} {op:Operator} {ti:TIp} {pos':Pos} (hN:X.N.Nodup) (hi:X.N[i]?=some x) (hx:Loc X.env.scope x) (he:PE X e te) (ho:PIp X op ti) (hf:X.fn x=true∨X.env.scope.names.lookup x=some .local:=by first | exact .inl rfl | exact .inr rfl | assumption) :
  PS X (.AugAssign (.Name x pos') op e pos) (tAug i te ti):=by
 intro pins s σ H D I h
 obtain ⟨v,e1,h⟩:=h
 obtain ⟨m,hn,hl⟩:=I.loc
 have vis:Vis X.env.scope x:=by rcases hx with k | k; exact .inl k; exact .inr (.inl k)
 obtain ⟨u,r,l⟩:=hl i x v hi e1 vis
 refine wpAny_AugAssign_Name ?_
 have go:wpAny (model X.prog X.w) X.A (eval e X.env) (fun w s₂=>wpAny (model X.prog X.w) X.A (inplaceOp op u w) (fun r s₃=>wpAny (model X.prog X.w) X.A (storeName X.env x r) (fun _=>SP X pins D .next) X.xe s₃) X.xe s₂) X.xe s:=by
  refine thn (he pins s σ H _ I h) fun w s1 ⟨y,H1,I1,r1,q1⟩=>?_
  refine thn (ho pins s1 σ H1 v y u w _ I1 r r1 q1) fun z s2 ⟨zv,H2,I2,r2,q2⟩=>?_
  exact store_ok I2 hN hi hx r2 (fun s3 I3=>⟨_,H2,I3,q2⟩) hf
 rcases l with ⟨hk,hm⟩ | ⟨hk,c,hc,hcell⟩
 ·exact wpAny_loadName_local I.ok.kind hk hn hm go
 ·rcases hk with hk | hk
  ·exact wpAny_loadName_cell I.ok.kind hk hc hcell go
  ·rcases hx with k | k
   ·have:X.env.scope.names.lookup x=some .free:=hk
    rw [k] at this; cases this
   ·have:X.env.scope.names.lookup x=some .free:=hk
    rw [k] at this; cases this
def ipI (f:Int→Int→Int):TIp:=fun x y H Q=>∃ i j,x=.int i∧y=.int j∧Q (.int (f i j)) H
theorem ip_add:PIp X .Add (ipI fun i j=>i + j):=by
 intro pins s σ H x y v u Q I r1 r2 h
 obtain ⟨i,j,e1,e2,q⟩:=h
 subst e1; subst e2
 obtain ⟨t,rfl⟩:=r1
 obtain ⟨t',rfl⟩:=r2
 exact iadd_int ⟨.int _,H,I.tok _,⟨_,rfl⟩,q⟩
end
section
variable {X:Cx} {pos:Pos}
end
structure It where
 go:Nat→Hp→Prop
 yld:Nat→Hp→V→Hp→Prop
 stop:Nat→Hp→Prop
def FpOk (X:Cx) (pins:List (Addr×Obj)) (H:Hp) (b:Addr):Prop :=
 H b=none∧b≠X.env.locals∧b ∉ X.fs∧(b∈X.ex∨X.s₀.heap.objs.size≤b)∧(∀ x c,X.env.cells.lookup x=some c→c≠b)∧∀ p∈X.pn++pins,p.1≠b
theorem Inv.fpOk {X:Cx} {pins:List (Addr×Obj)} {σ:St} {H H':Hp} {s:Shared} {b:Addr} (I:Inv X pins σ H s) (hb:s.heap.objs.size≤b) (hn:H' b=none):FpOk X pins H' b:=by
 refine ⟨hn,Nat.ne_of_gt (Aa I.lt hb),I.nofs hb,.inr (Ag I.sz hb),fun x c e z=>?_,fun p hp z=>?_⟩
 ·obtain ⟨v,q⟩:=I.cell x c e
  exact absurd (Aa q.lt (by rw [z]; exact hb)) (Nat.lt_irrefl _)
 ·exact absurd (Aa (AK (I.pin p hp).1) (by rw [z]; exact hb)) (Nat.lt_irrefl _)
structure Turn (P:Program) (w:World) (K:PySem.W.Frag) (tg:Expr) (J:It) (fp:List Addr) (it:Addr) (tn:Nat→Heap→Prop):Prop where
 mem:it∈fp
 obj:∀ i h,tn i h→∀ b∈fp,∃ o,h.get? b=some o∧∀ v,o.data≠.cell v
 keep:∀ i h h',tn i h→(∀ b∈fp,∀ o,h.get? b=some o→h'.get? b=some o)→tn i h'
 item:∀ (X:Cx),X.prog=P→X.w=w→X.K=K→X.calm=true→∀ (i:Nat) (pins:List (Addr×Obj)) (s:Shared) (σ:St) (H:Hp) (E:Value→Shared→Prop),Inv X pins σ H s→(∀ b∈fp,FpOk X pins H b)→tn i s.heap→J.go i H →
  wpAny (model P w) X.A (pyNext (.ref it)) (fun r s1=>∃ u,r=some u ∧
   wpAny (model P w) X.A (letOwnedTupleGo tg (.ref it) u) (fun _ s2=>∃ x H',Inv X pins σ H' s2∧RelV x u∧J.yld i H x H'∧tn (i + 1) s2.heap∧∀ b∈fp,H' b=none) E s1) E s
 done:∀ (X:Cx),X.prog=P→X.w=w→X.K=K→X.calm=true→∀ (i:Nat) (pins:List (Addr×Obj)) (s:Shared) (σ:St) (H:Hp) (E:Value→Shared→Prop),Inv X pins σ H s→(∀ b∈fp,FpOk X pins H b)→tn i s.heap→J.stop i H →
  wpAny (model P w) X.A (pyNext (.ref it)) (fun r s1=>r=none∧Inv X pins σ H s1) E s
 self:∀ (A:Around) (i:Nat) (s:Shared) (Q:Value→Shared→Prop) (E:Value→Shared→Prop),tn i s.heap→Q (.ref it) s→wpAny (model P w) A (pyIter (.ref it)) Q E s
abbrev TI:=St→Hp→(It→Hp→Prop)→Prop
def PIE (X:Cx) (pins:List (Addr×Obj)) (σ:St) (tg:Expr) (R:It→Hp→Prop) (itv:Value) (s2:Shared):Prop :=
 ∃ (it:Addr) (fp:List Addr) (tn:Nat→Heap→Prop) (J:It) (H':Hp),itv=.ref it∧Inv X pins σ H' s2∧Turn X.prog X.w X.K tg J fp it tn∧tn 0 s2.heap∧(∀ b∈fp,FpOk X pins H' b)∧R J H'
def PI (X:Cx) (tg iter:Expr) (wi:TI):Prop :=
 ∀ (pins:List (Addr×Obj)) (s:Shared) (σ:St) (H:Hp) (R:It→Hp→Prop),Inv X pins σ H s→wi σ H R →
  wpAny (model X.prog X.w) X.A (eval iter X.env) (fun v s1=>wpAny (model X.prog X.w) X.A (pyIter v) (PIE X pins σ tg R) X.xe s1) X.xe s
theorem go_of {M:Model} {A:Around} {E:Value→Shared→Prop} {s:Shared} {tg:Expr} {it:Addr} {u:Value} {o:Obj} {n:String} {vs:Array Value} {Q:Unit→Shared→Prop} (ho:s.heap.get? it=some o) (hc:o.cls=.type n) (hd:o.data=.fields vs)
  (hn:["enumerate","zip","dict_itemiterator","dict_reverseitemiterator","odict_iterator","itertools.zip_longest","itertools.pairwise"].contains n=false) (hQ:Q () s):wpAny M A (letOwnedTupleGo tg (.ref it) u) Q E s:=by
 unfold letOwnedTupleGo
 cases tg <;> first
  | exact AM hQ
  | (cases u <;> first
    | exact AM hQ
    | (refine AC (wpAny_load ho ?_)
       rw [hc,hd]
       show wpAny M A (if (["enumerate","zip","dict_itemiterator","dict_reverseitemiterator","odict_iterator","itertools.zip_longest","itertools.pairwise"].contains n && vs[0]? == some (rawInt _))=true then _ else _) Q E s
       rw [if_neg (by intro h; rw [hn,Bool.false_and] at h; cases h)]
       exact AM hQ))
def Itl (K:PySem.W.Frag) (a:Addr):It :=
 ⟨fun i H=>∃ xs x,SqL K H a xs∧xs[i]?=some x,fun i H x H'=>H'=H∧∀ xs,SqL K H a xs→xs[i]?=some x,fun i H=>∃ xs,SqL K H a xs∧xs.length≤i⟩
def Itr (lo:Int) (n:Nat):It:=⟨fun i _=>i < n,fun i H x H'=>H'=H∧x=.int (lo + i),fun i _=>n≤i⟩
theorem turn_list {P:Program} {w:World} {K:PySem.W.Frag} {tg:Expr} (a it:Addr):Turn P w K tg (Itl K a) [it] it (fun i h=>h.IsListIter it a i) where
 mem:=by simp
 obj:=fun i h st b hb=>by
  have e:b=it:=by simpa using hb
  subst e
  obtain ⟨o,e,c,d⟩:=st
  exact ⟨o,e,fun v z=>by rw [d] at z; cases z⟩
 keep:=fun i h h' st k=>st.at fun o e=>k it (by simp) o e
 item:=by
  intro X hP hw hK hc i pins s σ H E I hf st hg
  subst hP hw hK
  obtain ⟨xs,x,hq,hx⟩:=hg
  obtain ⟨its,rv,p,hz⟩:=I.list hq
  obtain ⟨u,hu,ru⟩:=rv.get hx
  obtain ⟨f0,f1,f2,f3,f4,f5⟩:=hf it (by simp)
  refine wpAny_pyNext_list_item st p.isList (x:=u) (by simpa using hu) fun h' st' sb=>?_
  have I1:Inv X pins σ H { s with heap:=h' }:=I.turned (t':=s.toks) (fun b o hb e=>(sb.2 b hb).trans e) f0 f1 f3 f4 f5
  obtain ⟨o,e,c,d⟩:=id st'
  exact ⟨u,rfl,go_of (s:={ s with heap:=h' }) e c d (by decide) ⟨x,H,I1,ru,⟨rfl,fun ys hy=>by rw [I.list_inj hy hq]; exact hx⟩,st',fun b hb=>(hf b hb).1⟩⟩
 done:=by
  intro X hP hw hK hc i pins s σ H E I hf st hg
  subst hP hw hK
  obtain ⟨xs,hq,hx⟩:=hg
  obtain ⟨its,rv,p,hz⟩:=I.list hq
  obtain ⟨f0,f1,f2,f3,f4,f5⟩:=hf it (by simp)
  have hl:=rv.length
  exact wpAny_pyNext_list_end (I.ok.hd hc) st p.isList (by simp; lia) fun h' eb=>⟨rfl,I.turned (t':=s.toks) (fun b o hb e=>eb b o hb e) f0 f1 f3 f4 f5⟩
 self:=fun _ _ _ _ _ st h=>wpAny_pyIter_listiter st h
theorem turn_range {P:Program} {w:World} {K:PySem.W.Frag} {tg:Expr} (it:Addr) (lo:Int) (n:Nat):Turn P w K tg (Itr lo n) [it] it (fun i h=>IsRangeIter h it (lo + (i:Nat) * 1) ((n:Int) - (i:Nat)) 1) where
 mem:=by simp
 obj:=fun i h st b hb=>by
  have e:b=it:=by simpa using hb
  subst e
  exact ⟨_,st,fun v z=>by
   have z':Data.fields _=Data.cell v:=z
   cases z'⟩
 keep:=fun i h h' st k=>k it (by simp) _ st
 item:=by
  intro X hP hw hK hc i pins s σ H E I hf st hg
  subst hP hw hK
  obtain ⟨f0,f1,f2,f3,f4,f5⟩:=hf it (by simp)
  have W:=Walks.range (prog:=X.prog) (w:=X.w) (I.ok.hd hc) it lo 1 n
  refine W.item i s _ _ hg st fun v h' tk hv st' kk=>?_
  obtain ⟨t,rfl⟩:=hv
  have I1:Inv X pins σ H { s with heap:=h',toks:=tk }:=I.turned (fun b o hb e=>kk b o (by simpa using hb) e) f0 f1 f3 f4 f5
  refine ⟨_,rfl,go_of (s:={ s with heap:=h',toks:=tk }) (n:="range_iterator") st' rfl rfl (by decide) ⟨.int (lo + i),H,I1,⟨t,?_⟩,⟨rfl,rfl⟩,st',fun b hb=>(hf b hb).1⟩⟩
  rw [Int.mul_one]
 done:=by
  intro X hP hw hK hc i pins s σ H E I hf st hg
  subst hP hw hK
  obtain ⟨f0,f1,f2,f3,f4,f5⟩:=hf it (by simp)
  exact wpAny_pyNext_range_end (I.ok.hd hc) st (by have:n≤i:=hg; lia) fun h' eb=>⟨rfl,I.turned (t':=s.toks) (fun b o hb e=>eb b o hb e) f0 f1 f3 f4 f5⟩
 self:=fun _ _ _ _ _ st h=>wpAny_pyIter_rangeiter st h
section
variable {X:Cx} {tg:Expr}
inductive PiList (K:PySem.W.Frag) (x:V) (H:Hp) (R:It→Hp→Prop):Prop
 | mk (a:Addr) (h0:x=.ref a) (h1:∃ xs,SqL K H a xs) (h2:R (Itl K a) H):PiList K x H R
def iList (K:PySem.W.Frag) (tl:TE):TI:=fun σ H R=>tl σ H fun x H1=>PiList K x H1 R
theorem pi_list {l:Expr} {tl:TE} (hl:PE X l tl):PI X tg l (iList X.K tl):=by
 intro pins s σ H R I h
 refine thn (hl pins s σ H _ I h) fun v s1 ⟨x,H1,I1,r1,q1⟩=>?_
 obtain ⟨a,e,⟨xs,hq⟩,q⟩:=q1
 subst e
 cases r1
 obtain ⟨its,rv,p,hz⟩:=I1.list hq
 refine wpAny_pyIter_list p.isList ?_
 refine ⟨s1.heap.objs.size,[s1.heap.objs.size],_,_,H1,rfl,I1.kept (t':=s1.toks) fun b o e=>AH _ e,turn_list a _,⟨_,Al _ rfl,rfl,rfl⟩,fun b hb=>?_,q⟩
 have e:b=s1.heap.objs.size:=by simpa using hb
 subst e
 exact I1.fpOk (AD _) (I1.hok.fresh (AD _))
theorem range_it {pins:List (Addr×Obj)} {σ:St} {H:Hp} {s:Shared} {R:It→Hp→Prop} {E:Value→Shared→Prop} {lo hi:Int} {t u v:Tok} {tk:Nat} (I:Inv X pins σ H s) (h1:-(2 ^ 62)≤lo) (h2:lo < 2 ^ 62) (h3:-(2 ^ 62)≤hi) (h4:hi < 2 ^ 62)
  (q:R (Itr lo (hi - lo).toNat) H):wpAny (model X.prog X.w) X.A (pyIter (.ref s.heap.objs.size)) (PIE X pins σ tg R) E { s with heap:=s.heap.push { cls:=.type "range",data:=.fields #[.int lo t,.int hi u,.int 1 v] },toks:=tk }:=by
 refine wpAny_pyIter_range (IsRange.new ..) (small_one h1 h2 h3 h4) ?_
 have I1:Inv X pins σ H { s with heap:=s.heap.push { cls:=.type "range",data:=.fields #[.int lo t,.int hi u,.int 1 v] },toks:=tk }:=I.kept fun b o e=>AH _ e
 refine ⟨(s.heap.push { cls:=.type "range",data:=.fields #[.int lo t,.int hi u,.int 1 v] }).objs.size,[(s.heap.push { cls:=.type "range",data:=.fields #[.int lo t,.int hi u,.int 1 v] }).objs.size],_,_,H,rfl,
  I1.kept (t':=tk) fun b o e=>AH _ e,turn_range _ lo (hi - lo).toNat,?_,fun b hb=>?_,q⟩
 ·have e1:lo + ((0:Nat):Int) * 1=lo:=by simp
  have e2:(((hi - lo).toNat:Nat):Int) - ((0:Nat):Int)=Builtin.Range.rangeSize lo hi 1:=by rw [rangeSize_one]; split <;> lia
  show IsRangeIter _ _ (lo + ((0:Nat):Int) * 1) ((((hi - lo).toNat:Nat):Int) - ((0:Nat):Int)) 1
  rw [e1,e2]
  exact Al _ rfl
 ·have e:b=(s.heap.push { cls:=.type "range",data:=.fields #[.int lo t,.int hi u,.int 1 v] }).objs.size:=by simpa using hb
  subst e
  exact I1.fpOk (AD _) (I1.hok.fresh (AD _))
inductive PiRng1 (vs:List V) (H:Hp) (R:It→Hp→Prop):Prop
 | mk (j:Int) (h0:vs=[.int j]) (h1:-(2 ^ 62)≤j) (h2:j < 2 ^ 62) (h3:R (Itr 0 j.toNat) H):PiRng1 vs H R
def iRng1 (ta:TA):TI:=fun σ H R=>ta σ H fun vs H1=>PiRng1 vs H1 R
def iRng2 (ta:TA):TI:=fun σ H R=>ta σ H fun vs H1=>∃ i j:Int,vs=[.int i,.int j]∧(-(2 ^ 62)≤i∧i < 2 ^ 62∧-(2 ^ 62)≤j∧j < 2 ^ 62)∧R (Itr i (j - i).toNat) H1
theorem pi_range1 {a:Expr} {ta:TA} {p pos:Pos} (hg:Gl X "range") (hm:X.mg "range"=none) (ha:PA X [a] ta) (hs:Af [a] X.env=[(false,eval a X.env)]:=by rfl):PI X tg (.Call (.Name "range" p) [a] [] pos) (iRng1 ta):=by
 intro pins s σ H R I h
 refine Call_ (ld_blt I hg hm boot_range (PyProof.Rows.callWith_type1 (thn (ha pos pins s σ H _ I h) fun us s1 ⟨vs,H1,I1,r1,q1⟩=>?_) hs rfl))
 obtain ⟨j,e,q1,q2,q⟩:=q1
 subst e
 cases r1 with
 | cons r rr =>
  cases rr
  obtain ⟨t,rfl⟩:=r
  exact call_range_1 (range_it I1 (by lia) (by lia) q1 q2 (by simpa using q))
theorem pi_range2 {a b:Expr} {ta:TA} {p pos:Pos} (hg:Gl X "range") (hm:X.mg "range"=none) (ha:PA X [a,b] ta) (hs:Af [a,b] X.env=[(false,eval a X.env),(false,eval b X.env)]:=by rfl) (hs2:Af [b] X.env=[(false,eval b X.env)]:=by rfl) :
  PI X tg (.Call (.Name "range" p) [a,b] [] pos) (iRng2 ta):=by
 intro pins s σ H R I h
 refine Call_ (ld_blt I hg hm boot_range (PyProof.Rows.callWith_type1 (thn (ha pos pins s σ H _ I h) fun us s1 ⟨vs,H1,I1,r1,q1⟩=>?_) (by rw [hs,hs2]) (by rw [hs2]; rfl)))
 obtain ⟨i,j,e,⟨q1,q2,q3,q4⟩,q⟩:=q1
 subst e
 cases r1 with
 | cons r rr =>
  cases rr with
  | cons r' rr =>
   cases rr
   obtain ⟨t,rfl⟩:=r
   obtain ⟨t',rfl⟩:=r'
   exact call_range_2 (range_it I1 q1 q2 q3 q4 q)
def tFor (wi:TI) (g:TG) (tb:TS):TS:=fun D σ H=>wi σ H fun J H1=>∃ W:Nat→Nat→St→Hp→Prop,(∃ m,W 0 m σ H1)∧∀ i m σ H,W i m σ H →
 (J.stop i H∧D.nx σ H)∨(J.go i H∧∃ N:St→Hp→Prop,(∀ σ' H',N σ' H'→∃ m',m' < m∧W (i + 1) m' σ' H')∧∀ x H',J.yld i H x H'→g x σ H' fun σ2 H2=>tb { D with nx:=N,ct:=N,bk:=D.nx } σ2 H2)
def pinsAt (fp:List Addr) (h:Heap):List (Addr×Obj):=fp.filterMap fun b=>(h.get? b).map fun o=>(b,o)
theorem mem_pinsAt {fp:List Addr} {h:Heap} {b:Addr} {o:Obj} (hb:b∈fp) (e:h.get? b=some o):(b,o)∈pinsAt fp h:=List.mem_filterMap.mpr ⟨b,hb,by rw [e]; rfl⟩
theorem of_pinsAt {fp:List Addr} {h:Heap} {p:Addr×Obj} (hp:p∈pinsAt fp h):p.1∈fp∧h.get? p.1=some p.2:=by
 obtain ⟨b,hb,e⟩:=List.mem_filterMap.mp hp
 cases q:h.get? b with
 | none=>rw [q] at e; cases e
 | some o =>
  rw [q] at e
  have e':(b,o)=p:=Ax e
  subst e'
  exact ⟨hb,q⟩
theorem Inv.pinned {pins:List (Addr×Obj)} {σ:St} {H:Hp} {s:Shared} {fp:List Addr} (I:Inv X pins σ H s) (hf:∀ b∈fp,FpOk X pins H b) (ho:∀ b∈fp,∃ o,s.heap.get? b=some o∧∀ v,o.data≠.cell v):Inv X (pins++pinsAt fp s.heap) σ H s :=
 I.pins_of fun p hp=>(AY.mp hp).elim (fun z=>I.pin p (Ad _ z)) fun z=>by
  obtain ⟨hb,e⟩:=of_pinsAt z
  obtain ⟨f0,f1,f2,_⟩:=hf p.1 hb
  obtain ⟨o,e',d⟩:=ho p.1 hb
  rw [e] at e'; cases e'
  exact ⟨e,f0,f1,f2,d⟩
theorem Inv.unpinned {pins pl:List (Addr×Obj)} {σ:St} {H:Hp} {s:Shared} (I:Inv X (pins++pl) σ H s):Inv X pins σ H s:=I.pins_of fun p hp=>I.pin p (Ad _ (List.mem_append_left _ hp))
theorem ps_for {iter:Expr} {body:List Stmt} {wi:TI} {g:TG} {tb:TS} {pos:Pos} (hp:PassesOwn (model X.prog X.w) X.A X.env X.xe) (hc:X.calm=true) (hi:PI X tg iter wi) (hg:PG X tg g) (hb:PSs X body tb)
  (hs:∀ x,foldedSetIterable iter X.env x=pure x:=by intro _; rfl):PS X (.For tg iter body [] pos) (tFor wi g tb):=by
 intro pins s σ H D I h
 refine wpAny_For (thn (hi pins s σ H _ I h) fun v s1 h1=>thn h1 fun itv s2 h2=>?_) hs
 obtain ⟨it,fp,tn,J,H2,e,I2,T,st2,f2,W,⟨m0,w0⟩,turn⟩:=h2
 subst e
 have stat:∀ {H':Hp},(∀ b∈fp,H' b=none)→∀ b∈fp,FpOk X pins H' b:=fun hn b hb=>⟨hn b hb,(f2 b hb).2⟩
 refine codeAny_forLoop_any (fun n s'=>∃ i σ' H',Inv X pins σ' H' s'∧tn i s'.heap∧(∀ b∈fp,H' b=none)∧W i n σ' H') ?_ m0 ⟨0,σ,H2,I2,st2,fun b hb=>(f2 b hb).1,w0⟩
 rintro n s3 ⟨i,σ3,H3,I3,st3,fr3,w3⟩
 rcases turn i n σ3 H3 w3 with ⟨stop,qn⟩ | ⟨go,N,hN,step⟩
 ·refine wpAny_passesOwn hp (thn (T.done X rfl rfl rfl hc i pins s3 σ3 H3 X.xe I3 (stat fr3) st3 stop) fun r s4 ⟨hr,I4⟩=>?_)
  subst hr
  exact wpAny_execs_nil ⟨σ3,H3,I4,qn⟩
 ·refine wpAny_passesOwn hp (thn (T.item X rfl rfl rfl hc i pins s3 σ3 H3 X.xe I3 (stat fr3) st3 go) fun r s4 ⟨u,hr,h4⟩=>?_)
  subst hr
  refine wpAny_passesOwn hp (thn h4 fun _ s5 ⟨x,H5,I5,r5,y5,st5,fr5⟩=>?_)
  have I5':=I5.pinned (stat fr5) (T.obj _ _ st5)
  refine wpAny_passesOwn hp (thn (hg _ s5 σ3 H5 x u _ I5' r5 (step x H5 y5)) fun _ s6 ⟨σ6,H6,I6,q6⟩=>?_)
  refine wpAny_passesOwn hp (thn (hb _ s6 σ6 H6 _ I6 q6) fun f s7 q7=>?_)
  have again:∀ {σ7:St} {H7:Hp},Inv X (pins++pinsAt fp s5.heap) σ7 H7 s7→N σ7 H7→∃ m,m < n∧∃ i σ' H',Inv X pins σ' H' s7∧tn i s7.heap∧(∀ b∈fp,H' b=none)∧W i m σ' H':=fun {σ7 H7} I7 n7=>by
   obtain ⟨m',hm,w7⟩:=hN σ7 H7 n7
   refine ⟨m',hm,i + 1,σ7,H7,I7.unpinned,T.keep _ _ _ st5 fun b hb o e=>(I7.pin (b,o) (Ad _ (Ad _ (mem_pinsAt hb e)))).1,fun b hb=>?_,w7⟩
   obtain ⟨o,e,d⟩:=T.obj _ _ st5 b hb
   exact (I7.pin (b,o) (Ad _ (Ad _ (mem_pinsAt hb e)))).2.1
  cases f with
  | next=>obtain ⟨σ7,H7,I7,n7⟩:=q7; exact again I7 n7
  | cont=>obtain ⟨σ7,H7,I7,n7⟩:=q7; exact again I7 n7
  | brk=>obtain ⟨σ7,H7,I7,q7⟩:=q7; exact ⟨σ7,H7,I7.unpinned,q7⟩
  | ret v=>obtain ⟨x7,σ7,H7,I7,r7,q7⟩:=q7; exact ⟨x7,σ7,H7,I7.unpinned,r7,q7⟩
end
theorem for_list {K:PySem.W.Frag} {a:Addr} {xs:List V} {g:TG} {tb:TS} {D:Ends} {σ:St} {H:Hp} (Pv:Nat→St→Hp→Prop) (h0:Pv 0 σ H) (hl:∀ i σ H,i≤xs.length→Pv i σ H→SqL K H a xs)
  (hs:∀ i x σ H,xs[i]?=some x→Pv i σ H→g x σ H fun σ2 H2=>tb { D with nx:=Pv (i + 1),ct:=Pv (i + 1),bk:=D.nx } σ2 H2) (hd:∀ σ H,Pv xs.length σ H→D.nx σ H) :
  ∃ W:Nat→Nat→St→Hp→Prop,(∃ m,W 0 m σ H)∧∀ i m σ H,W i m σ H →
   ((Itl K a).stop i H∧D.nx σ H)∨((Itl K a).go i H∧∃ N:St→Hp→Prop,(∀ σ' H',N σ' H'→∃ m',m' < m∧W (i + 1) m' σ' H')∧∀ x H',(Itl K a).yld i H x H'→g x σ H' fun σ2 H2=>tb { D with nx:=N,ct:=N,bk:=D.nx } σ2 H2):=by
 refine ⟨fun i m σ H=>m=xs.length - i∧i≤xs.length∧Pv i σ H,⟨xs.length,by simp,Ai _,h0⟩,?_⟩
 rintro i m σ H ⟨rfl,hi,p⟩
 have q:=hl i σ H hi p
 by_cases hlt:i < xs.length
 ·refine .inr ⟨⟨xs,xs[i],q,by simp [hlt]⟩,Pv (i + 1),fun σ' H' p'=>⟨xs.length - (i + 1),by lia,rfl,hlt,p'⟩,fun x H' y=>?_⟩
  obtain ⟨e,y⟩:=y
  subst e
  exact hs i x σ _ (y xs q) p
 ·have e:i=xs.length:=by lia
  subst e
  exact .inl ⟨⟨xs,q,AD _⟩,hd σ H p⟩
theorem for_range {lo:Int} {n:Nat} {g:TG} {tb:TS} {D:Ends} {σ:St} {H:Hp} (Pv:Nat→St→Hp→Prop) (h0:Pv 0 σ H)
  (hs:∀ i σ H,i < n→Pv i σ H→g (.int (lo + i)) σ H fun σ2 H2=>tb { D with nx:=Pv (i + 1),ct:=Pv (i + 1),bk:=D.nx } σ2 H2) (hd:∀ σ H,Pv n σ H→D.nx σ H) :
  ∃ W:Nat→Nat→St→Hp→Prop,(∃ m,W 0 m σ H)∧∀ i m σ H,W i m σ H →
   ((Itr lo n).stop i H∧D.nx σ H)∨((Itr lo n).go i H∧∃ N:St→Hp→Prop,(∀ σ' H',N σ' H'→∃ m',m' < m∧W (i + 1) m' σ' H')∧∀ x H',(Itr lo n).yld i H x H'→g x σ H' fun σ2 H2=>tb { D with nx:=N,ct:=N,bk:=D.nx } σ2 H2):=by
 refine ⟨fun i m σ H=>m=n - i∧i≤n∧Pv i σ H,⟨n,by simp,Ai _,h0⟩,?_⟩
 rintro i m σ H ⟨rfl,hi,p⟩
 by_cases hlt:i < n
 ·refine .inr ⟨hlt,Pv (i + 1),fun σ' H' p'=>⟨n - (i + 1),by lia,rfl,hlt,p'⟩,fun x H' y=>?_⟩
  obtain ⟨e,y⟩:=y
  subst e y
  exact hs i σ _ hlt p
 ·have e:i=n:=by lia
  subst e
  exact .inl ⟨AD _,hd σ H p⟩
abbrev R2:=V→V→Hp→VK→Prop
def OpR (X:Cx) (f:Value→Value→Sem Value) (r:R2):Prop :=
 ∀ (pins:List (Addr×Obj)) (s:Shared) (σ:St) (H:Hp) (x y:V) (v u:Value) (Q:VK),Inv X pins σ H s→RelV x v→RelV y u→r x y H Q →
  wpAny (model X.prog X.w) X.A (f v u) (EP X pins σ Q) X.xe s
def UnR (X:Cx) (f:Value→Sem Value) (r:V→Hp→VK→Prop):Prop :=
 ∀ (pins:List (Addr×Obj)) (s:Shared) (σ:St) (H:Hp) (x:V) (v:Value) (Q:VK),Inv X pins σ H s→RelV x v→r x H Q →
  wpAny (model X.prog X.w) X.A (f v) (EP X pins σ Q) X.xe s
def CallR (X:Cx) (f:Value) (r:List V→Hp→VK→Prop):Prop :=
 ∀ (pins:List (Addr×Obj)) (s:Shared) (σ:St) (H:Hp) (xs:List V) (us:List Value) (Q:VK),Inv X pins σ H s→Vals xs us→r xs H Q →
  wpAny (model X.prog X.w) X.A (call f us) (EP X pins σ Q) X.xe s
def TruR (X:Cx) (r:V→Hp→(Bool→Hp→Prop)→Prop):Prop :=
 ∀ (pins:List (Addr×Obj)) (s:Shared) (σ:St) (H:Hp) (x:V) (v:Value) (Q:Bool→Hp→Prop),Inv X pins σ H s→RelV x v→r x H Q →
  wpAny (model X.prog X.w) X.A (truthy v) (TP X pins σ Q) X.xe s
def tOp (r:R2) (ta tb:TE):TE:=fun σ H Q=>ta σ H fun x H1=>tb σ H1 fun y H2=>r x y H2 Q
def tUn (r:V→Hp→VK→Prop) (ta:TE):TE:=fun σ H Q=>ta σ H fun x H1=>r x H1 Q
inductive PrI (C:Int→Int→Prop) (g:Int→Int→V) (x:V) (y:V) (H:Hp) (Q:VK):Prop
 | mk (i j:_) (h0:x=.int i) (h1:y=.int j) (h2:C i j) (h3:Q (g i j) H):PrI C g x y H Q
def rI (C:Int→Int→Prop) (g:Int→Int→V):R2:=fun x y H Q=>PrI C g x y H Q
inductive PrI0 (g:Int→Int→V) (x:V) (y:V) (H:Hp) (Q:VK):Prop
 | mk (i j:_) (h0:x=.int i) (h1:y=.int j) (h2:Q (g i j) H):PrI0 g x y H Q
def rI0 (g:Int→Int→V):R2:=fun x y H Q=>PrI0 g x y H Q
inductive PrU (g:Int→V) (x:V) (H:Hp) (Q:VK):Prop
 | mk (i:_) (h0:x=.int i) (h1:Q (g i) H):PrU g x H Q
def rU (g:Int→V):V→Hp→VK→Prop:=fun x H Q=>PrU g x H Q
section
variable {X:Cx} {a b c:Expr} {ta tb tc:TE} {pos:Pos}
theorem binT (ha:PE X a ta) (hb:PE X b tb) {pins:List (Addr×Obj)} {s:Shared} {σ:St} {H:Hp} {R:V→V→Hp→Prop} (I:Inv X pins σ H s)
  (h:ta σ H fun x H1=>tb σ H1 fun y H2=>R x y H2) {Q:Value→Shared→Prop} {f:Value→Value→Sem Value}
  (hf:∀ v u s2 x y H2,Inv X pins σ H2 s2→RelV x v→RelV y u→R x y H2→wpAny (model X.prog X.w) X.A (f v u) Q X.xe s2) :
  wpAny (model X.prog X.w) X.A (eval a X.env) (fun v s₁=>wpAny (model X.prog X.w) X.A (eval b X.env) (fun u s₂=>wpAny (model X.prog X.w) X.A (f v u) Q X.xe s₂) X.xe s₁) X.xe s:=by
 refine thn (ha pins s σ H _ I h) fun v s1 ⟨x,H1,I1,r1,q1⟩=>?_
 refine thn (hb pins s1 σ H1 _ I1 q1) fun u s2 ⟨y,H2,I2,r2,q2⟩=>?_
 exact hf v u s2 x y H2 I2 r1 r2 q2
theorem pe_op {op:Operator} {r:R2} (ho:OpR X (binaryOp op) r) (ha:PE X a ta) (hb:PE X b tb):PE X (.BinOp a op b pos) (tOp r ta tb):=by
 intro pins s σ H Q I h
 exact wpAny_BinOp (binT ha hb I h fun v u s2 x y H2 I2 rx ry q=>ho pins s2 σ H2 x y v u Q I2 rx ry q)
theorem pe_un {op:UnaryOp} {r:V→Hp→VK→Prop} (ho:UnR X (unaryOp op) r) (ha:PE X a ta):PE X (.UnaryOp op a pos) (tUn r ta):=by
 intro pins s σ H Q I h
 exact UnaryOp_ (thn (ha pins s σ H _ I h) fun v s1 ⟨x,H1,I1,r1,q1⟩=>ho pins s1 σ H1 x v Q I1 r1 q1)
theorem opI {f:Value→Value→Sem Value} {C:Int→Int→Prop} {g:Int→Int→Int}
  (rule:∀ (i j:Int) (t u:Tok) (s:Shared) (Q:Value→Shared→Prop) (E:Value→Shared→Prop),C i j→Q (.int (g i j) s.toks) { s with toks:=s.toks + 1 }→wpAny (model X.prog X.w) X.A (f (.int i t) (.int j u)) Q E s) :
  OpR X f (rI C fun i j=>.int (g i j)):=by
 intro pins s σ H x y v u Q I rx ry h
 obtain ⟨i,j,rfl,rfl,hc,q⟩:=h
 obtain ⟨t,rfl⟩:=rx
 obtain ⟨t',rfl⟩:=ry
 exact rule i j t t' s _ _ hc ⟨.int (g i j),H,I.tok _,⟨_,rfl⟩,q⟩
theorem opI0 {f:Value→Value→Sem Value} {g:Int→Int→Int}
  (rule:∀ (i j:Int) (t u:Tok) (s:Shared) (Q:Value→Shared→Prop) (E:Value→Shared→Prop),Q (.int (g i j) s.toks) { s with toks:=s.toks + 1 }→wpAny (model X.prog X.w) X.A (f (.int i t) (.int j u)) Q E s) :
  OpR X f (rI0 fun i j=>.int (g i j)):=by
 intro pins s σ H x y v u Q I rx ry h
 obtain ⟨i,j,rfl,rfl,q⟩:=h
 obtain ⟨t,rfl⟩:=rx
 obtain ⟨t',rfl⟩:=ry
 exact rule i j t t' s _ _ ⟨.int (g i j),H,I.tok _,⟨_,rfl⟩,q⟩
theorem opB0 {f:Value→Value→Sem Value} {g:Int→Int→Bool}
  (rule:∀ (i j:Int) (t u:Tok) (s:Shared) (Q:Value→Shared→Prop) (E:Value→Shared→Prop),Q (.bool (g i j)) s→wpAny (model X.prog X.w) X.A (f (.int i t) (.int j u)) Q E s) :
  OpR X f (rI0 fun i j=>.bl (g i j)):=by
 intro pins s σ H x y v u Q I rx ry h
 obtain ⟨i,j,rfl,rfl,q⟩:=h
 obtain ⟨t,rfl⟩:=rx
 obtain ⟨t',rfl⟩:=ry
 exact rule i j t t' s _ _ ⟨.bl (g i j),H,I,rfl,q⟩
def CDiv (i j:Int):Prop:=0 < j∧j < 1073741824
def CMul (i j:Int):Prop:=(-(2 ^ 64) < i∧i < 2 ^ 64)∨(-(2 ^ 64) < j∧j < 2 ^ 64)
theorem CMul.ok {i j:Int} (h:CMul i j):IntMulOk i j:=by
 rcases h with ⟨h1,h2⟩ | ⟨h1,h2⟩
 ·exact .of_left (intBits_le_64 h1 h2)
 ·exact .of_right (intBits_le_64 h1 h2)
theorem op_add:OpR X (binaryOp .Add) (rI0 fun i j=>.int (i + j)):=opI0 fun _ _ _ _ _ _ _ q=>add_int q
theorem op_sub:OpR X (binaryOp .Sub) (rI0 fun i j=>.int (i - j)):=opI0 fun _ _ _ _ _ _ _ q=>sub_int q
theorem op_mul:OpR X (binaryOp .Mult) (rI CMul fun i j=>.int (i * j)):=opI fun _ _ _ _ _ _ _ hc q=>mul_int q hc.ok
theorem op_fdiv:OpR X (binaryOp .FloorDiv) (rI CDiv fun i j=>.int (i / j)):=opI fun i j _ _ _ _ _ hc q=>by
 have h1:(0:Int) < j:=hc.1
 have h2:j < 1073741824:=hc.2
 exact floordiv_int (by lia) (by rw [Int.fdiv_eq_ediv_of_nonneg i (by lia)]; exact q) (.inl (PyProof.noPylong_small (by lia)))
theorem op_mod:OpR X (binaryOp .Mod) (rI (fun _ j=>0 < j) fun i j=>.int (i % j)):=opI fun i j _ _ _ _ _ hc q=>by
 have h1:(0:Int) < j:=hc
 exact mod_int' (by lia) (by rw [Int.fmod_eq_emod_of_nonneg i (by lia)]; exact q)
theorem unI {f:Value→Sem Value} {g:Int→Int}
  (rule:∀ (i:Int) (t:Tok) (s:Shared) (Q:Value→Shared→Prop) (E:Value→Shared→Prop),Q (.int (g i) s.toks) { s with toks:=s.toks + 1 }→wpAny (model X.prog X.w) X.A (f (.int i t)) Q E s) :
  UnR X f (rU fun i=>.int (g i)):=by
 intro pins s σ H x v Q I rx h
 obtain ⟨i,rfl,q⟩:=h
 obtain ⟨t,rfl⟩:=rx
 exact rule i t s _ _ ⟨.int (g i),H,I.tok _,⟨_,rfl⟩,q⟩
theorem un_neg:UnR X (unaryOp .USub) (rU fun i=>.int (-i)):=unI fun _ _ _ _ _ q=>neg_int q
end
def scal:V→V→Bool
 | .non,.non=>true | .non,.int _=>true | .int _,.non=>true | .non,.bl _=>true | .bl _,.non=>true | .non,.str _=>true | .str _,.non=>true
 | .int _,.int _=>true | .bl _,.bl _=>true | .str _,.str _=>true | .byt _,.byt _=>true
 | .int _,.str _=>true | .str _,.int _=>true | .bl _,.str _=>true | .str _,.bl _=>true
 | _,_=>false
def rEq:R2:=fun x y H Q=>scal x y=true∧Q (.bl (decide (x=y))) H
def rNe:R2:=fun x y H Q=>scal x y=true∧Q (.bl (!decide (x=y))) H
theorem dec_int {i j:Int}:decide (V.int i=V.int j)=(i == j):=by
 rw [Bool.eq_iff_iff]
 simp
theorem dec_bl {i j:Bool}:decide (V.bl i=V.bl j)=(i == j):=by
 rw [Bool.eq_iff_iff]
 simp
theorem dec_str {i j:Str}:decide (V.str i=V.str j)=(i == j):=by
 rw [Bool.eq_iff_iff]
 simp
theorem dec_byt {i j:Array UInt8}:decide (V.byt i=V.byt j)=(i.toList == j.toList):=by
 rw [Bool.eq_iff_iff]
 cases i
 cases j
 simp
section
variable {X:Cx} {a b c:Expr} {ta tb tc:TE} {pos:Pos}
theorem fin_bl {pins:List (Addr×Obj)} {σ:St} {H:Hp} {s:Shared} {Q:VK} {k k':Bool} (I:Inv X pins σ H s) (q:Q (.bl k) H) (e:k=k'):EP X pins σ Q (.bool k') s:=by
 subst e
 exact ⟨.bl k,H,I,rfl,q⟩
theorem op_eq:OpR X (compareOp .Eq) rEq:=by
 intro pins s σ H x y v u Q I rx ry h
 obtain ⟨hs,q⟩:=h
 cases x with
 | non =>
  cases rx
  cases y with
  | non=>cases ry; exact PySem.EqNone.eq_none_none (fin_bl I q (by simp))
  | bl j=>cases ry; exact PySem.EqNone.eq_none_bool (fin_bl I q (by simp))
  | int j=>obtain ⟨t',rfl⟩:=ry; exact PySem.EqNone.eq_none_int (fin_bl I q (by simp))
  | str j=>obtain ⟨t',rfl⟩:=ry; exact PySem.EqNone.eq_none_str (fin_bl I q (by simp))
  | _=>exact absurd (show false=true from hs) Ap
 | bl i =>
  cases rx
  cases y with
  | non=>cases ry; exact PySem.EqNone.eq_bool_none (fin_bl I q (by simp))
  | bl j=>cases ry; exact eq_bool (fin_bl I q dec_bl)
  | str j=>obtain ⟨t',rfl⟩:=ry; exact PySem.EqMixed.eq_bool_str (fin_bl I q (by simp))
  | _=>exact absurd (show false=true from hs) Ap
 | int i =>
  obtain ⟨t,rfl⟩:=rx
  cases y with
  | non=>cases ry; exact PySem.EqNone.eq_int_none (fin_bl I q (by simp))
  | int j=>obtain ⟨t',rfl⟩:=ry; exact eq_int (fin_bl I q dec_int)
  | str j=>obtain ⟨t',rfl⟩:=ry; exact PySem.EqMixed.eq_int_str (fin_bl I q (by simp))
  | _=>exact absurd (show false=true from hs) Ap
 | str i =>
  obtain ⟨t,rfl⟩:=rx
  cases y with
  | non=>cases ry; exact PySem.EqNone.eq_str_none (fin_bl I q (by simp))
  | bl j=>cases ry; exact PySem.EqMixed.eq_str_bool (fin_bl I q (by simp))
  | int j=>obtain ⟨t',rfl⟩:=ry; exact PySem.EqMixed.eq_str_int (fin_bl I q (by simp))
  | str j=>obtain ⟨t',rfl⟩:=ry; exact eq_str (fin_bl I q dec_str)
  | _=>exact absurd (show false=true from hs) Ap
 | byt i =>
  obtain ⟨t,rfl⟩:=rx
  cases y with
  | byt j=>obtain ⟨t',rfl⟩:=ry; exact PySem.W.eq_bytes (fin_bl I q dec_byt)
  | _=>exact absurd (show false=true from hs) Ap
 | _=>cases y <;> exact absurd (show false=true from hs) Ap
theorem op_ne:OpR X (compareOp .NotEq) rNe:=by
 intro pins s σ H x y v u Q I rx ry h
 obtain ⟨hs,q⟩:=h
 cases x with
 | non =>
  cases rx
  cases y with
  | non=>cases ry; exact PySem.EqNone.ne_none_none (fin_bl I q (by simp))
  | bl j=>cases ry; exact PySem.EqNone.ne_none_bool (fin_bl I q (by simp))
  | int j=>obtain ⟨t',rfl⟩:=ry; exact PySem.EqNone.ne_none_int (fin_bl I q (by simp))
  | str j=>obtain ⟨t',rfl⟩:=ry; exact PySem.EqNone.ne_none_str (fin_bl I q (by simp))
  | _=>exact absurd (show false=true from hs) Ap
 | bl i =>
  cases rx
  cases y with
  | non=>cases ry; exact PySem.EqNone.ne_bool_none (fin_bl I q (by simp))
  | bl j=>cases ry; exact ne_bool (fin_bl I q (congrArg not dec_bl))
  | str j=>obtain ⟨t',rfl⟩:=ry; exact PySem.EqMixed.ne_bool_str (fin_bl I q (by simp))
  | _=>exact absurd (show false=true from hs) Ap
 | int i =>
  obtain ⟨t,rfl⟩:=rx
  cases y with
  | non=>cases ry; exact PySem.EqNone.ne_int_none (fin_bl I q (by simp))
  | int j=>obtain ⟨t',rfl⟩:=ry; exact ne_int (fin_bl I q (congrArg not dec_int))
  | str j=>obtain ⟨t',rfl⟩:=ry; exact PySem.EqMixed.ne_int_str (fin_bl I q (by simp))
  | _=>exact absurd (show false=true from hs) Ap
 | str i =>
  obtain ⟨t,rfl⟩:=rx
  cases y with
  | non=>cases ry; exact PySem.EqNone.ne_str_none (fin_bl I q (by simp))
  | bl j=>cases ry; exact PySem.EqMixed.ne_str_bool (fin_bl I q (by simp))
  | int j=>obtain ⟨t',rfl⟩:=ry; exact PySem.EqMixed.ne_str_int (fin_bl I q (by simp))
  | str j=>obtain ⟨t',rfl⟩:=ry; exact ne_str (fin_bl I q (congrArg not dec_str))
  | _=>exact absurd (show false=true from hs) Ap
 | byt i =>
  obtain ⟨t,rfl⟩:=rx
  cases y with
  | byt j=>obtain ⟨t',rfl⟩:=ry; exact PySem.W.ne_bytes (fin_bl I q (congrArg not dec_byt))
  | _=>exact absurd (show false=true from hs) Ap
 | _=>cases y <;> exact absurd (show false=true from hs) Ap
theorem op_lt:OpR X (compareOp .Lt) (rI0 fun i j=>.bl (decide (i < j))):=opB0 fun _ _ _ _ _ _ _ q=>lt_int q
theorem op_le:OpR X (compareOp .LtE) (rI0 fun i j=>.bl (decide (i≤j))):=opB0 fun _ _ _ _ _ _ _ q=>le_int q
theorem op_gt:OpR X (compareOp .Gt) (rI0 fun i j=>.bl (decide (j < i))):=opB0 fun _ _ _ _ _ _ _ q=>gt_int q
theorem op_ge:OpR X (compareOp .GtE) (rI0 fun i j=>.bl (decide (j≤i))):=opB0 fun _ _ _ _ _ _ _ q=>ge_int q
theorem op_isN:OpR X (compareOp .Is) (fun x y H Q=>y=.non∧Q (.bl (decide (x=.non))) H):=by
 intro pins s σ H x y v u Q I rx ry h
 obtain ⟨rfl,q⟩:=h
 cases ry
 refine is_none_gen (fin_bl I q ?_)
 cases x <;> first
  | (cases rx; rfl)
  | (obtain ⟨t,rfl⟩:=rx; rfl)
theorem nomark (b:Expr) {op:CmpOp} (h:op≠.In:=by decide) (h2:op≠.NotIn:=by decide):behindInMarks op b=false:=by
 have e1:(op == CmpOp.In)=false:=by cases op <;> first | rfl | exact absurd rfl h
 have e2:(op == CmpOp.NotIn)=false:=by cases op <;> first | rfl | exact absurd rfl h2
 cases b <;> simp [behindInMarks,e1,e2]
theorem pe_cmpR {op:CmpOp} {r:R2} (ho:OpR X (compareOp op) r) (ha:PE X a ta) (hb:PE X b tb) (hm:behindInMarks op b=false):PE X (.Compare a [op] [b] pos) (tOp r ta tb):=by
 intro pins s σ H Q I h
 exact wpAny_Compare1 (binT ha hb I h fun v u s2 x y H2 I2 rx ry q=>ho pins s2 σ H2 x y v u Q I2 rx ry q) hm
def tTest (t:TE):TT:=fun σ H Q=>t σ H fun x H'=>IsBl x H' Q
theorem pt_cmpR {op:CmpOp} {r:R2} (ho:OpR X (compareOp op) r) (ha:PE X a ta) (hb:PE X b tb) (hm:behindInMarks op b=false):PT X (.Compare a [op] [b] pos) (tTest (tOp r ta tb)):=by
 intro pins s σ H Q I h
 refine wpAny_isTrue_Compare1 (thn (ha pins s σ H _ I h) fun v s1 ⟨x,H1,I1,r1,q1⟩=>thn (hb pins s1 σ H1 _ I1 q1) fun u s2 ⟨y,H2,I2,r2,q2⟩ =>
  thn (ho pins s2 σ H2 x y v u _ I2 r1 r2 q2) fun c s3 ⟨z,H3,I3,r3,k,e,q3⟩=>?_) hm
 subst e
 cases r3
 exact wpAny_truthy_bool ⟨H3,I3,q3⟩
def tChain (r r':R2) (ta tb tc:TE):TE:=fun σ H Q=>ta σ H fun x H1=>tb σ H1 fun y H2=>r x y H2 fun z H3=>∃ k,z=.bl k ∧
 (if k=true then tc σ H3 fun w' H4=>r' y w' H4 Q else Q (.bl false) H3)
theorem pe_chain {op op':CmpOp} {r r':R2} (ho:OpR X (compareOp op) r) (ho':OpR X (compareOp op') r') (ha:PE X a ta) (hb:PE X b tb) (hc:PE X c tc)
  (hm:lastMarks [op,op'] [b,c]=false:=by with_unfolding_all rfl):PE X (.Compare a [op,op'] [b,c] pos) (tChain r r' ta tb tc):=by
 intro pins s σ H Q I h
 refine Compare_chain (thn (ha pins s σ H _ I h) fun v s1 ⟨x,H1,I1,r1,q1⟩=>chain_link (thn (hb pins s1 σ H1 _ I1 q1) fun u s2 ⟨y,H2,I2,r2,q2⟩ =>
  thn (ho pins s2 σ H2 x y v u _ I2 r1 r2 q2) fun d s3 ⟨z,H3,I3,r3,k,e,q3⟩=>?_)) hm
 subst e
 cases r3
 refine wpAny_truthy_bool ?_
 cases k with
 | false=>exact ite_ff ⟨.bl false,H3,I3,rfl,q3⟩
 | true=>exact ite_tt (chain_last (thn (hc pins s3 σ H3 _ I3 q3) fun w' s4 ⟨z',H4,I4,r4,q4⟩=>ho' pins s4 σ H4 y z' u w' Q I4 r2 r4 q4))
theorem pt_chain {op op':CmpOp} {r r':R2} (ho:OpR X (compareOp op) r) (ho':OpR X (compareOp op') r') (ha:PE X a ta) (hb:PE X b tb) (hc:PE X c tc)
  (hm:lastMarks [op,op'] [b,c]=false:=by with_unfolding_all rfl):PT X (.Compare a [op,op'] [b,c] pos) (tTest (tChain r r' ta tb tc)):=by
 intro pins s σ H Q I h
 refine isTrue_chain (thn (ha pins s σ H _ I h) fun v s1 ⟨x,H1,I1,r1,q1⟩=>test_link (thn (hb pins s1 σ H1 _ I1 q1) fun u s2 ⟨y,H2,I2,r2,q2⟩ =>
  thn (ho pins s2 σ H2 x y v u _ I2 r1 r2 q2) fun d s3 ⟨z,H3,I3,r3,k,e,q3⟩=>?_)) hm
 subst e
 cases r3
 refine wpAny_truthy_bool ?_
 cases k with
 | false =>
  obtain ⟨k',e',q'⟩:=q3
  cases e'
  exact ite_ff ⟨H3,I3,q'⟩
 | true =>
  refine ite_tt (test_last (thn (hc pins s3 σ H3 _ I3 q3) fun w' s4 ⟨z',H4,I4,r4,q4⟩=>thn (ho' pins s4 σ H4 y z' u w' _ I4 r2 r4 q4) fun d' s5 ⟨z2,H5,I5,r5,k2,e2,q5⟩=>?_))
  subst e2
  cases r5
  exact wpAny_truthy_bool ⟨H5,I5,q5⟩
def TruV (K:PySem.W.Frag) (x:V) (H:Hp) (k:Bool):Prop :=
 match x with
 | .non=>k=false
 | .bl b=>k=b
 | .int i=>k=(i != 0)
 | .str y=>y.length≤AL∧k=((y.length:Int) != 0)
 | .byt y=>y.size≤AL∧k=((y.size:Int) != 0)
 | .ref p=>(∃ xs,SqL K H p xs∧k=!xs.isEmpty)∨(∃ xs,SqT K H p xs∧k=!xs.isEmpty)∨∃ kvs,H p=some (.dK kvs)∧k=!kvs.isEmpty
 | _=>False
theorem isEmpty_kv {κ:Type} {kvs:List (κ×V)} {vs:List (κ×Value)} (r:KV kvs vs):(!vs.isEmpty)=!kvs.isEmpty:=by
 cases r <;> rfl
theorem isEmpty_of {xs:List V} {its:List Value} (r:Vals xs its):(!its.toArray.isEmpty)=!xs.isEmpty:=by
 cases r <;> simp
theorem line63:(AL:Nat) < 2 ^ 63:=by rw [sizeLine_eq]; decide
theorem tru_ok:TruR X (fun x H Q=>∃ k,TruV X.K x H k∧Q k H):=by
 intro pins s σ H x v Q I rx h
 obtain ⟨k,e,q⟩:=h
 have hl:=line63
 have hs:AL=16777216:=sizeLine_eq
 cases x with
 | non =>
  cases rx
  have e':k=false:=e
  subst e'
  exact truthy_none ⟨H,I,q⟩
 | bl b =>
  cases rx
  have e':k=b:=e
  subst e'
  exact wpAny_truthy_bool ⟨H,I,q⟩
 | int i =>
  obtain ⟨t,rfl⟩:=rx
  have e':k=(i != 0):=e
  subst e'
  exact PySem.P.truthy_int ⟨H,I,q⟩
 | str y =>
  obtain ⟨t,rfl⟩:=rx
  obtain ⟨hy,e'⟩:y.length≤AL∧k=((y.length:Int) != 0):=e
  subst e'
  exact PySem.P.truthy_str (by lia) ⟨H,I.tok _,q⟩
 | byt y =>
  obtain ⟨t,rfl⟩:=rx
  obtain ⟨hy,e'⟩:y.size≤AL∧k=((y.size:Int) != 0):=e
  subst e'
  exact PySem.W.truthy_bytes (by lia) ⟨H,I.tok _,q⟩
 | ref p =>
  cases rx
  have e':(∃ xs,SqL X.K H p xs∧k=!xs.isEmpty)∨(∃ xs,SqT X.K H p xs∧k=!xs.isEmpty)∨∃ kvs,H p=some (.dK kvs)∧k=!kvs.isEmpty:=e
  rcases e' with ⟨xs,hx,e'⟩ | ⟨xs,hx,e'⟩ | ⟨kvs,hx,e'⟩
  ·subst e'
   obtain ⟨its,r,pl,hz⟩:=I.list hx
   have hlen:=r.length
   exact wpAny_truthy_list pl.isList (by simp only [AV]; lia) ⟨H,I.tok _,by rw [isEmpty_of r]; exact q⟩
  ·subst e'
   obtain ⟨its,r,pl,hz⟩:=I.tuple hx
   have hlen:=r.length
   exact truthy_tuple pl (by simp only [AV]; lia) ⟨H,I.tok _,by rw [isEmpty_of r]; exact q⟩
  ·subst e'
   obtain ⟨hz,hS,vs,r,m⟩:kvs.length≤AL∧(p == sysModules)=false∧∃ vs,KV kvs vs∧s.heap.DictOf (mixKind X.prog X.w) p vs:=I.hok p _ hx
   have hlen:kvs.length=vs.length:=Paired.length r
   exact wpAny_truthy_dict hS m (by lia) ⟨H,I.tok _,by rw [isEmpty_kv r]; exact q⟩
 | _=>exact (show False from e).elim
theorem pt_truth (ha:PE X a ta) (he:∀ whole,isTrue a X.env whole=(do let v ← whole; standAt a.pos; holding [v] (truthy v))) :
  PT X a (fun σ H Q=>ta σ H fun x H'=>∃ k,TruV X.K x H' k∧Q k H'):=by
 intro pins s σ H Q I h
 exact isTrue_plain (thn (ha pins s σ H _ I h) fun v s1 ⟨x,H1,I1,r1,q1⟩=>tru_ok pins s1 σ H1 x v Q I1 r1 q1) (he _)
theorem vals1 {x:V} {us:List Value} (r:Vals [x] us):∃ u,us=[u]∧RelV x u:=by
 cases r with
 | cons r1 r2=>cases r2; exact ⟨_,rfl,r1⟩
theorem vals2 {x y:V} {us:List Value} (r:Vals [x,y] us):∃ u w',us=[u,w']∧RelV x u∧RelV y w':=by
 cases r with
 | cons r1 r2 =>
  cases r2 with
  | cons r3 r4=>cases r4; exact ⟨_,_,rfl,r1,r3⟩
inductive PTwo (g:Int→Int→Int) (xs:List V) (H:Hp) (Q:VK):Prop
 | mk (i j:Int) (h0:xs=[.int i,.int j]) (h1:Q (.int (g i j)) H):PTwo g xs H Q
theorem call_max2 (hc:X.calm=true):CallR X (.builtin "max") (PTwo fun i j=>if j > i then j else i):=by
 intro pins s σ H xs us Q I r h
 obtain ⟨i,j,rfl,q⟩:=h
 obtain ⟨u,w',rfl,⟨t,rfl⟩,⟨t',rfl⟩⟩:=vals2 r
 refine max_two_ints (I.ok.hd hc) fun h' tk k=>⟨_,H,I.kept k,?_,q⟩
 by_cases hj:j > i
 ·rw [if_pos hj,if_pos hj]; exact ⟨_,rfl⟩
 ·rw [if_neg hj,if_neg hj]; exact ⟨_,rfl⟩
theorem call_min2 (hc:X.calm=true):CallR X (.builtin "min") (PTwo fun i j=>if j < i then j else i):=by
 intro pins s σ H xs us Q I r h
 obtain ⟨i,j,rfl,q⟩:=h
 obtain ⟨u,w',rfl,⟨t,rfl⟩,⟨t',rfl⟩⟩:=vals2 r
 refine min_two_ints (I.ok.hd hc) fun h' tk k=>⟨_,H,I.kept k,?_,q⟩
 by_cases hj:j < i
 ·rw [if_pos hj,if_pos hj]; exact ⟨_,rfl⟩
 ·rw [if_neg hj,if_neg hj]; exact ⟨_,rfl⟩
theorem call_int1:CallR X (.type "int") (fun xs H Q=>(∃ i,xs=[.int i]∧Q (.int i) H)∨∃ k,xs=[.bl k]∧Q (.int (if k then 1 else 0)) H):=by
 intro pins s σ H xs us Q I r h
 rcases h with ⟨i,rfl,q⟩ | ⟨k,rfl,q⟩
 ·obtain ⟨u,rfl,t,rfl⟩:=vals1 r
  exact call_int_int ⟨.int i,H,I,⟨_,rfl⟩,q⟩
 ·obtain ⟨u,rfl,r1⟩:=vals1 r
  cases r1
  exact call_int_bool ⟨.int (if k then 1 else 0),H,I.tok _,⟨_,rfl⟩,q⟩
end
structure ObjM (h:Heap) (x dx C:Addr) (mA:Str→Option Value):Prop where
 obj:h.get? x=some (PySem.W.instObj C dx)
 ns:h.Ns1 dx mA
 ne:dx≠x
theorem lookIn_ns {h:Heap} {dx:Addr} {mA:Str→Option Value} (n:h.Ns1 dx mA):∃ od,h.get? dx=some od∧∀ name,PySem.W.lookIn name od=some (mA name):=by
 obtain ⟨o,es,ep,ho,hd,hk,_,hm⟩:=n
 refine ⟨o,ho,fun name=>?_⟩
 have e:=hm name
 unfold nsFind findBy at e
 rw [← Array.find?_toList] at e
 unfold PySem.W.lookIn
 rw [hd]
 dsimp only
 split
 ·rename_i y q
  rw [q] at e
  exact congrArg some e
 ·rename_i q
  rw [q] at e
  have a:es.toList.any (·.refKey)=false:=by
   rw [List.any_eq_false]
   intro y hy
   obtain ⟨z,t,hkey⟩:=hk y (Array.mem_toList_iff.mp hy)
   simp [DictEntry.refKey,hkey]
  have a':¬ es.toList.any (·.refKey)=true:=by rw [a]; exact Ap
  rw [if_neg a']
  exact congrArg some e
theorem ObjM.look {h:Heap} {x dx C:Addr} {mA:Str→Option Value} (I:ObjM h x dx C mA):∃ od,PySem.W.InstAt h x (PySem.W.instObj C dx) C (some od)∧∀ name,PySem.W.lookIn name od=some (mA name) :=
 let ⟨od,ho,hl⟩:=lookIn_ns I.ns
 ⟨od,⟨I.obj,rfl,rfl,ho⟩,hl⟩
section
variable {prog:Program} {w:World} {A:Around} {E:Value→Shared→Prop} {s:Shared} {K:PySem.W.Frag} {x dx C f:Addr} {mA:Str→Option Value} {name:Str} {v:Value}
theorem get_map {expr:Bool} {Q:Value→Shared→Prop} (X:K.In s.heap) (I:ObjM s.heap x dx C mA) (hg:PySem.W.plainGet K C name=true) (hh:PySem.W.hasDictIn K C=true)
  (ha:AX K (.ref C) name=some none) (hv:mA name=some v) (hv':PySem.W.handedIn v=true) (h:Q v { s with toks:=s.toks + 1 }) :
  wpAny (model prog w) A (getAttr (.ref x) name expr) Q E s:=by
 obtain ⟨od,J,hl⟩:=I.look
 exact PySem.W.get_value X J (PySem.W.plainGet_of hg).1 (PySem.W.findObj_own hh ha rfl (by rw [hl,hv])) hv' h
theorem get_meth {pl:Sem Bool} {Q:Value×List Value→Shared→Prop} (X:K.In s.heap) (I:ObjM s.heap x dx C mA) (hg:PySem.W.plainGet K C name=true)
  (hf:AX K (.ref C) name=some (some (.ref f))) (ht:A4 K (.ref f)=true) (hv:mA name=none) (h:Q (.ref f,[.ref x]) s) :
  wpAny (model prog w) A (getMethod (.ref x) name pl) Q E s:=by
 obtain ⟨od,J,hl⟩:=I.look
 exact PySem.W.method_fn X J (PySem.W.plainGet_of hg).1 (PySem.W.plainGet_of hg).2 hf (beq_iff_eq.mp ht) (by show (PySem.W.lookIn name od).map (·.isSome)=some false; rw [hl,hv]; rfl) h
theorem set_map {ns:List Str} {Q:Unit→Shared→Prop} (X:K.In s.heap) (I:ObjM s.heap x dx C mA)
  (hs:AX K (.ref C) "__setattr__"=some (some (.builtin "object.__setattr__"))) (hp:PySem.W.plainOver K C=true) (ht:PySem.W.takerIn K C name=some none) (hh:PySem.W.hasDictIn K C=true)
  (hw:PySem.Within mA ns) (hsz:ns.length≤AL)
  (h:∀ h',ObjM h' x dx C (fun y=>if y=name then some v else mA y)→Heap.SameBut dx s.heap h'→Q () { s with heap:=h',toks:=s.toks + 2 }) :
  wpAny (model prog w) A (setAttr (.ref x) name v) Q E s:=by
 obtain ⟨od,J,hl⟩:=I.look
 refine PySem.W.set_plain X J hs (PySem.W.osa_open (s:={ s with toks:=s.toks + 1 }) (r:=none) X J hp ht fun b=>?_)
 obtain ⟨cd,hc,hd'⟩:=PySem.W.any_some hh
 have hx:s.heap.get? x=some ⟨.ref C,some dx,.plain,#[]⟩:=I.obj
 refine AC (AM (AC (AC (wpAny_loadPart hx (AC (PySem.W.Looks.here (s:={ s with toks:=s.toks + 1 }) (PySem.W.looks_clsIn X hc) ?_))))))
 rw [hd']
 refine AM (a:=some dx) (AC (AM (AC ?_)))
 refine wpAny_nsSet1 (s:={ s with toks:=s.toks + 1 }) I.ns fun h' hn2 hs2=>?_
 obtain ⟨oD,esD,epD,hoD,hdD,hcD⟩:=hn2.count (PySem.Within.cons name v hw)
 refine AC (wpAny_lookBehind hoD (by rw [hdD]; exact pastItsLine_dict (Ag hcD (by rw [AO]; lia))) ?_)
 exact AM (h _ ⟨(hs2.2 _ (Ne.symm I.ne)).trans I.obj,hn2,I.ne⟩ hs2)
theorem make_map {R:Result→Shared→Prop} {vs:List Value} {kw:List (Str×Value)} (X:K.In s.heap) (hm:PySem.W.makesIn K C=true)
  (hi:AX K (.ref C) "__init__"=some (some (.ref f))) (hf:PySem.W.typeIn K (.ref f)=some (.type "function"))
  (h:codeAny (model prog w) (A.under (.builtin "type.__call__" ⟨.ref C :: vs,kw⟩)) (.call (.ref f) ⟨.ref (s.heap.objs.size + 1) :: vs,kw⟩) (PySem.W.InitBack (s.heap.objs.size + 1) R)
   { s with heap:=(s.heap.push PySem.W.emptyDict).push (PySem.W.instObj C s.heap.objs.size) }) :
  codeAny (model prog w) A (.call (.ref C) ⟨vs,kw⟩) R s:=by
 obtain ⟨hh,g,d,t,os⟩:=s
 exact PySem.W.make_core (PySem.W.makes_of X hm) (PySem.W.looks_findIn X hi) (fun self=>PySem.W.bind_fn X self hf) (.inl rfl) h
end
def putF (f:Str) (v:V):List (Str×V)→List (Str×V)
 | []=>[(f,v)]
 | (g,x) :: r=>if g=f then (g,v) :: r else (g,x) :: putF f v r
theorem lookup_putF (f g:Str) (v:V):∀ fs:List (Str×V),(putF f v fs).lookup g=if g=f then some v else fs.lookup g
 | []=>by
  show List.lookup g [(f,v)]=_
  by_cases h:g=f
  ·have hb:(g == f)=true:=beq_iff_eq.mpr h
   simp only [List.lookup,hb,if_pos h]
  ·have hb:(g == f)=false:=beq_eq_false_iff_ne.mpr h
   simp only [List.lookup,hb,if_neg h]
 | (k,x) :: r=>by
  have ih:=lookup_putF f g v r
  rw [show putF f v ((k,x) :: r)=(if k=f then (k,v) :: r else (k,x) :: putF f v r) from rfl]
  by_cases hk:k=f
  ·rw [if_pos hk]
   by_cases h:g=k
   ·have hb:(g == k)=true:=beq_iff_eq.mpr h
    simp only [List.lookup,hb,if_pos (h.trans hk)]
   ·have hb:(g == k)=false:=beq_eq_false_iff_ne.mpr h
    simp only [List.lookup,hb,if_neg (fun e:g=f=>h (e.trans hk.symm))]
  ·rw [if_neg hk]
   by_cases h:g=k
   ·have hb:(g == k)=true:=beq_iff_eq.mpr h
    simp only [List.lookup,hb,if_neg (fun e:g=f=>hk (h.symm.trans e))]
   ·have hb:(g == k)=false:=beq_eq_false_iff_ne.mpr h
    simp only [List.lookup,hb]
    exact ih
theorem keys_putF (f:Str) (v:V):∀ fs:List (Str×V),f∈(putF f v fs).map (·.1)∧∀ g,g∈fs.map (·.1)→g∈(putF f v fs).map (·.1)
 | []=>⟨by simp [putF],fun g h=>by simp at h⟩
 | (k,x) :: r=>by
  obtain ⟨i1,i2⟩:=keys_putF f v r
  rw [show putF f v ((k,x) :: r)=(if k=f then (k,v) :: r else (k,x) :: putF f v r) from rfl]
  by_cases hk:k=f
  ·rw [if_pos hk]
   subst hk
   exact ⟨by simp,fun g h=>by simpa using h⟩
  ·rw [if_neg hk]
   refine ⟨?_,fun g h=>?_⟩
   ·rw [Az]
    exact AR _ i1
   ·rw [Az] at h ⊢
    rcases AW.mp h with e | e
    ·exact AW.mpr (.inl e)
    ·exact AR _ (i2 g e)
theorem length_putF (f:Str) (v:V):∀ fs:List (Str×V),(putF f v fs).length≤fs.length + 1
 | []=>by simp [putF]
 | (k,x) :: r=>by
  have ih:=length_putF f v r
  rw [show putF f v ((k,x) :: r)=(if k=f then (k,v) :: r else (k,x) :: putF f v r) from rfl]
  by_cases hk:k=f
  ·rw [if_pos hk,AO,AO]; lia
  ·rw [if_neg hk,AO,AO]; lia
theorem RelO.some_of {v:V} {o:Option Value} (r:RelO (some v) o):∃ u,o=some u∧RelV v u:=by
 cases o with
 | none=>exact (show False from r).elim
 | some u=>exact ⟨u,rfl,r⟩
theorem RelO.none_of {o:Option Value} (r:RelO none o):o=none:=by
 cases o with
 | none=>rfl
 | some u=>exact (show False from r).elim
theorem handed_of {v:V} {u:Value} (r:RelV v u):PySem.W.handedIn u=true:=by
 cases v with
 | non=>cases (show u=A7 from r); rfl
 | bl b=>cases (show u=Value.bool b from r); rfl
 | int i=>obtain ⟨t,e⟩:=(show ∃ t,u=Value.int i t from r); cases e; rfl
 | str x=>obtain ⟨t,e⟩:=(show ∃ t,u=Value.str x t from r); cases e; rfl
 | byt b=>obtain ⟨t,e⟩:=(show ∃ t,u=Value.bytes b t from r); cases e; rfl
 | flt b=>obtain ⟨t,e⟩:=(show ∃ t,u=Value.float b t from r); cases e; rfl
 | ref a=>cases (show u=Ac a from r); rfl
 | ty n=>cases (show u=Value.type n from r); rfl
section
variable {P:Program} {w:World} {H H':Hp} {h h':Heap} {a C dx:Addr} {fs fs':List (Str×V)}
theorem ins_get (hok:HOk P w H h) (e:H a=some (.ins C dx fs)):∃ mA,ObjM h a dx C mA∧(∀ f,RelO (fs.lookup f) (mA f))∧PySem.Within mA (fs.map (·.1))∧fs.length≤1000∧H dx=some (.own a):=by
 obtain ⟨d,z,ne,ob,mA,n,r,q⟩:=(show ObjOk P w H h a (.ins C dx fs) from hok a _ e)
 exact ⟨mA,⟨ob,n,ne⟩,r,q,z,d⟩
end
structure Cls (K:PySem.W.Frag) (C:Addr):Prop where
 pg:PySem.W.plainGet K C Str.empty=true
 hd:PySem.W.hasDictIn K C=true
 po:PySem.W.plainOver K C=true
 sa:AX K (.ref C) "__setattr__"=some (some (.builtin "object.__setattr__"))
theorem Cls.get {K:PySem.W.Frag} {C:Addr} (c:Cls K C) (f:Str):PySem.W.plainGet K C f=true:=c.pg
def NoAttr (K:PySem.W.Frag) (C:Addr) (f:Str):Prop:=AX K (.ref C) f=some none
theorem NoAttr.taker {K:PySem.W.Frag} {C:Addr} {f:Str} (n:NoAttr K C f):PySem.W.takerIn K C f=some none:=by
 unfold PySem.W.takerIn
 rw [show AX K (.ref C) f=some none from n]
 rfl
structure Meth (K:PySem.W.Frag) (C:Addr) (m:Str) (f:Addr):Prop where
 at_:AX K (.ref C) m=some (some (.ref f))
 fn:A4 K (.ref f)=true
 kp:Ah K (.ref f)=true
section
variable {X:Cx} {pins:List (Addr×Obj)} {σ:St} {H:Hp} {s:Shared} {a C dx:Addr} {fs:List (Str×V)} {f:Str} {v:V} {A:Around} {E:Value→Shared→Prop}
theorem getattr_ok {b:Bool} {Q:Value→Shared→Prop} (I:Inv X pins σ H s) (e:H a=some (.ins C dx fs)) (c:Cls X.K C) (n:NoAttr X.K C f) (l:fs.lookup f=some v)
  (h:∀ u s',Inv X pins σ H s'→RelV v u→Q u s'):wpAny (model X.prog X.w) A (getAttr (.ref a) f b) Q E s:=by
 obtain ⟨mA,O,r,_,_,_⟩:=ins_get I.hok e
 obtain ⟨u,hu,ru⟩:=RelO.some_of (v:=v) (o:=mA f) (by rw [← l]; exact r f)
 exact get_map I.kIn O (c.get f) c.hd n hu (handed_of ru) (h u _ (I.tok _) ru)
theorem getmeth_ok {m:Str} {g:Addr} {pl:Sem Bool} {Q:Value×List Value→Shared→Prop} (I:Inv X pins σ H s) (e:H a=some (.ins C dx fs)) (c:Cls X.K C) (k:Meth X.K C m g) (l:fs.lookup m=none)
  (h:Q (.ref g,[.ref a]) s):wpAny (model X.prog X.w) A (getMethod (.ref a) m pl) Q E s:=by
 obtain ⟨mA,O,r,_,_,_⟩:=ins_get I.hok e
 have hn:mA m=none:=RelO.none_of (by rw [← l]; exact r m)
 exact get_meth I.kIn O (c.get m) k.at_ k.fn hn h
theorem setattr_ok {y:V} {u:Value} {Q:Unit→Shared→Prop} (I:Inv X pins σ H s) (e:H a=some (.ins C dx fs)) (c:Cls X.K C) (n:NoAttr X.K C f) (hl:fs.length < 1000) (ry:RelV y u)
  (h:∀ s',Inv X pins σ (upd H a (.ins C dx (putF f y fs))) s'→Q () s'):wpAny (model X.prog X.w) A (setAttr (.ref a) f u) Q E s:=by
 obtain ⟨mA,O,r,wi,_,ho⟩:=ins_get I.hok e
 have hz:(fs.map (·.1)).length≤AL:=by rw [AA,sizeLine_eq]; lia
 refine set_map I.kIn O c.sa c.po n.taker c.hd wi hz fun h' O' sb=>h _ ?_
 have hd:∃ o,h'.get? dx=some o:=let ⟨o,_,_,e',_⟩:=O'.ns; ⟨o,e'⟩
 refine I.write (x:=a) (e:=dx) (by rw [e]; exact AS) (.inr ho) (fun b q hb z=>(sb.2 b hb).trans z) hd ?_
 refine ⟨by rw [upd_ne O.ne]; exact ho,?_,O.ne,O'.obj,_,O'.ns,fun g=>?_,fun g hg=>?_⟩
 ·have:=length_putF f y fs; lia
 ·show RelO ((putF f y fs).lookup g) (if g=f then some u else mA g)
  rw [lookup_putF]
  by_cases q:g=f
  ·rw [if_pos q,if_pos q]; exact ry
  ·rw [if_neg q,if_neg q]; exact r g
 ·by_cases q:g=f
  ·rw [q]; exact (keys_putF f y fs).1
  ·refine (keys_putF f y fs).2 g (wi g fun z=>hg ?_)
   show (if g=f then some u else mA g)=none
   rw [if_neg q]; exact z
theorem Inv.made (I:Inv X pins σ H s):Inv X pins σ (upd (upd H s.heap.objs.size (.own (s.heap.objs.size + 1))) (s.heap.objs.size + 1) (.ins C s.heap.objs.size []))
  { s with heap:=(s.heap.push PySem.W.emptyDict).push (PySem.W.instObj C s.heap.objs.size) }:=by
 have e1:(s.heap.push PySem.W.emptyDict).get? s.heap.objs.size=some PySem.W.emptyDict:=Al s.heap rfl
 have e2:((s.heap.push PySem.W.emptyDict).push (PySem.W.instObj C s.heap.objs.size)).get? (s.heap.objs.size + 1)=some (PySem.W.instObj C s.heap.objs.size):=by
  have:=Al (s.heap.push PySem.W.emptyDict) (o:=PySem.W.instObj C s.heap.objs.size) rfl
  rwa [Heap.size_push] at this
 have e3:(s.heap.push PySem.W.emptyDict).Ns s.heap.objs.size (fun _=>none):=⟨PySem.W.emptyDict,#[],_,e1,rfl,(fun e he=>absurd he (by simp)),fun _=>rfl⟩
 have I1:=I.laid (a:=s.heap.objs.size) (o:=.own (s.heap.objs.size + 1)) (h':=s.heap.push PySem.W.emptyDict) (t':=s.toks) (fun b u q=>AH _ q) (AD _) ⟨_,e1⟩
 refine I1.laid (a:=s.heap.objs.size + 1) (o:=.ins C s.heap.objs.size []) (t':=s.toks) (fun b u q=>AH _ q) (Nat.le_of_eq (Heap.size_push _ _)) ?_
 have ne:s.heap.objs.size≠s.heap.objs.size + 1:=AU (Nat.lt_succ_self _)
 refine ⟨by rw [upd_ne ne,upd_same],Ai _,ne,e2,fun _=>none,(Heap.Ns1.of_empty e3).at fun o q=>AH _ q,fun _=>AS,fun y hy=>absurd rfl hy⟩
theorem attr_of {prog:Program} {w:World} {env:Env} {e:Expr} {f:Str} {pos:Pos} {s:Shared} {Q:Value→Shared→Prop} (hb:attributeBase e f env (eval e env)=eval e env)
  (h:wpAny (model prog w) A (eval e env) (fun o s₁=>wpAny (model prog w) A (getAttr o f true) Q E s₁) E s):wpAny (model prog w) A (eval (.Attribute e f pos) env) Q E s :=
 Attribute_any_ h (by rw [arm_eval_Attribute,hb])
end
inductive PtFld (K:PySem.W.Frag) (f:Str) (x:V) (H:Hp) (Q:VK):Prop
 | mk (a C dx:Addr) (fs:List (Str×V)) (v:V) (h0:x=.ref a) (h1:H a=some (.ins C dx fs)) (h2:Cls K C) (h3:NoAttr K C f) (h4:fs.lookup f=some v) (h5:Q v H):PtFld K f x H Q
def tFld (K:PySem.W.Frag) (ta:TE) (f:Str):TE:=fun σ H Q=>ta σ H fun x H1=>PtFld K f x H1 Q
def sFld (K:PySem.W.Frag) (ta tv:TE) (f:Str):TS:=fun D σ H=>tv σ H fun y H1=>ta σ H1 fun x H2=>∃ a C dx fs,x=.ref a∧H2 a=some (.ins C dx fs)∧Cls K C∧NoAttr K C f∧fs.length < 1000 ∧
 D.nx σ (upd H2 a (.ins C dx (putF f y fs)))
section
variable {X:Cx} {o e value:Expr} {f:Str} {pos pos' tpos:Pos} {ta tv:TE}
theorem pe_fld (he:PE X e ta) (hb:attributeBase e f X.env (eval e X.env)=eval e X.env):PE X (.Attribute e f pos) (tFld X.K ta f):=by
 intro pins s σ H Q I h
 refine attr_of hb (thn (he pins s σ H _ I h) fun u s1 ⟨x,H1,I1,rx,a,C,dx,fs,v,ex,ea,c,n,l,q⟩=>?_)
 subst ex
 obtain rfl:u=Ac a:=rx
 exact getattr_ok I1 ea c n l fun u' s2 I2 ru=>⟨v,H1,I2,ru,q⟩
theorem ps_fld (ha:PE X o ta) (hv:PE X value tv) (hs:swapsWith value (some (.Attribute o f pos')) pos.line X.env=pure false):PS X (.Assign [.Attribute o f pos'] value pos) (sFld X.K ta tv f):=by
 intro pins s σ H D I h
 refine plainObj_wpAny_Assign_Attribute (thn (hv pins s σ H _ I h) fun u s1 ⟨y,H1,I1,ry,q⟩=>thn (ha pins s1 σ H1 _ I1 q) fun ov s2 ⟨x,H2,I2,rx,a,C,dx,fs,ex,ea,c,n,l,q2⟩=>?_) hs
 subst ex
 obtain rfl:ov=Ac a:=rx
 exact setattr_ok I2 ea c n l ry fun s3 I3=>⟨σ,_,I3,q2⟩
theorem methcall_of {pl:Sem Bool} {m:Str} {apos:Pos} {args:List Expr} {pins:List (Addr×Obj)} {s:Shared} {σ:St} {H:Hp} {Q:Value→Shared→Prop} {te:TE} (he:PE X e te) (I:Inv X pins σ H s)
  (h:te σ H fun x H1=>∃ a C dx fs g,x=.ref a∧H1 a=some (.ins C dx fs)∧Cls X.K C∧Meth X.K C m g∧fs.lookup m=none ∧
   ∀ s1,Inv X pins σ H1 s1→wpAny (model X.prog X.w) X.A (callWith pos (.ref g) [.ref a] (backTo pos (Af args X.env)) (backToKw pos (keywordEach [] X.env))) Q X.xe s1)
  (ht:eval (.Call (.Attribute e m apos) args [] pos) X.env=(do
   let ov ← eval e X.env
   standAt apos.atName
   let (f,first) ← holding [ov] (getMethod ov m pl)
   callWith pos f first (backTo pos (Af args X.env)) (backToKw pos (keywordEach [] X.env)))) :
  wpAny (model X.prog X.w) X.A (eval (.Call (.Attribute e m apos) args [] pos) X.env) Q X.xe s:=by
 refine PySem.W.methodCall_KW (pl:=pl) (thn (he pins s σ H _ I h) fun u s1 ⟨x,H1,I1,rx,a,C,dx,fs,g,ex,ea,c,k,l,q⟩=>?_) ht
 subst ex
 obtain rfl:u=Ac a:=rx
 exact getmeth_ok I1 ea c k l (q s1 I1)
end
section
variable {X:Cx} {pins:List (Addr×Obj)} {σ:St} {H:Hp} {s:Shared} {A:Around} {E:Value→Shared→Prop} {Q:Value→Shared→Prop} {c:Value} {b:Bool}
end
structure Room (k:Nat) (A:Around):Prop where
 hd:A.handled=none
 dp:A.depth + 3 * k + 5 < recursionLimit
 un:A.units + 16 * k + 200 < cLine
theorem Room.mono {j k:Nat} {A:Around} (r:Room k A) (h:j≤k):Room j A:=⟨r.hd,by have:=r.dp; lia,by have:=r.un; lia⟩
theorem Room.deeper {k:Nat} {A:Around} (r:Room (k + 1) A) (env:Env):Room k (A.deeper env) :=
 ⟨r.hd,by have:=r.dp; show A.depth + 1 + 3 * k + 5 < _; lia,by have:=r.un; show A.units + 3 + 16 * k + 200 < _; lia⟩
theorem make_depth {A:Around} {C:Addr} {us:List Value} {kw:List (Str×Value)}:(A.under (.builtin "type.__call__" ⟨.ref C :: us,kw⟩)).depth=A.depth + 1:=by
 first | rfl | simp [Around.under,Code.weight,Code.isCreation,Code.isGuard,Code.isCaller,Code.frames,Code.isFrame,guardIds]
theorem make_units {A:Around} {C:Addr} {us:List Value} {kw:List (Str×Value)}:(A.under (.builtin "type.__call__" ⟨.ref C :: us,kw⟩)).units=A.units + 1:=by
 first | rfl | simp [Around.under,Code.cUnits,Code.frames,Code.isFrame]
theorem Room.make {k:Nat} {A:Around} (r:Room (k + 1) A) (C:Addr) (us:List Value) (kw:List (Str×Value)):Room k (A.under (.builtin "type.__call__" ⟨.ref C :: us,kw⟩)) :=
 ⟨r.hd,by have:=r.dp; rw [make_depth]; lia,by have:=r.un; rw [make_units]; lia⟩
theorem Room.depth {k:Nat} {A:Around} (r:Room k A):A.depth < recursionLimit:=by have:=r.dp; lia
theorem Room.units {k:Nat} {A:Around} (r:Room k A):A.units + 64 < cLine:=by have:=r.un; lia
def tNil:TA:=fun _ H Q=>Q [] H
def tCons (ta:TE) (tr:TA):TA:=fun σ H Q=>ta σ H fun x H1=>tr σ H1 fun xs H2=>Q (x :: xs) H2
section
variable {X:Cx} {e:Expr} {es:List Expr} {te:TE} {t:TA} {pos:Pos}
theorem pa_nil:PA X [] tNil:=fun _ _ _ _ H Q I h=>Calls.spliced_nil ⟨[],H,I,.nil,h⟩
theorem pa_cons (ha:PE X e te) (hr:PA X es t) (hs:Af (e :: es) X.env=(false,eval e X.env) :: Af es X.env:=by rfl):PA X (e :: es) (tCons te t):=by
 intro pos pins s σ H Q I h
 rw [hs]
 show wpAny _ _ (spliced ((false,eval e X.env) :: backTo pos (Af es X.env))) _ _ s
 refine Calls.spliced_cons (thn (ha pins s σ H _ I h) fun u s1 ⟨x,H1,I1,r1,q1⟩=>?_)
 exact thn (hr pos pins s1 σ H1 _ I1 q1) fun us s2 ⟨xs,H2,I2,r2,q2⟩=>⟨x :: xs,H2,I2,.cons r1 r2,q2⟩
def tTup (t:TA):TE:=fun σ H Q=>t σ H fun xs H1=>xs.length≤AL∧∀ p,H1 p=none→Q (.ref p) (upd H1 p (.tup xs))
def tLst (t:TA):TE:=fun σ H Q=>t σ H fun xs H1=>xs.length≤AL∧∀ p,H1 p=none→Q (.ref p) (upd H1 p (.lst xs))
theorem pe_tup {x1} (h:PA X es t):PE X (.Tuple es x1 pos) (tTup t):=by
 intro pins s σ H Q I hq
 refine wpAny_Tuple_spliced (thn (h pos pins s σ H _ I hq) fun us s1 ⟨xs,H1,I1,r,z,q⟩=>⟨by rw [← r.length]; exact z,?_⟩)
 have hf:H1 s1.heap.objs.size=none:=I1.hok.fresh (AD _)
 refine ⟨.ref s1.heap.objs.size,upd H1 s1.heap.objs.size (.tup xs),I1.laid (t':=s1.toks) (fun b u e=>AH _ e) (AD _) ?_,rfl,q _ hf⟩
 exact ⟨z,us,r,⟨_,Al _ rfl,rfl,_,rfl⟩⟩
theorem pe_lst (h:PA X es t):PE X (.List es pos) (tLst t):=by
 intro pins s σ H Q I hq
 refine wpAny_List_spliced (thn (h pos pins s σ H _ I hq) fun us s1 ⟨xs,H1,I1,r,z,q⟩=>⟨by rw [← r.length]; exact z,?_⟩)
 have hf:H1 s1.heap.objs.size=none:=I1.hok.fresh (AD _)
 refine ⟨.ref s1.heap.objs.size,upd H1 s1.heap.objs.size (.lst xs),I1.laid (t':=s1.toks) (fun b u e=>AH _ e) (AD _) ?_,rfl,q _ hf⟩
 exact ⟨z,us,0,r,Al _ rfl⟩
end
abbrev Sp:=List V→Hp→VK→XK→Prop
abbrev CXT:=List Env→Hp→Shared→XK→Value→Shared→Prop
structure Env0 (P:Program) (w:World) (K:PySem.W.Frag) (mg:Str→Option Value) (base:Heap) (A:Around) (outer:List Env) (s:Shared) (H:Hp):Prop where
 frames:A.frames=some outer
 mod:Mod K mg base
 bs:∀ b o,base.get? b=some o→s.heap.get? b=some o∧H b=none
 bsz:base.objs.size≤s.heap.objs.size
 funs:s.heap.FunFrames base outer
 frf:∀ b∈frs outer,H b=none
 hok:HOk P w H s.heap
 bare:AllBare s.gens
def CE (outer:List Env) (P:Program) (w:World) (H:Hp) (s:Shared) (Q:VK) (u:Value) (s':Shared):Prop :=
 ∃ v H',s'.os=s.os∧AllBare s'.gens∧Un (frs outer) [] H H' s.heap s'.heap∧HOk P w H' s'.heap∧RelV v u∧Q v H'
def CR (CX:CXT) (outer:List Env) (P:Program) (w:World) (H:Hp) (s:Shared) (Q:VK) (E:XK) (r:Result) (s':Shared):Prop :=
 match r with
 | .ok (.ret u)=>CE outer P w H s Q u s'
 | .ok _=>False
 | .error e=>CX outer H s E e s'
structure FnOk (P:Program) (w:World) (K:PySem.W.Frag) (mg:Str→Option Value) (base:Heap) (CX:CXT) (k:Nat) (f:Addr) (fd:FuncData) (ps:List Str) (sp:Sp):Prop where
 len:∀ vs H Q E,sp vs H Q E→vs.length=ps.length
 run:∀ (A:Around) (outer:List Env) (s:Shared) (H:Hp) (args:Args) (us:List Value) (vs:List V) (Q:VK) (E:XK),Room k A→Env0 P w K mg base A outer s H→BindsTo s fd args (ps.zip us)→Vals vs us→sp vs H Q E →
  codeAny (model P w) A (.call (.ref f) args) (CR CX outer P w H s Q E) s
theorem Env0.make {P:Program} {w:World} {K:PySem.W.Frag} {mg:Str→Option Value} {base:Heap} {A:Around} {outer:List Env} {s:Shared} {H:Hp} (e:Env0 P w K mg base A outer s H) (C:Addr) (us:List Value) (kw:List (Str×Value)) :
  Env0 P w K mg base (A.under (.builtin "type.__call__" ⟨.ref C :: us,kw⟩)) outer s H:=⟨by first | exact e.frames | (simpa [Around.under,Code.envs,Code.isFrame,pushEnvs] using e.frames),e.mod,e.bs,e.bsz,e.funs,e.frf,e.hok,e.bare⟩
section
variable {X:Cx} {pins:List (Addr×Obj)} {σ:St} {H:Hp} {s s':Shared}
theorem Inv.env0 (I:Inv X pins σ H s):Env0 X.prog X.w X.K X.mg X.base X.A X.stack s H :=
 ⟨I.ok.frames,I.ok.mod,I.bs,Ag I.ok.bsz I.sz,I.stack,I.stkFree,I.hok,I.bare⟩
theorem Inv.after {Q:VK} {u:Value} (I:Inv X pins σ H s) (h:CE X.stack X.prog X.w H s Q u s'):EP X pins σ Q u s':=by
 obtain ⟨v,H',os,bare,un,hok,r,q⟩:=h
 obtain ⟨hh,g,d,t,os'⟩:=s'
 obtain rfl:os'=s.os:=os
 exact ⟨v,H',I.call (h':=hh) (g':=g) (d':=d) (t':=t) (ch:=[]) un hok bare (fun b z=>absurd z (by simp)),r,q⟩
end
def tCall (sp:Sp) (dvs:List V) (E:XK) (t:TA):TE:=fun σ H Q=>t σ H fun vs H1=>sp (vs++dvs) H1 Q E
def tMeth (C:Addr) (m:Str) (sp:Sp) (dvs:List V) (E:XK) (ta:TE) (t:TA):TE:=fun σ H Q=>ta σ H fun x H1=>∃ a dx fs,x=.ref a∧H1 a=some (.ins C dx fs)∧fs.lookup m=none ∧
 t σ H1 fun vs H2=>sp (x :: (vs++dvs)) H2 Q E
def tMake (C:Addr) (sp:Sp) (dvs:List V) (E:XK) (t:TA):TE:=fun σ H Q=>t σ H fun vs H1=>∀ x dx,H1 x=none→H1 dx=none→dx≠x →
 sp (.ref x :: (vs++dvs)) (upd (upd H1 dx (.own x)) x (.ins C dx [])) (fun v H2=>v=.non∧Q (.ref x) H2) E
def Binds (K:PySem.W.Frag) (fd:FuncData) (ps:List Str) (ds:List Value):Prop :=
 ∀ (s:Shared) (us:List Value),K.In s.heap→(us++ds).length=ps.length→BindsTo s fd ⟨us,[]⟩ (ps.zip (us++ds))
theorem Binds.all {K:PySem.W.Frag} {fd:FuncData} {ps:List Str} (h:∀ us:List Value,us.length=ps.length→bindArgs fd ⟨us,[]⟩=pure (ps.zip us)):Binds K fd ps []:=fun s us _ hl=>by
 rw [BB] at hl ⊢
 exact .of_eq (h us hl)
def Passes (CX:CXT) (X:Cx) (E:XK):Prop:=∀ (pins:List (Addr×Obj)) (σ:St) (H:Hp) (s:Shared) (e:Value) (s':Shared),Inv X pins σ H s→CX X.stack H s E e s'→X.xe e s'
section
variable {X:Cx} {CX:CXT} {k:Nat} {f C:Addr} {fd:FuncData} {ps:List Str} {sp:Sp} {dvs:List V} {ds:List Value} {E:XK} {x m:Str} {p pos apos:Pos} {e o:Expr} {es:List Expr} {ta:TE} {t:TA}
theorem run_fn {pins:List (Addr×Obj)} {σ:St} {H:Hp} {s:Shared} {Q:VK} {us:List Value} {vs:List V} (F:FnOk X.prog X.w X.K X.mg X.base CX k f fd ps sp) (hr:Room k X.A) (hb:Binds X.K fd ps ds) (hd:Vals dvs ds) (hx:Passes CX X E)
  (I:Inv X pins σ H s) (r:Vals vs us) (h:sp (vs++dvs) H Q E):wpAny (model X.prog X.w) X.A (call (.ref f) us) (EP X pins σ Q) X.xe s:=by
 have r2:Vals (vs++dvs) (us++ds):=r.append hd
 have hl:(us++ds).length=ps.length:=by rw [← r2.length]; exact F.len _ _ _ _ h
 refine wpAny_call (codeAny_mono (F.run X.A X.stack s H ⟨us,[]⟩ (us++ds) (vs++dvs) Q E hr I.env0 (hb s us I.kIn hl) r2 h) fun r s' hq=>?_)
 cases r with
 | error e=>exact hx pins σ H s e s' I hq
 | ok fl =>
  cases fl with
  | ret u=>exact I.after hq
  | next=>exact False.elim hq
  | brk=>exact False.elim hq
  | cont=>exact False.elim hq
theorem pe_call (F:FnOk X.prog X.w X.K X.mg X.base CX k f fd ps sp) (hr:Room k X.A) (hg:Gl X x) (hm:X.mg x=some (.ref f)) (hk:Ah X.K (.ref f)=true) (hb:Binds X.K fd ps ds) (hd:Vals dvs ds) (hx:Passes CX X E)
  (ha:PA X (e :: es) t) (hdb:(x == ("__debug__":Str))=false:=by decide) (he:Af (e :: es) X.env=(false,eval e X.env) :: Af es X.env:=by rfl) (hpl:(backTo pos (Af es X.env)).any (·.1)=false:=by rfl) :
  PE X (.Call (.Name x p) (e :: es) [] pos) (tCall sp dvs E t):=by
 intro pins s σ H Q I h
 refine wpAny_Call_Name_kw (ld_glob I hg hm ?_ hdb)
 refine PySem.W.callWith_K (h₀:=X.base) I.ok.mod.kin hk (thn (ha pos pins s σ H _ I h) fun us s1 ⟨vs,H1,I1,r,q⟩=>⟨I1.kIn,?_⟩) he hpl
 exact run_fn F hr hb hd hx I1 r q
theorem pe_meth {pl:Sem Bool} (he:PE X o ta) (c:Cls X.K C) (hm:Meth X.K C m f) (F:FnOk X.prog X.w X.K X.mg X.base CX k f fd ps sp) (hr:Room k X.A) (hb:Binds X.K fd ps ds) (hd:Vals dvs ds) (hx:Passes CX X E) (ha:PA X (e :: es) t)
  (hst:Af (e :: es) X.env=(false,eval e X.env) :: Af es X.env:=by rfl) (hpl:(backTo pos (Af es X.env)).any (·.1)=false:=by rfl)
  (ht:eval (.Call (.Attribute o m apos) (e :: es) [] pos) X.env=(do
   let ov ← eval o X.env
   standAt apos.atName
   let (f,first) ← holding [ov] (getMethod ov m pl)
   callWith pos f first (backTo pos (Af (e :: es) X.env)) (backToKw pos (keywordEach [] X.env))):=by rfl) :
  PE X (.Call (.Attribute o m apos) (e :: es) [] pos) (tMeth C m sp dvs E ta t):=by
 intro pins s σ H Q I h
 refine PySem.W.methodCall_KW (pl:=pl) (thn (he pins s σ H _ I h) fun u s1 ⟨x,H1,I1,rx,a,dx,fs,ex,ea,l,q⟩=>?_) ht
 subst ex
 obtain rfl:u=Ac a:=rx
 refine getmeth_ok I1 ea c hm l ?_
 refine PySem.W.callWith_K (first:=[.ref a]) (h₀:=X.base) I.ok.mod.kin hm.kp (thn (ha pos pins s1 σ H1 _ I1 q) fun us s2 ⟨vs,H2,I2,r,q2⟩=>⟨I2.kIn,?_⟩) hst hpl
 exact run_fn (us:=.ref a :: us) (vs:=.ref a :: vs) F hr hb hd hx I2 (.cons rfl r) q2
structure Mk (K:PySem.W.Frag) (C f:Addr):Prop where
 makes:PySem.W.makesIn K C=true
 init:AX K (.ref C) "__init__"=some (some (.ref f))
 fn:A4 K (.ref f)=true
 kp:Ah K (.ref C)=true
theorem run_make {pins:List (Addr×Obj)} {σ:St} {H:Hp} {s:Shared} {Q:VK} {us:List Value} {vs:List V} (M:Mk X.K C f) (F:FnOk X.prog X.w X.K X.mg X.base CX k f fd ps sp) (hr:Room (k + 1) X.A) (hb:Binds X.K fd ps ds) (hd:Vals dvs ds)
  (hx:Passes CX X E) (I:Inv X pins σ H s) (r:Vals vs us)
  (h:∀ x dx,H x=none→H dx=none→dx≠x→sp (.ref x :: (vs++dvs)) (upd (upd H dx (.own x)) x (.ins C dx [])) (fun v H2=>v=.non∧Q (.ref x) H2) E) :
  wpAny (model X.prog X.w) X.A (call (.ref C) us) (EP X pins σ Q) X.xe s:=by
 have hq:=h (s.heap.objs.size + 1) s.heap.objs.size (I.hok.fresh (Nat.le_succ _)) (I.hok.fresh (AD _)) (AU (Nat.lt_succ_self _))
 have I2:=Inv.made (C:=C) I
 have r2:Vals (V.ref (s.heap.objs.size + 1) :: (vs++dvs)) (Ac (s.heap.objs.size + 1) :: (us++ds)):=.cons rfl (r.append hd)
 have hl:(Ac (s.heap.objs.size + 1) :: us++ds).length=ps.length:=by
  have e:=r2.length
  rw [F.len _ _ _ _ hq] at e
  exact e.symm
 refine wpAny_call (make_map (f:=f) I.kIn M.makes M.init (beq_iff_eq.mp M.fn) (codeAny_mono (F.run _ X.stack _ _ ⟨Ac (s.heap.objs.size + 1) :: us,[]⟩ (Ac (s.heap.objs.size + 1) :: (us++ds)) _ _ E (hr.make C us [])
  (I2.env0.make C us []) (hb _ (Ac (s.heap.objs.size + 1) :: us) I2.kIn hl) r2 hq) fun r s' hq'=>?_))
 cases r with
 | error e=>exact hx pins σ _ _ e s' I2 hq'
 | ok fl =>
  cases fl with
  | ret u =>
   obtain ⟨v,H',I3,rv,ev,q3⟩:=I2.after hq'
   subst ev
   exact ⟨rv,⟨V.ref (s.heap.objs.size + 1),H',I3,rfl,q3⟩⟩
  | next=>exact False.elim hq'
  | brk=>exact False.elim hq'
  | cont=>exact False.elim hq'
theorem pe_make (M:Mk X.K C f) (F:FnOk X.prog X.w X.K X.mg X.base CX k f fd ps sp) (hr:Room (k + 1) X.A) (hg:Gl X x) (hm:X.mg x=some (.ref C)) (hb:Binds X.K fd ps ds) (hd:Vals dvs ds) (hx:Passes CX X E)
  (ha:PA X (e :: es) t) (hdb:(x == ("__debug__":Str))=false:=by decide) (he:Af (e :: es) X.env=(false,eval e X.env) :: Af es X.env:=by rfl) (hpl:(backTo pos (Af es X.env)).any (·.1)=false:=by rfl) :
  PE X (.Call (.Name x p) (e :: es) [] pos) (tMake C sp dvs E t):=by
 intro pins s σ H Q I h
 refine wpAny_Call_Name_kw (ld_glob I hg hm ?_ hdb)
 refine PySem.W.callWith_K (h₀:=X.base) I.ok.mod.kin M.kp (thn (ha pos pins s σ H _ I h) fun us s1 ⟨vs,H1,I1,r,q⟩=>⟨I1.kIn,?_⟩) he hpl
 exact run_make M F hr hb hd hx I1 r q
end
section
variable {X:Cx} {CX:CXT} {k:Nat} {f C:Addr} {fd:FuncData} {ps ks:List Str} {sp:Sp} {E:XK} {x m:Str} {p pos apos kpos:Pos} {e o:Expr} {es:List Expr} {kws:List Keyword} {te ta:TE} {t tk:TA} {nm:Option Str}
variable {g:List Value→List Value→List Value} {gV:List V→List V→List V}
end
structure FnScope (N P:List Str) (sc:Scope):Prop where
 kind:sc.kind=.function
 co:sc.isCoroutine=false
 gen:sc.isGenerator=false
 nd:N.Nodup
 pre:N.take P.length=P
 par:∀ x∈P,sc.names.lookup x=some .local∨sc.names.lookup x=some .cell
 nofree:∀ y∈sc.names,y.2≠.free
theorem bindL_out {kindOf:Str→Option NameKind} {x:Str}:∀ {binds:List (Str×Value)} {m:Str→Option Value},(∀ v,(x,v) ∉ binds)→bindL kindOf binds m x=m x
 | [],_,_=>rfl
 | (n,v) :: r,m,h=>by
  unfold bindL
  rw [bindL_out fun w hw=>h w (AR _ hw)]
  split
  ·have:x≠n:=by rintro rfl; exact h v Ab
   simp [this]
  ·rfl
theorem bindC_out {kindOf:Str→Option NameKind} {x:Str}:∀ {binds:List (Str×Value)} {m:Str→Option Value},(∀ v,(x,v) ∉ binds)→bindC kindOf binds m x=m x
 | [],_,_=>rfl
 | (n,v) :: r,m,h=>by
  unfold bindC
  rw [bindC_out fun w hw=>h w (AR _ hw)]
  split
  ·rfl
  ·have:x≠n:=by rintro rfl; exact h v Ab
   simp [this]
theorem bindL_get {kindOf:Str→Option NameKind} {x:Str} {v:Value}:∀ {P:List Str} {vs:List Value} {i:Nat} {m:Str→Option Value},P.Nodup→P[i]?=some x→vs[i]?=some v→kindOf x=some .local →
  bindL kindOf (P.zip vs) m x=some v
 | [],_,_,_,_,h,_,_=>by simp at h
 | _ :: _,[],_,_,_,_,h,_=>by simp at h
 | p :: P,w :: vs,0,m,nd,h1,h2,hk=>by
  simp at h1 h2; subst h1; subst h2
  show bindL kindOf ((p,w) :: P.zip vs) m p=_
  unfold bindL
  rw [bindL_out fun v hv=>(List.nodup_cons.mp nd).1 (List.of_mem_zip hv).1,if_pos hk]
  simp
 | p :: P,w :: vs,i + 1,m,nd,h1,h2,hk=>by
  show bindL kindOf ((p,w) :: P.zip vs) m x=_
  unfold bindL
  exact bindL_get (i:=i) (List.nodup_cons.mp nd).2 (by simpa using h1) (by simpa using h2) hk
theorem bindC_get {kindOf:Str→Option NameKind} {x:Str} {v:Value}:∀ {P:List Str} {vs:List Value} {i:Nat} {m:Str→Option Value},P.Nodup→P[i]?=some x→vs[i]?=some v→kindOf x≠some .local →
  bindC kindOf (P.zip vs) m x=some v
 | [],_,_,_,_,h,_,_=>by simp at h
 | _ :: _,[],_,_,_,_,h,_=>by simp at h
 | p :: P,w :: vs,0,m,nd,h1,h2,hk=>by
  simp at h1 h2; subst h1; subst h2
  show bindC kindOf ((p,w) :: P.zip vs) m p=_
  unfold bindC
  rw [bindC_out fun v hv=>(List.nodup_cons.mp nd).1 (List.of_mem_zip hv).1,if_neg hk]
  simp
 | p :: P,w :: vs,i + 1,m,nd,h1,h2,hk=>by
  show bindC kindOf ((p,w) :: P.zip vs) m x=_
  unfold bindC
  exact bindC_get (i:=i) (List.nodup_cons.mp nd).2 (by simpa using h1) (by simpa using h2) hk
def start (N:List Str) (vs:List V):St:=vs.map some++A3 (N.length - vs.length) none
def cxOf (CX:CXT) (P:Program) (w:World) (K:PySem.W.Frag) (mg:Str→Option Value) (base:Heap) (N:List Str) (qual:Str) (scope:Scope) (f:Addr) (cd:Value) (A:Around) (outer:List Env) (s:Shared) (H:Hp) (E:XK):Cx where
 prog:=P
 w:=w
 K:=K
 mg:=mg
 base:=base
 A:=A.deeper (envOfC qual scope s.heap.objs.size f cd)
 N:=N
 s₀:=s
 H₀:=H
 env:=envOfC qual scope s.heap.objs.size f cd
 outer:=outer
 stack:=envOfC qual scope s.heap.objs.size f cd :: outer
 ex:=[]
 calm:=true
 fn:=fun _=>true
 pn:=[]
 xe:=fun e s'=>wpAny (model P w) (A.deeper (envOfC qual scope s.heap.objs.size f cd)) (leaving (envOfC qual scope s.heap.objs.size f cd) e) (fun _ s''=>CX outer H s E e s'') (fun e' s''=>CX outer H s E e' s'') s'
theorem cell_has {sc:Scope} {n:Nat} {x:Str} (h:sc.names.lookup x=some .cell):∃ c,(cellsFrom n sc.names []).lookup x=some c:=by
 have q:=PySem.W.cellsFrom_some sc.names n [] (.inl h)
 exact Option.isSome_iff_exists.mp q
theorem inv_start {CX:CXT} {P:Program} {w:World} {K:PySem.W.Frag} {mg:Str→Option Value} {base:Heap} {N ps:List Str} {qual:Str} {scope:Scope} {f:Addr} {cd:Value} {A:Around} {outer:List Env} {s s1:Shared} {H:Hp} {E:XK} {us:List Value} {vs:List V}
  (S:FnScope N ps scope) (hd:A.handled=none) (e0:Env0 P w K mg base A outer s H) (hl:vs.length=ps.length) (r:Vals vs us)
  (x:InCallC s s.heap.objs.size (bindL (envOfC qual scope s.heap.objs.size f cd).kindOf (ps.zip us) fun _=>none) (cellsFrom (s.heap.objs.size + 1) scope.names []) (bindC (envOfC qual scope s.heap.objs.size f cd).kindOf (ps.zip us) fun _=>none) s1) :
  Inv (cxOf CX P w K mg base N qual scope f cd A outer s H E) [] (start N vs) H s1:=by
 have hpl:ps.length≤N.length:=by have:=congrArg List.length S.pre; rw [A0] at this; lia
 obtain ⟨h1,tk,rfl,hk⟩:=x.done
 have noA:∀ b:Addr,b ∉ (cxOf CX P w K mg base N qual scope f cd A outer s H E).ex:=fun b z=>absurd (show b∈([]:List Addr) from z) (by simp)
 refine ⟨⟨e0.mod,S.kind,rfl,rfl,AD _,fun y z c h1 h2=>?_,fun y hy=>?_,fun y c _ h=>?_,fun _=>hd,Around.frames_deeper e0.frames,.inr ⟨rfl,rfl⟩,fun b z=>absurd z (noA b),e0.bs,e0.bsz,fun b _ _=>noA b,fun b z=>absurd z (noA b),e0.funs,e0.frf⟩,
  rfl,e0.bare,Un.kept hk,⟨_,x.toInCall.ns,fun i y v h1 h2 h3=>?_⟩,fun y c h=>⟨_,x.cell y c h⟩,e0.hok.fresh (AD _),fun y c h=>?_,fun p hp=>absurd (show p∈([]:List (Addr×Obj)) from hp) (by simp),e0.hok.kept hk,?_⟩
 ·exact name_of_addr x.apart (PySem.mem_of_lookup h1) (PySem.mem_of_lookup h2)
 ·have hy:scope.names.lookup y=some .cell∨scope.names.lookup y=some .free:=hy
  rcases hy with hy | hy
  ·exact cell_has hy
  ·exact absurd rfl (S.nofree _ (PySem.mem_of_lookup hy))
 ·exact Nat.le_of_lt (x.above y c (PySem.mem_of_lookup h))
 ·have hi:i < vs.length:=by
   unfold start at h2
   by_cases hi:i < vs.length
   ·exact hi
   ·rw [List.getElem?_append_right (by simpa using hi)] at h2
    rw [List.getElem?_replicate] at h2
    split at h2 <;> cases h2
  have ha:vs[i]?=some v:=by
   unfold start at h2
   rw [List.getElem?_append_left (by simpa using hi),AF] at h2
   cases e:vs[i]? with
   | none=>rw [e] at h2; cases h2
   | some a=>rw [e] at h2; cases h2; rfl
  obtain ⟨u,hu,rv⟩:=r.get ha
  have hp:ps[i]?=some y:=by
   rw [← S.pre,List.getElem?_take_of_lt (by lia)]; exact h1
  have ndP:ps.Nodup:=by rw [← S.pre]; exact S.nd.sublist (List.take_sublist _ _)
  refine ⟨u,rv,?_⟩
  rcases S.par y (A5 hp) with k | k
  ·exact .inl ⟨k,bindL_get ndP hp hu k⟩
  ·obtain ⟨c,e⟩:=cell_has (n:=s.heap.objs.size + 1) k
   refine .inr ⟨.inl k,c,e,?_⟩
   have q:=x.cell y c e
   rw [bindC_get ndP hp hu (by show scope.names.lookup y≠_; rw [k]; decide)] at q
   exact q
 ·exact e0.hok.fresh (Nat.le_of_lt (x.above y c (PySem.mem_of_lookup h)))
 ·unfold start
  show _=N.length
  rw [AI,AA,List.length_replicate]
  lia
theorem fn_of {CX:CXT} {P:Program} {w:World} {K:PySem.W.Frag} {mg:Str→Option Value} {base:Heap} {k:Nat} {f:Addr} {name qual:Str} {params:Arguments} {body:List Stmt} {scope:Scope} {dV kV doc pm cdv ct oc:Value} {an od:Option Addr}
  {osl:Array (Option Value)} {N ps:List Str} {sp:Sp} (lk:K.lookup f=some ⟨oc,od,.func (Av name qual params body scope dV kV doc pm an cdv ct),osl⟩) (hcd:As K cdv qual=true) (S:FnScope N ps scope)
  (len:∀ vs H Q E,sp vs H Q E→vs.length=ps.length)
  (hbody:∀ (A:Around) (outer:List Env) (s:Shared) (H:Hp) (vs:List V) (Q:VK) (E:XK),Room k (A.deeper (envOfC qual scope s.heap.objs.size f cdv))→sp vs H Q E →
   ∃ t,PSs (cxOf CX P w K mg base N qual scope f cdv A outer s H E) body t∧t { nx:=fun _ H'=>Q .non H',rt:=Q } (start N vs) H) :
  FnOk P w K mg base CX (k + 1) f (Av name qual params body scope dV kV doc pm an cdv ct) ps sp:=by
 refine ⟨len,fun A outer s H args us vs Q E hr e0 hb r hsp=>?_⟩
 have hl:=len _ _ _ _ hsp
 have KX:K.In s.heap:=e0.mod.kin.keeps fun b o e=>(e0.bs b o e).1
 have lim:s.heap.NoLimit:=e0.mod.nolimit.keeps fun b o e=>(e0.bs b o e).1
 have hkind:∀ y∈ps.zip us,scope.names.lookup y.1=some .local∨(scope.names.lookup y.1=some .cell∧((cellsFrom (s.heap.objs.size + 1) scope.names []).lookup y.1).isSome=true):=fun ⟨n,v⟩ hy=>by
  rcases S.par n (List.of_mem_zip hy).1 with q | q
  ·exact .inl q
  ·exact .inr ⟨q,PySem.W.cellsFrom_some _ _ _ (.inl q)⟩
 refine codeAny_call_function hr.depth (KX _ _ lk) rfl S.co S.gen rfl (PySem.W.codeRec_of KX hcd) (hb _ _ _ _ ?_)
 refine wpAny_newFunctionEnv_cells S.kind hkind fun env he s1 x=>?_
 subst he
 refine ⟨lim.keeps x.toInCall.keep,codeAny_func ?_⟩
 obtain ⟨t,ht,hq⟩:=hbody A outer s H vs Q E (hr.deeper _) hsp
 have I:Inv (cxOf CX P w K mg base N qual scope f cdv A outer s H E) [] (start N vs) H s1:=inv_start S hr.hd e0 hl r x
 refine wpAny_mono (ht [] s1 (start N vs) H _ I hq) (fun fl s' hs=>?_) fun e s' hs=>hs
 have fin:∀ {σ':St} {H':Hp} {v:V} {u:Value},Inv (cxOf CX P w K mg base N qual scope f cdv A outer s H E) [] σ' H' s'→RelV v u→Q v H'→CE outer P w H s Q u s' :=
  fun {σ' H' v u} J rv q=>⟨v,H',J.os,J.bare,J.base,J.hok,rv,q⟩
 cases fl with
 | ret u =>
  obtain ⟨v,σ',H',J,rv,q⟩:=hs
  exact fin J rv q
 | next =>
  obtain ⟨σ',H',J,q⟩:=hs
  exact fin (v:=V.non) (u:=A7) J rfl q
 | brk =>
  obtain ⟨_,_,_,q⟩:=hs
  exact False.elim q
 | cont =>
  obtain ⟨_,_,_,q⟩:=hs
  exact False.elim q
section
variable {X:Cx} {x:Str} {p pos:Pos} {e:Expr} {es:List Expr} {t:TA} {id T:String} {r:List V→Hp→VK→Prop}
def tCB (r:List V→Hp→VK→Prop) (t:TA):TE:=fun σ H Q=>t σ H fun vs H1=>r vs H1 Q
theorem pe_callB (hc:CallR X (.builtin id) r) (hg:Gl X x) (hm:X.mg x=none) (hv:bootBuiltins x=some (.builtin id)) (ha:PA X (e :: es) t) (hn:x≠"__name__":=by decide) (hdb:(x == ("__debug__":Str))=false:=by decide)
  (he:Af (e :: es) X.env=(false,eval e X.env) :: Af es X.env:=by rfl) (hpl:(backTo pos (Af es X.env)).any (·.1)=false:=by rfl):PE X (.Call (.Name x p) (e :: es) [] pos) (tCB r t):=by
 intro pins s σ H Q I h
 refine wpAny_Call_Name_kw (ld_blt I hg hm hv ?_ hn hdb)
 exact PyProof.Rows.callWith_builtin1 (thn (ha pos pins s σ H _ I h) fun us s1 ⟨vs,H1,I1,r1,q1⟩=>hc pins s1 σ H1 vs us Q I1 r1 q1) he hpl
theorem pe_callTy (hc:CallR X (.type T) r) (hg:Gl X x) (hm:X.mg x=none) (hv:bootBuiltins x=some (.type T)) (ha:PA X (e :: es) t) (hn:x≠"__name__":=by decide) (hdb:(x == ("__debug__":Str))=false:=by decide)
  (he:Af (e :: es) X.env=(false,eval e X.env) :: Af es X.env:=by rfl) (hpl:(backTo pos (Af es X.env)).any (·.1)=false:=by rfl):PE X (.Call (.Name x p) (e :: es) [] pos) (tCB r t):=by
 intro pins s σ H Q I h
 refine wpAny_Call_Name_kw (ld_blt I hg hm hv ?_ hn hdb)
 exact PyProof.Rows.callWith_type1 (thn (ha pos pins s σ H _ I h) fun us s1 ⟨vs,H1,I1,r1,q1⟩=>hc pins s1 σ H1 vs us Q I1 r1 q1) he hpl
end
section
variable {κ:Type} [DecidableEq κ]
def valV (kvs:List (κ×V)) (k:κ):Option V:=(kvs.find? fun kv=>decide (kv.1=k)).map (·.2)
def putK (kvs:List (κ×V)) (k:κ) (v:V):List (κ×V) :=
 if (kvs.any fun kv=>decide (kv.1=k))=true then kvs.map (fun kv=>if kv.1=k then (kv.1,v) else kv) else kvs++[(k,v)]
theorem valV_pos {p:κ×V} {r:List (κ×V)} {k:κ} (e:p.1=k):valV (p :: r) k=some p.2:=by simp [valV,List.find?_cons,e]
theorem valV_neg {p:κ×V} {r:List (κ×V)} {k:κ} (e:¬ p.1=k):valV (p :: r) k=valV r k:=by simp [valV,List.find?_cons,e]
theorem valV_any (k:κ):∀ kvs:List (κ×V),(kvs.any fun kv=>decide (kv.1=k))=(valV kvs k).isSome
 | []=>rfl
 | p :: r=>by
  rw [List.any_cons]
  by_cases e:p.1=k
  ·simp only [valV_pos e,decide_eq_true e,Bool.true_or,Option.isSome_some]
  ·rw [valV_neg e,decide_eq_false e,Bool.false_or]; exact valV_any k r
theorem length_putK (kvs:List (κ×V)) (k:κ) (v:V):(putK kvs k v).length≤kvs.length + 1:=by
 unfold putK
 split
 ·rw [AA]; lia
 ·rw [AI,AO,List.length_nil]; lia
theorem RelO.isSome_eq {o:Option V} {u:Option Value} (r:RelO o u):o.isSome=u.isSome:=by
 cases o with
 | none=>cases u with
  | none=>rfl
  | some _=>exact (show False from r).elim
 | some _=>cases u with
  | none=>exact (show False from r).elim
  | some _=>rfl
theorem KV.val {kvs:List (κ×V)} {vs:List (κ×Value)} (r:KV kvs vs) (k:κ):RelO (valV kvs k) (valueAt vs k):=by
 unfold KV at r
 induction r with
 | nil=>exact AS
 | @cons p q ps qs h t ih =>
  obtain ⟨h1,h2⟩:=h
  by_cases e:p.1=k
  ·have e':q.1=k:=h1.symm.trans e
   have b:valueAt (q :: qs) k=some q.2:=by simp [valueAt,List.find?_cons,e']
   rw [valV_pos e,b]; exact h2
  ·have e':¬ q.1=k:=fun z=>e (h1.trans z)
   have b:valueAt (q :: qs) k=valueAt qs k:=by simp [valueAt,List.find?_cons,e']
   rw [valV_neg e,b]; exact ih
theorem KV.any {kvs:List (κ×V)} {vs:List (κ×Value)} (r:KV kvs vs) (k:κ):(kvs.any fun kv=>decide (kv.1=k))=vs.any fun kv=>decide (kv.1=k):=by
 unfold KV at r
 induction r with
 | nil=>rfl
 | cons h t ih=>rw [List.any_cons,List.any_cons,ih,h.1]
theorem KV.repl {kvs:List (κ×V)} {vs:List (κ×Value)} (r:KV kvs vs) (k:κ) {y:V} {u:Value} (ry:RelV y u) :
  KV (kvs.map fun kv=>if kv.1=k then (kv.1,y) else kv) (vs.map fun kv=>if kv.1=k then (kv.1,u) else kv):=by
 unfold KV at r ⊢
 induction r with
 | nil=>exact .nil
 | @cons p q ps qs h t ih =>
  rw [Az,Az]
  refine .cons ?_ ih
  obtain ⟨h1,h2⟩:=h
  by_cases e:p.1=k
  ·rw [if_pos e,if_pos (h1.symm.trans e)]; exact ⟨h1,ry⟩
  ·rw [if_neg e,if_neg (fun z=>e (h1.trans z))]; exact ⟨h1,h2⟩
theorem KV.put {kvs:List (κ×V)} {vs:List (κ×Value)} (r:KV kvs vs) (k:κ) {y:V} {u:Value} (ry:RelV y u):KV (putK kvs k y) (stored vs k u):=by
 unfold putK stored
 rw [r.any k]
 by_cases e:(vs.any fun kv=>decide (kv.1=k))=true
 ·rw [if_pos e,if_pos e]; exact r.repl k ry
 ·rw [if_neg e,if_neg e]; exact Paired.snoc r ⟨rfl,ry⟩
theorem KV.length {kvs:List (κ×V)} {vs:List (κ×Value)} (r:KV kvs vs):kvs.length=vs.length:=Paired.length r
end
theorem kV_is {P:Program} {w:World} {k:Key} {u:Value} (r:RelV (kV k) u):(mixKind P w).is k u=true:=by
 cases k with
 | inl i=>obtain ⟨t,e⟩:=(show ∃ t,u=Value.int i t from r); subst e; exact mixKind_int P w i t
 | inr x=>obtain ⟨t,e⟩:=(show ∃ t,u=Value.str x t from r); subst e; exact mixKind_str P w x t
theorem items_are {P:Program} {w:World}:∀ {ks:List Key} {us:List Value},Vals (ks.map kV) us→ItemsAre (mixKind P w) ks us
 | [],_,r=>by rw [List.map_nil] at r; cases r; exact .nil
 | k :: ks,_,r=>by
  rw [Az] at r
  cases r with
  | cons h t=>exact .cons (kV_is h) (items_are t)
abbrev KT (H:Hp):List (List Key×V)→List (List Key×Addr×Value)→Prop:=Paired fun p q=>p.1=q.1∧H q.2.1=some (.tup (p.1.map kV))∧RelV p.2 q.2.2
theorem KT.val {H:Hp} {kvs:List (List Key×V)} {xs:List (List Key×Addr×Value)} (r:KT H kvs xs) (k:List Key):RelO (valV kvs k) ((atKey xs k).map (·.2)):=by
 induction r with
 | nil=>exact AS
 | @cons p q ps qs h t ih =>
  obtain ⟨h1,_,h2⟩:=h
  by_cases e:p.1=k
  ·have e':q.1=k:=h1.symm.trans e
   have b:atKey (q :: qs) k=some q.2:=by simp [atKey,List.find?_cons,e']
   rw [valV_pos e,b]; exact h2
  ·have e':¬ q.1=k:=fun z=>e (h1.trans z)
   have b:atKey (q :: qs) k=atKey qs k:=by simp [atKey,List.find?_cons,e']
   rw [valV_neg e,b]; exact ih
theorem KT.repl {H:Hp} {kvs:List (List Key×V)} {xs:List (List Key×Addr×Value)} (r:KT H kvs xs) (k:List Key) {y:V} {u:Value} (ry:RelV y u) :
  KT H (kvs.map fun kv=>if kv.1=k then (kv.1,y) else kv) (xs.map (putAt k u)):=by
 induction r with
 | nil=>exact .nil
 | @cons p q ps qs h t ih =>
  rw [Az,Az]
  refine .cons ?_ ih
  obtain ⟨h1,h2,h3⟩:=h
  unfold putAt
  by_cases e:p.1=k
  ·rw [if_pos e,if_pos (h1.symm.trans e)]; exact ⟨h1,h2,ry⟩
  ·rw [if_neg e,if_neg (fun z=>e (h1.trans z))]; exact ⟨h1,h2,h3⟩
theorem KT.put {H:Hp} {kvs:List (List Key×V)} {xs:List (List Key×Addr×Value)} (r:KT H kvs xs) (k:List Key) {b:Addr} {y:V} {u:Value} (hb:H b=some (.tup (k.map kV))) (ry:RelV y u) :
  KT H (putK kvs k y) (storedH xs k b u):=by
 have e:(kvs.any fun kv=>decide (kv.1=k))=(atKey xs k).isSome:=by
  rw [valV_any,(r.val k).isSome_eq,Option.isSome_map]
 unfold putK storedH
 rw [e]
 by_cases q:(atKey xs k).isSome=true
 ·rw [if_pos q,if_pos q]; exact r.repl k ry
 ·rw [if_neg q,if_neg q]; exact Paired.snoc r ⟨rfl,hb,ry⟩
theorem KT.keeps {H H':Hp} {kvs:List (List Key×V)} {xs:List (List Key×Addr×Value)} (r:KT H kvs xs) (ht:∀ b ys,H b=some (.tup ys)→H' b=some (.tup ys)):KT H' kvs xs :=
 Paired.mapP r fun _ _ z=>⟨z.1,ht _ _ z.2.1,z.2.2⟩
section
variable {P:Program} {w:World} {H:Hp} {h:Heap} {a:Addr}
theorem rd_of {u:HO} (ok:HOk P w H h) (e:Rd H a u):ObjOk P w H h a u:=e.ok ok
theorem dk_rd {kvs:List (Key×V)} (ok:HOk P w H h) (e:Rd H a (.dK kvs)):kvs.length≤AL∧(a == sysModules)=false∧∃ vs,KV kvs vs∧h.DictOf (mixKind P w) a vs :=
 show ObjOk P w H h a (.dK kvs) from rd_of ok e
theorem dk_of {kvs:List (Key×V)} (ok:HOk P w H h) (e:H a=some (.dK kvs)):kvs.length≤AL∧(a == sysModules)=false∧∃ vs,KV kvs vs∧h.DictOf (mixKind P w) a vs:=dk_rd ok (.inl e)
theorem key_of {ks:List Key} (ok:HOk P w H h) (e:H a=some (.tup (ks.map kV))):(tupleKind (mixKind P w)).is h ks a:=by
 obtain ⟨_,its,r,o,h1,h2,n,h3⟩:=(show ObjOk P w H h a (.tup (ks.map kV)) from ok a _ e)
 exact ⟨o,its.toArray,n,h1,h2,h3,by simpa using items_are r⟩
theorem dt_rd {kvs:List (List Key×V)} (ok:HOk P w H h) (e:Rd H a (.dT kvs)):kvs.length≤AL∧(a == sysModules)=false ∧
  ∃ xs,KT H kvs xs∧h.DictOfH (tupleKind (mixKind P w)) a xs:=by
 obtain ⟨z,y,xs,r,o,es,ep,h1,h2,h3,h4,h5⟩:=(show ObjOk P w H h a (.dT kvs) from rd_of ok e)
 refine ⟨z,y,xs,r,o,es,ep,h1,h2,h3,h4,fun x hx=>?_,h5⟩
 have all:∀ {l:List (List Key×V)} {m:List (List Key×Addr×Value)},KT H l m→∀ x∈m,(tupleKind (mixKind P w)).is h x.1 x.2.1:=by
  intro l m q
  induction q with
  | nil=>intro x hx; exact nomatch hx
  | @cons p q ps qs hq t ih =>
   intro x hx
   rcases AW.mp hx with e | hx
   ·subst e
    exact key_of ok (by rw [← hq.1]; exact hq.2.1)
   ·exact ih x hx
 exact all r x hx
theorem dt_of {kvs:List (List Key×V)} (ok:HOk P w H h) (e:H a=some (.dT kvs)):kvs.length≤AL∧(a == sysModules)=false ∧
  ∃ xs,KT H kvs xs∧h.DictOfH (tupleKind (mixKind P w)) a xs:=dt_rd ok (.inl e)
end
def DGet (H:Hp) (a:Addr) (y:V) (r:Option V):Prop :=
 (∃ kvs k,Rd H a (.dK kvs)∧y=kV k∧r=valV kvs k)∨∃ kvs k b,Rd H a (.dT kvs)∧y=.ref b∧H b=some (.tup (k.map kV))∧r=valV kvs k
def DPut (H:Hp) (a:Addr) (y v:V) (H':Hp):Prop :=
 (∃ kvs k,H a=some (.dK kvs)∧y=kV k∧kvs.length < AL∧H'=upd H a (.dK (putK kvs k v))) ∨
 ∃ kvs k b,H a=some (.dT kvs)∧y=.ref b∧H b=some (.tup (k.map kV))∧kvs.length < AL∧H'=upd H a (.dT (putK kvs k v))
theorem DGet.k {H:Hp} {a:Addr} {kvs:List (Key×V)} {k:Key} (e:H a=some (.dK kvs)):DGet H a (kV k) (valV kvs k):=.inl ⟨kvs,k,.inl e,rfl,rfl⟩
theorem DPut.k {H:Hp} {a:Addr} {kvs:List (Key×V)} {k:Key} {v:V} (e:H a=some (.dK kvs)) (hl:kvs.length < AL):DPut H a (kV k) v (upd H a (.dK (putK kvs k v))):=.inl ⟨kvs,k,e,rfl,hl,rfl⟩
theorem DPut.t {H:Hp} {a b:Addr} {kvs:List (List Key×V)} {k:List Key} {v:V} (e:H a=some (.dT kvs)) (eb:H b=some (.tup (k.map kV))) (hl:kvs.length < AL) :
  DPut H a (.ref b) v (upd H a (.dT (putK kvs k v))):=.inr ⟨kvs,k,b,e,rfl,eb,hl,rfl⟩
section
variable {X:Cx} {pins:List (Addr×Obj)} {σ:St} {H:Hp} {s:Shared} {a:Addr} {y v:V} {u r:Value} {o:Option V} {A:Around} {E:Value→Shared→Prop}
theorem Inv.big (I:Inv X pins σ H s):sysModules < s.heap.objs.size:=by
 have h:AZ < s.heap.objs.size:=(I.mod.glob.keeps I.bk).lt
 exact Nat.lt_trans (by decide) h
theorem d_getItem {Q:Value→Shared→Prop} (hu:A.units + 1 < cLine) (I:Inv X pins σ H s) (g:DGet H a y (some v)) (ry:RelV y u) (h:∀ w' s',Inv X pins σ H s'→RelV v w'→Q w' s') :
  wpAny (model X.prog X.w) A (getItem (.ref a) u) Q E s:=by
 rcases g with ⟨kvs,k,e,ey,l⟩ | ⟨kvs,k,b,e,ey,eb,l⟩
 ·subst ey
  obtain ⟨z,hd,vs,rel,dd⟩:=dk_rd I.hok e
  obtain ⟨w',hw,rw'⟩:=RelO.some_of (v:=v) (o:=valueAt vs k) (by rw [l]; exact rel.val k)
  exact wpAny_getItem_of (kV_is ry) dd.mapOf hw (h w' _ (I.tok _) rw')
 ·subst ey
  cases (show u=Ac b from ry)
  obtain ⟨z,hd,xs,rel,dd⟩:=dt_rd I.hok e
  obtain ⟨w',hw,rw'⟩:=RelO.some_of (v:=v) (o:=(atKey xs k).map (·.2)) (by rw [l]; exact rel.val k)
  obtain ⟨p,hp,hp2⟩:=Option.map_eq_some_iff.mp hw
  refine wpAny_getItem_heap (tupleKind_room_in1 hu) (key_of I.hok eb) dd hp ?_
  rw [hp2]
  exact h w' _ (I.tok _) rw'
theorem d_write {h':Heap} {t':Nat} {ob:HO} (I:Inv X pins σ H s) (mu:Mut (H a)) (hs:Heap.SameBut a s.heap h') (he:∃ q,h'.get? a=some q) (new:ObjOk X.prog X.w (upd H a ob) h' a ob) :
  Inv X pins σ (upd H a ob) { s with heap:=h',toks:=t' } :=
 I.write (x:=a) (e:=a) mu (.inl rfl) (fun b q hb z=>(hs.2 b hb).trans z) he new
theorem dk_new {P:Program} {w:World} {H':Hp} {h':Heap} {kvs:List (Key×V)} {vs:List (Key×Value)} (z:kvs.length≤AL) (hd:(a == sysModules)=false) (rel:KV kvs vs) (dd:h'.DictOf (mixKind P w) a vs) :
  ObjOk P w H' h' a (.dK kvs):=⟨z,hd,vs,rel,dd⟩
theorem d_setItem {H':Hp} {Q:Unit→Shared→Prop} (hu:A.units + 1 < cLine) (I:Inv X pins σ H s) (g:DPut H a y v H') (ry:RelV y u) (rv:RelV v r) (h:∀ s',Inv X pins σ H' s'→Q () s') :
  wpAny (model X.prog X.w) A (setItem (.ref a) u r) Q E s:=by
 rcases g with ⟨kvs,k,e,ey,l,eH⟩ | ⟨kvs,k,b,e,ey,eb,l,eH⟩
 ·subst ey eH
  obtain ⟨z,hd,vs,rel,dd⟩:=dk_of I.hok e
  have hz:vs.length≤AL:=by rw [← rel.length]; exact z
  have hl:(putK kvs k v).length≤AL:=by have:=length_putK kvs k v; lia
  refine wpAny_setItem_pairs (hsz:=hz) (kV_is ry) dd fun h' dd' hs=>h _ ?_
  have he:∃ q,h'.get? a=some q:=let ⟨q,_,_,hq,_⟩:=dd'; ⟨q,hq⟩
  exact d_write I (by rw [e]; exact AS) hs he (dk_new hl hd (rel.put k rv) dd')
 ·subst ey eH
  cases (show u=Ac b from ry)
  obtain ⟨z,hd,xs,rel,dd⟩:=dt_of I.hok e
  have hz:xs.length≤AL:=by rw [← Paired.length rel]; exact z
  have hl:(putK kvs k v).length≤AL:=by have:=length_putK kvs k v; lia
  refine wpAny_setItem_heap (hsz:=hz) (tupleKind_room_in1 hu) (key_of I.hok eb) dd fun h' dd' hs=>h _ ?_
  obtain ⟨q,es,ep,hq,h2,h3,h4,_,h5⟩:=dd'
  refine d_write I (by rw [e]; exact AS) hs ⟨q,hq⟩ ⟨hl,hd,_,(rel.put k eb rv).keeps fun c ys ec=>?_,q,es,ep,hq,h2,h3,h4,h5⟩
  rw [upd_ne (ne_of ec e (fun z=>nomatch z))]
  exact ec
end
section
variable {X:Cx} {pins:List (Addr×Obj)} {σ:St} {H:Hp} {s:Shared} {a:Addr} {kvs:List (Key×V)} {k:Key} {u:Value} {A:Around} {E:Value→Shared→Prop}
end
def NoSl (i:Expr):Prop:=∀ ov iv,subscripted i false ov iv=operate [ov,iv] (getItem ov iv)
theorem subD_of {prog:Program} {w:World} {A:Around} {E:Value→Shared→Prop} {s:Shared} {env:Env} {value slice:Expr} {pos:Pos} {T id:String} {Q:Value→Shared→Prop}
  (hl:typeLookup (.type T) "__getitem__"=pure (some (.builtin id))) (hs:NoSl slice)
  (h:wpAny (model prog w) A (eval value env) (fun o s₁=>wpAny (model prog w) A (eval slice env) (fun i s₂=>s₂.TypeIs o T∧wpAny (model prog w) A (getItem o i) Q E s₂) E s₁) E s) :
  wpAny (model prog w) A (eval (.Subscript value slice pos) env) Q E s:=by
 refine Subscript_ (wpAny_mono h (fun o s₁ h₁=>wpAny_mono h₁ (fun i s₂ h₂=>?_) fun _ _ x=>x) fun _ _ x=>x)
 obtain ⟨hT,h₂⟩:=h₂
 unfold subscriptTail
 refine AC ?_
 rw [getitemInPython_of_ne hT.not_modules]
 refine AC (wpAny_specialOf hT hl ?_)
 have fin:wpAny (model prog w) A (subscripted slice false o i) (fun r s₃=>wpAny (model prog w) A (letTemporaryGo value o r >>= fun _=>pure r) Q E s₃) E s₂:=by
  rw [hs o i]
  exact wpAny_operating (wpAny_mono h₂ (fun r s₃ h₃=>AC (wpAny_letTemporaryGo (AM h₃))) fun _ _ x=>x)
 first
  | exact AM (AC fin)
  | exact AC (AM (AC fin))
  | exact AC fin
theorem dict_typeIs {X:Cx} {pins:List (Addr×Obj)} {σ:St} {H:Hp} {s:Shared} {a:Addr} {y:V} {o:Option V} (I:Inv X pins σ H s) (g:DGet H a y o):s.TypeIs (.ref a) "dict":=by
 rcases g with ⟨kvs,k,e,_,_⟩ | ⟨kvs,k,b,e,_,_,_⟩
 ·obtain ⟨_,_,vs,_,dd⟩:=dk_rd I.hok e
  exact dd.typeIs
 ·obtain ⟨_,_,xs,_,dd⟩:=dt_rd I.hok e
  exact dd.typeIs
inductive PtDGet (x y:V) (H:Hp) (Q:VK):Prop
 | mk (a:Addr) (v:V) (h0:x=.ref a) (h1:DGet H a y (some v)) (h2:Q v H):PtDGet x y H Q
def tDGet (td ty:TE):TE:=fun σ H Q=>td σ H fun x H1=>ty σ H1 fun y H2=>PtDGet x y H2 Q
def sDPut (td ty tv:TE):TS:=fun D σ H=>tv σ H fun v H1=>td σ H1 fun x H2=>ty σ H2 fun y H3=>∃ a H4,x=.ref a∧DPut H3 a y v H4∧D.nx σ H4
section
variable {X:Cx} {o i e value:Expr} {pos pos' tpos:Pos} {td ty tv:TE}
theorem pe_dget (hu:X.A.units + 1 < cLine) (ho:PE X o td) (hi:PE X i ty) (hs:NoSl i):PE X (.Subscript o i pos) (tDGet td ty):=by
 intro pins s σ H Q I h
 refine subD_of PySem.F.slot_dict_getitem.lookup hs (thn (ho pins s σ H _ I h) fun u s1 ⟨x,H1,I1,rx,q1⟩=>thn (hi pins s1 σ H1 _ I1 q1) fun iv s2 ⟨y,H2,I2,ry,a,v,ex,g,q2⟩=>?_)
 subst ex
 obtain rfl:u=Ac a:=rx
 exact ⟨dict_typeIs I2 g,d_getItem hu I2 g ry fun w' s3 I3 rw'=>⟨v,H2,I3,rw',q2⟩⟩
theorem ps_dput (hu:X.A.units + 1 < cLine) (ho:PE X o td) (hi:PE X i ty) (hv:PE X value tv) (hs:swapsWith value (some (.Subscript o i pos')) pos.line X.env=pure false) :
  PS X (.Assign [.Subscript o i pos'] value pos) (sDPut td ty tv):=by
 intro pins s σ H D I h
 refine wpAny_Assign_Subscript (thn (hv pins s σ H _ I h) fun r s1 ⟨v,H1,I1,rv,q1⟩=>thn (ho pins s1 σ H1 _ I1 q1) fun u s2 ⟨x,H2,I2,rx,q2⟩=>thn (hi pins s2 σ H2 _ I2 q2) fun iv s3 ⟨y,H3,I3,ry,a,H4,ex,g,q3⟩=>?_) hs
 subst ex
 obtain rfl:u=Ac a:=rx
 exact d_setItem hu I3 g ry rv fun s4 I4=>⟨σ,H4,I4,q3⟩
end
theorem dk_empty {P:Program} {w:World} {H:Hp} (h:Heap) (hb:sysModules < h.objs.size):ObjOk P w H (h.push { cls:=.type "dict",data:=.dict #[] }) h.objs.size (.dK []) :=
 ⟨Ai _,beq_eq_false_iff_ne.mpr (Ne.symm (AU hb)),[],.nil,Heap.DictOf.new h⟩
theorem dt_empty {P:Program} {w:World} {H:Hp} (h:Heap) (hb:sysModules < h.objs.size):ObjOk P w H (h.push { cls:=.type "dict",data:=.dict #[] }) h.objs.size (.dT []) :=
 ⟨Ai _,beq_eq_false_iff_ne.mpr (Ne.symm (AU hb)),[],.nil,_,#[],0,Al _ rfl,⟨rfl,rfl,rfl⟩,rfl,rfl,List.nodup_nil⟩
def tDNewK:TE:=fun _ H Q=>∀ p,H p=none→Q (.ref p) (upd H p (.dK []))
def tDNewT:TE:=fun _ H Q=>∀ p,H p=none→Q (.ref p) (upd H p (.dT []))
section
variable {X:Cx} {pos:Pos}
theorem pe_dnewK:PE X (.Dict [] [] pos) tDNewK:=fun pins s σ H Q I h =>
 wpAny_Dict_empty ⟨.ref s.heap.objs.size,_,I.laid (a:=s.heap.objs.size) (o:=.dK []) (t':=s.toks) (fun _ _ q=>AH _ q) (AD _) (dk_empty s.heap I.big),rfl,h _ (I.hok.fresh (AD _))⟩
theorem pe_dnewT:PE X (.Dict [] [] pos) tDNewT:=fun pins s σ H Q I h =>
 wpAny_Dict_empty ⟨.ref s.heap.objs.size,_,I.laid (a:=s.heap.objs.size) (o:=.dT []) (t':=s.toks) (fun _ _ q=>AH _ q) (AD _) (dt_empty s.heap I.big),rfl,h _ (I.hok.fresh (AD _))⟩
end
def tPairs:List (TE×TE)→St→Hp→(List (V×V)→Hp→Prop)→Prop
 | [],_,H,Q=>Q [] H
 | (tk,tv) :: r,σ,H,Q=>tk σ H fun x H1=>tv σ H1 fun y H2=>tPairs r σ H2 fun ps H3=>Q ((x,y) :: ps) H3
abbrev VV:List (V×V)→List (Value×Value)→Prop:=Paired fun p q=>RelV p.1 q.1∧RelV p.2 q.2
def PPs (X:Cx) (pos:Pos) (keys:List (Option Expr)) (values:List Expr) (trs:List (TE×TE)):Prop :=
 ∀ (pins:List (Addr×Obj)) (s:Shared) (σ:St) (H:Hp) (Q:List (V×V)→Hp→Prop),Inv X pins σ H s→tPairs trs σ H Q →
  wpAny (model X.prog X.w) X.A (evalPairs (pairTrees keys values X.env pos)) (fun vs s'=>∃ ps H',Inv X pins σ H' s'∧VV ps vs∧Q ps H') X.xe s
theorem pps_nil {X:Cx} {pos:Pos}:PPs X pos [] [] []:=fun pins s σ H Q I h=>pairTrees_nil_walk ⟨[],H,I,.nil,h⟩
theorem pps_cons {X:Cx} {pos:Pos} {k v:Expr} {ks:List (Option Expr)} {vs:List Expr} {tk tv:TE} {trs:List (TE×TE)} (hk:PE X k tk) (hv:PE X v tv) (hr:PPs X pos ks vs trs) :
  PPs X pos (some k :: ks) (v :: vs) ((tk,tv) :: trs):=fun pins s σ H Q I h =>
 pairTrees_cons_walk (thn (hk pins s σ H _ I h) fun u s1 ⟨x,H1,I1,rx,q1⟩=>thn (hv pins s1 σ H1 _ I1 q1) fun w2 s2 ⟨y,H2,I2,ry,q2⟩ =>
  thn (hr pins s2 σ H2 _ I2 q2) fun ws s3 ⟨ps,H3,I3,rel,q3⟩=>⟨(x,y) :: ps,H3,I3,.cons ⟨rx,ry⟩ rel,q3⟩)
def mergeK (kvs more:List (Key×V)):List (Key×V):=more.foldl (fun acc kv=>putK acc kv.1 kv.2) kvs
theorem KV.merge:∀ {more:List (Key×V)} {rs:List (Key×Value)} {kvs:List (Key×V)} {vs:List (Key×Value)},KV more rs→KV kvs vs→KV (mergeK kvs more) (merged vs rs):=by
 intro more rs kvs vs r
 unfold KV at r
 induction r generalizing kvs vs with
 | nil=>intro q; exact q
 | @cons p q ps qs h t ih =>
  intro r0
  have e:KV (putK kvs p.1 p.2) (stored vs q.1 q.2):=by
   have:=r0.put p.1 h.2
   rw [← h.1]; exact this
  exact ih e
theorem length_mergeK:∀ (more kvs:List (Key×V)),(mergeK kvs more).length≤kvs.length + more.length
 | [],kvs=>by show kvs.length≤kvs.length + 0; lia
 | p :: r,kvs=>by
  have h1:=length_mergeK r (putK kvs p.1 p.2)
  have h2:=length_putK kvs p.1 p.2
  show (mergeK (putK kvs p.1 p.2) r).length≤_
  rw [AO]; lia
theorem carries_of {P:Program} {w:World}:∀ {kvs:List (Key×V)} {ws:List (Value×Value)},VV (kvs.map fun kv=>(kV kv.1,kv.2)) ws→∃ rs,Carries (mixKind P w) ws rs∧KV kvs rs
 | [],_,r=>by rw [List.map_nil] at r; cases r; exact ⟨[],AS,.nil⟩
 | p :: kvs,_,r=>by
  rw [Az] at r
  cases r with
  | @cons a b as bs h t =>
   obtain ⟨rs,c,q⟩:=carries_of (P:=P) (w:=w) t
   obtain ⟨b1,b2⟩:=b
   exact ⟨(p.1,b2) :: rs,⟨kV_is h.1,rfl,c⟩,.cons ⟨rfl,h.2⟩ q⟩
def tDisp (trs:List (TE×TE)):TE:=fun σ H Q=>∀ p,H p=none→tPairs trs σ (upd H p (.dK [])) fun ps H2=>H2 p=some (.dK [])∧∃ kvs:List (Key×V),ps=kvs.map (fun kv=>(kV kv.1,kv.2))∧kvs.length≤15∧Q (.ref p) (upd H2 p (.dK (mergeK [] kvs)))
theorem pe_disp {X:Cx} {pos:Pos} {keys:List (Option Expr)} {values:List Expr} {trs:List (TE×TE)} (h:PPs X pos keys values trs) (hall:keys.all (·.isSome)=true) (hl:keys.length=values.length) (h0:keys≠[])
  (h15:keys.length≤15):PE X (.Dict keys values pos) (tDisp trs):=by
 intro pins s σ H Q I q
 have hn:=I.hok.fresh (AD s.heap.objs.size)
 have I1:=I.laid (a:=s.heap.objs.size) (o:=.dK []) (h':=s.heap.push { cls:=.type "dict",data:=.dict #[] }) (t':=s.toks) (fun _ _ q=>AH _ q) (AD _) (dk_empty s.heap I.big)
 refine wpAny_Dict_walk (knd:=mixKind X.prog X.w) hall hl h0 h15 (thn (h pins _ σ _ _ I1 (q _ hn)) fun ws s2 ⟨ps,H2,I2,rel,e,kvs,ep,lk,q2⟩=>?_)
 subst ep
 obtain ⟨rs,c,rk⟩:=carries_of (P:=X.prog) (w:=X.w) rel
 obtain ⟨z,hd,vs0,r0,dd⟩:=dk_of I2.hok e
 cases r0
 refine ⟨rs,c,dd,fun h' dd' hs=>⟨.ref s.heap.objs.size,_,?_,rfl,q2⟩⟩
 have hz:(mergeK [] kvs).length≤AL:=by
  have h1:=length_mergeK kvs []
  rw [List.length_nil] at h1
  rw [sizeLine_eq]; lia
 have he:∃ q,h'.get? s.heap.objs.size=some q:=let ⟨q,_,_,hq,_⟩:=dd'; ⟨q,hq⟩
 exact d_write I2 (by rw [e]; exact AS) hs he (dk_new hz hd (rk.merge .nil) dd')
section
variable {X:Cx} {pins:List (Addr×Obj)} {σ:St} {H:Hp} {s:Shared} {a:Addr} {y d:V} {u r:Value} {o:Option V} {A:Around} {E:Value→Shared→Prop}
end
section
variable {X:Cx} {o e f:Expr} {apos cpos:Pos} {td ty tx:TE}
end
section
variable {X:Cx} {pins:List (Addr×Obj)} {σ:St} {H:Hp} {s:Shared} {a:Addr} {kvs:List (Key×V)} {A:Around} {E:Value→Shared→Prop}
theorem d_copyOf {Q:Value→Shared→Prop} (I:Inv X pins σ H s) (e:Rd H a (.dK kvs)) (h:∀ p s',H p=none→Inv X pins σ (upd H p (.dK kvs)) s'→Q (.ref p) s'):wpAny (model X.prog X.w) A (call (.type "dict") [.ref a]) Q E s:=by
 obtain ⟨z,hd,vs,rel,dd⟩:=dk_rd I.hok e
 refine kt_call_dict hd dd (by rw [← rel.length]; exact z) fun h' dd' hs=>?_
 refine h _ _ (I.hok.fresh (AD _)) (I.laid (a:=s.heap.objs.size) (o:=.dK kvs) (t':=s.toks) (fun b q hq=>?_) (AD _) (dk_new z (beq_eq_false_iff_ne.mpr (Ne.symm (AU I.big))) rel dd'))
 exact (hs.2 b (AU (AK hq))).trans (AH _ hq)
end
section
variable {X:Cx} {pins:List (Addr×Obj)} {σ:St} {H:Hp} {s:Shared} {a:Addr} {y:V} {u:Value} {A:Around} {E:Value→Shared→Prop}
end
end L2
namespace HT
open PySem PyProof.Rows
section
open PySem.SeqAt
open PySem.AutoSeq1 (wpAny_loadPart')
open PySem.MeetsSeq PySem.MeetsSeq2 PySem.MeetsSeq3
end
section
variable {prog:Program} {w:World} {A:Around} {E:Value→Shared→Prop} {s:Shared}
def sIx (n d:Nat):Option Int→Nat
 | none=>d
 | some v=>if v < 0 then (v + (n:Int)).toNat else min v.toNat n
theorem sIx_none (n d:Nat):sIx n d none=d:=rfl
theorem sIx_nat (n d k:Nat):sIx n d (some (k:Int))=min k n:=by
 show (if (k:Int) < 0 then ((k:Int) + (n:Int)).toNat else min (k:Int).toNat n)=min k n
 rw [if_neg (by lia),Aj]
end
end HT
namespace L2
open PySem PySem.Spec PyProof.Rows
abbrev TO:=St→Hp→(Option Int→Hp→Prop)→Prop
def PO (X:Cx) (e:Option Expr) (t:TO):Prop :=
 ∀ (pins:List (Addr×Obj)) (s:Shared) (σ:St) (H:Hp) (Q:Option Int→Hp→Prop),Inv X pins σ H s→t σ H Q →
  wpAny (model X.prog X.w) X.A (evalPart e X.env) (fun u s'=>∃ o H',Inv X pins σ H' s'∧IsPart u o∧Q o H') X.xe s
def tNoPart:TO:=fun _ H Q=>Q none H
inductive PtPart (x:V) (H:Hp) (Q:Option Int→Hp→Prop):Prop
 | mk (i:Int) (h0:x=.int i) (h1:Q (some i) H):PtPart x H Q
def tPart (t:TE):TO:=fun σ H Q=>t σ H fun x H1=>PtPart x H1 Q
section
variable {X:Cx} {e:Expr} {te:TE} {lo hi:Option Expr} {tl th:TO} {pos p2:Pos}
theorem po_none:PO X none tNoPart:=by
 intro pins s σ H Q I h
 rw [evalPart_none]
 exact AM ⟨none,H,I,.none,h⟩
theorem po_some (h:PE X e te):PO X (some e) (tPart te):=by
 intro pins s σ H Q I hw
 rw [evalPart_some]
 refine thn (h pins s σ H _ I hw) fun u s1 ⟨x,H1,I1,r1,q1⟩=>?_
 obtain ⟨i,rfl,q⟩:=q1
 obtain ⟨t,rfl⟩:=r1
 exact ⟨some i,H1,I1,.int i t,q⟩
def SlR (X:Cx) (r:V→Option Int→Option Int→Hp→VK→Prop):Prop :=
 ∀ (pins:List (Addr×Obj)) (s:Shared) (σ:St) (H:Hp) (x:V) (v vl vu:Value) (lo hi:Option Int) (sl:Addr) (Q:VK),Inv X pins σ H s→RelV x v→s.heap.IsSliceOf sl vl vu .none→IsPart vl lo→IsPart vu hi→r x lo hi H Q →
  ∃ T id,typeLookup (.type T) "__getitem__"=pure (some (.builtin id))∧s.TypeIs v T∧wpAny (model X.prog X.w) X.A (getItem v (.ref sl)) (EP X pins σ Q) X.xe s
def tSl (r:V→Option Int→Option Int→Hp→VK→Prop) (te:TE) (tl th:TO):TE:=fun σ H Q=>te σ H fun x H1=>tl σ H1 fun l H2=>th σ H2 fun u H3=>r x l u H3 Q
theorem pe_slice {r:V→Option Int→Option Int→Hp→VK→Prop} (hr:SlR X r) (he:PE X e te) (hl:PO X lo tl) (hu:PO X hi th):PE X (.Subscript e (.Slice lo hi none p2) pos) (tSl r te tl th):=by
 intro pins s σ H Q I h
 refine Subscript_ (thn (he pins s σ H _ I h) fun v s1 ⟨x,H1,I1,r1,q1⟩=>?_)
 refine wpAny_Slice (thn (hl pins s1 σ H1 _ I1 q1) fun vl s2 ⟨l,H2,I2,pl,q2⟩=>thn (hu pins s2 σ H2 _ I2 q2) fun vu s3 ⟨u,H3,I3,pu,q3⟩=>?_)
 rw [evalPart_none]
 refine AM ?_
 have I4:Inv X pins σ H3 { s3 with heap:=s3.heap.push { cls:=.type "slice",data:=.fields #[vl,vu,.none] } }:=I3.kept (t':=s3.toks) fun b ob q=>AH _ q
 obtain ⟨T,id,hT,ht,hg⟩:=hr pins { s3 with heap:=s3.heap.push { cls:=.type "slice",data:=.fields #[vl,vu,.none] } } σ H3 x v vl vu l u s3.heap.objs.size Q I4 r1 (Heap.IsSliceOf.new ..) pl pu q3
 show wpAny (model X.prog X.w) X.A (subscriptTail e (.Slice lo hi none p2) v (.ref s3.heap.objs.size)) (EP X pins σ Q) X.xe { s3 with heap:=s3.heap.push { cls:=.type "slice",data:=.fields #[vl,vu,.none] } }
 exact tail_any (ops:=[.ref s3.heap.objs.size,v]) ht hT hg (by with_unfolding_all rfl)
def cutV (xs:List V) (lo hi:Option Int):List V:=(xs.drop (HT.sIx xs.length 0 lo)).take (HT.sIx xs.length xs.length hi - HT.sIx xs.length 0 lo)
theorem cutV_length (xs:List V) (lo hi:Option Int):(cutV xs lo hi).length≤xs.length:=by
 unfold cutV
 rw [A0,List.length_drop]
 lia
end
def ixN (n:Nat) (i:Int):Option Nat:=if 0≤i then (if i < n then some i.toNat else none) else if -(n:Int)≤i then some (i + n).toNat else none
def atI {α:Type} (xs:List α) (i:Int):Option α:=(ixN xs.length i).bind fun j=>xs[j]?
theorem ixN_seq {n:Nat} {i:Int} {j:Nat} (h:ixN n i=some j):seqIndex? i n=some j∧j < n∧-(n:Int)≤i∧i < n:=by
 unfold ixN at h
 by_cases h0:0≤i
 ·rw [if_pos h0] at h
  by_cases h1:i < n
  ·rw [if_pos h1] at h
   have e:i.toNat=j:=Ax h
   exact ⟨by rw [seqIndex_of h0 h1,e],by lia,by lia,h1⟩
  ·rw [if_neg h1] at h; cases h
 ·rw [if_neg h0] at h
  by_cases h1:-(n:Int)≤i
  ·rw [if_pos h1] at h
   have e:(i + n).toNat=j:=Ax h
   exact ⟨by rw [seqIndex_neg (by lia) h1,e],by lia,h1,by lia⟩
  ·rw [if_neg h1] at h; cases h
theorem atI_get {α:Type} {xs:List α} {i:Int} {v:α} (h:atI xs i=some v):∃ j,seqIndex? i xs.length=some j∧xs[j]?=some v∧j < xs.length∧-(xs.length:Int)≤i∧i < xs.length:=by
 unfold atI at h
 cases e:ixN xs.length i with
 | none=>rw [e] at h; cases h
 | some j =>
  rw [e] at h
  obtain ⟨h1,h2,h3,h4⟩:=ixN_seq e
  exact ⟨j,h1,h,h2,h3,h4⟩
theorem atI_nat {α:Type} {xs:List α} {j:Nat} {v:α} (h:xs[j]?=some v):atI xs (j:Int)=some v:=by
 have hj:j < xs.length:=(AE.mp h).1
 have e:ixN xs.length (j:Int)=some j:=by
  unfold ixN
  rw [if_pos (by lia),if_pos (by lia)]; simp
 unfold atI; rw [e]; exact h
theorem atI_last {α:Type} (xs:List α) (v:α):atI (xs++[v]) (-1)=some v:=by
 have hl:(xs++[v]).length=xs.length + 1:=by simp
 have e:ixN (xs++[v]).length (-1)=some xs.length:=by
  unfold ixN
  rw [hl,if_neg (by decide),if_pos (by lia)]
  congr 1
  lia
 unfold atI
 rw [e]
 show (xs++[v])[xs.length]?=some v
 simp
def PlainIx (b:Expr):Prop:=∀ o i,subscripted b false o i=operate [o,i] (getItem o i)
def IxR (X:Cx) (r:R2):Prop :=
 ∀ (value slice:Expr) (pins:List (Addr×Obj)) (s:Shared) (σ:St) (H:Hp) (x y:V) (v u:Value) (Q:VK),Inv X pins σ H s→RelV x v→RelV y u→r x y H Q →
  subscripted slice false v u=operate [v,u] (getItem v u)→wpAny (model X.prog X.w) X.A (subscriptTail value slice v u) (EP X pins σ Q) X.xe s
def MtR (X:Cx) (id:String) (r:V→List V→Hp→VK→Prop):Prop :=
 ∀ (pins:List (Addr×Obj)) (s:Shared) (σ:St) (H:Hp) (x:V) (xs:List V) (v:Value) (us:List Value) (Q:VK),Inv X pins σ H s→RelV x v→Vals xs us→r x xs H Q →
  wpAny (model X.prog X.w) X.A (call (.builtin id) (v :: us)) (EP X pins σ Q) X.xe s
section
variable {X:Cx} {a b:Expr} {ta tb:TE} {pos:Pos}
theorem pe_ix {r:R2} (hr:IxR X r) (ha:PE X a ta) (hb:PE X b tb) (hs:PlainIx b):PE X (.Subscript a b pos) (tOp r ta tb):=by
 intro pins s σ H Q I h
 exact Subscript_ (binT ha hb I h fun v u s2 x y H2 I2 rx ry q=>hr a b pins s2 σ H2 x y v u Q I2 rx ry q (hs _ _))
inductive PrIxL (K:PySem.W.Frag) (x:V) (y:V) (H:Hp) (Q:VK):Prop
 | mk (p xs i v:_) (h0:x=.ref p) (h1:y=.int i) (h2:SqL K H p xs) (h3:atI xs i=some v) (h4:Q v H):PrIxL K x y H Q
def rIxL (K:PySem.W.Frag):R2:=fun x y H Q=>PrIxL K x y H Q
inductive PrIxT (K:PySem.W.Frag) (x:V) (y:V) (H:Hp) (Q:VK):Prop
 | mk (p xs i v:_) (h0:x=.ref p) (h1:y=.int i) (h2:SqT K H p xs) (h3:atI xs i=some v) (h4:Q v H):PrIxT K x y H Q
def rIxT (K:PySem.W.Frag):R2:=fun x y H Q=>PrIxT K x y H Q
theorem ix_list:IxR X (rIxL X.K):=by
 intro value slice pins s σ H x y v u Q I rx ry h hs
 obtain ⟨p,xs,i,z,rfl,rfl,hq,he,q⟩:=h
 cases rx
 obtain ⟨t,rfl⟩:=ry
 obtain ⟨its,r,pl,hz⟩:=I.list hq
 obtain ⟨j,h1,h2,h3,h4,h5⟩:=atI_get he
 obtain ⟨w,ew,rw'⟩:=r.get h2
 have hl:=r.length
 have hn:=line63
 have fin:EP X pins σ Q w s:=⟨z,H,I,rw',q⟩
 by_cases h0:0≤i
 ·have hj:i.toNat=j:=by
   rw [seqIndex_of h0 h5] at h1
   exact Ax h1
  exact item_listR pl.isList h0 (by lia) (by rw [hj]; simpa using ew) fin hs
 ·have hj:(i + (its.toArray.size:Int)).toNat=j:=by
   rw [seqIndex_neg (by lia) h4] at h1
   rw [AV,← hl]
   exact Ax h1
  exact subscriptTail_builtinR (x:=w) pl.isList.typeIs slot_list_getitem.lookup
   (wpAny_getItem_list_neg (Q:=fun r s'=>r=w∧EP X pins σ Q r s') pl.isList (by lia) (by rw [AV] <;> lia) (by lia) (by rw [hj]; simpa using ew) ⟨rfl,fin⟩) hs
theorem ix_tup:IxR X (rIxT X.K):=by
 intro value slice pins s σ H x y v u Q I rx ry h hs
 obtain ⟨p,xs,i,z,rfl,rfl,hq,he,q⟩:=h
 cases rx
 obtain ⟨t,rfl⟩:=ry
 obtain ⟨its,r,pl,hz⟩:=I.tuple hq
 obtain ⟨j,h1,h2,h3,h4,h5⟩:=atI_get he
 obtain ⟨w,ew,rw'⟩:=r.get h2
 have hl:=r.length
 have hn:=line63
 have fin:EP X pins σ Q w s:=⟨z,H,I,rw',q⟩
 exact subscriptTail_builtinR (x:=w) pl.typeIs slot_tuple_getitem.lookup
  (getItem_tuple (j:=j) (Q:=fun r s'=>r=w∧EP X pins σ Q r s') pl (by lia) (by lia) (by rw [AV,← hl]; exact h1) (by simpa using ew) ⟨rfl,fin⟩) hs
theorem mapSeq_set (its:List Value) (n j:Nat) (u:Value):Obj.mapSeq (·.setIfInBounds j u) { cls:=.type "list",data:=.seq its.toArray n }={ cls:=.type "list",data:=.seq (its.set j u).toArray n }:=by
 simp [Obj.mapSeq]
theorem Inv.lst {pins:List (Addr×Obj)} {σ:St} {H:Hp} {s:Shared} {p:Addr} {xs:List V} (I:Inv X pins σ H s) (h:H p=some (.lst xs)) :
  ∃ (its:List Value) (n:Nat),Vals xs its∧s.heap.get? p=some { cls:=.type "list",data:=.seq its.toArray n }∧xs.length≤AL:=by
 obtain ⟨z,its,n,r,e⟩:=I.hok p _ h
 exact ⟨its,n,r,e,z⟩
theorem Inv.lstUpd {pins:List (Addr×Obj)} {σ:St} {H:Hp} {s:Shared} {p:Addr} {xs ys:List V} {its its':List Value} {n n':Nat} {f:Obj→Obj} (I:Inv X pins σ H s) (h:H p=some (.lst xs))
  (ho:s.heap.get? p=some { cls:=.type "list",data:=.seq its.toArray n }) (hf:f { cls:=.type "list",data:=.seq its.toArray n }={ cls:=.type "list",data:=.seq its'.toArray n' }) (r:Vals ys its') (hz:ys.length≤AL) (t:Nat) :
  Inv X pins σ (upd H p (.lst ys)) { s with heap:=s.heap.update p f,toks:=t }:=by
 have e:(s.heap.update p f).get? p=some { cls:=.type "list",data:=.seq its'.toArray n' }:=by
  rw [Heap.get?_update_self f ho (by rw [hf] <;> rfl),hf]
 refine I.write (x:=p) (e:=p) (by rw [h]; trivial) (.inl rfl) (fun b u hb q=>(Heap.get?_update_other _ _ (Ne.symm hb)).trans q) ⟨_,e⟩ ?_
 exact ⟨hz,its',n',r,e⟩
inductive PrSetL (o:V) (i:V) (v:V) (H:Hp) (Q:(Hp→Prop)):Prop
 | mk (p xs k j:_) (h0:o=.ref p) (h1:i=.int k) (h2:H p=some (.lst xs)) (h3:ixN xs.length k=some j) (h4:Q (upd H p (.lst (xs.set j v)))):PrSetL  o i v H Q
def rSetL:V→V→V→Hp→(Hp→Prop)→Prop:=fun o i v H Q=>PrSetL  o i v H Q
theorem set_list:PSet X rSetL:=by
 intro pins s σ H o i v ov iv u Q I ro ri rv h
 obtain ⟨p,xs,k,j,rfl,rfl,hp,hj,q⟩:=h
 cases ro
 obtain ⟨t,rfl⟩:=ri
 obtain ⟨its,n,r,ho,hz⟩:=I.lst hp
 obtain ⟨h1,h2,h3,h4⟩:=ixN_seq hj
 have hl:=r.length
 have hn:=line63
 have I':Inv X pins σ (upd H p (.lst (xs.set j v))) { s with heap:=s.heap.update p (Obj.mapSeq (·.setIfInBounds j u)) } :=
  I.lstUpd hp ho (mapSeq_set its n j u) (r.set rv j) (by rw [List.length_set]; exact hz) s.toks
 by_cases h0:0≤k
 ·have hk:k.toNat=j:=by
   rw [seqIndex_of h0 h4] at h1
   exact Ax h1
  exact PySem.W.ki_setAt ho h0 (by lia) (by rw [AV,← hl]; exact h4) (by rw [hk]; exact ⟨_,I',q⟩)
 ·have hk:(k + (its.toArray.size:Int)).toNat=j:=by
   rw [seqIndex_neg (by lia) h3] at h1
   rw [AV,← hl]
   exact Ax h1
  exact PySem.W.ki_setBack ho (by lia) (by rw [AV,← hl]; exact h3) (by lia) (by rw [hk]; exact ⟨_,I',q⟩)
theorem slice_bounds (lo hi:Option Int) (n:Nat):(sliceBounds lo hi none n).1=((HT.sIx n 0 lo:Nat):Int)∧(sliceBounds lo hi none n).2.1=((HT.sIx n n hi:Nat):Int)∧(sliceBounds lo hi none n).2.2=1:=by
 refine ⟨?_,?_,rfl⟩
 ·cases lo with
  | none=>simp [sliceBounds,HT.sIx]
  | some i =>
   simp only [sliceBounds,HT.sIx,Option.getD_none,show (1:Int) > 0 by decide,if_true]
   by_cases h:i < 0
   ·simp only [h,if_true] <;> lia
   ·simp only [h,if_false] <;> lia
 ·cases hi with
  | none=>simp [sliceBounds,HT.sIx]
  | some i =>
   simp only [sliceBounds,HT.sIx,Option.getD_none,show (1:Int) > 0 by decide,if_true]
   by_cases h:i < 0
   ·simp only [h,if_true] <;> lia
   ·simp only [h,if_false] <;> lia
theorem slicePick_cut (its:List Value) (lo hi:Option Int):slicePick its.toArray lo hi none=((its.drop (HT.sIx its.length 0 lo)).take (HT.sIx its.length its.length hi - HT.sIx its.length 0 lo)).toArray:=by
 obtain ⟨h1,h2,h3⟩:=slice_bounds lo hi its.toArray.size
 unfold slicePick
 rw [h1,h2,h3]
 simp only [sliceRange_one,pick_run,AV] <;> rfl
inductive PrSlL (K:PySem.W.Frag) (x:V) (lo:Option Int) (hi:Option Int) (H:Hp) (Q:VK):Prop
 | mk (a xs:_) (h0:x=.ref a) (h1:SqL K H a xs) (h2:∀ p,H p=none→Q (.ref p) (upd H p (.lst (cutV xs lo hi)))):PrSlL K x lo hi H Q
def rSlL (K:PySem.W.Frag):V→Option Int→Option Int→Hp→VK→Prop:=fun x lo hi H Q=>PrSlL K x lo hi H Q
theorem sl_list:SlR X (rSlL X.K):=by
 intro pins s σ H x v vl vu lo hi sl Q I rx hs pl pu h
 obtain ⟨a,xs,rfl,hx,q⟩:=h
 cases rx
 obtain ⟨its,r,ht,hz⟩:=I.list hx
 have hlen:=r.length
 refine ⟨"list",_,slot_list_getitem.lookup,ht.isList.typeIs,?_⟩
 refine wpAny_getItem_list_slice ht.isList hs pl pu .none (by simp) ?_ (by rw [AV] <;> lia)
 rw [slicePick_cut,← hlen]
 refine ⟨.ref s.heap.objs.size,_,I.laid (t':=s.toks) (o:=.lst (cutV xs lo hi)) (fun b ob q=>AH _ q) (AD _) ?_,rfl,q _ (I.hok.fresh (AD _))⟩
 exact ⟨Ag (cutV_length xs lo hi) hz,_,0,(r.drop (HT.sIx xs.length 0 lo)).take (HT.sIx xs.length xs.length hi - HT.sIx xs.length 0 lo),Al _ rfl⟩
inductive rLen (K:PySem.W.Frag) (xs:List V) (H:Hp) (Q:VK):Prop
 | mk (p:Addr) (ys:List V) (h0:xs=[.ref p]) (h1:SqL K H p ys∨SqT K H p ys) (h2:Q (.int ys.length) H):rLen K xs H Q
theorem call_len_seq:CallR X (.builtin "len") (rLen X.K):=by
 intro pins s σ H xs us Q I r h
 obtain ⟨p,ys,rfl,hq,q⟩:=h
 obtain ⟨u,rfl,rx⟩:=vals1 r
 cases rx
 have hn:=line63
 rcases hq with hq | hq
 ·obtain ⟨its,r',pl,hz⟩:=I.list hq
  have hlen:=r'.length
  exact Calls.call_len_list pl.isList (by simp only [AV] <;> lia) ⟨.int ys.length,H,I.tok _,⟨s.toks + 1,by rw [AV,hlen]⟩,q⟩
 ·obtain ⟨its,r',pl,hz⟩:=I.tuple hq
  have hlen:=r'.length
  exact len_tuple pl (by simp only [AV] <;> lia) ⟨.int ys.length,H,I.tok _,⟨s.toks + 1,by rw [AV,hlen]⟩,q⟩
inductive rListOf (K:PySem.W.Frag) (xs:List V) (H:Hp) (Q:VK):Prop
 | mk (p:Addr) (ys:List V) (h0:xs=[.ref p]) (h1:SqL K H p ys∨SqT K H p ys) (h2:∀ l,H l=none→Q (.ref l) (upd H l (.lst ys))):rListOf K xs H Q
theorem call_list_of:CallR X (.type "list") (rListOf X.K):=by
 intro pins s σ H xs us Q I r h
 obtain ⟨p,ys,rfl,hq,q⟩:=h
 obtain ⟨u,rfl,rx⟩:=vals1 r
 cases rx
 have fin:∀ (its:List Value),Vals ys its→ys.length≤AL→∀ (h':Heap) (c':Nat),(∀ b o',s.heap.get? b=some o'→h'.get? b=some o') →
   h'.get? s.heap.objs.size=some { cls:=.type "list",dict:=none,data:=.seq its.toArray c',slots:=#[] }→EP X pins σ Q (.ref s.heap.objs.size) { s with heap:=h' }:=fun its r' hz h' c' kp e =>
  ⟨.ref s.heap.objs.size,_,I.laid (t':=s.toks) kp (AD _) (show ObjOk X.prog X.w _ h' _ (.lst ys) from ⟨hz,its,c',r',e⟩),rfl,q _ (I.hok.fresh (AD _))⟩
 rcases hq with hq | hq
 ·obtain ⟨its,r',pl,hz⟩:=I.list hq
  have hlen:=r'.length
  obtain ⟨o,ho,hc,n,hd⟩:=pl.isList
  exact call_list_seq p (.inl rfl) ho hc hd (fun h' c' kp e=>fin its r' hz h' c' kp e) (by simp only [AV] <;> lia)
 ·obtain ⟨its,r',pl,hz⟩:=I.tuple hq
  have hlen:=r'.length
  obtain ⟨o,ho,hc,n,hd⟩:=pl
  exact call_list_seq p (.inr rfl) ho hc hd (fun h' c' kp e=>fin its r' hz h' c' kp e) (by simp only [AV] <;> lia)
def tyV (K:PySem.W.Frag) (T:String) (x:V) (H:Hp):Prop:=match x with
 | .str _=>T="str"
 | .int _=>T="int"
 | .ref p=>(T="list"∧∃ xs,SqL K H p xs)∨(T="tuple"∧∃ o,K.lookup p=some o∧o.cls=.type "tuple"∧o.dict=none) ∨
   (T="dict"∧((∃ kvs,H p=some (.dK kvs))∨∃ kvs,H p=some (.dT kvs)))∨(T="set"∧∃ S n,H p=some (.set S n))
 | _=>False
theorem tyV_is {pins:List (Addr×Obj)} {σ:St} {H:Hp} {s:Shared} {T:String} {x:V} {v:Value} (I:Inv X pins σ H s) (r:RelV x v) (ty:tyV X.K T x H) :
  s.TypeIs v T∧∀ a,v=.ref a→∃ ob,s.heap.get? a=some ob∧ob.dict=none:=by
 cases x with
 | str z =>
  obtain ⟨t,rfl⟩:=r
  cases (show T="str" from ty)
  exact ⟨typeIs_str s z t,fun _ e=>nomatch e⟩
 | int i =>
  obtain ⟨t,rfl⟩:=r
  cases (show T="int" from ty)
  exact ⟨typeIs_int s i t,fun _ e=>nomatch e⟩
 | ref p =>
  cases r
  rcases ty with ⟨rfl,xs,hq⟩ | ⟨rfl,o,hk,hc,hd⟩ | ⟨rfl,hk⟩ | ⟨rfl,S,n,hk⟩
  ·obtain ⟨its,_,pl,_⟩:=I.list hq
   refine ⟨pl.isList.typeIs,fun a e=>?_⟩
   cases e
   obtain ⟨o,n,e,c,hd,_⟩:=pl
   exact ⟨o,e,hd⟩
  ·refine ⟨⟨o,I.kIn p o hk,hc⟩,fun a e=>?_⟩
   cases e
   exact ⟨o,I.kIn _ o hk,hd⟩
  ·have z:∃ o,s.heap.get? p=some o∧o.ExactDict:=by
    rcases hk with ⟨kvs,hk⟩ | ⟨kvs,hk⟩
    ·obtain ⟨_,_,_,_,o,_,_,e,ex,_⟩:=I.hok p _ hk
     exact ⟨o,e,ex⟩
    ·obtain ⟨_,_,_,_,o,_,_,e,ex,_⟩:=I.hok p _ hk
     exact ⟨o,e,ex⟩
   obtain ⟨o,e,ex⟩:=z
   refine ⟨⟨o,e,ex.1⟩,fun a e2=>?_⟩
   cases e2
   exact ⟨o,e,ex.2.1⟩
  ·obtain ⟨o,_,_,_,e,ex,_⟩:=I.hok p _ hk
   refine ⟨⟨o,e,ex.1⟩,fun a e2=>?_⟩
   cases e2
   exact ⟨o,e,ex.2.1⟩
 | _=>exact False.elim ty
def tBM (K:PySem.W.Frag) (T:String) (r:V→List V→Hp→VK→Prop) (to:TE) (t:TA):TE:=fun σ H Q=>to σ H fun x H1=>tyV K T x H1∧t σ H1 fun xs H2=>r x xs H2 Q
variable {o e:Expr} {es:List Expr} {to:TE} {t:TA} {name:Str} {apos cpos:Pos} {T id:String} {r:V→List V→Hp→VK→Prop}
theorem pe_bm (pa:PlainAttrs T) (slot:Slot T name id) (hty:typeOf (.builtin id)=pure (.type "method_descriptor")) (hm:MtR X id r) (ho:PE X o to) (ha:PA X (e :: es) t)
  (hbase:attributeBase o name X.env (eval o X.env)=eval o X.env:=by rfl)
  (hfew:((backTo cpos (Af (e :: es) X.env)).all (fun x=>!x.1) && (backToKw cpos (keywordEach [] X.env)).all (fun x=>x.1.isSome)
   && decide ((e :: es).length + ([]:List Keyword).length + (if ([]:List Keyword).isEmpty then 0 else 1) < 30))=true:=by rfl)
  (hline:(apos.endLine == cpos.line)=true:=by rfl) (hs:Af (e :: es) X.env=(false,eval e X.env) :: Af es X.env:=by rfl) (hplain:(backTo cpos (Af es X.env)).any (·.1)=false:=by rfl) :
  PE X (.Call (.Attribute o name apos) (e :: es) [] cpos) (tBM X.K T r to t):=by
 intro pins s σ H Q I h
 refine wpAny_Call_method_late hbase hfew hline rfl (thn (ho pins s σ H _ I h) fun v s1 ⟨x,H1,I1,r1,ty,q1⟩=>?_)
 obtain ⟨h1,h2⟩:=tyV_is I1 r1 ty
 refine ⟨T,id,pa,slot,hty,h1,h2,?_⟩
 have hA:=ha cpos pins s1 σ H1 _ I1 q1
 rw [hs] at hA ⊢
 refine Calls.callWith_builtin (by show (false || (backTo cpos (Af es X.env)).any (·.1))=false; rw [hplain] <;> rfl) (Calls.evalArgs_plain ?_)
 exact thn hA fun us s2 ⟨vs,H2,I2,r2,q2⟩=>hm pins s2 σ H2 x vs v us Q I2 r1 r2 q2
end
def MtM (X:Cx) (id:String) (r:V→List V→Hp→VK→Prop):Prop :=
 ∀ (pins:List (Addr×Obj)) (s:Shared) (σ:St) (H:Hp) (x:V) (xs:List V) (v:Value) (us:List Value) (Q:VK),Inv X pins σ H s→RelV x v→Vals xs us→r x xs H Q →
  wpAny (model X.prog X.w) X.A (call (.builtin id) (v :: us)) (EP X pins σ Q) X.xe s
theorem Vals.one {x:V} {us:List Value} (h:Vals [x] us):∃ u,us=[u]∧RelV x u:=by
 cases h with
 | cons r q=>cases q; exact ⟨_,rfl,r⟩
theorem Vals.two {x y:V} {us:List Value} (h:Vals [x,y] us):∃ u v,us=[u,v]∧RelV x u∧RelV y v:=by
 cases h with
 | cons r q =>
  obtain ⟨u,e,q2⟩:=Vals.one q
  exact ⟨_,_,by rw [e],r,q2⟩
theorem Vals.rep {xs:List V} {us:List Value} (h:Vals xs us):∀ k:Nat,Vals (A3 k xs).flatten (A3 k us).flatten
 | 0=>.nil
 | k + 1=>by
  rw [List.replicate_succ,List.replicate_succ,List.flatten_cons,List.flatten_cons]
  exact Vals.append h (Vals.rep h k)
theorem foldl_rep (its:List Value):∀ (k:Nat) (acc:List Value),
  List.foldl (fun x1 x2=>x1++x2) acc.toArray (A3 k its.toArray)=(acc++(A3 k its).flatten).toArray
 | 0,acc=>by simp
 | k + 1,acc=>by
  have e:acc.toArray++its.toArray=(acc++its).toArray:=by simp
  have e2:(acc++its)++(A3 k its).flatten=acc++(A3 (k + 1) its).flatten:=by
   rw [List.replicate_succ,List.flatten_cons,List.append_assoc]
  rw [← e2,← foldl_rep its k (acc++its),← e,List.replicate_succ,List.foldl_cons]
section
variable {X:Cx} {pins:List (Addr×Obj)} {σ:St} {H:Hp} {s:Shared} {l b:Addr} {xs ys zs:List V}
theorem Inv.lset {its its':List Value} {n:Nat} {f:Array Value→Array Value} {t':Nat} (I:Inv X pins σ H s) (hH:H l=some (.lst xs))
  (e:s.heap.get? l=some { cls:=.type "list",data:=.seq its.toArray n }) (hf:f its.toArray=its'.toArray) (hv:Vals ys its') (hz:ys.length≤AL) :
  Inv X pins σ (upd H l (.lst ys)) { s with heap:=s.heap.update l (Obj.mapSeq f),toks:=t' }:=by
 have q:=PySem.IsL.update e f
 rw [hf] at q
 refine I.write (x:=l) (e:=l) (by rw [hH]; exact trivial) (.inl rfl) (fun b' u hb hu=>(Heap.get?_update_other s.heap (Obj.mapSeq f) (Ne.symm hb)).trans hu) ⟨_,q⟩ ?_
 exact ⟨hz,its',_,hv,q⟩
theorem Inv.lnew {its:List Value} {t':Nat} (I:Inv X pins σ H s) (hv:Vals ys its) (hz:ys.length≤AL) :
  Inv X pins σ (upd H s.heap.objs.size (.lst ys)) { s with heap:=s.heap.push { cls:=.type "list",data:=.seq its.toArray },toks:=t' } :=
 I.laid (fun _ _ q=>AH _ q) (AD _) ⟨hz,its,0,hv,Al _ rfl⟩
theorem Inv.fresh (I:Inv X pins σ H s):H s.heap.objs.size=none:=I.hok.fresh (AD _)
theorem Inv.lstM (I:Inv X pins σ H s) (hH:H l=some (.lst xs)):xs.length≤AL∧∃ (its:List Value) (n:Nat),Vals xs its∧xs.length=its.length∧s.heap.get? l=some { cls:=.type "list",data:=.seq its.toArray n }:=by
 obtain ⟨z,its,n,r,e⟩:=I.hok l _ hH
 exact ⟨z,its,n,r,r.length,e⟩
theorem notLongL {n:Nat} (h:n≤AL):Builtin.List.listTooLong n=false:=by
 unfold Builtin.List.listTooLong
 exact decide_eq_false (by lia)
end
section
variable {X:Cx}
inductive PrAppend (x:V) (vs:List V) (H:Hp) (Q:VK):Prop
 | mk (l xs y:_) (h0:x=.ref l) (h1:vs=[y]) (h2:H l=some (.lst xs)) (h3:xs.length < AL) (h4:Q .non (upd H l (.lst (xs++[y])))):PrAppend  x vs H Q
def rAppend:V→List V→Hp→VK→Prop:=fun x vs H Q=>PrAppend  x vs H Q
theorem mt_append:MtM X "list.append" rAppend:=by
 intro pins s σ H x vs v us Q I rx rv h
 obtain ⟨l,xs,y,rfl,rfl,hH,hz,q⟩:=h
 cases rx
 obtain ⟨u,rfl,ru⟩:=rv.one
 obtain ⟨z,its,n,r,hl,e⟩:=I.lstM hH
 refine call_meets F.slot_list_append ⟨_,e,rfl⟩ F.entry_list_append (F.args_list_append_2 _ _) (PySem.list_append l its.toArray n u (by rw [AV]; lia)) ⟨e,?_⟩
 refine ⟨.non,_,I.lset (its':=its++[u]) hH e (by simp) (r.append (.cons ru .nil)) ?_,rfl,q⟩
 rw [AI,List.length_singleton]
 lia
def rExtend:V→List V→Hp→VK→Prop:=fun x vs H Q=>∃ l b xs zs,x=.ref l∧vs=[.ref b]∧H l=some (.lst xs)∧H b=some (.lst zs)∧xs.length + zs.length≤AL∧Q .non (upd H l (.lst (xs++zs)))
theorem mt_extend:MtM X "list.extend" rExtend:=by
 intro pins s σ H x vs v us Q I rx rv h
 obtain ⟨l,b,xs,zs,rfl,rfl,hH,hB,hz,q⟩:=h
 cases rx
 obtain ⟨u,rfl,ru⟩:=rv.one
 cases ru
 obtain ⟨z,its,n,r,hl,e⟩:=I.lstM hH
 obtain ⟨z2,its2,n2,r2,hl2,e2⟩:=I.lstM hB
 have hsz:its.toArray.size + its2.toArray.size≤AL:=by rw [AV,AV]; lia
 have hlong:¬ (!its.toArray.isEmpty && Builtin.List.listTooLong (its.toArray.size + its2.toArray.size))=true:=by
  rw [notLongL hsz,Bool.and_false]
  exact Ap
 refine call_meets F.slot_list_extend ⟨_,e,rfl⟩ F.entry_list_extend (F.args_list_extend_2 _ _)
  (AutoSeq1.list_extend_list_list_0 l its.toArray n b its2.toArray n2 hlong (by rw [AV]; lia) (by lia)) ⟨e,e2,?_⟩
 refine ⟨.non,_,I.lset (its':=its++its2) hH e (by simp) (r.append r2) ?_,rfl,q⟩
 rw [AI]
 lia
inductive PrCat (x:V) (y:V) (H:Hp) (Q:VK):Prop
 | mk (l b xs zs:_) (h0:x=.ref l) (h1:y=.ref b) (h2:H l=some (.lst xs)) (h3:H b=some (.lst zs)) (h4:xs.length + zs.length≤AL) (h5:∀ p,H p=none→Q (.ref p) (upd H p (.lst (xs++zs)))):PrCat  x y H Q
def rCat:R2:=fun x y H Q=>PrCat  x y H Q
theorem op_cat:OpR X (binaryOp .Add) rCat:=by
 intro pins s σ H x y v u Q I rx ry h
 obtain ⟨l,b,xs,zs,rfl,rfl,hH,hB,hz,q⟩:=h
 cases rx
 cases ry
 obtain ⟨z,its,n,r,hl,e⟩:=I.lstM hH
 obtain ⟨z2,its2,n2,r2,hl2,e2⟩:=I.lstM hB
 refine PySem.P.add_list e e2 ?_ (by rw [AV,AV]; lia)
 have ea:its.toArray++its2.toArray=(its++its2).toArray:=by simp
 rw [ea]
 exact ⟨.ref _,_,I.lnew (t':=s.toks) (r.append r2) (by rw [AI]; lia),rfl,q _ I.fresh⟩
inductive PrRep (x:V) (y:V) (H:Hp) (Q:VK):Prop
 | mk (l k xs:_) (h0:x=.ref l) (h1:y=.int k) (h2:H l=some (.lst xs)) (h3:-(2 ^ 63)≤k) (h4:k < 2 ^ 63) (h5:xs.length * k.toNat≤AL) (h6:∀ p,H p=none→Q (.ref p) (upd H p (.lst (A3 k.toNat xs).flatten))):PrRep  x y H Q
def rRep:R2:=fun x y H Q=>PrRep  x y H Q
theorem len_rep {α:Type} (xs:List α) (k:Nat):(A3 k xs).flatten.length=k * xs.length:=by
 induction k with
 | zero=>simp
 | succ k ih=>rw [List.replicate_succ,List.flatten_cons,AI,ih,Nat.succ_mul,Nat.add_comm]
theorem op_rep:OpR X (binaryOp .Mult) rRep:=by
 intro pins s σ H x y v u Q I rx ry h
 obtain ⟨l,k,xs,rfl,rfl,hH,h1,h2,hz,q⟩:=h
 cases rx
 obtain ⟨t,rfl⟩:=ry
 obtain ⟨z,its,n,r,hl,e⟩:=I.lstM hH
 have hlen:its.toArray.size * k.toNat≤AL:=by rw [AV,← hl]; exact hz
 have hcap:¬ its.toArray.size * k.toNat > (2 ^ 63 - 1) / 8:=by
  have:(AL:Nat)≤(2 ^ 63 - 1) / 8:=by decide
  lia
 have hfit:¬ (!Builtin.List.listFitsIndex k)=true:=by
  rw [fitsIndex_both h1 h2]
  exact Ap
 have hlong:¬ Builtin.List.listTooLong (its.toArray.size * k.toNat)=true:=by
  rw [notLongL hlen]
  exact Ap
 have hnew:List.foldl (fun x1 x2=>x1++x2) #[] (A3 (if its.toArray.isEmpty=true then 0 else k.toNat) its.toArray)=(A3 k.toNat its).flatten.toArray:=by
  have f0:∀ m:Nat,List.foldl (fun x1 x2=>x1++x2) #[] (A3 m its.toArray)=(A3 m its).flatten.toArray:=fun m=>by
   have:=foldl_rep its m []
   rw [List.nil_append] at this
   exact this
  rw [f0]
  cases its with
  | nil=>simp
  | cons a r'=>rw [if_neg (by simp)]
 refine wpAny_binaryOp_repeat_ref (T:="list") (U:="int") (by decide) ⟨_,e,rfl⟩ (fun s'=>typeIs_int s' k t) noFill_list_mul F.fills_int_mul F.slot_int_rmul repeat_list F.slot_int_index.lookup
  (call_meets F.slot_int_rmul (typeIs_int s k t) F.entry_int_rmul (F.args_int_rmul_2 _ _) (int___rmul___int_list k t l its.toArray n)
   ⟨e,rfl,⟨_,e,rfl⟩,call_meets F.slot_list_mul ⟨_,e,rfl⟩ F.entry_list_mul (F.args_list_mul_2 _ _) (AutoListH.list___mul___list_int_3 l its.toArray n k t hfit hcap hlong) ⟨e,?_⟩⟩)
 rw [hnew]
 exact ⟨.ref _,_,I.lnew (t':=s.toks) (r.rep k.toNat) (by rw [len_rep,Nat.mul_comm]; exact hz),rfl,q _ I.fresh⟩
end
section
variable {prog:Program} {w:World} {A:Around} {E:Value→Shared→Prop} {s:Shared}
set_option maxRecDepth 100000 in
end
section
variable {X:Cx}
end
end L2
namespace Att
open PySem PySem.W PySem.Calls PyProof.Rows
theorem ints_of_wellAll {P:Params} {h:Heap}:∀ (ns:List Int) (vs:List Value),WellAll P h vs (ns.map WData.int)→IntsAre vs ns:=by
 intro ns
 induction ns with
 | nil =>
  intro vs w
  rw [List.map_nil] at w
  cases w
  exact .nil
 | cons n ns ih =>
  intro vs w
  rw [Az] at w
  cases w with
  | cons a b =>
   cases a
   exact .cons _ _ (ih _ b)
theorem script_of {l:OpenLaw} {n:Nat} (hn:l.most=some n) {P:Params} {h:Heap} {args:List WData} {vals:List Value}
  (hpre:l.row.toRowW.claim.pre args=true) (hwl:WellAll P h vals args) :
  ∃ a vs ns,vals=[Ac a]∧args=[WData.list (ns.map WData.int)]∧h.get? a=some { cls:=.type "list",data:=.seq vs.toArray }∧IntsAre vs ns∧ns.length≤n:=by
 have hsh:WShape.hasAll [] args [.list .int]=true:=(pre_splitW hpre).1
 have hc:l.pre.holds [] { args:=args }=true:=(pre_splitW hpre).2
 obtain ⟨d,r,rfl,h1,h2⟩:=hasAllW_cons hsh
 obtain rfl:=hasAllW_nil h2
 obtain ⟨xs,rfl,h3⟩:=hasW_list h1
 obtain ⟨ns,rfl⟩:=items_int h3
 have hlen:ns.length≤n:=by
  unfold OpenLaw.pre at hc
  have h4:(WTm.not (.lt (.lit (.int (n:Int))) (.len (.arg 0)))).holds [] { args:=[.list (ns.map .int)] }=true:=by
   have h4:=(holds_andW hc).1
   rw [hn] at h4
   exact h4
  have h5:=condW_of h4 (w_not (w_lt w_lit (w_len_list (w_arg rfl))))
  rw [AA] at h5
  refine Nat.le_of_not_lt fun q=>?_
  have q':(n:Int) < ((ns.length:Nat):Int):=by lia
  first
   | (rw [decide_eq_true q'] at h5; exact absurd h5 (by decide))
   | (simp at h5; lia)
 cases hwl with
 | cons w1 w2 =>
  cases w2
  cases w1 with
  | list ho hall=>exact ⟨_,_,ns,rfl,rfl,ho,ints_of_wellAll ns _ hall,hlen⟩
theorem post_true (l:OpenLaw) (args:List WData):l.row.toRowW.claim.post args (.bool true) args=true :=
 postW_of (r:=l.row.toRowW) (X:=(true == true))
  (show WShape.has [] (.bool true) .bool=true by first | rfl | decide | simp [WShape.has,WShape.arms,WShape.armsAll])
  (show (WTm.eq .res (.lit (.bool true))).value [] { args:=args,res:=some (.bool true),after:=args }=some (.bool (true == true)) from w_eq_bool (w_res rfl) w_lit) rfl
theorem attach_call {l:OpenLaw} {n:Nat} {q:Program} {loose:List Str} {XP:(Str→Option Value)→Heap→Prop} {YP:World→Heap→Prop} {d:DefRec}
  (hn:l.most=some n) (hdf:d.params.defaults=[])
  (call:∀ (w:World) (s₀ s₁:Shared) (mg mb:Str→Option Value) (fa:Addr) (o:Obj) (pm cd doc:Value) (a:Addr) (vs:List Value) (ns:List Int),
   Ground q loose [] XP w s₀ mg mb s₁.heap→YP w s₁.heap →
   s₁.heap.get? fa=some o→o.data=.func (docDef d.name d.params d.body d.scope pm cd doc)→s₁.heap.CodeRec cd d.name→mg d.name=some (.ref fa) →
   s₁.heap.get? a=some { cls:=.type "list",data:=.seq vs.toArray }→IntsAre vs ns→ns.length≤n→s₁.gens=#[] →
   codeAny (model l.prog w) callerA (.call (.ref fa) ⟨[.ref a],[]⟩) (fun r s'=>r=.ok (.ret (.bool true))∧OldK s₁.heap s'.heap∧s'.os=s₁.os∧AllBare s'.gens) s₁) :
  WalkO q loose XP YP l.row.toRowW d [] (fun f vs=>PySem.call f vs):=by
 intro w s₀ s₁ mg mb G Y fa o pm cd doc dV kV ho hd hcd hD hmg hg args vals as hpre hlay hrd hwl hlo
 obtain rfl:dV=.none:=Dflts.none hD hdf
 obtain rfl:kV=.none:=Dflts.noKw hD
 obtain ⟨a,vs,ns,rfl,rfl,hobj,hints,hlen⟩:=script_of hn hpre hwl
 refine enter_call (codeAny_mono (call w s₀ s₁ mg mb fa o pm cd doc a vs ns G Y ho (fd_plain hd) hcd hmg hobj hints hlen hg) fun r s' hq=>?_)
 obtain ⟨rfl,h2,h3,h4⟩:=hq
 exact ⟨.inl ⟨.bool true,.bool true,[],rfl,fun _=>rfl,.bool true,post_true l _,fun _=>⟨List.Pairwise.nil,fun _ hm=>(nomatch hm)⟩⟩,h2,h3,h4⟩
section
variable {prog:Program} {w:World} {A:Around} {E:Value→Shared→Prop} {s:Shared} {K:Frag}
end
end Att
namespace L2
open PySem PySem.Spec PyProof.Rows
theorem vals_ints:∀ {vs:List Value} {ns:List Int},IntsAre vs ns→Vals (ns.map V.int) vs
 | _,_,.nil=>.nil
 | _,_,.cons n t h=>.cons ⟨t,rfl⟩ (vals_ints h)
def Only (H:Hp):Prop:=∀ b,H b=none∨∃ o xs,H b=some (.frz o (.lst xs))
theorem law_call {P:Program} {w:World} {K:PySem.W.Frag} {mg mb:Str→Option Value} {CX:CXT} {k:Nat} {fa a:Addr} {fd:FuncData} {x:Str} {sp:Sp} {s₁:Shared} {vs:List Value} {ns:List Int}
  (KX:K.In s₁.heap) (hns:s₁.heap.Ns AZ mg) (hb:s₁.heap.Ns builtinsNs mb) (hbb:∀ x:Str,x≠"__name__"→mb x=bootBuiltins x) (hlim:s₁.heap.NoLimit) (hg:s₁.gens=#[])
  (ha:s₁.heap.get? a=some { cls:=.type "list",data:=.seq vs.toArray }) (hi:IntsAre vs ns) (hl:ns.length≤AL) (hr:Room k callerA)
  (F:∀ base:Heap,K.In base→base.Ns AZ mg→FnOk P w K mg base CX k fa fd [x] sp) (hbind:∀ (s:Shared) (u:Value),BindsTo s fd ⟨[u],[]⟩ [(x,u)])
  (hsp:∀ H:Hp,Only H→SqL K H a (ns.map V.int)→sp [.ref a] H (fun v _=>v=.bl true) fun _ _ _=>False)
  (hCX:∀ H e s',CX [] H s₁ (fun _ _ _=>False) e s'→False) :
  codeAny (model P w) callerA (.call (.ref fa) ⟨[.ref a],[]⟩) (fun r s'=>r=.ok (.ret (.bool true))∧OldK s₁.heap s'.heap∧s'.os=s₁.os∧AllBare s'.gens) s₁:=by
 have rv:=vals_ints hi
 have lenV:=hi.length
 have core:∀ H:Hp,Only H→SqL K H a (ns.map V.int)→HOk P w H s₁.heap→(∀ b,H b≠none→b=a)→(H a≠none→K.lookup a=none) →
   codeAny (model P w) callerA (.call (.ref fa) ⟨[.ref a],[]⟩) (fun r s'=>r=.ok (.ret (.bool true))∧OldK s₁.heap s'.heap∧s'.os=s₁.os∧AllBare s'.gens) s₁:=by
  intro H hO hS hok hA hK
  have base_of:∀ {b:Addr} {o:Obj},s₁.heap.get? b=some o→H b=none→(hidT s₁.heap H).get? b=some o:=fun e n=>hidT_get e n
  have noA:∀ {b:Addr} {o:Obj} {es:Array DictEntry} {ep:Nat},s₁.heap.get? b=some o→o.data=.dict es ep→H b=none:=fun {b o es ep} e d=>by
   cases q:H b with
   | none=>rfl
   | some u =>
    have e':b=a:=hA b (by rw [q]; simp)
    subst e'
    rw [ha] at e; cases e
    have d':Data.seq vs.toArray _=Data.dict es ep:=d
    cases d'
  have nsK:∀ {b:Addr} {m:Str→Option Value},s₁.heap.Ns b m→(hidT s₁.heap H).Ns b m:=fun {b m} ⟨o,es,ep,e,d,r⟩=>⟨o,es,ep,base_of e (noA e d),d,r⟩
  have hKb:K.In (hidT s₁.heap H):=fun b o e=>base_of (KX b o e) (by
   cases q:H b with
   | none=>rfl
   | some u =>
    have e':b=a:=hA b (by rw [q]; simp)
    subst e'
    rw [hK (by rw [q]; simp)] at e; cases e)
  have hM:Mod K mg (hidT s₁.heap H):=⟨hKb,nsK hns,⟨mb,nsK hb,hbb⟩,let ⟨mc,h1,h2⟩:=hlim; ⟨mc,nsK h1,h2⟩⟩
  have e0:Env0 P w K mg (hidT s₁.heap H) callerA [] s₁ H:=⟨rfl,hM,fun b o e=>of_hidT e,Nat.le_of_eq (hidT_size _ _),trivial,fun b hb=>absurd (show b∈([]:List Addr) from hb) (by simp),hok,.of_eq hg⟩
  refine codeAny_mono ((F _ hKb (nsK hns)).run callerA [] s₁ H ⟨[.ref a],[]⟩ [.ref a] [.ref a] _ _ hr e0 (hbind s₁ (.ref a)) (.cons rfl .nil) (hsp H hO hS)) fun r s' h=>?_
  cases r with
  | error e=>exact (hCX H e s' h).elim
  | ok fl =>
   cases fl with
   | next=>exact False.elim h
   | brk=>exact False.elim h
   | cont=>exact False.elim h
   | ret u =>
    obtain ⟨v,H',os,bare,un,hok',r',q⟩:=h
    have q':v=.bl true:=q
    subst q'
    obtain rfl:u=Value.bool true:=r'
    refine ⟨rfl,OldK.of_keep fun b o e=>?_,os,bare⟩
    cases q:H b with
    | none=>exact un.keep b o e q (by intro z; exact absurd (show b∈([]:List Addr) from z) (by simp)) (by simp)
    | some u =>
     rcases hO b with z | ⟨ob,xs,z⟩
     ·rw [q] at z; cases z
     ·have z2:=un.frzs b ob _ z
      obtain ⟨e1,_⟩:=hok b _ z
      obtain ⟨e2,_⟩:=hok' b _ z2
      rw [e] at e1; cases e1
      exact e2
 cases hk:K.lookup a with
 | some o =>
  have e:=KX a o hk
  rw [ha] at e
  cases e
  refine core (fun _=>none) (fun _=>.inl rfl) (.inr ⟨_,vs.toArray,_,hk,rfl,rfl,rfl,by rw [AV,lenV]; exact hl,by simpa using rv⟩) (fun b u z=>by have z':(none:Option HO)=some u:=z; cases z') (fun b z=>absurd rfl z) fun z=>absurd rfl z
 | none =>
  refine core (fun b=>if b=a then some (.frz { cls:=.type "list",data:=.seq vs.toArray } (.lst (ns.map V.int))) else none) (fun b=>?_) (.inl (.inr ⟨{ cls:=.type "list",data:=.seq vs.toArray },if_pos rfl⟩)) (fun b u z=>?_) (fun b z=>?_) fun _=>hk
  ·by_cases hb:b=a
   ·exact .inr ⟨_,_,if_pos hb⟩
   ·exact .inl (if_neg hb)
  ·by_cases hb:b=a
   ·have z':=(if_pos hb).symm.trans z
    cases z'
    subst hb
    exact ⟨ha,by rw [AA]; exact hl,vs,_,rv,ha⟩
   ·have z':=(if_neg hb).symm.trans z
    cases z'
  ·by_cases hb:b=a
   ·exact hb
   ·exact absurd (if_neg hb) z
abbrev KOf {K:PySem.W.Frag} {h:Heap} (_:K.In h):PySem.W.Frag:=K
theorem walk_of {l:PySem.W.OpenLaw} {n k:Nat} {q:Program} {loose:List Str} {XP:(Str→Option Value)→Heap→Prop} {YP:World→Heap→Prop} {d:DefRec} {K:Params→PySem.W.Frag} {CX:World→CXT} {sp:World→Sp} {x:Str}
  (hn:l.most=some n) (hn2:n≤AL) (hdf:d.params.defaults=[]) (hr:Room k callerA)
  (hY:∀ (w:World) (h:Heap),YP w h→(K w.params).In h)
  (F:∀ (w:World) (mg:Str→Option Value) (fa:Addr) (h:Heap),(K w.params).In h→h.Ns AZ mg→mg d.name=some (.ref fa) →
   ∃ fd:FuncData,(∀ (s:Shared) (u:Value),BindsTo s fd ⟨[u],[]⟩ [(x,u)]) ∧
    ∀ base:Heap,(K w.params).In base→base.Ns AZ mg→FnOk l.prog w (K w.params) mg base (CX w) k fa fd [x] (sp w))
  (hsp:∀ (w:World) (H:Hp) (a:Addr) (ns:List Int),ns.length≤n→Only H→SqL (K w.params) H a (ns.map V.int)→sp w [.ref a] H (fun v _=>v=.bl true) fun _ _ _=>False)
  (hCX:∀ (w:World) (H:Hp) (s:Shared) (e:Value) (s':Shared),CX w [] H s (fun _ _ _=>False) e s'→False) :
  PySem.W.WalkO q loose XP YP l.row.toRowW d [] (fun f vs=>PySem.call f vs):=by
 refine Att.attach_call hn hdf fun w s₀ s₁ mg mb fa o pm cd doc a vs ns G Y ho hd hcd hmg hobj hints hlen hg=>?_
 have KX:=hY w _ Y
 obtain ⟨fd,hb,hF⟩:=F w mg fa _ KX G.T.g hmg
 exact law_call KX G.T.g G.T.b G.T.builtins G.T.nolimit hg hobj hints (Ag hlen hn2) hr hF hb (fun H hO hS=>hsp w H a ns hlen hO hS) fun H e s'=>hCX w H s₁ e s'
end L2
namespace L2
open PySem PySem.Spec PyProof.Rows
def inClass (s:Stmt) (j:Nat):Stmt:=match s with
 | .ClassDef _ _ _ body _ _ _ _ _ _ _=>body.getD j (.Pass ⟨0,0,0,0⟩)
 | _=>.Pass ⟨0,0,0,0⟩
def defArgs (s:Stmt):Arguments:=match s with
 | .FunctionDef _ a _ _ _ _ _ _ _ _=>a
 | _=>{ posonlyargs:=[],args:=[],vararg:=none,kwonlyargs:=[],kw_defaults:=[],kwarg:=none,defaults:=[] }
def defBody (s:Stmt):List Stmt:=match s with
 | .FunctionDef _ _ b _ _ _ _ _ _ _=>b
 | _=>[]
def defScope (s:Stmt):Scope:=match s with
 | .FunctionDef _ _ _ _ _ _ sc _ _ _=>sc
 | _=>{ kind:=.function,names:=[],isGenerator:=false,isCoroutine:=false }
abbrev E0:XK:=fun _ _ _=>False
structure Fun (K:PySem.W.Frag) (x qual:Str) (st:Stmt) (f:Addr) (fd:FuncData):Prop where
 ex:∃ (oc:Value) (od:Option Addr) (kV doc pm:Value) (an:Option Addr) (cdv ct:Value) (osl:Array (Option Value)),
  fd=Av x qual (defArgs st) (defBody st) (defScope st) .none kV doc pm an cdv ct∧K.lookup f=some ⟨oc,od,.func fd,osl⟩∧As K cdv qual=true
 kp:Ah K (.ref f)=true
section
variable {P:Program} {w:World} {K:PySem.W.Frag} {mg:Str→Option Value} {base:Heap}
theorem Fun.binds {x qual:Str} {st:Stmt} {f:Addr} {fd:FuncData} {ps:List Str} (F:Fun K x qual st f fd)
  (h:∀ (kV doc pm:Value) (an:Option Addr) (cdv ct:Value) (us:List Value),us.length=ps.length→bindArgs (Av x qual (defArgs st) (defBody st) (defScope st) .none kV doc pm an cdv ct) ⟨us,[]⟩=pure (ps.zip us)):Binds K fd ps []:=by
 obtain ⟨oc,od,kV,doc,pm,an,cdv,ct,osl,rfl,lk,hcd⟩:=F.ex
 exact .all (h kV doc pm an cdv ct)
theorem fun_mk {x qual:Str} {st:Stmt} {f:Addr} {oc:Value} {od an:Option Addr} {osl:Array (Option Value)} {kV doc pm cdv ct:Value} (l:K.lookup f=some ⟨oc,od,.func (Av x qual (defArgs st) (defBody st) (defScope st) .none kV doc pm an cdv ct),osl⟩)
  (c:As K cdv qual=true) (k:Ah K (.ref f)=true):Fun K x qual st f (Av x qual (defArgs st) (defBody st) (defScope st) .none kV doc pm an cdv ct):=⟨⟨oc,od,kV,doc,pm,an,cdv,ct,osl,rfl,l,c⟩,k⟩
end
section
variable {X:Cx}
theorem pv (i:Nat) {x:Str} {pos:Pos} (hN:X.N[i]?=some x:=by rfl) (hv:Vis X.env.scope x:=by first | exact Or.inl rfl | exact Or.inr (Or.inl rfl) | exact Or.inr (Or.inr rfl)) (hd:(x == ("__debug__":Str))=false:=by decide)
  (hcd:(x == ("__classdict__":Str))=false:=by decide):PE X (.Name x pos) (tVar i):=pe_var hN hv hd hcd
end
theorem iteF {A B:Prop} (h:B):if false=true then A else B:=by
 rw [if_neg Ap]
 exact h
theorem iteT {A B:Prop} (h:A):if true=true then A else B:=by
 rw [if_pos rfl]
 exact h
theorem ite2 {c A B:Prop} [Decidable c] (h1:c→A) (h2:¬ c→B):if c then A else B:=by
 by_cases h:c
 ·rw [if_pos h]
  exact h1 h
 ·rw [if_neg h]
  exact h2 h
def Same (H H':Hp):Prop:=∀ b o,H b=some o→H' b=some o
theorem Same.trans {H H1 H2:Hp} (a:Same H H1) (b:Same H1 H2):Same H H2:=fun c o h=>b c o (a c o h)
theorem Same.free {H H':Hp} (e:Same H H') {l:Addr} (h:H' l=Option.none):H l=Option.none:=by
 cases q:H l with
 | none=>rfl
 | some o =>
  rw [e l o q] at h
  cases h
theorem Same.seq {K:PySem.W.Frag} {H H':Hp} {a:Addr} {xs:List V} (e:Same H H') (h:SqL K H a xs):SqL K H' a xs:=by
 rcases h with (h | ⟨o,h⟩) | h
 ·exact .inl (.inl (e _ _ h))
 ·exact .inl (.inr ⟨o,e _ _ h⟩)
 ·exact .inr h
section
variable {κ:Type} [DecidableEq κ]
end
def Fly (h:Heap) (e T:Addr) (cls:Value) (dct:Option Addr):Prop :=
 ∃ oe vs oT ts,h.get? e=some oe∧oe.cls=cls∧oe.dict=dct∧oe.data=.fields vs∧vs[1]?=some (.ref T)∧T≠e∧h.get? T=some oT∧oT.data=.fields ts∧ts[3]?=some .none
def FlyAt (h:Heap) (e T:Addr) (cls:Value) (dct:Option Addr) (fl:Value):Prop :=
 ∃ oe vs oT ts,h.get? e=some oe∧oe.cls=cls∧oe.dict=dct∧oe.data=.fields vs∧vs[1]?=some (.ref T)∧T≠e∧h.get? T=some oT∧oT.data=.fields ts∧ts[3]?=some fl
structure Noted (fs:List Addr) (e T:Addr) (h h':Heap):Prop where
 keep:∀ b o,b≠e→b ∉ fs→h.get? b=some o→h'.get? b=some o
 slot:∀ b o,b≠e→h.get? b=some o→∃ sl,h'.get? b=some { o with slots:=sl }
 new:h.objs.size≤T
section
variable {M:Model} {A:Around} {E:Value→Shared→Prop} {s:Shared}
theorem entry_x {base:Heap} {env:Env} {outer:List Env} {L e:Addr} {oe:Obj} {vs:Array Value} {head:Value} {hadNext:Bool} {Q:Unit→Shared→Prop}
  (hfr:A.frames=some (env :: outer)) (hl:s.heap.FunFrames base (env :: outer)) (hf:env.frame=some L) (he:s.heap.get? e=some oe) (hd:oe.data=.fields vs) (hsz:1 < vs.size)
  (h:∀ h' T,Noted (frs (env :: outer)) e T s.heap h'→FlyAt h' e T oe.cls oe.dict (rawInt L)→Q () { s with heap:=h' }) :
  wpAny M A (do
   let a ← frameOf env
   let pl ← entryPlaceOf L hadNext
   let b ← EntryCells.newEntry head a .none (rawInt L) .none pl
   setField (.ref e) 1 b) Q E s:=by
 have nf:e ∉ (env :: outer).filterMap (·.frame):=fun hm=>by
  obtain ⟨_,o,ho,hnf⟩:=hl.mem hm
  rw [he] at ho
  cases ho
  exact hnf vs hd
 refine AC (wpAny_frameOf_fun hfr hl hf fun h1 so=>AC (wpAny_entryPlaceOf fun pl hpl=>?_))
 unfold EntryCells.newEntry newFields
 refine AC (wpAny_newObj_type ?_ (hpl.sizeOk5 _ _ _ _ _))
 have e1:h1.get? e=some oe:=(so.2.1 e nf).trans he
 generalize hn:([head,Ac L,A7,rawInt L,A7]++(if pl.isEmpty=true then A3 6 A7 else pl))=cells
 have c3:cells.toArray[3]?=some (rawInt L):=by subst hn; simp
 have e2:=AH (h:=h1) { cls:=.type "traceback",dict:=none,data:=.fields cells.toArray } e1
 refine wpAny_setField e2 hd hsz ?_
 have ne:h1.objs.size≠e:=Nat.ne_of_gt (AK e1)
 have d3:=Obj.data_mapFields hd (·.setIfInBounds 1 (Ac h1.objs.size))
 refine h _ h1.objs.size ⟨fun b o hbe hbf hb=>?_,fun b o hbe hb=>?_,Nat.le_of_eq so.1.symm⟩ ?_
 ·rw [Heap.get?_update_other _ _ (Ne.symm hbe)]
  exact AH _ ((so.2.1 b hbf).trans hb)
 ·obtain ⟨sl,hs⟩:=so.2.2 b o hb
  refine ⟨sl,?_⟩
  rw [Heap.get?_update_other _ _ (Ne.symm hbe)]
  exact AH _ hs
 ·refine ⟨_,_,{ cls:=.type "traceback",dict:=none,data:=.fields cells.toArray },cells.toArray,Heap.get?_update_self _ e2 (Obj.isFreed_of_fields d3),Obj.cls_mapFields _ _,?_,d3,by simp [hsz],ne,?_,rfl,c3⟩
  ·obtain ⟨c,d,dt,sl⟩:=oe
   cases dt <;> rfl
  ·rw [Heap.get?_update_other _ _ (Ne.symm ne)]
   exact Al h1 rfl
theorem flight_x {e T:Addr} {cls:Value} {dct:Option Addr} {fl:Value} {Q:Unit→Shared→Prop} (ht:FlyAt s.heap e T cls dct fl)
  (h:∀ h',(∀ b o,b≠T→s.heap.get? b=some o→h'.get? b=some o)→Fly h' e T cls dct→Q () { s with heap:=h' }):wpAny M A (setFlight (.ref e) none) Q E s:=by
 obtain ⟨oe,vs,oT,ts,he,hc,hdx,hd,h1,ne,hT,hdT,h3⟩:=ht
 have hsz:3 < ts.size:=(Array.getElem?_eq_some_iff.mp h3).1
 refine wpAny_setFlight_none he hd h1 hT hdT hsz (h _ (fun b o hb q=>?_) ?_)
 ·rw [Heap.get?_update_other _ _ (Ne.symm hb)]
  exact q
 ·refine ⟨oe,vs,_,_,?_,hc,hdx,hd,h1,ne,Heap.get?_update_self _ hT (Obj.isFreed_of_fields (Obj.data_mapFields hdT _)),Obj.data_mapFields hdT _,by simp [hsz]⟩
  rw [Heap.get?_update_other _ _ ne]
  exact he
theorem note_first {base:Heap} {env:Env} {outer:List Env} {L e:Addr} {oe:Obj} {vs:Array Value} {Q:Unit→Shared→Prop}
  (hfr:A.frames=some (env :: outer)) (hl:s.heap.FunFrames base (env :: outer)) (hf:env.frame=some L) (he:s.heap.get? e=some oe) (hd:oe.data=.fields vs) (h1:vs[1]?=some .none)
  (h:∀ h' T,Noted (frs (env :: outer)) e T s.heap h'→FlyAt h' e T oe.cls oe.dict (rawInt L)→Q () { s with heap:=h' }):wpAny M A (noteFrame (.ref e) env) Q E s:=by
 unfold noteFrame
 simp only [hf]
 refine AC (wpAny_field he hd h1 ?_)
 rw [if_neg (by decide)]
 exact entry_x hfr hl hf he hd (Array.getElem?_eq_some_iff.mp h1).1 h
theorem note_next {base:Heap} {env:Env} {outer:List Env} {L e T0:Addr} {cls:Value} {dct:Option Addr} {Q:Unit→Shared→Prop}
  (hfr:A.frames=some (env :: outer)) (hl:s.heap.FunFrames base (env :: outer)) (hf:env.frame=some L) (ht:Fly s.heap e T0 cls dct)
  (h:∀ h' T,(∀ b o,b≠e→b≠T0→b ∉ frs (env :: outer)→s.heap.get? b=some o→h'.get? b=some o)→(∀ b o,b≠e→b≠T0→s.heap.get? b=some o→∃ sl,h'.get? b=some { o with slots:=sl })→s.heap.objs.size≤T →
   FlyAt h' e T cls dct (rawInt L)→(∀ b o,s.heap.get? b=some o→∃ o',h'.get? b=some o')→Q () { s with heap:=h' }):wpAny M A (noteFrame (.ref e) env) Q E s:=by
 obtain ⟨oe,vs,oT,ts,he,rfl,rfl,hd,h1,ne,hT,hdT,h3⟩:=ht
 unfold noteFrame
 simp only [hf]
 refine AC (wpAny_field he hd h1 ?_)
 rw [if_pos (show (Ac T0 != A7)=true from by simp)]
 refine AC (wpAny_field hT hdT h3 ?_)
 rw [if_neg (show ¬ ((A7 == rawInt L)=true) from by simp [rawInt])]
 refine AC (wpAny_setField hT hdT (Array.getElem?_eq_some_iff.mp h3).1 ?_)
 have oth:∀ b,b≠T0→(s.heap.update T0 (Obj.mapFields (·.setIfInBounds 3 A7))).get? b=s.heap.get? b:=fun b hb=>Heap.get?_update_other _ _ (Ne.symm hb)
 have selfT:=Heap.get?_update_self (Obj.mapFields (·.setIfInBounds 3 A7)) hT (Obj.isFreed_of_fields (Obj.data_mapFields hdT _))
 have nrec:∀ b o,s.heap.get? b=some o→(∀ vs,o.data≠.fields vs)→b≠T0:=fun b o hb hnf q=>by
  rw [q,hT] at hb
  cases hb
  exact hnf ts hdT
 have hl':(s.heap.update T0 (Obj.mapFields (·.setIfInBounds 3 A7))).FunFrames base (env :: outer):=hl.of_keeps fun b o hb hnf=>⟨o,(oth b (nrec b o hb hnf)).trans hb,rfl⟩
 refine entry_x (s:={ s with heap:=s.heap.update T0 (Obj.mapFields (·.setIfInBounds 3 A7)) }) hfr hl' hf ((oth e (Ne.symm ne)).trans he) hd (Array.getElem?_eq_some_iff.mp h1).1 fun h' T N F=>?_
 refine h h' T (fun b o b1 b2 b3 q=>N.keep b o b1 b3 ((oth b b2).trans q)) (fun b o b1 b2 q=>N.slot b o b1 ((oth b b2).trans q)) (Ag (Nat.le_of_eq (Heap.size_after_update _ _ _).symm) N.new) F fun b o q=>?_
 by_cases b1:b=e
 ·subst b1
  obtain ⟨oe',_,_,_,q',_⟩:=F
  exact ⟨oe',q'⟩
 ·by_cases b2:b=T0
  ·subst b2
   obtain ⟨sl,q'⟩:=N.slot b _ b1 selfT
   exact ⟨_,q'⟩
  ·obtain ⟨sl,q'⟩:=N.slot b o b1 ((oth b b2).trans q)
   exact ⟨_,q'⟩
end
def CX1 (P:Program) (w:World):CXT:=fun outer H s E ev s' =>
 ∃ e T cls dct H',ev=.ref e∧s'.os=s.os∧AllBare s'.gens∧Un (frs outer) [] H H' s.heap s'.heap∧HOk P w H' s'.heap∧Fly s'.heap e T cls dct ∧
  s.heap.get? e=none∧s.heap.get? T=none∧H' e=none∧H' T=none∧E cls dct H'
section
variable {X:Cx} {pins:List (Addr×Obj)} {σ:St} {H:Hp} {s:Shared} {h':Heap}
theorem left_ok (I:Inv X pins σ H s) (hex:X.ex=[]) (bad:List Addr) (hb:∀ b∈bad,X.s₀.heap.get? b=none∧H b=none)
  (k1:∀ b o,b ∉ bad→b ∉ frs X.stack→s.heap.get? b=some o→h'.get? b=some o) (k2:∀ b o,b ∉ bad→s.heap.get? b=some o→∃ sl,h'.get? b=some { o with slots:=sl })
  (k3:∀ b o,s.heap.get? b=some o→∃ o',h'.get? b=some o'):Un X.fs [] X.H₀ H X.s₀.heap h'∧HOk X.prog X.w H h':=by
 have B:=I.base
 rw [hex] at B
 have nb:∀ b o,X.s₀.heap.get? b=some o→b ∉ bad:=fun b o q z=>by
  rw [(hb b z).1] at q
  cases q
 have nL:∀ b o,X.s₀.heap.get? b=some o→b≠X.env.locals:=fun b o q=>AU (Aa (AK q) I.ok.above)
 have e0:∀ b:Addr,b ∉ ([]:List Addr):=fun b=>by simp
 refine ⟨⟨fun b o q n hf _=>?_,fun b o q n hf _=>?_,B.free,fun b o q _=>?_,B.tups,B.frzs,B.tbls⟩,fun a u q=>?_⟩
 ·refine k1 b o (nb b o q) (fun z=>?_) (B.keep b o q n hf (e0 b))
  rcases AW.mp (I.stkSub b z) with z | z
  ·exact nL b o q z
  ·exact hf z
 ·obtain ⟨sl,q1⟩:=B.slot b o q n hf (e0 b)
  obtain ⟨sl',q2⟩:=k2 b _ (nb b o q) q1
  exact ⟨sl',q2⟩
 ·obtain ⟨o1,q1⟩:=B.there b o q (e0 b)
  exact k3 b o1 q1
 ·have tr:∀ b v,H b=some v→b ∉ bad∧b ∉ frs X.stack:=fun b v z=>⟨(fun y=>absurd ((hb b y).2.symm.trans z) (by simp)),fun y=>absurd ((I.stkFree b y).symm.trans z) (by simp)⟩
  refine (I.hok a u q).stay (fun b v hbv z=>?_) (fun _ z=>z) fun _ _ z=>z
  rcases hbv with rfl | hbv
  ·exact k1 b v (tr b _ q).1 (tr b _ q).2 z
  ·exact k1 b v (tr b _ hbv).1 (tr b _ hbv).2 z
end
section
variable {P:Program} {w:World} {K:PySem.W.Frag} {mg:Str→Option Value} {base:Heap} {N:List Str} {qual:Str} {scope:Scope} {f:Addr} {cd:Value} {A:Around} {outer:List Env} {s₀:Shared} {H₀:Hp} {E:XK}
abbrev cx1 (P:Program) (w:World) (K:PySem.W.Frag) (mg:Str→Option Value) (base:Heap) (N:List Str) (qual:Str) (scope:Scope) (f:Addr) (cd:Value) (A:Around) (outer:List Env) (s₀:Shared) (H₀:Hp) (E:XK):Cx :=
 cxOf (CX1 P w) P w K mg base N qual scope f cd A outer s₀ H₀ E
theorem xe_made {pins:List (Addr×Obj)} {σ:St} {H:Hp} {s:Shared} {e:Addr} {oe:Obj} {vs:Array Value} (I:Inv (cx1 P w K mg base N qual scope f cd A outer s₀ H₀ E) pins σ H s)
  (he:s.heap.get? e=some oe) (hd:oe.data=.fields vs) (h1:vs[1]?=some .none) (hn:s₀.heap.get? e=none) (hH:H e=none) (q:E oe.cls oe.dict H):(cx1 P w K mg base N qual scope f cd A outer s₀ H₀ E).xe (.ref e) s:=by
 show wpAny _ _ (leaving _ _) _ _ _
 unfold leaving
 refine AC (note_first (base:=base) (L:=s₀.heap.objs.size) I.ok.frames I.stack rfl he hd h1 fun h1' T Nt F=>?_)
 refine flight_x (s:={ s with heap:=h1' }) F fun h2 k F2=>?_
 have bT:s.heap.objs.size≤T:=Nt.new
 have tn:∀ b o,s.heap.get? b=some o→b≠T:=fun b o z=>AU (Aa (AK z) bT)
 have s0T:s₀.heap.objs.size≤T:=Ag I.sz bT
 obtain ⟨u,hk⟩:=left_ok (h':=h2) I rfl [e] (fun b hb=>by
   have z:b=e:=by simpa using hb
   subst z
   exact ⟨hn,hH⟩)
  (fun b o b1 b2 z=>k b o (tn b o z) (Nt.keep b o (by simpa using b1) b2 z))
  (fun b o b1 z=>by
   obtain ⟨sl,z1⟩:=Nt.slot b o (by simpa using b1) z
   exact ⟨sl,k b _ (tn b o z) z1⟩)
  (fun b o z=>by
   by_cases b1:b=e
   ·subst b1
    obtain ⟨oe',_,_,_,z1,_⟩:=F2
    exact ⟨oe',z1⟩
   ·obtain ⟨sl,z1⟩:=Nt.slot b o b1 z
    exact ⟨_,k b _ (tn b o z) z1⟩)
 exact ⟨e,T,_,_,H,rfl,I.os,I.bare,u,hk,F2,hn,Heap.get?_none_of_le s0T,hH,I.hok.fresh bT,q⟩
theorem pass1:Passes (CX1 P w) (cx1 P w K mg base N qual scope f cd A outer s₀ H₀ E) E:=by
 intro pins σ H s ev s' I hc
 obtain ⟨e,T0,cls,dct,H',rfl,os,bare,un,hok,F0,hne,hnT,hHe,hHT,q⟩:=hc
 have I':Inv (cx1 P w K mg base N qual scope f cd A outer s₀ H₀ E) pins σ H' s':=I.call' (ch:=[]) os un hok bare fun b z=>absurd z (by simp)
 have old:∀ b,s.heap.get? b=none→s₀.heap.get? b=none:=fun b z=>by
  cases q1:s₀.heap.get? b with
  | none=>rfl
  | some o =>
   obtain ⟨o',q2⟩:=I.base.there b o q1 (show b ∉ ([]:List Addr) by simp)
   rw [z] at q2
   cases q2
 show wpAny _ _ (leaving _ _) _ _ _
 unfold leaving
 refine AC (note_next (base:=base) (L:=s₀.heap.objs.size) I'.ok.frames I'.stack rfl F0 fun h1' T k1 k2 bT F k3=>?_)
 refine flight_x (s:={ s' with heap:=h1' }) F fun h2 k F2=>?_
 have tn:∀ b o,s'.heap.get? b=some o→b≠T:=fun b o z=>AU (Aa (AK z) bT)
 have s0T:s₀.heap.objs.size≤T:=Ag I'.sz bT
 obtain ⟨u,hk⟩:=left_ok (h':=h2) I' rfl [e,T0] (fun b hb=>by
   rcases AW.mp hb with z | hb
   ·subst z
    exact ⟨old b hne,hHe⟩
   ·have z:b=T0:=by simpa using hb
    subst z
    exact ⟨old b hnT,hHT⟩)
  (fun b o b1 b2 z=>k b o (tn b o z) (k1 b o (fun y=>b1 (by simp [y])) (fun y=>b1 (by simp [y])) b2 z))
  (fun b o b1 z=>by
   obtain ⟨sl,z1⟩:=k2 b o (fun y=>b1 (by simp [y])) (fun y=>b1 (by simp [y])) z
   exact ⟨sl,k b _ (tn b o z) z1⟩)
  (fun b o z=>by
   obtain ⟨o1,z1⟩:=k3 b o z
   exact ⟨o1,k b _ (tn b o z) z1⟩)
 exact ⟨e,T,cls,dct,H',rfl,I'.os,bare,u,hk,F2,old e hne,Heap.get?_none_of_le s0T,hHe,hok.fresh bT,q⟩
theorem own1:PassesOwn (model P w) (cx1 P w K mg base N qual scope f cd A outer s₀ H₀ E).A (cx1 P w K mg base N qual scope f cd A outer s₀ H₀ E).env (cx1 P w K mg base N qual scope f cd A outer s₀ H₀ E).xe:=PassesOwn.leaving
end
theorem ObjOk.there {P:Program} {w:World} {H:Hp} {h:Heap} {a:Addr} {o:HO} (x:ObjOk P w H h a o):∃ ob,h.get? a=some ob:=by
 cases o with
 | lst xs=>obtain ⟨_,_,_,_,e⟩:=x; exact ⟨_,e⟩
 | tup xs=>obtain ⟨_,_,_,o,e,_⟩:=x; exact ⟨_,e⟩
 | dK kvs=>obtain ⟨_,_,_,_,o,_,_,e,_⟩:=x; exact ⟨_,e⟩
 | dT kvs=>obtain ⟨_,_,_,_,o,_,_,e,_⟩:=x; exact ⟨_,e⟩
 | set S n=>obtain ⟨o,_,_,_,e,_⟩:=x; exact ⟨_,e⟩
 | ins C dx fs=>obtain ⟨_,_,_,e,_⟩:=x; exact ⟨_,e⟩
 | own y=>exact x
 | xd fs=>obtain ⟨_,⟨_,_,_,e,_⟩,_⟩:=x; exact ⟨_,e⟩
 | rng lo hi=>obtain ⟨_,_,_,e⟩:=x; exact ⟨_,e⟩
 | frz ob u=>obtain ⟨e,_⟩:=x; exact ⟨_,e⟩
 | tbl ps=>exact ⟨_,(show h.get? a=some _ from x)⟩
 | met f y=>exact ⟨_,(show h.get? a=some _ from x)⟩
 | ext φ=>obtain ⟨_,e,_⟩:=x; exact e
theorem HOk.new {P:Program} {w:World} {H:Hp} {h:Heap} {a:Addr} (x:HOk P w H h) (e:h.get? a=none):H a=none:=by
 cases q:H a with
 | none=>rfl
 | some u =>
  obtain ⟨o,z⟩:=(x a u q).there
  rw [e] at z
  cases z
section
variable {P:Program} {w:World} {K:PySem.W.Frag} {mg:Str→Option Value} {base:Heap} {N:List Str} {qual:Str} {scope:Scope} {f:Addr} {cd:Value} {A:Around} {outer:List Env} {s₀:Shared} {H₀:Hp} {E:XK}
end
section
variable {X:Cx} {x:Str} {C:Addr} {B newId initId:String} {bm:List Value} {np cpos pos:Pos} {E:XK} {e₀:Expr} {rest:List Expr} {t:TA}
end
section
variable {X:Cx} {pins:List (Addr×Obj)} {σ:St} {H H':Hp} {s:Shared} {h':Heap}
theorem Inv.stepN {g':Array GenState} {t':Nat} {d':Drawn} {ch:List Addr} (I:Inv X pins σ H s)
  (hch:∀ b∈ch,(b∈X.ex∨X.s₀.heap.get? b=none)∧b≠X.env.locals∧(∀ x c,X.env.cells.lookup x=some c→c≠b)∧∀ p∈X.pn++pins,p.1≠b)
  (keep:∀ b o,b≠X.env.locals→b ∉ X.fs→b ∉ ch→s.heap.get? b=some o→H b=none→h'.get? b=some o)
  (slot:∀ b o,b≠X.env.locals→b∈X.fs→b ∉ ch→s.heap.get? b=some o→H b=none→∃ sl,h'.get? b=some { o with slots:=sl }) (free:∀ b o,b ∉ ch→s.heap.get? b=some o→H b=none→H' b=none)
  (there:∀ b o,b ∉ ch→s.heap.get? b=some o→∃ o',h'.get? b=some o')
  (tups:∀ b xs,H b=some (.tup xs)→H' b=some (.tup xs)) (frzs:∀ b o u,H b=some (.frz o u)→H' b=some (.frz o u)) (tbls:∀ b ps,H b=some (.tbl ps)→∃ more,H' b=some (.tbl (ps++more)))
  (ns:∀ m,s.heap.Ns X.env.locals m→h'.Ns X.env.locals m) (hok:HOk X.prog X.w H' h') (hg:AllBare g') :
  Inv X pins σ H' { s with heap:=h',gens:=g',drawn:=d',toks:=t' }:=by
 have neL:∀ b o,X.s₀.heap.get? b=some o→b≠X.env.locals:=fun b o e=>AU (Aa (AK e) I.ok.above)
 have neC:∀ b o,X.s₀.heap.get? b=some o→b ∉ X.ex→b ∉ ch:=fun b o e hx hb=>by
  rcases (hch b hb).1 with z | z
  ·exact hx z
  ·rw [z] at e
   cases e
 have cellK:∀ x c,X.env.cells.lookup x=some c→∀ v,s.heap.IsCell c v→h'.IsCell c v:=fun x c e v ⟨o,ho,hd⟩=>by
  have nch:c ∉ ch:=fun z=>(hch c z).2.2.1 x c e rfl
  by_cases hc:c∈X.fs
  ·obtain ⟨sl,q⟩:=slot c o (I.cne x c e) hc nch ho (I.freeC x c e)
   exact ⟨_,q,hd⟩
  ·exact ⟨o,keep c o (I.cne x c e) hc nch ho (I.freeC x c e),hd⟩
 refine ⟨I.ok,I.os,hg,⟨fun b o e n hb hx=>?_,fun b o e n hb hx=>?_,fun b o e n hx=>?_,fun b o e hx=>?_,fun b xs e=>tups b xs (I.base.tups b xs e),fun b o xs e=>frzs b o xs (I.base.frzs b o xs e),fun b ps e=>?_⟩,?_,fun x c e=>?_,?_,fun x c e=>?_,fun p hp=>?_,hok,I.len⟩
 ·exact keep b o (neL b o e) hb (neC b o e hx) (I.base.keep b o e n hb hx) (I.base.free b o e n hx)
 ·obtain ⟨sl,e1⟩:=I.base.slot b o e n hb hx
  obtain ⟨sl',e2⟩:=slot b _ (neL b o e) hb (neC b o e hx) e1 (I.base.free b o e n hx)
  exact ⟨sl',e2⟩
 ·obtain ⟨o',e1⟩:=I.base.there b o e hx
  exact free b o' (neC b o e hx) e1 (I.base.free b o e n hx)
 ·obtain ⟨o',e1⟩:=I.base.there b o e hx
  exact there b o' (neC b o e hx) e1
 ·obtain ⟨m1,e1⟩:=I.base.tbls b ps e
  obtain ⟨m2,e2⟩:=tbls b _ e1
  exact ⟨m1++m2,by rw [e2,Array.append_assoc]⟩
 ·obtain ⟨m,hn,hl⟩:=I.loc
  refine ⟨m,ns m hn,fun i x v e1 e2 e3=>?_⟩
  obtain ⟨u,r,l⟩:=hl i x v e1 e2 e3
  refine ⟨u,r,?_⟩
  rcases l with l | ⟨k,c,e,z⟩
  ·exact .inl l
  ·exact .inr ⟨k,c,e,cellK x c e _ z⟩
 ·obtain ⟨v,z⟩:=I.cell x c e
  exact ⟨v,cellK x c e v z⟩
 ·obtain ⟨m,⟨o,_,_,ho,_⟩,_⟩:=I.loc
  exact free _ o (fun z=>(hch _ z).2.1 rfl) ho I.free
 ·obtain ⟨v,o,ho,hd⟩:=I.cell x c e
  exact free c o (fun z=>(hch c z).2.2.1 x c e rfl) ho (I.freeC x c e)
 ·obtain ⟨e,n,ne,nf,d⟩:=I.pin p hp
  have nch:p.1 ∉ ch:=fun z=>(hch p.1 z).2.2.2 p hp rfl
  exact ⟨keep p.1 p.2 ne nf nch e n,free p.1 p.2 nch e n,ne,nf,d⟩
structure Apart (X:Cx) (pins:List (Addr×Obj)) (e:Addr):Prop where
 old:X.s₀.heap.get? e=none
 loc:e≠X.env.locals
 cel:∀ x c,X.env.cells.lookup x=some c→c≠e
 pin:∀ p∈X.pn++pins,p.1≠e
theorem Inv.apart (I:Inv X pins σ H s) (hex:X.ex=[]) {e:Addr} (hn:s.heap.get? e=none):Apart X pins e:=by
 have ne:∀ b o,s.heap.get? b=some o→b≠e:=fun b o q z=>by
  rw [z,hn] at q
  cases q
 refine ⟨?_,?_,fun x c q=>?_,fun p hp=>ne _ _ (I.pin p hp).1⟩
 ·cases q1:X.s₀.heap.get? e with
  | none=>rfl
  | some o =>
   obtain ⟨o',q2⟩:=I.base.there e o q1 (by rw [hex]; simp)
   rw [hn] at q2
   cases q2
 ·obtain ⟨m,⟨o,_,_,ho,_⟩,_⟩:=I.loc
  exact Ne.symm (ne _ _ ho)
 ·obtain ⟨v,o,ho,_⟩:=I.cell x c q
  exact ne _ _ ho
theorem Inv.track {e:Addr} {φ:Heap→Prop} (I:Inv X pins σ H s) (a:Apart X pins e) (hH:H e=none) (ht:∃ o,s.heap.get? e=some o) (p:φ s.heap) (st:∀ h1 h2:Heap,φ h1→(∀ o,h1.get? e=some o→h2.get? e=some o)→φ h2) :
  Inv X pins σ (upd H e (.ext φ)) s:=by
 have nn:∀ b u,H b=some u→b≠e:=fun b u q z=>by
  rw [z,hH] at q
  cases q
 refine ⟨I.ok,I.os,I.bare,⟨I.base.keep,I.base.slot,fun b o q n hx=>?_,I.base.there,fun b xs q=>?_,fun b o u q=>?_,fun b ps q=>?_⟩,I.loc,I.cell,?_,fun x c q=>?_,fun pp hp=>?_,fun b u q=>?_,I.len⟩
 ·rw [upd_ne (fun z=>by rw [z,a.old] at q; cases q)]
  exact I.base.free b o q n hx
 ·rw [upd_ne (nn b _ (I.base.tups b xs q))]
  exact I.base.tups b xs q
 ·rw [upd_ne (nn b _ (I.base.frzs b o u q))]
  exact I.base.frzs b o u q
 ·obtain ⟨m,z⟩:=I.base.tbls b ps q
  exact ⟨m,by rw [upd_ne (nn b _ z)]; exact z⟩
 ·rw [upd_ne (Ne.symm a.loc)]
  exact I.free
 ·rw [upd_ne (a.cel x c q)]
  exact I.freeC x c q
 ·obtain ⟨z1,z2,z3⟩:=I.pin pp hp
  exact ⟨z1,by rw [upd_ne (a.pin pp hp)]; exact z2,z3⟩
 ·by_cases hb:b=e
  ·subst hb
   rw [upd_same] at q
   cases q
   exact ⟨p,ht,st⟩
  ·rw [upd_ne hb] at q
   exact (I.hok b u q).stay (fun _ _ _ z=>z) (fun c z=>by rw [upd_ne (nn c _ z)]; exact z) fun c xs z=>by rw [upd_ne (nn c _ z)]; exact z
def drop (H:Hp) (e:Addr):Hp:=fun b=>if b=e then none else H b
theorem drop_same {H:Hp} {e:Addr}:drop H e e=none:=if_pos rfl
theorem drop_ne {H:Hp} {e b:Addr} (h:b≠e):drop H e b=H b:=if_neg h
theorem Inv.untrack {e:Addr} {φ:Heap→Prop} (I:Inv X pins σ H s) (hH:H e=some (.ext φ)):Inv X pins σ (drop H e) s:=by
 have nn:∀ b u,H b=some u→(∀ ψ,u≠.ext ψ)→b≠e:=fun b u q nu z=>by
  rw [z,hH] at q
  cases q
  exact nu φ rfl
 have n0:∀ b,H b=none→drop H e b=none:=fun b q=>by
  unfold drop
  split
  ·rfl
  ·exact q
 refine ⟨I.ok,I.os,I.bare,⟨I.base.keep,I.base.slot,fun b o q n hx=>n0 b (I.base.free b o q n hx),I.base.there,fun b xs q=>?_,fun b o u q=>?_,fun b ps q=>?_⟩,I.loc,I.cell,n0 _ I.free,fun x c q=>n0 _ (I.freeC x c q),fun pp hp=>?_,fun b u q=>?_,I.len⟩
 ·have z:=I.base.tups b xs q
  rw [drop_ne (nn b _ z fun ψ y=>by cases y)]
  exact z
 ·have z:=I.base.frzs b o u q
  rw [drop_ne (nn b _ z fun ψ y=>by cases y)]
  exact z
 ·obtain ⟨m,z⟩:=I.base.tbls b ps q
  exact ⟨m,by rw [drop_ne (nn b _ z fun ψ y=>by cases y)]; exact z⟩
 ·obtain ⟨z1,z2,z3⟩:=I.pin pp hp
  exact ⟨z1,n0 _ z2,z3⟩
 ·by_cases hb:b=e
  ·subst hb
   rw [drop_same] at q
   cases q
  ·rw [drop_ne hb] at q
   exact (I.hok b u q).stay (fun _ _ _ z=>z) (fun c z=>by rw [drop_ne (nn c _ z fun ψ y=>by cases y)]; exact z) fun c xs z=>by rw [drop_ne (nn c _ z fun ψ y=>by cases y)]; exact z
theorem gone_ok {M:Model} {A:Around} {E:Value→Shared→Prop} {i:Nat} {n:Str} {pos:Pos} {Q:Unit→Shared→Prop} (I:Inv X pins σ H s) (hN:X.N.Nodup) (hi:X.N[i]?=some n) (hk:X.env.scope.names.lookup n=some .local)
  (h:∀ s',Inv X pins (σ.set i none) H s'→Q () s'):wpAny M A (do bindName X.env n .none; unbindBehindTheSuite X.env n pos) Q E s:=by
 obtain ⟨m,hn,hl⟩:=id I.loc
 have hcls:(X.env.scope.kind == .class || (X.env.scope.kind == .module && X.env.locals != X.env.globals))=false:=by rw [I.ok.kind]; rfl
 have hiσ:i < σ.length:=by rw [I.len]; exact (AE.mp hi).1
 refine wpAny_nameGoes_keeps hk hn hcls fun h' v hn' hs=>h _ ?_
 obtain ⟨oL,_,_,hoL,_⟩:=id hn
 refine ⟨I.ok,I.os,I.bare,⟨fun b o e n hb hx=>?_,fun b o e n hb hx=>?_,I.base.free,fun b o e hx=>?_,I.base.tups,I.base.frzs,I.base.tbls⟩,⟨_,hn',fun j y v' e1 e2 e3=>?_⟩,fun y c e=>?_,I.free,I.freeC,fun p hp=>?_,fun b ob e=>?_,by simpa using I.len⟩
 ·exact (hs.2 b (AU (Aa (AK e) I.ok.above))).trans (I.base.keep b o e n hb hx)
 ·obtain ⟨sl,e1⟩:=I.base.slot b o e n hb hx
  exact ⟨sl,(hs.2 b (AU (Aa (AK e) I.ok.above))).trans e1⟩
 ·obtain ⟨o',e1⟩:=I.base.there b o e hx
  exact ⟨o',(hs.2 b (AU (Aa (AK e) I.ok.above))).trans e1⟩
 ·by_cases hj:j=i
  ·subst hj
   rw [List.getElem?_set_self hiσ] at e2
   cases e2
  ·rw [List.getElem?_set_ne (Ne.symm hj)] at e2
   obtain ⟨u',r',q⟩:=hl j y v' e1 e2 e3
   refine ⟨u',r',?_⟩
   rcases q with ⟨k,e⟩ | ⟨k,c,e,z⟩
   ·refine .inl ⟨k,?_⟩
    have:y≠n:=fun e=>hj (nodup_ix hN e1 (e ▸ hi))
    simp [this,e]
   ·exact .inr ⟨k,c,e,z.sameBut hs (I.cne y c e)⟩
 ·obtain ⟨w',z⟩:=I.cell y c e
  exact ⟨w',z.sameBut hs (I.cne y c e)⟩
 ·obtain ⟨e,n,ne,nf,d⟩:=I.pin p hp
  exact ⟨(hs.2 p.1 ne).trans e,n,ne,nf,d⟩
 ·refine (I.hok b ob e).stay (fun c w' hc q=>(hs.2 c ?_).trans q) (fun _ q=>q) fun _ _ q=>q
  rintro rfl
  have fr:=I.free
  rcases hc with rfl | hc
  ·rw [fr] at e; cases e
  ·rw [fr] at hc; cases hc
end
structure CatchC (K:PySem.W.Frag) (mg:Str→Option Value) (x:Str) (C:Addr):Prop where
 bound:mg x=some (.ref C)
 obj:∃ dd cd sl,K.lookup C=some ⟨.type "type",dd,.cls cd,sl⟩
 exc:PySem.W.mroIn K C (.type "BaseException")=some true
theorem excm_K {K:PySem.W.Frag} {mg:Str→Option Value} {x:Str} {prog:Program} {w:World} {A:Around} {E:Value→Shared→Prop} {s:Shared} {e C Cc:Addr} {oe:Obj} {b:Bool} {Q:Bool→Shared→Prop} (X:K.In s.heap) (hm:PySem.W.mroIn K C (.ref Cc)=some b)
  (cc:CatchC K mg x Cc) (he:s.heap.get? e=some oe) (hcls:oe.cls=.ref C) (q:Q b s):wpAny (model prog w) A (excMatches (.ref e) (.ref Cc)) Q E s:=by
 obtain ⟨dd,cd,sl,hl⟩:=cc.obj
 have L1:=PySem.W.looks_mroIn (M:=model prog w) X hm
 have L2:=PySem.W.looks_mroIn (M:=model prog w) X cc.exc
 have hC:=X _ _ hl
 have f:=tc_notTuple
 have hT:s.TypeIs (.ref Cc) "type":=⟨_,hC,rfl⟩
 obtain ⟨hp,g,d,tk,os⟩:=s
 unfold excMatches
 repeat (first | (with_reducible refine BC he ?_; rw [hcls]) | (with_reducible refine BC hC ?_) | (with_reducible refine L1.here ?_) | (with_reducible refine L2.here ?_) | wp_step)
 cases b with
 | true =>
  wp_walk
  exact q
 | false =>
  wp_walk
  exact q
def ExcC (e:Addr) (cls:Value) (dct:Option Addr):HO:=.ext fun h=>∃ oe vs,h.get? e=some oe∧oe.cls=cls∧oe.dict=dct∧oe.data=.fields vs
abbrev Cx.sup (X:Cx) (e:Addr):Cx:={ X with A:=X.A.mark (some (.ref e)),calm:=false,xe:=fun _ _=>False }
theorem Cx.Ok.sup {X:Cx} (ok:X.Ok) (e:Addr):(X.sup e).Ok :=
 ⟨ok.mod,ok.kind,ok.glob,ok.blt,ok.above,ok.inj,ok.has,ok.cab,(fun z=>absurd (show false=true from z) (by decide)),ok.frames,ok.stk,ok.exf,ok.bs,ok.bsz,ok.noex,ok.exfs,ok.funs,ok.frf⟩
section
variable {X:Cx} {pins:List (Addr×Obj)} {σ:St} {H:Hp} {s:Shared} {e:Addr}
theorem Inv.sup (I:Inv X pins σ H s) (e:Addr):Inv (X.sup e) pins σ H s:=⟨I.ok.sup e,I.os,I.bare,I.base,I.loc,I.cell,I.free,I.freeC,I.pin,I.hok,I.len⟩
theorem Inv.unsup (ok:X.Ok) (I:Inv (X.sup e) pins σ H s):Inv X pins σ H s:=⟨ok,I.os,I.bare,I.base,I.loc,I.cell,I.free,I.freeC,I.pin,I.hok,I.len⟩
theorem Inv.recd {T:Addr} {h':Heap} (I:Inv X pins σ H s) (a:Apart X pins T) (hT:H T=none) (nf:T ∉ X.fs) (k:∀ b o,b≠T→s.heap.get? b=some o→h'.get? b=some o):Inv X pins σ H { s with heap:=h' }:=by
 have kt:∀ b u,H b=some u→b≠T:=fun b u q z=>by
  rw [z,hT] at q
  cases q
 refine I.stepN (g':=s.gens) (d':=s.drawn) (t':=s.toks) (ch:=[T]) (fun b hb=>?_) (fun b o _ _ hc q _=>k b o (by simpa using hc) q) (fun b o _ hf hc q _=>⟨o.slots,k b o (by simpa using hc) q⟩) (fun b o _ _ n=>n)
  (fun b o hc q=>⟨o,k b o (by simpa using hc) q⟩) (fun _ _ q=>q) (fun _ _ _ q=>q) (fun b ps q=>⟨#[],by rw [q]; simp⟩) (fun m hm=>?_) (fun b u q=>?_) I.bare
 ·have z:b=T:=by simpa using hb
  subst z
  exact ⟨.inr a.old,a.loc,a.cel,a.pin⟩
 ·obtain ⟨o,es,ep,ho,r⟩:=hm
  exact ⟨o,es,ep,k _ o (Ne.symm a.loc) ho,r⟩
 ·refine (I.hok b u q).stay (fun c v hc z=>k c v ?_ z) (fun _ z=>z) fun _ _ z=>z
  rcases hc with rfl | hc
  ·exact kt c u q
  ·exact kt c _ hc
theorem catch_core {M:Model} {E0:Value→Shared→Prop} {E:XK} {ev:Value} {s':Shared} {Q:Shared→Prop} (hst:X.stack=X.env :: X.outer) (hfr:X.env.frame=some X.env.locals) (hex:X.ex=[]) (I:Inv X pins σ H s)
  (hc:CX1 X.prog X.w X.stack H s E ev s')
  (k:∀ e T cls dct H' s3,ev=.ref e→E cls dct H'→H' e=none→H' T=none→Apart X pins e→Apart X pins T→T ∉ X.fs→Inv X pins σ H' s3→Fly s3.heap e T cls dct→Q s3) :
  wpAny M X.A (noteFrame ev X.env) (fun _ s2=>wpAny M X.A (setFlight ev none) (fun _ s3=>Q s3) E0 s2) E0 s':=by
 obtain ⟨e,T0,cls,dct,H',rfl,os,bare,un,hok,F0,hne,hnT,hHe,hHT,q⟩:=hc
 have I':Inv X pins σ H' s':=I.call' (ch:=[]) os un hok bare fun b z=>absurd z (by simp)
 have ae:=I.apart hex hne
 have aT0:=I.apart hex hnT
 have hfr':X.A.frames=some (X.env :: X.outer):=by rw [I.ok.frames,hst]
 have hst':s'.heap.FunFrames X.base (X.env :: X.outer):=by have z:=I'.stack; rwa [hst] at z
 have nfs:∀ b,b≠X.env.locals→b ∉ X.fs→b ∉ frs (X.env :: X.outer):=fun b h1 h2 z=>by
  unfold frs at z
  rw [List.filterMap_cons,hfr] at z
  rcases AW.mp z with z | z
  ·exact h1 z
  ·exact h2 z
 refine note_next (base:=X.base) (L:=X.env.locals) hfr' hst' hfr F0 fun h1 T k1 k2 bT F1 k3=>?_
 refine flight_x (s:={ s' with heap:=h1 }) F1 fun h2 k4 F2=>?_
 have tn:∀ b o,s'.heap.get? b=some o→b≠T:=fun b o z=>AU (Aa (AK z) bT)
 have HT:H' T=none:=hok.fresh bT
 have aT:=I'.apart hex (Heap.get?_none_of_le bT)
 have tr:∀ b u,H' b=some u→b≠e∧b≠T0∧b ∉ frs (X.env :: X.outer):=fun b u z=>⟨(fun y=>absurd ((congrArg H' y).symm.trans z) (by rw [hHe]; simp)),(fun y=>absurd ((congrArg H' y).symm.trans z) (by rw [hHT]; simp)),fun y=>absurd ((I'.stkFree b (by rw [hst]; exact y)).symm.trans z) (by simp)⟩
 refine k e T cls dct H' { s' with heap:=h2 } rfl q hHe HT ae aT (I'.nofs bT) ?_ F2
 refine I'.stepN (g':=s'.gens) (d':=s'.drawn) (t':=s'.toks) (ch:=[e,T0]) (fun b hb=>?_) (fun b o hL hf hc z _=>k4 b o (tn b o z) (k1 b o (fun y=>hc (by simp [y])) (fun y=>hc (by simp [y])) (nfs b hL hf) z))
  (fun b o _ _ hc z _=>by
   obtain ⟨sl,z1⟩:=k2 b o (fun y=>hc (by simp [y])) (fun y=>hc (by simp [y])) z
   exact ⟨sl,k4 b _ (tn b o z) z1⟩) (fun _ _ _ _ n=>n)
  (fun b o _ z=>by
   obtain ⟨o1,z1⟩:=k3 b o z
   exact ⟨o1,k4 b _ (tn b o z) z1⟩) (fun _ _ z=>z) (fun _ _ _ z=>z) (fun b ps z=>⟨#[],by rw [z]; simp⟩) (fun m hm=>?_) (fun b u z=>?_) bare
 ·rcases AW.mp hb with z | hb
  ·subst z
   exact ⟨.inr ae.old,ae.loc,ae.cel,ae.pin⟩
  ·have z:b=T0:=by simpa using hb
   subst z
   exact ⟨.inr aT0.old,aT0.loc,aT0.cel,aT0.pin⟩
 ·obtain ⟨o,es,ep,ho,r⟩:=hm
  obtain ⟨sl,z1⟩:=k2 _ o (Ne.symm ae.loc) (Ne.symm aT0.loc) ho
  exact ⟨_,es,ep,k4 _ _ (tn _ o ho) z1,r⟩
 ·refine (I'.hok b u z).stay (fun c v hc y=>?_) (fun _ y=>y) fun _ _ y=>y
  have t3:c≠e∧c≠T0∧c ∉ frs (X.env :: X.outer):=by
   rcases hc with rfl | hc
   ·exact tr c u z
   ·exact tr c _ hc
  exact k4 c v (tn c v y) (k1 c v t3.1 t3.2.1 t3.2.2 y)
theorem suite_as {Cc e T:Addr} {cls:Value} {dct:Option Addr} {s3:Shared} {D:Ends} {cx n:Str} {np hpos:Pos} {i:Nat} {b₀:Stmt} {suite:List Stmt} {rest:List ExceptHandler} {ts:TS} (cc:CatchC X.K X.mg cx Cc) (hg:Gl X cx)
  (hN:X.N.Nodup) (hi:X.N[i]?=some n) (hk:X.env.scope.names.lookup n=some .local) (hs:PSs (X.sup e) (b₀ :: suite) ts) (hm:∃ C,cls=.ref C∧PySem.W.mroIn X.K C (.ref Cc)=some true)
  (hH:H e=none) (hT:H T=none) (ae:Apart X pins e) (aT:Apart X pins T) (nT:T ∉ X.fs) (I:Inv X pins σ H s3) (F:Fly s3.heap e T cls dct)
  (h:ts { nx:=fun σ' H'=>D.nx (σ'.set i none) H',rt:=D.rt,bk:=fun σ' H'=>D.bk (σ'.set i none) H',ct:=fun σ' H'=>D.ct (σ'.set i none) H' } (σ.set i (some (.ref e))) (upd H e (ExcC e cls dct))) (hd:(cx == ("__debug__":Str))=false:=by decide) :
  wpAny (model X.prog X.w) X.A (handleBy (.ref e) X.env (.ExceptHandler (some (.Name cx np)) (some n) (b₀ :: suite) hpos :: rest)) (SP X pins D) X.xe s3:=by
 obtain ⟨C,rfl,hmro⟩:=hm
 obtain ⟨oe,vs,oT,ts',he,hcl,hdx,hdt,h1,ne,hoT,hdT,h3⟩:=id F
 have Is:=I.sup e
 refine wpAny_handleBy_cons (codeAny_handlers_test (ld_glob (X:=X.sup e) Is hg cc.bound ?_ hd)) (by intro q; cases q)
 refine excm_K I.kIn hmro cc he hcl ?_
 refine codeAny_handlers_suite_as (flight_x F fun h' k' F'=>?_)
 have I1:Inv X pins σ H { s3 with heap:=h' }:=I.recd aT hT nT k'
 obtain ⟨oe',vs',oT',tsx,he',hcl',hdx',hdt',_⟩:=id F'
 have I2:Inv X pins σ (upd H e (ExcC e (.ref C) dct)) { s3 with heap:=h' }:=I1.track ae hH ⟨oe',he'⟩ ⟨oe',vs',he',hcl',hdx',hdt'⟩ fun g1 g2 ⟨a,b,c,d⟩ z=>⟨a,b,z a c,d⟩
 refine store_ok (X:=X.sup e) (I2.sup e) hN hi (.inl hk) (v:=.ref e) rfl (fun s4 I4=>?_) (.inr hk)
 refine wpAny_mono (hs pins s4 _ _ _ I4 h) (fun f s5 q=>?_) fun _ _ z=>False.elim z
 have go:∀ {σ5:St} {H5:Hp} {f:Flow},Inv (X.sup e) pins σ5 H5 s5→(∀ s6,Inv X pins (σ5.set i none) H5 s6→SP X pins D f s6)→wpAny (model X.prog X.w) X.A (do bindName X.env n .none; unbindBehindTheSuite X.env n hpos) (fun _ s6=>SP X pins D f s6) X.xe s5 :=
  fun I5 k5=>gone_ok (I5.unsup I.ok) hN hi hk fun s6 I6=>k5 s6 I6
 cases f with
 | next=>obtain ⟨σ5,H5,I5,q5⟩:=q; exact go I5 fun s6 I6=>⟨_,H5,I6,q5⟩
 | brk=>obtain ⟨σ5,H5,I5,q5⟩:=q; exact go I5 fun s6 I6=>⟨_,H5,I6,q5⟩
 | cont=>obtain ⟨σ5,H5,I5,q5⟩:=q; exact go I5 fun s6 I6=>⟨_,H5,I6,q5⟩
 | ret u=>obtain ⟨v5,σ5,H5,I5,r5,q5⟩:=q; exact go I5 fun s6 I6=>⟨v5,_,H5,I6,r5,q5⟩
end
def PX (X:Cx) (e:Expr) (te:XK→TE):Prop :=
 ∀ (pins:List (Addr×Obj)) (s:Shared) (σ:St) (H:Hp) (Q:VK) (E:XK) (W:Value→Shared→Prop),Inv X pins σ H s→te E σ H Q →
  (∀ s1 H1 ev s',Inv X pins σ H1 s1→CX1 X.prog X.w X.stack H1 s1 E ev s'→W ev s')→wpAny (model X.prog X.w) X.A (eval e X.env) (EP X pins σ Q) W s
section
variable {X:Cx} {k:Nat} {f C:Addr} {fd:FuncData} {ps:List Str} {sp:Sp} {dvs:List V} {ds:List Value} {x m:Str} {p pos apos epos cpos:Pos} {e o:Expr} {es:List Expr} {ta:TE} {t:TA}
theorem run_fnW {W:Value→Shared→Prop} {E:XK} {pins:List (Addr×Obj)} {σ:St} {H:Hp} {s:Shared} {Q:VK} {us:List Value} {vs:List V} (F:FnOk X.prog X.w X.K X.mg X.base (CX1 X.prog X.w) k f fd ps sp) (hr:Room k X.A) (hb:Binds X.K fd ps ds) (hd:Vals dvs ds)
  (I:Inv X pins σ H s) (r:Vals vs us) (h:sp (vs++dvs) H Q E) (hx:∀ ev s',CX1 X.prog X.w X.stack H s E ev s'→W ev s'):wpAny (model X.prog X.w) X.A (call (.ref f) us) (EP X pins σ Q) W s:=by
 have r2:Vals (vs++dvs) (us++ds):=r.append hd
 have hl:(us++ds).length=ps.length:=by rw [← r2.length]; exact F.len _ _ _ _ h
 refine wpAny_call (codeAny_mono (F.run X.A X.stack s H ⟨us,[]⟩ (us++ds) (vs++dvs) Q E hr I.env0 (hb s us I.kIn hl) r2 h) fun r s' hq=>?_)
 cases r with
 | error ev=>exact hx ev s' hq
 | ok fl =>
  cases fl with
  | ret u=>exact I.after hq
  | next=>exact False.elim hq
  | brk=>exact False.elim hq
  | cont=>exact False.elim hq
variable {te:XK→TE} {cx n:Str} {np hpos tpos:Pos} {i:Nat} {b₀:Stmt} {suite:List Stmt} {ts:TS} {Cc:Addr} {call:Expr}
def tTryAs (K:PySem.W.Frag) (Cc:Addr) (i:Nat) (te:XK→TE) (ts:TS):TS:=fun D σ H=>te (fun cls dct H'=>(∃ C,cls=.ref C∧PySem.W.mroIn K C (.ref Cc)=some true)∧∀ e,H' e=none →
  ts { nx:=fun σ' H'=>D.nx (σ'.set i none) H',rt:=D.rt,bk:=fun σ' H'=>D.bk (σ'.set i none) H',ct:=fun σ' H'=>D.ct (σ'.set i none) H' } (σ.set i (some (.ref e))) (upd H' e (ExcC e cls dct))) σ H fun _ H1=>D.nx σ H1
theorem body_one {W:Value→Shared→Prop} {Q:Flow→Shared→Prop} {s:Shared} {pins:List (Addr×Obj)} {σ:St} {Q':VK} (hq:X.env.scope.kind=.function) (h:wpAny (model X.prog X.w) X.A (eval call X.env) (EP X pins σ Q') W s) (k:∀ s' v H',Inv X pins σ H' s'→Q' v H'→Q .next s')
  (hs:swapsWith call none epos.line X.env=pure false:=by rfl):wpAny (model X.prog X.w) X.A (execs [.Expr call epos] X.env) Q W s:=by
 refine wpAny_execs_cons (wpAny_Expr_any (thn h fun v s1 ⟨x,H1,I1,r1,q1⟩=>?_) (by simp [interactive,hq]) hs)
 exact wpAny_execs_nil (k s1 x H1 I1 q1)
theorem ps_tryAs (hst:X.stack=X.env :: X.outer) (hfr:X.env.frame=some X.env.locals) (hex:X.ex=[]) (hc:PX X call te) (cc:CatchC X.K X.mg cx Cc) (hg:Gl X cx)
  (hN:X.N.Nodup) (hi:X.N[i]?=some n) (hk:X.env.scope.names.lookup n=some .local) (hs:∀ e,PSs (X.sup e) (b₀ :: suite) ts) (hd:(cx == ("__debug__":Str))=false:=by decide)
  (hsw:swapsWith call none epos.line X.env=pure false:=by rfl) :
  PS X (.Try [.Expr call epos] [.ExceptHandler (some (.Name cx np)) (some n) (b₀ :: suite) hpos] [] [] tpos) (tTryAs X.K Cc i te ts):=by
 intro pins s σ H D I h
 refine wpAny_Try_except (body_one I.ok.kind (hc pins s σ H _ _ _ I h fun s1 H1 ev s' I1 z=>?_) (fun s' v H' I' q=>?_) hsw)
 ·refine catch_core hst hfr hex I1 z fun e T cls dct H' s3 ee q hHe hHT ae aT nT I3 F3=>?_
  subst ee
  exact suite_as cc hg hN hi hk (hs e) q.1 hHe hHT ae aT nT I3 F3 (q.2 e hHe) hd
 ·exact wpAny_execs_nil ⟨σ,H',I',q⟩
end
section
variable {P:Program} {w:World} {K:PySem.W.Frag} {mg:Str→Option Value} {base:Heap}
theorem Fun.ok1 {x qual:Str} {st:Stmt} {f:Addr} {fd:FuncData} {N ps:List Str} {k:Nat} {sp:Sp} (F:Fun K x qual st f fd) (S:FnScope N ps (defScope st)) (len:∀ vs H Q E,sp vs H Q E→vs.length=ps.length)
  (hbody:∀ (cdv:Value) (A:Around) (outer:List Env) (s:Shared) (H:Hp) (vs:List V) (Q:VK) (E:XK),Room k (A.deeper (envOfC qual (defScope st) s.heap.objs.size f cdv))→sp vs H Q E →
   ∃ t,PSs (cx1 P w K mg base N qual (defScope st) f cdv A outer s H E) (defBody st) t∧t { nx:=fun _ H'=>Q .non H',rt:=Q } (start N vs) H):FnOk P w K mg base (CX1 P w) (k + 1) f fd ps sp:=by
 obtain ⟨oc,od,kV,doc,pm,an,cdv,ct,osl,rfl,lk,hcd⟩:=F.ex
 exact fn_of lk hcd S len fun A outer s H vs Q E hr hsp=>hbody cdv A outer s H vs Q E hr hsp
end
open Builtin Builtin.ObjectAttr
abbrev bmE:List Value:=[.type "Exception",.type "BaseException",.type "object"]
section
variable {prog:Program} {w:World} {A:Around} {E:Value→Shared→Prop} {h:Heap} {g:Array GenState} {d:Drawn} {t:Nat} {os:OsState}
variable {nm q:Str} {C N x:Addr} {bs:List Value} {sn:List Str} {sub:List Value} {ab:Bool} {col:Option Bool} {dd:Option Addr} {k0 k1 k2 k3 k5:Option Value} {newId:String}
 {mN mA:Str→Option Value} {name:Str} {v:Value}
theorem chk_exc {M:Model} {o:Obj} {nameV:Value} {Q:Unit→Shared→Prop} (hC:h.get? C=some (excClassObj nm q C N bs bmE true sn sub ab col dd k0 k1 k2 k3 k5 newId)) (hx:h.get? x=some o) (hc:o.cls=.ref C)
  (hq:Q () ⟨h,g,d,t,os⟩):wpAny M A (checkBuiltinCall "BaseException.__getattribute__" ⟨[.ref x,nameV],[]⟩) Q E ⟨h,g,d,t,os⟩:=by
 have b1:builtinKind "BaseException.__getattribute__"=some .slot:=by decide +kernel
 have b2:splitId "BaseException.__getattribute__"=some ("BaseException","__getattribute__"):=by decide +kernel
 have b3:(Ac C :: bmE).contains (.type "BaseException")=true:=by rw [List.contains_cons,show bmE.contains (.type "BaseException")=true by decide,Bool.or_true]
 have b4:=F.args_bexc_ga (.ref x) nameV
 simp only [checkBuiltinCall,b1,b2]
 refine AC ?_
 unfold isInstance
 repeat (first | (with_reducible refine BC hx ?_; rw [hc]) | (with_reducible refine wpAny_isSubtype_exc hC ?_; rw [b3]) | wp_step)
 exact hq
theorem ent_exc {tk:Tok} {Q:PySem.Fin→Shared→Prop} (hC:h.get? C=some (excClassObj nm q C N bs bmE true sn sub ab col dd k0 k1 k2 k3 k5 newId)) (hn:h.Ns N mN) (hna:mN name=none)
  (hB:typeLookup (.type "Exception") name=pure none) (I:h.Inst x C mA) (hv:mA name=some v) (hq:Q (.done (.ret v)) ⟨h,g,d,t,os⟩) :
  wpAny (model prog w) A (Builtin.«object.__getattribute__» ⟨[.ref x,.str name tk],[]⟩) Q E ⟨h,g,d,t,os⟩:=by
 obtain ⟨o,hx,hc,hnc,hd⟩:=I
 rcases hd with ⟨_,hmA⟩ | ⟨dx,hdx,hne,hns⟩
 ·rw [hmA name] at hv
  cases hv
 unfold Builtin.«object.__getattribute__»
 repeat (first | (with_reducible refine BC hx ?_; rw [hc]) | (with_reducible refine wpAny_typeLookup_exc hC hn F.attrBase_Exception.mro hB ?_; rw [hna]) | wp_step)
 split
 ·rename_i c hcd
  exact absurd hcd (hnc c)
 unfold instanceDict
 repeat (first | (with_reducible refine BC hx ?_; rw [hc]) | with_reducible refine BC hC ?_ | wp_step)
 rw [hdx]
 repeat (first | (with_reducible refine wpAny_nsGet hns.ns ?_; rw [hv]) | wp_step)
 exact hq
theorem load_exc {expr:Bool} {Q:Value→Shared→Prop} (hC:h.get? C=some (excClassObj nm q C N bs bmE true sn sub ab col dd k0 k1 k2 k3 k5 newId)) (hn:h.Ns N mN) (hng:mN "__getattribute__"=none) (hnh:mN "__getattr__"=none) (hna:mN name=none)
  (hB:typeLookup (.type "Exception") name=pure none) (I:h.Inst x C mA) (hv:mA name=some v) (hh:handedOut v=pure v) (hq:Q v ⟨h,g,d,t + 1,os⟩):wpAny (model prog w) A (getAttr (.ref x) name expr) Q E ⟨h,g,d,t,os⟩:=by
 obtain ⟨o,hx,hc,_⟩:=id I
 have FB:=F.attrBase_Exception
 have f3:=FB.ga.bind (.ref x)
 have x0:(expr && onTheHeap (Value.builtin "BaseException.__getattribute__"))=false:=by cases expr <;> rfl
 have x2:(Value.builtin "BaseException.__getattribute__" == Value.builtin "object.__getattribute__")=false:=by decide +kernel
 have x1:(onTheHeap (Ac C) && Value.builtin "BaseException.__getattribute__" == Value.builtin "object.__getattribute__")=false:=by rw [x2]; rfl
 unfold getAttr getAttrBy
 repeat (any_goals (first | assumption | (with_reducible refine BC hx ?_; rw [hc]) | (with_reducible refine wpAny_typeLookup_exc hC hn FB.mro FB.ga.lookup ?_; rw [hng]) | (with_reducible refine wpAny_typeLookup_exc hC hn FB.mro FB.noGetattr ?_; rw [hnh]) | wp_step))
 refine codeAny_call_builtin FB.ga.plain F.entry_bexc_ga (chk_exc hC hx hc (ent_exc hC hn hna hB I hv ?_))
 show wpAny _ _ (handedOut v) _ _ _
 rw [hh]
 exact AM hq
end
open Builtin Builtin.ObjectAttr
section
variable {prog:Program} {w:World} {A:Around} {E:Value→Shared→Prop} {h:Heap} {g:Array GenState} {d:Drawn} {t:Nat} {os:OsState}
variable {nm q:Str} {C N x:Addr} {bs:List Value} {sn:List Str} {sub:List Value} {ab:Bool} {col:Option Bool} {dd:Option Addr} {k0 k1 k2 k3 k5:Option Value} {newId:String}
 {mN mA:Str→Option Value} {name:Str} {v:Value}
theorem sav_dict {tk:Tok} {o:Obj} {vs:Array Value} {b:Bool} {Q:PySem.Fin→Shared→Prop} (hC:h.get? C=some (excClassObj nm q C N bs bmE true sn sub ab col dd k0 k1 k2 k3 k5 newId)) (hx:h.get? x=some o) (hc:o.cls=.ref C) (hdn:o.dict=none) (hdt:o.data=.fields vs)
  (hq:∀ h' tk,h'.get? x=some { o with dict:=some h.objs.size }→h'.Ns1 h.objs.size (fun y=>if y=name then some v else none)→(∀ b ob,b≠x→h.get? b=some ob→h'.get? b=some ob)→Q (.done (.ret .none)) ⟨h',g,d,tk,os⟩) :
  wpAny (model prog w) A (storeInOwnDict (.ref x) (.ref C) (.str name tk) name v b) Q E ⟨h,g,d,t,os⟩:=by
 unfold storeInOwnDict ownStreamTells ownDictForStores instanceDict
 repeat (first | (with_reducible refine BC hx ?_; rw [hc]) | with_reducible refine BC hC ?_ | wp_step)
 rw [hdn,if_neg (by simp [typeHasDict]),hdt]
 have x1:(h.push { cls:=.type "dict",data:=.dict #[] }).get? x=some o:=AH _ hx
 have xs:x≠h.objs.size:=AU (AK hx)
 refine AC (wpAny_alloc' (AC (wpAny_update' x1 (AM ?_))))
 generalize hu:((h.push { cls:=.type "dict",data:=.dict #[] }).update x fun o=>{ cls:=o.cls,dict:=some h.objs.size,data:=o.data,slots:=o.slots })=hh
 have g1:hh.get? h.objs.size=some { cls:=.type "dict",data:=.dict #[] }:=by
  rw [← hu]
  exact (Heap.get?_update_ne _ _ _ _ xs.symm).trans (Heap.get?_push_at rfl rfl)
 have g2:hh.get? x=some { o with dict:=some h.objs.size }:=by
  rw [← hu]
  refine Heap.get?_update_self _ x1 ?_
  obtain ⟨oc,od,odt,osl⟩:=o
  cases hdt
  rfl
 have nd:hh.Ns h.objs.size (fun _=>none):=⟨_,#[],_,g1,rfl,fun e he=>absurd he (by simp),fun _=>rfl⟩
 show wpAny _ _ (storeInDict h.objs.size (.str name tk) name v) _ _ _
 unfold storeInDict newKeyGuard
 refine AC (AM (AC (wpAny_nsSet1 (Heap.Ns1.of_empty nd) fun h' hn' hs=>?_)))
 obtain ⟨oD,esD,epD,hoD,hdD,hcD⟩:=hn'.count (Within.cons name v Within.nil)
 refine AC (wpAny_lookBehind hoD (by rw [hdD]; exact pastItsLine_dict (Ag hcD (by rw [AO,List.length_nil,sizeLine_eq]; lia))) ?_)
 wp_walk
 refine hq h' _ ((hs.2 x xs).trans g2) hn' fun b ob hb z=>(hs.2 b (AU (AK z))).trans ?_
 show hh.get? b=some ob
 rw [← hu]
 exact (Heap.get?_update_ne _ _ _ _ hb).trans (AH _ z)
theorem sav_entry {tk:Tok} {o:Obj} {vs:Array Value} {Q:PySem.Fin→Shared→Prop} (hC:h.get? C=some (excClassObj nm q C N bs bmE true sn sub ab col dd k0 k1 k2 k3 k5 newId)) (hn:h.Ns N mN) (hna:mN name=none)
  (hB:typeLookup (.type "Exception") name=pure none) (hx:h.get? x=some o) (hc:o.cls=.ref C) (hdn:o.dict=none) (hdt:o.data=.fields vs)
  (hq:∀ h' tk,h'.get? x=some { o with dict:=some h.objs.size }→h'.Ns1 h.objs.size (fun y=>if y=name then some v else none)→(∀ b ob,b≠x→h.get? b=some ob→h'.get? b=some ob)→Q (.done (.ret .none)) ⟨h',g,d,tk,os⟩) :
  wpAny (model prog w) A (Builtin.«object.__setattr__» ⟨[.ref x,.str name tk,v],[]⟩) Q E ⟨h,g,d,t,os⟩:=by
 rw [PySem.W.osa_eq,refuse_eq]
 have hT:∀ {Q:Value→Shared→Prop},Q (.ref C) ⟨h,g,d,t,os⟩→wpAny (model prog w) A (typeOf (.ref x)) Q E ⟨h,g,d,t,os⟩:=fun {Q} z=>by
  unfold typeOf
  repeat (first | (with_reducible refine BC hx ?_; rw [hc]) | wp_step)
  exact z
 refine AC (AC (hT (AC (wpAny_mroOf_exc hC ?_))))
 rw [refuseLoop_ref,F.store_Exception.passes (.ref x)]
 refine AM (AC (hT (AC (wpAny_typeLookup_exc hC hn F.store_Exception.mro hB ?_))))
 rw [hna]
 refine AC (AM ?_)
 exact sav_dict hC hx hc hdn hdt hq
theorem store_E:StoreFacts "Exception" bmE "object.__setattr__" "object":=F.store_Exception
theorem sav_chk {tk:Tok} {o:Obj} {Q:Unit→Shared→Prop} (hC:h.get? C=some (excClassObj nm q C N bs bmE true sn sub ab col dd k0 k1 k2 k3 k5 newId)) (hx:h.get? x=some o) (hc:o.cls=.ref C) (hq:Q () ⟨h,g,d,t,os⟩) :
  wpAny (model prog w) A (checkBuiltinCall "object.__setattr__" ⟨[.ref x,.str name tk,v],[]⟩) Q E ⟨h,g,d,t,os⟩ :=
 @wpAny_check_sa A E h g d t os nm q C N x bs bmE sn sub ab col dd k0 k1 k2 k3 k5 "Exception" newId "object.__setattr__" "object" v (model prog w) o (.str name tk) Q store_E hC hx hc hq
theorem sav_call {tk:Tok} {o:Obj} {vs:Array Value} {R:Result→Shared→Prop} (hC:h.get? C=some (excClassObj nm q C N bs bmE true sn sub ab col dd k0 k1 k2 k3 k5 newId)) (hn:h.Ns N mN) (hna:mN name=none)
  (hB:typeLookup (.type "Exception") name=pure none) (hx:h.get? x=some o) (hc:o.cls=.ref C) (hdn:o.dict=none) (hdt:o.data=.fields vs)
  (hq:∀ h' tk,h'.get? x=some { o with dict:=some h.objs.size }→h'.Ns1 h.objs.size (fun y=>if y=name then some v else none)→(∀ b ob,b≠x→h.get? b=some ob→h'.get? b=some ob)→R (.ok (.ret .none)) ⟨h',g,d,tk,os⟩) :
  codeAny (model prog w) A (.call (.builtin "object.__setattr__") ⟨[.ref x,.str name tk,v],[]⟩) R ⟨h,g,d,t,os⟩:=by
 refine codeAny_call_builtin store_E.slot.plain store_E.entry ?_
 exact sav_chk hC hx hc (sav_entry (vs:=vs) hC hn hna hB hx hc hdn hdt hq)
theorem sav_exc {o:Obj} {vs:Array Value} {Q:Unit→Shared→Prop} (hC:h.get? C=some (excClassObj nm q C N bs bmE true sn sub ab col dd k0 k1 k2 k3 k5 newId)) (hn:h.Ns N mN) (hns:mN "__setattr__"=none) (hna:mN name=none)
  (hB:typeLookup (.type "Exception") name=pure none) (hx:h.get? x=some o) (hc:o.cls=.ref C) (hdn:o.dict=none) (hdt:o.data=.fields vs)
  (hq:∀ h' tk,h'.get? x=some { o with dict:=some h.objs.size }→h'.Ns1 h.objs.size (fun y=>if y=name then some v else none)→(∀ b ob,b≠x→h.get? b=some ob→h'.get? b=some ob)→Q () ⟨h',g,d,tk,os⟩) :
  wpAny (model prog w) A (setAttr (.ref x) name v) Q E ⟨h,g,d,t,os⟩:=by
 have SF:=F.store_Exception
 have f3:=SF.slot.bind (.ref x)
 unfold setAttr callSpecial? specialOf
 repeat (any_goals (first | assumption | (with_reducible refine BC hx ?_; rw [hc]) | (with_reducible refine wpAny_typeLookup_exc hC hn SF.mro SF.slot.lookup ?_; rw [hns]) | wp_step))
 refine sav_call hC hn hna hB hx hc hdn hdt fun h' tk a b c=>?_
 repeat (any_goals (first | assumption | wp_step))
 exact hq h' tk a b c
end
section
variable {prog:Program} {w:World} {A:Around} {R:Result→Shared→Prop} {s:Shared}
theorem comp_loop {elt target iter:Expr} {ifs:List Expr} {scope:Scope} {pos:Pos} {it acc:Value} {env:Env} (I:Nat→Shared→Prop)
  (turn:∀ n s,I n s→wpAny (model prog w) A (pyNext it) (fun r s1=>match r with
   | none=>R (.ok .next) s1
   | some v=>wpAny (model prog w) A (letOwnedTupleGo target it v) (fun _ s1'=>wpAny (model prog w) A (assign target env v) (fun _ s2 =>
     wpAny (model prog w) A (forIn ifs true fun c r=>if r=true then do let ok ← isTrue c env (eval c env); pure (ForInStep.yield ok) else pure (ForInStep.yield r)) (fun ok s3 =>
      if ok=true then wpAny (model prog w) A (eval elt env) (fun x s4 =>
       wpAny (model prog w) A (call (.builtin "list.append") [acc,x]) (fun _ s5=>∃ m,m < n∧I m s5) (notedBy (model prog w) A env fun e s'=>R (.error e) s') s4) (notedBy (model prog w) A env fun e s'=>R (.error e) s') s3
      else ∃ m,m < n∧I m s3) (notedBy (model prog w) A env fun e s'=>R (.error e) s') s2) (notedBy (model prog w) A env fun e s'=>R (.error e) s') s1') (notedBy (model prog w) A env fun e s'=>R (.error e) s') s1) (notedBy (model prog w) A env fun e s'=>R (.error e) s') s)
  (n:Nat) (h:I n s):codeAny (model prog w) A (.compLoop (.ListComp elt [⟨target,iter,ifs,0⟩] scope pos) 0 it acc env) R s:=by
 refine codeAny_loop rfl I (fun n s hI=>?_) n h
 show wpAny _ A ((compTurn (.ListComp elt [⟨target,iter,ifs,0⟩] scope pos) 0 it acc env).onRaise (fun x=>do noteFrame x env; theTreesLotGoes x)) _ _ s
 refine wpAny_noted ?_
 rw [compTurn_list]
 refine AC (wpAny_standAt (AC (thn (turn n s hI) fun r s1 h1=>?_)))
 cases r with
 | none=>exact AM h1
 | some v =>
  refine AC (thn h1 fun _ s1' h1'=>AC (thn h1' fun _ s2 h2=>AC (thn h2 fun ok s3 h3=>?_)))
  cases ok with
  | false=>exact AM ⟨rfl,h3⟩
  | true=>exact AC (AC (thn h3 fun x s4 h4=>AC (thn h4 fun _ s5 h5=>AM (AM ⟨rfl,h5⟩))))
end
def PIfs (X:Cx) (ifs:List Expr) (t:TT):Prop :=
 ∀ (pins:List (Addr×Obj)) (s:Shared) (σ:St) (H:Hp) (Q:Bool→Hp→Prop),Inv X pins σ H s→t σ H Q →
  wpAny (model X.prog X.w) X.A (forIn ifs true fun c r=>if r=true then do let ok ← isTrue c X.env (eval c X.env); pure (ForInStep.yield ok) else pure (ForInStep.yield r)) (TP X pins σ Q) X.xe s
def tNoIf:TT:=fun _ H Q=>Q true H
theorem pifs_nil {X:Cx}:PIfs X [] tNoIf:=by
 intro pins s σ H Q I h
 exact AM ⟨H,I,h⟩
theorem pifs_one {X:Cx} {c:Expr} {t:TT} (hc:PT X c t):PIfs X [c] t:=by
 intro pins s σ H Q I h
 show wpAny _ _ (forIn [c] true _) _ _ _
 rw [List.forIn_cons]
 refine AC ?_
 rw [if_pos rfl]
 refine AC (thn (hc pins s σ H Q I h) fun b s1 q=>AM ?_)
 exact AM q
section
variable {X:Cx} {pins:List (Addr×Obj)} {σ:St} {H:Hp} {s:Shared}
theorem closure_go (env:Env):∀ (names:List (Str×NameKind)) (acc:List (Str×Addr)),(∀ y∈names,y.2=.free→∃ c,env.cells.lookup y.1=some c)→(∀ x c,acc.lookup x=some c→env.cells.lookup x=some c) →
  ∃ cl,(forIn names acc fun (x:Str×NameKind) (r:List (Str×Addr))=>(match x with | (name,kind)=>if (kind == NameKind.free)=true then do let a ← cellOf env name; pure (ForInStep.yield ((name,a) :: r)) else pure (ForInStep.yield r):Sem (ForInStep (List (Str×Addr)))))=pure cl ∧
   (∀ x c,cl.lookup x=some c→env.cells.lookup x=some c)∧(∀ x c,acc.lookup x=some c→∃ c',cl.lookup x=some c')∧∀ y∈names,y.2=.free→∃ c,cl.lookup y.1=some c:=by
 intro names
 induction names with
 | nil=>exact fun acc _ h2=>⟨acc,rfl,h2,fun x c e=>⟨c,e⟩,fun y hy=>by simp at hy⟩
 | cons p r ih =>
  intro acc h1 h2
  obtain ⟨n,k⟩:=p
  rw [List.forIn_cons]
  by_cases hk:k=.free
  ·subst hk
   obtain ⟨c,hc⟩:=h1 (n,.free) Ab rfl
   obtain ⟨cl,e1,e2,e3,e4⟩:=ih ((n,c) :: acc) (fun y hy=>h1 y (AR _ hy)) (fun x c' e=>by
    rw [List.lookup_cons] at e
    cases hx:x == n with
    | true =>
     rw [hx] at e
     have:x=n:=by simpa using hx
     subst this
     cases e
     exact hc
    | false =>
     rw [hx] at e
     exact h2 x c' e)
   refine ⟨cl,?_,e2,fun x c' e=>?_,fun y hy hf=>?_⟩
   ·have hcell:cellOf env n=pure c:=by simp only [cellOf,hc]
    simp only [beq_self_eq_true,if_true,hcell,pure_bind]
    exact e1
   ·cases hx:x == n with
    | true=>exact e3 x c (by rw [List.lookup_cons,hx])
    | false=>exact e3 x c' (by rw [List.lookup_cons,hx]; exact e)
   ·rcases AW.mp hy with rfl | hy
    ·exact e3 n c (by rw [List.lookup_cons]; simp)
    ·exact e4 y hy hf
  ·obtain ⟨cl,e1,e2,e3,e4⟩:=ih acc (fun y hy=>h1 y (AR _ hy)) h2
   refine ⟨cl,?_,e2,e3,fun y hy hf=>?_⟩
   ·have hb:(k == NameKind.free)=false:=by simpa using hk
    simp only [hb,Bool.false_eq_true,if_false,pure_bind]
    exact e1
   ·rcases AW.mp hy with rfl | hy
    ·exact absurd hf hk
    ·exact e4 y hy hf
theorem closure_of {env:Env} {scope:Scope} (h:∀ y∈scope.names,y.2=.free→∃ c,env.cells.lookup y.1=some c) :
  ∃ cl,closureFor scope env=pure cl∧(∀ x c,cl.lookup x=some c→env.cells.lookup x=some c)∧∀ y∈scope.names,y.2=.free→∃ c,cl.lookup y.1=some c:=by
 obtain ⟨cl,e1,e2,_,e4⟩:=closure_go env scope.names [] h (fun x c e=>by simp at e)
 refine ⟨cl,?_,e2,e4⟩
 unfold closureFor
 show (forIn scope.names [] _ >>= fun r=>pure r)=pure cl
 rw [show ∀ m:Sem (List (Str×Addr)),(m >>= fun r=>pure r)=m from fun m=>bind_pure m]
 exact e1
end
def Cx.blk (X:Cx) (scope:Scope) (N:List Str) (cl:List (Str×Addr)) (C:Addr) (s:Shared) (H:Hp) (fp:List Addr) (pins:List (Addr×Obj)):Cx where
 prog:=X.prog
 w:=X.w
 K:=X.K
 mg:=X.mg
 base:=X.base
 A:=X.A
 N:=N
 s₀:=s
 H₀:=H
 env:=compEnvC scope cl C X.env
 outer:=X.stack
 stack:=X.stack
 ex:=fp
 fn:=fun _=>false
 calm:=X.calm
 pn:=X.pn++pins
 xe:=fun _ _=>False
def capsOf (k:Nat) (is:List Nat) (σ:St):St:=A3 k none++is.map fun i=>(σ[i]?).join
theorem lookup_relabel {env:Env}:∀ {names:List (Str×NameKind)} {x:Str} {k:NameKind},
  (names.map fun (n,k)=>if (k == NameKind.free && env.scope.kind == .function && env.kindOf n == some .cell) then (n,NameKind.cell) else (n,k)).lookup x=some k→∃ k0,(x,k0)∈names∧(k0=k∨k0=.free):=by
 intro names
 induction names with
 | nil=>intro x k h; simp at h
 | cons p r ih =>
  obtain ⟨n,k0⟩:=p
  intro x k h
  rw [Az] at h
  have st:∃ k1,(if (k0 == NameKind.free && env.scope.kind == .function && env.kindOf n == some .cell)=true then (n,NameKind.cell) else (n,k0))=(n,k1)∧(k1=k0∨k0=.free):=by
   split
   ·rename_i hc
    refine ⟨_,rfl,.inr ?_⟩
    simp only [Bool.and_eq_true,beq_iff_eq] at hc
    exact hc.1.1
   ·exact ⟨_,rfl,.inl rfl⟩
  obtain ⟨k1,e1,e2⟩:=st
  simp only at h
  rw [e1,List.lookup_cons] at h
  cases hx:x == n with
  | true =>
   rw [hx] at h
   have:x=n:=by simpa using hx
   subst this
   cases h
   refine ⟨k0,Ab,?_⟩
   rcases e2 with e2 | e2
   ·exact .inl e2.symm
   ·exact .inr e2
  | false =>
   rw [hx] at h
   obtain ⟨k2,m,z⟩:=ih h
   exact ⟨k2,AR _ m,z⟩
structure BlkScope (X:Cx) (scope:Scope) (own capn:List Str) (capI:List Nat):Prop where
 kind:scope.kind=.function
 cell:∀ y∈scope.names,y.2≠.cell
 names:∀ y∈scope.names,y.2=.local→scope.names.lookup y.1=some .local
 free:∀ y∈scope.names,y.2=.free→X.env.scope.names.lookup y.1=some .cell
 caps:capI.map (fun i=>X.N[i]?)=capn.map some
 capc:∀ y∈capn,X.env.scope.names.lookup y=some .cell∧(relabel scope X.env).names.lookup y=some .cell
section
variable {X:Cx} {pins:List (Addr×Obj)} {σ:St} {H:Hp} {s:Shared}
theorem blk_start {scope:Scope} {own capn:List Str} {capI:List Nat} {cl:List (Str×Addr)} {fp:List Addr} {h':Heap} {t':Nat} (B:BlkScope X scope own capn capI) (I:Inv X pins σ H s) (hf:∀ b∈fp,FpOk X pins H b) (ho:∀ b∈fp,∃ o,s.heap.get? b=some o)
  (hcl:∀ x c,cl.lookup x=some c→X.env.cells.lookup x=some c) (hcf:∀ y∈scope.names,y.2=.free→∃ c,cl.lookup y.1=some c)
  (hn:h'.Ns s.heap.objs.size (fun _=>none)) (hk:∀ b o,s.heap.get? b=some o→h'.get? b=some o) :
  Inv (X.blk scope (own++capn) cl s.heap.objs.size s H fp pins) [] (capsOf own.length capI σ) H { s with heap:=h',toks:=t' }:=by
 have lt:∀ b o,s.heap.get? b=some o→b≠s.heap.objs.size:=fun b o e=>AU (AK e)
 have hkind:∀ x,((relabel scope X.env).names.lookup x=some .cell∨(relabel scope X.env).names.lookup x=some .free)→∃ c,cl.lookup x=some c:=fun x hx=>by
  have z:∃ k,(k=.cell∨k=.free)∧(relabel scope X.env).names.lookup x=some k:=by
   rcases hx with hx | hx
   ·exact ⟨_,.inl rfl,hx⟩
   ·exact ⟨_,.inr rfl,hx⟩
  obtain ⟨k,hk,hx⟩:=z
  obtain ⟨k0,m,z⟩:=lookup_relabel (env:=X.env) hx
  have:k0=.free:=by
   rcases z with z | z
   ·rcases hk with hk | hk
    ·exact absurd (z.trans hk) (B.cell _ m)
    ·exact z.trans hk
   ·exact z
  exact hcf _ m this
 have nfs:∀ b,b≠X.env.locals→b ∉ X.fs→b ∉ frs X.stack:=fun b h1 h2 z=>by
  rcases AW.mp (I.stkSub b z) with z | z
  ·exact h1 z
  ·exact h2 z
 have cellAt:∀ x c,cl.lookup x=some c→∃ v o,s.heap.get? c=some o∧o.data=.cell v:=fun x c e=>by
  obtain ⟨v,o,ho,hd⟩:=I.cell x c (hcl x c e)
  exact ⟨v,o,ho,hd⟩
 have ok:(X.blk scope (own++capn) cl s.heap.objs.size s H fp pins).Ok:=by
  refine ⟨I.ok.mod,B.kind,I.ok.glob,I.ok.blt,AD _,fun x y c e1 e2=>I.ok.inj x y c (hcl x c e1) (hcl y c e2),fun x hx=>hkind x hx,(fun x c e=>absurd (show false=true from e) (by decide)),I.ok.hd,I.ok.frames,.inl rfl,fun b hb=>?_,I.bs,Ag I.ok.bsz I.sz,fun b o e hb=>?_,fun b hb=>?_,I.stack,fun b hb=>I.stkFree b hb⟩
  ·obtain ⟨o,e⟩:=ho b hb
   exact ⟨lt b o e,fun x c ec=>(hf b hb).2.2.2.2.1 x c (hcl x c ec)⟩
  ·rcases (hf b hb).2.2.2.1 with z | z
   ·exact I.ok.noex b o e z
   ·exact absurd (Aa (AK (I.ok.bs b o e).1) z) (Nat.lt_irrefl _)
  ·exact nfs b (hf b hb).2.1 (hf b hb).2.2.1
 refine ⟨ok,rfl,I.bare,Un.kept hk,⟨_,hn,fun i x v e1 e2 e3=>?_⟩,fun x c e=>?_,I.hok.fresh (AD _),fun x c e=>I.freeC x c (hcl x c e),fun p hp=>?_,I.hok.kept hk,?_⟩
 ·unfold capsOf at e2
  have hi:own.length≤i:=by
   by_cases h:own.length≤i
   ·exact h
   ·rw [List.getElem?_append_left (by simpa using h),List.getElem?_replicate] at e2
    split at e2 <;> cases e2
  rw [List.getElem?_append_right (by simpa using hi),List.length_replicate,AF] at e2
  have e1':(own++capn)[i]?=some x:=e1
  rw [List.getElem?_append_right hi] at e1'
  cases hc:capI[i - own.length]? with
  | none=>rw [hc] at e2; cases e2
  | some j =>
   rw [hc] at e2
   have e4:(σ[j]?).join=some v:=by simpa using e2
   have e5:σ[j]?=some (some v):=by
    cases q:σ[j]? with
    | none=>rw [q] at e4; cases e4
    | some o=>rw [q] at e4; cases o with | none=>cases e4 | some v'=>cases e4; rfl
   have e6:X.N[j]?=some x:=by
    have z:=congrArg (fun l=>l[i - own.length]?) B.caps
    simp only [AF,hc,e1',Option.map_some] at z
    exact Ax z
   have cx:=B.capc x (A5 e1')
   obtain ⟨m,hm,hl⟩:=I.loc
   obtain ⟨u,r,l⟩:=hl j x v e6 e5 (.inr (.inl cx.1))
   refine ⟨u,r,.inr ?_⟩
   obtain ⟨c',hc'⟩:=hkind x (.inl cx.2)
   have hc2:=hcl x c' hc'
   rcases l with ⟨k,_⟩ | ⟨_,c,ec,o,hoc,hdc⟩
   ·have k':X.env.scope.names.lookup x=some .local:=k
    rw [cx.1] at k'
    cases k'
   ·rw [hc2] at ec
    cases ec
    exact ⟨.inl cx.2,c',hc',o,hk _ _ hoc,hdc⟩
 ·obtain ⟨v,o,hoc,hd⟩:=cellAt x c e
  exact ⟨v,o,hk _ _ hoc,hd⟩
 ·have hp':p∈X.pn++pins:=by
   have z:p∈(X.pn++pins)++[]:=hp
   simpa using z
  obtain ⟨e,n,ne,nf,d⟩:=I.pin p hp'
  exact ⟨hk _ _ e,n,lt _ _ e,nfs _ ne nf,d⟩
 ·show (A3 own.length none++capI.map _).length=(own++capn).length
  have z:=congrArg List.length B.caps
  simp only [AA] at z
  simp [z]
end
def tLC (wi:TI) (k:Nat) (capI:List Nat) (g:TG) (tt:TT) (te:TE):TE:=fun σ H Q=>wi σ H fun J H1=>∀ D,H1 D=none→∃ W:Nat→Nat→St→List V→Hp→Prop,(∃ m,W 0 m (capsOf k capI σ) [] (upd H1 D (.lst []))) ∧
 ∀ i m σ' acc H,W i m σ' acc H→(J.stop i H∧Q (.ref D) H)∨(J.go i H∧∀ x H',J.yld i H x H'→g x σ' H' fun σ2 H2=>tt σ2 H2 fun b H3 =>
  if b=true then te σ2 H3 fun y H4=>H4 D=some (.lst acc)∧acc.length < AL∧∃ m',m' < m∧W (i + 1) m' σ2 (acc++[y]) (upd H4 D (.lst (acc++[y]))) else ∃ m',m' < m∧W (i + 1) m' σ2 acc H3)
section
variable {X:Cx} {pins:List (Addr×Obj)} {σ:St} {H:Hp} {s:Shared}
theorem blk_end {scope:Scope} {N:List Str} {cl:List (Str×Addr)} {fp:List Addr} {h':Heap} {σ':St} {H':Hp} {s':Shared} (I:Inv X pins σ H s) (hf:∀ b∈fp,FpOk X pins H b)
  (J:Inv (X.blk scope N cl s.heap.objs.size s H fp pins) [] σ' H' s') (hs:Heap.SameBut s.heap.objs.size s'.heap h'):Inv X pins σ H' { s' with heap:=h' }:=by
 have B:=J.base
 have ne:∀ b o,s.heap.get? b=some o→b≠s.heap.objs.size:=fun b o e=>AU (AK e)
 have u:Un (frs X.stack) fp H H' s.heap h':=⟨fun b o e n h1 h2=>(hs.2 b (ne b o e)).trans (B.keep b o e n h1 h2),fun b o e n h1 h2=>by
   obtain ⟨sl,z⟩:=B.slot b o e n h1 h2
   exact ⟨sl,(hs.2 b (ne b o e)).trans z⟩,B.free,fun b o e h2=>by
   obtain ⟨o',z⟩:=B.there b o e h2
   exact ⟨o',(hs.2 b (ne b o e)).trans z⟩,B.tups,B.frzs,B.tbls⟩
 have hok:HOk X.prog X.w H' h':=fun b o e=>by
  refine (J.hok b o e).stay (fun c v hc q=>(hs.2 c ?_).trans q) (fun _ z=>z) fun _ _ z=>z
  have fr:H' s.heap.objs.size=none:=J.free
  rintro rfl
  rcases hc with z | z
  ·rw [← z,fr] at e
   cases e
  ·rw [fr] at z
   cases z
 exact I.call' (s':={ s' with heap:=h' }) (ch:=fp) J.os u hok J.bare fun b hb=>⟨(hf b hb).2.2.2.1,(hf b hb).2.1,(hf b hb).2.2.2.2.1,(hf b hb).2.2.2.2.2⟩
variable {elt iter tg:Expr} {ifs:List Expr} {scope:Scope} {pos:Pos} {own capn:List Str} {capI:List Nat} {wi:TI} {g:TG} {tt:TT} {te:TE}
theorem pe_lc (hc:X.calm=true) (B:BlkScope X scope own capn capI) (hi:PI X tg iter wi) (hg:∀ cl C s H fp pins,PG (X.blk scope (own++capn) cl C s H fp pins) tg g)
  (ht:∀ cl C s H fp pins,PIfs (X.blk scope (own++capn) cl C s H fp pins) ifs tt) (he:∀ cl C s H fp pins,PE (X.blk scope (own++capn) cl C s H fp pins) elt te)
  (hs:∀ x,foldedSetIterable iter X.env x=pure x:=by intro _; rfl):PE X (.ListComp elt [⟨tg,iter,ifs,0⟩] scope pos) (tLC wi own.length capI g tt te):=by
 intro pins s σ H Q I h
 rw [eval_ListComp]
 obtain ⟨cl,hclos,hcl,hcf⟩:=closure_of (env:=X.env) (scope:=scope) (fun y hy hf=>I.ok.has y.1 (.inl (B.free y hy hf)))
 refine wpAny_comprehension_free (use:=none) rfl hs hclos B.kind B.names (thn (hi pins s σ H _ I h) fun v s1 h1=>thn h1 fun itv s2 h2=>?_)
 obtain ⟨it,fp,tn,J,H2,e,I2,T,st2,f2,hW⟩:=h2
 subst e
 obtain ⟨W,⟨m0,w0⟩,turn⟩:=hW s2.heap.objs.size (I2.hok.fresh (AD _))
 refine wpAny_newObj_type (wpAny_newFunctionEnv B.cell (by intro y hy; simp at hy) (fun h4 hns hsb=>?_) B.kind)
 dsimp only at hns hsb ⊢
 have I3:Inv X pins σ (upd H2 s2.heap.objs.size (.lst [])) { s2 with heap:=s2.heap.push { cls:=.type "list",dict:=none,data:=.seq ([]:List Value).toArray } } :=
  I2.laid (t':=s2.toks) (fun b u e=>AH _ e) (AD _) ⟨Ai _,[],0,.nil,Al _ rfl⟩
 generalize hs3:({ s2 with heap:=s2.heap.push { cls:=.type "list",dict:=none,data:=.seq ([]:List Value).toArray } }:Shared)=s3 at I3
 have e3:s2.heap.push { cls:=.type "list",dict:=none,data:=.seq ([]:List Value).toArray }=s3.heap:=by rw [← hs3]
 have ob2:∀ b∈fp,∃ o,s2.heap.get? b=some o:=fun b hb=>let ⟨o,z,_⟩:=T.obj _ _ st2 b hb; ⟨o,z⟩
 have up3:∀ b o,s2.heap.get? b=some o→s3.heap.get? b=some o:=fun b o z=>by
  rw [← e3]
  exact AH _ z
 have f3:∀ b∈fp,FpOk X pins (upd H2 s2.heap.objs.size (.lst [])) b:=fun b hb=>by
  obtain ⟨o,z⟩:=ob2 b hb
  exact ⟨by rw [upd_ne (AU (AK z))]; exact (f2 b hb).1,(f2 b hb).2⟩
 have ob3:∀ b∈fp,∃ o,s3.heap.get? b=some o:=fun b hb=>let ⟨o,z⟩:=ob2 b hb; ⟨o,up3 b o z⟩
 rw [e3] at hns hsb ⊢
 have up4:∀ b o,s3.heap.get? b=some o→h4.get? b=some o:=fun b o z=>(hsb.2 b (AU (AK z))).trans (AH _ z)
 have IB:=blk_start (t':=s2.toks + ([]:List (Str×Value)).length) B I3 f3 ob3 hcl hcf hns up4
 have e4:({ s3 with heap:=h4,toks:=s2.toks + ([]:List (Str×Value)).length }:Shared)={ s2 with heap:=h4,toks:=s2.toks + ([]:List (Str×Value)).length }:=by rw [← hs3]
 rw [e4] at IB
 have tn4:tn 0 h4:=T.keep _ _ _ st2 fun b hb o z=>up4 b o (up3 b o z)
 have fst:∀ {H':Hp},(∀ b∈fp,H' b=none)→∀ b∈fp,FpOk (X.blk scope (own++capn) cl s3.heap.objs.size s3 (upd H2 s2.heap.objs.size (.lst [])) fp pins) [] H' b:=fun {H'} hn b hb=>by
  obtain ⟨o,z⟩:=ob3 b hb
  refine ⟨hn b hb,AU (AK z),fun y=>?_,.inl hb,fun x c ec=>(f3 b hb).2.2.2.2.1 x c (hcl x c ec),fun p hp=>(f3 b hb).2.2.2.2.2 p (by have y:p∈(X.pn++pins)++[]:=hp; simpa using y)⟩
  rcases AW.mp (I3.stkSub b y) with y | y
  ·exact (f3 b hb).2.1 y
  ·exact (f3 b hb).2.2.1 y
 have loop:codeAny (model X.prog X.w) X.A (.compLoop (.ListComp elt [⟨tg,iter,ifs,0⟩] scope pos) 0 (.ref it) (.ref s2.heap.objs.size) (compEnvC scope cl s3.heap.objs.size X.env))
   (compPost (model X.prog X.w) X.A X.xe none (EP X pins σ Q) (.ref s2.heap.objs.size) s3.heap.objs.size) { s2 with heap:=h4,toks:=s2.toks + ([]:List (Str×Value)).length }:=by
  refine comp_loop (fun n s'=>∃ i σ' acc H',Inv (X.blk scope (own++capn) cl s3.heap.objs.size s3 (upd H2 s2.heap.objs.size (.lst [])) fp pins) [] σ' H' s'∧tn i s'.heap∧(∀ b∈fp,H' b=none)∧W i n σ' acc H') ?_ m0 ⟨0,_,[],_,IB,tn4,fun b hb=>(f3 b hb).1,w0⟩
  rintro n s5 ⟨i,σ5,acc,H5,I5,st5,fr5,w5⟩
  have no:∀ {α:Type} {t:Sem α} {Q:α→Shared→Prop} {E:Value→Shared→Prop} {s:Shared},wpAny (model X.prog X.w) X.A t Q (fun _ _=>False) s→wpAny (model X.prog X.w) X.A t Q E s:=fun z=>wpAny_mono z (fun _ _ y=>y) fun _ _ y=>y.elim
  rcases turn i n σ5 acc H5 w5 with ⟨stop,qn⟩ | ⟨go,step⟩
  ·refine no (thn (T.done (X.blk scope (own++capn) cl s3.heap.objs.size s3 (upd H2 s2.heap.objs.size (.lst [])) fp pins) rfl rfl rfl hc i [] s5 σ5 H5 _ I5 (fst fr5) st5 stop) fun r s6 ⟨hr,I6⟩=>?_)
   subst hr
   obtain ⟨m,hm,_⟩:=id I6.loc
   exact ⟨m,hm,fun h' hs'=>⟨.ref s2.heap.objs.size,H5,blk_end I3 f3 I6 hs',rfl,qn⟩⟩
  ·refine no (thn (T.item (X.blk scope (own++capn) cl s3.heap.objs.size s3 (upd H2 s2.heap.objs.size (.lst [])) fp pins) rfl rfl rfl hc i [] s5 σ5 H5 _ I5 (fst fr5) st5 go) fun r s6 ⟨u,hr,h6⟩=>?_)
   subst hr
   refine no (thn h6 fun _ s7 ⟨x,H7,I7,r7,y7,st7,fr7⟩=>?_)
   have I7':=I7.pinned (fst fr7) (T.obj _ _ st7)
   have kp:∀ {σ8:St} {H8:Hp} {s8:Shared},Inv (X.blk scope (own++capn) cl s3.heap.objs.size s3 (upd H2 s2.heap.objs.size (.lst [])) fp pins) ([]++pinsAt fp s7.heap) σ8 H8 s8→tn (i + 1) s8.heap∧∀ b∈fp,H8 b=none:=fun {σ8 H8 s8} I8=>by
    refine ⟨T.keep _ _ _ st7 fun b hb o z=>(I8.pin (b,o) (Ad _ (Ad _ (mem_pinsAt hb z)))).1,fun b hb=>?_⟩
    obtain ⟨o,z,d⟩:=T.obj _ _ st7 b hb
    exact (I8.pin (b,o) (Ad _ (Ad _ (mem_pinsAt hb z)))).2.1
   refine no (thn (hg cl s3.heap.objs.size s3 _ fp pins _ s7 σ5 H7 x u _ I7' r7 (step x H7 y7)) fun _ s8 ⟨σ8,H8,I8,q8⟩=>?_)
   refine no (thn (ht cl s3.heap.objs.size s3 _ fp pins _ s8 σ8 H8 _ I8 q8) fun b s9 ⟨H9,I9,q9⟩=>?_)
   cases b with
   | false =>
    obtain ⟨m',hm,w9⟩:=q9
    exact ⟨m',hm,i + 1,σ8,acc,H9,I9.unpinned,(kp I9).1,(kp I9).2,w9⟩
   | true =>
    refine no (thn (he cl s3.heap.objs.size s3 _ fp pins _ s9 σ8 H9 _ I9 q9) fun y s10 ⟨yv,H10,I10,r10,hD,hz,m',hm,w10⟩=>?_)
    refine no (thn (mt_append _ s10 σ8 H10 (.ref s2.heap.objs.size) [yv] (.ref s2.heap.objs.size) [y] (fun v H11=>v=.non∧H11=upd H10 s2.heap.objs.size (.lst (acc++[yv]))) I10 rfl (.cons r10 .nil) ⟨_,acc,yv,rfl,rfl,hD,hz,rfl,rfl⟩) fun _ s11 ⟨_,H11,I11,_,_,e11⟩=>?_)
    subst e11
    exact ⟨m',hm,i + 1,σ8,acc++[yv],_,I11.unpinned,(kp I11).1,(kp I11).2,w10⟩
 exact codeAny_compStart_list loop (T.self _ 0 _ _ _ tn4 loop)
end
theorem ns_some_of {K:PySem.W.Frag} {h:Heap} {N:Addr} {mg:Str→Option Value} {n:Str} {v:Value} (X:K.In h) (G:h.Ns N mg) (e:AQ K N n=some (some v)):mg n=some v:=by
 obtain ⟨o,es,ep,ho,hd,_,hf⟩:=G
 unfold AQ at e
 split at e
 ·rename_i c d es' n' sl q
  have z:=X _ _ q
  rw [ho] at z
  cases z
  cases hd
  split at e
  ·rename_i en he
   cases e
   rw [← hf]
   unfold nsFind findBy
   rw [← Array.find?_toList,he]
   rfl
  ·split at e
   ·cases e
   ·cases e
 ·cases e
structure StopC (K:PySem.W.Frag) (mg:Str→Option Value) (x:Str) (C fI:Addr) (a:Str):Prop where
 bound:mg x=some (.ref C)
 obj:∃ nm q N bs sn sub ab col dd k0 k1 k2 k3 k5,K.lookup C=some (excClassObj nm q C N bs bmE true sn sub ab col dd k0 k1 k2 k3 k5 "Exception.__new__")∧PySem.W.nsOkIn K N=true∧AQ K N "__init__"=some (some (.ref fI)) ∧
  AQ K N "__setattr__"=some none∧AQ K N "__getattribute__"=some none∧AQ K N "__getattr__"=some none∧AQ K N a=some none
 fn:PySem.W.typeIn K (.ref fI)=some (.type "function")
 lk:typeLookup (.type "Exception") a=pure none
def ExcN (e C:Addr):HO:=.ext fun h=>∃ vs,h.get? e=some { cls:=.ref C,data:=.fields vs }∧vs[1]?=some .none
def ExcD (e C dx:Addr):HO:=.ext fun h=>∃ vs,h.get? e=some { cls:=.ref C,dict:=some dx,data:=.fields vs }∧vs[1]?=some .none
section
variable {X:Cx} {x a:Str} {C fI:Addr} {o value:Expr} {pos pos':Pos} {ta tv:TE} {mg:Str→Option Value}
def sXset (C:Addr) (a:Str) (ta tv:TE):TS:=fun D σ H=>tv σ H fun y H1=>ta σ H1 fun x H2=>∃ e,x=.ref e∧H2 e=some (ExcN e C)∧∀ dx,H2 dx=none→D.nx σ (upd (upd H2 dx (.xd [(a,y)])) e (ExcD e C dx))
theorem ps_xset (S:StopC X.K mg x C fI a) (ha:PE X o ta) (hv:PE X value tv) (hs:swapsWith value (some (.Attribute o a pos')) pos.line X.env=pure false) :
  PS X (.Assign [.Attribute o a pos'] value pos) (sXset C a ta tv):=by
 intro pins s σ H D I h
 refine plainObj_wpAny_Assign_Attribute (thn (hv pins s σ H _ I h) fun u s1 ⟨y,H1,I1,ry,h1⟩=>thn (ha pins s1 σ H1 _ I1 h1) fun ov s2 ⟨xv,H2,I2,rx,e,ex,he,q⟩=>?_) hs
 subst ex
 obtain rfl:ov=Ac e:=rx
 obtain ⟨nm,qn,N,bs,sn,sub,ab,col,dd,k0,k1,k2,k3,k5,hl,hok,hi,n1,n2,n3,n4⟩:=S.obj
 obtain ⟨⟨vs,hoe,h1v⟩,_,_⟩:=I2.hok e _ he
 have KI:=I2.kIn
 have fresh:H2 s2.heap.objs.size=none:=I2.hok.fresh (AD _)
 have hq:=q s2.heap.objs.size fresh
 have ne:e≠s2.heap.objs.size:=AU (AK hoe)
 have hn:s2.heap.Ns N (s2.heap.nsMap N):=.of_isNs (PySem.W.isNs_of_in KI hok)
 have m1:=PySem.W.nsMap_none_of_in KI hok n1
 have m4:=PySem.W.nsMap_none_of_in KI hok n4
 have hC:=KI _ _ hl
 have fin:∀ (h':Heap) (tk:Nat),h'.get? e=some { cls:=.ref C,dict:=some s2.heap.objs.size,data:=.fields vs }→h'.Ns1 s2.heap.objs.size (fun y'=>if y'=a then some u else none)→(∀ b ob,b≠e→s2.heap.get? b=some ob→h'.get? b=some ob) →
   Inv X pins σ (upd (upd H2 s2.heap.objs.size (.xd [(a,y)])) e (ExcD e C s2.heap.objs.size)) { s2 with heap:=h',toks:=tk }:=fun h' tk g1 g2 g3=>by
  have nd:∀ b v,H2 b=some v→b≠s2.heap.objs.size:=fun b v z w=>by
   rw [w,fresh] at z
   cases z
  have nx:∀ b v,H2 b=some v→(∀ ψ,v≠.ext ψ)→b≠e:=fun b v z nu w=>by
   rw [w,he] at z
   cases z
   exact nu _ rfl
  have n0:∀ b,H2 b=none→b≠e:=fun b z w=>by
   rw [w,he] at z
   cases z
  refine I2.un (Un.mk (fun b ob z n _ _=>g3 b ob (n0 b n) z) (fun b ob z n _ _=>⟨ob.slots,g3 b ob (n0 b n) z⟩) (fun b ob z n _=>?_) (fun b ob z _=>?_) (fun b xs z=>?_) (fun b ob v z=>?_) fun b ps z=>?_) fun b v z=>?_
  ·rw [upd_ne (n0 b n),upd_ne (AU (AK z))]
   exact n
  ·by_cases hb:b=e
   ·subst hb
    exact ⟨_,g1⟩
   ·exact ⟨ob,g3 b ob hb z⟩
  ·rw [upd_ne (nx b _ z fun ψ w=>by cases w),upd_ne (nd b _ z)]
   exact z
  ·rw [upd_ne (nx b _ z fun ψ w=>by cases w),upd_ne (nd b _ z)]
   exact z
  ·exact ⟨#[],by rw [upd_ne (nx b _ z fun ψ w=>by cases w),upd_ne (nd b _ z),z]; simp⟩
  ·by_cases hb:b=e
   ·subst hb
    rw [upd_same] at z
    cases z
    exact ⟨⟨vs,g1,h1v⟩,⟨_,g1⟩,fun a1 a2 ⟨ws,w1,w2⟩ w=>⟨ws,w _ w1,w2⟩⟩
   ·rw [upd_ne hb] at z
    by_cases hb2:b=s2.heap.objs.size
    ·subst hb2
     rw [upd_same] at z
     cases z
     refine ⟨_,g2,fun f=>?_⟩
     by_cases hf:f=a
     ·subst hf
      show RelO (List.lookup f [(f,y)]) (if f=f then some u else none)
      rw [if_pos rfl,List.lookup_cons]
      simp only [beq_self_eq_true]
      exact ry
     ·show RelO (List.lookup f [(a,y)]) (if f=a then some u else none)
      rw [if_neg hf,List.lookup_cons,show (f == a)=false by simpa using hf]
      exact AS
    ·rw [upd_ne hb2] at z
     refine (I2.hok b v z).stay (fun c w hc y'=>g3 c w ?_ y') (fun c w=>?_) fun c xs w=>?_
     ·rcases hc with rfl | hc
      ·exact hb
      ·exact nx c _ hc fun ψ w=>by cases w
     ·rw [upd_ne (nx c _ w fun ψ w=>by cases w),upd_ne (nd c _ w)]
      exact w
     ·rw [upd_ne (nx c _ w fun ψ w=>by cases w),upd_ne (nd c _ w)]
      exact w
 obtain ⟨hp,g,d,t,os⟩:=s2
 exact sav_exc (vs:=vs) hC hn m1 m4 S.lk hoe rfl rfl rfl fun h' tk g1 g2 g3=>⟨σ,_,fin h' tk g1 g2 g3,hq⟩
def tXfld (C:Addr) (a:Str) (ta:TE):TE:=fun σ H Q=>ta σ H fun x H1=>∃ e dx fs v,x=.ref e∧H1 e=some (ExcC e (.ref C) (some dx))∧e≠dx∧H1 dx=some (.xd fs)∧fs.lookup a=some v∧Q v H1
theorem pe_xfld (S:StopC X.K mg x C fI a) (ha:PE X o ta) (hb:attributeBase o a X.env (eval o X.env)=eval o X.env):PE X (.Attribute o a pos) (tXfld C a ta):=by
 intro pins s σ H Q I h
 refine attr_of hb (thn (ha pins s σ H _ I h) fun u s1 ⟨xv,H1,I1,rx,e,dx,fs,v,ex,he,ned,hdx,hl,q⟩=>?_)
 subst ex
 obtain rfl:u=Ac e:=rx
 obtain ⟨nm,qn,N,bs,sn,sub,ab,col,dd,k0,k1,k2,k3,k5,hlC,hok,hi,n1,n2,n3,n4⟩:=S.obj
 obtain ⟨⟨oe,vs,hoe,hcl,hde,hdt⟩,_,_⟩:=I1.hok e _ he
 obtain ⟨mA,hns,rel⟩:=I1.hok dx _ hdx
 have ra:=rel a
 rw [hl] at ra
 obtain ⟨uv,huv,rv⟩:=RelO.some_of ra
 have KI:=I1.kIn
 have hn:s1.heap.Ns N (s1.heap.nsMap N):=.of_isNs (PySem.W.isNs_of_in KI hok)
 have m2:=PySem.W.nsMap_none_of_in KI hok n2
 have m3:=PySem.W.nsMap_none_of_in KI hok n3
 have m4:=PySem.W.nsMap_none_of_in KI hok n4
 have hC:=KI _ _ hlC
 have inst:s1.heap.Inst e C mA:=⟨oe,hoe,hcl,(fun c z=>by rw [hdt] at z; cases z),.inr ⟨dx,hde,Ne.symm ned,hns⟩⟩
 have fin:EP X pins σ Q uv { s1 with toks:=s1.toks + 1 }:=⟨v,H1,I1.tok _,rv,q⟩
 obtain ⟨hp,g,d,t,os⟩:=s1
 exact load_exc hC hn m2 m3 m4 S.lk inst huv (PySem.W.handedOut_of (handed_of rv)) fin
end
section
variable {M:Model} {A:Around} {E:Value→Shared→Prop} {env:Env}
variable {nm q:Str} {C N:Addr} {bs bm:List Value} {hdct:Bool} {sn:List Str} {sub:List Value} {ab:Bool} {col:Option Bool} {dd:Option Addr} {k0 k1 k2 k3 k5:Option Value} {newId:String}
theorem raise_x {s:Shared} {x:Sem Value} {Q:Flow→Shared→Prop} (hbase:bm.contains (.type "BaseException")=true) (hh:A.handled=none)
  (h:wpAny M A x (fun v s1=>∃ e oe,v=.ref e∧s1.heap.get? C=some (excClassObj nm q C N bs bm hdct sn sub ab col dd k0 k1 k2 k3 k5 newId)∧s1.heap.get? e=some oe∧oe.cls=.ref C∧(∃ vs,oe.data=.fields vs∧vs[1]?=some .none)∧E (.ref e) s1) E s) :
  wpAny M A (raiseStmt env (some x) none) Q E s:=by
 have hcB:(Ac C :: bm).contains (.type "BaseException")=true:=by rw [List.contains_cons,hbase,Bool.or_true]
 unfold raiseStmt
 refine AC (thn h fun v s1 h1=>?_)
 obtain ⟨e,oe,rfl,hC,he,hcl,⟨vs,hdt,h1v⟩,hE⟩:=h1
 obtain ⟨hp,g,d,tk,os⟩:=s1
 repeat (first | (with_reducible refine BC he ?_; first | rw [hcl] | rw [hdt]) | with_reducible refine BC hC ?_ | (with_reducible refine wpAny_isSubtype_exc hC ?_; rw [hcB]) | wp_step)
 rw [hdt]
 refine AM ?_
 rw [h1v]
 refine AM ?_
 rw [if_neg (by decide)]
 exact AM (wpAny_raiseNew_none hh hE)
end
def Flies (X:Cx) (E:XK):Prop:=∀ (pins:List (Addr×Obj)) (σ:St) (H:Hp) (s:Shared) (e:Addr) (oe:Obj) (vs:Array Value),Inv X pins σ H s→s.heap.get? e=some oe→oe.data=.fields vs→vs[1]?=some .none→X.s₀.heap.get? e=none→H e=none→E oe.cls oe.dict H→X.xe (.ref e) s
section
variable {P:Program} {w:World} {K:PySem.W.Frag} {mg:Str→Option Value} {base:Heap} {N:List Str} {qual:Str} {scope:Scope} {f:Addr} {cd:Value} {A:Around} {outer:List Env} {s₀:Shared} {H₀:Hp} {E:XK}
theorem flies1:Flies (cx1 P w K mg base N qual scope f cd A outer s₀ H₀ E) E:=fun pins σ H s e oe vs I he hd h1 hn hH q=>xe_made I he hd h1 hn hH q
end
section
variable {X:Cx} {x a:Str} {C fI:Addr} {np cpos pos:Pos} {E:XK} {e₀:Expr} {rest:List Expr} {t:TA} {k:Nat} {fd:FuncData} {ps:List Str} {sp:Sp}
def tRaiseI (C:Addr) (sp:Sp) (E:XK) (t:TA):TS:=fun _ σ H=>t σ H fun vs H1=>vs.length≤AL∧∀ e,H1 e=none→sp (.ref e :: vs) (upd H1 e (ExcN e C)) (fun v H2=>v=.non∧∃ dx,H2 e=some (ExcD e C dx)∧E (.ref C) (some dx) (drop H2 e)) E0
theorem ps_raiseI (S:StopC X.K X.mg x C fI a) (hg:Gl X x) (hc:X.calm=true) (hex:X.ex=[]) (hx:Flies X E) (F:FnOk X.prog X.w X.K X.mg X.base (CX1 X.prog X.w) k fI fd ps sp) (hr:Room (k + 1) X.A) (hb:Binds X.K fd ps []) (ha:PA X (e₀ :: rest) t)
  (he:Af (e₀ :: rest) X.env=(false,eval e₀ X.env) :: Af rest X.env:=by rfl) (hpl:(backTo cpos (Af rest X.env)).any (·.1)=false:=by rfl) (hd:(x == ("__debug__":Str))=false:=by decide) :
  PS X (.Raise (some (.Call (.Name x np) (e₀ :: rest) [] cpos)) none pos) (tRaiseI C sp E t):=by
 intro pins s σ H D I h
 obtain ⟨nm,qn,N,bs,sn,sub,ab,col,dd,k0,k1,k2,k3,k5,hlC,hok,hi,n1,n2,n3,n4⟩:=S.obj
 have hplain:(backTo cpos (Af (e₀ :: rest) X.env)).any (·.1)=false:=by rw [he]; exact hpl
 rw [arm_exec_Raise]
 refine AC (wpAny_standAt (raise_x (C:=C) (nm:=nm) (q:=qn) (N:=N) (bs:=bs) (bm:=bmE) (hdct:=true) (sn:=sn) (sub:=sub) (ab:=ab) (col:=col) (dd:=dd) (k0:=k0) (k1:=k1) (k2:=k2) (k3:=k3) (k5:=k5) (newId:="Exception.__new__") (by decide) (I.ok.hd hc) ?_))
 refine AC (thn (wpAny_Call_ofName (ld_glob I hg S.bound ?_ hd)) fun v s3 h3=>AC (wpAny_standAt (AM h3)))
 unfold callWith
 have hp:=ha cpos pins s σ H _ I h
 rw [he] at hp ⊢
 refine AC (wpAny_holding (Calls.evalArgs_plain (thn hp fun us s2 ⟨vs,H1,I1,r1,z,hE⟩=>AC (wpAny_standAt ?_))))
 have KI:=I1.kIn
 have hC:=KI _ _ hlC
 have hn:s2.heap.Ns N (s2.heap.nsMap N):=.of_isNs (PySem.W.isNs_of_in KI hok)
 have mi:=ns_some_of KI hn hi
 obtain ⟨oI,hoI,hfc⟩:=Option.map_eq_some_iff.mp S.fn
 have hzu:us.length≤AL:=by rw [← r1.length]; exact z
 have hfold:(backTo cpos ((false,eval e₀ X.env) :: Af rest X.env)).any (·.1)=false:=by rw [he] at hplain; exact hplain
 have main:∀ h' e,Heap.MadeExcOf s2.heap h' e (.ref C) us→wpAny (model X.prog X.w) (X.A.under (.builtin "type.__call__" ⟨.ref C :: us,[]⟩)) (call (.ref fI) (.ref e :: us))
   (fun r s'=>r=.none∧∃ e' oe,Ac e=.ref e'∧s'.heap.get? C=some (excClassObj nm qn C N bs bmE true sn sub ab col dd k0 k1 k2 k3 k5 "Exception.__new__")∧s'.heap.get? e'=some oe∧oe.cls=.ref C∧(∃ vs,oe.data=.fields vs∧vs[1]?=some .none)∧X.xe (.ref e') s') X.xe { s2 with heap:=h' }:=fun h' e Md=>by
  obtain ⟨tt,he',_,_⟩:=Md.there
  have I2:Inv X pins σ H1 { s2 with heap:=h' }:=I1.kept (t':=s2.toks) Md.keeps
  have ap:=I1.apart hex Md.new
  have hHe:H1 e=none:=I1.hok.new Md.new
  have I3:Inv X pins σ (upd H1 e (ExcN e C)) { s2 with heap:=h' }:=I2.track ap hHe ⟨_,he'⟩ ⟨_,he',rfl⟩ fun g1 g2 ⟨ws,w1,w2⟩ w=>⟨ws,w _ w1,w2⟩
  have hq:=hE e hHe
  have r2:Vals (V.ref e :: vs) (Ac e :: us):=.cons rfl r1
  have hl:(Ac e :: us++[]).length=ps.length:=by
   have l1:=r2.length
   rw [F.len _ _ _ _ hq] at l1
   simpa using l1.symm
  have hbb:=hb { s2 with heap:=h' } (Ac e :: us) I3.kIn hl
  rw [BB] at hbb
  refine wpAny_call (codeAny_mono (F.run _ X.stack _ _ ⟨Ac e :: us,[]⟩ (Ac e :: us) _ _ E0 (hr.make C us []) (I3.env0.make C us []) hbb r2 hq) fun r s' hq'=>?_)
  cases r with
  | error ev =>
   obtain ⟨_,_,_,_,_,_,_,_,_,_,_,_,_,_,_,ff⟩:=hq'
   exact ff.elim
  | ok fl =>
   cases fl with
   | ret u =>
    obtain ⟨v,H',I4,rv,ev,dx,hD,hE'⟩:=I3.after hq'
    subst ev
    obtain ⟨⟨ws,w1,w2⟩,_,_⟩:=I4.hok e _ hD
    refine ⟨rv,e,_,rfl,I4.kIn _ _ hlC,w1,rfl,⟨_,rfl,w2⟩,?_⟩
    exact hx pins σ (drop H' e) s' e _ ws (I4.untrack hD) w1 rfl w2 ap.old drop_same hE'
   | next=>exact False.elim hq'
   | brk=>exact False.elim hq'
   | cont=>exact False.elim hq'
 obtain ⟨hp2,g,d,tk,os⟩:=s2
 simp only [hfold]
 refine AC (wpAny_keeperOf_exc hC ?_)
 refine AC (wpAny_call_exc_init (hrest:=hzu) PySem.F.excBase_Exception hC hn mi (KI _ _ hoI) hfc fun h' e Md=>?_)
 refine thn (main h' e Md) fun r s' ⟨e1,e2⟩=>⟨e1,AC (wpAny_holding (wpAny_point (AM e2)))⟩
end
theorem list_keys_miss:typeLookup (.type "list") "keys"=pure none:=by rw [typeLookup_type,builtinLookup_eq_fast]; kernel_rfl
theorem entry_uloop:entryFor table "dict.update.loop"=some Builtin.«dict.update.loop»:=entryFor_of_tree (by kernel_rfl)
theorem no_keys {prog:Program} {w:World} {A:Around} {E:Value→Shared→Prop} {s:Shared} {a:Addr} {xs:Array Value} {k:Nat} {sl:Array (Option Value)} {Q:Option Value→Shared→Prop}
  (hx:s.heap.get? a=some { cls:=.type "list",dict:=none,data:=.seq xs k,slots:=sl }) (hA:A.handled=none)
  (h:∀ h' tk,(∀ b o,s.heap.get? b=some o→h'.get? b=some o)→Q none { s with heap:=h',toks:=tk }):wpAny (model prog w) A (getAttr? (.ref a) "keys") Q E s:=by
 obtain ⟨hp,g,d,tk,os⟩:=s
 have hT:∀ tk',(⟨hp,g,d,tk',os⟩:Shared).TypeIs (.ref a) "list":=fun _=>⟨_,hx,rfl⟩
 have f1:=sub_AttributeError
 have f3:=PySem.F.slot_list_getattribute.lookup
 have f4:=PySem.F.slot_list_getattribute.bind (.ref a)
 have f5:=am_list_getattr_none
 unfold getAttr? getAttrBy? getAttrBy
 repeat (any_goals (first | assumption | exact hT _ | ((with_reducible show wpAny _ _ (call (Value.builtin "list.__getattribute__") _ _) _ _ _); refine call_meets PySem.F.slot_list_getattribute (hT _) am_entry_list_getattribute (PySem.F.args_list_getattribute_2 _ _) (meets_getattribute_miss_list a xs k sl "keys" _ list_keys_miss (by decide)) ⟨hx,hA,fun h' tk' e hx'=>?_⟩) | wp_step))
 obtain ⟨t',u',he⟩:=hx'.there
 show wpAny _ _ (getattributeRaised _ _ _ _ _ _ _) _ _ _
 unfold getattributeRaised
 repeat (any_goals (first | assumption | wp_step))
 exact h _ _ hx'.of.keeps
section
variable {prog:Program} {w:World} {K:Type} [DecidableEq K] {knd:KeyKind prog w K} {A:Around}
def putAll (kvs:List (K×Value)):List (K×Value)→List (K×Value)
 | []=>kvs
 | p :: r=>putAll (stored kvs p.1 p.2) r
theorem len_stored (kvs:List (K×Value)) (k:K) (v:Value):(stored kvs k v).length≤kvs.length + 1:=by
 unfold stored
 split
 ·rw [AA]; lia
 ·rw [AI,List.length_singleton]; lia
theorem upd_loop {l it d:Addr} (hA:A.handled=none) (hA1:A.in1.handled=none):∀ (ps:List (K×Value)) (i:Nat) (s:Shared) (t:Tok) (kvs:List (K×Value)) (items:Array Value) (R:Result→Shared→Prop),s.heap.IsListIter it l i→s.heap.IsList l items→it≠d→l≠d→l≠it →
  items.size=i + ps.length→(∀ (j:Nat) (p:K×Value),ps[j]?=some p→∃ (b:Addr) (key:Value),items[i + j]?=some (.ref b)∧b≠d∧b≠it∧knd.is p.1 key=true∧∃ n sl dd,s.heap.get? b=some { cls:=.type "tuple",dict:=dd,data:=.seq #[key,p.2] n,slots:=sl }) →
  s.heap.DictOf knd d kvs→kvs.length + ps.length≤AL →
  (∀ h' tk,h'.DictOf knd d (putAll kvs ps)→(∀ b o,b≠d→b≠it→s.heap.get? b=some o→h'.get? b=some o)→R (.ok (.ret .none)) { s with heap:=h',toks:=tk }) →
  codeAny (model prog w) A (.builtin "dict.update.loop" ⟨[.ref d,.ref it,.int i t,.none],[]⟩) R s
 | [],i,s,t,kvs,items,R,hit,hl,n1,n2,n3,hsz,hp,hd,hz,hR=>by
  refine codeAny_builtin entry_uloop ?_
  unfold Builtin.«dict.update.loop»
  dsimp only
  refine AC (wpAny_pyNext_list_end hA hit hl (Array.getElem?_eq_none (by rw [hsz]; simp)) fun h' eb=>?_)
  show wpAny _ _ (Builtin.Dict.addKeywords d [] >>= _) _ _ _
  refine AC (AM (AM ?_))
  exact hR h' s.toks (let ⟨o,es,ep,ho,r⟩:=hd; ⟨o,es,ep,eb d o (Ne.symm n1) ho,r⟩) fun b o _ h2 e=>eb b o h2 e
 | p :: ps,i,s,t,kvs,items,R,hit,hl,n1,n2,n3,hsz,hp,hd,hz,hR=>by
  obtain ⟨b,key,hi,b1,b2,hk,n,sl,dd,hb⟩:=hp 0 p rfl
  refine codeAny_builtin entry_uloop ?_
  unfold Builtin.«dict.update.loop»
  dsimp only
  refine AC (wpAny_pyNext_list_item hit hl (x:=.ref b) hi fun h' hit' hs=>?_)
  dsimp only
  have hb':h'.get? b=some { cls:=.type "tuple",dict:=dd,data:=.seq #[key,p.2] n,slots:=sl }:=(hs.2 b b2).trans hb
  refine AC (wpAny_holding (AC ?_))
  have hT:({ s with heap:=h' }:Shared).TypeIs (.ref b) "tuple":=⟨_,hb',rfl⟩
  refine wpAny_tryCatch (AC (wpAny_typeOf hT ?_))
  rw [if_pos (by decide)]
  refine AC (AC (wpAny_load hb' (AM ?_)))
  refine AM ?_
  show wpAny _ _ (holding [key,p.2] (dictSet d key p.2)) _ _ _
  have hd':h'.DictOf knd d kvs:=let ⟨o,es,ep,ho,r⟩:=hd; ⟨o,es,ep,(hs.2 d (Ne.symm n1)).trans ho,r⟩
  refine wpAny_holding (wpAny_dictSet_pairs (s:={ s with heap:=h' }) hk hd' (fun h2 hd2 hs2=>?_) (by rw [AO] at hz; lia))
  refine AM ⟨Code.quiet_builtin _ (by decide +kernel),?_⟩
  have keep:∀ c o,c≠d→c≠it→s.heap.get? c=some o→h2.get? c=some o:=fun c o c1 c2 e=>(hs2.2 c c1).trans ((hs.2 c c2).trans e)
  have ls:=len_stored kvs p.1 p.2
  refine upd_loop hA hA1 ps (i + 1) { s with heap:=h2,toks:=s.toks + 1 } _ (stored kvs p.1 p.2) items R ?_ ?_ n1 n2 n3 (by rw [hsz,AO]; lia) (fun j q e=>?_) hd2 (by rw [AO] at hz; lia) fun h3 tk hd3 k3=>hR h3 tk hd3 fun c o c1 c2 e=>k3 c o c1 c2 (keep c o c1 c2 e)
  ·exact hit'.at fun o e=>(hs2.2 it n1).trans e
  ·obtain ⟨o,ho,r⟩:=hl
   exact ⟨o,keep l o n2 n3 ho,r⟩
  ·obtain ⟨b',key',x1,x2,x3,x4,n',sl',dd',x5⟩:=hp (j + 1) q (by simpa using e)
   exact ⟨b',key',by rw [show i + 1 + j=i + (j + 1) by lia]; exact x1,x2,x3,x4,n',sl',dd',keep b' _ x2 x3 x5⟩
theorem call_dict_pairs {E:Value→Shared→Prop} {s:Shared} {l:Addr} {items:Array Value} {n:Nat} {sl:Array (Option Value)} {Q:Value→Shared→Prop} (hA:A.handled=none) (ps:List (K×Value)) (hl:s.heap.get? l=some { cls:=.type "list",dict:=none,data:=.seq items n,slots:=sl })
  (hsz:items.size=ps.length) (hp:∀ (j:Nat) (p:K×Value),ps[j]?=some p→∃ (b:Addr) (key:Value),items[j]?=some (.ref b)∧knd.is p.1 key=true∧∃ n sl dd,s.heap.get? b=some { cls:=.type "tuple",dict:=dd,data:=.seq #[key,p.2] n,slots:=sl })
  (hz:ps.length≤AL)
  (h:∀ h' tk d,s.heap.objs.size≤d→h'.DictOf knd d (putAll [] ps)→(∀ b o,s.heap.get? b=some o→h'.get? b=some o)→Q (.ref d) { s with heap:=h',toks:=tk }):wpAny (model prog w) A (call (.type "dict") [.ref l]) Q E s:=by
 refine callType_codes (Q₁:=fun obj s₁=>obj=.ref s.heap.objs.size∧s₁={ s with heap:=s.heap.push { cls:=.type "dict",data:=.dict #[] } }) PySem.F.kt_called_dict (PySem.F.kt_typeCall_dict_1 _) PySem.F.entry_dict_init (kt_code_dict_new _ ⟨rfl,rfl⟩) ?_
 rintro obj s₁ ⟨rfl,rfl⟩
 have hnew:(s.heap.push { cls:=.type "dict",data:=.dict #[] }).DictOf knd s.heap.objs.size []:=Heap.DictOf.new s.heap
 have hl1:=AH { cls:=.type "dict",data:=.dict #[] } hl
 refine ⟨hnew.typeIs,PySem.F.args_dict_init_2 _ _,?_⟩
 unfold Builtin.«dict.__init__»
 refine AC ?_
 unfold Builtin.Dict.selfAndRest
 refine AC (wpAny_notOrdered_dict hnew.typeIs ?_)
 show wpAny _ _ (pure (s.heap.objs.size,[Ac l])) _ _ _
 refine AM ?_
 show wpAny _ _ (Builtin.Dict.updateFrom "dict.__init__" s.heap.objs.size (.ref l) [] .none) _ _ _
 unfold Builtin.Dict.updateFrom
 refine AC (wpAny_typeOf (T:="list") ⟨_,hl1,rfl⟩ ?_)
 rw [if_pos (by decide)]
 refine AC (no_keys hl1 hA fun h' tk kp=>?_)
 rw [if_pos (by decide)]
 refine AC (wpAny_rule (AC ?_))
 have hl2:h'.IsList l items:=⟨_,kp _ _ hl1,rfl,n,rfl⟩
 refine wpAny_pyIter_list hl2 ?_
 refine AM ⟨Code.quiet_builtin _ (by decide +kernel),?_⟩
 have dlt:s.heap.objs.size < h'.objs.size:=by
  obtain ⟨o,_,_,ho,_⟩:=hnew
  exact AK (kp _ _ ho)
 have up:∀ b o,s.heap.get? b=some o→(h'.push { cls:=.type "list_iterator",data:=.fields #[.ref l,.int 0 0] }).get? b=some o:=fun b o e=>AH _ (kp _ _ (AH _ e))
 have ne:∀ b o,s.heap.get? b=some o→b≠s.heap.objs.size∧b≠h'.objs.size:=fun b o e=>⟨AU (AK e),AU (Nat.lt_trans (AK e) dlt)⟩
 refine upd_loop (knd:=knd) (l:=l) (it:=h'.objs.size) (d:=s.heap.objs.size) (A:=A.in1) hA hA ps 0 { s with heap:=h'.push { cls:=.type "list_iterator",data:=.fields #[.ref l,.int 0 0] },toks:=tk } _ [] items _ ?_ ?_ (Nat.ne_of_gt dlt) (ne l _ hl).1 (ne l _ hl).2 (by rw [hsz]; simp) (fun j p e=>?_) ?_ (by simpa using hz) fun h3 tk3 hd3 k3=>?_
 ·exact ⟨_,Al _ rfl,rfl,rfl⟩
 ·exact ⟨_,up _ _ hl,rfl,n,rfl⟩
 ·obtain ⟨b,key,x1,x2,n',sl',dd',x3⟩:=hp j p e
  exact ⟨b,key,by rw [Nat.zero_add]; exact x1,(ne b _ x3).1,(ne b _ x3).2,x2,n',sl',dd',up _ _ x3⟩
 ·obtain ⟨o,es,ep,ho,r⟩:=hnew
  exact ⟨o,es,ep,AH _ (kp _ _ ho),r⟩
 ·exact ⟨rfl,h h3 tk3 _ (AD _) hd3 fun b o e=>k3 b o (ne b o e).1 (ne b o e).2 (up b o e)⟩
end
def putAllK (kvs:List (Key×V)):List (Key×V)→List (Key×V)
 | []=>kvs
 | p :: r=>putAllK (putK kvs p.1 p.2) r
theorem KV.putAll:∀ {ps:List (Key×V)} {qs:List (Key×Value)} {kvs:List (Key×V)} {vs:List (Key×Value)},KV ps qs→KV kvs vs→KV (putAllK kvs ps) (L2.putAll vs qs)
 | _,_,_,_,.nil,r=>r
 | _,_,_,_,.cons h t,r=>by
  rw [putAllK,L2.putAll,← h.1]
  exact KV.putAll t (r.put _ h.2)
theorem len_putAllK:∀ (ps kvs:List (Key×V)),(putAllK kvs ps).length≤kvs.length + ps.length
 | [],kvs=>by simp [putAllK]
 | p :: r,kvs=>by
  have h1:=len_putAllK r (putK kvs p.1 p.2)
  have h2:=length_putK kvs p.1 p.2
  rw [putAllK,AO]
  lia
section
variable {X:Cx}
def rDictL (xs:List V) (H:Hp) (Q:VK):Prop:=∃ (l:Addr) (ts:List (Addr×Key×V)),xs=[.ref l]∧H l=some (.lst (ts.map fun t=>.ref t.1))∧(∀ t∈ts,H t.1=some (.tup [kV t.2.1,t.2.2]))∧∀ d,H d=none→Q (.ref d) (upd H d (.dK (putAllK [] (ts.map (·.2)))))
theorem kV_key {k:Key} {v:Value} (r:RelV (kV k) v):keyIs k v=true:=by
 cases k with
 | inl i=>obtain ⟨t,rfl⟩:=r; exact keyIs_int i t
 | inr x=>obtain ⟨t,rfl⟩:=r; exact keyIs_str x t
theorem call_dict_l (hc:X.calm=true):CallR X (.type "dict") rDictL:=by
 intro pins s σ H xs us Q I r h
 obtain ⟨l,ts,rfl,hl,ht,q⟩:=h
 obtain ⟨u,rfl,ru⟩:=vals1 r
 cases ru
 obtain ⟨z,its,n,rv,e⟩:=I.hok l _ hl
 have hlen:its.length=ts.length:=by rw [← rv.length,AA]
 have get:∀ (j:Nat) (t:Addr×Key×V),ts[j]?=some t→its[j]?=some (.ref t.1)∧∃ key val,RelV (kV t.2.1) key∧RelV t.2.2 val∧∃ n sl dd,s.heap.get? t.1=some { cls:=.type "tuple",dict:=dd,data:=.seq #[key,val] n,slots:=sl }:=fun j t ej=>by
  obtain ⟨w,hw,rw'⟩:=rv.get (i:=j) (x:=.ref t.1) (by rw [AF,ej]; rfl)
  cases rw'
  refine ⟨hw,?_⟩
  obtain ⟨z2,its2,r2,o2,h2,c2,n2,d2⟩:=I.hok t.1 _ (ht t (A5 ej))
  obtain ⟨a1,a2,e2,ra1,ra2⟩:∃ a1 a2,its2=[a1,a2]∧RelV (kV t.2.1) a1∧RelV t.2.2 a2:=by
   cases r2 with
   | cons p1 q1 =>
    cases q1 with
    | cons p2 q2 =>
     cases q2
     exact ⟨_,_,rfl,p1,p2⟩
  subst e2
  obtain ⟨oc,od,odt,osl⟩:=o2
  dsimp only at c2 d2
  subst c2 d2
  exact ⟨a1,a2,ra1,ra2,n2,osl,od,h2⟩
 obtain ⟨qs,hqs,hq2⟩:∃ qs:List (Key×Value),KV (ts.map (·.2)) qs∧∀ (j:Nat) (p:Key×Value),qs[j]?=some p→∃ (b:Addr) (key:Value),its.toArray[j]?=some (.ref b)∧(mixKind X.prog X.w).is p.1 key=true∧∃ n sl dd,s.heap.get? b=some { cls:=.type "tuple",dict:=dd,data:=.seq #[key,p.2] n,slots:=sl }:=by
  have gen:∀ (k:Nat) (ts:List (Addr×Key×V)),(∀ (j:Nat) (t:Addr×Key×V),ts[j]?=some t→its[k + j]?=some (.ref t.1)∧∃ key val,RelV (kV t.2.1) key∧RelV t.2.2 val∧∃ n sl dd,s.heap.get? t.1=some { cls:=.type "tuple",dict:=dd,data:=.seq #[key,val] n,slots:=sl }) →
    ∃ qs:List (Key×Value),KV (ts.map (·.2)) qs∧∀ (j:Nat) (p:Key×Value),qs[j]?=some p→∃ (b:Addr) (key:Value),its.toArray[k + j]?=some (.ref b)∧(mixKind X.prog X.w).is p.1 key=true∧∃ n sl dd,s.heap.get? b=some { cls:=.type "tuple",dict:=dd,data:=.seq #[key,p.2] n,slots:=sl }:=by
   intro k ts
   induction ts generalizing k with
   | nil=>intro _; exact ⟨[],.nil,fun j p e=>by simp at e⟩
   | cons t r ih =>
    intro hh
    obtain ⟨h1,key,val,r1,r2,n',sl',dd',h2⟩:=hh 0 t rfl
    obtain ⟨qs,a1,a2⟩:=ih (k + 1) fun j t' e=>by
     have z:=hh (j + 1) t' (by simpa using e)
     rw [show k + (j + 1)=k + 1 + j by lia] at z
     exact z
    refine ⟨(t.2.1,val) :: qs,.cons ⟨rfl,r2⟩ a1,fun j p e=>?_⟩
    cases j with
    | zero =>
     simp at e
     subst e
     exact ⟨t.1,key,by simpa using h1,kV_key r1,n',sl',dd',h2⟩
    | succ j =>
     obtain ⟨b,key',z⟩:=a2 j p (by simpa using e)
     rw [show k + 1 + j=k + (j + 1) by lia] at z
     exact ⟨b,key',z⟩
  obtain ⟨qs,a1,a2⟩:=gen 0 ts fun j t e=>by rw [Nat.zero_add]; exact get j t e
  exact ⟨qs,a1,fun j p e=>by have z:=a2 j p e; rw [Nat.zero_add] at z; exact z⟩
 have hql:qs.length=ts.length:=by have z:=Paired.length hqs; rw [AA] at z; exact z.symm
 have zt:ts.length≤AL:=by rw [AA] at z; exact z
 refine call_dict_pairs (knd:=mixKind X.prog X.w) (I.ok.hd hc) qs e (by rw [AV,hlen,hql]) hq2 (by rw [hql]; exact zt) fun h' tk d hd dd k=>?_
 have hf:H d=none:=I.hok.fresh hd
 refine ⟨.ref d,upd H d (.dK (putAllK [] (ts.map (·.2)))),I.laid (t':=tk) k hd (dk_new ?_ (beq_eq_false_iff_ne.mpr (Nat.ne_of_gt (Aa I.big hd))) (KV.putAll hqs .nil) dd),rfl,q d hf⟩
 have z:=len_putAllK (ts.map (·.2)) []
 rw [AA,List.length_nil] at z
 lia
def DkK (P:Program) (w:World) (K:PySem.W.Frag) (a:Addr) (kvs:List (Key×V)):Prop:=(a == sysModules)=false∧kvs.length≤AL∧∃ vs,KV kvs vs∧∀ h:Heap,K.In h→h.DictOf (mixKind P w) a vs
def rDictD (P:Program) (w:World) (K:PySem.W.Frag) (xs:List V) (H:Hp) (Q:VK):Prop:=∃ a kvs,xs=[.ref a]∧(Rd H a (.dK kvs)∨DkK P w K a kvs)∧∀ d,H d=none→Q (.ref d) (upd H d (.dK kvs))
theorem call_dict_d:CallR X (.type "dict") (rDictD X.prog X.w X.K):=by
 intro pins s σ H xs us Q I r h
 obtain ⟨a,kvs,rfl,ha,q⟩:=h
 obtain ⟨u,rfl,ru⟩:=vals1 r
 cases ru
 rcases ha with ha | ⟨hS,hz,vs,rel,hd⟩
 ·exact d_copyOf I ha fun p s' hp I'=>⟨.ref p,_,I',rfl,q p hp⟩
 ·refine kt_call_dict hS (hd _ I.kIn) (by rw [← Paired.length rel]; exact hz) fun h' dd' hs=>?_
  have hf:=I.hok.fresh (AD s.heap.objs.size)
  refine ⟨.ref s.heap.objs.size,upd H s.heap.objs.size (.dK kvs),I.laid (t':=s.toks) (fun b o e=>(hs.2 b (AU (AK e))).trans (AH _ e)) (AD _) (dk_new hz (beq_eq_false_iff_ne.mpr (Ne.symm (AU I.big))) rel dd'),rfl,q _ hf⟩
def CDiv64 (i j:Int):Prop:=0 < j∧j < 2 ^ 64
theorem op_fdiv64:OpR X (binaryOp .FloorDiv) (rI CDiv64 fun i j=>.int (i / j)):=opI fun i j _ _ s Q E hc q=>by
 have e:i.fdiv j=i / j:=Int.fdiv_eq_ediv_of_nonneg i (Int.le_of_lt hc.1)
 refine floordiv_int (by have:=hc.1; lia) (by rw [e]; exact q) (.inl (PyProof.noPylong_of_log2 ?_))
 have h1:j.natAbs < 2 ^ 64:=by have:=hc.2; have:=hc.1; lia
 have h2:j.natAbs.log2 < 64:=(Nat.log2_lt (by have:=hc.1; lia)).mpr h1
 lia
end
mutual
inductive Rp (K:PySem.W.Frag) (H:Hp):V→PyData→Prop
 | non:Rp K H .non .none
 | bl (b:Bool):Rp K H (.bl b) (.bool b)
 | int (i:Int):Rp K H (.int i) (.int i)
 | str (x:Str):Rp K H (.str x) (.str x)
 | tup {a:Addr} {xs:List V} {ds:List PyData}:SqT K H a xs→Rps K H xs ds→Rp K H (.ref a) (.tuple ds)
 | lst {a:Addr} {xs:List V} {ds:List PyData}:SqL K H a xs→Rps K H xs ds→Rp K H (.ref a) (.list ds)
inductive Rps (K:PySem.W.Frag) (H:Hp):List V→List PyData→Prop
 | nil:Rps K H [] []
 | cons {x:V} {d:PyData} {xs:List V} {ds:List PyData}:Rp K H x d→Rps K H xs ds→Rps K H (x :: xs) (d :: ds)
end
theorem Same.sqT {K:PySem.W.Frag} {H H':Hp} {a:Addr} {xs:List V} (e:Same H H') (h:SqT K H a xs):SqT K H' a xs:=by
 rcases h with (h | ⟨o,h⟩) | h
 ·exact .inl (.inl (e _ _ h))
 ·exact .inl (.inr ⟨o,e _ _ h⟩)
 ·exact .inr h
theorem Rp.same {K:PySem.W.Frag} {H H':Hp} (s:Same H H') {v:V} {d:PyData} (h:Rp K H v d):Rp K H' v d :=
 Rp.rec (motive_1:=fun v d _=>Rp K H' v d) (motive_2:=fun v d _=>Rps K H' v d) .non .bl .int .str (fun h _ r=>.tup (s.sqT h) r) (fun h _ r=>.lst (s.seq h) r) .nil (fun _ _ a b=>.cons a b) h
theorem Rps.length {K:PySem.W.Frag} {H:Hp}:∀ {v:List V} {d:List PyData},Rps K H v d→v.length=d.length
 | _,_,.nil=>rfl
 | _,_,.cons _ r=>by rw [AO,AO,Rps.length r]
theorem Rps.get {K:PySem.W.Frag} {H:Hp}:∀ {v:List V} {d:List PyData} {i:Nat} {x:PyData},Rps K H v d→d[i]?=some x→∃ y,v[i]?=some y∧Rp K H y x
 | _,_,_,_,.nil,e=>by simp at e
 | _,_,0,_,.cons h _,e=>by simp at e; subst e; exact ⟨_,rfl,h⟩
 | _,_,i + 1,x,.cons _ r,e=>by
  obtain ⟨y,h1,h2⟩:=Rps.get (i:=i) (x:=x) r (by simpa using e)
  exact ⟨y,by simpa using h1,h2⟩
section
variable {X:Cx} {pins:List (Addr×Obj)} {σ:St} {H:Hp} {s:Shared}
theorem Rp.reads (I:Inv X pins σ H s) {v:V} {d:PyData} {u:Value} (h:Rp X.K H v d) (r:RelV v u):∃ as,Reads s.heap u d as:=by
 refine Rp.rec (motive_1:=fun v d _=>∀ u,RelV v u→∃ as,Reads s.heap u d as) (motive_2:=fun v d _=>∀ u,Vals v u→∃ as,ReadsAll s.heap u d as) ?_ ?_ ?_ ?_ ?_ ?_ ?_ ?_ h u r
 ·intro u r; cases (show _=A7 from r); exact ⟨_,Reads.none⟩
 ·intro b u r; cases (show _=Value.bool b from r); exact ⟨_,Reads.bool b⟩
 ·intro i u r; obtain ⟨t,rfl⟩:=r; exact ⟨_,Reads.int i t⟩
 ·intro x u r; obtain ⟨t,rfl⟩:=r; exact ⟨_,Reads.str x t⟩
 ·intro a xs ds h q ih u r
  cases (show _=Ac _ from r)
  obtain ⟨its,rv,⟨o,e,c,n,d⟩,_⟩:=I.tuple h
  obtain ⟨as,z⟩:=ih _ rv
  exact ⟨as,reads_tuple_at e c d (by simpa using z)⟩
 ·intro a xs ds h q ih u r
  cases (show _=Ac _ from r)
  obtain ⟨its,rv,⟨o,n,e,c,_,d⟩,_⟩:=I.list h
  obtain ⟨as,z⟩:=ih _ rv
  exact ⟨_,reads_list_at e c d (by simpa using z)⟩
 ·intro u r; cases r; exact ⟨_,ReadsAll.nil⟩
 ·intro x d xs ds h q i1 i2 u r
  cases r with
  | cons r t =>
   obtain ⟨as,a⟩:=i1 _ r
   obtain ⟨bs,b⟩:=i2 _ t
   exact ⟨_,ReadsAll.cons a b⟩
theorem Rps.reads (I:Inv X pins σ H s) {v:List V} {d:List PyData} {u:List Value} (h:Rps X.K H v d) (r:Vals v u):∃ as,ReadsAll s.heap u d as:=by
 refine Rps.rec (motive_1:=fun _ _ _=>True) (motive_2:=fun v d _=>∀ u,Vals v u→∃ as,ReadsAll s.heap u d as) trivial (fun _=>trivial) (fun _=>trivial) (fun _=>trivial) (fun _ _ _=>trivial) (fun _ _ _=>trivial) ?_ ?_ h u r
 ·intro u r; cases r; exact ⟨_,ReadsAll.nil⟩
 ·intro x d xs ds h q _ i2 u r
  cases r with
  | cons r t =>
   obtain ⟨as,a⟩:=h.reads I r
   obtain ⟨bs,b⟩:=i2 _ t
   exact ⟨_,ReadsAll.cons a b⟩
inductive PrEqD (K:PySem.W.Frag) (neg:Bool) (x:V) (y:V) (H:Hp) (Q:VK):Prop
 | mk (d e:_) (h0:Rp K H x d) (h1:Rp K H y e) (h2:SeqAt.shaped d=true) (h3:SeqAt.shaped e=true) (h4:Q (.bl (if neg then !PyData.eqv d e else PyData.eqv d e)) H):PrEqD K neg x y H Q
def rEqD (K:PySem.W.Frag) (neg:Bool):R2:=fun x y H Q=>PrEqD K neg x y H Q
theorem op_eqD (hu:X.A.units + 64 < cLine):OpR X (compareOp .Eq) (rEqD X.K false):=by
 intro pins s σ H x y v u Q I rx ry h
 obtain ⟨d,e,hd,he,sd,se,q⟩:=h
 obtain ⟨as,ra⟩:=hd.reads I rx
 obtain ⟨bs,rb⟩:=he.reads I ry
 exact eq_dataH ra rb sd se hu ⟨.bl _,H,I,rfl,q⟩
theorem op_neD (hu:X.A.units + 64 < cLine):OpR X (compareOp .NotEq) (rEqD X.K true):=by
 intro pins s σ H x y v u Q I rx ry h
 obtain ⟨d,e,hd,he,sd,se,q⟩:=h
 obtain ⟨as,ra⟩:=hd.reads I rx
 obtain ⟨bs,rb⟩:=he.reads I ry
 exact ne_dataH ra rb sd se hu ⟨.bl _,H,I,rfl,q⟩
end
structure Fn (P:Program) (w:World) (K:PySem.W.Frag) (mg:Str→Option Value) (base:Heap) (x:Str) (k:Nat) (ps:List Str) (sp:Sp):Prop where
 ex:∃ f fd,FnOk P w K mg base (CX1 P w) k f fd ps sp∧mg x=some (.ref f)∧Ah K (.ref f)=true∧Binds K fd ps []
structure Mt (P:Program) (w:World) (K:PySem.W.Frag) (mg:Str→Option Value) (base:Heap) (C:Addr) (m:Str) (k:Nat) (ps:List Str) (sp:Sp):Prop where
 ex:∃ f fd,FnOk P w K mg base (CX1 P w) k f fd ps sp∧Meth K C m f∧Cls K C∧Binds K fd ps []
structure Mc (P:Program) (w:World) (K:PySem.W.Frag) (mg:Str→Option Value) (base:Heap) (x:Str) (C:Addr) (k:Nat) (ps:List Str) (sp:Sp):Prop where
 ex:∃ f fd,FnOk P w K mg base (CX1 P w) k f fd ps sp∧Mk K C f∧mg x=some (.ref C)∧Binds K fd ps []
section
variable {X:Cx} {k:Nat} {C:Addr} {ps:List Str} {sp:Sp} {E:XK} {x m:Str} {p pos apos:Pos} {e o:Expr} {es:List Expr} {ta:TE} {t:TA}
theorem pf_call (F:Fn X.prog X.w X.K X.mg X.base x k ps sp) (hr:Room k X.A) (hg:Gl X x) (hx:Passes (CX1 X.prog X.w) X E) (ha:PA X (e :: es) t) (hdb:(x == ("__debug__":Str))=false:=by decide)
  (he:Af (e :: es) X.env=(false,eval e X.env) :: Af es X.env:=by rfl) (hpl:(backTo pos (Af es X.env)).any (·.1)=false:=by rfl):PE X (.Call (.Name x p) (e :: es) [] pos) (tCall sp [] E t):=by
 obtain ⟨f,fd,ok,mgf,kp,bi⟩:=F.ex
 exact pe_call ok hr hg mgf kp bi .nil hx ha hdb he hpl
theorem pf_meth {pl:Sem Bool} (F:Mt X.prog X.w X.K X.mg X.base C m k ps sp) (ho:PE X o ta) (hr:Room k X.A) (hx:Passes (CX1 X.prog X.w) X E) (ha:PA X (e :: es) t)
  (hst:Af (e :: es) X.env=(false,eval e X.env) :: Af es X.env:=by rfl) (hpl:(backTo pos (Af es X.env)).any (·.1)=false:=by rfl)
  (ht:eval (.Call (.Attribute o m apos) (e :: es) [] pos) X.env=(do
   let ov ← eval o X.env
   standAt apos.atName
   let (f,first) ← holding [ov] (getMethod ov m pl)
   callWith pos f first (backTo pos (Af (e :: es) X.env)) (backToKw pos (keywordEach [] X.env))):=by rfl) :
  PE X (.Call (.Attribute o m apos) (e :: es) [] pos) (tMeth C m sp [] E ta t):=by
 obtain ⟨f,fd,ok,mt,cl,bi⟩:=F.ex
 exact pe_meth (pl:=pl) ho cl mt ok hr bi .nil hx ha hst hpl ht
theorem pf_make (F:Mc X.prog X.w X.K X.mg X.base x C k ps sp) (hr:Room (k + 1) X.A) (hg:Gl X x) (hx:Passes (CX1 X.prog X.w) X E) (ha:PA X (e :: es) t) (hdb:(x == ("__debug__":Str))=false:=by decide)
  (he:Af (e :: es) X.env=(false,eval e X.env) :: Af es X.env:=by rfl) (hpl:(backTo pos (Af es X.env)).any (·.1)=false:=by rfl):PE X (.Call (.Name x p) (e :: es) [] pos) (tMake C sp [] E t):=by
 obtain ⟨f,fd,ok,mk,mgx,bi⟩:=F.ex
 exact pe_make mk ok hr hg mgx bi .nil hx ha hdb he hpl
end
section
variable {X:Cx} {es:List Expr} {env:Env}
end
section
variable {X:Cx} {elt iter tg:Expr} {ifs:List Expr} {scope:Scope} {pos:Pos} {own capn:List Str} {capI:List Nat} {wi:TI} {g:TG} {tt:TT} {te:TE}
theorem ps_setC {i:Nat} {y:Str} {py spos:Pos} (hN:X.N.Nodup) (hi:X.N[i]?=some y) (hy:Loc X.env.scope y) (hex:X.ex=[]) (hc:X.calm=true) (B:BlkScope X scope own capn capI) (hit:PI X tg iter wi) (hg:∀ cl C s H fp pins,PG (X.blk scope (own++capn) cl C s H fp pins) tg g)
  (ht:∀ cl C s H fp pins,PIfs (X.blk scope (own++capn) cl C s H fp pins) ifs tt) (he:∀ cl C s H fp pins,PE (X.blk scope (own++capn) cl C s H fp pins) elt te)
  (hs:∀ x,foldedSetIterable iter X.env x=pure x:=by intro _; rfl) (hsw:swapsWith (.ListComp elt [⟨tg,iter,ifs,0⟩] scope pos) (some (.Name y py)) spos.line X.env=pure true:=by rfl)
  (hf:X.fn y=true∨X.env.scope.names.lookup y=some .local:=by first | exact .inl rfl | exact .inr rfl | assumption) :
  PS X (.Assign [.Name y py] (.ListComp elt [⟨tg,iter,ifs,0⟩] scope pos) spos) (tAsg (tLC wi own.length capI g tt te) (gName i)):=by
 intro pins s σ H D0 I h
 rw [exec_Assign_Name_used _ _ _ _ hsw]
 refine AC (wpAny_standAt (AC ?_))
 show wpAny _ X.A (do let _ ← comprehension (.ListComp elt [⟨tg,iter,ifs,0⟩] scope pos) scope X.env _ (newList []) false (eval iter X.env) (some (assign (.Name y py) X.env))) _ _ s
 obtain ⟨cl,hclos,hcl,hcf⟩:=closure_of (env:=X.env) (scope:=scope) (fun y hy hf=>I.ok.has y.1 (.inl (B.free y hy hf)))
 refine AC (wpAny_mono (wpAny_comprehension_free (use:=some (assign (.Name y py) X.env)) (Q:=fun _ s'=>SP X pins D0 .next s') rfl hs hclos B.kind B.names (thn (hit pins s σ H _ I h) fun v s1 h1=>thn h1 fun itv s2 h2=>?_)) (fun _ s' hq=>AM (AM hq)) fun _ _ e=>e)
 obtain ⟨it,fp,tn,J,H2,e,I2,T,st2,f2,hW⟩:=h2
 subst e
 obtain ⟨W,⟨m0,w0⟩,turn⟩:=hW s2.heap.objs.size (I2.hok.fresh (AD _))
 refine wpAny_newObj_type (wpAny_newFunctionEnv B.cell (by intro y hy; simp at hy) (fun h4 hns hsb=>?_) B.kind)
 dsimp only at hns hsb ⊢
 have I3:Inv X pins σ (upd H2 s2.heap.objs.size (.lst [])) { s2 with heap:=s2.heap.push { cls:=.type "list",dict:=none,data:=.seq ([]:List Value).toArray } } :=
  I2.laid (t':=s2.toks) (fun b u e=>AH _ e) (AD _) ⟨Ai _,[],0,.nil,Al _ rfl⟩
 generalize hs3:({ s2 with heap:=s2.heap.push { cls:=.type "list",dict:=none,data:=.seq ([]:List Value).toArray } }:Shared)=s3 at I3
 have e3:s2.heap.push { cls:=.type "list",dict:=none,data:=.seq ([]:List Value).toArray }=s3.heap:=by rw [← hs3]
 have ob2:∀ b∈fp,∃ o,s2.heap.get? b=some o:=fun b hb=>let ⟨o,z,_⟩:=T.obj _ _ st2 b hb; ⟨o,z⟩
 have up3:∀ b o,s2.heap.get? b=some o→s3.heap.get? b=some o:=fun b o z=>by
  rw [← e3]
  exact AH _ z
 have f3:∀ b∈fp,FpOk X pins (upd H2 s2.heap.objs.size (.lst [])) b:=fun b hb=>by
  obtain ⟨o,z⟩:=ob2 b hb
  exact ⟨by rw [upd_ne (AU (AK z))]; exact (f2 b hb).1,(f2 b hb).2⟩
 have ob3:∀ b∈fp,∃ o,s3.heap.get? b=some o:=fun b hb=>let ⟨o,z⟩:=ob2 b hb; ⟨o,up3 b o z⟩
 rw [e3] at hns hsb ⊢
 have up4:∀ b o,s3.heap.get? b=some o→h4.get? b=some o:=fun b o z=>(hsb.2 b (AU (AK z))).trans (AH _ z)
 have IB:=blk_start (t':=s2.toks + ([]:List (Str×Value)).length) B I3 f3 ob3 hcl hcf hns up4
 have e4:({ s3 with heap:=h4,toks:=s2.toks + ([]:List (Str×Value)).length }:Shared)={ s2 with heap:=h4,toks:=s2.toks + ([]:List (Str×Value)).length }:=by rw [← hs3]
 rw [e4] at IB
 have tn4:tn 0 h4:=T.keep _ _ _ st2 fun b hb o z=>up4 b o (up3 b o z)
 have fst:∀ {H':Hp},(∀ b∈fp,H' b=none)→∀ b∈fp,FpOk (X.blk scope (own++capn) cl s3.heap.objs.size s3 (upd H2 s2.heap.objs.size (.lst [])) fp pins) [] H' b:=fun {H'} hn b hb=>by
  obtain ⟨o,z⟩:=ob3 b hb
  refine ⟨hn b hb,AU (AK z),fun y=>?_,.inl hb,fun x c ec=>(f3 b hb).2.2.2.2.1 x c (hcl x c ec),fun p hp=>(f3 b hb).2.2.2.2.2 p (by have y:p∈(X.pn++pins)++[]:=hp; simpa using y)⟩
  rcases AW.mp (I3.stkSub b y) with y | y
  ·exact (f3 b hb).2.1 y
  ·exact (f3 b hb).2.2.1 y
 have loop:codeAny (model X.prog X.w) X.A (.compLoop (.ListComp elt [⟨tg,iter,ifs,0⟩] scope pos) 0 (.ref it) (.ref s2.heap.objs.size) (compEnvC scope cl s3.heap.objs.size X.env))
   (compPost (model X.prog X.w) X.A X.xe (some (assign (.Name y py) X.env)) (fun _ s'=>SP X pins D0 .next s') (.ref s2.heap.objs.size) s3.heap.objs.size) { s2 with heap:=h4,toks:=s2.toks + ([]:List (Str×Value)).length }:=by
  refine comp_loop (fun n s'=>∃ i σ' acc H',Inv (X.blk scope (own++capn) cl s3.heap.objs.size s3 (upd H2 s2.heap.objs.size (.lst [])) fp pins) [] σ' H' s'∧tn i s'.heap∧(∀ b∈fp,H' b=none)∧W i n σ' acc H') ?_ m0 ⟨0,_,[],_,IB,tn4,fun b hb=>(f3 b hb).1,w0⟩
  rintro n s5 ⟨i,σ5,acc,H5,I5,st5,fr5,w5⟩
  have no:∀ {α:Type} {t:Sem α} {Q:α→Shared→Prop} {E:Value→Shared→Prop} {s:Shared},wpAny (model X.prog X.w) X.A t Q (fun _ _=>False) s→wpAny (model X.prog X.w) X.A t Q E s:=fun z=>wpAny_mono z (fun _ _ y=>y) fun _ _ y=>y.elim
  rcases turn i n σ5 acc H5 w5 with ⟨stop,qn⟩ | ⟨go,step⟩
  ·refine no (thn (T.done (X.blk scope (own++capn) cl s3.heap.objs.size s3 (upd H2 s2.heap.objs.size (.lst [])) fp pins) rfl rfl rfl hc i [] s5 σ5 H5 _ I5 (fst fr5) st5 stop) fun r s6 ⟨hr,I6⟩=>?_)
   subst hr
   obtain ⟨m,hm,_⟩:=id I6.loc
   have IX:Inv X pins σ H5 s6:=blk_end I3 f3 I6 (Heap.SameBut.refl _ _)
   have fC:∀ b∈[s3.heap.objs.size],FpOk X pins H5 b:=fun b hb=>by
    obtain rfl:b=s3.heap.objs.size:=by simpa using hb
    exact I3.fpOk (AD _) I6.free
   obtain ⟨oC,esC,epC,hoC,hdC,hrC⟩:=id hm
   have Ip:=IX.pinned fC (fun b hb=>by
    obtain rfl:b=s3.heap.objs.size:=by simpa using hb
    exact ⟨oC,hoC,fun v z=>by rw [hdC] at z; cases z⟩)
   have apC:=I3.apart hex (Heap.get?_none_of_le (AD s3.heap.objs.size))
   have nfC:=I3.nofs (AD s3.heap.objs.size)
   show wpAny _ X.A (assign (.Name y py) X.env (.ref s2.heap.objs.size)) _ _ _
   refine wpAny_assign_Name (store_ok Ip hN hi hy (v:=.ref s2.heap.objs.size) rfl (fun s7 I7=>?_) hf)
   have hC7:s7.heap.get? s3.heap.objs.size=some oC:=(I7.pin (s3.heap.objs.size,oC) (Ad _ (Ad _ (mem_pinsAt (by simp) hoC)))).1
   refine ⟨m,⟨oC,esC,epC,hC7,hdC,hrC⟩,fun h' hs'=>⟨_,H5,?_,qn⟩⟩
   exact I7.unpinned.recd apC I6.free nfC fun b o hb z=>(hs'.2 b hb).trans z
  ·refine no (thn (T.item (X.blk scope (own++capn) cl s3.heap.objs.size s3 (upd H2 s2.heap.objs.size (.lst [])) fp pins) rfl rfl rfl hc i [] s5 σ5 H5 _ I5 (fst fr5) st5 go) fun r s6 ⟨u,hr,h6⟩=>?_)
   subst hr
   refine no (thn h6 fun _ s7 ⟨x,H7,I7,r7,y7,st7,fr7⟩=>?_)
   have I7':=I7.pinned (fst fr7) (T.obj _ _ st7)
   have kp:∀ {σ8:St} {H8:Hp} {s8:Shared},Inv (X.blk scope (own++capn) cl s3.heap.objs.size s3 (upd H2 s2.heap.objs.size (.lst [])) fp pins) ([]++pinsAt fp s7.heap) σ8 H8 s8→tn (i + 1) s8.heap∧∀ b∈fp,H8 b=none:=fun {σ8 H8 s8} I8=>by
    refine ⟨T.keep _ _ _ st7 fun b hb o z=>(I8.pin (b,o) (Ad _ (Ad _ (mem_pinsAt hb z)))).1,fun b hb=>?_⟩
    obtain ⟨o,z,d⟩:=T.obj _ _ st7 b hb
    exact (I8.pin (b,o) (Ad _ (Ad _ (mem_pinsAt hb z)))).2.1
   refine no (thn (hg cl s3.heap.objs.size s3 _ fp pins _ s7 σ5 H7 x u _ I7' r7 (step x H7 y7)) fun _ s8 ⟨σ8,H8,I8,q8⟩=>?_)
   refine no (thn (ht cl s3.heap.objs.size s3 _ fp pins _ s8 σ8 H8 _ I8 q8) fun b s9 ⟨H9,I9,q9⟩=>?_)
   cases b with
   | false =>
    obtain ⟨m',hm,w9⟩:=q9
    exact ⟨m',hm,i + 1,σ8,acc,H9,I9.unpinned,(kp I9).1,(kp I9).2,w9⟩
   | true =>
    refine no (thn (he cl s3.heap.objs.size s3 _ fp pins _ s9 σ8 H9 _ I9 q9) fun y s10 ⟨yv,H10,I10,r10,hD,hz,m',hm,w10⟩=>?_)
    refine no (thn (mt_append _ s10 σ8 H10 (.ref s2.heap.objs.size) [yv] (.ref s2.heap.objs.size) [y] (fun v H11=>v=.non∧H11=upd H10 s2.heap.objs.size (.lst (acc++[yv]))) I10 rfl (.cons r10 .nil) ⟨_,acc,yv,rfl,rfl,hD,hz,rfl,rfl⟩) fun _ s11 ⟨_,H11,I11,_,_,e11⟩=>?_)
    subst e11
    exact ⟨m',hm,i + 1,σ8,acc++[yv],_,I11.unpinned,(kp I11).1,(kp I11).2,w10⟩
 exact codeAny_compStart_list loop (T.self _ 0 _ _ _ tn4 loop)
end
section
variable {X:Cx}
end
section
variable {prog:Program} {w:World} {A:Around} {E:Value→Shared→Prop} {s:Shared}
end
section
variable {prog:Program} {w:World} {K:Type} [DecidableEq K] {knd:KeyKind prog w K} {A:Around}
end
section
variable {prog:Program} {w:World} {K:Type} [DecidableEq K] {knd:KeyKind prog w K} {A:Around}
end
section
variable {X:Cx}
end
section
variable {X:Cx} {e st:Expr} {te:TE} {lo hi:Option Expr} {tl th ts:TO} {pos p2:Pos}
theorem rg_ask {lo:Int} {n i:Nat} {H:Hp} {A:Prop} {B:V→Hp→Prop} (hi:i≤n) (hs:i < n→B (.int (lo + i)) H) (hd:i=n→A) :
  ((Itr lo n).stop i H∧A)∨((Itr lo n).go i H∧∀ x H',(Itr lo n).yld i H x H'→B x H'):=by
 by_cases hlt:i < n
 ·refine .inr ⟨hlt,fun x H' y=>?_⟩
  obtain ⟨rfl,rfl⟩:=y
  exact hs hlt
 ·exact .inl ⟨by show n≤i; lia,hd (by lia)⟩
theorem ints_items:∀ {ns:List Int} {its:List Value},Vals (ns.map V.int) its→∃ xs:List (Int×Tok),its=xs.map fun p=>Value.int p.1 p.2
 | [],its,h=>by cases h; exact ⟨[],rfl⟩
 | n :: ns,its,h=>by
  cases h with
  | cons a b =>
   obtain ⟨t,rfl⟩:=a
   obtain ⟨xs,rfl⟩:=ints_items b
   exact ⟨(n,t) :: xs,rfl⟩
def rSumW (K:PySem.W.Frag) (xs:List V) (H:Hp) (Q:VK):Prop:=∃ (l:Addr) (ns:List Int),xs=[.ref l]∧SqL K H l (ns.map V.int)∧∀ z:Int,Q (.int z) H
theorem call_sumW (hc:X.calm=true):CallR X (.builtin "sum") (rSumW X.K):=by
 intro pins s σ H xs us Q I r h
 obtain ⟨l,ns,rfl,hl,q⟩:=h
 obtain ⟨u,rfl,ru⟩:=vals1 r
 obtain rfl:u=Ac l:=ru
 obtain ⟨its,v,P1,z1⟩:=I.list hl
 obtain ⟨ys,rfl⟩:=ints_items v
 have hl':s.heap.IsList l (intItems ys.toArray):=by
  have:=P1.isList
  rw [show (ys.map fun p=>Value.int p.1 p.2).toArray=intItems ys.toArray by unfold intItems; simp] at this
  exact this
 exact sum_intListG (I.ok.hd hc) hl' fun h' tk t' hk=>⟨.int _,H,I.kept (t':=tk) hk,⟨t',rfl⟩,q _⟩
end
section
variable {X:Cx} {pins:List (Addr×Obj)} {σ:List (Option V)} {H H':Hp} {s:Shared} {h':Heap}
theorem Inv.turnedL {t':Nat} {wr:List Addr} (I:Inv X pins σ H s) (k:∀ b o,b ∉ wr→s.heap.get? b=some o→h'.get? b=some o) (hf:∀ b∈wr,FpOk X pins H b):Inv X pins σ H { s with heap:=h',toks:=t' }:=by
 have nit:∀ b u,H b=some u→b ∉ wr:=fun b u e z=>by rw [(hf b z).1] at e; cases e
 refine I.step (g':=s.gens) (d':=s.drawn) (ch:=wr) (fun b hb=>⟨(hf b hb).2.2.2.1,(hf b hb).2.1,(hf b hb).2.2.2.2.1,(hf b hb).2.2.2.2.2⟩) (fun b o _ _ hc e _=>k b o hc e) (fun b o _ _ hc e _=>⟨o.slots,k b o hc e⟩) (fun _ _ _ _ n=>n)
  (fun b o hc e=>⟨o,k b o hc e⟩) (fun _ _ e=>e) (fun _ _ _ e=>e) (fun b ps e=>⟨#[],by rw [e]; simp⟩) (fun m hm=>?_) (fun b u e=>?_) I.bare
 ·obtain ⟨o,es,ep,ho,r⟩:=hm
  exact ⟨o,es,ep,k _ o (fun z=>(hf _ z).2.1 rfl) ho,r⟩
 ·refine (I.hok b u e).stay (fun c v hc q=>k c v ?_ q) (fun _ q=>q) fun _ _ q=>q
  rcases hc with z | z
  ·rw [z]; exact nit b u e
  ·exact nit c _ z
theorem Inv.turnedT {t':Nat} {wr:List Addr} {T:Addr} {xs:List V} {its:List Value} (I:Inv X pins σ H s) (k:∀ b o,b ∉ wr→s.heap.get? b=some o→h'.get? b=some o) (hf:∀ b∈wr,FpOk X pins H b)
  (hT:s.heap.objs.size≤T) (hw:T ∉ wr) (rv:Vals xs its) (hl:xs.length≤AL) (ht:IsTup h' T its.toArray):Inv X pins σ (upd H T (.tup xs)) { s with heap:=h',toks:=t' }:=by
 have hn:H T=none:=I.hok.fresh hT
 have neT:∀ b o,s.heap.get? b=some o→b≠T:=fun b o e=>AU (Aa (AK e) hT)
 have nit:∀ b u,H b=some u→b ∉ wr:=fun b u e z=>by rw [(hf b z).1] at e; cases e
 refine I.step (g':=s.gens) (d':=s.drawn) (ch:=wr) (fun b hb=>⟨(hf b hb).2.2.2.1,(hf b hb).2.1,(hf b hb).2.2.2.2.1,(hf b hb).2.2.2.2.2⟩) (fun b o _ _ hc e _=>k b o hc e) (fun b o _ _ hc e _=>⟨o.slots,k b o hc e⟩) (fun b o _ e n=>by rw [upd_ne (neT b o e)]; exact n)
  (fun b o hc e=>⟨o,k b o hc e⟩) (fun b xs e=>by rw [upd_ne (ne_of_none e hn)]; exact e) (fun b _ _ e=>by rw [upd_ne (ne_of_none e hn)]; exact e) (fun b ps e=>⟨#[],by rw [upd_ne (ne_of_none e hn),e]; simp⟩) (fun m hm=>?_) (fun b u e=>?_) I.bare
 ·obtain ⟨o,es,ep,ho,r⟩:=hm
  exact ⟨o,es,ep,k _ o (fun z=>(hf _ z).2.1 rfl) ho,r⟩
 ·by_cases hb:b=T
  ·subst hb
   rw [upd_same] at e
   cases e
   exact ⟨hl,its,rv,ht⟩
  ·rw [upd_ne hb] at e
   refine (I.hok b u e).stay (fun c v hc q=>k c v ?_ q) (fun c q=>?_) fun c _ q=>?_
   ·rcases hc with z | z
    ·rw [z]; exact nit b u e
    ·exact nit c _ z
   ·rw [upd_ne (ne_of_none q hn)]; exact q
   ·rw [upd_ne (ne_of_none q hn)]; exact q
end
theorem turn_pair {X:Cx} {pins:List (Addr×Obj)} {σ:St} {H:Hp} {s:Shared} {E:Value→Shared→Prop} {z:Addr} {fpw wr:List Addr} {n i:Nat} {Pt:Nat→Array Value→Prop} {St':Nat→Heap→Prop} {Mid:Nat→Addr→Heap→Prop}
  {elts:List Expr} {kk:Nat} {pos:Pos} {Yl:V→Hp→Prop} {Tn:Heap→Prop} {fp:List Addr}
  (W:WalksT X.prog X.w X.A z fpw wr n Pt St' Mid) (I:Inv X pins σ H s) (hf:∀ b∈fp,FpOk X pins H b) (hfp:∀ b∈fp,∃ o,s.heap.get? b=some o) (hwr:∀ b∈wr,b∈fp) (hi:i < n) (st:St' i s.heap) (hn:∀ h,St' (i + 1) h→Tn h)
  (hv:∀ vals,Pt i vals→∃ xs:List V,Vals xs vals.toList∧xs.length≤AL∧∀ T,H T=none→Yl (.ref T) (upd H T (.tup xs))) :
  wpAny (model X.prog X.w) X.A (pyNext (.ref z)) (fun r s1=>∃ u,r=some u ∧
   wpAny (model X.prog X.w) X.A (letOwnedTupleGo (.Tuple elts kk pos) (.ref z) u) (fun _ s2=>∃ x H',Inv X pins σ H' s2∧RelV x u∧Yl x H'∧Tn s2.heap∧∀ b∈fp,H' b=none) E s1) E s:=by
 refine W.item i s _ E hi st fun T vals h' tk hp hT ht hm hk=>⟨_,rfl,?_⟩
 obtain ⟨xs,rv,hl,hy⟩:=hv vals hp
 have hTw:T ∉ wr:=W.apart i T h' hm
 have hTn:H T=none:=I.hok.fresh hT
 have hwf:∀ b∈wr,FpOk X pins H b:=fun b hb=>hf b (hwr b hb)
 have ht':IsTup h' T vals.toList.toArray:=by
  rw [Array.toArray_toList]
  exact ht
 have I1:Inv X pins σ (upd H T (.tup xs)) { s with heap:=h',toks:=tk }:=I.turnedT hk hwf hT hTw rv hl ht'
 have neT:∀ b∈fp,b≠T:=fun b hb e=>by
  subst e
  obtain ⟨o,q⟩:=hfp b hb
  exact absurd (Aa (AK q) hT) (Nat.lt_irrefl _)
 have hw2:∀ b∈wr,FpOk X pins (upd H T (.tup xs)) b:=fun b hb=>⟨by rw [upd_ne (neT b (hwr b hb))]; exact (hwf b hb).1,(hwf b hb).2⟩
 refine W.go elts kk pos i T _ _ _ hm fun h2 st2 hk2=>?_
 have I2:=I1.turnedL (t':=tk) (h':=h2) hk2 hw2
 exact ⟨.ref T,_,I2,rfl,hy T hTn,hn _ st2,fun b hb=>by rw [upd_ne (neT b hb)]; exact (hf b hb).1⟩
theorem turn_pair_end {X:Cx} {pins:List (Addr×Obj)} {σ:St} {H:Hp} {s:Shared} {E:Value→Shared→Prop} {z:Addr} {fpw wr:List Addr} {n:Nat} {Pt:Nat→Array Value→Prop} {St':Nat→Heap→Prop} {Mid:Nat→Addr→Heap→Prop}
  (W:WalksT X.prog X.w X.A z fpw wr n Pt St' Mid) (I:Inv X pins σ H s) (hf:∀ b∈wr,FpOk X pins H b) (st:St' n s.heap) :
  wpAny (model X.prog X.w) X.A (pyNext (.ref z)) (fun r s1=>r=none∧Inv X pins σ H s1) E s :=
 W.done s _ E st fun h' tk hk=>⟨rfl,I.turnedL hk hf⟩
def Ite (K:PySem.W.Frag) (a:Addr):It :=
 ⟨fun i H=>∃ xs x,SqL K H a xs∧xs[i]?=some x,fun i H v H'=>∃ T,v=.ref T∧H T=none∧∀ xs x,SqL K H a xs→xs[i]?=some x→H'=upd H T (.tup [.int i,x]),fun i H=>∃ xs,SqL K H a xs∧xs.length=i⟩
def Itz (K:PySem.W.Frag) (a b:Addr):It :=
 ⟨fun i H=>∃ xs ys x y,SqL K H a xs∧SqL K H b ys∧xs[i]?=some x∧ys[i]?=some y,fun i H v H'=>∃ T,v=.ref T∧H T=none∧∀ xs ys x y,SqL K H a xs→SqL K H b ys→xs[i]?=some x→ys[i]?=some y→H'=upd H T (.tup [x,y]),
  fun i H=>∃ xs ys,SqL K H a xs∧SqL K H b ys∧min xs.length ys.length=i⟩
theorem vals_two {x y:V} {u v:Value} (h1:RelV x u) (h2:RelV y v):Vals [x,y] [u,v]:=.cons h1 (.cons h2 .nil)
theorem turn_enum {P:Program} {w:World} {K:PySem.W.Frag} {elts:List Expr} {kk:Nat} {pos:Pos} (e it a:Addr) (hei:e≠it) (hae:a≠e) (hai:a≠it) :
  Turn P w K (.Tuple elts kk pos) (Ite K a) [e,it] e (fun i h=>(∃ old,IsEnum h e it i old)∧h.IsListIter it a i) where
 mem:=by simp
 obj:=fun i h st b hb=>by
  obtain ⟨⟨old,h1⟩,o,h2,c,d⟩:=st
  rcases AW.mp hb with rfl | hb
  ·exact ⟨_,h1,fun v z=>by
    have z':Data.fields _=Data.cell v:=z
    cases z'⟩
  ·have e':b=it:=by simpa using hb
   subst e'
   exact ⟨o,h2,fun v z=>by rw [d] at z; cases z⟩
 keep:=fun i h h' st k=>by
  obtain ⟨⟨old,h1⟩,h2⟩:=st
  exact ⟨⟨old,k e (by simp) _ h1⟩,h2.at fun o q=>k it (by simp) o q⟩
 item:=by
  intro X hP hw hK hc i pins s σ H E I hf st hg
  subst hP hw hK
  obtain ⟨xs,x,hq,hx⟩:=hg
  obtain ⟨its,rv,p,hz⟩:=I.list hq
  obtain ⟨u,hu,ru⟩:=rv.get hx
  have hil:i < its.length:=by
   obtain ⟨h,_⟩:=AE.mp hu
   exact h
  refine turn_pair (Yl:=fun x H'=>(Ite X.K a).yld i H x H') (Tn:=fun h=>(∃ old,IsEnum h e it ((i + 1:Nat):Int) old)∧h.IsListIter it a (i + 1)) (WalksT.enumerate (I.ok.hd hc) e it a hei hae hai its.toArray) I hf (fun b hb=>?_) (fun b hb=>hb) (by simpa using hil) ⟨st.1,st.2,p.isList⟩ (fun h q=>⟨q.1,q.2.1⟩) fun vals hp=>?_
  ·obtain ⟨⟨old,h1⟩,o,h2,c,d⟩:=st
   rcases AW.mp hb with rfl | hb
   ·exact ⟨_,h1⟩
   ·have e':b=it:=by simpa using hb
    subst e'
    exact ⟨o,h2⟩
  ·obtain ⟨t,y,hy,rfl⟩:=hp
   have hy':its[i]?=some y:=by simpa using hy
   rw [hu] at hy'
   cases hy'
   refine ⟨[.int i,x],vals_two ⟨t,rfl⟩ ru,by show 2≤AL; decide,fun T hT=>⟨T,rfl,hT,fun xs' x' hq' hx'=>?_⟩⟩
   rw [I.list_inj hq' hq,hx] at hx'
   cases hx'
   rfl
 done:=by
  intro X hP hw hK hc i pins s σ H E I hf st hg
  subst hP hw hK
  obtain ⟨xs,hq,hx⟩:=hg
  obtain ⟨its,rv,p,hz⟩:=I.list hq
  have hl:=rv.length
  have hn:its.toArray.size=i:=by simp; lia
  have:=turn_pair_end (E:=E) (WalksT.enumerate (prog:=X.prog) (w:=X.w) (I.ok.hd hc) e it a hei hae hai its.toArray) I hf (by rw [hn]; exact ⟨st.1,st.2,p.isList⟩)
  exact this
 self:=fun _ _ _ _ _ st h=>by
  obtain ⟨⟨old,h1⟩,_⟩:=st
  exact wpAny_pyIter_enum h1 h
theorem turn_zip {P:Program} {w:World} {K:PySem.W.Frag} {elts:List Expr} {kk:Nat} {pos:Pos} (z TI TO i1 i2 a b:Addr) (D:ZipApart z TI TO i1 i2 a b) :
  Turn P w K (.Tuple elts kk pos) (Itz K a b) [z,TI,TO,i1,i2] z (fun i h=>IsZip h z TI TO .none∧IsPair h TI (.ref i1) (.ref i2)∧(∃ a b,IsPair h TO a b)∧h.IsListIter i1 a i∧h.IsListIter i2 b i) where
 mem:=by simp
 obj:=fun i h st c hc=>by
  obtain ⟨h1,h2,⟨x,y,h3⟩,⟨o4,h4,c4,d4⟩,⟨o5,h5,c5,d5⟩⟩:=st
  simp at hc
  rcases hc with rfl | rfl | rfl | rfl | rfl
  ·exact ⟨_,h1,fun v z=>by
    have z':Data.fields _=Data.cell v:=z
    cases z'⟩
  ·exact ⟨_,h2,fun v z=>by
    have z':Data.seq _ _=Data.cell v:=z
    cases z'⟩
  ·exact ⟨_,h3,fun v z=>by
    have z':Data.seq _ _=Data.cell v:=z
    cases z'⟩
  ·exact ⟨o4,h4,fun v z=>by rw [d4] at z; cases z⟩
  ·exact ⟨o5,h5,fun v z=>by rw [d5] at z; cases z⟩
 keep:=fun i h h' st k=>by
  obtain ⟨h1,h2,⟨x,y,h3⟩,h4,h5⟩:=st
  exact ⟨k z (by simp) _ h1,k TI (by simp) _ h2,⟨x,y,k TO (by simp) _ h3⟩,h4.at fun o q=>k i1 (by simp) o q,h5.at fun o q=>k i2 (by simp) o q⟩
 item:=by
  intro X hP hw hK hc i pins s σ H E I hf st hg
  subst hP hw hK
  obtain ⟨xs,ys,x,y,hq1,hq2,hx,hy⟩:=hg
  obtain ⟨its1,rv1,p1,hz1⟩:=I.list hq1
  obtain ⟨u1,hu1,ru1⟩:=rv1.get hx
  obtain ⟨its2,rv2,p2,hz2⟩:=I.list hq2
  obtain ⟨u2,hu2,ru2⟩:=rv2.get hy
  have hi1:i < its1.length:=(AE.mp hu1).1
  have hi2:i < its2.length:=(AE.mp hu2).1
  refine turn_pair (Yl:=fun x H'=>(Itz X.K a b).yld i H x H') (Tn:=fun h=>IsZip h z TI TO .none∧IsPair h TI (.ref i1) (.ref i2)∧(∃ a b,IsPair h TO a b)∧h.IsListIter i1 a (i + 1)∧h.IsListIter i2 b (i + 1)) (WalksT.zip2 (I.ok.hd hc) z TI TO i1 i2 a b D its1.toArray its2.toArray) I hf (fun c hc=>?_) (fun c hc=>by simp at hc ⊢; rcases hc with rfl | rfl | rfl | rfl <;> simp) (by simp; lia) ⟨st.1,st.2.1,st.2.2.1,st.2.2.2.1,st.2.2.2.2,p1.isList,p2.isList⟩
   (fun h q=>⟨q.1,q.2.1,q.2.2.1,q.2.2.2.1,q.2.2.2.2.1⟩) fun vals hp=>?_
  ·obtain ⟨h1,h2,⟨x',y',h3⟩,⟨o4,h4,c4,d4⟩,⟨o5,h5,c5,d5⟩⟩:=st
   simp at hc
   rcases hc with rfl | rfl | rfl | rfl | rfl
   ·exact ⟨_,h1⟩
   ·exact ⟨_,h2⟩
   ·exact ⟨_,h3⟩
   ·exact ⟨_,h4⟩
   ·exact ⟨_,h5⟩
  ·obtain ⟨v1,v2,hv1,hv2,rfl⟩:=hp
   have e1:its1[i]?=some v1:=by simpa using hv1
   have e2:its2[i]?=some v2:=by simpa using hv2
   rw [hu1] at e1
   rw [hu2] at e2
   cases e1
   cases e2
   refine ⟨[x,y],vals_two ru1 ru2,by show 2≤AL; decide,fun T hT=>⟨T,rfl,hT,fun xs' ys' x' y' hq1' hq2' hx' hy'=>?_⟩⟩
   rw [I.list_inj hq1' hq1,hx] at hx'
   rw [I.list_inj hq2' hq2,hy] at hy'
   cases hx'
   cases hy'
   rfl
 done:=by
  intro X hP hw hK hc i pins s σ H E I hf st hg
  subst hP hw hK
  obtain ⟨xs,ys,hq1,hq2,hx⟩:=hg
  obtain ⟨its1,rv1,p1,hz1⟩:=I.list hq1
  obtain ⟨its2,rv2,p2,hz2⟩:=I.list hq2
  have hl1:=rv1.length
  have hl2:=rv2.length
  have hn:min its1.toArray.size its2.toArray.size=i:=by simp; lia
  have:=turn_pair_end (E:=E) (WalksT.zip2 (prog:=X.prog) (w:=X.w) (I.ok.hd hc) z TI TO i1 i2 a b D its1.toArray its2.toArray) I (fun c hc=>hf c (by simp at hc ⊢; rcases hc with rfl | rfl | rfl | rfl <;> simp))
   (by rw [hn]; exact ⟨st.1,st.2.1,st.2.2.1,st.2.2.2.1,st.2.2.2.2,p1.isList,p2.isList⟩)
  exact this
 self:=fun _ _ _ _ _ st h=>wpAny_pyIter_zip st.1 h
section
variable {X:Cx} {elts:List Expr} {kk:Nat} {pt:Pos}
def iEnum (K:PySem.W.Frag) (ta:TA):TI:=fun σ H R=>ta σ H fun vs H1=>∃ a xs,vs=[.ref a]∧SqL K H1 a xs∧R (Ite K a) H1
def iZip (K:PySem.W.Frag) (ta:TA):TI:=fun σ H R=>ta σ H fun vs H1=>∃ a b xs ys,vs=[.ref a,.ref b]∧SqL K H1 a xs∧SqL K H1 b ys∧R (Itz K a b) H1
theorem boot_enum:bootBuiltins "enumerate"=some (.type "enumerate"):=by rfl
theorem pi_enum {a:Expr} {ta:TA} {p pos:Pos} (hg:Gl X "enumerate") (hm:X.mg "enumerate"=none) (ha:PA X [a] ta) (hs:Af [a] X.env=[(false,eval a X.env)]:=by rfl) :
  PI X (.Tuple elts kk pt) (.Call (.Name "enumerate" p) [a] [] pos) (iEnum X.K ta):=by
 intro pins s σ H R I h
 refine Call_ (ld_blt I hg hm boot_enum (PyProof.Rows.callWith_type1 (thn (ha pos pins s σ H _ I h) fun us s1 ⟨vs,H1,I1,r1,q1⟩=>?_) hs rfl))
 obtain ⟨l,xs,e,hq,q⟩:=q1
 subst e
 cases r1 with
 | cons r rr =>
  cases rr
  cases r
  obtain ⟨its,rv,pl,hz⟩:=I1.list hq
  have hll:l < s1.heap.objs.size:=by
   obtain ⟨o,z,_⟩:=pl.isList
   exact AK z
  refine call_enumerate_list pl.isList fun h' he hit hsz hk=>?_
  refine wpAny_pyIter_enum he ?_
  refine ⟨s1.heap.objs.size + 1,[s1.heap.objs.size + 1,s1.heap.objs.size],_,_,H1,rfl,I1.kept (t':=s1.toks) hk,turn_enum (s1.heap.objs.size + 1) s1.heap.objs.size l (Nat.ne_of_gt (Nat.lt_succ_self _)) (AU (Nat.lt_succ_of_lt hll)) (AU hll),⟨⟨_,he⟩,hit⟩,fun b hb=>?_,q⟩
  have hb':s1.heap.objs.size≤b:=by
   simp at hb
   rcases hb with rfl | rfl
   ·exact Nat.le_succ _
   ·exact AD _
  exact I1.fpOk hb' (I1.hok.fresh hb')
theorem pi_zip {a b:Expr} {ta:TA} {p pos:Pos} (hg:Gl X "zip") (hm:X.mg "zip"=none) (ha:PA X [a,b] ta)
  (he:Af [a,b] X.env=(false,eval a X.env) :: Af [b] X.env:=by rfl) (hpl:(backTo pos (Af [b] X.env)).any (·.1)=false:=by rfl) :
  PI X (.Tuple elts kk pt) (.Call (.Name "zip" p) [a,b] [] pos) (iZip X.K ta):=by
 intro pins s σ H R I h
 refine Call_ (ld_blt I hg hm boot_zip (PyProof.Rows.callWith_type1 (thn (ha pos pins s σ H _ I h) fun us s1 ⟨vs,H1,I1,r1,q1⟩=>?_) he hpl))
 obtain ⟨l1,l2,xs,ys,e,hq1,hq2,q⟩:=q1
 subst e
 obtain ⟨u1,u2,rfl,ru1,ru2⟩:=vals2 r1
 obtain rfl:u1=Ac l1:=ru1
 obtain rfl:u2=Ac l2:=ru2
 obtain ⟨i1,v1,P1,z1⟩:=I1.list hq1
 obtain ⟨i2,v2,P2,z2⟩:=I1.list hq2
 have hl1:l1 < s1.heap.objs.size:=by
  obtain ⟨o,z,_⟩:=P1.isList
  exact AK z
 have hl2:l2 < s1.heap.objs.size:=by
  obtain ⟨o,z,_⟩:=P2.isList
  exact AK z
 refine call_zip_2 P1.isList P2.isList fun h' hz hTI hTO hi1 hi2 hsz hk=>?_
 refine wpAny_pyIter_zip hz ?_
 refine ⟨s1.heap.objs.size + 4,[s1.heap.objs.size + 4,s1.heap.objs.size + 2,s1.heap.objs.size + 3,s1.heap.objs.size,s1.heap.objs.size + 1],_,_,H1,rfl,I1.kept (t':=s1.toks) hk,
  turn_zip (s1.heap.objs.size + 4) (s1.heap.objs.size + 2) (s1.heap.objs.size + 3) s1.heap.objs.size (s1.heap.objs.size + 1) l1 l2 (zipApart_new hl1 hl2),⟨hz,hTI,⟨_,_,hTO⟩,hi1,hi2⟩,fun b hb=>?_,q⟩
 have hb':s1.heap.objs.size≤b:=by
  simp at hb
  rcases hb with rfl | rfl | rfl | rfl | rfl
  ·exact Nat.le_add_right _ _
  ·exact Nat.le_add_right _ _
  ·exact Nat.le_add_right _ _
  ·exact AD _
  ·exact Nat.le_add_right _ _
 exact I1.fpOk hb' (I1.hok.fresh hb')
end
theorem en_ask {K:PySem.W.Frag} {a:Addr} {xs:List V} {i:Nat} {H:Hp} {A:Prop} {B:V→Hp→Prop} (q:SqL K H a xs) (hi:i≤xs.length) (hs:∀ x,xs[i]?=some x→i < xs.length→∀ T,H T=none→B (.ref T) (upd H T (.tup [.int i,x]))) (hd:i=xs.length→A) :
  ((Ite K a).stop i H∧A)∨((Ite K a).go i H∧∀ x H',(Ite K a).yld i H x H'→B x H'):=by
 by_cases hlt:i < xs.length
 ·refine .inr ⟨⟨xs,xs[i],q,by simp [hlt]⟩,fun x H' y=>?_⟩
  obtain ⟨T,rfl,hT,y⟩:=y
  rw [y xs xs[i] q (by simp [hlt])]
  exact hs xs[i] (by simp [hlt]) hlt T hT
 ·exact .inl ⟨⟨xs,q,by lia⟩,hd (by lia)⟩
theorem zp_ask {K:PySem.W.Frag} {a b:Addr} {xs ys:List V} {i:Nat} {H:Hp} {A:Prop} {B:V→Hp→Prop} (q1:SqL K H a xs) (q2:SqL K H b ys) (hl:ys.length=xs.length) (hi:i≤xs.length)
  (hs:∀ x y,xs[i]?=some x→ys[i]?=some y→i < xs.length→∀ T,H T=none→B (.ref T) (upd H T (.tup [x,y]))) (hd:i=xs.length→A) :
  ((Itz K a b).stop i H∧A)∨((Itz K a b).go i H∧∀ x H',(Itz K a b).yld i H x H'→B x H'):=by
 by_cases hlt:i < xs.length
 ·have hlt2:i < ys.length:=by lia
  refine .inr ⟨⟨xs,ys,xs[i],ys[i],q1,q2,by simp [hlt],by simp [hlt2]⟩,fun x H' y=>?_⟩
  obtain ⟨T,rfl,hT,y⟩:=y
  rw [y xs ys xs[i] ys[i] q1 q2 (by simp [hlt]) (by simp [hlt2])]
  exact hs xs[i] ys[i] (by simp [hlt]) (by simp [hlt2]) hlt T hT
 ·exact .inl ⟨⟨xs,ys,q1,q2,by lia⟩,hd (by lia)⟩
section
variable {X:Cx} {o i:Expr} {pos:Pos} {td ty:TE}
end
section
variable {X:Cx} {k:Nat} {f C:Addr} {fd:FuncData} {ps:List Str} {sp:Sp} {dvs:List V} {ds:List Value} {m:Str} {p pos apos epos cpos:Pos} {e o:Expr} {es:List Expr} {ta:TE} {t:TA}
theorem px_meth {pl:Sem Bool} (he:∀ W,PE (X.wish W) o ta) (c:Cls X.K C) (hm:Meth X.K C m f) (F:FnOk X.prog X.w X.K X.mg X.base (CX1 X.prog X.w) k f fd ps sp) (hr:Room k X.A) (hb:Binds X.K fd ps []) (ha:∀ W,PA (X.wish W) (e :: es) t)
  (ht:eval (.Call (.Attribute o m apos) (e :: es) [] pos) X.env=(do
   let ov ← eval o X.env
   standAt apos.atName
   let (f,first) ← holding [ov] (getMethod ov m pl)
   callWith pos f first (backTo pos (Af (e :: es) X.env)) (backToKw pos (keywordEach [] X.env))):=by rfl)
  (hs:Af (e :: es) X.env=(false,eval e X.env) :: Af es X.env:=by rfl) (hpl:(backTo pos (Af es X.env)).any (·.1)=false:=by rfl) :
  PX X (.Call (.Attribute o m apos) (e :: es) [] pos) (fun E=>tMeth C m sp [] E ta t):=by
 intro pins s σ H Q E W I h hx
 refine PySem.W.methodCall_KW (pl:=pl) (thn (he W pins s σ H _ (I.wish W) h) fun u s1 ⟨x,H1,I1,rx,a,dx,fs,ex,ea,l,q⟩=>?_) ht
 subst ex
 obtain rfl:u=Ac a:=rx
 have I1':Inv X pins σ H1 s1:=I1.unwish
 refine getmeth_ok I1' ea c hm l ?_
 refine PySem.W.callWith_K (first:=[.ref a]) (h₀:=X.base) I.ok.mod.kin hm.kp (thn (ha W pos pins s1 σ H1 _ I1 q) fun us s2 ⟨vs,H2,I2,r,q⟩=>⟨I2.kIn,?_⟩) hs hpl
 exact run_fnW (us:=.ref a :: us) (vs:=.ref a :: vs) F hr hb .nil I2.unwish (.cons rfl r) q fun ev s' z=>hx s2 H2 ev s' I2.unwish z
variable {te:XK→TE} {cx n:Str} {np hpos tpos wpos:Pos} {i j:Nat} {b₀:Stmt} {suite:List Stmt} {ts:TS} {Cc:Addr} {call:Expr}
end
def rIsiT (K:PySem.W.Frag) (xs:List V) (H:Hp) (Q:VK):Prop:=∃ a ys T b,xs=[.ref a,.ty T]∧SqT K H a ys∧PySem.W.kitOne K (.type "tuple") (.type T)=some b∧Q (.bl b) H
theorem call_isiT {X:Cx}:CallR X (.builtin "isinstance") (rIsiT X.K):=by
 intro pins s σ H xs us Q I r h
 obtain ⟨a,ys,T,b,rfl,ty,e,q⟩:=h
 obtain ⟨u,c,rfl,ru,rc⟩:=vals2 r
 obtain rfl:c=Value.type T:=rc
 cases (show u=Ac a from ru)
 obtain ⟨its,_,⟨o,h1,h2,_⟩,_⟩:=I.tuple ty
 exact PySem.W.kia_one PySem.W.kitx_tuple I.kIn ⟨o,h1,h2⟩ e (fun z=>nomatch z) fun tk=>⟨.bl b,H,I.tok tk,rfl,q⟩
section
variable {prog:Program} {w:World} {A:Around} {R:Result→Shared→Prop} {I S:Addr} {fp wr:List Addr} {n:Nat} {P:Nat→Value→Prop} {St:Nat→Heap→Prop} {kw:List (Str×Value)} {bt:Nat→Nat→Bool}
end
section
variable {X:Cx}
theorem items_toks {ns:List Int} {ys:List (Int×Tok)} (v:Vals (ns.map V.int) (ys.map fun p=>Value.int p.1 p.2)):ys.map (·.1)=ns:=by
 induction ns generalizing ys with
 | nil =>
  cases ys with
  | nil=>rfl
  | cons y ys=>cases v
 | cons n ns ih =>
  cases ys with
  | nil=>cases v
  | cons y ys =>
   cases v with
   | cons a b =>
    obtain ⟨t,e⟩:=a
    cases e
    rw [Az,ih b]
def rInW (K:PySem.W.Frag):R2:=fun x y H Q=>∃ (p:Addr) (xs:List V) (d:PyData) (ds:List PyData),y=.ref p∧SqL K H p xs∧Rp K H x d∧Rps K H xs ds∧SeqAt.shaped d=true∧d.depth≤10∧(∀ e∈ds,SeqAt.shaped e=true)∧∀ k:Bool,Q (.bl k) H
theorem reads_mem {h:Heap}:∀ {us:List Value} {ds:List PyData} {as:List Addr},ReadsAll h us ds as→∀ u∈us,∃ d∈ds,∃ bs,Reads h u d bs
 | _,_,_,.nil,u,m=>by cases m
 | _,_,_,.cons a b,u,m=>by
  rcases AW.mp m with rfl | m
  ·exact ⟨_,Ab,_,a⟩
  ·obtain ⟨d,h1,bs,h2⟩:=reads_mem b u m
   exact ⟨d,AR _ h1,bs,h2⟩
theorem op_notInW (hu:X.A.units + 64 < cLine):OpR X (compareOp .NotIn) (rInW X.K):=by
 intro pins s σ H x y v u Q I rx ry h
 obtain ⟨p,xs,d,ds,rfl,hq,hd,hds,sd,dd,sds,q⟩:=h
 cases ry
 obtain ⟨its,r,pl,hz⟩:=I.list hq
 obtain ⟨as,ra⟩:=hd.reads I rx
 obtain ⟨bs,rb⟩:=hds.reads I r
 have ex:∀ z∈its,∃ k,SeqAt.EqAt X.A.in1 s z v k:=fun z hz=>by
  obtain ⟨e,he,cs,rz⟩:=reads_mem rb z hz
  have un:X.A.in1.units=X.A.units + 1:=rfl
  have mi:min e.depth d.depth≤d.depth:=Nat.min_le_right _ _
  exact ⟨_,SeqAt.eqAt_reads e d X.A.in1 s z v cs as rz ra (SeqAt.canLay_of_shaped (sds e he)) (SeqAt.canLay_of_shaped sd) (by lia)⟩
 classical
 refine SeqAt.notIn_listAt (fun z=>if hz:∃ k,SeqAt.EqAt X.A.in1 s z v k then Classical.choose hz else false) pl.isList (fun z hz=>?_) ⟨.bl _,H,I,rfl,q _⟩
 have hz':=ex z (by simpa using hz)
 rw [dif_pos hz']
 exact Classical.choose_spec hz'
end
section
variable {X:Cx} {pins:List (Addr×Obj)} {σ:St} {H:Hp} {s:Shared}
variable {elt iter tg:Expr} {ifs:List Expr} {scope:Scope} {pos:Pos} {own capn:List Str} {capI:List Nat} {wi:TI} {g:TG} {tt:TT} {te:TE}
end
section
variable {X:Cx} {pins:List (Addr×Obj)} {σ:St} {H:Hp} {s:Shared} {a:Addr} {u:HO} {o:Obj}
theorem HOk.swap {P:Program} {w:World} {h:Heap} {v v':HO} (ok:HOk P w H h) (e:H a=some v) (n1:∀ y,v≠.own y) (n2:∀ xs,v≠.tup xs) (new:ObjOk P w (upd H a v') h a v'):HOk P w (upd H a v') h:=fun b z q=>by
 by_cases hb:b=a
 ·subst hb
  rw [upd_same] at q
  cases q
  exact new
 ·rw [upd_ne hb] at q
  exact (ok b z q).stay (fun _ _ _ r=>r) (fun c r=>by rw [upd_ne (fun y=>by rw [y,e] at r; cases r; exact n1 _ rfl)]; exact r) (fun c xs r=>by rw [upd_ne (fun y=>by rw [y,e] at r; cases r; exact n2 _ rfl)]; exact r)
theorem Inv.swap {v v':HO} (I:Inv X pins σ H s) (e:H a=some v) (n1:∀ y,v≠.own y) (n2:∀ xs,v≠.tup xs) (n3:∀ p,v≠.tbl p) (n4:∀ o' u',v=.frz o' u'→X.H₀ a≠some (.frz o' u')) (new:ObjOk X.prog X.w (upd H a v') s.heap a v'):Inv X pins σ (upd H a v') s:=by
 have none':∀ b,H b=none→upd H a v' b=none:=fun b n=>by rw [upd_ne (fun y=>by rw [y,e] at n; cases n)]; exact n
 refine ⟨I.ok,I.os,I.bare,⟨I.base.keep,I.base.slot,fun b q r n x=>none' b (I.base.free b q r n x),I.base.there,fun b xs q=>?_,fun b o' u' q=>?_,fun b ps q=>?_⟩,I.loc,I.cell,none' _ I.free,fun x c q=>none' c (I.freeC x c q),fun p hp=>?_,I.hok.swap e n1 n2 new,I.len⟩
 ·have r:=I.base.tups b xs q
  rw [upd_ne (fun y=>by rw [y,e] at r; cases r; exact n2 _ rfl)]
  exact r
 ·have r:=I.base.frzs b o' u' q
  rw [upd_ne (fun y=>by rw [y,e] at r; cases r; rw [y] at q; exact n4 _ _ rfl q)]
  exact r
 ·obtain ⟨m,r⟩:=I.base.tbls b ps q
  exact ⟨m,by rw [upd_ne (fun y=>by rw [y,e] at r; cases r; exact n3 _ rfl)]; exact r⟩
 ·obtain ⟨r,n,z⟩:=I.pin p hp
  exact ⟨r,none' _ n,z⟩
def IsDc:HO→Prop
 | .dK _=>True
 | .dT _=>True
 | _=>False
theorem IsDc.at_ {P:Program} {w:World} {h:Heap} (d:IsDc u) (x:ObjOk P w H h a u):∃ o,h.get? a=some o:=by
 cases u with
 | dK kvs =>
  obtain ⟨_,_,vs,_,o,_,_,r,_⟩:=x
  exact ⟨o,r⟩
 | dT kvs =>
  obtain ⟨_,_,_,_,o,_,_,r,_⟩:=x
  exact ⟨o,r⟩
 | _=>exact d.elim
theorem IsDc.no (d:IsDc u):(∀ y,u≠.own y)∧(∀ xs,u≠.tup xs)∧(∀ p,u≠.tbl p)∧∀ o' u',u≠.frz o' u':=by
 cases u <;> first
  | exact d.elim
  | exact ⟨(fun _ z=>by cases z),(fun _ z=>by cases z),(fun _ z=>by cases z),(fun _ _ z=>by cases z)⟩
theorem ObjOk.mv {P:Program} {w:World} {h:Heap} {v v':HO} (x:ObjOk P w H h a u) (e:H a=some v) (n1:∀ y,v≠.own y) (n2:∀ xs,v≠.tup xs):ObjOk P w (upd H a v') h a u :=
 x.stay (fun _ _ _ r=>r) (fun c r=>by rw [upd_ne (fun y=>by rw [y,e] at r; cases r; exact n1 _ rfl)]; exact r) (fun c xs r=>by rw [upd_ne (fun y=>by rw [y,e] at r; cases r; exact n2 _ rfl)]; exact r)
theorem Inv.frz (I:Inv X pins σ H s) (d:IsDc u) (e:H a=some u) (ho:s.heap.get? a=some o):Inv X pins σ (upd H a (.frz o u)) s :=
 I.swap e d.no.1 d.no.2.1 d.no.2.2.1 (fun o' u' z=>(d.no.2.2.2 o' u' z).elim) ⟨ho,(I.hok a u e).mv e d.no.1 d.no.2.1⟩
theorem Inv.thaw (I:Inv X pins σ H s) (e:H a=some (.frz o u)) (n:X.H₀ a≠some (.frz o u)):Inv X pins σ (upd H a u) s :=
 I.swap e (fun _ z=>by cases z) (fun _ z=>by cases z) (fun _ z=>by cases z) (fun o' u' z=>by cases z; exact n) ((show ObjOk X.prog X.w H s.heap a (.frz o u) from I.hok a _ e).2.mv e (fun _ z=>by cases z) (fun _ z=>by cases z))
def tFrz (te:TE):TE:=fun σ H Q=>∃ a u,H a=some u∧IsDc u∧∀ o,te σ (upd H a (.frz o u)) fun v H'=>H' a=some (.frz o u)∧Q v (upd H' a u)
theorem pe_frz {e:Expr} {te:TE} (he:PE X e te):PE X e (tFrz te):=by
 intro pins s σ H Q I ⟨a,u,ea,d,h⟩
 obtain ⟨o,ho⟩:=d.at_ (I.hok a u ea)
 have n0:X.H₀ a≠some (.frz o u):=fun z=>by
  have r:=I.base.frzs a o u z
  rw [ea] at r
  exact d.no.2.2.2 _ _ (Ax r)
 exact thn (he pins s σ _ _ (I.frz d ea ho) (h o)) fun v s1 ⟨x,H1,I1,r1,e1,q1⟩=>⟨x,_,I1.thaw e1 n0,r1,q1⟩
end
section
variable {prog:Program} {w:World} {A:Around} {E:Value→Shared→Prop} {sh:Shared} {ic dc:Addr} {i ep:Nat} {od:Obj} {es:Array DictEntry} {Q:Option Value→Shared→Prop}
theorem nx_key (hi:sh.heap.IsKeyIter ic dc i es.size ep) (hd:sh.heap.get? dc=some od) (he:od.data=.dict es ep) (hl:i < es.size)
  (q:∀ h',h'.IsKeyIter ic dc (i + 1) es.size ep→Heap.SameBut ic sh.heap h'→Q (some es[i].key) { sh with heap:=h' }):wpAny (model prog w) A (pyNext (.ref ic)) Q E sh:=by
 obtain ⟨oi,e1,e2,e3⟩:=id hi
 unfold pyNext
 refine AC (wpAny_attempt (wpAny_callSpecial?_slot (name:=Str.ofString "__next__") hi.typeIs F.slot_dict_keyiterator_next (wpAny_call_entry F.slot_dict_keyiterator_next hi.typeIs F.entry_dict_keyiterator_next ?_ (F.args_dict_keyiterator_next_1 _))))
 refine AC (AM (AC (AC ?_)))
 first | refine AC (wpAny_typeNameOfWhole_keyiter hi.typeIs (AM (AC (wpAny_fieldsOf e1 e3 ?_)))) | refine AC (wpAny_typeNameOf_keyiter hi.typeIs (AM (AC (wpAny_fieldsOf e1 e3 ?_))))
 simp only [show Builtin.Dict_items.ownsTuple "dict_keyiterator"=false by decide,Bool.false_eq_true,if_false]
 show wpAny _ _ (if (Ac dc == A7)=true then _ else _) _ _ sh
 rw [if_neg (show ¬ ((Ac dc == A7)=true) from Ap)]
 refine AC (AM (AC (wpAny_dictEntries hd he ?_)))
 rw [if_neg (by simp)]
 refine AC (AM (AC (wpAny_dictEpoch hd he ?_)))
 rw [if_neg (by simp)]
 refine AM ?_
 simp only [show ¬ ((i:Int) < 0) from by lia,if_false,Aj,Array.getElem?_eq_getElem hl]
 refine AC ?_
 first | refine AC (wpAny_typeNameOfWhole_keyiter hi.typeIs (AM (AC (wpAny_isOneOf_keyiter hi.typeIs ?_)))) | refine AC (wpAny_typeNameOf_keyiter hi.typeIs (AM (AC (wpAny_isOneOf_keyiter hi.typeIs ?_))))
 show wpAny _ _ (setField (.ref ic) 1 (rawInt ((i:Int) + 1)) >>= _) _ _ sh
 refine AC (wpAny_setField e1 e3 (by simp) ?_)
 have hn:(sh.heap.update ic (Obj.mapFields (·.setIfInBounds 1 (rawInt ((i:Int) + 1))))).IsKeyIter ic dc (i + 1) es.size ep :=
  ⟨_,Heap.get?_update_self _ e1 (Obj.isFreed_of_fields (Obj.data_mapFields e3 _)),(Obj.cls_mapFields ..).trans e2,by rw [Obj.data_mapFields e3]; simp [rawInt]⟩
 refine AC (wpAny_holding (AC (wpAny_isOneOf_keyiter (s:={ sh with heap:=sh.heap.update ic (Obj.mapFields (·.setIfInBounds 1 (rawInt ((i:Int) + 1)))) }) hn.typeIs ?_)))
 show wpAny _ _ (pure es[i].key) _ _ _; exact AM (AM ⟨_,rfl,AM (q _ hn (Heap.SameBut.update ..))⟩)
theorem nx_end (hh:A.handled=none) (hi:sh.heap.IsKeyIter ic dc i es.size ep) (hd:sh.heap.get? dc=some od) (he:od.data=.dict es ep) (hl:es.size≤i)
  (q:∀ h',Heap.ExtBut ic sh.heap h'→Q none { sh with heap:=h' }):wpAny (model prog w) A (pyNext (.ref ic)) Q E sh:=by
 obtain ⟨oi,e1,e2,e3⟩:=id hi
 unfold pyNext
 refine AC (wpAny_attempt (wpAny_callSpecial?_slot (name:=Str.ofString "__next__") hi.typeIs F.slot_dict_keyiterator_next (wpAny_call_entry F.slot_dict_keyiterator_next hi.typeIs F.entry_dict_keyiterator_next ?_ (F.args_dict_keyiterator_next_1 _))))
 refine AC (AM (AC (AC ?_)))
 first | refine AC (wpAny_typeNameOfWhole_keyiter hi.typeIs (AM (AC (wpAny_fieldsOf e1 e3 ?_)))) | refine AC (wpAny_typeNameOf_keyiter hi.typeIs (AM (AC (wpAny_fieldsOf e1 e3 ?_))))
 simp only [show Builtin.Dict_items.ownsTuple "dict_keyiterator"=false by decide,Bool.false_eq_true,if_false]
 show wpAny _ _ (if (Ac dc == A7)=true then _ else _) _ _ sh
 rw [if_neg (show ¬ ((Ac dc == A7)=true) from Ap)]
 refine AC (AM (AC (wpAny_dictEntries hd he ?_)))
 rw [if_neg (by simp)]
 refine AC (AM (AC (wpAny_dictEpoch hd he ?_)))
 rw [if_neg (by simp)]
 refine AM ?_
 simp only [show ¬ ((i:Int) < 0) from by lia,if_false,Aj,Array.getElem?_eq_none hl]
 refine AC ?_
 first | refine AC (wpAny_typeNameOfWhole_keyiter hi.typeIs (AM ?_)) | refine AC (wpAny_typeNameOf_keyiter hi.typeIs (AM ?_))
 show wpAny _ _ (setField (.ref ic) 0 .none >>= _) _ _ sh
 refine AC (wpAny_setField e1 e3 (by simp) ?_)
 show wpAny _ _ (newExc (.type "StopIteration") [] >>= _) _ _ _; refine AC ?_
 simp only [newExc,newTuple]; refine AC (wpAny_newObj_type ?_ (by size_fits))
 refine AC (m:=firstArgMember _ _) (wpAny_of_eq (a:=A7) (by first | rfl | (simp only [firstArgMember]; rfl)) (wpAny_newObj_type ?_ (by size_fits)))
 simp only [raiseNew]; refine AC (wpAny_handled ?_); rw [show A.in1.handled=none from hh]
 refine AC (AM (wpAny_throw ?_)); refine AC (wpAny_isInstance (T:="StopIteration") (b:=true) ⟨_,Al _ rfl,rfl⟩ isSubtype_stop ?_)
 exact AM (q _ (((Heap.SameBut.update ..).extBut.push _).push _))
theorem it_key {Q:Value→Shared→Prop} (hs:(dc == sysModules)=false) (hd:sh.heap.get? dc=some od) (hx:od.ExactDict) (he:od.data=.dict es ep)
  (q:Q (.ref sh.heap.objs.size) { sh with heap:=sh.heap.push { cls:=.type "dict_keyiterator",data:=.fields #[.ref dc,.int 0 0,.int es.size 0,.int ep 0] } }):wpAny (model prog w) A (pyIter (.ref dc)) Q E sh:=by
 have ty:sh.TypeIs (.ref dc) "dict":=⟨od,hd,hx.1⟩
 refine wpAny_pyIter_slot ty F.slot_dict_iter (wpAny_call_entry F.slot_dict_iter ty F.entry_dict_iter ?_ (F.args_dict_iter_1 _))
 unfold Builtin.«dict.__iter__»; refine AC ?_; unfold Builtin.Dict.dictSlotNone
 refine AC (wpAny_notOrdered_dict ty ?_)
 show wpAny _ _ (pure (Ac dc)) _ _ sh
 refine AM ?_
 show wpAny _ _ (Builtin.Dict.showsAll dc >>= _) _ _ sh
 unfold Builtin.Dict.showsAll
 rw [if_neg (by rw [hs]; exact Ap)]
 refine AC (AM (AC (wpAny_dictEntries hd he (AC (wpAny_dictEpoch hd he ?_)))))
 refine AC (wpAny_newObj_type (AM ⟨_,rfl,"dict_keyiterator",_,⟨_,Al _ rfl,rfl⟩,F.slot_dict_keyiterator_next.lookup,?_⟩)); simpa [rawInt] using q
end
def Itk (o:Obj) (a:Addr):It :=
 ⟨fun i H=>∃ kvs p,H a=some (.frz o (.dT kvs))∧kvs[i]?=some p,fun i H x H'=>H'=H∧∃ t,x=.ref t∧∀ kvs p,H a=some (.frz o (.dT kvs))→kvs[i]?=some p→H t=some (.tup (p.1.map kV)),fun i H=>∃ kvs,H a=some (.frz o (.dT kvs))∧kvs.length=i⟩
theorem KT.get {H:Hp} {kvs:List (List Key×V)} {xs:List (List Key×Addr×Value)} (r:KT H kvs xs):xs.length=kvs.length∧∀ (i:Nat) (p:List Key×V),kvs[i]?=some p→∃ q,xs[i]?=some q∧H q.2.1=some (.tup (p.1.map kV)):=by
 induction r with
 | nil=>exact ⟨rfl,fun i p e=>by cases e⟩
 | @cons p q ps qs hq t ih =>
  refine ⟨by rw [AO,AO,ih.1],fun i p' e=>?_⟩
  cases i with
  | zero =>
   cases e
   exact ⟨q,rfl,hq.2.1⟩
  | succ i=>exact ih.2 i p' e
theorem turn_key {P:Program} {w:World} {K:PySem.W.Frag} {tg:Expr} {o:Obj} {es:Array DictEntry} {ep:Nat} (a it:Addr) (hd:o.data=.dict es ep):Turn P w K tg (Itk o a) [it] it (fun i h=>h.IsKeyIter it a i es.size ep) where
 mem:=by simp
 obj:=fun i h st b hb=>by
  have e:b=it:=by simpa using hb
  subst e
  obtain ⟨oi,e,c,d⟩:=st
  exact ⟨oi,e,fun v z=>by rw [d] at z; cases z⟩
 keep:=fun i h h' st k=>st.at fun oi e=>k it (by simp) oi e
 item:=by
  intro X hP hw hK hc i pins s σ H E I hf st hg
  subst hP hw hK
  obtain ⟨kvs,p,hq,hx⟩:=hg
  obtain ⟨ho,_,_,xs,r,od,es',ep',h1,h2,h3,h4,h5⟩:=(show ObjOk X.prog X.w H s.heap a (.frz o (.dT kvs)) from I.hok a _ hq)
  rw [ho] at h1
  cases h1
  rw [hd] at h3
  cases h3
  obtain ⟨rl,rg⟩:=KT.get r
  obtain ⟨q,hq1,hq2⟩:=rg i p hx
  have hsz:es.size=kvs.length:=by rw [← Array.length_toList,h4,AA,rl]
  have hil:i < es.size:=by rw [hsz]; exact (AE.mp hx).1
  have hkey:es[i].key=.ref q.2.1:=by
   have e1:es.toList[i]?=some es[i]:=by simp [hil]
   rw [h4,AF,hq1] at e1
   have e2:=(Ax e1).symm
   rw [e2]
   rfl
  obtain ⟨f0,f1,f2,f3,f4,f5⟩:=hf it (by simp)
  refine nx_key st ho hd hil fun h' st' sb=>?_
  rw [hkey]
  have I1:Inv X pins σ H { s with heap:=h' }:=I.turned (t':=s.toks) (fun b ob hb e=>(sb.2 b hb).trans e) f0 f1 f3 f4 f5
  obtain ⟨oi,e,c,d⟩:=id st'
  refine ⟨_,rfl,go_of (s:={ s with heap:=h' }) e c d (by decide) ⟨.ref q.2.1,H,I1,rfl,⟨rfl,q.2.1,rfl,fun kvs' p' hq' hx'=>?_⟩,st',fun b hb=>(hf b hb).1⟩⟩
  rw [hq] at hq'
  cases hq'
  rw [hx] at hx'
  cases hx'
  exact hq2
 done:=by
  intro X hP hw hK hc i pins s σ H E I hf st hg
  subst hP hw hK
  obtain ⟨kvs,hq,hx⟩:=hg
  obtain ⟨ho,_,_,xs,r,od,es',ep',h1,h2,h3,h4,h5⟩:=(show ObjOk X.prog X.w H s.heap a (.frz o (.dT kvs)) from I.hok a _ hq)
  rw [ho] at h1
  cases h1
  rw [hd] at h3
  cases h3
  have hsz:es.size=kvs.length:=by rw [← Array.length_toList,h4,AA,(KT.get r).1]
  obtain ⟨f0,f1,f2,f3,f4,f5⟩:=hf it (by simp)
  exact nx_end (I.ok.hd hc) st ho hd (by lia) fun h' eb=>⟨rfl,I.turned (t':=s.toks) (fun b ob hb e=>eb b ob hb e) f0 f1 f3 f4 f5⟩
 self:=fun _ _ _ _ _ st h=>wpAny_pyIter_keyiter st h
section
variable {X:Cx} {tg:Expr}
def iKeys (tl:TE):TI:=fun σ H R=>tl σ H fun x H1=>∃ a o kvs,x=.ref a∧H1 a=some (.frz o (.dT kvs))∧R (Itk o a) H1
theorem pi_keys {l:Expr} {tl:TE} (hl:PE X l tl):PI X tg l (iKeys tl):=by
 intro pins s σ H R I h
 refine thn (hl pins s σ H _ I h) fun v s1 ⟨x,H1,I1,r1,q1⟩=>?_
 obtain ⟨a,o,kvs,e,hq,q⟩:=q1
 subst e
 cases r1
 obtain ⟨ho,_,hs,xs,r,od,es,ep,h1,h2,h3,h4,h5⟩:=(show ObjOk X.prog X.w H1 s1.heap a (.frz o (.dT kvs)) from I1.hok a _ hq)
 rw [ho] at h1
 cases h1
 refine it_key hs ho h2 h3 ?_
 refine ⟨s1.heap.objs.size,[s1.heap.objs.size],_,_,H1,rfl,I1.kept (t':=s1.toks) fun b ob e=>AH _ e,turn_key a _ h3,⟨_,Al _ rfl,rfl,rfl⟩,fun b hb=>?_,q⟩
 have e:b=s1.heap.objs.size:=by simpa using hb
 subst e
 exact I1.fpOk (AD _) (I1.hok.fresh (AD _))
end
theorem ky_ask {o:Obj} {a:Addr} {kvs:List (List Key×V)} {i:Nat} {H:Hp} {A:Prop} {B:V→Hp→Prop} (q:H a=some (.frz o (.dT kvs))) (hi:i≤kvs.length)
  (hs:∀ p,kvs[i]?=some p→i < kvs.length→∀ t,H t=some (.tup (p.1.map kV))→B (.ref t) H) (hd:i=kvs.length→A) :
  ((Itk o a).stop i H∧A)∨((Itk o a).go i H∧∀ x H',(Itk o a).yld i H x H'→B x H'):=by
 by_cases hlt:i < kvs.length
 ·refine .inr ⟨⟨kvs,kvs[i],q,AB hlt⟩,fun x H' y=>?_⟩
  obtain ⟨rfl,t,rfl,y⟩:=y
  exact hs kvs[i] (AB hlt) hlt t (y _ _ q (AB hlt))
 ·exact .inl ⟨⟨kvs,q,by lia⟩,hd (by lia)⟩
def Iti (o:Obj) (a:Addr):It :=
 ⟨fun i H=>∃ kvs p,H a=some (.frz o (.dK kvs))∧kvs[i]?=some p,fun i H x H'=>∃ T,x=.ref T∧H T=none∧∀ kvs p,H a=some (.frz o (.dK kvs))→kvs[i]?=some p→H'=upd H T (.tup [kV p.1,p.2]),fun i H=>∃ kvs,H a=some (.frz o (.dK kvs))∧kvs.length=i⟩
theorem KV.get {κ:Type} {kvs:List (κ×V)} {vs:List (κ×Value)} (r:KV kvs vs):∀ (i:Nat) (p:κ×V),kvs[i]?=some p→∃ v,vs[i]?=some (p.1,v)∧RelV p.2 v:=by
 unfold KV at r
 induction r with
 | nil=>exact fun i p e=>by cases e
 | @cons p q ps qs hq t ih =>
  intro i p' e
  cases i with
  | zero =>
   cases e
   exact ⟨q.2,by rw [hq.1]; rfl,hq.2⟩
  | succ i=>exact ih i p' e
theorem is_kV {P:Program} {w:World} {k:Key} {u:Value} (h:(mixKind P w).is k u=true):RelV (kV k) u:=by
 rcases keyIs_shape h with ⟨i,t,rfl,rfl⟩ | ⟨x,t,rfl,rfl⟩
 ·exact ⟨t,rfl⟩
 ·exact ⟨t,rfl⟩
theorem frz_dK {P:Program} {w:World} {H:Hp} {h:Heap} {a:Addr} {o:Obj} {kvs:List (Key×V)} {es:Array DictEntry} {ep:Nat} (ok:HOk P w H h) (hq:H a=some (.frz o (.dK kvs))) (hd:o.data=.dict es ep) :
  ∃ vs,KV kvs vs∧h.DictAt (mixKind P w) a vs ep∧es.size=vs.length∧(a == sysModules)=false∧o.ExactDict:=by
 obtain ⟨ho,_,hs,vs,r,od,es',ep',h1,h2,h3,h4,h5,h6⟩:=(show ObjOk P w H h a (.frz o (.dK kvs)) from ok a _ hq)
 rw [ho] at h1
 cases h1
 rw [hd] at h3
 cases h3
 exact ⟨vs,r,⟨o,es,ho,h2,hd,h4,h5,h6⟩,by rw [← h5.length]; simp,hs,h2⟩
theorem turn_items {P:Program} {w:World} {K:PySem.W.Frag} {elts:List Expr} {kk:Nat} {pos:Pos} {o:Obj} {es:Array DictEntry} {ep:Nat} (a it:Addr) (hd:o.data=.dict es ep):Turn P w K (.Tuple elts kk pos) (Iti o a) [it] it (fun i h=>∃ k v,IsItemIter h it a i es.size ep k v) where
 mem:=by simp
 obj:=fun i h st b hb=>by
  have e:b=it:=by simpa using hb
  subst e
  obtain ⟨k,v,e⟩:=st
  exact ⟨_,e,fun v z=>by
   have z':Data.fields _=Data.cell v:=z
   cases z'⟩
 keep:=fun i h h' st f=>by
  obtain ⟨k,v,e⟩:=st
  exact ⟨k,v,f it (by simp) _ e⟩
 item:=by
  intro X hP hw hK hc i pins s σ H E I hf st hg
  subst hP hw hK
  obtain ⟨kvs,p,hq,hx⟩:=hg
  obtain ⟨k0,v0,st⟩:=st
  obtain ⟨vs,r,da,hsz,_,_⟩:=frz_dK I.hok hq hd
  obtain ⟨v,hv,rv⟩:=KV.get r i p hx
  rw [hsz] at st
  refine wpAny_pyNext_items_item st da hv fun key h' hk out ht hs' k'=>⟨_,rfl,?_⟩
  refine wpAny_letOwnedTupleGo_items out fun h2 st2 sb=>?_
  have hlt:it≠s.heap.objs.size:=AU (AK st)
  have ht2:h2.get? s.heap.objs.size=some { cls:=.type "tuple",data:=.seq #[key,v] }:=(sb.2 _ (Ne.symm hlt)).trans ht
  have I1:Inv X pins σ (upd H s.heap.objs.size (.tup [kV p.1,p.2])) { s with heap:=h2,toks:=s.toks } :=
   I.turnedT (wr:=[it]) (its:=[key,v]) (fun b ob hb e=>by
    have hb':b≠it:=fun z=>hb (by simp [z])
    exact (sb.2 b hb').trans (k' b ob hb' e)) hf (AD _) (by simpa using Ne.symm hlt) (vals_two (is_kV hk) rv) (show 2≤AL by decide) ⟨_,ht2,rfl,_,rfl⟩
  have hn:H s.heap.objs.size=none:=I.hok.fresh (AD _)
  refine ⟨.ref s.heap.objs.size,_,I1,rfl,⟨_,rfl,hn,fun kvs' p' hq' hx'=>?_⟩,⟨key,v,by rw [hsz]; exact st2⟩,fun b hb=>?_⟩
  ·rw [hq] at hq'
   cases hq'
   rw [hx] at hx'
   cases hx'
   rfl
  ·have e:b=it:=by simpa using hb
   subst e
   rw [upd_ne hlt]
   exact (hf b hb).1
 done:=by
  intro X hP hw hK hc i pins s σ H E I hf st hg
  subst hP hw hK
  obtain ⟨kvs,hq,hx⟩:=hg
  obtain ⟨k0,v0,st⟩:=st
  obtain ⟨vs,r,da,hsz,_,_⟩:=frz_dK I.hok hq hd
  rw [hsz] at st
  obtain ⟨f0,f1,f2,f3,f4,f5⟩:=hf it (by simp)
  exact wpAny_pyNext_items_end (I.ok.hd hc) st da (A9 (by rw [← r.length]; lia)) fun h' eb=>⟨rfl,I.turned (t':=s.toks) (fun b ob hb e=>eb b ob hb e) f0 f1 f3 f4 f5⟩
 self:=fun _ _ _ _ _ st h=>by
  obtain ⟨k,v,st⟩:=st
  exact PySem.W.kcp_self st h
section
variable {X:Cx} {elts:List Expr} {kk:Nat} {pt:Pos}
def iItems (tl:TE):TI:=fun σ H R=>tl σ H fun x H1=>∃ a o kvs,x=.ref a∧H1 a=some (.frz o (.dK kvs))∧R (Iti o a) H1
theorem pi_items {l:Expr} {tl:TE} {apos pos:Pos} (hl:PE X l tl) (hb:attributeBase l "items" X.env (eval l X.env)=eval l X.env:=by rfl) (hp:(apos.endLine == pos.line)=true:=by rfl):PI X (.Tuple elts kk pt) (.Call (.Attribute l "items" apos) [] [] pos) (iItems tl):=by
 intro pins s σ H R I h
 refine wpAny_Call_method0_late hb hp (thn (hl pins s σ H _ I h) fun v s1 ⟨x,H1,I1,r1,q1⟩=>?_)
 obtain ⟨a,o,kvs,e,hq,q⟩:=q1
 subst e
 cases r1
 obtain ⟨ho,_,hs,vs,r,od,es,ep,h1,h2,h3,h4⟩:=(show ObjOk X.prog X.w H1 s1.heap a (.frz o (.dK kvs)) from I1.hok a _ hq)
 rw [ho] at h1
 cases h1
 have dof:s1.heap.DictOf (mixKind X.prog X.w) a vs:=⟨o,es,ep,ho,h2,h3,h4⟩
 refine ⟨"dict","dict.items",PySem.F.plainAttrs_dict,PySem.F.slot_dict_items,PySem.F.type_dict_items,dof.typeIs,dof.mapOf.noDict,method_meetsIn PySem.F.slot_dict_items PySem.F.entry_dict_items rfl (PySem.evalArgs_none ⟨rfl,dof.typeIs,PySem.F.args_dict_items_1 _,_,meets_dict_items (mixKind X.prog X.w) a hs,⟨vs,dof⟩,?_⟩)⟩
 have I2:Inv X pins σ H1 { s1 with heap:=s1.heap.push { cls:=.type "dict_items",data:=.fields #[.ref a] } }:=I1.kept (t':=s1.toks) fun b ob e=>AH _ e
 obtain ⟨vs',r',da,hsz,_,_⟩:=frz_dK I2.hok hq h3
 refine wpAny_pyIter_items (s:={ s1 with heap:=s1.heap.push { cls:=.type "dict_items",data:=.fields #[.ref a] } }) ⟨_,Al _ rfl,rfl,rfl⟩ da ?_
 refine ⟨_,[_],_,_,H1,rfl,I2.kept (t':=s1.toks) fun b ob e=>AH _ e,turn_items a _ h3,⟨.none,.none,by rw [hsz]; exact Al _ rfl⟩,fun b hb=>?_,q⟩
 have e:=AJ.mp hb
 subst e
 exact I2.fpOk (AD _) (I2.hok.fresh (AD _))
end
theorem im_ask {o:Obj} {a:Addr} {kvs:List (Key×V)} {i:Nat} {H:Hp} {A:Prop} {B:V→Hp→Prop} (q:H a=some (.frz o (.dK kvs))) (hi:i≤kvs.length)
  (hs:∀ p,kvs[i]?=some p→i < kvs.length→∀ T,H T=none→B (.ref T) (upd H T (.tup [kV p.1,p.2]))) (hd:i=kvs.length→A) :
  ((Iti o a).stop i H∧A)∨((Iti o a).go i H∧∀ x H',(Iti o a).yld i H x H'→B x H'):=by
 by_cases hlt:i < kvs.length
 ·refine .inr ⟨⟨kvs,kvs[i],q,AB hlt⟩,fun x H' y=>?_⟩
  obtain ⟨T,rfl,hT,y⟩:=y
  rw [y _ _ q (AB hlt)]
  exact hs kvs[i] (AB hlt) hlt T hT
 ·exact .inl ⟨⟨kvs,q,by lia⟩,hd (by lia)⟩
theorem bools_items:∀ {bs:List Bool} {its:List Value},Vals (bs.map V.bl) its→its=bs.map Value.bool
 | [],its,h=>by cases h; rfl
 | b :: bs,its,h=>by
  cases h with
  | cons a r =>
   rw [bools_items r]
   cases a
   rfl
def rAnyB (K:PySem.W.Frag):List V→Hp→VK→Prop:=fun xs H Q=>∃ (l:Addr) (bs:List Bool),xs=[.ref l]∧SqL K H l (bs.map V.bl)∧Q (.bl (bs.any id)) H
theorem call_anyB {X:Cx} (hc:X.calm=true):CallR X (.builtin "any") (rAnyB X.K):=by
 intro pins s σ H xs us Q I r h
 obtain ⟨l,bs,rfl,hl,q⟩:=h
 obtain ⟨u,rfl,ru⟩:=vals1 r
 obtain rfl:u=Ac l:=ru
 obtain ⟨its,v,P1,z1⟩:=I.list hl
 have e:=bools_items v
 subst e
 have hll:l < s.heap.objs.size:=by
  obtain ⟨o,z,_⟩:=P1.isList
  exact AK z
 refine call_any_walk (wpAny_pyIter_list P1.isList ?_)
 refine ⟨s.heap.objs.size,_,_,_,_,_,(fun i=>bs.getD i false),rfl,Walks.list (A:=X.A.in1) (show X.A.in1.handled=none from I.ok.hd hc) s.heap.objs.size l (AU hll) (bs.map Value.bool).toArray,⟨⟨_,Al _ rfl,rfl,rfl⟩,?_⟩,fun i v s' Q' E' hv hq=>?_,fun h' tk k=>?_⟩
 ·exact P1.isList.at fun o z=>AH _ z
 ·have hv':(bs.map Value.bool)[i]?=some v:=by simpa using hv
  rw [AF] at hv'
  cases hb:bs[i]? with
  | none=>rw [hb] at hv'; cases hv'
  | some b =>
   rw [hb] at hv'
   cases hv'
   refine wpAny_truthy_bool ?_
   have hq':Q' (bs.getD i false) s':=hq
   rw [Ar,hb] at hq'
   exact hq'
 ·have ea:((List.range (bs.map Value.bool).toArray.size).any fun i=>bs.getD i false)=bs.any id:=by
   rw [AV,AA,Bool.eq_iff_iff,List.any_eq_true,List.any_eq_true]
   constructor
   ·rintro ⟨i,hi,hb⟩
    have hi':=List.mem_range.mp hi
    rw [Ar,AB hi'] at hb
    exact ⟨bs[i],Ak hi',hb⟩
   ·rintro ⟨b,hb,e⟩
    obtain ⟨i,hi⟩:=A8 hb
    exact ⟨i,List.mem_range.mpr (AE.mp hi).1,by rw [Ar,hi]; exact e⟩
  rw [ea]
  have I1:Inv X pins σ H { s with heap:=s.heap.push { cls:=.type "list_iterator",data:=.fields #[.ref l,.int 0 0] } }:=I.kept (t':=s.toks) fun b ob e=>AH _ e
  refine ⟨.bl _,H,I1.turnedL (t':=tk) (wr:=[s.heap.objs.size]) k fun b hb=>?_,rfl,q⟩
  have e:=AJ.mp hb
  subst e
  exact I.fpOk (AD _) (I.hok.fresh (AD _))
section
variable {X:Cx} {o e:Expr} {to:TE} {te:XK→TE} {apos cpos:Pos}
theorem px_append (ho:∀ W,PE (X.wish W) o to) (ha:PX X e te)
  (hbase:attributeBase o "append" X.env (eval o X.env)=eval o X.env:=by rfl)
  (hfew:((backTo cpos (Af [e] X.env)).all (fun x=>!x.1) && (backToKw cpos (keywordEach [] X.env)).all (fun x=>x.1.isSome) && decide (([e]:List Expr).length + ([]:List Keyword).length + (if ([]:List Keyword).isEmpty then 0 else 1) < 30))=true:=by rfl)
  (hline:(apos.endLine == cpos.line)=true:=by rfl) (hs:Af [e] X.env=[(false,eval e X.env)]:=by rfl) :
  PX X (.Call (.Attribute o "append" apos) [e] [] cpos) (fun E=>tBM X.K "list" rAppend to (tCons (te E) tNil)):=by
 intro pins s σ H Q E W I h hx
 refine wpAny_Call_method_late hbase hfew hline rfl (thn (ho W pins s σ H _ (I.wish W) h) fun v s1 ⟨x,H1,I1,r1,ty,q1⟩=>?_)
 have I1':Inv X pins σ H1 s1:=I1.unwish
 obtain ⟨h1,h2⟩:=tyV_is I1' r1 ty
 refine ⟨"list","list.append",Aq,At,Au,h1,h2,?_⟩
 rw [hs]
 refine Calls.callWith_builtin rfl (Calls.evalArgs_plain ?_)
 show wpAny _ _ (spliced ((false,eval e X.env) :: backTo cpos [])) _ _ s1
 refine Calls.spliced_cons (thn (ha pins s1 σ H1 _ E W I1' q1 hx) fun u s2 ⟨y,H2,I2,r2,q2⟩=>?_)
 refine Calls.spliced_nil ?_
 have I3:Inv (X.wish W) pins σ H2 s2:=I2.wish W
 have:=mt_append (X:=X.wish W) pins s2 σ H2 x [y] v [u] Q I3 r1 (.cons r2 .nil) q2
 exact thn this fun w s3 ⟨z,H3,I4,r4,q4⟩=>⟨z,H3,I4.unwish,r4,q4⟩
end
section
variable {X:Cx}
def sumL:List Int→Int
 | []=>0
 | a :: r=>a + sumL r
theorem sumL_snoc (n:Int):∀ xs:List Int,sumL (xs++[n])=sumL xs + n
 | []=>by show n + 0=0 + n; lia
 | a :: r=>by
  show a + sumL (r++[n])=a + sumL r + n
  rw [sumL_snoc n r]
  lia
theorem pre_sumL (ys:List (Int×Tok)):∀ n,n≤ys.length→preSum (numAt ys.toArray) n=sumL ((ys.map (·.1)).take n)
 | 0,_=>by rw [preSum.eq_1,Am]; rfl
 | n + 1,h=>by
  rw [preSum.eq_2,pre_sumL ys n (by lia),An]
  have hn:n < ys.length:=by lia
  have e:(ys.map (·.1))[n]?=some (ys[n]).1:=by rw [AF,AB hn]; rfl
  have e2:numAt ys.toArray n=(ys[n]).1:=by
   unfold numAt
   simp [hn]
  rw [e,e2]
  show _=sumL (_++[(ys[n]).1])
  rw [sumL_snoc]
inductive PrSumE (K:PySem.W.Frag) (xs:List V) (H:Hp) (Q:VK) :Prop
 | mk (l:Addr) (ns:List Int) (h0:xs=[.ref l]) (h1:SqL K H l (ns.map V.int)) (h2:Q (.int (sumL ns)) H):PrSumE K xs H Q
def rSumE (K:PySem.W.Frag) (xs:List V) (H:Hp) (Q:VK):Prop:=PrSumE K xs H Q
theorem call_sumE (hc:X.calm=true):CallR X (.builtin "sum") (rSumE X.K):=by
 intro pins s σ H xs us Q I r h
 obtain ⟨l,ns,rfl,hl,q⟩:=h
 obtain ⟨u,rfl,ru⟩:=vals1 r
 obtain rfl:u=Ac l:=ru
 obtain ⟨its,v,P1,z1⟩:=I.list hl
 obtain ⟨ys,rfl⟩:=ints_items v
 have hys:=items_toks v
 have hl':s.heap.IsList l (intItems ys.toArray):=by
  have:=P1.isList
  rw [show (ys.map fun p=>Value.int p.1 p.2).toArray=intItems ys.toArray by unfold intItems; simp] at this
  exact this
 refine sum_intListG (I.ok.hd hc) hl' fun h' tk t' hk=>⟨.int _,H,I.kept (t':=tk) hk,⟨t',rfl⟩,?_⟩
 have e:preSum (numAt ys.toArray) ys.toArray.size=sumL ns:=by
  rw [AV,pre_sumL ys ys.length (AD _),hys,AT]
  rw [← hys,AA]
  exact AD _
 rw [e]
 exact q
theorem call_sumEK {K:PySem.W.Frag} (h:X.K=K) (hc:X.calm=true):CallR X (.builtin "sum") (rSumE K):=by subst h; exact call_sumE hc
end
section
variable {X:Cx} {pins:List (Addr×Obj)} {σ:St} {H:Hp} {s:Shared} {a:Addr} {u:HO} {o:Obj}
def tFrzS (t:TS):TS:=fun D σ H=>∃ a u,H a=some u∧IsDc u∧∀ o,t ⟨fun σ' H'=>H' a=some (.frz o u)∧D.nx σ' (upd H' a u),fun v H'=>H' a=some (.frz o u)∧D.rt v (upd H' a u),fun σ' H'=>H' a=some (.frz o u)∧D.bk σ' (upd H' a u),fun σ' H'=>H' a=some (.frz o u)∧D.ct σ' (upd H' a u)⟩ σ (upd H a (.frz o u))
theorem ps_frz {st:Stmt} {t:TS} (h:PS X st t):PS X st (tFrzS t):=by
 intro pins s σ H D I ⟨a,u,ea,d,k⟩
 obtain ⟨o,ho⟩:=d.at_ (I.hok a u ea)
 have n0:X.H₀ a≠some (.frz o u):=fun z=>by
  have r:=I.base.frzs a o u z
  rw [ea] at r
  exact d.no.2.2.2 _ _ (Ax r)
 refine thn (h pins s σ _ _ (I.frz d ea ho) (k o)) fun f s1 q=>?_
 cases f with
 | next =>
  obtain ⟨σ',H',I1,e1,q1⟩:=q
  exact ⟨σ',_,I1.thaw e1 n0,q1⟩
 | brk =>
  obtain ⟨σ',H',I1,e1,q1⟩:=q
  exact ⟨σ',_,I1.thaw e1 n0,q1⟩
 | cont =>
  obtain ⟨σ',H',I1,e1,q1⟩:=q
  exact ⟨σ',_,I1.thaw e1 n0,q1⟩
 | ret u' =>
  obtain ⟨v,σ',H',I1,r1,e1,q1⟩:=q
  exact ⟨v,σ',_,I1.thaw e1 n0,r1,q1⟩
end
section
variable {prog:Program} {w:World} {A:Around} {E:Value→Shared→Prop} {sh:Shared} {ic dc:Addr} {i ep:Nat} {od:Obj} {es:Array DictEntry}
end
section
variable {X:Cx}
end
end L2
namespace Srt
open PySem PySem.W PyProof.Rows
section
variable {n:Nat} {rk:Nat→Int} {S:Shared}
def ans (n:Nat) (rk:Nat→Int) (i j:Nat) (C:Bool→Shared→Prop) (s:Shared):Prop:=i < n∧j < n∧C (decide (rk i < rk j)) s
abbrev Wp (n:Nat) (rk:Nat→Int) (s:Shared) {α:Type} (t:KasT α) (Q:α→Prop):Prop:=t.kasWp (ans n rk) (fun a s'=>s'=s∧Q a) s
theorem wp_ret {α:Type} {a:α} {Q:α→Prop} (h:Q a):Wp n rk S (.ret a) Q:=⟨rfl,h⟩
theorem wp_ask {α:Type} {i j:Nat} {k:Bool→KasT α} {Q:α→Prop} (hi:i < n) (hj:j < n) (h1:rk i < rk j→Wp n rk S (k true) Q) (h2:rk j≤rk i→Wp n rk S (k false) Q):Wp n rk S (.ask i j k) Q:=by
 refine ⟨hi,hj,?_⟩
 by_cases h:rk i < rk j
 ·rw [decide_eq_true h]
  exact h1 h
 ·rw [decide_eq_false h]
  exact h2 (Int.not_lt.mp h)
theorem wp_go {α:Type} {s:Shared} {Q R:α→Shared→Prop} (h:∀ a s,Q a s→R a s):∀ (t:KasT α) (s:Shared),t.kasWp (ans n rk) Q s→t.kasWp (ans n rk) R s
 | .ret a,s,q=>h a s q
 | .ask _ _ k,s,q=>⟨q.1,q.2.1,wp_go (s:=s) h (k _) s q.2.2⟩
theorem wp_bind {α β:Type} {t:KasT α} {f:α→KasT β} {Q:β→Prop} (h:Wp n rk S t fun a=>Wp n rk S (f a) Q):Wp n rk S (t.bind f) Q:=by
 unfold Wp
 rw [KasT.kasWp_bind]
 refine wp_go (s:=S) (fun a s q=>?_) t S h
 obtain ⟨rfl,q⟩:=q
 exact q
theorem wp_mono {α:Type} {t:KasT α} {Q R:α→Prop} (q:Wp n rk S t Q) (h:∀ a,Q a→R a):Wp n rk S t R:=wp_go (s:=S) (fun a _ z=>⟨z.1,h a z.2⟩) t S q
def Ord (n:Nat) (p:Array Nat):Prop:=p.Perm (List.range n).toArray
theorem Ord.size {p:Array Nat} (h:Ord n p):p.size=n:=by
 rw [Array.Perm.size_eq h]
 simp
theorem Ord.lt {p:Array Nat} (h:Ord n p) {i:Nat} (hi:i < n):p.getD i 0 < n:=by
 have hz:i < p.size:=by rw [h.size]; exact hi
 have e:p.getD i 0=p[i]:=by simp [Array.getD,hz]
 have m:p[i]∈(List.range n).toArray.toList:=(Array.perm_iff_toList_perm.mp h).mem_iff.mp (by simp)
 rw [e]
 simpa using m
abbrev ky (rk:Nat→Int) (p:Array Nat) (i:Nat):Int:=rk (p.getD i 0)
theorem ky_of {p q:Array Nat} {i j:Nat} (h:p[i]?=q[j]?):ky rk p i=ky rk q j:=by
 unfold ky
 rw [Array.getD_eq_getD_getElem?,Array.getD_eq_getD_getElem?,h]
theorem ky_rev {p:Array Nat} {i j:Nat} (hj:j≤p.size) (k:Nat):ky rk (kas_rev p i j) k=if i≤k∧k < j then ky rk p (i + j - 1 - k) else ky rk p k:=by
 have e:=getElem?_mirror_all (i:=i) hj k
 unfold kas_rev
 by_cases h:i≤k∧k < j
 ·rw [if_pos h] at e ⊢
  exact ky_of e
 ·rw [if_neg h] at e ⊢
  exact ky_of e
theorem ky_bub {p:Array Nat} {c d:Nat} (hc:c < p.size) (hd:d≤c) (k:Nat):ky rk (bubble p c d) k=if k=c - d then ky rk p c else if c - d < k∧k≤c then ky rk p (k - 1) else ky rk p k:=by
 have e:=getElem?_bubble hc d hd k
 by_cases h1:k=c - d
 ·rw [if_pos h1] at e ⊢
  exact ky_of e
 ·rw [if_neg h1] at e ⊢
  by_cases h2:c - d < k∧k≤c
  ·rw [if_pos h2] at e ⊢
   exact ky_of e
  ·rw [if_neg h2] at e ⊢
   exact ky_of e
theorem Ord.rev {p:Array Nat} (h:Ord n p) (i j:Nat):Ord n (kas_rev p i j):=(mirror_perm _ _ _ _).trans h
theorem Ord.bub {p:Array Nat} (h:Ord n p) (i j:Nat):Ord n (bubble p i j):=(bubble_perm _ _ _).trans h
def Up (rk:Nat→Int) (p:Array Nat) (m:Nat):Prop:=∀ i j,i≤j→j < m→ky rk p i≤ky rk p j
def Dn (rk:Nat→Int) (p:Array Nat) (m:Nat):Prop:=∀ i j,i≤j→j < m→ky rk p j≤ky rk p i
theorem Up.snoc {p:Array Nat} {m:Nat} (h:Up rk p m) (h1:1≤m) (l:ky rk p (m - 1)≤ky rk p m):Up rk p (m + 1):=fun i j hij hj=>by
 by_cases e:j < m
 ·exact h i j hij e
 ·have:j=m:=by lia
  subst this
  by_cases e2:i=j
  ·rw [e2]; exact Int.le_refl _
  ·exact Int.le_trans (h i (j - 1) (by lia) (by lia)) l
theorem Dn.snoc {p:Array Nat} {m:Nat} (h:Dn rk p m) (h1:1≤m) (l:ky rk p m≤ky rk p (m - 1)):Dn rk p (m + 1):=fun i j hij hj=>by
 by_cases e:j < m
 ·exact h i j hij e
 ·have:j=m:=by lia
  subst this
  by_cases e2:i=j
  ·rw [e2]; exact Int.le_refl _
  ·exact Int.le_trans l (h i (j - 1) (by lia) (by lia))
theorem asc {p:Array Nat} (O:Ord n p) {Q:Nat→Prop}:∀ (f a:Nat),1≤a→a + f≤n→Up rk p a→(∀ m,a≤m→m≤a + f→Up rk p m→(m=a + f∨ky rk p m < ky rk p (m - 1))→Q m)→Wp n rk S (kas_asc p f a) Q
 | 0,a,_,_,u,h=>wp_ret (h a (AD _) (AD _) u (.inl rfl))
 | f + 1,a,h1,hn,u,h=>by
  refine wp_ask (O.lt (by lia)) (O.lt (by lia)) (fun c=>?_) (fun c=>?_)
  ·exact wp_ret (h a (AD _) (by lia) u (.inr c))
  ·exact asc O f (a + 1) (by lia) (by lia) (u.snoc h1 c) fun m h2 h3 um hm=>h m (by lia) (by lia) um (hm.imp (fun z=>by lia) id)
def Tl (rk:Nat→Int) (p:Array Nat) (m q:Nat):Prop:=∀ i,m - (q + 1)≤i→i < m→ky rk p i=ky rk p (m - 1)
theorem Tl.rev {p:Array Nat} {m q:Nat} (h:Tl rk p m q) (hm:m≤p.size) (k:Nat):ky rk (kas_rev p (m - (q + 1)) m) k=ky rk p k:=by
 rw [ky_rev hm]
 split
 ·rename_i c
  rw [h _ (by lia) (by lia),h k c.1 c.2]
 ·rfl
theorem Dn.like {p q:Array Nat} {m:Nat} (h:Dn rk p m) (e:∀ k,ky rk q k=ky rk p k):Dn rk q m:=fun i j hij hj=>by rw [e,e]; exact h i j hij hj
theorem desc {Q:Array Nat×Nat×Nat→Prop}:∀ (f:Nat) (p:Array Nat) (a q:Nat),Ord n p→1≤a→a + f≤n→Dn rk p a→Tl rk p a q→(∀ p' m q',Ord n p'→1≤m→m≤a + f→Dn rk p' m→Tl rk p' m q'→Q (p',m,q'))→Wp n rk S (kas_desc f p a q) Q
 | 0,p,a,q,O,h1,hn,d,t,h=>wp_ret (h p a q O h1 (AD _) d t)
 | f + 1,p,a,q,O,h1,hn,d,t,h=>by
  have next:∀ p' q',Ord n p'→Dn rk p' (a + 1)→Tl rk p' (a + 1) q'→Wp n rk S (kas_desc f p' (a + 1) q') Q:=fun p' q' O' d' t'=>desc f p' (a + 1) q' O' (by lia) (by lia) d' t' fun p2 m q2 O2 g1 g2 d2 t2=>h p2 m q2 O2 g1 (by lia) d2 t2
  have one:∀ p',Tl rk p' (a + 1) 0:=fun p' i g1 g2=>by
   have:i=a + 1 - 1:=by lia
   rw [this]
  refine wp_ask (O.lt (by lia)) (O.lt (by lia)) (fun c=>?_) (fun c=>?_)
  ·show Wp n rk S (if q > 0 then kas_desc f (kas_rev p (a - (q + 1)) a) (a + 1) 0 else kas_desc f p (a + 1) 0) Q
   have d2:=d.snoc h1 (Int.le_of_lt c)
   split
   ·exact next _ _ (O.rev _ _) (d2.like (t.rev (by rw [O.size]; lia))) (one _)
   ·exact next _ _ O d2 (one _)
  ·refine wp_ask (O.lt (by lia)) (O.lt (by lia)) (fun c2=>?_) (fun c2=>?_)
   ·exact wp_ret (h p a q O h1 (by lia) d t)
   ·have e:ky rk p a=ky rk p (a - 1):=Int.le_antisymm c2 c
    refine next _ _ O (d.snoc h1 c2) fun i g1 g2=>?_
    show _=ky rk p a
    by_cases z:i=a
    ·rw [z]
    ·rw [e]
     exact t i (by lia) (by lia)
abbrev Run (n:Nat) (rk:Nat→Int) (r:Nat×Array Nat):Prop:=1≤r.1∧r.1≤n∧Ord n r.2∧Up rk r.2 r.1
theorem tail3 {p:Array Nat} {m:Nat} (O:Ord n p) (h1:1≤m) (hm:m≤n) (d:Dn rk p m):Wp n rk S (kas_tail3 m n p) (Run n rk):=by
 have u:Up rk (kas_rev p 0 m) m:=fun i j hij hj=>by
  rw [ky_rev (by rw [O.size]; exact hm),ky_rev (by rw [O.size]; exact hm),if_pos ⟨Ai _,by lia⟩,if_pos ⟨Ai _,hj⟩]
  exact d _ _ (by lia) (by lia)
 exact wp_bind (asc (O.rev _ _) _ _ h1 (by lia) u fun k g1 g2 uk _=>wp_ret ⟨by lia,by lia,O.rev _ _,uk⟩)
theorem descPart {p:Array Nat} {m:Nat} (O:Ord n p) (hm:m + 1≤n) (d:Dn rk p (m + 1)):Wp n rk S (kas_descPart m n p) (Run n rk):=by
 refine wp_bind (desc _ _ _ _ O (by lia) (by lia) d (fun i g1 g2=>?_) fun p' k q O' g1 g2 d' t'=>?_)
 ·have:i=m + 1 - 1:=by lia
  rw [this]
 ·show Wp n rk S (if q > 0 then kas_tail3 k n (kas_rev p' (k - (q + 1)) k) else kas_tail3 k n p') _
  split
  ·exact tail3 (O'.rev _ _) g1 (by lia) (d'.like (t'.rev (by rw [O'.size]; lia)))
  ·exact tail3 O' g1 (by lia) d'
theorem count {p:Array Nat} (O:Ord n p) (h1:1≤n):Wp n rk S (kas_count n p) (Run n rk):=by
 refine wp_bind (asc O _ _ (AD 1) (by lia) (fun i j hij hj=>?_) fun m g1 g2 u hm=>?_)
 ·have:i=j:=by lia
  rw [this]
  exact Int.le_refl _
 ·have g3:m≤n:=by lia
  show Wp n rk S (if (m == n)=true then .ret (m,p) else if m > 1 then .ask (p.getD 0 0) (p.getD (m - 1) 0) fun c=>if c=true then .ret (m,p) else kas_descPart m n (kas_rev p 0 m) else kas_descPart m n p) _
  split
  ·exact wp_ret ⟨g1,g3,O,u⟩
  ·rename_i c
   have g4:m < n:=by
    have:m≠n:=fun z=>c (by rw [z]; exact beq_self_eq_true _)
    lia
   have l:ky rk p m < ky rk p (m - 1):=hm.resolve_left (by lia)
   split
   ·rename_i c2
    refine wp_ask (O.lt (by lia)) (O.lt (by lia)) (fun _=>wp_ret ⟨g1,g3,O,u⟩) (fun c3=>?_)
    have al:∀ i,i < m→ky rk p i=ky rk p (m - 1):=fun i hi=>Int.le_antisymm (u i (m - 1) (by lia) (by lia)) (Int.le_trans c3 (u 0 i (by lia) hi))
    have t:Tl rk p m (m - 1):=fun i _ hi=>al i hi
    refine descPart (O.rev _ _) g4 ?_
    have e:∀ k,ky rk (kas_rev p 0 m) k=ky rk p k:=fun k=>by
     have:=t.rev (by rw [O.size]; exact g3) k
     rw [show m - (m - 1 + 1)=0 by lia] at this
     exact this
    refine Dn.like (Dn.snoc (fun i j _ hj=>?_) g1 (Int.le_of_lt l)) e
    rw [al i (by lia),al j hj]
    exact Int.le_refl _
   ·have e1:m=1:=by lia
    subst e1
    refine descPart O g4 (Dn.snoc (fun i j _ hj=>?_) g1 (Int.le_of_lt l))
    have:i=j:=by lia
    rw [this]
    exact Int.le_refl _
theorem place {p:Array Nat} (O:Ord n p) {k:Nat} (hk:k < n) (u:Up rk p k) {Q:Nat→Prop} (h:∀ l,l≤k→(∀ i,i < l→ky rk p i≤ky rk p k)→(∀ i,l≤i→i < k→ky rk p k≤ky rk p i)→Q l) :
  ∀ (f l r:Nat),l≤r→r≤k→r - l≤f→(∀ i,i < l→ky rk p i≤ky rk p k)→(∀ i,r≤i→i < k→ky rk p k≤ky rk p i)→Wp n rk S (kas_place p k f l r) Q
 | 0,l,r,a,b,c,d,e=>wp_ret (h l (by lia) d fun i g1 g2=>e i (by lia) g2)
 | f + 1,l,r,a,b,c,d,e=>by
  show Wp n rk S (if l ≥ r then .ret l else .ask (p.getD k 0) (p.getD ((l + r) / 2) 0) fun c=>if c=true then kas_place p k f l ((l + r) / 2) else kas_place p k f ((l + r) / 2 + 1) r) Q
  split
  ·exact wp_ret (h l (by lia) d fun i g1 g2=>e i (by lia) g2)
  ·refine wp_ask (O.lt hk) (O.lt (by lia)) (fun c1=>?_) (fun c1=>?_)
   ·exact place O hk u h f l ((l + r) / 2) (by lia) (by lia) (by lia) d fun i g1 g2=>Int.le_trans (Int.le_of_lt c1) (u _ _ g1 g2)
   ·exact place O hk u h f ((l + r) / 2 + 1) r (by lia) b (by lia) (fun i g1=>Int.le_trans (u _ _ (by lia) (by lia)) c1) e
theorem bin:∀ (f:Nat) (p:Array Nat) (k:Nat),Ord n p→k + f=n→Up rk p k→Wp n rk S (kas_bin f p k) fun p'=>Ord n p'∧Up rk p' n
 | 0,p,k,O,e,u=>wp_ret ⟨O,by rw [← e]; exact u⟩
 | f + 1,p,k,O,e,u=>by
  refine wp_bind (place O (by lia) u (fun l hl a b=>?_) _ _ _ (Ai _) (AD _) (by lia) (fun i hi=>by lia) (fun i g1 g2=>by lia))
  refine bin f _ (k + 1) (O.bub _ _) (by lia) fun i j hij hj=>?_
  have hz:k < p.size:=by rw [O.size]; lia
  rw [ky_bub hz (by lia),ky_bub hz (by lia),show k - (k - l)=l by lia]
  by_cases i1:i=l
  ·rw [if_pos i1]
   by_cases j1:j=l
   ·rw [if_pos j1]; exact Int.le_refl _
   ·rw [if_neg j1,if_pos ⟨by lia,by lia⟩]
    exact b _ (by lia) (by lia)
  ·rw [if_neg i1]
   by_cases i2:l < i∧i≤k
   ·rw [if_pos i2,if_neg (by lia),if_pos ⟨by lia,by lia⟩]
    exact u _ _ (by lia) (by lia)
   ·rw [if_neg i2]
    by_cases j1:j=l
    ·rw [if_pos j1]
     exact a i (by lia)
    ·rw [if_neg j1]
     by_cases j2:l < j∧j≤k
     ·rw [if_pos j2]
      exact u _ _ (by lia) (by lia)
     ·rw [if_neg j2]
      exact u _ _ (by lia) (by lia)
theorem sort (h1:1≤n):Wp n rk S (kas_sort n) fun p=>Ord n p∧Up rk p n:=by
 refine wp_bind (wp_mono (count (Array.Perm.refl _) h1) fun r hr=>?_)
 obtain ⟨m,p⟩:=r
 obtain ⟨a,b,O,u⟩:=hr
 show Wp n rk S (if m < n then kas_bin (n - max m 1) p (max m 1) else .ret p) _
 split
 ·have e:max m 1=m:=Nat.max_eq_left a
  rw [e]
  exact bin _ _ _ O (by lia) u
 ·have e:m=n:=by
   have:m≤n:=b
   lia
  subst e
  exact wp_ret ⟨O,u⟩
end
theorem conv {n:Nat} {rk:Nat→Int} {S:Shared} {cmp:Nat→Nat→(Bool→Shared→Prop)→Shared→Prop} {α:Type} {Q:α→Shared→Prop} (hc:∀ i j C,i < n→j < n→C (decide (rk i < rk j)) S→cmp i j C S):∀ t:KasT α,t.kasWp (ans n rk) Q S→t.kasWp cmp Q S
 | .ret _,q=>q
 | .ask i j k,q=>hc i j _ q.1 q.2.1 (conv hc (k _) q.2.2)
end Srt
namespace L2
open PySem PySem.Spec PyProof.Rows PySem.W
def rkP (c:Int×Int):Int:=c.1 * 1099511627776 + c.2
def inP (c:Int×Int):Prop:=-274877906944≤c.2∧c.2≤274877906944
section
variable {prog:Program} {w:World} {A:Around} {E:Value→Shared→Prop} {s:Shared}
theorem ask_pair {c d:Int×Int} {t1 t2 u1 u2:Tok} {Q:Bool→Shared→Prop} (hc:inP c) (hd:inP d) (h:Q (decide (rkP c < rkP d)) s) :
  KatLex prog w A true false Q [(.int c.1 t1,.int d.1 u1),(.int c.2 t2,.int d.2 u2)] 0 s:=by
 obtain ⟨a,b⟩:=c
 obtain ⟨x,y⟩:=d
 obtain ⟨b1,b2⟩:-274877906944≤b∧b≤274877906944:=hc
 obtain ⟨y1,y2⟩:-274877906944≤y∧y≤274877906944:=hd
 have h':Q (decide (a * 1099511627776 + b < x * 1099511627776 + y)) s:=h
 refine kat_cons (wpAny_eqBool_int (kat_go (fun e=>kat_yes (kat_cons (wpAny_eqBool_int (kat_go (fun e2=>kat_yes (kat_nil ?_)) (fun e2=>kat_no ?_))))) (fun e=>kat_no ?_)))
 ·have e1:a=x:=eq_of_beq e
  have e3:b=y:=eq_of_beq e2
  rw [e1,e3,decide_eq_false (Int.lt_irrefl _)] at h'
  exact h'
 ·have e1:a=x:=eq_of_beq e
  show wpAny _ _ (oneLt' false (.int b t2) (.int y u2)) _ _ _
  refine kat_one _ _ (wpAny_lt_int ?_)
  show Q (decide (b < y)) s
  rw [show decide (b < y)=decide (a * 1099511627776 + b < x * 1099511627776 + y) from decide_eq_decide.mpr (by rw [e1]; lia)]
  exact h'
 ·have e1:a≠x:=fun z=>by rw [z,beq_self_eq_true] at e; cases e
  show wpAny _ _ (oneLt' true (.int a t1) (.int x u1)) _ _ _
  refine oneLt_int ?_
  rw [show decide (a < x)=decide (a * 1099511627776 + b < x * 1099511627776 + y) from decide_eq_decide.mpr (by lia)]
  exact h'
def KeptB (a:Addr) (h g:Heap):Prop:=∀ b o,b≠a→h.get? b=some o→g.get? b=some o
theorem sort_at {a:Addr} {vs:List Value} {m:Nat} {P:PySem.Fin→Shared→Prop} {rk:Nat→Int} (there:s.heap.get? a=some (seqObj "list" vs.toArray m)) (few:vs.length < 64)
  (ty:∀ g:Heap,KeptB a s.heap g→∃ fs,KatTups g vs fs∧fs.length=vs.length∧∀ v∈fs,∃ i t,v=.int i t)
  (ask:∀ g:Heap,KeptB a s.heap g→∀ i j C,i < vs.length→j < vs.length→C (decide (rk i < rk j)) { s with heap:=g }→kas_ask prog w A (tuples' true) vs i j C { s with heap:=g })
  (fin:∀ p:Array Nat,Srt.Ord vs.length p→Srt.Up rk p vs.length→P (.done (.ret .none)) { s with heap:=sortedHeap s.heap a vs (p.toList.map fun i=>vs.getD i A7).toArray }) :
  wpAny (model prog w) A (Builtin.«list.sort» ⟨[.ref a],[]⟩) P E s:=by
 have al:a < s.heap.objs.size:=AK there
 have zl:vs.length≤AL:=by rw [sizeLine_eq]; lia
 rw [list_sort_plain]
 refine AC (listItems_at there rfl (AC (listUpdate_at there rfl ?_ (by rw [AV]; lia) (Ai _))))
 obtain ⟨ep,gone⟩:∃ ep,(s.heap.update a (Obj.mapSeq fun _=>#[])).get? a=some (seqObj "list" #[] ep):=⟨_,get?_update_seq there _⟩
 refine AC (seqEpoch_at gone rfl (AC (wpAny_newTuple ?_ (by show vs.length≤_; exact zl))))
 refine AC (wpAny_newList (wpAny_holding ?_) (Ai _))
 have kept:KeptB a s.heap (((s.heap.update a (Obj.mapSeq fun _=>#[])).push (seqObj "tuple" vs.toArray 0)).push (seqObj "list" #[] 0)):=fun b o ne e=>AH _ (AH _ (by rw [Heap.get?_update_ne _ _ _ _ ne]; exact e))
 have now:(((s.heap.update a (Obj.mapSeq fun _=>#[])).push (seqObj "tuple" vs.toArray 0)).push (seqObj "list" #[] 0)).get? a=some (seqObj "list" #[] ep):=AH _ (AH _ gone)
 show wpAny (model prog w) A _ P E { s with heap:=_ }
 dsimp only
 by_cases two:vs.toArray.size < 2
 ·rw [if_pos two,if_pos two]
  refine AC (AM ?_)
  rw [StateT.run_pure]
  refine AC (AM ?_)
  dsimp only
  have e0:((vs.toArray.zip vs.toArray).map (·.2))=((List.range vs.length).toArray.toList.map fun i=>vs.getD i A7).toArray:=by
   apply Array.ext'
   simp only [Array.toList_map,Array.toList_zip,List.toList_toArray]
   rw [List.map_snd_zip (AD _)]
   apply List.ext_getElem?
   intro i
   rw [AF]
   by_cases hi:i < vs.length
   ·rw [List.getElem?_range hi,AB hi]
    simp [hi]
   ·rw [A9 (by lia),A9 (by rw [List.length_range]; lia)]
    rfl
  refine AC (seqEpoch_at now rfl (AC (listUpdate_at now rfl ?_ (Ai _) (by
   show ((vs.toArray.zip vs.toArray).map (·.2)).size≤_
   rw [Array.size_map,Array.size_zip,AV,Nat.min_self]
   lia))))
  simp only [bne_self_eq_false,Bool.false_eq_true,if_false]
  have f0:=fin (List.range vs.length).toArray (Array.Perm.refl _) fun i j ij jl=>by
   rw [AV] at two
   rw [show i=j by lia]
   exact Int.le_refl _
  rw [← e0] at f0
  exact AM f0
 ·rw [if_neg two,if_neg two]
  rw [AV] at two
  obtain ⟨fs,tups,fl,nums⟩:=ty _ kept
  refine AC (kat_kind (T:=.type "int") tups (by lia) (fun v hv=>by obtain ⟨i,t,rfl⟩:=nums v hv; exact Looks.of_pure rfl) rfl ?_)
  have run:=Srt.conv (Q:=fun p s'=>s'={ s with heap:=(((s.heap.update a (Obj.mapSeq fun _=>#[])).push (seqObj "tuple" vs.toArray 0)).push (seqObj "list" #[] 0)) }∧Srt.Ord vs.length p∧Srt.Up rk p vs.length) (ask _ kept) (kas_sort vs.length) (Srt.sort (by lia))
  refine AC (wpAny_mono (kat_run (Q:=fun st' s'=>s'={ s with heap:=(((s.heap.update a (Obj.mapSeq fun _=>#[])).push (seqObj "tuple" vs.toArray 0)).push (seqObj "list" #[] 0)) }∧∃ p:Array Nat,Srt.Ord vs.length p∧Srt.Up rk p vs.length∧arrOf st'=p.map (kas_item (vs.toArray.zip vs.toArray))∧failedOf st'=none)
   rfl (by lia) few (fun p st' s' _ b1 b2 g=>⟨g.1,p,g.2.1,g.2.2,b1,b2⟩) run) ?_ fun _ _ z=>z)
  rintro ⟨⟨⟩,st'⟩ s' ⟨rfl,p,o,u,b1,b2⟩
  dsimp only
  have e1:=kat_snds (ks:=vs) (vs:=vs) rfl b1
  rw [e1]
  refine AC (seqEpoch_at now rfl (AC (listUpdate_at now rfl ?_ (Ai _) (by
   show (List.toArray (p.toList.map fun i=>vs.getD i A7)).size≤_
   rw [AV,AA,Array.length_toList,o.size]
   lia))))
  rw [b2]
  simp only [bne_self_eq_false,Bool.false_eq_true,if_false]
  exact AM (fin p o u)
theorem sorted_at {l:Addr} {vs:List Value} {Q:Value→Shared→Prop} {rk:Nat→Int} (hl:s.heap.IsList l vs.toArray) (few:vs.length < 64)
  (ty:∀ g:Heap,(∀ b o,s.heap.get? b=some o→g.get? b=some o)→∃ fs,KatTups g vs fs∧fs.length=vs.length∧∀ v∈fs,∃ i t,v=.int i t)
  (ask:∀ (B:Around) (g:Heap),(∀ b o,s.heap.get? b=some o→g.get? b=some o)→∀ i j C,i < vs.length→j < vs.length→C (decide (rk i < rk j)) { s with heap:=g }→kas_ask prog w B (tuples' true) vs i j C { s with heap:=g })
  (fin:∀ p:Array Nat,Srt.Ord vs.length p→Srt.Up rk p vs.length→Q (.ref (s.heap.objs.size + 1)) { s with heap:=sortedAll s.heap vs (p.toList.map fun i=>vs.getD i A7).toArray }) :
  wpAny (model prog w) A (call (.builtin "sorted") [.ref l]) Q E s:=by
 have zl:vs.length≤AL:=by rw [sizeLine_eq]; lia
 refine Calls.call_function_entry kind_sorted plain_sorted entry_sorted (args_sorted1 _) ?_
 unfold Builtin.«sorted»
 refine AC (m:=checkCount "sorted" 1 1 _) (AM (AC (collect_list hl (AC (wpAny_newList ?_ zl)) zl)))
 have z1:((s.heap.push (seqObj "list" #[] 0)).update s.heap.objs.size (Obj.mapSeq (·++vs.toArray))).objs.size=s.heap.objs.size + 1:=by rw [Heap.size_update,size_push']
 have new:(((s.heap.push (seqObj "list" #[] 0)).update s.heap.objs.size (Obj.mapSeq (·++vs.toArray))).push (seqObj "list" vs.toArray 0)).get? (s.heap.objs.size + 1)=some (seqObj "list" vs.toArray 0):=by
  rw [← z1]
  exact Al _ rfl
 have old:∀ b o,s.heap.get? b=some o→(((s.heap.push (seqObj "list" #[] 0)).update s.heap.objs.size (Obj.mapSeq (·++vs.toArray))).push (seqObj "list" vs.toArray 0)).get? b=some o:=fun b o e=>AH _ (by
  rw [Heap.get?_update_ne _ _ _ _ (AU (AK e))]
  exact AH _ e)
 have ne:∀ b o,s.heap.get? b=some o→b≠s.heap.objs.size + 1:=fun b o e=>AU (Nat.lt_succ_of_lt (AK e))
 show wpAny _ _ _ _ _ { s with heap:=_ }
 rw [z1]
 refine AC (wpAny_holding (wpAny_call_entry slot_list_sort ⟨_,new,rfl⟩ entry_list_sort (sort_at (rk:=rk) new few (fun g k=>ty g fun b o e=>k b o (ne b o e) (old b o e)) (fun g k=>ask _ g fun b o e=>k b o (ne b o e) (old b o e)) fun p o u=>⟨_,rfl,AM ⟨_,rfl,fin p o u⟩⟩) (args_list_sort _)))
end
theorem paired_get {R:Addr→Int×Int→Prop}:∀ {ts:List Addr} {cs:List (Int×Int)},Paired R ts cs→ts.length=cs.length∧∀ i,i < ts.length→R (ts.getD i 0) (cs.getD i (0,0))
 | _,_,.nil=>⟨rfl,fun i h=>absurd h (Nat.not_lt_zero _)⟩
 | _,_,.cons (l₁:=ts) (l₂:=cs) r t=>by
  obtain ⟨a,b⟩:=paired_get t
  refine ⟨by rw [AO,AO,a],fun i h=>?_⟩
  cases i with
  | zero=>exact r
  | succ i=>exact b i (Nat.lt_of_succ_lt_succ h)
theorem paired_map {α β γ:Type} {R:β→γ→Prop} {f:α→β} {g:α→γ}:∀ l:List α,(∀ i∈l,R (f i) (g i))→Paired R (l.map f) (l.map g)
 | [],_=>.nil
 | i :: l,h=>.cons (h i Ab) (paired_map l fun j hj=>h j (AR _ hj))
theorem map_getD {α:Type} (d:α) (l:List α):(List.range l.length).map (fun i=>l.getD i d)=l:=by
 apply List.ext_getElem?
 intro i
 rw [AF]
 by_cases hi:i < l.length
 ·rw [List.getElem?_range hi,AB hi]
  simp [hi]
 ·rw [A9 (by rw [List.length_range]; lia),A9 (by lia)]
  rfl
theorem vals_refs:∀ {ts:List Addr} {its:List Value},Vals (ts.map V.ref) its→its=ts.map Ac
 | [],_,.nil=>rfl
 | t :: ts,_,.cons r q=>by
  cases r
  rw [vals_refs q]
  rfl
theorem refs_vals:∀ ts:List Addr,Vals (ts.map V.ref) (ts.map Ac)
 | []=>.nil
 | _ :: ts=>.cons rfl (refs_vals ts)
def PrIs (h:Heap) (t:Addr) (c:Int×Int):Prop:=∃ (t1 t2:Tok) (o:Obj) (n:Nat),h.get? t=some o∧o.cls=.type "tuple"∧o.data=.seq (List.toArray [Value.int c.1 t1,Value.int c.2 t2]) n
theorem PrIs.tups {h:Heap}:∀ {ts:List Addr} {cs:List (Int×Int)},Paired (PrIs h) ts cs→∃ fs,PySem.W.KatTups h (ts.map Ac) fs∧fs.length=(ts.map Ac).length∧∀ v∈fs,∃ i t,v=Value.int i t
 | _,_,.nil=>⟨[],PySem.W.KatTups.nil,rfl,fun v hv=>by cases hv⟩
 | _,_,.cons (l₁:=ts) r t=>by
  obtain ⟨fs,a,b,c⟩:=PrIs.tups t
  obtain ⟨t1,t2,o,n,h1,h2,h3⟩:=r
  refine ⟨Value.int _ t1 :: fs,PySem.W.KatTups.cons h1 h2 h3 rfl a,by rw [Az,AO,AO,b],fun v hv=>?_⟩
  rcases AW.mp hv with rfl | hv
  ·exact ⟨_,_,rfl⟩
  ·exact c v hv
inductive rSortP (K:PySem.W.Frag) (xs:List V) (H:Hp) (Q:VK):Prop
 | mk (l:Addr) (ts:List Addr) (cs:List (Int×Int)) (h0:xs=[.ref l]) (h1:SqL K H l (ts.map V.ref)) (h2:Paired (fun t c=>SqT K H t [.int c.1,.int c.2]) ts cs) (h3:ts.length < 64) (h4:∀ c∈cs,inP c)
   (h5:∀ (D:Addr) (us:List Addr) (ds:List (Int×Int)),H D=none→ds.Perm cs→ds.Pairwise (fun a b=>rkP a≤rkP b)→us.length=ts.length→(∀ R:Addr→Int×Int→Prop,Paired R ts cs→Paired R us ds)→Q (.ref D) (upd H D (.lst (us.map V.ref)))):rSortP K xs H Q
section
variable {X:Cx}
theorem call_sortP:CallR X (.builtin "sorted") (rSortP X.K):=by
 intro pins s σ H xs us Q I r h
 obtain ⟨l,ts,cs,rfl,hl,tp,few,bnd,q⟩:=h
 obtain ⟨u,rfl,ru⟩:=vals1 r
 cases ru
 obtain ⟨its,v,P1,z1⟩:=I.list hl
 rw [vals_refs v] at P1
 rw [AA] at z1
 obtain ⟨tl,tg⟩:=paired_get tp
 have pi:∀ t c,SqT X.K H t [.int c.1,.int c.2]→PrIs s.heap t c:=fun t c ht=>by
  obtain ⟨its,v,⟨o,h1,h2,n,h3⟩,_⟩:=I.tuple ht
  obtain ⟨a,b,rfl,⟨t1,rfl⟩,⟨t2,rfl⟩⟩:=v.two
  exact ⟨t1,t2,o,n,h1,h2,h3⟩
 have pp:Paired (PrIs s.heap) ts cs:=Paired.mapP tp pi
 have keepP:∀ g:Heap,(∀ b o,s.heap.get? b=some o→g.get? b=some o)→∀ t c,PrIs s.heap t c→PrIs g t c:=fun g k t c ⟨t1,t2,o,n,h1,h2,h3⟩=>⟨t1,t2,o,n,k _ _ h1,h2,h3⟩
 have gd:∀ i,i < ts.length→(ts.map Ac).getD i A7=Ac (ts.getD i 0):=fun i hi=>by simp [hi]
 have hcs:∀ i,i < ts.length→inP (cs.getD i (0,0)):=fun i hi=>by
  have hi2:i < cs.length:=by lia
  have e:cs.getD i (0,0)=cs[i]:=by simp [hi2]
  rw [e]
  exact bnd _ (Ak hi2)
 refine sorted_at (rk:=fun i=>rkP (cs.getD i (0,0))) P1.isList (by rw [AA]; exact few) (fun g k=>PrIs.tups (Paired.mapP pp (keepP g k))) (fun B g k i j C hi hj hC=>?_) (fun p o up=>?_)
 ·rw [AA] at hi hj
  have a1:=(paired_get (Paired.mapP pp (keepP g k))).2 i hi
  have a2:=(paired_get (Paired.mapP pp (keepP g k))).2 j hj
  obtain ⟨t1,t2,o1,n1,b1,_,b3⟩:=a1
  obtain ⟨u1,u2,o2,n2,d1,_,d3⟩:=a2
  unfold PySem.W.kas_ask
  rw [gd i hi,gd j hj]
  exact PySem.W.kat_lt b1 b3 d1 d3 (ask_pair (hcs i hi) (hcs j hj) hC)
 ·rw [AA] at o up
  have pl:p.toList.Perm (List.range ts.length):=by
   have:=Array.perm_iff_toList_perm.mp o
   simpa using this
  have lt:∀ i∈p.toList,i < ts.length:=fun i hi=>List.mem_range.mp (pl.mem_iff.mp hi)
  have ev:(p.toList.map fun i=>(ts.map Ac).getD i A7)=(p.toList.map fun i=>ts.getD i 0).map Ac:=by
   rw [List.map_map]
   exact List.map_congr_left fun i hi=>gd i (lt i hi)
  have ul:(p.toList.map fun i=>ts.getD i 0).length=ts.length:=by rw [AA,Array.length_toList,o.size]
  obtain ⟨c',hc'⟩:=sortedAll_at s.heap (ts.map Ac) (p.toList.map fun i=>(ts.map Ac).getD i A7).toArray
  refine ⟨.ref (s.heap.objs.size + 1),upd H (s.heap.objs.size + 1) (.lst ((p.toList.map fun i=>ts.getD i 0).map V.ref)),I.laid (t':=s.toks) (fun b ob e=>sortedAll_old e) (Nat.le_succ _) (show ObjOk X.prog X.w _ _ _ (.lst _) from ⟨by rw [AA,ul]; exact z1,_,c',refs_vals _,by rw [← ev]; exact hc'⟩),rfl,?_⟩
  refine q _ _ (p.toList.map fun i=>cs.getD i (0,0)) (I.hok.fresh (Nat.le_succ _)) ?_ ?_ ul fun R hR=>?_
  ·have:=pl.map fun i=>cs.getD i (0,0)
   rw [tl,map_getD] at this
   exact this
  ·rw [List.pairwise_map,List.pairwise_iff_getElem]
   intro i j hi hj hij
   have hi':i < p.size:=by simpa using hi
   have hj':j < p.size:=by simpa using hj
   have:=up i j (Nat.le_of_lt hij) (by rw [← o.size]; exact hj')
   unfold Srt.ky at this
   rw [show p.getD i 0=p.toList[i] by simp [Array.getD,hi'],show p.getD j 0=p.toList[j] by simp [Array.getD,hj']] at this
   exact this
  ·have g:=(paired_get hR).2
   exact paired_map _ fun i hi=>g i (lt i hi)
theorem call_sortPK {K:PySem.W.Frag} (h:X.K=K):CallR X (.builtin "sorted") (rSortP K):=by subst h; exact call_sortP
end
end L2
namespace L2
open PySem PySem.Spec PyProof.Rows
section
variable {X:Cx}
inductive rSetdef (x:V) (vs:List V) (H:Hp) (Q:VK):Prop
 | old (d:Addr) (kvs:List (Key×V)) (k:Key) (y v:V) (h0:x=.ref d) (h1:vs=[kV k,y]) (h2:H d=some (.dK kvs)) (h3:valV kvs k=some v) (h4:Q v H):rSetdef x vs H Q
 | new (d:Addr) (kvs:List (Key×V)) (k:Key) (y:V) (h0:x=.ref d) (h1:vs=[kV k,y]) (h2:H d=some (.dK kvs)) (h3:valV kvs k=none) (h4:kvs.length < AL) (h5:Q y (upd H d (.dK (putK kvs k y)))):rSetdef x vs H Q
theorem putK_len {κ:Type} [DecidableEq κ] (kvs:List (κ×V)) (k:κ) (v:V):(putK kvs k v).length≤kvs.length + 1:=by
 unfold putK
 split
 ·rw [AA]; lia
 ·rw [AI]; exact AD _
theorem mt_setdef:MtM X "dict.setdefault" rSetdef:=by
 intro pins s σ H x vs v us Q I rx rv h
 cases h with
 | old d kvs k y v' e0 e1 hH hv q =>
  subst e0 e1
  cases rx
  obtain ⟨u0,u,rfl,r0,ru⟩:=rv.two
  obtain ⟨z,hd,ws,rel,dd⟩:=dk_of I.hok hH
  have rk:=rel.val k
  refine call_meetsIn F.slot_dict_setdefault dd.typeIs F.entry_dict_setdefault (F.args_dict_setdefault_3 _ _ _) (PySem.kt_meets_setdefault (mixKind X.prog X.w) d (kV_is r0) hd u) ⟨ws,dd,by rw [← rel.length]; exact z,fun w hw=>?_,fun hn=>?_⟩
  ·rw [hv,hw] at rk
   exact ⟨v',H,I.tok _,rk,q⟩
  ·rw [hv,hn] at rk
   exact rk.elim
 | new d kvs k y e0 e1 hH hv hl q =>
  subst e0 e1
  cases rx
  obtain ⟨u0,u,rfl,r0,ru⟩:=rv.two
  obtain ⟨z,hd,ws,rel,dd⟩:=dk_of I.hok hH
  have rk:=rel.val k
  refine call_meetsIn F.slot_dict_setdefault dd.typeIs F.entry_dict_setdefault (F.args_dict_setdefault_3 _ _ _) (PySem.kt_meets_setdefault (mixKind X.prog X.w) d (kV_is r0) hd u) ⟨ws,dd,by rw [← rel.length]; exact z,fun w hw=>?_,fun hn h' hm hs=>?_⟩
  ·rw [hv,hw] at rk
   exact rk.elim
  ·obtain ⟨ob,es,ep,hget,rest⟩:=id hm
   refine ⟨y,upd H d (.dK (putK kvs k y)),I.write (t':=s.toks + 1) (by rw [hH]; trivial) (.inl rfl) (fun b o hb e=>(hs.2 b hb).trans e) ⟨_,hget⟩ (show ObjOk X.prog X.w _ _ _ (.dK _) from ⟨Ag (putK_len _ _ _) hl,hd,_,rel.put k ru,hm⟩),ru,q⟩
end
section
variable {X:Cx} {K:PySem.W.Frag} {a:Expr} {ta:TE}
theorem blk0 {scope:Scope} {own:List Str} (kind:scope.kind=.function) (h:(scope.names.all fun y=>decide (y.2≠.cell) && (decide (y.2≠.free) && decide (y.2=.local→scope.names.lookup y.1=some .local)))=true):BlkScope X scope own [] []:=by
 have g:∀ y∈scope.names,y.2≠.cell∧y.2≠.free∧(y.2=.local→scope.names.lookup y.1=some .local):=fun y hy=>by
  have:=List.all_eq_true.mp h y hy
  rw [Bool.and_eq_true,Bool.and_eq_true] at this
  exact ⟨of_decide_eq_true this.1,of_decide_eq_true this.2.1,of_decide_eq_true this.2.2⟩
 exact ⟨kind,fun y hy=>(g y hy).1,fun y hy=>(g y hy).2.2,fun y hy e=>absurd e (g y hy).2.1,rfl,fun y hy=>by simp at hy⟩
theorem nd1 (x:Str):[x].Nodup:=by simp
theorem ix_tupK (h:X.K=K):IxR X (rIxT K):=by subst h; exact ix_tup
theorem ix_listK (h:X.K=K):IxR X (rIxL K):=by subst h; exact ix_list
theorem pe_fldK {f:Str} {pos:Pos} (h:X.K=K) (he:PE X a ta) (hb:attributeBase a f X.env (eval a X.env)=eval a X.env):PE X (.Attribute a f pos) (tFld K ta f):=by subst h; exact pe_fld he hb
theorem pt_truthK (h:X.K=K) (ha:PE X a ta) (he:∀ whole,isTrue a X.env whole=(do let v ← whole; standAt a.pos; holding [v] (truthy v))):PT X a (fun σ H Q=>ta σ H fun x H'=>∃ k,TruV K x H' k∧Q k H'):=by subst h; exact pt_truth ha he
end
end L2
namespace Car
open PySem L2
inductive Ex2 {α0:Type} {α1:Type} (p:α0→α1→Prop):Prop
 | mk (a0:α0) (a1:α1) (h:p a0 a1):Ex2 p
inductive Ex3 {α0:Type} {α1:Type} {α2:Type} (p:α0→α1→α2→Prop):Prop
 | mk (a0:α0) (a1:α1) (a2:α2) (h:p a0 a1 a2):Ex3 p
inductive Ex4 {α0:Type} {α1:Type} {α2:Type} {α3:Type} (p:α0→α1→α2→α3→Prop):Prop
 | mk (a0:α0) (a1:α1) (a2:α2) (a3:α3) (h:p a0 a1 a2 a3):Ex4 p
inductive Ex5 {α0:Type} {α1:Type} {α2:Type} {α3:Type} {α4:Type} (p:α0→α1→α2→α3→α4→Prop):Prop
 | mk (a0:α0) (a1:α1) (a2:α2) (a3:α3) (a4:α4) (h:p a0 a1 a2 a3 a4):Ex5 p
inductive Ex7 {α0:Type} {α1:Type} {α2:Type} {α3:Type} {α4:Type} {α5:Type} {α6:Type} (p:α0→α1→α2→α3→α4→α5→α6→Prop):Prop
 | mk (a0:α0) (a1:α1) (a2:α2) (a3:α3) (a4:α4) (a5:α5) (a6:α6) (h:p a0 a1 a2 a3 a4 a5 a6):Ex7 p
def top (i:Nat):Stmt:=PySem.Challenge.pw_carvebed_k34_whole_moves_on_spans.main.body.getD i (.Pass ⟨0,0,0,0⟩)
theorem same_upd {H:Hp} {p:Addr} (h:H p=none) (o:HO):Same H (upd H p o):=fun b u q=>by rw [upd_ne (ne_of_none q h)]; exact q
section
variable {K:PySem.W.Frag} {H:Hp}
theorem _root_.L2.Rp.tupO {v:V} {ds:List PyData} (h:Rp K H v (.tuple ds)):∃ a xs,v=.ref a∧SqT K H a xs∧Rps K H xs ds:=by
 cases h with
 | tup h r=>exact ⟨_,_,rfl,h,r⟩
theorem _root_.L2.Rp.lstO {v:V} {ds:List PyData} (h:Rp K H v (.list ds)):∃ a xs,v=.ref a∧SqL K H a xs∧Rps K H xs ds:=by
 cases h with
 | lst h r=>exact ⟨_,_,rfl,h,r⟩
theorem _root_.L2.Rp.intO {v:V} {i:Int} (h:Rp K H v (.int i)):v=.int i:=by
 cases h; rfl
theorem _root_.L2.Rps.consO {vs:List V} {d:PyData} {ds:List PyData} (h:Rps K H vs (d :: ds)):∃ x xs,vs=x :: xs∧Rp K H x d∧Rps K H xs ds:=by
 cases h with
 | cons a b=>exact ⟨_,_,rfl,a,b⟩
theorem _root_.L2.Rps.nilO {vs:List V} (h:Rps K H vs []):vs=[]:=by
 cases h; rfl
end
def MvAt (H:Hp):List Addr→List (List V)→Prop
 | [],[]=>True
 | t :: ts,m :: ms=>H t=some (.tup m)∧MvAt H ts ms
 | _,_=>False
theorem MvAt.upd {H:Hp} {q:Addr} {o:HO} (hq:∀ m,H q≠some (.tup m)):∀ {ts:List Addr} {ms:List (List V)},MvAt H ts ms→MvAt (upd H q o) ts ms
 | [],[],_=>AS
 | t :: ts,m :: ms,⟨h,r⟩=>⟨by rw [upd_ne (fun z=>hq m (by rw [← z]; exact h))]; exact h,MvAt.upd hq r⟩
theorem MvAt.same {H H':Hp} (s:Same H H'):∀ {ts:List Addr} {ms:List (List V)},MvAt H ts ms→MvAt H' ts ms
 | [],[],_=>AS
 | t :: ts,m :: ms,⟨h,r⟩=>⟨s _ _ h,MvAt.same s r⟩
theorem MvAt.snoc {H:Hp} {t:Addr} {m:List V} (h:H t=some (.tup m)):∀ {ts:List Addr} {ms:List (List V)},MvAt H ts ms→MvAt H (ts++[t]) (ms++[m])
 | [],[],_=>⟨h,AS⟩
 | t :: ts,m :: ms,⟨h1,r⟩=>⟨h1,MvAt.snoc h r⟩
theorem MvAt.len {H:Hp}:∀ {ts:List Addr} {ms:List (List V)},MvAt H ts ms→ts.length=ms.length
 | [],[],_=>rfl
 | t :: ts,m :: ms,⟨_,r⟩=>by rw [AO,AO,r.len]
theorem same_in {H0 H:Hp} {q:Addr} {o:HO} (s:Same H0 H) (h:H0 q=none):Same H0 (upd H q o):=fun b u e=>by
 rw [upd_ne (ne_of_none e h)]
 exact s b u e
theorem line3 {n c:Nat} (h:n≤c) (h2:c≤2000):n < AL:=Nat.lt_of_le_of_lt (Ag h h2) (by decide)
def Wd (n:Nat) (Pv:Nat→St→List V→Hp→Prop) (i m:Nat) (σ:St) (acc:List V) (H:Hp):Prop:=m=n - i∧i≤n∧Pv i σ acc H
theorem wd_next {n:Nat} {Pv:Nat→St→List V→Hp→Prop} {i:Nat} {σ:St} {acc:List V} {H:Hp} (h:i < n) (p:Pv (i + 1) σ acc H):∃ m',m' < n - i∧Wd n Pv (i + 1) m' σ acc H:=⟨n - (i + 1),by lia,rfl,h,p⟩
theorem lc_ask {K:PySem.W.Frag} {a:Addr} {xs:List V} {i:Nat} {H:Hp} {A:Prop} {B:V→Hp→Prop} (q:SqL K H a xs) (hi:i≤xs.length) (hs:∀ x,xs[i]?=some x→i < xs.length→B x H) (hd:i=xs.length→A) :
  ((Itl K a).stop i H∧A)∨((Itl K a).go i H∧∀ x H',(Itl K a).yld i H x H'→B x H'):=by
 by_cases hlt:i < xs.length
 ·refine .inr ⟨⟨xs,xs[i],q,by simp [hlt]⟩,fun x H' y=>?_⟩
  obtain ⟨e,y⟩:=y
  subst e
  exact hs x (y xs q) hlt
 ·exact .inl ⟨⟨xs,q,by lia⟩,hd (by lia)⟩
theorem wd_0 {n:Nat} {Pv:Nat→St→List V→Hp→Prop} {σ:St} {acc:List V} {H:Hp} (h:Pv 0 σ acc H):∃ m,Wd n Pv 0 m σ acc H:=⟨n,by simp,Ai _,h⟩
end Car
namespace L2
open PySem PySem.Spec PyProof.Rows
def tMid (t u:TS):TS:=fun D σ H=>∃ N:St→Hp→Prop,t { D with nx:=N } σ H∧∀ σ' H',N σ' H'→u D σ' H'
theorem pss_mid {X:Cx} {st:Stmt} {rest:List Stmt} {t u:TS} (h1:PS X st t) (h2:PSs X rest u):PSs X (st :: rest) (tMid t u):=by
 intro pins s σ H D I ⟨N,h,hN⟩
 refine wpAny_execs_cons (thn (h1 pins s σ H { D with nx:=N } I h) fun f s1 q=>?_)
 cases f with
 | next =>
  obtain ⟨σ',H',I',q⟩:=q
  exact h2 pins s1 σ' H' D I' (hN σ' H' q)
 | ret v=>exact q
 | brk=>exact q
 | cont=>exact q
end L2
namespace Car
open PySem L2
theorem bt_max:bootBuiltins "max"=some (.builtin "max"):=by decide +kernel
theorem bt_min:bootBuiltins "min"=some (.builtin "min"):=by decide +kernel
theorem bt_isin:bootBuiltins "isinstance"=some (.builtin "isinstance"):=by decide +kernel
theorem bt_tuple:bootBuiltins "tuple"=some (.type "tuple"):=by decide +kernel
theorem bt_list:bootBuiltins "list"=some (.type "list"):=by decide +kernel
theorem bt_int:bootBuiltins "int"=some (.type "int"):=by decide +kernel
theorem bt_sum:bootBuiltins "sum"=some (.builtin "sum"):=by decide +kernel
structure LawT (mg:Str→Option Value):Prop where
 len:mg "len"=none
 max:mg "max"=none
 min:mg "min"=none
 range:mg "range"=none
 isin:mg "isinstance"=none
 abs:mg "abs"=none
 tuple:mg "tuple"=none
 list:mg "list"=none
 bool:mg "bool"=none
 int:mg "int"=none
theorem at_mem {xs:List V} {i:Int} (h0:0≤i) (h:i < (xs.length:Int)):∃ v,atI xs i=some v∧v∈xs:=by
 have hlt:i.toNat < xs.length:=by lia
 refine ⟨xs[i.toNat],?_,Ak hlt⟩
 have:=atI_nat (AB hlt)
 rw [show ((i.toNat:Nat):Int)=i by lia] at this
 exact this
theorem mod_lt (n:Int) {m:Int} (h:0 < m):0≤n % m∧n % m < m:=⟨Int.emod_nonneg _ (by lia),Int.emod_lt_of_pos _ h⟩
section
variable {P:Program} {w:World} {K:PySem.W.Frag} {mg:Str→Option Value} {base:Heap} {f:Addr} {fd':FuncData}
theorem k_tuple_tuple:PySem.W.kitOne K (.type "tuple") (.type "tuple")=some true:=by kernel_rfl
theorem passN {X:Cx}:Passes (CX1 P w) X E0:=fun _ _ _ _ _ _ _ h=>by
 obtain ⟨_,_,_,_,_,_,_,_,_,_,_,_,_,_,_,ff⟩:=h
 exact ff.elim
end
mutual
theorem eqv_self:∀ d:PyData,AN d=true→PyData.eqv d d=true
 | .none,_=>by rw [PyData.eqv]
 | .bool b,_=>by rw [PyData.eqv]; simp
 | .int i,_=>by rw [PyData.eqv]; simp
 | .str x,_=>by rw [PyData.eqv]; simp
 | .list xs,h=>by rw [AN] at h; rw [PyData.eqv]; exact eqvAll_self xs h
 | .tuple xs,h=>by rw [AN] at h; rw [PyData.eqv]; exact eqvAll_self xs h
 | .dict _,h=>by rw [AN] at h; cases h
theorem eqvAll_self:∀ xs:List PyData,Ae xs=true→PyData.eqvAll xs xs=true
 | [],_=>by rw [PyData.eqvAll]
 | x :: r,h=>by
  rw [Ae,Bool.and_eq_true] at h
  rw [PyData.eqvAll,eqv_self x h.1,eqvAll_self r h.2]
  rfl
end
theorem le1:1≤AL:=by decide
theorem le2:2≤AL:=by decide
theorem le3:3≤AL:=by decide
section
variable {P:Program} {w:World} {K:PySem.W.Frag} {mg:Str→Option Value} {base:Heap} {f:Addr} {fd':FuncData}
theorem blkC {X:Cx} {scope:Scope} {own capn:List Str} {capI:List Nat} (sc:Scope) (hsc:X.env.scope=sc) (kind:scope.kind=.function) (h:(scope.names.all fun y=>decide (y.2≠.cell) && (decide (y.2=.local→scope.names.lookup y.1=some .local) && decide (y.2=.free→sc.names.lookup y.1=some .cell)))=true) (caps:capI.map (fun i=>X.N[i]?)=capn.map some)
  (capc:∀ y∈capn,X.env.scope.names.lookup y=some .cell∧(relabel scope X.env).names.lookup y=some .cell):BlkScope X scope own capn capI:=by
 have g:∀ y∈scope.names,y.2≠.cell∧(y.2=.local→scope.names.lookup y.1=some .local)∧(y.2=.free→sc.names.lookup y.1=some .cell):=fun y hy=>by
  have:=List.all_eq_true.mp h y hy
  rw [Bool.and_eq_true,Bool.and_eq_true] at this
  exact ⟨of_decide_eq_true this.1,of_decide_eq_true this.2.1,of_decide_eq_true this.2.2⟩
 exact ⟨kind,fun y hy=>(g y hy).1,fun y hy=>(g y hy).2.1,fun y hy e=>by rw [hsc]; exact (g y hy).2.2 e,caps,capc⟩
end
end Car
namespace L2
open PySem PySem.Spec PyProof.Rows
section
variable {X:Cx} {pos:Pos}
end
end L2
namespace Car
open PySem PySem.W PySem.Calls PyProof.Rows L2
def goT (tbl:String→Option Builtin) (pr:Program) (wd:World) (lo:Nat) (an:Option Value):Nat→SharedT→Thread→Option SharedT
 | 0,_,_=>none
 | fuel + 1,sh,th=>if through th then some sh else
  if stepOk lo an th then (stepT (denote tbl) pr wd sh th).bind fun x=>goT tbl pr wd lo an fuel x.1 x.2 else none
theorem goT_run {tbl:String→Option Builtin} {pr:Program} {wd:World} {lo:Nat} {an:Option Value} (fuel:Nat):∀ (sh out:SharedT) (th:Thread),goT tbl pr wd lo an fuel sh th=some out→topRun tbl pr wd lo an fuel sh.abs th=some out.abs:=by
 induction fuel with
 | zero=>intro sh out th h; exact absurd h (by simp [goT])
 | succ k ih =>
  intro sh out th h
  unfold goT at h
  unfold topRun
  by_cases a:through th=true
  ·rw [if_pos a] at h; rw [a]; cases h; rfl
  ·rw [if_neg a] at h
   rw [Bool.not_eq_true] at a
   rw [a]
   by_cases b:stepOk lo an th=true
   ·rw [if_pos b] at h
    rw [b]
    obtain ⟨x,hx,hr⟩:=Option.bind_eq_some_iff.mp h
    rw [stepT_spec (s':=x.1) (t':=x.2) hx]
    exact ih _ _ _ hr
   ·rw [if_neg b] at h; cases h
def plant:List Obj→Nat→BT→BT
 | [],_,tr=>tr
 | ob :: more,i,tr=>plant more (i + 1) (tr.ins i ob)
noncomputable def boot0 (P:Params) (os:OsState):SharedT:=⟨plant (boot_heap P).objs.toList 0 .nil,11,(boot_heap P).life,#[],boot_drawn,boot_toks,os⟩
theorem boot0_abs (P:Params) (os:OsState):(boot0 P os).abs=⟨boot_heap P,#[],boot_drawn,boot_toks,os⟩:=by kernel_rfl
noncomputable def sight {α:Type} (pr q:Program) (loose:List Str) (Yf:Shared→α) (M:Nat) (wd:World) (os:OsState) :=
 (goT treeTable pr wd 11 (some (.ref 6)) M (boot0 wd.params os) (topStub pr)).map fun x =>
  ((staticsOk (importedModules pr.main.body) (boot_heap wd.params) x.abs.heap && namesBound pr x.abs.heap && gensDone x.abs && laidKept (boot_heap wd.params) x.abs.heap),
   openSeen q loose (importedModules pr.main.body) (fun s=>xlAt q [] s && recOk [] s) true x.abs,Yf x.abs)
theorem left_by {α:Type} {pr q:Program} {loose:List Str} {Yf:Shared→α} {Ya:World→α} {N M:Nat} (le:Nat.ble M N=true)
  (hop:opening pr=plainProg pr.main.scope.names) (hN:Nat.ble 600 N=true) (hf:∀ s,fenceModules? pr s=some s)
  (hs:∀ wd os,sight pr q loose Yf M wd os=some (true,openGood q loose,Ya wd)):LeftO pr q loose (fun s=>xlAt q [] s && recOk [] s) Yf Ya N true:=fun wd=>by
 obtain ⟨⟨hp,gs,d,k,os⟩,e,e'⟩:=Option.map_eq_some_iff.mp (boot_open hop hN hf wd)
 simp only [Prod.mk.injEq] at e'
 obtain ⟨rfl,rfl,rfl,rfl⟩:=e'
 obtain ⟨x,hx,hv⟩:=Option.map_eq_some_iff.mp (hs wd os)
 simp only [Prod.mk.injEq] at hv
 obtain ⟨h1,h2,h3⟩:=hv
 have r:=topRun_mono (N - M) _ _ _ _ (goT_run _ _ _ _ hx)
 have hm:M + (N - M)=N:=Nat.add_sub_cancel' (Nat.le_of_ble_eq_true le)
 rw [hm,boot0_abs] at r
 have z1:((boot_heap wd.params).isNs AZ && (#[]:Array GenState).size == 0)=true:=by kernel_rfl
 have z2:(boot_heap wd.params).objs.size=11:=by kernel_rfl
 have z3:(boot_heap wd.params).nsMap AZ "__annotations__"=some (.ref 6):=by kernel_rfl
 have t:topFrom treeTable pr wd N ⟨boot_heap wd.params,#[],boot_drawn,boot_toks,os⟩=some x.abs:=by
  unfold topFrom
  dsimp only
  rw [z1,z2,z3]
  dsimp only
  rw [show topRun treeTable pr wd 11 (some (.ref 6)) N ⟨boot_heap wd.params,#[],boot_drawn,boot_toks,os⟩ (topStub pr)=some x.abs from r]
  dsimp only [Option.bind]
  rw [h1]
 unfold openEnds
 rw [e]
 dsimp only [Option.bind]
 rw [show topFrom treeTable pr wd N ⟨boot_heap wd.params,{ toList:=[] },boot_drawn,boot_toks,os⟩=some x.abs from t]
 dsimp only [Option.map]
 rw [h2,h3]
def dS (P:Params) (x:Str) (t:Nat) (v:Value):DictEntry:=⟨PyData.keyHash P x,.str x t,v⟩
def fF (x q:Str) (s:Stmt) (dv kv doc pm:Value) (an:Option Addr) (cd ct:Value):FuncData:=fnOf x q (defArgs s) (defBody s) (defScope s) dv kv doc pm an cd ct
def cO (x q:Str) (t l a r1 r2:Nat) (u v z:Value) (r3 g:Nat):Obj:=⟨.type "code",none,.fields #[.str x t,.str q (t + 1),.str "/claim/cut.py" (t + 2),.int l 0,.int a 0,.int 0 0,.int 0 0,.int 3 0,.ref r1,.bool true,.int 181 0,.ref r2,u,v,z,.ref r3,.int g 0,.int l 0,.str "/claim/cut.py" (g + 1)],#[]⟩
noncomputable def o2 (P:Params):Obj:=⟨.none,none,(.dict #[dS P "type.__subclasses__.Exception.0" 226 (.int 32 0),dS P "type.__subclasses__.Exception.n" 227 (.int 1 0)] 2),#[]⟩
noncomputable def o3 (P:Params):Obj:=⟨.type "dict",none,(.dict #[dS P "__name__" 165 (.str "law_carvebed_k34_whole_moves_on_spans" 545),dS P "__doc__" 166 .none,dS P "__package__" 167 .none,dS P "__loader__" 168 (.builtin "__main__.__loader__#opaque"),dS P "__spec__" 169 .none,dS P "__annotations__" 170 (.ref 6),dS P "__builtins__" 171 (.ref 4),dS P "__file__" 173 (.str "/claim/cut.py" 172),dS P "__cached__" 174 .none,dS P "TOP" 190 (.int 1000 189),dS P "BEGINNING" 200 (.ref 15),dS P "Fault" 229 (.ref 32),dS P "Carver" 324 (.ref 99),dS P "do_moves" 337 (.ref 110),dS P "spans_of_row" 349 (.ref 117),dS P "put_span" 358 (.ref 124),dS P "spans_of" 364 (.ref 129),dS P "pieces_of" 370 (.ref 134),dS P "pieces_within" 376 (.ref 139),dS P "merged" 386 (.ref 146),dS P "cut_row" 398 (.ref 153),dS P "Spans" 459 (.ref 195),dS P "carved_spans" 471 (.ref 206),dS P "Cells" 533 (.ref 245),dS P "carved" 544 (.ref 256),dS P "_law_stir" 556 (.ref 263),dS P "_law_bed" 574 (.ref 270),dS P "_law_cutter" 586 (.ref 277),dS P "_law_shelf" 592 (.ref 282),dS P "_law_wild" 605 (.ref 289),dS P "_law_moves" 622 (.ref 296),dS P "_law_alike" 628 (.ref 301),dS P "law" 640 (.ref 308)] 33),#[]⟩
noncomputable def o15 (P:Params):Obj:=⟨.type "dict",none,(.dict #[dS P "x" 191 (.int 0 192),dS P "y" 193 (.int 0 194),dS P "z" 195 (.int 1000 196)] 3),#[]⟩
noncomputable def o28:Obj:=cO "__init__" "Fault.__init__" 213 6 2 23 24 .none (.ref 25) (.ref 26) 27 218
noncomputable def o29:Obj:=⟨.type "function",none,(.func (fF "__init__" "Fault.__init__" (inClass (top 3) 0) .none .none .none (.str "carvebed.carver" 187) none (.ref 28) .none)),#[]⟩
noncomputable def o31 (P:Params):Obj:=⟨.type "dict",none,(.dict #[dS P "__module__" 208 (.str "carvebed.carver" 187),dS P "__firstlineno__" 212 (.int 4 211),dS P "__init__" 220 (.ref 29),dS P "__static_attributes__" 222 (.ref 30),dS P "__weakref__" 224 (.ref 33),dS P "__doc__" 225 .none] 3),#[]⟩
noncomputable def o32:Obj:=⟨.type "type",none,(.cls { name:="Fault",bases:=[.type "Exception"],mro:=[.ref 32,.type "Exception",.type "BaseException",.type "object"],ns:=31,qualname:="Fault",hasDict:=true,slotNames:=[],subclasses:=[],abstract:=false,collection:=none,hasDel:=false }),#[some (.ref 16),none,some (.str "Fault" 201),some (.str "Fault" 209),some (.builtin "Exception.__new__"),some (.bool true)]⟩
noncomputable def o33:Obj:=⟨.type "getset_descriptor",none,(.fields #[.str "__weakref__" 223,.ref 32,.builtin "ExceptionGroup.__weakref__",.none]),#[]⟩
noncomputable def o48:Obj:=cO "__init__" "Carver.__init__" 242 10 3 43 44 .none (.ref 45) (.ref 46) 47 248
noncomputable def o49:Obj:=⟨.type "function",none,(.func (fF "__init__" "Carver.__init__" (inClass (top 4) 0) .none .none .none (.str "carvebed.carver" 187) none (.ref 48) .none)),#[]⟩
noncomputable def o55:Obj:=cO "do" "Carver.do" 251 16 2 50 51 .none (.ref 52) (.ref 53) 54 256
noncomputable def o56:Obj:=⟨.type "function",none,(.func (fF "do" "Carver.do" (inClass (top 4) 1) .none .none .none (.str "carvebed.carver" 187) none (.ref 55) .none)),#[]⟩
noncomputable def o62:Obj:=cO "do_hold" "Carver.do_hold" 259 21 2 57 58 .none (.ref 59) (.ref 60) 61 264
noncomputable def o63:Obj:=⟨.type "function",none,(.func (fF "do_hold" "Carver.do_hold" (inClass (top 4) 2) .none .none .none (.str "carvebed.carver" 187) none (.ref 62) .none)),#[]⟩
noncomputable def o69:Obj:=cO "do_move" "Carver.do_move" 267 29 4 64 65 .none (.ref 66) (.ref 67) 68 276
noncomputable def o70:Obj:=⟨.type "function",none,(.func (fF "do_move" "Carver.do_move" (inClass (top 4) 3) .none .none .none (.str "carvebed.carver" 187) none (.ref 69) .none)),#[]⟩
noncomputable def o76:Obj:=cO "has_room" "Carver.has_room" 279 42 3 71 72 .none (.ref 73) (.ref 74) 75 285
noncomputable def o77:Obj:=⟨.type "function",none,(.func (fF "has_room" "Carver.has_room" (inClass (top 4) 4) .none .none .none (.str "carvebed.carver" 187) none (.ref 76) .none)),#[]⟩
noncomputable def o81:Obj:=cO "way_to" "Carver.way_to" 288 49 3 78 79 .none .none .none 80 291
noncomputable def o82:Obj:=⟨.type "function",none,(.func (fF "way_to" "Carver.way_to" (inClass (top 4) 5) .none .none .none (.str "carvebed.carver" 187) none (.ref 81) .none)),#[]⟩
noncomputable def o88:Obj:=cO "pass_over" "Carver.pass_over" 294 55 2 83 84 .none (.ref 85) (.ref 86) 87 300
noncomputable def o89:Obj:=⟨.type "function",none,(.func (fF "pass_over" "Carver.pass_over" (inClass (top 4) 6) .none .none .none (.str "carvebed.carver" 187) none (.ref 88) .none)),#[]⟩
noncomputable def o95:Obj:=cO "cut_along" "Carver.cut_along" 303 61 2 90 91 .none (.ref 92) (.ref 93) 94 310
noncomputable def o96:Obj:=⟨.type "function",none,(.func (fF "cut_along" "Carver.cut_along" (inClass (top 4) 7) .none .none .none (.str "carvebed.carver" 187) none (.ref 95) .none)),#[]⟩
noncomputable def o98 (P:Params):Obj:=⟨.type "dict",none,(.dict #[dS P "__module__" 237 (.str "carvebed.carver" 187),dS P "__firstlineno__" 241 (.int 8 240),dS P "__init__" 250 (.ref 49),dS P "do" 258 (.ref 56),dS P "do_hold" 266 (.ref 63),dS P "do_move" 278 (.ref 70),dS P "has_room" 287 (.ref 77),dS P "way_to" 293 (.ref 82),dS P "pass_over" 302 (.ref 89),dS P "cut_along" 312 (.ref 96),dS P "__static_attributes__" 317 (.ref 97),dS P "__dict__" 319 (.ref 100),dS P "__weakref__" 321 (.ref 101),dS P "__doc__" 322 .none] 4),#[]⟩
noncomputable def o99:Obj:=⟨.type "type",none,(.cls { name:="Carver",bases:=[.type "object"],mro:=[.ref 99,.type "object"],ns:=98,qualname:="Carver",hasDict:=true,slotNames:=[],subclasses:=[],abstract:=false,collection:=none,hasDel:=false }),#[none,none,some (.str "Carver" 230),some (.str "Carver" 238),some (.builtin "object.__new__"),some (.bool true)]⟩
noncomputable def o100:Obj:=⟨.type "getset_descriptor",none,(.fields #[.str "__dict__" 318,.ref 99,.builtin "function.__dict__",.builtin "function.__dict__#set"]),#[]⟩
noncomputable def o101:Obj:=⟨.type "getset_descriptor",none,(.fields #[.str "__weakref__" 320,.ref 99,.builtin "ExceptionGroup.__weakref__",.none]),#[]⟩
noncomputable def o109:Obj:=cO "do_moves" "do_moves" 325 67 3 104 105 .none (.ref 106) (.ref 107) 108 335
noncomputable def o110:Obj:=⟨.type "function",none,(.func (fF "do_moves" "do_moves" (top 5) .none .none .none (.str "carvebed.carver" 187) none (.ref 109) .none)),#[]⟩
noncomputable def o116:Obj:=cO "spans_of_row" "spans_of_row" 340 77 1 111 112 .none (.ref 113) (.ref 114) 115 347
noncomputable def o117:Obj:=⟨.type "function",none,(.func (fF "spans_of_row" "spans_of_row" (top 7) .none .none .none (.str "carvebed.spans" 338) none (.ref 116) .none)),#[]⟩
noncomputable def o123:Obj:=cO "put_span" "put_span" 350 82 3 118 119 .none (.ref 120) (.ref 121) 122 356
noncomputable def o124:Obj:=⟨.type "function",none,(.func (fF "put_span" "put_span" (top 8) .none .none .none (.str "carvebed.spans" 338) none (.ref 123) .none)),#[]⟩
noncomputable def o128:Obj:=cO "spans_of" "spans_of" 359 85 1 125 126 .none .none .none 127 362
noncomputable def o129:Obj:=⟨.type "function",none,(.func (fF "spans_of" "spans_of" (top 9) .none .none .none (.str "carvebed.spans" 338) none (.ref 128) .none)),#[]⟩
noncomputable def o133:Obj:=cO "pieces_of" "pieces_of" 365 87 2 130 131 .none .none .none 132 368
noncomputable def o134:Obj:=⟨.type "function",none,(.func (fF "pieces_of" "pieces_of" (top 10) .none .none .none (.str "carvebed.spans" 338) none (.ref 133) .none)),#[]⟩
noncomputable def o138:Obj:=cO "pieces_within" "pieces_within" 371 90 3 135 136 .none .none .none 137 374
noncomputable def o139:Obj:=⟨.type "function",none,(.func (fF "pieces_within" "pieces_within" (top 11) .none .none .none (.str "carvebed.spans" 338) none (.ref 138) .none)),#[]⟩
noncomputable def o145:Obj:=cO "merged" "merged" 377 93 1 140 141 .none (.ref 142) (.ref 143) 144 384
noncomputable def o146:Obj:=⟨.type "function",none,(.func (fF "merged" "merged" (top 12) .none .none .none (.str "carvebed.spans" 338) none (.ref 145) .none)),#[]⟩
noncomputable def o152:Obj:=cO "cut_row" "cut_row" 387 101 4 147 148 .none (.ref 149) (.ref 150) 151 396
noncomputable def o153:Obj:=⟨.type "function",none,(.func (fF "cut_row" "cut_row" (top 13) .none .none .none (.str "carvebed.spans" 338) none (.ref 152) .none)),#[]⟩
noncomputable def o164:Obj:=cO "__init__" "Spans.__init__" 411 112 3 161 162 .none .none .none 163 414
noncomputable def o165:Obj:=⟨.type "function",none,(.func (fF "__init__" "Spans.__init__" (inClass (top 14) 0) .none .none .none (.str "carvebed.spans" 338) none (.ref 164) .none)),#[]⟩
noncomputable def o171:Obj:=cO "has_cell" "Spans.has_cell" 417 116 3 166 167 .none (.ref 168) (.ref 169) 170 423
noncomputable def o172:Obj:=⟨.type "function",none,(.func (fF "has_cell" "Spans.has_cell" (inClass (top 14) 1) .none .none .none (.str "carvebed.spans" 338) none (.ref 171) .none)),#[]⟩
noncomputable def o176:Obj:=cO "under" "Spans.under" 426 119 3 173 174 .none .none .none 175 429
noncomputable def o177:Obj:=⟨.type "function",none,(.func (fF "under" "Spans.under" (inClass (top 14) 2) .none .none .none (.str "carvebed.spans" 338) none (.ref 176) .none)),#[]⟩
noncomputable def o181:Obj:=cO "pieces_above" "Spans.pieces_above" 432 132 4 178 179 .none .none .none 180 435
noncomputable def o182:Obj:=⟨.type "function",none,(.func (fF "pieces_above" "Spans.pieces_above" (inClass (top 14) 3) .none .none .none (.str "carvebed.spans" 338) none (.ref 181) .none)),#[]⟩
noncomputable def o186:Obj:=cO "rises_above" "Spans.rises_above" 438 135 3 183 184 .none .none .none 185 441
noncomputable def o187:Obj:=⟨.type "function",none,(.func (fF "rises_above" "Spans.rises_above" (inClass (top 14) 4) .none .none .none (.str "carvebed.spans" 338) none (.ref 186) .none)),#[]⟩
noncomputable def o191:Obj:=cO "cut_down" "Spans.cut_down" 444 138 3 188 189 .none .none .none 190 447
noncomputable def o192:Obj:=⟨.type "function",none,(.func (fF "cut_down" "Spans.cut_down" (inClass (top 14) 5) .none .none .none (.str "carvebed.spans" 338) none (.ref 191) .none)),#[]⟩
noncomputable def o194 (P:Params):Obj:=⟨.type "dict",none,(.dict #[dS P "__module__" 406 (.str "carvebed.spans" 338),dS P "__firstlineno__" 410 (.int 110 409),dS P "__init__" 416 (.ref 165),dS P "has_cell" 425 (.ref 172),dS P "under" 431 (.ref 177),dS P "pieces_above" 437 (.ref 182),dS P "rises_above" 443 (.ref 187),dS P "cut_down" 449 (.ref 192),dS P "__static_attributes__" 452 (.ref 193),dS P "__dict__" 454 (.ref 196),dS P "__weakref__" 456 (.ref 197),dS P "__doc__" 457 .none] 4),#[]⟩
noncomputable def o195:Obj:=⟨.type "type",none,(.cls { name:="Spans",bases:=[.type "object"],mro:=[.ref 195,.type "object"],ns:=194,qualname:="Spans",hasDict:=true,slotNames:=[],subclasses:=[],abstract:=false,collection:=none,hasDel:=false }),#[none,none,some (.str "Spans" 399),some (.str "Spans" 407),some (.builtin "object.__new__"),some (.bool true)]⟩
noncomputable def o196:Obj:=⟨.type "getset_descriptor",none,(.fields #[.str "__dict__" 453,.ref 195,.builtin "function.__dict__",.builtin "function.__dict__#set"]),#[]⟩
noncomputable def o197:Obj:=⟨.type "getset_descriptor",none,(.fields #[.str "__weakref__" 455,.ref 195,.builtin "ExceptionGroup.__weakref__",.none]),#[]⟩
noncomputable def o205:Obj:=cO "carved_spans" "carved_spans" 460 146 4 200 201 .none (.ref 202) (.ref 203) 204 469
noncomputable def o206:Obj:=⟨.type "function",none,(.func (fF "carved_spans" "carved_spans" (top 15) .none .none .none (.str "carvebed.spans" 338) none (.ref 205) .none)),#[]⟩
noncomputable def o217:Obj:=cO "__init__" "Cells.__init__" 486 153 2 214 215 .none .none .none 216 489
noncomputable def o218:Obj:=⟨.type "function",none,(.func (fF "__init__" "Cells.__init__" (inClass (top 17) 0) .none .none .none (.str "carvebed.beds" 472) none (.ref 217) .none)),#[]⟩
noncomputable def o224:Obj:=cO "has_cell" "Cells.has_cell" 492 156 3 219 220 .none (.ref 221) (.ref 222) 223 498
noncomputable def o225:Obj:=⟨.type "function",none,(.func (fF "has_cell" "Cells.has_cell" (inClass (top 17) 1) .none .none .none (.str "carvebed.beds" 472) none (.ref 224) .none)),#[]⟩
noncomputable def o229:Obj:=cO "under" "Cells.under" 501 159 3 226 227 .none .none .none 228 504
noncomputable def o230:Obj:=⟨.type "function",none,(.func (fF "under" "Cells.under" (inClass (top 17) 2) .none .none .none (.str "carvebed.beds" 472) none (.ref 229) .none)),#[]⟩
noncomputable def o234:Obj:=cO "rises_above" "Cells.rises_above" 507 167 3 231 232 .none .none .none 233 510
noncomputable def o235:Obj:=⟨.type "function",none,(.func (fF "rises_above" "Cells.rises_above" (inClass (top 17) 3) .none .none .none (.str "carvebed.beds" 472) none (.ref 234) .none)),#[]⟩
noncomputable def o241:Obj:=cO "cut_down" "Cells.cut_down" 513 170 3 236 237 .none (.ref 238) (.ref 239) 240 522
noncomputable def o242:Obj:=⟨.type "function",none,(.func (fF "cut_down" "Cells.cut_down" (inClass (top 17) 4) .none .none .none (.str "carvebed.beds" 472) none (.ref 241) .none)),#[]⟩
noncomputable def o244 (P:Params):Obj:=⟨.type "dict",none,(.dict #[dS P "__module__" 481 (.str "carvebed.beds" 472),dS P "__firstlineno__" 485 (.int 151 484),dS P "__init__" 491 (.ref 218),dS P "has_cell" 500 (.ref 225),dS P "under" 506 (.ref 230),dS P "rises_above" 512 (.ref 235),dS P "cut_down" 524 (.ref 242),dS P "__static_attributes__" 526 (.ref 243),dS P "__dict__" 528 (.ref 246),dS P "__weakref__" 530 (.ref 247),dS P "__doc__" 531 .none] 4),#[]⟩
noncomputable def o245:Obj:=⟨.type "type",none,(.cls { name:="Cells",bases:=[.type "object"],mro:=[.ref 245,.type "object"],ns:=244,qualname:="Cells",hasDict:=true,slotNames:=[],subclasses:=[],abstract:=false,collection:=none,hasDel:=false }),#[none,none,some (.str "Cells" 474),some (.str "Cells" 482),some (.builtin "object.__new__"),some (.bool true)]⟩
noncomputable def o246:Obj:=⟨.type "getset_descriptor",none,(.fields #[.str "__dict__" 527,.ref 245,.builtin "function.__dict__",.builtin "function.__dict__#set"]),#[]⟩
noncomputable def o247:Obj:=⟨.type "getset_descriptor",none,(.fields #[.str "__weakref__" 529,.ref 245,.builtin "ExceptionGroup.__weakref__",.none]),#[]⟩
noncomputable def o255:Obj:=cO "carved" "carved" 534 178 3 250 251 .none (.ref 252) (.ref 253) 254 542
noncomputable def o256:Obj:=⟨.type "function",none,(.func (fF "carved" "carved" (top 18) .none .none .none (.str "carvebed.beds" 472) none (.ref 255) .none)),#[]⟩
noncomputable def o262:Obj:=cO "_law_stir" "_law_stir" 547 183 2 257 258 .none (.ref 259) (.ref 260) 261 554
noncomputable def o263:Obj:=⟨.type "function",none,(.func (fF "_law_stir" "_law_stir" (top 20) .none .none .none (.str "law_carvebed_k34_whole_moves_on_spans" 545) none (.ref 262) .none)),#[]⟩
noncomputable def o269:Obj:=cO "_law_bed" "_law_bed" 557 192 1 264 265 .none (.ref 266) (.ref 267) 268 572
noncomputable def o270:Obj:=⟨.type "function",none,(.func (fF "_law_bed" "_law_bed" (top 21) .none .none .none (.str "law_carvebed_k34_whole_moves_on_spans" 545) none (.ref 269) .none)),#[]⟩
noncomputable def o276:Obj:=cO "_law_cutter" "_law_cutter" 575 216 1 271 272 .none (.ref 273) (.ref 274) 275 584
noncomputable def o277:Obj:=⟨.type "function",none,(.func (fF "_law_cutter" "_law_cutter" (top 22) .none .none .none (.str "law_carvebed_k34_whole_moves_on_spans" 545) none (.ref 276) .none)),#[]⟩
noncomputable def o281:Obj:=cO "_law_shelf" "_law_shelf" 587 225 1 278 279 .none .none .none 280 590
noncomputable def o282:Obj:=⟨.type "function",none,(.func (fF "_law_shelf" "_law_shelf" (top 23) .none .none .none (.str "law_carvebed_k34_whole_moves_on_spans" 545) none (.ref 281) .none)),#[]⟩
noncomputable def o288:Obj:=cO "_law_wild" "_law_wild" 593 228 3 283 284 .none (.ref 285) (.ref 286) 287 603
noncomputable def o289:Obj:=⟨.type "function",none,(.func (fF "_law_wild" "_law_wild" (top 24) .none .none .none (.str "law_carvebed_k34_whole_moves_on_spans" 545) none (.ref 288) .none)),#[]⟩
noncomputable def o295:Obj:=cO "_law_moves" "_law_moves" 606 234 3 290 291 .none (.ref 292) (.ref 293) 294 620
noncomputable def o296:Obj:=⟨.type "function",none,(.func (fF "_law_moves" "_law_moves" (top 25) .none .none .none (.str "law_carvebed_k34_whole_moves_on_spans" 545) none (.ref 295) .none)),#[]⟩
noncomputable def o300:Obj:=cO "_law_alike" "_law_alike" 623 259 3 297 298 .none .none .none 299 626
noncomputable def o301:Obj:=⟨.type "function",none,(.func (fF "_law_alike" "_law_alike" (top 26) .none .none .none (.str "law_carvebed_k34_whole_moves_on_spans" 545) none (.ref 300) .none)),#[]⟩
noncomputable def o307:Obj:=cO "law" "law" 629 276 1 302 303 .none (.ref 304) (.ref 305) 306 638
noncomputable def o308:Obj:=⟨.type "function",none,(.func (fF "law" "law" (top 27) .none .none .none (.str "law_carvebed_k34_whole_moves_on_spans" 545) none (.ref 307) .none)),#[]⟩
noncomputable def KK (P:Params):PySem.W.Frag:=(nat_lit 2,o2 P) :: (nat_lit 3,o3 P) :: (nat_lit 15,o15 P) :: (nat_lit 28,o28) :: (nat_lit 29,o29) :: (nat_lit 31,o31 P) :: (nat_lit 32,o32) :: (nat_lit 33,o33) :: (nat_lit 48,o48) :: (nat_lit 49,o49) :: (nat_lit 55,o55) :: (nat_lit 56,o56) :: (nat_lit 62,o62) :: (nat_lit 63,o63) :: (nat_lit 69,o69) :: (nat_lit 70,o70) :: (nat_lit 76,o76) :: (nat_lit 77,o77) :: (nat_lit 81,o81) :: (nat_lit 82,o82) :: (nat_lit 88,o88) :: (nat_lit 89,o89) :: (nat_lit 95,o95) :: (nat_lit 96,o96) :: (nat_lit 98,o98 P) :: (nat_lit 99,o99) :: (nat_lit 100,o100) :: (nat_lit 101,o101) :: (nat_lit 109,o109) :: (nat_lit 110,o110) :: (nat_lit 116,o116) :: (nat_lit 117,o117) :: (nat_lit 123,o123) :: (nat_lit 124,o124) :: (nat_lit 128,o128) :: (nat_lit 129,o129) :: (nat_lit 133,o133) :: (nat_lit 134,o134) :: (nat_lit 138,o138) :: (nat_lit 139,o139) :: (nat_lit 145,o145) :: (nat_lit 146,o146) :: (nat_lit 152,o152) :: (nat_lit 153,o153) :: (nat_lit 164,o164) :: (nat_lit 165,o165) :: (nat_lit 171,o171) :: (nat_lit 172,o172) :: (nat_lit 176,o176) :: (nat_lit 177,o177) :: (nat_lit 181,o181) :: (nat_lit 182,o182) :: (nat_lit 186,o186) :: (nat_lit 187,o187) :: (nat_lit 191,o191) :: (nat_lit 192,o192) :: (nat_lit 194,o194 P) :: (nat_lit 195,o195) :: (nat_lit 196,o196) :: (nat_lit 197,o197) :: (nat_lit 205,o205) :: (nat_lit 206,o206) :: (nat_lit 217,o217) :: (nat_lit 218,o218) :: (nat_lit 224,o224) :: (nat_lit 225,o225) :: (nat_lit 229,o229) :: (nat_lit 230,o230) :: (nat_lit 234,o234) :: (nat_lit 235,o235) :: (nat_lit 241,o241) :: (nat_lit 242,o242) :: (nat_lit 244,o244 P) :: (nat_lit 245,o245) :: (nat_lit 246,o246) :: (nat_lit 247,o247) :: (nat_lit 255,o255) :: (nat_lit 256,o256) :: (nat_lit 262,o262) :: (nat_lit 263,o263) :: (nat_lit 269,o269) :: (nat_lit 270,o270) :: (nat_lit 276,o276) :: (nat_lit 277,o277) :: (nat_lit 281,o281) :: (nat_lit 282,o282) :: (nat_lit 288,o288) :: (nat_lit 289,o289) :: (nat_lit 295,o295) :: (nat_lit 296,o296) :: (nat_lit 300,o300) :: (nat_lit 301,o301) :: (nat_lit 307,o307) :: (nat_lit 308,o308) :: []
def KKas:List Addr:=nat_lit 2 :: nat_lit 3 :: nat_lit 15 :: nat_lit 28 :: nat_lit 29 :: nat_lit 31 :: nat_lit 32 :: nat_lit 33 :: nat_lit 48 :: nat_lit 49 :: nat_lit 55 :: nat_lit 56 :: nat_lit 62 :: nat_lit 63 :: nat_lit 69 :: nat_lit 70 :: nat_lit 76 :: nat_lit 77 :: nat_lit 81 :: nat_lit 82 :: nat_lit 88 :: nat_lit 89 :: nat_lit 95 :: nat_lit 96 :: nat_lit 98 :: nat_lit 99 :: nat_lit 100 :: nat_lit 101 :: nat_lit 109 :: nat_lit 110 :: nat_lit 116 :: nat_lit 117 :: nat_lit 123 :: nat_lit 124 :: nat_lit 128 :: nat_lit 129 :: nat_lit 133 :: nat_lit 134 :: nat_lit 138 :: nat_lit 139 :: nat_lit 145 :: nat_lit 146 :: nat_lit 152 :: nat_lit 153 :: nat_lit 164 :: nat_lit 165 :: nat_lit 171 :: nat_lit 172 :: nat_lit 176 :: nat_lit 177 :: nat_lit 181 :: nat_lit 182 :: nat_lit 186 :: nat_lit 187 :: nat_lit 191 :: nat_lit 192 :: nat_lit 194 :: nat_lit 195 :: nat_lit 196 :: nat_lit 197 :: nat_lit 205 :: nat_lit 206 :: nat_lit 217 :: nat_lit 218 :: nat_lit 224 :: nat_lit 225 :: nat_lit 229 :: nat_lit 230 :: nat_lit 234 :: nat_lit 235 :: nat_lit 241 :: nat_lit 242 :: nat_lit 244 :: nat_lit 245 :: nat_lit 246 :: nat_lit 247 :: nat_lit 255 :: nat_lit 256 :: nat_lit 262 :: nat_lit 263 :: nat_lit 269 :: nat_lit 270 :: nat_lit 276 :: nat_lit 277 :: nat_lit 281 :: nat_lit 282 :: nat_lit 288 :: nat_lit 289 :: nat_lit 295 :: nat_lit 296 :: nat_lit 300 :: nat_lit 301 :: nat_lit 307 :: nat_lit 308 :: []
noncomputable def kc0 (P:Params) (r:List (Option Obj)):List (Option Obj):=some (o2 P) :: some (o3 P) :: some (o15 P) :: some (o28) :: some (o29) :: some (o31 P) :: some (o32) :: some (o33) :: some (o48) :: some (o49) :: some (o55) :: some (o56) :: r
noncomputable def kc1 (P:Params) (r:List (Option Obj)):List (Option Obj):=some (o62) :: some (o63) :: some (o69) :: some (o70) :: some (o76) :: some (o77) :: some (o81) :: some (o82) :: some (o88) :: some (o89) :: some (o95) :: some (o96) :: r
noncomputable def kc2 (P:Params) (r:List (Option Obj)):List (Option Obj):=some (o98 P) :: some (o99) :: some (o100) :: some (o101) :: some (o109) :: some (o110) :: some (o116) :: some (o117) :: some (o123) :: some (o124) :: some (o128) :: some (o129) :: r
noncomputable def kc3 (P:Params) (r:List (Option Obj)):List (Option Obj):=some (o133) :: some (o134) :: some (o138) :: some (o139) :: some (o145) :: some (o146) :: some (o152) :: some (o153) :: some (o164) :: some (o165) :: some (o171) :: some (o172) :: r
noncomputable def kc4 (P:Params) (r:List (Option Obj)):List (Option Obj):=some (o176) :: some (o177) :: some (o181) :: some (o182) :: some (o186) :: some (o187) :: some (o191) :: some (o192) :: some (o194 P) :: some (o195) :: some (o196) :: some (o197) :: r
noncomputable def kc5 (P:Params) (r:List (Option Obj)):List (Option Obj):=some (o205) :: some (o206) :: some (o217) :: some (o218) :: some (o224) :: some (o225) :: some (o229) :: some (o230) :: some (o234) :: some (o235) :: some (o241) :: some (o242) :: r
noncomputable def kc6 (P:Params) (r:List (Option Obj)):List (Option Obj):=some (o244 P) :: some (o245) :: some (o246) :: some (o247) :: some (o255) :: some (o256) :: some (o262) :: some (o263) :: some (o269) :: some (o270) :: some (o276) :: some (o277) :: r
noncomputable def kc7 (P:Params) (r:List (Option Obj)):List (Option Obj):=some (o281) :: some (o282) :: some (o288) :: some (o289) :: some (o295) :: some (o296) :: some (o300) :: some (o301) :: some (o307) :: some (o308) :: r
noncomputable def KKv (P:Params):List (Option Obj):=kc0 P (kc1 P (kc2 P (kc3 P (kc4 P (kc5 P (kc6 P (kc7 P ([]))))))))
def hLoose:List Str:=.ofString "TOP" :: .ofString "BEGINNING" :: .ofString "Fault" :: .ofString "Carver" :: .ofString "do_moves" :: .ofString "spans_of_row" :: .ofString "put_span" :: .ofString "spans_of" :: .ofString "pieces_of" :: .ofString "pieces_within" :: .ofString "merged" :: .ofString "cut_row" :: .ofString "Spans" :: .ofString "carved_spans" :: .ofString "Cells" :: .ofString "carved" :: .ofString "_law_stir" :: .ofString "_law_bed" :: .ofString "_law_cutter" :: .ofString "_law_shelf" :: .ofString "_law_wild" :: .ofString "_law_moves" :: .ofString "_law_alike" :: []
noncomputable def hQ:Program:={ PySem.Challenge.pw_carvebed_k34_whole_moves_on_spans with main:={ PySem.Challenge.pw_carvebed_k34_whole_moves_on_spans.main with body:=[top 27] } }
noncomputable def hL (wd:World) (os:OsState):=sight PySem.Challenge.pw_carvebed_k34_whole_moves_on_spans hQ hLoose (fun s=>KKas.map s.heap.get?) 2097 wd os
noncomputable def hR (wd:World):=some (true,openGood hQ hLoose,KKv wd.params)
theorem hL_e:hL=hL:=Eq.refl hL
theorem hR_e:hR=hR:=Eq.refl hR
name_quick hLq for Car.hL by Car.hL_e
name_quick hRq for Car.hR by Car.hR_e
set_option maxHeartbeats 0 in
theorem hTf (wd:World) (os:OsState):PySem.W.Fast.hLq (wd.withFollow "special-get-raises" false) os=PySem.W.Fast.hRq (wd.withFollow "special-get-raises" false):=by kernel_rfl
set_option maxHeartbeats 0 in
theorem hTt (wd:World) (os:OsState):PySem.W.Fast.hLq (wd.withFollow "special-get-raises" true) os=PySem.W.Fast.hRq (wd.withFollow "special-get-raises" true):=by kernel_rfl
theorem hAll:∀ (wd:World) (os:OsState),PySem.W.Fast.hLq wd os=PySem.W.Fast.hRq wd:=(byRow2 "special-get-raises" (P:=fun wd=>∀ os,PySem.W.Fast.hLq wd os=PySem.W.Fast.hRq wd) (fun wd os=>hTf wd os) (fun wd os=>hTt wd os))
theorem hSeen (wd:World) (os:OsState):sight PySem.Challenge.pw_carvebed_k34_whole_moves_on_spans hQ hLoose (fun s=>KKas.map s.heap.get?) 2097 wd os=some (true,openGood hQ hLoose,(KK wd.params).map fun x=>some x.2) :=
 (congrFun (congrFun PySem.W.Fast.hLq_eq wd) os).trans ((hAll wd os).trans (congrFun PySem.W.Fast.hRq_eq wd).symm)
noncomputable def hH:Hook:=kHook KK KKas (fun _=>rfl)
theorem hLeft:LeftO PySem.Challenge.pw_carvebed_k34_whole_moves_on_spans hQ hLoose (fun s=>xlAt hQ [] s && recOk [] s) (Hook.obs hH) (Hook.val hH) 4254:=left_by rfl (Eq.refl _) rfl (fun s=>Eq.refl _) hSeen
end Car
namespace L2
open PySem PySem.Spec PyProof.Rows
section
variable {X:Cx} {K:PySem.W.Frag}
theorem call_lenK (h:X.K=K):CallR X (.builtin "len") (rLen K):=by subst h; exact call_len_seq
theorem sl_listK (h:X.K=K):SlR X (rSlL K):=by subst h; exact sl_list
theorem op_eqDK (h:X.K=K) (hu:X.A.units + 64 < cLine):OpR X (compareOp .Eq) (rEqD K false):=by subst h; exact op_eqD hu
theorem op_neDK (h:X.K=K) (hu:X.A.units + 64 < cLine):OpR X (compareOp .NotEq) (rEqD K true):=by subst h; exact op_neD hu
theorem pi_listK {tg l:Expr} {tl:TE} (h:X.K=K) (hl:PE X l tl):PI X tg l (iList K tl):=by subst h; exact pi_list hl
theorem call_listK (h:X.K=K):CallR X (.type "list") (rListOf K):=by subst h; exact call_list_of
theorem iteTd {c A B:Prop} [Decidable c] (h:c) (p:A):if decide c=true then A else B:=by
 rw [if_pos (decide_eq_true h)]
 exact p
theorem iteFd {c A B:Prop} [Decidable c] (h:¬ c) (p:B):if decide c=true then A else B:=by
 rw [if_neg (fun z=>h (of_decide_eq_true z))]
 exact p
end
end L2
namespace Car
open PySem L2
abbrev sFaultI:Stmt:=inClass (top 3) 0
abbrev sCarI:Stmt:=inClass (top 4) 0
abbrev sDo:Stmt:=inClass (top 4) 1
abbrev sDoHold:Stmt:=inClass (top 4) 2
abbrev sDoMove:Stmt:=inClass (top 4) 3
abbrev sRoom:Stmt:=inClass (top 4) 4
abbrev sWayTo:Stmt:=inClass (top 4) 5
abbrev sPass:Stmt:=inClass (top 4) 6
abbrev sAlong:Stmt:=inClass (top 4) 7
abbrev sDoMoves:Stmt:=top 5
abbrev pr (c:Int×Int):List V:=[.int c.1,.int c.2]
def RowsAt (H:Hp):List Addr→List (List Int)→Prop
 | [],[]=>True
 | r :: rs,row :: rows=>H r=some (.lst (row.map V.int))∧RowsAt H rs rows
 | _,_=>False
theorem RowsAt.same {H H':Hp} (s:Same H H'):∀ {rs:List Addr} {rows:List (List Int)},RowsAt H rs rows→RowsAt H' rs rows
 | [],[],_=>AS
 | _ :: _,_ :: _,h=>⟨s _ _ h.1,RowsAt.same s h.2⟩
 | [],_ :: _,h=>h.elim
 | _ :: _,[],h=>h.elim
theorem RowsAt.len {H:Hp}:∀ {rs:List Addr} {rows:List (List Int)},RowsAt H rs rows→rs.length=rows.length
 | [],[],_=>rfl
 | _ :: _,_ :: _,h=>by rw [AO,AO,RowsAt.len h.2]
 | [],_ :: _,h=>h.elim
 | _ :: _,[],h=>h.elim
theorem RowsAt.at_ {H:Hp}:∀ {rs:List Addr} {rows:List (List Int)} {i:Nat} {row:List Int},RowsAt H rs rows→rows[i]?=some row→∃ r,rs[i]?=some r∧H r=some (.lst (row.map V.int))
 | [],[],_,_,_,e=>by simp at e
 | r :: _,_ :: _,0,_,h,e=>by cases e; exact ⟨r,rfl,h.1⟩
 | _ :: _,_ :: _,i + 1,_,h,e=>by
  obtain ⟨r,a,b⟩:=RowsAt.at_ (i:=i) h.2 e
  exact ⟨r,a,b⟩
 | [],_ :: _,_,_,h,_=>h.elim
 | _ :: _,[],_,_,h,_=>h.elim
theorem MvAt.at_ {H:Hp}:∀ {ts:List Addr} {ms:List (List V)} {i:Nat} {t:Addr} {m:List V},MvAt H ts ms→ts[i]?=some t→ms[i]?=some m→H t=some (.tup m)
 | [],[],_,_,_,_,e,_=>by simp at e
 | _ :: _,_ :: _,0,_,_,⟨h,_⟩,e,e'=>by
  cases e
  cases e'
  exact h
 | _ :: _,_ :: _,i + 1,_,_,h,e,e'=>MvAt.at_ (i:=i) h.2 e e'
def BdAt (H:Hp) (b:Addr) (rows:List (List Int)):Prop:=∃ rs,H b=some (.lst (rs.map V.ref))∧RowsAt H rs rows
def FtAt (H:Hp) (f:Addr) (cs:List (Int×Int)):Prop:=∃ ts,H f=some (.lst (ts.map V.ref))∧MvAt H ts (cs.map pr)
theorem BdAt.same {H H':Hp} {b:Addr} {rows:List (List Int)} (h:BdAt H b rows) (s:Same H H'):BdAt H' b rows:=by
 obtain ⟨rs,a,c⟩:=h
 exact ⟨rs,s _ _ a,c.same s⟩
theorem FtAt.same {H H':Hp} {b:Addr} {cs:List (Int×Int)} (h:FtAt H b cs) (s:Same H H'):FtAt H' b cs:=by
 obtain ⟨rs,a,c⟩:=h
 exact ⟨rs,s _ _ a,c.same s⟩
def ins (rows:List (List Int)) (c:Int×Int):Bool:=decide (0≤c.2∧c.2 < rows.length∧0≤c.1∧c.1 < (rows.headD []).length)
def hgt (rows:List (List Int)) (c:Int×Int):Int:=((rows[c.2.toNat]?).bind fun r=>r[c.1.toNat]?).getD 0
def Rect (rows:List (List Int)):Prop:=rows≠[]∧∀ r∈rows,r.length=(rows.headD []).length
theorem ins_at {rows:List (List Int)} {c:Int×Int} (h:ins rows c=true) (R:Rect rows):∃ (i j:Nat) (row:List Int) (v:Int),c=((j:Int),(i:Int))∧rows[i]?=some row∧row[j]?=some v∧hgt rows c=v:=by
 obtain ⟨x,y⟩:=c
 obtain ⟨a1,a2,a3,a4⟩:0≤y∧y < rows.length∧0≤x∧x < (rows.headD []).length:=of_decide_eq_true h
 have hy:y.toNat < rows.length:=by lia
 have hr:=R.2 _ (Ak hy)
 have hx:x.toNat < (rows[y.toNat]).length:=by lia
 have e1:=AB hy
 have e2:=AB hx
 refine ⟨y.toNat,x.toNat,rows[y.toNat],(rows[y.toNat])[x.toNat],?_,e1,e2,?_⟩
 ·rw [Int.toNat_of_nonneg a1,Int.toNat_of_nonneg a3]
 ·unfold hgt
  rw [e1,Option.bind_some,e2]
  rfl
theorem ref_get {ts:List Addr} {i:Nat} {x:V} (h:(ts.map V.ref)[i]?=some x):∃ t,ts[i]?=some t∧x=.ref t:=by
 rw [AF] at h
 cases e:ts[i]? with
 | none=>rw [e] at h; cases h
 | some p=>rw [e] at h; cases h; exact ⟨p,rfl,rfl⟩
theorem MvAt.app {H:Hp}:∀ {ts us:List Addr} {ms ns:List (List V)},MvAt H ts ms→MvAt H us ns→MvAt H (ts++us) (ms++ns)
 | [],_,[],_,_,h=>h
 | _ :: _,_,_ :: _,_,h,h2=>⟨h.1,MvAt.app h.2 h2⟩
 | [],_,_ :: _,_,h,_=>h.elim
 | _ :: _,_,[],_,h,_=>h.elim
theorem lc_valC {K:PySem.W.Frag} {a:Addr} {xs:List V} {te:TE} {F:V→V} {H1:Hp} {A:Hp→Prop} (caps:St) (hl:SqL K H1 a xs) (hx:xs.length≤1000)
  (hte:∀ x∈xs,∀ (H2:Hp) (R:VK),Same H1 H2→R (F x) H2→te (some x :: caps) H2 R) {D:Addr} (hD:H1 D=none)
  (q:∀ (H':Hp),Same H1 H'→H' D=some (.lst (xs.map F))→A H') :
  ∃ W:Nat→Nat→St→List V→Hp→Prop,(∃ m,W 0 m (none :: caps) [] (upd H1 D (.lst []))) ∧
   ∀ i m σ' acc H,W i m σ' acc H→((Itl K a).stop i H∧A H)∨((Itl K a).go i H∧∀ x H',(Itl K a).yld i H x H'→gName 0 x σ' H' fun σ2 H2=>tNoIf σ2 H2 fun b H3 =>
    if b=true then te σ2 H3 fun y H4=>H4 D=some (.lst acc)∧acc.length < AL∧∃ m',m' < m∧W (i + 1) m' σ2 (acc++[y]) (upd H4 D (.lst (acc++[y]))) else ∃ m',m' < m∧W (i + 1) m' σ2 acc H3):=by
 refine ⟨Wd xs.length (fun i σ acc H2=>∃ (z:Option V),σ=z :: caps∧acc=(xs.take i).map F∧Same H1 H2∧H2 D=some (.lst acc)),wd_0 ⟨none,rfl,by rw [Am]; rfl,same_upd hD _,upd_same⟩,?_⟩
 rintro i mm σ acc H2 ⟨rfl,hi0,z,rfl,rfl,s2,hB2⟩
 refine lc_ask (K:=K) (xs:=xs) (s2.seq hl) hi0 (fun x hx1 hi=>?_) (fun hend=>?_)
 ·show te (some x :: caps) H2 _
  refine hte x (A5 hx1) H2 _ s2 ⟨hB2,?_,wd_next hi ?_⟩
  ·rw [AA,A0]
   exact line3 (show min i xs.length≤1000 by lia) (by decide)
  ·refine ⟨_,rfl,?_,same_in s2 hD,upd_same⟩
   rw [An,hx1,AG]
   rfl
 ·rw [hend,AT (AD _)] at hB2
  exact q H2 s2 hB2
seal L2.PE L2.PT L2.PW L2.PA L2.PS L2.PSs L2.PG L2.PGs L2.PI L2.PSet L2.PIp L2.OpR L2.UnR L2.CallR L2.TruR L2.IxR L2.SlR L2.PO L2.PX L2.PIfs L2.PPs
section
variable {P:Program} {w:World} {K:PySem.W.Frag} {mg:Str→Option Value} {base:Heap} {f:Addr} {fd':FuncData}
theorem nd2 {x y:Str} (h:x≠y):[x,y].Nodup:=by simp [h]
end
section
variable {P:Program} {w:World} {K:PySem.W.Frag} {mg:Str→Option Value} {base:Heap} {f:Addr} {fd':FuncData}
def shf (x y:Int) (c:Int×Int):Int×Int:=(x + c.1,y + c.2)
end
def mn (a b:Int):Int:=if b < a then b else a
theorem le_mn {z a b:Int}:z≤mn a b↔z≤a∧z≤b:=by
 unfold mn
 split <;> lia
def cutC (rows:List (List Int)) (o:(Int×Int)×Int):List (List Int):=rows.set o.1.2.toNat (((rows[o.1.2.toNat]?).getD []).set o.1.1.toNat (mn (hgt rows o.1) o.2))
theorem cutC_len (rows:List (List Int)) (o:(Int×Int)×Int):(cutC rows o).length=rows.length:=List.length_set
def Alike (a b:List (List Int)):Prop:=a.length=b.length∧∀ (i:Nat) (r s:List Int),a[i]?=some r→b[i]?=some s→r.length=s.length
theorem Alike.refl (a:List (List Int)):Alike a a:=⟨rfl,fun i r s h g=>by rw [h] at g; cases g; rfl⟩
theorem Alike.trans {a b c:List (List Int)} (h:Alike a b) (g:Alike b c):Alike a c:=⟨h.1.trans g.1,fun i r t x y=>by
 have hi:i < b.length:=by rw [← h.1]; exact (AE.mp x).1
 have e:=AB hi
 exact (h.2 i _ _ x e).trans (g.2 i _ _ e y)⟩
theorem cutC_alike (rows:List (List Int)) (o:(Int×Int)×Int):Alike rows (cutC rows o):=by
 refine ⟨(cutC_len rows o).symm,fun i r s h g=>?_⟩
 unfold cutC at g
 by_cases e:o.1.2.toNat=i
 ·subst e
  rw [List.getElem?_set_self (AE.mp h).1] at g
  cases g
  rw [h,Option.getD_some,List.length_set]
 ·rw [List.getElem?_set_ne e,h] at g
  cases g
  rfl
theorem Alike.ins {a b:List (List Int)} (h:Alike a b) (c:Int×Int):ins a c=ins b c:=by
 unfold Car.ins
 have hw:(a.headD []).length=(b.headD []).length:=by
  cases a with
  | nil =>
   cases b with
   | nil=>rfl
   | cons s b=>exact absurd h.1 (by simp)
  | cons r a =>
   cases b with
   | nil=>exact absurd h.1 (by simp)
   | cons s b=>exact h.2 0 r s rfl rfl
 rw [h.1,hw]
theorem Alike.rect {a b:List (List Int)} (h:Alike a b) (R:Rect a):Rect b:=by
 have hw:(a.headD []).length=(b.headD []).length:=by
  cases a with
  | nil=>exact absurd rfl R.1
  | cons r a =>
   cases b with
   | nil=>exact absurd h.1 (by simp)
   | cons s b=>exact h.2 0 r s rfl rfl
 refine ⟨fun z=>?_,fun s hs=>?_⟩
 ·have e:=h.1
  rw [z] at e
  cases a with
  | nil=>exact R.1 rfl
  | cons r a=>cases e
 ·obtain ⟨i,hi⟩:=A8 hs
  have hia:i < a.length:=by rw [h.1]; exact (AE.mp hi).1
  have e:=AB hia
  rw [← h.2 i _ _ e hi,← hw]
  exact R.2 _ (Ak hia)
theorem hgt_cut {rows:List (List Int)} (R:Rect rows) {c d:Int×Int} {h:Int} (hc:ins rows c=true) (hd:ins rows d=true):hgt (cutC rows (c,h)) d=if d=c then mn (hgt rows c) h else hgt rows d:=by
 obtain ⟨i,j,row,v,e1,e2,e3,e4⟩:=ins_at hc R
 obtain ⟨k,l,row2,v2,f1,f2,f3,f4⟩:=ins_at hd R
 subst e1
 subst f1
 have hi:=(AE.mp e2).1
 have hj:=(AE.mp e3).1
 unfold cutC
 simp only [Aj]
 rw [e2,Option.getD_some]
 by_cases ik:i=k
 ·subst ik
  rw [e2] at f2
  cases f2
  by_cases jl:j=l
  ·subst jl
   rw [if_pos rfl]
   unfold hgt
   simp only [Aj]
   rw [List.getElem?_set_self hi,Option.bind_some,List.getElem?_set_self hj]
   rfl
  ·rw [if_neg (fun z=>jl (by have:=congrArg Prod.fst z; simp at this; lia))]
   unfold hgt
   simp only [Aj]
   rw [List.getElem?_set_self hi,Option.bind_some,List.getElem?_set_ne jl,e2,Option.bind_some]
 ·rw [if_neg (fun z=>ik (by have:=congrArg Prod.snd z; simp at this; lia))]
  unfold hgt
  simp only [Aj]
  rw [List.getElem?_set_ne ik]
def cutsF (rows:List (List Int)) (os:List ((Int×Int)×Int)):List (List Int):=os.foldl cutC rows
theorem cuts_alike:∀ (os:List ((Int×Int)×Int)) (rows:List (List Int)),Alike rows (cutsF rows os)
 | [],rows=>Alike.refl rows
 | o :: os,rows=>(cutC_alike rows o).trans (cuts_alike os (cutC rows o))
theorem le_cuts {d:Int×Int}:∀ (os:List ((Int×Int)×Int)) (rows:List (List Int)),Rect rows→(∀ o∈os,ins rows o.1=true)→ins rows d=true→∀ z,z≤hgt (cutsF rows os) d↔z≤hgt rows d∧∀ o∈os,o.1=d→z≤o.2
 | [],rows,R,_,hd,z=>⟨fun h=>⟨h,fun _ m=>(List.not_mem_nil m).elim⟩,fun h=>h.1⟩
 | (c,h) :: os,rows,R,hi,hd,z=>by
  have A:=cutC_alike rows (c,h)
  have hc:=hi (c,h) Ab
  have ih:=le_cuts (d:=d) os (cutC rows (c,h)) (A.rect R) (fun o m=>by rw [← A.ins]; exact hi o (AR _ m)) (by rw [← A.ins]; exact hd) z
  show z≤hgt (cutsF (cutC rows (c,h)) os) d↔_
  rw [ih,hgt_cut R hc hd]
  by_cases e:d=c
  ·subst e
   rw [if_pos rfl,le_mn]
   constructor
   ·rintro ⟨⟨a,b⟩,k⟩
    refine ⟨a,fun o m=>?_⟩
    rcases AW.mp m with rfl | m
    ·exact fun _=>b
    ·exact k o m
   ·rintro ⟨a,k⟩
    exact ⟨⟨a,k (d,h) Ab rfl⟩,fun o m=>k o (AR _ m)⟩
  ·rw [if_neg e]
   constructor
   ·rintro ⟨a,k⟩
    refine ⟨a,fun o m=>?_⟩
    rcases AW.mp m with rfl | m
    ·exact fun z=>absurd z.symm e
    ·exact k o m
   ·rintro ⟨a,k⟩
    exact ⟨a,fun o m=>k o (AR _ m)⟩
theorem alike_ext {a b:List (List Int)} (A:Alike a b) (R:Rect a) (h:∀ c,ins a c=true→hgt a c=hgt b c):a=b:=by
 refine List.ext_getElem? fun i=>?_
 by_cases hi:i < a.length
 ·have hib:i < b.length:=by rw [← A.1]; exact hi
  rw [AB hi,AB hib]
  refine congrArg some (List.ext_getElem? fun j=>?_)
  have hl:=A.2 i _ _ (AB hi) (AB hib)
  by_cases hj:j < (a[i]).length
  ·have hjb:j < (b[i]).length:=by rw [← hl]; exact hj
   have hw:=R.2 _ (Ak hi)
   have q:=h ((j:Int),(i:Int)) (decide_eq_true ⟨show (0:Int)≤(i:Int) by lia,show (i:Int) < (a.length:Int) by lia,show (0:Int)≤(j:Int) by lia,show (j:Int) < ((a.headD []).length:Int) by lia⟩)
   unfold hgt at q
   simp only [Aj] at q
   rw [AB hi,AB hib,Option.bind_some,Option.bind_some,AB hj,AB hjb] at q
   rw [AB hj,AB hjb]
   exact congrArg some q
  ·rw [A9 (by lia),A9 (by lia)]
 ·rw [A9 (by lia),A9 (by rw [← A.1]; lia)]
theorem eq_of_le {a b:Int} (h:∀ z,z≤a↔z≤b):a=b:=Int.le_antisymm ((h a).mp (Int.le_refl _)) ((h b).mpr (Int.le_refl _))
abbrev Tool:=List (Int×Int)×Int
end Car
namespace L2
open PySem PySem.Spec PyProof.Rows
theorem for_enum {K:PySem.W.Frag} {a:Addr} {xs:List V} {g:TG} {tb:TS} {D:Ends} {σ:St} {H:Hp} (Pv:Nat→St→Hp→Prop) (h0:Pv 0 σ H) (hl:∀ i σ H,i≤xs.length→Pv i σ H→SqL K H a xs)
  (hs:∀ i x σ H,xs[i]?=some x→Pv i σ H→∀ T,H T=none→g (.ref T) σ (upd H T (.tup [.int i,x])) fun σ2 H2=>tb { D with nx:=Pv (i + 1),ct:=Pv (i + 1),bk:=D.nx } σ2 H2) (hd:∀ σ H,Pv xs.length σ H→D.nx σ H) :
  ∃ W:Nat→Nat→St→Hp→Prop,(∃ m,W 0 m σ H)∧∀ i m σ H,W i m σ H →
   ((Ite K a).stop i H∧D.nx σ H)∨((Ite K a).go i H∧∃ N:St→Hp→Prop,(∀ σ' H',N σ' H'→∃ m',m' < m∧W (i + 1) m' σ' H')∧∀ x H',(Ite K a).yld i H x H'→g x σ H' fun σ2 H2=>tb { D with nx:=N,ct:=N,bk:=D.nx } σ2 H2):=by
 refine ⟨fun i m σ H=>m=xs.length - i∧i≤xs.length∧Pv i σ H,⟨xs.length,by simp,Ai _,h0⟩,?_⟩
 rintro i m σ H ⟨rfl,hi,p⟩
 have q:=hl i σ H hi p
 by_cases hlt:i < xs.length
 ·refine .inr ⟨⟨xs,xs[i],q,by simp [hlt]⟩,Pv (i + 1),fun σ' H' p'=>⟨xs.length - (i + 1),by lia,rfl,hlt,p'⟩,fun x H' y=>?_⟩
  obtain ⟨T,rfl,hT,y⟩:=y
  rw [y xs xs[i] q (by simp [hlt])]
  exact hs i xs[i] σ _ (by simp [hlt]) p T hT
 ·have e:i=xs.length:=by lia
  subst e
  exact .inl ⟨⟨xs,q,rfl⟩,hd σ H p⟩
end L2
namespace Car
open PySem L2
theorem ne_new {H:Hp} {a b:Addr} {o:HO} (h:H a=some o) (g:H b=none):b≠a:=fun z=>by rw [z,h] at g; cases g
def Small (rows:List (List Int)):Prop:=rows.length≤40∧∀ r∈rows,r.length≤40
section
variable {P:Program} {w:World} {K:PySem.W.Frag} {mg:Str→Option Value} {base:Heap} {f:Addr} {fd':FuncData}
def Kp (rs:List Addr) (H H':Hp):Prop:=∀ x o,x ∉ rs→H x=some o→H' x=some o
theorem RowsAt.mem {H:Hp}:∀ {rs:List Addr} {rows:List (List Int)} {r:Addr},RowsAt H rs rows→r∈rs→∃ xs,H r=some (.lst xs)
 | _ :: _,_ :: _,r,h,m=>by
  rcases AW.mp m with rfl | m
  ·exact ⟨_,h.1⟩
  ·exact RowsAt.mem h.2 m
 | [],_,_,_,m=>by cases m
 | _ :: _,[],_,h,_=>h.elim
theorem RowsAt.out {H:Hp} {rs:List Addr} {rows:List (List Int)} {t:Addr} {m:List V} (h:RowsAt H rs rows) (e:H t=some (.tup m)):t ∉ rs:=fun z=>by
 obtain ⟨xs,h⟩:=h.mem z
 rw [h] at e
 cases e
theorem RowsAt.set {H:Hp} {a:Addr} {row:List Int}:∀ {rs:List Addr} {rows:List (List Int)} {i:Nat},rs.Nodup→RowsAt H rs rows→rs[i]?=some a→RowsAt (upd H a (.lst (row.map V.int))) rs (rows.set i row)
 | r :: rs,s :: rows,0,nd,h,e=>by
  cases e
  have n:=(List.nodup_cons.mp nd).1
  refine ⟨upd_same,?_⟩
  have keep:∀ {ts:List Addr} {us:List (List Int)},(∀ t∈ts,t≠a)→RowsAt H ts us→RowsAt (upd H a (.lst (row.map V.int))) ts us:=by
   intro ts
   induction ts with
   | nil =>
    intro us _ h
    cases us with
    | nil=>exact AS
    | cons u us=>exact h.elim
   | cons t ts ih =>
    intro us k h
    cases us with
    | nil=>exact h.elim
    | cons u us=>exact ⟨by rw [upd_ne (k t Ab)]; exact h.1,ih (fun x hx=>k x (AR _ hx)) h.2⟩
  exact keep (fun t ht z=>n (by rw [← z]; exact ht)) h.2
 | r :: rs,s :: rows,i + 1,nd,h,e=>by
  have n:=(List.nodup_cons.mp nd).1
  have m:a∈rs:=A5 (i:=i) (by simpa using e)
  refine ⟨?_,RowsAt.set (i:=i) (List.nodup_cons.mp nd).2 h.2 (by simpa using e)⟩
  rw [upd_ne (fun z=>n (by rw [z]; exact m))]
  exact h.1
 | [],_,_,_,_,e=>by cases e
 | _ :: _,[],_,_,h,_=>h.elim
theorem ixN_nat {n j:Nat} (h:j < n):ixN n (j:Int)=some j:=by
 unfold ixN
 rw [if_pos (by lia),if_pos (by lia)]
 simp
end
def CtAt (H:Hp) (ct:Addr) (t:Tool):Prop:=∃ ft,H ct=some (.tup [.ref ft,.int t.2])∧FtAt H ft t.1
theorem CtAt.same {H H':Hp} {ct:Addr} {t:Tool} (h:CtAt H ct t) (s:Same H H'):CtAt H' ct t:=by
 obtain ⟨ft,a,b⟩:=h
 exact ⟨ft,s _ _ a,b.same s⟩
def CtsAt (H:Hp):List Addr→List Tool→Prop
 | [],[]=>True
 | c :: cs,t :: ts=>CtAt H c t∧CtsAt H cs ts
 | _,_=>False
theorem CtsAt.same {H H':Hp} (s:Same H H'):∀ {cs:List Addr} {ts:List Tool},CtsAt H cs ts→CtsAt H' cs ts
 | [],[],_=>AS
 | _ :: _,_ :: _,h=>⟨h.1.same s,CtsAt.same s h.2⟩
 | [],_ :: _,h=>h.elim
 | _ :: _,[],h=>h.elim
theorem CtsAt.len {H:Hp}:∀ {cs:List Addr} {ts:List Tool},CtsAt H cs ts→cs.length=ts.length
 | [],[],_=>rfl
 | _ :: _,_ :: _,h=>by rw [AO,AO,CtsAt.len h.2]
 | [],_ :: _,h=>h.elim
 | _ :: _,[],h=>h.elim
theorem CtsAt.at_ {H:Hp}:∀ {cs:List Addr} {ts:List Tool} {i:Nat} {c:Addr},CtsAt H cs ts→cs[i]?=some c→∃ t,ts[i]?=some t∧CtAt H c t
 | [],[],_,_,_,e=>by cases e
 | _ :: _,t :: _,0,_,h,e=>by cases e; exact ⟨t,rfl,h.1⟩
 | _ :: _,_ :: _,i + 1,_,h,e=>by
  obtain ⟨t,a,b⟩:=CtsAt.at_ (i:=i) h.2 e
  exact ⟨t,a,b⟩
 | [],_ :: _,_,_,h,_=>h.elim
 | _ :: _,[],_,_,h,_=>h.elim
def ShAt (H:Hp) (sh:Addr) (ts:List Tool):Prop:=∃ cs,H sh=some (.lst (cs.map V.ref))∧CtsAt H cs ts
theorem ShAt.same {H H':Hp} {sh:Addr} {ts:List Tool} (h:ShAt H sh ts) (s:Same H H'):ShAt H' sh ts:=by
 obtain ⟨cs,a,b⟩:=h
 exact ⟨cs,s _ _ a,b.same s⟩
theorem RowsAt.keep {H H':Hp}:∀ {rs:List Addr} {rows:List (List Int)},(∀ r∈rs,∀ o,H r=some o→H' r=some o)→RowsAt H rs rows→RowsAt H' rs rows
 | [],[],_,_=>AS
 | r :: _,_ :: _,k,h=>⟨k r Ab _ h.1,RowsAt.keep (fun x hx=>k x (AR _ hx)) h.2⟩
 | [],_ :: _,_,h=>h.elim
 | _ :: _,[],_,h=>h.elim
theorem RowsAt.snoc {H:Hp} {r:Addr} {row:List Int} (e:H r=some (.lst (row.map V.int))):∀ {rs:List Addr} {rows:List (List Int)},RowsAt H rs rows→RowsAt H (rs++[r]) (rows++[row])
 | [],[],_=>⟨e,AS⟩
 | _ :: _,_ :: _,h=>⟨h.1,RowsAt.snoc e h.2⟩
 | [],_ :: _,h=>h.elim
 | _ :: _,[],h=>h.elim
theorem Kp.same {rs:List Addr} {H H1 H2:Hp} (s:Same H H1) (n:∀ r∈rs,H r=none) (k:Kp rs H1 H2):Same H H2:=fun x o e=>k x o (fun z=>by rw [n x z] at e; cases e) (s x o e)
section
variable {P:Program} {w:World} {K:PySem.W.Frag} {mg:Str→Option Value} {base:Heap} {f:Addr} {fd':FuncData}
theorem lc_rows {b:Addr} {rs:List Addr} {rows:List (List Int)} {te:TE} {H1:Hp} {A:Hp→Prop} (hb:H1 b=some (.lst (rs.map V.ref))) (ra:RowsAt H1 rs rows) (sm:rows.length≤1000)
  (hte:∀ (r:Addr) (row:List Int) (H2:Hp) (R:VK),H2 r=some (.lst (row.map V.int))→(∀ p,H2 p=none→R (.ref p) (upd H2 p (.lst (row.map V.int))))→te [some (.ref r)] H2 R) {D:Addr} (hD:H1 D=none)
  (q:∀ (hs:List Addr) (H':Hp),Same H1 H'→H' D=some (.lst (hs.map V.ref))→RowsAt H' hs rows→hs.Nodup→(∀ h∈hs,H1 h=none)→D ∉ hs→A H') :
  ∃ W:Nat→Nat→St→List V→Hp→Prop,(∃ m,W 0 m [none] [] (upd H1 D (.lst []))) ∧
   ∀ i m σ' acc H,W i m σ' acc H→((Itl K b).stop i H∧A H)∨((Itl K b).go i H∧∀ x H',(Itl K b).yld i H x H'→gName 0 x σ' H' fun σ2 H2=>tNoIf σ2 H2 fun b H3 =>
    if b=true then te σ2 H3 fun y H4=>H4 D=some (.lst acc)∧acc.length < AL∧∃ m',m' < m∧W (i + 1) m' σ2 (acc++[y]) (upd H4 D (.lst (acc++[y]))) else ∃ m',m' < m∧W (i + 1) m' σ2 acc H3):=by
 have rsl:=ra.len
 refine ⟨Wd rows.length (fun i σ acc H2=>Ex2 fun (z:Option V) (hs:List Addr)=>σ=[z]∧acc=hs.map V.ref∧RowsAt H2 hs (rows.take i)∧(∀ h∈hs,H1 h=none)∧D ∉ hs∧hs.Nodup∧Same H1 H2∧H2 D=some (.lst acc)),wd_0 ⟨none,[],rfl,rfl,by rw [Am]; exact AS,fun _ h=>(List.not_mem_nil h).elim,List.not_mem_nil,List.nodup_nil,same_upd hD _,upd_same⟩,?_⟩
 rintro i im σ acc H2 ⟨rfl,hi0,z,hs,rfl,rfl,rh,nh,nD,ndh,s2,hD2⟩
 refine lc_ask (K:=K) (xs:=rs.map V.ref) (SqL.of (s2 _ _ hb)) (by rw [AA,rsl]; exact hi0) (fun x hx hi=>?_) (fun hend=>?_)
 ·obtain ⟨r,hr',rfl⟩:=ref_get hx
  have hi':i < rows.length:=by rw [AA,rsl] at hi; exact hi
  obtain ⟨r',e1,e2⟩:=ra.at_ (AB hi')
  have e3:r=r':=by rw [hr'] at e1; cases e1; rfl
  subst e3
  have hsl:=rh.len
  rw [A0] at hsl
  show te [some (.ref r)] H2 _
  refine hte r rows[i] H2 _ (s2 _ _ e2) fun p hp=>?_
  have u:=same_upd hp (.lst ((rows[i]).map V.int))
  have np:=ne_new hD2 hp
  refine ⟨u _ _ hD2,(by rw [AA]; exact line3 (show hs.length≤1000 by lia) (by decide)),wd_next hi' ⟨_,hs++[p],rfl,by rw [AG]; rfl,?_,fun h hh=>?_,fun z=>?_,?_,same_in (s2.trans u) hD,upd_same⟩⟩
  ·rw [An,AB hi']
   refine RowsAt.snoc (by rw [upd_ne np,upd_same]) (rh.keep fun r hr o e=>?_)
   rw [upd_ne (fun z=>nD (by rw [← z]; exact hr))]
   exact u _ _ e
  ·rcases AY.mp hh with hh | hh
   ·exact nh h hh
   ·rw [show h=p by simpa using hh]; exact s2.free hp
  ·rcases AY.mp z with z | z
   ·exact nD z
   ·exact np (AJ.mp z).symm
  ·refine List.nodup_append.mpr ⟨ndh,by simp,fun a ha b hb e=>?_⟩
   rw [show b=p by simpa using hb] at e
   obtain ⟨xs,hx⟩:=rh.mem ha
   rw [e,hp] at hx
   cases hx
 ·rw [AA,rsl] at hend
  rw [hend,AT (AD _)] at rh
  exact q hs H2 s2 hD2 rh ndh nh nD
end
def Sb (a:Addr) (H H':Hp):Prop:=∀ x o,x≠a→H x=some o→H' x=some o
theorem Sb.refl {a:Addr} (H:Hp):Sb a H H:=fun _ _ _ e=>e
theorem Sb.same {a:Addr} {G H H':Hp} (s:Same G H) (n:G a=none) (h:Sb a H H'):Same G H':=fun x o e=>h x o (ne_of_none e n) (s x o e)
section
variable {P:Program} {w:World} {K:PySem.W.Frag} {mg:Str→Option Value} {base:Heap} {f:Addr} {fd':FuncData}
def prD (c:Int×Int):PyData:=.tuple [.int c.1,.int c.2]
theorem prD_can (c:Int×Int):AN (prD c)=true∧BA (prD c)=1:=⟨rfl,rfl⟩
theorem prD_sh (c:Int×Int):SeqAt.shaped (prD c)=true:=by
 unfold SeqAt.shaped
 rw [(prD_can c).1,Bool.true_and]
 exact decide_eq_true (by rw [(prD_can c).2]; decide)
theorem prs_rp {H:Hp}:∀ {ts:List Addr} {cs:List (Int×Int)},MvAt H ts (cs.map pr)→Rps K H (ts.map V.ref) (cs.map prD)
 | [],[],_=>.nil
 | _ :: _,_ :: _,h=>.cons (.tup (SqT.of h.1) (.cons (.int _) (.cons (.int _) .nil))) (prs_rp h.2)
 | [],_ :: _,h=>h.elim
 | _ :: _,[],h=>h.elim
theorem cut_map {α:Type} (g:α→V) (xs:List α) (lo hi:Option Int):∃ n m,cutV (xs.map g) lo hi=((xs.drop n).take m).map g:=by
 unfold cutV
 rw [← List.map_drop,← List.map_take]
 exact ⟨_,_,rfl⟩
theorem MvAt.cut {H:Hp} {ts:List Addr} {ms:List (List V)} (h:MvAt H ts ms) (n m:Nat):MvAt H ((ts.drop n).take m) ((ms.drop n).take m):=by
 have d:∀ (n:Nat) {ts:List Addr} {ms:List (List V)},MvAt H ts ms→MvAt H (ts.drop n) (ms.drop n):=by
  intro n
  induction n with
  | zero=>intro ts ms h; exact h
  | succ n ih =>
   intro ts ms h
   match ts,ms,h with
   | [],[],h=>exact h
   | _ :: _,_ :: _,h=>exact ih h.2
 have t:∀ (m:Nat) {ts:List Addr} {ms:List (List V)},MvAt H ts ms→MvAt H (ts.take m) (ms.take m):=by
  intro m
  induction m with
  | zero=>intro ts ms h; rw [Am,Am]; exact AS
  | succ m ih =>
   intro ts ms h
   match ts,ms,h with
   | [],[],h=>exact h
   | _ :: _,_ :: _,h=>exact ⟨h.1,ih h.2⟩
 exact t m (d n h)
end
section
variable {H0 H H':Hp} {b w:Addr} {rs ws:List Addr} {bed wished:List (List Int)} {wd n m:Nat}
end
theorem snoc_get {α:Type} {us:List α} {x:α} {j:Nat} {u:α} (h:(us++[x])[j]?=some u):(j < us.length∧us[j]?=some u)∨(j=us.length∧u=x):=by
 by_cases e:j < us.length
 ·rw [List.getElem?_append_left e] at h
  exact .inl ⟨e,h⟩
 ·rw [List.getElem?_append_right (by lia)] at h
  have hj:=(AE.mp h).1
  have e2:j - us.length=0:=by simp at hj; lia
  rw [e2] at h
  cases h
  exact .inr ⟨by lia,rfl⟩
section
variable {P:Program} {w:World} {K:PySem.W.Frag} {mg:Str→Option Value} {base:Heap} {f:Addr} {fd':FuncData}
end
theorem Alike.symm {a b:List (List Int)} (h:Alike a b):Alike b a:=⟨h.1.symm,fun i r s x y=>(h.2 i s r y x).symm⟩
section
variable {bed w:List (List Int)} (R:Rect bed) (ts:List Tool)
include R
end
theorem hu_of' {k:Nat} {A:Around} (r:Room k A):A.units + 1 < cLine:=by have:=r.units; lia
structure VT (K:PySem.W.Frag) (mg:Str→Option Value) (CV CC:Addr):Prop where
 clV:Cls K CV
 clC:Cls K CC
 nStuff:NoAttr K CV "stuff"
 nShelf:NoAttr K CV "shelf"
 nCutter:NoAttr K CV "cutter"
 nStands:NoAttr K CV "stands"
 nRows:NoAttr K CC "rows"
 dict:mg "dict"=none
 any:mg "any"=none
 top:∃ t,mg "TOP"=some (.int 1000 t)
structure ClAt (CC:Addr) (H:Hp) (c R:Addr) (rs:List Addr) (rows:List (List Int)):Prop where
 ob:∃ dx,H c=some (.ins CC dx [("rows",.ref R)])
 hR:H R=some (.lst (rs.map V.ref))
 ra:RowsAt H rs rows
theorem ClAt.same {CC:Addr} {H H':Hp} {c R:Addr} {rs:List Addr} {rows:List (List Int)} (h:ClAt CC H c R rs rows) (s:Same H H'):ClAt CC H' c R rs rows:=by
 obtain ⟨dx,e⟩:=h.ob
 exact ⟨⟨dx,s _ _ e⟩,s _ _ h.hR,h.ra.same s⟩
theorem bt_any:bootBuiltins "any"=some (.builtin "any"):=by decide +kernel
theorem bt_dict:bootBuiltins "dict"=some (.type "dict"):=by decide +kernel
def addC (cs:List (Int×Int)) (c:Int×Int):List (Int×Int):=if c∈cs then cs else cs++[c]
theorem mem_addC {cs:List (Int×Int)} {c d:Int×Int}:d∈addC cs c↔d∈cs∨d=c:=by
 unfold addC
 split
 ·rename_i h
  exact ⟨.inl,fun z=>z.elim id fun e=>e ▸ h⟩
 ·rw [AY,AJ]
theorem mem_adds {d:Int×Int}:∀ (l cs:List (Int×Int)),d∈l.foldl addC cs↔d∈cs∨d∈l
 | [],cs=>⟨.inl,fun h=>h.elim id fun z=>(List.not_mem_nil z).elim⟩
 | c :: l,cs=>by
  rw [List.foldl_cons,mem_adds l,mem_addC,AW,or_assoc]
theorem len_adds:∀ (l cs:List (Int×Int)),(l.foldl addC cs).length≤cs.length + l.length
 | [],cs=>AD _
 | c :: l,cs=>by
  rw [List.foldl_cons,AO]
  have h1:=len_adds l (addC cs c)
  have h2:(addC cs c).length≤cs.length + 1:=by
   unfold addC
   split
   ·lia
   ·rw [AI]; exact AD _
  lia
def kvD (cs:List (Int×Int)):List (List Key×V):=cs.map fun c=>([(Sum.inl c.1:Key),Sum.inl c.2],V.bl true)
theorem put_kvD (cs:List (Int×Int)) (c:Int×Int):putK (kvD cs) [(Sum.inl c.1:Key),Sum.inl c.2] (V.bl true)=kvD (addC cs c):=by
 have h:((kvD cs).any fun kv=>decide (kv.1=[(Sum.inl c.1:Key),Sum.inl c.2]))=decide (c∈cs):=by
  unfold kvD
  rw [List.any_map,Bool.eq_iff_iff,List.any_eq_true,decide_eq_true_iff]
  constructor
  ·rintro ⟨d,hd,e⟩
   have e':=of_decide_eq_true e
   simp at e'
   rw [show c=d from Prod.ext e'.1.symm e'.2.symm]
   exact hd
  ·exact fun hc=>⟨c,hc,decide_eq_true rfl⟩
 unfold putK addC
 rw [h]
 by_cases hc:c∈cs
 ·rw [if_pos (decide_eq_true hc),if_pos hc]
  unfold kvD
  rw [List.map_map]
  refine List.map_congr_left fun d _=>?_
  show (if _ then _ else _)=_
  split
  ·rfl
  ·rfl
 ·rw [if_neg (fun z=>hc (of_decide_eq_true z)),if_neg hc]
  unfold kvD
  rw [AG]
  rfl
def rowW (foot:List (Int×Int)) (x0:Int) (nx:Nat) (y:Int):List (Int×Int):=(List.range nx).flatMap fun (i:Nat)=>foot.map (shf (x0 + (i:Int)) y)
def cellsW (foot:List (Int×Int)) (x0:Int) (nx:Nat) (y0:Int) (ny:Nat):List (Int×Int):=(List.range ny).flatMap fun (j:Nat)=>rowW foot x0 nx (y0 + (j:Int))
def undW (rows:List (List Int)) (foot:List (Int×Int)) (x0:Int) (nx:Nat) (y0:Int) (ny:Nat):List (Int×Int):=((cellsW foot x0 nx y0 ny).foldl addC []).filter (ins rows)
theorem rowW_succ (foot:List (Int×Int)) (x0:Int) (n:Nat) (y:Int):rowW foot x0 (n + 1) y=rowW foot x0 n y++foot.map (shf (x0 + (n:Int)) y):=by
 unfold rowW
 rw [List.range_succ,List.flatMap_append,List.flatMap_cons,List.flatMap_nil,BB]
theorem cellsW_succ (foot:List (Int×Int)) (x0:Int) (nx:Nat) (y0:Int) (n:Nat):cellsW foot x0 nx y0 (n + 1)=cellsW foot x0 nx y0 n++rowW foot x0 nx (y0 + (n:Int)):=by
 unfold cellsW
 rw [List.range_succ,List.flatMap_append,List.flatMap_cons,List.flatMap_nil,BB]
theorem rowW_len (foot:List (Int×Int)) (x0 y:Int):∀ n,(rowW foot x0 n y).length=n * foot.length
 | 0=>by rw [Nat.zero_mul]; rfl
 | n + 1=>by rw [rowW_succ,AI,rowW_len foot x0 y n,AA,Nat.succ_mul]
theorem cellsW_len (foot:List (Int×Int)) (x0:Int) (nx:Nat) (y0:Int):∀ n,(cellsW foot x0 nx y0 n).length=n * (nx * foot.length)
 | 0=>by rw [Nat.zero_mul]; rfl
 | n + 1=>by rw [cellsW_succ,AI,cellsW_len foot x0 nx y0 n,rowW_len,Nat.succ_mul]
theorem mem_undW {rows:List (List Int)} {foot:List (Int×Int)} {x0 y0:Int} {nx ny:Nat} {c:Int×Int}:c∈undW rows foot x0 nx y0 ny↔ins rows c=true∧∃ (i j:Nat),i < nx∧j < ny∧∃ s∈foot,c=shf (x0 + (i:Int)) (y0 + (j:Int)) s:=by
 unfold undW cellsW rowW
 rw [List.mem_filter,mem_adds]
 constructor
 ·rintro ⟨h | h,hi⟩
  ·exact (List.not_mem_nil h).elim
  ·obtain ⟨j,hj,h⟩:=List.mem_flatMap.mp h
   obtain ⟨i,hi',h⟩:=List.mem_flatMap.mp h
   obtain ⟨s,hs,rfl⟩:=A6.mp h
   exact ⟨hi,i,j,List.mem_range.mp hi',List.mem_range.mp hj,s,hs,rfl⟩
 ·rintro ⟨hi,i,j,h1,h2,s,hs,rfl⟩
  exact ⟨.inr (List.mem_flatMap.mpr ⟨j,List.mem_range.mpr h2,List.mem_flatMap.mpr ⟨i,List.mem_range.mpr h1,A6.mpr ⟨s,hs,rfl⟩⟩⟩),hi⟩
def stepD (h:Int) (s:List (List Int)×Int) (c:Int×Int):List (List Int)×Int:=(cutC s.1 (c,h),s.2 + if hgt s.1 c > h then hgt s.1 c - h else 0)
def dwn (rows:List (List Int)) (cs:List (Int×Int)) (h:Int):List (List Int)×Int:=cs.foldl (stepD h) (rows,0)
theorem dwn_fst (h:Int):∀ (cs:List (Int×Int)) (rows:List (List Int)) (t:Int),(cs.foldl (stepD h) (rows,t)).1=cutsF rows (cs.map fun c=>(c,h))
 | [],_,_=>rfl
 | c :: cs,rows,t=>dwn_fst h cs (cutC rows (c,h)) _
section
variable {P:Program} {w:World} {K:PySem.W.Frag} {mg:Str→Option Value} {base:Heap} {CV CC f:Addr} {fd':FuncData}
inductive PspHas (CC:Addr) (vs:List V) (H:Hp) (Q:VK):Prop
 | mk (c R:Addr) (rs:List Addr) (rows:List (List Int)) (x y:Int) (h0:vs=[.ref c,.int x,.int y]) (h1:ClAt CC H c R rs rows) (h2:Rect rows) (h3:Q (.bl (ins rows (x,y))) H):PspHas CC vs H Q
def spHas (CC:Addr):Sp:=fun vs H Q _=>PspHas CC vs H Q
end
abbrev Sp2:=List (Int×Int)
def lastH:Sp2→Option Int
 | []=>none
 | [p]=>some p.2
 | _ :: r=>lastH r
theorem lastH_snoc:∀ (r:Sp2) (p:Int×Int),lastH (r++[p])=some p.2
 | [],p=>rfl
 | [a],p=>rfl
 | a :: b :: r,p=>by
  have:=lastH_snoc (b :: r) p
  rw [List.cons_append] at this
  rw [List.cons_append,List.cons_append,lastH]
  ·exact this
  ·intro h; cases h
theorem snoc_cases:∀ r:Sp2,r=[]∨∃ q p,r=q++[p]
 | []=>.inl rfl
 | a :: r=>.inr (by
  rcases snoc_cases r with rfl | ⟨q,p,rfl⟩
  ·exact ⟨[],a,rfl⟩
  ·exact ⟨a :: q,p,rfl⟩)
def putS (r:Sp2) (x h:Int):Sp2:=if lastH r=some h then r else r++[(x,h)]
def spN (hs:List Int):Nat→Sp2
 | 0=>[]
 | i + 1=>putS (spN hs i) i (hs.getD i 0)
abbrev spans (hs:List Int):Sp2:=spN hs hs.length
def nxt (w:Int):Sp2→Int
 | []=>w
 | p :: _=>p.1
def hts (w:Int):Sp2→List Int
 | []=>[]
 | p :: r=>A3 (nxt w r - p.1).toNat p.2++hts w r
theorem nxt_snoc (w:Int):∀ (r:Sp2) (p:Int×Int),nxt w (r++[p])=nxt p.1 r
 | [],p=>rfl
 | a :: r,p=>rfl
theorem hts_snoc (w:Int):∀ (r:Sp2) (p:Int×Int),hts w (r++[p])=hts p.1 r++A3 (w - p.1).toNat p.2
 | [],p=>by simp [hts,nxt]
 | a :: r,p=>by
  rw [List.cons_append,hts,hts,hts_snoc w r p,nxt_snoc,List.append_assoc]
structure SpOk (hs:List Int) (i:Nat) (r:Sp2):Prop where
 ne:0 < i→∃ h q,r=(0,h) :: q
 bd:∀ p∈r,0≤p.1∧p.1 < i
 up:∀ j a b,r[j]?=some a→r[j + 1]?=some b→a.1 < b.1∧a.2≠b.2
 at_:∀ x,x < i→lastH (r.filter fun p=>decide (p.1≤(x:Int)))=some (hs.getD x 0)
 back:hts i r=hs.take i
 len:r.length≤i
theorem spOk (hs:List Int):∀ i,i≤hs.length→SpOk hs i (spN hs i)
 | 0,_=>⟨fun h=>absurd h (Nat.lt_irrefl 0),fun p hp=>by simp [spN] at hp,fun j a b h=>by simp [spN] at h,fun x h=>absurd h (Nat.not_lt_zero x),by simp [spN,hts],AD _⟩
 | i + 1,hi=>by
  have S:=spOk hs i (by lia)
  have hlt:i < hs.length:=by lia
  have hg:hs.getD i 0=hs[i]:=by simp [List.getD,hlt]
  have htk:hs.take (i + 1)=hs.take i++[hs.getD i 0]:=by rw [hg,List.take_succ_eq_append_getElem hlt]
  show SpOk hs (i + 1) (putS (spN hs i) i (hs.getD i 0))
  unfold putS
  generalize spN hs i=r at S
  generalize hh:hs.getD i 0=h at htk
  by_cases c:lastH r=some h
  ·rw [if_pos c]
   rcases snoc_cases r with rfl | ⟨q,p,rfl⟩
   ·cases c
   ·rw [lastH_snoc] at c
    have c':p.2=h:=Ax c
    have bp:=S.bd p (by simp)
    refine ⟨fun _=>S.ne (by lia),fun a ha=>?_,S.up,fun x hx=>?_,?_,by have:=S.len; lia⟩
    ·have:=S.bd a ha
     lia
    ·by_cases hxi:x < i
     ·exact S.at_ x hxi
     ·have e:x=i:=by lia
      subst e
      rw [List.filter_eq_self.mpr,lastH_snoc,hh,c']
      intro a ha
      have:=S.bd a ha
      exact decide_eq_true (by lia)
    ·rw [htk,← S.back,hts_snoc,hts_snoc,List.append_assoc,show (((i + 1:Nat):Int) - p.1).toNat=((i:Int) - p.1).toNat + 1 by lia,List.replicate_succ',c']
  ·rw [if_neg c]
   refine ⟨fun _=>?_,fun a ha=>?_,fun j a b ha hb=>?_,fun x hx=>?_,?_,?_⟩
   ·by_cases h0:0 < i
    ·obtain ⟨k,q,rfl⟩:=S.ne h0
     exact ⟨k,q++[((i:Int),h)],rfl⟩
    ·have e:i=0:=by lia
     subst e
     have:=S.len
     have e:r=[]:=List.length_eq_zero_iff.mp (by lia)
     subst e
     exact ⟨h,[],rfl⟩
   ·rcases AY.mp ha with z | z
    ·have:=S.bd a z
     lia
    ·have e:a=((i:Int),h):=by simpa using z
     subst e
     exact ⟨by show (0:Int)≤i; lia,by show (i:Int) < _; lia⟩
   ·have hb':j + 1 < (r++[((i:Int),h)]).length:=(AE.mp hb).1
    rw [AI] at hb'
    have hb2:j + 1 < r.length + 1:=hb'
    have ha':r[j]?=some a:=by rw [List.getElem?_append_left (by lia)] at ha; exact ha
    by_cases hj:j + 1 < r.length
    ·rw [List.getElem?_append_left hj] at hb
     exact S.up j a b ha' hb
    ·have e:j + 1=r.length:=by lia
     rw [e,List.getElem?_append_right (AD _),Nat.sub_self] at hb
     have hb3:((i:Int),h)=b:=by simpa using hb
     subst hb3
     have bd:=S.bd a (A5 ha')
     refine ⟨bd.2,fun z=>c ?_⟩
     rcases snoc_cases r with rfl | ⟨q,p,rfl⟩
     ·simp at ha'
     ·have:j=q.length:=by rw [AI] at e; simpa using e
      subst this
      rw [List.getElem?_append_right (AD _),Nat.sub_self] at ha'
      have:p=a:=by simpa using ha'
      subst this
      rw [lastH_snoc,z]
   ·by_cases hxi:x < i
    ·rw [List.filter_append,List.filter_cons,if_neg (by simpa using hxi),List.filter_nil,BB]
     exact S.at_ x hxi
    ·have e:x=i:=by lia
     subst e
     rw [List.filter_append,List.filter_cons,if_pos (by simp),List.filter_nil,lastH_snoc,hh]
   ·rw [htk,← S.back,hts_snoc,show (((i + 1:Nat):Int) - (i:Int)).toNat=1 by lia]
    rfl
   ·rw [AI]
    have:=S.len
    show r.length + 1≤i + 1
    lia
theorem spans_ok (hs:List Int):SpOk hs hs.length (spans hs):=spOk hs hs.length (AD _)
abbrev sRowS:Stmt:=top 7
abbrev sPut:Stmt:=top 8
abbrev sSpans:Stmt:=top 9
abbrev sPieces:Stmt:=top 10
abbrev sStir:Stmt:=top 20
abbrev sPWithin:Stmt:=top 11
abbrev sMerged:Stmt:=top 12
abbrev sCutRow:Stmt:=top 13
abbrev sCarvedS:Stmt:=top 15
abbrev sSpI:Stmt:=inClass (top 14) 0
abbrev sSpHas:Stmt:=inClass (top 14) 1
abbrev sSpUnd:Stmt:=inClass (top 14) 2
abbrev sSpAbove:Stmt:=inClass (top 14) 3
abbrev sSpRises:Stmt:=inClass (top 14) 4
abbrev sSpDown:Stmt:=inClass (top 14) 5
abbrev sBed:Stmt:=top 21
structure SpT (mg:Str→Option Value):Prop where
 T:LawT mg
 enum:mg "enumerate"=none
 zip:mg "zip"=none
 sum:mg "sum"=none
def pV (p:Int×Int):List V:=[.int p.1,.int p.2]
def pD (p:Int×Int):PyData:=.tuple [.int p.1,.int p.2]
def spD (r:Sp2):PyData:=.list (r.map pD)
def rowD (hs:List Int):PyData:=.list (hs.map .int)
def bedD (b:List (List Int)):PyData:=.list (b.map rowD)
def spsD (b:List Sp2):PyData:=.list (b.map spD)
section
variable {P:Program} {w:World} {K:PySem.W.Frag} {mg:Str→Option Value} {base:Heap} {f:Addr} {fd':FuncData}
theorem mv_last {H:Hp} {ts:List Addr} {q:Sp2} {p:Int×Int} (h:MvAt H ts ((q++[p]).map pV)):∃ us t,ts=us++[t]∧H t=some (.tup (pV p)):=by
 induction q generalizing ts with
 | nil =>
  cases ts with
  | nil=>exact h.elim
  | cons t r =>
   cases r with
   | nil=>exact ⟨[],t,rfl,h.1⟩
   | cons _ _=>exact h.2.elim
 | cons a q ih =>
  cases ts with
  | nil=>exact h.elim
  | cons t r =>
   obtain ⟨us,t',rfl,e⟩:=ih h.2
   exact ⟨t :: us,t',rfl,e⟩
inductive PspPut (vs:List V) (H:Hp) (Q:VK):Prop
 | mk (l ts r x h) (h0:vs=[.ref l,.int x,.int h]) (h1:H l=some (.lst (ts.map V.ref))) (h2:MvAt H ts (r.map pV)) (h3:ts.length≤2000) (h4:(lastH r=some h→Q .non H)) (h5:(lastH r≠some h→∀ t,H t=none→Q .non (upd (upd H t (.tup (pV (x,h)))) l (.lst ((ts++[t]).map V.ref))))):PspPut  vs H Q
def spPut:Sp:=fun vs H Q _=>PspPut  vs H Q
theorem scPut:FnScope ["row","start","height"] ["row","start","height"] (defScope sPut):=⟨rfl,rfl,rfl,by decide +kernel,rfl,by decide +kernel,by decide +kernel⟩
theorem ok_put (F:Fun K "put_span" "put_span" sPut f fd'):FnOk P w K mg base (CX1 P w) 1 f fd' ["row","start","height"] spPut:=by
 refine F.ok1 scPut (fun vs H Q E h=>?_) (fun cdv A outer s H vs Q E hr h=>?_)
 ·obtain ⟨l,ts,r,x,h,rfl,_⟩:=h
  rfl
 obtain ⟨l,ts,r,x,h,rfl,hl,mv,tl,q1,q2⟩:=h
 refine ⟨_,(pss_one (ps_if (PW.pt (pw_or (pt_not (pt_truth (pv 0) (fun _=>rfl))) (pw_or1 (pt_cmpR op_ne (pe_ix (ix_tupK (K:=K) rfl) (pe_ix (ix_listK (K:=K) rfl) (pv 0) (pe_un un_neg pe_int) (fun _ _=>rfl)) pe_int (fun _ _=>rfl)) (pv 2) (nomark _))))) (pss_one (ps_expr (pe_bm Aq At Au mt_append (pv 0) (pa_cons (pe_tup (pa_cons (pv 1) (pa_cons (pv 2) pa_nil))) pa_nil)))) pss_nil)),?_⟩
 have add:lastH r≠some h→tDrop (tBM K "list" rAppend (tVar 0) (tCons (tTup (tCons (tVar 1) (tCons (tVar 2) tNil))) tNil)) { nx:=fun _ H'=>Q .non H',rt:=Q } (start ["row","start","height"] [.ref l,.int x,.int h]) H:=fun c=>by
  refine ⟨_,rfl,.inl ⟨rfl,_,SqL.of hl⟩,_,rfl,_,rfl,le2,fun t ht=>?_⟩
  refine ⟨l,ts.map V.ref,.ref t,rfl,rfl,same_upd ht _ _ _ hl,by rw [AA]; exact line3 tl (AD _),?_⟩
  have:=q2 c t ht
  rw [AG] at this
  exact this
 refine ⟨_,rfl,!(ts.map V.ref).isEmpty,.inl ⟨_,SqL.of hl,rfl⟩,?_⟩
 refine ite2 (fun c=>?_) (fun c=>?_)
 ·have e:ts=[]:=by
   cases ts with
   | nil=>rfl
   | cons _ _=>cases c
  subst e
  refine iteT (add fun z=>?_)
  cases r with
  | nil=>cases z
  | cons _ _=>exact mv.elim
 ·rcases snoc_cases r with rfl | ⟨q,p,rfl⟩
  ·cases ts with
   | nil=>exact (c rfl).elim
   | cons _ _=>exact mv.elim
  ·obtain ⟨us,t,rfl,et⟩:=mv_last mv
   have ea:atI ((us++[t]).map V.ref) (-1)=some (.ref t):=by rw [AG]; exact atI_last _ _
   refine ⟨_,rfl,_,rfl,l,_,-1,.ref t,rfl,rfl,SqL.of hl,ea,t,_,1,.int p.2,rfl,rfl,SqT.of et,rfl,_,rfl,rfl,_,rfl,?_⟩
   rw [lastH_snoc] at q1 add
   refine ite2 (fun c2=>?_) (fun c2=>?_)
   ·refine add fun z=>?_
    have z':p.2=h:=Ax z
    rw [z'] at c2
    simp at c2
   ·refine q1 ?_
    have c3:V.int p.2=V.int h:=by
     simp at c2
     rw [c2]
    rw [V.int.inj c3]
def SpRow (H:Hp) (l:Addr) (r:Sp2):Prop:=∃ ts:List Addr,H l=some (.lst (ts.map V.ref))∧MvAt H ts (r.map pV)
theorem SpRow.upd {H:Hp} {l q:Addr} {r:Sp2} {o:HO} (h:SpRow H l r) (hl:l≠q) (hq:∀ m,H q≠some (.tup m)):SpRow (upd H q o) l r:=by
 obtain ⟨ts,a,b⟩:=h
 exact ⟨ts,by rw [upd_ne hl]; exact a,b.upd hq⟩
theorem SpRow.same {H H':Hp} {l:Addr} {r:Sp2} (h:SpRow H l r) (s:Same H H'):SpRow H' l r:=by
 obtain ⟨ts,a,b⟩:=h
 exact ⟨ts,s _ _ a,b.same s⟩
inductive PspRowS (K:PySem.W.Frag) (vs:List V) (H:Hp) (Q:VK):Prop
 | mk (a hs) (h0:vs=[.ref a]) (h1:SqL K H a (hs.map V.int)) (h2:hs.length≤1000) (h3:∀ l H',Same H H'→H l=none→SpRow H' l (spans hs)→Q (.ref l) H'):PspRowS K vs H Q
def spRowS (K:PySem.W.Frag):Sp:=fun vs H Q _=>PspRowS K vs H Q
theorem scRowS:FnScope ["heights","row","x","height"] ["heights"] (defScope sRowS):=⟨rfl,rfl,rfl,by decide +kernel,rfl,by decide +kernel,by decide +kernel⟩
theorem ok_rowS (T:SpT mg) (FP:Fn P w K mg base "put_span" 1 ["row","start","height"] spPut) (F:Fun K "spans_of_row" "spans_of_row" sRowS f fd'):FnOk P w K mg base (CX1 P w) 2 f fd' ["heights"] (spRowS K):=by
 have nd:=scRowS.nd
 refine F.ok1 scRowS (fun vs H Q E h=>?_) (fun cdv A outer s H vs Q E hr h=>?_)
 ·obtain ⟨a,hs,rfl,_⟩:=h
  rfl
 obtain ⟨a,hs,rfl,ha,hlen,q⟩:=h
 have hr1:Room 1 _:=hr.mono (by decide)
 refine ⟨_,(pss_cons (ps_set (i:=1) nd rfl (Or.inl rfl) (pe_lst pa_nil))
  (pss_cons (ps_for own1 rfl (pi_enum rfl T.enum (pa_cons (pv 0) pa_nil)) (pg_tup (n:=2) rfl (pgs_cons (pg_name (i:=2) nd rfl (Or.inl rfl)) (pgs_cons (pg_name (i:=3) nd rfl (Or.inl rfl)) pgs_nil))) (pss_one (ps_expr (pf_call FP hr1 rfl (pass1 (E:=E)) (pa_cons (pv 1) (pa_cons (pv 2) (pa_cons (pv 3) pa_nil)))))))
  (pss_one (ps_ret (pv 1))))),?_⟩
 refine ⟨Ai _,fun l hl=>?_⟩
 have u0:=same_upd hl (.lst [])
 refine ⟨_,rfl,a,hs.map V.int,rfl,u0.seq ha,?_⟩
 refine for_enum (xs:=hs.map V.int) (fun i σ H2=>∃ (x h:Option V) (ts:List Addr),σ=[some (.ref a),some (.ref l),x,h]∧Same H H2∧H2 l=some (.lst (ts.map V.ref))∧MvAt H2 ts ((spN hs i).map pV)∧i≤hs.length) ⟨none,none,[],rfl,u0,upd_same,AS,Ai _⟩ ?_ ?_ ?_
 ·rintro i σ H2 _ ⟨x,h,ts,rfl,s2,_,_,_⟩
  exact s2.seq ha
 ·rintro i x σ H2 hx ⟨x0,h0,ts,rfl,s2,hl2,mv,hi⟩ t ht
  have hi':i < hs.length:=by
   have:=(AE.mp hx).1
   rw [AA] at this
   exact this
  have ex:x=.int (hs.getD i 0):=by
   rw [AF,AB hi'] at hx
   cases hx
   simp [List.getD,hi']
  subst ex
  have u1:=same_upd ht (.tup [.int (i:Int),.int (hs.getD i 0)])
  refine ⟨t,_,rfl,SqT.of upd_same,rfl,_,_,rfl,_,_,rfl,rfl,?_⟩
  have tl:ts.length≤1000:=by
   have:=mv.len
   rw [this,AA]
   exact Ag (spOk hs i hi).len (by lia)
  refine ⟨_,rfl,_,rfl,_,rfl,l,ts,spN hs i,i,hs.getD i 0,rfl,u1 _ _ hl2,mv.same u1,(by lia),fun c=>?_,fun c t2 ht2=>?_⟩
  ·refine ⟨_,_,ts,rfl,s2.trans u1,u1 _ _ hl2,?_,hi'⟩
   rw [spN,putS,if_pos c]
   exact mv.same u1
  ·have u2:=same_upd ht2 (.tup (pV ((i:Int),hs.getD i 0)))
   have hl3:=u2 _ _ (u1 _ _ hl2)
   refine ⟨_,_,ts++[t2],rfl,same_in (s2.trans (u1.trans u2)) hl,upd_same,?_,hi'⟩
   rw [spN,putS,if_neg c,AG (f:=pV)]
   refine MvAt.upd (fun m e=>by rw [hl3] at e; cases e) ((mv.same (u1.trans u2)).snoc upd_same)
 ·rintro σ H2 ⟨x0,h0,ts,rfl,s2,hl2,mv,hi⟩
  rw [AA] at mv
  exact ⟨_,rfl,q l H2 s2 hl ⟨ts,hl2,mv⟩⟩
def SpAt (H:Hp):List Addr→List Sp2→Prop
 | [],[]=>True
 | l :: ls,r :: rs=>SpRow H l r∧SpAt H ls rs
 | _,_=>False
theorem SpAt.same {H H':Hp} (s:Same H H'):∀ {ls:List Addr} {rs:List Sp2},SpAt H ls rs→SpAt H' ls rs
 | [],[],_=>AS
 | _ :: _,_ :: _,h=>⟨h.1.same s,SpAt.same s h.2⟩
 | [],_ :: _,h=>h.elim
 | _ :: _,[],h=>h.elim
theorem SpAt.upd {H:Hp} {q:Addr} {o:HO} (hq:∀ m,H q≠some (.tup m)):∀ {ls:List Addr} {rs:List Sp2},q ∉ ls→SpAt H ls rs→SpAt (upd H q o) ls rs
 | [],[],_,_=>AS
 | l :: _,_ :: _,n,h=>⟨h.1.upd (fun z=>n (by simp [z])) hq,SpAt.upd hq (fun z=>n (AR _ z)) h.2⟩
 | [],_ :: _,_,h=>h.elim
 | _ :: _,[],_,h=>h.elim
theorem SpAt.snoc {H:Hp} {l:Addr} {r:Sp2} (h:SpRow H l r):∀ {ls:List Addr} {rs:List Sp2},SpAt H ls rs→SpAt H (ls++[l]) (rs++[r])
 | [],[],_=>⟨h,AS⟩
 | _ :: _,_ :: _,k=>⟨k.1,SpAt.snoc h k.2⟩
 | [],_ :: _,k=>k.elim
 | _ :: _,[],k=>k.elim
theorem SpAt.mem {H:Hp}:∀ {ls:List Addr} {rs:List Sp2},SpAt H ls rs→∀ l∈ls,∃ xs,H l=some (.lst xs)
 | l :: ls,r :: rs,h,x,hx=>by
  rcases AW.mp hx with rfl | hx
  ·obtain ⟨ts,e,_⟩:=h.1
   exact ⟨_,e⟩
  ·exact SpAt.mem h.2 x hx
 | [],[],_,x,hx=>by cases hx
theorem SpAt.len {H:Hp}:∀ {ls:List Addr} {rs:List Sp2},SpAt H ls rs→ls.length=rs.length
 | [],[],_=>rfl
 | _ :: _,_ :: _,h=>by rw [AO,AO,SpAt.len h.2]
 | [],_ :: _,h=>h.elim
 | _ :: _,[],h=>h.elim
theorem mv_rp {H:Hp}:∀ {ts:List Addr} {r:Sp2},MvAt H ts (r.map pV)→Rps K H (ts.map V.ref) (r.map pD)
 | [],[],_=>.nil
 | t :: ts,p :: r,⟨a,b⟩=>.cons (.tup (SqT.of a) (.cons (.int _) (.cons (.int _) .nil))) (mv_rp b)
 | [],_ :: _,h=>h.elim
 | _ :: _,[],h=>h.elim
theorem SpRow.rp {H:Hp} {l:Addr} {r:Sp2} (h:SpRow H l r):Rp K H (.ref l) (spD r):=by
 obtain ⟨ts,a,b⟩:=h
 exact .lst (SqL.of a) (mv_rp b)
theorem SpAt.rp {H:Hp}:∀ {ls:List Addr} {rs:List Sp2},SpAt H ls rs→Rps K H (ls.map V.ref) (rs.map spD)
 | [],[],_=>.nil
 | _ :: _,_ :: _,h=>.cons h.1.rp (SpAt.rp h.2)
 | [],_ :: _,h=>h.elim
 | _ :: _,[],h=>h.elim
theorem bed_row {H:Hp} {xs:List V} {b:List (List Int)} (h:Rps K H xs (b.map rowD)) {i:Nat} (hi:i < b.length):∃ a,xs[i]?=some (.ref a)∧SqL K H a ((b[i]).map V.int):=by
 obtain ⟨x,e,r⟩:=h.get (i:=i) (x:=rowD b[i]) (by rw [AF,AB hi]; rfl)
 obtain ⟨a,ys,rfl,q,rs⟩:=r.lstO
 refine ⟨a,e,?_⟩
 have:ys=(b[i]).map V.int:=by
  generalize b[i]=hs at rs
  clear q r
  induction hs generalizing ys with
  | nil=>exact rs.nilO
  | cons n hs ih =>
   obtain ⟨x,r,rfl,r1,r2⟩:=rs.consO
   rw [r1.intO,ih _ r2]
   rfl
 rw [← this]
 exact q
inductive PspSpans (K:PySem.W.Frag) (vs:List V) (H:Hp) (Q:VK):Prop
 | mk (v b) (h0:vs=[v]) (h1:Rp K H v (bedD b)) (h2:b.length≤1000) (h3:(∀ hs∈b,hs.length≤1000)) (h4:∀ L rs H',Same H H'→H L=none→H' L=some (.lst (rs.map V.ref))→rs.Nodup→(∀ r∈rs,H r=none∧r≠L)→SpAt H' rs (b.map spans)→Q (.ref L) H'):PspSpans K vs H Q
def spSpans (K:PySem.W.Frag):Sp:=fun vs H Q _=>PspSpans K vs H Q
theorem scSpans:FnScope ["bed"] ["bed"] (defScope sSpans):=⟨rfl,rfl,rfl,by decide +kernel,rfl,by decide +kernel,by decide +kernel⟩
theorem nodup_snoc {ls:List Addr} {l:Addr} (h:ls.Nodup) (n:l ∉ ls):(ls++[l]).Nodup:=by
 rw [List.nodup_append]
 refine ⟨h,by simp,fun a ha b hb=>?_⟩
 have:b=l:=by simpa using hb
 subst this
 exact fun z=>n (z ▸ ha)
theorem ok_spans (FR:Fn P w K mg base "spans_of_row" 2 ["heights"] (spRowS K)) (F:Fun K "spans_of" "spans_of" sSpans f fd'):FnOk P w K mg base (CX1 P w) 3 f fd' ["bed"] (spSpans K):=by
 have nd:=scSpans.nd
 refine F.ok1 scSpans (fun vs H Q E h=>?_) (fun cdv A outer s H vs Q E hr h=>?_)
 ·obtain ⟨v,b,rfl,_⟩:=h
  rfl
 obtain ⟨v,b,rfl,rb,bl,hbl,q⟩:=h
 have hr1:Room 2 _:=hr.mono (by decide)
 obtain ⟨B,xs,rfl,hB,rx⟩:=rb.lstO
 have xl:xs.length=b.length:=by rw [rx.length,AA]
 refine ⟨_,(pss_one (ps_ret (pe_lc (own:=["heights"]) (capn:=[]) (capI:=[]) rfl (blk0 rfl (by decide +kernel)) (pi_listK (K:=K) rfl (pv 0)) (fun _ _ _ _ _ _=>pg_name (i:=0) (nd1 "heights") rfl (Or.inl rfl)) (fun _ _ _ _ _ _=>pifs_nil) (fun _ _ _ _ _ _=>(pf_call FR hr1 rfl passN (pa_cons (pv 0) pa_nil)))))),?_⟩
 refine ⟨_,rfl,B,rfl,⟨xs,hB⟩,fun D hD=>?_⟩
 refine ⟨Wd xs.length (fun i σ acc H2=>∃ (z:Option V) (rs:List Addr),σ=[z]∧acc=rs.map V.ref∧rs.length=i∧rs.Nodup∧(∀ r∈rs,H r=none∧r≠D)∧SpAt H2 rs ((b.take i).map spans)∧Same H H2∧H2 D=some (.lst acc)),wd_0 ⟨none,[],rfl,rfl,rfl,List.nodup_nil,(fun _ h=>by cases h),AS,same_upd hD _,upd_same⟩,?_⟩
 rintro i m σ acc H2 ⟨rfl,hi0,z,rs,rfl,rfl,rl,rn,rf,sp,s2,hD2⟩
 refine lc_ask (K:=K) (xs:=xs) (s2.seq hB) hi0 (fun x hx hi=>?_) (fun hend=>?_)
 ·have hi':i < b.length:=by lia
  obtain ⟨a,ea,qa⟩:=bed_row rx hi'
  rw [hx] at ea
  cases ea
  refine ⟨_,rfl,a,b[i],rfl,s2.seq qa,hbl _ (Ak hi'),fun l H3 s3 hl sl=>?_⟩
  have hD3:=s3 _ _ hD2
  have lD:l≠D:=fun z=>by rw [z,hD2] at hl; cases hl
  have lrs:l ∉ rs:=fun z=>by
   obtain ⟨ys,e⟩:=sp.mem l z
   rw [e] at hl
   cases hl
  have nt:∀ m,H3 D≠some (.tup m):=fun m e=>by rw [hD3] at e; cases e
  refine ⟨hD3,?_,wd_next hi ⟨_,rs++[l],rfl,by rw [AG]; rfl,by rw [AI,rl]; rfl,nodup_snoc rn lrs,fun r hr=>?_,?_,same_in (s2.trans s3) hD,upd_same⟩⟩
  ·rw [AA,rl]
   exact line3 (show i≤1000 by lia) (by decide)
  ·rcases AY.mp hr with z | z
   ·exact rf r z
   ·have e:r=l:=by simpa using z
    subst e
    exact ⟨s2.free hl,lD⟩
  ·rw [List.take_succ_eq_append_getElem hi',AG]
   refine SpAt.upd nt (fun z=>?_) (SpAt.snoc sl (sp.same s3))
   rcases AY.mp z with z | z
   ·exact (rf D z).2 rfl
   ·have e:D=l:=by simpa using z
    exact lD e.symm
 ·subst hend
  rw [xl,List.take_length] at sp
  exact q D rs H2 s2 hD hD2 rn rf sp
end
end Car
namespace L2
open PySem PySem.Spec PyProof.Rows
theorem pg_tupK {X:Cx} {K:PySem.W.Frag} {pos:Pos} {es:List Expr} {k:Nat} {t:TGs} {n:Nat} (hK:X.K=K) (hc:X.calm=true) (h:PGs X es t)
  (hn:(assignEach es X.env).length=n:=by rfl) (hst:(assignEach es X.env).findIdx? (·.1)=none:=by rfl):PG X (.Tuple es k pos) (gTup K n t):=by
 subst hK
 exact pg_tup hc h hn hst
end L2
namespace Car
open PySem L2
theorem cut1 (xs:List V):cutV xs (some 1) none=xs.drop 1:=by
 unfold cutV
 cases xs with
 | nil=>rfl
 | cons x r=>simp [HT.sIx]
def pcs (w:Int):Sp2→List (List V)
 | []=>[]
 | p :: r=>[.int p.1,.int (nxt w r),.int p.2] :: pcs w r
theorem pcs_len (w:Int):∀ r:Sp2,(pcs w r).length=r.length
 | []=>rfl
 | p :: r=>by rw [pcs,AO,AO,pcs_len w r]
theorem pcs_get (w:Int):∀ (r:Sp2) (j:Nat) (hj:j < r.length),(pcs w r)[j]?=some [.int (r[j]).1,.int (nxt w (r.drop (j + 1))),.int (r[j]).2]
 | [],j,hj=>absurd hj (Nat.not_lt_zero _)
 | p :: r,0,_=>rfl
 | p :: r,j + 1,hj=>by
  have:=pcs_get w r j (Nat.lt_of_succ_lt_succ hj)
  rw [pcs,List.getElem?_cons_succ,this]
  rfl
theorem pcs_take (w:Int) (r:Sp2) (j:Nat) (hj:j < r.length):(pcs w r).take (j + 1)=(pcs w r).take j++[[.int (r[j]).1,.int (nxt w (r.drop (j + 1))),.int (r[j]).2]]:=by
 have h:=pcs_get w r j hj
 have hl:j < (pcs w r).length:=by rw [pcs_len]; exact hj
 rw [List.take_succ_eq_append_getElem hl]
 rw [AB hl] at h
 rw [Ax h]
def endsI (w:Int) (r:Sp2):List Int:=(r.drop 1).map (·.1)++[w]
theorem ends_get (w:Int):∀ (r:Sp2) (j:Nat),j < r.length→(endsI w r)[j]?=some (nxt w (r.drop (j + 1)))
 | [],j,hj=>absurd hj (Nat.not_lt_zero _)
 | [p],0,_=>rfl
 | [p],j + 1,hj=>absurd hj (by simp)
 | p :: q :: r,0,_=>rfl
 | p :: q :: r,j + 1,hj=>by
  have:=ends_get w (q :: r) j (Nat.lt_of_succ_lt_succ hj)
  show (q.1 :: (r.map (·.1)++[w]))[j + 1]?=_
  rw [List.getElem?_cons_succ]
  exact this
theorem ends_len (w:Int) (r:Sp2) (h:r≠[]):(endsI w r).length=r.length:=by
 cases r with
 | nil=>exact (h rfl).elim
 | cons p r=>simp [endsI]
section
variable {P:Program} {w:World} {K:PySem.W.Frag} {mg:Str→Option Value} {base:Heap} {f:Addr} {fd':FuncData}
theorem sp_row {H:Hp} {xs:List V} {r:Sp2} (h:Rps K H xs (r.map pD)) {i:Nat} (hi:i < r.length):∃ t,xs[i]?=some (.ref t)∧SqT K H t (pV (r[i])):=by
 obtain ⟨x,e,rr⟩:=h.get (i:=i) (x:=pD r[i]) (by rw [AF,AB hi]; rfl)
 obtain ⟨a,ys,rfl,q,rs⟩:=rr.tupO
 obtain ⟨x1,y1,rfl,r1,rs⟩:=rs.consO
 obtain ⟨x2,y2,rfl,r2,rs⟩:=rs.consO
 rw [rs.nilO,r1.intO,r2.intO] at q
 exact ⟨a,e,q⟩
inductive PspPieces (K:PySem.W.Frag) (vs:List V) (H:Hp) (Q:VK):Prop
 | mk (v:V) (r:Sp2) (n:Int) (h0:vs=[v,.int n]) (h1:Rp K H v (spD r)) (h2:r≠[]) (h3:r.length≤1000) (h4:∀ l ps H',Same H H'→H l=none→H' l=some (.lst (ps.map V.ref))→MvAt H' ps (pcs n r)→Q (.ref l) H'):PspPieces K vs H Q
def spPieces (K:PySem.W.Frag):Sp:=fun vs H Q _=>PspPieces K vs H Q
theorem scPieces:FnScope ["row","width","ends"] ["row","width"] (defScope sPieces):=⟨rfl,rfl,rfl,by decide +kernel,rfl,by decide +kernel,by decide +kernel⟩
theorem nd2s:(["span","behind"]:List Str).Nodup:=by decide +kernel
theorem ok_pieces (T:SpT mg) (F:Fun K "pieces_of" "pieces_of" sPieces f fd'):FnOk P w K mg base (CX1 P w) 1 f fd' ["row","width"] (spPieces K):=by
 have nd:=scPieces.nd
 refine F.ok1 scPieces (fun vs H Q E h=>?_) (fun cdv A outer s H vs Q E hr h=>?_)
 ·obtain ⟨v,r,n,rfl,_⟩:=h
  rfl
 obtain ⟨v,r,n,rfl,rr,rne,rl,q⟩:=h
 obtain ⟨a,xs,rfl,ha,rx⟩:=rr.lstO
 have xl:xs.length=r.length:=by rw [rx.length,AA]
 refine ⟨_,(pss_cons (ps_set (i:=2) nd rfl (Or.inl rfl) (pe_op op_cat (pe_lc (own:=["span"]) (capn:=[]) (capI:=[]) rfl (blk0 rfl (by decide +kernel)) (pi_listK (K:=K) rfl (pe_slice (sl_listK (K:=K) rfl) (pv 0) (po_some pe_int) po_none)) (fun _ _ _ _ _ _=>pg_name (i:=0) (nd1 "span") rfl (Or.inl rfl)) (fun _ _ _ _ _ _=>pifs_nil) (fun _ _ _ _ _ _=>(pe_ix (ix_tupK (K:=K) rfl) (pv 0) pe_int (fun _ _=>rfl)))) (pe_lst (pa_cons (pv 1) pa_nil))))
  (pss_one (ps_ret (pe_lc (own:=["span","behind"]) (capn:=[]) (capI:=[]) rfl (blk0 rfl (by decide +kernel)) (pi_zip rfl T.zip (pa_cons (pv 0) (pa_cons (pv 2) pa_nil))) (fun _ _ _ _ _ _=>pg_tupK (K:=K) (n:=2) rfl rfl (pgs_cons (pg_name (i:=0) nd2s rfl (Or.inl rfl)) (pgs_cons (pg_name (i:=1) nd2s rfl (Or.inl rfl)) pgs_nil))) (fun _ _ _ _ _ _=>pifs_nil) (fun _ _ _ _ _ _=>(pe_tup (pa_cons (pe_ix (ix_tupK (K:=K) rfl) (pv 0) pe_int (fun _ _=>rfl)) (pa_cons (pv 1) (pa_cons (pe_ix (ix_tupK (K:=K) rfl) (pv 0) pe_int (fun _ _=>rfl)) pa_nil))))))))),?_⟩
 refine ⟨_,rfl,_,rfl,a,xs,rfl,ha,fun sl hsl=>?_⟩
 rw [cut1]
 have u1:=same_upd hsl (.lst (xs.drop 1))
 refine ⟨sl,rfl,⟨_,SqL.of upd_same⟩,fun D hD=>?_⟩
 have dl:(xs.drop 1).length=r.length - 1:=by rw [List.length_drop,xl]
 refine ⟨Wd (xs.drop 1).length (fun i σ acc H2=>∃ z:Option V,σ=[z]∧acc=(((r.drop 1).map (·.1)).take i).map V.int∧acc.length=i∧Same (upd H sl (.lst (xs.drop 1))) H2∧H2 D=some (.lst acc)),wd_0 ⟨none,rfl,rfl,rfl,same_upd hD _,upd_same⟩,?_⟩
 rintro i m σ acc H2 ⟨rfl,hi0,z,rfl,ea,al,s2,hD2⟩
 refine lc_ask (K:=K) (xs:=xs.drop 1) (SqL.of (s2 _ _ upd_same)) hi0 (fun x hx hi=>?_) (fun hend=>?_)
 ·have hi':i + 1 < r.length:=by lia
  obtain ⟨t,et,qt⟩:=sp_row rx hi'
  rw [List.getElem?_drop,Nat.add_comm 1 i,et] at hx
  cases hx
  refine ⟨_,rfl,t,_,0,.int (r[i + 1]).1,rfl,rfl,(u1.trans s2).sqT qt,rfl,hD2,?_,wd_next hi ⟨_,rfl,?_,by rw [AI,al]; rfl,same_in s2 hD,upd_same⟩⟩
  ·rw [al]
   exact line3 (show i≤1000 by lia) (by decide)
  ·have hl:i < ((r.drop 1).map (·.1)).length:=by rw [AA,List.length_drop]; lia
   rw [List.take_succ_eq_append_getElem hl,AG,← ea]
   simp [Nat.add_comm]
 ·have hl:((r.drop 1).map (·.1)).length=i:=by rw [AA,List.length_drop,hend,dl]
  rw [AT (by lia)] at ea
  subst ea
  refine ⟨_,rfl,le1,fun e1 he1=>?_⟩
  have u3:=same_upd he1 (.lst [V.int n])
  refine ⟨D,e1,_,_,rfl,rfl,u3 _ _ hD2,upd_same,?_,fun e2 he2=>?_⟩
  ·rw [al]
   show i + 1≤AL
   exact line3 (show i≤1000 by lia) (by decide)
  have u4:=same_upd he2 (.lst ((((r.drop 1).map (·.1)).map V.int)++[V.int n]))
  have hE:upd (upd H2 e1 (.lst [V.int n])) e2 (.lst ((((r.drop 1).map (·.1)).map V.int)++[V.int n])) e2=some (.lst ((endsI n r).map V.int)):=by
   rw [upd_same,endsI,AG]
   rfl
  have s3:=u1.trans (s2.trans (u3.trans u4))
  generalize upd (upd H2 e1 (.lst [V.int n])) e2 (.lst ((((r.drop 1).map (·.1)).map V.int)++[V.int n]))=H3 at hE s3
  refine ⟨_,rfl,_,rfl,a,e2,xs,(endsI n r).map V.int,rfl,s3.seq ha,SqL.of hE,fun D2 hD2'=>?_⟩
  have el:((endsI n r).map V.int).length=xs.length:=by rw [AA,ends_len n r rne,xl]
  refine ⟨Wd xs.length (fun i σ acc H2=>∃ (z y:Option V) (ps:List Addr),σ=[z,y]∧acc=ps.map V.ref∧ps.length=i∧MvAt H2 ps ((pcs n r).take i)∧Same H3 H2∧H2 D2=some (.lst acc)),wd_0 ⟨none,none,[],rfl,rfl,rfl,AS,same_upd hD2' _,upd_same⟩,?_⟩
  rintro i m σ acc H4 ⟨rfl,hi0,z,y,ps,rfl,rfl,pl,mv,s4,hD4⟩
  refine zp_ask (K:=K) ((s3.trans s4).seq ha) (SqL.of (s4 _ _ hE)) el hi0 (fun x y hx hy hi tp htp=>?_) (fun hend=>?_)
  ·have hi':i < r.length:=by lia
   obtain ⟨t,et,qt⟩:=sp_row rx hi'
   rw [et] at hx
   cases hx
   rw [AF,ends_get n r i hi'] at hy
   cases hy
   have u5:=same_upd htp (.tup [V.ref t,.int (nxt n (r.drop (i + 1)))])
   refine ⟨tp,_,rfl,SqT.of upd_same,rfl,_,_,rfl,_,_,rfl,rfl,?_⟩
   refine ⟨_,rfl,t,_,0,.int (r[i]).1,rfl,rfl,(s3.trans (s4.trans u5)).sqT qt,rfl,_,rfl,_,rfl,t,_,1,.int (r[i]).2,rfl,rfl,(s3.trans (s4.trans u5)).sqT qt,rfl,le3,fun p hp=>?_⟩
   have u6:=same_upd hp (.tup [V.int (r[i]).1,.int (nxt n (r.drop (i + 1))),.int (r[i]).2])
   have hD6:=u6 _ _ (u5 _ _ hD4)
   refine ⟨hD6,?_,wd_next hi ⟨_,_,ps++[p],rfl,by rw [AG]; rfl,by rw [AI,pl]; rfl,?_,same_in (s4.trans (u5.trans u6)) hD2',upd_same⟩⟩
   ·rw [AA,pl]
    exact line3 (show i≤1000 by lia) (by decide)
   ·rw [pcs_take n r i hi']
    exact MvAt.upd (fun m e=>by rw [hD6] at e; cases e) ((mv.same (u5.trans u6)).snoc upd_same)
  ·subst hend
   rw [AT (by rw [pcs_len,xl]; exact AD _)] at mv
   exact q D2 ps H4 (s3.trans s4) (s3.free hD2') hD4 mv
end
end Car
namespace Car
abbrev Pc:=Int×Int×Int
def pcI (w:Int):Sp2→List Pc
 | []=>[]
 | p :: r=>(p.1,nxt w r,p.2) :: pcI w r
def Ch (hs:List Int):Int→Int→List Pc→Prop
 | lo,hi,[]=>lo=hi
 | lo,hi,q :: r=>q.1=lo∧lo < q.2.1∧(∀ x:Nat,lo≤(x:Int)→(x:Int) < q.2.1→hs.getD x 0=q.2.2)∧Ch hs q.2.1 hi r
theorem Ch.le {hs:List Int}:∀ {ps:List Pc} {lo hi:Int},Ch hs lo hi ps→lo≤hi
 | [],lo,hi,h=>by
  have h':lo=hi:=h
  lia
 | q :: r,lo,hi,h=>by
  have:=Ch.le h.2.2.2
  have:=h.2.1
  lia
theorem Ch.snoc {hs:List Int}:∀ {ps:List Pc} {lo hi b v:Int},Ch hs lo hi ps→hi < b→(∀ x:Nat,hi≤(x:Int)→(x:Int) < b→hs.getD x 0=v)→Ch hs lo b (ps++[(hi,b,v)])
 | [],lo,hi,b,v,h,l,e=>by
  have h':lo=hi:=h
  subst h'
  exact ⟨rfl,l,e,rfl⟩
 | q :: r,lo,hi,b,v,h,l,e=>⟨h.1,h.2.1,h.2.2.1,Ch.snoc h.2.2.2 l e⟩
theorem nxt_app (w:Int):∀ (r:Sp2) (p:Int×Int),nxt w (r++[p])=nxt p.1 r
 | [],p=>rfl
 | a :: r,p=>rfl
theorem pcI_snoc (w:Int):∀ (r:Sp2) (p:Int×Int),pcI w (r++[p])=pcI p.1 r++[(p.1,w,p.2)]
 | [],p=>rfl
 | a :: r,p=>by
  rw [List.cons_append,pcI,pcI,pcI_snoc w r p,nxt_app,List.cons_append]
theorem Ch.last {hs:List Int}:∀ {ps:List Pc} {lo b b' v a:Int},Ch hs lo b (ps++[(a,b,v)])→b≤b'→(∀ x:Nat,b≤(x:Int)→(x:Int) < b'→hs.getD x 0=v)→Ch hs lo b' (ps++[(a,b',v)])
 | [],lo,b,b',v,a,h,l,e=>by
  obtain ⟨h1,h2,h3,_⟩:a=lo∧lo < b∧(∀ x:Nat,lo≤(x:Int)→(x:Int) < b→hs.getD x 0=v)∧b=b:=h
  refine ⟨h1,show lo < b' by lia,fun x x1 x2=>?_,rfl⟩
  by_cases c:(x:Int) < b
  ·exact h3 x x1 c
  ·exact e x (by lia) x2
 | q :: r,lo,b,b',v,a,h,l,e=>⟨h.1,h.2.1,h.2.2.1,Ch.last h.2.2.2 l e⟩
theorem ch_spans (hs:List Int):∀ i:Nat,Ch hs 0 i (pcI i (spN hs i))
 | 0=>rfl
 | i + 1=>by
  have C:=ch_spans hs i
  show Ch hs 0 ((i + 1:Nat):Int) (pcI ((i + 1:Nat):Int) (putS (spN hs i) i (hs.getD i 0)))
  have one:∀ x:Nat,(i:Int)≤x→(x:Int) < ((i + 1:Nat):Int)→hs.getD x 0=hs.getD i 0:=fun x a b=>by
   have:x=i:=by lia
   rw [this]
  unfold putS
  by_cases c:lastH (spN hs i)=some (hs.getD i 0)
  ·rw [if_pos c]
   generalize spN hs i=r at C c
   rcases List.eq_nil_or_concat r with rfl | ⟨q,p,rfl⟩
   ·cases c
   ·rw [List.concat_eq_append] at C c ⊢
    rw [lastH_snoc] at c
    have c':p.2=hs.getD i 0:=Ax c
    rw [pcI_snoc] at C ⊢
    exact Ch.last C (by lia) fun x a b=>by rw [c']; exact one x a b
  ·rw [if_neg c,pcI_snoc]
   exact Ch.snoc C (by lia) one
def crop (a b:Int) (q:Pc):Pc:=(max q.1 a,min q.2.1 b,q.2.2)
def pIn (a b:Int) (ps:List Pc):List Pc:=(ps.map (crop a b)).filter fun q=>decide (q.1 < q.2.1)
theorem ch_in {hs:List Int} {a b:Int}:∀ {ps:List Pc} {lo hi:Int},Ch hs lo hi ps→Ch hs (max lo a) (max (max lo a) (min hi b)) (pIn a b ps)
 | [],lo,hi,h=>by
  have h':lo=hi:=h
  show max lo a=max (max lo a) (min hi b)
  lia
 | q :: r,lo,hi,h=>by
  obtain ⟨x,y,v⟩:=q
  obtain ⟨h1,h2,h3,h4⟩:x=lo∧lo < y∧(∀ z:Nat,lo≤(z:Int)→(z:Int) < y→hs.getD z 0=v)∧Ch hs y hi r:=h
  subst h1
  have I:=ch_in (a:=a) (b:=b) h4
  have le:=h4.le
  unfold pIn at I ⊢
  rw [Az]
  show Ch hs (max x a) (max (max x a) (min hi b)) (((max x a,min y b,v) :: r.map (crop a b)).filter _)
  by_cases c:max x a < min y b
  ·rw [List.filter_cons_of_pos (p:=fun q:Pc=>decide (q.1 < q.2.1)) (show decide (max x a < min y b)=true from decide_eq_true c)]
   refine ⟨rfl,c,fun z z1 z2=>h3 z (by lia) (by have:(z:Int) < min y b:=z2; lia),?_⟩
   show Ch hs (min y b) _ _
   by_cases d:b≤y
   ·-- nothing behind
    have e1:max (max y a) (min hi b)=max y a:=by lia
    rw [e1] at I
    have e2:(r.map (crop a b)).filter (fun q=>decide (q.1 < q.2.1))=[]:=by
     cases hn:(r.map (crop a b)).filter (fun q=>decide (q.1 < q.2.1)) with
     | nil=>rfl
     | cons u us =>
      rw [hn] at I
      have i1:=I.2.1
      have i2:=I.2.2.2.le
      lia
    rw [e2]
    show min y b=max (max x a) (min hi b)
    lia
   ·rw [show min y b=max y a by lia,show max (max x a) (min hi b)=max (max y a) (min hi b) by lia]
    exact I
  ·rw [List.filter_cons_of_neg (p:=fun q:Pc=>decide (q.1 < q.2.1)) (show ¬ decide (max x a < min y b)=true by rw [decide_eq_true_iff]; exact c)]
   by_cases d:y≤a
   ·rw [show max x a=max y a by lia]
    exact I
   ·-- b <= max x a
    have e1:max (max y a) (min hi b)=max y a:=by lia
    rw [e1] at I
    have e2:(r.map (crop a b)).filter (fun q=>decide (q.1 < q.2.1))=[]:=by
     cases hn:(r.map (crop a b)).filter (fun q=>decide (q.1 < q.2.1)) with
     | nil=>rfl
     | cons u us =>
      rw [hn] at I
      have i1:=I.2.1
      have i2:=I.2.2.2.le
      lia
    rw [e2]
    show max x a=max (max x a) (min hi b)
    lia
def puts (f:Int→Int) (t:Sp2) (ps:List Pc):Sp2:=ps.foldl (fun t q=>putS t q.1 (f q.2.2)) t
theorem spN_same {ks:List Int} {i:Nat} {v:Int}:∀ k:Nat,0 < k→(∀ x,i≤x→x < i + k→ks.getD x 0=v)→spN ks (i + k)=putS (spN ks i) i v∧lastH (spN ks (i + k))=some v
 | 0,h,_=>absurd h (Nat.lt_irrefl 0)
 | 1,_,e=>by
  have e0:=e i (AD _) (by lia)
  have e1:spN ks (i + 1)=putS (spN ks i) i v:=by
   show putS (spN ks i) i (ks.getD i 0)=_
   rw [e0]
  refine ⟨e1,?_⟩
  rw [e1]
  unfold putS
  split
  ·assumption
  ·rw [lastH_snoc]
 | k + 2,_,e=>by
  obtain ⟨a,b⟩:=spN_same (k + 1) (by lia) fun x h1 h2=>e x h1 (by lia)
  have e0:=e (i + (k + 1)) (by lia) (by lia)
  have e1:spN ks (i + (k + 2))=spN ks (i + (k + 1)):=by
   show putS (spN ks (i + (k + 1))) _ (ks.getD (i + (k + 1)) 0)=_
   unfold putS
   rw [e0,if_pos b]
  rw [e1]
  exact ⟨a,b⟩
theorem puts_ch {hs ks:List Int} {f:Int→Int}:∀ {ps:List Pc} {lo hi:Nat},Ch hs lo hi ps→(∀ x,lo≤x→x < hi→ks.getD x 0=f (hs.getD x 0))→puts f (spN ks lo) ps=spN ks hi
 | [],lo,hi,h,_=>by
  have h':(lo:Int)=(hi:Int):=h
  rw [show lo=hi by lia]
  rfl
 | q :: r,lo,hi,h,e=>by
  obtain ⟨x,y,v⟩:=q
  obtain ⟨h1,h2,h3,h4⟩:x=(lo:Int)∧(lo:Int) < y∧(∀ z:Nat,(lo:Int)≤(z:Int)→(z:Int) < y→hs.getD z 0=v)∧Ch hs y hi r:=h
  have le:=h4.le
  obtain ⟨m,rfl⟩:∃ m:Nat,y=(m:Int):=⟨y.toNat,by lia⟩
  have lm:lo < m:=by lia
  subst h1
  obtain ⟨a,_⟩:=spN_same (ks:=ks) (i:=lo) (v:=f v) (m - lo) (by lia) fun z z1 z2=>by
   rw [e z z1 (by lia),h3 z (by lia) (by lia)]
  rw [show lo + (m - lo)=m by lia] at a
  show puts f (putS (spN ks lo) lo (f v)) r=_
  rw [← a]
  exact puts_ch h4 fun z z1 z2=>e z (by lia) z2
def cutL (hs:List Int) (a b h:Int):List Int:=(List.range hs.length).map fun (x:Nat)=>if a≤(x:Int)∧(x:Int) < b then min (hs.getD x 0) h else hs.getD x 0
theorem cutL_len (hs:List Int) (a b h:Int):(cutL hs a b h).length=hs.length:=by
 unfold cutL
 rw [AA,List.length_range]
theorem cutL_get {hs:List Int} {a b h:Int} {x:Nat} (hx:x < hs.length):(cutL hs a b h).getD x 0=if a≤(x:Int)∧(x:Int) < b then min (hs.getD x 0) h else hs.getD x 0:=by
 unfold cutL
 rw [Ar,AF,List.getElem?_range hx]
 rfl
def cutS (w:Int) (r:Sp2) (a b h:Int):Sp2:=puts id (puts (fun v=>min v h) (puts id [] (pIn 0 a (pcI w r))) (pIn a b (pcI w r))) (pIn b w (pcI w r))
theorem cut_spans {hs:List Int} {a b h:Int} (a0:0≤a) (ab:a≤b) (bw:b≤hs.length):cutS hs.length (spans hs) a b h=spans (cutL hs a b h):=by
 obtain ⟨i,rfl⟩:∃ i:Nat,a=(i:Int):=⟨a.toNat,by lia⟩
 obtain ⟨j,rfl⟩:∃ j:Nat,b=(j:Int):=⟨b.toNat,by lia⟩
 have C:=ch_spans hs hs.length
 have C1:=ch_in (a:=0) (b:=(i:Int)) C
 have C2:=ch_in (a:=(i:Int)) (b:=(j:Int)) C
 have C3:=ch_in (a:=(j:Int)) (b:=((hs.length:Nat):Int)) C
 rw [show max (0:Int) 0=((0:Nat):Int) by lia,show max ((0:Nat):Int) (min (hs.length:Int) (i:Int))=((i:Nat):Int) by lia] at C1
 rw [show max (0:Int) (i:Int)=((i:Nat):Int) by lia,show max (i:Int) (min (hs.length:Int) (j:Int))=((j:Nat):Int) by lia] at C2
 rw [show max (0:Int) (j:Int)=((j:Nat):Int) by lia,show max (j:Int) (min (hs.length:Int) ((hs.length:Nat):Int))=((hs.length:Nat):Int) by lia] at C3
 have g:∀ x,x < hs.length→(cutL hs i j h).getD x 0=if (i:Int)≤(x:Int)∧(x:Int) < (j:Int) then min (hs.getD x 0) h else hs.getD x 0:=fun x hx=>cutL_get hx
 unfold cutS
 have e1:=puts_ch (ks:=cutL hs i j h) (f:=id) C1 fun x _ x2=>by rw [g x (by lia),if_neg (by lia)]; rfl
 have e2:=puts_ch (ks:=cutL hs i j h) (f:=fun v=>min v h) C2 fun x x1 x2=>by rw [g x (by lia),if_pos (by lia)]
 have e3:=puts_ch (ks:=cutL hs i j h) (f:=id) C3 fun x x1 x2=>by rw [g x (by lia),if_neg (by lia)]; rfl
 show puts id (puts _ (puts id (spN (cutL hs i j h) 0) _) _) _=_
 rw [e1,e2,e3,spans,cutL_len]
end Car
namespace Car
def mrg (told:Sp2) (s:Int×Int):Sp2:=match told.getLast? with
 | none=>told++[s]
 | some t=>if s.1≤t.2 then told.dropLast++[(t.1,max t.2 s.2)] else told++[s]
theorem mrg_nil (s:Int×Int):mrg [] s=[s]:=rfl
theorem mrg_snoc (q:Sp2) (t s:Int×Int):mrg (q++[t]) s=if s.1≤t.2 then q++[(t.1,max t.2 s.2)] else q++[t]++[s]:=by
 unfold mrg
 rw [List.getLast?_append]
 show (if s.1≤t.2 then (q++[t]).dropLast++[(t.1,max t.2 s.2)] else q++[t]++[s])=_
 rw [List.dropLast_append_cons]
 show (if s.1≤t.2 then q++[]++[(t.1,max t.2 s.2)] else q++[t]++[s])=_
 rw [BB]
def Cov (ss:Sp2) (x:Int):Prop:=∃ s∈ss,s.1≤x∧x < s.2
structure Stch (lo hi:Int) (ss:Sp2):Prop where
 ok:∀ s∈ss,lo≤s.1∧s.1 < s.2∧s.2≤hi
theorem cov_nil {x:Int}:Cov [] x↔False:=⟨fun h=>(by obtain ⟨_,h,_⟩:=h; cases h),False.elim⟩
theorem cov_app {a b:Sp2} {x:Int}:Cov (a++b) x↔Cov a x∨Cov b x:=by
 unfold Cov
 constructor
 ·rintro ⟨s,h,r⟩
  rcases AY.mp h with h | h
  ·exact .inl ⟨s,h,r⟩
  ·exact .inr ⟨s,h,r⟩
 ·rintro (⟨s,h,r⟩ | ⟨s,h,r⟩)
  ·exact ⟨s,List.mem_append_left _ h,r⟩
  ·exact ⟨s,Ad _ h,r⟩
theorem cov_one {s:Int×Int} {x:Int}:Cov [s] x↔s.1≤x∧x < s.2:=by
 unfold Cov
 constructor
 ·rintro ⟨t,h,r⟩
  rw [AJ.mp h] at r
  exact r
 ·intro r
  exact ⟨s,AJ.mpr rfl,r⟩
def Fore (told:Sp2) (z:Int):Prop:=∀ q t,told=q++[t]→t.1≤z
theorem mrg_step {lo hi:Int} {told:Sp2} {s:Int×Int} (T:Stch lo hi told) (hs:lo≤s.1∧s.1 < s.2∧s.2≤hi) (F:Fore told s.1):Stch lo hi (mrg told s)∧(∀ x,Cov (mrg told s) x↔Cov told x∨Cov [s] x)∧Fore (mrg told s) s.1:=by
 have self:∀ r:Sp2,Fore (r++[s]) s.1:=fun r q t e=>by
  have:=(List.append_inj' e rfl).2
  rw [List.cons.inj this |>.1]
  exact Int.le_refl _
 rcases List.eq_nil_or_concat told with rfl | ⟨q,t,rfl⟩
 ·rw [mrg_nil]
  exact ⟨⟨fun u hu=>by rw [AJ.mp hu]; exact hs⟩,fun x=>by rw [cov_nil,false_or],self []⟩
 ·rw [List.concat_eq_append] at T F ⊢
  have ft:=F q t rfl
  have ot:=T.ok t (Ad _ (AJ.mpr rfl))
  rw [mrg_snoc]
  split
  ·rename_i c
   refine ⟨⟨fun u hu=>?_⟩,fun x=>?_,fun r u e=>?_⟩
   ·rcases AY.mp hu with hu | hu
    ·exact T.ok u (List.mem_append_left _ hu)
    ·rw [AJ.mp hu]
     show lo≤t.1∧t.1 < max t.2 s.2∧max t.2 s.2≤hi
     lia
   ·rw [cov_app,cov_app,cov_one,cov_one,cov_one,or_assoc]
    refine or_congr Iff.rfl ?_
    show t.1≤x∧x < max t.2 s.2↔_
    lia
   ·have:=(List.append_inj' e rfl).2
    rw [← List.cons.inj this |>.1]
    exact ft
  ·refine ⟨⟨fun u hu=>?_⟩,fun x=>cov_app,self _⟩
   rcases AY.mp hu with hu | hu
   ·exact T.ok u hu
   ·rw [AJ.mp hu]
    exact hs
theorem mrg_all {lo hi:Int}:∀ (ss told:Sp2),Stch lo hi told→Stch lo hi ss→ss.Pairwise (fun a b=>a.1≤b.1)→(∀ s∈ss,Fore told s.1)→Stch lo hi (ss.foldl mrg told)∧∀ x,Cov (ss.foldl mrg told) x↔Cov told x∨Cov ss x
 | [],told,T,_,_,_=>⟨T,fun x=>by rw [cov_nil,or_false]; exact Iff.rfl⟩
 | s :: ss,told,T,S,P,F=>by
  obtain ⟨T2,c2,f2⟩:=mrg_step T (S.ok s Ab) (F s Ab)
  obtain ⟨p1,p2⟩:=List.pairwise_cons.mp P
  obtain ⟨T3,c3⟩:=mrg_all ss (mrg told s) T2 ⟨fun u hu=>S.ok u (AR _ hu)⟩ p2 fun u hu q t e=>Int.le_trans (f2 q t e) (p1 u hu)
  refine ⟨T3,fun x=>?_⟩
  rw [List.foldl_cons,c3,c2,or_assoc]
  refine or_congr Iff.rfl ?_
  rw [← cov_app]
  rfl
theorem ch_any {hs:List Int} {z:Int}:∀ {ps:List Pc} {lo hi:Int},0≤lo→Ch hs lo hi ps→((∃ q∈ps,q.2.2 > z)↔∃ x:Nat,lo≤(x:Int)∧(x:Int) < hi∧hs.getD x 0 > z)
 | [],lo,hi,l0,h=>by
  have h':lo=hi:=h
  constructor
  ·rintro ⟨q,hq,_⟩
   cases hq
  ·rintro ⟨x,a,b,_⟩
   lia
 | q :: r,lo,hi,l0,h=>by
  obtain ⟨h1,h2,h3,h4⟩:=h
  have le:=h4.le
  have I:=ch_any (z:=z) (show 0≤q.2.1 by lia) h4
  constructor
  ·rintro ⟨u,hu,g⟩
   rcases AW.mp hu with rfl | hu
   ·have e:=h3 lo.toNat (by lia) (by lia)
    exact ⟨lo.toNat,by lia,by lia,by rw [e]; exact g⟩
   ·obtain ⟨x,a,b,c⟩:=I.mp ⟨u,hu,g⟩
    exact ⟨x,by lia,b,c⟩
  ·rintro ⟨x,a,b,c⟩
   by_cases d:(x:Int) < q.2.1
   ·exact ⟨q,Ab,by rw [← h3 x a d]; exact c⟩
   ·obtain ⟨u,hu,g⟩:=I.mpr ⟨x,by lia,b,c⟩
    exact ⟨u,AR _ hu,g⟩
end Car
namespace Car
def sg (f:Nat→Int):Nat→Int
 | 0=>0
 | n + 1=>sg f n + f n
theorem sg_same {f:Nat→Int} {i:Nat} {c:Int}:∀ k:Nat,(∀ x,i≤x→x < i + k→f x=c)→sg f (i + k) - sg f i=(k:Int) * c
 | 0,_=>by
  show sg f i - sg f i=((0:Nat):Int) * c
  rw [Int.sub_self,show ((0:Nat):Int)=0 from rfl,Int.zero_mul]
 | k + 1,h=>by
  have I:=sg_same k fun x a b=>h x a (by lia)
  show sg f (i + k) + f (i + k) - sg f i=((k + 1:Nat):Int) * c
  rw [h (i + k) (by lia) (by lia),show ((k + 1:Nat):Int)=(k:Int) + 1 by lia,Int.add_mul,Int.one_mul]
  lia
def lostP (z:Int):List Pc→Int
 | []=>0
 | q :: r=>(if q.2.2 > z then (q.2.1 - q.1) * (q.2.2 - z) else 0) + lostP z r
theorem ch_lost {hs:List Int} {z:Int}:∀ {ps:List Pc} {lo hi:Nat},Ch hs lo hi ps→lostP z ps=sg (fun x=>hs.getD x 0 - min (hs.getD x 0) z) hi - sg (fun x=>hs.getD x 0 - min (hs.getD x 0) z) lo
 | [],lo,hi,h=>by
  have h':(lo:Int)=(hi:Int):=h
  rw [show lo=hi by lia,Int.sub_self]
  rfl
 | q :: r,lo,hi,h=>by
  obtain ⟨x,y,v⟩:=q
  obtain ⟨h1,h2,h3,h4⟩:x=(lo:Int)∧(lo:Int) < y∧(∀ z:Nat,(lo:Int)≤(z:Int)→(z:Int) < y→hs.getD z 0=v)∧Ch hs y hi r:=h
  obtain ⟨m,rfl⟩:∃ m:Nat,y=(m:Int):=⟨y.toNat,by lia⟩
  have I:=ch_lost (z:=z) h4
  have e:=sg_same (f:=fun x=>hs.getD x 0 - min (hs.getD x 0) z) (i:=lo) (c:=v - min v z) (m - lo) fun u a b=>by
   show hs.getD u 0 - min (hs.getD u 0) z=_
   rw [h3 u (by lia) (by lia)]
  rw [show lo + (m - lo)=m by lia,show ((m - lo:Nat):Int)=(m:Int) - (lo:Int) by lia] at e
  show (if v > z then ((m:Int) - x) * (v - z) else 0) + lostP z r=_
  rw [I,h1]
  by_cases c:v > z
  ·rw [if_pos c]
   rw [show min v z=z by lia] at e
   lia
  ·rw [if_neg c]
   rw [show min v z=v by lia,Int.sub_self,Int.mul_zero] at e
   lia
def sumI:List Int→Int
 | []=>0
 | a :: r=>a + sumI r
theorem sumI_app:∀ a b:List Int,sumI (a++b)=sumI a + sumI b
 | [],b=>by show sumI b=0 + sumI b; lia
 | x :: a,b=>by
  show x + sumI (a++b)=x + sumI a + sumI b
  rw [sumI_app a b]
  lia
theorem sumI_map (f:Nat→Int):∀ n:Nat,sumI ((List.range n).map f)=sg f n
 | 0=>rfl
 | n + 1=>by
  rw [List.range_succ,AG,sumI_app,sumI_map f n]
  show sg f n + (f n + 0)=sg f n + f n
  lia
theorem range_getD (hs:List Int):(List.range hs.length).map (fun x=>hs.getD x 0)=hs:=by
 apply List.ext_getElem?
 intro i
 rw [AF]
 by_cases hi:i < hs.length
 ·rw [List.getElem?_range hi,AB hi]
  simp [hi]
 ·rw [A9 (by rw [List.length_range]; lia),A9 (by lia)]
  rfl
theorem sg_sub (f g:Nat→Int):∀ n:Nat,sg f n - sg g n=sg (fun x=>f x - g x) n
 | 0=>rfl
 | n + 1=>by
  have:=sg_sub f g n
  show sg f n + f n - (sg g n + g n)=sg (fun x=>f x - g x) n + (f n - g n)
  lia
theorem sg_part {f g:Nat→Int} {i j:Nat}:∀ n:Nat,i≤j→(∀ x,x < i→f x=0)→(∀ x,i≤x→x < j→f x=g x)→(∀ x,j≤x→f x=0)→sg f n=if n≤i then 0 else if n≤j then sg g n - sg g i else sg g j - sg g i
 | 0,_,_,_,_=>by rw [if_pos (Ai _)]; rfl
 | n + 1,ij,a,b,c=>by
  have I:=sg_part n ij a b c
  show sg f n + f n=_
  rw [I]
  by_cases h1:n + 1≤i
  ·rw [if_pos h1,if_pos (by lia),a n (by lia)]
   rfl
  ·rw [if_neg h1]
   by_cases h2:n + 1≤j
   ·rw [if_pos h2,b n (by lia) (by lia)]
    by_cases h3:n≤i
    ·rw [if_pos h3,show n=i by lia]
     show 0 + g i=sg g i + g i - sg g i
     lia
    ·rw [if_neg h3,if_pos (by lia)]
     show sg g n - sg g i + g n=sg g n + g n - sg g i
     lia
   ·rw [if_neg h2,c n (by lia)]
    by_cases h3:n≤i
    ·rw [if_pos h3,show j=i by lia]
     lia
    ·rw [if_neg h3]
     by_cases h4:n≤j
     ·rw [if_pos h4,show n=j by lia]
      lia
     ·rw [if_neg h4]
      lia
theorem lost_row {hs:List Int} {a b z:Int} (a0:0≤a) (ab:a≤b) (bw:b≤hs.length):lostP z (pIn a b (pcI hs.length (spans hs)))=sumI hs - sumI (cutL hs a b z):=by
 obtain ⟨i,rfl⟩:∃ i:Nat,a=(i:Int):=⟨a.toNat,by lia⟩
 obtain ⟨j,rfl⟩:∃ j:Nat,b=(j:Int):=⟨b.toNat,by lia⟩
 have C2:=ch_in (a:=(i:Int)) (b:=(j:Int)) (ch_spans hs hs.length)
 rw [show max (0:Int) (i:Int)=((i:Nat):Int) by lia,show max (i:Int) (min (hs.length:Int) (j:Int))=((j:Nat):Int) by lia] at C2
 rw [ch_lost C2]
 have e1:sumI hs=sg (fun x=>hs.getD x 0) hs.length:=by
  rw [← sumI_map,range_getD]
 have e2:sumI (cutL hs i j z)=sg (fun x=>if (i:Int)≤(x:Int)∧(x:Int) < (j:Int) then min (hs.getD x 0) z else hs.getD x 0) hs.length:=by
  unfold cutL
  rw [sumI_map]
 rw [e1,e2,sg_sub,sg_part (g:=fun x=>hs.getD x 0 - min (hs.getD x 0) z) (i:=i) (j:=j) hs.length (by lia) (fun x hx=>?_) (fun x h1 h2=>?_) (fun x hx=>?_)]
 ·by_cases c:hs.length≤i
  ·rw [if_pos c,show j=i by lia,Int.sub_self]
  ·rw [if_neg c]
   by_cases d:hs.length≤j
   ·rw [if_pos d,show hs.length=j by lia]
   ·rw [if_neg d]
 ·rw [if_neg (by lia),Int.sub_self]
 ·rw [if_pos (by lia)]
 ·rw [if_neg (by lia),Int.sub_self]
end Car
namespace Car
open PySem L2
def pcV (q:Pc):List V:=[.int q.1,.int q.2.1,.int q.2.2]
theorem pcs_pcI (w:Int):∀ r:Sp2,pcs w r=(pcI w r).map pcV
 | []=>rfl
 | p :: r=>by
  rw [pcs,pcI,Az,pcs_pcI w r]
  rfl
theorem pcI_len (w:Int):∀ r:Sp2,(pcI w r).length=r.length
 | []=>rfl
 | p :: r=>by rw [pcI,AO,AO,pcI_len w r]
theorem mx_of (x a:Int):(if a > x then a else x)=max x a:=by split <;> lia
theorem mn_of (x a:Int):(if a < x then a else x)=min x a:=by split <;> lia
inductive PcAt (H:Hp) (l:Addr) (ps:List Pc):Prop
 | mk (ts:List Addr) (h1:H l=some (.lst (ts.map V.ref))) (h2:MvAt H ts (ps.map pcV)):PcAt H l ps
theorem pst:("piece":Str)≠"stretch":=by decide +kernel
section
variable {P:Program} {w:World} {K:PySem.W.Frag} {mg:Str→Option Value} {base:Heap} {f:Addr} {fd':FuncData}
inductive PspPW (K:PySem.W.Frag) (vs:List V) (H:Hp) (Q:VK):Prop
 | mk (v:V) (r:Sp2) (n a b:Int) (st:Addr) (h0:vs=[v,.int n,.ref st]) (h1:Rp K H v (spD r)) (h2:r≠[]) (h3:r.length≤1000) (h4:SqT K H st [.int a,.int b]) (h5:∀ (l:Addr) (H':Hp),Same H H'→H l=none→PcAt H' l (pIn a b (pcI n r))→Q (.ref l) H'):PspPW K vs H Q
def spPW (K:PySem.W.Frag):Sp:=fun vs H Q _=>PspPW K vs H Q
theorem scPW:FnScope ["row","width","stretch","cropped"] ["row","width","stretch"] (defScope sPWithin):=⟨rfl,rfl,rfl,by decide +kernel,rfl,by decide +kernel,by decide +kernel⟩
theorem ok_pw (T:LawT mg) (FP:Fn P w K mg base "pieces_of" 1 ["row","width"] (spPieces K)) (F:Fun K "pieces_within" "pieces_within" sPWithin f fd'):FnOk P w K mg base (CX1 P w) 2 f fd' ["row","width","stretch"] (spPW K):=by
 have nd:=scPW.nd
 refine F.ok1 scPW (fun vs H Q E h=>?_) (fun cdv A outer s H vs Q E hr h=>?_)
 ·obtain ⟨v,r,n,a,b,st,rfl,_⟩:=h
  rfl
 obtain ⟨v,r,n,a,b,st,rfl,rr,rne,rl,hst,q⟩:=h
 refine ⟨_,(pss_cons (ps_setC (i:=3) (own:=["piece"]) (capn:=["stretch"]) (capI:=[2]) nd rfl (Or.inl rfl) rfl rfl (blkC (defScope sPWithin) rfl rfl (by decide +kernel) rfl (fun y hy=>by rcases AW.mp hy with rfl | hy; exact ⟨rfl,rfl⟩; cases hy)) (pi_listK (K:=K) rfl (pf_call FP hr rfl (pass1 (E:=E)) (pa_cons (pv 0) (pa_cons (pv 1) pa_nil)))) (fun _ _ _ _ _ _=>pg_name (i:=0) (nd2 pst) rfl (Or.inl rfl)) (fun _ _ _ _ _ _=>pifs_nil) (fun _ _ _ _ _ _=>(pe_tup (pa_cons (pe_callB (call_max2 rfl) rfl T.max bt_max (pa_cons (pe_ix (ix_tupK (K:=K) rfl) (pv 0) pe_int (fun _ _=>rfl)) (pa_cons (pe_ix (ix_tupK (K:=K) rfl) (pv 1) pe_int (fun _ _=>rfl)) pa_nil))) (pa_cons (pe_callB (call_min2 rfl) rfl T.min bt_min (pa_cons (pe_ix (ix_tupK (K:=K) rfl) (pv 0) pe_int (fun _ _=>rfl)) (pa_cons (pe_ix (ix_tupK (K:=K) rfl) (pv 1) pe_int (fun _ _=>rfl)) pa_nil))) (pa_cons (pe_ix (ix_tupK (K:=K) rfl) (pv 0) pe_int (fun _ _=>rfl)) pa_nil))))))
  (pss_one (ps_ret (pe_lc (own:=["piece"]) (capn:=[]) (capI:=[]) rfl (blk0 rfl (by decide +kernel)) (pi_listK (K:=K) rfl (pv 3)) (fun _ _ _ _ _ _=>pg_name (i:=0) (nd1 "piece") rfl (Or.inl rfl)) (fun _ _ _ _ _ _=>(pifs_one (pt_cmpR op_lt (pe_ix (ix_tupK (K:=K) rfl) (pv 0) pe_int (fun _ _=>rfl)) (pe_ix (ix_tupK (K:=K) rfl) (pv 0) pe_int (fun _ _=>rfl)) (nomark _)))) (fun _ _ _ _ _ _=>(pv 0)))))),?_⟩
 refine ⟨_,rfl,_,rfl,v,r,n,rfl,rr,rne,rl,fun l0 ps0 H1 s1 hl0 hl1 mv0=>?_⟩
 rw [pcs_pcI] at mv0
 have pl:ps0.length=(pcI n r).length:=by rw [mv0.len,AA]
 have p1000:(pcI n r).length≤1000:=by rw [pcI_len]; exact rl
 generalize pcI n r=qs at mv0 pl p1000 q
 refine ⟨l0,rfl,⟨_,SqL.of hl1⟩,fun D hD=>?_⟩
 refine ⟨Wd ps0.length (fun i σ acc G=>Ex2 fun (z:Option V) (us:List Addr)=>σ=[z,some (.ref st)]∧acc=us.map V.ref∧us.length=i∧MvAt G us (((qs.take i).map (crop a b)).map pcV)∧Same H1 G∧G D=some (.lst acc)),wd_0 ⟨none,[],rfl,rfl,rfl,by rw [Am]; exact AS,same_upd hD _,upd_same⟩,?_⟩
 rintro i im σ acc G ⟨rfl,hi0,z,us,rfl,rfl,ul,mv,sG,hDG⟩
 refine lc_ask (K:=K) (xs:=ps0.map V.ref) (SqL.of (sG _ _ hl1)) (by rw [AA]; exact hi0) (fun x hx hi=>?_) (fun hend=>?_)
 ·obtain ⟨t,ht,rfl⟩:=ref_get hx
  have hi':i < ps0.length:=by rw [AA] at hi; exact hi
  have hiq:i < qs.length:=by lia
  have eq:=AB hiq
  have gt:G t=some (.tup (pcV qs[i])):=sG _ _ (mv0.at_ ht (by rw [AF,eq]; rfl))
  generalize qs[i]=p at eq gt
  have hstG:=(s1.trans sG).sqT hst
  refine ⟨_,rfl,t,_,0,.int p.1,rfl,rfl,SqT.of gt,rfl,_,rfl,st,_,0,.int a,rfl,rfl,hstG,rfl,_,_,rfl,?_⟩
  refine ⟨_,rfl,t,_,1,.int p.2.1,rfl,rfl,SqT.of gt,rfl,_,rfl,st,_,1,.int b,rfl,rfl,hstG,rfl,_,_,rfl,?_⟩
  refine ⟨_,rfl,t,_,2,.int p.2.2,rfl,rfl,SqT.of gt,rfl,le3,fun u hu=>?_⟩
  rw [mx_of,mn_of]
  have u1:=same_upd hu (.tup (pcV (crop a b p)))
  refine ⟨u1 _ _ hDG,(by rw [AA,ul]; exact line3 (show i≤1000 by lia) (by decide)),wd_next hi' ⟨_,us++[u],rfl,by rw [AG]; rfl,by rw [AI,ul]; rfl,?_,same_in (sG.trans u1) hD,upd_same⟩⟩
  rw [An,eq,AG,AG]
  exact ((mv.same u1).snoc upd_same).upd (fun m e=>by rw [u1 _ _ hDG] at e; cases e)
 ·rw [AA] at hend
  rw [hend,pl,AT (AD _)] at mv
  clear hi0
  have sHG:=s1.trans sG
  refine ⟨_,rfl,D,rfl,⟨_,SqL.of hDG⟩,fun D2 hD2=>?_⟩
  have usl:us.length=(qs.map (crop a b)).length:=by rw [mv.len,AA]
  have c1000:(qs.map (crop a b)).length≤1000:=by rw [AA]; exact p1000
  unfold pIn at q
  generalize qs.map (crop a b)=cs at mv usl c1000 q
  refine ⟨Wd us.length (fun i σ acc G2=>Ex2 fun (z:Option V) (ws:List Addr)=>σ=[z]∧acc=ws.map V.ref∧ws.length≤i∧MvAt G2 ws (((cs.take i).filter fun q=>decide (q.1 < q.2.1)).map pcV)∧Same G G2∧G2 D2=some (.lst acc)),wd_0 ⟨none,[],rfl,rfl,AD _,by rw [Am]; exact AS,same_upd hD2 _,upd_same⟩,?_⟩
  rintro j jm σ acc G2 ⟨rfl,hj0,z,ws,rfl,rfl,wl,mw,s2,hD3⟩
  refine lc_ask (K:=K) (xs:=us.map V.ref) (SqL.of (s2 _ _ hDG)) (by rw [AA]; exact hj0) (fun x hx hj=>?_) (fun hend=>?_)
  ·obtain ⟨t,ht,rfl⟩:=ref_get hx
   have hj':j < us.length:=by rw [AA] at hj; exact hj
   have hjq:j < cs.length:=by lia
   have eq:=AB hjq
   have gt:G2 t=some (.tup (pcV cs[j])):=s2 _ _ (mv.at_ ht (by rw [AF,eq]; rfl))
   generalize cs[j]=p at eq gt
   refine ⟨_,rfl,t,_,0,.int p.1,rfl,rfl,SqT.of gt,rfl,_,rfl,t,_,1,.int p.2.1,rfl,rfl,SqT.of gt,rfl,_,_,rfl,rfl,_,rfl,?_⟩
   by_cases c:p.1 < p.2.1
   ·refine iteTd c ⟨_,rfl,hD3,(by rw [AA]; exact line3 (show ws.length≤1000 by lia) (by decide)),wd_next hj' ⟨_,ws++[t],rfl,by rw [AG]; rfl,by rw [AI]; show ws.length + 1≤_; lia,?_,same_in s2 hD2,upd_same⟩⟩
    rw [An,eq,List.filter_append,AG]
    have e1:(Option.toList (some p)).filter (fun q:Pc=>decide (q.1 < q.2.1))=[p]:=by simp [c]
    rw [e1]
    exact (mw.snoc gt).upd (fun m e=>by rw [hD3] at e; cases e)
   ·refine iteFd c (wd_next hj' ⟨_,ws,rfl,rfl,by lia,?_,s2,hD3⟩)
    rw [An,eq,List.filter_append]
    have e1:(Option.toList (some p)).filter (fun q:Pc=>decide (q.1 < q.2.1))=[]:=by simp [c]
    rw [e1,BB]
    exact mw
  ·rw [AA] at hend
   rw [hend,usl,AT (AD _)] at mw
   exact q D2 _ (sHG.trans s2) (sHG.free hD2) ⟨ws,hD3,mw⟩
end
theorem bt_sorted:bootBuiltins "sorted"=some (.builtin "sorted"):=by decide +kernel
theorem mv_paired {K:PySem.W.Frag} {H:Hp}:∀ {ts:List Addr} {ss:Sp2},MvAt H ts (ss.map pV)→Paired (fun t (c:Int×Int)=>SqT K H t [.int c.1,.int c.2]) ts ss∧Paired (fun t (c:Int×Int)=>H t=some (.tup (pV c))) ts ss
 | [],[],_=>⟨.nil,.nil⟩
 | _ :: _,_ :: _,h=>⟨.cons (SqT.of h.1) (mv_paired h.2).1,.cons h.1 (mv_paired (K:=K) h.2).2⟩
 | [],_ :: _,h=>h.elim
 | _ :: _,[],h=>h.elim
theorem paired_mv {H:Hp}:∀ {ts:List Addr} {ss:Sp2},Paired (fun t (c:Int×Int)=>H t=some (.tup (pV c))) ts ss→MvAt H ts (ss.map pV)
 | _,_,.nil=>AS
 | _,_,.cons h r=>⟨h,paired_mv r⟩
theorem mrg_len (told:Sp2) (s:Int×Int):(mrg told s).length≤told.length + 1:=by
 rcases snoc_cases told with rfl | ⟨q,t,rfl⟩
 ·exact AD _
 ·rw [mrg_snoc]
  split
  ·rw [AI,AI]; exact Nat.le_succ _
  ·rw [AI]; exact AD _
theorem mrgs_len:∀ (ss told:Sp2),(ss.foldl mrg told).length≤told.length + ss.length
 | [],told=>AD _
 | s :: ss,told=>by
  have h1:=mrgs_len ss (mrg told s)
  have h2:=mrg_len told s
  rw [List.foldl_cons,AO]
  lia
theorem ixN_last (n:Nat):ixN (n + 1) (-1)=some n:=by
 unfold ixN
 rw [if_neg (by decide),if_pos (by lia)]
 congr 1
 lia
section
variable {P:Program} {w:World} {K:PySem.W.Frag} {mg:Str→Option Value} {base:Heap} {f:Addr} {fd':FuncData}
inductive PspMg (K:PySem.W.Frag) (vs:List V) (H:Hp) (Q:VK):Prop
 | mk (l:Addr) (ts:List Addr) (ss:Sp2) (lo hi:Int) (h0:vs=[.ref l]) (h1:H l=some (.lst (ts.map V.ref))) (h2:MvAt H ts (ss.map pV)) (h3:ss.length < 64) (h4:Stch lo hi ss) (h5:-1000≤lo) (h6:hi≤1000)
   (h7:∀ (D:Addr) (us:List Addr) (ms:Sp2) (H':Hp),Same H H'→H D=none→H' D=some (.lst (us.map V.ref))→MvAt H' us (ms.map pV)→Stch lo hi ms→(∀ x,Cov ms x↔Cov ss x)→ms.length < 64→Q (.ref D) H'):PspMg K vs H Q
def spMg (K:PySem.W.Frag):Sp:=fun vs H Q _=>PspMg K vs H Q
theorem scMg:FnScope ["stretches","told","first","behind"] ["stretches"] (defScope sMerged):=⟨rfl,rfl,rfl,by decide +kernel,rfl,by decide +kernel,by decide +kernel⟩
theorem ok_mg (T:LawT mg) (hso:mg "sorted"=none) (F:Fun K "merged" "merged" sMerged f fd'):FnOk P w K mg base (CX1 P w) 1 f fd' ["stretches"] (spMg K):=by
 have nd:=scMg.nd
 refine F.ok1 scMg (fun vs H Q E h=>?_) (fun cdv A outer s H vs Q E hr h=>?_)
 ·obtain ⟨l,ts,ss,lo,hi,rfl,_⟩:=h
  rfl
 obtain ⟨l,ts,ss,lo,hi,rfl,hl,mv,few,st,blo,bhi,q⟩:=h
 refine ⟨_,(pss_cons (ps_set (i:=1) nd rfl (Or.inl rfl) (pe_lst pa_nil))
  (pss_cons (ps_for own1 rfl (pi_listK (K:=K) rfl (pe_callB (call_sortPK (K:=K) rfl) rfl hso bt_sorted (pa_cons (pv 0) pa_nil))) (pg_tup (n:=2) rfl (pgs_cons (pg_name (i:=2) nd rfl (Or.inl rfl)) (pgs_cons (pg_name (i:=3) nd rfl (Or.inl rfl)) pgs_nil))) (pss_one (ps_if (PW.pt (pw_and (pt_truth (pv 1) (fun _=>rfl)) (pw_and1 (pt_cmpR op_le (pv 2) (pe_ix (ix_tupK (K:=K) rfl) (pe_ix (ix_listK (K:=K) rfl) (pv 1) (pe_un un_neg pe_int) (fun _ _=>rfl)) pe_int (fun _ _=>rfl)) (nomark _))))) (pss_one (ps_asg (pe_tup (pa_cons (pe_ix (ix_tupK (K:=K) rfl) (pe_ix (ix_listK (K:=K) rfl) (pv 1) (pe_un un_neg pe_int) (fun _ _=>rfl)) pe_int (fun _ _=>rfl)) (pa_cons (pe_callB (call_max2 rfl) rfl T.max bt_max (pa_cons (pe_ix (ix_tupK (K:=K) rfl) (pe_ix (ix_listK (K:=K) rfl) (pv 1) (pe_un un_neg pe_int) (fun _ _=>rfl)) pe_int (fun _ _=>rfl)) (pa_cons (pv 3) pa_nil))) pa_nil))) (pg_sub (pv 1) (pe_un un_neg pe_int) set_list))) (pss_one (ps_expr (pe_bm Aq At Au mt_append (pv 1) (pa_cons (pe_tup (pa_cons (pv 2) (pa_cons (pv 3) pa_nil))) pa_nil)))))))
  (pss_one (ps_ret (pv 1))))),?_⟩
 have tsl:ts.length=ss.length:=by rw [mv.len,AA]
 refine ⟨Ai _,fun tl htl=>?_⟩
 have u0:=same_upd htl (.lst [])
 have ltl:l≠tl:=ne_of_none hl htl
 refine ⟨_,rfl,l,ts,ss,rfl,SqL.of (u0 _ _ hl),(mv_paired (mv.same u0)).1,(by lia),(fun c hc=>?_),fun D us ds nD pm srt ul prd=>?_⟩
 ·have:=st.ok c hc
  exact ⟨by lia,by lia⟩
 have mvd:MvAt H us (ds.map pV):=paired_mv (prd _ (mv_paired (K:=K) mv).2)
 have usl:us.length=ds.length:=by rw [mvd.len,AA]
 have dtl:D≠tl:=fun z=>by rw [z,upd_same] at nD; cases nD
 have nDH:H D=none:=u0.free nD
 have dst:Stch lo hi ds:=⟨fun c hc=>st.ok c (pm.mem_iff.mp hc)⟩
 have dsr:ds.Pairwise fun a b=>a.1≤b.1:=by
  refine srt.imp_of_mem fun {a b} ha hb h=>?_
  have h1:=dst.ok a ha
  have h2:=dst.ok b hb
  have h3:a.1 * 1099511627776 + a.2≤b.1 * 1099511627776 + b.2:=h
  lia
 have dl:ds.length < 64:=by rw [pm.length_eq]; exact few
 refine ⟨D,rfl,⟨_,SqL.of upd_same⟩,?_⟩
 refine for_list (K:=K) (xs:=us.map V.ref) (fun i σ G=>Ex3 fun (x2 x3:Option V) (ws:List Addr)=>σ=[some (.ref l),some (.ref tl),x2,x3]∧Same H G∧G D=some (.lst (us.map V.ref))∧G tl=some (.lst (ws.map V.ref))∧MvAt G ws (((ds.take i).foldl mrg []).map pV)) ⟨none,none,[],rfl,u0.trans (same_upd nD _),upd_same,by rw [upd_ne (Ne.symm dtl),upd_same]; rfl,by rw [Am]; exact AS⟩ ?_ ?_ ?_
 ·rintro i σ G _ ⟨x2,x3,ws,rfl,_,hD,_⟩
  exact SqL.of hD
 ·rintro i v σ G hv ⟨x2,x3,ws,rfl,sG,hD,ht,mw⟩
  obtain ⟨t,et,rfl⟩:=ref_get hv
  have hi:i < ds.length:=by have:=(AE.mp et).1; lia
  have ed:=AB hi
  have gt:G t=some (.tup (pV ds[i])):=sG _ _ (mvd.at_ et (by rw [AF,ed]; rfl))
  generalize ds[i]=c at ed gt
  have e1:(ds.take (i + 1)).foldl mrg []=mrg ((ds.take i).foldl mrg []) c:=by
   rw [An,ed]
   show ((ds.take i)++[c]).foldl mrg []=_
   rw [List.foldl_append]
   rfl
  have wl:ws.length < 64:=by
   rw [mw.len,AA]
   have:=mrgs_len (ds.take i) []
   rw [A0,List.length_nil] at this
   lia
  refine ⟨t,_,rfl,SqT.of gt,rfl,_,_,rfl,_,_,rfl,rfl,?_⟩
  rw [e1]
  generalize (ds.take i).foldl mrg []=told at mw
  have add:mrg told c=told++[c]→tDrop (tBM K "list" rAppend (tVar 1) (tCons (tTup (tCons (tVar 2) (tCons (tVar 3) tNil))) tNil)) { nx:=fun σ G=>Ex3 fun (x2 x3:Option V) (ws:List Addr)=>σ=[some (.ref l),some (.ref tl),x2,x3]∧Same H G∧G D=some (.lst (us.map V.ref))∧G tl=some (.lst (ws.map V.ref))∧MvAt G ws ((mrg told c).map pV),rt:=Q } [some (.ref l),some (.ref tl),some (.int c.1),some (.int c.2)] G:=fun e=>by
   refine ⟨_,rfl,.inl ⟨rfl,_,SqL.of ht⟩,_,rfl,_,rfl,le2,fun p hp=>?_⟩
   have u1:=same_upd hp (.tup (pV c))
   refine ⟨tl,_,.ref p,rfl,rfl,u1 _ _ ht,by rw [AA]; exact line3 (show ws.length≤1000 by lia) (by decide),?_⟩
   refine ⟨_,_,ws++[p],rfl,same_in (sG.trans u1) htl,by rw [upd_ne dtl]; exact u1 _ _ hD,by rw [upd_same,AG]; rfl,?_⟩
   rw [e,AG]
   exact ((mw.same u1).snoc upd_same).upd (fun m z=>by rw [u1 _ _ ht] at z; cases z)
  refine ⟨_,rfl,!(ws.map V.ref).isEmpty,.inl ⟨_,SqL.of ht,rfl⟩,?_⟩
  rcases snoc_cases told with rfl | ⟨qq,tt,rfl⟩
  ·cases ws with
   | nil=>exact iteF (iteF (add rfl))
   | cons _ _=>exact mw.elim
  ·obtain ⟨w',u,rfl,hu⟩:=mv_last mw
   have ea:atI ((w'++[u]).map V.ref) (-1)=some (.ref u):=by rw [AG]; exact atI_last _ _
   have en:(!((w'++[u]).map V.ref).isEmpty)=true:=by cases w' <;> rfl
   rw [en]
   refine iteT ⟨_,rfl,_,rfl,_,rfl,tl,_,-1,.ref u,rfl,rfl,SqL.of ht,ea,u,_,1,.int tt.2,rfl,rfl,SqT.of hu,rfl,_,_,rfl,rfl,_,rfl,?_⟩
   by_cases cc:c.1≤tt.2
   ·refine iteTd cc ⟨_,rfl,_,rfl,tl,_,-1,.ref u,rfl,rfl,SqL.of ht,ea,u,_,0,.int tt.1,rfl,rfl,SqT.of hu,rfl,_,rfl,_,rfl,tl,_,-1,.ref u,rfl,rfl,SqL.of ht,ea,u,_,1,.int tt.2,rfl,rfl,SqT.of hu,rfl,_,rfl,_,_,rfl,le2,fun p hp=>?_⟩
    rw [mx_of]
    have u1:=same_upd hp (.tup (pV (tt.1,max tt.2 c.2)))
    refine ⟨_,rfl,_,rfl,tl,_,-1,w'.length,rfl,rfl,u1 _ _ ht,(by rw [AA,AI]; exact ixN_last _),?_⟩
    have e2:((w'++[u]).map V.ref).set w'.length (.ref p)=(w'++[p]).map V.ref:=by
     rw [AG,AG]
     show (w'.map V.ref++[V.ref u]).set w'.length (V.ref p)=w'.map V.ref++[V.ref p]
     rw [List.set_append_right _ _ (by rw [AA]; exact AD _),AA,Nat.sub_self]
     rfl
    refine ⟨_,_,w'++[p],rfl,same_in (sG.trans u1) htl,by rw [upd_ne dtl]; exact u1 _ _ hD,by rw [upd_same,e2],?_⟩
    rw [mrg_snoc,if_pos cc,AG (f:=pV)]
    have mw':MvAt G w' (qq.map pV):=by
     have key:∀ {as:List Addr} {bs:Sp2} {x:Addr} {y:Int×Int},MvAt G (as++[x]) ((bs++[y]).map pV)→MvAt G as (bs.map pV):=by
      intro as
      induction as with
      | nil =>
       intro bs x y h
       cases bs with
       | nil=>exact AS
       | cons b bs =>
        have:=h.2
        cases bs <;> exact this.elim
      | cons a as ih =>
       intro bs x y h
       cases bs with
       | nil =>
        have:=h.2
        cases as <;> exact this.elim
       | cons b bs=>exact ⟨h.1,ih h.2⟩
     exact key mw
    exact ((mw'.same u1).snoc upd_same).upd (fun m z=>by rw [u1 _ _ ht] at z; cases z)
   ·exact iteFd cc (add (by rw [mrg_snoc,if_neg cc]))
 ·rintro σ G ⟨x2,x3,ws,rfl,sG,hD,ht,mw⟩
  rw [AA,usl,AT (AD _)] at mw
  obtain ⟨g1,g2⟩:=mrg_all ds [] ⟨fun _ h=>by cases h⟩ dst dsr (fun _ _ q t e=>by cases q <;> cases e)
  refine ⟨_,rfl,q tl ws _ G sG htl ht mw g1 (fun x=>?_) ?_⟩
  ·rw [g2,cov_nil,false_or]
   exact ⟨fun ⟨c,hc,h⟩=>⟨c,pm.mem_iff.mp hc,h⟩,fun ⟨c,hc,h⟩=>⟨c,pm.mem_iff.mpr hc,h⟩⟩
  ·have:=mrgs_len ds []
   rw [List.length_nil] at this
   lia
end
theorem pIn_len (a b:Int) (ps:List Pc):(pIn a b ps).length≤ps.length:=by
 unfold pIn
 have:=List.length_filter_le (fun q:Pc=>decide (q.1 < q.2.1)) (ps.map (crop a b))
 rw [AA] at this
 exact this
theorem puts_snoc (f:Int→Int) (t:Sp2) (ps:List Pc) (q:Pc):puts f t (ps++[q])=putS (puts f t ps) q.1 (f q.2.2):=by
 unfold puts
 rw [List.foldl_append]
 rfl
theorem puts_len (f:Int→Int):∀ (ps:List Pc) (t:Sp2),(puts f t ps).length≤t.length + ps.length
 | [],t=>AD _
 | q :: ps,t=>by
  have h1:=puts_len f ps (putS t q.1 (f q.2.2))
  have h2:(putS t q.1 (f q.2.2)).length≤t.length + 1:=by
   unfold putS
   split
   ·exact Nat.le_succ _
   ·rw [AI]; exact AD _
  show (puts f (putS t q.1 (f q.2.2)) ps).length≤t.length + (ps.length + 1)
  lia
structure PuIn (Gs:Hp) (H:Hp) (tl:Addr) (t0:Sp2) (f:Int→Int) (ps:List Pc) (i:Nat) (G:Hp):Prop where
 sm:Same H G
 sb:Sb tl Gs G
 row:SpRow G tl (puts f t0 (ps.take i))
section
variable {P:Program} {w:World} {K:PySem.W.Frag} {mg:Str→Option Value} {base:Heap} {f:Addr} {fd':FuncData}
theorem PuIn.step {Gs H G:Hp} {tl:Addr} {t0:Sp2} {g:Int→Int} {ps:List Pc} {i:Nat} {p:Pc} {Q:VK} {E:XK} (M:PuIn Gs H tl t0 g ps i G) (nt:H tl=none) (ep:ps[i]?=some p) (tl0:t0.length + ps.length≤2000)
  (q:∀ G',PuIn Gs H tl t0 g ps (i + 1) G'→Q .non G'):spPut [.ref tl,.int p.1,.int (g p.2.2)] G Q E:=by
 obtain ⟨ts,ht,mv⟩:=M.row
 have hi:=(AE.mp ep).1
 have e1:puts g t0 (ps.take (i + 1))=putS (puts g t0 (ps.take i)) p.1 (g p.2.2):=by
  rw [An,ep]
  exact puts_snoc g t0 (ps.take i) p
 have l1:ts.length≤2000:=by
  have:=puts_len g (ps.take i) t0
  rw [mv.len,AA]
  rw [A0] at this
  lia
 refine ⟨tl,ts,puts g t0 (ps.take i),p.1,g p.2.2,rfl,ht,mv,l1,fun c=>?_,fun c t hn=>?_⟩
 ·refine q _ ⟨M.sm,M.sb,?_⟩
  rw [e1,putS,if_pos c]
  exact ⟨ts,ht,mv⟩
 ·have u1:=same_upd hn (.tup (pV (p.1,g p.2.2)))
  refine q _ ⟨same_in (M.sm.trans u1) nt,fun x o nx e=>by rw [upd_ne nx]; exact u1 _ _ (M.sb x o nx e),?_⟩
  rw [e1,putS,if_neg c]
  refine ⟨ts++[t],upd_same,?_⟩
  rw [AG (f:=pV)]
  exact ((mv.same u1).snoc upd_same).upd (fun m z=>by rw [u1 _ _ ht] at z; cases z)
inductive PspCR (K:PySem.W.Frag) (vs:List V) (H:Hp) (Q:VK):Prop
 | mk (v:V) (r:Sp2) (n a b h:Int) (st:Addr) (h0:vs=[v,.int n,.ref st,.int h]) (h1:Rp K H v (spD r)) (h2:r≠[]) (h3:r.length≤500) (h4:SqT K H st [.int a,.int b]) (h5:∀ (l:Addr) (H':Hp),Same H H'→H l=none→SpRow H' l (cutS n r a b h)→Q (.ref l) H'):PspCR K vs H Q
def spCR (K:PySem.W.Frag):Sp:=fun vs H Q _=>PspCR K vs H Q
theorem scCR:FnScope ["row","width","stretch","height","told","piece"] ["row","width","stretch","height"] (defScope sCutRow):=⟨rfl,rfl,rfl,by decide +kernel,rfl,by decide +kernel,by decide +kernel⟩
theorem ok_cr (T:LawT mg) (FW:Fn P w K mg base "pieces_within" 2 ["row","width","stretch"] (spPW K)) (FU:Fn P w K mg base "put_span" 1 ["row","start","height"] spPut) (F:Fun K "cut_row" "cut_row" sCutRow f fd'):FnOk P w K mg base (CX1 P w) 3 f fd' ["row","width","stretch","height"] (spCR K):=by
 have nd:=scCR.nd
 refine F.ok1 scCR (fun vs H Q E h=>?_) (fun cdv A outer s H vs Q E hr h=>?_)
 ·obtain ⟨v,r,n,a,b,h,st,rfl,_⟩:=h
  rfl
 obtain ⟨v,r,n,a,b,h,st,rfl,rr,rne,rl,hst,q⟩:=h
 have hr1:Room 1 _:=hr.mono (by decide)
 refine ⟨_,(pss_cons (ps_set (i:=4) nd rfl (Or.inl rfl) (pe_lst pa_nil))
  (pss_cons (ps_for own1 rfl (pi_listK (K:=K) rfl (pf_call FW hr rfl (pass1 (E:=E)) (pa_cons (pv 0) (pa_cons (pv 1) (pa_cons (pe_tup (pa_cons pe_int (pa_cons (pe_ix (ix_tupK (K:=K) rfl) (pv 2) pe_int (fun _ _=>rfl)) pa_nil))) pa_nil))))) (pg_name (i:=5) nd rfl (Or.inl rfl)) (pss_one (ps_expr (pf_call FU hr1 rfl (pass1 (E:=E)) (pa_cons (pv 4) (pa_cons (pe_ix (ix_tupK (K:=K) rfl) (pv 5) pe_int (fun _ _=>rfl)) (pa_cons (pe_ix (ix_tupK (K:=K) rfl) (pv 5) pe_int (fun _ _=>rfl)) pa_nil)))))))
  (pss_cons (ps_for own1 rfl (pi_listK (K:=K) rfl (pf_call FW hr rfl (pass1 (E:=E)) (pa_cons (pv 0) (pa_cons (pv 1) (pa_cons (pv 2) pa_nil))))) (pg_name (i:=5) nd rfl (Or.inl rfl)) (pss_one (ps_expr (pf_call FU hr1 rfl (pass1 (E:=E)) (pa_cons (pv 4) (pa_cons (pe_ix (ix_tupK (K:=K) rfl) (pv 5) pe_int (fun _ _=>rfl)) (pa_cons (pe_callB (call_min2 rfl) rfl T.min bt_min (pa_cons (pe_ix (ix_tupK (K:=K) rfl) (pv 5) pe_int (fun _ _=>rfl)) (pa_cons (pv 3) pa_nil))) pa_nil)))))))
  (pss_cons (ps_for own1 rfl (pi_listK (K:=K) rfl (pf_call FW hr rfl (pass1 (E:=E)) (pa_cons (pv 0) (pa_cons (pv 1) (pa_cons (pe_tup (pa_cons (pe_ix (ix_tupK (K:=K) rfl) (pv 2) pe_int (fun _ _=>rfl)) (pa_cons (pv 1) pa_nil))) pa_nil))))) (pg_name (i:=5) nd rfl (Or.inl rfl)) (pss_one (ps_expr (pf_call FU hr1 rfl (pass1 (E:=E)) (pa_cons (pv 4) (pa_cons (pe_ix (ix_tupK (K:=K) rfl) (pv 5) pe_int (fun _ _=>rfl)) (pa_cons (pe_ix (ix_tupK (K:=K) rfl) (pv 5) pe_int (fun _ _=>rfl)) pa_nil)))))))
  (pss_one (ps_ret (pv 4))))))),?_⟩
 have ql:∀ x y:Int,(pIn x y (pcI n r)).length≤500:=fun x y=>Ag (pIn_len x y _) (by rw [pcI_len]; exact rl)
 have rl':r.length≤1000:=by lia
 refine ⟨Ai _,fun tl htl=>?_⟩
 have u0:=same_upd htl (.lst [])
 have row0:SpRow (upd H tl (.lst [])) tl []:=⟨[],upd_same,AS⟩
 generalize upd H tl (.lst [])=H0 at u0 row0
 have stl:∀ {G:Hp} {m:List V} {x:Addr},SqT K H x m→Same H G→SqT K G x m:=fun hx sx=>sx.sqT hx
 refine ⟨_,rfl,_,rfl,_,rfl,st,_,0,.int a,rfl,rfl,u0.sqT hst,rfl,le2,fun p1 hp1=>?_⟩
 have v1:=same_upd hp1 (.tup [V.int 0,.int a])
 refine ⟨v,r,n,0,a,p1,rfl,(rr.same u0).same v1,rne,rl',SqT.of upd_same,fun l1 H1 s1 nl1 pc1=>?_⟩
 have s01:Same H0 H1:=v1.trans s1
 obtain ⟨ts1,hl1,mv1⟩:=pc1
 have tsl1:ts1.length=(pIn 0 a (pcI n r)).length:=by rw [mv1.len,AA]
 have nl1':l1≠tl:=fun z=>by
  obtain ⟨us,hz,_⟩:=row0
  rw [z,v1 _ _ hz] at nl1
  cases nl1
 have q1:=ql 0 a
 have c1:(puts id [] (pIn 0 a (pcI n r))).length≤500:=by
  have:=puts_len id (pIn 0 a (pcI n r)) []
  rw [List.length_nil] at this
  lia
 have hq:∀ (l:Addr) (H':Hp),Same H H'→H l=none→SpRow H' l (puts id (puts (fun v=>min v h) (puts id [] (pIn 0 a (pcI n r))) (pIn a b (pcI n r))) (pIn b n (pcI n r)))→Q (.ref l) H':=q
 generalize pIn 0 a (pcI n r)=ps1 at mv1 tsl1 q1 c1 hq
 refine ⟨l1,rfl,⟨_,SqL.of hl1⟩,?_⟩
 refine for_list (K:=K) (xs:=ts1.map V.ref) (fun i σ G=>∃ x5:Option V,σ=[some v,some (.int n),some (.ref st),some (.int h),some (.ref tl),x5]∧PuIn H1 H tl [] id ps1 i G) ⟨none,rfl,u0.trans s01,fun _ _ _ e=>e,by rw [Am]; exact row0.same s01⟩ ?_ ?_ ?_
 ·rintro i σ G _ ⟨x5,rfl,M⟩
  exact SqL.of (M.sb _ _ nl1' hl1)
 ·rintro i x σ G hx ⟨x5,rfl,M⟩
  obtain ⟨t,et,rfl⟩:=ref_get hx
  have hi:i < ps1.length:=by have:=(AE.mp et).1; lia
  have ep:=AB hi
  have g0:=mv1.at_ et (by rw [AF,ep]; rfl)
  have gt:G t=some (.tup (pcV ps1[i])):=M.sb _ _ (fun z=>by
   obtain ⟨us,hz,_⟩:=row0.same s01
   rw [z,hz] at g0
   cases g0) g0
  generalize ps1[i]=p at ep gt
  exact ⟨_,rfl,_,rfl,t,_,0,.int p.1,rfl,rfl,SqT.of gt,rfl,_,rfl,t,_,2,.int p.2.2,rfl,rfl,SqT.of gt,rfl,M.step (E:=E) (g:=id) htl ep (by rw [List.length_nil]; lia) fun G' M'=>⟨_,rfl,M'⟩⟩
 ·rintro σ G ⟨x5,rfl,M⟩
  rw [AA,tsl1] at M
  have row1:=M.row
  rw [AT (AD _)] at row1
  have sG:=M.sm
  clear M mv1 hl1
  generalize puts id [] ps1=t1 at row1 c1 hq
  refine ⟨_,rfl,_,rfl,_,rfl,v,r,n,a,b,st,rfl,rr.same sG,rne,rl',sG.sqT hst,fun l2 H2 s2 nl2 pc2=>?_⟩
  obtain ⟨ts2,hl2,mv2⟩:=pc2
  have tsl2:ts2.length=(pIn a b (pcI n r)).length:=by rw [mv2.len,AA]
  have nl2':l2≠tl:=fun z=>by
   obtain ⟨us,hz,_⟩:=row1
   rw [z,hz] at nl2
   cases nl2
  have q2:=ql a b
  have c2:(puts (fun v=>min v h) t1 (pIn a b (pcI n r))).length≤1000:=by
   have:=puts_len (fun v=>min v h) (pIn a b (pcI n r)) t1
   lia
  generalize pIn a b (pcI n r)=ps2 at mv2 tsl2 q2 c2 hq
  refine ⟨l2,rfl,⟨_,SqL.of hl2⟩,?_⟩
  refine for_list (K:=K) (xs:=ts2.map V.ref) (fun i σ G=>∃ x5:Option V,σ=[some v,some (.int n),some (.ref st),some (.int h),some (.ref tl),x5]∧PuIn H2 H tl t1 (fun v=>min v h) ps2 i G) ⟨x5,rfl,sG.trans s2,fun _ _ _ e=>e,by rw [Am]; exact row1.same s2⟩ ?_ ?_ ?_
  ·rintro i σ G _ ⟨x5,rfl,M⟩
   exact SqL.of (M.sb _ _ nl2' hl2)
  ·rintro i x σ G hx ⟨x5,rfl,M⟩
   obtain ⟨t,et,rfl⟩:=ref_get hx
   have hi:i < ps2.length:=by have:=(AE.mp et).1; lia
   have ep:=AB hi
   have g0:=mv2.at_ et (by rw [AF,ep]; rfl)
   have gt:G t=some (.tup (pcV ps2[i])):=M.sb _ _ (fun z=>by
    obtain ⟨us,hz,_⟩:=row1.same s2
    rw [z,hz] at g0
    cases g0) g0
   generalize ps2[i]=p at ep gt
   refine ⟨_,rfl,_,rfl,t,_,0,.int p.1,rfl,rfl,SqT.of gt,rfl,_,rfl,t,_,2,.int p.2.2,rfl,rfl,SqT.of gt,rfl,_,rfl,_,_,rfl,?_⟩
   rw [mn_of]
   exact M.step (E:=E) (g:=fun v=>min v h) htl ep (by lia) fun G' M'=>⟨_,rfl,M'⟩
  ·rintro σ G2 ⟨x5,rfl,M⟩
   rw [AA,tsl2] at M
   have row2:=M.row
   rw [AT (AD _)] at row2
   have sG2:=M.sm
   clear M mv2 hl2
   generalize puts (fun v=>min v h) t1 ps2=t2 at row2 c2 hq
   refine ⟨_,rfl,_,rfl,_,rfl,st,_,1,.int b,rfl,rfl,sG2.sqT hst,rfl,_,rfl,le2,fun p3 hp3=>?_⟩
   have v3:=same_upd hp3 (.tup [V.int b,.int n])
   refine ⟨v,r,n,b,n,p3,rfl,(rr.same sG2).same v3,rne,rl',SqT.of upd_same,fun l3 H3 s3 nl3 pc3=>?_⟩
   have s23:Same G2 H3:=v3.trans s3
   obtain ⟨ts3,hl3,mv3⟩:=pc3
   have tsl3:ts3.length=(pIn b n (pcI n r)).length:=by rw [mv3.len,AA]
   have nl3':l3≠tl:=fun z=>by
    obtain ⟨us,hz,_⟩:=row2
    rw [z,v3 _ _ hz] at nl3
    cases nl3
   have q3:=ql b n
   generalize pIn b n (pcI n r)=ps3 at mv3 tsl3 q3 hq
   refine ⟨l3,rfl,⟨_,SqL.of hl3⟩,?_⟩
   refine for_list (K:=K) (xs:=ts3.map V.ref) (fun i σ G=>∃ x5:Option V,σ=[some v,some (.int n),some (.ref st),some (.int h),some (.ref tl),x5]∧PuIn H3 H tl t2 id ps3 i G) ⟨x5,rfl,sG2.trans s23,fun _ _ _ e=>e,by rw [Am]; exact row2.same s23⟩ ?_ ?_ ?_
   ·rintro i σ G _ ⟨x5,rfl,M⟩
    exact SqL.of (M.sb _ _ nl3' hl3)
   ·rintro i x σ G hx ⟨x5,rfl,M⟩
    obtain ⟨t,et,rfl⟩:=ref_get hx
    have hi:i < ps3.length:=by have:=(AE.mp et).1; lia
    have ep:=AB hi
    have g0:=mv3.at_ et (by rw [AF,ep]; rfl)
    have gt:G t=some (.tup (pcV ps3[i])):=M.sb _ _ (fun z=>by
     obtain ⟨us,hz,_⟩:=row2.same s23
     rw [z,hz] at g0
     cases g0) g0
    generalize ps3[i]=p at ep gt
    exact ⟨_,rfl,_,rfl,t,_,0,.int p.1,rfl,rfl,SqT.of gt,rfl,_,rfl,t,_,2,.int p.2.2,rfl,rfl,SqT.of gt,rfl,M.step (E:=E) (g:=id) htl ep (by lia) fun G' M'=>⟨_,rfl,M'⟩⟩
   ·rintro σ G3 ⟨x5,rfl,M⟩
    rw [AA,tsl3] at M
    have row3:=M.row
    rw [AT (AD _)] at row3
    exact ⟨_,rfl,hq tl G3 M.sm htl row3⟩
end
theorem big16 {n:Nat} (h:n≤160000):n < AL:=Nat.lt_of_le_of_lt h (by decide)
structure VS (K:PySem.W.Frag) (mg:Str→Option Value) (CV CC:Addr):Prop where
 clV:Cls K CV
 clC:Cls K CC
 nStuff:NoAttr K CV "stuff"
 nShelf:NoAttr K CV "shelf"
 nCutter:NoAttr K CV "cutter"
 nStands:NoAttr K CV "stands"
 nRows:NoAttr K CC "rows"
 nWidth:NoAttr K CC "width"
 dict:mg "dict"=none
 any:mg "any"=none
 top:∃ t,mg "TOP"=some (.int 1000 t)
structure SsAt (CC:Addr) (H:Hp) (c R:Addr) (rows:List (List Int)):Prop where
 ob:∃ dx,H c=some (.ins CC dx [("rows",.ref R),("width",.int ((rows.headD []).length:Int))])
 hR:∃ rs:List Addr,H R=some (.lst (rs.map V.ref))∧SpAt H rs (rows.map spans)∧R ∉ rs∧rs.Nodup
theorem SsAt.same {CC:Addr} {H H':Hp} {c R:Addr} {rows:List (List Int)} (h:SsAt CC H c R rows) (s:Same H H'):SsAt CC H' c R rows:=by
 obtain ⟨dx,e⟩:=h.ob
 obtain ⟨rs,a,b,n⟩:=h.hR
 exact ⟨⟨dx,s _ _ e⟩,rs,s _ _ a,b.same s,n⟩
theorem SpAt.at_ {H:Hp}:∀ {ls:List Addr} {rs:List Sp2} {i:Nat} {r:Sp2},SpAt H ls rs→rs[i]?=some r→∃ l,ls[i]?=some l∧SpRow H l r
 | l :: _,_ :: _,0,_,h,e=>by cases e; exact ⟨l,rfl,h.1⟩
 | _ :: _,_ :: _,i + 1,_,h,e=>by
  obtain ⟨l,a,b⟩:=SpAt.at_ (i:=i) h.2 e
  exact ⟨l,a,b⟩
 | [],[],_,_,_,e=>by simp at e
 | [],_ :: _,_,_,h,_=>h.elim
 | _ :: _,[],_,_,h,_=>h.elim
theorem SpAt.set {H:Hp} {l:Addr} {r:Sp2} (h:SpRow H l r):∀ {ls:List Addr} {rs:List Sp2} {i:Nat},SpAt H ls rs→SpAt H (ls.set i l) (rs.set i r)
 | [],[],_,_=>AS
 | _ :: _,_ :: _,0,k=>⟨h,k.2⟩
 | _ :: _,_ :: _,i + 1,k=>⟨k.1,SpAt.set h k.2⟩
 | [],_ :: _,_,k=>k.elim
 | _ :: _,[],_,k=>k.elim
theorem spans_ne {hs:List Int} (h:0 < hs.length):spans hs≠[]:=by
 obtain ⟨v,q,e⟩:=(spans_ok hs).ne h
 rw [e]
 intro z
 cases z
theorem spans_len (hs:List Int):(spans hs).length≤hs.length:=(spans_ok hs).len
abbrev Us:=List (Int×Int×Int)
def UnAt (H:Hp):List Addr→Us→Prop
 | [],[]=>True
 | t :: ts,u :: us=>(∃ st,H t=some (.tup [.int u.1,.ref st])∧H st=some (.tup [.int u.2.1,.int u.2.2]))∧UnAt H ts us
 | _,_=>False
theorem UnAt.same {H H':Hp} (s:Same H H'):∀ {ts:List Addr} {us:Us},UnAt H ts us→UnAt H' ts us
 | [],[],_=>AS
 | _ :: _,_ :: _,⟨⟨st,a,b⟩,r⟩=>⟨⟨st,s _ _ a,s _ _ b⟩,UnAt.same s r⟩
 | [],_ :: _,h=>h.elim
 | _ :: _,[],h=>h.elim
theorem UnAt.len {H:Hp}:∀ {ts:List Addr} {us:Us},UnAt H ts us→ts.length=us.length
 | [],[],_=>rfl
 | _ :: _,_ :: _,h=>by rw [AO,AO,UnAt.len h.2]
 | [],_ :: _,h=>h.elim
 | _ :: _,[],h=>h.elim
theorem UnAt.at_ {H:Hp}:∀ {ts:List Addr} {us:Us} {i:Nat} {t:Addr} {u:Int×Int×Int},UnAt H ts us→ts[i]?=some t→us[i]?=some u→∃ st,H t=some (.tup [.int u.1,.ref st])∧H st=some (.tup [.int u.2.1,.int u.2.2])
 | _ :: _,_ :: _,0,_,_,h,e,e'=>by cases e; cases e'; exact h.1
 | _ :: _,_ :: _,i + 1,_,_,h,e,e'=>UnAt.at_ (i:=i) h.2 e e'
 | [],[],_,_,_,_,e,_=>by simp at e
 | [],_ :: _,_,_,_,h,_,_=>h.elim
 | _ :: _,[],_,_,_,h,_,_=>h.elim
theorem UnAt.snoc {H:Hp} {t:Addr} {u:Int×Int×Int} (h:∃ st,H t=some (.tup [.int u.1,.ref st])∧H st=some (.tup [.int u.2.1,.int u.2.2])):∀ {ts:List Addr} {us:Us},UnAt H ts us→UnAt H (ts++[t]) (us++[u])
 | [],[],_=>⟨h,AS⟩
 | _ :: _,_ :: _,k=>⟨k.1,UnAt.snoc h k.2⟩
 | [],_ :: _,k=>k.elim
 | _ :: _,[],k=>k.elim
theorem UnAt.app {H:Hp}:∀ {ts vs:List Addr} {us ws:Us},UnAt H ts us→UnAt H vs ws→UnAt H (ts++vs) (us++ws)
 | [],_,[],_,_,k=>k
 | _ :: _,_,_ :: _,_,h,k=>⟨h.1,UnAt.app h.2 k⟩
 | [],_,_ :: _,_,h,_=>h.elim
 | _ :: _,_,[],_,h,_=>h.elim
theorem UnAt.keep {H H':Hp} (k:∀ x m,H x=some (.tup m)→H' x=some (.tup m)):∀ {ts:List Addr} {us:Us},UnAt H ts us→UnAt H' ts us
 | [],[],_=>AS
 | _ :: _,_ :: _,⟨⟨st,a,b⟩,r⟩=>⟨⟨st,k _ _ a,k _ _ b⟩,UnAt.keep k r⟩
 | [],_ :: _,h=>h.elim
 | _ :: _,[],h=>h.elim
def UsOk (rows:List (List Int)) (us:Us):Prop:=∀ u∈us,0≤u.1∧u.1 < rows.length∧0≤u.2.1∧u.2.1 < u.2.2∧u.2.2≤(rows.headD []).length
def abv (rows:List (List Int)) (u:Int×Int×Int) (z:Int):List Pc:=(pIn u.2.1 u.2.2 (pcI (rows.headD []).length (spans (rows.getD u.1.toNat [])))).filter fun q=>decide (q.2.2 > z)
def risS (rows:List (List Int)) (us:Us) (z:Int):Bool:=us.any fun u=>decide (((abv rows u z).length:Int) > 0)
theorem psh:("piece":Str)≠"height":=by decide +kernel
theorem nd4r:(["y","stretch","self","height"]:List Str).Nodup:=by decide +kernel
section
variable {P:Program} {w:World} {K:PySem.W.Frag} {mg:Str→Option Value} {base:Heap} {CV CC f:Addr} {fd':FuncData}
inductive PspSHas (CC:Addr) (vs:List V) (H:Hp) (Q:VK):Prop
 | mk (c R:Addr) (rows:List (List Int)) (x y:Int) (h0:vs=[.ref c,.int x,.int y]) (h1:SsAt CC H c R rows) (h2:Q (.bl (ins rows (x,y))) H):PspSHas CC vs H Q
def spSHas (CC:Addr):Sp:=fun vs H Q _=>PspSHas CC vs H Q
theorem scSHas:FnScope ["self","x","y"] ["self","x","y"] (defScope sSpHas):=⟨rfl,rfl,rfl,by decide +kernel,rfl,by decide +kernel,by decide +kernel⟩
theorem ok_sHas (T:LawT mg) (VV:VS K mg CV CC) (F:Fun K "has_cell" "Spans.has_cell" sSpHas f fd'):FnOk P w K mg base (CX1 P w) 1 f fd' ["self","x","y"] (spSHas CC):=by
 have nd:=scSHas.nd
 refine F.ok1 scSHas (fun vs H Q E h=>?_) (fun cdv A outer s H vs Q E hr h=>?_)
 ·obtain ⟨c,R,rows,x,y,rfl,_⟩:=h
  rfl
 obtain ⟨c,R,rows,x,y,rfl,⟨⟨dx,hc⟩,rs,hR,sp,_⟩,q⟩:=h
 have rsl:rs.length=rows.length:=by rw [sp.len,AA]
 have lm:(rs.map V.ref).length=rows.length:=by rw [AA]; exact rsl
 refine ⟨_,(pss_one (ps_ret (pe_and (pe_chain op_le op_lt pe_int (pv 2) (pe_callB (call_lenK (K:=K) rfl) rfl T.len Ao (pa_cons (pe_fld (pv 0) rfl) pa_nil))) (pe_one (pe_chain op_le op_lt pe_int (pv 1) (pe_fld (pv 0) rfl)))))),?_⟩
 have no:¬ (0≤y∧y < rows.length∧0≤x∧x < (rows.headD []).length)→Q (.bl false) H:=fun n=>by
  rw [show ins rows (x,y)=false from decide_eq_false n] at q
  exact q
 refine ⟨_,rfl,_,_,rfl,rfl,_,rfl,?_⟩
 refine ite2 (fun h1=>?_) (fun h1=>?_)
 ·have h1':=of_decide_eq_true h1
  refine ⟨_,rfl,c,CC,dx,_,_,rfl,hc,VV.clC,VV.nRows,rfl,R,_,rfl,.inl (SqL.of hR),_,_,rfl,rfl,_,rfl,?_⟩
  refine ite2 (fun h2=>?_) (fun h2=>?_)
  ·have h2':=of_decide_eq_true h2
   rw [lm] at h2'
   refine ⟨_,rfl,_,_,rfl,rfl,_,rfl,?_⟩
   refine ite2 (fun h3=>?_) (fun h3=>?_)
   ·have h3':=of_decide_eq_true h3
    refine ⟨_,rfl,c,CC,dx,_,_,rfl,hc,VV.clC,VV.nWidth,rfl,_,_,rfl,rfl,?_⟩
    rw [show ins rows (x,y)=decide (x < ((rows.headD []).length:Int)) from decide_eq_decide.mpr ⟨fun z=>z.2.2.2,fun z=>⟨h1',h2',h3',z⟩⟩] at q
    exact q
   ·exact no fun z=>h3 (decide_eq_true z.2.2.1)
  ·exact no fun z=>h2 (decide_eq_true (by rw [lm]; exact z.2.1))
 ·exact ⟨_,rfl,iteF (no fun z=>h1 (decide_eq_true z.1))⟩
inductive PspAbv (CC:Addr) (vs:List V) (H:Hp) (Q:VK):Prop
 | mk (c R st:Addr) (rows:List (List Int)) (u:Int×Int×Int) (z:Int) (h0:vs=[.ref c,.int u.1,.ref st,.int z]) (h1:SsAt CC H c R rows) (h2:Rect rows) (h3:Small rows) (h4:H st=some (.tup [.int u.2.1,.int u.2.2])) (h5:UsOk rows [u]) (h6:∀ (l:Addr) (H':Hp),Same H H'→H l=none→PcAt H' l (abv rows u z)→Q (.ref l) H'):PspAbv CC vs H Q
def spAbv (CC:Addr):Sp:=fun vs H Q _=>PspAbv CC vs H Q
theorem scAbv:FnScope ["self","y","stretch","height"] ["self","y","stretch","height"] (defScope sSpAbove):=⟨rfl,rfl,rfl,by decide +kernel,rfl,by decide +kernel,by decide +kernel⟩
theorem SsAt.row {H:Hp} {c R:Addr} {rows:List (List Int)} (S:SsAt CC H c R rows) (rect:Rect rows) (small:Small rows) {y:Int} (y0:0≤y) (y1:y < rows.length):∃ (rs:List Addr) (l:Addr) (hs:List Int),H R=some (.lst (rs.map V.ref))∧SpAt H rs (rows.map spans)∧(R ∉ rs∧rs.Nodup)∧atI (rs.map V.ref) y=some (.ref l)∧rs[y.toNat]?=some l∧rows[y.toNat]?=some hs∧rows.getD y.toNat []=hs∧SpRow H l (spans hs)∧hs.length=(rows.headD []).length∧hs.length≤40:=by
 obtain ⟨rs,hR,sp,nR⟩:=S.hR
 obtain ⟨i,rfl⟩:∃ i:Nat,y=(i:Int):=⟨y.toNat,by lia⟩
 rw [Aj]
 have hi:i < rows.length:=by lia
 have e1:=AB hi
 obtain ⟨l,e2,e3⟩:=sp.at_ (i:=i) (r:=spans rows[i]) (by rw [AF,e1]; rfl)
 have m:=Ak hi
 exact ⟨rs,l,rows[i],hR,sp,nR,atI_nat (by rw [AF,e2]; rfl),e2,e1,by rw [Ar,e1]; rfl,e3,rect.2 _ m,small.2 _ m⟩
theorem ok_abv (VV:VS K mg CV CC) (FW:Fn P w K mg base "pieces_within" 2 ["row","width","stretch"] (spPW K)) (F:Fun K "pieces_above" "Spans.pieces_above" sSpAbove f fd'):FnOk P w K mg base (CX1 P w) 3 f fd' ["self","y","stretch","height"] (spAbv CC):=by
 have nd:=scAbv.nd
 refine F.ok1 scAbv (fun vs H Q E h=>?_) (fun cdv A outer s H vs Q E hr h=>?_)
 ·obtain ⟨c,R,st,rows,u,z,rfl,_⟩:=h
  rfl
 obtain ⟨c,R,st,rows,u,z,rfl,S,rect,small,hst,uok,q⟩:=h
 refine ⟨_,(pss_one (ps_ret (pe_lc (own:=["piece"]) (capn:=["height"]) (capI:=[3]) rfl (blkC (defScope sSpAbove) rfl rfl (by decide +kernel) rfl (fun y hy=>by rcases AW.mp hy with rfl | hy; exact ⟨rfl,rfl⟩; cases hy)) (pi_listK (K:=K) rfl (pf_call FW hr rfl (pass1 (E:=E)) (pa_cons (pe_ix (ix_listK (K:=K) rfl) (pe_fld (pv 0) rfl) (pv 1) (fun _ _=>rfl)) (pa_cons (pe_fld (pv 0) rfl) (pa_cons (pv 2) pa_nil))))) (fun _ _ _ _ _ _=>pg_name (i:=0) (nd2 psh) rfl (Or.inl rfl)) (fun _ _ _ _ _ _=>(pifs_one (pt_cmpR op_gt (pe_ix (ix_tupK (K:=K) rfl) (pv 0) pe_int (fun _ _=>rfl)) (pv 1) (nomark _)))) (fun _ _ _ _ _ _=>(pv 0))))),?_⟩
 obtain ⟨y0,y1,a0,ab,bw⟩:=uok u (AJ.mpr rfl)
 obtain ⟨rs,l,hs,hR,sp,_,el,_,_,eg,row,hw,h40⟩:=S.row rect small y0 y1
 obtain ⟨dx,hc⟩:=S.ob
 have hp:0 < hs.length:=by lia
 have sl:=spans_len hs
 refine ⟨_,rfl,c,CC,dx,_,_,rfl,hc,VV.clC,VV.nRows,rfl,_,rfl,R,_,_,.ref l,rfl,rfl,SqL.of hR,el,_,rfl,c,CC,dx,_,_,rfl,hc,VV.clC,VV.nWidth,rfl,_,rfl,.ref l,spans hs,_,u.2.1,u.2.2,st,rfl,row.rp,spans_ne hp,(by lia),SqT.of hst,fun l1 H1 s1 nl1 pc=>?_⟩
 unfold abv at q
 rw [eg] at q
 obtain ⟨ts,hl1,mv⟩:=pc
 have tsl:ts.length=(pIn u.2.1 u.2.2 (pcI (rows.headD []).length (spans hs))).length:=by rw [mv.len,AA]
 have p100:(pIn u.2.1 u.2.2 (pcI (rows.headD []).length (spans hs))).length≤1000:=Ag (pIn_len _ _ _) (by rw [pcI_len]; lia)
 generalize pIn u.2.1 u.2.2 (pcI (rows.headD []).length (spans hs))=cs at mv tsl p100 q
 refine ⟨l1,rfl,⟨_,SqL.of hl1⟩,fun D2 hD2=>?_⟩
 refine ⟨Wd ts.length (fun i σ acc G2=>Ex2 fun (x:Option V) (ws:List Addr)=>σ=[x,some (.int z)]∧acc=ws.map V.ref∧ws.length≤i∧MvAt G2 ws (((cs.take i).filter fun q=>decide (q.2.2 > z)).map pcV)∧Same H1 G2∧G2 D2=some (.lst acc)),wd_0 ⟨none,[],rfl,rfl,AD _,by rw [Am]; exact AS,same_upd hD2 _,upd_same⟩,?_⟩
 rintro j jm σ acc G2 ⟨rfl,hj0,x,ws,rfl,rfl,wl,mw,s2,hD3⟩
 refine lc_ask (K:=K) (xs:=ts.map V.ref) (SqL.of (s2 _ _ hl1)) (by rw [AA]; exact hj0) (fun x hx hj=>?_) (fun hend=>?_)
 ·obtain ⟨t,ht,rfl⟩:=ref_get hx
  have hj':j < ts.length:=by rw [AA] at hj; exact hj
  have hjq:j < cs.length:=by lia
  have eq:=AB hjq
  have gt:G2 t=some (.tup (pcV cs[j])):=s2 _ _ (mv.at_ ht (by rw [AF,eq]; rfl))
  generalize cs[j]=p at eq gt
  refine ⟨_,rfl,t,_,2,.int p.2.2,rfl,rfl,SqT.of gt,rfl,_,rfl,_,_,rfl,rfl,_,rfl,?_⟩
  by_cases c:p.2.2 > z
  ·refine iteTd c ⟨_,rfl,hD3,(by rw [AA]; exact line3 (show ws.length≤1000 by lia) (by decide)),wd_next hj' ⟨_,ws++[t],rfl,by rw [AG]; rfl,by rw [AI]; show ws.length + 1≤_; lia,?_,same_in s2 hD2,upd_same⟩⟩
   rw [An,eq,List.filter_append,AG]
   have e1:(Option.toList (some p)).filter (fun q:Pc=>decide (q.2.2 > z))=[p]:=by simp [c]
   rw [e1]
   exact (mw.snoc gt).upd (fun m e=>by rw [hD3] at e; cases e)
  ·refine iteFd c (wd_next hj' ⟨_,ws,rfl,rfl,by lia,?_,s2,hD3⟩)
   rw [An,eq,List.filter_append]
   have e1:(Option.toList (some p)).filter (fun q:Pc=>decide (q.2.2 > z))=[]:=by simp [c]
   rw [e1,BB]
   exact mw
 ·rw [AA] at hend
  rw [hend,tsl,AT (AD _)] at mw
  exact q D2 _ (s1.trans s2) (s1.free hD2) ⟨ws,hD3,mw⟩
inductive PspSRis (CC:Addr) (vs:List V) (H:Hp) (Q:VK):Prop
 | mk (c R ul:Addr) (ts:List Addr) (rows:List (List Int)) (us:Us) (z:Int) (h0:vs=[.ref c,.ref ul,.int z]) (h1:SsAt CC H c R rows) (h2:Rect rows) (h3:Small rows) (h4:H ul=some (.lst (ts.map V.ref))) (h5:UnAt H ts us) (h6:UsOk rows us) (h7:us.length≤160000) (h8:∀ H',Same H H'→Q (.bl (risS rows us z)) H'):PspSRis CC vs H Q
def spSRis (CC:Addr):Sp:=fun vs H Q _=>PspSRis CC vs H Q
theorem scSRis:FnScope ["self","under","height"] ["self","under","height"] (defScope sSpRises):=⟨rfl,rfl,rfl,by decide +kernel,rfl,by decide +kernel,by decide +kernel⟩
theorem ok_sRis (T:LawT mg) (VV:VS K mg CV CC) (MA:Mt P w K mg base CC "pieces_above" 3 ["self","y","stretch","height"] (spAbv CC)) (F:Fun K "rises_above" "Spans.rises_above" sSpRises f fd'):FnOk P w K mg base (CX1 P w) 4 f fd' ["self","under","height"] (spSRis CC):=by
 have nd:=scSRis.nd
 refine F.ok1 scSRis (fun vs H Q E h=>?_) (fun cdv A outer s H vs Q E hr h=>?_)
 ·obtain ⟨c,R,ul,ts,rows,us,z,rfl,_⟩:=h
  rfl
 obtain ⟨c,R,ul,ts,rows,us,z,rfl,S,rect,small,hul,un,uok,ulen,q⟩:=h
 have tl:=un.len
 refine ⟨_,(pss_one (ps_ret (pe_callB (call_anyB rfl) rfl VV.any bt_any (pa_cons (pe_lc (own:=["y","stretch"]) (capn:=["self","height"]) (capI:=[0,2]) rfl (blkC (defScope sSpRises) rfl rfl (by decide +kernel) rfl (fun y hy=>by rcases AW.mp hy with rfl | hy; exact ⟨rfl,rfl⟩; rcases AW.mp hy with rfl | hy; exact ⟨rfl,rfl⟩; cases hy)) (pi_listK (K:=K) rfl (pv 1)) (fun _ _ _ _ _ _=>pg_tupK (K:=K) (n:=2) rfl rfl (pgs_cons (pg_name (i:=0) nd4r rfl (Or.inl rfl)) (pgs_cons (pg_name (i:=1) nd4r rfl (Or.inl rfl)) pgs_nil))) (fun _ _ _ _ _ _=>pifs_nil) (fun _ _ _ _ _ _=>(pe_cmpR op_gt (pe_callB (call_lenK (K:=K) rfl) rfl T.len Ao (pa_cons (pf_meth MA (pv 2) hr passN (pa_cons (pv 0) (pa_cons (pv 1) (pa_cons (pv 3) pa_nil)))) pa_nil)) pe_int (nomark _)))) pa_nil)))),?_⟩
 refine ⟨_,rfl,ul,rfl,⟨_,SqL.of hul⟩,fun D hD=>?_⟩
 refine ⟨Wd us.length (fun i σ acc G=>∃ (z1 z2:Option V),σ=[z1,z2,some (.ref c),some (.int z)]∧acc=((us.take i).map fun u=>decide (((abv rows u z).length:Int) > 0)).map V.bl∧Same H G∧G D=some (.lst acc)),wd_0 ⟨none,none,rfl,by rw [Am]; rfl,same_upd hD _,upd_same⟩,?_⟩
 rintro i im σ acc G ⟨rfl,hi0,z1,z2,rfl,rfl,sG,hDG⟩
 refine lc_ask (K:=K) (xs:=ts.map V.ref) (SqL.of (sG _ _ hul)) (by rw [AA,tl]; exact hi0) (fun x hx hi=>?_) (fun hend=>?_)
 ·obtain ⟨t,et,rfl⟩:=ref_get hx
  have hi':i < us.length:=by rw [AA,tl] at hi; exact hi
  have eu:=AB hi'
  obtain ⟨st,g1,g2⟩:=un.at_ et eu
  have ok1:=uok _ (Ak hi')
  generalize us[i]=u at eu g1 g2 ok1
  have SG:=S.same sG
  obtain ⟨dx,hc⟩:=SG.ob
  refine ⟨t,_,rfl,SqT.of (sG _ _ g1),rfl,_,_,rfl,_,_,rfl,rfl,?_⟩
  refine ⟨_,rfl,c,dx,_,rfl,hc,rfl,_,rfl,_,rfl,_,rfl,c,R,st,rows,u,z,rfl,SG,rect,small,sG _ _ g2,(fun v hv=>by rw [AJ.mp hv]; exact ok1),fun l G1 s1 nl pc=>?_⟩
  obtain ⟨ps,hl,mv⟩:=pc
  have pl:(ps.map V.ref).length=(abv rows u z).length:=by rw [AA,mv.len,AA]
  refine ⟨l,_,rfl,.inl (SqL.of hl),_,_,rfl,rfl,?_⟩
  rw [pl]
  refine ⟨s1 _ _ hDG,(by rw [AA,AA,A0]; exact big16 (by lia)),wd_next hi' ⟨_,_,rfl,?_,same_in (sG.trans s1) hD,upd_same⟩⟩
  rw [An,eu,AG,AG]
  rfl
 ·rw [AA,tl] at hend
  rw [hend,AT (AD _)] at hDG
  refine ⟨D,_,rfl,SqL.of hDG,?_⟩
  have e:((us.map fun u=>decide (((abv rows u z).length:Int) > 0)).any id)=risS rows us z:=by
   unfold risS
   rw [List.any_map]
   rfl
  rw [e]
  exact q _ sG
end
def cutU (rows:List (List Int)) (u:Int×Int×Int) (z:Int):List (List Int):=rows.set u.1.toNat (cutL (rows.getD u.1.toNat []) u.2.1 u.2.2 z)
def lossU (rows:List (List Int)) (u:Int×Int×Int) (z:Int):Int:=lostP z (pIn u.2.1 u.2.2 (pcI (rows.headD []).length (spans (rows.getD u.1.toNat []))))
def stepU (z:Int) (s:List (List Int)×Int) (u:Int×Int×Int):List (List Int)×Int:=(cutU s.1 u z,s.2 + lossU s.1 u z)
def dwnS (rows:List (List Int)) (us:Us) (z:Int):List (List Int)×Int:=us.foldl (stepU z) (rows,0)
theorem Alike.head {a b:List (List Int)} (h:Alike a b):(a.headD []).length=(b.headD []).length:=by
 cases a with
 | nil =>
  cases b with
  | nil=>rfl
  | cons s b=>cases h.1
 | cons r a =>
  cases b with
  | nil=>cases h.1
  | cons s b=>exact h.2 0 r s rfl rfl
theorem Alike.small {a b:List (List Int)} (h:Alike a b) (s:Small a):Small b:=by
 refine ⟨by rw [← h.1]; exact s.1,fun r hr=>?_⟩
 obtain ⟨i,hi⟩:=A8 hr
 have hl:i < a.length:=by rw [h.1]; exact (AE.mp hi).1
 have e:=AB hl
 rw [← h.2 i _ r e hi]
 exact s.2 _ (Ak hl)
theorem cutU_alike (rows:List (List Int)) (u:Int×Int×Int) (z:Int):Alike rows (cutU rows u z):=by
 refine ⟨by unfold cutU; rw [List.length_set],fun i r s hr hs=>?_⟩
 unfold cutU at hs
 rw [List.getElem?_set] at hs
 split at hs
 ·rename_i e
  split at hs
  ·cases hs
   rw [cutL_len,e,Ar,hr]
   rfl
  ·cases hs
 ·rw [hr] at hs
  cases hs
  rfl
theorem dwnS_alike (z:Int):∀ (us:Us) (s:List (List Int)×Int),Alike s.1 (us.foldl (stepU z) s).1
 | [],s=>Alike.refl _
 | u :: us,s=>(cutU_alike s.1 u z).trans (dwnS_alike z us (stepU z s u))
theorem lostP_sum (z:Int):∀ ps:List Pc,lostP z ps=sumL ((ps.filter fun q=>decide (q.2.2 > z)).map fun q=>(q.2.1 - q.1) * (q.2.2 - z))
 | []=>rfl
 | q :: ps=>by
  have I:=lostP_sum z ps
  show (if q.2.2 > z then (q.2.1 - q.1) * (q.2.2 - z) else 0) + lostP z ps=_
  by_cases c:q.2.2 > z
  ·rw [if_pos c,List.filter_cons_of_pos (p:=fun q:Pc=>decide (q.2.2 > z)) (show decide (q.2.2 > z)=true from decide_eq_true c),Az,I]
   rfl
  ·rw [if_neg c,List.filter_cons_of_neg (p:=fun q:Pc=>decide (q.2.2 > z)) (show ¬ decide (q.2.2 > z)=true from fun e=>c (of_decide_eq_true e)),I,Int.zero_add]
theorem cutL_same {hs:List Int} {a b z:Int} (h:∀ x:Nat,a≤(x:Int)→(x:Int) < b→hs.getD x 0≤z):cutL hs a b z=hs:=by
 unfold cutL
 rw [show (fun x:Nat=>if a≤(x:Int)∧(x:Int) < b then min (hs.getD x 0) z else hs.getD x 0)=fun x=>hs.getD x 0 from funext fun x=>?_]
 ·exact range_getD hs
 ·split
  ·rename_i c
   have:=h x c.1 c.2
   lia
  ·rfl
theorem set_row {rows:List (List Int)} {i:Nat} {hs:List Int} (h:rows[i]?=some hs):rows.set i hs=rows:=by
 apply List.ext_getElem?
 intro j
 rw [List.getElem?_set]
 split
 ·rename_i e
  subst e
  rw [h]
  split
  ·rfl
  ·rename_i n
   exact absurd (AE.mp h).1 n
 ·rfl
theorem none_above {rows:List (List Int)} {u:Int×Int×Int} {z:Int} {hs:List Int} (er:rows[u.1.toNat]?=some hs) (eg:rows.getD u.1.toNat []=hs) (hw:hs.length=(rows.headD []).length) (a0:0≤u.2.1) (ab:u.2.1 < u.2.2) (bw:u.2.2≤(rows.headD []).length) (h:abv rows u z=[]) :
  lossU rows u z=0∧cutU rows u z=rows:=by
 unfold abv at h
 rw [eg] at h
 constructor
 ·unfold lossU
  rw [eg,lostP_sum,h]
  rfl
 ·unfold cutU
  rw [eg]
  have C:=ch_in (a:=u.2.1) (b:=u.2.2) (ch_spans hs hs.length)
  have l0:(0:Int)≤max 0 u.2.1:=by lia
  have A:=ch_any (z:=z) l0 C
  rw [hw] at A
  have no:¬ ∃ q∈pIn u.2.1 u.2.2 (pcI (rows.headD []).length (spans hs)),q.2.2 > z:=fun ⟨q,hq,g⟩=>by
   have m:q∈(pIn u.2.1 u.2.2 (pcI (rows.headD []).length (spans hs))).filter fun q=>decide (q.2.2 > z):=List.mem_filter.mpr ⟨hq,decide_eq_true g⟩
   rw [h] at m
   cases m
  have e:cutL hs u.2.1 u.2.2 z=hs:=cutL_same fun x x1 x2=>by
   apply Classical.byContradiction
   intro g
   refine no ?_
   have:=A.mpr ⟨x,by lia,by lia,by lia⟩
   have e2:spN hs (rows.headD []).length=spans hs:=by rw [← hw]
   rw [e2] at this
   exact this
  rw [e]
  exact set_row er
theorem pIn_bd {a b:Int} {ps:List Pc}:∀ q∈pIn a b ps,a≤q.1∧q.1 < q.2.1∧q.2.1≤b:=fun q hq=>by
 unfold pIn at hq
 obtain ⟨h1,h2⟩:=List.mem_filter.mp hq
 obtain ⟨p,_,rfl⟩:=A6.mp h1
 have h3:max p.1 a < min p.2.1 b:=of_decide_eq_true h2
 show a≤max p.1 a∧max p.1 a < min p.2.1 b∧min p.2.1 b≤b
 lia
section
variable {P:Program} {w:World} {K:PySem.W.Frag} {mg:Str→Option Value} {base:Heap} {CV CC f:Addr} {fd':FuncData}
def RwF (R:Addr) (H H':Hp):Prop:=∀ rs rs':List Addr,H R=some (.lst (rs.map V.ref))→H' R=some (.lst (rs'.map V.ref))→∀ r∈rs',r∈rs∨H r=none
theorem ref_inj {rs rs':List Addr} (h:rs.map V.ref=rs'.map V.ref):rs=rs':=by
 induction rs generalizing rs' with
 | nil=>cases rs' with
  | nil=>rfl
  | cons a b=>cases h
 | cons a b ih=>cases rs' with
  | nil=>cases h
  | cons c d =>
   rw [Az,Az] at h
   injection h with h1 h2
   cases h1
   rw [ih h2]
theorem nodup_set {l:Addr}:∀ {rs:List Addr} {i:Nat},rs.Nodup→l ∉ rs→(rs.set i l).Nodup
 | [],_,h,_=>h
 | a :: r,0,h,n=>List.nodup_cons.mpr ⟨fun z=>n (AR _ z),(List.nodup_cons.mp h).2⟩
 | a :: r,i + 1,h,n=>by
  obtain ⟨h1,h2⟩:=List.nodup_cons.mp h
  refine List.nodup_cons.mpr ⟨fun z=>?_,nodup_set h2 fun z=>n (AR _ z)⟩
  rcases List.mem_or_eq_of_mem_set z with z | z
  ·exact h1 z
  ·exact n (by rw [← z]; exact Ab)
theorem RwF.refl (R:Addr) (H:Hp):RwF R H H:=fun rs rs' a b r hr=>.inl (by rw [a] at b; injection b with b; injection b with b; rw [ref_inj b]; exact hr)
inductive PspSDn (CC:Addr) (vs:List V) (H:Hp) (Q:VK):Prop
 | mk (c R ul:Addr) (ts:List Addr) (rows:List (List Int)) (us:Us) (z:Int) (h0:vs=[.ref c,.ref ul,.int z]) (h1:SsAt CC H c R rows) (h2:Rect rows) (h3:Small rows) (h4:H ul=some (.lst (ts.map V.ref))) (h5:UnAt H ts us) (h6:UsOk rows us) (h7:ul≠R) (h8:∀ H',Sb R H H'→SsAt CC H' c R (dwnS rows us z).1→RwF R H H'→Q (.int (dwnS rows us z).2) H'):PspSDn CC vs H Q
def spSDn (CC:Addr):Sp:=fun vs H Q _=>PspSDn CC vs H Q
theorem scSDn:FnScope ["self","under","height","taken","y","stretch","pieces"] ["self","under","height"] (defScope sSpDown):=⟨rfl,rfl,rfl,by decide +kernel,rfl,by decide +kernel,by decide +kernel⟩
theorem ok_sDn (hsum:mg "sum"=none) (VV:VS K mg CV CC) (MA:Mt P w K mg base CC "pieces_above" 3 ["self","y","stretch","height"] (spAbv CC)) (FC:Fn P w K mg base "cut_row" 3 ["row","width","stretch","height"] (spCR K)) (F:Fun K "cut_down" "Spans.cut_down" sSpDown f fd'):FnOk P w K mg base (CX1 P w) 4 f fd' ["self","under","height"] (spSDn CC):=by
 have nd:=scSDn.nd
 refine F.ok1 scSDn (fun vs H Q E h=>?_) (fun cdv A outer s H vs Q E hr h=>?_)
 ·obtain ⟨c,R,ul,ts,rows,us,z,rfl,_⟩:=h
  rfl
 obtain ⟨c,R,ul,ts,rows,us,z,rfl,S,rect,small,hul,un,uok,nul,q⟩:=h
 have tl:=un.len
 refine ⟨_,(pss_cons (ps_set (i:=3) nd rfl (Or.inl rfl) pe_int)
  (pss_cons (ps_for own1 rfl (pi_listK (K:=K) rfl (pv 1)) (pg_tup (n:=2) rfl (pgs_cons (pg_name (i:=4) nd rfl (Or.inl rfl)) (pgs_cons (pg_name (i:=5) nd rfl (Or.inl rfl)) pgs_nil))) (pss_cons (ps_set (i:=6) nd rfl (Or.inl rfl) (pf_meth MA (pv 0) hr (pass1 (E:=E)) (pa_cons (pv 4) (pa_cons (pv 5) (pa_cons (pv 2) pa_nil)))))
  (pss_one (ps_if (pt_truth (pv 6) (fun _=>rfl)) (pss_cons (ps_aug (i:=3) nd rfl (Or.inl rfl) (pe_callB (call_sumEK (K:=K) rfl rfl) rfl hsum bt_sum (pa_cons (pe_lc (own:=["piece"]) (capn:=["height"]) (capI:=[2]) rfl (blkC (defScope sSpDown) rfl rfl (by decide +kernel) rfl (fun y hy=>by rcases AW.mp hy with rfl | hy; exact ⟨rfl,rfl⟩; cases hy)) (pi_listK (K:=K) rfl (pv 6)) (fun _ _ _ _ _ _=>pg_name (i:=0) (nd2 psh) rfl (Or.inl rfl)) (fun _ _ _ _ _ _=>pifs_nil) (fun _ _ _ _ _ _=>(pe_op op_mul (pe_op op_sub (pe_ix (ix_tupK (K:=K) rfl) (pv 0) pe_int (fun _ _=>rfl)) (pe_ix (ix_tupK (K:=K) rfl) (pv 0) pe_int (fun _ _=>rfl))) (pe_op op_sub (pe_ix (ix_tupK (K:=K) rfl) (pv 0) pe_int (fun _ _=>rfl)) (pv 1))))) pa_nil)) ip_add)
  (pss_one (ps_asg (pf_call FC hr rfl (pass1 (E:=E)) (pa_cons (pe_ix (ix_listK (K:=K) rfl) (pe_fld (pv 0) rfl) (pv 4) (fun _ _=>rfl)) (pa_cons (pe_fld (pv 0) rfl) (pa_cons (pv 5) (pa_cons (pv 2) pa_nil))))) (pg_sub (pe_fld (pv 0) rfl) (pv 4) set_list)))) pss_nil))))
  (pss_one (ps_ret (pv 3))))),?_⟩
 refine ⟨_,rfl,ul,rfl,⟨_,SqL.of hul⟩,?_⟩
 refine for_list (K:=K) (xs:=ts.map V.ref) (fun i σ G=>Ex3 fun (x4 x5 x6:Option V)=>σ=[some (.ref c),some (.ref ul),some (.int z),some (.int (dwnS rows (us.take i) z).2),x4,x5,x6]∧Sb R H G∧SsAt CC G c R (dwnS rows (us.take i) z).1∧RwF R H G) ⟨none,none,none,by rw [Am]; rfl,Sb.refl _,by rw [Am]; exact S,RwF.refl _ _⟩ ?_ ?_ ?_
 ·rintro i σ G _ ⟨x4,x5,x6,rfl,sb,_⟩
  exact SqL.of (sb _ _ nul hul)
 ·rintro i v σ G hv ⟨x4,x5,x6,rfl,sb,SG,rf⟩
  obtain ⟨t,et,rfl⟩:=ref_get hv
  have hi:i < us.length:=by have:=(AE.mp et).1; lia
  have eu:=AB hi
  obtain ⟨rs0,hR0,_⟩:=S.hR
  have unG:UnAt G ts us:=un.keep fun x m e=>sb _ _ (fun y=>by rw [y,hR0] at e; cases e) e
  obtain ⟨st,g1,g2⟩:=unG.at_ et eu
  have ok1:=uok _ (Ak hi)
  generalize us[i]=u at eu g1 g2 ok1
  have enx:dwnS rows (us.take (i + 1)) z=stepU z (dwnS rows (us.take i) z) u:=by
   unfold dwnS
   rw [An,eu,List.foldl_append]
   rfl
  have al:Alike rows (dwnS rows (us.take i) z).1:=dwnS_alike z (us.take i) (rows,0)
  rw [enx]
  generalize dwnS rows (us.take i) z=W at SG al
  obtain ⟨rw0,tk⟩:=W
  have SG':SsAt CC G c R rw0:=SG
  have al':Alike rows rw0:=al
  have rect':=al'.rect rect
  have small':=al'.small small
  obtain ⟨y0,y1,a0,ab,bw⟩:=ok1
  rw [al'.1] at y1
  rw [al'.head] at bw
  obtain ⟨dx,hc⟩:=SG'.ob
  refine ⟨t,_,rfl,SqT.of g1,rfl,_,_,rfl,_,_,rfl,rfl,?_⟩
  refine ⟨_,rfl,c,dx,_,rfl,hc,rfl,_,rfl,_,rfl,_,rfl,c,R,st,rw0,u,z,rfl,SG',rect',small',g2,(fun v hv=>by rw [AJ.mp hv]; exact ⟨y0,y1,a0,ab,bw⟩),fun l G1 s1 nl pc=>?_⟩
  obtain ⟨ps,hl,mv⟩:=pc
  have S1:=SG'.same s1
  obtain ⟨rs,lr,hs,hR,sp,⟨nR,ndR⟩,el,elr,er,eg,row,hw,h40⟩:=S1.row rect' small' y0 y1
  obtain ⟨dx1,hc1⟩:=S1.ob
  have sb1:Sb R H G1:=fun x o n e=>s1 _ _ (sb x o n e)
  refine ⟨_,rfl,!(ps.map V.ref).isEmpty,.inl ⟨_,SqL.of hl,rfl⟩,?_⟩
  have psl:ps.length=(abv rw0 u z).length:=by rw [mv.len,AA]
  refine ite2 (fun hc2=>?_) (fun hc2=>?_)
  ·-- something is above
   have hq0:abv rw0 u z=(pIn u.2.1 u.2.2 (pcI (rw0.headD []).length (spans hs))).filter fun q=>decide (q.2.2 > z):=by unfold abv; rw [eg]
   have bd:∀ q∈abv rw0 u z,u.2.1≤q.1∧q.1 < q.2.1∧q.2.1≤u.2.2:=fun q hq=>by
    rw [hq0] at hq
    exact pIn_bd q (List.mem_filter.mp hq).1
   have els:lossU rw0 u z=sumL ((abv rw0 u z).map fun q=>(q.2.1 - q.1) * (q.2.2 - z)):=by
    unfold lossU
    rw [lostP_sum,hq0,eg]
   have p1000:(abv rw0 u z).length≤1000:=by
    rw [hq0]
    refine Ag (List.length_filter_le _ _) (Ag (pIn_len _ _ _) ?_)
    rw [pcI_len]
    have:=spans_len hs
    lia
   generalize abv rw0 u z=qs at mv psl bd els p1000
   refine ⟨_,rfl,_,rfl,l,rfl,⟨_,SqL.of hl⟩,fun D hD=>?_⟩
   refine ⟨Wd ps.length (fun j σ acc G2=>∃ (x:Option V),σ=[x,some (.int z)]∧acc=((qs.take j).map fun q=>(q.2.1 - q.1) * (q.2.2 - z)).map V.int∧Same G1 G2∧G2 D=some (.lst acc)),wd_0 ⟨none,rfl,by rw [Am]; rfl,same_upd hD _,upd_same⟩,?_⟩
   rintro j jm σ acc G2 ⟨rfl,hj0,x,rfl,rfl,s2,hD2⟩
   refine lc_ask (K:=K) (xs:=ps.map V.ref) (SqL.of (s2 _ _ hl)) (by rw [AA]; exact hj0) (fun x hx hj=>?_) (fun hend=>?_)
   ·obtain ⟨t2,ht2,rfl⟩:=ref_get hx
    have hj':j < ps.length:=by rw [AA] at hj; exact hj
    have hjq:j < qs.length:=by lia
    have eq:=AB hjq
    have gt:G2 t2=some (.tup (pcV qs[j])):=s2 _ _ (mv.at_ ht2 (by rw [AF,eq]; rfl))
    have bp:=bd _ (Ak hjq)
    generalize qs[j]=p at eq gt bp
    have w40:(rw0.headD []).length≤40:=by lia
    refine ⟨_,rfl,t2,_,1,.int p.2.1,rfl,rfl,SqT.of gt,rfl,_,rfl,t2,_,0,.int p.1,rfl,rfl,SqT.of gt,rfl,_,_,rfl,rfl,_,rfl,t2,_,2,.int p.2.2,rfl,rfl,SqT.of gt,rfl,_,rfl,_,_,rfl,rfl,_,_,rfl,rfl,.inl ⟨by lia,by lia⟩,?_⟩
    refine ⟨hD2,(by rw [AA,AA,A0]; exact big16 (by lia)),wd_next hj' ⟨_,rfl,?_,same_in s2 hD,upd_same⟩⟩
    rw [An,eq,AG,AG]
    rfl
   ·rw [AA] at hend
    rw [hend,psl,AT (AD _)] at hD2
    refine ⟨D,_,rfl,SqL.of hD2,_,_,rfl,rfl,?_⟩
    rw [← els]
    have hc3:=s2 _ _ hc1
    have hR3:=s2 _ _ hR
    have hp:0 < hs.length:=by lia
    have sl:=spans_len hs
    refine ⟨_,rfl,c,CC,dx1,_,_,rfl,hc3,VV.clC,VV.nRows,rfl,_,rfl,R,_,_,.ref lr,rfl,rfl,SqL.of hR3,el,_,rfl,c,CC,dx1,_,_,rfl,hc3,VV.clC,VV.nWidth,rfl,_,rfl,_,rfl,.ref lr,spans hs,_,u.2.1,u.2.2,z,st,rfl,(row.same s2).rp,spans_ne hp,(by lia),SqT.of (s2 _ _ (s1 _ _ g2)),fun l2 G3 s3 nl2 row2=>?_⟩
    have ej:rs[u.1.toNat]?=some lr:=elr
    have jx:ixN (rs.map V.ref).length u.1=some u.1.toNat:=by
     have hj:=(AE.mp ej).1
     have:=ixN_nat (n:=(rs.map V.ref).length) (j:=u.1.toNat) (by rw [AA]; exact hj)
     rw [Int.toNat_of_nonneg y0] at this
     exact this
    have hR4:=s3 _ _ hR3
    refine ⟨_,rfl,c,CC,dx1,_,_,rfl,s3 _ _ hc3,VV.clC,VV.nRows,rfl,_,rfl,R,_,_,u.1.toNat,rfl,rfl,hR4,jx,?_⟩
    have e3:(rs.map V.ref).set u.1.toNat (.ref l2)=(rs.set u.1.toNat l2).map V.ref:=List.map_set.symm
    have nl2R:l2≠R:=fun y=>by rw [y,hR3] at nl2; cases nl2
    have e4:cutS ((rw0.headD []).length:Int) (spans hs) u.2.1 u.2.2 z=spans (cutL hs u.2.1 u.2.2 z):=by
     rw [← hw]
     exact cut_spans a0 (by lia) (by rw [hw]; exact bw)
    rw [e4] at row2
    refine ⟨_,_,_,rfl,fun x o n e=>by rw [upd_ne n]; exact s3 _ _ (s2 _ _ (sb1 x o n e)),⟨⟨dx1,?_⟩,rs.set u.1.toNat l2,?_,?_,?_,?_⟩,?_⟩
    ·rw [upd_ne (fun y=>by rw [y,hR] at hc1; cases hc1)]
     show G3 c=some (.ins CC dx1 [("rows",.ref R),("width",.int (((cutU rw0 u z).headD []).length:Int))])
     rw [← (cutU_alike rw0 u z).head]
     exact s3 _ _ hc3
    ·rw [upd_same,e3]
    ·show SpAt _ _ ((cutU rw0 u z).map spans)
     unfold cutU
     rw [eg,List.map_set]
     refine SpAt.upd (fun m y=>by rw [hR4] at y; cases y) (fun y=>?_) (SpAt.set row2 (sp.same (s2.trans s3)))
     rcases List.mem_or_eq_of_mem_set y with y | y
     ·exact nR y
     ·exact nl2R y.symm
    ·intro y
     rcases List.mem_or_eq_of_mem_set y with y | y
     ·exact nR y
     ·exact nl2R y.symm
    ·have nl2r:l2 ∉ rs:=fun y=>by
      obtain ⟨xs,hx⟩:=sp.mem l2 y
      rw [s2 _ _ hx] at nl2
      cases nl2
     exact nodup_set ndR nl2r
    ·intro rsa rsb ha hb r hr
     rw [upd_same,e3] at hb
     injection hb with hb
     injection hb with hb
     rw [← ref_inj hb] at hr
     rcases List.mem_or_eq_of_mem_set hr with y | y
     ·exact rf rsa rs ha (by
       obtain ⟨rsg,hg,_⟩:=SG'.hR
       have:=s1 _ _ hg
       rw [hR] at this
       rw [hg]
       exact this.symm) r y
     ·right
      rw [y]
      cases e:H l2 with
      | none=>rfl
      | some o=>rw [s2 _ _ (sb1 l2 o nl2R e)] at nl2; cases nl2
  ·have e0:abv rw0 u z=[]:=by
    apply List.length_eq_zero_iff.mp
    rw [← psl]
    cases ps with
    | nil=>rfl
    | cons _ _=>exact absurd rfl hc2
   obtain ⟨n1,n2⟩:=none_above er eg hw a0 ab bw e0
   refine ⟨some (.int u.1),some (.ref st),some (.ref l),?_,sb1,?_,?_⟩
   ·show _=[_,_,_,some (V.int (tk + lossU rw0 u z)),_,_,_]
    rw [n1,Int.add_zero]
    rfl
   ·show SsAt CC G1 c R (cutU rw0 u z)
    rw [n2]
    exact S1
   ·intro rsa rsb ha hb r hr
    obtain ⟨rsg,hg,_⟩:=SG'.hR
    have hg1:=s1 _ _ hg
    rw [hb] at hg1
    exact rf rsa rsb ha (by rw [hg]; exact hg1.symm) r hr
 ·rintro σ G ⟨x4,x5,x6,rfl,sb,SG,rf⟩
  rw [AA,tl,AT (AD _)] at SG ⊢
  exact ⟨_,rfl,q G sb SG rf⟩
end
end Car
namespace L2
open PySem PySem.Spec PyProof.Rows
theorem for_items {o:Obj} {a:Addr} {kvs:List (Key×V)} {g:TG} {tb:TS} {D:Ends} {σ:St} {H:Hp} (Pv:Nat→St→Hp→Prop) (h0:Pv 0 σ H) (hl:∀ i σ H,Pv i σ H→H a=some (.frz o (.dK kvs)))
  (hs:∀ i p σ H,kvs[i]?=some p→Pv i σ H→∀ T,H T=none→g (.ref T) σ (upd H T (.tup [kV p.1,p.2])) fun σ2 H2=>tb { D with nx:=Pv (i + 1),ct:=Pv (i + 1),bk:=D.nx } σ2 H2) (hd:∀ σ H,Pv kvs.length σ H→D.nx σ H) :
  ∃ W:Nat→Nat→St→Hp→Prop,(∃ m,W 0 m σ H)∧∀ i m σ H,W i m σ H →
   ((Iti o a).stop i H∧D.nx σ H)∨((Iti o a).go i H∧∃ N:St→Hp→Prop,(∀ σ' H',N σ' H'→∃ m',m' < m∧W (i + 1) m' σ' H')∧∀ x H',(Iti o a).yld i H x H'→g x σ H' fun σ2 H2=>tb { D with nx:=N,ct:=N,bk:=D.nx } σ2 H2):=by
 refine ⟨fun i m σ H=>m=kvs.length - i∧i≤kvs.length∧Pv i σ H,⟨kvs.length,by simp,Ai _,h0⟩,?_⟩
 rintro i m σ H ⟨rfl,hi,p⟩
 have q:=hl i σ H p
 by_cases hlt:i < kvs.length
 ·have ek:=AB hlt
  refine .inr ⟨⟨kvs,kvs[i],q,ek⟩,Pv (i + 1),fun σ' H' p'=>⟨kvs.length - (i + 1),by lia,rfl,hlt,p'⟩,fun x H' y=>?_⟩
  obtain ⟨T,rfl,hT,y⟩:=y
  rw [y _ _ q ek]
  exact hs i kvs[i] σ _ ek p T hT
 ·have e:i=kvs.length:=by lia
  subst e
  exact .inl ⟨⟨kvs,q,rfl⟩,hd σ H p⟩
end L2
namespace Car
open PySem L2
abbrev Es:=List (Addr×Int×Sp2)
def kvE (es:Es):List (Key×V):=es.map fun e=>((Sum.inl e.2.1:Key),V.ref e.1)
def CovE (es:Es) (x y:Int):Prop:=∃ e∈es,e.2.1=y∧Cov e.2.2 x
def putE (es:Es) (y:Int) (s:Int×Int):Es:=es.map fun e=>if e.2.1=y then (e.1,e.2.1,e.2.2++[s]) else e
theorem val_kvE (es:Es) (y:Int):(∃ e∈es,e.2.1=y∧valV (kvE es) (Sum.inl y)=some (.ref e.1))∨((∀ e∈es,e.2.1≠y)∧valV (kvE es) (Sum.inl y)=none):=by
 induction es with
 | nil=>exact .inr ⟨fun _ h=>(by cases h),rfl⟩
 | cons e es ih =>
  by_cases c:e.2.1=y
  ·refine .inl ⟨e,Ab,c,?_⟩
   unfold valV kvE
   rw [Az,List.find?_cons_of_pos (p:=fun kv:Key×V=>decide (kv.1=(Sum.inl y:Key))) (show decide ((Sum.inl e.2.1:Key)=Sum.inl y)=true by rw [c]; exact decide_eq_true rfl)]
   rfl
  ·have ne:¬ (decide ((Sum.inl e.2.1:Key)=Sum.inl y))=true:=fun z=>c (Sum.inl.inj (of_decide_eq_true z))
   have ev:valV (kvE (e :: es)) (Sum.inl y)=valV (kvE es) (Sum.inl y):=by
    unfold valV kvE
    rw [Az,List.find?_cons_of_neg (p:=fun kv:Key×V=>decide (kv.1=(Sum.inl y:Key))) (show ¬ decide ((Sum.inl e.2.1:Key)=Sum.inl y)=true from ne)]
   rw [ev]
   rcases ih with ⟨e',h1,h2,h3⟩ | ⟨h1,h2⟩
   ·exact .inl ⟨e',AR _ h1,h2,h3⟩
   ·refine .inr ⟨fun e' h=>?_,h2⟩
    rcases AW.mp h with rfl | h
    ·exact c
    ·exact h1 e' h
theorem kvE_put (es:Es) (y:Int) (s:Int×Int):kvE (putE es y s)=kvE es:=by
 unfold kvE putE
 rw [List.map_map]
 refine List.map_congr_left fun e _=>?_
 show ((Sum.inl (if e.2.1=y then (e.1,e.2.1,e.2.2++[s]) else e).2.1:Key),V.ref (if e.2.1=y then (e.1,e.2.1,e.2.2++[s]) else e).1)=_
 split <;> rfl
theorem kvE_new {es:Es} {y:Int} {a:Addr} (h:∀ e∈es,e.2.1≠y) (s:Int×Int):putK (kvE es) (Sum.inl y:Key) (V.ref a)=kvE (es++[(a,y,[s])]):=by
 unfold putK
 rw [if_neg (fun z=>?_)]
 ·unfold kvE
  rw [AG]
  rfl
 ·unfold kvE at z
  rw [List.any_map,List.any_eq_true] at z
  obtain ⟨e,he,e2⟩:=z
  exact h e he (Sum.inl.inj (of_decide_eq_true e2))
theorem mem_put {es:Es} {y:Int} {s:Int×Int} {e:Addr×Int×Sp2} (h:e∈putE es y s):(e∈es∧e.2.1≠y)∨∃ e'∈es,e'.2.1=y∧e=(e'.1,e'.2.1,e'.2.2++[s]):=by
 obtain ⟨e',h1,rfl⟩:=A6.mp h
 by_cases c:e'.2.1=y
 ·rw [if_pos c]
  exact .inr ⟨e',h1,c,rfl⟩
 ·rw [if_neg c]
  exact .inl ⟨h1,c⟩
theorem cov_put {es:Es} {y:Int} {s:Int×Int} (h:∃ e∈es,e.2.1=y) (x y':Int):CovE (putE es y s) x y'↔CovE es x y'∨(y'=y∧Cov [s] x):=by
 constructor
 ·rintro ⟨e,he,e1,c⟩
  rcases mem_put he with ⟨h1,_⟩ | ⟨e',h1,h2,rfl⟩
  ·exact .inl ⟨e,h1,e1,c⟩
  ·rcases cov_app.mp c with c | c
   ·exact .inl ⟨e',h1,e1,c⟩
   ·exact .inr ⟨e1.symm.trans h2,c⟩
 ·have key:∀ e∈es,(if e.2.1=y then (e.1,e.2.1,e.2.2++[s]) else e)∈putE es y s:=fun e he=>A6.mpr ⟨e,he,rfl⟩
  rintro (⟨e,he,e1,c⟩ | ⟨e1,c⟩)
  ·have k:=key e he
   by_cases d:e.2.1=y
   ·rw [if_pos d] at k
    exact ⟨_,k,e1,cov_app.mpr (.inl c)⟩
   ·rw [if_neg d] at k
    exact ⟨_,k,e1,c⟩
  ·obtain ⟨e,he,d⟩:=h
   have k:=key e he
   rw [if_pos d] at k
   exact ⟨_,k,d.trans e1.symm,cov_app.mpr (.inr c)⟩
theorem cov_new {es:Es} {y:Int} {s:Int×Int} {a:Addr} (x y':Int):CovE (es++[(a,y,[s])]) x y'↔CovE es x y'∨(y'=y∧Cov [s] x):=by
 constructor
 ·rintro ⟨e,he,e1,c⟩
  rcases AY.mp he with h | h
  ·exact .inl ⟨e,h,e1,c⟩
  ·rw [AJ.mp h] at e1 c
   exact .inr ⟨e1.symm,c⟩
 ·rintro (⟨e,he,e1,c⟩ | ⟨rfl,c⟩)
  ·exact ⟨e,List.mem_append_left _ he,e1,c⟩
  ·exact ⟨(a,y',[s]),Ad _ (AJ.mpr rfl),rfl,c⟩
structure FdIn (H0 G:Hp) (d:Addr) (w n:Int) (k:Int→Nat) (m:Nat) (es:Es):Prop where
 sm:Same H0 G
 nd0:H0 d=none
 hd:G d=some (.dK (kvE es))
 rows:∀ e∈es,SpRow G e.1 e.2.2
 fr:∀ e∈es,H0 e.1=none
 nda:(es.map (·.1)).Nodup
 ndk:(es.map (·.2.1)).Nodup
 bd:∀ e∈es,0≤e.2.1∧e.2.1 < n∧Stch 0 w e.2.2
 ln:∀ e∈es,e.2.2.length≤k e.2.1
 len:es.length≤m
section
variable {H0 G G':Hp} {d:Addr} {w n:Int} {k:Int→Nat} {m:Nat} {es:Es}
theorem FdIn.same (M:FdIn H0 G d w n k m es) (s:Same G G'):FdIn H0 G' d w n k m es:=⟨M.sm.trans s,M.nd0,s _ _ M.hd,fun e he=>(M.rows e he).same s,M.fr,M.nda,M.ndk,M.bd,M.ln,M.len⟩
theorem FdIn.up (M:FdIn H0 G d w n k m es) {k':Int→Nat} {m':Nat} (hk:∀ e∈es,k e.2.1≤k' e.2.1) (hm:m≤m'):FdIn H0 G d w n k' m' es:=⟨M.sm,M.nd0,M.hd,M.rows,M.fr,M.nda,M.ndk,M.bd,fun e he=>Ag (M.ln e he) (hk e he),Ag M.len hm⟩
theorem FdIn.old (M:FdIn H0 G d w n k m es) {y:Int} {s:Int×Int} {p:Addr} {ts:List Addr} {e:Addr×Int×Sp2} (he:e∈es) (ey:e.2.1=y) (hs:0≤s.1∧s.1 < s.2∧s.2≤w) (hl:G e.1=some (.lst (ts.map V.ref))) (mv:MvAt G ts (e.2.2.map pV)) (hp:G p=some (.tup (pV s))) :
  FdIn H0 (upd G e.1 (.lst ((ts++[p]).map V.ref))) d w n (fun y'=>if y'=y then k y + 1 else k y') m (putE es y s):=by
 have nt:∀ x,G e.1≠some (.tup x):=fun x z=>by rw [hl] at z; cases z
 have uq:∀ e'∈es,e'.2.1=y→e'=e:=fun e' h1 ey'=>by
  obtain ⟨i,hi⟩:=A8 h1
  obtain ⟨j,hj⟩:=A8 he
  have ij:i=j:=by
   have a1:(es.map (·.2.1))[i]?=some y:=by rw [AF,hi,← ey']; rfl
   have a2:(es.map (·.2.1))[j]?=some y:=by rw [AF,hj,← ey]; rfl
   exact (List.getElem?_inj (AE.mp a1).1 M.ndk).mp (a1.trans a2.symm)
  rw [ij,hj] at hi
  exact (Ax hi).symm
 refine ⟨same_in M.sm (M.fr e he),M.nd0,?_,fun e' h'=>?_,fun e' h'=>?_,?_,?_,fun e' h'=>?_,fun e' h'=>?_,?_⟩
 ·rw [upd_ne (fun z=>by rw [← z,M.hd] at hl; cases hl),kvE_put]
  exact M.hd
 ·rcases mem_put h' with ⟨h1,h2⟩ | ⟨e2,h1,h2,rfl⟩
  ·refine (M.rows e' h1).upd (fun z=>?_) nt
   have hn:=M.nda
   obtain ⟨i,hi⟩:=A8 h1
   obtain ⟨j,hj⟩:=A8 he
   have ij:i=j:=by
    have a1:(es.map (·.1))[i]?=some e.1:=by rw [AF,hi,← z]; rfl
    have a2:(es.map (·.1))[j]?=some e.1:=by rw [AF,hj]; rfl
    exact (List.getElem?_inj (AE.mp a1).1 hn).mp (a1.trans a2.symm)
   rw [ij,hj] at hi
   cases hi
   exact h2 ey
  ·have:=uq e2 h1 h2
   subst this
   refine ⟨ts++[p],upd_same,?_⟩
   show MvAt _ _ ((e2.2.2++[s]).map pV)
   rw [AG (f:=pV)]
   exact MvAt.upd nt (mv.snoc hp)
 ·rcases mem_put h' with ⟨h1,_⟩ | ⟨e2,h1,_,rfl⟩
  ·exact M.fr e' h1
  ·exact M.fr e2 h1
 ·have e1:(putE es y s).map (·.1)=es.map (·.1):=by
   unfold putE
   rw [List.map_map]
   refine List.map_congr_left fun e' _=>?_
   show (if e'.2.1=y then (e'.1,e'.2.1,e'.2.2++[s]) else e').1=_
   split <;> rfl
  rw [e1]
  exact M.nda
 ·have e1:(putE es y s).map (·.2.1)=es.map (·.2.1):=by
   unfold putE
   rw [List.map_map]
   refine List.map_congr_left fun e' _=>?_
   show (if e'.2.1=y then (e'.1,e'.2.1,e'.2.2++[s]) else e').2.1=_
   split <;> rfl
  rw [e1]
  exact M.ndk
 ·rcases mem_put h' with ⟨h1,_⟩ | ⟨e2,h1,_,rfl⟩
  ·exact M.bd e' h1
  ·obtain ⟨b1,b2,b3⟩:=M.bd e2 h1
   refine ⟨b1,b2,⟨fun u hu=>?_⟩⟩
   rcases AY.mp hu with hu | hu
   ·exact b3.ok u hu
   ·rw [AJ.mp hu]
    exact hs
 ·rcases mem_put h' with ⟨h1,h2⟩ | ⟨e2,h1,h2,rfl⟩
  ·show _≤if e'.2.1=y then _ else _
   rw [if_neg h2]
   exact M.ln e' h1
  ·show (e2.2.2++[s]).length≤if e2.2.1=y then _ else _
   rw [if_pos h2,AI]
   have:=M.ln e2 h1
   rw [h2] at this
   exact Nat.succ_le_succ this
 ·unfold putE
  rw [AA]
  exact M.len
theorem FdIn.new (M:FdIn H0 G d w n k m es) {y:Int} {s:Int×Int} {p a:Addr} (no:∀ e∈es,e.2.1≠y) (hy:0≤y∧y < n) (hs:0≤s.1∧s.1 < s.2∧s.2≤w) (ha:G a=some (.lst [])) (na:∀ e∈es,e.1≠a) (ha0:H0 a=none) (hp:G p=some (.tup (pV s))) :
  FdIn H0 (upd (upd G d (.dK (putK (kvE es) (Sum.inl y:Key) (V.ref a)))) a (.lst [.ref p])) d w n (fun y'=>if y'=y then k y + 1 else k y') (m + 1) (es++[(a,y,[s])]):=by
 have da:d≠a:=fun z=>by have h:=M.hd; rw [z,ha] at h; cases h
 have nt:∀ x,G d≠some (.tup x):=fun x z=>by rw [M.hd] at z; cases z
 have hpd:upd G d (.dK (putK (kvE es) (Sum.inl y:Key) (V.ref a))) p=some (.tup (pV s)):=by rw [upd_ne (fun z=>by rw [← z,hp] at nt; exact nt _ rfl)]; exact hp
 have had:upd G d (.dK (putK (kvE es) (Sum.inl y:Key) (V.ref a))) a=some (.lst []):=by rw [upd_ne (Ne.symm da)]; exact ha
 have nt2:∀ x,upd G d (.dK (putK (kvE es) (Sum.inl y:Key) (V.ref a))) a≠some (.tup x):=fun x z=>by rw [had] at z; cases z
 refine ⟨same_in (same_in M.sm M.nd0) ha0,M.nd0,?_,fun e' h'=>?_,fun e' h'=>?_,?_,?_,fun e' h'=>?_,fun e' h'=>?_,?_⟩
 ·rw [upd_ne da,upd_same,kvE_new no s]
 ·rcases AY.mp h' with h | h
  ·obtain ⟨ts,r1,_⟩:=M.rows e' h
   exact ((M.rows e' h).upd (fun z=>by rw [z,M.hd] at r1; cases r1) nt).upd (na e' h) nt2
  ·rw [AJ.mp h]
   exact ⟨[p],upd_same,by rw [upd_ne (fun z=>by rw [z,had] at hpd; cases hpd)]; exact hpd,AS⟩
 ·rcases AY.mp h' with h | h
  ·exact M.fr e' h
  ·rw [AJ.mp h]
   exact ha0
 ·rw [AG]
  exact nodup_snoc M.nda fun z=>by
   obtain ⟨e,he,e1⟩:=A6.mp z
   exact na e he e1
 ·rw [AG,List.nodup_append]
  refine ⟨M.ndk,by simp,fun u hu v hv=>?_⟩
  obtain ⟨e,he,e1⟩:=A6.mp hu
  rw [AJ.mp hv,← e1]
  exact no e he
 ·rcases AY.mp h' with h | h
  ·exact M.bd e' h
  ·rw [AJ.mp h]
   exact ⟨hy.1,hy.2,⟨fun u hu=>by rw [AJ.mp hu]; exact hs⟩⟩
 ·rcases AY.mp h' with h | h
  ·show _≤if e'.2.1=y then _ else _
   rw [if_neg (no e' h)]
   exact M.ln e' h
  ·rw [AJ.mp h]
   show 1≤if y=y then _ else _
   rw [if_pos rfl]
   lia
 ·rw [AI]
  exact Nat.succ_le_succ M.len
theorem upd_comm {H:Hp} {a b:Addr} {u v:HO} (h:a≠b):upd (upd H a u) b v=upd (upd H b v) a u:=by
 funext x
 unfold upd
 by_cases e1:x=b
 ·rw [if_pos e1,if_neg (fun z=>h (z.symm.trans e1)),if_pos e1]
 ·rw [if_neg e1]
  by_cases e2:x=a
  ·rw [if_pos e2,if_pos e2]
  ·rw [if_neg e2,if_neg e2,if_neg e1]
end
def WyAt (H:Hp) (wy:Addr) (x0 x1 y0 y1 z0 z1:Int):Prop:=∃ tx ty tz,H wy=some (.dK [(Sum.inr "x",.ref tx),(Sum.inr "y",.ref ty),(Sum.inr "z",.ref tz)])∧H tx=some (.tup [.int x0,.int x1])∧H ty=some (.tup [.int y0,.int y1])∧H tz=some (.tup [.int z0,.int z1])
theorem WyAt.same {H H':Hp} {wy:Addr} {x0 x1 y0 y1 z0 z1:Int} (h:WyAt H wy x0 x1 y0 y1 z0 z1) (s:Same H H'):WyAt H' wy x0 x1 y0 y1 z0 z1:=by
 obtain ⟨tx,ty,tz,a,b,c,d⟩:=h
 exact ⟨tx,ty,tz,s _ _ a,s _ _ b,s _ _ c,s _ _ d⟩
def Ud (w n x0 y0:Int) (nx ny:Nat) (fs:List (Int×Int)) (x y:Int):Prop:=(0≤x∧x < w∧0≤y∧y < n)∧∃ s∈fs,(x0 + s.1≤x∧x < x0 + s.1 + (nx:Int))∧y0 + s.2≤y∧y < y0 + s.2 + (ny:Int)
theorem Ud.snoc {w n x0 y0:Int} {nx ny:Nat} {fs:List (Int×Int)} {s:Int×Int} {x y:Int}:Ud w n x0 y0 nx ny (fs++[s]) x y↔Ud w n x0 y0 nx ny fs x y∨Ud w n x0 y0 nx ny [s] x y:=by
 unfold Ud
 constructor
 ·rintro ⟨b,t,ht,r⟩
  rcases AY.mp ht with h | h
  ·exact .inl ⟨b,t,h,r⟩
  ·exact .inr ⟨b,t,h,r⟩
 ·rintro (⟨b,t,h,r⟩ | ⟨b,t,h,r⟩)
  ·exact ⟨b,t,List.mem_append_left _ h,r⟩
  ·exact ⟨b,t,Ad _ h,r⟩
theorem Ud.one {w n x0 y0:Int} {nx ny:Nat} {s:Int×Int} {x y:Int}:Ud w n x0 y0 nx ny [s] x y↔(0≤x∧x < w∧0≤y∧y < n)∧(x0 + s.1≤x∧x < x0 + s.1 + (nx:Int))∧y0 + s.2≤y∧y < y0 + s.2 + (ny:Int):=by
 unfold Ud
 constructor
 ·rintro ⟨b,t,h,r⟩
  rw [AJ.mp h] at r
  exact ⟨b,r⟩
 ·rintro ⟨b,r⟩
  exact ⟨b,s,AJ.mpr rfl,r⟩
theorem Ud.undW {rows:List (List Int)} {x0 y0:Int} {nx ny:Nat} {foot:List (Int×Int)} (c:Int×Int):Ud ((rows.headD []).length:Int) (rows.length:Int) x0 y0 nx ny foot c.1 c.2↔c∈undW rows foot x0 nx y0 ny:=by
 rw [mem_undW]
 unfold Ud
 constructor
 ·rintro ⟨⟨a1,a2,a3,a4⟩,s,hs,b1,b2⟩
  refine ⟨decide_eq_true ⟨a3,a4,a1,a2⟩,(c.1 - x0 - s.1).toNat,(c.2 - y0 - s.2).toNat,by lia,by lia,s,hs,?_⟩
  show c=(x0 + (((c.1 - x0 - s.1).toNat:Nat):Int) + s.1,y0 + (((c.2 - y0 - s.2).toNat:Nat):Int) + s.2)
  exact Prod.ext (show c.1=_ by lia) (show c.2=_ by lia)
 ·rintro ⟨h,i,j,hi,hj,s,hs,rfl⟩
  obtain ⟨a3,a4,a1,a2⟩:0≤y0 + (j:Int) + s.2∧y0 + (j:Int) + s.2 < rows.length∧0≤x0 + (i:Int) + s.1∧x0 + (i:Int) + s.1 < (rows.headD []).length:=of_decide_eq_true h
  refine ⟨⟨a1,a2,a3,a4⟩,s,hs,?_⟩
  show (x0 + s.1≤x0 + (i:Int) + s.1∧x0 + (i:Int) + s.1 < x0 + s.1 + (nx:Int))∧y0 + s.2≤y0 + (j:Int) + s.2∧y0 + (j:Int) + s.2 < y0 + s.2 + (ny:Int)
  lia
theorem sty:("stretch":Str)≠"y":=by decide +kernel
def UCov (us:Us) (x y:Int):Prop:=∃ u∈us,u.1=y∧u.2.1≤x∧x < u.2.2
section
variable {P:Program} {w:World} {K:PySem.W.Frag} {mg:Str→Option Value} {base:Heap} {CV CC f:Addr} {fd':FuncData}
inductive PspSUnd (CC:Addr) (vs:List V) (H:Hp) (Q:VK):Prop
 | mk (c R ft wy:Addr) (rows:List (List Int)) (foot:List (Int×Int)) (x0 y0 z0 z1:Int) (nx ny:Nat) (h0:vs=[.ref c,.ref ft,.ref wy]) (h1:SsAt CC H c R rows) (h2:Rect rows) (h3:Small rows) (h4:FtAt H ft foot) (h5:WyAt H wy x0 (x0 + (nx:Int) - 1) y0 (y0 + (ny:Int) - 1) z0 z1) (h6:foot.length≤60) (h7:∀ s∈foot,-1000≤s.1∧s.1≤1000∧-1000≤s.2∧s.2≤1000) (h8:nx≤40) (h9:ny≤40) (h10:-1000≤x0∧x0≤1000∧-1000≤y0∧y0≤1000)
   (h11:∀ (D:Addr) (ts:List Addr) (us:Us) (H':Hp),H D=none→Same H H'→H' D=some (.lst (ts.map V.ref))→UnAt H' ts us→UsOk rows us→us.length≤160000→(∀ e:Int×Int,UCov us e.1 e.2↔e∈undW rows foot x0 nx y0 ny)→Q (.ref D) H'):PspSUnd CC vs H Q
def spSUnd (CC:Addr):Sp:=fun vs H Q _=>PspSUnd CC vs H Q
theorem scSUnd:FnScope ["self","foot","way","found","step","first","behind","y","told","stretches"] ["self","foot","way"] (defScope sSpUnd):=⟨rfl,rfl,rfl,by decide +kernel,rfl,by decide +kernel,by decide +kernel⟩
theorem ok_sUnd (T:LawT mg) (VV:VS K mg CV CC) (FM:Fn P w K mg base "merged" 1 ["stretches"] (spMg K)) (F:Fun K "under" "Spans.under" sSpUnd f fd'):FnOk P w K mg base (CX1 P w) 2 f fd' ["self","foot","way"] (spSUnd CC):=by
 have nd:=scSUnd.nd
 refine F.ok1 scSUnd (fun vs H Q E h=>?_) (fun cdv A outer s H vs Q E hr h=>?_)
 ·obtain ⟨c,R,ft,wy,rows,foot,x0,y0,z0,z1,nx,ny,rfl,_⟩:=h
  rfl
 obtain ⟨c,R,ft,wy,rows,foot,x0,y0,z0,z1,nx,ny,rfl,S,rect,small,⟨fts,hft,mft⟩,⟨tx,ty,tz,hwy,htx,hty,htz⟩,f60,fbd,nx40,ny40,xyb,q⟩:=h
 have hu:=hu_of' hr
 have ftl:fts.length=foot.length:=by rw [mft.len,AA]
 obtain ⟨dx,hc⟩:=S.ob
 obtain ⟨rs,hR,sp,nR⟩:=S.hR
 have rsl:(rs.map V.ref).length=rows.length:=by rw [AA,sp.len,AA]
 have n40:=small.1
 have w40:(rows.headD []).length≤40:=by
  cases hrw:rows with
  | nil=>exact Ai _
  | cons r rr=>exact small.2 r (by rw [hrw]; exact Ab)
 refine ⟨_,(pss_cons (ps_set (i:=3) nd rfl (Or.inl rfl) pe_dnewK)
  (pss_cons (ps_for own1 rfl (pi_listK (K:=K) rfl (pv 1)) (pg_name (i:=4) nd rfl (Or.inl rfl)) (pss_cons (ps_set (i:=5) nd rfl (Or.inl rfl) (pe_callB (call_max2 rfl) rfl T.max bt_max (pa_cons (pe_op op_add (pe_ix (ix_tupK (K:=K) rfl) (pe_dget hu (pv 2) pe_str (fun _ _=>rfl)) pe_int (fun _ _=>rfl)) (pe_ix (ix_tupK (K:=K) rfl) (pv 4) pe_int (fun _ _=>rfl))) (pa_cons pe_int pa_nil))))
  (pss_cons (ps_set (i:=6) nd rfl (Or.inl rfl) (pe_callB (call_min2 rfl) rfl T.min bt_min (pa_cons (pe_op op_add (pe_op op_add (pe_ix (ix_tupK (K:=K) rfl) (pe_dget hu (pv 2) pe_str (fun _ _=>rfl)) pe_int (fun _ _=>rfl)) (pe_ix (ix_tupK (K:=K) rfl) (pv 4) pe_int (fun _ _=>rfl))) pe_int) (pa_cons (pe_fld (pv 0) rfl) pa_nil))))
  (pss_one (ps_for own1 rfl (pi_range2 rfl T.range (pa_cons (pe_op op_add (pe_ix (ix_tupK (K:=K) rfl) (pe_dget hu (pv 2) pe_str (fun _ _=>rfl)) pe_int (fun _ _=>rfl)) (pe_ix (ix_tupK (K:=K) rfl) (pv 4) pe_int (fun _ _=>rfl))) (pa_cons (pe_op op_add (pe_op op_add (pe_ix (ix_tupK (K:=K) rfl) (pe_dget hu (pv 2) pe_str (fun _ _=>rfl)) pe_int (fun _ _=>rfl)) (pe_ix (ix_tupK (K:=K) rfl) (pv 4) pe_int (fun _ _=>rfl))) pe_int) pa_nil))) (pg_name (i:=7) nd rfl (Or.inr rfl)) (pss_one (ps_if (PW.pt (pw_and (pt_cmpR op_lt (pv 5) (pv 6) (nomark _)) (pw_and1 (pt_chain op_le op_lt pe_int (pv 7) (pe_callB (call_lenK (K:=K) rfl) rfl T.len Ao (pa_cons (pe_fld (pv 0) rfl) pa_nil)))))) (pss_one (ps_expr (pe_bm Aq At Au mt_append (pe_bm PySem.F.plainAttrs_dict PySem.F.slot_dict_setdefault PySem.F.type_dict_setdefault mt_setdef (pv 3) (pa_cons (pv 7) (pa_cons (pe_lst pa_nil) pa_nil))) (pa_cons (pe_tup (pa_cons (pv 5) (pa_cons (pv 6) pa_nil))) pa_nil)))) pss_nil)))))))
  (pss_cons (ps_set (i:=8) nd rfl (Or.inl rfl) (pe_lst pa_nil))
  (pss_cons (ps_frz (ps_for own1 rfl (pi_items (pv 3)) (pg_tup (n:=2) rfl (pgs_cons (pg_name (i:=7) nd rfl (Or.inr rfl)) (pgs_cons (pg_name (i:=9) nd rfl (Or.inl rfl)) pgs_nil))) (pss_one (ps_expr (pe_bm Aq PySem.F.slot_list_extend PySem.F.type_list_extend mt_extend (pv 8) (pa_cons (pe_lc (own:=["stretch"]) (capn:=["y"]) (capI:=[7]) rfl (blkC (defScope sSpUnd) rfl rfl (by decide +kernel) rfl (fun y hy=>by rcases AW.mp hy with rfl | hy; exact ⟨rfl,rfl⟩; cases hy)) (pi_listK (K:=K) rfl (pf_call FM hr rfl (pass1 (E:=E)) (pa_cons (pv 9) pa_nil))) (fun _ _ _ _ _ _=>pg_name (i:=0) (nd2 sty) rfl (Or.inl rfl)) (fun _ _ _ _ _ _=>pifs_nil) (fun _ _ _ _ _ _=>(pe_tup (pa_cons (pv 1) (pa_cons (pv 0) pa_nil))))) pa_nil))))))
  (pss_one (ps_ret (pv 8))))))),?_⟩
 refine fun d hd=>?_
 have u0:=same_upd hd (.dK [])
 have dg:∀ {G:Hp},Same H G→DGet G wy (.str "y") (some (.ref ty))∧DGet G wy (.str "x") (some (.ref tx)):=fun sG=>⟨DGet.k (k:=Sum.inr "y") (sG _ _ hwy),DGet.k (k:=Sum.inr "x") (sG _ _ hwy)⟩
 generalize hw:((rows.headD []).length:Int)=wd at hc
 generalize hn:(rows.length:Int)=n
 refine ⟨_,rfl,ft,rfl,⟨_,SqL.of (u0 _ _ hft)⟩,?_⟩
 refine for_list (K:=K) (xs:=fts.map V.ref) (fun i σ G=>Ex5 fun (x4 x5 x6 x7:Option V) (es:Es)=>σ=[some (.ref c),some (.ref ft),some (.ref wy),some (.ref d),x4,x5,x6,x7,none,none]∧FdIn H G d wd n (fun _=>i) (i * 40) es∧∀ x y,CovE es x y↔Ud wd n x0 y0 nx ny (foot.take i) x y)
  ⟨none,none,none,none,[],rfl,⟨u0,hd,upd_same,fun _ h=>(by cases h),fun _ h=>(by cases h),List.nodup_nil,List.nodup_nil,fun _ h=>(by cases h),fun _ h=>(by cases h),Ai _⟩,fun x y=>⟨fun h=>(by obtain ⟨_,h,_⟩:=h; cases h),fun h=>(by obtain ⟨_,_,h,_⟩:=h; rw [Am] at h; cases h)⟩⟩ ?_ ?_ ?_
 ·rintro i σ G _ ⟨x4,x5,x6,x7,es,rfl,M,_⟩
  exact SqL.of (M.sm _ _ hft)
 ·rintro i v σ G hv ⟨x4,x5,x6,x7,es,rfl,M,cov⟩
  obtain ⟨t,et,rfl⟩:=ref_get hv
  have hi:i < foot.length:=by have:=(AE.mp et).1; lia
  have ef:=AB hi
  have gt0:=mft.at_ et (by rw [AF,ef]; rfl)
  have sb:=fbd _ (Ak hi)
  have etk:foot.take (i + 1)=foot.take i++[foot[i]]:=by rw [An,ef]; rfl
  rw [etk]
  generalize foot[i]=s at gt0 sb
  have gt:=M.sm _ _ gt0
  refine ⟨_,rfl,wy,.ref tx,rfl,(dg M.sm).2,tx,_,0,.int x0,rfl,rfl,SqT.of (M.sm _ _ htx),rfl,_,rfl,t,_,0,.int s.1,rfl,rfl,SqT.of gt,rfl,_,_,rfl,rfl,_,_,rfl,?_⟩
  refine ⟨_,rfl,wy,.ref tx,rfl,(dg M.sm).2,tx,_,1,.int (x0 + (nx:Int) - 1),rfl,rfl,SqT.of (M.sm _ _ htx),rfl,_,rfl,t,_,0,.int s.1,rfl,rfl,SqT.of gt,rfl,_,_,rfl,rfl,_,_,rfl,rfl,_,rfl,c,CC,dx,_,_,rfl,M.sm _ _ hc,VV.clC,VV.nWidth,rfl,_,_,rfl,?_⟩
  rw [mx_of,mn_of]
  generalize hfi:max (x0 + s.1) 0=fi
  generalize hbe:min (x0 + (nx:Int) - 1 + s.1 + 1) wd=be
  refine ⟨_,rfl,wy,.ref ty,rfl,(dg M.sm).1,ty,_,0,.int y0,rfl,rfl,SqT.of (M.sm _ _ hty),rfl,_,rfl,t,_,1,.int s.2,rfl,rfl,SqT.of gt,rfl,_,_,rfl,rfl,_,rfl,wy,.ref ty,rfl,(dg M.sm).1,ty,_,1,.int (y0 + (ny:Int) - 1),rfl,rfl,SqT.of (M.sm _ _ hty),rfl,_,rfl,t,_,1,.int s.2,rfl,rfl,SqT.of gt,rfl,_,_,rfl,rfl,_,_,rfl,rfl,_,_,rfl,(by lia),?_⟩
  rw [show (y0 + (ny:Int) - 1 + s.2 + 1 - (y0 + s.2)).toNat=ny by lia]
  refine for_range (lo:=y0 + s.2) (n:=ny) (fun j σ G=>Ex2 fun (x7:Option V) (es:Es)=>σ=[some (.ref c),some (.ref ft),some (.ref wy),some (.ref d),some (.ref t),some (.int fi),some (.int be),x7,none,none]∧FdIn H G d wd n (fun y'=>if y' < y0 + s.2 + (j:Int) then i + 1 else i) (i * 40 + j) es∧∀ x y,CovE es x y↔Ud wd n x0 y0 nx ny (foot.take i) x y∨Ud wd n x0 y0 nx j [s] x y) ⟨x7,es,rfl,M.up (fun e _=>by split <;> lia) (AD _),fun x y=>by
   rw [cov,Ud.one]
   refine ⟨.inl,fun h=>h.elim id fun h=>?_⟩
   exfalso
   have:=h.2.2
   lia⟩ ?_ ?_
  ·rintro j σ G2 hj ⟨x7,es2,rfl,M2,cov2⟩
   refine ⟨_,rfl,_,rfl,_,_,rfl,rfl,_,rfl,?_⟩
   have skip:(¬ (fi < be∧0≤y0 + s.2 + (j:Int)∧y0 + s.2 + (j:Int) < n))→Ex2 fun (x7':Option V) (es':Es)=>([some (.ref c),some (.ref ft),some (.ref wy),some (.ref d),some (.ref t),some (.int fi),some (.int be),x7,none,none]:St).set 7 (some (.int (y0 + s.2 + (j:Int))))=[some (.ref c),some (.ref ft),some (.ref wy),some (.ref d),some (.ref t),some (.int fi),some (.int be),x7',none,none]∧FdIn H G2 d wd n (fun y'=>if y' < y0 + s.2 + ((j + 1:Nat):Int) then i + 1 else i) (i * 40 + (j + 1)) es'∧∀ x y,CovE es' x y↔Ud wd n x0 y0 nx ny (foot.take i) x y∨Ud wd n x0 y0 nx (j + 1) [s] x y:=fun no=>by
    refine ⟨_,es2,rfl,M2.up (fun e _=>by
     by_cases g:e.2.1 < y0 + s.2 + (j:Int)
     ·rw [if_pos g,if_pos (by lia)]; exact AD _
     ·rw [if_neg g]; split <;> lia) (by lia),fun x y=>?_⟩
    rw [cov2,Ud.one,Ud.one]
    refine or_congr Iff.rfl ⟨fun h=>⟨h.1,h.2.1,by lia⟩,fun h=>⟨h.1,h.2.1,?_⟩⟩
    refine ⟨h.2.2.1,?_⟩
    apply Classical.byContradiction
    intro g
    exact no (by lia)
   by_cases c1:fi < be
   ·refine iteTd c1 ⟨_,rfl,_,_,rfl,rfl,_,rfl,?_⟩
    by_cases c2:0≤y0 + s.2 + (j:Int)
    ·refine iteTd c2 ⟨_,rfl,c,CC,dx,_,_,rfl,M2.sm _ _ hc,VV.clC,VV.nRows,rfl,R,_,rfl,.inl (SqL.of (M2.sm _ _ hR)),_,_,rfl,rfl,_,rfl,?_⟩
     by_cases c3:y0 + s.2 + (j:Int) < (((rs.map V.ref).length:Nat):Int)
     ·have c3':y0 + s.2 + (j:Int) < n:=by rw [rsl] at c3; lia
      refine iteTd c3 ?_
      generalize hy:y0 + s.2 + (j:Int)=y at c2 c3' skip
      refine ⟨_,rfl,.inr (.inr (.inl ⟨rfl,.inl ⟨_,M2.hd⟩⟩)),_,rfl,Ai _,fun a0 ha0=>?_⟩
      have u1:=same_upd ha0 (.lst [])
      have M3:=M2.same u1
      have stc:(0:Int)≤(fi,be).1∧(fi,be).1 < (fi,be).2∧(fi,be).2≤wd:=⟨show 0≤fi by lia,c1,show be≤wd by lia⟩
      have fin:∀ (G4:Hp) (es':Es) (k':Int→Nat) (m':Nat),FdIn H G4 d wd n k' m' es'→(∀ e∈es',k' e.2.1≤if e.2.1 < y0 + s.2 + ((j + 1:Nat):Int) then i + 1 else i)→m'≤i * 40 + (j + 1)→(∀ x y',CovE es' x y'↔CovE es2 x y'∨(y'=y∧Cov [(fi,be)] x))→Ex2 fun (x7':Option V) (es':Es)=>([some (.ref c),some (.ref ft),some (.ref wy),some (.ref d),some (.ref t),some (.int fi),some (.int be),x7,none,none]:St).set 7 (some (.int y))=[some (.ref c),some (.ref ft),some (.ref wy),some (.ref d),some (.ref t),some (.int fi),some (.int be),x7',none,none]∧FdIn H G4 d wd n (fun y'=>if y' < y0 + s.2 + ((j + 1:Nat):Int) then i + 1 else i) (i * 40 + (j + 1)) es'∧∀ x y,CovE es' x y↔Ud wd n x0 y0 nx ny (foot.take i) x y∨Ud wd n x0 y0 nx (j + 1) [s] x y:=fun G4 es' k' m' M' hk hm cv=>by
       refine ⟨_,es',rfl,M'.up hk hm,fun x y'=>?_⟩
       rw [cv,cov2,or_assoc]
       refine or_congr Iff.rfl ?_
       rw [Ud.one,Ud.one,cov_one]
       constructor
       ·rintro (h | ⟨rfl,h⟩)
        ·exact ⟨h.1,h.2.1,by lia⟩
        ·have h1:fi≤x:=h.1
         have h2:x < be:=h.2
         lia
       ·intro h
        by_cases g:y'=y
        ·refine .inr ⟨g,show fi≤x∧x < be from ?_⟩
         lia
        ·exact .inl ⟨h.1,h.2.1,by lia⟩
      have hk:∀ v:Int,(if v=y then (if y < y0 + s.2 + (j:Int) then i + 1 else i) + 1 else if v < y0 + s.2 + (j:Int) then i + 1 else i)≤if v < y0 + s.2 + ((j + 1:Nat):Int) then i + 1 else i:=fun v=>by
       rw [if_neg (show ¬ y < y0 + s.2 + (j:Int) by lia)]
       by_cases g:v=y
       ·rw [if_pos g,if_pos (by lia)]; exact AD _
       ·rw [if_neg g]
        by_cases g2:v < y0 + s.2 + (j:Int)
        ·rw [if_pos g2,if_pos (by lia)]; exact AD _
        ·rw [if_neg g2]; split <;> lia
      rcases val_kvE es2 y with ⟨e,he,ey,ev⟩ | ⟨no,ev⟩
      ·refine .old d _ (Sum.inl y) _ _ rfl rfl M3.hd ev ?_
       obtain ⟨ts,hl,mv⟩:=M3.rows e he
       refine ⟨.inl ⟨rfl,_,SqL.of hl⟩,_,rfl,_,rfl,le2,fun p hp=>?_⟩
       have u2:=same_upd hp (.tup (pV (fi,be)))
       have M4:=M3.same u2
       have tl:ts.length≤100:=by
        rw [mv.len,AA]
        have:=M3.ln e he
        have g:(if e.2.1 < y0 + s.2 + (j:Int) then i + 1 else i)≤61:=by split <;> lia
        lia
       refine ⟨e.1,_,.ref p,rfl,rfl,u2 _ _ hl,by rw [AA]; exact line3 (show ts.length≤1000 by lia) (by decide),?_⟩
       have M5:=M4.old he ey stc (u2 _ _ hl) (mv.same u2) upd_same
       rw [AG] at M5
       refine fin _ _ _ _ M5 (fun e' h'=>?_) (by lia) (cov_put ⟨e,he,ey⟩)
       exact hk e'.2.1
      ·refine .new d _ (Sum.inl y) _ rfl rfl M3.hd ev ?_ ?_
       ·unfold kvE
        rw [AA]
        have:=M3.len
        exact big16 (by lia)
       ·have u1d:upd (upd G2 a0 (.lst [])) d (.dK (putK (kvE es2) (Sum.inl y) (.ref a0))) a0=some (.lst []):=by
         rw [upd_ne (fun z=>by rw [z] at ha0; rw [M2.hd] at ha0; cases ha0),upd_same]
        refine ⟨.inl ⟨rfl,_,SqL.of u1d⟩,_,rfl,_,rfl,le2,fun p hp=>?_⟩
        have pd:p≠d:=fun z=>by rw [z,upd_same] at hp; cases hp
        have hp1:upd G2 a0 (.lst []) p=none:=by rw [upd_ne pd] at hp; exact hp
        have u2:=same_upd hp1 (.tup (pV (fi,be)))
        have M4:=M3.same u2
        have na:∀ e∈es2,e.1≠a0:=fun e he z=>by
         obtain ⟨ts,r1,_⟩:=M2.rows e he
         rw [z,ha0] at r1
         cases r1
        have M5:=M4.new no ⟨c2,c3'⟩ stc (u2 _ _ upd_same) na (M2.sm.free ha0) upd_same
        rw [upd_comm pd] at M5
        refine ⟨a0,[],.ref p,rfl,rfl,by rw [upd_ne (fun z=>by rw [← z,u1d] at hp; cases hp)]; exact u1d,by decide,?_⟩
        refine fin _ _ _ _ M5 (fun e' h'=>?_) (by lia) cov_new
        exact hk e'.2.1
     ·exact iteFd c3 (skip fun z=>c3 (by rw [rsl]; lia))
    ·exact iteFd c2 ⟨_,rfl,iteF (skip fun z=>c2 z.2.1)⟩
   ·exact iteFd c1 (iteF (skip fun z=>c1 z.1))
  ·rintro σ G2 ⟨x7,es2,rfl,M2,cov2⟩
   refine ⟨_,_,_,_,es2,rfl,M2.up (fun e _=>by split; exact AD _; exact Nat.le_succ _) (by lia),fun x y=>?_⟩
   rw [cov2,Ud.snoc]
 ·rintro σ G ⟨x4,x5,x6,x7,es,rfl,M,cov⟩
  rw [AA,ftl] at M cov
  rw [AT (AD _)] at cov
  have ln:∀ e∈es,e.2.2.length < 64:=fun e he=>by have:=M.ln e he; lia
  have el:es.length≤2400:=by have:=M.len; lia
  refine ⟨Ai _,fun tl htl=>?_⟩
  have u1:=same_upd htl (.lst [])
  have M1:=M.same u1
  have htl0:H tl=none:=M.sm.free htl
  refine ⟨d,_,M1.hd,AS,fun ob=>?_⟩
  have dtl:d≠tl:=fun z=>by rw [← z,M.hd] at htl; cases htl
  have ntd:∀ x,upd G tl (.lst []) d≠some (.tup x):=fun x z=>by rw [M1.hd] at z; cases z
  have rowsS:∀ e∈es,SpRow (upd (upd G tl (.lst [])) d (.frz ob (.dK (kvE es)))) e.1 e.2.2∧e.1≠tl:=fun e he=>by
   obtain ⟨ts,r1,_⟩:=M1.rows e he
   refine ⟨(M1.rows e he).upd (fun z=>by rw [z,M1.hd] at r1; cases r1) ntd,fun z=>?_⟩
   obtain ⟨ts2,r2,_⟩:=M.rows e he
   rw [z,htl] at r2
   cases r2
  have smS:Same H (upd (upd G tl (.lst [])) d (.frz ob (.dK (kvE es)))):=same_in M1.sm hd
  have hdS:upd (upd G tl (.lst [])) d (.frz ob (.dK (kvE es))) d=some (.frz ob (.dK (kvE es))):=upd_same
  have htS:upd (upd G tl (.lst [])) d (.frz ob (.dK (kvE es))) tl=some (.lst []):=by rw [upd_ne (Ne.symm dtl),upd_same]
  have bdS:=M.bd
  clear M1 M u1
  generalize upd (upd G tl (.lst [])) d (.frz ob (.dK (kvE es)))=Gs at rowsS smS hdS htS
  refine ⟨_,rfl,d,ob,_,rfl,hdS,?_⟩
  refine for_items (kvs:=kvE es) (fun i σ G'=>Ex4 fun (x7 x9:Option V) (us:Us) (ws:List Addr)=>σ=[some (.ref c),some (.ref ft),some (.ref wy),some (.ref d),x4,x5,x6,x7,some (.ref tl),x9]∧Sb tl Gs G'∧Same H G'∧G' tl=some (.lst (ws.map V.ref))∧UnAt G' ws us∧UsOk rows us∧us.length≤64 * i∧∀ x y,UCov us x y↔CovE (es.take i) x y)
   ⟨x7,none,[],[],rfl,Sb.refl _,smS,htS,AS,fun _ h=>(by cases h),Ai _,fun x y=>⟨fun h=>(by obtain ⟨_,h,_⟩:=h; cases h),fun h=>(by obtain ⟨_,h,_⟩:=h; rw [Am] at h; cases h)⟩⟩ ?_ ?_ ?_
  ·rintro i σ G' ⟨x7,x9,us,ws,rfl,sb,_⟩
   exact sb _ _ dtl hdS
  ·rintro i p σ G' hp ⟨x7,x9,us,ws,rfl,sb,sm,ht,un,uok,ul,cv⟩ T hT
   have hi:i < es.length:=by
    have:=(AE.mp hp).1
    unfold kvE at this
    rw [AA] at this
    exact this
   have ee:=AB hi
   have ep:p=((Sum.inl (es[i]).2.1:Key),V.ref (es[i]).1):=by
    unfold kvE at hp
    rw [AF,ee] at hp
    exact (Ax hp).symm
   have me:=Ak hi
   have etk:es.take (i + 1)=es.take i++[es[i]]:=by rw [An,ee]; rfl
   rw [etk]
   generalize es[i]=e at ep me
   subst ep
   obtain ⟨row1,ne1⟩:=rowsS e me
   obtain ⟨b1,b2,b3⟩:=bdS e me
   have v1:=same_upd hT (.tup [kV (Sum.inl e.2.1),V.ref e.1])
   have row2:SpRow (upd G' T (.tup [kV (Sum.inl e.2.1),V.ref e.1])) e.1 e.2.2:=by
    obtain ⟨ts,r1,r2⟩:=row1
    refine ⟨ts,v1 _ _ (sb _ _ ne1 r1),MvAt.same v1 ?_⟩
    have key:∀ {as:List Addr} {bs:List (List V)},MvAt Gs as bs→MvAt G' as bs:=by
     intro as
     induction as with
     | nil =>
      intro bs h
      cases bs with
      | nil=>exact AS
      | cons _ _=>exact h.elim
     | cons a as ih =>
      intro bs h
      cases bs with
      | nil=>exact h.elim
      | cons b bs=>exact ⟨sb _ _ (fun z=>by have:=h.1; rw [z,htS] at this; cases this) h.1,ih h.2⟩
    exact key r2
   refine ⟨T,_,rfl,SqT.of upd_same,rfl,_,_,rfl,_,_,rfl,rfl,?_⟩
   have ht1:=v1 _ _ ht
   have un1:=un.same v1
   have sm1:=sm.trans v1
   have sb1:Sb tl Gs (upd G' T (.tup [kV (Sum.inl e.2.1),V.ref e.1])):=fun x o nx z=>v1 _ _ (sb x o nx z)
   generalize upd G' T (.tup [kV (Sum.inl e.2.1),V.ref e.1])=G1 at row2 ht1 un1 sm1 sb1
   obtain ⟨ts,hl,mv⟩:=row2
   refine ⟨_,rfl,.inl ⟨rfl,_,SqL.of ht1⟩,_,rfl,e.1,ts,e.2.2,0,wd,rfl,hl,mv,ln e me,b3,(by lia),(by lia),fun D ms2 ms G2 s2 nD hD mvD stm covm fewm=>?_⟩
   have msl:ms2.length=ms.length:=by rw [mvD.len,AA]
   refine ⟨D,rfl,⟨_,SqL.of hD⟩,fun D2 hD2=>?_⟩
   refine ⟨Wd ms2.length (fun j σ acc G3=>Ex2 fun (z:Option V) (vs:List Addr)=>σ=[z,some (.int e.2.1)]∧acc=vs.map V.ref∧vs.length=j∧UnAt G3 vs ((ms.take j).map fun m=>(e.2.1,m.1,m.2))∧Same G2 G3∧G3 D2=some (.lst acc)),wd_0 ⟨none,[],rfl,rfl,rfl,by rw [Am]; exact AS,same_upd hD2 _,upd_same⟩,?_⟩
   rintro j jm σ acc G3 ⟨rfl,hj0,z,vs,rfl,rfl,vl,uv,s3,hD3⟩
   refine lc_ask (K:=K) (xs:=ms2.map V.ref) (SqL.of (s3 _ _ hD)) (by rw [AA]; exact hj0) (fun x hx hj=>?_) (fun hend=>?_)
   ·obtain ⟨t3,et3,rfl⟩:=ref_get hx
    have hj':j < ms2.length:=by rw [AA] at hj; exact hj
    have em:=AB (show j < ms.length by lia)
    have gt3:G3 t3=some (.tup (pV ms[j])):=s3 _ _ (mvD.at_ et3 (by rw [AF,em]; rfl))
    generalize ms[j]=mm at em gt3
    refine ⟨_,rfl,_,rfl,le2,fun t4 ht4=>?_⟩
    have v4:=same_upd ht4 (.tup [V.int e.2.1,.ref t3])
    refine ⟨v4 _ _ hD3,(by rw [AA,vl]; exact line3 (show j≤1000 by lia) (by decide)),wd_next hj' ⟨_,vs++[t4],rfl,by rw [AG]; rfl,by rw [AI,vl]; rfl,?_,same_in (s3.trans v4) hD2,upd_same⟩⟩
    rw [An,em,AG]
    refine UnAt.keep (fun x m z=>by rw [upd_ne (fun y=>by rw [y,v4 _ _ hD3] at z; cases z)]; exact z) ((uv.same v4).snoc ⟨t3,upd_same,v4 _ _ gt3⟩)
   ·rw [AA] at hend
    rw [hend,msl,AT (AD _)] at uv
    have ht3:=s3 _ _ (s2 _ _ ht1)
    have wl:=un.len
    refine ⟨tl,D2,_,_,rfl,rfl,ht3,hD3,(by rw [AA,AA,vl]; exact Ag (show ws.length + j≤160000 by lia) (by decide)),?_⟩
    have s13:=s2.trans s3
    have ntt:∀ x m,G3 x=some (.tup m)→upd G3 tl (.lst (ws.map V.ref++vs.map V.ref)) x=some (.tup m):=fun x m z=>by rw [upd_ne (fun y=>by rw [y,ht3] at z; cases z)]; exact z
    refine ⟨_,_,us++ms.map (fun m=>(e.2.1,m.1,m.2)),ws++vs,rfl,fun x o nx z=>by rw [upd_ne nx]; exact s13 _ _ (sb1 x o nx z),same_in (sm1.trans s13) htl0,by rw [upd_same,AG],UnAt.keep ntt ((un1.same s13).app uv),fun u hu=>?_,?_,fun x y=>?_⟩
    ·rcases AY.mp hu with hu | hu
     ·exact uok u hu
     ·obtain ⟨m,hm,rfl⟩:=A6.mp hu
      have:=stm.ok m hm
      exact ⟨b1,show e.2.1 < (rows.length:Int) by lia,this.1,this.2.1,show m.2≤((rows.headD []).length:Int) by lia⟩
    ·rw [AI,AA]
     lia
    ·constructor
     ·rintro ⟨u,hu,e1,e2⟩
      rcases AY.mp hu with hu | hu
      ·obtain ⟨e',h1,h2⟩:=(cv x y).mp ⟨u,hu,e1,e2⟩
       exact ⟨e',List.mem_append_left _ h1,h2⟩
      ·obtain ⟨m,hm,rfl⟩:=A6.mp hu
       exact ⟨e,Ad _ (AJ.mpr rfl),e1,(covm x).mp ⟨m,hm,e2⟩⟩
     ·rintro ⟨e',h1,h2,h3⟩
      rcases AY.mp h1 with h1 | h1
      ·obtain ⟨u,hu,h⟩:=(cv x y).mpr ⟨e',h1,h2,h3⟩
       exact ⟨u,List.mem_append_left _ hu,h⟩
      ·rw [AJ.mp h1] at h2 h3
       obtain ⟨m,hm,h⟩:=(covm x).mpr h3
       exact ⟨(e.2.1,m.1,m.2),Ad _ (A6.mpr ⟨m,hm,rfl⟩),h2,h⟩
  ·rintro σ G' ⟨x7,x9,us,ws,rfl,sb,sm,ht,un,uok,ul,cv⟩
   have kl:(kvE es).length=es.length:=by unfold kvE; rw [AA]
   rw [kl] at ul cv
   rw [AT (AD _)] at cv
   have hdG:=sb _ _ dtl hdS
   refine ⟨hdG,⟨_,rfl,q tl ws us _ htl0 (same_in sm hd) (by rw [upd_ne (Ne.symm dtl)]; exact ht) (UnAt.keep (fun x m z=>by rw [upd_ne (fun y=>by rw [y,hdG] at z; cases z)]; exact z) un) uok (by lia) fun e=>?_⟩⟩
   rw [cv,cov,← hw,← hn]
   exact Ud.undW e
end
theorem hgt_dwn {rows:List (List Int)} (R:Rect rows) {cs:List (Int×Int)} (hin:∀ d∈cs,ins rows d=true) {h:Int} {d:Int×Int} (hd:ins rows d=true):hgt (dwn rows cs h).1 d=if d∈cs then mn (hgt rows d) h else hgt rows d:=by
 unfold dwn
 rw [dwn_fst]
 refine eq_of_le fun z=>?_
 rw [le_cuts _ rows R (fun o ho=>by obtain ⟨c,hc,rfl⟩:=A6.mp ho; exact hin c hc) hd]
 by_cases hm:d∈cs
 ·rw [if_pos hm,le_mn]
  refine and_congr Iff.rfl ⟨fun k=>k (d,h) (A6.mpr ⟨d,hm,rfl⟩) rfl,fun hz o ho e=>?_⟩
  obtain ⟨c,hc,rfl⟩:=A6.mp ho
  exact hz
 ·rw [if_neg hm]
  refine ⟨fun k=>k.1,fun hz=>⟨hz,fun o ho e=>?_⟩⟩
  obtain ⟨c,hc,rfl⟩:=A6.mp ho
  exact absurd (e ▸ hc) hm
theorem dwn_al (rows:List (List Int)) (cs:List (Int×Int)) (h:Int):Alike rows (dwn rows cs h).1:=by
 unfold dwn
 rw [dwn_fst]
 exact cuts_alike _ _
def sumB (rows:List (List Int)):Int:=sumL (rows.map sumL)
theorem sumL_set:∀ {xs:List Int} {j:Nat} {v:Int} (u:Int),xs[j]?=some v→sumL (xs.set j u)=sumL xs - v + u
 | a :: r,0,v,u,h=>by
  cases h
  show u + sumL r=a + sumL r - a + u
  lia
 | a :: r,j + 1,v,u,h=>by
  have:=sumL_set (xs:=r) (j:=j) u h
  show a + sumL (r.set j u)=a + sumL r - v + u
  lia
theorem sum_cut {rows:List (List Int)} (R:Rect rows) {c:Int×Int} {h:Int} (hc:ins rows c=true):sumB (cutC rows (c,h))=sumB rows - hgt rows c + mn (hgt rows c) h:=by
 obtain ⟨i,j,row,v,e1,e2,e3,e4⟩:=ins_at hc R
 subst e1
 unfold sumB cutC
 rw [e4]
 show sumL ((rows.set (i:Int).toNat (((rows[(i:Int).toNat]?).getD []).set (j:Int).toNat (mn v h))).map sumL)=_
 rw [Aj,Aj,e2,Option.getD_some,List.map_set,sumL_set (v:=sumL row) _ (by rw [AF,e2]; rfl),sumL_set (v:=v) _ e3]
 lia
theorem dwn_sumA (h:Int):∀ (cs:List (Int×Int)) (rows:List (List Int)) (t:Int),Rect rows→(∀ c∈cs,ins rows c=true)→(cs.foldl (stepD h) (rows,t)).2 + sumB (cs.foldl (stepD h) (rows,t)).1=t + sumB rows
 | [],_,_,_,_=>rfl
 | c :: cs,rows,t,R,hc=>by
  have h0:=hc c Ab
  have al:Alike rows (cutC rows (c,h)):=cuts_alike [(c,h)] rows
  have ih:=dwn_sumA h cs (cutC rows (c,h)) (t + if hgt rows c > h then hgt rows c - h else 0) (al.rect R) fun d hd=>by rw [← al.ins]; exact hc d (AR _ hd)
  have hs:=sum_cut R (h:=h) h0
  show (cs.foldl (stepD h) (stepD h (rows,t) c)).2 + sumB (cs.foldl (stepD h) (stepD h (rows,t) c)).1=_
  show (cs.foldl (stepD h) (cutC rows (c,h),t + if hgt rows c > h then hgt rows c - h else 0)).2 + sumB (cs.foldl (stepD h) (cutC rows (c,h),t + if hgt rows c > h then hgt rows c - h else 0)).1=_
  rw [ih,hs]
  unfold mn
  (repeat' split) <;> lia
theorem dwn_taken {rows:List (List Int)} (R:Rect rows) {cs:List (Int×Int)} (hc:∀ c∈cs,ins rows c=true) (h:Int):(dwn rows cs h).2=sumB rows - sumB (dwn rows cs h).1:=by
 have:=dwn_sumA h cs rows 0 R hc
 unfold dwn
 lia
theorem mn_min (a b:Int):mn a b=min a b:=by
 unfold mn
 split <;> lia
theorem sumI_L:∀ xs:List Int,sumI xs=sumL xs
 | []=>rfl
 | a :: r=>by
  show a + sumI r=a + sumL r
  rw [sumI_L r]
theorem hgt_nat (rows:List (List Int)) (i j:Nat):hgt rows ((j:Int),(i:Int))=(rows.getD i []).getD j 0:=by
 unfold hgt
 show (((rows[(i:Int).toNat]?).bind fun r=>r[(j:Int).toNat]?).getD 0)=_
 rw [Aj,Aj,Ar,Ar]
 cases rows[i]? with
 | none=>rfl
 | some r=>rfl
def InU (u:Int×Int×Int) (d:Int×Int):Prop:=u.1=d.2∧u.2.1≤d.1∧d.1 < u.2.2
instance (u:Int×Int×Int) (d:Int×Int):Decidable (InU u d):=inferInstanceAs (Decidable (_∧_∧_))
theorem hgt_cutU {rows:List (List Int)} (R:Rect rows) {u:Int×Int×Int} {z:Int} (ok:UsOk rows [u]) {d:Int×Int} (hd:ins rows d=true):hgt (cutU rows u z) d=if InU u d then min (hgt rows d) z else hgt rows d:=by
 obtain ⟨y0,y1,a0,ab,bw⟩:=ok u (AJ.mpr rfl)
 obtain ⟨i,j,row,v,rfl,e2,e3,e4⟩:=ins_at hd R
 have hi:=(AE.mp e2).1
 have hj:=(AE.mp e3).1
 rw [hgt_nat,hgt_nat]
 unfold cutU
 have er:rows.getD i []=row:=by rw [Ar,e2]; rfl
 by_cases c:u.1.toNat=i
 ·have e5:(rows.set u.1.toNat (cutL (rows.getD u.1.toNat []) u.2.1 u.2.2 z)).getD i []=cutL row u.2.1 u.2.2 z:=by
   rw [c,Ar,List.getElem?_set_self hi,er]
   rfl
  rw [e5,er,cutL_get hj]
  by_cases g:u.2.1≤(j:Int)∧(j:Int) < u.2.2
  ·rw [if_pos g,if_pos (show InU u ((j:Int),(i:Int)) from ⟨show u.1=(i:Int) by lia,g⟩)]
  ·rw [if_neg g,if_neg (fun h:InU u ((j:Int),(i:Int))=>g h.2)]
 ·have e5:(rows.set u.1.toNat (cutL (rows.getD u.1.toNat []) u.2.1 u.2.2 z)).getD i []=row:=by
   rw [Ar,List.getElem?_set_ne c,e2]
   rfl
  rw [e5,er,if_neg (fun h:InU u ((j:Int),(i:Int))=>c (by have:u.1=(i:Int):=h.1; lia))]
theorem UsOk.al {a b:List (List Int)} (A:Alike a b) {us:Us} (h:UsOk a us):UsOk b us:=fun u hu=>by
 obtain ⟨y0,y1,a0,ab,bw⟩:=h u hu
 exact ⟨y0,by rw [← A.1]; exact y1,a0,ab,by rw [← A.head]; exact bw⟩
theorem hgt_dwnS {z:Int} {d:Int×Int}:∀ (us:Us) (rows:List (List Int)) (t:Int),Rect rows→UsOk rows us→ins rows d=true→((∃ u∈us,InU u d)→hgt (us.foldl (stepU z) (rows,t)).1 d=min (hgt rows d) z)∧((¬ ∃ u∈us,InU u d)→hgt (us.foldl (stepU z) (rows,t)).1 d=hgt rows d)
 | [],rows,t,_,_,_=>⟨fun h=>(by obtain ⟨u,h,_⟩:=h; cases h),fun _=>rfl⟩
 | u :: us,rows,t,R,ok,hd=>by
  have ok1:UsOk rows [u]:=fun v hv=>ok v (by rw [AJ.mp hv]; exact Ab)
  have A:=cutU_alike rows u z
  have e:=hgt_cutU R (z:=z) ok1 hd
  obtain ⟨i1,i2⟩:=hgt_dwnS (z:=z) (d:=d) us (cutU rows u z) (t + lossU rows u z) (A.rect R) (UsOk.al A fun v hv=>ok v (AR _ hv)) (by rw [← A.ins]; exact hd)
  have key:(u :: us).foldl (stepU z) (rows,t)=us.foldl (stepU z) (cutU rows u z,t + lossU rows u z):=rfl
  rw [key]
  by_cases g:∃ v∈us,InU v d
  ·refine ⟨fun _=>?_,fun n=>absurd (by obtain ⟨v,hv,h⟩:=g; exact ⟨v,AR _ hv,h⟩) n⟩
   rw [i1 g,e]
   split <;> lia
  ·rw [i2 g,e]
   by_cases h:InU u d
   ·rw [if_pos h]
    exact ⟨fun _=>rfl,fun n=>absurd ⟨u,Ab,h⟩ n⟩
   ·rw [if_neg h]
    refine ⟨fun ⟨v,hv,hh⟩=>?_,fun _=>rfl⟩
    rcases AW.mp hv with rfl | hv
    ·exact absurd hh h
    ·exact absurd ⟨v,hv,hh⟩ g
theorem loss_sum {rows:List (List Int)} (R:Rect rows) {u:Int×Int×Int} {z:Int} (ok:UsOk rows [u]):lossU rows u z + sumB (cutU rows u z)=sumB rows:=by
 obtain ⟨y0,y1,a0,ab,bw⟩:=ok u (AJ.mpr rfl)
 have hi:u.1.toNat < rows.length:=by lia
 have e:=AB hi
 have hw:=R.2 _ (Ak hi)
 have eg:rows.getD u.1.toNat []=rows[u.1.toNat]:=by rw [Ar,e]; rfl
 unfold lossU cutU sumB
 rw [eg]
 generalize rows[u.1.toNat]=hs at e hw
 have l:=lost_row (hs:=hs) (z:=z) a0 (Int.le_of_lt ab) (by rw [hw]; exact bw)
 rw [hw] at l
 rw [l,List.map_set,sumL_set (v:=sumL hs) _ (by rw [AF,e]; rfl),sumI_L,sumI_L]
 lia
theorem dwnS_sum (z:Int):∀ (us:Us) (rows:List (List Int)) (t:Int),Rect rows→UsOk rows us→(us.foldl (stepU z) (rows,t)).2 + sumB (us.foldl (stepU z) (rows,t)).1=t + sumB rows
 | [],_,_,_,_=>rfl
 | u :: us,rows,t,R,ok=>by
  have ok1:UsOk rows [u]:=fun v hv=>ok v (by rw [AJ.mp hv]; exact Ab)
  have A:=cutU_alike rows u z
  have I:=dwnS_sum z us (cutU rows u z) (t + lossU rows u z) (A.rect R) (UsOk.al A fun v hv=>ok v (AR _ hv))
  have l:=loss_sum R (z:=z) ok1
  show (us.foldl (stepU z) (cutU rows u z,t + lossU rows u z)).2 + sumB (us.foldl (stepU z) (cutU rows u z,t + lossU rows u z)).1=_
  lia
theorem dwn_alike {rows:List (List Int)} (R:Rect rows) {us:Us} (ok:UsOk rows us) {cs:List (Int×Int)} (hc:∀ c∈cs,ins rows c=true) (cov:∀ e:Int×Int,UCov us e.1 e.2↔e∈cs) (z:Int):dwnS rows us z=dwn rows cs z:=by
 have A1:=dwnS_alike z us (rows,0)
 have A2:=dwn_al rows cs z
 have er:(dwnS rows us z).1=(dwn rows cs z).1:=by
  refine alike_ext (A1.symm.trans A2) (A1.rect R) fun d hd=>?_
  have hd':ins rows d=true:=by rw [A1.ins]; exact hd
  obtain ⟨i1,i2⟩:=hgt_dwnS (z:=z) us rows 0 R ok hd'
  rw [hgt_dwn R hc hd',mn_min]
  by_cases g:d∈cs
  ·rw [if_pos g]
   exact i1 ((cov d).mpr g)
  ·rw [if_neg g]
   exact i2 fun h=>g ((cov d).mp h)
 have e2:(dwnS rows us z).2=(dwn rows cs z).2:=by
  have a:=dwnS_sum z us rows 0 R ok
  have b:=dwn_taken R hc z
  have c:(dwnS rows us z).2 + sumB (dwnS rows us z).1=0 + sumB rows:=a
  rw [er] at c
  lia
 exact Prod.ext er e2
def risF (rows:List (List Int)) (cs:List (Int×Int)) (h:Int):Bool:=cs.any fun c=>decide (hgt rows c > h)
theorem ris_alike {rows:List (List Int)} (R:Rect rows) {us:Us} (ok:UsOk rows us) {cs:List (Int×Int)} (hc:∀ c∈cs,ins rows c=true) (cov:∀ e:Int×Int,UCov us e.1 e.2↔e∈cs) (z:Int):risS rows us z=risF rows cs z:=by
 unfold risS risF
 have key:∀ u∈us,((abv rows u z).length:Int) > 0↔∃ x:Nat,u.2.1≤(x:Int)∧(x:Int) < u.2.2∧hgt rows ((x:Int),u.1) > z:=fun u hu=>by
  obtain ⟨y0,y1,a0,ab,bw⟩:=ok u hu
  have hi:u.1.toNat < rows.length:=by lia
  have e:=AB hi
  have hw:=R.2 _ (Ak hi)
  have eg:rows.getD u.1.toNat []=rows[u.1.toNat]:=by rw [Ar,e]; rfl
  have eh:∀ x:Nat,hgt rows ((x:Int),u.1)=(rows[u.1.toNat]).getD x 0:=fun x=>by
   have:=hgt_nat rows u.1.toNat x
   rw [Int.toNat_of_nonneg y0,eg] at this
   exact this
  simp only [eh]
  unfold abv
  rw [eg]
  generalize rows[u.1.toNat]=hs at hw
  have C:=ch_in (a:=u.2.1) (b:=u.2.2) (ch_spans hs hs.length)
  rw [hw] at C
  have e0:spN hs (rows.headD []).length=spans hs:=by rw [← hw]
  rw [e0,show max (0:Int) u.2.1=u.2.1 by lia,show max u.2.1 (min ((rows.headD []).length:Int) u.2.2)=u.2.2 by lia] at C
  rw [← ch_any (z:=z) a0 C]
  constructor
  ·intro h
   cases hq:(pIn u.2.1 u.2.2 (pcI ((rows.headD []).length:Int) (spans hs))).filter fun q=>decide (q.2.2 > z) with
   | nil=>rw [hq] at h; exact absurd h (by decide)
   | cons q r =>
    have m:q∈(pIn u.2.1 u.2.2 (pcI ((rows.headD []).length:Int) (spans hs))).filter fun q=>decide (q.2.2 > z):=by rw [hq]; exact Ab
    obtain ⟨m1,m2⟩:=List.mem_filter.mp m
    exact ⟨q,m1,of_decide_eq_true m2⟩
  ·rintro ⟨q,m1,m2⟩
   have m:q∈(pIn u.2.1 u.2.2 (pcI ((rows.headD []).length:Int) (spans hs))).filter fun q=>decide (q.2.2 > z):=List.mem_filter.mpr ⟨m1,decide_eq_true m2⟩
   have:=List.length_pos_of_mem m
   lia
 rw [Bool.eq_iff_iff,List.any_eq_true,List.any_eq_true]
 constructor
 ·rintro ⟨u,hu,h⟩
  obtain ⟨x,x1,x2,x3⟩:=(key u hu).mp (of_decide_eq_true h)
  exact ⟨((x:Int),u.1),(cov _).mp ⟨u,hu,rfl,x1,x2⟩,decide_eq_true x3⟩
 ·rintro ⟨c,hcs,h⟩
  obtain ⟨u,hu,e1,e2,e3⟩:=(cov c).mpr hcs
  obtain ⟨_,_,a0,_,_⟩:=ok u hu
  refine ⟨u,hu,decide_eq_true ((key u hu).mpr ⟨c.1.toNat,by lia,by lia,?_⟩)⟩
  rw [Int.toNat_of_nonneg (by lia),e1]
  exact of_decide_eq_true h
section
variable {P:Program} {w:World} {K:PySem.W.Frag} {mg:Str→Option Value} {base:Heap} {CV CC f:Addr} {fd':FuncData}
inductive PspSpI (CC:Addr) (vs:List V) (H:Hp) (Q:VK):Prop
 | mk (c dx b:Addr) (bs:List Addr) (ss:List Sp2) (wd:Int) (h0:vs=[.ref c,.ref b,.int wd]) (h1:H c=some (.ins CC dx [])) (h2:H b=some (.lst (bs.map V.ref))) (h3:SpAt H bs ss) (h4:ss.length≤1000)
   (h5:∀ (R:Addr) (rs:List Addr) (H':Hp),(∀ x o,x≠c→H x=some o→H' x=some o)→H' c=some (.ins CC dx [("rows",.ref R),("width",.int wd)])→H' R=some (.lst (rs.map V.ref))→SpAt H' rs ss→R ∉ rs→H R=none→rs.Nodup→(∀ r∈rs,H r=none)→Q .non H'):PspSpI CC vs H Q
def spSpI (CC:Addr):Sp:=fun vs H Q _=>PspSpI CC vs H Q
theorem scSpI:FnScope ["self","spans","width"] ["self","spans","width"] (defScope sSpI):=⟨rfl,rfl,rfl,by decide +kernel,rfl,by decide +kernel,by decide +kernel⟩
theorem ok_spI (T:LawT mg) (VV:VS K mg CV CC) (F:Fun K "__init__" "Spans.__init__" sSpI f fd'):FnOk P w K mg base (CX1 P w) 1 f fd' ["self","spans","width"] (spSpI CC):=by
 have nd:=scSpI.nd
 refine F.ok1 scSpI (fun vs H Q E h=>?_) (fun cdv A outer s H vs Q E hr h=>?_)
 ·obtain ⟨c,dx,b,bs,ss,wd,rfl,_⟩:=h
  rfl
 obtain ⟨c,dx,b,bs,ss,wd,rfl,hc,hb,sp,sl,q⟩:=h
 have bl:=sp.len
 refine ⟨_,(pss_cons (ps_fld (pv 0) (pe_lc (own:=["row"]) (capn:=[]) (capI:=[]) rfl (blk0 rfl (by decide +kernel)) (pi_listK (K:=K) rfl (pv 1)) (fun _ _ _ _ _ _=>pg_name (i:=0) (nd1 "row") rfl (Or.inl rfl)) (fun _ _ _ _ _ _=>pifs_nil) (fun _ _ _ _ _ _=>(pe_callTy (call_listK (K:=K) rfl) rfl T.list bt_list (pa_cons (pv 0) pa_nil)))) rfl)
  (pss_one (ps_fld (pv 0) (pv 2) rfl))),?_⟩
 refine ⟨_,rfl,b,rfl,⟨_,SqL.of hb⟩,fun D hD=>?_⟩
 refine ⟨Wd bs.length (fun i σ acc G=>Ex2 fun (z:Option V) (rs:List Addr)=>σ=[z]∧acc=rs.map V.ref∧rs.length=i∧(D ∉ rs∧rs.Nodup∧∀ r∈rs,H r=none)∧SpAt G rs (ss.take i)∧Same H G∧G D=some (.lst acc)),wd_0 ⟨none,[],rfl,rfl,rfl,⟨List.not_mem_nil,List.nodup_nil,fun _ h=>(List.not_mem_nil h).elim⟩,by rw [Am]; exact AS,same_upd hD _,upd_same⟩,?_⟩
 rintro i im σ acc G ⟨rfl,hi0,z,rs,rfl,rfl,rl,⟨nD,ndr,frr⟩,sr,sG,hDG⟩
 refine lc_ask (K:=K) (xs:=bs.map V.ref) (SqL.of (sG _ _ hb)) (by rw [AA]; exact hi0) (fun x hx hi=>?_) (fun hend=>?_)
 ·obtain ⟨r,er,rfl⟩:=ref_get hx
  have hi':i < bs.length:=by rw [AA] at hi; exact hi
  have es:=AB (show i < ss.length by lia)
  obtain ⟨l,e1,e2⟩:=sp.at_ es
  rw [er] at e1
  cases e1
  obtain ⟨ts,ht,mv⟩:=e2
  refine ⟨_,rfl,r,_,rfl,.inl (SqL.of (sG _ _ ht)),fun p hp=>?_⟩
  have u:=same_upd hp (.lst (ts.map V.ref))
  have pD:p≠D:=fun y=>by rw [y,hDG] at hp; cases hp
  have nt:∀ m,upd G p (.lst (ts.map V.ref)) D≠some (.tup m):=fun m y=>by rw [u _ _ hDG] at y; cases y
  refine ⟨u _ _ hDG,(by rw [AA,rl]; exact line3 (show i≤1000 by lia) (by decide)),wd_next hi' ⟨_,rs++[p],rfl,by rw [AG]; rfl,by rw [AI,rl]; rfl,⟨fun y=>?_,?_,fun y hy=>?_⟩,?_,same_in (sG.trans u) hD,upd_same⟩⟩
  ·rcases AY.mp y with y | y
   ·exact nD y
   ·exact pD (AJ.mp y).symm
  ·exact nodup_snoc ndr fun y=>by
    obtain ⟨xs,hx⟩:=sr.mem p y
    rw [hx] at hp
    cases hp
  ·rcases AY.mp hy with hy | hy
   ·exact frr y hy
   ·rw [AJ.mp hy]
    exact sG.free hp
  ·rw [An,es]
   refine SpAt.upd nt (fun y=>?_) (SpAt.snoc (ls:=rs) ⟨ts,upd_same,(mv.same sG).same u⟩ (sr.same u))
   rcases AY.mp y with y | y
   ·exact nD y
   ·exact pD (AJ.mp y).symm
 ·rw [AA] at hend
  rw [hend,bl,AT (AD _)] at sr
  have hc1:=sG _ _ hc
  have nDc:D≠c:=fun y=>by rw [← y,hD] at hc; cases hc
  refine ⟨_,rfl,c,CC,dx,_,rfl,hc1,VV.clC,VV.nRows,(by decide),?_⟩
  refine ⟨_,rfl,_,rfl,c,CC,dx,_,rfl,upd_same,VV.clC,VV.nWidth,(by show 1 < 1000; decide),?_⟩
  have ncr:c ∉ rs:=fun y=>by
   obtain ⟨xs,hx⟩:=sr.mem c y
   rw [hc1] at hx
   cases hx
  have nt1:∀ m,G c≠some (.tup m):=fun m y=>by rw [hc1] at y; cases y
  refine q D rs _ (fun x o n e=>by rw [upd_ne n,upd_ne n]; exact sG x o e) upd_same (by rw [upd_ne nDc,upd_ne nDc]; exact hDG) ?_ nD hD ndr frr
  exact SpAt.upd (fun m y=>by rw [upd_same] at y; cases y) ncr (SpAt.upd nt1 ncr sr)
end
abbrev dF (x:Str):PyData:=.tuple [.str x]
def XE (K:PySem.W.Frag) (C:Addr) (H:Hp) (E:XK) (d:PyData):Prop:=∀ (dx:Addr) (v:V) (H':Hp),Same H H'→H' dx=some (.xd [("fault",v)])→Rp K H' v d→E (.ref C) (some dx) H'
inductive PspFault (C:Addr) (vs:List V) (H:Hp) (Q:VK):Prop
 | mk (e y) (h0:vs=[.ref e,y]) (h1:H e=some (ExcN e C)) (h2:∀ dx,H dx=none→Q .non (upd (upd H dx (.xd [("fault",y)])) e (ExcD e C dx))):PspFault C vs H Q
def spFault (C:Addr):Sp:=fun vs H Q _=>PspFault C vs H Q
theorem fault_ok {K:PySem.W.Frag} {C p:Addr} {H:Hp} {E:XK} {d:PyData} {o:HO} (hp:H p=none) (hd:Rp K (upd H p o) (.ref p) d) (h:XE K C H E d):∀ e,upd H p o e=none→spFault C [.ref e,.ref p] (upd (upd H p o) e (ExcN e C)) (fun v H2=>v=.non∧∃ dx,H2 e=some (ExcD e C dx)∧E (.ref C) (some dx) (drop H2 e)) E0:=by
 intro e he
 have hep:e≠p:=fun z=>by rw [z,upd_same] at he; cases he
 refine ⟨e,.ref p,rfl,upd_same,fun dx hdx=>⟨rfl,dx,upd_same,?_⟩⟩
 have hde:dx≠e:=fun z=>by rw [z,upd_same] at hdx; cases hdx
 have hd1:upd H p o dx=none:=by rw [upd_ne hde] at hdx; exact hdx
 have s2:Same (upd H p o) (drop (upd (upd (upd (upd H p o) e (ExcN e C)) dx (.xd [("fault",.ref p)])) e (ExcD e C dx)) e):=fun b u q=>by
  have b1:b≠e:=ne_of_none q he
  have b2:b≠dx:=ne_of_none q hd1
  rw [drop_ne b1,upd_ne b1,upd_ne b2,upd_ne b1]
  exact q
 refine h dx (.ref p) _ ((same_upd hp o).trans s2) ?_ (hd.same s2)
 rw [drop_ne hde,upd_ne hde,upd_same]
structure FaT (P:Program) (w:World) (K:PySem.W.Frag) (mg:Str→Option Value) (base:Heap) (C fI:Addr) (fd:FuncData):Prop where
 S:StopC K mg "Fault" C fI "fault"
 ok:FnOk P w K mg base (CX1 P w) 1 fI fd ["self","fault"] (spFault C)
 bi:Binds K fd ["self","fault"] []
section
variable {P:Program} {w:World} {K:PySem.W.Frag} {mg:Str→Option Value} {base:Heap} {C fI f:Addr} {fd:FuncData}
theorem scFaultI:FnScope ["self","fault"] ["self","fault"] (defScope sFaultI):=⟨rfl,rfl,rfl,by decide +kernel,rfl,by decide +kernel,by decide +kernel⟩
theorem ok_fault {k:Nat} (S:StopC K mg "Fault" C fI "fault") (F:Fun K "__init__" "Fault.__init__" sFaultI f fd):FnOk P w K mg base (CX1 P w) (k + 1) f fd ["self","fault"] (spFault C):=by
 refine F.ok1 scFaultI (fun vs H Q E h=>?_) (fun cdv A outer s H vs Q E hr h=>?_)
 ·obtain ⟨e,y,rfl,_⟩:=h
  rfl
 obtain ⟨e,y,rfl,he,q⟩:=h
 refine ⟨_,pss_one (ps_xset S (pv 0) (pv 1) rfl),?_⟩
 exact ⟨_,rfl,_,rfl,e,rfl,he,q⟩
end
structure CS where
 rows:List (List Int)
 cut:Option Tool
 x:Int
 y:Int
 z:Int
structure CA where
 cv:Addr
 cells:Addr
 R:Addr
 sd:Addr
 sh:Addr
def cuV (H:Hp) (ts:List Tool):Option Tool→V→Prop
 | none,cu=>cu=.non
 | some t,cu=>t∈ts∧∃ ct,cu=.ref ct∧CtAt H ct t
structure CIn (CV CC:Addr) (H0 H:Hp) (A:CA) (ts:List Tool) (S:CS):Prop where
 sm:Same H0 H
 ncv:H0 A.cv=none
 nR0:H0 A.R=none
 nsd:H0 A.sd=none
 shelf:ShAt H0 A.sh ts
 feet:∀ t∈ts,t.1.length≤60∧∀ s∈t.1,-1000≤s.1∧s.1≤1000∧-1000≤s.2∧s.2≤1000
 ob:∃ dx cu,H A.cv=some (.ins CV dx [("stuff",.ref A.cells),("shelf",.ref A.sh),("cutter",cu),("stands",.ref A.sd)])∧cuV H0 ts S.cut cu
 cl:SsAt CC H A.cells A.R S.rows
 sd:H A.sd=some (.dK [(Sum.inr "x",.int S.x),(Sum.inr "y",.int S.y),(Sum.inr "z",.int S.z)])
 rect:Rect S.rows
 small:Small S.rows
 inb:ins S.rows (S.x,S.y)=true
 zb:0≤S.z∧S.z≤1000
 fr:∀ rs:List Addr,H A.R=some (.lst (rs.map V.ref))→∀ r∈rs,H0 r=none
theorem CIn.same {CV CC:Addr} {H0 H H':Hp} {A:CA} {ts:List Tool} {S:CS} (M:CIn CV CC H0 H A ts S) (s:Same H H'):CIn CV CC H0 H' A ts S:=by
 obtain ⟨dx,cu,e,h⟩:=M.ob
 exact ⟨M.sm.trans s,M.ncv,M.nR0,M.nsd,M.shelf,M.feet,⟨dx,cu,s _ _ e,h⟩,M.cl.same s,s _ _ M.sd,M.rect,M.small,M.inb,M.zb,fun rs e=>M.fr rs (by obtain ⟨rs0,h0,_⟩:=M.cl.hR; rw [s _ _ h0] at e; rw [h0]; exact e)⟩
def IsAx (a:Str):Prop:=a="x"∨a="y"∨a="z"
def roomF (S:CS) (a:Str) (to:Int):Bool:=if a="x" then ins S.rows (to,S.y) else if a="y" then ins S.rows (S.x,to) else decide (0≤to∧to≤1000)
def CS.at_ (S:CS) (a:Str):Int:=if a="x" then S.x else if a="y" then S.y else S.z
def CS.to_ (S:CS) (a:Str) (to:Int):CS:=if a="x" then { S with x:=to } else if a="y" then { S with y:=to } else { S with z:=to }
def mx (a b:Int):Int:=if b > a then b else a
def wlo (S:CS) (a:Str) (to:Int) (b:Str):Int:=if a=b then mn (S.at_ a) to else S.at_ b
def whi (S:CS) (a:Str) (to:Int) (b:Str):Int:=if a=b then mx (S.at_ a) to else S.at_ b
theorem xy:("x":Str)≠"y":=by decide +kernel
theorem xz:("x":Str)≠"z":=by decide +kernel
theorem yz:("y":Str)≠"z":=by decide +kernel
theorem at_x (S:CS):S.at_ "x"=S.x:=if_pos rfl
theorem at_y (S:CS):S.at_ "y"=S.y:=by unfold CS.at_; rw [if_neg (Ne.symm xy),if_pos rfl]
theorem at_z (S:CS):S.at_ "z"=S.z:=by unfold CS.at_; rw [if_neg (Ne.symm xz),if_neg (Ne.symm yz)]
theorem wlo_same (S:CS) (a:Str) (to:Int):wlo S a to a=mn (S.at_ a) to:=if_pos rfl
theorem whi_same (S:CS) (a:Str) (to:Int):whi S a to a=mx (S.at_ a) to:=if_pos rfl
theorem wlo_ne (S:CS) {a b:Str} (to:Int) (h:a≠b):wlo S a to b=S.at_ b:=if_neg h
theorem whi_ne (S:CS) {a b:Str} (to:Int) (h:a≠b):whi S a to b=S.at_ b:=if_neg h
section
variable {P:Program} {w:World} {K:PySem.W.Frag} {mg:Str→Option Value} {base:Heap} {CV CC f:Addr} {fd':FuncData}
inductive PspRoom (CV CC:Addr) (vs:List V) (H:Hp) (Q:VK):Prop
 | mk (H0:Hp) (A:CA) (ts:List Tool) (S:CS) (a:Str) (to:Int) (h0:vs=[.ref A.cv,.str a,.int to]) (h1:CIn CV CC H0 H A ts S) (h2:IsAx a) (h3:Q (.bl (roomF S a to)) H):PspRoom CV CC vs H Q
def spRoom (CV CC:Addr):Sp:=fun vs H Q _=>PspRoom CV CC vs H Q
theorem scRoom:FnScope ["self","axis","to"] ["self","axis","to"] (defScope sRoom):=⟨rfl,rfl,rfl,by decide +kernel,rfl,by decide +kernel,by decide +kernel⟩
theorem ok_room (VV:VS K mg CV CC) (MH:Mt P w K mg base CC "has_cell" 1 ["self","x","y"] (spSHas CC)) (F:Fun K "has_room" "Carver.has_room" sRoom f fd'):FnOk P w K mg base (CX1 P w) 2 f fd' ["self","axis","to"] (spRoom CV CC):=by
 have nd:=scRoom.nd
 refine F.ok1 scRoom (fun vs H Q E h=>?_) (fun cdv A outer s H vs Q E hr h=>?_)
 ·obtain ⟨H0,A,ts,S,a,to,rfl,_⟩:=h
  rfl
 obtain ⟨H0,A,ts,S,a,to,rfl,M,ax,q⟩:=h
 have hr1:Room 1 _:=hr.mono (by decide)
 have hu:=hu_of' hr
 obtain ⟨tt,htop⟩:=VV.top
 refine ⟨_,(pss_cons (ps_if (pt_cmpR op_eq (pv 1) pe_str (nomark _)) (pss_one (ps_ret (pf_meth MH (pe_fld (pv 0) rfl) hr1 (pass1 (E:=E)) (pa_cons (pv 2) (pa_cons (pe_dget hu (pe_fld (pv 0) rfl) pe_str (fun _ _=>rfl)) pa_nil))))) pss_nil)
  (pss_cons (ps_if (pt_cmpR op_eq (pv 1) pe_str (nomark _)) (pss_one (ps_ret (pf_meth MH (pe_fld (pv 0) rfl) hr1 (pass1 (E:=E)) (pa_cons (pe_dget hu (pe_fld (pv 0) rfl) pe_str (fun _ _=>rfl)) (pa_cons (pv 2) pa_nil))))) pss_nil)
  (pss_one (ps_ret (pe_chain op_le op_le pe_int (pv 2) (pe_glob (v:=.int 1000) rfl htop ⟨_,rfl⟩)))))),?_⟩
 obtain ⟨dx,cu,hcv,_⟩:=M.ob
 obtain ⟨kx,hcl⟩:=M.cl.ob
 have gx:DGet H A.sd (.str "x") (some (.int S.x)):=DGet.k (k:=Sum.inr "x") M.sd
 have gy:DGet H A.sd (.str "y") (some (.int S.y)):=DGet.k (k:=Sum.inr "y") M.sd
 refine ⟨_,rfl,rfl,_,rfl,?_⟩
 refine ite2 (fun h1=>?_) (fun h1=>?_)
 ·have e:a="x":=V.str.inj (of_decide_eq_true h1)
  subst e
  refine ⟨_,rfl,A.cv,CV,dx,_,_,rfl,hcv,VV.clV,VV.nStuff,rfl,A.cells,kx,_,rfl,hcl,rfl,_,rfl,_,rfl,A.cv,CV,dx,_,_,rfl,hcv,VV.clV,VV.nStands,rfl,A.sd,_,rfl,gy,A.cells,A.R,S.rows,to,S.y,rfl,M.cl,?_⟩
  exact q
 ·have e:a≠"x":=fun z=>h1 (decide_eq_true (congrArg V.str z))
  refine ⟨_,rfl,rfl,_,rfl,?_⟩
  unfold roomF at q
  rw [if_neg e] at q
  refine ite2 (fun h2=>?_) (fun h2=>?_)
  ·have e2:a="y":=V.str.inj (of_decide_eq_true h2)
   rw [if_pos e2] at q
   refine ⟨_,rfl,A.cv,CV,dx,_,_,rfl,hcv,VV.clV,VV.nStuff,rfl,A.cells,kx,_,rfl,hcl,rfl,_,rfl,A.cv,CV,dx,_,_,rfl,hcv,VV.clV,VV.nStands,rfl,A.sd,_,rfl,gx,_,rfl,A.cells,A.R,S.rows,S.x,to,rfl,M.cl,?_⟩
   exact q
  ·rw [if_neg (fun z=>h2 (decide_eq_true (congrArg V.str z)))] at q
   refine ⟨_,rfl,_,_,rfl,rfl,_,rfl,?_⟩
   refine ite2 (fun h3=>?_) (fun h3=>?_)
   ·have h3':=of_decide_eq_true h3
    refine ⟨_,_,rfl,rfl,?_⟩
    rw [show decide (0≤to∧to≤1000)=decide (to≤1000) from decide_eq_decide.mpr ⟨fun z=>z.2,fun z=>⟨h3',z⟩⟩] at q
    exact q
   ·rw [show decide (0≤to∧to≤1000)=false from decide_eq_false fun z=>h3 (decide_eq_true z.1)] at q
    exact q
inductive PspWayTo (CV CC:Addr) (vs:List V) (H:Hp) (Q:VK):Prop
 | mk (H0:Hp) (A:CA) (ts:List Tool) (S:CS) (a:Str) (to:Int) (h0:vs=[.ref A.cv,.str a,.int to]) (h1:CIn CV CC H0 H A ts S) (h2:IsAx a) (h3:∀ wy H',Same H H'→WyAt H' wy (wlo S a to "x") (whi S a to "x") (wlo S a to "y") (whi S a to "y") (wlo S a to "z") (whi S a to "z")→Q (.ref wy) H'):PspWayTo CV CC vs H Q
def spWayTo (CV CC:Addr):Sp:=fun vs H Q _=>PspWayTo CV CC vs H Q
theorem scWayTo:FnScope ["self","axis","to","here","way"] ["self","axis","to"] (defScope sWayTo):=⟨rfl,rfl,rfl,by decide +kernel,rfl,by decide +kernel,by decide +kernel⟩
theorem ndop:(["one","place"]:List Str).Nodup:=by decide +kernel
theorem ok_wayTo (T:LawT mg) (VV:VS K mg CV CC) (F:Fun K "way_to" "Carver.way_to" sWayTo f fd'):FnOk P w K mg base (CX1 P w) 1 f fd' ["self","axis","to"] (spWayTo CV CC):=by
 have nd:=scWayTo.nd
 refine F.ok1 scWayTo (fun vs H Q E h=>?_) (fun cdv A outer s H vs Q E hr h=>?_)
 ·obtain ⟨H0,A,ts,S,a,to,rfl,_⟩:=h
  rfl
 obtain ⟨H0,A,ts,S,a,to,rfl,M,ax,q⟩:=h
 have hu:=hu_of' hr
 refine ⟨_,(pss_cons (ps_set (i:=3) nd rfl (Or.inl rfl) (pe_dget hu (pe_fld (pv 0) rfl) (pv 1) (fun _ _=>rfl)))
  (pss_cons (ps_set (i:=4) nd rfl (Or.inl rfl) (pe_callTy (call_dict_l rfl) rfl VV.dict bt_dict (pa_cons (pe_frz (pe_lc (own:=["one","place"]) (capn:=[]) (capI:=[]) rfl (blk0 rfl (by decide +kernel)) (pi_items (pe_fld (pv 0) rfl)) (fun _ _ _ _ _ _=>pg_tupK (K:=K) (n:=2) rfl rfl (pgs_cons (pg_name (i:=0) ndop rfl (Or.inl rfl)) (pgs_cons (pg_name (i:=1) ndop rfl (Or.inl rfl)) pgs_nil))) (fun _ _ _ _ _ _=>pifs_nil) (fun _ _ _ _ _ _=>(pe_tup (pa_cons (pv 0) (pa_cons (pe_tup (pa_cons (pv 1) (pa_cons (pv 1) pa_nil))) pa_nil)))))) pa_nil)))
  (pss_cons (ps_dput hu (pv 4) (pv 1) (pe_tup (pa_cons (pe_callB (call_min2 rfl) rfl T.min bt_min (pa_cons (pv 3) (pa_cons (pv 2) pa_nil))) (pa_cons (pe_callB (call_max2 rfl) rfl T.max bt_max (pa_cons (pv 3) (pa_cons (pv 2) pa_nil))) pa_nil))) rfl)
  (pss_one (ps_ret (pv 4)))))),?_⟩
 obtain ⟨dx,cu,hcv,_⟩:=M.ob
 have ga:DGet H A.sd (.str a) (some (.int (S.at_ a))):=by
  rcases ax with rfl | rfl | rfl
  ·exact DGet.k (k:=Sum.inr "x") M.sd
  ·exact DGet.k (k:=Sum.inr "y") M.sd
  ·exact DGet.k (k:=Sum.inr "z") M.sd
 refine ⟨_,rfl,A.cv,CV,dx,_,_,rfl,hcv,VV.clV,VV.nStands,rfl,_,rfl,A.sd,_,rfl,ga,?_⟩
 generalize hkv:([(Sum.inr "x",.int S.x),(Sum.inr "y",.int S.y),(Sum.inr "z",.int S.z)]:List (Key×V))=kvs
 have hsd:=M.sd
 rw [hkv] at hsd
 have kl:kvs.length=3:=by rw [← hkv]; rfl
 refine ⟨A.sd,_,hsd,AS,fun ob=>?_⟩
 have ncs:A.cv≠A.sd:=fun z=>by rw [z,hsd] at hcv; cases hcv
 refine ⟨_,rfl,A.cv,CV,dx,_,_,rfl,(by rw [upd_ne ncs]; exact hcv),VV.clV,VV.nStands,rfl,A.sd,ob,kvs,rfl,upd_same,fun D hD=>?_⟩
 have nDs:D≠A.sd:=fun z=>by rw [z,upd_same] at hD; cases hD
 have hD1:H D=none:=by rw [upd_ne nDs] at hD; exact hD
 refine ⟨Wd 3 (fun i σ acc H5=>Ex3 fun (z z':Option V) (L:List (Addr×Addr))=>σ=[z,z']∧acc=L.map (fun p=>V.ref p.1)∧L.length=i∧(∀ (j:Nat) (p:Addr×Addr) (kv:Key×V),L[j]?=some p→kvs[j]?=some kv→H5 p.1=some (.tup [kV kv.1,.ref p.2])∧H5 p.2=some (.tup [kv.2,kv.2]))∧H5 A.sd=some (.frz ob (.dK kvs))∧(∀ x o,x≠A.sd→H x=some o→H5 x=some o)∧H5 D=some (.lst acc)),
  wd_0 ⟨none,none,[],rfl,rfl,rfl,(fun _ _ _ h=>by cases h),by rw [upd_ne (Ne.symm nDs),upd_same],fun x o n e=>by rw [upd_ne (ne_of_none e hD1),upd_ne n]; exact e,upd_same⟩,?_⟩
 rintro i im σ acc H5 ⟨rfl,hi0,z,z',L,rfl,rfl,Ll,hL,hs5,k5,hD5⟩
 refine im_ask hs5 (by rw [kl]; exact hi0) (fun kv hkv' hi T' hT'=>?_) (fun hend=>?_)
 ·rw [kl] at hi
  have v1:=same_upd hT' (.tup [kV kv.1,kv.2])
  refine ⟨T',_,rfl,SqT.of upd_same,rfl,_,_,rfl,_,_,rfl,rfl,?_⟩
  refine ⟨_,rfl,_,rfl,_,rfl,le2,fun t1 ht1=>⟨le2,fun t2 ht2=>?_⟩⟩
  have v2:=same_upd ht1 (.tup [kv.2,kv.2])
  have v3:=same_upd ht2 (.tup [kV kv.1,.ref t1])
  have vv:=v1.trans (v2.trans v3)
  have hDn:=vv _ _ hD5
  have tupne:∀ {G:Hp} {p:Addr} {m:List V},G D=some (.lst (L.map fun p=>V.ref p.1))→G p=some (.tup m)→p≠D:=fun g e z=>by rw [z,g] at e; cases e
  refine ⟨hDn,(by rw [AA,Ll]; exact Aa hi (by decide)),wd_next hi ⟨_,_,L++[(t2,t1)],rfl,by rw [AG]; rfl,by rw [AI,Ll]; rfl,fun j p kv' hp hk=>?_,by rw [upd_ne (Ne.symm nDs)]; exact vv _ _ hs5,fun x o n e=>by rw [upd_ne (ne_of_none e hD1)]; exact vv _ _ (k5 x o n e),upd_same⟩⟩
  rcases snoc_get hp with ⟨_,h1⟩ | ⟨rfl,rfl⟩
  ·obtain ⟨g1,g2⟩:=hL j p kv' h1 hk
   exact ⟨by rw [upd_ne (tupne hD5 g1)]; exact vv _ _ g1,by rw [upd_ne (tupne hD5 g2)]; exact vv _ _ g2⟩
  ·rw [Ll,hkv'] at hk
   cases hk
   have g2:=v3 _ _ (upd_same (a:=t1) (o:=.tup [kv.2,kv.2]))
   exact ⟨by rw [upd_ne (tupne hDn upd_same)]; exact upd_same,by rw [upd_ne (tupne hDn g2)]; exact g2⟩
 rw [kl] at hend
 subst hend
 refine ⟨hs5,?_⟩
 have k6:Same H (upd H5 A.sd (.dK kvs)):=fun x o e=>by
  by_cases hx:x=A.sd
  ·subst hx
   rw [hsd] at e
   cases e
   exact upd_same
  ·rw [upd_ne hx]
   exact k5 x o hx e
 obtain ⟨⟨a1,b1⟩,⟨a2,b2⟩,⟨a3,b3⟩,rfl⟩:∃ p1 p2 p3,L=[p1,p2,p3]:=by
  match L,Ll with
  | [p1,p2,p3],_=>exact ⟨p1,p2,p3,rfl⟩
 subst hkv
 obtain ⟨x1,x2⟩:=hL 0 _ _ rfl rfl
 obtain ⟨y1,y2⟩:=hL 1 _ _ rfl rfl
 obtain ⟨z1,z2⟩:=hL 2 _ _ rfl rfl
 have tn:∀ {p:Addr} {m:List V},H5 p=some (.tup m)→upd H5 A.sd (.dK [(Sum.inr "x",.int S.x),(Sum.inr "y",.int S.y),(Sum.inr "z",.int S.z)]) p=some (.tup m):=fun e=>by rw [upd_ne (fun z=>by rw [z,hs5] at e; cases e)]; exact e
 have hD6:upd H5 A.sd (.dK [(Sum.inr "x",.int S.x),(Sum.inr "y",.int S.y),(Sum.inr "z",.int S.z)]) D=some (.lst [.ref a1,.ref a2,.ref a3]):=by rw [upd_ne nDs]; exact hD5
 replace x1:=tn x1
 replace x2:=tn x2
 replace y1:=tn y1
 replace y2:=tn y2
 replace z1:=tn z1
 replace z2:=tn z2
 generalize upd H5 A.sd (.dK [(Sum.inr "x",.int S.x),(Sum.inr "y",.int S.y),(Sum.inr "z",.int S.z)])=H6 at k6 x1 x2 y1 y2 z1 z2 hD6
 refine ⟨D,[(a1,Sum.inr "x",.ref b1),(a2,Sum.inr "y",.ref b2),(a3,Sum.inr "z",.ref b3)],rfl,hD6,?_,fun wy hwy=>?_⟩
 ·intro t ht
  simp only [AW,List.not_mem_nil,or_false] at ht
  rcases ht with rfl | rfl | rfl
  ·exact x1
  ·exact y1
  ·exact z1
 have u7:=same_upd hwy (.dK [(Sum.inr "x",.ref b1),(Sum.inr "y",.ref b2),(Sum.inr "z",.ref b3)])
 have e7:upd H6 wy (.dK [(Sum.inr "x",.ref b1),(Sum.inr "y",.ref b2),(Sum.inr "z",.ref b3)]) wy=some (.dK [(Sum.inr "x",.ref b1),(Sum.inr "y",.ref b2),(Sum.inr "z",.ref b3)]):=upd_same
 have ea:putAllK [] (([(a1,Sum.inr "x",.ref b1),(a2,Sum.inr "y",.ref b2),(a3,Sum.inr "z",.ref b3)]:List (Addr×Key×V)).map (·.2))=([(Sum.inr "x",.ref b1),(Sum.inr "y",.ref b2),(Sum.inr "z",.ref b3)]:List (Key×V)):=by with_unfolding_all rfl
 rw [ea]
 generalize upd H6 wy (.dK [(Sum.inr "x",.ref b1),(Sum.inr "y",.ref b2),(Sum.inr "z",.ref b3)])=H7 at u7 e7
 refine ⟨_,rfl,_,rfl,_,_,rfl,_,rfl,_,rfl,_,_,rfl,le2,fun t ht=>?_⟩
 have u8:=same_upd ht (.tup [V.int (mn (S.at_ a) to),.int (mx (S.at_ a) to)])
 have s7:=k6.trans u7
 have nwy:H wy=none:=k6.free hwy
 have fin:∀ kvs',Same H (upd (upd H7 t (.tup [V.int (mn (S.at_ a) to),.int (mx (S.at_ a) to)])) wy (.dK kvs')):=fun kvs'=>same_in (s7.trans u8) nwy
 have keep:∀ {p:Addr} {m:List V} {kvs':List (Key×V)},H6 p=some (.tup m)→upd (upd H7 t (.tup [V.int (mn (S.at_ a) to),.int (mx (S.at_ a) to)])) wy (.dK kvs') p=some (.tup m):=fun e=>by rw [upd_ne (fun z=>by rw [z,hwy] at e; cases e)]; exact u8 _ _ (u7 _ _ e)
 have nt:t≠wy:=fun z=>by rw [z,e7] at ht; cases ht
 have et:∀ kvs',upd (upd H7 t (.tup [V.int (mn (S.at_ a) to),.int (mx (S.at_ a) to)])) wy (.dK kvs') t=some (.tup [V.int (mn (S.at_ a) to),.int (mx (S.at_ a) to)]):=fun kvs'=>by rw [upd_ne nt,upd_same]
 rcases ax with rfl | rfl | rfl
 ·refine ⟨_,rfl,_,rfl,wy,_,rfl,DPut.k (k:=Sum.inr "x") (u8 _ _ e7) (show 3 < AL by decide),_,rfl,q wy _ (fin _) ⟨t,b2,b3,?_,?_,?_,?_⟩⟩
  ·rw [upd_same]
   with_unfolding_all rfl
  ·rw [wlo_same,whi_same]
   exact et _
  ·rw [wlo_ne S to xy,whi_ne S to xy,at_y]
   exact keep y2
  ·rw [wlo_ne S to xz,whi_ne S to xz,at_z]
   exact keep z2
 ·refine ⟨_,rfl,_,rfl,wy,_,rfl,DPut.k (k:=Sum.inr "y") (u8 _ _ e7) (show 3 < AL by decide),_,rfl,q wy _ (fin _) ⟨b1,t,b3,?_,?_,?_,?_⟩⟩
  ·rw [upd_same]
   with_unfolding_all rfl
  ·rw [wlo_ne S to (Ne.symm xy),whi_ne S to (Ne.symm xy),at_x]
   exact keep x2
  ·rw [wlo_same,whi_same]
   exact et _
  ·rw [wlo_ne S to yz,whi_ne S to yz,at_z]
   exact keep z2
 ·refine ⟨_,rfl,_,rfl,wy,_,rfl,DPut.k (k:=Sum.inr "z") (u8 _ _ e7) (show 3 < AL by decide),_,rfl,q wy _ (fin _) ⟨b1,b2,t,?_,?_,?_,?_⟩⟩
  ·rw [upd_same]
   with_unfolding_all rfl
  ·rw [wlo_ne S to (Ne.symm xz),whi_ne S to (Ne.symm xz),at_x]
   exact keep x2
  ·rw [wlo_ne S to (Ne.symm yz),whi_ne S to (Ne.symm yz),at_y]
   exact keep y2
  ·rw [wlo_same,whi_same]
   exact et _
end
inductive Mo where
 | hold (n:Int)
 | go (k a:Str) (to:Int)
def Mo.ok:Mo→Prop
 | .hold _=>True
 | .go k a _=>k≠"hold"∧IsAx a
def moV:Mo→List V
 | .hold n=>[.str "hold",.int n]
 | .go k a to=>[.str k,.str a,.int to]
def nW (S:CS) (a:Str) (to:Int) (b:Str):Nat:=(whi S a to b - wlo S a to b + 1).toNat
def undS (S:CS) (t:Tool) (a:Str) (to:Int):List (Int×Int):=undW S.rows t.1 (wlo S a to "x") (nW S a to "x") (wlo S a to "y") (nW S a to "y")
def cutR (S:CS) (t:Tool) (k a:Str) (to:Int):Except Str (Int×List (List Int)) :=
 if k="fast" then (if risF S.rows (undS S t a to) (wlo S a to "z")=true then .error "crash" else .ok (0,S.rows))
 else (if risF S.rows (undS S t a to) (wlo S a to "z" + t.2)=true then .error "bite" else .ok ((dwn S.rows (undS S t a to) (wlo S a to "z")).2,(dwn S.rows (undS S t a to) (wlo S a to "z")).1))
def stepC (ts:List Tool) (S:CS):Mo→Except Str (Int×CS)
 | .hold n=>if 0≤n∧n < ts.length then (if S.z=1000 then (match ts[n.toNat]? with | some t=>.ok (0,{ S with cut:=some t }) | none=>.error "shelf") else .error "low") else .error "shelf"
 | .go k a to=>match S.cut with
  | none=>.error "bare"
  | some t=>if roomF S a to=true then (match cutR S t k a to with | .ok r=>.ok (r.1,({ S with rows:=r.2 }:CS).to_ a to) | .error x=>.error x) else .error "out"
def FrA (A:CA) (H H':Hp):Prop:=∀ x o,x≠A.cv→x≠A.sd→x≠A.R→H x=some o→H' x=some o
theorem FrA.of {A:CA} {H H':Hp} (s:Same H H'):FrA A H H':=fun x o _ _ _ e=>s x o e
theorem FrA.trans {A:CA} {H H1 H2:Hp} (h:FrA A H H1) (g:FrA A H1 H2):FrA A H H2:=fun x o a b c e=>g x o a b c (h x o a b c e)
section
variable {CV CC:Addr} {H0 H H1 H':Hp} {A:CA} {ts:List Tool} {S:CS}
theorem CIn.out (M:CIn CV CC H0 H A ts S):A.cv≠A.R∧A.cells≠A.R∧A.sd≠A.R∧A.cv≠A.sd∧A.cells≠A.sd:=by
 obtain ⟨dx,cu,e,_⟩:=M.ob
 obtain ⟨kx,e2⟩:=M.cl.ob
 obtain ⟨rs,h,_⟩:=M.cl.hR
 refine ⟨fun z=>?_,fun z=>?_,fun z=>?_,fun z=>?_,fun z=>?_⟩
 ·rw [z,h] at e
  cases e
 ·rw [z,h] at e2
  cases e2
 ·have e3:=M.sd
  rw [z,h] at e3
  cases e3
 ·rw [z,M.sd] at e
  cases e
 ·rw [z,M.sd] at e2
  cases e2
theorem CIn.cutd (M:CIn CV CC H0 H A ts S) {rows':List (List Int)} (k:Sb A.R H H') (cl:SsAt CC H' A.cells A.R rows') (al:Alike S.rows rows') (rf:RwF A.R H H'):CIn CV CC H0 H' A ts { S with rows:=rows' }:=by
 obtain ⟨dx,cu,e,h⟩:=M.ob
 obtain ⟨o1,o2,o3,_⟩:=M.out
 exact ⟨k.same M.sm M.nR0,M.ncv,M.nR0,M.nsd,M.shelf,M.feet,⟨dx,cu,k _ _ o1 e,h⟩,cl,k _ _ o3 M.sd,al.rect M.rect,al.small M.small,by show ins rows' (S.x,S.y)=true; rw [← al.ins]; exact M.inb,M.zb,fun rs e r hr=>by
  obtain ⟨rs0,h0,_⟩:=M.cl.hR
  rcases rf rs0 rs h0 e r hr with z | z
  ·exact M.fr rs0 h0 r z
  ·exact M.sm.free z⟩
theorem SsAt.upd {H:Hp} {c R q:Addr} {rows:List (List Int)} {o:HO} (h:SsAt CC H c R rows) (h1:c≠q) (h2:R≠q) (h3:∀ xs,H q≠some (.lst xs)) (h4:∀ m,H q≠some (.tup m)):SsAt CC (L2.upd H q o) c R rows:=by
 obtain ⟨dx,e⟩:=h.ob
 obtain ⟨rs,a,b,n⟩:=h.hR
 refine ⟨⟨dx,by rw [upd_ne h1]; exact e⟩,rs,by rw [upd_ne h2]; exact a,SpAt.upd h4 (fun z=>?_) b,n⟩
 obtain ⟨xs,hx⟩:=b.mem q z
 exact h3 _ hx
theorem in_lt {rows:List (List Int)} {x y:Int} (h:ins rows (x,y)=true) (sm:Small rows) (R:Rect rows):0≤x∧x < 40∧0≤y∧y < 40:=by
 obtain ⟨h1,h2,h3,h4⟩:0≤y∧y < rows.length∧0≤x∧x < (rows.headD []).length:=of_decide_eq_true h
 have hw:(rows.headD []).length≤40:=by
  cases hr:rows with
  | nil=>exact absurd hr R.1
  | cons r0 rr=>exact sm.2 r0 (by rw [hr]; exact Ab)
 have:=sm.1
 lia
theorem CIn.way (M:CIn CV CC H0 H A ts S) {a:Str} {to:Int} (ax:IsAx a) (rm:roomF S a to=true) :
  whi S a to "x"=wlo S a to "x" + (nW S a to "x":Int) - 1∧whi S a to "y"=wlo S a to "y" + (nW S a to "y":Int) - 1∧nW S a to "x"≤40∧nW S a to "y"≤40∧0≤wlo S a to "x"∧wlo S a to "x"≤1000∧0≤wlo S a to "y"∧wlo S a to "y"≤1000:=by
 have b:=in_lt M.inb M.small M.rect
 have mnx:∀ p q:Int,mn p q≤mx p q∧(mn p q=p∨mn p q=q)∧(mx p q=p∨mx p q=q):=fun p q=>by
  unfold mn mx
  split <;> split <;> lia
 unfold nW
 rcases ax with rfl | rfl | rfl
 ·have b2:0≤to∧to < 40∧_:=in_lt (show ins S.rows (to,S.y)=true from rm) M.small M.rect
  rw [wlo_same,whi_same,wlo_ne S to xy,whi_ne S to xy,at_x,at_y]
  have:=mnx S.x to
  lia
 ·have rm':ins S.rows (S.x,to)=true:=by
   unfold roomF at rm
   rw [if_neg (Ne.symm xy),if_pos rfl] at rm
   exact rm
  have b2:=in_lt rm' M.small M.rect
  rw [wlo_same,whi_same,wlo_ne S to (Ne.symm xy),whi_ne S to (Ne.symm xy),at_x,at_y]
  have:=mnx S.y to
  lia
 ·rw [wlo_ne S to (Ne.symm xz),whi_ne S to (Ne.symm xz),wlo_ne S to (Ne.symm yz),whi_ne S to (Ne.symm yz),at_x,at_y]
  lia
theorem CIn.stand (M:CIn CV CC H0 H A ts S) {a:Str} {to:Int} (ax:IsAx a) (rm:roomF S a to=true):CIn CV CC H0 (upd H A.sd (.dK (putK [(Sum.inr "x",.int S.x),(Sum.inr "y",.int S.y),(Sum.inr "z",.int S.z)] (Sum.inr a:Key) (.int to)))) A ts (S.to_ a to):=by
 obtain ⟨dx,cu,e,h⟩:=M.ob
 obtain ⟨o1,o2,o3,o4,o7⟩:=M.out
 have kp:∀ x o,x≠A.sd→H x=some o→upd H A.sd (.dK (putK [(Sum.inr "x",.int S.x),(Sum.inr "y",.int S.y),(Sum.inr "z",.int S.z)] (Sum.inr a:Key) (.int to))) x=some o:=fun x o n q=>by rw [upd_ne n]; exact q
 have ecut:(S.to_ a to).cut=S.cut∧(S.to_ a to).rows=S.rows:=by
  unfold CS.to_
  split
  ·exact ⟨rfl,rfl⟩
  ·split <;> exact ⟨rfl,rfl⟩
 refine ⟨same_in M.sm M.nsd,M.ncv,M.nR0,M.nsd,M.shelf,M.feet,⟨dx,cu,kp _ _ o4 e,by rw [ecut.1]; exact h⟩,by rw [ecut.2]; exact M.cl.upd o7 (Ne.symm o3) (fun xs z=>by rw [M.sd] at z; cases z) (fun m z=>by rw [M.sd] at z; cases z),?_,by rw [ecut.2]; exact M.rect,by rw [ecut.2]; exact M.small,?_,?_,fun rs e=>M.fr rs (by rw [upd_ne (Ne.symm o3)] at e; exact e)⟩
 ·rw [upd_same]
  rcases ax with rfl | rfl | rfl <;> with_unfolding_all rfl
 ·rw [ecut.2]
  rcases ax with rfl | rfl | rfl
  ·exact rm
  ·unfold roomF at rm
   rw [if_neg (Ne.symm xy),if_pos rfl] at rm
   unfold CS.to_
   rw [if_neg (Ne.symm xy),if_pos rfl]
   exact rm
  ·unfold CS.to_
   rw [if_neg (Ne.symm xz),if_neg (Ne.symm yz)]
   exact M.inb
 ·rcases ax with rfl | rfl | rfl
  ·exact M.zb
  ·unfold CS.to_
   rw [if_neg (Ne.symm xy),if_pos rfl]
   exact M.zb
  ·unfold roomF at rm
   rw [if_neg (Ne.symm xz),if_neg (Ne.symm yz)] at rm
   unfold CS.to_
   rw [if_neg (Ne.symm xz),if_neg (Ne.symm yz)]
   exact of_decide_eq_true rm
theorem undW_ok {rows:List (List Int)} {foot:List (Int×Int)} {x0 y0:Int} {nx ny:Nat} (f:foot.length≤100) (hx:nx≤40) (hy:ny≤40):(undW rows foot x0 nx y0 ny).length≤160000∧∀ d∈undW rows foot x0 nx y0 ny,ins rows d=true:=by
 refine ⟨Ag (List.length_filter_le _ _) (Ag (len_adds _ _) ?_),fun d hd=>(List.mem_filter.mp hd).2⟩
 rw [cellsW_len]
 have e1:ny * (nx * foot.length)≤40 * (40 * 100):=Nat.mul_le_mul hy (Nat.mul_le_mul hx f)
 show 0 + _≤_
 lia
end
section
variable {P:Program} {w:World} {K:PySem.W.Frag} {mg:Str→Option Value} {base:Heap} {CV CC C fI f:Addr} {fd fd':FuncData}
inductive PspPass (K:PySem.W.Frag) (C CV CC:Addr) (vs:List V) (H:Hp) (Q:VK) (E:XK):Prop
 | mk (H0:Hp) (A:CA) (ts:List Tool) (S:CS) (t:Tool) (wy:Addr) (x0 y0 z0 z1:Int) (nx ny:Nat) (h0:vs=[.ref A.cv,.ref wy]) (h1:CIn CV CC H0 H A ts S) (h2:S.cut=some t) (h3:WyAt H wy x0 (x0 + (nx:Int) - 1) y0 (y0 + (ny:Int) - 1) z0 z1) (h4:nx≤40) (h5:ny≤40) (h6:-1000≤x0) (h7:x0≤1000) (h8:-1000≤y0) (h9:y0≤1000) (h10:if risF S.rows (undW S.rows t.1 x0 nx y0 ny) z0=true then XE K C H E (dF "crash") else ∀ H',Same H H'→Q (.int 0) H'):PspPass K C CV CC vs H Q E
def spPass (K:PySem.W.Frag) (C CV CC:Addr):Sp:=fun vs H Q E=>PspPass K C CV CC vs H Q E
theorem scPass:FnScope ["self","way","under"] ["self","way"] (defScope sPass):=⟨rfl,rfl,rfl,by decide +kernel,rfl,by decide +kernel,by decide +kernel⟩
theorem XE.from {H H1:Hp} {E:XK} {d:PyData} (h:XE K C H E d) (s:Same H H1):XE K C H1 E d:=fun dx v H' s' e r=>h dx v H' (s.trans s') e r
theorem ok_pass (VV:VS K mg CV CC) (FS:FaT P w K mg base C fI fd) (MU:Mt P w K mg base CC "under" 2 ["self","foot","way"] (spSUnd CC)) (MR:Mt P w K mg base CC "rises_above" 4 ["self","under","height"] (spSRis CC)) (F:Fun K "pass_over" "Carver.pass_over" sPass f fd'):FnOk P w K mg base (CX1 P w) 5 f fd' ["self","way"] (spPass K C CV CC):=by
 have nd:=scPass.nd
 refine F.ok1 scPass (fun vs H Q E h=>?_) (fun cdv A outer s H vs Q E hr h=>?_)
 ·obtain ⟨H0,A,ts,S,t,wy,x0,y0,z0,z1,nx,ny,rfl,_⟩:=h
  rfl
 obtain ⟨H0,A,ts,S,t,wy,x0,y0,z0,z1,nx,ny,rfl,M,hcut,W,nx40,ny40,xa,xb,ya,yb,q⟩:=h
 have hr2:Room 2 _:=hr.mono (by decide)
 have hu:=hu_of' hr
 refine ⟨_,(pss_cons (ps_set (i:=2) nd rfl (Or.inl rfl) (pf_meth MU (pe_fld (pv 0) rfl) hr2 (pass1 (E:=E)) (pa_cons (pe_ix (ix_tupK (K:=K) rfl) (pe_fld (pv 0) rfl) pe_int (fun _ _=>rfl)) (pa_cons (pv 1) pa_nil))))
  (pss_cons (ps_if (pt_truth (pf_meth MR (pe_fld (pv 0) rfl) hr (pass1 (E:=E)) (pa_cons (pv 2) (pa_cons (pe_ix (ix_tupK (K:=K) rfl) (pe_dget hu (pv 1) pe_str (fun _ _=>rfl)) pe_int (fun _ _=>rfl)) pa_nil))) (fun _=>rfl)) (pss_one (ps_raiseI FS.S rfl rfl rfl flies1 FS.ok hr2 FS.bi (pa_cons (pe_tup (pa_cons pe_str pa_nil)) pa_nil))) pss_nil)
  (pss_one (ps_ret pe_int)))),?_⟩
 obtain ⟨dx,cu,hcv,hcu⟩:=M.ob
 obtain ⟨kx,hcl⟩:=M.cl.ob
 rw [hcut] at hcu
 obtain ⟨htm,ct,rfl,hct⟩:=hcu
 obtain ⟨ft,hc1,hft⟩:=hct.same M.sm
 have f60:=M.feet t htm
 have f100:t.1.length≤100:=Ag f60.1 (by decide)
 refine ⟨_,rfl,A.cv,CV,dx,_,_,rfl,hcv,VV.clV,VV.nStuff,rfl,A.cells,kx,_,rfl,hcl,rfl,_,rfl,A.cv,CV,dx,_,_,rfl,hcv,VV.clV,VV.nCutter,rfl,ct,_,0,.ref ft,rfl,rfl,SqT.of hc1,rfl,_,rfl,A.cells,A.R,ft,wy,S.rows,t.1,x0,y0,z0,z1,nx,ny,rfl,M.cl,M.rect,M.small,hft,W,f60.1,f60.2,nx40,ny40,⟨xa,xb,ya,yb⟩,fun u uts us H1 nu s1 hu1 un uok ulen ucov=>?_⟩
 obtain ⟨ul,uin⟩:=undW_ok (rows:=S.rows) (x0:=x0) (y0:=y0) f100 nx40 ny40
 have M1:=M.same s1
 have W1:=W.same s1
 obtain ⟨tx,ty,tz,w1,w2,w3,w4⟩:=W1
 have gz:DGet H1 wy (.str "z") (some (.ref tz)):=DGet.k (k:=Sum.inr "z") w1
 refine ⟨_,rfl,A.cv,CV,dx,_,_,rfl,s1 _ _ hcv,VV.clV,VV.nStuff,rfl,A.cells,kx,_,rfl,s1 _ _ hcl,rfl,_,rfl,_,rfl,wy,_,rfl,gz,tz,_,0,.int z0,rfl,rfl,SqT.of w4,rfl,A.cells,A.R,u,uts,S.rows,us,z0,rfl,M1.cl,M.rect,M.small,hu1,un,uok,ulen,fun H2 s2=>⟨_,rfl,?_⟩⟩
 rw [ris_alike M.rect uok uin ucov]
 have s12:=s1.trans s2
 refine ite2 (fun h1=>?_) (fun h1=>?_)
 ·rw [if_pos h1] at q
  refine ⟨le1,fun p hp=>⟨le1,?_⟩⟩
  exact fault_ok hp (.tup (SqT.of upd_same) (.cons (.str _) .nil)) (XE.from q s12)
 ·rw [if_neg h1] at q
  exact q _ s12
inductive PspAlong (K:PySem.W.Frag) (C CV CC:Addr) (vs:List V) (H:Hp) (Q:VK) (E:XK):Prop
 | mk (H0:Hp) (A:CA) (ts:List Tool) (S:CS) (t:Tool) (wy:Addr) (x0 y0 z0 z1:Int) (nx ny:Nat) (h0:vs=[.ref A.cv,.ref wy]) (h1:CIn CV CC H0 H A ts S) (h2:S.cut=some t) (h3:WyAt H wy x0 (x0 + (nx:Int) - 1) y0 (y0 + (ny:Int) - 1) z0 z1) (h4:nx≤40) (h5:ny≤40) (h6:-1000≤x0) (h7:x0≤1000) (h8:-1000≤y0) (h9:y0≤1000) (h10:if risF S.rows (undW S.rows t.1 x0 nx y0 ny) (z0 + t.2)=true then XE K C H E (dF "bite") else ∀ H',FrA A H H'→CIn CV CC H0 H' A ts { S with rows:=(dwn S.rows (undW S.rows t.1 x0 nx y0 ny) z0).1 }→Q (.int (dwn S.rows (undW S.rows t.1 x0 nx y0 ny) z0).2) H'):PspAlong K C CV CC vs H Q E
def spAlong (K:PySem.W.Frag) (C CV CC:Addr):Sp:=fun vs H Q E=>PspAlong K C CV CC vs H Q E
theorem scAlong:FnScope ["self","way","under","lowest"] ["self","way"] (defScope sAlong):=⟨rfl,rfl,rfl,by decide +kernel,rfl,by decide +kernel,by decide +kernel⟩
theorem ok_along (VV:VS K mg CV CC) (FS:FaT P w K mg base C fI fd) (MU:Mt P w K mg base CC "under" 2 ["self","foot","way"] (spSUnd CC)) (MR:Mt P w K mg base CC "rises_above" 4 ["self","under","height"] (spSRis CC)) (MD:Mt P w K mg base CC "cut_down" 4 ["self","under","height"] (spSDn CC)) (F:Fun K "cut_along" "Carver.cut_along" sAlong f fd'):FnOk P w K mg base (CX1 P w) 5 f fd' ["self","way"] (spAlong K C CV CC):=by
 have nd:=scAlong.nd
 refine F.ok1 scAlong (fun vs H Q E h=>?_) (fun cdv A outer s H vs Q E hr h=>?_)
 ·obtain ⟨H0,A,ts,S,t,wy,x0,y0,z0,z1,nx,ny,rfl,_⟩:=h
  rfl
 obtain ⟨H0,A,ts,S,t,wy,x0,y0,z0,z1,nx,ny,rfl,M,hcut,W,nx40,ny40,xa,xb,ya,yb,q⟩:=h
 have hr2:Room 2 _:=hr.mono (by decide)
 have hu:=hu_of' hr
 refine ⟨_,(pss_cons (ps_set (i:=2) nd rfl (Or.inl rfl) (pf_meth MU (pe_fld (pv 0) rfl) hr2 (pass1 (E:=E)) (pa_cons (pe_ix (ix_tupK (K:=K) rfl) (pe_fld (pv 0) rfl) pe_int (fun _ _=>rfl)) (pa_cons (pv 1) pa_nil))))
  (pss_cons (ps_set (i:=3) nd rfl (Or.inl rfl) (pe_ix (ix_tupK (K:=K) rfl) (pe_dget hu (pv 1) pe_str (fun _ _=>rfl)) pe_int (fun _ _=>rfl)))
  (pss_cons (ps_if (pt_truth (pf_meth MR (pe_fld (pv 0) rfl) hr (pass1 (E:=E)) (pa_cons (pv 2) (pa_cons (pe_op op_add (pv 3) (pe_ix (ix_tupK (K:=K) rfl) (pe_fld (pv 0) rfl) pe_int (fun _ _=>rfl))) pa_nil))) (fun _=>rfl)) (pss_one (ps_raiseI FS.S rfl rfl rfl flies1 FS.ok hr2 FS.bi (pa_cons (pe_tup (pa_cons pe_str pa_nil)) pa_nil))) pss_nil)
  (pss_one (ps_ret (pf_meth MD (pe_fld (pv 0) rfl) hr (pass1 (E:=E)) (pa_cons (pv 2) (pa_cons (pv 3) pa_nil)))))))),?_⟩
 obtain ⟨dx,cu,hcv,hcu⟩:=M.ob
 obtain ⟨kx,hcl⟩:=M.cl.ob
 rw [hcut] at hcu
 obtain ⟨htm,ct,rfl,hct⟩:=hcu
 obtain ⟨ft,hc1,hft⟩:=hct.same M.sm
 have f60:=M.feet t htm
 have f100:t.1.length≤100:=Ag f60.1 (by decide)
 refine ⟨_,rfl,A.cv,CV,dx,_,_,rfl,hcv,VV.clV,VV.nStuff,rfl,A.cells,kx,_,rfl,hcl,rfl,_,rfl,A.cv,CV,dx,_,_,rfl,hcv,VV.clV,VV.nCutter,rfl,ct,_,0,.ref ft,rfl,rfl,SqT.of hc1,rfl,_,rfl,A.cells,A.R,ft,wy,S.rows,t.1,x0,y0,z0,z1,nx,ny,rfl,M.cl,M.rect,M.small,hft,W,f60.1,f60.2,nx40,ny40,⟨xa,xb,ya,yb⟩,fun u uts us H1 nu s1 hu1 un uok ulen ucov=>?_⟩
 obtain ⟨ul,uin⟩:=undW_ok (rows:=S.rows) (x0:=x0) (y0:=y0) f100 nx40 ny40
 have M1:=M.same s1
 have W1:=W.same s1
 obtain ⟨tx,ty,tz,w1,w2,w3,w4⟩:=W1
 have gz:DGet H1 wy (.str "z") (some (.ref tz)):=DGet.k (k:=Sum.inr "z") w1
 have hcv1:=s1 _ _ hcv
 have hc11:=s1 _ _ hc1
 have hcl1:=s1 _ _ hcl
 refine ⟨_,rfl,wy,_,rfl,gz,tz,_,0,.int z0,rfl,rfl,SqT.of w4,rfl,?_⟩
 refine ⟨_,rfl,A.cv,CV,dx,_,_,rfl,hcv1,VV.clV,VV.nStuff,rfl,A.cells,kx,_,rfl,hcl1,rfl,_,rfl,_,rfl,_,rfl,A.cv,CV,dx,_,_,rfl,hcv1,VV.clV,VV.nCutter,rfl,ct,_,1,.int t.2,rfl,rfl,SqT.of hc11,rfl,_,_,rfl,rfl,A.cells,A.R,u,uts,S.rows,us,z0 + t.2,rfl,M1.cl,M.rect,M.small,hu1,un,uok,ulen,fun H2 s2=>⟨_,rfl,?_⟩⟩
 rw [ris_alike M.rect uok uin ucov]
 have s12:=s1.trans s2
 refine ite2 (fun h1=>?_) (fun h1=>?_)
 ·rw [if_pos h1] at q
  refine ⟨le1,fun p hp=>⟨le1,?_⟩⟩
  exact fault_ok hp (.tup (SqT.of upd_same) (.cons (.str _) .nil)) (XE.from q s12)
 ·rw [if_neg h1] at q
  have M2:=M1.same s2
  have nu2:u≠A.R:=fun z=>by
   obtain ⟨rs,hR,_⟩:=M.cl.hR
   rw [z,hR] at nu
   cases nu
  refine ⟨_,rfl,A.cv,CV,dx,_,_,rfl,s2 _ _ hcv1,VV.clV,VV.nStuff,rfl,A.cells,kx,_,rfl,s2 _ _ hcl1,rfl,_,rfl,_,rfl,A.cells,A.R,u,uts,S.rows,us,z0,rfl,M2.cl,M.rect,M.small,s2 _ _ hu1,un.same s2,uok,nu2,fun H3 k3 ra3 rf3=>?_⟩
  rw [dwn_alike M.rect uok uin ucov] at ra3 ⊢
  have al:Alike S.rows (dwn S.rows (undW S.rows t.1 x0 nx y0 ny) z0).1:=by
   unfold dwn
   rw [dwn_fst]
   exact cuts_alike _ _
  exact q H3 (fun x o _ _ n e=>k3 x o n (s12 x o e)) (M2.cutd k3 ra3 al rf3)
end
section
variable {P:Program} {w:World} {K:PySem.W.Frag} {mg:Str→Option Value} {base:Heap} {CV CC C fI f:Addr} {fd fd':FuncData}
theorem stepC_none {ts:List Tool} {S:CS} {k a:Str} {to:Int} (h:S.cut=none):stepC ts S (.go k a to)=.error "bare":=by
 show (match S.cut with | none=>(.error "bare":Except Str (Int×CS)) | some t=>if roomF S a to=true then (match cutR S t k a to with | .ok r=>.ok (r.1,({ S with rows:=r.2 }:CS).to_ a to) | .error x=>.error x) else .error "out")=_
 rw [h]
theorem stepC_some {ts:List Tool} {S:CS} {k a:Str} {to:Int} {t:Tool} (h:S.cut=some t):stepC ts S (.go k a to)=if roomF S a to=true then (match cutR S t k a to with | .ok r=>.ok (r.1,({ S with rows:=r.2 }:CS).to_ a to) | .error x=>.error x) else .error "out":=by
 show (match S.cut with | none=>(.error "bare":Except Str (Int×CS)) | some t=>if roomF S a to=true then (match cutR S t k a to with | .ok r=>.ok (r.1,({ S with rows:=r.2 }:CS).to_ a to) | .error x=>.error x) else .error "out")=_
 rw [h]
def ResC (K:PySem.W.Frag) (C CV CC:Addr) (H0 H:Hp) (A:CA) (ts:List Tool) (Q:VK) (E:XK):Except Str (Int×CS)→Prop
 | .ok r=>∀ H',FrA A H H'→CIn CV CC H0 H' A ts r.2→Q (.int r.1) H'
 | .error x=>XE K C H E (dF x)
inductive PspDoHold (K:PySem.W.Frag) (C CV CC:Addr) (vs:List V) (H:Hp) (Q:VK) (E:XK):Prop
 | mk (H0:Hp) (A:CA) (ts:List Tool) (S:CS) (n:Int) (h0:vs=[.ref A.cv,.int n]) (h1:CIn CV CC H0 H A ts S) (h2:ResC K C CV CC H0 H A ts Q E (stepC ts S (.hold n))):PspDoHold K C CV CC vs H Q E
def spDoHold (K:PySem.W.Frag) (C CV CC:Addr):Sp:=fun vs H Q E=>PspDoHold K C CV CC vs H Q E
theorem scDoHold:FnScope ["self","number"] ["self","number"] (defScope sDoHold):=⟨rfl,rfl,rfl,by decide +kernel,rfl,by decide +kernel,by decide +kernel⟩
theorem ok_doHold (T:LawT mg) (VV:VS K mg CV CC) (FS:FaT P w K mg base C fI fd) (F:Fun K "do_hold" "Carver.do_hold" sDoHold f fd'):FnOk P w K mg base (CX1 P w) 3 f fd' ["self","number"] (spDoHold K C CV CC):=by
 have nd:=scDoHold.nd
 refine F.ok1 scDoHold (fun vs H Q E h=>?_) (fun cdv A outer s H vs Q E hr h=>?_)
 ·obtain ⟨H0,A,ts,S,n,rfl,_⟩:=h
  rfl
 obtain ⟨H0,A,ts,S,n,rfl,M,q⟩:=h
 have hu:=hu_of' hr
 obtain ⟨tt,htop⟩:=VV.top
 refine ⟨_,(pss_cons (ps_if (pt_not (pt_chain op_le op_lt pe_int (pv 1) (pe_callB (call_lenK (K:=K) rfl) rfl T.len Ao (pa_cons (pe_fld (pv 0) rfl) pa_nil)))) (pss_one (ps_raiseI FS.S rfl rfl rfl flies1 FS.ok hr FS.bi (pa_cons (pe_tup (pa_cons pe_str pa_nil)) pa_nil))) pss_nil)
  (pss_cons (ps_if (pt_cmpR op_ne (pe_dget hu (pe_fld (pv 0) rfl) pe_str (fun _ _=>rfl)) (pe_glob (v:=.int 1000) rfl htop ⟨_,rfl⟩) (nomark _)) (pss_one (ps_raiseI FS.S rfl rfl rfl flies1 FS.ok hr FS.bi (pa_cons (pe_tup (pa_cons pe_str pa_nil)) pa_nil))) pss_nil)
  (pss_cons (ps_fld (pv 0) (pe_ix (ix_listK (K:=K) rfl) (pe_fld (pv 0) rfl) (pv 1) (fun _ _=>rfl)) rfl)
  (pss_one (ps_ret pe_int))))),?_⟩
 obtain ⟨dx,cu,hcv,hcu⟩:=M.ob
 obtain ⟨cts,hsh0,hct0⟩:=id M.shelf
 have hsh:=M.sm _ _ hsh0
 have ctl:=hct0.len
 have gz:DGet H A.sd (.str "z") (some (.int S.z)):=DGet.k (k:=Sum.inr "z") M.sd
 have bad:∀ x:Str,¬ (0≤n∧n < ts.length)→XE K C H E (dF "shelf"):=fun _ h=>by
  rw [show stepC ts S (.hold n)=.error "shelf" from if_neg h] at q
  exact q
 refine ⟨_,rfl,_,_,rfl,rfl,_,rfl,?_⟩
 have raise:XE K C H E (dF "shelf")→1≤AL∧∀ p,H p=none→1≤AL∧∀ e,upd H p (.tup [.str "shelf"]) e=none→spFault C [.ref e,.ref p] (upd (upd H p (.tup [.str "shelf"])) e (ExcN e C)) (fun v H2=>v=.non∧∃ dx,H2 e=some (ExcD e C dx)∧E (.ref C) (some dx) (drop H2 e)) E0:=fun h=>⟨le1,fun p hp=>⟨le1,fault_ok hp (.tup (SqT.of upd_same) (.cons (.str _) .nil)) h⟩⟩
 refine ite2 (fun h1=>?_) (fun h1=>?_)
 ·have h1':=of_decide_eq_true h1
  refine ⟨_,rfl,A.cv,CV,dx,_,_,rfl,hcv,VV.clV,VV.nShelf,rfl,A.sh,_,rfl,.inl (SqL.of hsh),_,_,rfl,rfl,_,rfl,?_⟩
  refine ite2 (fun h2=>?_) (fun h2=>?_)
  ·have h2':¬ n < ((cts.map V.ref).length:Int):=fun z=>by
    rw [decide_eq_true z] at h2
    cases h2
   exact raise (bad "" fun z=>h2' (by rw [AA,ctl]; exact z.2))
  ·have h2':n < (ts.length:Int):=by
    have:decide (n < ((cts.map V.ref).length:Int))=true:=by
     cases e:decide (n < ((cts.map V.ref).length:Int)) with
     | true=>rfl
     | false=>rw [e] at h2; exact absurd rfl h2
    have:=of_decide_eq_true this
    rw [AA,ctl] at this
    exact this
   have es:stepC ts S (.hold n)=(if S.z=1000 then (match ts[n.toNat]? with | some t=>.ok (0,{ S with cut:=some t }) | none=>.error "shelf") else .error "low"):=if_pos ⟨h1',h2'⟩
   rw [es] at q
   refine ⟨_,rfl,A.cv,CV,dx,_,_,rfl,hcv,VV.clV,VV.nStands,rfl,A.sd,_,rfl,gz,rfl,_,rfl,?_⟩
   refine ite2 (fun h3=>?_) (fun h3=>?_)
   ·have h3':¬ S.z=1000:=fun z=>by
     rw [z,show decide (V.int 1000=V.int 1000)=true from decide_eq_true rfl] at h3
     cases h3
    rw [if_neg h3'] at q
    exact ⟨le1,fun p hp=>⟨le1,fault_ok hp (.tup (SqT.of upd_same) (.cons (.str _) .nil)) q⟩⟩
   ·have h3':S.z=1000:=by
     apply Classical.byContradiction
     intro z
     rw [show decide (V.int S.z=V.int 1000)=false from decide_eq_false fun e=>z (V.int.inj e)] at h3
     exact h3 rfl
    rw [if_pos h3'] at q
    obtain ⟨i,rfl⟩:∃ i:Nat,n=(i:Int):=⟨n.toNat,by lia⟩
    have hi:i < cts.length:=by lia
    have ei:=AB hi
    obtain ⟨t,et,hct⟩:=hct0.at_ ei
    generalize cts[i]=ct at ei hct
    rw [Aj,et] at q
    have q':∀ H',FrA A H H'→CIn CV CC H0 H' A ts { S with cut:=some t }→Q (.int 0) H':=q
    refine ⟨_,rfl,A.cv,CV,dx,_,_,rfl,hcv,VV.clV,VV.nShelf,rfl,_,rfl,A.sh,_,_,.ref ct,rfl,rfl,SqL.of hsh,atI_nat (by rw [AF,ei]; rfl),_,rfl,A.cv,CV,dx,_,rfl,hcv,VV.clV,VV.nCutter,(by show 4 < 1000; decide),?_⟩
    obtain ⟨o1,o2,o3,o4,o7⟩:=M.out
    obtain ⟨kx,hcl⟩:=M.cl.ob
    have ncc:A.cells≠A.cv:=fun z=>by
     rw [z,hcv] at hcl
     simp at hcl
    have kp:∀ x o u,x≠A.cv→H x=some o→upd H A.cv u x=some o:=fun x o u hx e=>by rw [upd_ne hx]; exact e
    refine q' _ (fun x o hx _ _ e=>kp x o _ hx e) ⟨same_in M.sm M.ncv,M.ncv,M.nR0,M.nsd,M.shelf,M.feet,⟨dx,.ref ct,upd_same,A5 et,ct,rfl,hct⟩,M.cl.upd ncc (Ne.symm o1) (fun xs z=>by rw [hcv] at z; cases z) (fun m z=>by rw [hcv] at z; cases z),kp _ _ _ (Ne.symm o4) M.sd,M.rect,M.small,M.inb,M.zb,fun rs e=>M.fr rs (by rw [upd_ne (Ne.symm o1)] at e; exact e)⟩
 ·exact ⟨_,rfl,iteT (raise (bad "" fun z=>h1 (decide_eq_true z.1)))⟩
inductive PspDoMove (K:PySem.W.Frag) (C CV CC:Addr) (vs:List V) (H:Hp) (Q:VK) (E:XK):Prop
 | mk (H0:Hp) (A:CA) (ts:List Tool) (S:CS) (k a:Str) (to:Int) (h0:vs=[.ref A.cv,.str k,.str a,.int to]) (h1:CIn CV CC H0 H A ts S) (h2:IsAx a) (h3:ResC K C CV CC H0 H A ts Q E (stepC ts S (.go k a to))):PspDoMove K C CV CC vs H Q E
def spDoMove (K:PySem.W.Frag) (C CV CC:Addr):Sp:=fun vs H Q E=>PspDoMove K C CV CC vs H Q E
theorem scDoMove:FnScope ["self","kind","axis","to","way","taken"] ["self","kind","axis","to"] (defScope sDoMove):=⟨rfl,rfl,rfl,by decide +kernel,rfl,by decide +kernel,by decide +kernel⟩
theorem ok_doMove (VV:VS K mg CV CC) (FS:FaT P w K mg base C fI fd) (MRm:Mt P w K mg base CV "has_room" 2 ["self","axis","to"] (spRoom CV CC)) (MW:Mt P w K mg base CV "way_to" 1 ["self","axis","to"] (spWayTo CV CC)) (MP:Mt P w K mg base CV "pass_over" 5 ["self","way"] (spPass K C CV CC)) (MA:Mt P w K mg base CV "cut_along" 5 ["self","way"] (spAlong K C CV CC))
  (F:Fun K "do_move" "Carver.do_move" sDoMove f fd'):FnOk P w K mg base (CX1 P w) 6 f fd' ["self","kind","axis","to"] (spDoMove K C CV CC):=by
 have nd:=scDoMove.nd
 refine F.ok1 scDoMove (fun vs H Q E h=>?_) (fun cdv A outer s H vs Q E hr h=>?_)
 ·obtain ⟨H0,A,ts,S,k,a,to,rfl,_⟩:=h
  rfl
 obtain ⟨H0,A,ts,S,k,a,to,rfl,M,ax,q⟩:=h
 have hu:=hu_of' hr
 have hr1:Room 1 _:=hr.mono (by decide)
 have hr2:Room 2 _:=hr.mono (by decide)
 refine ⟨_,(pss_cons (ps_if (pt_cmpR op_isN (pe_fld (pv 0) rfl) pe_non (nomark _)) (pss_one (ps_raiseI FS.S rfl rfl rfl flies1 FS.ok hr2 FS.bi (pa_cons (pe_tup (pa_cons pe_str pa_nil)) pa_nil))) pss_nil)
  (pss_cons (ps_if (pt_not (pt_truth (pf_meth MRm (pv 0) hr2 (pass1 (E:=E)) (pa_cons (pv 2) (pa_cons (pv 3) pa_nil))) (fun _=>rfl))) (pss_one (ps_raiseI FS.S rfl rfl rfl flies1 FS.ok hr2 FS.bi (pa_cons (pe_tup (pa_cons pe_str pa_nil)) pa_nil))) pss_nil)
  (pss_cons (ps_set (i:=4) nd rfl (Or.inl rfl) (pf_meth MW (pv 0) hr1 (pass1 (E:=E)) (pa_cons (pv 2) (pa_cons (pv 3) pa_nil))))
  (pss_mid (ps_if (pt_cmpR op_eq (pv 1) pe_str (nomark _)) (pss_one (ps_set (i:=5) nd rfl (Or.inl rfl) (pf_meth MP (pv 0) hr (pass1 (E:=E)) (pa_cons (pv 4) pa_nil)))) (pss_one (ps_set (i:=5) nd rfl (Or.inl rfl) (pf_meth MA (pv 0) hr (pass1 (E:=E)) (pa_cons (pv 4) pa_nil)))))
  (pss_cons (ps_dput hu (pe_fld (pv 0) rfl) (pv 2) (pv 3) rfl)
  (pss_one (ps_ret (pv 5)))))))),?_⟩
 obtain ⟨dx,cu,hcv,hcu⟩:=M.ob
 refine ⟨_,rfl,A.cv,CV,dx,_,_,rfl,hcv,VV.clV,VV.nCutter,rfl,rfl,_,rfl,?_⟩
 cases hcut:S.cut with
 | none =>
  rw [hcut] at hcu
  have e:cu=.non:=hcu
  subst e
  rw [stepC_none hcut] at q
  refine ite2 (fun _=>?_) (fun h1=>absurd (decide_eq_true rfl) h1)
  exact ⟨le1,fun p hp=>⟨le1,fault_ok hp (.tup (SqT.of upd_same) (.cons (.str _) .nil)) q⟩⟩
 | some t =>
  rw [hcut] at hcu
  obtain ⟨htm,ct,rfl,hct⟩:=hcu
  refine ite2 (fun h1=>?_) (fun _=>?_)
  ·have:=of_decide_eq_true h1
   cases this
  rw [stepC_some hcut] at q
  refine ⟨_,rfl,A.cv,dx,_,rfl,hcv,rfl,_,rfl,_,rfl,H0,A,ts,S,a,to,rfl,M,ax,_,rfl,?_⟩
  refine ite2 (fun h2=>?_) (fun h2=>?_)
  ·have rm:¬ roomF S a to=true:=fun z=>by rw [z] at h2; cases h2
   rw [if_neg rm] at q
   exact ⟨le1,fun p hp=>⟨le1,fault_ok hp (.tup (SqT.of upd_same) (.cons (.str _) .nil)) q⟩⟩
  have rm:roomF S a to=true:=by
   cases e:roomF S a to with
   | true=>rfl
   | false=>rw [e] at h2; exact absurd rfl h2
  rw [if_pos rm] at q
  obtain ⟨wx,wy',nx40,ny40,xa,xb,ya,yb⟩:=M.way ax rm
  refine ⟨_,rfl,A.cv,dx,_,rfl,hcv,rfl,_,rfl,_,rfl,H0,A,ts,S,a,to,rfl,M,ax,fun wy H1 s1 W=>?_⟩
  rw [wx,wy'] at W
  have M1:=M.same s1
  refine ⟨fun σ G=>Ex2 fun (tk:Int) (rows':List (List Int))=>cutR S t k a to=.ok (tk,rows')∧σ=[some (.ref A.cv),some (.str k),some (.str a),some (.int to),some (.ref wy),some (.int tk)]∧CIn CV CC H0 G A ts { S with rows:=rows' }∧FrA A H G,?_,?_⟩
  ·refine ⟨_,rfl,rfl,_,rfl,?_⟩
   refine ite2 (fun h3=>?_) (fun h3=>?_)
   ·have e3:k="fast":=V.str.inj (of_decide_eq_true h3)
    refine ⟨_,rfl,A.cv,dx,_,rfl,s1 _ _ hcv,rfl,_,rfl,H0,A,ts,S,t,wy,_,_,_,_,_,_,rfl,M1,hcut,W,nx40,ny40,(by lia),xb,(by lia),yb,?_⟩
    have ec:cutR S t k a to=if risF S.rows (undS S t a to) (wlo S a to "z")=true then .error "crash" else .ok (0,S.rows):=if_pos e3
    rw [ec] at q ⊢
    show if risF S.rows (undS S t a to) (wlo S a to "z")=true then _ else _
    by_cases hc:risF S.rows (undS S t a to) (wlo S a to "z")=true
    ·rw [if_pos hc] at q ⊢
     exact XE.from q s1
    ·rw [if_neg hc,if_neg hc]
     exact fun H2 s2=>⟨0,S.rows,rfl,rfl,M1.same s2,FrA.of (s1.trans s2)⟩
   ·have e3:¬ k="fast":=fun z=>h3 (decide_eq_true (congrArg V.str z))
    refine ⟨_,rfl,A.cv,dx,_,rfl,s1 _ _ hcv,rfl,_,rfl,H0,A,ts,S,t,wy,_,_,_,_,_,_,rfl,M1,hcut,W,nx40,ny40,(by lia),xb,(by lia),yb,?_⟩
    have ec:cutR S t k a to=if risF S.rows (undS S t a to) (wlo S a to "z" + t.2)=true then .error "bite" else .ok ((dwn S.rows (undS S t a to) (wlo S a to "z")).2,(dwn S.rows (undS S t a to) (wlo S a to "z")).1):=if_neg e3
    rw [ec] at q ⊢
    show if risF S.rows (undS S t a to) (wlo S a to "z" + t.2)=true then _ else _
    by_cases hc:risF S.rows (undS S t a to) (wlo S a to "z" + t.2)=true
    ·rw [if_pos hc] at q ⊢
     exact XE.from q s1
    ·rw [if_neg hc,if_neg hc]
     exact fun H2 f2 M2=>⟨_,_,rfl,rfl,M2,(FrA.of s1).trans f2⟩
  ·rintro _ G ⟨tk,rows',er,rfl,M2,fr⟩
   rw [er] at q
   have q':∀ H',FrA A H H'→CIn CV CC H0 H' A ts (({ S with rows:=rows' }:CS).to_ a to)→Q (.int tk) H':=q
   obtain ⟨dx2,cu2,hcv2,_⟩:=M2.ob
   have rm2:roomF ({ S with rows:=rows' }:CS) a to=true:=by
    have al:Alike S.rows rows':=by
     unfold cutR at er
     split at er
     ·split at er
      ·cases er
      ·cases er
       exact Alike.refl _
     ·split at er
      ·cases er
      ·cases er
       unfold dwn
       rw [dwn_fst]
       exact cuts_alike _ _
    unfold roomF at rm ⊢
    show (if a="x" then ins rows' (to,S.y) else if a="y" then ins rows' (S.x,to) else decide (0≤to∧to≤1000))=true
    rw [← al.ins,← al.ins]
    exact rm
   have M3:=M2.stand ax rm2
   refine ⟨_,rfl,_,rfl,A.cv,CV,dx2,_,_,rfl,hcv2,VV.clV,VV.nStands,rfl,_,rfl,A.sd,_,rfl,DPut.k (k:=Sum.inr a) M2.sd (show 3 < AL by decide),?_⟩
   exact ⟨_,rfl,q' _ (fun x o h1 h2 h3 e=>by rw [upd_ne h2]; exact fr x o h1 h2 h3 e) M3⟩
inductive PspDo (K:PySem.W.Frag) (C CV CC:Addr) (vs:List V) (H:Hp) (Q:VK) (E:XK):Prop
 | mk (H0:Hp) (A:CA) (ts:List Tool) (S:CS) (m:Mo) (mt:Addr) (h0:vs=[.ref A.cv,.ref mt]) (h1:CIn CV CC H0 H A ts S) (h2:m.ok) (h3:H mt=some (.tup (moV m))) (h4:ResC K C CV CC H0 H A ts Q E (stepC ts S m)):PspDo K C CV CC vs H Q E
def spDo (K:PySem.W.Frag) (C CV CC:Addr):Sp:=fun vs H Q E=>PspDo K C CV CC vs H Q E
theorem scDo:FnScope ["self","move"] ["self","move"] (defScope sDo):=⟨rfl,rfl,rfl,by decide +kernel,rfl,by decide +kernel,by decide +kernel⟩
theorem ok_do (MH:Mt P w K mg base CV "do_hold" 3 ["self","number"] (spDoHold K C CV CC)) (MM:Mt P w K mg base CV "do_move" 6 ["self","kind","axis","to"] (spDoMove K C CV CC)) (F:Fun K "do" "Carver.do" sDo f fd'):FnOk P w K mg base (CX1 P w) 7 f fd' ["self","move"] (spDo K C CV CC):=by
 have nd:=scDo.nd
 refine F.ok1 scDo (fun vs H Q E h=>?_) (fun cdv A outer s H vs Q E hr h=>?_)
 ·obtain ⟨H0,A,ts,S,m,mt,rfl,_⟩:=h
  rfl
 obtain ⟨H0,A,ts,S,m,mt,rfl,M,mok,hmt,q⟩:=h
 have hr3:Room 3 _:=hr.mono (by decide)
 refine ⟨_,(pss_cons (ps_if (pt_cmpR op_eq (pe_ix (ix_tupK (K:=K) rfl) (pv 1) pe_int (fun _ _=>rfl)) pe_str (nomark _)) (pss_one (ps_ret (pf_meth MH (pv 0) hr3 (pass1 (E:=E)) (pa_cons (pe_ix (ix_tupK (K:=K) rfl) (pv 1) pe_int (fun _ _=>rfl)) pa_nil)))) pss_nil)
  (pss_one (ps_ret (pf_meth MM (pv 0) hr (pass1 (E:=E)) (pa_cons (pe_ix (ix_tupK (K:=K) rfl) (pv 1) pe_int (fun _ _=>rfl)) (pa_cons (pe_ix (ix_tupK (K:=K) rfl) (pv 1) pe_int (fun _ _=>rfl)) (pa_cons (pe_ix (ix_tupK (K:=K) rfl) (pv 1) pe_int (fun _ _=>rfl)) pa_nil))))))),?_⟩
 obtain ⟨dx,cu,hcv,_⟩:=M.ob
 cases m with
 | hold n =>
  have hm:H mt=some (.tup [.str "hold",.int n]):=hmt
  refine ⟨_,rfl,mt,_,0,.str "hold",rfl,rfl,SqT.of hm,rfl,rfl,_,rfl,?_⟩
  refine ite2 (fun _=>?_) (fun h1=>absurd (decide_eq_true rfl) h1)
  exact ⟨_,rfl,A.cv,dx,_,rfl,hcv,rfl,_,rfl,mt,_,1,.int n,rfl,rfl,SqT.of hm,rfl,H0,A,ts,S,n,rfl,M,q⟩
 | go k a to =>
  have hm:H mt=some (.tup [.str k,.str a,.int to]):=hmt
  refine ⟨_,rfl,mt,_,0,.str k,rfl,rfl,SqT.of hm,rfl,rfl,_,rfl,?_⟩
  refine ite2 (fun h1=>absurd (V.str.inj (of_decide_eq_true h1)) mok.1) (fun _=>?_)
  exact ⟨_,rfl,A.cv,dx,_,rfl,hcv,rfl,_,rfl,mt,_,0,.str k,rfl,rfl,SqT.of hm,rfl,_,rfl,mt,_,1,.str a,rfl,rfl,SqT.of hm,rfl,_,rfl,mt,_,2,.int to,rfl,rfl,SqT.of hm,rfl,H0,A,ts,S,k,a,to,rfl,M,mok.2,q⟩
end
def runM (ts:List Tool):CS→List Mo→List Int×CS×Option Str
 | S,[]=>([],S,none)
 | S,m :: ms=>match stepC ts S m with
  | .error x=>([],S,some x)
  | .ok r=>(r.1 :: (runM ts r.2 ms).1,(runM ts r.2 ms).2)
theorem runM_ok {ts:List Tool} {S:CS} {m:Mo} {ms:List Mo} {r:Int×CS} (h:stepC ts S m=.ok r):runM ts S (m :: ms)=(r.1 :: (runM ts r.2 ms).1,(runM ts r.2 ms).2):=by
 show (match stepC ts S m with | .error x=>(([],S,some x):List Int×CS×Option Str) | .ok r=>(r.1 :: (runM ts r.2 ms).1,(runM ts r.2 ms).2))=_
 rw [h]
theorem runM_err {ts:List Tool} {S:CS} {m:Mo} {ms:List Mo} {x:Str} (h:stepC ts S m=.error x):runM ts S (m :: ms)=([],S,some x):=by
 show (match stepC ts S m with | .error x=>(([],S,some x):List Int×CS×Option Str) | .ok r=>(r.1 :: (runM ts r.2 ms).1,(runM ts r.2 ms).2))=_
 rw [h]
def S00 (bed:List (List Int)):CS:=⟨bed,none,0,0,1000⟩
def fltD:Option Str→PyData
 | none=>.none
 | some x=>dF x
abbrev begK:List (Key×V):=[(Sum.inr "x",.int 0),(Sum.inr "y",.int 0),(Sum.inr "z",.int 1000)]
structure BegV (P:Program) (w:World) (K:PySem.W.Frag) (mg:Str→Option Value):Prop where
 ex:∃ a,mg "BEGINNING"=some (.ref a)∧DkK P w K a begK
section
variable {P:Program} {w:World} {K:PySem.W.Frag} {mg:Str→Option Value} {base:Heap} {CV CC C fI f:Addr} {fd fd':FuncData}
inductive PspCarI (CV:Addr) (vs:List V) (H:Hp) (Q:VK):Prop
 | mk (x dx:Addr) (st sh:V) (h0:vs=[.ref x,st,sh]) (h1:H x=some (.ins CV dx [])) (h2:∀ sd H',(∀ b o,b≠x→H b=some o→H' b=some o)→H' x=some (.ins CV dx [("stuff",st),("shelf",sh),("cutter",.non),("stands",.ref sd)])→H' sd=some (.dK begK)→H sd=none→Q .non H'):PspCarI CV vs H Q
def spCarI (CV:Addr):Sp:=fun vs H Q _=>PspCarI CV vs H Q
theorem scCarI:FnScope ["self","stuff","shelf"] ["self","stuff","shelf"] (defScope sCarI):=⟨rfl,rfl,rfl,by decide +kernel,rfl,by decide +kernel,by decide +kernel⟩
theorem ok_carI (VV:VS K mg CV CC) (B:BegV P w K mg) (F:Fun K "__init__" "Carver.__init__" sCarI f fd'):FnOk P w K mg base (CX1 P w) 1 f fd' ["self","stuff","shelf"] (spCarI CV):=by
 have nd:=scCarI.nd
 refine F.ok1 scCarI (fun vs H Q E h=>?_) (fun cdv A outer s H vs Q E hr h=>?_)
 ·obtain ⟨x,dx,st,sh,rfl,_⟩:=h
  rfl
 obtain ⟨x,dx,st,sh,rfl,hx,q⟩:=h
 obtain ⟨ab,mgb,dkb⟩:=B.ex
 refine ⟨_,(pss_cons (ps_fld (pv 0) (pv 1) rfl)
  (pss_cons (ps_fld (pv 0) (pv 2) rfl)
  (pss_cons (ps_fld (pv 0) pe_non rfl)
  (pss_one (ps_fld (pv 0) (pe_callTy call_dict_d rfl VV.dict rfl (pa_cons (pe_glob (v:=.ref ab) rfl mgb rfl) pa_nil)) rfl))))),?_⟩
 refine ⟨_,rfl,_,rfl,x,CV,dx,_,rfl,hx,VV.clV,VV.nStuff,(by decide),?_⟩
 refine ⟨_,rfl,_,rfl,x,CV,dx,_,rfl,upd_same,VV.clV,VV.nShelf,(by show 1 < 1000; decide),?_⟩
 refine ⟨_,rfl,x,CV,dx,_,rfl,upd_same,VV.clV,VV.nCutter,(by show 2 < 1000; decide),?_⟩
 refine ⟨ab,_,rfl,.inr dkb,fun sd hsd=>?_⟩
 have nsx:sd≠x:=fun z=>by rw [z,upd_same] at hsd; cases hsd
 refine ⟨_,rfl,x,CV,dx,_,rfl,(by rw [upd_ne (Ne.symm nsx)]; exact upd_same),VV.clV,VV.nStands,(by show 3 < 1000; decide),?_⟩
 have hsd0:H sd=none:=by
  rw [upd_ne nsx,upd_ne nsx,upd_ne nsx] at hsd
  exact hsd
 refine q sd _ (fun b o hb e=>?_) upd_same (by rw [upd_ne nsx,upd_same]) hsd0
 rw [upd_ne hb,upd_ne (ne_of_none e hsd0),upd_ne hb,upd_ne hb,upd_ne hb]
 exact e
theorem SsAt.updI {H:Hp} {c R q:Addr} {rows:List (List Int)} {o:HO} {ns:List Int} {x y:Int} (h:SsAt CC H c R rows) (rect:Rect rows) (inb:ins rows (x,y)=true) (hq:H q=some (.lst (ns.map V.int))):SsAt CC (L2.upd H q o) c R rows:=by
 obtain ⟨dx,e⟩:=h.ob
 obtain ⟨rs,a,b,n⟩:=h.hR
 obtain ⟨_,_,x0,x1⟩:0≤y∧y < rows.length∧0≤x∧x < (rows.headD []).length:=of_decide_eq_true inb
 have nil:∀ ts:List Addr,H q=some (.lst (ts.map V.ref))→ts=[]:=fun ts z=>by
  rw [hq] at z
  cases ts with
  | nil=>rfl
  | cons t ts =>
   cases ns with
   | nil=>cases z
   | cons m ns=>cases z
 refine ⟨⟨dx,by rw [upd_ne (fun z=>by rw [z,hq] at e; cases e)]; exact e⟩,rs,?_,SpAt.upd (fun m z=>by rw [hq] at z; cases z) (fun z=>?_) b,n⟩
 ·rw [upd_ne (fun z=>?_)]
  ·exact a
  ·rw [z] at a
   have:=nil rs a
   have l:=b.len
   rw [this,AA] at l
   exact rect.1 (List.length_eq_zero_iff.mp l.symm)
 ·obtain ⟨i,hi⟩:=A8 z
  have hl:i < rows.length:=by
   have h1:=(AE.mp hi).1
   have h2:=b.len
   rw [AA] at h2
   lia
  have er:=AB hl
  obtain ⟨l,e1,ts,e2,mv⟩:=b.at_ (i:=i) (r:=spans rows[i]) (by rw [AF,er]; rfl)
  rw [hi] at e1
  cases e1
  have t0:=nil ts e2
  have ml:=mv.len
  rw [t0,AA] at ml
  have hw:=rect.2 _ (Ak hl)
  exact spans_ne (hs:=rows[i]) (by lia) (List.length_eq_zero_iff.mp ml.symm)
inductive PspDoMoves (K:PySem.W.Frag) (CC:Addr) (vs:List V) (H:Hp) (Q:VK):Prop
 | mk (H0:Hp) (c R sh ml:Addr) (mts:List Addr) (bed:List (List Int)) (ts:List Tool) (ms:List Mo) (h0:vs=[.ref c,.ref sh,.ref ml]) (h1:Same H0 H) (h2:SsAt CC H c R bed) (h2b:∀ rs:List Addr,H R=some (.lst (rs.map V.ref))→∀ r∈rs,H0 r=none) (h3:H0 R=none) (h7:ShAt H0 sh ts) (h8:∀ t∈ts,t.1.length≤60∧∀ s∈t.1,-1000≤s.1∧s.1≤1000∧-1000≤s.2∧s.2≤1000) (h9:H0 ml=some (.lst (mts.map V.ref))) (h10:MvAt H0 mts (ms.map moV)) (h11:(∀ m∈ms,m.ok)) (h12:ms.length≤100000) (h13:Rect bed) (h14:Small bed) (h15:ins bed (0,0)=true) (h16:∀ (t tl:Addr) (fv:V) (H':Hp),Same H0 H'→H' t=some (.tup [.ref tl,fv])→H' tl=some (.lst ((runM ts (S00 bed) ms).1.map V.int))→Rp K H' fv (fltD (runM ts (S00 bed) ms).2.2)→SsAt CC H' c R (runM ts (S00 bed) ms).2.1.rows→(∀ rs:List Addr,H' R=some (.lst (rs.map V.ref))→∀ r∈rs,H0 r=none)→H0 tl=none→tl≠R→Q (.ref t) H'):PspDoMoves K CC vs H Q
def spDoMoves (K:PySem.W.Frag) (CC:Addr):Sp:=fun vs H Q _=>PspDoMoves K CC vs H Q
theorem scDoMoves:FnScope ["stuff","shelf","moves","carver","taken","move","fault"] ["stuff","shelf","moves"] (defScope sDoMoves):=⟨rfl,rfl,rfl,by decide +kernel,rfl,by decide +kernel,by decide +kernel⟩
theorem ok_doMoves (VV:VS K mg CV CC) (FS:FaT P w K mg base C fI fd) (CCt:CatchC K mg "Fault" C) (hm:PySem.W.mroIn K C (.ref C)=some true) (MC:Mc P w K mg base "Carver" CV 1 ["self","stuff","shelf"] (spCarI CV)) (MD:Mt P w K mg base CV "do" 7 ["self","move"] (spDo K C CV CC))
  (F:Fun K "do_moves" "do_moves" sDoMoves f fd'):FnOk P w K mg base (CX1 P w) 8 f fd' ["stuff","shelf","moves"] (spDoMoves K CC):=by
 have nd:=scDoMoves.nd
 obtain ⟨fg,fdg,okg,mtg,clg,big⟩:=MD.ex
 refine F.ok1 scDoMoves (fun vs H Q E h=>?_) (fun cdv A outer s H vs Q E hr h=>?_)
 ·obtain ⟨H0,c,R,sh,ml,mts,bed,ts,ms,rfl,_⟩:=h
  rfl
 obtain ⟨H0,c,R,sh,ml,mts,bed,ts,ms,rfl,s0,cl,fr0,nR0,hsh,feet,hml,mml,mok,ml100,rect,small,inb,q⟩:=h
 have hr2:Room 2 _:=hr.mono (by decide)
 have mtl:mts.length=ms.length:=by rw [mml.len,AA]
 refine ⟨_,(pss_cons (ps_set (i:=3) nd rfl (Or.inl rfl) (pf_make MC hr2 rfl (pass1 (E:=E)) (pa_cons (pv 0) (pa_cons (pv 1) pa_nil))))
  (pss_cons (ps_set (i:=4) nd rfl (Or.inl rfl) (pe_lst pa_nil))
  (pss_cons (ps_for own1 rfl (pi_listK (K:=K) rfl (pv 2)) (pg_name (i:=5) nd rfl (Or.inl rfl)) (pss_one (ps_tryAs (i:=6) rfl rfl rfl (px_append (fun _=>pv 4) (px_meth (fun _=>pv 3) clg mtg okg hr big (fun _=>pa_cons (pv 5) pa_nil))) CCt rfl nd rfl rfl (fun _=>pss_one (ps_ret (pe_tup (pa_cons (pv 4) (pa_cons (pe_xfld FS.S (pv 6) rfl) pa_nil))))))))
  (pss_one (ps_ret (pe_tup (pa_cons (pv 4) (pa_cons pe_non pa_nil)))))))),?_⟩
 refine ⟨_,rfl,_,rfl,fun x dx hx hdx hne=>⟨x,dx,.ref c,.ref sh,rfl,upd_same,fun sd H1 k1 hx1 hsd1 nsd=>⟨rfl,?_⟩⟩⟩
 have kH:∀ b o,H b=some o→H1 b=some o:=fun b o e=>k1 b o (ne_of_none e hx) (by rw [upd_ne (ne_of_none e hx),upd_ne (ne_of_none e hdx)]; exact e)
 have sH1:Same H H1:=kH
 have nsd0:H sd=none:=by
  cases e:H sd with
  | none=>rfl
  | some o=>rw [upd_ne (ne_of_none e hx),upd_ne (ne_of_none e hdx),e] at nsd; cases nsd
 have cl1:=cl.same sH1
 have M0:CIn CV CC H0 H1 ⟨x,c,R,sd,sh⟩ ts (S00 bed):=⟨s0.trans sH1,s0.free hx,nR0,s0.free nsd0,hsh,feet,⟨dx,.non,hx1,rfl⟩,cl1,hsd1,rect,small,inb,⟨show (0:Int)≤1000 by decide,show (1000:Int)≤1000 by decide⟩,fun rs e=>fr0 rs (by obtain ⟨rs0,h0,_⟩:=cl.hR; rw [sH1 _ _ h0] at e; rw [h0]; exact e)⟩
 refine ⟨Ai _,fun tl htl=>?_⟩
 have u2:=same_upd htl (.lst [])
 have M1:=M0.same u2
 have ntl:tl≠x∧tl≠sd∧tl≠R:=by
  refine ⟨fun z=>?_,fun z=>?_,fun z=>?_⟩
  ·rw [z,hx1] at htl; cases htl
  ·rw [z,hsd1] at htl; cases htl
  ·obtain ⟨rs,hz,_⟩:=cl1.hR
   rw [z,hz] at htl
   cases htl
 refine ⟨_,rfl,ml,rfl,⟨_,SqL.of (u2 _ _ (M0.sm _ _ hml))⟩,?_⟩
 refine for_list (K:=K) (xs:=mts.map V.ref) (fun i σ H2=>Ex3 fun (x5:Option V) (S:CS) (tks:List Int)=>σ=[some (.ref c),some (.ref sh),some (.ref ml),some (.ref x),some (.ref tl),x5,none]∧CIn CV CC H0 H2 ⟨x,c,R,sd,sh⟩ ts S∧H2 tl=some (.lst (tks.map V.int))∧tks.length=i∧runM ts (S00 bed) ms=(tks++(runM ts S (ms.drop i)).1,(runM ts S (ms.drop i)).2))
  ⟨none,S00 bed,[],rfl,M1,upd_same,rfl,rfl⟩ ?_ ?_ ?_
 ·rintro i σ H2 _ ⟨x5,S,tks,rfl,M2,_⟩
  exact SqL.of (M2.sm _ _ hml)
 ·rintro i v σ H2 hx' ⟨x5,S,tks,rfl,M2,ht2,tkl,erun⟩
  obtain ⟨mt,hmt,rfl⟩:=ref_get hx'
  have hi:i < ms.length:=by have:=(AE.mp hmt).1; lia
  have em:=AB hi
  have gm:=M2.sm _ _ (mml.at_ hmt (by rw [AF,em]; rfl))
  have mo:=mok _ (Ak hi)
  have edr:ms.drop i=ms[i] :: ms.drop (i + 1):=List.drop_eq_getElem_cons hi
  rw [edr] at erun
  generalize ms[i]=m at em gm mo erun
  obtain ⟨dx2,cu,hcv2,_⟩:=M2.ob
  refine ⟨_,rfl,.inl ⟨rfl,_,SqL.of ht2⟩,_,rfl,x,dx2,_,rfl,hcv2,rfl,_,rfl,H0,⟨x,c,R,sd,sh⟩,ts,S,m,mt,rfl,M2,mo,gm,?_⟩
  cases es:stepC ts S m with
  | ok r =>
   rw [runM_ok es] at erun
   intro H3 f3 M3
   have ht3:=f3 _ _ ntl.1 ntl.2.1 ntl.2.2 ht2
   refine ⟨tl,_,.int r.1,rfl,rfl,ht3,(by rw [AA,tkl]; exact big16 (by lia)),?_⟩
   have n0tl:H0 tl=none:=(s0.trans sH1).free htl
   obtain ⟨dx3,cu3,hcv3,hcu3⟩:=M3.ob
   have kp:∀ y o,(∀ xs,o≠.lst xs)→H3 y=some o→upd H3 tl (.lst (tks.map V.int++[V.int r.1])) y=some o:=fun y o n e=>by rw [upd_ne (fun z=>by rw [z,ht3] at e; cases e; exact n _ rfl)]; exact e
   refine ⟨_,r.2,tks++[r.1],rfl,⟨same_in M3.sm n0tl,M3.ncv,M3.nR0,M3.nsd,M3.shelf,M3.feet,⟨dx3,cu3,kp _ _ (fun _ z=>by cases z) hcv3,hcu3⟩,M3.cl.updI M3.rect M3.inb ht3,kp _ _ (fun _ z=>by cases z) M3.sd,M3.rect,M3.small,M3.inb,M3.zb,fun rs e=>M3.fr rs (by rw [upd_ne (Ne.symm ntl.2.2)] at e; exact e)⟩,by rw [upd_same,AG]; rfl,by rw [AI,tkl]; rfl,?_⟩
   rw [erun,List.append_assoc]
   rfl
  | error xf =>
   rw [runM_err es,BB] at erun
   intro dx4 v4 H4 s4 hdx4 hv4
   refine ⟨⟨C,rfl,hm⟩,fun e he=>?_⟩
   have s5:=same_upd he (ExcC e (.ref C) (some dx4))
   refine ⟨_,rfl,_,rfl,e,dx4,_,v4,rfl,upd_same,(Ne.symm (ne_of_none hdx4 he)),s5 _ _ hdx4,rfl,le2,fun t ht=>?_⟩
   have s6:=same_upd ht (.tup [.ref tl,v4])
   have s26:=s4.trans (s5.trans s6)
   have M4:=M2.same s26
   refine q t tl v4 _ M4.sm upd_same (by rw [erun]; exact s26 _ _ ht2) ?_ (by rw [erun]; exact M4.cl) M4.fr ((s0.trans sH1).free htl) ntl.2.2
   rw [erun]
   exact (hv4.same s5).same s6
 ·rintro σ H2 ⟨x5,S,tks,rfl,M2,ht2,tkl,erun⟩
  rw [AA,mtl,List.drop_of_length_le (AD _)] at erun
  have er:runM ts (S00 bed) ms=(tks,S,none):=by
   rw [erun]
   show (tks++[],S,none)=_
   rw [BB]
  refine ⟨_,rfl,le2,fun t ht=>?_⟩
  have s6:=same_upd ht (.tup [.ref tl,.non])
  have M4:=M2.same s6
  exact q t tl .non _ M4.sm upd_same (by rw [er]; exact s6 _ _ ht2) (by rw [er]; exact .non) (by rw [er]; exact M4.cl) M4.fr ((s0.trans sH1).free htl) ntl.2.2
inductive PspCarvedS (K:PySem.W.Frag) (vs:List V) (H:Hp) (Q:VK):Prop
 | mk (b sh ml:Addr) (bs mts:List Addr) (bed:List (List Int)) (ts:List Tool) (ms:List Mo) (h0:vs=[.ref b,.int ((bed.headD []).length:Int),.ref sh,.ref ml]) (h1:H b=some (.lst (bs.map V.ref))) (h2:SpAt H bs (bed.map spans)) (h3:ShAt H sh ts) (h4:∀ t∈ts,t.1.length≤60∧∀ s∈t.1,-1000≤s.1∧s.1≤1000∧-1000≤s.2∧s.2≤1000) (h5:H ml=some (.lst (mts.map V.ref))) (h6:MvAt H mts (ms.map moV)) (h7:∀ m∈ms,m.ok) (h8:ms.length≤100000) (h9:Rect bed) (h10:Small bed) (h11:ins bed (0,0)=true)
   (h12:∀ (t R tl:Addr) (fv:V) (rs:List Addr) (H':Hp),Same H H'→H' t=some (.tup [.ref R,.ref tl,fv])→H' tl=some (.lst ((runM ts (S00 bed) ms).1.map V.int))→Rp K H' fv (fltD (runM ts (S00 bed) ms).2.2)→H' R=some (.lst (rs.map V.ref))→SpAt H' rs ((runM ts (S00 bed) ms).2.1.rows.map spans)→H R=none→(∀ r∈rs,H r=none)→rs.Nodup→R ∉ rs→H tl=none→tl≠R→Q (.ref t) H'):PspCarvedS K vs H Q
def spCarvedS (K:PySem.W.Frag):Sp:=fun vs H Q _=>PspCarvedS K vs H Q
theorem scCarvedS:FnScope ["spans","width","shelf","moves","stuff","done"] ["spans","width","shelf","moves"] (defScope sCarvedS):=⟨rfl,rfl,rfl,by decide +kernel,rfl,by decide +kernel,by decide +kernel⟩
theorem ok_carvedS (VV:VS K mg CV CC) (MC:Mc P w K mg base "Spans" CC 1 ["self","spans","width"] (spSpI CC)) (FM:Fn P w K mg base "do_moves" 8 ["stuff","shelf","moves"] (spDoMoves K CC)) (F:Fun K "carved_spans" "carved_spans" sCarvedS f fd'):FnOk P w K mg base (CX1 P w) 9 f fd' ["spans","width","shelf","moves"] (spCarvedS K):=by
 have nd:=scCarvedS.nd
 refine F.ok1 scCarvedS (fun vs H Q E h=>?_) (fun cdv A outer s H vs Q E hr h=>?_)
 ·obtain ⟨b,sh,ml,bs,mts,bed,ts,ms,rfl,_⟩:=h
  rfl
 obtain ⟨b,sh,ml,bs,mts,bed,ts,ms,rfl,hb,sp,hsh,feet,hml,mml,mok,ml100,rect,small,inb,q⟩:=h
 have hr2:Room 2 _:=hr.mono (by decide)
 refine ⟨_,(pss_cons (ps_set (i:=4) nd rfl (Or.inl rfl) (pf_make MC hr2 rfl (pass1 (E:=E)) (pa_cons (pv 0) (pa_cons (pv 1) pa_nil))))
  (pss_cons (ps_set (i:=5) nd rfl (Or.inl rfl) (pf_call FM hr rfl (pass1 (E:=E)) (pa_cons (pv 4) (pa_cons (pv 2) (pa_cons (pv 3) pa_nil)))))
  (pss_one (ps_ret (pe_tup (pa_cons (pe_fld (pv 4) rfl) (pa_cons (pe_ix (ix_tupK (K:=K) rfl) (pv 5) pe_int (fun _ _=>rfl)) (pa_cons (pe_ix (ix_tupK (K:=K) rfl) (pv 5) pe_int (fun _ _=>rfl)) pa_nil)))))))),?_⟩
 refine ⟨_,rfl,_,rfl,fun x dx hx hdx hne=>?_⟩
 have s1:Same H (upd (upd H dx (.own x)) x (.ins CC dx [])):=fun y o e=>by rw [upd_ne (ne_of_none e hx),upd_ne (ne_of_none e hdx)]; exact e
 have ex:upd (upd H dx (.own x)) x (.ins CC dx []) x=some (.ins CC dx []):=upd_same
 generalize upd (upd H dx (.own x)) x (.ins CC dx [])=G at s1 ex
 refine ⟨x,dx,b,bs,bed.map spans,_,rfl,ex,s1 _ _ hb,sp.same s1,(by rw [AA]; have:=small.1; lia),fun R rs H1 k1 hx1 hR rr nR nR0 ndr frr=>⟨rfl,?_⟩⟩
 have s2:Same H H1:=fun y o e=>k1 y o (ne_of_none e hx) (s1 _ _ e)
 have nRH:H R=none:=s1.free nR0
 refine ⟨_,rfl,_,rfl,_,rfl,H,x,R,sh,ml,mts,bed,ts,ms,rfl,s2,⟨⟨dx,hx1⟩,rs,hR,rr,nR,ndr⟩,(fun rs' e r hr=>by
   rw [hR] at e
   injection e with e
   injection e with e
   rw [← ref_inj e] at hr
   exact s1.free (frr r hr)),nRH,hsh,feet,hml,mml,mok,ml100,rect,small,inb,fun t tl fv H2 s3 ht htl hfv cl2 fr2 ntl0 ntR=>?_⟩
 obtain ⟨dx2,hx2⟩:=cl2.ob
 obtain ⟨rs2,hR2,sp2,nR2,nd2⟩:=cl2.hR
 refine ⟨_,rfl,x,CC,dx2,_,_,rfl,hx2,VV.clC,VV.nRows,rfl,_,rfl,t,_,0,.ref tl,rfl,rfl,SqT.of ht,rfl,_,rfl,t,_,1,fv,rfl,rfl,SqT.of ht,rfl,le3,fun t2 ht2=>?_⟩
 have u:=same_upd ht2 (.tup [.ref R,.ref tl,fv])
 exact q t2 R tl fv rs2 _ (s3.trans u) upd_same (u _ _ htl) (hfv.same u) (u _ _ hR2) (sp2.same u) nRH (fr2 rs2 hR2) nd2 nR2 ntl0 ntR
end
theorem shaped_of {d:PyData} {k:Nat} (h:AN d=true∧BA d≤k) (hk:k≤10):SeqAt.shaped d=true:=by
 unfold SeqAt.shaped
 rw [h.1,Bool.true_and]
 exact decide_eq_true (by lia)
theorem eq_false {d:PyData} (h:AN d=true):(if true=true then !PyData.eqv d d else PyData.eqv d d)=false:=by
 rw [eqv_self d h]
 rfl
theorem ints_can:∀ ns:List Int,Ae (ns.map .int)=true∧Ay (ns.map .int)=0
 | []=>⟨rfl,rfl⟩
 | n :: ns=>by
  obtain ⟨a,b⟩:=ints_can ns
  rw [Az,Ae,Ay,a,b]
  exact ⟨rfl,rfl⟩
theorem prs_can:∀ cs:List (Int×Int),Ae (cs.map prD)=true∧Ay (cs.map prD)≤1
 | []=>⟨rfl,by decide⟩
 | c :: cs=>by
  obtain ⟨a,b⟩:=prs_can cs
  rw [Az,Ae,Ay,a,(prD_can c).1,(prD_can c).2]
  exact ⟨rfl,by lia⟩
def toolD (foot:List (Int×Int)) (bite:Int):PyData:=.tuple [.list (foot.map prD),.int bite]
theorem tool_can (foot:List (Int×Int)) (bite:Int):AN (toolD foot bite)=true∧BA (toolD foot bite)≤10:=by
 obtain ⟨a,b⟩:=prs_can foot
 rw [toolD,AN,Ae,AN,a,BA,Ay,BA]
 refine ⟨rfl,?_⟩
 show (max ((Ay (foot.map prD)) + 1) 0) + 1≤10
 lia
section
variable {K:PySem.W.Frag} {H:Hp}
theorem ints_rp:∀ ns:List Int,Rps K H (ns.map V.int) (ns.map .int)
 | []=>.nil
 | n :: ns=>.cons (.int n) (ints_rp ns)
theorem rows_rp:∀ {rs:List Addr} {rows:List (List Int)},RowsAt H rs rows→Rps K H (rs.map V.ref) (rows.map rowD)
 | [],[],_=>.nil
 | _ :: _,_ :: _,h=>.cons (.lst (SqL.of h.1) (ints_rp _)) (rows_rp h.2)
 | [],_ :: _,h=>h.elim
 | _ :: _,[],h=>h.elim
theorem BdAt.rp {b:Addr} {rows:List (List Int)} (h:BdAt H b rows):Rp K H (.ref b) (.list (rows.map rowD)):=by
 obtain ⟨rs,a,c⟩:=h
 exact .lst (SqL.of a) (rows_rp c)
theorem FtAt.rp {b:Addr} {cs:List (Int×Int)} (h:FtAt H b cs):Rp K H (.ref b) (.list (cs.map prD)):=by
 obtain ⟨rs,a,c⟩:=h
 exact .lst (SqL.of a) (prs_rp c)
end
theorem tools_can:∀ ts:List Tool,Ae (ts.map fun t=>toolD t.1 t.2)=true∧Ay (ts.map fun t=>toolD t.1 t.2)≤10
 | []=>⟨rfl,by decide⟩
 | t :: ts=>by
  obtain ⟨a,b⟩:=tools_can ts
  obtain ⟨c,d⟩:=tool_can t.1 t.2
  rw [Az,Ae,Ay,a,c]
  exact ⟨rfl,by lia⟩
section
variable {K:PySem.W.Frag} {H:Hp}
theorem cts_rp:∀ {cs:List Addr} {ts:List Tool},CtsAt H cs ts→Rps K H (cs.map V.ref) (ts.map fun t=>toolD t.1 t.2)
 | [],[],_=>.nil
 | _ :: _,_ :: _,h=>by
  obtain ⟨⟨ft,a,b⟩,r⟩:=h
  exact .cons (.tup (SqT.of a) (.cons b.rp (.cons (.int _) .nil))) (cts_rp r)
 | [],_ :: _,h=>h.elim
 | _ :: _,[],h=>h.elim
theorem ShAt.rp {sh:Addr} {ts:List Tool} (h:ShAt H sh ts):Rp K H (.ref sh) (.list (ts.map fun t=>toolD t.1 t.2)):=by
 obtain ⟨cs,a,b⟩:=h
 exact .lst (SqL.of a) (cts_rp b)
end
theorem sh_nil:SeqAt.shaped (.list [])=true:=by decide
theorem le4:4≤AL:=by decide
def moD:Mo→PyData
 | .hold n=>.tuple [.str "hold",.int n]
 | .go k a to=>.tuple [.str k,.str a,.int to]
def Mo.ok2:Mo→Prop
 | .hold _=>True
 | .go k a _=>(k="fast"∨k="slow")∧IsAx a
theorem Mo.ok2.ok {m:Mo} (h:m.ok2):m.ok:=by
 cases m with
 | hold n=>exact AS
 | go k a to =>
  refine ⟨?_,h.2⟩
  rcases h.1 with rfl | rfl
  ·decide +kernel
  ·decide +kernel
theorem moD_can {m:Mo} (h:m.ok2):AN (moD m)=true∧BA (moD m)=1:=by
 cases m with
 | hold n=>exact ⟨by show AN (.tuple [.str "hold",.int n])=true; rw [AN,Ae,AN,show PyData.strOk "hold"=true by decide +kernel]; rfl,rfl⟩
 | go k a to =>
  refine ⟨?_,rfl⟩
  have hk:PyData.strOk k=true:=by
   rcases h.1 with rfl | rfl
   ·decide +kernel
   ·decide +kernel
  have ha:PyData.strOk a=true:=by
   rcases h.2 with rfl | rfl | rfl
   ·decide +kernel
   ·decide +kernel
   ·decide +kernel
  show AN (.tuple [.str k,.str a,.int to])=true
  rw [AN,Ae,AN,hk,Ae,AN,ha]
  rfl
theorem mos_can:∀ {ms:List Mo},(∀ m∈ms,m.ok2)→Ae (ms.map moD)=true∧Ay (ms.map moD)≤1
 | [],_=>⟨rfl,by decide⟩
 | m :: ms,h=>by
  obtain ⟨a,b⟩:=mos_can fun x hx=>h x (AR _ hx)
  obtain ⟨c,d⟩:=moD_can (h m Ab)
  rw [Az,Ae,Ay,a,c,d]
  exact ⟨rfl,by lia⟩
section
variable {K:PySem.W.Frag} {H:Hp}
theorem mo_rp {t:Addr} {m:Mo} (h:H t=some (.tup (moV m))):Rp K H (.ref t) (moD m):=by
 cases m with
 | hold n=>exact .tup (SqT.of h) (.cons (.str _) (.cons (.int _) .nil))
 | go k a to=>exact .tup (SqT.of h) (.cons (.str _) (.cons (.str _) (.cons (.int _) .nil)))
theorem mos_rp:∀ {ts:List Addr} {ms:List Mo},MvAt H ts (ms.map moV)→Rps K H (ts.map V.ref) (ms.map moD)
 | [],[],_=>.nil
 | _ :: _,_ :: _,h=>.cons (mo_rp h.1) (mos_rp h.2)
 | [],_ :: _,h=>h.elim
 | _ :: _,[],h=>h.elim
def MlAt (H:Hp) (l:Addr) (ms:List Mo):Prop:=∃ ts,H l=some (.lst (ts.map V.ref))∧MvAt H ts (ms.map moV)
theorem MlAt.same {H':Hp} {l:Addr} {ms:List Mo} (h:MlAt H l ms) (s:Same H H'):MlAt H' l ms:=by
 obtain ⟨ts,a,b⟩:=h
 exact ⟨ts,s _ _ a,b.same s⟩
theorem MlAt.rp {l:Addr} {ms:List Mo} (h:MlAt H l ms):Rp K H (.ref l) (.list (ms.map moD)):=by
 obtain ⟨ts,a,b⟩:=h
 exact .lst (SqL.of a) (mos_rp b)
theorem MlAt.len {ms:List Mo} {ts:List Addr} (b:MvAt H ts (ms.map moV)):ts.length=ms.length:=by rw [b.len,AA]
end
def Oks (n:Nat) (ms:List Mo):Prop:=(∀ m∈ms,m.ok2)∧ms.length≤n
theorem Oks.nil {n:Nat}:Oks n []:=⟨fun _ h=>(List.not_mem_nil h).elim,Ai _⟩
theorem Oks.app {n k:Nat} {a b:List Mo} (h:Oks n a) (g:Oks k b):Oks (n + k) (a++b):=⟨fun m hm=>by
 rcases AY.mp hm with hm | hm
 ·exact h.1 m hm
 ·exact g.1 m hm,by rw [AI]; have:=h.2; have:=g.2; lia⟩
theorem Oks.one {m:Mo} (h:m.ok2):Oks 1 [m]:=⟨fun x hx=>by rw [AJ.mp hx]; exact h,AD _⟩
theorem Oks.le {n k:Nat} {a:List Mo} (h:Oks n a) (hk:n≤k):Oks k a:=⟨h.1,Ag h.2 hk⟩
theorem ints_shaped (hs:List Int):SeqAt.shaped (.list (hs.map .int))=true:=shaped_of (k:=1) ⟨by rw [AN,(ints_can hs).1],by rw [BA,(ints_can hs).2]; decide⟩ (by decide)
section
variable {P:Program} {w:World} {K:PySem.W.Frag} {mg:Str→Option Value} {base:Heap} {f:Addr} {fd':FuncData}
inductive PspStir (vs:List V) (H:Hp) (Q:VK):Prop
 | mk (cell k:Int) (h0:vs=[.int cell,.int k]) (h1:0≤k) (h2:k≤1000) (h3:∀ n:Int,0≤n→n < 2147483647→Q (.int n) H):PspStir  vs H Q
def spStir:Sp:=fun vs H Q _=>PspStir  vs H Q
theorem scStir:FnScope ["cell","k","number","j"] ["cell","k"] (defScope sStir):=⟨rfl,rfl,rfl,by decide +kernel,rfl,by decide +kernel,by decide +kernel⟩
theorem ok_stir (T:LawT mg) (F:Fun K "_law_stir" "_law_stir" sStir f fd'):FnOk P w K mg base (CX1 P w) 1 f fd' ["cell","k"] spStir:=by
 have nd:=scStir.nd
 refine F.ok1 scStir (fun vs H Q E h=>?_) (fun cdv A outer s H vs Q E hr h=>?_)
 ·obtain ⟨cell,k,rfl,_⟩:=h
  rfl
 obtain ⟨cell,k,rfl,k0,k1,q⟩:=h
 refine ⟨_,(pss_cons (ps_if (pt_cmpR op_eq (pe_op op_mod (pv 0) pe_int) pe_int (nomark _)) (pss_cons (ps_set (i:=2) nd rfl (Or.inl rfl) (pe_op op_fdiv (pv 0) pe_int))
  (pss_cons (ps_for own1 rfl (pi_range1 rfl T.range (pa_cons (pe_op op_mod (pv 1) pe_int) pa_nil)) (pg_name (i:=3) nd rfl (Or.inl rfl)) (pss_one (ps_set (i:=2) nd rfl (Or.inl rfl) (pe_op op_fdiv64 (pv 2) pe_int))))
  (pss_one (ps_ret (pe_op op_mod (pv 2) pe_int))))) pss_nil)
  (pss_cons (ps_set (i:=2) nd rfl (Or.inl rfl) (pe_op op_mod (pe_op op_mul (pe_op op_add (pe_op op_add (pv 0) (pe_op op_mul pe_int (pv 1))) pe_int) pe_int) pe_int))
  (pss_cons (ps_set (i:=2) nd rfl (Or.inl rfl) (pe_op op_mod (pe_op op_mul (pv 2) (pv 2)) pe_int))
  (pss_one (ps_ret (pe_op op_fdiv (pe_op op_mod (pe_op op_mul (pv 2) pe_int) pe_int) pe_int)))))),?_⟩
 refine ⟨_,rfl,_,_,rfl,rfl,(by show (0:Int) < 2; decide),rfl,_,rfl,?_⟩
 refine ite2 (fun _=>?_) (fun _=>?_)
 ·refine ⟨_,rfl,_,_,rfl,rfl,⟨by decide,by decide⟩,?_⟩
  have b:=mod_lt k (show (0:Int) < 50 by decide)
  refine ⟨_,rfl,_,_,rfl,rfl,(by show (0:Int) < 50; decide),_,rfl,(by lia),(by lia),?_⟩
  refine for_range (fun i σ H2=>H2=H∧∃ (c:Int) (j:Option V),σ=[some (.int cell),some (.int k),some (.int c),j]) ⟨rfl,_,none,rfl⟩ ?_ ?_
  ·rintro i σ H2 hi ⟨rfl,c,j,rfl⟩
   exact ⟨_,rfl,_,_,rfl,rfl,⟨by decide,by decide⟩,rfl,_,_,rfl⟩
  ·rintro σ H2 ⟨rfl,c,j,rfl⟩
   refine ⟨_,rfl,_,_,rfl,rfl,(by show (0:Int) < 2147483647; decide),?_⟩
   exact q _ (mod_lt _ (by decide)).1 (mod_lt _ (by decide)).2
 ·refine ⟨_,rfl,_,rfl,_,_,rfl,rfl,.inl ⟨by decide,by decide⟩,_,_,rfl,rfl,_,_,rfl,rfl,_,_,rfl,rfl,.inr ⟨by decide,by decide⟩,_,_,rfl,rfl,(by show (0:Int) < 2147483647; decide),?_⟩
  have b:=mod_lt ((cell + 977 * k + 1) * 48271) (show (0:Int) < 2147483647 by decide)
  refine ⟨_,rfl,_,rfl,_,_,rfl,rfl,.inl ⟨by lia,by lia⟩,_,_,rfl,rfl,(by show (0:Int) < 2147483629; decide),?_⟩
  refine ⟨_,rfl,_,_,rfl,rfl,.inr ⟨by decide,by decide⟩,_,_,rfl,rfl,(by show (0:Int) < 2147483587; decide),_,_,rfl,rfl,⟨by decide,by decide⟩,?_⟩
  generalize (cell + 977 * k + 1) * 48271 % 2147483647 * ((cell + 977 * k + 1) * 48271 % 2147483647) % 2147483629 * 69621=g
  have b2:=mod_lt g (show (0:Int) < 2147483587 by decide)
  refine q _ ?_ ?_
  ·exact Int.ediv_nonneg b2.1 (by decide)
  ·lia
inductive PspBed (K:PySem.W.Frag) (vs:List V) (H:Hp) (Q:VK):Prop
 | mk (L:Addr) (ns:List Int) (h0:vs=[.ref L]) (h1:SqL K H L (ns.map V.int)) (h2:∀ (D:Addr) (bed:List (List Int)) (H':Hp),Same H H'→BdAt H' D bed→Rect bed→Small bed→ins bed (0,0)=true→(∀ r∈bed,∀ v∈r,v≤1000)→Q (.ref D) H'):PspBed K vs H Q
def spBed (K:PySem.W.Frag):Sp:=fun vs H Q _=>PspBed K vs H Q
theorem scBed:FnScope ["script","cells","head","width","depth","heights","bed","y","row","x","cell","at"] ["script"] (defScope sBed):=⟨rfl,rfl,rfl,by decide +kernel,rfl,by decide +kernel,by decide +kernel⟩
theorem rect_of' {a:List (List Int)} {wd:Nat} (h1:a≠[]) (w1:∀ r∈a,r.length=wd):Rect a:=by
 refine ⟨h1,fun r hr=>?_⟩
 cases a with
 | nil=>exact absurd rfl h1
 | cons r0 a=>rw [w1 r hr]; exact (w1 r0 Ab).symm
theorem ins00 {a:List (List Int)} {wd:Nat} (h1:a≠[]) (w1:∀ r∈a,r.length=wd) (h:1≤wd):ins a (0,0)=true:=by
 cases a with
 | nil=>exact absurd rfl h1
 | cons r0 a =>
  have h0:=w1 r0 Ab
  exact decide_eq_true ⟨show (0:Int)≤0 by decide,show (0:Int) < ((r0 :: a).length:Int) by rw [AO]; lia,show (0:Int)≤0 by decide,show (0:Int) < (r0.length:Int) by lia⟩
theorem ok_bed (T:LawT mg) (hsu:mg "sum"=none) (FS:Fn P w K mg base "_law_stir" 1 ["cell","k"] spStir) (F:Fun K "_law_bed" "_law_bed" sBed f fd'):FnOk P w K mg base (CX1 P w) 2 f fd' ["script"] (spBed K):=by
 have nd:=scBed.nd
 refine F.ok1 scBed (fun vs H Q E h=>?_) (fun cdv A outer s H vs Q E hr h=>?_)
 ·obtain ⟨L,ns,rfl,_⟩:=h
  rfl
 obtain ⟨L,ns,rfl,hL,q⟩:=h
 have hr1:Room 1 _:=hr.mono (by decide)
 refine ⟨_,(pss_cons (ps_set (i:=1) nd rfl (Or.inl rfl) (pe_slice (sl_listK (K:=K) rfl) (pv 0) po_none (po_some pe_int)))
  (pss_cons (ps_set (i:=2) nd rfl (Or.inl rfl) (pe_callB (call_sumW rfl) rfl hsu bt_sum (pa_cons (pv 1) pa_nil)))
  (pss_cons (ps_set (i:=3) nd rfl (Or.inl rfl) (pe_op op_add pe_int (pe_op op_mod (pf_call FS hr1 rfl (pass1 (E:=E)) (pa_cons (pv 2) (pa_cons pe_int pa_nil))) pe_int)))
  (pss_cons (ps_set (i:=4) nd rfl (Or.inl rfl) (pe_op op_add pe_int (pe_op op_mod (pf_call FS hr1 rfl (pass1 (E:=E)) (pa_cons (pv 2) (pa_cons pe_int pa_nil))) pe_int)))
  (pss_mid (ps_if (pt_cmpR op_eq (pe_op op_mod (pf_call FS hr1 rfl (pass1 (E:=E)) (pa_cons (pv 2) (pa_cons pe_int pa_nil))) pe_int) pe_int (nomark _)) (pss_cons (ps_set (i:=3) nd rfl (Or.inl rfl) (pe_op op_add pe_int (pe_op op_mod (pf_call FS hr1 rfl (pass1 (E:=E)) (pa_cons (pv 2) (pa_cons pe_int pa_nil))) pe_int)))
  (pss_one (ps_set (i:=4) nd rfl (Or.inl rfl) (pe_op op_add pe_int (pe_op op_mod (pf_call FS hr1 rfl (pass1 (E:=E)) (pa_cons (pv 2) (pa_cons pe_int pa_nil))) pe_int))))) pss_nil)
  (pss_cons (ps_set (i:=5) nd rfl (Or.inl rfl) (pe_ix (ix_listK (K:=K) rfl) (pe_lst (pa_cons (pe_lst (pa_cons pe_int (pa_cons pe_int (pa_cons pe_int (pa_cons pe_int pa_nil))))) (pa_cons (pe_lst (pa_cons pe_int (pa_cons pe_int (pa_cons pe_int pa_nil)))) (pa_cons (pe_lst (pa_cons pe_int (pa_cons pe_int (pa_cons pe_int pa_nil)))) (pa_cons (pe_lst pa_nil) pa_nil))))) (pe_op op_mod (pf_call FS hr1 rfl (pass1 (E:=E)) (pa_cons (pv 2) (pa_cons pe_int pa_nil))) pe_int) (fun _ _=>rfl)))
  (pss_mid (ps_if (pt_cmpR (op_eqDK (K:=K) rfl hr.units) (pv 5) (pe_lst pa_nil) (nomark _)) (pss_one (ps_set (i:=5) nd rfl (Or.inl rfl) (pe_lst (pa_cons (pe_op op_mod (pf_call FS hr1 rfl (pass1 (E:=E)) (pa_cons (pv 2) (pa_cons pe_int pa_nil))) pe_int) (pa_cons (pe_op op_mod (pf_call FS hr1 rfl (pass1 (E:=E)) (pa_cons (pv 2) (pa_cons pe_int pa_nil))) pe_int) pa_nil))))) pss_nil)
  (pss_cons (ps_set (i:=6) nd rfl (Or.inl rfl) (pe_lst pa_nil))
  (pss_cons (ps_for own1 rfl (pi_range1 rfl T.range (pa_cons (pv 4) pa_nil)) (pg_name (i:=7) nd rfl (Or.inl rfl)) (pss_cons (ps_set (i:=8) nd rfl (Or.inl rfl) (pe_lst pa_nil))
  (pss_cons (ps_for own1 rfl (pi_range1 rfl T.range (pa_cons (pv 3) pa_nil)) (pg_name (i:=9) nd rfl (Or.inl rfl)) (pss_cons (ps_set (i:=10) nd rfl (Or.inl rfl) (pe_op op_add (pe_op op_add (pv 2) (pe_op op_mul pe_int (pv 7))) (pe_op op_mul pe_int (pv 9))))
  (pss_mid (ps_if (pt_cmpR (op_neDK (K:=K) rfl hr.units) (pv 1) (pe_lst pa_nil) (nomark _)) (pss_cons (ps_set (i:=11) nd rfl (Or.inl rfl) (pe_op op_mod (pe_op op_add (pe_op op_mul (pv 3) (pv 7)) (pv 9)) (pe_callB (call_lenK (K:=K) rfl) rfl T.len Ao (pa_cons (pv 1) pa_nil))))
  (pss_one (ps_set (i:=10) nd rfl (Or.inl rfl) (pe_op op_add (pe_op op_add (pe_ix (ix_listK (K:=K) rfl) (pv 1) (pv 11) (fun _ _=>rfl)) (pe_op op_mul pe_int (pv 7))) (pe_op op_mul pe_int (pv 9)))))) pss_nil)
  (pss_one (ps_expr (pe_bm Aq At Au mt_append (pv 8) (pa_cons (pe_ix (ix_listK (K:=K) rfl) (pe_op op_cat (pv 5) (pe_lst (pa_cons (pe_op op_mod (pf_call FS hr1 rfl (pass1 (E:=E)) (pa_cons (pv 10) (pa_cons pe_int pa_nil))) pe_int) pa_nil))) (pe_op op_mod (pf_call FS hr1 rfl (pass1 (E:=E)) (pa_cons (pv 10) (pa_cons pe_int pa_nil))) (pe_op op_add (pe_callB (call_lenK (K:=K) rfl) rfl T.len Ao (pa_cons (pv 5) pa_nil)) pe_int)) (fun _ _=>rfl)) pa_nil)))))))
  (pss_mid (ps_if (PW.pt (pw_and (pt_cmpR op_gt (pv 7) pe_int (nomark _)) (pw_and1 (pt_cmpR op_eq (pe_op op_mod (pf_call FS hr1 rfl (pass1 (E:=E)) (pa_cons (pv 2) (pa_cons pe_int pa_nil))) pe_int) pe_int (nomark _))))) (pss_one (ps_set (i:=8) nd rfl (Or.inl rfl) (pe_callTy (call_listK (K:=K) rfl) rfl T.list bt_list (pa_cons (pe_ix (ix_listK (K:=K) rfl) (pv 6) (pe_un un_neg pe_int) (fun _ _=>rfl)) pa_nil)))) pss_nil)
  (pss_one (ps_expr (pe_bm Aq At Au mt_append (pv 6) (pa_cons (pv 8) pa_nil))))))))
  (pss_one (ps_ret (pv 6)))))))))))),?_⟩
 refine ⟨_,rfl,_,rfl,L,_,rfl,hL,fun p hp=>?_⟩
 obtain ⟨i1,i2,ecut⟩:=cut_map V.int ns none (some 63)
 rw [ecut]
 generalize (ns.drop i1).take i2=cs
 clear ecut
 have v1:=same_upd hp (.lst (cs.map V.int))
 have hp1:upd H p (.lst (cs.map V.int)) p=some (.lst (cs.map V.int)):=upd_same
 generalize upd H p (.lst (cs.map V.int))=H1 at v1 hp1
 refine ⟨_,rfl,p,cs,rfl,SqL.of hp1,fun hd=>?_⟩
 refine ⟨_,rfl,hd,0,rfl,(by decide),(by decide),fun n1 n10 _=>⟨_,_,rfl,rfl,(by show (0:Int) < 6; decide),_,_,rfl,rfl,?_⟩⟩
 refine ⟨_,rfl,hd,1,rfl,(by decide),(by decide),fun n2 n20 _=>⟨_,_,rfl,rfl,(by show (0:Int) < 6; decide),_,_,rfl,rfl,?_⟩⟩
 refine ⟨fun σ G=>∃ wd dp:Nat,σ=[some (.ref L),some (.ref p),some (.int hd),some (.int (wd:Int)),some (.int (dp:Int)),none,none,none,none,none,none,none]∧H1=G∧1≤wd∧wd≤40∧1≤dp∧dp≤6,?_,?_⟩
 ·refine ⟨_,rfl,hd,2,rfl,(by decide),(by decide),fun m1 _ _=>⟨_,_,rfl,rfl,(by show (0:Int) < 16; decide),rfl,_,rfl,ite2 (fun _=>?_) (fun _=>?_)⟩⟩
  ·refine ⟨_,rfl,hd,0,rfl,(by decide),(by decide),fun m2 _ _=>⟨_,_,rfl,rfl,(by show (0:Int) < 40; decide),_,_,rfl,rfl,?_⟩⟩
   refine ⟨_,rfl,hd,1,rfl,(by decide),(by decide),fun m3 _ _=>⟨_,_,rfl,rfl,(by show (0:Int) < 4; decide),_,_,rfl,rfl,?_⟩⟩
   obtain ⟨wd,hwd,wd1,wd40⟩:∃ wd:Nat,(1 + m2 % 40)=(wd:Int)∧1≤wd∧wd≤40:=⟨(1 + m2 % 40).toNat,by lia,by lia,by lia⟩
   obtain ⟨dp,hdp,dp1,dp6⟩:∃ dp:Nat,(1 + m3 % 4)=(dp:Int)∧1≤dp∧dp≤6:=⟨(1 + m3 % 4).toNat,by lia,by lia,by lia⟩
   rw [hwd,hdp]
   exact ⟨wd,dp,rfl,rfl,wd1,wd40,dp1,dp6⟩
  ·obtain ⟨wd,hwd,wd1,wd40⟩:∃ wd:Nat,(1 + n1 % 6)=(wd:Int)∧1≤wd∧wd≤40:=⟨(1 + n1 % 6).toNat,by lia,by lia,by lia⟩
   obtain ⟨dp,hdp,dp1,dp6⟩:∃ dp:Nat,(1 + n2 % 6)=(dp:Int)∧1≤dp∧dp≤6:=⟨(1 + n2 % 6).toNat,by lia,by lia,by lia⟩
   rw [hwd,hdp]
   exact ⟨wd,dp,rfl,rfl,wd1,wd40,dp1,dp6⟩
 rintro σ G ⟨wd,dp,rfl,rfl,wd1,wd6,dp1,dp6⟩
 refine ⟨le4,fun l1 hl1=>⟨le3,fun l2 hl2=>⟨le3,fun l3 hl3=>⟨Ai _,fun l4 hl4=>⟨le4,fun l5 hl5=>?_⟩⟩⟩⟩⟩
 have a1:=same_upd hl1 (.lst [V.int 0,.int 1000,.int 500,.int 501])
 have a2:=same_upd hl2 (.lst [V.int 1000,.int 999,.int 998])
 have a3:=same_upd hl3 (.lst [V.int 0,.int 3,.int 7])
 have a4:=same_upd hl4 (.lst [])
 have a5:=same_upd hl5 (.lst [V.ref l1,.ref l2,.ref l3,.ref l4])
 have s5:=a1.trans (a2.trans (a3.trans (a4.trans a5)))
 refine ⟨_,rfl,hd,5,rfl,(by decide),(by decide),fun n3 n30 _=>⟨_,_,rfl,rfl,(by show (0:Int) < 4; decide),?_⟩⟩
 obtain ⟨ha,hs,hat,hha,hsl,hsb⟩:∃ (ha:Addr) (hs:List Int),atI [V.ref l1,.ref l2,.ref l3,.ref l4] (n3 % 4)=some (.ref ha)∧upd (upd (upd (upd (upd H1 l1 (.lst [V.int 0,.int 1000,.int 500,.int 501])) l2 (.lst [V.int 1000,.int 999,.int 998])) l3 (.lst [V.int 0,.int 3,.int 7])) l4 (.lst [])) l5 (.lst [V.ref l1,.ref l2,.ref l3,.ref l4]) ha=some (.lst (hs.map V.int))∧hs.length≤4∧∀ v∈hs,v≤1000:=by
  have:n3 % 4=0∨n3 % 4=1∨n3 % 4=2∨n3 % 4=3:=by lia
  rcases this with h | h | h | h <;> rw [h]
  ·exact ⟨l1,[0,1000,500,501],rfl,(a2.trans (a3.trans (a4.trans a5))) _ _ upd_same,by decide,by decide⟩
  ·exact ⟨l2,[1000,999,998],rfl,(a3.trans (a4.trans a5)) _ _ upd_same,by decide,by decide⟩
  ·exact ⟨l3,[0,3,7],rfl,(a4.trans a5) _ _ upd_same,by decide,by decide⟩
  ·exact ⟨l4,[],rfl,a5 _ _ upd_same,by decide,by decide⟩
 refine ⟨l5,_,_,.ref ha,rfl,rfl,SqL.of upd_same,hat,?_⟩
 generalize upd (upd (upd (upd (upd H1 l1 (.lst [V.int 0,.int 1000,.int 500,.int 501])) l2 (.lst [V.int 1000,.int 999,.int 998])) l3 (.lst [V.int 0,.int 3,.int 7])) l4 (.lst [])) l5 (.lst [V.ref l1,.ref l2,.ref l3,.ref l4])=H2 at s5 hha
 clear a1 a2 a3 a4 a5 hat hl1 hl2 hl3 hl4 hl5
 have hp2:=s5 _ _ hp1
 have u2:=v1.trans s5
 clear v1 s5 hp1 hp
 refine ⟨fun σ G=>∃ (ha:Addr) (hs:List Int),σ=[some (.ref L),some (.ref p),some (.int hd),some (.int (wd:Int)),some (.int (dp:Int)),some (.ref ha),none,none,none,none,none,none]∧Same H2 G∧G ha=some (.lst (hs.map V.int))∧hs.length≤4∧∀ v∈hs,v≤1000,?_,?_⟩
 ·refine ⟨_,rfl,Ai _,fun l0 hl0=>?_⟩
  have u:=same_upd hl0 (.lst [])
  refine ⟨.list (hs.map .int),.list [],.lst (SqL.of (u _ _ hha)) (ints_rp hs),.lst (SqL.of upd_same) .nil,ints_shaped hs,sh_nil,_,rfl,ite2 (fun _=>?_) (fun _=>⟨ha,hs,rfl,u,u _ _ hha,hsl,hsb⟩)⟩
  refine ⟨_,rfl,hd,3,rfl,(by decide),(by decide),fun n4 _ _=>⟨_,_,rfl,rfl,(by show (0:Int) < 1001; decide),_,rfl,hd,4,rfl,(by decide),(by decide),fun n5 _ _=>⟨_,_,rfl,rfl,(by show (0:Int) < 1001; decide),le2,fun l6 hl6=>?_⟩⟩⟩
  exact ⟨l6,[n4 % 1001,n5 % 1001],rfl,u.trans (same_upd hl6 _),upd_same,by show 2≤4; decide,fun v hv=>by
   have b4:=mod_lt n4 (show (0:Int) < 1001 by decide)
   have b5:=mod_lt n5 (show (0:Int) < 1001 by decide)
   rcases AW.mp hv with rfl | hv
   ·lia
   ·rw [AJ.mp hv]; lia⟩
 clear hha hsl hsb hs ha
 rintro σ G ⟨ha,hs,rfl,s3,hha,hsl,hsb⟩
 have hp3:=s3 _ _ hp2
 have u3:=u2.trans s3
 clear s3 u2 hp2
 refine ⟨Ai _,fun D hD=>?_⟩
 have vD:=same_upd hD (.lst [])
 refine ⟨_,rfl,_,rfl,(by lia),(by lia),?_⟩
 rw [Aj]
 refine for_range (n:=dp) (fun y σ G1=>∃ (x7 x8 x9 x10 x11:Option V) (rs:List Addr) (rows:List (List Int)),σ=[some (.ref L),some (.ref p),some (.int hd),some (.int (wd:Int)),some (.int (dp:Int)),some (.ref ha),some (.ref D),x7,x8,x9,x10,x11]∧Same G G1∧G1 D=some (.lst (rs.map V.ref))∧RowsAt G1 rs rows∧D ∉ rs∧rows.length=y∧∀ r∈rows,r.length=wd∧∀ v∈r,v≤1000)
  ⟨none,none,none,none,none,[],[],rfl,vD,upd_same,AS,List.not_mem_nil,rfl,fun _ h=>(List.not_mem_nil h).elim⟩ ?_ ?_
 ·rintro y σ G1 hy ⟨x7,x8,x9,x10,x11,rs,rows,rfl,sG1,hD1,rr,nDr,rl,rw⟩
  rw [Int.zero_add]
  refine ⟨Ai _,fun r hr'=>?_⟩
  have nrD:r≠D:=ne_new hD1 hr'
  refine ⟨_,rfl,_,rfl,(by lia),(by lia),?_⟩
  rw [Aj]
  refine for_range (n:=wd) (fun x σ G2=>∃ (x9 x10 x11:Option V) (vs:List Int),σ=[some (.ref L),some (.ref p),some (.int hd),some (.int (wd:Int)),some (.int (dp:Int)),some (.ref ha),some (.ref D),some (.int (y:Int)),some (.ref r),x9,x10,x11]∧Same G1 G2∧G2 r=some (.lst (vs.map V.int))∧vs.length=x∧∀ v∈vs,v≤1000) ⟨x9,x10,x11,[],rfl,same_upd hr' _,upd_same,rfl,fun _ h=>(by cases h)⟩ ?_ ?_
  ·rintro x σ G2 hx ⟨x9,x10,x11,vs,rfl,sG2,hr2,vl,vb⟩
   rw [Int.zero_add]
   refine ⟨_,rfl,_,rfl,_,_,rfl,rfl,.inl ⟨by decide,by decide⟩,_,_,rfl,rfl,_,rfl,_,_,rfl,rfl,.inl ⟨by decide,by decide⟩,_,_,rfl,rfl,?_⟩
   have hp4:=sG2 _ _ (sG1 _ _ hp3)
   have hh4:=sG2 _ _ (sG1 _ _ hha)
   refine ⟨fun σ G3=>∃ (c:Int) (x11:Option V),σ=[some (.ref L),some (.ref p),some (.int hd),some (.int (wd:Int)),some (.int (dp:Int)),some (.ref ha),some (.ref D),some (.int (y:Int)),some (.ref r),some (.int (x:Int)),some (.int c),x11]∧Same G2 G3,?_,?_⟩
   ·refine ⟨_,rfl,Ai _,fun l0 hl0=>?_⟩
    have u:=same_upd hl0 (.lst [])
    refine ⟨.list (cs.map .int),.list [],.lst (SqL.of (u _ _ hp4)) (ints_rp cs),.lst (SqL.of upd_same) .nil,ints_shaped cs,sh_nil,_,rfl,ite2 (fun h=>?_) (fun _=>⟨_,_,rfl,u⟩)⟩
    have cne:cs≠[]:=fun z=>by
     subst z
     have:(if true=true then !PyData.eqv (.list []) (.list []) else PyData.eqv (.list []) (.list []))=false:=eq_false (by rfl)
     rw [show ([]:List Int).map PyData.int=[] from rfl,this] at h
     cases h
    have cpos:0 < cs.length:=by
     cases cs with
     | nil=>exact absurd rfl cne
     | cons a b=>exact Nat.succ_pos _
    refine ⟨_,rfl,_,rfl,_,_,rfl,rfl,.inl ⟨by lia,by lia⟩,_,rfl,_,_,rfl,rfl,_,rfl,p,_,rfl,.inl (SqL.of (u _ _ hp4)),_,_,rfl,rfl,(by rw [AA]; lia),?_⟩
    rw [AA]
    have hm:=mod_lt ((wd:Int) * (y:Int) + (x:Int)) (show (0:Int) < (cs.length:Int) by lia)
    obtain ⟨v,hv,hvm⟩:=at_mem (xs:=cs.map V.int) hm.1 (by rw [AA]; exact hm.2)
    obtain ⟨c,_,rfl⟩:=A6.mp hvm
    exact ⟨_,rfl,_,rfl,p,_,_,.int c,rfl,rfl,SqL.of (u _ _ hp4),hv,_,rfl,_,_,rfl,rfl,.inl ⟨by decide,by decide⟩,_,_,rfl,rfl,_,rfl,_,_,rfl,rfl,.inl ⟨by decide,by decide⟩,_,_,rfl,rfl,_,_,rfl,u⟩
   rintro σ G3 ⟨c,x11',rfl,s3⟩
   have hh5:=s3 _ _ hh4
   refine ⟨_,rfl,.inl ⟨rfl,_,SqL.of (s3 _ _ hr2)⟩,_,rfl,_,rfl,c,6,rfl,(by decide),(by decide),fun n1 _ _=>⟨_,_,rfl,rfl,(by show (0:Int) < 1001; decide),le1,fun l hl=>?_⟩⟩
   have w1:=same_upd hl (.lst [V.int (n1 % 1001)])
   refine ⟨ha,l,_,_,rfl,rfl,w1 _ _ hh5,upd_same,(by rw [AA]; exact Ag (show hs.length + 1≤5 by lia) (by decide)),fun l2 hl2=>?_⟩
   have w2:=same_upd hl2 (.lst (hs.map V.int++[V.int (n1 % 1001)]))
   have w12:=w1.trans w2
   refine ⟨_,rfl,c,7,rfl,(by decide),(by decide),fun n2 n20 _=>⟨_,rfl,ha,_,rfl,.inl (SqL.of (w12 _ _ hh5)),_,_,rfl,rfl,_,_,rfl,rfl,(by rw [AA]; show (0:Int) < (hs.length:Int) + 1; lia),?_⟩⟩
   have hm:=mod_lt n2 (show (0:Int) < (hs.length:Int) + 1 by lia)
   obtain ⟨v,hv,hvm⟩:=at_mem (xs:=(hs++[n1 % 1001]).map V.int) hm.1 (by rw [AA,AI]; exact hm.2)
   obtain ⟨z,zm,rfl⟩:=A6.mp hvm
   have zb:z≤1000:=by
    rcases AY.mp zm with h | h
    ·exact hsb z h
    ·rw [AJ.mp h]
     have:=mod_lt n1 (show (0:Int) < 1001 by decide)
     lia
   rw [AG] at hv
   refine ⟨l2,_,_,.int z,rfl,rfl,SqL.of upd_same,(by rw [AA]; exact hv),?_⟩
   refine ⟨r,_,.int z,rfl,rfl,w12 _ _ (s3 _ _ hr2),(by rw [AA]; exact line3 (show vs.length≤1000 by lia) (by decide)),_,_,_,vs++[z],rfl,same_in (sG2.trans (s3.trans w12)) hr',by rw [upd_same,AG]; rfl,by rw [AI,vl]; rfl,fun v hv=>by
    rcases AY.mp hv with h | h
    ·exact vb v h
    ·rw [AJ.mp h]; exact zb⟩
  ·rintro σ G2 ⟨x9,x10,x11,vs,rfl,sG2,hr2,vl,vb⟩
   have hD2:=sG2 _ _ hD1
   have rsl:=rr.len
   refine ⟨fun σ G3=>∃ (r':Addr) (vs':List Int),σ=[some (.ref L),some (.ref p),some (.int hd),some (.int (wd:Int)),some (.int (dp:Int)),some (.ref ha),some (.ref D),some (.int (y:Int)),some (.ref r'),x9,x10,x11]∧Same G2 G3∧G3 r'=some (.lst (vs'.map V.int))∧(vs'.length=wd∧∀ v∈vs',v≤1000)∧r'≠D,?_,?_⟩
   ·refine ⟨_,rfl,_,_,rfl,rfl,_,rfl,ite2 (fun h=>?_) (fun _=>iteF ⟨r,vs,rfl,fun _ _ e=>e,hr2,⟨vl,vb⟩,nrD⟩)⟩
    have hy0:(0:Int) < (y:Int):=of_decide_eq_true h
    refine ⟨_,rfl,hd,9,rfl,(by decide),(by decide),fun n3 _ _=>⟨_,_,rfl,rfl,(by show (0:Int) < 4; decide),rfl,_,rfl,ite2 (fun _=>?_) (fun _=>⟨r,vs,rfl,fun _ _ e=>e,hr2,⟨vl,vb⟩,nrD⟩)⟩⟩
    have hlast:rs.length - 1 < rs.length:=by lia
    have hlast2:rs.length - 1 < rows.length:=by lia
    obtain ⟨ar,e1,e2⟩:=rr.at_ (AB hlast2)
    have hat:atI (rs.map V.ref) (-1)=some (.ref ar):=by
     unfold atI ixN
     rw [if_neg (by decide),if_pos (by rw [AA]; lia),Option.bind_some,AA,show ((-1:Int) + (rs.length:Int)).toNat=rs.length - 1 by lia,AF,e1]
     rfl
    refine ⟨_,rfl,_,rfl,D,_,_,.ref ar,rfl,rfl,SqL.of hD2,hat,ar,_,rfl,.inl (SqL.of (sG2 _ _ e2)),fun l hl=>?_⟩
    exact ⟨l,_,rfl,same_upd hl _,upd_same,rw _ (Ak hlast2),ne_new hD2 hl⟩
   rintro σ G3 ⟨r',vs',rfl,s3,hr3,vl3,nr3⟩
   have hD3:=s3 _ _ hD2
   have rr3:=(rr.same sG2).same s3
   refine ⟨_,rfl,.inl ⟨rfl,_,SqL.of hD3⟩,_,rfl,D,_,.ref r',rfl,rfl,hD3,(by rw [AA]; exact line3 (show rs.length≤1000 by lia) (by decide)),_,_,_,_,_,rs++[r'],rows++[vs'],rfl,?_,by rw [upd_same,AG]; rfl,?_,fun z=>?_,by rw [AI,rl]; rfl,fun v hv=>?_⟩
   ·exact same_in (sG1.trans (sG2.trans s3)) hD
   ·refine RowsAt.snoc (by rw [upd_ne nr3]; exact hr3) (rr3.keep fun a ha' o e=>?_)
    rw [upd_ne (fun z=>nDr (by rw [← z]; exact ha'))]
    exact e
   ·rcases AY.mp z with z | z
    ·exact nDr z
    ·exact nr3 (AJ.mp z).symm
   ·rcases AY.mp hv with hv | hv
    ·exact rw v hv
    ·rw [AJ.mp hv]; exact vl3
 ·rintro σ G1 ⟨x7,x8,x9,x10,x11,rs,rows,rfl,sG1,hD1,rr,nDr,rl,rw⟩
  have ne:rows≠[]:=fun z=>by rw [z] at rl; have:(0:Nat)=dp:=rl; lia
  exact ⟨_,rfl,q D rows _ (u3.trans sG1) ⟨rs,hD1,rr⟩ (rect_of' ne fun r hr=>(rw r hr).1) ⟨by lia,fun r hr=>by rw [(rw r hr).1]; lia⟩ (ins00 ne (fun r hr=>(rw r hr).1) wd1) (fun r hr=>(rw r hr).2)⟩
end
abbrev sCutr:Stmt:=top 22
theorem at4 {α:Type} (p q r s:α) {a:Int} (h0:0≤a) (h2:a < 4):∃ v,(v=p∨v=q∨v=r∨v=s)∧atI [p,q,r,s] a=some v:=by
 have:a=0∨a=1∨a=2∨a=3:=by lia
 rcases this with rfl | rfl | rfl | rfl
 ·exact ⟨p,.inl rfl,rfl⟩
 ·exact ⟨q,.inr (.inl rfl),rfl⟩
 ·exact ⟨r,.inr (.inr (.inl rfl)),rfl⟩
 ·exact ⟨s,.inr (.inr (.inr rfl)),rfl⟩
section
variable {P:Program} {w:World} {K:PySem.W.Frag} {mg:Str→Option Value} {base:Heap} {f:Addr} {fd':FuncData}
inductive PspCutr (vs:List V) (H:Hp) (Q:VK):Prop
 | mk (c:Int) (h0:vs=[.int c]) (h1:∀ (ct ft:Addr) (foot:List (Int×Int)) (bite:Int) (H':Hp),Same H H'→H ft=none→H' ct=some (.tup [.ref ft,.int bite])→FtAt H' ft foot→foot.length≤60→(∀ s∈foot,-1000≤s.1∧s.1≤1000∧-1000≤s.2∧s.2≤1000)→1≤bite∧bite≤1000→Q (.ref ct) H'):PspCutr  vs H Q
def spCutr:Sp:=fun vs H Q _=>PspCutr  vs H Q
theorem scCutr:FnScope ["cell","bite","foot","k","at","turn"] ["cell"] (defScope sCutr):=⟨rfl,rfl,rfl,by decide +kernel,rfl,by decide +kernel,by decide +kernel⟩
theorem ok_cutr (T:LawT mg) (FS:Fn P w K mg base "_law_stir" 1 ["cell","k"] spStir) (F:Fun K "_law_cutter" "_law_cutter" sCutr f fd'):FnOk P w K mg base (CX1 P w) 2 f fd' ["cell"] spCutr:=by
 have nd:=scCutr.nd
 refine F.ok1 scCutr (fun vs H Q E h=>?_) (fun cdv A outer s H vs Q E hr h=>?_)
 ·obtain ⟨c,rfl,_⟩:=h
  rfl
 obtain ⟨c,rfl,q⟩:=h
 have hr1:Room 1 _:=hr.mono (by decide)
 refine ⟨_,(pss_cons (ps_set (i:=1) nd rfl (Or.inl rfl) (pe_ix (ix_listK (K:=K) rfl) (pe_lst (pa_cons pe_int (pa_cons pe_int (pa_cons (pe_op op_add pe_int (pe_op op_mod (pf_call FS hr1 rfl (pass1 (E:=E)) (pa_cons (pv 0) (pa_cons pe_int pa_nil))) pe_int)) (pa_cons (pe_op op_add pe_int (pe_op op_mod (pf_call FS hr1 rfl (pass1 (E:=E)) (pa_cons (pv 0) (pa_cons pe_int pa_nil))) pe_int)) pa_nil))))) (pe_op op_mod (pf_call FS hr1 rfl (pass1 (E:=E)) (pa_cons (pv 0) (pa_cons pe_int pa_nil))) pe_int) (fun _ _=>rfl)))
  (pss_cons (ps_set (i:=2) nd rfl (Or.inl rfl) (pe_lst (pa_cons (pe_tup (pa_cons pe_int (pa_cons pe_int pa_nil))) pa_nil)))
  (pss_cons (ps_for own1 rfl (pi_range1 rfl T.range (pa_cons (pe_op op_mod (pf_call FS hr1 rfl (pass1 (E:=E)) (pa_cons (pv 0) (pa_cons pe_int pa_nil))) pe_int) pa_nil)) (pg_name (i:=3) nd rfl (Or.inl rfl)) (pss_cons (ps_set (i:=4) nd rfl (Or.inl rfl) (pe_tup (pa_cons (pe_op op_sub (pe_op op_mod (pf_call FS hr1 rfl (pass1 (E:=E)) (pa_cons (pv 0) (pa_cons (pe_op op_add pe_int (pv 3)) pa_nil))) pe_int) pe_int) (pa_cons (pe_op op_sub (pe_op op_mod (pf_call FS hr1 rfl (pass1 (E:=E)) (pa_cons (pv 0) (pa_cons (pe_op op_add pe_int (pv 3)) pa_nil))) pe_int) pe_int) pa_nil))))
  (pss_one (ps_if (pt_cmpR (op_notInW hr.units) (pv 4) (pv 2) (by with_unfolding_all rfl)) (pss_one (ps_expr (pe_bm Aq At Au mt_append (pv 2) (pa_cons (pv 4) pa_nil)))) pss_nil))))
  (pss_cons (ps_set (i:=5) nd rfl (Or.inl rfl) (pe_op op_mod (pf_call FS hr1 rfl (pass1 (E:=E)) (pa_cons (pv 0) (pa_cons pe_int pa_nil))) (pe_callB (call_lenK (K:=K) rfl) rfl T.len Ao (pa_cons (pv 2) pa_nil))))
  (pss_one (ps_ret (pe_tup (pa_cons (pe_op op_cat (pe_slice (sl_listK (K:=K) rfl) (pv 2) (po_some (pv 5)) po_none) (pe_slice (sl_listK (K:=K) rfl) (pv 2) po_none (po_some (pv 5)))) (pa_cons (pv 1) pa_nil))))))))),?_⟩
 refine ⟨_,rfl,c,10,rfl,(by decide),(by decide),fun n1 n10 _=>⟨_,_,rfl,rfl,(by show (0:Int) < 1000; decide),_,_,rfl,rfl,_,rfl,c,10,rfl,(by decide),(by decide),fun n2 n20 _=>⟨_,_,rfl,rfl,(by show (0:Int) < 5; decide),_,_,rfl,rfl,le4,fun l1 hl1=>?_⟩⟩⟩
 have v1:=same_upd hl1 (.lst [V.int 1,.int 1000,.int (1 + n1 % 1000),.int (1 + n2 % 5)])
 refine ⟨_,rfl,c,11,rfl,(by decide),(by decide),fun n3 n30 _=>⟨_,_,rfl,rfl,(by show (0:Int) < 4; decide),?_⟩⟩
 obtain ⟨bv,hbv,hat⟩:=at4 (V.int 1) (.int 1000) (.int (1 + n1 % 1000)) (.int (1 + n2 % 5)) (a:=n3 % 4) (by lia) (by lia)
 obtain ⟨bite,rfl,bt1,bt2⟩:∃ z:Int,bv=.int z∧1≤z∧z≤1000:=by
  rcases hbv with rfl | rfl | rfl | rfl
  ·exact ⟨_,rfl,by lia,by lia⟩
  ·exact ⟨_,rfl,by lia,by lia⟩
  ·exact ⟨_,rfl,by lia,by lia⟩
  ·exact ⟨_,rfl,by lia,by lia⟩
 refine ⟨l1,_,_,.int bite,rfl,rfl,SqL.of upd_same,hat,?_⟩
 refine ⟨le2,fun t0 h0=>⟨le1,fun ft hft=>?_⟩⟩
 have v2:=same_upd h0 (.tup [V.int 0,.int 0])
 have v3:=same_upd hft (.lst [V.ref t0])
 have nft0:H ft=none:=v1.free (v2.free hft)
 have hf3:upd (upd (upd H l1 (.lst [V.int 1,.int 1000,.int (1 + n1 % 1000),.int (1 + n2 % 5)])) t0 (.tup [V.int 0,.int 0])) ft (.lst [V.ref t0]) ft=some (.lst ([t0].map V.ref)):=upd_same
 have ht3:upd (upd (upd H l1 (.lst [V.int 1,.int 1000,.int (1 + n1 % 1000),.int (1 + n2 % 5)])) t0 (.tup [V.int 0,.int 0])) ft (.lst [V.ref t0]) t0=some (.tup (pr (0,0))):=v3 _ _ upd_same
 have s3:=v1.trans (v2.trans v3)
 generalize upd (upd (upd H l1 (.lst [V.int 1,.int 1000,.int (1 + n1 % 1000),.int (1 + n2 % 5)])) t0 (.tup [V.int 0,.int 0])) ft (.lst [V.ref t0])=H3 at hf3 ht3 s3
 clear v1 v2 v3 hat hbv h0 hft hl1
 refine ⟨_,rfl,c,12,rfl,(by decide),(by decide),fun n4 n40 _=>⟨_,_,rfl,rfl,(by show (0:Int) < 10; decide),?_⟩⟩
 obtain ⟨n,hn,hn25⟩:∃ n:Nat,n4 % 10=(n:Int)∧n≤10:=⟨(n4 % 10).toNat,by lia,by lia⟩
 refine ⟨_,rfl,(by lia),(by lia),?_⟩
 rw [hn,Aj]
 refine for_range (n:=n) (fun i σ H4=>∃ (x3 x4:Option V) (ts:List Addr) (cs:List (Int×Int)),σ=[some (.int c),some (.int bite),some (.ref ft),x3,x4,none]∧H4 ft=some (.lst (ts.map V.ref))∧MvAt H4 ts (cs.map pr)∧cs.length≤i + 1∧0 < cs.length∧(∀ s∈cs,-1000≤s.1∧s.1≤1000∧-1000≤s.2∧s.2≤1000)∧Same H H4)
  ⟨none,none,[t0],[(0,0)],rfl,hf3,⟨ht3,AS⟩,AD _,(by show 0 < 1; decide),(fun s hs=>by rw [AJ.mp hs]; decide),s3⟩ ?_ ?_
 ·rintro i σ H4 hi ⟨x3,x4,ts,cs,rfl,ef4,mv4,l4,c0,cb,s4⟩
  have tl:ts.length=cs.length:=by rw [mv4.len,AA]
  refine ⟨_,rfl,_,rfl,_,_,rfl,rfl,c,_,rfl,(by lia),(by lia),fun y1 _ _=>⟨_,_,rfl,rfl,(by show (0:Int) < 7; decide),_,_,rfl,rfl,_,rfl,_,rfl,_,_,rfl,rfl,c,_,rfl,(by lia),(by lia),fun y2 _ _=>⟨_,_,rfl,rfl,(by show (0:Int) < 7; decide),_,_,rfl,rfl,le2,fun t ht=>?_⟩⟩⟩
  have u5:=same_upd ht (.tup [V.int (y1 % 7 - 3),.int (y2 % 7 - 3)])
  have et:upd H4 t (.tup [V.int (y1 % 7 - 3),.int (y2 % 7 - 3)]) t=some (.tup (pr (y1 % 7 - 3,y2 % 7 - 3))):=upd_same
  have ef5:=u5 _ _ ef4
  have mv5:=mv4.same u5
  have s5:=s4.trans u5
  generalize upd H4 t (.tup [V.int (y1 % 7 - 3),.int (y2 % 7 - 3)])=H5 at et ef5 mv5 s5
  refine ⟨_,rfl,_,rfl,ft,_,_,_,rfl,SqL.of ef5,.tup (SqT.of et) (.cons (.int _) (.cons (.int _) .nil)),prs_rp mv5,prD_sh (y1 % 7 - 3,y2 % 7 - 3),(by show 1≤10; decide),(fun e he=>?_),fun k=>⟨_,rfl,?_⟩⟩
  ·obtain ⟨c7,_,rfl⟩:=A6.mp he
   exact prD_sh _
  cases k with
  | false=>exact iteF ⟨_,_,ts,cs,rfl,ef5,mv5,by lia,c0,cb,s5⟩
  | true =>
   refine iteT ⟨_,rfl,.inl ⟨rfl,_,SqL.of ef5⟩,_,rfl,ft,_,.ref t,rfl,rfl,ef5,(by rw [AA]; exact Nat.lt_of_le_of_lt (show ts.length≤100 by lia) (by decide)),?_⟩
   refine ⟨_,_,ts++[t],cs++[(y1 % 7 - 3,y2 % 7 - 3)],rfl,by rw [upd_same,AG]; rfl,?_,by rw [AI]; show cs.length + 1≤_; lia,by rw [AI]; lia,(fun s hs=>by
    rcases AY.mp hs with hs | hs
    ·exact cb s hs
    ·rw [AJ.mp hs]
     have b1:=mod_lt y1 (show (0:Int) < 7 by decide)
     have b2:=mod_lt y2 (show (0:Int) < 7 by decide)
     show -1000≤y1 % 7 - 3∧y1 % 7 - 3≤1000∧-1000≤y2 % 7 - 3∧y2 % 7 - 3≤1000
     lia),same_in s5 nft0⟩
   rw [AG]
   refine MvAt.upd (fun m z=>?_) (mv5.snoc et)
   rw [ef5] at z
   cases z
 ·rintro σ H4 ⟨x3,x4,ts,cs,rfl,ef4,mv4,l4,c0,cb,s4⟩
  have tl:ts.length=cs.length:=by rw [mv4.len,AA]
  refine ⟨_,rfl,c,50,rfl,(by decide),(by decide),fun n5 n50 _=>⟨_,rfl,ft,_,rfl,.inl (SqL.of ef4),_,_,rfl,rfl,(by rw [AA]; lia),?_⟩⟩
  refine ⟨_,rfl,_,rfl,_,rfl,ft,_,rfl,SqL.of ef4,fun p1 hp1=>?_⟩
  obtain ⟨a1,b1,e1⟩:=cut_map V.ref ts (some (n5 % ((ts.map V.ref).length:Int))) none
  rw [e1]
  have u1:=same_upd hp1 (.lst (((ts.drop a1).take b1).map V.ref))
  have ef5:=u1 _ _ ef4
  refine ⟨_,rfl,_,rfl,_,rfl,ft,_,rfl,SqL.of ef5,fun p2 hp2=>?_⟩
  obtain ⟨a2,b2,e2⟩:=cut_map V.ref ts none (some (n5 % ((ts.map V.ref).length:Int)))
  rw [e2]
  have u2:=same_upd hp2 (.lst (((ts.drop a2).take b2).map V.ref))
  have ln1:((ts.drop a1).take b1).length≤20:=by rw [A0,List.length_drop]; lia
  have ln2:((ts.drop a2).take b2).length≤20:=by rw [A0,List.length_drop]; lia
  refine ⟨p1,p2,_,_,rfl,rfl,u2 _ _ upd_same,upd_same,(by rw [AA,AA]; exact Ag (show _≤40 by lia) (by decide)),fun p3 hp3=>?_⟩
  have u3:=same_upd hp3 (.lst (((ts.drop a1).take b1).map V.ref++((ts.drop a2).take b2).map V.ref))
  have uu:=u1.trans (u2.trans u3)
  refine ⟨_,rfl,le2,fun ct hct=>?_⟩
  have u4:=same_upd hct (.tup [V.ref p3,.int bite])
  have hp30:H p3=none:=(s4.trans (u1.trans u2)).free hp3
  refine q ct p3 ((cs.drop a1).take b1++(cs.drop a2).take b2) bite _ (s4.trans (uu.trans u4)) hp30 upd_same ⟨(ts.drop a1).take b1++(ts.drop a2).take b2,?_,?_⟩ ?_ (fun s hs=>?_) ⟨bt1,bt2⟩
  ·rw [u4 _ _ upd_same,AG]
  ·have hm:∀ n m,((cs.drop n).take m).map pr=((cs.map pr).drop n).take m:=fun n m=>by rw [List.map_take,List.map_drop]
   rw [AG,hm,hm]
   exact ((mv4.cut a1 b1).same (uu.trans u4)).app ((mv4.cut a2 b2).same (uu.trans u4))
  ·rw [AI,A0,List.length_drop,A0,List.length_drop]
   lia
  ·rcases AY.mp hs with hs | hs
   ·exact cb s (List.mem_of_mem_drop (List.mem_of_mem_take hs))
   ·exact cb s (List.mem_of_mem_drop (List.mem_of_mem_take hs))
end
abbrev sShelf:Stmt:=top 23
abbrev sWild:Stmt:=top 24
theorem at3 {α:Type} (p q r:α) {a:Int} (h0:0≤a) (h2:a < 3):∃ v,(v=p∨v=q∨v=r)∧atI [p,q,r] a=some v:=by
 have:a=0∨a=1∨a=2:=by lia
 rcases this with rfl | rfl | rfl
 ·exact ⟨p,.inl rfl,rfl⟩
 ·exact ⟨q,.inr (.inl rfl),rfl⟩
 ·exact ⟨r,.inr (.inr rfl),rfl⟩
theorem at2 {α:Type} (p q:α) {a:Int} (h0:0≤a) (h2:a < 2):∃ r,(r=p∨r=q)∧atI [p,q] a=some r:=by
 have:a=0∨a=1:=by lia
 rcases this with rfl | rfl
 ·exact ⟨p,.inl rfl,rfl⟩
 ·exact ⟨q,.inr rfl,rfl⟩
def ToolOk (t:Tool):Prop:=t.1.length≤60∧(∀ s∈t.1,-1000≤s.1∧s.1≤1000∧-1000≤s.2∧s.2≤1000)∧1≤t.2∧t.2≤1000
theorem CtsAt.snoc {H:Hp} {c:Addr} {t:Tool} (e:CtAt H c t):∀ {cs:List Addr} {ts:List Tool},CtsAt H cs ts→CtsAt H (cs++[c]) (ts++[t])
 | [],[],_=>⟨e,AS⟩
 | _ :: _,_ :: _,h=>⟨h.1,CtsAt.snoc e h.2⟩
 | [],_ :: _,h=>h.elim
 | _ :: _,[],h=>h.elim
theorem CtAt.upd {H:Hp} {D c:Addr} {t:Tool} {xs:List V} {o:HO} (hD:H D=some (.lst xs)) (nf:∀ ft,H c=some (.tup [.ref ft,.int t.2])→ft≠D) (h:CtAt H c t):CtAt (L2.upd H D o) c t:=by
 obtain ⟨ft,a,ts,b,m⟩:=h
 refine ⟨ft,by rw [upd_ne (fun z=>by rw [z,hD] at a; cases a)]; exact a,ts,by rw [upd_ne (nf ft a)]; exact b,MvAt.upd (fun m z=>by rw [hD] at z; cases z) m⟩
def NoFt (H:Hp) (D:Addr) (cs:List Addr):Prop:=∀ c∈cs,∀ ft v,H c=some (.tup [.ref ft,v])→ft≠D
theorem CtsAt.upd {H:Hp} {D:Addr} {xs:List V} {o:HO} (hD:H D=some (.lst xs)):∀ {cs:List Addr} {ts:List Tool},NoFt H D cs→CtsAt H cs ts→CtsAt (L2.upd H D o) cs ts
 | [],[],_,_=>AS
 | c :: _,_ :: _,n,h=>⟨h.1.upd hD (fun ft e=>n c Ab ft _ e),CtsAt.upd hD (fun x hx=>n x (AR _ hx)) h.2⟩
 | [],_ :: _,_,h=>h.elim
 | _ :: _,[],_,h=>h.elim
theorem CtsAt.mem {H:Hp}:∀ {cs:List Addr} {ts:List Tool},CtsAt H cs ts→∀ c∈cs,∃ t,CtAt H c t
 | [],_,_,_,h=>by cases h
 | c :: cs,t :: _,h,d,hd=>by
  rcases AW.mp hd with rfl | hd
  ·exact ⟨t,h.1⟩
  ·exact CtsAt.mem h.2 d hd
 | _ :: _,[],h,_,_=>h.elim
theorem kh:("k":Str)≠"head":=by decide +kernel
section
variable {P:Program} {w:World} {K:PySem.W.Frag} {mg:Str→Option Value} {base:Heap} {f:Addr} {fd':FuncData}
inductive PspShelf (K:PySem.W.Frag) (vs:List V) (H:Hp) (Q:VK):Prop
 | mk (L:Addr) (ns:List Int) (h0:vs=[.ref L]) (h1:SqL K H L (ns.map V.int)) (h2:∀ (sh:Addr) (ts:List Tool) (H':Hp),Same H H'→ShAt H' sh ts→(∀ t∈ts,ToolOk t)→0 < ts.length→ts.length≤6→Q (.ref sh) H'):PspShelf K vs H Q
def spShelf (K:PySem.W.Frag):Sp:=fun vs H Q _=>PspShelf K vs H Q
theorem scShelf:FnScope ["script","head"] ["script"] (defScope sShelf):=⟨rfl,rfl,rfl,by decide +kernel,rfl,by decide +kernel,by decide +kernel⟩
theorem ok_shelf (T:LawT mg) (hsu:mg "sum"=none) (FS:Fn P w K mg base "_law_stir" 1 ["cell","k"] spStir) (FC:Fn P w K mg base "_law_cutter" 2 ["cell"] spCutr) (F:Fun K "_law_shelf" "_law_shelf" sShelf f fd'):FnOk P w K mg base (CX1 P w) 3 f fd' ["script"] (spShelf K):=by
 have nd:=scShelf.nd
 refine F.ok1 scShelf (fun vs H Q E h=>?_) (fun cdv A outer s H vs Q E hr h=>?_)
 ·obtain ⟨L,ns,rfl,_⟩:=h
  rfl
 obtain ⟨L,ns,rfl,hL,q⟩:=h
 have hr1:Room 1 _:=hr.mono (by decide)
 refine ⟨_,(pss_cons (ps_set (i:=1) nd rfl (Or.inr rfl) (pe_callB (call_sumW rfl) rfl hsu bt_sum (pa_cons (pe_slice (sl_listK (K:=K) rfl) (pv 0) po_none (po_some pe_int)) pa_nil)))
  (pss_one (ps_ret (pe_lc (own:=["k"]) (capn:=["head"]) (capI:=[1]) rfl (blkC (defScope sShelf) rfl rfl (by decide +kernel) rfl (fun y hy=>by rcases AW.mp hy with rfl | hy; exact ⟨rfl,rfl⟩; cases hy)) (pi_range1 rfl T.range (pa_cons (pe_op op_add pe_int (pe_op op_mod (pf_call FS hr1 rfl (pass1 (E:=E)) (pa_cons (pv 1) (pa_cons pe_int pa_nil))) pe_int)) pa_nil)) (fun _ _ _ _ _ _=>pg_name (i:=0) (nd2 kh) rfl (Or.inl rfl)) (fun _ _ _ _ _ _=>pifs_nil) (fun _ _ _ _ _ _=>(pf_call FC hr rfl passN (pa_cons (pe_op op_add (pv 1) (pe_op op_mul pe_int (pv 0))) pa_nil))))))),?_⟩
 refine ⟨_,rfl,_,rfl,L,_,rfl,hL,fun p hp=>?_⟩
 obtain ⟨i1,i2,ecut⟩:=cut_map V.int ns none (some 63)
 rw [ecut]
 generalize (ns.drop i1).take i2=cs
 clear ecut
 have v1:=same_upd hp (.lst (cs.map V.int))
 have hp1:upd H p (.lst (cs.map V.int)) p=some (.lst (cs.map V.int)):=upd_same
 generalize upd H p (.lst (cs.map V.int))=H1 at v1 hp1
 refine ⟨p,cs,rfl,SqL.of hp1,fun hd=>?_⟩
 refine ⟨_,rfl,hd,8,rfl,(by decide),(by decide),fun n1 _ _=>⟨_,_,rfl,rfl,(by show (0:Int) < 6; decide),_,_,rfl,rfl,?_⟩⟩
 obtain ⟨n,hn,hn0,hn6⟩:∃ n:Nat,1 + n1 % 6=(n:Int)∧0 < n∧n≤6:=⟨(1 + n1 % 6).toNat,by lia,by lia,by lia⟩
 refine ⟨_,rfl,(by lia),(by lia),fun D hD=>?_⟩
 rw [hn,Aj]
 refine ⟨Wd n (fun i σ acc G=>Ex3 fun (z:Option V) (cs:List Addr) (ts:List Tool)=>σ=[z,some (.int hd)]∧acc=cs.map V.ref∧CtsAt G cs ts∧NoFt G D cs∧ts.length=i∧(∀ t∈ts,ToolOk t)∧Same H1 G∧G D=some (.lst acc)),wd_0 ⟨none,[],[],rfl,rfl,AS,(fun _ h=>by cases h),rfl,(fun _ h=>by cases h),same_upd hD _,upd_same⟩,?_⟩
 rintro i im σ acc G ⟨rfl,hi0,z,cs,ts,rfl,rfl,ct,nf,tl,tok,sG,hDG⟩
 have csl:=ct.len
 refine rg_ask hi0 (fun hi=>?_) (fun hend=>?_)
 ·refine ⟨_,rfl,_,rfl,_,_,rfl,rfl,.inl ⟨by decide,by decide⟩,_,_,rfl,rfl,_,rfl,fun c ft foot bite G1 s1 nft hct hft fl fb bb=>?_⟩
  have hD1:=s1 _ _ hDG
  have nfD:ft≠D:=fun y=>by rw [y,hDG] at nft; cases nft
  have nf1:NoFt G1 D (cs++[c]):=fun c' hc' ft' v e=>by
   rcases AY.mp hc' with h | h
   ·obtain ⟨t,f2,e2,_⟩:=ct.mem c' h
    rw [s1 _ _ e2] at e
    cases e
    exact nf c' h _ _ e2
   ·rw [AJ.mp h,hct] at e
    cases e
    exact nfD
  refine ⟨hD1,(by rw [AA]; exact line3 (show cs.length≤1000 by lia) (by decide)),wd_next hi ⟨_,cs++[c],ts++[(foot,bite)],rfl,by rw [AG]; rfl,CtsAt.upd hD1 nf1 (CtsAt.snoc ⟨ft,hct,hft⟩ (ct.same s1)),fun c' hc' ft' v e=>?_,by rw [AI,tl]; rfl,fun t ht=>?_,same_in (sG.trans s1) hD,upd_same⟩⟩
  ·by_cases y:c'=D
   ·rw [y,upd_same] at e
    cases e
   ·rw [upd_ne y] at e
    exact nf1 c' hc' ft' v e
  ·rcases AY.mp ht with h | h
   ·exact tok t h
   ·rw [AJ.mp h]
    exact ⟨fl,fb,bb⟩
 ·exact q D ts G (v1.trans sG) ⟨cs,hDG,ct⟩ tok (by lia) (by lia)
inductive PspWild (vs:List V) (H:Hp) (Q:VK):Prop
 | mk (hb sh:Addr) (c:Int) (ts:List Tool) (rows:List (List Int)) (h0:vs=[.int c,.ref hb,.ref sh]) (h1:BdAt H hb rows) (h2:ShAt H sh ts) (h3:Rect rows) (h4:∀ (t:Addr) (m:Mo) (H':Hp),Same H H'→H' t=some (.tup (moV m))→m.ok2→Q (.ref t) H'):PspWild vs H Q
def spWild:Sp:=fun vs H Q _=>PspWild vs H Q
theorem scWild:FnScope ["cell","bed","shelf","axis","many","to","some"] ["cell","bed","shelf"] (defScope sWild):=⟨rfl,rfl,rfl,by decide +kernel,rfl,by decide +kernel,by decide +kernel⟩
theorem ok_wild (T:LawT mg) (FS:Fn P w K mg base "_law_stir" 1 ["cell","k"] spStir) (F:Fun K "_law_wild" "_law_wild" sWild f fd'):FnOk P w K mg base (CX1 P w) 2 f fd' ["cell","bed","shelf"] spWild:=by
 have nd:=scWild.nd
 refine F.ok1 scWild (fun vs H Q E h=>?_) (fun cdv A outer s H vs Q E hr h=>?_)
 ·obtain ⟨hb,sh,c,ts,rows,rfl,_⟩:=h
  rfl
 obtain ⟨hb,sh,c,ts,rows,rfl,⟨rs,hhb,rb⟩,⟨cts,hsh,hcts⟩,rect,q⟩:=h
 have hr1:Room 1 _:=hr.mono (by decide)
 have hu:=hu_of' hr
 refine ⟨_,(pss_cons (ps_set (i:=3) nd rfl (Or.inl rfl) (pe_ix (ix_listK (K:=K) rfl) (pe_lst (pa_cons pe_str (pa_cons pe_str (pa_cons pe_str pa_nil)))) (pe_op op_mod (pf_call FS hr1 rfl (pass1 (E:=E)) (pa_cons (pv 0) (pa_cons pe_int pa_nil))) pe_int) (fun _ _=>rfl)))
  (pss_cons (ps_set (i:=4) nd rfl (Or.inl rfl) (pe_dget hu (pe_disp (pps_cons pe_str (pe_callB (call_lenK (K:=K) rfl) rfl T.len Ao (pa_cons (pe_ix (ix_listK (K:=K) rfl) (pv 1) pe_int (fun _ _=>rfl)) pa_nil)) (pps_cons pe_str (pe_callB (call_lenK (K:=K) rfl) rfl T.len Ao (pa_cons (pv 1) pa_nil)) (pps_cons pe_str pe_int pps_nil))) rfl rfl (by decide) (by decide)) (pv 3) (fun _ _=>rfl)))
  (pss_cons (ps_set (i:=5) nd rfl (Or.inl rfl) (pe_op op_sub (pe_op op_mod (pf_call FS hr1 rfl (pass1 (E:=E)) (pa_cons (pv 0) (pa_cons pe_int pa_nil))) (pe_op op_add (pv 4) pe_int)) (pe_op op_mod (pf_call FS hr1 rfl (pass1 (E:=E)) (pa_cons (pv 0) (pa_cons pe_int pa_nil))) pe_int)))
  (pss_cons (ps_set (i:=6) nd rfl (Or.inl rfl) (pe_lst (pa_cons (pe_tup (pa_cons pe_str (pa_cons (pe_op op_sub (pe_op op_mod (pf_call FS hr1 rfl (pass1 (E:=E)) (pa_cons (pv 0) (pa_cons pe_int pa_nil))) (pe_op op_add (pe_callB (call_lenK (K:=K) rfl) rfl T.len Ao (pa_cons (pv 2) pa_nil)) pe_int)) pe_int) pa_nil))) (pa_cons (pe_tup (pa_cons pe_str (pa_cons (pv 3) (pa_cons (pv 5) pa_nil)))) (pa_cons (pe_tup (pa_cons pe_str (pa_cons (pv 3) (pa_cons (pv 5) pa_nil)))) pa_nil)))))
  (pss_one (ps_ret (pe_ix (ix_listK (K:=K) rfl) (pv 6) (pe_op op_mod (pf_call FS hr1 rfl (pass1 (E:=E)) (pa_cons (pv 0) (pa_cons pe_int pa_nil))) pe_int) (fun _ _=>rfl)))))))),?_⟩
 have h0:rows[0]?=some (rows.headD []):=by
  cases rows with
  | nil=>exact absurd rfl rect.1
  | cons r rr=>rfl
 obtain ⟨a0,ha0,hr0⟩:=rb.at_ h0
 have at0:atI (rs.map V.ref) 0=some (.ref a0):=atI_nat (j:=0) (by rw [AF,ha0]; rfl)
 refine ⟨le3,fun l1 hl1=>⟨_,rfl,c,63,rfl,(by decide),(by decide),fun n1 _ _=>⟨_,_,rfl,rfl,(by show (0:Int) < 3; decide),?_⟩⟩⟩
 obtain ⟨kv,hkv,hat⟩:=at3 (V.str "x") (.str "y") (.str "z") (a:=n1 % 3) (by lia) (by lia)
 obtain ⟨a,rfl,ax⟩:∃ a:Str,kv=.str a∧IsAx a:=by
  rcases hkv with rfl | rfl | rfl
  ·exact ⟨_,rfl,.inl rfl⟩
  ·exact ⟨_,rfl,.inr (.inl rfl)⟩
  ·exact ⟨_,rfl,.inr (.inr rfl)⟩
 refine ⟨l1,_,_,.str a,rfl,rfl,SqL.of upd_same,hat,?_⟩
 have v1:=same_upd hl1 (.lst [V.str "x",.str "y",.str "z"])
 generalize upd H l1 (.lst [V.str "x",.str "y",.str "z"])=G1 at v1
 refine fun p hp=>?_
 have v2:=v1.trans (same_upd hp (.dK []))
 refine ⟨_,rfl,hb,_,0,.ref a0,rfl,rfl,SqL.of (v2 _ _ hhb),at0,a0,_,rfl,.inl (SqL.of (v2 _ _ hr0)),_,rfl,hb,_,rfl,.inl (SqL.of (v2 _ _ hhb)),upd_same,[(Sum.inr "x",.int ((((rows.headD []).map V.int).length:Nat):Int)),(Sum.inr "y",.int (((rs.map V.ref).length:Nat):Int)),(Sum.inr "z",.int 1001)],rfl,(by show 3≤15; decide),?_⟩
 rw [upd_upd]
 obtain ⟨mm,hm,mm0⟩:∃ m:Int,valV (mergeK [] [(Sum.inr "x",.int ((((rows.headD []).map V.int).length:Nat):Int)),(Sum.inr "y",.int (((rs.map V.ref).length:Nat):Int)),(Sum.inr "z",.int 1001)]) (Sum.inr a:Key)=some (.int m)∧0≤m:=by
  rcases ax with rfl | rfl | rfl
  ·exact ⟨_,rfl,Int.natCast_nonneg _⟩
  ·exact ⟨_,rfl,Int.natCast_nonneg _⟩
  ·exact ⟨_,rfl,by decide⟩
 have v3:=v1.trans (same_upd hp (.dK (mergeK [] [(Sum.inr "x",.int ((((rows.headD []).map V.int).length:Nat):Int)),(Sum.inr "y",.int (((rs.map V.ref).length:Nat):Int)),(Sum.inr "z",.int 1001)])))
 refine ⟨_,rfl,p,.int mm,rfl,(by rw [← hm]; exact DGet.k (k:=Sum.inr a) upd_same),?_⟩
 generalize upd G1 p (.dK (mergeK [] [(Sum.inr "x",.int ((((rows.headD []).map V.int).length:Nat):Int)),(Sum.inr "y",.int (((rs.map V.ref).length:Nat):Int)),(Sum.inr "z",.int 1001)]))=G2 at v3
 refine ⟨_,rfl,c,64,rfl,(by decide),(by decide),fun n2 _ _=>⟨_,rfl,_,_,rfl,rfl,_,_,rfl,rfl,(by lia),_,rfl,c,65,rfl,(by decide),(by decide),fun n3 _ _=>⟨_,_,rfl,rfl,(by show (0:Int) < 2; decide),_,_,rfl,rfl,?_⟩⟩⟩
 refine ⟨_,rfl,c,61,rfl,(by decide),(by decide),fun n4 _ _=>⟨_,rfl,sh,_,rfl,.inl (SqL.of (v3 _ _ hsh)),_,_,rfl,rfl,_,_,rfl,rfl,(by lia),_,_,rfl,rfl,le2,fun t1 h1=>⟨_,rfl,_,rfl,le3,fun t2 h2=>⟨_,rfl,_,rfl,le3,fun t3 h3=>⟨le3,fun l2 hl2=>?_⟩⟩⟩⟩⟩
 generalize n2 % (mm + 1) - n3 % 2=to at h1 h2 h3 hl2
 generalize n4 % (((cts.map V.ref).length:Nat) + 2:Int) - 1=k at h1 h2 h3 hl2
 have w1:=same_upd h1 (.tup [V.str "hold",.int k])
 have w2:=same_upd h2 (.tup [V.str "fast",.str a,.int to])
 have w3:=same_upd h3 (.tup [V.str "slow",.str a,.int to])
 have w4:=same_upd hl2 (.lst [V.ref t1,.ref t2,.ref t3])
 have w34:=w3.trans w4
 have w24:=w2.trans w34
 refine ⟨_,rfl,_,rfl,c,66,rfl,(by decide),(by decide),fun n5 _ _=>⟨_,_,rfl,rfl,(by show (0:Int) < 3; decide),?_⟩⟩
 obtain ⟨tv,htv,hatt⟩:=at3 (V.ref t1) (.ref t2) (.ref t3) (a:=n5 % 3) (by lia) (by lia)
 refine ⟨l2,_,_,tv,rfl,rfl,SqL.of upd_same,hatt,?_⟩
 rcases htv with rfl | rfl | rfl
 ·exact q t1 (.hold k) _ (v3.trans (w1.trans w24)) (w24 _ _ upd_same) AS
 ·exact q t2 (.go "fast" a to) _ (v3.trans (w1.trans w24)) (w34 _ _ upd_same) ⟨.inl rfl,ax⟩
 ·exact q t3 (.go "slow" a to) _ (v3.trans (w1.trans w24)) (w4 _ _ upd_same) ⟨.inr rfl,ax⟩
end
abbrev sMoves:Stmt:=top 25
structure MoIn (H G:Hp) (ml:Addr) (n:Nat):Prop where
 sm:Same H G
 nml:H ml=none
 ex:∃ (ts:List Addr) (ms:List Mo),G ml=some (.lst (ts.map V.ref))∧MvAt G ts (ms.map moV)∧Oks n ms
theorem MoIn.same {H G G':Hp} {ml:Addr} {n:Nat} (h:MoIn H G ml n) (s:Same G G'):MoIn H G' ml n:=by
 obtain ⟨ts,ms,a,b,c⟩:=h.ex
 exact ⟨h.sm.trans s,h.nml,ts,ms,s _ _ a,b.same s,c⟩
theorem MoIn.le {H G:Hp} {ml:Addr} {n k:Nat} (h:MoIn H G ml n) (l:n≤k):MoIn H G ml k:=by
 obtain ⟨ts,ms,a,b,c⟩:=h.ex
 exact ⟨h.sm,h.nml,ts,ms,a,b,c.le l⟩
theorem MoIn.add {H G:Hp} {ml:Addr} {n:Nat} (h:MoIn H G ml n) (n1:n≤1000):∃ xs,G ml=some (.lst xs)∧xs.length < AL∧∀ (G':Hp) (t:Addr) (m:Mo),Same G G'→G' t=some (.tup (moV m))→m.ok2→G' ml=some (.lst xs)∧MoIn H (upd G' ml (.lst (xs++[.ref t]))) ml (n + 1):=by
 obtain ⟨ts,ms,a,b,c⟩:=h.ex
 have tl:=MlAt.len b
 have cl:=c.2
 refine ⟨_,a,by rw [AA]; exact line3 (show ts.length≤1000 by lia) (by decide),fun G' t m s e o=>⟨s _ _ a,same_in (h.sm.trans s) h.nml,h.nml,ts++[t],ms++[m],by rw [upd_same,AG]; rfl,?_,c.app (Oks.one o)⟩⟩
 rw [AG]
 refine MvAt.upd (fun m z=>?_) ((b.same s).snoc e)
 rw [s _ _ a] at z
 cases z
section
variable {P:Program} {w:World} {K:PySem.W.Frag} {mg:Str→Option Value} {base:Heap} {f:Addr} {fd':FuncData}
theorem most_at (k:Bool):∃ mo:Int,atI [V.int 63,.int 5] (if k=true then 1 else 0)=some (.int mo):=by
 cases k
 ·exact ⟨63,rfl⟩
 ·exact ⟨5,rfl⟩
theorem rep1 {t1:Addr} (k:Bool):∃ (us:List Addr) (um:List Mo),(A3 (if k=true then (1:Int) else 0).toNat [V.ref t1]).flatten=us.map V.ref∧Oks 1 um∧(-(2 ^ 63)≤(if k=true then (1:Int) else 0)∧(if k=true then (1:Int) else 0) < 2 ^ 63∧[V.ref t1].length * (if k=true then (1:Int) else 0).toNat≤AL)∧∀ G:Hp,G t1=some (.tup (moV (.go "fast" "z" 1000)))→MvAt G us (um.map moV):=by
 cases k
 ·exact ⟨[],[],rfl,⟨fun _ h=>(by cases h),by decide⟩,⟨by decide,by decide,Ai _⟩,fun _ _=>AS⟩
 ·exact ⟨[t1],[.go "fast" "z" 1000],rfl,Oks.one ⟨.inl rfl,.inr (.inr rfl)⟩,⟨by decide,by decide,le1⟩,fun _ e=>⟨e,AS⟩⟩
theorem mv_at {n:Int} (k:Bool) (h0:0≤n) (h3:n < 3):∃ kd:Str,(kd="fast"∨kd="slow")∧atI [V.str "slow",.str "slow",.str "fast"] (n * (if k=true then 1 else 0))=some (.str kd):=by
 have:n=0∨n=1∨n=2:=by lia
 rcases this with rfl | rfl | rfl <;> cases k
 ·exact ⟨_,.inr rfl,rfl⟩
 ·exact ⟨_,.inr rfl,rfl⟩
 ·exact ⟨_,.inr rfl,rfl⟩
 ·exact ⟨_,.inr rfl,rfl⟩
 ·exact ⟨_,.inr rfl,rfl⟩
 ·exact ⟨_,.inl rfl,rfl⟩
theorem or_body2 {c B R X:Prop} [Decidable c] (hB:B) (hX:¬ c→B→X):if decide c=true then (if true=true then B else R) else X:=by
 by_cases h:c
 ·exact iteTd h (iteT hB)
 ·exact iteFd h (hX h hB)
inductive PspMoves (K:PySem.W.Frag) (vs:List V) (H:Hp) (Q:VK):Prop
 | mk (L b sh:Addr) (ns:List Int) (bed:List (List Int)) (ts:List Tool) (h0:vs=[.ref L,.ref b,.ref sh]) (h1:SqL K H L (ns.map V.int)) (h1b:ns.length≤63) (h2:BdAt H b bed) (h3:Rect bed) (h4:ins bed (0,0)=true) (h5:ShAt H sh ts) (h6:∀ t∈ts,ToolOk t) (h7:0 < ts.length) (h8:ts.length≤6) (h9:∀ (ml:Addr) (ms:List Mo) (H':Hp),Same H H'→MlAt H' ml ms→Oks 400 ms→Q (.ref ml) H'):PspMoves K vs H Q
def spMoves (K:PySem.W.Frag):Sp:=fun vs H Q _=>PspMoves K vs H Q
theorem scMoves:FnScope ["script","bed","shelf","moves","held","z","most","cell","axis","bite","to"] ["script","bed","shelf"] (defScope sMoves):=⟨rfl,rfl,rfl,by decide +kernel,rfl,by decide +kernel,by decide +kernel⟩
theorem ok_moves (T:LawT mg) (FS:Fn P w K mg base "_law_stir" 1 ["cell","k"] spStir) (FW:Fn P w K mg base "_law_wild" 2 ["cell","bed","shelf"] spWild) (F:Fun K "_law_moves" "_law_moves" sMoves f fd'):FnOk P w K mg base (CX1 P w) 3 f fd' ["script","bed","shelf"] (spMoves K):=by
 have nd:=scMoves.nd
 refine F.ok1 scMoves (fun vs H Q E h=>?_) (fun cdv A outer s H vs Q E hr h=>?_)
 ·obtain ⟨L,b,sh,ns,bed,ts,rfl,_⟩:=h
  rfl
 obtain ⟨L,b,sh,ns,bed,ts,rfl,hL,n63,hB,rect,inb,hS,tok,tl0,tl6,q⟩:=h
 have hr1:Room 1 _:=hr.mono (by decide)
 have hu:=hu_of' hr
 refine ⟨_,(pss_cons (ps_set (i:=3) nd rfl (Or.inl rfl) (pe_lst pa_nil))
  (pss_cons (ps_set (i:=4) nd rfl (Or.inl rfl) (pe_un un_neg pe_int))
  (pss_cons (ps_set (i:=5) nd rfl (Or.inl rfl) pe_int)
  (pss_cons (ps_set (i:=6) nd rfl (Or.inl rfl) (pe_ix (ix_listK (K:=K) rfl) (pe_lst (pa_cons pe_int (pa_cons pe_int pa_nil))) (pe_callTy call_int1 rfl T.int bt_int (pa_cons (pe_cmpR op_gt (pe_callB (call_lenK (K:=K) rfl) rfl T.len Ao (pa_cons (pe_ix (ix_listK (K:=K) rfl) (pv 1) pe_int (fun _ _=>rfl)) pa_nil)) pe_int (nomark _)) pa_nil)) (fun _ _=>rfl)))
  (pss_cons (ps_for own1 rfl (pi_listK (K:=K) rfl (pe_slice (sl_listK (K:=K) rfl) (pv 0) po_none (po_some (pv 6)))) (pg_name (i:=7) nd rfl (Or.inl rfl)) (pss_mid (ps_if (pt_cmpR op_eq (pe_op op_mod (pf_call FS hr1 rfl (pass1 (E:=E)) (pa_cons (pv 7) (pa_cons pe_int pa_nil))) pe_int) pe_int (nomark _)) (pss_one (ps_expr (pe_bm Aq At Au mt_append (pv 3) (pa_cons (pf_call FW hr rfl (pass1 (E:=E)) (pa_cons (pv 7) (pa_cons (pv 1) (pa_cons (pv 2) pa_nil)))) pa_nil)))) pss_nil)
  (pss_mid (ps_if (PW.pt (pw_or (pt_cmpR op_lt (pv 4) pe_int (nomark _)) (pw_or1 (pt_cmpR op_eq (pe_op op_mod (pf_call FS hr1 rfl (pass1 (E:=E)) (pa_cons (pv 7) (pa_cons pe_int pa_nil))) pe_int) pe_int (nomark _))))) (pss_cons (ps_set (i:=3) nd rfl (Or.inl rfl) (pe_op op_cat (pv 3) (pe_op op_rep (pe_lst (pa_cons (pe_tup (pa_cons pe_str (pa_cons pe_str (pa_cons pe_int pa_nil)))) pa_nil)) (pe_callTy call_int1 rfl T.int bt_int (pa_cons (pe_cmpR op_lt (pv 5) pe_int (nomark _)) pa_nil)))))
  (pss_cons (ps_set (i:=5) nd rfl (Or.inl rfl) pe_int)
  (pss_cons (ps_set (i:=4) nd rfl (Or.inl rfl) (pe_op op_mod (pf_call FS hr1 rfl (pass1 (E:=E)) (pa_cons (pv 7) (pa_cons pe_int pa_nil))) (pe_callB (call_lenK (K:=K) rfl) rfl T.len Ao (pa_cons (pv 2) pa_nil))))
  (pss_one (ps_expr (pe_bm Aq At Au mt_append (pv 3) (pa_cons (pe_tup (pa_cons pe_str (pa_cons (pv 4) pa_nil))) pa_nil))))))) pss_nil)
  (pss_cons (ps_set (i:=8) nd rfl (Or.inl rfl) (pe_ix (ix_listK (K:=K) rfl) (pe_lst (pa_cons pe_str (pa_cons pe_str (pa_cons pe_str (pa_cons pe_str pa_nil))))) (pe_op op_mod (pf_call FS hr1 rfl (pass1 (E:=E)) (pa_cons (pv 7) (pa_cons pe_int pa_nil))) pe_int) (fun _ _=>rfl)))
  (pss_cons (ps_set (i:=9) nd rfl (Or.inl rfl) (pe_ix (ix_tupK (K:=K) rfl) (pe_ix (ix_listK (K:=K) rfl) (pv 2) (pv 4) (fun _ _=>rfl)) pe_int (fun _ _=>rfl)))
  (pss_one (ps_if (pt_cmpR op_eq (pv 8) pe_str (nomark _)) (pss_cons (ps_set (i:=5) nd rfl (Or.inl rfl) (pe_callB (call_max2 rfl) rfl T.max bt_max (pa_cons pe_int (pa_cons (pe_op op_sub (pv 5) (pe_op op_mod (pf_call FS hr1 rfl (pass1 (E:=E)) (pa_cons (pv 7) (pa_cons pe_int pa_nil))) (pe_op op_add (pv 9) pe_int))) pa_nil))))
  (pss_one (ps_expr (pe_bm Aq At Au mt_append (pv 3) (pa_cons (pe_tup (pa_cons pe_str (pa_cons pe_str (pa_cons (pv 5) pa_nil)))) pa_nil))))) (pss_mid (ps_if (pt_cmpR op_lt (pe_op op_add (pv 5) (pv 9)) pe_int (nomark _)) (pss_cons (ps_expr (pe_bm Aq At Au mt_append (pv 3) (pa_cons (pe_tup (pa_cons (pe_ix (ix_listK (K:=K) rfl) (pe_lst (pa_cons pe_str (pa_cons pe_str pa_nil))) (pe_op op_mod (pf_call FS hr1 rfl (pass1 (E:=E)) (pa_cons (pv 7) (pa_cons pe_int pa_nil))) pe_int) (fun _ _=>rfl)) (pa_cons pe_str (pa_cons pe_int pa_nil)))) pa_nil)))
  (pss_one (ps_set (i:=5) nd rfl (Or.inl rfl) pe_int))) pss_nil)
  (pss_cons (ps_set (i:=10) nd rfl (Or.inl rfl) (pe_op op_mod (pf_call FS hr1 rfl (pass1 (E:=E)) (pa_cons (pv 7) (pa_cons pe_int pa_nil))) (pe_dget hu (pe_disp (pps_cons pe_str (pe_callB (call_lenK (K:=K) rfl) rfl T.len Ao (pa_cons (pe_ix (ix_listK (K:=K) rfl) (pv 1) pe_int (fun _ _=>rfl)) pa_nil)) (pps_cons pe_str (pe_callB (call_lenK (K:=K) rfl) rfl T.len Ao (pa_cons (pv 1) pa_nil)) pps_nil)) rfl rfl (by decide) (by decide)) (pv 8) (fun _ _=>rfl))))
  (pss_one (ps_expr (pe_bm Aq At Au mt_append (pv 3) (pa_cons (pe_tup (pa_cons (pe_ix (ix_listK (K:=K) rfl) (pe_lst (pa_cons pe_str (pa_cons pe_str (pa_cons pe_str pa_nil)))) (pe_op op_mul (pe_op op_mod (pf_call FS hr1 rfl (pass1 (E:=E)) (pa_cons (pv 7) (pa_cons pe_int pa_nil))) pe_int) (pe_callTy call_int1 rfl T.int bt_int (pa_cons (pe_cmpR op_eq (pv 5) pe_int (nomark _)) pa_nil))) (fun _ _=>rfl)) (pa_cons (pv 8) (pa_cons (pv 10) pa_nil)))) pa_nil)))))))))))))
  (pss_one (ps_ret (pv 3)))))))),?_⟩
 obtain ⟨bs,hb,rb⟩:=id hB
 obtain ⟨cts,hsh,hcts⟩:=id hS
 have ctl:=hcts.len
 have bsl:=rb.len
 obtain ⟨_,bl0,_,wd0⟩:(0:Int)≤0∧(0:Int) < bed.length∧(0:Int)≤0∧(0:Int) < (bed.headD []).length:=of_decide_eq_true inb
 have h0:bed[0]?=some (bed.headD []):=by
  cases bed with
  | nil=>exact absurd rfl rect.1
  | cons r rr=>rfl
 obtain ⟨a0,ha0,hr0⟩:=rb.at_ h0
 have at0:atI (bs.map V.ref) 0=some (.ref a0):=atI_nat (j:=0) (by rw [AF,ha0]; rfl)
 refine ⟨Ai _,fun m0 hm0=>⟨1,rfl,le2,fun l1 hl1=>?_⟩⟩
 have u0:=same_upd hm0 (.lst [])
 have u1:=same_upd hl1 (.lst [V.int 63,.int 5])
 have u01:=u0.trans u1
 have hm1:=u1 _ _ (show upd H m0 (.lst []) m0=some (.lst []) from upd_same)
 have hl11:upd (upd H m0 (.lst [])) l1 (.lst [V.int 63,.int 5]) l1=some (.lst [V.int 63,.int 5]):=upd_same
 generalize upd (upd H m0 (.lst [])) l1 (.lst [V.int 63,.int 5])=H1 at u01 hm1 hl11
 clear u0 u1 hl1
 refine ⟨_,rfl,b,_,0,.ref a0,rfl,rfl,SqL.of (u01 _ _ hb),at0,a0,_,rfl,.inl (SqL.of (u01 _ _ hr0)),_,_,rfl,rfl,.inr ⟨_,rfl,?_⟩⟩
 obtain ⟨mo,hmo⟩:=most_at (decide ((((bed.headD []).map V.int).length:Int) > 6))
 refine ⟨l1,_,_,.int mo,rfl,rfl,SqL.of hl11,hmo,?_⟩
 refine ⟨_,rfl,_,rfl,_,rfl,L,_,rfl,u01.seq hL,fun p hp=>?_⟩
 obtain ⟨i1,i2,ecut⟩:=cut_map V.int ns none (some mo)
 rw [ecut]
 have cl:((ns.drop i1).take i2).length≤63:=by rw [A0,List.length_drop]; lia
 generalize (ns.drop i1).take i2=cells at cl
 clear ecut hmo
 have v1:=same_upd hp (.lst (cells.map V.int))
 refine ⟨p,rfl,⟨_,SqL.of upd_same⟩,?_⟩
 have hp0:H p=none:=u01.free hp
 have pm:p≠m0:=fun z=>by rw [z,hm1] at hp; cases hp
 have hbs:Same H (upd H p (.lst (cells.map V.int))):=same_upd hp0 _
 have hbp:upd H p (.lst (cells.map V.int)) p=some (.lst (cells.map V.int)):=upd_same
 have M0:MoIn (upd H p (.lst (cells.map V.int))) (upd H1 p (.lst (cells.map V.int))) m0 0:=by
  refine ⟨fun y o e=>?_,by rw [upd_ne (Ne.symm pm)]; exact hm0,[],[],v1 _ _ hm1,AS,Oks.nil⟩
  by_cases z:y=p
  ·rw [z,upd_same] at e ⊢
   exact e
  ·rw [upd_ne z] at e ⊢
   exact u01 _ _ e
 generalize upd H1 p (.lst (cells.map V.int))=H2 at M0
 have hBb:=hB.same hbs
 have hSb:=hS.same hbs
 have hbb:=hbs _ _ hb
 have hr0b:=hbs _ _ hr0
 have hshb:=hbs _ _ hsh
 have hctb:=hcts.same hbs
 generalize upd H p (.lst (cells.map V.int))=Hb at hbs hbp M0 hBb hSb hbb hr0b hshb hctb
 clear v1 u01 hm1 hl11 hp hm0 pm hp0
 refine for_list (K:=K) (xs:=cells.map V.int) (fun i σ G=>Ex7 fun (ml:Addr) (held z:Int) (x7 x8 x9 x10:Option V)=>σ=[some (.ref L),some (.ref b),some (.ref sh),some (.ref ml),some (.int held),some (.int z),some (.int mo),x7,x8,x9,x10]∧MoIn Hb G ml (5 * i)∧held < ts.length)
  ⟨m0,-1,1000,none,none,none,none,rfl,M0,(by lia)⟩ ?_ ?_ ?_
 ·rintro i σ G _ ⟨ml,held,z,x7,x8,x9,x10,rfl,M,_⟩
  exact SqL.of (M.sm _ _ hbp)
 ·rintro i v σ G hv ⟨ml,held,z,x7,x8,x9,x10,rfl,M,hh⟩
  have hi:i < cells.length:=by have:=(AE.mp hv).1; rw [AA] at this; exact this
  obtain ⟨c,rfl⟩:∃ c:Int,v=.int c:=by
   rw [AF] at hv
   cases h:cells[i]? with
   | none=>rw [h] at hv; cases hv
   | some c=>rw [h] at hv; cases hv; exact ⟨c,rfl⟩
  refine ⟨fun σ G'=>σ=[some (.ref L),some (.ref b),some (.ref sh),some (.ref ml),some (.int held),some (.int z),some (.int mo),some (.int c),x8,x9,x10]∧MoIn Hb G' ml (5 * i + 1),?_,?_⟩
  ·refine ⟨_,rfl,c,59,rfl,(by decide),(by decide),fun n1 _ _=>⟨_,_,rfl,rfl,(by show (0:Int) < 24; decide),rfl,_,rfl,ite2 (fun _=>?_) (fun _=>⟨rfl,M.le (by lia)⟩)⟩⟩
   obtain ⟨xs,hx,hxl,add⟩:=M.add (by lia)
   refine ⟨_,rfl,.inl ⟨rfl,_,SqL.of hx⟩,_,rfl,_,rfl,_,rfl,b,sh,c,ts,bed,rfl,hBb.same M.sm,hSb.same M.sm,rect,fun t m G' s' ht ok=>?_⟩
   obtain ⟨hx',M'⟩:=add G' t m s' ht ok
   exact ⟨ml,_,.ref t,rfl,rfl,hx',hxl,rfl,M'⟩
  rintro σ G1 ⟨rfl,M1⟩
  clear M
  refine ⟨fun σ G'=>Ex3 fun (ml':Addr) (held' z':Int)=>σ=[some (.ref L),some (.ref b),some (.ref sh),some (.ref ml'),some (.int held'),some (.int z'),some (.int mo),some (.int c),x8,x9,x10]∧MoIn Hb G' ml' (5 * i + 3)∧0≤held'∧held' < ts.length,?_,?_⟩
  ·refine ⟨_,rfl,_,_,rfl,rfl,_,rfl,?_⟩
   refine or_body2 ?_ (fun hneg hB=>?_)
   ·obtain ⟨us0,ms0,ha,mv0,ok0⟩:=M1.ex
    refine ⟨_,rfl,le3,fun t1 h1=>⟨le1,fun l2 hl2=>?_⟩⟩
    have w1:=same_upd h1 (.tup [V.str "fast",.str "z",.int 1000])
    have w2:=same_upd hl2 (.lst [V.ref t1])
    refine ⟨_,rfl,_,_,rfl,rfl,.inr ⟨_,rfl,?_⟩⟩
    obtain ⟨us,um,er,oku,kl,mvu⟩:=rep1 (t1:=t1) (decide (z < 1000))
    refine ⟨l2,_,_,rfl,rfl,upd_same,kl.1,kl.2.1,kl.2.2,fun p2 hp2=>?_⟩
    rw [er]
    have w3:=same_upd hp2 (.lst (us.map V.ref))
    have w13:=w1.trans (w2.trans w3)
    have l0:=MlAt.len mv0
    have b0:=ok0.2
    have bu:=oku.2
    have lu:=MlAt.len (mvu _ ((w2.trans w3) _ _ upd_same))
    refine ⟨ml,p2,_,_,rfl,rfl,w13 _ _ ha,upd_same,(by rw [AA,AA]; exact Ag (show us0.length + us.length≤1000 by lia) (by decide)),fun p3 hp3=>?_⟩
    have w4:=same_upd hp3 (.lst (us0.map V.ref++us.map V.ref))
    have w14:=w13.trans w4
    have M2:MoIn Hb (upd (upd (upd (upd G1 t1 (.tup [V.str "fast",.str "z",.int 1000])) l2 (.lst [V.ref t1])) p2 (.lst (us.map V.ref))) p3 (.lst (us0.map V.ref++us.map V.ref))) p3 (5 * i + 2):=by
     refine ⟨M1.sm.trans w14,(M1.sm.trans w13).free hp3,us0++us,ms0++um,by rw [upd_same,AG],?_,ok0.app oku⟩
     rw [AG]
     exact (mv0.same w14).app (mvu _ ((w2.trans (w3.trans w4)) _ _ upd_same))
    generalize upd (upd (upd (upd G1 t1 (.tup [V.str "fast",.str "z",.int 1000])) l2 (.lst [V.ref t1])) p2 (.lst (us.map V.ref))) p3 (.lst (us0.map V.ref++us.map V.ref))=G2 at M2
    clear w1 w2 w3 w13 w4 w14
    have ctp:(0:Int) < (((cts.map V.ref).length:Nat):Int):=by rw [AA]; lia
    refine ⟨_,rfl,c,61,rfl,(by decide),(by decide),fun n2 _ _=>⟨_,rfl,sh,_,rfl,.inl (SqL.of (M2.sm _ _ hshb)),_,_,rfl,rfl,ctp,?_⟩⟩
    have hm:=mod_lt n2 ctp
    generalize hq:n2 % (((cts.map V.ref).length:Nat):Int)=hd at hm
    rw [AA] at hm
    obtain ⟨xs,hx,hxl,add⟩:=M2.add (by lia)
    refine ⟨_,rfl,.inl ⟨rfl,_,SqL.of hx⟩,_,rfl,le2,fun t ht=>?_⟩
    obtain ⟨hx',M'⟩:=add _ t (.hold hd) (same_upd ht (.tup [V.str "hold",.int hd])) upd_same AS
    exact ⟨p3,_,.ref t,rfl,rfl,hx',hxl,p3,hd,1000,rfl,M',hm.1,by lia⟩
   ·refine ⟨_,rfl,c,60,rfl,(by decide),(by decide),fun n2 _ _=>⟨_,_,rfl,rfl,(by show (0:Int) < 8; decide),rfl,_,rfl,ite2 (fun _=>hB) (fun _=>⟨ml,held,z,rfl,M1.le (by lia),by lia,hh⟩)⟩⟩
  clear M1 hh
  rintro σ G2 ⟨ml,held,z,rfl,M2,hh0,hh1⟩
  refine ⟨le4,fun l1 hl1=>⟨_,rfl,c,63,rfl,(by decide),(by decide),fun n1 _ _=>⟨_,_,rfl,rfl,(by show (0:Int) < 4; decide),?_⟩⟩⟩
  obtain ⟨kv,hkv,hat⟩:=at4 (V.str "x") (.str "y") (.str "z") (.str "z") (a:=n1 % 4) (by lia) (by lia)
  obtain ⟨a,rfl,ax⟩:∃ a:Str,kv=.str a∧IsAx a:=by
   rcases hkv with rfl | rfl | rfl | rfl
   ·exact ⟨_,rfl,.inl rfl⟩
   ·exact ⟨_,rfl,.inr (.inl rfl)⟩
   ·exact ⟨_,rfl,.inr (.inr rfl)⟩
   ·exact ⟨_,rfl,.inr (.inr rfl)⟩
  refine ⟨l1,_,_,.str a,rfl,rfl,SqL.of upd_same,hat,?_⟩
  have M3:=M2.same (same_upd hl1 (.lst [V.str "x",.str "y",.str "z",.str "z"]))
  generalize upd G2 l1 (.lst [V.str "x",.str "y",.str "z",.str "z"])=G3 at M3
  clear M2 hl1 hat hkv
  have hcl:held.toNat < cts.length:=by lia
  have ec:=AB hcl
  obtain ⟨t0,et0,ft,hct,_⟩:=hctb.at_ ec
  have bt:=tok t0 (A5 et0)
  generalize cts[held.toNat]=ct at ec hct
  have hatc:atI (cts.map V.ref) held=some (.ref ct):=by
   have:=atI_nat (xs:=cts.map V.ref) (j:=held.toNat) (v:=.ref ct) (by rw [AF,ec]; rfl)
   rwa [show ((held.toNat:Nat):Int)=held by lia] at this
  refine ⟨_,rfl,_,rfl,sh,_,_,.ref ct,rfl,rfl,SqL.of (M3.sm _ _ hshb),hatc,ct,_,1,.int t0.2,rfl,rfl,SqT.of (M3.sm _ _ hct),rfl,?_⟩
  have bt1:=bt.2.2.1
  generalize t0.2=bite at bt1
  clear bt hct et0 ec hatc
  refine ⟨_,rfl,rfl,_,rfl,ite2 (fun _=>?_) (fun hz=>?_)⟩
  ·refine ⟨_,rfl,_,rfl,c,64,rfl,(by decide),(by decide),fun n2 _ _=>⟨_,rfl,_,_,rfl,rfl,_,_,rfl,rfl,(by lia),_,_,rfl,rfl,_,_,rfl,?_⟩⟩
   generalize (if z - n2 % (bite + 1) > 0 then z - n2 % (bite + 1) else 0)=z'
   obtain ⟨xs,hx,hxl,add⟩:=M3.add (by lia)
   refine ⟨_,rfl,.inl ⟨rfl,_,SqL.of hx⟩,_,rfl,le3,fun t ht=>?_⟩
   obtain ⟨hx',M'⟩:=add _ t (.go "slow" "z" z') (same_upd ht (.tup [V.str "slow",.str "z",.int z'])) upd_same ⟨.inr rfl,.inr (.inr rfl)⟩
   exact ⟨ml,_,.ref t,rfl,rfl,hx',hxl,ml,held,z',_,_,_,_,rfl,M'.le (by lia),hh1⟩
  ·have az:a≠"z":=fun e=>hz (by rw [e]; exact decide_eq_true rfl)
   refine ⟨fun σ G'=>Ex2 fun (z':Int) (x':Option V)=>σ=[some (.ref L),some (.ref b),some (.ref sh),some (.ref ml),some (.int held),some (.int z'),some (.int mo),some (.int c),some (.str a),some (.int bite),x']∧MoIn Hb G' ml (5 * i + 4),?_,?_⟩
   ·refine ⟨_,rfl,_,rfl,_,_,rfl,rfl,_,_,rfl,rfl,_,rfl,ite2 (fun _=>?_) (fun _=>⟨z,_,rfl,M3.le (by lia)⟩)⟩
    obtain ⟨xs,hx,hxl,add⟩:=M3.add (by lia)
    refine ⟨_,rfl,.inl ⟨rfl,_,SqL.of hx⟩,le2,fun l hl=>⟨_,rfl,c,65,rfl,(by decide),(by decide),fun n2 _ _=>⟨_,_,rfl,rfl,(by show (0:Int) < 2; decide),?_⟩⟩⟩
    obtain ⟨kv,hkv,hat⟩:=at2 (V.str "fast") (.str "slow") (a:=n2 % 2) (by lia) (by lia)
    obtain ⟨kd,rfl,hkd⟩:∃ kd:Str,kv=.str kd∧(kd="fast"∨kd="slow"):=by
     rcases hkv with rfl | rfl
     ·exact ⟨_,rfl,.inl rfl⟩
     ·exact ⟨_,rfl,.inr rfl⟩
    refine ⟨l,_,_,.str kd,rfl,rfl,SqL.of upd_same,hat,le3,fun t ht=>?_⟩
    have w1:=same_upd hl (.lst [V.str "fast",.str "slow"])
    obtain ⟨hx',M'⟩:=add _ t (.go kd "z" 1000) (w1.trans (same_upd ht (.tup [V.str kd,.str "z",.int 1000]))) upd_same ⟨hkd,.inr (.inr rfl)⟩
    exact ⟨ml,_,.ref t,rfl,rfl,hx',hxl,1000,_,rfl,M'⟩
   rintro σ G4 ⟨z4,x',rfl,M4⟩
   clear M3
   refine ⟨_,rfl,c,64,rfl,(by decide),(by decide),fun n2 _ _=>fun p4 hp4=>?_⟩
   have v2:=M4.sm.trans (same_upd hp4 (.dK []))
   refine ⟨_,rfl,b,_,0,.ref a0,rfl,rfl,SqL.of (v2 _ _ hbb),at0,a0,_,rfl,.inl (SqL.of (v2 _ _ hr0b)),_,rfl,b,_,rfl,.inl (SqL.of (v2 _ _ hbb)),upd_same,[(Sum.inr "x",.int ((((bed.headD []).map V.int).length:Nat):Int)),(Sum.inr "y",.int (((bs.map V.ref).length:Nat):Int))],rfl,(by show 2≤15; decide),?_⟩
   rw [upd_upd]
   obtain ⟨mm,hm,mm0⟩:∃ m:Int,valV (mergeK [] [(Sum.inr "x",.int ((((bed.headD []).map V.int).length:Nat):Int)),(Sum.inr "y",.int (((bs.map V.ref).length:Nat):Int))]) (Sum.inr a:Key)=some (.int m)∧0 < m:=by
    rcases ax with rfl | rfl | rfl
    ·exact ⟨_,rfl,by rw [AA]; exact wd0⟩
    ·exact ⟨_,rfl,by rw [AA,bsl]; exact bl0⟩
    ·exact absurd rfl az
   have M5:=M4.same (same_upd hp4 (.dK (mergeK [] [(Sum.inr "x",.int ((((bed.headD []).map V.int).length:Nat):Int)),(Sum.inr "y",.int (((bs.map V.ref).length:Nat):Int))])))
   refine ⟨_,rfl,p4,.int mm,rfl,(by rw [← hm]; exact DGet.k (k:=Sum.inr a) upd_same),_,_,rfl,rfl,mm0,?_⟩
   generalize upd G4 p4 (.dK (mergeK [] [(Sum.inr "x",.int ((((bed.headD []).map V.int).length:Nat):Int)),(Sum.inr "y",.int (((bs.map V.ref).length:Nat):Int))]))=G5 at M5
   clear v2 hp4 M4
   generalize n2 % mm=to
   obtain ⟨xs,hx,hxl,add⟩:=M5.add (by lia)
   refine ⟨_,rfl,.inl ⟨rfl,_,SqL.of hx⟩,le3,fun l hl=>⟨_,rfl,c,66,rfl,(by decide),(by decide),fun n3 _ _=>⟨_,_,rfl,rfl,(by show (0:Int) < 3; decide),_,rfl,rfl,.inr ⟨_,rfl,_,_,rfl,rfl,.inl ⟨by lia,by lia⟩,?_⟩⟩⟩⟩
   obtain ⟨kd,hkd,hat⟩:=mv_at (decide (V.int z4=V.int 1000)) (show 0≤n3 % 3 by lia) (show n3 % 3 < 3 by lia)
   refine ⟨l,_,_,.str kd,rfl,rfl,SqL.of upd_same,hat,_,rfl,_,rfl,le3,fun t ht=>?_⟩
   have w1:=same_upd hl (.lst [V.str "slow",.str "slow",.str "fast"])
   obtain ⟨hx',M'⟩:=add _ t (.go kd a to) (w1.trans (same_upd ht (.tup [V.str kd,.str a,.int to]))) upd_same ⟨hkd,ax⟩
   exact ⟨ml,_,.ref t,rfl,rfl,hx',hxl,ml,held,z4,_,_,_,_,rfl,M',hh1⟩
 ·rintro σ G ⟨ml,held,z,x7,x8,x9,x10,rfl,M,_⟩
  obtain ⟨us,ms,a,b,c⟩:=M.ex
  rw [AA] at c
  exact ⟨_,rfl,q ml ms G (hbs.trans M.sm) ⟨us,a,b⟩ (c.le (by lia))⟩
end
end Car
namespace Car.Ce
open PySem L2 Car
abbrev sCellsI:Stmt:=inClass (top 17) 0
abbrev sHas:Stmt:=inClass (top 17) 1
abbrev sUnd:Stmt:=inClass (top 17) 2
abbrev sRises:Stmt:=inClass (top 17) 3
abbrev sDown:Stmt:=inClass (top 17) 4
abbrev sCarved:Stmt:=top 18
end Car.Ce
namespace Car.Ce
open PySem L2 Car
section
variable {P:Program} {w:World} {K:PySem.W.Frag} {mg:Str→Option Value} {base:Heap} {CV CC f:Addr} {fd':FuncData}
theorem scHas:FnScope ["self","x","y"] ["self","x","y"] (defScope sHas):=⟨rfl,rfl,rfl,by decide +kernel,rfl,by decide +kernel,by decide +kernel⟩
theorem ok_has (T:LawT mg) (V:VT K mg CV CC) (F:Fun K "has_cell" "Cells.has_cell" sHas f fd'):FnOk P w K mg base (CX1 P w) 1 f fd' ["self","x","y"] (spHas CC):=by
 have nd:=scHas.nd
 refine F.ok1 scHas (fun vs H Q E h=>?_) (fun cdv A outer s H vs Q E hr h=>?_)
 ·obtain ⟨c,R,rs,rows,x,y,rfl,_⟩:=h
  rfl
 obtain ⟨c,R,rs,rows,x,y,rfl,⟨⟨dx,hc⟩,hR,ra⟩,rect,q⟩:=h
 have rsl:=ra.len
 refine ⟨_,(pss_one (ps_ret (pe_and (pe_chain op_le op_lt pe_int (pv 2) (pe_callB (call_lenK (K:=K) rfl) rfl T.len Ao (pa_cons (pe_fld (pv 0) rfl) pa_nil))) (pe_one (pe_chain op_le op_lt pe_int (pv 1) (pe_callB (call_lenK (K:=K) rfl) rfl T.len Ao (pa_cons (pe_ix (ix_listK (K:=K) rfl) (pe_fld (pv 0) rfl) (pv 2) (fun _ _=>rfl)) pa_nil))))))),?_⟩
 have no:¬ (0≤y∧y < rows.length∧0≤x∧x < (rows.headD []).length)→Q (.bl false) H:=fun n=>by
  rw [show ins rows (x,y)=false from decide_eq_false n] at q
  exact q
 refine ⟨_,rfl,_,_,rfl,rfl,_,rfl,?_⟩
 refine ite2 (fun h1=>?_) (fun h1=>?_)
 ·have h1':=of_decide_eq_true h1
  refine ⟨_,rfl,c,CC,dx,_,_,rfl,hc,V.clC,V.nRows,rfl,R,_,rfl,.inl (SqL.of hR),_,_,rfl,rfl,_,rfl,?_⟩
  refine ite2 (fun h2=>?_) (fun h2=>?_)
  ·have h2':=of_decide_eq_true h2
   rw [AA] at h2'
   obtain ⟨i,rfl⟩:∃ i:Nat,y=(i:Int):=⟨y.toNat,by lia⟩
   have hi:i < rows.length:=by lia
   obtain ⟨r,e1,e2⟩:=ra.at_ (AB hi)
   have hw:=rect.2 _ (Ak hi)
   refine ⟨_,rfl,_,_,rfl,rfl,_,rfl,?_⟩
   refine ite2 (fun h3=>?_) (fun h3=>?_)
   ·have h3':=of_decide_eq_true h3
    refine ⟨_,rfl,c,CC,dx,_,_,rfl,hc,V.clC,V.nRows,rfl,_,rfl,R,_,_,.ref r,rfl,rfl,SqL.of hR,atI_nat (by rw [AF,e1]; rfl),r,_,rfl,.inl (SqL.of e2),_,_,rfl,rfl,?_⟩
    rw [AA]
    rw [show ins rows (x,(i:Int))=decide (x < ((rows[i]).length:Int)) from decide_eq_decide.mpr ⟨fun z=>by have:=z.2.2.2; show x < _; lia,fun z=>⟨h1',by show (i:Int) < _; lia,h3',by show x < _; lia⟩⟩] at q
    exact q
   ·exact no fun z=>h3 (decide_eq_true z.2.2.1)
  ·exact no fun z=>h2 (decide_eq_true (by rw [AA]; have:=z.2.1; lia))
 ·exact ⟨_,rfl,iteF (no fun z=>h1 (decide_eq_true z.1))⟩
end
end Car.Ce
namespace Car.Ce
open PySem L2 Car
section
variable {P:Program} {w:World} {K:PySem.W.Frag} {mg:Str→Option Value} {base:Heap} {CV CC f:Addr} {fd':FuncData}
inductive PspUnd (CC:Addr) (vs:List V) (H:Hp) (Q:VK):Prop
 | mk (c R ft wy:Addr) (rs:List Addr) (rows:List (List Int)) (foot:List (Int×Int)) (x0 y0 z0 z1:Int) (nx ny:Nat) (h0:vs=[.ref c,.ref ft,.ref wy]) (h1:ClAt CC H c R rs rows) (h2:Rect rows) (h3:FtAt H ft foot) (h4:WyAt H wy x0 (x0 + (nx:Int) - 1) y0 (y0 + (ny:Int) - 1) z0 z1) (h5:foot.length≤100) (h6:nx≤40) (h7:ny≤40) (h8:-1000≤x0) (h9:x0≤1000) (h10:-1000≤y0) (h11:y0≤1000) (h12:∀ D H',H D=none→Same H H'→FtAt H' D (undW rows foot x0 nx y0 ny)→Q (.ref D) H'):PspUnd CC vs H Q
def spUnd (CC:Addr):Sp:=fun vs H Q _=>PspUnd CC vs H Q
theorem scUnd:FnScope ["self","foot","way","found","y","x","step"] ["self","foot","way"] (defScope sUnd):=⟨rfl,rfl,rfl,by decide +kernel,rfl,by decide +kernel,by decide +kernel⟩
theorem ndcs:(["cell","self"]:List Str).Nodup:=by decide +kernel
theorem ok_und (T:LawT mg) (VV:VT K mg CV CC) (MH:Mt P w K mg base CC "has_cell" 1 ["self","x","y"] (spHas CC)) (F:Fun K "under" "Cells.under" sUnd f fd'):FnOk P w K mg base (CX1 P w) 2 f fd' ["self","foot","way"] (spUnd CC):=by
 have nd:=scUnd.nd
 refine F.ok1 scUnd (fun vs H Q E h=>?_) (fun cdv A outer s H vs Q E hr h=>?_)
 ·obtain ⟨c,R,ft,wy,rs,rows,foot,x0,y0,z0,z1,nx,ny,rfl,_⟩:=h
  rfl
 obtain ⟨c,R,ft,wy,rs,rows,foot,x0,y0,z0,z1,nx,ny,rfl,C0,rect,⟨fts,hft,mft⟩,⟨tx,ty,tz,hwy,htx,hty,htz⟩,f100,nx40,ny40,xa,xb,ya,yb,q⟩:=h
 have hr1:Room 1 _:=hr.mono (by decide)
 have hu:=hu_of' hr
 have ftl:fts.length=foot.length:=by rw [mft.len,AA]
 refine ⟨_,(pss_cons (ps_set (i:=3) nd rfl (Or.inl rfl) pe_dnewT)
  (pss_cons (ps_for own1 rfl (pi_range2 rfl T.range (pa_cons (pe_ix (ix_tupK (K:=K) rfl) (pe_dget hu (pv 2) pe_str (fun _ _=>rfl)) pe_int (fun _ _=>rfl)) (pa_cons (pe_op op_add (pe_ix (ix_tupK (K:=K) rfl) (pe_dget hu (pv 2) pe_str (fun _ _=>rfl)) pe_int (fun _ _=>rfl)) pe_int) pa_nil))) (pg_name (i:=4) nd rfl (Or.inl rfl)) (pss_one (ps_for own1 rfl (pi_range2 rfl T.range (pa_cons (pe_ix (ix_tupK (K:=K) rfl) (pe_dget hu (pv 2) pe_str (fun _ _=>rfl)) pe_int (fun _ _=>rfl)) (pa_cons (pe_op op_add (pe_ix (ix_tupK (K:=K) rfl) (pe_dget hu (pv 2) pe_str (fun _ _=>rfl)) pe_int (fun _ _=>rfl)) pe_int) pa_nil))) (pg_name (i:=5) nd rfl (Or.inl rfl)) (pss_one (ps_for own1 rfl (pi_listK (K:=K) rfl (pv 1)) (pg_name (i:=6) nd rfl (Or.inl rfl)) (pss_one (ps_dput hu (pv 3) (pe_tup (pa_cons (pe_op op_add (pv 5) (pe_ix (ix_tupK (K:=K) rfl) (pv 6) pe_int (fun _ _=>rfl))) (pa_cons (pe_op op_add (pv 4) (pe_ix (ix_tupK (K:=K) rfl) (pv 6) pe_int (fun _ _=>rfl))) pa_nil))) pe_bl rfl)))))))
  (pss_one (ps_ret (pe_frz (pe_lc (own:=["cell"]) (capn:=["self"]) (capI:=[0]) rfl (blkC (defScope sUnd) rfl rfl (by decide +kernel) rfl (fun y hy=>by rcases AW.mp hy with rfl | hy; exact ⟨rfl,rfl⟩; cases hy)) (pi_keys (pv 3)) (fun _ _ _ _ _ _=>pg_name (i:=0) ndcs rfl (Or.inl rfl)) (fun _ _ _ _ _ _=>(pifs_one (pt_truthK (K:=K) rfl (pf_meth MH (pv 1) hr1 passN (pa_cons (pe_ix (ix_tupK (K:=K) rfl) (pv 0) pe_int (fun _ _=>rfl)) (pa_cons (pe_ix (ix_tupK (K:=K) rfl) (pv 0) pe_int (fun _ _=>rfl)) pa_nil))) (fun _=>rfl)))) (fun _ _ _ _ _ _=>(pv 0)))))))),?_⟩
 refine fun fo hfo=>?_
 have u0:=same_upd hfo (.dT [])
 have dg:∀ {G:Hp},Same H G→DGet G wy (.str "y") (some (.ref ty))∧DGet G wy (.str "x") (some (.ref tx)):=fun sG=>⟨DGet.k (k:=Sum.inr "y") (sG _ _ hwy),DGet.k (k:=Sum.inr "x") (sG _ _ hwy)⟩
 refine ⟨_,rfl,wy,.ref ty,rfl,(dg u0).1,ty,_,0,.int y0,rfl,rfl,SqT.of (u0 _ _ hty),rfl,_,rfl,wy,.ref ty,rfl,(dg u0).1,ty,_,1,.int (y0 + (ny:Int) - 1),rfl,rfl,SqT.of (u0 _ _ hty),rfl,_,_,rfl,rfl,_,_,rfl,(by lia),?_⟩
 rw [show (y0 + (ny:Int) - 1 + 1 - y0).toNat=ny by lia]
 refine for_range (lo:=y0) (n:=ny) (fun j σ H2=>Ex3 fun (x4 x5 x6:Option V)=>σ=[some (.ref c),some (.ref ft),some (.ref wy),some (.ref fo),x4,x5,x6]∧H2 fo=some (.dT (kvD ((cellsW foot x0 nx y0 j).foldl addC [])))∧Same H H2) ⟨none,none,none,rfl,upd_same,u0⟩ ?_ ?_
 ·rintro j σ H2 hj ⟨x4,x5,x6,rfl,hf2,s2⟩
  refine ⟨_,rfl,wy,.ref tx,rfl,(dg s2).2,tx,_,0,.int x0,rfl,rfl,SqT.of (s2 _ _ htx),rfl,_,rfl,wy,.ref tx,rfl,(dg s2).2,tx,_,1,.int (x0 + (nx:Int) - 1),rfl,rfl,SqT.of (s2 _ _ htx),rfl,_,_,rfl,rfl,_,_,rfl,(by lia),?_⟩
  rw [show (x0 + (nx:Int) - 1 + 1 - x0).toNat=nx by lia]
  refine for_range (lo:=x0) (n:=nx) (fun i σ H3=>Ex2 fun (x5 x6:Option V)=>σ=[some (.ref c),some (.ref ft),some (.ref wy),some (.ref fo),some (.int (y0 + (j:Int))),x5,x6]∧H3 fo=some (.dT (kvD ((cellsW foot x0 nx y0 j++rowW foot x0 i (y0 + (j:Int))).foldl addC [])))∧Same H H3) ⟨x5,x6,rfl,by rw [show rowW foot x0 0 (y0 + (j:Int))=[] from rfl,BB]; exact hf2,s2⟩ ?_ ?_
  ·rintro i σ H3 hi ⟨x5,x6,rfl,hf3,s3⟩
   refine ⟨_,rfl,ft,rfl,⟨_,SqL.of (s3 _ _ hft)⟩,?_⟩
   refine for_list (K:=K) (xs:=fts.map V.ref) (fun k σ H4=>∃ (x6:Option V),σ=[some (.ref c),some (.ref ft),some (.ref wy),some (.ref fo),some (.int (y0 + (j:Int))),some (.int (x0 + (i:Int))),x6]∧H4 fo=some (.dT (kvD ((cellsW foot x0 nx y0 j++rowW foot x0 i (y0 + (j:Int))++(foot.take k).map (shf (x0 + (i:Int)) (y0 + (j:Int)))).foldl addC [])))∧Same H H4) ⟨x6,rfl,by rw [Am,List.map_nil,BB]; exact hf3,s3⟩ ?_ ?_ ?_
   ·rintro k σ H4 _ ⟨x6,rfl,_,s4⟩
    exact SqL.of (s4 _ _ hft)
   ·rintro k v σ H4 hx ⟨x6,rfl,hf4,s4⟩
    obtain ⟨t,ht1,rfl⟩:=ref_get hx
    have hk:k < foot.length:=by have:=(AE.mp ht1).1; lia
    have ef:=AB hk
    have gt:=s4 _ _ (mft.at_ ht1 (by rw [AF,ef]; rfl))
    generalize foot[k]=st at ef gt
    refine ⟨_,rfl,_,rfl,_,rfl,t,_,0,.int st.1,rfl,rfl,SqT.of gt,rfl,_,_,rfl,rfl,_,rfl,_,rfl,t,_,1,.int st.2,rfl,rfl,SqT.of gt,rfl,_,_,rfl,rfl,le2,fun t2 ht2=>?_⟩
    have v2:=same_upd ht2 (.tup [V.int (x0 + (i:Int) + st.1),.int (y0 + (j:Int) + st.2)])
    have lenb:(kvD ((cellsW foot x0 nx y0 j++rowW foot x0 i (y0 + (j:Int))++(foot.take k).map (shf (x0 + (i:Int)) (y0 + (j:Int)))).foldl addC [])).length < AL:=by
     unfold kvD
     rw [AA]
     refine big16 (Ag (len_adds _ _) ?_)
     rw [AI,AI,cellsW_len,rowW_len,AA,A0]
     have e1:j * (nx * foot.length)≤39 * (40 * 100):=Nat.mul_le_mul (by lia) (Nat.mul_le_mul nx40 f100)
     have e2:i * foot.length≤39 * 100:=Nat.mul_le_mul (by lia) f100
     show 0 + _≤_
     lia
    refine ⟨fo,_,rfl,DPut.t (k:=[Sum.inl (x0 + (i:Int) + st.1),Sum.inl (y0 + (j:Int) + st.2)]) (v2 _ _ hf4) upd_same lenb,_,rfl,?_,same_in (s4.trans v2) hfo⟩
    rw [upd_same,put_kvD _ (x0 + (i:Int) + st.1,y0 + (j:Int) + st.2),An,ef,AG,← List.append_assoc]
    generalize cellsW foot x0 nx y0 j++rowW foot x0 i (y0 + (j:Int))++(foot.take k).map (shf (x0 + (i:Int)) (y0 + (j:Int)))=pre
    rw [List.foldl_append]
    rfl
   ·rintro σ H4 ⟨x6,rfl,hf4,s4⟩
    rw [AA,ftl,AT (AD _),List.append_assoc,← rowW_succ] at hf4
    exact ⟨_,_,rfl,hf4,s4⟩
  ·rintro σ H3 ⟨x5,x6,rfl,hf3,s3⟩
   rw [← cellsW_succ] at hf3
   exact ⟨_,_,_,rfl,hf3,s3⟩
 rintro σ H2 ⟨x4,x5,x6,rfl,hf2,s2⟩
 generalize hcs:(cellsW foot x0 nx y0 ny).foldl addC []=cs at hf2
 have csl:cs.length≤160000:=by
  rw [← hcs]
  refine Ag (len_adds _ _) ?_
  rw [cellsW_len]
  have e1:ny * (nx * foot.length)≤40 * (40 * 100):=Nat.mul_le_mul ny40 (Nat.mul_le_mul nx40 f100)
  show 0 + _≤_
  lia
 refine ⟨fo,_,hf2,AS,fun ob=>?_⟩
 refine ⟨_,rfl,fo,ob,_,rfl,upd_same,fun D hD=>?_⟩
 have nDf:D≠fo:=fun z=>by rw [z,upd_same] at hD; cases hD
 have hD2:H2 D=none:=by rw [upd_ne nDf] at hD; exact hD
 have nfo:∀ x o,H x=some o→x≠fo:=fun x o e=>ne_of_none e hfo
 refine ⟨Wd cs.length (fun i σ acc H5=>Ex2 fun (z:Option V) (us:List Addr)=>σ=[z,some (.ref c)]∧acc=us.map V.ref∧us.length≤i∧MvAt H5 us (((cs.take i).filter (ins rows)).map pr)∧H5 fo=some (.frz ob (.dT (kvD cs)))∧Same H H5∧H5 D=some (.lst acc)),wd_0 ⟨none,[],rfl,rfl,AD _,by rw [Am]; exact AS,by rw [upd_ne (Ne.symm nDf),upd_same],fun x o e=>by rw [upd_ne (fun z=>by rw [z,s2.free hD2] at e; cases e),upd_ne (nfo x o e)]; exact s2 x o e,upd_same⟩,?_⟩
 rintro i im σ acc H5 ⟨rfl,hi0,z,us,rfl,rfl,ul,mu,hf5,s5,hD5⟩
 have kl:(kvD cs).length=cs.length:=by unfold kvD; rw [AA]
 refine ky_ask hf5 (by rw [kl]; exact hi0) (fun p hp hi t ht=>?_) (fun hend=>?_)
 ·rw [kl] at hi
  have ec:=AB hi
  have ep:p=([(Sum.inl cs[i].1:Key),Sum.inl cs[i].2],V.bl true):=by
   unfold kvD at hp
   rw [AF,ec] at hp
   exact (Ax hp).symm
  subst ep
  have gt:H5 t=some (.tup (pr cs[i])):=ht
  generalize cs[i]=d at ec gt
  have C5:=C0.same s5
  obtain ⟨dx,hcc⟩:=C5.ob
  refine ⟨_,rfl,c,dx,_,rfl,hcc,rfl,_,rfl,t,_,0,.int d.1,rfl,rfl,SqT.of gt,rfl,_,rfl,t,_,1,.int d.2,rfl,rfl,SqT.of gt,rfl,c,R,rs,rows,d.1,d.2,rfl,C5,rect,_,rfl,?_⟩
  refine ite2 (fun h1=>?_) (fun h1=>?_)
  ·refine ⟨_,rfl,hD5,(by rw [AA]; exact Nat.lt_of_le_of_lt ul (big16 (by lia))),wd_next hi ⟨_,us++[t],rfl,by rw [AG]; rfl,by rw [AI]; exact Nat.succ_le_succ ul,?_,by rw [upd_ne (Ne.symm nDf)]; exact hf5,fun x o e=>by rw [upd_ne (fun z=>by rw [z,s2.free hD2] at e; cases e)]; exact s5 x o e,upd_same⟩⟩
   rw [An,ec,List.filter_append,AG,Option.toList_some,List.filter_cons_of_pos h1]
   exact (mu.snoc gt).upd (fun m e=>by rw [hD5] at e; cases e)
  ·refine wd_next hi ⟨_,us,rfl,rfl,Nat.le_succ_of_le ul,?_,hf5,s5,hD5⟩
   rw [An,ec,List.filter_append,Option.toList_some,List.filter_cons_of_neg h1,List.filter_nil,BB]
   exact mu
 ·rw [kl] at hend
  rw [hend,AT (AD _)] at mu
  refine ⟨hf5,q D _ (s2.free hD2) (same_in s5 hfo) ⟨us,by rw [upd_ne nDf]; exact hD5,?_⟩⟩
  unfold undW
  rw [hcs]
  exact mu.upd (fun m e=>by rw [hf5] at e; cases e)
end
end Car.Ce
namespace Car.Ce
open PySem L2 Car
theorem set_same {α:Type} {xs:List α} {i:Nat} {x:α} (h:xs[i]?=some x):xs.set i x=xs:=by
 refine List.ext_getElem? fun j=>?_
 by_cases e:i=j
 ·subst e
  rw [List.getElem?_set_self (AE.mp h).1,h]
 ·rw [List.getElem?_set_ne e]
section
variable {P:Program} {w:World} {K:PySem.W.Frag} {mg:Str→Option Value} {base:Heap} {CV CC f:Addr} {fd':FuncData}
inductive PspRises (CC:Addr) (vs:List V) (H:Hp) (Q:VK):Prop
 | mk (c R u:Addr) (rs:List Addr) (rows:List (List Int)) (cs:List (Int×Int)) (h:Int) (h0:vs=[.ref c,.ref u,.int h]) (h1:ClAt CC H c R rs rows) (h2:Rect rows) (h3:FtAt H u cs) (h4:cs.length≤160000) (h5:(∀ d∈cs,ins rows d=true)) (h6:∀ H',Same H H'→Q (.bl (risF rows cs h)) H'):PspRises CC vs H Q
def spRises (CC:Addr):Sp:=fun vs H Q _=>PspRises CC vs H Q
theorem scRises:FnScope ["self","under","height"] ["self","under","height"] (defScope sRises):=⟨rfl,rfl,rfl,by decide +kernel,rfl,by decide +kernel,by decide +kernel⟩
theorem ndcsh:(["cell","self","height"]:List Str).Nodup:=by decide +kernel
theorem ok_rises (VV:VT K mg CV CC) (F:Fun K "rises_above" "Cells.rises_above" sRises f fd'):FnOk P w K mg base (CX1 P w) 1 f fd' ["self","under","height"] (spRises CC):=by
 have nd:=scRises.nd
 refine F.ok1 scRises (fun vs H Q E h=>?_) (fun cdv A outer s H vs Q E hr h=>?_)
 ·obtain ⟨c,R,u,rs,rows,cs,h,rfl,_⟩:=h
  rfl
 obtain ⟨c,R,u,rs,rows,cs,h,rfl,C0,rect,⟨ts,hu1,mu⟩,csl,hin,q⟩:=h
 have tl:ts.length=cs.length:=by rw [mu.len,AA]
 refine ⟨_,(pss_one (ps_ret (pe_callB (call_anyB rfl) rfl VV.any bt_any (pa_cons (pe_lc (own:=["cell"]) (capn:=["self","height"]) (capI:=[0,2]) rfl (blkC (defScope sRises) rfl rfl (by decide +kernel) rfl (fun y hy=>by rcases AW.mp hy with rfl | hy; exact ⟨rfl,rfl⟩; rcases AW.mp hy with rfl | hy; exact ⟨rfl,rfl⟩; cases hy)) (pi_listK (K:=K) rfl (pv 1)) (fun _ _ _ _ _ _=>pg_name (i:=0) ndcsh rfl (Or.inl rfl)) (fun _ _ _ _ _ _=>pifs_nil) (fun _ _ _ _ _ _=>(pe_cmpR op_gt (pe_ix (ix_listK (K:=K) rfl) (pe_ix (ix_listK (K:=K) rfl) (pe_fldK (K:=K) rfl (pv 1) rfl) (pe_ix (ix_tupK (K:=K) rfl) (pv 0) pe_int (fun _ _=>rfl)) (fun _ _=>rfl)) (pe_ix (ix_tupK (K:=K) rfl) (pv 0) pe_int (fun _ _=>rfl)) (fun _ _=>rfl)) (pv 2) (nomark _)))) pa_nil)))),?_⟩
 refine ⟨_,rfl,u,rfl,⟨_,SqL.of hu1⟩,fun D hD=>?_⟩
 refine ⟨Wd cs.length (fun i σ acc H5=>∃ (z:Option V),σ=[z,some (.ref c),some (.int h)]∧acc=((cs.take i).map fun d=>decide (hgt rows d > h)).map V.bl∧Same H H5∧H5 D=some (.lst acc)),wd_0 ⟨none,rfl,by rw [Am]; rfl,same_upd hD _,upd_same⟩,?_⟩
 rintro i im σ acc H5 ⟨rfl,hi0,z,rfl,rfl,s5,hD5⟩
 refine lc_ask (K:=K) (xs:=ts.map V.ref) (SqL.of (s5 _ _ hu1)) (by rw [AA,tl]; exact hi0) (fun x hx hi=>?_) (fun hend=>?_)
 ·obtain ⟨t,ht1,rfl⟩:=ref_get hx
  have hi':i < cs.length:=by rw [AA,tl] at hi; exact hi
  have ec:=AB hi'
  have gt:=s5 _ _ (mu.at_ ht1 (by rw [AF,ec]; rfl))
  have hd:=hin _ (Ak hi')
  generalize cs[i]=d at ec gt hd
  obtain ⟨y,x,row,v,e1,e2,e3,e4⟩:=ins_at hd rect
  subst e1
  have C5:=C0.same s5
  obtain ⟨dx,hcc⟩:=C5.ob
  obtain ⟨a,ha,hra⟩:=C5.ra.at_ e2
  refine ⟨_,rfl,c,CC,dx,_,_,rfl,hcc,VV.clC,VV.nRows,rfl,_,rfl,t,_,1,.int (y:Int),rfl,rfl,SqT.of gt,rfl,R,_,_,.ref a,rfl,rfl,SqL.of C5.hR,atI_nat (by rw [AF,ha]; rfl),_,rfl,t,_,0,.int (x:Int),rfl,rfl,SqT.of gt,rfl,a,_,_,.int v,rfl,rfl,SqL.of hra,atI_nat (by rw [AF,e3]; rfl),_,rfl,_,_,rfl,rfl,?_⟩
  refine ⟨hD5,(by rw [AA,AA,A0]; exact big16 (by lia)),wd_next hi' ⟨_,rfl,?_,same_in s5 hD,upd_same⟩⟩
  rw [An,ec,AG,AG]
  show _=_++[V.bl (decide (hgt rows ((x:Int),(y:Int)) > h))]
  rw [e4]
 ·rw [AA,tl] at hend
  rw [hend,AT (AD _)] at hD5
  refine ⟨D,_,rfl,SqL.of hD5,?_⟩
  have e:((cs.map fun d=>decide (hgt rows d > h)).any id)=risF rows cs h:=by
   unfold risF
   rw [List.any_map]
   rfl
  rw [e]
  exact q _ s5
inductive PspDown (CC:Addr) (vs:List V) (H:Hp) (Q:VK):Prop
 | mk (c R u:Addr) (rs:List Addr) (rows:List (List Int)) (cs:List (Int×Int)) (h:Int) (h0:vs=[.ref c,.ref u,.int h]) (h1:ClAt CC H c R rs rows) (h2:Rect rows) (h3:rs.Nodup) (h4:R ∉ rs) (h5:u ∉ rs) (h6:FtAt H u cs) (h7:(∀ d∈cs,ins rows d=true)) (h8:∀ H',Kp rs H H'→RowsAt H' rs (dwn rows cs h).1→Q (.int (dwn rows cs h).2) H'):PspDown CC vs H Q
def spDown (CC:Addr):Sp:=fun vs H Q _=>PspDown CC vs H Q
theorem scDown:FnScope ["self","under","height","taken","cell","row"] ["self","under","height"] (defScope sDown):=⟨rfl,rfl,rfl,by decide +kernel,rfl,by decide +kernel,by decide +kernel⟩
theorem ok_down (VV:VT K mg CV CC) (F:Fun K "cut_down" "Cells.cut_down" sDown f fd'):FnOk P w K mg base (CX1 P w) 1 f fd' ["self","under","height"] (spDown CC):=by
 have nd:=scDown.nd
 refine F.ok1 scDown (fun vs H Q E h=>?_) (fun cdv A outer s H vs Q E hr h=>?_)
 ·obtain ⟨c,R,u,rs,rows,cs,h,rfl,_⟩:=h
  rfl
 obtain ⟨c,R,u,rs,rows,cs,h,rfl,⟨⟨dx,hc⟩,hR,ra⟩,rect,rnd,nR,nu,⟨ts,hu1,mu⟩,hin,q⟩:=h
 have tl:ts.length=cs.length:=by rw [mu.len,AA]
 have nc:c ∉ rs:=fun z=>by
  obtain ⟨xs,hx⟩:=ra.mem z
  rw [hc] at hx
  cases hx
 refine ⟨_,(pss_cons (ps_set (i:=3) nd rfl (Or.inl rfl) pe_int)
  (pss_cons (ps_for own1 rfl (pi_listK (K:=K) rfl (pv 1)) (pg_name (i:=4) nd rfl (Or.inl rfl)) (pss_cons (ps_set (i:=5) nd rfl (Or.inl rfl) (pe_ix (ix_listK (K:=K) rfl) (pe_fld (pv 0) rfl) (pe_ix (ix_tupK (K:=K) rfl) (pv 4) pe_int (fun _ _=>rfl)) (fun _ _=>rfl)))
  (pss_one (ps_if (pt_cmpR op_gt (pe_ix (ix_listK (K:=K) rfl) (pv 5) (pe_ix (ix_tupK (K:=K) rfl) (pv 4) pe_int (fun _ _=>rfl)) (fun _ _=>rfl)) (pv 2) (nomark _)) (pss_cons (ps_aug (i:=3) nd rfl (Or.inl rfl) (pe_op op_sub (pe_ix (ix_listK (K:=K) rfl) (pv 5) (pe_ix (ix_tupK (K:=K) rfl) (pv 4) pe_int (fun _ _=>rfl)) (fun _ _=>rfl)) (pv 2)) ip_add)
  (pss_one (ps_asg (pv 2) (pg_sub (pv 5) (pe_ix (ix_tupK (K:=K) rfl) (pv 4) pe_int (fun _ _=>rfl)) set_list)))) pss_nil))))
  (pss_one (ps_ret (pv 3))))),?_⟩
 refine ⟨_,rfl,u,rfl,⟨_,SqL.of hu1⟩,?_⟩
 refine for_list (K:=K) (xs:=ts.map V.ref) (fun i σ H2=>Ex2 fun (x4 x5:Option V)=>σ=[some (.ref c),some (.ref u),some (.int h),some (.int (dwn rows (cs.take i) h).2),x4,x5]∧Kp rs H H2∧RowsAt H2 rs (dwn rows (cs.take i) h).1) ⟨none,none,by rw [Am]; rfl,fun _ _ _ e=>e,by rw [Am]; exact ra⟩ ?_ ?_ ?_
 ·rintro i σ H2 _ ⟨x4,x5,rfl,k2,_⟩
  exact SqL.of (k2 _ _ nu hu1)
 ·rintro i v σ H2 hx ⟨x4,x5,rfl,k2,ra2⟩
  obtain ⟨t,ht,rfl⟩:=ref_get hx
  have hic:i < cs.length:=by have:=(AE.mp ht).1; lia
  have ec:=AB hic
  have gt0:=mu.at_ ht (by rw [AF,ec]; rfl)
  have gt:H2 t=some (.tup (pr cs[i])):=k2 _ _ (ra.out gt0) gt0
  have hi1:=hin _ (Ak hic)
  generalize cs[i]=c1 at ec gt hi1 gt0
  have enx:dwn rows (cs.take (i + 1)) h=stepD h (dwn rows (cs.take i) h) c1:=by
   unfold dwn
   rw [An,ec,List.foldl_append]
   rfl
  have al:Alike rows (dwn rows (cs.take i) h).1:=by
   unfold dwn
   rw [dwn_fst]
   exact cuts_alike _ _
  generalize dwn rows (cs.take i) h=S at ra2 enx al
  obtain ⟨rw0,tk⟩:=S
  have al':Alike rows rw0:=al
  have ra2':RowsAt H2 rs rw0:=ra2
  have hi2:ins rw0 c1=true:=by rw [← al'.ins]; exact hi1
  obtain ⟨iy,ix,row,v,e5,e6,e7,e8⟩:=ins_at hi2 (al'.rect rect)
  have ex:c1.1=(ix:Int):=congrArg Prod.fst e5
  have ey:c1.2=(iy:Int):=congrArg Prod.snd e5
  obtain ⟨a,ha,hra⟩:=ra2'.at_ e6
  have hR2:=k2 _ _ nR hR
  have hc2:=k2 _ _ nc hc
  have ay:atI (rs.map V.ref) c1.2=some (.ref a):=by rw [ey]; exact atI_nat (by rw [AF,ha]; rfl)
  have ax:atI (row.map V.int) c1.1=some (.int v):=by rw [ex]; exact atI_nat (by rw [AF,e7]; rfl)
  have jx:ixN (row.map V.int).length c1.1=some ix:=by rw [ex]; exact ixN_nat (by rw [AA]; exact (AE.mp e7).1)
  refine ⟨_,rfl,c,CC,dx,_,_,rfl,hc2,VV.clC,VV.nRows,rfl,_,rfl,t,_,1,.int c1.2,rfl,rfl,SqT.of gt,rfl,R,_,_,.ref a,rfl,rfl,SqL.of hR2,ay,?_⟩
  refine ⟨_,rfl,_,rfl,t,_,0,.int c1.1,rfl,rfl,SqT.of gt,rfl,a,_,_,.int v,rfl,rfl,SqL.of hra,ax,_,rfl,_,_,rfl,rfl,_,rfl,?_⟩
  rw [enx]
  refine ite2 (fun hg=>?_) (fun hg=>?_)
  ·have hg':v > h:=of_decide_eq_true hg
   refine ⟨_,rfl,_,rfl,_,rfl,t,_,0,.int c1.1,rfl,rfl,SqT.of gt,rfl,a,_,_,.int v,rfl,rfl,SqL.of hra,ax,_,rfl,_,_,rfl,rfl,_,_,rfl,rfl,?_⟩
   refine ⟨_,rfl,_,rfl,_,rfl,t,_,0,.int c1.1,rfl,rfl,SqT.of gt,rfl,a,_,_,ix,rfl,rfl,hra,jx,?_⟩
   have em:(row.map V.int).set ix (.int h)=(row.set ix h).map V.int:=List.map_set.symm
   rw [em]
   refine ⟨some (.ref t),some (.ref a),?_,fun x o nx e=>?_,?_⟩
   ·show _=[_,_,_,some (V.int (tk + if hgt rw0 c1 > h then hgt rw0 c1 - h else 0)),_,_]
    rw [e8,if_pos hg']
    rfl
   ·rw [upd_ne (fun z=>nx (by rw [z]; exact A5 ha))]
    exact k2 x o nx e
   ·show RowsAt _ rs (cutC rw0 (c1,h))
    have e10:cutC rw0 (c1,h)=rw0.set iy (row.set ix h):=by
     unfold cutC
     simp only [e8]
     rw [ex,ey,Aj,Aj,e6]
     show rw0.set iy (row.set ix (mn v h))=_
     rw [show mn v h=h by unfold mn; rw [if_pos hg']]
    rw [e10]
    exact ra2'.set rnd ha
  ·have hg':¬ v > h:=fun z=>hg (decide_eq_true z)
   refine ⟨some (.ref t),some (.ref a),?_,k2,?_⟩
   ·show _=[_,_,_,some (V.int (tk + if hgt rw0 c1 > h then hgt rw0 c1 - h else 0)),_,_]
    rw [e8,if_neg hg',Int.add_zero]
    rfl
   ·show RowsAt _ rs (cutC rw0 (c1,h))
    have e10:cutC rw0 (c1,h)=rw0:=by
     unfold cutC
     simp only [e8]
     rw [ex,ey,Aj,Aj,e6]
     show rw0.set iy (row.set ix (mn v h))=_
     rw [show mn v h=v by unfold mn; split <;> lia,Ce.set_same e7,Ce.set_same e6]
    rw [e10]
    exact ra2'
 ·rintro σ H2 ⟨x4,x5,rfl,k2,ra2⟩
  rw [AA,tl,AT (AD _)] at ra2 ⊢
  exact ⟨_,rfl,q H2 k2 ra2⟩
inductive PspCellsI (CC:Addr) (vs:List V) (H:Hp) (Q:VK):Prop
 | mk (c dx b:Addr) (bed:List (List Int)) (h0:vs=[.ref c,.ref b]) (h1:H c=some (.ins CC dx [])) (h2:BdAt H b bed) (h3:bed.length≤1000) (h4:∀ (R:Addr) (rs:List Addr) (H':Hp),(∀ x o,x≠c→H x=some o→H' x=some o)→H' c=some (.ins CC dx [("rows",.ref R)])→H' R=some (.lst (rs.map V.ref))→RowsAt H' rs bed→rs.Nodup→R ∉ rs→H R=none→(∀ r∈rs,H r=none)→Q .non H'):PspCellsI CC vs H Q
def spCellsI (CC:Addr):Sp:=fun vs H Q _=>PspCellsI CC vs H Q
theorem scCellsI:FnScope ["self","bed"] ["self","bed"] (defScope sCellsI):=⟨rfl,rfl,rfl,by decide +kernel,rfl,by decide +kernel,by decide +kernel⟩
theorem ok_cellsI (T:LawT mg) (VV:VT K mg CV CC) (F:Fun K "__init__" "Cells.__init__" sCellsI f fd'):FnOk P w K mg base (CX1 P w) 1 f fd' ["self","bed"] (spCellsI CC):=by
 have nd:=scCellsI.nd
 refine F.ok1 scCellsI (fun vs H Q E h=>?_) (fun cdv A outer s H vs Q E hr h=>?_)
 ·obtain ⟨c,dx,b,bed,rfl,_⟩:=h
  rfl
 obtain ⟨c,dx,b,bed,rfl,hc,⟨bs,hb1,rb1⟩,bl,q⟩:=h
 refine ⟨_,(pss_one (ps_fld (pv 0) (pe_lc (own:=["row"]) (capn:=[]) (capI:=[]) rfl (blk0 rfl (by decide +kernel)) (pi_listK (K:=K) rfl (pv 1)) (fun _ _ _ _ _ _=>pg_name (i:=0) (nd1 "row") rfl (Or.inl rfl)) (fun _ _ _ _ _ _=>pifs_nil) (fun _ _ _ _ _ _=>(pe_callTy (call_listK (K:=K) rfl) rfl T.list bt_list (pa_cons (pv 0) pa_nil)))) rfl)),?_⟩
 refine ⟨_,rfl,b,rfl,⟨_,SqL.of hb1⟩,fun D hD=>?_⟩
 refine lc_rows (K:=K) hb1 rb1 bl (fun r row H2 R hr' k=>⟨_,rfl,r,_,rfl,.inl (SqL.of hr'),k⟩) hD (fun hs H1 s1 hD1 rh ndh nh nD=>?_)
 have hc1:=s1 _ _ hc
 have nDc:=ne_new hc hD
 have ncs:c ∉ hs:=fun z=>by
  have:=nh c z
  rw [hc] at this
  cases this
 refine ⟨_,rfl,c,CC,dx,_,rfl,hc1,VV.clC,VV.nRows,(by decide),?_⟩
 exact q D hs _ (fun x o n e=>by rw [upd_ne n]; exact s1 x o e) upd_same (by rw [upd_ne nDc]; exact hD1) (rh.keep fun r hr o e=>by rw [upd_ne (fun z=>ncs (by rw [← z]; exact hr))]; exact e) ndh nD hD nh
end
end Car.Ce
namespace L2
open PySem PySem.Spec PyProof.Rows
end L2
namespace Car.Ce
open PySem L2 Car
section
variable {P:Program} {w:World} {K:PySem.W.Frag} {mg:Str→Option Value} {base:Heap} {C fI f:Addr} {fd:FuncData}
end
structure CA where
 cv:Addr
 cells:Addr
 R:Addr
 sd:Addr
 sh:Addr
 rs:List Addr
structure CIn (CV CC:Addr) (H0 H:Hp) (A:CA) (ts:List Tool) (S:CS):Prop where
 sm:Same H0 H
 ncv:H0 A.cv=none
 nR0:H0 A.R=none
 nsd:H0 A.sd=none
 nrs:∀ r∈A.rs,H0 r=none
 shelf:ShAt H0 A.sh ts
 feet:∀ t∈ts,t.1.length≤100
 ob:∃ dx cu,H A.cv=some (.ins CV dx [("stuff",.ref A.cells),("shelf",.ref A.sh),("cutter",cu),("stands",.ref A.sd)])∧cuV H0 ts S.cut cu
 cl:ClAt CC H A.cells A.R A.rs S.rows
 nd:A.rs.Nodup
 nR:A.R ∉ A.rs
 sd:H A.sd=some (.dK [(Sum.inr "x",.int S.x),(Sum.inr "y",.int S.y),(Sum.inr "z",.int S.z)])
 rect:Rect S.rows
 small:Small S.rows
 inb:ins S.rows (S.x,S.y)=true
 zb:0≤S.z∧S.z≤1000
theorem CIn.same {CV CC:Addr} {H0 H H':Hp} {A:CA} {ts:List Tool} {S:CS} (M:CIn CV CC H0 H A ts S) (s:Same H H'):CIn CV CC H0 H' A ts S:=by
 obtain ⟨dx,cu,e,h⟩:=M.ob
 exact ⟨M.sm.trans s,M.ncv,M.nR0,M.nsd,M.nrs,M.shelf,M.feet,⟨dx,cu,s _ _ e,h⟩,M.cl.same s,M.nd,M.nR,s _ _ M.sd,M.rect,M.small,M.inb,M.zb⟩
end Car.Ce
namespace Car.Ce
open PySem L2 Car
section
variable {P:Program} {w:World} {K:PySem.W.Frag} {mg:Str→Option Value} {base:Heap} {CV CC f:Addr} {fd':FuncData}
inductive PspRoom (CV CC:Addr) (vs:List V) (H:Hp) (Q:VK):Prop
 | mk (H0:Hp) (A:CA) (ts:List Tool) (S:CS) (a:Str) (to:Int) (h0:vs=[.ref A.cv,.str a,.int to]) (h1:CIn CV CC H0 H A ts S) (h2:IsAx a) (h3:Q (.bl (roomF S a to)) H):PspRoom CV CC vs H Q
def spRoom (CV CC:Addr):Sp:=fun vs H Q _=>PspRoom CV CC vs H Q
theorem ok_room (VV:VT K mg CV CC) (MH:Mt P w K mg base CC "has_cell" 1 ["self","x","y"] (spHas CC)) (F:Fun K "has_room" "Carver.has_room" sRoom f fd'):FnOk P w K mg base (CX1 P w) 2 f fd' ["self","axis","to"] (spRoom CV CC):=by
 have nd:=scRoom.nd
 refine F.ok1 scRoom (fun vs H Q E h=>?_) (fun cdv A outer s H vs Q E hr h=>?_)
 ·obtain ⟨H0,A,ts,S,a,to,rfl,_⟩:=h
  rfl
 obtain ⟨H0,A,ts,S,a,to,rfl,M,ax,q⟩:=h
 have hr1:Room 1 _:=hr.mono (by decide)
 have hu:=hu_of' hr
 obtain ⟨tt,htop⟩:=VV.top
 refine ⟨_,(pss_cons (ps_if (pt_cmpR op_eq (pv 1) pe_str (nomark _)) (pss_one (ps_ret (pf_meth MH (pe_fld (pv 0) rfl) hr1 (pass1 (E:=E)) (pa_cons (pv 2) (pa_cons (pe_dget hu (pe_fld (pv 0) rfl) pe_str (fun _ _=>rfl)) pa_nil))))) pss_nil)
  (pss_cons (ps_if (pt_cmpR op_eq (pv 1) pe_str (nomark _)) (pss_one (ps_ret (pf_meth MH (pe_fld (pv 0) rfl) hr1 (pass1 (E:=E)) (pa_cons (pe_dget hu (pe_fld (pv 0) rfl) pe_str (fun _ _=>rfl)) (pa_cons (pv 2) pa_nil))))) pss_nil)
  (pss_one (ps_ret (pe_chain op_le op_le pe_int (pv 2) (pe_glob (v:=.int 1000) rfl htop ⟨_,rfl⟩)))))),?_⟩
 obtain ⟨dx,cu,hcv,_⟩:=M.ob
 obtain ⟨kx,hcl⟩:=M.cl.ob
 have gx:DGet H A.sd (.str "x") (some (.int S.x)):=DGet.k (k:=Sum.inr "x") M.sd
 have gy:DGet H A.sd (.str "y") (some (.int S.y)):=DGet.k (k:=Sum.inr "y") M.sd
 refine ⟨_,rfl,rfl,_,rfl,?_⟩
 refine ite2 (fun h1=>?_) (fun h1=>?_)
 ·have e:a="x":=V.str.inj (of_decide_eq_true h1)
  subst e
  refine ⟨_,rfl,A.cv,CV,dx,_,_,rfl,hcv,VV.clV,VV.nStuff,rfl,A.cells,kx,_,rfl,hcl,rfl,_,rfl,_,rfl,A.cv,CV,dx,_,_,rfl,hcv,VV.clV,VV.nStands,rfl,A.sd,_,rfl,gy,A.cells,A.R,A.rs,S.rows,to,S.y,rfl,M.cl,M.rect,?_⟩
  exact q
 ·have e:a≠"x":=fun z=>h1 (decide_eq_true (congrArg V.str z))
  refine ⟨_,rfl,rfl,_,rfl,?_⟩
  unfold roomF at q
  rw [if_neg e] at q
  refine ite2 (fun h2=>?_) (fun h2=>?_)
  ·have e2:a="y":=V.str.inj (of_decide_eq_true h2)
   rw [if_pos e2] at q
   refine ⟨_,rfl,A.cv,CV,dx,_,_,rfl,hcv,VV.clV,VV.nStuff,rfl,A.cells,kx,_,rfl,hcl,rfl,_,rfl,A.cv,CV,dx,_,_,rfl,hcv,VV.clV,VV.nStands,rfl,A.sd,_,rfl,gx,_,rfl,A.cells,A.R,A.rs,S.rows,S.x,to,rfl,M.cl,M.rect,?_⟩
   exact q
  ·rw [if_neg (fun z=>h2 (decide_eq_true (congrArg V.str z)))] at q
   refine ⟨_,rfl,_,_,rfl,rfl,_,rfl,?_⟩
   refine ite2 (fun h3=>?_) (fun h3=>?_)
   ·have h3':=of_decide_eq_true h3
    refine ⟨_,_,rfl,rfl,?_⟩
    rw [show decide (0≤to∧to≤1000)=decide (to≤1000) from decide_eq_decide.mpr ⟨fun z=>z.2,fun z=>⟨h3',z⟩⟩] at q
    exact q
   ·rw [show decide (0≤to∧to≤1000)=false from decide_eq_false fun z=>h3 (decide_eq_true z.1)] at q
    exact q
inductive PspWayTo (CV CC:Addr) (vs:List V) (H:Hp) (Q:VK):Prop
 | mk (H0:Hp) (A:CA) (ts:List Tool) (S:CS) (a:Str) (to:Int) (h0:vs=[.ref A.cv,.str a,.int to]) (h1:CIn CV CC H0 H A ts S) (h2:IsAx a) (h3:∀ wy H',Same H H'→WyAt H' wy (wlo S a to "x") (whi S a to "x") (wlo S a to "y") (whi S a to "y") (wlo S a to "z") (whi S a to "z")→Q (.ref wy) H'):PspWayTo CV CC vs H Q
def spWayTo (CV CC:Addr):Sp:=fun vs H Q _=>PspWayTo CV CC vs H Q
theorem ok_wayTo (T:LawT mg) (VV:VT K mg CV CC) (F:Fun K "way_to" "Carver.way_to" sWayTo f fd'):FnOk P w K mg base (CX1 P w) 1 f fd' ["self","axis","to"] (spWayTo CV CC):=by
 have nd:=scWayTo.nd
 refine F.ok1 scWayTo (fun vs H Q E h=>?_) (fun cdv A outer s H vs Q E hr h=>?_)
 ·obtain ⟨H0,A,ts,S,a,to,rfl,_⟩:=h
  rfl
 obtain ⟨H0,A,ts,S,a,to,rfl,M,ax,q⟩:=h
 have hu:=hu_of' hr
 refine ⟨_,(pss_cons (ps_set (i:=3) nd rfl (Or.inl rfl) (pe_dget hu (pe_fld (pv 0) rfl) (pv 1) (fun _ _=>rfl)))
  (pss_cons (ps_set (i:=4) nd rfl (Or.inl rfl) (pe_callTy (call_dict_l rfl) rfl VV.dict bt_dict (pa_cons (pe_frz (pe_lc (own:=["one","place"]) (capn:=[]) (capI:=[]) rfl (blk0 rfl (by decide +kernel)) (pi_items (pe_fld (pv 0) rfl)) (fun _ _ _ _ _ _=>pg_tupK (K:=K) (n:=2) rfl rfl (pgs_cons (pg_name (i:=0) ndop rfl (Or.inl rfl)) (pgs_cons (pg_name (i:=1) ndop rfl (Or.inl rfl)) pgs_nil))) (fun _ _ _ _ _ _=>pifs_nil) (fun _ _ _ _ _ _=>(pe_tup (pa_cons (pv 0) (pa_cons (pe_tup (pa_cons (pv 1) (pa_cons (pv 1) pa_nil))) pa_nil)))))) pa_nil)))
  (pss_cons (ps_dput hu (pv 4) (pv 1) (pe_tup (pa_cons (pe_callB (call_min2 rfl) rfl T.min bt_min (pa_cons (pv 3) (pa_cons (pv 2) pa_nil))) (pa_cons (pe_callB (call_max2 rfl) rfl T.max bt_max (pa_cons (pv 3) (pa_cons (pv 2) pa_nil))) pa_nil))) rfl)
  (pss_one (ps_ret (pv 4)))))),?_⟩
 obtain ⟨dx,cu,hcv,_⟩:=M.ob
 have ga:DGet H A.sd (.str a) (some (.int (S.at_ a))):=by
  rcases ax with rfl | rfl | rfl
  ·exact DGet.k (k:=Sum.inr "x") M.sd
  ·exact DGet.k (k:=Sum.inr "y") M.sd
  ·exact DGet.k (k:=Sum.inr "z") M.sd
 refine ⟨_,rfl,A.cv,CV,dx,_,_,rfl,hcv,VV.clV,VV.nStands,rfl,_,rfl,A.sd,_,rfl,ga,?_⟩
 generalize hkv:([(Sum.inr "x",.int S.x),(Sum.inr "y",.int S.y),(Sum.inr "z",.int S.z)]:List (Key×V))=kvs
 have hsd:=M.sd
 rw [hkv] at hsd
 have kl:kvs.length=3:=by rw [← hkv]; rfl
 refine ⟨A.sd,_,hsd,AS,fun ob=>?_⟩
 have ncs:A.cv≠A.sd:=fun z=>by rw [z,hsd] at hcv; cases hcv
 refine ⟨_,rfl,A.cv,CV,dx,_,_,rfl,(by rw [upd_ne ncs]; exact hcv),VV.clV,VV.nStands,rfl,A.sd,ob,kvs,rfl,upd_same,fun D hD=>?_⟩
 have nDs:D≠A.sd:=fun z=>by rw [z,upd_same] at hD; cases hD
 have hD1:H D=none:=by rw [upd_ne nDs] at hD; exact hD
 refine ⟨Wd 3 (fun i σ acc H5=>Ex3 fun (z z':Option V) (L:List (Addr×Addr))=>σ=[z,z']∧acc=L.map (fun p=>V.ref p.1)∧L.length=i∧(∀ (j:Nat) (p:Addr×Addr) (kv:Key×V),L[j]?=some p→kvs[j]?=some kv→H5 p.1=some (.tup [kV kv.1,.ref p.2])∧H5 p.2=some (.tup [kv.2,kv.2]))∧H5 A.sd=some (.frz ob (.dK kvs))∧(∀ x o,x≠A.sd→H x=some o→H5 x=some o)∧H5 D=some (.lst acc)),
  wd_0 ⟨none,none,[],rfl,rfl,rfl,(fun _ _ _ h=>by cases h),by rw [upd_ne (Ne.symm nDs),upd_same],fun x o n e=>by rw [upd_ne (ne_of_none e hD1),upd_ne n]; exact e,upd_same⟩,?_⟩
 rintro i im σ acc H5 ⟨rfl,hi0,z,z',L,rfl,rfl,Ll,hL,hs5,k5,hD5⟩
 refine im_ask hs5 (by rw [kl]; exact hi0) (fun kv hkv' hi T' hT'=>?_) (fun hend=>?_)
 ·rw [kl] at hi
  have v1:=same_upd hT' (.tup [kV kv.1,kv.2])
  refine ⟨T',_,rfl,SqT.of upd_same,rfl,_,_,rfl,_,_,rfl,rfl,?_⟩
  refine ⟨_,rfl,_,rfl,_,rfl,le2,fun t1 ht1=>⟨le2,fun t2 ht2=>?_⟩⟩
  have v2:=same_upd ht1 (.tup [kv.2,kv.2])
  have v3:=same_upd ht2 (.tup [kV kv.1,.ref t1])
  have vv:=v1.trans (v2.trans v3)
  have hDn:=vv _ _ hD5
  have tupne:∀ {G:Hp} {p:Addr} {m:List V},G D=some (.lst (L.map fun p=>V.ref p.1))→G p=some (.tup m)→p≠D:=fun g e z=>by rw [z,g] at e; cases e
  refine ⟨hDn,(by rw [AA,Ll]; exact Aa hi (by decide)),wd_next hi ⟨_,_,L++[(t2,t1)],rfl,by rw [AG]; rfl,by rw [AI,Ll]; rfl,fun j p kv' hp hk=>?_,by rw [upd_ne (Ne.symm nDs)]; exact vv _ _ hs5,fun x o n e=>by rw [upd_ne (ne_of_none e hD1)]; exact vv _ _ (k5 x o n e),upd_same⟩⟩
  rcases snoc_get hp with ⟨_,h1⟩ | ⟨rfl,rfl⟩
  ·obtain ⟨g1,g2⟩:=hL j p kv' h1 hk
   exact ⟨by rw [upd_ne (tupne hD5 g1)]; exact vv _ _ g1,by rw [upd_ne (tupne hD5 g2)]; exact vv _ _ g2⟩
  ·rw [Ll,hkv'] at hk
   cases hk
   have g2:=v3 _ _ (upd_same (a:=t1) (o:=.tup [kv.2,kv.2]))
   exact ⟨by rw [upd_ne (tupne hDn upd_same)]; exact upd_same,by rw [upd_ne (tupne hDn g2)]; exact g2⟩
 rw [kl] at hend
 subst hend
 refine ⟨hs5,?_⟩
 have k6:Same H (upd H5 A.sd (.dK kvs)):=fun x o e=>by
  by_cases hx:x=A.sd
  ·subst hx
   rw [hsd] at e
   cases e
   exact upd_same
  ·rw [upd_ne hx]
   exact k5 x o hx e
 obtain ⟨⟨a1,b1⟩,⟨a2,b2⟩,⟨a3,b3⟩,rfl⟩:∃ p1 p2 p3,L=[p1,p2,p3]:=by
  match L,Ll with
  | [p1,p2,p3],_=>exact ⟨p1,p2,p3,rfl⟩
 subst hkv
 obtain ⟨x1,x2⟩:=hL 0 _ _ rfl rfl
 obtain ⟨y1,y2⟩:=hL 1 _ _ rfl rfl
 obtain ⟨z1,z2⟩:=hL 2 _ _ rfl rfl
 have tn:∀ {p:Addr} {m:List V},H5 p=some (.tup m)→upd H5 A.sd (.dK [(Sum.inr "x",.int S.x),(Sum.inr "y",.int S.y),(Sum.inr "z",.int S.z)]) p=some (.tup m):=fun e=>by rw [upd_ne (fun z=>by rw [z,hs5] at e; cases e)]; exact e
 have hD6:upd H5 A.sd (.dK [(Sum.inr "x",.int S.x),(Sum.inr "y",.int S.y),(Sum.inr "z",.int S.z)]) D=some (.lst [.ref a1,.ref a2,.ref a3]):=by rw [upd_ne nDs]; exact hD5
 replace x1:=tn x1
 replace x2:=tn x2
 replace y1:=tn y1
 replace y2:=tn y2
 replace z1:=tn z1
 replace z2:=tn z2
 generalize upd H5 A.sd (.dK [(Sum.inr "x",.int S.x),(Sum.inr "y",.int S.y),(Sum.inr "z",.int S.z)])=H6 at k6 x1 x2 y1 y2 z1 z2 hD6
 refine ⟨D,[(a1,Sum.inr "x",.ref b1),(a2,Sum.inr "y",.ref b2),(a3,Sum.inr "z",.ref b3)],rfl,hD6,?_,fun wy hwy=>?_⟩
 ·intro t ht
  simp only [AW,List.not_mem_nil,or_false] at ht
  rcases ht with rfl | rfl | rfl
  ·exact x1
  ·exact y1
  ·exact z1
 have u7:=same_upd hwy (.dK [(Sum.inr "x",.ref b1),(Sum.inr "y",.ref b2),(Sum.inr "z",.ref b3)])
 have e7:upd H6 wy (.dK [(Sum.inr "x",.ref b1),(Sum.inr "y",.ref b2),(Sum.inr "z",.ref b3)]) wy=some (.dK [(Sum.inr "x",.ref b1),(Sum.inr "y",.ref b2),(Sum.inr "z",.ref b3)]):=upd_same
 have ea:putAllK [] (([(a1,Sum.inr "x",.ref b1),(a2,Sum.inr "y",.ref b2),(a3,Sum.inr "z",.ref b3)]:List (Addr×Key×V)).map (·.2))=([(Sum.inr "x",.ref b1),(Sum.inr "y",.ref b2),(Sum.inr "z",.ref b3)]:List (Key×V)):=by with_unfolding_all rfl
 rw [ea]
 generalize upd H6 wy (.dK [(Sum.inr "x",.ref b1),(Sum.inr "y",.ref b2),(Sum.inr "z",.ref b3)])=H7 at u7 e7
 refine ⟨_,rfl,_,rfl,_,_,rfl,_,rfl,_,rfl,_,_,rfl,le2,fun t ht=>?_⟩
 have u8:=same_upd ht (.tup [V.int (mn (S.at_ a) to),.int (mx (S.at_ a) to)])
 have s7:=k6.trans u7
 have nwy:H wy=none:=k6.free hwy
 have fin:∀ kvs',Same H (upd (upd H7 t (.tup [V.int (mn (S.at_ a) to),.int (mx (S.at_ a) to)])) wy (.dK kvs')):=fun kvs'=>same_in (s7.trans u8) nwy
 have keep:∀ {p:Addr} {m:List V} {kvs':List (Key×V)},H6 p=some (.tup m)→upd (upd H7 t (.tup [V.int (mn (S.at_ a) to),.int (mx (S.at_ a) to)])) wy (.dK kvs') p=some (.tup m):=fun e=>by rw [upd_ne (fun z=>by rw [z,hwy] at e; cases e)]; exact u8 _ _ (u7 _ _ e)
 have nt:t≠wy:=fun z=>by rw [z,e7] at ht; cases ht
 have et:∀ kvs',upd (upd H7 t (.tup [V.int (mn (S.at_ a) to),.int (mx (S.at_ a) to)])) wy (.dK kvs') t=some (.tup [V.int (mn (S.at_ a) to),.int (mx (S.at_ a) to)]):=fun kvs'=>by rw [upd_ne nt,upd_same]
 rcases ax with rfl | rfl | rfl
 ·refine ⟨_,rfl,_,rfl,wy,_,rfl,DPut.k (k:=Sum.inr "x") (u8 _ _ e7) (show 3 < AL by decide),_,rfl,q wy _ (fin _) ⟨t,b2,b3,?_,?_,?_,?_⟩⟩
  ·rw [upd_same]
   with_unfolding_all rfl
  ·rw [wlo_same,whi_same]
   exact et _
  ·rw [wlo_ne S to xy,whi_ne S to xy,at_y]
   exact keep y2
  ·rw [wlo_ne S to xz,whi_ne S to xz,at_z]
   exact keep z2
 ·refine ⟨_,rfl,_,rfl,wy,_,rfl,DPut.k (k:=Sum.inr "y") (u8 _ _ e7) (show 3 < AL by decide),_,rfl,q wy _ (fin _) ⟨b1,t,b3,?_,?_,?_,?_⟩⟩
  ·rw [upd_same]
   with_unfolding_all rfl
  ·rw [wlo_ne S to (Ne.symm xy),whi_ne S to (Ne.symm xy),at_x]
   exact keep x2
  ·rw [wlo_same,whi_same]
   exact et _
  ·rw [wlo_ne S to yz,whi_ne S to yz,at_z]
   exact keep z2
 ·refine ⟨_,rfl,_,rfl,wy,_,rfl,DPut.k (k:=Sum.inr "z") (u8 _ _ e7) (show 3 < AL by decide),_,rfl,q wy _ (fin _) ⟨b1,b2,t,?_,?_,?_,?_⟩⟩
  ·rw [upd_same]
   with_unfolding_all rfl
  ·rw [wlo_ne S to (Ne.symm xz),whi_ne S to (Ne.symm xz),at_x]
   exact keep x2
  ·rw [wlo_ne S to (Ne.symm yz),whi_ne S to (Ne.symm yz),at_y]
   exact keep y2
  ·rw [wlo_same,whi_same]
   exact et _
end
end Car.Ce
namespace Car.Ce
open PySem L2 Car
def FrA (A:CA) (H H':Hp):Prop:=∀ x o,x≠A.cv→x≠A.sd→x ∉ A.rs→H x=some o→H' x=some o
theorem FrA.of {A:CA} {H H':Hp} (s:Same H H'):FrA A H H':=fun x o _ _ _ e=>s x o e
theorem FrA.trans {A:CA} {H H1 H2:Hp} (h:FrA A H H1) (g:FrA A H1 H2):FrA A H H2:=fun x o a b c e=>g x o a b c (h x o a b c e)
section
variable {CV CC:Addr} {H0 H H1 H':Hp} {A:CA} {ts:List Tool} {S:CS}
theorem CIn.out (M:CIn CV CC H0 H A ts S):A.cv ∉ A.rs∧A.cells ∉ A.rs∧A.sd ∉ A.rs∧A.cv≠A.sd∧A.R≠A.cv∧A.R≠A.sd∧A.cells≠A.sd∧A.R≠A.cells:=by
 obtain ⟨dx,cu,e,_⟩:=M.ob
 obtain ⟨kx,e2⟩:=M.cl.ob
 have l:∀ r∈A.rs,∃ xs,H r=some (.lst xs):=fun r hr=>M.cl.ra.mem hr
 refine ⟨fun z=>?_,fun z=>?_,fun z=>?_,fun z=>?_,fun z=>?_,fun z=>?_,fun z=>?_,fun z=>?_⟩
 ·obtain ⟨xs,h⟩:=l _ z
  rw [e] at h
  cases h
 ·obtain ⟨xs,h⟩:=l _ z
  rw [e2] at h
  cases h
 ·obtain ⟨xs,h⟩:=l _ z
  rw [M.sd] at h
  cases h
 ·rw [z,M.sd] at e
  cases e
 ·have h:=M.cl.hR
  rw [z,e] at h
  cases h
 ·have h:=M.cl.hR
  rw [z,M.sd] at h
  cases h
 ·rw [z,M.sd] at e2
  cases e2
 ·have h:=M.cl.hR
  rw [z,e2] at h
  cases h
theorem CIn.cutd (M:CIn CV CC H0 H A ts S) {rows':List (List Int)} (k:Kp A.rs H H') (ra:RowsAt H' A.rs rows') (al:Alike S.rows rows'):CIn CV CC H0 H' A ts { S with rows:=rows' }:=by
 obtain ⟨dx,cu,e,h⟩:=M.ob
 obtain ⟨kx,e2⟩:=M.cl.ob
 obtain ⟨o1,o2,o3,_⟩:=M.out
 exact ⟨k.same M.sm M.nrs,M.ncv,M.nR0,M.nsd,M.nrs,M.shelf,M.feet,⟨dx,cu,k _ _ o1 e,h⟩,⟨⟨kx,k _ _ o2 e2⟩,k _ _ M.nR M.cl.hR,ra⟩,M.nd,M.nR,k _ _ o3 M.sd,al.rect M.rect,⟨by rw [← al.1]; exact M.small.1,fun r hr=>by
  obtain ⟨i,hi⟩:=A8 hr
  have hia:i < S.rows.length:=by rw [al.1]; exact (AE.mp hi).1
  rw [← al.2 i _ _ (AB hia) hi]
  exact M.small.2 _ (Ak hia)⟩,by show ins rows' (S.x,S.y)=true; rw [← al.ins]; exact M.inb,M.zb⟩
theorem CIn.way (M:CIn CV CC H0 H A ts S) {a:Str} {to:Int} (ax:IsAx a) (rm:roomF S a to=true) :
  whi S a to "x"=wlo S a to "x" + (nW S a to "x":Int) - 1∧whi S a to "y"=wlo S a to "y" + (nW S a to "y":Int) - 1∧nW S a to "x"≤40∧nW S a to "y"≤40∧0≤wlo S a to "x"∧wlo S a to "x"≤1000∧0≤wlo S a to "y"∧wlo S a to "y"≤1000:=by
 have b:=in_lt M.inb M.small M.rect
 have mnx:∀ p q:Int,mn p q≤mx p q∧(mn p q=p∨mn p q=q)∧(mx p q=p∨mx p q=q):=fun p q=>by
  unfold mn mx
  split <;> split <;> lia
 unfold nW
 rcases ax with rfl | rfl | rfl
 ·have b2:0≤to∧to < 40∧_:=in_lt (show ins S.rows (to,S.y)=true from rm) M.small M.rect
  rw [wlo_same,whi_same,wlo_ne S to xy,whi_ne S to xy,at_x,at_y]
  have:=mnx S.x to
  lia
 ·have rm':ins S.rows (S.x,to)=true:=by
   unfold roomF at rm
   rw [if_neg (Ne.symm xy),if_pos rfl] at rm
   exact rm
  have b2:=in_lt rm' M.small M.rect
  rw [wlo_same,whi_same,wlo_ne S to (Ne.symm xy),whi_ne S to (Ne.symm xy),at_x,at_y]
  have:=mnx S.y to
  lia
 ·rw [wlo_ne S to (Ne.symm xz),whi_ne S to (Ne.symm xz),wlo_ne S to (Ne.symm yz),whi_ne S to (Ne.symm yz),at_x,at_y]
  lia
theorem CIn.stand (M:CIn CV CC H0 H A ts S) {a:Str} {to:Int} (ax:IsAx a) (rm:roomF S a to=true):CIn CV CC H0 (upd H A.sd (.dK (putK [(Sum.inr "x",.int S.x),(Sum.inr "y",.int S.y),(Sum.inr "z",.int S.z)] (Sum.inr a:Key) (.int to)))) A ts (S.to_ a to):=by
 obtain ⟨dx,cu,e,h⟩:=M.ob
 obtain ⟨kx,e2⟩:=M.cl.ob
 obtain ⟨o1,o2,o3,o4,o5,o6,o7,_⟩:=M.out
 have kp:∀ x o,x≠A.sd→H x=some o→upd H A.sd (.dK (putK [(Sum.inr "x",.int S.x),(Sum.inr "y",.int S.y),(Sum.inr "z",.int S.z)] (Sum.inr a:Key) (.int to))) x=some o:=fun x o n q=>by rw [upd_ne n]; exact q
 have ecut:(S.to_ a to).cut=S.cut∧(S.to_ a to).rows=S.rows:=by
  unfold CS.to_
  split
  ·exact ⟨rfl,rfl⟩
  ·split <;> exact ⟨rfl,rfl⟩
 refine ⟨same_in M.sm M.nsd,M.ncv,M.nR0,M.nsd,M.nrs,M.shelf,M.feet,⟨dx,cu,kp _ _ o4 e,by rw [ecut.1]; exact h⟩,⟨⟨kx,kp _ _ o7 e2⟩,kp _ _ o6 M.cl.hR,by rw [ecut.2]; exact M.cl.ra.keep fun r hr o q=>kp r o (fun z=>o3 (by rw [← z]; exact hr)) q⟩,M.nd,M.nR,?_,by rw [ecut.2]; exact M.rect,by rw [ecut.2]; exact M.small,?_,?_⟩
 ·rw [upd_same]
  rcases ax with rfl | rfl | rfl <;> with_unfolding_all rfl
 ·rw [ecut.2]
  rcases ax with rfl | rfl | rfl
  ·exact rm
  ·unfold roomF at rm
   rw [if_neg (Ne.symm xy),if_pos rfl] at rm
   unfold CS.to_
   rw [if_neg (Ne.symm xy),if_pos rfl]
   exact rm
  ·unfold CS.to_
   rw [if_neg (Ne.symm xz),if_neg (Ne.symm yz)]
   exact M.inb
 ·rcases ax with rfl | rfl | rfl
  ·exact M.zb
  ·unfold CS.to_
   rw [if_neg (Ne.symm xy),if_pos rfl]
   exact M.zb
  ·unfold roomF at rm
   rw [if_neg (Ne.symm xz),if_neg (Ne.symm yz)] at rm
   unfold CS.to_
   rw [if_neg (Ne.symm xz),if_neg (Ne.symm yz)]
   exact of_decide_eq_true rm
end
end Car.Ce
namespace Car.Ce
open PySem L2 Car
section
variable {P:Program} {w:World} {K:PySem.W.Frag} {mg:Str→Option Value} {base:Heap} {CV CC C fI f:Addr} {fd fd':FuncData}
inductive PspPass (K:PySem.W.Frag) (C CV CC:Addr) (vs:List V) (H:Hp) (Q:VK) (E:XK):Prop
 | mk (H0:Hp) (A:CA) (ts:List Tool) (S:CS) (t:Tool) (wy:Addr) (x0 y0 z0 z1:Int) (nx ny:Nat) (h0:vs=[.ref A.cv,.ref wy]) (h1:CIn CV CC H0 H A ts S) (h2:S.cut=some t) (h3:WyAt H wy x0 (x0 + (nx:Int) - 1) y0 (y0 + (ny:Int) - 1) z0 z1) (h4:nx≤40) (h5:ny≤40) (h6:-1000≤x0) (h7:x0≤1000) (h8:-1000≤y0) (h9:y0≤1000) (h10:if risF S.rows (undW S.rows t.1 x0 nx y0 ny) z0=true then XE K C H E (dF "crash") else ∀ H',Same H H'→Q (.int 0) H'):PspPass K C CV CC vs H Q E
def spPass (K:PySem.W.Frag) (C CV CC:Addr):Sp:=fun vs H Q E=>PspPass K C CV CC vs H Q E
theorem ok_pass (VV:VT K mg CV CC) (FS:FaT P w K mg base C fI fd) (MU:Mt P w K mg base CC "under" 2 ["self","foot","way"] (spUnd CC)) (MR:Mt P w K mg base CC "rises_above" 1 ["self","under","height"] (spRises CC)) (F:Fun K "pass_over" "Carver.pass_over" sPass f fd'):FnOk P w K mg base (CX1 P w) 3 f fd' ["self","way"] (spPass K C CV CC):=by
 have nd:=scPass.nd
 refine F.ok1 scPass (fun vs H Q E h=>?_) (fun cdv A outer s H vs Q E hr h=>?_)
 ·obtain ⟨H0,A,ts,S,t,wy,x0,y0,z0,z1,nx,ny,rfl,_⟩:=h
  rfl
 obtain ⟨H0,A,ts,S,t,wy,x0,y0,z0,z1,nx,ny,rfl,M,hcut,W,nx40,ny40,xa,xb,ya,yb,q⟩:=h
 have hr1:Room 1 _:=hr.mono (by decide)
 have hu:=hu_of' hr
 refine ⟨_,(pss_cons (ps_set (i:=2) nd rfl (Or.inl rfl) (pf_meth MU (pe_fld (pv 0) rfl) hr (pass1 (E:=E)) (pa_cons (pe_ix (ix_tupK (K:=K) rfl) (pe_fld (pv 0) rfl) pe_int (fun _ _=>rfl)) (pa_cons (pv 1) pa_nil))))
  (pss_cons (ps_if (pt_truth (pf_meth MR (pe_fld (pv 0) rfl) hr1 (pass1 (E:=E)) (pa_cons (pv 2) (pa_cons (pe_ix (ix_tupK (K:=K) rfl) (pe_dget hu (pv 1) pe_str (fun _ _=>rfl)) pe_int (fun _ _=>rfl)) pa_nil))) (fun _=>rfl)) (pss_one (ps_raiseI FS.S rfl rfl rfl flies1 FS.ok hr FS.bi (pa_cons (pe_tup (pa_cons pe_str pa_nil)) pa_nil))) pss_nil)
  (pss_one (ps_ret pe_int)))),?_⟩
 obtain ⟨dx,cu,hcv,hcu⟩:=M.ob
 obtain ⟨kx,hcl⟩:=M.cl.ob
 rw [hcut] at hcu
 obtain ⟨htm,ct,rfl,hct⟩:=hcu
 obtain ⟨ft,hc1,hft⟩:=hct.same M.sm
 have f100:=M.feet t htm
 refine ⟨_,rfl,A.cv,CV,dx,_,_,rfl,hcv,VV.clV,VV.nStuff,rfl,A.cells,kx,_,rfl,hcl,rfl,_,rfl,A.cv,CV,dx,_,_,rfl,hcv,VV.clV,VV.nCutter,rfl,ct,_,0,.ref ft,rfl,rfl,SqT.of hc1,rfl,_,rfl,A.cells,A.R,ft,wy,A.rs,S.rows,t.1,x0,y0,z0,z1,nx,ny,rfl,M.cl,M.rect,hft,W,f100,nx40,ny40,xa,xb,ya,yb,fun u H1 nu s1 hu1=>?_⟩
 obtain ⟨ul,uin⟩:=undW_ok (rows:=S.rows) (x0:=x0) (y0:=y0) f100 nx40 ny40
 have M1:=M.same s1
 have W1:=W.same s1
 obtain ⟨tx,ty,tz,w1,w2,w3,w4⟩:=W1
 have gz:DGet H1 wy (.str "z") (some (.ref tz)):=DGet.k (k:=Sum.inr "z") w1
 refine ⟨_,rfl,A.cv,CV,dx,_,_,rfl,s1 _ _ hcv,VV.clV,VV.nStuff,rfl,A.cells,kx,_,rfl,s1 _ _ hcl,rfl,_,rfl,_,rfl,wy,_,rfl,gz,tz,_,0,.int z0,rfl,rfl,SqT.of w4,rfl,A.cells,A.R,u,A.rs,S.rows,_,z0,rfl,M1.cl,M.rect,hu1,ul,uin,fun H2 s2=>⟨_,rfl,?_⟩⟩
 have s12:=s1.trans s2
 refine ite2 (fun h1=>?_) (fun h1=>?_)
 ·rw [if_pos h1] at q
  refine ⟨le1,fun p hp=>⟨le1,?_⟩⟩
  exact fault_ok hp (.tup (SqT.of upd_same) (.cons (.str _) .nil)) (XE.from q s12)
 ·rw [if_neg h1] at q
  exact q _ s12
inductive PspAlong (K:PySem.W.Frag) (C CV CC:Addr) (vs:List V) (H:Hp) (Q:VK) (E:XK):Prop
 | mk (H0:Hp) (A:CA) (ts:List Tool) (S:CS) (t:Tool) (wy:Addr) (x0 y0 z0 z1:Int) (nx ny:Nat) (h0:vs=[.ref A.cv,.ref wy]) (h1:CIn CV CC H0 H A ts S) (h2:S.cut=some t) (h3:WyAt H wy x0 (x0 + (nx:Int) - 1) y0 (y0 + (ny:Int) - 1) z0 z1) (h4:nx≤40) (h5:ny≤40) (h6:-1000≤x0) (h7:x0≤1000) (h8:-1000≤y0) (h9:y0≤1000) (h10:if risF S.rows (undW S.rows t.1 x0 nx y0 ny) (z0 + t.2)=true then XE K C H E (dF "bite") else ∀ H',FrA A H H'→CIn CV CC H0 H' A ts { S with rows:=(dwn S.rows (undW S.rows t.1 x0 nx y0 ny) z0).1 }→Q (.int (dwn S.rows (undW S.rows t.1 x0 nx y0 ny) z0).2) H'):PspAlong K C CV CC vs H Q E
def spAlong (K:PySem.W.Frag) (C CV CC:Addr):Sp:=fun vs H Q E=>PspAlong K C CV CC vs H Q E
theorem ok_along (VV:VT K mg CV CC) (FS:FaT P w K mg base C fI fd) (MU:Mt P w K mg base CC "under" 2 ["self","foot","way"] (spUnd CC)) (MR:Mt P w K mg base CC "rises_above" 1 ["self","under","height"] (spRises CC)) (MD:Mt P w K mg base CC "cut_down" 1 ["self","under","height"] (spDown CC)) (F:Fun K "cut_along" "Carver.cut_along" sAlong f fd'):FnOk P w K mg base (CX1 P w) 3 f fd' ["self","way"] (spAlong K C CV CC):=by
 have nd:=scAlong.nd
 refine F.ok1 scAlong (fun vs H Q E h=>?_) (fun cdv A outer s H vs Q E hr h=>?_)
 ·obtain ⟨H0,A,ts,S,t,wy,x0,y0,z0,z1,nx,ny,rfl,_⟩:=h
  rfl
 obtain ⟨H0,A,ts,S,t,wy,x0,y0,z0,z1,nx,ny,rfl,M,hcut,W,nx40,ny40,xa,xb,ya,yb,q⟩:=h
 have hr1:Room 1 _:=hr.mono (by decide)
 have hu:=hu_of' hr
 refine ⟨_,(pss_cons (ps_set (i:=2) nd rfl (Or.inl rfl) (pf_meth MU (pe_fld (pv 0) rfl) hr (pass1 (E:=E)) (pa_cons (pe_ix (ix_tupK (K:=K) rfl) (pe_fld (pv 0) rfl) pe_int (fun _ _=>rfl)) (pa_cons (pv 1) pa_nil))))
  (pss_cons (ps_set (i:=3) nd rfl (Or.inl rfl) (pe_ix (ix_tupK (K:=K) rfl) (pe_dget hu (pv 1) pe_str (fun _ _=>rfl)) pe_int (fun _ _=>rfl)))
  (pss_cons (ps_if (pt_truth (pf_meth MR (pe_fld (pv 0) rfl) hr1 (pass1 (E:=E)) (pa_cons (pv 2) (pa_cons (pe_op op_add (pv 3) (pe_ix (ix_tupK (K:=K) rfl) (pe_fld (pv 0) rfl) pe_int (fun _ _=>rfl))) pa_nil))) (fun _=>rfl)) (pss_one (ps_raiseI FS.S rfl rfl rfl flies1 FS.ok hr FS.bi (pa_cons (pe_tup (pa_cons pe_str pa_nil)) pa_nil))) pss_nil)
  (pss_one (ps_ret (pf_meth MD (pe_fld (pv 0) rfl) hr1 (pass1 (E:=E)) (pa_cons (pv 2) (pa_cons (pv 3) pa_nil)))))))),?_⟩
 obtain ⟨dx,cu,hcv,hcu⟩:=M.ob
 obtain ⟨kx,hcl⟩:=M.cl.ob
 rw [hcut] at hcu
 obtain ⟨htm,ct,rfl,hct⟩:=hcu
 obtain ⟨ft,hc1,hft⟩:=hct.same M.sm
 have f100:=M.feet t htm
 refine ⟨_,rfl,A.cv,CV,dx,_,_,rfl,hcv,VV.clV,VV.nStuff,rfl,A.cells,kx,_,rfl,hcl,rfl,_,rfl,A.cv,CV,dx,_,_,rfl,hcv,VV.clV,VV.nCutter,rfl,ct,_,0,.ref ft,rfl,rfl,SqT.of hc1,rfl,_,rfl,A.cells,A.R,ft,wy,A.rs,S.rows,t.1,x0,y0,z0,z1,nx,ny,rfl,M.cl,M.rect,hft,W,f100,nx40,ny40,xa,xb,ya,yb,fun u H1 nu s1 hu1=>?_⟩
 obtain ⟨ul,uin⟩:=undW_ok (rows:=S.rows) (x0:=x0) (y0:=y0) f100 nx40 ny40
 have M1:=M.same s1
 have W1:=W.same s1
 obtain ⟨tx,ty,tz,w1,w2,w3,w4⟩:=W1
 have gz:DGet H1 wy (.str "z") (some (.ref tz)):=DGet.k (k:=Sum.inr "z") w1
 have hcv1:=s1 _ _ hcv
 have hc11:=s1 _ _ hc1
 have hcl1:=s1 _ _ hcl
 refine ⟨_,rfl,wy,_,rfl,gz,tz,_,0,.int z0,rfl,rfl,SqT.of w4,rfl,?_⟩
 refine ⟨_,rfl,A.cv,CV,dx,_,_,rfl,hcv1,VV.clV,VV.nStuff,rfl,A.cells,kx,_,rfl,hcl1,rfl,_,rfl,_,rfl,_,rfl,A.cv,CV,dx,_,_,rfl,hcv1,VV.clV,VV.nCutter,rfl,ct,_,1,.int t.2,rfl,rfl,SqT.of hc11,rfl,_,_,rfl,rfl,A.cells,A.R,u,A.rs,S.rows,_,z0 + t.2,rfl,M1.cl,M.rect,hu1,ul,uin,fun H2 s2=>⟨_,rfl,?_⟩⟩
 have s12:=s1.trans s2
 refine ite2 (fun h1=>?_) (fun h1=>?_)
 ·rw [if_pos h1] at q
  refine ⟨le1,fun p hp=>⟨le1,?_⟩⟩
  exact fault_ok hp (.tup (SqT.of upd_same) (.cons (.str _) .nil)) (XE.from q s12)
 ·rw [if_neg h1] at q
  have M2:=M1.same s2
  have nu2:u ∉ A.rs:=fun z=>by
   obtain ⟨xs,hx⟩:=M.cl.ra.mem z
   rw [hx] at nu
   cases nu
  refine ⟨_,rfl,A.cv,CV,dx,_,_,rfl,s2 _ _ hcv1,VV.clV,VV.nStuff,rfl,A.cells,kx,_,rfl,s2 _ _ hcl1,rfl,_,rfl,_,rfl,A.cells,A.R,u,A.rs,S.rows,_,z0,rfl,M2.cl,M.rect,M.nd,M.nR,nu2,hu1.same s2,uin,fun H3 k3 ra3=>?_⟩
  have al:Alike S.rows (dwn S.rows (undW S.rows t.1 x0 nx y0 ny) z0).1:=by
   unfold dwn
   rw [dwn_fst]
   exact cuts_alike _ _
  exact q H3 (fun x o _ _ n e=>k3 x o n (s12 x o e)) (M2.cutd k3 ra3 al)
end
end Car.Ce
namespace Car.Ce
open PySem L2 Car
section
variable {P:Program} {w:World} {K:PySem.W.Frag} {mg:Str→Option Value} {base:Heap} {CV CC C fI f:Addr} {fd fd':FuncData}
def ResC (K:PySem.W.Frag) (C CV CC:Addr) (H0 H:Hp) (A:CA) (ts:List Tool) (Q:VK) (E:XK):Except Str (Int×CS)→Prop
 | .ok r=>∀ H',FrA A H H'→CIn CV CC H0 H' A ts r.2→Q (.int r.1) H'
 | .error x=>XE K C H E (dF x)
inductive PspDoHold (K:PySem.W.Frag) (C CV CC:Addr) (vs:List V) (H:Hp) (Q:VK) (E:XK):Prop
 | mk (H0:Hp) (A:CA) (ts:List Tool) (S:CS) (n:Int) (h0:vs=[.ref A.cv,.int n]) (h1:CIn CV CC H0 H A ts S) (h2:ResC K C CV CC H0 H A ts Q E (stepC ts S (.hold n))):PspDoHold K C CV CC vs H Q E
def spDoHold (K:PySem.W.Frag) (C CV CC:Addr):Sp:=fun vs H Q E=>PspDoHold K C CV CC vs H Q E
theorem ok_doHold (T:LawT mg) (VV:VT K mg CV CC) (FS:FaT P w K mg base C fI fd) (F:Fun K "do_hold" "Carver.do_hold" sDoHold f fd'):FnOk P w K mg base (CX1 P w) 3 f fd' ["self","number"] (spDoHold K C CV CC):=by
 have nd:=scDoHold.nd
 refine F.ok1 scDoHold (fun vs H Q E h=>?_) (fun cdv A outer s H vs Q E hr h=>?_)
 ·obtain ⟨H0,A,ts,S,n,rfl,_⟩:=h
  rfl
 obtain ⟨H0,A,ts,S,n,rfl,M,q⟩:=h
 have hu:=hu_of' hr
 obtain ⟨tt,htop⟩:=VV.top
 refine ⟨_,(pss_cons (ps_if (pt_not (pt_chain op_le op_lt pe_int (pv 1) (pe_callB (call_lenK (K:=K) rfl) rfl T.len Ao (pa_cons (pe_fld (pv 0) rfl) pa_nil)))) (pss_one (ps_raiseI FS.S rfl rfl rfl flies1 FS.ok hr FS.bi (pa_cons (pe_tup (pa_cons pe_str pa_nil)) pa_nil))) pss_nil)
  (pss_cons (ps_if (pt_cmpR op_ne (pe_dget hu (pe_fld (pv 0) rfl) pe_str (fun _ _=>rfl)) (pe_glob (v:=.int 1000) rfl htop ⟨_,rfl⟩) (nomark _)) (pss_one (ps_raiseI FS.S rfl rfl rfl flies1 FS.ok hr FS.bi (pa_cons (pe_tup (pa_cons pe_str pa_nil)) pa_nil))) pss_nil)
  (pss_cons (ps_fld (pv 0) (pe_ix (ix_listK (K:=K) rfl) (pe_fld (pv 0) rfl) (pv 1) (fun _ _=>rfl)) rfl)
  (pss_one (ps_ret pe_int))))),?_⟩
 obtain ⟨dx,cu,hcv,hcu⟩:=M.ob
 obtain ⟨cts,hsh0,hct0⟩:=id M.shelf
 have hsh:=M.sm _ _ hsh0
 have ctl:=hct0.len
 have gz:DGet H A.sd (.str "z") (some (.int S.z)):=DGet.k (k:=Sum.inr "z") M.sd
 have bad:∀ x:Str,¬ (0≤n∧n < ts.length)→XE K C H E (dF "shelf"):=fun _ h=>by
  rw [show stepC ts S (.hold n)=.error "shelf" from if_neg h] at q
  exact q
 refine ⟨_,rfl,_,_,rfl,rfl,_,rfl,?_⟩
 have raise:XE K C H E (dF "shelf")→1≤AL∧∀ p,H p=none→1≤AL∧∀ e,upd H p (.tup [.str "shelf"]) e=none→spFault C [.ref e,.ref p] (upd (upd H p (.tup [.str "shelf"])) e (ExcN e C)) (fun v H2=>v=.non∧∃ dx,H2 e=some (ExcD e C dx)∧E (.ref C) (some dx) (drop H2 e)) E0:=fun h=>⟨le1,fun p hp=>⟨le1,fault_ok hp (.tup (SqT.of upd_same) (.cons (.str _) .nil)) h⟩⟩
 refine ite2 (fun h1=>?_) (fun h1=>?_)
 ·have h1':=of_decide_eq_true h1
  refine ⟨_,rfl,A.cv,CV,dx,_,_,rfl,hcv,VV.clV,VV.nShelf,rfl,A.sh,_,rfl,.inl (SqL.of hsh),_,_,rfl,rfl,_,rfl,?_⟩
  refine ite2 (fun h2=>?_) (fun h2=>?_)
  ·have h2':¬ n < ((cts.map V.ref).length:Int):=fun z=>by
    rw [decide_eq_true z] at h2
    cases h2
   exact raise (bad "" fun z=>h2' (by rw [AA,ctl]; exact z.2))
  ·have h2':n < (ts.length:Int):=by
    have:decide (n < ((cts.map V.ref).length:Int))=true:=by
     cases e:decide (n < ((cts.map V.ref).length:Int)) with
     | true=>rfl
     | false=>rw [e] at h2; exact absurd rfl h2
    have:=of_decide_eq_true this
    rw [AA,ctl] at this
    exact this
   have es:stepC ts S (.hold n)=(if S.z=1000 then (match ts[n.toNat]? with | some t=>.ok (0,{ S with cut:=some t }) | none=>.error "shelf") else .error "low"):=if_pos ⟨h1',h2'⟩
   rw [es] at q
   refine ⟨_,rfl,A.cv,CV,dx,_,_,rfl,hcv,VV.clV,VV.nStands,rfl,A.sd,_,rfl,gz,rfl,_,rfl,?_⟩
   refine ite2 (fun h3=>?_) (fun h3=>?_)
   ·have h3':¬ S.z=1000:=fun z=>by
     rw [z,show decide (V.int 1000=V.int 1000)=true from decide_eq_true rfl] at h3
     cases h3
    rw [if_neg h3'] at q
    exact ⟨le1,fun p hp=>⟨le1,fault_ok hp (.tup (SqT.of upd_same) (.cons (.str _) .nil)) q⟩⟩
   ·have h3':S.z=1000:=by
     apply Classical.byContradiction
     intro z
     rw [show decide (V.int S.z=V.int 1000)=false from decide_eq_false fun e=>z (V.int.inj e)] at h3
     exact h3 rfl
    rw [if_pos h3'] at q
    obtain ⟨i,rfl⟩:∃ i:Nat,n=(i:Int):=⟨n.toNat,by lia⟩
    have hi:i < cts.length:=by lia
    have ei:=AB hi
    obtain ⟨t,et,hct⟩:=hct0.at_ ei
    generalize cts[i]=ct at ei hct
    rw [Aj,et] at q
    have q':∀ H',FrA A H H'→CIn CV CC H0 H' A ts { S with cut:=some t }→Q (.int 0) H':=q
    refine ⟨_,rfl,A.cv,CV,dx,_,_,rfl,hcv,VV.clV,VV.nShelf,rfl,_,rfl,A.sh,_,_,.ref ct,rfl,rfl,SqL.of hsh,atI_nat (by rw [AF,ei]; rfl),_,rfl,A.cv,CV,dx,_,rfl,hcv,VV.clV,VV.nCutter,(by show 4 < 1000; decide),?_⟩
    obtain ⟨o1,o2,o3,o4,o5,o6,o7,o8⟩:=M.out
    obtain ⟨kx,hcl⟩:=M.cl.ob
    have ncc:A.cells≠A.cv:=fun z=>by
     rw [z,hcv] at hcl
     simp at hcl
    have kp:∀ x o u,x≠A.cv→H x=some o→upd H A.cv u x=some o:=fun x o u hx e=>by rw [upd_ne hx]; exact e
    refine q' _ (fun x o hx _ _ e=>kp x o _ hx e) ⟨same_in M.sm M.ncv,M.ncv,M.nR0,M.nsd,M.nrs,M.shelf,M.feet,⟨dx,.ref ct,upd_same,A5 et,ct,rfl,hct⟩,⟨⟨kx,kp _ _ _ ncc hcl⟩,kp _ _ _ o5 M.cl.hR,M.cl.ra.keep fun r hr o e=>kp r o _ (fun z=>o1 (by rw [← z]; exact hr)) e⟩,M.nd,M.nR,kp _ _ _ (Ne.symm o4) M.sd,M.rect,M.small,M.inb,M.zb⟩
 ·exact ⟨_,rfl,iteT (raise (bad "" fun z=>h1 (decide_eq_true z.1)))⟩
inductive PspDoMove (K:PySem.W.Frag) (C CV CC:Addr) (vs:List V) (H:Hp) (Q:VK) (E:XK):Prop
 | mk (H0:Hp) (A:CA) (ts:List Tool) (S:CS) (k a:Str) (to:Int) (h0:vs=[.ref A.cv,.str k,.str a,.int to]) (h1:CIn CV CC H0 H A ts S) (h2:IsAx a) (h3:ResC K C CV CC H0 H A ts Q E (stepC ts S (.go k a to))):PspDoMove K C CV CC vs H Q E
def spDoMove (K:PySem.W.Frag) (C CV CC:Addr):Sp:=fun vs H Q E=>PspDoMove K C CV CC vs H Q E
theorem ok_doMove (VV:VT K mg CV CC) (FS:FaT P w K mg base C fI fd) (MRm:Mt P w K mg base CV "has_room" 2 ["self","axis","to"] (spRoom CV CC)) (MW:Mt P w K mg base CV "way_to" 1 ["self","axis","to"] (spWayTo CV CC)) (MP:Mt P w K mg base CV "pass_over" 3 ["self","way"] (spPass K C CV CC)) (MA:Mt P w K mg base CV "cut_along" 3 ["self","way"] (spAlong K C CV CC))
  (F:Fun K "do_move" "Carver.do_move" sDoMove f fd'):FnOk P w K mg base (CX1 P w) 4 f fd' ["self","kind","axis","to"] (spDoMove K C CV CC):=by
 have nd:=scDoMove.nd
 refine F.ok1 scDoMove (fun vs H Q E h=>?_) (fun cdv A outer s H vs Q E hr h=>?_)
 ·obtain ⟨H0,A,ts,S,k,a,to,rfl,_⟩:=h
  rfl
 obtain ⟨H0,A,ts,S,k,a,to,rfl,M,ax,q⟩:=h
 have hu:=hu_of' hr
 have hr1:Room 1 _:=hr.mono (by decide)
 have hr2:Room 2 _:=hr.mono (by decide)
 refine ⟨_,(pss_cons (ps_if (pt_cmpR op_isN (pe_fld (pv 0) rfl) pe_non (nomark _)) (pss_one (ps_raiseI FS.S rfl rfl rfl flies1 FS.ok hr2 FS.bi (pa_cons (pe_tup (pa_cons pe_str pa_nil)) pa_nil))) pss_nil)
  (pss_cons (ps_if (pt_not (pt_truth (pf_meth MRm (pv 0) hr2 (pass1 (E:=E)) (pa_cons (pv 2) (pa_cons (pv 3) pa_nil))) (fun _=>rfl))) (pss_one (ps_raiseI FS.S rfl rfl rfl flies1 FS.ok hr2 FS.bi (pa_cons (pe_tup (pa_cons pe_str pa_nil)) pa_nil))) pss_nil)
  (pss_cons (ps_set (i:=4) nd rfl (Or.inl rfl) (pf_meth MW (pv 0) hr1 (pass1 (E:=E)) (pa_cons (pv 2) (pa_cons (pv 3) pa_nil))))
  (pss_mid (ps_if (pt_cmpR op_eq (pv 1) pe_str (nomark _)) (pss_one (ps_set (i:=5) nd rfl (Or.inl rfl) (pf_meth MP (pv 0) hr (pass1 (E:=E)) (pa_cons (pv 4) pa_nil)))) (pss_one (ps_set (i:=5) nd rfl (Or.inl rfl) (pf_meth MA (pv 0) hr (pass1 (E:=E)) (pa_cons (pv 4) pa_nil)))))
  (pss_cons (ps_dput hu (pe_fld (pv 0) rfl) (pv 2) (pv 3) rfl)
  (pss_one (ps_ret (pv 5)))))))),?_⟩
 obtain ⟨dx,cu,hcv,hcu⟩:=M.ob
 refine ⟨_,rfl,A.cv,CV,dx,_,_,rfl,hcv,VV.clV,VV.nCutter,rfl,rfl,_,rfl,?_⟩
 cases hcut:S.cut with
 | none =>
  rw [hcut] at hcu
  have e:cu=.non:=hcu
  subst e
  rw [stepC_none hcut] at q
  refine ite2 (fun _=>?_) (fun h1=>absurd (decide_eq_true rfl) h1)
  exact ⟨le1,fun p hp=>⟨le1,fault_ok hp (.tup (SqT.of upd_same) (.cons (.str _) .nil)) q⟩⟩
 | some t =>
  rw [hcut] at hcu
  obtain ⟨htm,ct,rfl,hct⟩:=hcu
  refine ite2 (fun h1=>?_) (fun _=>?_)
  ·have:=of_decide_eq_true h1
   cases this
  rw [stepC_some hcut] at q
  refine ⟨_,rfl,A.cv,dx,_,rfl,hcv,rfl,_,rfl,_,rfl,H0,A,ts,S,a,to,rfl,M,ax,_,rfl,?_⟩
  refine ite2 (fun h2=>?_) (fun h2=>?_)
  ·have rm:¬ roomF S a to=true:=fun z=>by rw [z] at h2; cases h2
   rw [if_neg rm] at q
   exact ⟨le1,fun p hp=>⟨le1,fault_ok hp (.tup (SqT.of upd_same) (.cons (.str _) .nil)) q⟩⟩
  have rm:roomF S a to=true:=by
   cases e:roomF S a to with
   | true=>rfl
   | false=>rw [e] at h2; exact absurd rfl h2
  rw [if_pos rm] at q
  obtain ⟨wx,wy',nx40,ny40,xa,xb,ya,yb⟩:=M.way ax rm
  refine ⟨_,rfl,A.cv,dx,_,rfl,hcv,rfl,_,rfl,_,rfl,H0,A,ts,S,a,to,rfl,M,ax,fun wy H1 s1 W=>?_⟩
  rw [wx,wy'] at W
  have M1:=M.same s1
  refine ⟨fun σ G=>Ex2 fun (tk:Int) (rows':List (List Int))=>cutR S t k a to=.ok (tk,rows')∧σ=[some (.ref A.cv),some (.str k),some (.str a),some (.int to),some (.ref wy),some (.int tk)]∧CIn CV CC H0 G A ts { S with rows:=rows' }∧FrA A H G,?_,?_⟩
  ·refine ⟨_,rfl,rfl,_,rfl,?_⟩
   refine ite2 (fun h3=>?_) (fun h3=>?_)
   ·have e3:k="fast":=V.str.inj (of_decide_eq_true h3)
    refine ⟨_,rfl,A.cv,dx,_,rfl,s1 _ _ hcv,rfl,_,rfl,H0,A,ts,S,t,wy,_,_,_,_,_,_,rfl,M1,hcut,W,nx40,ny40,(by lia),xb,(by lia),yb,?_⟩
    have ec:cutR S t k a to=if risF S.rows (undS S t a to) (wlo S a to "z")=true then .error "crash" else .ok (0,S.rows):=if_pos e3
    rw [ec] at q ⊢
    show if risF S.rows (undS S t a to) (wlo S a to "z")=true then _ else _
    by_cases hc:risF S.rows (undS S t a to) (wlo S a to "z")=true
    ·rw [if_pos hc] at q ⊢
     exact XE.from q s1
    ·rw [if_neg hc,if_neg hc]
     exact fun H2 s2=>⟨0,S.rows,rfl,rfl,M1.same s2,FrA.of (s1.trans s2)⟩
   ·have e3:¬ k="fast":=fun z=>h3 (decide_eq_true (congrArg V.str z))
    refine ⟨_,rfl,A.cv,dx,_,rfl,s1 _ _ hcv,rfl,_,rfl,H0,A,ts,S,t,wy,_,_,_,_,_,_,rfl,M1,hcut,W,nx40,ny40,(by lia),xb,(by lia),yb,?_⟩
    have ec:cutR S t k a to=if risF S.rows (undS S t a to) (wlo S a to "z" + t.2)=true then .error "bite" else .ok ((dwn S.rows (undS S t a to) (wlo S a to "z")).2,(dwn S.rows (undS S t a to) (wlo S a to "z")).1):=if_neg e3
    rw [ec] at q ⊢
    show if risF S.rows (undS S t a to) (wlo S a to "z" + t.2)=true then _ else _
    by_cases hc:risF S.rows (undS S t a to) (wlo S a to "z" + t.2)=true
    ·rw [if_pos hc] at q ⊢
     exact XE.from q s1
    ·rw [if_neg hc,if_neg hc]
     exact fun H2 f2 M2=>⟨_,_,rfl,rfl,M2,(FrA.of s1).trans f2⟩
  ·rintro _ G ⟨tk,rows',er,rfl,M2,fr⟩
   rw [er] at q
   have q':∀ H',FrA A H H'→CIn CV CC H0 H' A ts (({ S with rows:=rows' }:CS).to_ a to)→Q (.int tk) H':=q
   obtain ⟨dx2,cu2,hcv2,_⟩:=M2.ob
   have rm2:roomF ({ S with rows:=rows' }:CS) a to=true:=by
    have al:Alike S.rows rows':=by
     unfold cutR at er
     split at er
     ·split at er
      ·cases er
      ·cases er
       exact Alike.refl _
     ·split at er
      ·cases er
      ·cases er
       unfold dwn
       rw [dwn_fst]
       exact cuts_alike _ _
    unfold roomF at rm ⊢
    show (if a="x" then ins rows' (to,S.y) else if a="y" then ins rows' (S.x,to) else decide (0≤to∧to≤1000))=true
    rw [← al.ins,← al.ins]
    exact rm
   have M3:=M2.stand ax rm2
   refine ⟨_,rfl,_,rfl,A.cv,CV,dx2,_,_,rfl,hcv2,VV.clV,VV.nStands,rfl,_,rfl,A.sd,_,rfl,DPut.k (k:=Sum.inr a) M2.sd (show 3 < AL by decide),?_⟩
   exact ⟨_,rfl,q' _ (fun x o h1 h2 h3 e=>by rw [upd_ne h2]; exact fr x o h1 h2 h3 e) M3⟩
inductive PspDo (K:PySem.W.Frag) (C CV CC:Addr) (vs:List V) (H:Hp) (Q:VK) (E:XK):Prop
 | mk (H0:Hp) (A:CA) (ts:List Tool) (S:CS) (m:Mo) (mt:Addr) (h0:vs=[.ref A.cv,.ref mt]) (h1:CIn CV CC H0 H A ts S) (h2:m.ok) (h3:H mt=some (.tup (moV m))) (h4:ResC K C CV CC H0 H A ts Q E (stepC ts S m)):PspDo K C CV CC vs H Q E
def spDo (K:PySem.W.Frag) (C CV CC:Addr):Sp:=fun vs H Q E=>PspDo K C CV CC vs H Q E
theorem ok_do (MH:Mt P w K mg base CV "do_hold" 3 ["self","number"] (spDoHold K C CV CC)) (MM:Mt P w K mg base CV "do_move" 4 ["self","kind","axis","to"] (spDoMove K C CV CC)) (F:Fun K "do" "Carver.do" sDo f fd'):FnOk P w K mg base (CX1 P w) 5 f fd' ["self","move"] (spDo K C CV CC):=by
 have nd:=scDo.nd
 refine F.ok1 scDo (fun vs H Q E h=>?_) (fun cdv A outer s H vs Q E hr h=>?_)
 ·obtain ⟨H0,A,ts,S,m,mt,rfl,_⟩:=h
  rfl
 obtain ⟨H0,A,ts,S,m,mt,rfl,M,mok,hmt,q⟩:=h
 have hr3:Room 3 _:=hr.mono (by decide)
 refine ⟨_,(pss_cons (ps_if (pt_cmpR op_eq (pe_ix (ix_tupK (K:=K) rfl) (pv 1) pe_int (fun _ _=>rfl)) pe_str (nomark _)) (pss_one (ps_ret (pf_meth MH (pv 0) hr3 (pass1 (E:=E)) (pa_cons (pe_ix (ix_tupK (K:=K) rfl) (pv 1) pe_int (fun _ _=>rfl)) pa_nil)))) pss_nil)
  (pss_one (ps_ret (pf_meth MM (pv 0) hr (pass1 (E:=E)) (pa_cons (pe_ix (ix_tupK (K:=K) rfl) (pv 1) pe_int (fun _ _=>rfl)) (pa_cons (pe_ix (ix_tupK (K:=K) rfl) (pv 1) pe_int (fun _ _=>rfl)) (pa_cons (pe_ix (ix_tupK (K:=K) rfl) (pv 1) pe_int (fun _ _=>rfl)) pa_nil))))))),?_⟩
 obtain ⟨dx,cu,hcv,_⟩:=M.ob
 cases m with
 | hold n =>
  have hm:H mt=some (.tup [.str "hold",.int n]):=hmt
  refine ⟨_,rfl,mt,_,0,.str "hold",rfl,rfl,SqT.of hm,rfl,rfl,_,rfl,?_⟩
  refine ite2 (fun _=>?_) (fun h1=>absurd (decide_eq_true rfl) h1)
  exact ⟨_,rfl,A.cv,dx,_,rfl,hcv,rfl,_,rfl,mt,_,1,.int n,rfl,rfl,SqT.of hm,rfl,H0,A,ts,S,n,rfl,M,q⟩
 | go k a to =>
  have hm:H mt=some (.tup [.str k,.str a,.int to]):=hmt
  refine ⟨_,rfl,mt,_,0,.str k,rfl,rfl,SqT.of hm,rfl,rfl,_,rfl,?_⟩
  refine ite2 (fun h1=>absurd (V.str.inj (of_decide_eq_true h1)) mok.1) (fun _=>?_)
  exact ⟨_,rfl,A.cv,dx,_,rfl,hcv,rfl,_,rfl,mt,_,0,.str k,rfl,rfl,SqT.of hm,rfl,_,rfl,mt,_,1,.str a,rfl,rfl,SqT.of hm,rfl,_,rfl,mt,_,2,.int to,rfl,rfl,SqT.of hm,rfl,H0,A,ts,S,k,a,to,rfl,M,mok.2,q⟩
end
end Car.Ce
namespace Car.Ce
open PySem L2 Car
end Car.Ce
namespace Car.Ce
open PySem L2 Car
section
variable {P:Program} {w:World} {K:PySem.W.Frag} {mg:Str→Option Value} {base:Heap} {CV CC C fI f:Addr} {fd fd':FuncData}
theorem ok_carI (VV:VT K mg CV CC) (B:BegV P w K mg) (F:Fun K "__init__" "Carver.__init__" sCarI f fd'):FnOk P w K mg base (CX1 P w) 1 f fd' ["self","stuff","shelf"] (spCarI CV):=by
 have nd:=scCarI.nd
 refine F.ok1 scCarI (fun vs H Q E h=>?_) (fun cdv A outer s H vs Q E hr h=>?_)
 ·obtain ⟨x,dx,st,sh,rfl,_⟩:=h
  rfl
 obtain ⟨x,dx,st,sh,rfl,hx,q⟩:=h
 obtain ⟨ab,mgb,dkb⟩:=B.ex
 refine ⟨_,(pss_cons (ps_fld (pv 0) (pv 1) rfl)
  (pss_cons (ps_fld (pv 0) (pv 2) rfl)
  (pss_cons (ps_fld (pv 0) pe_non rfl)
  (pss_one (ps_fld (pv 0) (pe_callTy call_dict_d rfl VV.dict rfl (pa_cons (pe_glob (v:=.ref ab) rfl mgb rfl) pa_nil)) rfl))))),?_⟩
 refine ⟨_,rfl,_,rfl,x,CV,dx,_,rfl,hx,VV.clV,VV.nStuff,(by decide),?_⟩
 refine ⟨_,rfl,_,rfl,x,CV,dx,_,rfl,upd_same,VV.clV,VV.nShelf,(by show 1 < 1000; decide),?_⟩
 refine ⟨_,rfl,x,CV,dx,_,rfl,upd_same,VV.clV,VV.nCutter,(by show 2 < 1000; decide),?_⟩
 refine ⟨ab,_,rfl,.inr dkb,fun sd hsd=>?_⟩
 have nsx:sd≠x:=fun z=>by rw [z,upd_same] at hsd; cases hsd
 refine ⟨_,rfl,x,CV,dx,_,rfl,(by rw [upd_ne (Ne.symm nsx)]; exact upd_same),VV.clV,VV.nStands,(by show 3 < 1000; decide),?_⟩
 have hsd0:H sd=none:=by
  rw [upd_ne nsx,upd_ne nsx,upd_ne nsx] at hsd
  exact hsd
 refine q sd _ (fun b o hb e=>?_) upd_same (by rw [upd_ne nsx,upd_same]) hsd0
 rw [upd_ne hb,upd_ne (ne_of_none e hsd0),upd_ne hb,upd_ne hb,upd_ne hb]
 exact e
inductive PspDoMoves (K:PySem.W.Frag) (CC:Addr) (vs:List V) (H:Hp) (Q:VK):Prop
 | mk (H0:Hp) (c R sh ml:Addr) (rs mts:List Addr) (bed:List (List Int)) (ts:List Tool) (ms:List Mo) (h0:vs=[.ref c,.ref sh,.ref ml]) (h1:Same H0 H) (h2:ClAt CC H c R rs bed) (h3:H0 R=none) (h4:(∀ r∈rs,H0 r=none)) (h5:rs.Nodup) (h6:R ∉ rs) (h7:ShAt H0 sh ts) (h8:(∀ t∈ts,t.1.length≤100)) (h9:H0 ml=some (.lst (mts.map V.ref))) (h10:MvAt H0 mts (ms.map moV)) (h11:(∀ m∈ms,m.ok)) (h12:ms.length≤100000) (h13:Rect bed) (h14:Small bed) (h15:ins bed (0,0)=true) (h16:∀ (t tl:Addr) (fv:V) (H':Hp),Same H0 H'→H' t=some (.tup [.ref tl,fv])→H' tl=some (.lst ((runM ts (S00 bed) ms).1.map V.int))→Rp K H' fv (fltD (runM ts (S00 bed) ms).2.2)→ClAt CC H' c R rs (runM ts (S00 bed) ms).2.1.rows→tl ∉ rs→Q (.ref t) H'):PspDoMoves K CC vs H Q
def spDoMoves (K:PySem.W.Frag) (CC:Addr):Sp:=fun vs H Q _=>PspDoMoves K CC vs H Q
theorem ok_doMoves (VV:VT K mg CV CC) (FS:FaT P w K mg base C fI fd) (CCt:CatchC K mg "Fault" C) (hm:PySem.W.mroIn K C (.ref C)=some true) (MC:Mc P w K mg base "Carver" CV 1 ["self","stuff","shelf"] (spCarI CV)) (MD:Mt P w K mg base CV "do" 5 ["self","move"] (spDo K C CV CC))
  (F:Fun K "do_moves" "do_moves" sDoMoves f fd'):FnOk P w K mg base (CX1 P w) 6 f fd' ["stuff","shelf","moves"] (spDoMoves K CC):=by
 have nd:=scDoMoves.nd
 obtain ⟨fg,fdg,okg,mtg,clg,big⟩:=MD.ex
 refine F.ok1 scDoMoves (fun vs H Q E h=>?_) (fun cdv A outer s H vs Q E hr h=>?_)
 ·obtain ⟨H0,c,R,sh,ml,rs,mts,bed,ts,ms,rfl,_⟩:=h
  rfl
 obtain ⟨H0,c,R,sh,ml,rs,mts,bed,ts,ms,rfl,s0,cl,nR0,nrs,rnd,nR,hsh,feet,hml,mml,mok,ml100,rect,small,inb,q⟩:=h
 have hr2:Room 2 _:=hr.mono (by decide)
 have mtl:mts.length=ms.length:=by rw [mml.len,AA]
 refine ⟨_,(pss_cons (ps_set (i:=3) nd rfl (Or.inl rfl) (pf_make MC hr2 rfl (pass1 (E:=E)) (pa_cons (pv 0) (pa_cons (pv 1) pa_nil))))
  (pss_cons (ps_set (i:=4) nd rfl (Or.inl rfl) (pe_lst pa_nil))
  (pss_cons (ps_for own1 rfl (pi_listK (K:=K) rfl (pv 2)) (pg_name (i:=5) nd rfl (Or.inl rfl)) (pss_one (ps_tryAs (i:=6) rfl rfl rfl (px_append (fun _=>pv 4) (px_meth (fun _=>pv 3) clg mtg okg hr big (fun _=>pa_cons (pv 5) pa_nil))) CCt rfl nd rfl rfl (fun _=>pss_one (ps_ret (pe_tup (pa_cons (pv 4) (pa_cons (pe_xfld FS.S (pv 6) rfl) pa_nil))))))))
  (pss_one (ps_ret (pe_tup (pa_cons (pv 4) (pa_cons pe_non pa_nil)))))))),?_⟩
 refine ⟨_,rfl,_,rfl,fun x dx hx hdx hne=>⟨x,dx,.ref c,.ref sh,rfl,upd_same,fun sd H1 k1 hx1 hsd1 nsd=>⟨rfl,?_⟩⟩⟩
 have kH:∀ b o,H b=some o→H1 b=some o:=fun b o e=>k1 b o (ne_of_none e hx) (by rw [upd_ne (ne_of_none e hx),upd_ne (ne_of_none e hdx)]; exact e)
 have sH1:Same H H1:=kH
 have nsd0:H sd=none:=by
  cases e:H sd with
  | none=>rfl
  | some o=>rw [upd_ne (ne_of_none e hx),upd_ne (ne_of_none e hdx),e] at nsd; cases nsd
 have cl1:=cl.same sH1
 have M0:CIn CV CC H0 H1 ⟨x,c,R,sd,sh,rs⟩ ts (S00 bed):=⟨s0.trans sH1,s0.free hx,nR0,s0.free nsd0,nrs,hsh,feet,⟨dx,.non,hx1,rfl⟩,cl1,rnd,nR,hsd1,rect,small,inb,⟨show (0:Int)≤1000 by decide,show (1000:Int)≤1000 by decide⟩⟩
 refine ⟨Ai _,fun tl htl=>?_⟩
 have u2:=same_upd htl (.lst [])
 have M1:=M0.same u2
 have ntl:tl≠x∧tl≠sd∧tl ∉ rs:=by
  refine ⟨fun z=>?_,fun z=>?_,fun z=>?_⟩
  ·rw [z,hx1] at htl; cases htl
  ·rw [z,hsd1] at htl; cases htl
  ·obtain ⟨xs,hz⟩:=cl1.ra.mem z
   rw [hz] at htl
   cases htl
 refine ⟨_,rfl,ml,rfl,⟨_,SqL.of (u2 _ _ (M0.sm _ _ hml))⟩,?_⟩
 refine for_list (K:=K) (xs:=mts.map V.ref) (fun i σ H2=>Ex3 fun (x5:Option V) (S:CS) (tks:List Int)=>σ=[some (.ref c),some (.ref sh),some (.ref ml),some (.ref x),some (.ref tl),x5,none]∧CIn CV CC H0 H2 ⟨x,c,R,sd,sh,rs⟩ ts S∧H2 tl=some (.lst (tks.map V.int))∧tks.length=i∧runM ts (S00 bed) ms=(tks++(runM ts S (ms.drop i)).1,(runM ts S (ms.drop i)).2))
  ⟨none,S00 bed,[],rfl,M1,upd_same,rfl,rfl⟩ ?_ ?_ ?_
 ·rintro i σ H2 _ ⟨x5,S,tks,rfl,M2,_⟩
  exact SqL.of (M2.sm _ _ hml)
 ·rintro i v σ H2 hx' ⟨x5,S,tks,rfl,M2,ht2,tkl,erun⟩
  obtain ⟨mt,hmt,rfl⟩:=ref_get hx'
  have hi:i < ms.length:=by have:=(AE.mp hmt).1; lia
  have em:=AB hi
  have gm:=M2.sm _ _ (mml.at_ hmt (by rw [AF,em]; rfl))
  have mo:=mok _ (Ak hi)
  have edr:ms.drop i=ms[i] :: ms.drop (i + 1):=List.drop_eq_getElem_cons hi
  rw [edr] at erun
  generalize ms[i]=m at em gm mo erun
  obtain ⟨dx2,cu,hcv2,_⟩:=M2.ob
  refine ⟨_,rfl,.inl ⟨rfl,_,SqL.of ht2⟩,_,rfl,x,dx2,_,rfl,hcv2,rfl,_,rfl,H0,⟨x,c,R,sd,sh,rs⟩,ts,S,m,mt,rfl,M2,mo,gm,?_⟩
  cases es:stepC ts S m with
  | ok r =>
   rw [runM_ok es] at erun
   intro H3 f3 M3
   have ht3:=f3 _ _ ntl.1 ntl.2.1 ntl.2.2 ht2
   refine ⟨tl,_,.int r.1,rfl,rfl,ht3,(by rw [AA,tkl]; exact big16 (by lia)),?_⟩
   obtain ⟨o1,o2,o3,o4,o5,o6,o7,o8⟩:=M3.out
   have n0tl:H0 tl=none:=(s0.trans sH1).free htl
   obtain ⟨dx3,cu3,hcv3,hcu3⟩:=M3.ob
   obtain ⟨kx,hcl3⟩:=M3.cl.ob
   have kp:∀ y o,(∀ xs,o≠.lst xs)→H3 y=some o→upd H3 tl (.lst (tks.map V.int++[V.int r.1])) y=some o:=fun y o n e=>by rw [upd_ne (fun z=>by rw [z,ht3] at e; cases e; exact n _ rfl)]; exact e
   have nRt:R≠tl:=fun z=>by
    have h1:H1 R=some (.lst (rs.map V.ref)):=cl1.hR
    rw [z,htl] at h1
    cases h1
   refine ⟨_,r.2,tks++[r.1],rfl,⟨same_in M3.sm n0tl,M3.ncv,M3.nR0,M3.nsd,M3.nrs,M3.shelf,M3.feet,⟨dx3,cu3,kp _ _ (fun _ z=>by cases z) hcv3,hcu3⟩,⟨⟨kx,kp _ _ (fun _ z=>by cases z) hcl3⟩,by rw [upd_ne nRt]; exact M3.cl.hR,M3.cl.ra.keep fun r' hr' o e=>by rw [upd_ne (fun z=>ntl.2.2 (by rw [← z]; exact hr'))]; exact e⟩,M3.nd,M3.nR,kp _ _ (fun _ z=>by cases z) M3.sd,M3.rect,M3.small,M3.inb,M3.zb⟩,by rw [upd_same,AG]; rfl,by rw [AI,tkl]; rfl,?_⟩
   rw [erun,List.append_assoc]
   rfl
  | error xf =>
   rw [runM_err es,BB] at erun
   intro dx4 v4 H4 s4 hdx4 hv4
   refine ⟨⟨C,rfl,hm⟩,fun e he=>?_⟩
   have s5:=same_upd he (ExcC e (.ref C) (some dx4))
   refine ⟨_,rfl,_,rfl,e,dx4,_,v4,rfl,upd_same,(Ne.symm (ne_of_none hdx4 he)),s5 _ _ hdx4,rfl,le2,fun t ht=>?_⟩
   have s6:=same_upd ht (.tup [.ref tl,v4])
   have s26:=s4.trans (s5.trans s6)
   have M4:=M2.same s26
   refine q t tl v4 _ M4.sm upd_same (by rw [erun]; exact s26 _ _ ht2) ?_ (by rw [erun]; exact M4.cl) ntl.2.2
   rw [erun]
   exact (hv4.same s5).same s6
 ·rintro σ H2 ⟨x5,S,tks,rfl,M2,ht2,tkl,erun⟩
  rw [AA,mtl,List.drop_of_length_le (AD _)] at erun
  have er:runM ts (S00 bed) ms=(tks,S,none):=by
   rw [erun]
   show (tks++[],S,none)=_
   rw [BB]
  refine ⟨_,rfl,le2,fun t ht=>?_⟩
  have s6:=same_upd ht (.tup [.ref tl,.non])
  have M4:=M2.same s6
  exact q t tl .non _ M4.sm upd_same (by rw [er]; exact s6 _ _ ht2) (by rw [er]; exact .non) (by rw [er]; exact M4.cl) ntl.2.2
inductive PspCarved (K:PySem.W.Frag) (vs:List V) (H:Hp) (Q:VK):Prop
 | mk (b sh ml:Addr) (mts:List Addr) (bed:List (List Int)) (ts:List Tool) (ms:List Mo) (h0:vs=[.ref b,.ref sh,.ref ml]) (h1:BdAt H b bed) (h2:ShAt H sh ts) (h3:(∀ t∈ts,t.1.length≤100)) (h4:H ml=some (.lst (mts.map V.ref))) (h5:MvAt H mts (ms.map moV)) (h6:(∀ m∈ms,m.ok)) (h7:ms.length≤100000) (h8:Rect bed) (h9:Small bed) (h10:ins bed (0,0)=true) (h11:∀ (t R tl:Addr) (fv:V) (rs:List Addr) (H':Hp),Same H H'→H' t=some (.tup [.ref R,.ref tl,fv])→H' tl=some (.lst ((runM ts (S00 bed) ms).1.map V.int))→Rp K H' fv (fltD (runM ts (S00 bed) ms).2.2)→H' R=some (.lst (rs.map V.ref))→RowsAt H' rs (runM ts (S00 bed) ms).2.1.rows→H R=none→(∀ r∈rs,H r=none)→rs.Nodup→tl ∉ rs→R ∉ rs→Q (.ref t) H'):PspCarved K vs H Q
def spCarved (K:PySem.W.Frag):Sp:=fun vs H Q _=>PspCarved K vs H Q
theorem scCarved:FnScope ["bed","shelf","moves","cells","done"] ["bed","shelf","moves"] (defScope sCarved):=⟨rfl,rfl,rfl,by decide +kernel,rfl,by decide +kernel,by decide +kernel⟩
theorem ok_carved (VV:VT K mg CV CC) (MC:Mc P w K mg base "Cells" CC 1 ["self","bed"] (spCellsI CC)) (FM:Fn P w K mg base "do_moves" 6 ["stuff","shelf","moves"] (spDoMoves K CC)) (F:Fun K "carved" "carved" sCarved f fd'):FnOk P w K mg base (CX1 P w) 7 f fd' ["bed","shelf","moves"] (spCarved K):=by
 have nd:=scCarved.nd
 refine F.ok1 scCarved (fun vs H Q E h=>?_) (fun cdv A outer s H vs Q E hr h=>?_)
 ·obtain ⟨b,sh,ml,mts,bed,ts,ms,rfl,_⟩:=h
  rfl
 obtain ⟨b,sh,ml,mts,bed,ts,ms,rfl,hb,hsh,feet,hml,mml,mok,ml100,rect,small,inb,q⟩:=h
 have hr2:Room 2 _:=hr.mono (by decide)
 refine ⟨_,(pss_cons (ps_set (i:=3) nd rfl (Or.inl rfl) (pf_make MC hr2 rfl (pass1 (E:=E)) (pa_cons (pv 0) pa_nil)))
  (pss_cons (ps_set (i:=4) nd rfl (Or.inl rfl) (pf_call FM hr rfl (pass1 (E:=E)) (pa_cons (pv 3) (pa_cons (pv 1) (pa_cons (pv 2) pa_nil)))))
  (pss_one (ps_ret (pe_tup (pa_cons (pe_fld (pv 3) rfl) (pa_cons (pe_ix (ix_tupK (K:=K) rfl) (pv 4) pe_int (fun _ _=>rfl)) (pa_cons (pe_ix (ix_tupK (K:=K) rfl) (pv 4) pe_int (fun _ _=>rfl)) pa_nil)))))))),?_⟩
 refine ⟨_,rfl,fun x dx hx hdx hne=>?_⟩
 have s1:Same H (upd (upd H dx (.own x)) x (.ins CC dx [])):=fun y o e=>by rw [upd_ne (ne_of_none e hx),upd_ne (ne_of_none e hdx)]; exact e
 have ex:upd (upd H dx (.own x)) x (.ins CC dx []) x=some (.ins CC dx []):=upd_same
 generalize upd (upd H dx (.own x)) x (.ins CC dx [])=G at s1 ex
 refine ⟨x,dx,b,bed,rfl,ex,hb.same s1,(by have:=small.1; lia),fun R rs H1 k1 hx1 hR rr rnd nR nR0 nrs=>⟨rfl,?_⟩⟩
 have s2:Same H H1:=fun y o e=>k1 y o (ne_of_none e hx) (s1 _ _ e)
 have nRH:H R=none:=s1.free nR0
 have nrsH:∀ r∈rs,H r=none:=fun r hr=>s1.free (nrs r hr)
 refine ⟨_,rfl,_,rfl,_,rfl,H,x,R,sh,ml,rs,mts,bed,ts,ms,rfl,s2,⟨⟨dx,hx1⟩,hR,rr⟩,nRH,nrsH,rnd,nR,hsh,feet,hml,mml,mok,ml100,rect,small,inb,fun t tl fv H2 s3 ht htl hfv cl2 ntl=>?_⟩
 obtain ⟨dx2,hx2⟩:=cl2.ob
 refine ⟨_,rfl,x,CC,dx2,_,_,rfl,hx2,VV.clC,VV.nRows,rfl,_,rfl,t,_,0,.ref tl,rfl,rfl,SqT.of ht,rfl,_,rfl,t,_,1,fv,rfl,rfl,SqT.of ht,rfl,le3,fun t2 ht2=>?_⟩
 have u:=same_upd ht2 (.tup [.ref R,.ref tl,fv])
 exact q t2 R tl fv rs _ (s3.trans u) upd_same (u _ _ htl) (hfv.same u) (u _ _ cl2.hR) (cl2.ra.same u) nRH nrsH rnd ntl nR
end
end Car.Ce
namespace Car
open PySem L2
theorem risF_iff {rows:List (List Int)} {cs:List (Int×Int)} {h:Int}:risF rows cs h=false↔∀ c∈cs,hgt rows c≤h:=by
 unfold risF
 rw [List.any_eq_false]
 refine ⟨fun k c hc=>?_,fun k c hc z=>?_⟩
 ·have:=k c hc
  have n:¬ hgt rows c > h:=fun z=>this (decide_eq_true z)
  lia
 ·have z':hgt rows c > h:=of_decide_eq_true z
  have:=k c hc
  lia
theorem step_go {ts:List Tool} {S:CS} {t:Tool} {k a:Str} {to:Int} (hc:S.cut=some t) (hr:roomF S a to=true):stepC ts S (.go k a to)=(match cutR S t k a to with | .ok r=>.ok (r.1,({ S with rows:=r.2 }:CS).to_ a to) | .error x=>.error x):=by
 obtain ⟨rows,cut,x,y,z⟩:=S
 change cut=some t at hc
 subst hc
 exact if_pos hr
theorem step_inv {ts:List Tool} {S:CS} {k a:Str} {to:Int} {r:Int×CS} (h:stepC ts S (.go k a to)=.ok r):∃ t,S.cut=some t∧roomF S a to=true∧∃ q,cutR S t k a to=.ok q∧r=(q.1,({ S with rows:=q.2 }:CS).to_ a to):=by
 obtain ⟨rows,cut,x,y,z⟩:=S
 cases cut with
 | none =>
  have h':(.error "bare":Except Str (Int×CS))=.ok r:=h
  cases h'
 | some t =>
  by_cases hr:roomF ⟨rows,some t,x,y,z⟩ a to=true
  ·rw [step_go rfl hr] at h
   cases hq:cutR ⟨rows,some t,x,y,z⟩ t k a to with
   | error x=>rw [hq] at h; cases h
   | ok q=>rw [hq] at h; cases h; exact ⟨t,rfl,hr,q,hq,rfl⟩
  ·have h':stepC ts ⟨rows,some t,x,y,z⟩ (.go k a to)=.error "out":=if_neg hr
   rw [h'] at h
   cases h
theorem cutR_fast {S:CS} {t:Tool} {a:Str} {to:Int} {q:Int×List (List Int)}:cutR S t "fast" a to=.ok q↔(∀ c∈undS S t a to,hgt S.rows c≤wlo S a to "z")∧q=(0,S.rows):=by
 unfold cutR
 rw [if_pos rfl,← risF_iff]
 cases risF S.rows (undS S t a to) (wlo S a to "z") with
 | true=>exact ⟨fun h=>(by cases h),fun h=>(by cases h.1)⟩
 | false=>exact ⟨fun h=>⟨rfl,by cases h; rfl⟩,fun h=>by rw [h.2]; rfl⟩
theorem sf:("slow":Str)≠"fast":=by decide +kernel
theorem cutR_slow {S:CS} {t:Tool} {a:Str} {to:Int} {q:Int×List (List Int)}:cutR S t "slow" a to=.ok q↔(∀ c∈undS S t a to,hgt S.rows c≤wlo S a to "z" + t.2)∧q=((dwn S.rows (undS S t a to) (wlo S a to "z")).2,(dwn S.rows (undS S t a to) (wlo S a to "z")).1):=by
 unfold cutR
 rw [if_neg sf,← risF_iff]
 cases risF S.rows (undS S t a to) (wlo S a to "z" + t.2) with
 | true=>exact ⟨fun h=>(by cases h),fun h=>(by cases h.1)⟩
 | false=>exact ⟨fun h=>⟨rfl,by cases h; rfl⟩,fun h=>by rw [h.2]; rfl⟩
theorem spp_can:∀ cs:Sp2,Ae (cs.map pD)=true∧Ay (cs.map pD)≤1:=fun cs=>prs_can cs
theorem sps_can:∀ ss:List Sp2,Ae (ss.map spD)=true∧Ay (ss.map spD)≤2
 | []=>⟨rfl,by decide⟩
 | r :: ss=>by
  obtain ⟨a,b⟩:=sps_can ss
  obtain ⟨c,d⟩:=spp_can r
  rw [Az,Ae,Ay,a,spD,AN,BA,c]
  exact ⟨rfl,by lia⟩
theorem to_x (S:CS) (v:Int):S.to_ "x" v={ S with x:=v }:=if_pos rfl
theorem to_y (S:CS) (v:Int):S.to_ "y" v={ S with y:=v }:=by unfold CS.to_; rw [if_neg (Ne.symm xy),if_pos rfl]
theorem to_z (S:CS) (v:Int):S.to_ "z" v={ S with z:=v }:=by unfold CS.to_; rw [if_neg (Ne.symm xz),if_neg (Ne.symm yz)]
theorem step_good {ts:List Tool} {S:CS} {m:Mo} {x:Str} (h:stepC ts S m=.error x):PyData.strOk x=true:=by
 cases m with
 | hold k =>
  have h':(if 0≤k∧k < (ts.length:Int) then (if S.z=1000 then (match ts[k.toNat]? with | some t=>(.ok (0,{ S with cut:=some t }):Except Str (Int×CS)) | none=>.error "shelf") else .error "low") else .error "shelf")=.error x:=h
  split at h'
  ·split at h'
   ·split at h'
    ·cases h'
    ·cases h'
     decide +kernel
   ·cases h'
    decide +kernel
  ·cases h'
   decide +kernel
 | go k a to =>
  cases hc:S.cut with
  | none =>
   rw [stepC_none hc] at h
   cases h
   decide +kernel
  | some t =>
   by_cases rm:roomF S a to=true
   ·rw [step_go hc rm] at h
    cases e:cutR S t k a to with
    | ok q=>rw [e] at h; cases h
    | error y =>
     rw [e] at h
     cases h
     unfold cutR at e
     split at e
     ·split at e
      ·cases e
       decide +kernel
      ·cases e
     ·split at e
      ·cases e
       decide +kernel
      ·cases e
   ·rw [stepC_some hc,if_neg rm] at h
    cases h
    decide +kernel
theorem step_keep {bed:List (List Int)} {ts:List Tool} {S:CS} {m:Mo} {r:Int×CS} (al:Alike bed S.rows) (inb:ins S.rows (S.x,S.y)=true) (zb:S.z≤1000) (mok:m.ok2) (h:stepC ts S m=.ok r):Alike bed r.2.rows∧ins r.2.rows (r.2.x,r.2.y)=true∧r.2.z≤1000:=by
 cases m with
 | hold k =>
  have h':(if 0≤k∧k < (ts.length:Int) then (if S.z=1000 then (match ts[k.toNat]? with | some t=>(.ok (0,{ S with cut:=some t }):Except Str (Int×CS)) | none=>.error "shelf") else .error "low") else .error "shelf")=.ok r:=h
  split at h'
  ·split at h'
   ·split at h'
    ·cases h'
     exact ⟨al,inb,zb⟩
    ·cases h'
   ·cases h'
  ·cases h'
 | go k a to =>
  obtain ⟨t,hc,rm,q,hcut,rfl⟩:=step_inv h
  obtain ⟨hk,ax⟩:=mok
  have alS:Alike S.rows q.2:=by
   rcases hk with rfl | rfl
   ·obtain ⟨_,rfl⟩:=cutR_fast.mp hcut
    exact Alike.refl _
   ·obtain ⟨_,rfl⟩:=cutR_slow.mp hcut
    exact dwn_al _ _ _
  rcases ax with rfl | rfl | rfl
  ·rw [to_x]
   exact ⟨al.trans alS,by show ins q.2 (to,S.y)=true; rw [← alS.ins]; exact rm,zb⟩
  ·rw [to_y]
   unfold roomF at rm
   rw [if_neg (Ne.symm xy),if_pos rfl] at rm
   exact ⟨al.trans alS,by show ins q.2 (S.x,to)=true; rw [← alS.ins]; exact rm,zb⟩
  ·rw [to_z]
   unfold roomF at rm
   rw [if_neg (Ne.symm xz),if_neg (Ne.symm yz)] at rm
   exact ⟨al.trans alS,by show ins q.2 (S.x,S.y)=true; rw [← alS.ins]; exact inb,(of_decide_eq_true rm).2⟩
def fndD (ss:List Sp2) (tk:List Int) (fl:Option Str):PyData:=.tuple [spsD ss,.list (tk.map .int),fltD fl]
theorem fnd_can (ss:List Sp2) (tk:List Int) {fl:Option Str} (h:∀ x,fl=some x→PyData.strOk x=true):AN (fndD ss tk fl)=true∧SeqAt.shaped (fndD ss tk fl)=true:=by
 obtain ⟨a1,a2⟩:=sps_can ss
 obtain ⟨b1,b2⟩:=ints_can tk
 have f1:AN (fltD fl)=true∧BA (fltD fl)≤1:=by
  cases fl with
  | none=>exact ⟨rfl,by decide⟩
  | some x =>
   refine ⟨?_,by show 1≤1; decide⟩
   show AN (.tuple [.str x])=true
   rw [AN,Ae,AN,h x rfl]
   rfl
 have c:AN (fndD ss tk fl)=true:=by
  rw [fndD,spsD,AN,Ae,Ae,Ae,Ae,AN,AN,a1,b1,f1.1]
  rfl
 refine ⟨c,shaped_of (k:=10) ⟨c,?_⟩ (by decide)⟩
 rw [fndD,spsD,BA,Ay,Ay,Ay,Ay,BA,BA]
 have:=f1.2
 lia
section
variable {K:PySem.W.Frag} {H:Hp}
theorem fnd_rp {t R tl:Addr} {fv:V} {rs:List Addr} {ss:List Sp2} {tk:List Int} {fl:Option Str} (h:H t=some (.tup [.ref R,.ref tl,fv])) (hR:H R=some (.lst (rs.map V.ref))) (sp:SpAt H rs ss) (ht:H tl=some (.lst (tk.map V.int))) (hf:Rp K H fv (fltD fl)):Rp K H (.ref t) (fndD ss tk fl) :=
 .tup (SqT.of h) (.cons (.lst (SqL.of hR) sp.rp) (.cons (.lst (SqL.of ht) (ints_rp tk)) (.cons hf .nil)))
end
theorem run_keep {bed:List (List Int)} {ts:List Tool}:∀ (ms:List Mo) (S:CS),Alike bed S.rows→ins S.rows (S.x,S.y)=true→S.z≤1000→(∀ m∈ms,m.ok2)→Alike bed (runM ts S ms).2.1.rows∧(∀ x,(runM ts S ms).2.2=some x→PyData.strOk x=true)∧(runM ts S ms).1.length≤ms.length
 | [],S,al,_,_,_=>⟨al,fun x h=>(by cases h),AD _⟩
 | m :: ms,S,al,inb,zb,ok=>by
  cases hs:stepC ts S m with
  | error x =>
   rw [runM_err hs]
   exact ⟨al,fun y h=>(by cases h; exact step_good hs),Ai _⟩
  | ok r =>
   rw [runM_ok hs]
   obtain ⟨a,b,c⟩:=step_keep al inb zb (ok m Ab) hs
   obtain ⟨d,e,f⟩:=run_keep ms r.2 a b c (fun x hx=>ok x (AR _ hx))
   exact ⟨d,e,Nat.succ_le_succ f⟩
def hndD (ss:List Sp2) (ts:List Tool) (ms:List Mo):PyData:=.tuple [spsD ss,.list (ts.map fun t=>toolD t.1 t.2),.list (ms.map moD)]
theorem hnd_can (ss:List Sp2) (ts:List Tool) {ms:List Mo} (h:∀ m∈ms,m.ok2):AN (hndD ss ts ms)=true∧SeqAt.shaped (hndD ss ts ms)=true:=by
 obtain ⟨a1,a2⟩:=sps_can ss
 obtain ⟨b1,b2⟩:=tools_can ts
 obtain ⟨c1,c2⟩:=mos_can h
 have c:AN (hndD ss ts ms)=true:=by
  rw [hndD,spsD,AN,Ae,Ae,Ae,Ae,AN,AN,AN,a1,b1,c1]
  rfl
 refine ⟨c,?_⟩
 unfold SeqAt.shaped
 rw [c,Bool.true_and]
 refine decide_eq_true ?_
 rw [hndD,spsD,BA,Ay,Ay,Ay,Ay,BA,BA,BA]
 lia
theorem flt_can {fl:Option Str} (h:∀ x,fl=some x→PyData.strOk x=true):AN (fltD fl)=true∧SeqAt.shaped (fltD fl)=true:=by
 have f1:AN (fltD fl)=true∧BA (fltD fl)≤1:=by
  cases fl with
  | none=>exact ⟨rfl,by decide⟩
  | some x =>
   refine ⟨?_,by show 1≤1; decide⟩
   show AN (.tuple [.str x])=true
   rw [AN,Ae,AN,h x rfl]
   rfl
 exact ⟨f1.1,shaped_of f1 (by decide)⟩
theorem spsD_can (ss:List Sp2):AN (spsD ss)=true∧SeqAt.shaped (spsD ss)=true:=by
 obtain ⟨a1,a2⟩:=sps_can ss
 have c:AN (spsD ss)=true:=by rw [spsD,AN,a1]
 exact ⟨c,shaped_of (k:=10) ⟨c,by rw [spsD,BA]; lia⟩ (by decide)⟩
theorem intsD_can (ns:List Int):AN (.list (ns.map .int))=true∧SeqAt.shaped (.list (ns.map .int))=true:=by
 have c:AN (.list (ns.map .int))=true:=by rw [AN,(ints_can ns).1]
 exact ⟨c,shaped_of (k:=1) ⟨c,by rw [BA,(ints_can ns).2]; decide⟩ (by decide)⟩
section
variable {K:PySem.W.Frag} {H:Hp}
theorem hnd_rp {t a b c:Addr} {rs:List Addr} {ss:List Sp2} {ts:List Tool} {ms:List Mo} (h:H t=some (.tup [.ref a,.ref b,.ref c])) (hR:H a=some (.lst (rs.map V.ref))) (sp:SpAt H rs ss) (hb:ShAt H b ts) (hc:MlAt H c ms):Rp K H (.ref t) (hndD ss ts ms) :=
 .tup (SqT.of h) (.cons (.lst (SqL.of hR) sp.rp) (.cons hb.rp (.cons hc.rp .nil)))
end
theorem abs_seq {t u:TS} {D:Ends} {σ:St} {H:Hp} (h:∀ D':Ends,D'={ D with nx:=u D }→t D' σ H):tSeq t u D σ H:=h _ rfl
theorem nxS {t u:TS} {D D':Ends} {σ:St} {H:Hp} (e:D'={ D with nx:=tSeq t u D }) (h:∀ D2:Ends,D2={ D with nx:=u D }→t D2 σ H):D'.nx σ H:=by
 subst e
 exact h _ rfl
theorem nxS1 {u:TS} {D D':Ends} {σ:St} {H:Hp} (e:D'={ D with nx:=u D }) (h:u D σ H):D'.nx σ H:=by
 subst e
 exact h
theorem SpAt.lens {H:Hp}:∀ {ls:List Addr} {rs:List Sp2},SpAt H ls rs→∀ (i:Nat) (l:Addr),ls[i]?=some l→∃ r,rs[i]?=some r∧SpRow H l r
 | [],[],_,i,l,e=>by cases e
 | a :: _,b :: _,h,0,l,e=>by cases e; exact ⟨b,rfl,h.1⟩
 | a :: _,b :: _,h,i + 1,l,e=>SpAt.lens h.2 i l e
 | [],_ :: _,h,_,_,_=>h.elim
 | _ :: _,[],h,_,_,_=>h.elim
def lenV (H:Hp) (k:Int):V→V
 | .ref a=>(match H a with | some (.lst xs)=>.int ((xs.length:Int) + k) | _=>.non)
 | _=>.non
theorem lenV_of {H:Hp} {k:Int} {a:Addr} {xs:List V} (h:H a=some (.lst xs)):lenV H k (.ref a)=.int ((xs.length:Int) + k):=by
 show (match H a with | some (.lst xs)=>V.int ((xs.length:Int) + k) | _=>.non)=_
 rw [h]
def LnAt (H:Hp) (rs:List Addr) (ss:List Sp2) (i:Nat):Prop:=∀ j r,rs[j]?=some r→∃ (s:Sp2) (xs:List V),ss[j]?=some s∧H r=some (.lst xs)∧xs.length=s.length + (if j < i then 1 else 0)
theorem SpAt.ln {H:Hp} {rs:List Addr} {ss:List Sp2} (h:SpAt H rs ss):LnAt H rs ss 0:=fun j r e=>by
 obtain ⟨s,e1,ts,e2,e3⟩:=h.lens j r e
 refine ⟨s,_,e1,e2,?_⟩
 have:=e3.len
 rw [AA] at this
 rw [AA,this,if_neg (Nat.not_lt_zero _)]
 rfl
theorem lens_eq {H:Hp} {rs:List Addr} {ss:List Sp2} {i:Nat} {k m:Int} (len:rs.length=ss.length) (h:LnAt H rs ss i) (hk:∀ j,j < rs.length→(if j < i then (1:Int) else 0) + k=m):(rs.map V.ref).map (lenV H k)=(ss.map fun (s:Sp2)=>((s.length:Int) + m)).map V.int:=by
 refine List.ext_getElem? fun j=>?_
 rw [AF,AF,AF,AF]
 cases e:rs[j]? with
 | none =>
  have:ss[j]?=none:=by rw [List.getElem?_eq_none_iff] at e ⊢; lia
  rw [this]
  rfl
 | some r =>
  obtain ⟨s,xs,e1,e2,e3⟩:=h j r e
  have hj:=(AE.mp e).1
  have:=hk j hj
  rw [e1]
  show some (lenV H k (.ref r))=some (V.int ((s.length:Int) + m))
  rw [lenV_of e2,e3,← this]
  by_cases c:j < i
  ·rw [if_pos c,if_pos c]
   exact congrArg (fun z=>some (V.int z)) (by lia)
  ·rw [if_neg c,if_neg c]
   exact congrArg (fun z=>some (V.int z)) (by lia)
theorem nodup_at {rs:List Addr} (h:rs.Nodup) {i j:Nat} {r:Addr} (a:rs[i]?=some r) (b:rs[j]?=some r):i=j:=by
 obtain ⟨h1,e1⟩:=AE.mp a
 obtain ⟨h2,e2⟩:=AE.mp b
 exact (List.getElem_inj h).mp (e1.trans e2.symm)
theorem LnAt.next {G:Hp} {rs:List Addr} {ss:List Sp2} {i:Nat} {r t:Addr} {xs:List V} {o:HO} (h:LnAt G rs ss i) (nd:rs.Nodup) (er:rs[i]?=some r) (hr:G r=some (.lst xs)) (ht:G t=none):LnAt (upd (upd G t o) r (.lst (xs++[V.ref t]))) rs ss (i + 1):=fun j r' e=>by
 obtain ⟨s,ys,e1,e2,e3⟩:=h j r' e
 by_cases c:r'=r
 ·subst c
  obtain rfl:=nodup_at nd e er
  refine ⟨s,_,e1,upd_same,?_⟩
  rw [hr] at e2
  cases e2
  rw [AI,e3,if_neg (Nat.lt_irrefl _),if_pos (Nat.lt_succ_self _)]
  rfl
 ·refine ⟨s,ys,e1,by rw [upd_ne c]; exact same_upd ht o _ _ e2,?_⟩
  have ne:j≠i:=fun z=>c (by rw [z,er] at e; cases e; rfl)
  rw [e3]
  by_cases cj:j < i
  ·rw [if_pos cj,if_pos (by lia)]
  ·rw [if_neg cj,if_neg (by lia)]
theorem iteNe {x:V} {A B:Prop} (p:B):if (!decide (x=x))=true then A else B:=by
 rw [decide_eq_true rfl]
 exact p
abbrev sAlike:Stmt:=top 26
abbrev sLaw34:Stmt:=top 27
section
variable {P:Program} {w:World} {K:PySem.W.Frag} {mg:Str→Option Value} {base:Heap} {f:Addr} {fd':FuncData}
inductive PspAlike (K:PySem.W.Frag) (vs:List V) (H:Hp) (Q:VK):Prop
 | mk (b sh ml:Addr) (bed:List (List Int)) (ts:List Tool) (ms:List Mo) (h0:vs=[.ref b,.ref sh,.ref ml]) (h1:BdAt H b bed) (h2:Rect bed) (h3:Small bed) (h4:ins bed (0,0)=true) (h5:ShAt H sh ts) (h6:∀ t∈ts,ToolOk t) (h7:ts.length≤6) (h8:MlAt H ml ms) (h9:Oks 400 ms) (h10:∀ H',Same H H'→Q (.int ((runM ts (S00 bed) ms).1.length:Int)) H'):PspAlike K vs H Q
def spAlike (K:PySem.W.Frag):Sp:=fun vs H Q _=>PspAlike K vs H Q
theorem scAlike:FnScope ["bed","shelf","moves","due","spans","handed","found","row"] ["bed","shelf","moves"] (defScope sAlike):=⟨rfl,rfl,rfl,by decide +kernel,rfl,by decide +kernel,by decide +kernel⟩
theorem ok_alike (T:LawT mg) (FC:Fn P w K mg base "carved" 7 ["bed","shelf","moves"] (Ce.spCarved K)) (FSp:Fn P w K mg base "spans_of" 3 ["bed"] (spSpans K)) (FV:Fn P w K mg base "carved_spans" 9 ["spans","width","shelf","moves"] (spCarvedS K)) (ktt:PySem.W.kitOne K (.type "tuple") (.type "tuple")=some true)
  (F:Fun K "_law_alike" "_law_alike" sAlike f fd'):FnOk P w K mg base (CX1 P w) 10 f fd' ["bed","shelf","moves"] (spAlike K):=by
 have nd:=scAlike.nd
 refine F.ok1 scAlike (fun vs H Q E h=>?_) (fun cdv A outer s H vs Q E hr h=>?_)
 ·obtain ⟨b,sh,ml,bed,ts,ms,rfl,_⟩:=h
  rfl
 obtain ⟨b,sh,ml,bed,ts,ms,rfl,hB,rect,small,inb,hS,tok,tl6,hM,okM,q⟩:=h
 have hr3:Room 3 _:=hr.mono (by decide)
 have hr7:Room 7 _:=hr.mono (by decide)
 refine ⟨_,(pss_cons (ps_set (i:=3) nd rfl (Or.inl rfl) (pf_call FC hr7 rfl (pass1 (E:=E)) (pa_cons (pe_lc (own:=["row"]) (capn:=[]) (capI:=[]) rfl (blk0 rfl (by decide +kernel)) (pi_listK (K:=K) rfl (pv 0)) (fun _ _ _ _ _ _=>pg_name (i:=0) (nd1 "row") rfl (Or.inl rfl)) (fun _ _ _ _ _ _=>pifs_nil) (fun _ _ _ _ _ _=>(pe_callTy (call_listK (K:=K) rfl) rfl T.list bt_list (pa_cons (pv 0) pa_nil)))) (pa_cons (pv 1) (pa_cons (pe_callTy (call_listK (K:=K) rfl) rfl T.list bt_list (pa_cons (pv 2) pa_nil)) pa_nil)))))
  (pss_cons (ps_set (i:=4) nd rfl (Or.inl rfl) (pf_call FSp hr3 rfl (pass1 (E:=E)) (pa_cons (pv 0) pa_nil)))
  (pss_cons (ps_set (i:=5) nd rfl (Or.inl rfl) (pe_tup (pa_cons (pe_callTy (call_listK (K:=K) rfl) rfl T.list bt_list (pa_cons (pv 4) pa_nil)) (pa_cons (pe_callTy (call_listK (K:=K) rfl) rfl T.list bt_list (pa_cons (pv 1) pa_nil)) (pa_cons (pe_callTy (call_listK (K:=K) rfl) rfl T.list bt_list (pa_cons (pv 2) pa_nil)) pa_nil)))))
  (pss_cons (ps_set (i:=6) nd rfl (Or.inl rfl) (pf_call FV hr rfl (pass1 (E:=E)) (pa_cons (pe_ix (ix_tupK (K:=K) rfl) (pv 5) pe_int (fun _ _=>rfl)) (pa_cons (pe_callB (call_lenK (K:=K) rfl) rfl T.len Ao (pa_cons (pe_ix (ix_listK (K:=K) rfl) (pv 0) pe_int (fun _ _=>rfl)) pa_nil)) (pa_cons (pe_ix (ix_tupK (K:=K) rfl) (pv 5) pe_int (fun _ _=>rfl)) (pa_cons (pe_ix (ix_tupK (K:=K) rfl) (pv 5) pe_int (fun _ _=>rfl)) pa_nil))))))
  (pss_cons (ps_if (PW.pt (pw_or (pt_not (pt_truth (pe_callB call_isiT rfl T.isin bt_isin (pa_cons (pv 6) (pa_cons (pe_bltn (v:=.ty "tuple") rfl T.tuple bt_tuple rfl) pa_nil))) (fun _=>rfl))) (pw_or (pt_cmpR op_ne (pe_callB (call_lenK (K:=K) rfl) rfl T.len Ao (pa_cons (pv 6) pa_nil)) pe_int (nomark _)) (pw_or1 (pt_cmpR (op_neDK (K:=K) rfl hr.units) (pv 5) (pe_tup (pa_cons (pf_call FSp hr3 rfl (pass1 (E:=E)) (pa_cons (pv 0) pa_nil)) (pa_cons (pv 1) (pa_cons (pv 2) pa_nil)))) (nomark _)))))) (pss_one (ps_ret (pe_un un_neg pe_int))) pss_nil)
  (pss_cons (ps_if (PW.pt (pw_or (pt_cmpR (op_neDK (K:=K) rfl hr.units) (pe_ix (ix_tupK (K:=K) rfl) (pv 6) pe_int (fun _ _=>rfl)) (pf_call FSp hr3 rfl (pass1 (E:=E)) (pa_cons (pe_ix (ix_tupK (K:=K) rfl) (pv 3) pe_int (fun _ _=>rfl)) pa_nil)) (nomark _)) (pw_or (pt_cmpR (op_neDK (K:=K) rfl hr.units) (pe_ix (ix_tupK (K:=K) rfl) (pv 6) pe_int (fun _ _=>rfl)) (pe_ix (ix_tupK (K:=K) rfl) (pv 3) pe_int (fun _ _=>rfl)) (nomark _)) (pw_or1 (pt_cmpR (op_neDK (K:=K) rfl hr.units) (pe_ix (ix_tupK (K:=K) rfl) (pv 6) pe_int (fun _ _=>rfl)) (pe_ix (ix_tupK (K:=K) rfl) (pv 3) pe_int (fun _ _=>rfl)) (nomark _)))))) (pss_one (ps_ret (pe_un un_neg pe_int))) pss_nil)
  (pss_cons (ps_for own1 rfl (pi_listK (K:=K) rfl (pe_ix (ix_tupK (K:=K) rfl) (pv 6) pe_int (fun _ _=>rfl))) (pg_name (i:=7) nd rfl (Or.inl rfl)) (pss_one (ps_expr (pe_bm Aq At Au mt_append (pv 7) (pa_cons (pe_tup (pa_cons pe_int (pa_cons pe_int pa_nil))) pa_nil)))))
  (pss_cons (ps_if (pt_cmpR (op_neDK (K:=K) rfl hr.units) (pe_lc (own:=["row"]) (capn:=[]) (capI:=[]) rfl (blk0 rfl (by decide +kernel)) (pi_listK (K:=K) rfl (pe_ix (ix_tupK (K:=K) rfl) (pv 6) pe_int (fun _ _=>rfl))) (fun _ _ _ _ _ _=>pg_name (i:=0) (nd1 "row") rfl (Or.inl rfl)) (fun _ _ _ _ _ _=>pifs_nil) (fun _ _ _ _ _ _=>(pe_callB (call_lenK (K:=K) rfl) rfl T.len Ao (pa_cons (pv 0) pa_nil)))) (pe_lc (own:=["row"]) (capn:=[]) (capI:=[]) rfl (blk0 rfl (by decide +kernel)) (pi_listK (K:=K) rfl (pf_call FSp hr3 rfl (pass1 (E:=E)) (pa_cons (pe_ix (ix_tupK (K:=K) rfl) (pv 3) pe_int (fun _ _=>rfl)) pa_nil))) (fun _ _ _ _ _ _=>pg_name (i:=0) (nd1 "row") rfl (Or.inl rfl)) (fun _ _ _ _ _ _=>pifs_nil) (fun _ _ _ _ _ _=>(pe_op op_add (pe_callB (call_lenK (K:=K) rfl) rfl T.len Ao (pa_cons (pv 0) pa_nil)) pe_int))) (nomark _)) (pss_one (ps_ret (pe_un un_neg pe_int))) pss_nil)
  (pss_cons (ps_expr (pe_bm Aq At Au mt_append (pe_ix (ix_tupK (K:=K) rfl) (pv 6) pe_int (fun _ _=>rfl)) (pa_cons pe_int pa_nil)))
  (pss_cons (ps_if (pt_cmpR (op_neDK (K:=K) rfl hr.units) (pf_call FV hr rfl (pass1 (E:=E)) (pa_cons (pv 4) (pa_cons (pe_callB (call_lenK (K:=K) rfl) rfl T.len Ao (pa_cons (pe_ix (ix_listK (K:=K) rfl) (pv 0) pe_int (fun _ _=>rfl)) pa_nil)) (pa_cons (pv 1) (pa_cons (pv 2) pa_nil))))) (pe_tup (pa_cons (pf_call FSp hr3 rfl (pass1 (E:=E)) (pa_cons (pe_ix (ix_tupK (K:=K) rfl) (pv 3) pe_int (fun _ _=>rfl)) pa_nil)) (pa_cons (pe_ix (ix_tupK (K:=K) rfl) (pv 3) pe_int (fun _ _=>rfl)) (pa_cons (pe_ix (ix_tupK (K:=K) rfl) (pv 3) pe_int (fun _ _=>rfl)) pa_nil)))) (nomark _)) (pss_one (ps_ret (pe_un un_neg pe_int))) pss_nil)
  (pss_one (ps_ret (pe_callB (call_lenK (K:=K) rfl) rfl T.len Ao (pa_cons (pe_ix (ix_tupK (K:=K) rfl) (pv 3) pe_int (fun _ _=>rfl)) pa_nil)))))))))))))),?_⟩
 have bl40:=small.1
 obtain ⟨bs,hb,rb⟩:=id hB
 obtain ⟨mts,hml,mv⟩:=id hM
 have mtl:=MlAt.len mv
 have okl:=okM.2
 have feet:∀ t∈ts,t.1.length≤60∧∀ s∈t.1,-1000≤s.1∧s.1≤1000∧-1000≤s.2∧s.2≤1000:=fun t ht=>⟨(tok t ht).1,(tok t ht).2.1⟩
 obtain ⟨alR,gfl,tkl⟩:=run_keep (bed:=bed) (ts:=ts) ms (S00 bed) (Alike.refl _) inb (Int.le_refl 1000) okM.1
 have h0:bed[0]?=some (bed.headD []):=by
  cases bed with
  | nil=>exact absurd rfl rect.1
  | cons r rr=>rfl
 obtain ⟨r0,er0,hr0⟩:=rb.at_ h0
 have at0:atI (bs.map V.ref) 0=some (.ref r0):=atI_nat (j:=0) (by rw [AF,er0]; rfl)
 generalize hR:runM ts (S00 bed) ms=R at alR gfl tkl q
 have dsm:=alR.small small
 refine abs_seq fun D1 e1=>?_
 refine ⟨_,rfl,b,rfl,⟨_,SqL.of hb⟩,fun b2 hb20=>?_⟩
 refine lc_rows (K:=K) hb rb (by lia) (fun r row H2 R hr' k=>⟨_,rfl,r,_,rfl,.inl (SqL.of hr'),k⟩) hb20 (fun rs2 H1 s1 hb2 rr2 rnd nrs ohb=>?_)
 refine ⟨_,rfl,_,rfl,ml,_,rfl,.inl (SqL.of (s1 _ _ hml)),fun ml2 hml2=>?_⟩
 have v1:=same_upd hml2 (.lst (mts.map V.ref))
 have s2:=s1.trans v1
 refine ⟨b2,sh,ml2,mts,bed,ts,ms,rfl,⟨rs2,v1 _ _ hb2,rr2.same v1⟩,hS.same s2,(fun t ht=>by have:=(feet t ht).1; lia),upd_same,mv.same s2,(fun m hm=>(okM.1 m hm).ok),(by lia),rect,small,inb,fun du DR dtl dfv drs H3 s3 hdu hdtl hdfv hDR drr _ _ _ _ _=>?_⟩
 rw [hR] at hdtl hdfv drr
 have s03:=s2.trans s3
 clear s1 v1 s2 s3 hb2 rr2 rnd nrs ohb hb20 hml2 rs2
 refine nxS e1 fun D1 e1=>?_
 refine ⟨_,rfl,.ref b,bed,rfl,(hB.same s03).rp,(by lia),(fun r hr=>by have:=small.2 r hr; lia),fun Sp ss H4 s4 _ hSp _ _ sp=>?_⟩
 have s04:=s03.trans s4
 obtain ⟨cs,hsh,hct⟩:=id (hS.same s04)
 have hml4:=s04 _ _ hml
 refine nxS e1 fun D1 e1=>?_
 refine ⟨_,rfl,Sp,_,rfl,.inl (SqL.of hSp),fun p1 hp1=>?_⟩
 have v1:=same_upd hp1 (.lst (ss.map V.ref))
 refine ⟨_,rfl,sh,_,rfl,.inl (SqL.of (v1 _ _ hsh)),fun p2 hp2=>?_⟩
 have v2:=same_upd hp2 (.lst (cs.map V.ref))
 refine ⟨_,rfl,ml,_,rfl,.inl (SqL.of (v2 _ _ (v1 _ _ hml4))),fun p3 hp3=>⟨le3,fun hn hhn=>?_⟩⟩
 have v3:=same_upd hp3 (.lst (mts.map V.ref))
 have v4:=same_upd hhn (.tup [V.ref p1,.ref p2,.ref p3])
 have v14:=v1.trans (v2.trans (v3.trans v4))
 have e11:upd (upd (upd (upd H4 p1 (.lst (ss.map V.ref))) p2 (.lst (cs.map V.ref))) p3 (.lst (mts.map V.ref))) hn (.tup [V.ref p1,.ref p2,.ref p3]) p1=some (.lst (ss.map V.ref)):=(v2.trans (v3.trans v4)) _ _ upd_same
 have e12:upd (upd (upd (upd H4 p1 (.lst (ss.map V.ref))) p2 (.lst (cs.map V.ref))) p3 (.lst (mts.map V.ref))) hn (.tup [V.ref p1,.ref p2,.ref p3]) p2=some (.lst (cs.map V.ref)):=(v3.trans v4) _ _ upd_same
 have e13:upd (upd (upd (upd H4 p1 (.lst (ss.map V.ref))) p2 (.lst (cs.map V.ref))) p3 (.lst (mts.map V.ref))) hn (.tup [V.ref p1,.ref p2,.ref p3]) p3=some (.lst (mts.map V.ref)):=v4 _ _ upd_same
 have e14:upd (upd (upd (upd H4 p1 (.lst (ss.map V.ref))) p2 (.lst (cs.map V.ref))) p3 (.lst (mts.map V.ref))) hn (.tup [V.ref p1,.ref p2,.ref p3]) hn=some (.tup [V.ref p1,.ref p2,.ref p3]):=upd_same
 refine nxS e1 fun D1 e1=>?_
 generalize upd (upd (upd (upd H4 p1 (.lst (ss.map V.ref))) p2 (.lst (cs.map V.ref))) p3 (.lst (mts.map V.ref))) hn (.tup [V.ref p1,.ref p2,.ref p3])=H5 at v14 e11 e12 e13 e14
 clear v1 v2 v3 v4 hp1 hp2 hp3 hhn
 have s05:=s04.trans v14
 have s35:=s4.trans v14
 have hb5:=s05 _ _ hb
 have hr05:=s05 _ _ hr0
 have sp5:=sp.same v14
 have hSp5:=v14 _ _ hSp
 have hS5:ShAt H5 p2 ts:=⟨cs,e12,hct.same v14⟩
 have mv5:=mv.same s05
 have hdu5:=s35 _ _ hdu
 have hdtl5:=s35 _ _ hdtl
 have hdfv5:=hdfv.same s35
 have hDR5:=s35 _ _ hDR
 have drr5:=drr.same s35
 clear hSp sp hdu hdtl hdfv hDR drr s4 v14 s35 hct hsh hml4 s03 s04
 refine ⟨_,rfl,hn,_,0,.ref p1,rfl,rfl,SqT.of e14,rfl,_,rfl,b,_,_,.ref r0,rfl,rfl,SqL.of hb5,at0,r0,_,rfl,.inl (SqL.of hr05),_,rfl,hn,_,1,.ref p2,rfl,rfl,SqT.of e14,rfl,_,rfl,hn,_,2,.ref p3,rfl,rfl,SqT.of e14,rfl,?_⟩
 rw [AA]
 refine ⟨p1,p2,p3,ss,mts,bed,ts,ms,rfl,e11,sp5,hS5,feet,e13,mv5,(fun m hm=>(okM.1 m hm).ok),(by lia),rect,small,inb,fun fo FR ftl ffv frs H6 s6 hfo hftl hffv hFR fsp nFR nfrs ndf nFRr nftl neq=>?_⟩
 rw [hR] at hftl hffv fsp
 refine nxS e1 fun D1 e1=>?_
 refine ⟨_,rfl,fo,_,"tuple",true,rfl,SqT.of hfo,ktt,_,rfl,iteF ?_⟩
 refine ⟨_,rfl,fo,_,rfl,.inr (SqT.of hfo),rfl,_,rfl,iteNe ?_⟩
 have hB6:=(hB.same s05).same s6
 refine ⟨_,rfl,_,rfl,.ref b,bed,rfl,hB6.rp,(by lia),(fun r hr=>by have:=small.2 r hr; lia),fun S2 ss2 H7 s7 _ hS2 _ _ sp2=>?_⟩
 refine ⟨_,rfl,_,rfl,le3,fun t4 ht4=>?_⟩
 have w4:=same_upd ht4 (.tup [V.ref S2,.ref sh,.ref ml])
 have s57:=(s6.trans s7).trans w4
 have s07:=s05.trans s57
 refine ⟨_,_,hnd_rp (s57 _ _ e14) (s57 _ _ e11) (sp5.same s57) (hS5.same s57) ⟨mts,s57 _ _ e13,mv5.same s57⟩,hnd_rp upd_same (w4 _ _ hS2) (sp2.same w4) (hS.same s07) (hM.same s07),(hnd_can _ _ okM.1).2,(hnd_can _ _ okM.1).2,_,rfl,?_⟩
 rw [eq_false (hnd_can _ _ okM.1).1]
 refine iteF ?_
 have s67:=s7.trans w4
 have hfo7:=s67 _ _ hfo
 have hftl7:=s67 _ _ hftl
 have hffv7:=hffv.same s67
 have hFR7:=s67 _ _ hFR
 have fsp7:=fsp.same s67
 refine nxS e1 fun D1 e1=>?_
 generalize upd H7 t4 (.tup [V.ref S2,.ref sh,.ref ml])=G7 at s57 s07 s67 hfo7 hftl7 hffv7 hFR7 fsp7
 have hdu7:=s57 _ _ hdu5
 have hdtl7:=s57 _ _ hdtl5
 have hdfv7:=hdfv5.same s57
 have hD7:BdAt G7 DR R.2.1.rows:=⟨drs,s57 _ _ hDR5,drr5.same s57⟩
 clear w4 ht4 hS2 sp2 s7 hB6 hfo hftl hffv hFR fsp s67
 refine ⟨_,rfl,fo,_,0,.ref FR,rfl,rfl,SqT.of hfo7,rfl,_,rfl,du,_,0,.ref DR,rfl,rfl,SqT.of hdu7,rfl,.ref DR,R.2.1.rows,rfl,hD7.rp,(by have:=dsm.1; lia),(fun r hr=>by have:=dsm.2 r hr; lia),fun S3 ss3 H8 s8 _ hS3 _ _ sp3=>?_⟩
 refine ⟨spsD (R.2.1.rows.map spans),spsD (R.2.1.rows.map spans),.lst (SqL.of (s8 _ _ hFR7)) (fsp7.same s8).rp,.lst (SqL.of hS3) sp3.rp,(spsD_can _).2,(spsD_can _).2,_,rfl,?_⟩
 rw [eq_false (spsD_can _).1]
 refine iteF ?_
 refine ⟨_,rfl,fo,_,1,.ref ftl,rfl,rfl,SqT.of (s8 _ _ hfo7),rfl,_,rfl,du,_,1,.ref dtl,rfl,rfl,SqT.of (s8 _ _ hdu7),rfl,.list (R.1.map .int),.list (R.1.map .int),.lst (SqL.of (s8 _ _ hftl7)) (ints_rp R.1),.lst (SqL.of (s8 _ _ hdtl7)) (ints_rp R.1),(intsD_can _).2,(intsD_can _).2,_,rfl,?_⟩
 rw [eq_false (intsD_can _).1]
 refine iteF ?_
 refine ⟨_,rfl,fo,_,2,ffv,rfl,rfl,SqT.of (s8 _ _ hfo7),rfl,_,rfl,du,_,2,dfv,rfl,rfl,SqT.of (s8 _ _ hdu7),rfl,_,_,hffv7.same s8,hdfv7.same s8,(flt_can gfl).2,(flt_can gfl).2,_,rfl,?_⟩
 rw [eq_false (flt_can gfl).1]
 refine iteF ?_
 have s58:=s57.trans s8
 have hfo8:=s8 _ _ hfo7
 have hftl8:=s8 _ _ hftl7
 have hFR8:=s8 _ _ hFR7
 have fsp8:=fsp7.same s8
 have ln8:=fsp8.ln
 have fl8:=fsp8.len
 have rl:=dsm.1
 have fl40:frs.length≤40:=by rw [AA] at fl8; lia
 have sl40:∀ s∈R.2.1.rows.map spans,s.length≤40:=fun s hs=>by
  obtain ⟨r,hr',rfl⟩:=A6.mp hs
  exact Ag (spans_len r) (dsm.2 r hr')
 generalize hSS:R.2.1.rows.map spans=SS at ln8 fl8 sl40 fsp8
 clear hfo7 hftl7 hffv7 hFR7 fsp7 hdu7 hdtl7 hdfv7 hD7 s07 s57 hS3 sp3 s8
 have nfo:fo ∉ frs:=fun z=>by
  obtain ⟨xs,h⟩:=fsp8.mem _ z
  rw [hfo8] at h
  cases h
 have ne0:∀ s∈SS,0 < s.length:=fun s hs=>by
  rw [← hSS] at hs
  obtain ⟨r,hr',rfl⟩:=A6.mp hs
  have i0:ins R.2.1.rows (0,0)=true:=by rw [← alR.ins]; exact inb
  have i1:=(of_decide_eq_true i0).2.2.2
  have i2:=(alR.rect rect).2 r hr'
  refine List.length_pos_iff.mpr (spans_ne ?_)
  simp only at i1
  lia
 have ntl:ftl ∉ frs:=fun z=>by
  obtain ⟨j,hj⟩:=A8 z
  obtain ⟨s,e1,ts',e2,e3⟩:=fsp8.lens j _ hj
  have l1:=ne0 s (A5 e1)
  have l2:=e3.len
  rw [AA] at l2
  rw [hftl8] at e2
  cases ts' with
  | nil=>rw [List.length_nil] at l2; lia
  | cons t ts' =>
   cases hR1:R.1 with
   | nil=>rw [hR1] at e2; cases e2
   | cons a as=>rw [hR1] at e2; cases e2
 refine nxS e1 fun D1 e1=>?_
 refine ⟨_,rfl,fo,_,0,.ref FR,rfl,rfl,SqT.of hfo8,rfl,FR,rfl,⟨_,SqL.of hFR8⟩,?_⟩
 refine for_list (K:=K) (xs:=frs.map V.ref) (fun i σ G=>∃ x7:Option V,σ=[some (.ref b),some (.ref sh),some (.ref ml),some (.ref du),some (.ref Sp),some (.ref hn),some (.ref fo),x7]∧Kp frs H8 G∧LnAt G frs SS i)
  ⟨none,rfl,fun _ _ _ e=>e,ln8⟩ ?_ ?_ ?_
 ·rintro i σ G _ ⟨x7,rfl,k,_⟩
  exact SqL.of (k _ _ nFRr hFR8)
 ·rintro i v σ G hv ⟨x7,rfl,k,ln⟩
  obtain ⟨r,er,rfl⟩:=ref_get hv
  obtain ⟨s,xs,e1,e2,e3⟩:=ln i r er
  have sl:=sl40 s (A5 e1)
  rw [if_neg (Nat.lt_irrefl _)] at e3
  refine ⟨_,rfl,.inl ⟨rfl,_,SqL.of e2⟩,le2,fun t ht=>?_⟩
  refine ⟨r,xs,.ref t,rfl,rfl,same_upd ht _ _ _ e2,line3 (show xs.length≤1000 by lia) (by decide),?_⟩
  refine ⟨_,rfl,fun x o nx e=>?_,ln.next ndf er e2 ht⟩
  rw [upd_ne (fun z=>nx (by rw [z]; exact A5 er))]
  exact same_upd ht _ _ _ (k x o nx e)
 rintro σ G ⟨x7,rfl,k,ln⟩
 rw [AA] at ln
 have hfoG:=k _ _ nfo hfo8
 have hFRG:=k _ _ nFRr hFR8
 have hftlG:=k _ _ ntl hftl8
 have s5G:Same H5 G:=Kp.same s58 nfrs k
 have hduG:=s5G _ _ hdu5
 have hdtlG:=s5G _ _ hdtl5
 have hDG:BdAt G DR R.2.1.rows:=⟨drs,s5G _ _ hDR5,drr5.same s5G⟩
 have lenF:∀ x∈frs.map V.ref,∃ (r:Addr) (xs:List V),x=.ref r∧G r=some (.lst xs):=fun x hx=>by
  obtain ⟨r,hr',rfl⟩:=A6.mp hx
  obtain ⟨j,hj⟩:=A8 hr'
  obtain ⟨s,xs,e1,e2,e3⟩:=ln j r hj
  exact ⟨r,xs,rfl,e2⟩
 refine nxS e1 fun D1 e1=>?_
 refine ⟨_,rfl,fo,_,0,.ref FR,rfl,rfl,SqT.of hfoG,rfl,FR,rfl,⟨_,SqL.of hFRG⟩,fun L1 hL10=>?_⟩
 refine lc_valC (K:=K) (F:=lenV G 0) [] (SqL.of hFRG) (by rw [AA]; lia) (fun x hx H2 Rk s2 kk=>?_) hL10 (fun G1 s1 hL1=>?_)
 ·obtain ⟨r,xs,rfl,e⟩:=lenF x hx
  refine ⟨_,rfl,r,xs,rfl,.inl (SqL.of (s2 _ _ e)),?_⟩
  rw [lenV_of e,Int.add_zero] at kk
  exact kk
 refine ⟨_,rfl,du,_,0,.ref DR,rfl,rfl,SqT.of (s1 _ _ hduG),rfl,.ref DR,R.2.1.rows,rfl,(hDG.same s1).rp,(by have:=dsm.1; lia),(fun r hr=>by have:=dsm.2 r hr; lia),fun S4 ss4 G2 s2 _ hS4 _ _ sp4=>?_⟩
 rw [hSS] at sp4
 have ln4:=sp4.ln
 have fl4:=sp4.len
 refine ⟨S4,rfl,⟨_,SqL.of hS4⟩,fun L2 hL20=>?_⟩
 refine lc_valC (K:=K) (F:=lenV G2 1) [] (SqL.of hS4) (by rw [AA]; lia) (fun x hx H2 Rk s3 kk=>?_) hL20 (fun G3 s3 hL2=>?_)
 ·obtain ⟨r,hr',rfl⟩:=A6.mp hx
  obtain ⟨j,hj⟩:=A8 hr'
  obtain ⟨s,xs,e1,e2,e3⟩:=ln4 j r hj
  refine ⟨_,rfl,r,xs,rfl,.inl (SqL.of (s3 _ _ e2)),_,_,rfl,rfl,?_⟩
  rw [lenV_of e2] at kk
  exact kk
 rw [lens_eq fl8 ln (m:=1) (fun j hj=>by rw [if_pos hj]; rfl)] at hL1
 rw [lens_eq fl4 ln4 (m:=1) (fun j hj=>by rw [if_neg (Nat.not_lt_zero _)]; rfl)] at hL2
 have s13:=s2.trans s3
 refine ⟨.list ((SS.map fun (s:Sp2)=>((s.length:Int) + 1)).map .int),.list ((SS.map fun (s:Sp2)=>((s.length:Int) + 1)).map .int),.lst (SqL.of (s13 _ _ hL1)) (ints_rp _),.lst (SqL.of hL2) (ints_rp _),(intsD_can _).2,(intsD_can _).2,_,rfl,?_⟩
 rw [eq_false (intsD_can _).1]
 refine iteF ?_
 have sG3:=s1.trans s13
 have s53:=s5G.trans sG3
 have hfo3:=sG3 _ _ hfoG
 have hftl3:=sG3 _ _ hftlG
 clear hL1 hL2 s1 s2 s3 s13 sG3 sp4 ln4 hS4 hL10 hL20 hfoG hftlG hFRG hDG hduG hdtlG s5G ln k lenF
 refine nxS e1 fun D1 e1=>?_
 refine ⟨_,rfl,fo,_,1,.ref ftl,rfl,rfl,SqT.of hfo3,rfl,.inl ⟨rfl,_,SqL.of hftl3⟩,ftl,_,.int 1,rfl,rfl,hftl3,(by rw [AA]; exact line3 (show R.1.length≤1000 by lia) (by decide)),?_⟩
 have s5U:Same H5 (upd G3 ftl (.lst (R.1.map V.int++[V.int 1]))):=fun x o e=>by
  rw [upd_ne (ne_of_none e nftl)]
  exact s53 _ _ e
 refine nxS e1 fun D1 e1=>?_
 generalize upd G3 ftl (.lst (R.1.map V.int++[V.int 1]))=G4 at s5U
 have s04:=s05.trans s5U
 refine ⟨_,rfl,_,rfl,b,_,_,.ref r0,rfl,rfl,SqL.of (s5U _ _ hb5),at0,r0,_,rfl,.inl (SqL.of (s5U _ _ hr05)),_,rfl,_,rfl,?_⟩
 rw [AA]
 refine ⟨Sp,sh,ml,ss,mts,bed,ts,ms,rfl,s5U _ _ hSp5,sp5.same s5U,hS.same s04,feet,s04 _ _ hml,mv5.same s5U,(fun m hm=>(okM.1 m hm).ok),(by lia),rect,small,inb,fun fo2 FR2 ftl2 ffv2 frs2 G6 s6' hfo2 hftl2 hffv2 hFR2 fsp2 _ _ _ _ _ _=>?_⟩
 rw [hR] at hftl2 hffv2 fsp2
 have s56:=s5U.trans s6'
 refine ⟨_,rfl,du,_,0,.ref DR,rfl,rfl,SqT.of (s56 _ _ hdu5),rfl,.ref DR,R.2.1.rows,rfl,(BdAt.same ⟨drs,hDR5,drr5⟩ s56).rp,(by have:=dsm.1; lia),(fun r hr=>by have:=dsm.2 r hr; lia),fun S5 ss5 G7 s7 _ hS5' _ _ sp5'=>?_⟩
 have s57:=s56.trans s7
 refine ⟨_,rfl,du,_,1,.ref dtl,rfl,rfl,SqT.of (s57 _ _ hdu5),rfl,_,rfl,du,_,2,dfv,rfl,rfl,SqT.of (s57 _ _ hdu5),rfl,le3,fun t5 ht5=>?_⟩
 have w5:=same_upd ht5 (.tup [V.ref S5,.ref dtl,dfv])
 have s5E:=s57.trans w5
 refine ⟨_,_,fnd_rp ((s7.trans w5) _ _ hfo2) ((s7.trans w5) _ _ hFR2) (fsp2.same (s7.trans w5)) ((s7.trans w5) _ _ hftl2) (hffv2.same (s7.trans w5)),fnd_rp upd_same (w5 _ _ hS5') (sp5'.same w5) (s5E _ _ hdtl5) (hdfv5.same s5E),(fnd_can _ _ gfl).2,(fnd_can _ _ gfl).2,_,rfl,?_⟩
 rw [eq_false (fnd_can _ _ gfl).1]
 refine iteF ?_
 refine nxS1 e1 ?_
 refine ⟨_,rfl,du,_,1,.ref dtl,rfl,rfl,SqT.of (s5E _ _ hdu5),rfl,dtl,_,rfl,.inl (SqL.of (s5E _ _ hdtl5)),?_⟩
 rw [AA]
 exact q _ (s05.trans s5E)
end
theorem cut_take {α:Type} (g:α→V) (xs:List α) (k:Nat):cutV (xs.map g) none (some (k:Int))=(xs.take k).map g:=by
 unfold cutV
 rw [HT.sIx_none,HT.sIx_nat,List.drop_zero,← List.map_take,AA,Nat.sub_zero]
 congr 1
 rcases Nat.le_total k xs.length with h | h
 ·rw [Nat.min_eq_left h]
 ·rw [Nat.min_eq_right h,AT (AD _),AT h]
theorem cut_drop {α:Type} (g:α→V) (xs:List α) (k:Nat):cutV (xs.map g) (some (k:Int)) none=(xs.drop k).map g:=by
 unfold cutV
 rw [HT.sIx_none,HT.sIx_nat,← List.map_drop,← List.map_take,AA]
 congr 1
 rcases Nat.le_total k xs.length with h | h
 ·rw [Nat.min_eq_left h,AT (by rw [List.length_drop]; exact AD _)]
 ·rw [Nat.min_eq_right h,List.drop_of_length_le (AD _),List.drop_of_length_le h,List.take_nil]
theorem lw_at (k:Bool):∃ mo:Int,atI [V.int 6,.int 2] (if k=true then 1 else 0)=some (.int mo)∧0≤mo∧mo≤6:=by
 cases k
 ·exact ⟨6,rfl,by decide,by decide⟩
 ·exact ⟨2,rfl,by decide,by decide⟩
theorem MvAt.take_ {H:Hp}:∀ (k:Nat) {ts:List Addr} {ms:List (List V)},MvAt H ts ms→MvAt H (ts.take k) (ms.take k)
 | 0,_,_,_=>by rw [Am,Am]; exact AS
 | k + 1,[],[],h=>h
 | k + 1,_ :: _,_ :: _,h=>⟨h.1,MvAt.take_ k h.2⟩
 | _ + 1,[],_ :: _,h=>h.elim
 | _ + 1,_ :: _,[],h=>h.elim
theorem MvAt.drop_ {H:Hp}:∀ (k:Nat) {ts:List Addr} {ms:List (List V)},MvAt H ts ms→MvAt H (ts.drop k) (ms.drop k)
 | 0,_,_,h=>h
 | k + 1,[],[],h=>h
 | k + 1,_ :: _,_ :: _,h=>MvAt.drop_ k h.2
 | _ + 1,[],_ :: _,h=>h.elim
 | _ + 1,_ :: _,[],h=>h.elim
section
variable {P:Program} {w:World} {K:PySem.W.Frag} {mg:Str→Option Value} {base:Heap} {f:Addr} {fd':FuncData}
inductive PspLaw (K:PySem.W.Frag) (vs:List V) (H:Hp) (Q:VK):Prop
 | mk (a:Addr) (ns:List Int) (h0:vs=[.ref a]) (h1:SqL K H a (ns.map V.int)) (h2:ns.length≤63) (h3:∀ H',Q (.bl true) H'):PspLaw K vs H Q
def spLaw (K:PySem.W.Frag):Sp:=fun vs H Q _=>PspLaw K vs H Q
theorem scLaw:FnScope ["script","bed","shelf","moves","turn","done"] ["script"] (defScope sLaw34):=⟨rfl,rfl,rfl,by decide +kernel,rfl,by decide +kernel,by decide +kernel⟩
theorem ok_law (T:LawT mg) (FB:Fn P w K mg base "_law_bed" 2 ["script"] (spBed K)) (FSh:Fn P w K mg base "_law_shelf" 3 ["script"] (spShelf K)) (FM:Fn P w K mg base "_law_moves" 3 ["script","bed","shelf"] (spMoves K)) (FA:Fn P w K mg base "_law_alike" 10 ["bed","shelf","moves"] (spAlike K))
  (F:Fun K "law" "law" sLaw34 f fd'):FnOk P w K mg base (CX1 P w) 11 f fd' ["script"] (spLaw K):=by
 have nd:=scLaw.nd
 refine F.ok1 scLaw (fun vs H Q E h=>?_) (fun cdv A outer s H vs Q E hr h=>?_)
 ·obtain ⟨a,ns,rfl,_⟩:=h
  rfl
 obtain ⟨L,ns,rfl,hL,n63,q⟩:=h
 have hr2:Room 2 _:=hr.mono (by decide)
 have hr3:Room 3 _:=hr.mono (by decide)
 refine ⟨_,(pss_cons (ps_set (i:=1) nd rfl (Or.inl rfl) (pf_call FB hr2 rfl (pass1 (E:=E)) (pa_cons (pv 0) pa_nil)))
  (pss_cons (ps_set (i:=2) nd rfl (Or.inl rfl) (pf_call FSh hr3 rfl (pass1 (E:=E)) (pa_cons (pv 0) pa_nil)))
  (pss_cons (ps_set (i:=3) nd rfl (Or.inl rfl) (pf_call FM hr3 rfl (pass1 (E:=E)) (pa_cons (pv 0) (pa_cons (pv 1) (pa_cons (pv 2) pa_nil)))))
  (pss_cons (ps_for own1 rfl (pi_range1 rfl T.range (pa_cons (pe_ix (ix_listK (K:=K) rfl) (pe_lst (pa_cons pe_int (pa_cons pe_int pa_nil))) (pe_callTy call_int1 rfl T.int bt_int (pa_cons (pe_cmpR op_gt (pe_callB (call_lenK (K:=K) rfl) rfl T.len Ao (pa_cons (pe_ix (ix_listK (K:=K) rfl) (pv 1) pe_int (fun _ _=>rfl)) pa_nil)) pe_int (nomark _)) pa_nil)) (fun _ _=>rfl)) pa_nil)) (pg_name (i:=4) nd rfl (Or.inl rfl)) (pss_cons (ps_set (i:=5) nd rfl (Or.inl rfl) (pf_call FA hr rfl (pass1 (E:=E)) (pa_cons (pv 1) (pa_cons (pv 2) (pa_cons (pv 3) pa_nil)))))
  (pss_cons (ps_if (pt_cmpR op_lt (pv 5) pe_int (nomark _)) (pss_one (ps_ret pe_bl)) pss_nil)
  (pss_one (ps_if (pt_cmpR op_lt (pv 5) (pe_callB (call_lenK (K:=K) rfl) rfl T.len Ao (pa_cons (pv 3) pa_nil)) (nomark _)) (pss_one (ps_set (i:=3) nd rfl (Or.inl rfl) (pe_op op_cat (pe_slice (sl_listK (K:=K) rfl) (pv 3) po_none (po_some (pv 5))) (pe_slice (sl_listK (K:=K) rfl) (pv 3) (po_some (pe_op op_add (pv 5) pe_int)) po_none)))) pss_nil)))))
  (pss_one (ps_ret (pe_cmpR op_ge (pf_call FA hr rfl (pass1 (E:=E)) (pa_cons (pv 1) (pa_cons (pv 2) (pa_cons (pe_slice (sl_listK (K:=K) rfl) (pv 3) po_none (po_some (pe_op op_fdiv (pe_callB (call_lenK (K:=K) rfl) rfl T.len Ao (pa_cons (pv 3) pa_nil)) pe_int))) pa_nil)))) pe_int (nomark _)))))))),?_⟩
 refine abs_seq fun D1 e1=>?_
 refine ⟨_,rfl,L,ns,rfl,hL,fun b bed H1 s1 hB rect small inb hi=>?_⟩
 refine nxS e1 fun D1 e1=>?_
 refine ⟨_,rfl,L,ns,rfl,s1.seq hL,fun sh ts H2 s2 hS tok tl0 tl6=>?_⟩
 refine nxS e1 fun D1 e1=>?_
 refine ⟨_,rfl,_,rfl,_,rfl,L,b,sh,ns,bed,ts,rfl,(s1.trans s2).seq hL,n63,hB.same s2,rect,inb,hS,tok,tl0,tl6,fun ml0 ms0 H3 s3 hM0 okM0=>?_⟩
 have hB3:=hB.same (s2.trans s3)
 have hS3:=hS.same s3
 clear s1 s2 s3 hB hS hL
 obtain ⟨bs,hb3,rb3⟩:=id hB3
 have h0:bed[0]?=some (bed.headD []):=by
  cases bed with
  | nil=>exact absurd rfl rect.1
  | cons r rr=>rfl
 obtain ⟨r0,er0,hr0⟩:=rb3.at_ h0
 have at0:atI (bs.map V.ref) 0=some (.ref r0):=atI_nat (j:=0) (by rw [AF,er0]; rfl)
 refine nxS e1 fun D1 e1=>?_
 refine ⟨le2,fun l1 hl1=>?_⟩
 have w2:=same_upd hl1 (.lst [V.int 6,.int 2])
 obtain ⟨mo,hmo,mo0,mo6⟩:=lw_at (decide ((((bed.headD []).map V.int).length:Int) > 6))
 refine ⟨_,rfl,b,_,_,.ref r0,rfl,rfl,SqL.of (w2 _ _ hb3),at0,r0,_,rfl,.inl (SqL.of (w2 _ _ hr0)),_,_,rfl,rfl,.inr ⟨_,rfl,l1,_,_,.int mo,rfl,rfl,SqL.of upd_same,hmo,_,rfl,(by lia),(by lia),?_⟩⟩
 have hB4:=hB3.same w2
 have hS4:=hS3.same w2
 have hM4:=hM0.same w2
 generalize upd H3 l1 (.lst [V.int 6,.int 2])=H4 at hB4 hS4 hM4
 refine for_range (fun i σ G=>Ex4 fun (x4 x5:Option V) (ml:Addr) (ms:List Mo)=>σ=[some (.ref L),some (.ref b),some (.ref sh),some (.ref ml),x4,x5]∧Same H4 G∧MlAt G ml ms∧Oks 400 ms)
  ⟨none,none,ml0,ms0,rfl,fun _ _ e=>e,hM4,okM0⟩ ?_ ?_
 ·rintro i σ G _ ⟨x4,x5,ml,ms,rfl,sG,hM,okM⟩
  refine abs_seq fun D2 e2=>?_
  refine ⟨_,rfl,_,rfl,_,rfl,b,sh,ml,bed,ts,ms,rfl,hB4.same sG,rect,small,inb,hS4.same sG,tok,tl6,hM,okM,fun G1 s1=>?_⟩
  obtain ⟨_,_,tkl⟩:=run_keep (bed:=bed) (ts:=ts) ms (S00 bed) (Alike.refl _) inb (Int.le_refl 1000) okM.1
  generalize (runM ts (S00 bed) ms).1.length=d at tkl
  have sG1:=sG.trans s1
  have hM1:=hM.same s1
  have okl:=okM.2
  refine nxS e2 fun D2 e2=>?_
  refine ⟨_,rfl,_,_,rfl,rfl,_,rfl,iteFd (by lia) ?_⟩
  refine nxS1 e2 ?_
  obtain ⟨mts,hml,mv⟩:=id hM1
  have mtl:=MlAt.len mv
  refine ⟨_,rfl,_,rfl,ml,_,rfl,.inl (SqL.of hml),_,_,rfl,rfl,_,rfl,ite2 (fun _=>?_) (fun _=>⟨_,_,ml,ms,rfl,sG1,hM1,okM⟩)⟩
  refine ⟨_,rfl,_,rfl,_,rfl,ml,_,rfl,SqL.of hml,fun p1 hp1=>?_⟩
  rw [cut_take]
  have w1:=same_upd hp1 (.lst ((mts.take d).map V.ref))
  refine ⟨_,rfl,_,rfl,_,_,rfl,rfl,_,rfl,ml,_,rfl,SqL.of (w1 _ _ hml),fun p2 hp2=>?_⟩
  rw [show ((d:Int) + 1)=((d + 1:Nat):Int) from rfl,cut_drop]
  have w2:=same_upd hp2 (.lst ((mts.drop (d + 1)).map V.ref))
  refine ⟨p1,p2,_,_,rfl,rfl,w2 _ _ upd_same,upd_same,?_,fun p3 hp3=>?_⟩
  ·rw [AA,AA,A0,List.length_drop]
   exact Ag (show _≤1000 by lia) (by decide)
  have w3:=same_upd hp3 (.lst ((mts.take d).map V.ref++(mts.drop (d + 1)).map V.ref))
  have w13:=w1.trans (w2.trans w3)
  refine ⟨_,_,p3,ms.take d++ms.drop (d + 1),rfl,sG1.trans w13,⟨mts.take d++mts.drop (d + 1),by rw [upd_same,AG],?_⟩,fun m hm=>?_,?_⟩
  ·have z:=((mv.take_ d).same w13).app ((mv.drop_ (d + 1)).same w13)
   rw [← List.map_take,← List.map_drop] at z
   rw [AG]
   exact z
  ·rcases AY.mp hm with h | h
   ·exact okM.1 m (List.mem_of_mem_take h)
   ·exact okM.1 m (List.mem_of_mem_drop h)
  ·rw [AI,A0,List.length_drop]
   lia
 rintro σ G ⟨x4,x5,ml,ms,rfl,sG,hM,okM⟩
 have okl:=okM.2
 obtain ⟨mts,hml,mv⟩:=id hM
 refine nxS1 e1 ?_
 refine ⟨_,rfl,_,rfl,_,rfl,_,rfl,ml,_,rfl,.inl (SqL.of hml),_,_,rfl,rfl,⟨by decide,by decide⟩,_,rfl,ml,_,rfl,SqL.of hml,fun p hp=>?_⟩
 rw [show ((((mts.map V.ref).length:Int)) / 2)=(((mts.map V.ref).length / 2:Nat):Int) from rfl,cut_take]
 generalize (mts.map V.ref).length / 2=k
 have w1:=same_upd hp (.lst ((mts.take k).map V.ref))
 have sG1:=sG.trans w1
 refine ⟨b,sh,p,bed,ts,ms.take k,rfl,hB4.same sG1,rect,small,inb,hS4.same sG1,tok,tl6,⟨_,upd_same,by have z:=(mv.take_ k).same w1; rw [← List.map_take] at z; exact z⟩,⟨fun m hm=>okM.1 m (List.mem_of_mem_take hm),by rw [A0]; lia⟩,fun G1 s1=>?_⟩
 refine ⟨_,_,rfl,rfl,?_⟩
 rw [decide_eq_true (by lia)]
 exact q _
end
structure FnT (K:PySem.W.Frag) (x:Str) (st:Stmt) (f:Addr) (fd:FuncData):Prop where
 ns:AQ K AZ x=some (some (.ref f))
 fn:Fun K x x st f fd
theorem fnT_mk {K:PySem.W.Frag} {x:Str} {st:Stmt} {f:Addr} {oc:Value} {od an:Option Addr} {osl:Array (Option Value)} {kV doc pm cdv ct:Value} (a:AQ K AZ x=some (some (.ref f)))
  (l:K.lookup f=some ⟨oc,od,.func (Av x x (defArgs st) (defBody st) (defScope st) .none kV doc pm an cdv ct),osl⟩) (c:As K cdv x=true) (k:Ah K (.ref f)=true):∃ f fd,FnT K x st f fd:=⟨_,_,a,fun_mk l c k⟩
structure C_Carver (K:PySem.W.Frag) (C f0 f1 f2 f3 f4 f5 f6 f7:Addr) (d0 d1 d2 d3 d4 d5 d6 d7:FuncData):Prop where
 ns:AQ K AZ "Carver"=some (some (.ref C))
 cl:Cls K C
 fn___init__:Fun K "__init__" "Carver.__init__" (inClass (top 4) 0) f0 d0
 mks:Mk K C f0
 fn_do:Fun K "do" "Carver.do" (inClass (top 4) 1) f1 d1
 mt_do:Meth K C "do" f1
 fn_do_hold:Fun K "do_hold" "Carver.do_hold" (inClass (top 4) 2) f2 d2
 mt_do_hold:Meth K C "do_hold" f2
 fn_do_move:Fun K "do_move" "Carver.do_move" (inClass (top 4) 3) f3 d3
 mt_do_move:Meth K C "do_move" f3
 fn_has_room:Fun K "has_room" "Carver.has_room" (inClass (top 4) 4) f4 d4
 mt_has_room:Meth K C "has_room" f4
 fn_way_to:Fun K "way_to" "Carver.way_to" (inClass (top 4) 5) f5 d5
 mt_way_to:Meth K C "way_to" f5
 fn_pass_over:Fun K "pass_over" "Carver.pass_over" (inClass (top 4) 6) f6 d6
 mt_pass_over:Meth K C "pass_over" f6
 fn_cut_along:Fun K "cut_along" "Carver.cut_along" (inClass (top 4) 7) f7 d7
 mt_cut_along:Meth K C "cut_along" f7
 n_stuff:NoAttr K C "stuff"
 n_shelf:NoAttr K C "shelf"
 n_cutter:NoAttr K C "cutter"
 n_stands:NoAttr K C "stands"
theorem C_Carver_mk {K:PySem.W.Frag} {C f0 f1 f2 f3 f4 f5 f6 f7:Addr} {od0 an0 od1 an1 od2 an2 od3 an3 od4 an4 od5 an5 od6 an6 od7 an7:Option Addr} {sl0 sl1 sl2 sl3 sl4 sl5 sl6 sl7:Array (Option Value)} {oc0 kV0 dc0 pm0 cd0 ct0 oc1 kV1 dc1 pm1 cd1 ct1 oc2 kV2 dc2 pm2 cd2 ct2 oc3 kV3 dc3 pm3 cd3 ct3 oc4 kV4 dc4 pm4 cd4 ct4 oc5 kV5 dc5 pm5 cd5 ct5 oc6 kV6 dc6 pm6 cd6 ct6 oc7 kV7 dc7 pm7 cd7 ct7:Value}
  (aC:AQ K AZ "Carver"=some (some (.ref C)))
  (a0:AX K (.ref C) "__init__"=some (some (.ref f0))) (i0:A4 K (.ref f0)=true) (l0:K.lookup f0=some ⟨oc0,od0,.func (Av "__init__" "Carver.__init__" (defArgs (inClass (top 4) 0)) (defBody (inClass (top 4) 0)) (defScope (inClass (top 4) 0)) .none kV0 dc0 pm0 an0 cd0 ct0),sl0⟩) (c0:As K cd0 "Carver.__init__"=true) (k0:Ah K (.ref f0)=true)
  (a1:AX K (.ref C) "do"=some (some (.ref f1))) (i1:A4 K (.ref f1)=true) (l1:K.lookup f1=some ⟨oc1,od1,.func (Av "do" "Carver.do" (defArgs (inClass (top 4) 1)) (defBody (inClass (top 4) 1)) (defScope (inClass (top 4) 1)) .none kV1 dc1 pm1 an1 cd1 ct1),sl1⟩) (c1:As K cd1 "Carver.do"=true) (k1:Ah K (.ref f1)=true)
  (a2:AX K (.ref C) "do_hold"=some (some (.ref f2))) (i2:A4 K (.ref f2)=true) (l2:K.lookup f2=some ⟨oc2,od2,.func (Av "do_hold" "Carver.do_hold" (defArgs (inClass (top 4) 2)) (defBody (inClass (top 4) 2)) (defScope (inClass (top 4) 2)) .none kV2 dc2 pm2 an2 cd2 ct2),sl2⟩) (c2:As K cd2 "Carver.do_hold"=true) (k2:Ah K (.ref f2)=true)
  (a3:AX K (.ref C) "do_move"=some (some (.ref f3))) (i3:A4 K (.ref f3)=true) (l3:K.lookup f3=some ⟨oc3,od3,.func (Av "do_move" "Carver.do_move" (defArgs (inClass (top 4) 3)) (defBody (inClass (top 4) 3)) (defScope (inClass (top 4) 3)) .none kV3 dc3 pm3 an3 cd3 ct3),sl3⟩) (c3:As K cd3 "Carver.do_move"=true) (k3:Ah K (.ref f3)=true)
  (a4:AX K (.ref C) "has_room"=some (some (.ref f4))) (i4:A4 K (.ref f4)=true) (l4:K.lookup f4=some ⟨oc4,od4,.func (Av "has_room" "Carver.has_room" (defArgs (inClass (top 4) 4)) (defBody (inClass (top 4) 4)) (defScope (inClass (top 4) 4)) .none kV4 dc4 pm4 an4 cd4 ct4),sl4⟩) (c4:As K cd4 "Carver.has_room"=true) (k4:Ah K (.ref f4)=true)
  (a5:AX K (.ref C) "way_to"=some (some (.ref f5))) (i5:A4 K (.ref f5)=true) (l5:K.lookup f5=some ⟨oc5,od5,.func (Av "way_to" "Carver.way_to" (defArgs (inClass (top 4) 5)) (defBody (inClass (top 4) 5)) (defScope (inClass (top 4) 5)) .none kV5 dc5 pm5 an5 cd5 ct5),sl5⟩) (c5:As K cd5 "Carver.way_to"=true) (k5:Ah K (.ref f5)=true)
  (a6:AX K (.ref C) "pass_over"=some (some (.ref f6))) (i6:A4 K (.ref f6)=true) (l6:K.lookup f6=some ⟨oc6,od6,.func (Av "pass_over" "Carver.pass_over" (defArgs (inClass (top 4) 6)) (defBody (inClass (top 4) 6)) (defScope (inClass (top 4) 6)) .none kV6 dc6 pm6 an6 cd6 ct6),sl6⟩) (c6:As K cd6 "Carver.pass_over"=true) (k6:Ah K (.ref f6)=true)
  (a7:AX K (.ref C) "cut_along"=some (some (.ref f7))) (i7:A4 K (.ref f7)=true) (l7:K.lookup f7=some ⟨oc7,od7,.func (Av "cut_along" "Carver.cut_along" (defArgs (inClass (top 4) 7)) (defBody (inClass (top 4) 7)) (defScope (inClass (top 4) 7)) .none kV7 dc7 pm7 an7 cd7 ct7),sl7⟩) (c7:As K cd7 "Carver.cut_along"=true) (k7:Ah K (.ref f7)=true)
  (pg:PySem.W.plainGet K C Str.empty=true) (hd:PySem.W.hasDictIn K C=true) (po:PySem.W.plainOver K C=true) (sa:AX K (.ref C) "__setattr__"=some (some (.builtin "object.__setattr__"))) (mk:PySem.W.makesIn K C=true) (kc:Ah K (.ref C)=true) (n0:AX K (.ref C) "stuff"=some none) (n1:AX K (.ref C) "shelf"=some none) (n2:AX K (.ref C) "cutter"=some none) (n3:AX K (.ref C) "stands"=some none) :
  ∃ C f0 f1 f2 f3 f4 f5 f6 f7 d0 d1 d2 d3 d4 d5 d6 d7,C_Carver K C f0 f1 f2 f3 f4 f5 f6 f7 d0 d1 d2 d3 d4 d5 d6 d7 :=
 ⟨C,f0,f1,f2,f3,f4,f5,f6,f7,_,_,_,_,_,_,_,_,aC,⟨pg,hd,po,sa⟩,fun_mk l0 c0 k0,⟨mk,a0,i0,kc⟩,fun_mk l1 c1 k1,⟨a1,i1,k1⟩,fun_mk l2 c2 k2,⟨a2,i2,k2⟩,fun_mk l3 c3 k3,⟨a3,i3,k3⟩,fun_mk l4 c4 k4,⟨a4,i4,k4⟩,fun_mk l5 c5 k5,⟨a5,i5,k5⟩,fun_mk l6 c6 k6,⟨a6,i6,k6⟩,fun_mk l7 c7 k7,⟨a7,i7,k7⟩,n0,n1,n2,n3⟩
structure C_Spans (K:PySem.W.Frag) (C f0 f1 f2 f3 f4 f5:Addr) (d0 d1 d2 d3 d4 d5:FuncData):Prop where
 ns:AQ K AZ "Spans"=some (some (.ref C))
 cl:Cls K C
 fn___init__:Fun K "__init__" "Spans.__init__" (inClass (top 14) 0) f0 d0
 mks:Mk K C f0
 fn_has_cell:Fun K "has_cell" "Spans.has_cell" (inClass (top 14) 1) f1 d1
 mt_has_cell:Meth K C "has_cell" f1
 fn_under:Fun K "under" "Spans.under" (inClass (top 14) 2) f2 d2
 mt_under:Meth K C "under" f2
 fn_pieces_above:Fun K "pieces_above" "Spans.pieces_above" (inClass (top 14) 3) f3 d3
 mt_pieces_above:Meth K C "pieces_above" f3
 fn_rises_above:Fun K "rises_above" "Spans.rises_above" (inClass (top 14) 4) f4 d4
 mt_rises_above:Meth K C "rises_above" f4
 fn_cut_down:Fun K "cut_down" "Spans.cut_down" (inClass (top 14) 5) f5 d5
 mt_cut_down:Meth K C "cut_down" f5
 n_rows:NoAttr K C "rows"
 n_width:NoAttr K C "width"
theorem C_Spans_mk {K:PySem.W.Frag} {C f0 f1 f2 f3 f4 f5:Addr} {od0 an0 od1 an1 od2 an2 od3 an3 od4 an4 od5 an5:Option Addr} {sl0 sl1 sl2 sl3 sl4 sl5:Array (Option Value)} {oc0 kV0 dc0 pm0 cd0 ct0 oc1 kV1 dc1 pm1 cd1 ct1 oc2 kV2 dc2 pm2 cd2 ct2 oc3 kV3 dc3 pm3 cd3 ct3 oc4 kV4 dc4 pm4 cd4 ct4 oc5 kV5 dc5 pm5 cd5 ct5:Value}
  (aC:AQ K AZ "Spans"=some (some (.ref C)))
  (a0:AX K (.ref C) "__init__"=some (some (.ref f0))) (i0:A4 K (.ref f0)=true) (l0:K.lookup f0=some ⟨oc0,od0,.func (Av "__init__" "Spans.__init__" (defArgs (inClass (top 14) 0)) (defBody (inClass (top 14) 0)) (defScope (inClass (top 14) 0)) .none kV0 dc0 pm0 an0 cd0 ct0),sl0⟩) (c0:As K cd0 "Spans.__init__"=true) (k0:Ah K (.ref f0)=true)
  (a1:AX K (.ref C) "has_cell"=some (some (.ref f1))) (i1:A4 K (.ref f1)=true) (l1:K.lookup f1=some ⟨oc1,od1,.func (Av "has_cell" "Spans.has_cell" (defArgs (inClass (top 14) 1)) (defBody (inClass (top 14) 1)) (defScope (inClass (top 14) 1)) .none kV1 dc1 pm1 an1 cd1 ct1),sl1⟩) (c1:As K cd1 "Spans.has_cell"=true) (k1:Ah K (.ref f1)=true)
  (a2:AX K (.ref C) "under"=some (some (.ref f2))) (i2:A4 K (.ref f2)=true) (l2:K.lookup f2=some ⟨oc2,od2,.func (Av "under" "Spans.under" (defArgs (inClass (top 14) 2)) (defBody (inClass (top 14) 2)) (defScope (inClass (top 14) 2)) .none kV2 dc2 pm2 an2 cd2 ct2),sl2⟩) (c2:As K cd2 "Spans.under"=true) (k2:Ah K (.ref f2)=true)
  (a3:AX K (.ref C) "pieces_above"=some (some (.ref f3))) (i3:A4 K (.ref f3)=true) (l3:K.lookup f3=some ⟨oc3,od3,.func (Av "pieces_above" "Spans.pieces_above" (defArgs (inClass (top 14) 3)) (defBody (inClass (top 14) 3)) (defScope (inClass (top 14) 3)) .none kV3 dc3 pm3 an3 cd3 ct3),sl3⟩) (c3:As K cd3 "Spans.pieces_above"=true) (k3:Ah K (.ref f3)=true)
  (a4:AX K (.ref C) "rises_above"=some (some (.ref f4))) (i4:A4 K (.ref f4)=true) (l4:K.lookup f4=some ⟨oc4,od4,.func (Av "rises_above" "Spans.rises_above" (defArgs (inClass (top 14) 4)) (defBody (inClass (top 14) 4)) (defScope (inClass (top 14) 4)) .none kV4 dc4 pm4 an4 cd4 ct4),sl4⟩) (c4:As K cd4 "Spans.rises_above"=true) (k4:Ah K (.ref f4)=true)
  (a5:AX K (.ref C) "cut_down"=some (some (.ref f5))) (i5:A4 K (.ref f5)=true) (l5:K.lookup f5=some ⟨oc5,od5,.func (Av "cut_down" "Spans.cut_down" (defArgs (inClass (top 14) 5)) (defBody (inClass (top 14) 5)) (defScope (inClass (top 14) 5)) .none kV5 dc5 pm5 an5 cd5 ct5),sl5⟩) (c5:As K cd5 "Spans.cut_down"=true) (k5:Ah K (.ref f5)=true)
  (pg:PySem.W.plainGet K C Str.empty=true) (hd:PySem.W.hasDictIn K C=true) (po:PySem.W.plainOver K C=true) (sa:AX K (.ref C) "__setattr__"=some (some (.builtin "object.__setattr__"))) (mk:PySem.W.makesIn K C=true) (kc:Ah K (.ref C)=true) (n0:AX K (.ref C) "rows"=some none) (n1:AX K (.ref C) "width"=some none) :
  ∃ C f0 f1 f2 f3 f4 f5 d0 d1 d2 d3 d4 d5,C_Spans K C f0 f1 f2 f3 f4 f5 d0 d1 d2 d3 d4 d5 :=
 ⟨C,f0,f1,f2,f3,f4,f5,_,_,_,_,_,_,aC,⟨pg,hd,po,sa⟩,fun_mk l0 c0 k0,⟨mk,a0,i0,kc⟩,fun_mk l1 c1 k1,⟨a1,i1,k1⟩,fun_mk l2 c2 k2,⟨a2,i2,k2⟩,fun_mk l3 c3 k3,⟨a3,i3,k3⟩,fun_mk l4 c4 k4,⟨a4,i4,k4⟩,fun_mk l5 c5 k5,⟨a5,i5,k5⟩,n0,n1⟩
structure C_Cells (K:PySem.W.Frag) (C f0 f1 f2 f3 f4:Addr) (d0 d1 d2 d3 d4:FuncData):Prop where
 ns:AQ K AZ "Cells"=some (some (.ref C))
 cl:Cls K C
 fn___init__:Fun K "__init__" "Cells.__init__" (inClass (top 17) 0) f0 d0
 mks:Mk K C f0
 fn_has_cell:Fun K "has_cell" "Cells.has_cell" (inClass (top 17) 1) f1 d1
 mt_has_cell:Meth K C "has_cell" f1
 fn_under:Fun K "under" "Cells.under" (inClass (top 17) 2) f2 d2
 mt_under:Meth K C "under" f2
 fn_rises_above:Fun K "rises_above" "Cells.rises_above" (inClass (top 17) 3) f3 d3
 mt_rises_above:Meth K C "rises_above" f3
 fn_cut_down:Fun K "cut_down" "Cells.cut_down" (inClass (top 17) 4) f4 d4
 mt_cut_down:Meth K C "cut_down" f4
 n_rows:NoAttr K C "rows"
theorem C_Cells_mk {K:PySem.W.Frag} {C f0 f1 f2 f3 f4:Addr} {od0 an0 od1 an1 od2 an2 od3 an3 od4 an4:Option Addr} {sl0 sl1 sl2 sl3 sl4:Array (Option Value)} {oc0 kV0 dc0 pm0 cd0 ct0 oc1 kV1 dc1 pm1 cd1 ct1 oc2 kV2 dc2 pm2 cd2 ct2 oc3 kV3 dc3 pm3 cd3 ct3 oc4 kV4 dc4 pm4 cd4 ct4:Value}
  (aC:AQ K AZ "Cells"=some (some (.ref C)))
  (a0:AX K (.ref C) "__init__"=some (some (.ref f0))) (i0:A4 K (.ref f0)=true) (l0:K.lookup f0=some ⟨oc0,od0,.func (Av "__init__" "Cells.__init__" (defArgs (inClass (top 17) 0)) (defBody (inClass (top 17) 0)) (defScope (inClass (top 17) 0)) .none kV0 dc0 pm0 an0 cd0 ct0),sl0⟩) (c0:As K cd0 "Cells.__init__"=true) (k0:Ah K (.ref f0)=true)
  (a1:AX K (.ref C) "has_cell"=some (some (.ref f1))) (i1:A4 K (.ref f1)=true) (l1:K.lookup f1=some ⟨oc1,od1,.func (Av "has_cell" "Cells.has_cell" (defArgs (inClass (top 17) 1)) (defBody (inClass (top 17) 1)) (defScope (inClass (top 17) 1)) .none kV1 dc1 pm1 an1 cd1 ct1),sl1⟩) (c1:As K cd1 "Cells.has_cell"=true) (k1:Ah K (.ref f1)=true)
  (a2:AX K (.ref C) "under"=some (some (.ref f2))) (i2:A4 K (.ref f2)=true) (l2:K.lookup f2=some ⟨oc2,od2,.func (Av "under" "Cells.under" (defArgs (inClass (top 17) 2)) (defBody (inClass (top 17) 2)) (defScope (inClass (top 17) 2)) .none kV2 dc2 pm2 an2 cd2 ct2),sl2⟩) (c2:As K cd2 "Cells.under"=true) (k2:Ah K (.ref f2)=true)
  (a3:AX K (.ref C) "rises_above"=some (some (.ref f3))) (i3:A4 K (.ref f3)=true) (l3:K.lookup f3=some ⟨oc3,od3,.func (Av "rises_above" "Cells.rises_above" (defArgs (inClass (top 17) 3)) (defBody (inClass (top 17) 3)) (defScope (inClass (top 17) 3)) .none kV3 dc3 pm3 an3 cd3 ct3),sl3⟩) (c3:As K cd3 "Cells.rises_above"=true) (k3:Ah K (.ref f3)=true)
  (a4:AX K (.ref C) "cut_down"=some (some (.ref f4))) (i4:A4 K (.ref f4)=true) (l4:K.lookup f4=some ⟨oc4,od4,.func (Av "cut_down" "Cells.cut_down" (defArgs (inClass (top 17) 4)) (defBody (inClass (top 17) 4)) (defScope (inClass (top 17) 4)) .none kV4 dc4 pm4 an4 cd4 ct4),sl4⟩) (c4:As K cd4 "Cells.cut_down"=true) (k4:Ah K (.ref f4)=true)
  (pg:PySem.W.plainGet K C Str.empty=true) (hd:PySem.W.hasDictIn K C=true) (po:PySem.W.plainOver K C=true) (sa:AX K (.ref C) "__setattr__"=some (some (.builtin "object.__setattr__"))) (mk:PySem.W.makesIn K C=true) (kc:Ah K (.ref C)=true) (n0:AX K (.ref C) "rows"=some none) :
  ∃ C f0 f1 f2 f3 f4 d0 d1 d2 d3 d4,C_Cells K C f0 f1 f2 f3 f4 d0 d1 d2 d3 d4 :=
 ⟨C,f0,f1,f2,f3,f4,_,_,_,_,_,aC,⟨pg,hd,po,sa⟩,fun_mk l0 c0 k0,⟨mk,a0,i0,kc⟩,fun_mk l1 c1 k1,⟨a1,i1,k1⟩,fun_mk l2 c2 k2,⟨a2,i2,k2⟩,fun_mk l3 c3 k3,⟨a3,i3,k3⟩,fun_mk l4 c4 k4,⟨a4,i4,k4⟩,n0⟩
theorem byLen0 {P:List Value→Prop} (h:P []):∀ us:List Value,us.length=0→P us:=fun us hl=>by
 rw [List.length_eq_zero_iff.mp hl]
 exact h
theorem byLenS {n:Nat} {P:List Value→Prop} (h:∀ (a:Value) (us:List Value),us.length=n→P (a :: us)):∀ us:List Value,us.length=n + 1→P us:=fun us hl=>by
 cases us with
 | nil=>cases hl
 | cons a r=>exact h a r (Nat.succ.inj hl)
theorem byLen1 {P:List Value→Prop} (h:∀ a0:Value,P [a0]):∀ us:List Value,us.length=1→P us:=byLenS fun a=>byLen0 (P:=fun us=>P (a :: us)) (h a)
theorem byLen2 {P:List Value→Prop} (h:∀ a0 a1:Value,P [a0,a1]):∀ us:List Value,us.length=2→P us:=byLenS fun a=>byLen1 (P:=fun us=>P (a :: us)) (h a)
theorem byLen3 {P:List Value→Prop} (h:∀ a0 a1 a2:Value,P [a0,a1,a2]):∀ us:List Value,us.length=3→P us:=byLenS fun a=>byLen2 (P:=fun us=>P (a :: us)) (h a)
theorem byLen4 {P:List Value→Prop} (h:∀ a0 a1 a2 a3:Value,P [a0,a1,a2,a3]):∀ us:List Value,us.length=4→P us:=byLenS fun a=>byLen3 (P:=fun us=>P (a :: us)) (h a)
structure C_Fault (K:PySem.W.Frag) (C f0:Addr) (d0:FuncData):Prop where
 ns:AQ K AZ "Fault"=some (some (.ref C))
 fn:Fun K "__init__" "Fault.__init__" (inClass (top 3) 0) f0 d0
 obj:∃ nm q N bs sn sub ab col dd k0 k1 k2 k3 k5,K.lookup C=some (excClassObj nm q C N bs bmE true sn sub ab col dd k0 k1 k2 k3 k5 "Exception.__new__")∧PySem.W.nsOkIn K N=true∧AQ K N "__init__"=some (some (.ref f0)) ∧
  AQ K N "__setattr__"=some none∧AQ K N "__getattribute__"=some none∧AQ K N "__getattr__"=some none∧AQ K N "fault"=some none
 ty:PySem.W.typeIn K (.ref f0)=some (.type "function")
 cobj:∃ dd cd sl,K.lookup C=some ⟨.type "type",dd,.cls cd,sl⟩
 exc:PySem.W.mroIn K C (.type "BaseException")=some true
 own:PySem.W.mroIn K C (.ref C)=some true
theorem C_Fault_mk {K:PySem.W.Frag} {C f0 N:Addr} {nm q:Str} {bs:List Value} {sn:List Str} {sub:List Value} {ab:Bool} {col:Option Bool} {dd:Option Addr} {k0 k1 k2 k3 k5:Option Value} {od an:Option Addr} {sl:Array (Option Value)} {oc kV dc pm cd ct:Value}
  {dd':Option Addr} {cd':ClassData} {sl':Array (Option Value)} {nc:Value} {ndd:Option Addr} {nes:Array DictEntry} {nep:Nat} {nsl:Array (Option Value)}
  (aC:AQ K AZ "Fault"=some (some (.ref C)))
  (o1:K.lookup C=some (excClassObj nm q C N bs bmE true sn sub ab col dd k0 k1 k2 k3 k5 "Exception.__new__")) (o2:K.lookup N=some ⟨nc,ndd,.dict nes nep,nsl⟩) (o3:(nes.toList.all fun e=>match e.key with | .str _ _=>true | _=>false)=true) (a0:AQ K N "__init__"=some (some (.ref f0)))
  (n1:AQ K N "__setattr__"=some none) (n2:AQ K N "__getattribute__"=some none) (n3:AQ K N "__getattr__"=some none) (n4:AQ K N "fault"=some none)
  (l0:K.lookup f0=some ⟨oc,od,.func (Av "__init__" "Fault.__init__" (defArgs (inClass (top 3) 0)) (defBody (inClass (top 3) 0)) (defScope (inClass (top 3) 0)) .none kV dc pm an cd ct),sl⟩) (c0:As K cd "Fault.__init__"=true) (k:Ah K (.ref f0)=true)
  (ty:PySem.W.typeIn K (.ref f0)=some (.type "function")) (co:K.lookup C=some ⟨.type "type",dd',.cls cd',sl'⟩) (ex:PySem.W.mroIn K C (.type "BaseException")=some true) (ow:PySem.W.mroIn K C (.ref C)=some true):∃ C f0 d0,C_Fault K C f0 d0 :=
 ⟨C,f0,_,aC,fun_mk l0 c0 k,⟨nm,q,N,bs,sn,sub,ab,col,dd,k0,k1,k2,k3,k5,o1,(by unfold PySem.W.nsOkIn; rw [o2]; dsimp only; rw [← Array.all_toList]; exact o3),a0,n1,n2,n3,n4⟩,ty,⟨dd',cd',sl',co⟩,ex,ow⟩
theorem int_mk {K:PySem.W.Frag} {x:Str} {i:Int} {t:Tok} (a:AQ K AZ x=some (some (.int i t))):∃ t,AQ K AZ x=some (some (.int i t)):=⟨t,a⟩
theorem look_end:typeLookup (.type "Exception") "fault"=pure none:=by rw [typeLookup_type,builtinLookup_eq_fast]; kernel_rfl
structure BegD (P:Program) (w:World) (K:PySem.W.Frag) (a:Addr):Prop where
 ns:AQ K AZ "BEGINNING"=some (some (.ref a))
 dk:DkK P w K a begK
theorem beg_mk {P:Program} {w:World} {K:PySem.W.Frag} {a:Addr} {h1 h2 h3:Int} {t1 t2 t3 u1 u2 u3:Tok} {ep:Nat} (n:AQ K AZ "BEGINNING"=some (some (.ref a)))
  (l:K.lookup a=some ⟨.type "dict",none,.dict #[⟨h1,.str "x" t1,.int 0 u1⟩,⟨h2,.str "y" t2,.int 0 u2⟩,⟨h3,.str "z" t3,.int 1000 u3⟩] ep,#[]⟩) (e1:h1=hashStr w "x") (e2:h2=hashStr w "y") (e3:h3=hashStr w "z") (hs:(a == sysModules)=false):∃ a,BegD P w K a:=by
 subst e1 e2 e3
 refine ⟨a,n,hs,(show 3≤AL by decide),[((Sum.inr "x":Key),.int 0 u1),(Sum.inr "y",.int 0 u2),(Sum.inr "z",.int 1000 u3)],.cons ⟨rfl,_,rfl⟩ (.cons ⟨rfl,_,rfl⟩ (.cons ⟨rfl,_,rfl⟩ .nil)),fun h X=>?_⟩
 refine ⟨_,#[⟨hashStr w "x",.str "x" t1,.int 0 u1⟩,⟨hashStr w "y",.str "y" t2,.int 0 u2⟩,⟨hashStr w "z",.str "z" t3,.int 1000 u3⟩],ep,X _ _ l,⟨rfl,rfl,rfl⟩,rfl,fun e he=>?_,.cons (keyIs_str "x" t1) rfl (.cons (keyIs_str "y" t2) rfl (.cons (keyIs_str "z" t3) rfl .nil)),(show List.Nodup [(Sum.inr "x":Key),Sum.inr "y",Sum.inr "z"] by decide +kernel)⟩
 have he':e∈[(⟨hashStr w "x",.str "x" t1,.int 0 u1⟩:DictEntry),⟨hashStr w "y",.str "y" t2,.int 0 u2⟩,⟨hashStr w "z",.str "z" t3,.int 1000 u3⟩]:=by simpa using he
 simp only [AW,List.mem_nil_iff,or_false] at he'
 rcases he' with rfl | rfl | rfl
 ·exact ⟨Sum.inr "x",keyIs_str "x" t1,rfl⟩
 ·exact ⟨Sum.inr "y",keyIs_str "y" t2,rfl⟩
 ·exact ⟨Sum.inr "z",keyIs_str "z" t3,rfl⟩
structure NoneT (K:PySem.W.Frag):Prop where
 len:AQ K AZ "len"=some none
 max:AQ K AZ "max"=some none
 min:AQ K AZ "min"=some none
 range:AQ K AZ "range"=some none
 isin:AQ K AZ "isinstance"=some none
 abs:AQ K AZ "abs"=some none
 tuple:AQ K AZ "tuple"=some none
 list:AQ K AZ "list"=some none
 bool:AQ K AZ "bool"=some none
 int:AQ K AZ "int"=some none
 enum:AQ K AZ "enumerate"=some none
 zip:AQ K AZ "zip"=some none
 sum:AQ K AZ "sum"=some none
 dict:AQ K AZ "dict"=some none
 any:AQ K AZ "any"=some none
 srt:AQ K AZ "sorted"=some none
theorem FnT.fnB {P:Program} {w:World} {K:PySem.W.Frag} {mg:Str→Option Value} {base h:Heap} {x:Str} {st:Stmt} {f:Addr} {fd:FuncData} {k:Nat} {ps:List Str} {sp:Sp} (T:FnT K x st f fd) (X:K.In h) (G:h.Ns AZ mg) (ok:FnOk P w K mg base (CX1 P w) k f fd ps sp) (bi:Binds K fd ps []):Fn P w K mg base x k ps sp :=
 ⟨f,fd,ok,PySem.W.mg_of X G T.ns,T.fn.kp,bi⟩
theorem all {P:Program} {w:World} {K:PySem.W.Frag} {mg:Str→Option Value} {h:Heap} {fa:Addr} (X:K.In h) (G:h.Ns AZ mg) (hfa:mg "law"=some (.ref fa)) (N:NoneT K)
  (i1:∃ t,AQ K AZ "TOP"=some (some (.int 1000 t))) (B:∃ a,BegD P w K a)
  (T_do_moves:∃ f fd,FnT K "do_moves" (top 5) f fd) (T_spans_of_row:∃ f fd,FnT K "spans_of_row" (top 7) f fd) (T_put_span:∃ f fd,FnT K "put_span" (top 8) f fd) (T_spans_of:∃ f fd,FnT K "spans_of" (top 9) f fd) (T_pieces_of:∃ f fd,FnT K "pieces_of" (top 10) f fd) (T_pieces_within:∃ f fd,FnT K "pieces_within" (top 11) f fd) (T_merged:∃ f fd,FnT K "merged" (top 12) f fd) (T_cut_row:∃ f fd,FnT K "cut_row" (top 13) f fd) (T_carved_spans:∃ f fd,FnT K "carved_spans" (top 15) f fd) (T_carved:∃ f fd,FnT K "carved" (top 18) f fd) (T__law_stir:∃ f fd,FnT K "_law_stir" (top 20) f fd) (T__law_bed:∃ f fd,FnT K "_law_bed" (top 21) f fd) (T__law_cutter:∃ f fd,FnT K "_law_cutter" (top 22) f fd) (T__law_shelf:∃ f fd,FnT K "_law_shelf" (top 23) f fd) (T__law_wild:∃ f fd,FnT K "_law_wild" (top 24) f fd) (T__law_moves:∃ f fd,FnT K "_law_moves" (top 25) f fd) (T__law_alike:∃ f fd,FnT K "_law_alike" (top 26) f fd) (T_law:∃ f fd,FnT K "law" (top 27) f fd)
  (T_Fault:∃ C f0 d0,C_Fault K C f0 d0) (T_Carver:∃ C f0 f1 f2 f3 f4 f5 f6 f7 d0 d1 d2 d3 d4 d5 d6 d7,C_Carver K C f0 f1 f2 f3 f4 f5 f6 f7 d0 d1 d2 d3 d4 d5 d6 d7) (T_Spans:∃ C f0 f1 f2 f3 f4 f5 d0 d1 d2 d3 d4 d5,C_Spans K C f0 f1 f2 f3 f4 f5 d0 d1 d2 d3 d4 d5) (T_Cells:∃ C f0 f1 f2 f3 f4 d0 d1 d2 d3 d4,C_Cells K C f0 f1 f2 f3 f4 d0 d1 d2 d3 d4) :
  ∃ fd:FuncData,(∀ (s:Shared) (v:Value),BindsTo s fd ⟨[v],[]⟩ [("script",v)])∧∀ base:Heap,K.In base→base.Ns AZ mg→FnOk P w K mg base (CX1 P w) 11 fa fd ["script"] (spLaw K):=by
 obtain ⟨t1,i1⟩:=i1
 obtain ⟨ab,B⟩:=B
 obtain ⟨f_do_moves,d_do_moves,T_do_moves⟩:=T_do_moves
 obtain ⟨f_spans_of_row,d_spans_of_row,T_spans_of_row⟩:=T_spans_of_row
 obtain ⟨f_put_span,d_put_span,T_put_span⟩:=T_put_span
 obtain ⟨f_spans_of,d_spans_of,T_spans_of⟩:=T_spans_of
 obtain ⟨f_pieces_of,d_pieces_of,T_pieces_of⟩:=T_pieces_of
 obtain ⟨f_pieces_within,d_pieces_within,T_pieces_within⟩:=T_pieces_within
 obtain ⟨f_merged,d_merged,T_merged⟩:=T_merged
 obtain ⟨f_cut_row,d_cut_row,T_cut_row⟩:=T_cut_row
 obtain ⟨f_carved_spans,d_carved_spans,T_carved_spans⟩:=T_carved_spans
 obtain ⟨f_carved,d_carved,T_carved⟩:=T_carved
 obtain ⟨f__law_stir,d__law_stir,T__law_stir⟩:=T__law_stir
 obtain ⟨f__law_bed,d__law_bed,T__law_bed⟩:=T__law_bed
 obtain ⟨f__law_cutter,d__law_cutter,T__law_cutter⟩:=T__law_cutter
 obtain ⟨f__law_shelf,d__law_shelf,T__law_shelf⟩:=T__law_shelf
 obtain ⟨f__law_wild,d__law_wild,T__law_wild⟩:=T__law_wild
 obtain ⟨f__law_moves,d__law_moves,T__law_moves⟩:=T__law_moves
 obtain ⟨f__law_alike,d__law_alike,T__law_alike⟩:=T__law_alike
 obtain ⟨f_law,d_law,T_law⟩:=T_law
 obtain ⟨C,fI,dI,S⟩:=T_Fault
 obtain ⟨CV,v0,v1,v2,v3,v4,v5,v6,v7,e0,e1,e2,e3,e4,e5,e6,e7,VR⟩:=T_Carver
 obtain ⟨CC,c0,c1,c2,c3,c4,c5,g0,g1,g2,g3,g4,g5,CL⟩:=T_Spans
 obtain ⟨C2,k0,k1,k2,k3,k4,m0,m1,m2,m3,m4,CM⟩:=T_Cells
 have e:=hfa.symm.trans (PySem.W.mg_of X G T_law.ns)
 cases e
 refine ⟨d_law,?_,fun base _ _=>?_⟩
 ·obtain ⟨oc,od,kV,doc,pm,an,cdv,ct,osl,rfl,lk,hcd⟩:=T_law.fn.ex
  exact fun s v=>.of_eq rfl
 have L:LawT mg:=⟨Aw X G N.len,Aw X G N.max,Aw X G N.min,Aw X G N.range,Aw X G N.isin,Aw X G N.abs,Aw X G N.tuple,Aw X G N.list,Aw X G N.bool,Aw X G N.int⟩
 have NE:=Aw X G N.enum
 have NZ:=Aw X G N.zip
 have NS:=Aw X G N.sum
 have NO:=Aw X G N.srt
 have LS:SpT mg:=⟨L,NE,NZ,NS⟩
 have VV:VS K mg CV CC:=⟨VR.cl,CL.cl,VR.n_stuff,VR.n_shelf,VR.n_cutter,VR.n_stands,CL.n_rows,CL.n_width,Aw X G N.dict,Aw X G N.any,⟨t1,PySem.W.mg_of X G i1⟩⟩
 have SC:StopC K mg "Fault" C fI "fault":=⟨PySem.W.mg_of X G S.ns,S.obj,S.ty,look_end⟩
 have bI:=S.fn.binds (ps:=["self","fault"]) fun _ _ _ _ _ _=>byLen2 fun _ _=>rfl
 have FS:FaT P w K mg base C fI dI:=⟨SC,ok_fault (k:=0) SC S.fn,bI⟩
 have CCt:CatchC K mg "Fault" C:=⟨PySem.W.mg_of X G S.ns,S.cobj,S.exc⟩
 have FPut:=T_put_span.fnB (P:=P) (w:=w) (base:=base) X G (ok_put T_put_span.fn) (T_put_span.fn.binds fun _ _ _ _ _ _=>byLen3 fun _ _ _=>rfl)
 have FRowS:=T_spans_of_row.fnB (P:=P) (w:=w) (base:=base) X G (ok_rowS LS FPut T_spans_of_row.fn) (T_spans_of_row.fn.binds fun _ _ _ _ _ _=>byLen1 fun _=>rfl)
 have FSpans:=T_spans_of.fnB (P:=P) (w:=w) (base:=base) X G (ok_spans FRowS T_spans_of.fn) (T_spans_of.fn.binds fun _ _ _ _ _ _=>byLen1 fun _=>rfl)
 have FPieces:=T_pieces_of.fnB (P:=P) (w:=w) (base:=base) X G (ok_pieces LS T_pieces_of.fn) (T_pieces_of.fn.binds fun _ _ _ _ _ _=>byLen2 fun _ _=>rfl)
 have FPW:=T_pieces_within.fnB (P:=P) (w:=w) (base:=base) X G (ok_pw L FPieces T_pieces_within.fn) (T_pieces_within.fn.binds fun _ _ _ _ _ _=>byLen3 fun _ _ _=>rfl)
 have FMg:=T_merged.fnB (P:=P) (w:=w) (base:=base) X G (ok_mg L NO T_merged.fn) (T_merged.fn.binds fun _ _ _ _ _ _=>byLen1 fun _=>rfl)
 have FCR:=T_cut_row.fnB (P:=P) (w:=w) (base:=base) X G (ok_cr L FPW FPut T_cut_row.fn) (T_cut_row.fn.binds fun _ _ _ _ _ _=>byLen4 fun _ _ _ _=>rfl)
 have MHas:Mt P w K mg base CC "has_cell" 1 ["self","x","y"] (spSHas CC):=⟨c1,g1,ok_sHas L VV CL.fn_has_cell,CL.mt_has_cell,CL.cl,(CL.fn_has_cell.binds fun _ _ _ _ _ _=>byLen3 fun _ _ _=>rfl)⟩
 have MUnd:Mt P w K mg base CC "under" 2 ["self","foot","way"] (spSUnd CC):=⟨c2,g2,ok_sUnd L VV FMg CL.fn_under,CL.mt_under,CL.cl,(CL.fn_under.binds fun _ _ _ _ _ _=>byLen3 fun _ _ _=>rfl)⟩
 have MAbv:Mt P w K mg base CC "pieces_above" 3 ["self","y","stretch","height"] (spAbv CC):=⟨c3,g3,ok_abv VV FPW CL.fn_pieces_above,CL.mt_pieces_above,CL.cl,(CL.fn_pieces_above.binds fun _ _ _ _ _ _=>byLen4 fun _ _ _ _=>rfl)⟩
 have MRis:Mt P w K mg base CC "rises_above" 4 ["self","under","height"] (spSRis CC):=⟨c4,g4,ok_sRis L VV MAbv CL.fn_rises_above,CL.mt_rises_above,CL.cl,(CL.fn_rises_above.binds fun _ _ _ _ _ _=>byLen3 fun _ _ _=>rfl)⟩
 have MDown:Mt P w K mg base CC "cut_down" 4 ["self","under","height"] (spSDn CC):=⟨c5,g5,ok_sDn NS VV MAbv FCR CL.fn_cut_down,CL.mt_cut_down,CL.cl,(CL.fn_cut_down.binds fun _ _ _ _ _ _=>byLen3 fun _ _ _=>rfl)⟩
 have MSpans:Mc P w K mg base "Spans" CC 1 ["self","spans","width"] (spSpI CC):=⟨c0,g0,ok_spI L VV CL.fn___init__,CL.mks,PySem.W.mg_of X G CL.ns,(CL.fn___init__.binds fun _ _ _ _ _ _=>byLen3 fun _ _ _=>rfl)⟩
 have MRoom:Mt P w K mg base CV "has_room" 2 ["self","axis","to"] (spRoom CV CC):=⟨v4,e4,ok_room VV MHas VR.fn_has_room,VR.mt_has_room,VR.cl,(VR.fn_has_room.binds fun _ _ _ _ _ _=>byLen3 fun _ _ _=>rfl)⟩
 have MWay:Mt P w K mg base CV "way_to" 1 ["self","axis","to"] (spWayTo CV CC):=⟨v5,e5,ok_wayTo L VV VR.fn_way_to,VR.mt_way_to,VR.cl,(VR.fn_way_to.binds fun _ _ _ _ _ _=>byLen3 fun _ _ _=>rfl)⟩
 have MPass:Mt P w K mg base CV "pass_over" 5 ["self","way"] (spPass K C CV CC):=⟨v6,e6,ok_pass VV FS MUnd MRis VR.fn_pass_over,VR.mt_pass_over,VR.cl,(VR.fn_pass_over.binds fun _ _ _ _ _ _=>byLen2 fun _ _=>rfl)⟩
 have MAlong:Mt P w K mg base CV "cut_along" 5 ["self","way"] (spAlong K C CV CC):=⟨v7,e7,ok_along VV FS MUnd MRis MDown VR.fn_cut_along,VR.mt_cut_along,VR.cl,(VR.fn_cut_along.binds fun _ _ _ _ _ _=>byLen2 fun _ _=>rfl)⟩
 have MDoHold:Mt P w K mg base CV "do_hold" 3 ["self","number"] (spDoHold K C CV CC):=⟨v2,e2,ok_doHold L VV FS VR.fn_do_hold,VR.mt_do_hold,VR.cl,(VR.fn_do_hold.binds fun _ _ _ _ _ _=>byLen2 fun _ _=>rfl)⟩
 have MDoMove:Mt P w K mg base CV "do_move" 6 ["self","kind","axis","to"] (spDoMove K C CV CC):=⟨v3,e3,ok_doMove VV FS MRoom MWay MPass MAlong VR.fn_do_move,VR.mt_do_move,VR.cl,(VR.fn_do_move.binds fun _ _ _ _ _ _=>byLen4 fun _ _ _ _=>rfl)⟩
 have MDo:Mt P w K mg base CV "do" 7 ["self","move"] (spDo K C CV CC):=⟨v1,e1,ok_do MDoHold MDoMove VR.fn_do,VR.mt_do,VR.cl,(VR.fn_do.binds fun _ _ _ _ _ _=>byLen2 fun _ _=>rfl)⟩
 have MCar:Mc P w K mg base "Carver" CV 1 ["self","stuff","shelf"] (spCarI CV):=⟨v0,e0,ok_carI VV ⟨ab,PySem.W.mg_of X G B.ns,B.dk⟩ VR.fn___init__,VR.mks,PySem.W.mg_of X G VR.ns,(VR.fn___init__.binds fun _ _ _ _ _ _=>byLen3 fun _ _ _=>rfl)⟩
 have FDoMoves:=T_do_moves.fnB (P:=P) (w:=w) (base:=base) X G (ok_doMoves VV FS CCt S.own MCar MDo T_do_moves.fn) (T_do_moves.fn.binds fun _ _ _ _ _ _=>byLen3 fun _ _ _=>rfl)
 have FCarvedS:=T_carved_spans.fnB (P:=P) (w:=w) (base:=base) X G (ok_carvedS VV MSpans FDoMoves T_carved_spans.fn) (T_carved_spans.fn.binds fun _ _ _ _ _ _=>byLen4 fun _ _ _ _=>rfl)
 have VU:VT K mg CV C2:=⟨VR.cl,CM.cl,VR.n_stuff,VR.n_shelf,VR.n_cutter,VR.n_stands,CM.n_rows,Aw X G N.dict,Aw X G N.any,⟨t1,PySem.W.mg_of X G i1⟩⟩
 have NHas:Mt P w K mg base C2 "has_cell" 1 ["self","x","y"] (spHas C2):=⟨k1,m1,Ce.ok_has L VU CM.fn_has_cell,CM.mt_has_cell,CM.cl,(CM.fn_has_cell.binds fun _ _ _ _ _ _=>byLen3 fun _ _ _=>rfl)⟩
 have NUnd:Mt P w K mg base C2 "under" 2 ["self","foot","way"] (Ce.spUnd C2):=⟨k2,m2,Ce.ok_und L VU NHas CM.fn_under,CM.mt_under,CM.cl,(CM.fn_under.binds fun _ _ _ _ _ _=>byLen3 fun _ _ _=>rfl)⟩
 have NRis:Mt P w K mg base C2 "rises_above" 1 ["self","under","height"] (Ce.spRises C2):=⟨k3,m3,Ce.ok_rises VU CM.fn_rises_above,CM.mt_rises_above,CM.cl,(CM.fn_rises_above.binds fun _ _ _ _ _ _=>byLen3 fun _ _ _=>rfl)⟩
 have NDown:Mt P w K mg base C2 "cut_down" 1 ["self","under","height"] (Ce.spDown C2):=⟨k4,m4,Ce.ok_down VU CM.fn_cut_down,CM.mt_cut_down,CM.cl,(CM.fn_cut_down.binds fun _ _ _ _ _ _=>byLen3 fun _ _ _=>rfl)⟩
 have NCells:Mc P w K mg base "Cells" C2 1 ["self","bed"] (Ce.spCellsI C2):=⟨k0,m0,Ce.ok_cellsI L VU CM.fn___init__,CM.mks,PySem.W.mg_of X G CM.ns,(CM.fn___init__.binds fun _ _ _ _ _ _=>byLen2 fun _ _=>rfl)⟩
 have NRoom:Mt P w K mg base CV "has_room" 2 ["self","axis","to"] (Ce.spRoom CV C2):=⟨v4,e4,Ce.ok_room VU NHas VR.fn_has_room,VR.mt_has_room,VR.cl,(VR.fn_has_room.binds fun _ _ _ _ _ _=>byLen3 fun _ _ _=>rfl)⟩
 have NWay:Mt P w K mg base CV "way_to" 1 ["self","axis","to"] (Ce.spWayTo CV C2):=⟨v5,e5,Ce.ok_wayTo L VU VR.fn_way_to,VR.mt_way_to,VR.cl,(VR.fn_way_to.binds fun _ _ _ _ _ _=>byLen3 fun _ _ _=>rfl)⟩
 have NPass:Mt P w K mg base CV "pass_over" 3 ["self","way"] (Ce.spPass K C CV C2):=⟨v6,e6,Ce.ok_pass VU FS NUnd NRis VR.fn_pass_over,VR.mt_pass_over,VR.cl,(VR.fn_pass_over.binds fun _ _ _ _ _ _=>byLen2 fun _ _=>rfl)⟩
 have NAlong:Mt P w K mg base CV "cut_along" 3 ["self","way"] (Ce.spAlong K C CV C2):=⟨v7,e7,Ce.ok_along VU FS NUnd NRis NDown VR.fn_cut_along,VR.mt_cut_along,VR.cl,(VR.fn_cut_along.binds fun _ _ _ _ _ _=>byLen2 fun _ _=>rfl)⟩
 have NDoHold:Mt P w K mg base CV "do_hold" 3 ["self","number"] (Ce.spDoHold K C CV C2):=⟨v2,e2,Ce.ok_doHold L VU FS VR.fn_do_hold,VR.mt_do_hold,VR.cl,(VR.fn_do_hold.binds fun _ _ _ _ _ _=>byLen2 fun _ _=>rfl)⟩
 have NDoMove:Mt P w K mg base CV "do_move" 4 ["self","kind","axis","to"] (Ce.spDoMove K C CV C2):=⟨v3,e3,Ce.ok_doMove VU FS NRoom NWay NPass NAlong VR.fn_do_move,VR.mt_do_move,VR.cl,(VR.fn_do_move.binds fun _ _ _ _ _ _=>byLen4 fun _ _ _ _=>rfl)⟩
 have NDo:Mt P w K mg base CV "do" 5 ["self","move"] (Ce.spDo K C CV C2):=⟨v1,e1,Ce.ok_do NDoHold NDoMove VR.fn_do,VR.mt_do,VR.cl,(VR.fn_do.binds fun _ _ _ _ _ _=>byLen2 fun _ _=>rfl)⟩
 have NCar:Mc P w K mg base "Carver" CV 1 ["self","stuff","shelf"] (spCarI CV):=⟨v0,e0,Ce.ok_carI VU ⟨ab,PySem.W.mg_of X G B.ns,B.dk⟩ VR.fn___init__,VR.mks,PySem.W.mg_of X G VR.ns,(VR.fn___init__.binds fun _ _ _ _ _ _=>byLen3 fun _ _ _=>rfl)⟩
 have GDoMoves:=T_do_moves.fnB (P:=P) (w:=w) (base:=base) X G (Ce.ok_doMoves VU FS CCt S.own NCar NDo T_do_moves.fn) (T_do_moves.fn.binds fun _ _ _ _ _ _=>byLen3 fun _ _ _=>rfl)
 have FCarved:=T_carved.fnB (P:=P) (w:=w) (base:=base) X G (Ce.ok_carved VU NCells GDoMoves T_carved.fn) (T_carved.fn.binds fun _ _ _ _ _ _=>byLen3 fun _ _ _=>rfl)
 have F2:=T__law_stir.fnB (P:=P) (w:=w) (base:=base) X G (ok_stir L T__law_stir.fn) (T__law_stir.fn.binds fun _ _ _ _ _ _=>byLen2 fun _ _=>rfl)
 have F4:=T__law_bed.fnB (P:=P) (w:=w) (base:=base) X G (ok_bed L NS F2 T__law_bed.fn) (T__law_bed.fn.binds fun _ _ _ _ _ _=>byLen1 fun _=>rfl)
 have F5:=T__law_cutter.fnB (P:=P) (w:=w) (base:=base) X G (ok_cutr L F2 T__law_cutter.fn) (T__law_cutter.fn.binds fun _ _ _ _ _ _=>byLen1 fun _=>rfl)
 have F6:=T__law_shelf.fnB (P:=P) (w:=w) (base:=base) X G (ok_shelf L NS F2 F5 T__law_shelf.fn) (T__law_shelf.fn.binds fun _ _ _ _ _ _=>byLen1 fun _=>rfl)
 have F7:=T__law_wild.fnB (P:=P) (w:=w) (base:=base) X G (ok_wild L F2 T__law_wild.fn) (T__law_wild.fn.binds fun _ _ _ _ _ _=>byLen3 fun _ _ _=>rfl)
 have F8:=T__law_moves.fnB (P:=P) (w:=w) (base:=base) X G (ok_moves L F2 F7 T__law_moves.fn) (T__law_moves.fn.binds fun _ _ _ _ _ _=>byLen3 fun _ _ _=>rfl)
 have F9:=T__law_alike.fnB (P:=P) (w:=w) (base:=base) X G (ok_alike L FCarved FSpans FCarvedS k_tuple_tuple T__law_alike.fn) (T__law_alike.fn.binds fun _ _ _ _ _ _=>byLen3 fun _ _ _=>rfl)
 exact ok_law L F4 F6 F8 F9 T_law.fn
theorem walk {l:PySem.W.OpenLaw} {q:Program} {loose:List Str} {XP:(Str→Option Value)→Heap→Prop} {YP:World→Heap→Prop} {d:DefRec} {K:Params→PySem.W.Frag} (hn:l.most=some 63) (hdf:d.params.defaults=[])
  (hY:∀ (w:World) (h:Heap),YP w h→(K w.params).In h)
  (F:∀ (w:World) (mg:Str→Option Value) (fa:Addr) (h:Heap),(K w.params).In h→h.Ns AZ mg→mg d.name=some (.ref fa) →
   ∃ fd:FuncData,(∀ (s:Shared) (u:Value),BindsTo s fd ⟨[u],[]⟩ [("script",u)])∧∀ base:Heap,(K w.params).In base→base.Ns AZ mg→FnOk l.prog w (K w.params) mg base (CX1 l.prog w) 11 fa fd ["script"] (spLaw (K w.params))) :
  PySem.W.WalkO q loose XP YP l.row.toRowW d [] (fun f vs=>PySem.call f vs) :=
 L2.walk_of (n:=63) (k:=11) (x:="script") (CX:=fun w=>CX1 l.prog w) (sp:=fun w=>spLaw (K w.params)) hn (by decide) hdf ⟨rfl,by decide,by decide⟩ hY F (fun _ _ a ns hl _ hS=>⟨a,ns,rfl,hS,hl,fun _=>rfl⟩) fun _ _ _ _ _ z=>by
  obtain ⟨_,_,_,_,_,_,_,_,_,_,_,_,_,_,_,ff⟩:=z
  exact ff
end Car
open PySem PySem.W PyProof.Rows
set_option maxRecDepth 100000 in
set_option maxHeartbeats 0 in
theorem PySem.Challenge.cw_carvebed_k34_whole_moves_on_spans_holds : PySem.Challenge.rw_carvebed_k34_whole_moves_on_spans.Holds := by
 w_on; o_law
 refine @PySem.W.holds_open _ Car.hQ Car.hLoose (fun s=>PySem.W.xlAt Car.hQ [] s && PySem.W.recOk [] s) (PySem.W.XL Car.hQ []) _
  (PySem.W.Hook.obs Car.hH) (PySem.W.Hook.val Car.hH) (PySem.W.Hook.says Car.hH) _ _ 4254
  Car.hLeft (PySem.W.Hook.of Car.hH) (PySem.W.Hook.keeps Car.hH)
  (fun s e=>PySem.W.xl_of s (Bool.and_eq_true_iff.mp e).1) PySem.W.XL.keeps (by rfl) (by rfl) (by rfl)
  (fun s e=>PySem.W.recFacts_of (Bool.and_eq_true_iff.mp e).2) (by rfl) (by assumption)
  (by decide +kernel) ⟨rfl,rfl,rfl,rfl,rfl,by decide +kernel⟩ ?hw ?hc
 (case hw=>w_witness2)
 refine Car.walk (l:=PySem.Challenge.rw_carvebed_k34_whole_moves_on_spans) rfl rfl (K:=Car.KK) (fun w h Y=>PySem.W.kIn_of (K:=Car.KK) (as:=Car.KKas) (e:=fun _=>rfl) Y) ?F
 case F =>
  k_fill
  intro w mg fa h KX G hmg
  have T_Carver:∃ C f0 f1 f2 f3 f4 f5 f6 f7 d0 d1 d2 d3 d4 d5 d6 d7,Car.C_Carver (L2.KOf KX) C f0 f1 f2 f3 f4 f5 f6 f7 d0 d1 d2 d3 d4 d5 d6 d7:=by
   dsimp only [L2.KOf]
   refine' Car.C_Carver_mk ?aC ?a0 ?i0 ?l0 ?c0 ?k0 ?a1 ?i1 ?l1 ?c1 ?k1 ?a2 ?i2 ?l2 ?c2 ?k2 ?a3 ?i3 ?l3 ?c3 ?k3 ?a4 ?i4 ?l4 ?c4 ?k4 ?a5 ?i5 ?l5 ?c5 ?k5 ?a6 ?i6 ?l6 ?c6 ?k6 ?a7 ?i7 ?l7 ?c7 ?k7 ?pg ?hd ?po ?sa ?mk ?kc ?n0 ?n1 ?n2 ?n3
   (case aC=>k_is); (case a0=>k_is); (case i0=>k_is); (case l0=>k_is); (case c0=>k_is); (case k0=>k_is); (case a1=>k_is); (case i1=>k_is); (case l1=>k_is); (case c1=>k_is); (case k1=>k_is); (case a2=>k_is); (case i2=>k_is); (case l2=>k_is); (case c2=>k_is); (case k2=>k_is); (case a3=>k_is); (case i3=>k_is); (case l3=>k_is); (case c3=>k_is); (case k3=>k_is); (case a4=>k_is); (case i4=>k_is); (case l4=>k_is); (case c4=>k_is); (case k4=>k_is); (case a5=>k_is); (case i5=>k_is); (case l5=>k_is); (case c5=>k_is); (case k5=>k_is); (case a6=>k_is); (case i6=>k_is); (case l6=>k_is); (case c6=>k_is); (case k6=>k_is); (case a7=>k_is); (case i7=>k_is); (case l7=>k_is); (case c7=>k_is); (case k7=>k_is); (case pg=>k_is); (case hd=>k_is); (case po=>k_is); (case sa=>k_is); (case mk=>k_is); (case kc=>k_is); (case n0=>k_is); (case n1=>k_is); (case n2=>k_is); (case n3=>k_is)
  have T_do_moves:∃ f fd,Car.FnT (L2.KOf KX) "do_moves" (Car.top 5) f fd:=by
   dsimp only [L2.KOf]
   refine' Car.fnT_mk ?a ?l ?c ?k
   (case a=>k_is); (case l=>k_is); (case c=>k_is); (case k=>k_is)
  have T_spans_of_row:∃ f fd,Car.FnT (L2.KOf KX) "spans_of_row" (Car.top 7) f fd:=by
   dsimp only [L2.KOf]
   refine' Car.fnT_mk ?a ?l ?c ?k
   (case a=>k_is); (case l=>k_is); (case c=>k_is); (case k=>k_is)
  have T_put_span:∃ f fd,Car.FnT (L2.KOf KX) "put_span" (Car.top 8) f fd:=by
   dsimp only [L2.KOf]
   refine' Car.fnT_mk ?a ?l ?c ?k
   (case a=>k_is); (case l=>k_is); (case c=>k_is); (case k=>k_is)
  have T_spans_of:∃ f fd,Car.FnT (L2.KOf KX) "spans_of" (Car.top 9) f fd:=by
   dsimp only [L2.KOf]
   refine' Car.fnT_mk ?a ?l ?c ?k
   (case a=>k_is); (case l=>k_is); (case c=>k_is); (case k=>k_is)
  have T_pieces_of:∃ f fd,Car.FnT (L2.KOf KX) "pieces_of" (Car.top 10) f fd:=by
   dsimp only [L2.KOf]
   refine' Car.fnT_mk ?a ?l ?c ?k
   (case a=>k_is); (case l=>k_is); (case c=>k_is); (case k=>k_is)
  have T_pieces_within:∃ f fd,Car.FnT (L2.KOf KX) "pieces_within" (Car.top 11) f fd:=by
   dsimp only [L2.KOf]
   refine' Car.fnT_mk ?a ?l ?c ?k
   (case a=>k_is); (case l=>k_is); (case c=>k_is); (case k=>k_is)
  have T_merged:∃ f fd,Car.FnT (L2.KOf KX) "merged" (Car.top 12) f fd:=by
   dsimp only [L2.KOf]
   refine' Car.fnT_mk ?a ?l ?c ?k
   (case a=>k_is); (case l=>k_is); (case c=>k_is); (case k=>k_is)
  have T_cut_row:∃ f fd,Car.FnT (L2.KOf KX) "cut_row" (Car.top 13) f fd:=by
   dsimp only [L2.KOf]
   refine' Car.fnT_mk ?a ?l ?c ?k
   (case a=>k_is); (case l=>k_is); (case c=>k_is); (case k=>k_is)
  have T_Spans:∃ C f0 f1 f2 f3 f4 f5 d0 d1 d2 d3 d4 d5,Car.C_Spans (L2.KOf KX) C f0 f1 f2 f3 f4 f5 d0 d1 d2 d3 d4 d5:=by
   dsimp only [L2.KOf]
   refine' Car.C_Spans_mk ?aC ?a0 ?i0 ?l0 ?c0 ?k0 ?a1 ?i1 ?l1 ?c1 ?k1 ?a2 ?i2 ?l2 ?c2 ?k2 ?a3 ?i3 ?l3 ?c3 ?k3 ?a4 ?i4 ?l4 ?c4 ?k4 ?a5 ?i5 ?l5 ?c5 ?k5 ?pg ?hd ?po ?sa ?mk ?kc ?n0 ?n1
   (case aC=>k_is); (case a0=>k_is); (case i0=>k_is); (case l0=>k_is); (case c0=>k_is); (case k0=>k_is); (case a1=>k_is); (case i1=>k_is); (case l1=>k_is); (case c1=>k_is); (case k1=>k_is); (case a2=>k_is); (case i2=>k_is); (case l2=>k_is); (case c2=>k_is); (case k2=>k_is); (case a3=>k_is); (case i3=>k_is); (case l3=>k_is); (case c3=>k_is); (case k3=>k_is); (case a4=>k_is); (case i4=>k_is); (case l4=>k_is); (case c4=>k_is); (case k4=>k_is); (case a5=>k_is); (case i5=>k_is); (case l5=>k_is); (case c5=>k_is); (case k5=>k_is); (case pg=>k_is); (case hd=>k_is); (case po=>k_is); (case sa=>k_is); (case mk=>k_is); (case kc=>k_is); (case n0=>k_is); (case n1=>k_is)
  have T_carved_spans:∃ f fd,Car.FnT (L2.KOf KX) "carved_spans" (Car.top 15) f fd:=by
   dsimp only [L2.KOf]
   refine' Car.fnT_mk ?a ?l ?c ?k
   (case a=>k_is); (case l=>k_is); (case c=>k_is); (case k=>k_is)
  have T_Cells:∃ C f0 f1 f2 f3 f4 d0 d1 d2 d3 d4,Car.C_Cells (L2.KOf KX) C f0 f1 f2 f3 f4 d0 d1 d2 d3 d4:=by
   dsimp only [L2.KOf]
   refine' Car.C_Cells_mk ?aC ?a0 ?i0 ?l0 ?c0 ?k0 ?a1 ?i1 ?l1 ?c1 ?k1 ?a2 ?i2 ?l2 ?c2 ?k2 ?a3 ?i3 ?l3 ?c3 ?k3 ?a4 ?i4 ?l4 ?c4 ?k4 ?pg ?hd ?po ?sa ?mk ?kc ?n0
   (case aC=>k_is); (case a0=>k_is); (case i0=>k_is); (case l0=>k_is); (case c0=>k_is); (case k0=>k_is); (case a1=>k_is); (case i1=>k_is); (case l1=>k_is); (case c1=>k_is); (case k1=>k_is); (case a2=>k_is); (case i2=>k_is); (case l2=>k_is); (case c2=>k_is); (case k2=>k_is); (case a3=>k_is); (case i3=>k_is); (case l3=>k_is); (case c3=>k_is); (case k3=>k_is); (case a4=>k_is); (case i4=>k_is); (case l4=>k_is); (case c4=>k_is); (case k4=>k_is); (case pg=>k_is); (case hd=>k_is); (case po=>k_is); (case sa=>k_is); (case mk=>k_is); (case kc=>k_is); (case n0=>k_is)
  have T_carved:∃ f fd,Car.FnT (L2.KOf KX) "carved" (Car.top 18) f fd:=by
   dsimp only [L2.KOf]
   refine' Car.fnT_mk ?a ?l ?c ?k
   (case a=>k_is); (case l=>k_is); (case c=>k_is); (case k=>k_is)
  have T__law_stir:∃ f fd,Car.FnT (L2.KOf KX) "_law_stir" (Car.top 20) f fd:=by
   dsimp only [L2.KOf]
   refine' Car.fnT_mk ?a ?l ?c ?k
   (case a=>k_is); (case l=>k_is); (case c=>k_is); (case k=>k_is)
  have T__law_bed:∃ f fd,Car.FnT (L2.KOf KX) "_law_bed" (Car.top 21) f fd:=by
   dsimp only [L2.KOf]
   refine' Car.fnT_mk ?a ?l ?c ?k
   (case a=>k_is); (case l=>k_is); (case c=>k_is); (case k=>k_is)
  have T__law_cutter:∃ f fd,Car.FnT (L2.KOf KX) "_law_cutter" (Car.top 22) f fd:=by
   dsimp only [L2.KOf]
   refine' Car.fnT_mk ?a ?l ?c ?k
   (case a=>k_is); (case l=>k_is); (case c=>k_is); (case k=>k_is)
  have T__law_shelf:∃ f fd,Car.FnT (L2.KOf KX) "_law_shelf" (Car.top 23) f fd:=by
   dsimp only [L2.KOf]
   refine' Car.fnT_mk ?a ?l ?c ?k
   (case a=>k_is); (case l=>k_is); (case c=>k_is); (case k=>k_is)
  have T__law_wild:∃ f fd,Car.FnT (L2.KOf KX) "_law_wild" (Car.top 24) f fd:=by
   dsimp only [L2.KOf]
   refine' Car.fnT_mk ?a ?l ?c ?k
   (case a=>k_is); (case l=>k_is); (case c=>k_is); (case k=>k_is)
  have T__law_moves:∃ f fd,Car.FnT (L2.KOf KX) "_law_moves" (Car.top 25) f fd:=by
   dsimp only [L2.KOf]
   refine' Car.fnT_mk ?a ?l ?c ?k
   (case a=>k_is); (case l=>k_is); (case c=>k_is); (case k=>k_is)
  have T__law_alike:∃ f fd,Car.FnT (L2.KOf KX) "_law_alike" (Car.top 26) f fd:=by
   dsimp only [L2.KOf]
   refine' Car.fnT_mk ?a ?l ?c ?k
   (case a=>k_is); (case l=>k_is); (case c=>k_is); (case k=>k_is)
  have T_law:∃ f fd,Car.FnT (L2.KOf KX) "law" (Car.top 27) f fd:=by
   dsimp only [L2.KOf]
   refine' Car.fnT_mk ?a ?l ?c ?k
   (case a=>k_is); (case l=>k_is); (case c=>k_is); (case k=>k_is)
  have N:Car.NoneT (L2.KOf KX):=by
   dsimp only [L2.KOf]
   refine' ⟨?n0,?n1,?n2,?n3,?n4,?n5,?n6,?n7,?n8,?n9,?n10,?n11,?n12,?n13,?n14,?n15⟩
   (case n0=>k_is); (case n1=>k_is); (case n2=>k_is); (case n3=>k_is); (case n4=>k_is); (case n5=>k_is); (case n6=>k_is); (case n7=>k_is); (case n8=>k_is); (case n9=>k_is); (case n10=>k_is); (case n11=>k_is); (case n12=>k_is); (case n13=>k_is); (case n14=>k_is); (case n15=>k_is)
  have i1:∃ t,AQ (L2.KOf KX) AZ "TOP"=some (some (.int 1000 t)):=by
   dsimp only [L2.KOf]
   refine' Car.int_mk ?a
   (case a=>k_is)
  have B:∃ a,Car.BegD PySem.Challenge.rw_carvebed_k34_whole_moves_on_spans.prog w (L2.KOf KX) a:=by
   dsimp only [L2.KOf]
   refine' Car.beg_mk ?n ?l ?e1 ?e2 ?e3 ?hs
   (case n=>k_is); (case l=>k_is); (case e1=>rfl); (case e2=>rfl); (case e3=>rfl); (case hs=>decide)
  have T_Fault:∃ C f0 d0,Car.C_Fault (L2.KOf KX) C f0 d0:=by
   dsimp only [L2.KOf]
   refine' Car.C_Fault_mk ?aC ?o1 ?o2 ?o3 ?a0 ?n1 ?n2 ?n3 ?n4 ?l0 ?c0 ?k ?ty ?co ?ex ?ow
   (case aC=>k_is); (case o1=>k_is); (case o2=>k_is); (case o3=>rfl); (case a0=>k_is); (case n1=>k_is); (case n2=>k_is); (case n3=>k_is); (case n4=>k_is); (case l0=>k_is); (case c0=>k_is); (case k=>k_is); (case ty=>k_is); (case co=>k_is); (case ex=>k_is); (case ow=>k_is)
  exact Car.all KX G hmg N i1 B T_do_moves T_spans_of_row T_put_span T_spans_of T_pieces_of T_pieces_within T_merged T_cut_row T_carved_spans T_carved T__law_stir T__law_bed T__law_cutter T__law_shelf T__law_wild T__law_moves T__law_alike T_law T_Fault T_Carver T_Spans T_Cells
