import PyProof.Rows.All
import Wide.All
import OpenK.AllK
import Wide.FinOn
import Lean
import PyProof.EqAt
import PyProof.EqKinds
import PyProof.TupleCall
import KE.KDictList
import KE.KDictOf
import KE.KDictSum
import KE.KEqDict
import KE.KMinBuiltin
import KE.KRevIter
import OpenK.KOwn
import PyProof.AutoSeq1
import PyProof.CollectWalk
import PyProof.DictUpdate
import PyProof.EnumIter
import PyProof.EnumMake
import PyProof.EnumStmt
import PyProof.ExcBaseAll.ValueError
import PyProof.FString5
import PyProof.IsInstance
import PyProof.IsiH_list
import PyProof.NeKinds
import PyProof.NsDelKeeps
import PyProof.Rows.All
import PyProof.Rows.CallKwBuiltin
import PyProof.Rows.RuleN_abs
import PyProof.Rows.SetFrom
import PyProof.Rows.SortWalk
import PyProof.Rows.TupAdd
import PyProof.RulesAs
import PyProof.StationsW
import PyProof.TupleIter
import PyProof.TupleOfGen
import PyProof.WalkInts
import PyProof.WalksMore
import PySem.Challenge.RW_clausekeep_k20_whole_solved
set_option Elab.async false
set_option bootstrap.genMatcherCode false
set_option linter.all false
set_option maxRecDepth 100000
namespace L2
open PySem PySem.Spec PyProof.Rows
noncomputable abbrev Key:=Sum Int Str
noncomputable def a3m:Key→Value→Bool
 | .inl k,v=>Value.isInt k v
 | .inr x,v=>Value.isStrOf x v
noncomputable def b7O (w:World):Key→Int
 | .inl k=>hashInt k
 | .inr x=>hashStr w x
theorem A9:∀ {k:Key} {v:Value},a3m k v=true→(∃ i t,k=Sum.inl i∧v=Value.int i t)∨(∃ x t,k=Sum.inr x∧v=Value.str x t)
 | .inl i,v,h=>by
  obtain ⟨t,e⟩:=Value.isInt_shape (k:=i) (v:=v) h
  exact .inl ⟨i,t,rfl,e⟩
 | .inr x,v,h=>by
  obtain ⟨t,e⟩:=Value.isStrOf_shape (x:=x) (v:=v) h
  exact .inr ⟨x,t,rfl,e⟩
theorem b0E (i:Int)(t:Tok):a3m (.inl i) (.int i t)=true:=by simp [a3m,Value.isInt]
theorem b0s (x:Str)(t:Tok):a3m (.inr x) (.str x t)=true:=by simp [a3m,Value.isStrOf]
theorem b4Y (a b:Int):decide ((Sum.inl a:Key)=Sum.inl b)=(a == b):=by
 by_cases e:a=b
 ·subst e; simp
 ·have h:¬ (Sum.inl a:Key)=Sum.inl b:=fun q=>e (Sum.inl.inj q)
  rw [decide_eq_false h]
  exact (beq_eq_false_iff_ne.mpr e).symm
theorem b5G (a b:Str):decide ((Sum.inr a:Key)=Sum.inr b)=decide (a=b):=by
 by_cases e:a=b
 ·subst e; simp
 ·have h:¬ (Sum.inr a:Key)=Sum.inr b:=fun q=>e (Sum.inr.inj q)
  rw [decide_eq_false h,decide_eq_false e]
theorem b5B (a:Int)(b:Str):decide ((Sum.inl a:Key)=Sum.inr b)=false:=decide_eq_false (fun q=>nomatch q)
theorem b5S (a:Str)(b:Int):decide ((Sum.inr a:Key)=Sum.inl b)=false:=decide_eq_false (fun q=>nomatch q)
noncomputable def z5 (prog:Program)(w:World):PySem.KeyKind prog w Key where
 is:=a3m
 hash:=b7O w
 inj:=fun v a b ha hb=>by
  rcases A9 ha with ⟨i,t,rfl,rfl⟩ | ⟨x,t,rfl,rfl⟩
  ·rcases A9 hb with ⟨j,u,rfl,e⟩ | ⟨y,u,rfl,e⟩
   ·injection e with e1 _; rw [e1]
   ·exact nomatch e
  ·rcases A9 hb with ⟨j,u,rfl,e⟩ | ⟨y,u,rfl,e⟩
   ·exact nomatch e
   ·injection e with e1 _; rw [e1]
 byValue:=fun k v h=>by
  rcases A9 h with ⟨i,t,rfl,rfl⟩ | ⟨x,t,rfl,rfl⟩ <;> rfl
 pyHash:=fun hv h=>by
  rcases A9 hv with ⟨i,t,rfl,rfl⟩ | ⟨x,t,rfl,rfl⟩
  ·exact wpAny_pyHash_int h
  ·exact wpAny_pyHash_str h
 eqBool:=fun hu hv h=>by
  rcases A9 hu with ⟨i,t,rfl,rfl⟩ | ⟨x,t,rfl,rfl⟩
  ·rcases A9 hv with ⟨j,u,rfl,rfl⟩ | ⟨y,u,rfl,rfl⟩
   ·rw [b4Y] at h; exact wpAny_eqBool_int h
   ·rw [b5B] at h; exact SeqAt.EqAt.int_str i t y u _ _ _ _ h
  ·rcases A9 hv with ⟨j,u,rfl,rfl⟩ | ⟨y,u,rfl,rfl⟩
   ·rw [b5S] at h; exact SeqAt.EqAt.str_int x t j u _ _ _ _ h
   ·rw [b5G] at h; exact wpAny_eqBool_str h
 «strs»:=fun k x t v h=>by
  rcases A9 h with ⟨i,u,rfl,e⟩ | ⟨y,u,rfl,e⟩
  ·exact nomatch e
  ·injection e with e1 _
   subst e1
   cases v <;> rfl
theorem a7f (prog:Program)(w:World)(i:Int)(t:Tok):(z5 prog w).is (.inl i) (.int i t)=true:=b0E i t
theorem a7C (prog:Program)(w:World)(x:Str)(t:Tok):(z5 prog w).is (.inr x) (.str x t)=true:=b0s x t
end L2
namespace L2
open PySem PySem.Spec PyProof.Rows
inductive V where
 | A3 | bl (b:Bool) | int (i:Int) | str (x:Str) | byt (b:Array UInt8) | flt (b:UInt64) | ref (a:Addr) | ty (n:String)
 deriving DecidableEq
noncomputable def RelV:V→Value→Prop
 | .A3,u=>u=Value.none
 | .bl b,u=>u=Value.bool b
 | .int i,u=>∃ t,u=Value.int i t
 | .str x,u=>∃ t,u=Value.str x t
 | .byt b,u=>∃ t,u=Value.bytes b t
 | .flt b,u=>∃ t,u=Value.float b t
 | .ref a,u=>u=Value.ref a
 | .ty n,u=>u=Value.type n
noncomputable abbrev Vals:List V→List Value→Prop:=Paired RelV
theorem Vals.length {xs:List V}{us:List Value}(r:Vals xs us):xs.length=us.length:=Paired.length r
theorem Vals.get:∀ {xs:List V} {us:List Value} {i:Nat} {x:V},Vals xs us→xs[i]?=some x→∃ u,us[i]?=some u∧RelV x u
 | _,_,_,_,.nil,e=>by simp at e
 | _,_,0,_,.cons r _,e=>by simp at e; subst e; exact ⟨_,rfl,r⟩
 | _,_,i + 1,x,.cons _ t,e=>by
  obtain ⟨u,h1,h2⟩:=Vals.get (i:=i) (x:=x) t (by simpa using e)
  exact ⟨u,by simpa using h1,h2⟩
theorem Vals.set {x:V}{u:Value}(r:RelV x u):∀ {xs:List V} {us:List Value} (i:Nat),Vals xs us→Vals (xs.set i x) (us.set i u)
 | _,_,_,.nil=>.nil
 | _,_,0,.cons _ t=>.cons r t
 | _,_,i + 1,.cons q t=>.cons q (Vals.set r i t)
theorem Vals.append:∀ {xs ys:List V} {us ws:List Value},Vals xs us→Vals ys ws→Vals (xs++ys) (us++ws)
 | _,_,_,_,.nil,s=>s
 | _,_,_,_,.cons r t,s=>.cons r (Vals.append t s)
theorem Vals.take:∀ {xs:List V} {us:List Value} (n:Nat),Vals xs us→Vals (xs.take n) (us.take n)
 | _,_,0,_=>.nil
 | _,_,_ + 1,.nil=>.nil
 | _,_,n + 1,.cons r t=>.cons r (Vals.take n t)
theorem Vals.drop:∀ {xs:List V} {us:List Value} (n:Nat),Vals xs us→Vals (xs.drop n) (us.drop n)
 | _,_,0,r=>r
 | _,_,_ + 1,.nil=>.nil
 | _,_,n + 1,.cons _ t=>Vals.drop n t
noncomputable def a1k:Option V→Option Value→Prop
 | some v,some u=>RelV v u
 | none,none=>True
 | _,_=>False
noncomputable def KV {κ:Type}:List (κ×V)→List (κ×Value)→Prop:=Paired fun (p:κ×V) (q:κ×Value)=>p.1=q.1∧RelV p.2 q.2
noncomputable def kV:Key→V
 | .inl i=>.int i
 | .inr x=>.str x
inductive HO where
 
 | lst (xs:List V)
 
 | tup (xs:List V)
 
 | dK (kvs:List (Key×V)) | dT (kvs:List (List Key×V))
 
 | set (S:Int→Bool) (n:Nat)
 
 | ins (C dx:Addr) (fs:List (Str×V))
 
 | own (x:Addr)
 
 | xd (fs:List (Str×V))
 
 | met (f x:Addr)
 
 | rng (lo hi:Int)
 
 | Z9 (o:Obj) (u:HO)
 
 | tbl (ps:Array Value)
 
 | ext (φ:Heap→Prop)
noncomputable abbrev Hp:=Addr→Option HO
noncomputable def upd (H:Hp)(a:Addr)(o:HO):Hp:=fun b=>if b=a then some o else H b
theorem p9 {H:Hp}{a:Addr}{o:HO}:upd H a o a=some o:=by unfold upd; rw [if_pos rfl]
theorem j6 {H:Hp}{a b:Addr}{o:HO}(h:b≠a):upd H a o b=H b:=by unfold upd; rw [if_neg h]
theorem b6G {H:Hp}{a b:Addr}{o u:HO}(h:H a=some o)(h':H b=some u)(d:o≠u):a≠b:=by
 intro e; subst e; rw [h] at h'; exact d (Option.some.inj h')
theorem D7 {H:Hp}{a b:Addr}{o:HO}(h:H a=some o)(h':H b=none):a≠b:=by
 intro e; subst e; rw [h] at h'; cases h'
section
variable (P:Program)(w:World)
noncomputable def F3 (H:Hp)(h:Heap)(a:Addr):HO→Prop
 | .lst xs=>xs.length≤sizeLine∧∃ (its:List Value) (n:Nat),Vals xs its∧h.get? a=some { cls:=.type "list",data:=.seq its.toArray n }
 | .tup xs=>xs.length≤sizeLine∧∃ its:List Value,Vals xs its∧IsTup h a its.toArray
 | .dK kvs=>kvs.length≤sizeLine∧(a == sysModules)=false∧∃ vs,KV kvs vs∧h.DictOf (z5 P w) a vs
 | .dT kvs=>kvs.length≤sizeLine∧(a == sysModules)=false∧∃ xs:List (List Key×Addr×Value),
   Paired (fun (p:List Key×V) (q:List Key×Addr×Value)=>p.1=q.1∧H q.2.1=some (.tup (p.1.map kV))∧RelV p.2 q.2.2) kvs xs∧
   ∃ o es ep,h.get? a=some o∧o.ExactDict∧o.data=.dict es ep∧es.toList=xs.map (entryOfKey (tupleKind (z5 P w)))∧(xs.map (·.1)).Nodup
 | .set S n=>h.SetOf (intKind P w) a S n
 | .ins C dx fs=>H dx=some (.own a)∧fs.length≤1000∧dx≠a∧h.get? a=some (PySem.W.instObj C dx)∧
   ∃ mA,h.Ns1 dx mA∧(∀ f,a1k (fs.lookup f) (mA f))∧PySem.Within mA (fs.map (·.1))
 | .own _=>∃ o,h.get? a=some o
 | .xd fs=>∃ mA,h.Ns1 a mA∧∀ f,a1k (fs.lookup f) (mA f)
 | .rng lo hi=>∃ t u v,h.get? a=some { cls:=.type "range",data:=.fields #[.int lo t,.int hi u,.int 1 v] }
 | .Z9 o u=>h.get? a=some o∧F3 H h a u
 | .tbl ps=>h.get? a=some { cls:=.none,data:=.fields ps }
 | .met f x=>h.get? a=some (PySem.W.methodObj (.ref f) (.ref x))
 | .ext φ=>φ h∧(∃ o,h.get? a=some o)∧∀ h1 h2:Heap,φ h1→(∀ o,h1.get? a=some o→h2.get? a=some o)→φ h2
noncomputable def HOk (H:Hp)(h:Heap):Prop:=∀ a o,H a=some o→F3 P w H h a o
end
section
variable {P:Program}{w:World}{H H':Hp}{h h':Heap}{a:Addr}{o:HO}
theorem F3.lt (x:F3 P w H h a o):a < h.objs.size:=by
 cases o with
 | lst xs=>obtain ⟨_,_,_,_,e⟩:=x; exact Heap.lt_size e
 | tup xs=>obtain ⟨_,_,_,p⟩:=x; exact p.lt
 | dK kvs=>obtain ⟨_,_,_,_,o,_,_,e,_⟩:=x; exact Heap.lt_size e
 | dT kvs=>obtain ⟨_,_,_,_,o,_,_,e,_⟩:=x; exact Heap.lt_size e
 | set S n=>obtain ⟨o,_,_,_,e,_⟩:=x; exact Heap.lt_size e
 | ins C dx fs=>obtain ⟨_,_,_,e,_⟩:=x; exact Heap.lt_size e
 | own y=>obtain ⟨_,e⟩:=x; exact Heap.lt_size e
 | xd fs=>obtain ⟨_,⟨_,_,_,e,_⟩,_⟩:=x; exact Heap.lt_size e
 | rng lo hi=>obtain ⟨_,_,_,e⟩:=x; exact Heap.lt_size e
 | Z9 ob u=>obtain ⟨e,_⟩:=x; exact Heap.lt_size e
 | tbl ps=>exact Heap.lt_size (show h.get? a=some _ from x)
 | met f y=>exact Heap.lt_size (show h.get? a=some _ from x)
 | ext φ=>obtain ⟨_,⟨_,e⟩,_⟩:=x; exact Heap.lt_size e
theorem Paired.b4g {α β:Type}{F G:α→β→Prop}:∀ {l₁:List α} {l₂:List β},Paired F l₁ l₂→(∀ a b,F a b→G a b)→Paired G l₁ l₂
 | _,_,.nil,_=>.nil
 | _,_,.cons r t,f=>.cons (f _ _ r) (Paired.b4g t f)
theorem Paired.imp' {α β:Type}{F G:α→β→Prop}(f:∀ a b,F a b→G a b){l₁:List α}{l₂:List β}(r:Paired F l₁ l₂):Paired G l₁ l₂:=Paired.b4g r f
theorem F3.stay (x:F3 P w H h a o)(k:∀ b u,(b=a∨H b=some (.own a))→h.get? b=some u→h'.get? b=some u)
  (ho:∀ b,H b=some (.own a)→H' b=some (.own a)) (ht:∀ b xs,H b=some (.tup xs)→H' b=some (.tup xs)):F3 P w H' h' a o:=by
 induction o with
 | lst xs=>obtain ⟨z,its,n,r,e⟩:=x; exact ⟨z,its,n,r,k _ _ (.inl rfl) e⟩
 | tup xs=>obtain ⟨z,its,r,ob,e,c⟩:=x; exact ⟨z,its,r,ob,k _ _ (.inl rfl) e,c⟩
 | dK kvs=>obtain ⟨z,y,vs,r,ob,es,ep,e,c⟩:=x; exact ⟨z,y,vs,r,ob,es,ep,k _ _ (.inl rfl) e,c⟩
 | dT kvs=>
  obtain ⟨z,y,xs,r,ob,es,ep,e,c⟩:=x
  exact ⟨z,y,xs,Paired.b4g r fun p q z=>⟨z.1,ht _ _ z.2.1,z.2.2⟩,ob,es,ep,k _ _ (.inl rfl) e,c⟩
 | set S n=>obtain ⟨ob,es,ep,t,e,c⟩:=x; exact ⟨ob,es,ep,t,k _ _ (.inl rfl) e,c⟩
 | ins C dx fs=>
  obtain ⟨d,z,ne,e,mA,⟨od,es,ep,e2,c⟩,r⟩:=x
  exact ⟨ho _ d,z,ne,k _ _ (.inl rfl) e,mA,⟨od,es,ep,k _ _ (.inr d) e2,c⟩,r⟩
 | own y=>obtain ⟨ob,e⟩:=x; exact ⟨ob,k _ _ (.inl rfl) e⟩
 | xd fs=>obtain ⟨mA,⟨od,es,ep,e,c⟩,r⟩:=x; exact ⟨mA,⟨od,es,ep,k _ _ (.inl rfl) e,c⟩,r⟩
 | rng lo hi=>obtain ⟨t,u,v,e⟩:=x; exact ⟨t,u,v,k _ _ (.inl rfl) e⟩
 | Z9 ob u ih=>obtain ⟨e,q⟩:=x; exact ⟨k _ _ (.inl rfl) e,ih q⟩
 | tbl ps=>
  have e:h.get? a=some { cls:=.none,data:=.fields ps }:=x
  show h'.get? a=some { cls:=.none,data:=.fields ps }
  exact k a _ (.inl rfl) e
 | met f y=>
  have e:h.get? a=some (PySem.W.methodObj (.ref f) (.ref y)):=x
  show h'.get? a=some (PySem.W.methodObj (.ref f) (.ref y))
  exact k a _ (.inl rfl) e
 | ext φ=>obtain ⟨p,⟨o,e⟩,st⟩:=x; exact ⟨st _ _ p fun o q=>k _ _ (.inl rfl) q,⟨o,k _ _ (.inl rfl) e⟩,st⟩
theorem HOk.lt (x:HOk P w H h)(e:H a=some o):a < h.objs.size:=(x a o e).lt
theorem HOk.fresh (x:HOk P w H h)(e:h.objs.size≤a):H a=none:=by
 cases q:H a with
 | none=>rfl
 | some u=>exact absurd (Nat.lt_of_lt_of_le (x.lt q) e) (Nat.lt_irrefl _)
theorem HOk.kept (x:HOk P w H h)(k:∀ b u,h.get? b=some u→h'.get? b=some u):HOk P w H h':=fun a o e=>
 (x a o e).stay (fun b u _ q=>k b u q) (fun _ q=>q) fun _ _ q=>q
theorem HOk.laid (x:HOk P w H h)(k:∀ b u,h.get? b=some u→h'.get? b=some u)(hp:h.objs.size≤a)(new:F3 P w (upd H a o) h' a o):HOk P w (upd H a o) h':=fun b u e=>by
 have hn:=x.fresh hp
 by_cases hb:b=a
 ·subst hb; rw [p9] at e; cases e; exact new
 ·rw [j6 hb] at e
  exact (x b u e).stay (fun c v _ q=>k c v q) (fun c q=>by rw [j6 (D7 q hn)]; exact q) fun c xs q=>by rw [j6 (D7 q hn)]; exact q
end
noncomputable def Rd (H:Hp)(a:Addr)(u:HO):Prop:=H a=some u∨∃ o,H a=some (.Z9 o u)
theorem Rd.ok {P:Program}{w:World}{H:Hp}{h:Heap}{a:Addr}{u:HO}(r:Rd H a u)(x:HOk P w H h):F3 P w H h a u:=by
 rcases r with r | ⟨o,r⟩
 ·exact x a u r
 ·obtain ⟨_,q⟩:=x a _ r
  exact q
noncomputable def Mut:Option HO→Prop
 | some (.lst _)=>True
 | some (.dK _)=>True
 | some (.dT _)=>True
 | some (.set _ _)=>True
 | some (.ins _ _ _)=>True
 | some (.ext _)=>True
 | _=>False
section
variable {P:Program}{w:World}{H:Hp}{h h':Heap}{x e:Addr}{o':HO}
theorem HOk.write (ok:HOk P w H h)(mu:Mut (H x))(he:e=x∨H e=some (.own x))(k:∀ b u,b≠e→h.get? b=some u→h'.get? b=some u)(heo:∃ u,h'.get? e=some u)
  (new:F3 P w (upd H x o') h' x o'):HOk P w (upd H x o') h':=fun b u q=>by
 have nown:∀ c y,H c=some (.own y)→c≠x:=fun c y r z=>by subst z; rw [r] at mu; exact mu
 have ntup:∀ c xs,H c=some (.tup xs)→c≠x:=fun c xs r z=>by subst z; rw [r] at mu; exact mu
 by_cases hb:b=x
 ·subst hb; rw [p9] at q; cases q; exact new
 ·rw [j6 hb] at q
  by_cases hbe:b=e
  ·have q':H b=some (.own x):=by
    rcases he with z | z
    ·exact absurd (hbe.trans z) hb
    ·rw [hbe]; exact z
   rw [q] at q'; cases q'
   obtain ⟨v,hv⟩:=heo
   exact ⟨v,by rw [hbe]; exact hv⟩
  ·refine (ok b u q).stay (fun c v hc r=>k c v ?_ r) (fun c r=>by rw [j6 (nown c b r)]; exact r) fun c xs r=>by rw [j6 (ntup c xs r)]; exact r
   rcases hc with rfl | hc
   ·exact hbe
   ·rintro rfl
    rcases he with z | z
    ·exact nown c b hc z
    ·rw [hc] at z; cases z; exact hb rfl
end
structure Un (fs ex:List Addr) (H H':Hp) (h h':Heap):Prop where
 keep:∀ b o,h.get? b=some o→H b=none→b∉fs→b∉ex→h'.get? b=some o
 slot:∀ b o,h.get? b=some o→H b=none→b∈fs→b∉ex→∃ sl,h'.get? b=some { o with slots:=sl }
 free:∀ b o,h.get? b=some o→H b=none→b∉ex→H' b=none
 there:∀ b o,h.get? b=some o→b∉ex→∃ o',h'.get? b=some o'
 tups:∀ b xs,H b=some (.tup xs)→H' b=some (.tup xs)
 frzs:∀ b o u,H b=some (.Z9 o u)→H' b=some (.Z9 o u)
 tbls:∀ b ps,H b=some (.tbl ps)→∃ more,H' b=some (.tbl (ps++more))
section
variable {fs fs' ex ex':List Addr}{H H1 H2:Hp}{h h1 h2 h':Heap}{a x e:Addr}{o:HO}
theorem Un.any (u:Un fs ex H H1 h h1){b:Addr}{ob:Obj}(q:h.get? b=some ob)(n:H b=none)(hx:b∉ex):∃ sl,h1.get? b=some { ob with slots:=sl }:=by
 by_cases hb:b∈fs
 ·exact u.slot b ob q n hb hx
 ·exact ⟨ob.slots,u.keep b ob q n hb hx⟩
theorem Un.kept (k:∀ b u,h.get? b=some u→h'.get? b=some u):Un fs ex H H h h':=
 ⟨fun b ob q _ _ _=>k b ob q,fun b ob q _ _ _=>⟨ob.slots,k b ob q⟩,fun _ _ _ n _=>n,fun b ob q _=>⟨ob,k b ob q⟩,fun _ _ q=>q,fun _ _ _ q=>q,fun _ ps q=>⟨#[],by rw [q]; simp⟩⟩
theorem Un.refl:Un fs ex H H h h:=Un.kept fun _ _ q=>q
theorem Un.laid (k:∀ b u,h.get? b=some u→h'.get? b=some u)(hp:h.objs.size≤a)(hn:H a=none):Un fs ex H (upd H a o) h h' where
 keep:=fun b u q _ _ _=>k b u q
 slot:=fun b u q _ _ _=>⟨u.slots,k b u q⟩
 free:=fun b u q n _=>by rw [j6 (Nat.ne_of_lt (Nat.lt_of_lt_of_le (Heap.lt_size q) hp))]; exact n
 there:=fun b u q _=>⟨u,k b u q⟩
 tups:=fun b xs q=>by rw [j6 (D7 q hn)]; exact q
 frzs:=fun b u xs q=>by rw [j6 (D7 q hn)]; exact q
 tbls:=fun b ps q=>⟨#[],by rw [j6 (D7 q hn),q]; simp⟩
theorem Un.write (mu:Mut (H x))(he:e=x∨H e=some (.own x))(k:∀ b u,b≠e→h.get? b=some u→h'.get? b=some u)(heo:∃ u,h'.get? e=some u):Un fs ex H (upd H x o) h h':=by
 have hx:∀ b,H b=none→b≠x:=fun b n z=>by subst z; rw [n] at mu; exact mu
 have hb:∀ b,H b=none→b≠e:=fun b n z=>by
  subst z
  rcases he with r | r
  ·exact hx b n r
  ·rw [n] at r; cases r
 have hm:∀ b u,H b=some u→¬ Mut (some u)→b≠x:=fun b u q nm z=>by subst z; rw [q] at mu; exact nm mu
 refine ⟨fun b u q n _ _=>k b u (hb b n) q,fun b u q n _ _=>⟨u.slots,k b u (hb b n) q⟩,fun b u q n _=>by rw [j6 (hx b n)]; exact n,fun b u q _=>?_,
  fun b xs q=>by rw [j6 (hm b _ q fun z=>z)]; exact q,fun b u xs q=>by rw [j6 (hm b _ q fun z=>z)]; exact q,fun b ps q=>⟨#[],by rw [j6 (hm b _ q fun z=>z),q]; simp⟩⟩
 by_cases hbe:b=e
 ·subst hbe; exact heo
 ·exact ⟨u,k b u hbe q⟩
end
noncomputable def trk (h:Heap)(H:Hp):List Addr:=(List.range h.objs.size).filter fun a=>(H a).isSome
noncomputable def a6G (h:Heap)(H:Hp):Heap:=PySem.W.hideAll h (trk h H)
theorem b0r (h:Heap)(H:Hp):(a6G h H).objs.size=h.objs.size:=PySem.W.hideAll_size _ _
theorem b2I {h:Heap}{H:Hp}{b:Addr}{o:Obj}(e:h.get? b=some o)(n:H b=none):(a6G h H).get? b=some o:=
 PySem.W.hideAll_get _ e fun hm=>by
  have q:(H b).isSome=true:=(List.mem_filter.mp hm).2
  rw [n] at q; simp at q
theorem b31 {h:Heap}{H:Hp}{b:Addr}{o:Obj}(e:(a6G h H).get? b=some o):h.get? b=some o∧H b=none:=by
 have e':h.get? b=some o:=PySem.W.of_hideAll (trk h H) e
 refine ⟨e',?_⟩
 cases q:H b with
 | none=>rfl
 | some x=>
  have hm:b∈trk h H:=List.mem_filter.mpr ⟨List.mem_range.mpr (Heap.lt_size e'),by simp [q]⟩
  have z:(a6G h H).get? b=none:=PySem.W.hideAll_none (trk h H) hm
  rw [z] at e; cases e
end L2
namespace L2
open PySem PySem.Spec PyProof.Rows
structure Mod (K:PySem.W.Frag) (mg:Str→Option Value) (base:Heap):Prop where
 kin:K.In base
 glob:base.Ns mainGlobals mg
 blt:∃ mb,base.Ns builtinsNs mb∧∀ x:Str,x≠"__name__"→mb x=bootBuiltins x
 nolimit:base.NoLimit
structure Cx where
 prog:Program
 w:World
 K:PySem.W.Frag
 mg:Str→Option Value
 base:Heap
 A:Around
 N:List Str
 s₀:Shared
 H₀:Hp
 env:Env
 outer:List Env
 stack:List Env
 ex:List Addr
 fn:Str→Bool
 calm:Bool
 pn:List (Addr×Obj)
 xe:Value→Shared→Prop
noncomputable def frs (l:List Env):List Addr:=l.filterMap (·.frame)
noncomputable abbrev Cx.fs (X:Cx):List Addr:=frs X.outer
noncomputable def Vis (sc:Scope)(x:Str):Prop:=sc.names.lookup x=some .local∨sc.names.lookup x=some .cell∨sc.names.lookup x=some .free
noncomputable def Loc (sc:Scope)(x:Str):Prop:=sc.names.lookup x=some .local∨sc.names.lookup x=some .cell
noncomputable def Look (env:Env)(h:Heap)(m:Str→Option Value)(x:Str)(u:Value):Prop:=
 (env.kindOf x=some .local∧m x=some u)∨((env.kindOf x=some .cell∨env.kindOf x=some .free)∧∃ c,env.cells.lookup x=some c∧h.IsCell c (some u))
structure Cx.Ok (X:Cx):Prop where
 mod:Mod X.K X.mg X.base
 kind:X.env.scope.kind=.function
 glob:X.env.globals=mainGlobals
 blt:X.env.builtins=builtinsNs
 above:X.s₀.heap.objs.size≤X.env.locals
 inj:∀ x y c,X.env.cells.lookup x=some c→X.env.cells.lookup y=some c→x=y
 has:∀ x,(X.env.kindOf x=some .cell∨X.env.kindOf x=some .free)→∃ c,X.env.cells.lookup x=some c
 cab:∀ x c,X.fn x=true→X.env.cells.lookup x=some c→X.s₀.heap.objs.size≤c
 hd:X.calm=true→X.A.handled=none
 frames:X.A.frames=some X.stack
 stk:X.stack=X.outer∨(X.stack=X.env::X.outer∧X.env.frame=some X.env.locals)
 exf:∀ b∈X.ex,b≠X.env.locals∧∀ x c,X.env.cells.lookup x=some c→c≠b
 bs:∀ b o,X.base.get? b=some o→X.s₀.heap.get? b=some o∧X.H₀ b=none
 bsz:X.base.objs.size≤X.s₀.heap.objs.size
 noex:∀ b o,X.base.get? b=some o→b∉X.ex
 exfs:∀ b∈X.ex,b∉X.fs
 a2E:X.s₀.heap.FunFrames X.base X.outer
 frf:∀ b∈X.fs,X.H₀ b=none
structure Inv (X:Cx) (pins:List (Addr×Obj)) (σ:List (Option V)) (H:Hp) (s:Shared):Prop where
 ok:X.Ok
 os:s.os=X.s₀.os
 bare:AllBare s.gens
 base:Un X.fs X.ex X.H₀ H X.s₀.heap s.heap
 loc:∃ m,s.heap.Ns X.env.locals m∧∀ (i:Nat) (x:Str) (v:V),X.N[i]?=some x→σ[i]?=some (some v)→Vis X.env.scope x→∃ u,RelV v u∧Look X.env s.heap m x u
 cell:∀ x c,X.env.cells.lookup x=some c→∃ v,s.heap.IsCell c v
 free:H X.env.locals=none
 freeC:∀ x c,X.env.cells.lookup x=some c→H c=none
 pin:∀ p∈X.pn++pins,s.heap.get? p.1=some p.2∧H p.1=none∧p.1≠X.env.locals∧p.1∉X.fs∧∀ v,p.2.data≠.cell v
 hok:HOk X.prog X.w H s.heap
 len:σ.length=X.N.length
section
variable {X:Cx}{pins:List (Addr×Obj)}{σ:List (Option V)}{H H':Hp}{s:Shared}{h':Heap}
theorem Cx.Ok.b8i (ok:X.Ok){b:Addr}{o:Obj}(e:X.base.get? b=some o):b∉X.fs:=fun hb=>by
 have:=(ok.a2E.mem hb).1
 rw [e] at this; cases this
theorem Inv.bs (I:Inv X pins σ H s):∀ b o,X.base.get? b=some o→s.heap.get? b=some o∧H b=none:=fun b o e=>
 ⟨I.base.keep b o (I.ok.bs b o e).1 (I.ok.bs b o e).2 (I.ok.b8i e) (I.ok.noex b o e),I.base.free b o (I.ok.bs b o e).1 (I.ok.bs b o e).2 (I.ok.noex b o e)⟩
theorem Inv.bk (I:Inv X pins σ H s):∀ b o,X.base.get? b=some o→s.heap.get? b=some o:=fun b o e=>(I.bs b o e).1
theorem Inv.mod (I:Inv X pins σ H s):Mod X.K X.mg X.base:=I.ok.mod
theorem Inv.kIn (I:Inv X pins σ H s):X.K.In s.heap:=I.ok.mod.kin.keeps I.bk
theorem Inv.fr (I:Inv X pins σ H s):∃ m,Fr X.base X.env.locals s.heap m:=
 let ⟨m,hn,_⟩:=I.loc
 ⟨m,hn,I.bk,Nat.le_trans I.ok.bsz I.ok.above⟩
theorem Inv.lt (I:Inv X pins σ H s):X.env.locals < s.heap.objs.size:=let ⟨_,hn,_⟩:=I.loc; hn.lt
theorem Inv.sz (I:Inv X pins σ H s):X.s₀.heap.objs.size≤s.heap.objs.size:=Nat.le_trans I.ok.above (Nat.le_of_lt I.lt)
theorem Inv.b57 (I:Inv X pins σ H s){a:Addr}(h:s.heap.objs.size≤a):a∉X.fs:=fun hb=>by
 obtain ⟨_,o,ho,_⟩:=I.ok.a2E.mem hb
 exact absurd (Nat.lt_of_lt_of_le (Heap.lt_size ho) (Nat.le_trans I.sz h)) (Nat.lt_irrefl _)
theorem Inv.cne (I:Inv X pins σ H s):∀ x c,X.env.cells.lookup x=some c→c≠X.env.locals:=fun x c e z=>by
 obtain ⟨v,o,ho,hd⟩:=I.cell x c e
 obtain ⟨m,⟨o',es,ep,ho',hd',_⟩,_⟩:=I.loc
 rw [z,ho'] at ho; cases ho; rw [hd'] at hd; cases hd
theorem Inv.a2E (I:Inv X pins σ H s):s.heap.FunFrames X.base X.outer:=by
 have all:∀ (l:List Env),(∀ b∈frs l,b∈X.fs)→X.s₀.heap.FunFrames X.base l→s.heap.FunFrames X.base l:=by
  intro l
  induction l with
  | nil=>intro _ _; trivial
  | cons env r ih=>
   intro hs hl
   obtain ⟨hk,⟨L,o,hf,hn,ho,hd⟩,hr⟩:=hl
   have hL:L∈X.fs:=hs L (by unfold frs; rw [List.filterMap_cons,hf]; exact List.mem_cons_self)
   obtain ⟨sl,e⟩:=I.base.slot L o ho (I.ok.frf L hL) hL fun z=>I.ok.exfs L z hL
   exact ⟨hk,⟨L,_,hf,hn,e,hd⟩,ih (fun b hb=>hs b (by unfold frs; rw [List.filterMap_cons,hf]; exact List.mem_cons_of_mem _ hb)) hr⟩
 exact all X.outer (fun _ hb=>hb) I.ok.a2E
theorem Inv.stack (I:Inv X pins σ H s):s.heap.FunFrames X.base X.stack:=by
 rcases I.ok.stk with e | ⟨e,hf⟩
 ·rw [e]; exact I.a2E
 ·rw [e]
  obtain ⟨m,hn,_⟩:=I.loc
  refine .cons (by rw [I.ok.kind]; decide) hf hn ?_ I.a2E
  exact Heap.get?_none_of_le (Nat.le_trans I.ok.bsz I.ok.above)
theorem Inv.a2H (I:Inv X pins σ H s):∀ b∈frs X.stack,b∈X.env.locals::X.fs:=fun b hb=>by
 rcases I.ok.stk with e | ⟨e,hf⟩
 ·rw [e] at hb; exact List.mem_cons_of_mem _ hb
 ·rw [e] at hb
  unfold frs at hb
  rw [List.filterMap_cons,hf] at hb
  exact hb
theorem Inv.a9c (I:Inv X pins σ H s):∀ b∈frs X.stack,H b=none:=fun b hb=>by
 rcases List.mem_cons.mp (I.a2H b hb) with e | hb
 ·rw [e]; exact I.free
 ·obtain ⟨_,o,ho,_⟩:=I.ok.a2E.mem hb
  exact I.base.free b o ho (I.ok.frf b hb) fun z=>I.ok.exfs b z hb
theorem Inv.step {g':Array GenState}{t':Nat}{d':Drawn}{ch:List Addr}(I:Inv X pins σ H s)
  (hch:∀ b∈ch,(b∈X.ex∨X.s₀.heap.objs.size≤b)∧b≠X.env.locals∧(∀ x c,X.env.cells.lookup x=some c→c≠b)∧∀ p∈X.pn++pins,p.1≠b)
  (keep:∀ b o,b≠X.env.locals→b∉X.fs→b∉ch→s.heap.get? b=some o→H b=none→h'.get? b=some o)
  (slot:∀ b o,b≠X.env.locals→b∈X.fs→b∉ch→s.heap.get? b=some o→H b=none→∃ sl,h'.get? b=some { o with slots:=sl }) (free:∀ b o,b∉ch→s.heap.get? b=some o→H b=none→H' b=none)
  (there:∀ b o,b∉ch→s.heap.get? b=some o→∃ o',h'.get? b=some o')
  (tups:∀ b xs,H b=some (.tup xs)→H' b=some (.tup xs)) (frzs:∀ b o u,H b=some (.Z9 o u)→H' b=some (.Z9 o u)) (tbls:∀ b ps,H b=some (.tbl ps)→∃ more,H' b=some (.tbl (ps++more)))
  (ns:∀ m,s.heap.Ns X.env.locals m→h'.Ns X.env.locals m) (hok:HOk X.prog X.w H' h') (hg:AllBare g'):
  Inv X pins σ H' { s with heap:=h',gens:=g',drawn:=d',toks:=t' }:=by
 have neL:∀ b o,X.s₀.heap.get? b=some o→b≠X.env.locals:=fun b o e=>Nat.ne_of_lt (Nat.lt_of_lt_of_le (Heap.lt_size e) I.ok.above)
 have neC:∀ b o,X.s₀.heap.get? b=some o→b∉X.ex→b∉ch:=fun b o e hx hb=>by
  rcases (hch b hb).1 with z | z
  ·exact hx z
  ·exact absurd (Nat.lt_of_lt_of_le (Heap.lt_size e) z) (Nat.lt_irrefl _)
 have cellK:∀ x c,X.env.cells.lookup x=some c→∀ v,s.heap.IsCell c v→h'.IsCell c v:=fun x c e v ⟨o,ho,hd⟩=>by
  have nch:c∉ch:=fun z=>(hch c z).2.2.1 x c e rfl
  by_cases hc:c∈X.fs
  ·obtain ⟨sl,q⟩:=slot c o (I.cne x c e) hc nch ho (I.freeC x c e)
   exact ⟨_,q,hd⟩
  ·exact ⟨o,keep c o (I.cne x c e) hc nch ho (I.freeC x c e),hd⟩
 refine ⟨I.ok,I.os,hg,⟨fun b o e n hb hx=>?_,fun b o e n hb hx=>?_,fun b o e n hx=>?_,fun b o e hx=>?_,fun b xs e=>tups b xs (I.base.tups b xs e),fun b o xs e=>frzs b o xs (I.base.frzs b o xs e),fun b ps e=>?_⟩,?_,fun x c e=>?_,?_,fun x c e=>?_,fun p hp=>?_,hok,I.len⟩
 ·exact keep b o (neL b o e) hb (neC b o e hx) (I.base.keep b o e n hb hx) (I.base.free b o e n hx)
 ·obtain ⟨sl,e1⟩:=I.base.slot b o e n hb hx
  obtain ⟨sl',e2⟩:=slot b _ (neL b o e) hb (neC b o e hx) e1 (I.base.free b o e n hx)
  exact ⟨sl',e2⟩
 ·obtain ⟨o',e1⟩:=I.base.there b o e hx
  exact free b o' (neC b o e hx) e1 (I.base.free b o e n hx)
 ·obtain ⟨o',e1⟩:=I.base.there b o e hx
  exact there b o' (neC b o e hx) e1
 ·obtain ⟨m1,e1⟩:=I.base.tbls b ps e
  obtain ⟨m2,e2⟩:=tbls b _ e1
  exact ⟨m1++m2,by rw [e2,Array.append_assoc]⟩
 ·obtain ⟨m,hn,hl⟩:=I.loc
  refine ⟨m,ns m hn,fun i x v e1 e2 e3=>?_⟩
  obtain ⟨u,r,l⟩:=hl i x v e1 e2 e3
  refine ⟨u,r,?_⟩
  rcases l with l | ⟨k,c,e,z⟩
  ·exact .inl l
  ·exact .inr ⟨k,c,e,cellK x c e _ z⟩
 ·obtain ⟨v,z⟩:=I.cell x c e
  exact ⟨v,cellK x c e v z⟩
 ·obtain ⟨m,⟨o,_,_,ho,_⟩,_⟩:=I.loc
  exact free _ o (fun z=>(hch _ z).2.1 rfl) ho I.free
 ·obtain ⟨v,o,ho,hd⟩:=I.cell x c e
  exact free c o (fun z=>(hch c z).2.2.1 x c e rfl) ho (I.freeC x c e)
 ·obtain ⟨e,n,ne,nf,d⟩:=I.pin p hp
  have nch:p.1∉ch:=fun z=>(hch p.1 z).2.2.2 p hp rfl
  exact ⟨keep p.1 p.2 ne nf nch e n,free p.1 p.2 nch e n,ne,nf,d⟩
theorem Inv.un {t':Nat}(I:Inv X pins σ H s)(u:Un X.fs [] H H' s.heap h')(hok:HOk X.prog X.w H' h'):Inv X pins σ H' { s with heap:=h',toks:=t' }:=by
 obtain ⟨m,⟨o,es,ep,ho,r⟩,_⟩:=id I.loc
 obtain ⟨sl,hL⟩:=u.any ho I.free (by simp)
 exact I.step (g':=s.gens) (d':=s.drawn) (ch:=[]) (fun _ z=>nomatch z) (fun b o _ hb _ e n=>u.keep b o e n hb (by simp)) (fun b o _ hb _ e n=>u.slot b o e n hb (by simp)) (fun b o _ e n=>u.free b o e n (by simp)) (fun b o _ e=>u.there b o e (by simp)) u.tups u.frzs u.tbls (fun m' hm=>by
  obtain ⟨o',es',ep',ho',r'⟩:=hm
  rw [ho] at ho'; cases ho'
  exact ⟨_,es',ep',hL,r'⟩) hok I.bare
theorem Inv.call {g':Array GenState}{t':Nat}{d':Drawn}{ch:List Addr}(I:Inv X pins σ H s)(u:Un (frs X.stack) ch H H' s.heap h')(hok:HOk X.prog X.w H' h')(hg:AllBare g')
  (hch:∀ b∈ch,(b∈X.ex∨X.s₀.heap.objs.size≤b)∧b≠X.env.locals∧(∀ x c,X.env.cells.lookup x=some c→c≠b)∧∀ p∈X.pn++pins,p.1≠b):
  Inv X pins σ H' { s with heap:=h',gens:=g',drawn:=d',toks:=t' }:=by
 obtain ⟨m,⟨o,es,ep,ho,r⟩,_⟩:=id I.loc
 obtain ⟨sl,hL⟩:=u.any ho I.free fun z=>(hch _ z).2.1 rfl
 exact I.step (ch:=ch) hch (fun b o hL hb hc e n=>u.keep b o e n (fun z=>(List.mem_cons.mp (I.a2H b z)).elim hL hb) hc) (fun b o _ _ hc e n=>u.any e n hc) (fun b o hc e n=>u.free b o e n hc) (fun b o hc e=>u.there b o e hc) u.tups u.frzs u.tbls (fun m' hm=>by
  obtain ⟨o',es',ep',ho',r'⟩:=hm
  rw [ho] at ho'; cases ho'
  exact ⟨_,es',ep',hL,r'⟩) hok hg
theorem Inv.turned {t':Nat}{it:Addr}(I:Inv X pins σ H s)(k:∀ b o,b≠it→s.heap.get? b=some o→h'.get? b=some o)(hn:H it=none)(hL:it≠X.env.locals)
  (h1:it∈X.ex∨X.s₀.heap.objs.size≤it) (h2:∀ x c,X.env.cells.lookup x=some c→c≠it) (h3:∀ p∈X.pn++pins,p.1≠it):Inv X pins σ H { s with heap:=h',toks:=t' }:=by
 have nit:∀ b u,H b=some u→b≠it:=fun b u e z=>by rw [z,hn] at e; cases e
 refine I.step (g':=s.gens) (d':=s.drawn) (ch:=[it]) (fun b hb=>?_) (fun b o _ _ hc e _=>k b o (fun z=>hc (by simp [z])) e) (fun b o _ _ hc e _=>⟨o.slots,k b o (fun z=>hc (by simp [z])) e⟩) (fun _ _ _ _ n=>n)
  (fun b o hc e=>⟨o,k b o (fun z=>hc (by simp [z])) e⟩) (fun _ _ e=>e) (fun _ _ _ e=>e) (fun b ps e=>⟨#[],by rw [e]; simp⟩) (fun m hm=>?_) (fun b u e=>?_) I.bare
 ·have e:b=it:=by simpa using hb
  subst e
  exact ⟨h1,hL,h2,h3⟩
 ·obtain ⟨o,es,ep,ho,r⟩:=hm
  exact ⟨o,es,ep,k _ o (Ne.symm hL) ho,r⟩
 ·refine (I.hok b u e).stay (fun c v hc q=>k c v ?_ q) (fun _ q=>q) fun _ _ q=>q
  rcases hc with z | z
  ·rw [z]; exact nit b u e
  ·exact nit c _ z
theorem Inv.tok (I:Inv X pins σ H s)(t:Nat):Inv X pins σ H { s with toks:=t }:=I.un (h':=s.heap) (t':=t) Un.refl I.hok
theorem Inv.kept {t':Nat}(I:Inv X pins σ H s)(k:∀ b u,s.heap.get? b=some u→h'.get? b=some u):Inv X pins σ H { s with heap:=h',toks:=t' }:=I.un (Un.kept k) (I.hok.kept k)
theorem Inv.laid {a:Addr}{o:HO}{t':Nat}(I:Inv X pins σ H s)(k:∀ b u,s.heap.get? b=some u→h'.get? b=some u)(hp:s.heap.objs.size≤a)(new:F3 X.prog X.w (upd H a o) h' a o):
  Inv X pins σ (upd H a o) { s with heap:=h',toks:=t' }:=I.un (Un.laid k hp (I.hok.fresh hp)) (I.hok.laid k hp new)
theorem Inv.write {x e:Addr}{o:HO}{t':Nat}(I:Inv X pins σ H s)(mu:Mut (H x))(he:e=x∨H e=some (.own x))(k:∀ b u,b≠e→s.heap.get? b=some u→h'.get? b=some u)(heo:∃ u,h'.get? e=some u)
  (new:F3 X.prog X.w (upd H x o) h' x o):Inv X pins σ (upd H x o) { s with heap:=h',toks:=t' }:=I.un (Un.write mu he k heo) (I.hok.write mu he k heo new)
theorem Inv.weak {σ':List (Option V)}(I:Inv X pins σ H s)(hl:σ'.length=σ.length)(w:∀ (i:Nat) v,σ'[i]?=some (some v)→σ[i]?=some (some v)):Inv X pins σ' H s:=
 ⟨I.ok,I.os,I.bare,I.base,let ⟨m,hn,hl'⟩:=I.loc; ⟨m,hn,fun i x v e1 e2 e3=>hl' i x v e1 (w i v e2) e3⟩,I.cell,I.free,I.freeC,I.pin,I.hok,hl.trans I.len⟩
theorem Inv.a18 {pins':List (Addr×Obj)}(I:Inv X pins σ H s)(h:∀ p∈pins',s.heap.get? p.1=some p.2∧H p.1=none∧p.1≠X.env.locals∧p.1∉X.fs∧∀ v,p.2.data≠.cell v):Inv X pins' σ H s:=
 ⟨I.ok,I.os,I.bare,I.base,I.loc,I.cell,I.free,I.freeC,fun p hp=>(List.mem_append.mp hp).elim (fun z=>I.pin p (List.mem_append_left _ z)) (h p),I.hok,I.len⟩
theorem a69 {N:List Str}(hN:N.Nodup){i j:Nat}{x:Str}(a:N[i]?=some x)(b:N[j]?=some x):i=j:=by
 obtain ⟨h1,e1⟩:=List.getElem?_eq_some_iff.mp a
 obtain ⟨h2,e2⟩:=List.getElem?_eq_some_iff.mp b
 exact (List.getElem_inj hN).mp (e1.trans e2.symm)
theorem a5G {M:Model}{A:Around}{E:Value→Shared→Prop}{i:Nat}{x:Str}{v:V}{u:Value}{Q:Unit→Shared→Prop}(I:Inv X pins σ H s)(hN:X.N.Nodup)(hi:X.N[i]?=some x)(hx:Loc X.env.scope x)(r:RelV v u)
  (h:∀ s',Inv X pins (σ.set i (some v)) H s'→(∃ a,Heap.SameBut a s.heap s'.heap∧(a=X.env.locals∨X.env.cells.lookup x=some a))→Q () s') (hf:X.fn x=true∨X.env.scope.names.lookup x=some .local:=by first | exact .inl rfl | exact .inr rfl | assumption):wpAny M A (storeName X.env x u) Q E s:=by
 obtain ⟨m,hn,hl⟩:=id I.loc
 have hcls:(X.env.scope.kind == .class || (X.env.scope.kind == .module && X.env.locals != X.env.globals))=false:=by rw [I.ok.kind]; rfl
 have hiσ:i < σ.length:=by rw [I.len]; exact (List.getElem?_eq_some_iff.mp hi).1
 have cne:=I.cne
 have tracked:∀ {a:Addr} {h':Heap},(∃ o,s.heap.get? a=some o∧H a=none)→Heap.SameBut a s.heap h'→HOk X.prog X.w H h':=fun {a h'} ha hs b ob e=>by
  obtain ⟨_,_,hfree⟩:=ha
  refine (I.hok b ob e).stay (fun c w' hc q=>(hs.2 c ?_).trans q) (fun _ q=>q) fun _ _ q=>q
  rintro rfl
  rcases hc with rfl | hc
  ·rw [hfree] at e; cases e
  ·rw [hfree] at hc; cases hc
 rcases hx with hk | hk
 ·refine wpAny_storeName_local hk hn (fun h' hn' hs=>?_) hcls
  obtain ⟨oL,_,_,hoL,_⟩:=id hn
  refine h _ ⟨I.ok,I.os,I.bare,⟨fun b o e n hb hx=>?_,fun b o e n hb hx=>?_,I.base.free,fun b o e hx=>?_,I.base.tups,I.base.frzs,I.base.tbls⟩,⟨_,hn',fun j y v' e1 e2 e3=>?_⟩,fun y c e=>?_,I.free,I.freeC,fun p hp=>?_,tracked ⟨oL,hoL,I.free⟩ hs,by simpa using I.len⟩ ⟨_,hs,.inl rfl⟩
  ·exact (hs.2 b (Nat.ne_of_lt (Nat.lt_of_lt_of_le (Heap.lt_size e) I.ok.above))).trans (I.base.keep b o e n hb hx)
  ·obtain ⟨sl,e1⟩:=I.base.slot b o e n hb hx
   exact ⟨sl,(hs.2 b (Nat.ne_of_lt (Nat.lt_of_lt_of_le (Heap.lt_size e) I.ok.above))).trans e1⟩
  ·obtain ⟨o',e1⟩:=I.base.there b o e hx
   exact ⟨o',(hs.2 b (Nat.ne_of_lt (Nat.lt_of_lt_of_le (Heap.lt_size e) I.ok.above))).trans e1⟩
  ·by_cases hj:j=i
   ·subst hj
    rw [hi] at e1; cases e1
    rw [List.getElem?_set_self hiσ] at e2
    cases e2
    exact ⟨u,r,.inl ⟨hk,by simp⟩⟩
   ·rw [List.getElem?_set_ne (Ne.symm hj)] at e2
    obtain ⟨u',r',q⟩:=hl j y v' e1 e2 e3
    refine ⟨u',r',?_⟩
    rcases q with ⟨k,e⟩ | ⟨k,c,e,z⟩
    ·refine .inl ⟨k,?_⟩
     have:y≠x:=fun e=>hj (a69 hN e1 (e ▸ hi))
     simp [this,e]
    ·exact .inr ⟨k,c,e,z.sameBut hs (cne y c e)⟩
  ·obtain ⟨w',z⟩:=I.cell y c e
   exact ⟨w',z.sameBut hs (cne y c e)⟩
  ·obtain ⟨e,n,ne,nf,d⟩:=I.pin p hp
   exact ⟨(hs.2 p.1 ne).trans e,n,ne,nf,d⟩
 ·have hfn:X.fn x=true:=by
   rcases hf with z | z
   ·exact z
   ·rw [z] at hk; cases hk
  obtain ⟨c,hc⟩:=I.ok.has x (.inl hk)
  obtain ⟨w',z⟩:=I.cell x c hc
  refine wpAny_storeName_cell I.ok.kind hk hc z (fun h' hc' hs=>?_)
  obtain ⟨oc,hoc,hocd⟩:=id z
  refine h { s with heap:=h' } ⟨I.ok,I.os,I.bare,⟨fun b o e n hb hx=>?_,fun b o e n hb hx=>?_,I.base.free,fun b o e hx=>?_,I.base.tups,I.base.frzs,I.base.tbls⟩,⟨m,hn.sameBut hs (Ne.symm (cne x c hc)),fun j y v' e1 e2 e3=>?_⟩,fun y c' e=>?_,I.free,I.freeC,fun p hp=>?_,tracked ⟨oc,hoc,I.freeC x c hc⟩ hs,by simpa using I.len⟩ ⟨c,hs,.inr hc⟩
  ·exact (hs.2 b (Nat.ne_of_lt (Nat.lt_of_lt_of_le (Heap.lt_size e) (I.ok.cab x c hfn hc)))).trans (I.base.keep b o e n hb hx)
  ·obtain ⟨sl,e1⟩:=I.base.slot b o e n hb hx
   exact ⟨sl,(hs.2 b (Nat.ne_of_lt (Nat.lt_of_lt_of_le (Heap.lt_size e) (I.ok.cab x c hfn hc)))).trans e1⟩
  ·obtain ⟨o',e1⟩:=I.base.there b o e hx
   exact ⟨o',(hs.2 b (Nat.ne_of_lt (Nat.lt_of_lt_of_le (Heap.lt_size e) (I.ok.cab x c hfn hc)))).trans e1⟩
  ·by_cases hj:j=i
   ·subst hj
    rw [hi] at e1; cases e1
    rw [List.getElem?_set_self hiσ] at e2
    cases e2
    exact ⟨u,r,.inr ⟨.inl hk,c,hc,hc'⟩⟩
   ·rw [List.getElem?_set_ne (Ne.symm hj)] at e2
    obtain ⟨u',r',q⟩:=hl j y v' e1 e2 e3
    refine ⟨u',r',?_⟩
    rcases q with q | ⟨k,c',e,z'⟩
    ·exact .inl q
    ·refine .inr ⟨k,c',e,z'.sameBut hs ?_⟩
     rintro rfl
     exact hj (a69 hN e1 (I.ok.inj _ _ _ e hc ▸ hi))
  ·by_cases hcc:c'=c
   ·subst hcc; exact ⟨_,hc'⟩
   ·obtain ⟨w2,z2⟩:=I.cell y c' e
    exact ⟨w2,z2.sameBut hs hcc⟩
  ·obtain ⟨e,n,ne,nf,d⟩:=I.pin p hp
   refine ⟨(hs.2 p.1 ?_).trans e,n,ne,nf,d⟩
   intro q
   rw [q,hoc] at e
   have q':oc=p.2:=Option.some.inj e
   exact d w' (by rw [← q']; exact hocd)
theorem a7u {M:Model}{A:Around}{E:Value→Shared→Prop}{i:Nat}{x:Str}{v:V}{u:Value}{Q:Unit→Shared→Prop}(I:Inv X pins σ H s)(hN:X.N.Nodup)(hi:X.N[i]?=some x)(hx:Loc X.env.scope x)(r:RelV v u)
  (h:∀ s',Inv X pins (σ.set i (some v)) H s'→Q () s') (hf:X.fn x=true∨X.env.scope.names.lookup x=some .local:=by first | exact .inl rfl | exact .inr rfl | assumption):wpAny M A (storeName X.env x u) Q E s:=
 a5G I hN hi hx r (fun s' I' _=>h s' I') hf
theorem Inv.b7h {s':Shared}{ch:List Addr}(I:Inv X pins σ H s)(ho:s'.os=s.os)(u:Un (frs X.stack) ch H H' s.heap s'.heap)(hok:HOk X.prog X.w H' s'.heap)(hg:AllBare s'.gens)
  (hch:∀ b∈ch,(b∈X.ex∨X.s₀.heap.objs.size≤b)∧b≠X.env.locals∧(∀ x c,X.env.cells.lookup x=some c→c≠b)∧∀ p∈X.pn++pins,p.1≠b):Inv X pins σ H' s':=by
 obtain ⟨h',g',d',t',o'⟩:=s'
 have e:o'=s.os:=ho
 subst e
 exact I.call (g':=g') (t':=t') (d':=d') u hok hg hch
end
noncomputable abbrev XK:=Value→Option Addr→Hp→Prop
noncomputable abbrev St:=List (Option V)
noncomputable abbrev VK:=V→Hp→Prop
noncomputable abbrev TE:=St→Hp→VK→Prop
noncomputable abbrev TT:=St→Hp→(Bool→Hp→Prop)→Prop
noncomputable abbrev TA:=St→Hp→(List V→Hp→Prop)→Prop
structure Ends where
 nx:St→Hp→Prop
 rt:VK
 bk:St→Hp→Prop:=fun _ _=>False
 ct:St→Hp→Prop:=fun _ _=>False
noncomputable abbrev TS:=Ends→St→Hp→Prop
noncomputable def EP (X:Cx)(pins:List (Addr×Obj))(σ:St)(Q:VK)(u:Value)(s':Shared):Prop:=∃ v H',Inv X pins σ H' s'∧RelV v u∧Q v H'
noncomputable def TP (X:Cx)(pins:List (Addr×Obj))(σ:St)(Q:Bool→Hp→Prop)(b:Bool)(s':Shared):Prop:=∃ H',Inv X pins σ H' s'∧Q b H'
noncomputable def AP (X:Cx)(pins:List (Addr×Obj))(σ:St)(Q:List V→Hp→Prop)(us:List Value)(s':Shared):Prop:=∃ vs H',Inv X pins σ H' s'∧Vals vs us∧Q vs H'
noncomputable def SP (X:Cx)(pins:List (Addr×Obj))(D:Ends)(f:Flow)(s':Shared):Prop:=
 match f with
 | .next=>∃ σ' H',Inv X pins σ' H' s'∧D.nx σ' H'
 | .brk=>∃ σ' H',Inv X pins σ' H' s'∧D.bk σ' H'
 | .cont=>∃ σ' H',Inv X pins σ' H' s'∧D.ct σ' H'
 | .ret u=>∃ v σ' H',Inv X pins σ' H' s'∧RelV v u∧D.rt v H'
noncomputable def PE (X:Cx)(e:Expr)(t:TE):Prop:=
 ∀ (pins:List (Addr×Obj)) (s:Shared) (σ:St) (H:Hp) (Q:VK),Inv X pins σ H s→t σ H Q→wpAny (model X.prog X.w) X.A (eval e X.env) (EP X pins σ Q) X.xe s
noncomputable def PT (X:Cx)(e:Expr)(t:TT):Prop:=
 ∀ (pins:List (Addr×Obj)) (s:Shared) (σ:St) (H:Hp) (Q:Bool→Hp→Prop),Inv X pins σ H s→t σ H Q→wpAny (model X.prog X.w) X.A (isTrue e X.env (eval e X.env)) (TP X pins σ Q) X.xe s
noncomputable def PW (X:Cx)(e:Expr)(t:TT):Prop:=
 ∀ (whole:Sem Value) (pins:List (Addr×Obj)) (s:Shared) (σ:St) (H:Hp) (Q:Bool→Hp→Prop),Inv X pins σ H s→t σ H Q→wpAny (model X.prog X.w) X.A (isTrue e X.env whole) (TP X pins σ Q) X.xe s
theorem PW.pt {X:Cx}{e:Expr}{t:TT}(h:PW X e t):PT X e t:=h _
noncomputable def PA (X:Cx)(es:List Expr)(t:TA):Prop:=
 ∀ (pos:Pos) (pins:List (Addr×Obj)) (s:Shared) (σ:St) (H:Hp) (Q:List V→Hp→Prop),Inv X pins σ H s→t σ H Q→wpAny (model X.prog X.w) X.A (spliced (backTo pos (starEach es X.env))) (AP X pins σ Q) X.xe s
noncomputable def PS (X:Cx)(st:Stmt)(t:TS):Prop:=
 ∀ (pins:List (Addr×Obj)) (s:Shared) (σ:St) (H:Hp) (D:Ends),Inv X pins σ H s→t D σ H→wpAny (model X.prog X.w) X.A (exec st X.env) (SP X pins D) X.xe s
noncomputable def PSs (X:Cx)(st:List Stmt)(t:TS):Prop:=
 ∀ (pins:List (Addr×Obj)) (s:Shared) (σ:St) (H:Hp) (D:Ends),Inv X pins σ H s→t D σ H→wpAny (model X.prog X.w) X.A (execs st X.env) (SP X pins D) X.xe s
theorem L7 {α:Type}{t:Sem α}{Q Q':α→Shared→Prop}{M:Model}{A:Around}{E:Value→Shared→Prop}{s:Shared}(h:wpAny M A t Q E s)(hQ:∀ a s,Q a s→Q' a s):wpAny M A t Q' E s:=wpAny_mono h hQ fun _ _ x=>x
end L2
namespace L2
open PySem PySem.Spec PyProof.Rows
section
variable {X:Cx}
noncomputable def b6I (i:Nat):TE:=fun σ H Q=>∃ v,σ[i]?=some (some v)∧Q v H
noncomputable def tC (v:V):TE:=fun _ H Q=>Q v H
theorem b1D {i:Nat}{x:Str}{pos:Pos}(hN:X.N[i]?=some x)(hv:Vis X.env.scope x)(hd:(x == ("__debug__":Str))=false:=by decide) (hcd:(x == ("__classdict__":Str))=false:=by decide):PE X (.Name x pos) (b6I i):=by
 intro pins s σ H Q I h
 obtain ⟨v,e,h⟩:=h
 obtain ⟨m,hn,hl⟩:=I.loc
 obtain ⟨u,r,l⟩:=hl i x v hN e hv
 have fin:EP X pins σ Q u s:=⟨v,H,I,r,h⟩
 rcases l with ⟨hk,hm⟩ | ⟨hk,c,hc,hcell⟩
 ·exact wpAny_Name (wpAny_loadName_local I.ok.kind hk hn hm fin) hd
 ·rcases hk with hk | hk
  ·exact wpAny_Name (wpAny_loadName_cell I.ok.kind hk hc hcell fin) hd
  ·exact wpAny_Name (wpAny_loadName_free I.ok.kind hk hc hcell fin hcd) hd
theorem b4Q {i j pos}:PE X (.Constant (.int i) j pos) (tC (.int i)):=fun _ _ _ H _ I h=>wpAny_Constant_int ⟨.int i,H,I.tok _,⟨_,rfl⟩,h⟩
theorem b62 {b j pos}:PE X (.Constant (.bool b) j pos) (tC (.bl b)):=fun _ _ _ H _ I h=>Constant_bool ⟨.bl b,H,I,rfl,h⟩
theorem b5e {j pos}:PE X (.Constant .none j pos) (tC .A3):=fun _ _ _ H _ I h=>Constant_none ⟨.A3,H,I,rfl,h⟩
theorem b4M {x j pos}:PE X (.Constant (.str x) j pos) (tC (.str x)):=fun _ _ _ H _ I h=>Calls.Constant_str ⟨.str x,H,I.tok _,⟨_,rfl⟩,h⟩
noncomputable def Gl (X:Cx)(x:Str):Prop:=X.env.kindOf x=some .globalImplicit
theorem b3f {E:Value→Shared→Prop}{pins:List (Addr×Obj)}{s:Shared}{σ:St}{H:Hp}{x:Str}{u:Value}{pos:Pos}{Q:Value→Shared→Prop}(I:Inv X pins σ H s)(hg:Gl X x)(hm:X.mg x=some u)(h:Q u s)
  (hd:(x == ("__debug__":Str))=false:=by decide):wpAny (model X.prog X.w) X.A (eval (.Name x pos) X.env) Q E s:=
 Calls.Name_function_global I.ok.kind hg (Calls.loadGlobal_global (by rw [I.ok.glob]; exact I.mod.glob.keeps I.bk) hm h) hd
theorem X5 {E:Value→Shared→Prop}{pins:List (Addr×Obj)}{s:Shared}{σ:St}{H:Hp}{x:Str}{u:Value}{pos:Pos}{Q:Value→Shared→Prop}(I:Inv X pins σ H s)(hg:Gl X x)(hm:X.mg x=none)(hv:bootBuiltins x=some u)(h:Q u s)
  (hn:x≠"__name__":=by decide) (hd:(x == ("__debug__":Str))=false:=by decide):wpAny (model X.prog X.w) X.A (eval (.Name x pos) X.env) Q E s:=by
 obtain ⟨mb,h1,h2⟩:=I.mod.blt
 exact Calls.Name_function_global I.ok.kind hg (Calls.loadGlobal_builtin (by rw [I.ok.glob]; exact I.mod.glob.keeps I.bk) hm (by rw [I.ok.blt]; exact h1.keeps I.bk) ((h2 x hn).trans hv) h) hd
theorem b3Y {x:Str}{v:V}{u:Value}{pos:Pos}(hg:Gl X x)(hm:X.mg x=none)(hv:bootBuiltins x=some u)(r:RelV v u)(hn:x≠"__name__":=by decide) (hd:(x == ("__debug__":Str))=false:=by decide):PE X (.Name x pos) (tC v):=
 fun _ _ _ H _ I h=>X5 I hg hm hv ⟨v,H,I,r,h⟩ hn hd
variable {a b:Expr}{ta tb:TE}{pos:Pos}
noncomputable def PC (X:Cx)(op:CmpOp)(a b:Expr)(t:TE):Prop:=
 ∀ (pins:List (Addr×Obj)) (s:Shared) (σ:St) (H:Hp) (Q:VK),Inv X pins σ H s→t σ H Q→
  wpAny (model X.prog X.w) X.A (eval a X.env) (fun v s₁=>wpAny (model X.prog X.w) X.A (eval b X.env) (fun u s₂=>wpAny (model X.prog X.w) X.A (compareOp op v u) (EP X pins σ Q) X.xe s₂) X.xe s₁) X.xe s
theorem b2v (b:Expr){op:CmpOp}(h:op≠.In)(h2:op≠.NotIn):behindInMarks op b=false:=by
 have e1:(op == CmpOp.In)=false:=by cases op <;> first | rfl | exact absurd rfl h
 have e2:(op == CmpOp.NotIn)=false:=by cases op <;> first | rfl | exact absurd rfl h2
 cases b <;> simp [behindInMarks,e1,e2]
noncomputable def b6E (ta:TE):TE:=fun σ H Q=>ta σ H fun x H1=>Q (.bl (!decide (x=.A3))) H1
theorem RelV.b0T {x:V}{v:Value}(r:RelV x v):(v == Value.none)=decide (x=.A3):=by
 cases x with
 | A3=>cases r; rfl
 | bl _=>cases r; rfl
 | int _=>obtain ⟨t,rfl⟩:=r; rfl
 | str _=>obtain ⟨t,rfl⟩:=r; rfl
 | byt _=>obtain ⟨t,rfl⟩:=r; rfl
 | flt _=>obtain ⟨t,rfl⟩:=r; rfl
 | ref _=>cases r; rfl
 | ty _=>cases r; rfl
theorem b37 {j pos'}(ha:PE X a ta):PC X .IsNot a (.Constant .none j pos') (b6E ta):=by
 intro pins s σ H Q I h
 refine L7 (ha pins s σ H _ I h) fun v s1 ⟨x,H1,I1,r1,q1⟩=>?_
 exact Constant_none (isnot_none_gen ⟨.bl _,H1,I1,by rw [r1.b0T]; rfl,q1⟩)
noncomputable def tB (t:TE):TT:=fun σ H Q=>t σ H fun x H1=>∃ c,x=.bl c∧Q c H1
theorem b5M {op:CmpOp}{t:TE}(h:PC X op a b t)(h1:behindInMarks op b=false:=by first | exact b2v _ (by decide) (by decide) | rfl):PT X (.Compare a [op] [b] pos) (tB t):=by
 intro pins s σ H Q I hw
 refine wpAny_isTrue_Compare1 (L7 (h pins s σ H _ I hw) fun v s1 h1=>L7 h1 fun u s2 h2=>L7 h2 fun c s3 ⟨x,H1,I1,r1,q1⟩=>?_) h1
 obtain ⟨d,rfl,q⟩:=q1
 cases r1
 exact wpAny_truthy_bool ⟨H1,I1,q⟩
variable {tA tB':TT}{rest:List Expr}
noncomputable def b7l (t u:TT):TT:=fun σ H Q=>t σ H fun c H1=>if c=true then u σ H1 Q else Q false H1
noncomputable def tOr (t u:TT):TT:=fun σ H Q=>t σ H fun c H1=>if c=true then Q true H1 else u σ H1 Q
noncomputable def b7R (t:TT):TT:=fun σ H Q=>t σ H fun c H1=>Q (!c) H1
theorem b3e (ha:PT X a tA):PW X (.BoolOp .And [a] pos) tA:=by
 intro wh pins s σ H Q I h
 refine isTrue_and (L7 (ha pins s σ H Q I h) fun c s1 e=>?_)
 cases c with
 | true=>exact isTrue_and_nil e
 | false=>exact e
theorem b5q (ha:PT X a tA):PW X (.BoolOp .Or [a] pos) tA:=by
 intro wh pins s σ H Q I h
 refine isTrue_or (L7 (ha pins s σ H Q I h) fun c s1 e=>?_)
 cases c with
 | false=>exact isTrue_or_nil e
 | true=>exact e
theorem b4G (ha:PT X a tA)(hb:PW X (.BoolOp .And (b::rest) pos) tB'):PW X (.BoolOp .And (a::b::rest) pos) (b7l tA tB'):=by
 intro wh pins s σ H Q I h
 refine isTrue_and (L7 (ha pins s σ H _ I h) fun c s1 ⟨H1,I1,q1⟩=>?_)
 cases c with
 | true=>exact hb wh pins s1 σ H1 Q I1 q1
 | false=>exact ⟨H1,I1,q1⟩
theorem b6A (ha:PT X a tA)(hb:PW X (.BoolOp .Or (b::rest) pos) tB'):PW X (.BoolOp .Or (a::b::rest) pos) (tOr tA tB'):=by
 intro wh pins s σ H Q I h
 refine isTrue_or (L7 (ha pins s σ H _ I h) fun c s1 ⟨H1,I1,q1⟩=>?_)
 cases c with
 | true=>exact ⟨H1,I1,q1⟩
 | false=>exact hb wh pins s1 σ H1 Q I1 q1
theorem b5C (ha:PT X a tA):PT X (.UnaryOp .Not a pos) (b7R tA):=by
 intro pins s σ H Q I h
 exact isTrue_not (ha pins s σ H (fun c H1=>Q (!c) H1) I h)
noncomputable def b4q (ta tb:TE):TE:=fun σ H Q=>ta σ H fun x H1=>∃ c,x=.bl c∧if c=true then tb σ H1 Q else Q (.bl false) H1
noncomputable def b6Q (ta:TE):TE:=fun σ H Q=>ta σ H fun x H1=>∃ c,x=.bl c∧Q (.bl (!c)) H1
theorem b5o {op}{t:TE}(h:PE X a t):PE X (.BoolOp op [a] pos) t:=fun pins s σ H Q I hw=>BoolOp_one (h pins s σ H Q I hw)
theorem b5O (ha:PE X a ta)(hb:PE X (.BoolOp .And (b::rest) pos) tb):PE X (.BoolOp .And (a::b::rest) pos) (b4q ta tb):=by
 intro pins s σ H Q I h
 refine BoolOp_and (L7 (ha pins s σ H _ I h) fun v s1 ⟨x,H1,I1,r1,q1⟩=>?_)
 obtain ⟨c,rfl,q1⟩:=q1
 cases r1
 refine wpAny_truthy_bool ?_
 cases c with
 | true=>exact hb pins s1 σ H1 Q I1 q1
 | false=>exact ⟨.bl false,H1,I1,rfl,q1⟩
theorem b5z (ha:PE X a ta):PE X (.UnaryOp .Not a pos) (b6Q ta):=by
 intro pins s σ H Q I h
 refine UnaryOp_ (L7 (ha pins s σ H _ I h) fun v s1 ⟨x,H1,I1,r1,q1⟩=>?_)
 obtain ⟨c,rfl,q1⟩:=q1
 cases r1
 exact not_of (wpAny_truthy_bool ⟨.bl (!c),H1,I1,rfl,q1⟩)
end
end L2
namespace L2
open PySem PySem.Spec PyProof.Rows
noncomputable def L8 (K:PySem.W.Frag)(H:Hp)(a:Addr)(xs:List V):Prop:=
 Rd H a (.lst xs)∨
  ∃ (o:Obj) (its:Array Value) (n:Nat),K.lookup a=some o∧o.cls=.type "list"∧o.dict=none∧o.data=.seq its n∧its.size≤sizeLine∧Vals xs its.toList
noncomputable def W5 (K:PySem.W.Frag)(H:Hp)(a:Addr)(xs:List V):Prop:=
 Rd H a (.tup xs)∨
  ∃ (o:Obj) (its:Array Value) (n:Nat),K.lookup a=some o∧o.cls=.type "tuple"∧o.data=.seq its n∧its.size≤sizeLine∧Vals xs its.toList
noncomputable def b72:Value→Option V
 | .none=>some .A3
 | .bool b=>some (.bl b)
 | .int i _=>some (.int i)
 | .str x _=>some (.str x)
 | .bytes b _=>some (.byt b)
 | .float b _=>some (.flt b)
 | .ref a=>some (.ref a)
 | .type n=>some (.ty n)
 | _=>none
theorem RelV.abs {x:V}{u:Value}(r:RelV x u):b72 u=some x:=by
 cases x with
 | A3=>cases r; rfl
 | bl _=>cases r; rfl
 | int _=>obtain ⟨t,rfl⟩:=r; rfl
 | str _=>obtain ⟨t,rfl⟩:=r; rfl
 | byt _=>obtain ⟨t,rfl⟩:=r; rfl
 | flt _=>obtain ⟨t,rfl⟩:=r; rfl
 | ref _=>cases r; rfl
 | ty _=>cases r; rfl
theorem RelV.inj {x y:V}{u:Value}(r:RelV x u)(q:RelV y u):x=y:=Option.some.inj (r.abs.symm.trans q.abs)
theorem Vals.inj:∀ {xs ys:List V} {us:List Value},Vals xs us→Vals ys us→xs=ys
 | _,_,_,.nil,.nil=>rfl
 | _,_,_,.cons r t,.cons r' t'=>by rw [r.inj r',Vals.inj t t']
section
variable {X:Cx}{pins:List (Addr×Obj)}{σ:St}{H:Hp}{s:Shared}{a:Addr}{xs ys:List V}
theorem L8.of {K:PySem.W.Frag}(h:H a=some (.lst xs)):L8 K H a xs:=.inl (.inl h)
theorem W5.of {K:PySem.W.Frag}(h:H a=some (.tup xs)):W5 K H a xs:=.inl (.inl h)
theorem Inv.list (I:Inv X pins σ H s)(h:L8 X.K H a xs):∃ its:List Value,Vals xs its∧PlainL s.heap a its.toArray∧xs.length≤sizeLine:=by
 rcases h with h | ⟨o,its,n,hk,hc,hd,hs,hz,r⟩
 ·obtain ⟨z,its,n,r,e⟩:=h.ok I.hok
  exact ⟨its,r,⟨_,n,e,rfl,rfl,rfl⟩,z⟩
 ·refine ⟨its.toList,r,⟨o,n,I.kIn a o hk,hc,hd,by simpa using hs⟩,?_⟩
  have e:=r.length
  simp only [Array.length_toList] at e
  omega
theorem Inv.tuple (I:Inv X pins σ H s)(h:W5 X.K H a xs):∃ its:List Value,Vals xs its∧IsTup s.heap a its.toArray∧xs.length≤sizeLine:=by
 rcases h with h | ⟨o,its,n,hk,hc,hs,hz,r⟩
 ·obtain ⟨z,its,r,p⟩:=h.ok I.hok
  exact ⟨its,r,p,z⟩
 ·refine ⟨its.toList,r,⟨o,I.kIn a o hk,hc,n,by simpa using hs⟩,?_⟩
  have e:=r.length
  simp only [Array.length_toList] at e
  omega
theorem Inv.a2u (I:Inv X pins σ H s)(h:L8 X.K H a xs)(h':L8 X.K H a ys):xs=ys:=by
 obtain ⟨its,r,⟨o,n,e,_,_,d⟩,_⟩:=I.list h
 obtain ⟨its',r',⟨o',n',e',_,_,d'⟩,_⟩:=I.list h'
 rw [e] at e'; cases e'
 rw [d] at d'
 injection d' with d1 _
 have:its=its':=by simpa using congrArg Array.toList d1
 subst this
 exact r.inj r'
theorem Inv.a2R (I:Inv X pins σ H s)(h:W5 X.K H a xs)(h':W5 X.K H a ys):xs=ys:=by
 obtain ⟨its,r,⟨o,e,_,n,d⟩,_⟩:=I.tuple h
 obtain ⟨its',r',⟨o',e',_,n',d'⟩,_⟩:=I.tuple h'
 rw [e] at e'; cases e'
 rw [d] at d'
 injection d' with d1 _
 have:its=its':=by simpa using congrArg Array.toList d1
 subst this
 exact r.inj r'
end
noncomputable abbrev Cx.S4 (X:Cx)(E:Value→Shared→Prop):Cx:={ X with xe:=E }
noncomputable abbrev Cx.nox (X:Cx):Cx:=X.S4 fun _ _=>False
theorem Cx.Ok.S4 {X:Cx}(ok:X.Ok)(E:Value→Shared→Prop):(X.S4 E).Ok:=
 ⟨ok.mod,ok.kind,ok.glob,ok.blt,ok.above,ok.inj,ok.has,ok.cab,ok.hd,ok.frames,ok.stk,ok.exf,ok.bs,ok.bsz,ok.noex,ok.exfs,ok.a2E,ok.frf⟩
theorem Cx.Ok.O4 {X:Cx}{E:Value→Shared→Prop}(ok:(X.S4 E).Ok):X.Ok:=
 ⟨ok.mod,ok.kind,ok.glob,ok.blt,ok.above,ok.inj,ok.has,ok.cab,ok.hd,ok.frames,ok.stk,ok.exf,ok.bs,ok.bsz,ok.noex,ok.exfs,ok.a2E,ok.frf⟩
section
variable {X:Cx}{pins:List (Addr×Obj)}{σ:St}{H:Hp}{s:Shared}{E:Value→Shared→Prop}
theorem Inv.S4 (I:Inv X pins σ H s)(E:Value→Shared→Prop):Inv (X.S4 E) pins σ H s:=⟨I.ok.S4 E,I.os,I.bare,I.base,I.loc,I.cell,I.free,I.freeC,I.pin,I.hok,I.len⟩
theorem Inv.O4 (I:Inv (X.S4 E) pins σ H s):Inv X pins σ H s:=⟨I.ok.O4,I.os,I.bare,I.base,I.loc,I.cell,I.free,I.freeC,I.pin,I.hok,I.len⟩
theorem SP.O4 {D:Ends}{f:Flow}{s':Shared}(h:SP (X.S4 E) pins D f s'):SP X pins D f s':=by
 cases f with
 | next=>obtain ⟨σ',H',I,q⟩:=h; exact ⟨σ',H',I.O4,q⟩
 | brk=>obtain ⟨σ',H',I,q⟩:=h; exact ⟨σ',H',I.O4,q⟩
 | cont=>obtain ⟨σ',H',I,q⟩:=h; exact ⟨σ',H',I.O4,q⟩
 | ret u=>obtain ⟨v,σ',H',I,r,q⟩:=h; exact ⟨v,σ',H',I.O4,r,q⟩
theorem PSs.nox {st:List Stmt}{t:TS}(h:PSs X.nox st t):PSs X st t:=fun pins s σ H D I hw=>
 wpAny_mono (h pins s σ H D (I.S4 _) hw) (fun _ _ q=>q.O4) fun _ _ z=>False.elim z
end
section
variable {X:Cx}{st:Stmt}{rest:List Stmt}{t u:TS}{e:Expr}{te:TE}{pos:Pos}
noncomputable def b7d:TS:=fun D σ H=>D.nx σ H
noncomputable def b8a (t u:TS):TS:=fun D σ H=>t { D with nx:=u D } σ H
theorem b32:PSs X [] b7d:=fun _ _ σ H _ I h=>wpAny_execs_nil ⟨σ,H,I,h⟩
theorem b04 (h1:PS X st t)(h2:PSs X rest u):PSs X (st::rest) (b8a t u):=by
 intro pins s σ H D I h
 refine wpAny_execs_cons (L7 (h1 pins s σ H { D with nx:=u D } I h) fun f s1 q=>?_)
 cases f with
 | next=>
  obtain ⟨σ',H',I',q⟩:=q
  exact h2 pins s1 σ' H' D I' q
 | ret v=>exact q
 | brk=>exact q
 | cont=>exact q
theorem b3a (h1:PS X st t):PSs X [st] t:=by
 intro pins s σ H D I h
 refine wpAny_execs_cons (L7 (h1 pins s σ H D I h) fun f s1 q=>?_)
 cases f with
 | next=>exact wpAny_execs_nil q
 | ret v=>exact q
 | brk=>exact q
 | cont=>exact q
theorem Inv.quiet {pins:List (Addr×Obj)}{σ:St}{H:Hp}{s:Shared}(I:Inv X pins σ H s):interactive X.env=false:=by simp [interactive,I.ok.kind]
noncomputable def b6S (te:TE):TS:=fun D σ H=>te σ H fun _ H1=>D.nx σ H1
theorem b3x (he:PE X e te)(hs:swapsWith e none pos.line X.env=pure false:=by rfl):PS X (.Expr e pos) (b6S te):=by
 intro pins s σ H D I h
 exact wpAny_Expr_any (L7 (he pins s σ H _ I h) fun v s1 ⟨x,H1,I1,r1,q1⟩=>⟨σ,H1,I1,q1⟩) I.quiet hs
noncomputable def b7J (te:TE):TS:=fun D σ H=>te σ H D.rt
theorem b5x (he:PE X e te):PS X (.Return (some e) pos) (b7J te):=by
 intro pins s σ H D I h
 exact wpAny_Return_some (L7 (he pins s σ H _ I h) fun v s1 ⟨x,H1,I1,r1,q1⟩=>⟨x,σ,H1,I1,r1,q1⟩)
noncomputable def b7M (c:TT)(t u:TS):TS:=fun D σ H=>c σ H fun b H1=>if b=true then t D σ H1 else u D σ H1
theorem b6T {c:Expr}{a b:List Stmt}{tc:TT}(hc:PT X c tc)(ha:PSs X a t)(hb:PSs X b u):PS X (.If c a b pos) (b7M tc t u):=by
 intro pins s σ H D I h
 refine wpAny_If (L7 (hc pins s σ H _ I h) fun d s1 ⟨H1,I1,q1⟩=>?_)
 cases d with
 | true=>exact ha pins s1 σ H1 D I1 q1
 | false=>exact hb pins s1 σ H1 D I1 q1
noncomputable def b58:TS:=fun _ _ _=>False
theorem b1c:PS X st b58:=fun _ _ _ _ _ _ h=>h.elim
end
noncomputable abbrev TG:=V→St→Hp→(St→Hp→Prop)→Prop
noncomputable def PG (X:Cx)(target:Expr)(t:TG):Prop:=
 ∀ (pins:List (Addr×Obj)) (s:Shared) (σ:St) (H:Hp) (v:V) (u:Value) (Q:St→Hp→Prop),Inv X pins σ H s→RelV v u→t v σ H Q→
  wpAny (model X.prog X.w) X.A (assign target X.env u) (fun _ s'=>∃ σ' H',Inv X pins σ' H' s'∧Q σ' H') X.xe s
noncomputable abbrev b4l:=V→V→V→Hp→(Hp→Prop)→Prop
noncomputable def a8L (X:Cx)(t:b4l):Prop:=
 ∀ (pins:List (Addr×Obj)) (s:Shared) (σ:St) (H:Hp) (o i v:V) (ov iv u:Value) (Q:Hp→Prop),Inv X pins σ H s→RelV o ov→RelV i iv→RelV v u→t o i v H Q→
  wpAny (model X.prog X.w) X.A (setItem ov iv u) (fun _ s'=>∃ H',Inv X pins σ H' s'∧Q H') X.xe s
section
variable {X:Cx}{pos:Pos}
noncomputable def a28 (i:Nat):TG:=fun v σ H Q=>Q (σ.set i (some v)) H
theorem a5Y {i:Nat}{x:Str}(hN:X.N.Nodup)(hi:X.N[i]?=some x)(hx:Loc X.env.scope x)(hf:X.fn x=true∨X.env.scope.names.lookup x=some .local:=by first | exact .inl rfl | exact .inr rfl | assumption):PG X (.Name x pos) (a28 i):=by
 intro pins s σ H v u Q I r h
 exact wpAny_assign_Name (a7u I hN hi hx r (fun s' I'=>⟨_,H,I',h⟩) hf)
noncomputable def b8e (to ti:TE)(t:b4l):TG:=fun v σ H Q=>to σ H fun o H1=>ti σ H1 fun i H2=>t o i v H2 fun H3=>Q σ H3
theorem b54 {o i:Expr}{to ti:TE}{t:b4l}(ho:PE X o to)(hi:PE X i ti)(hs:a8L X t)
  (ha:∀ v,assign (.Subscript o i pos) X.env v=(do
   let ov ← holding [v] (eval o X.env)
   let iv ← holding [v,ov] (eval i X.env)
   standAt pos
   holding [v,ov,iv] (setItem ov iv v)
   release [v,ov,iv] []):=by intro _; rfl):PG X (.Subscript o i pos) (b8e to ti t):=by
 intro pins s σ H v u Q I r h
 rw [ha]
 refine wpAny_bind (wpAny_holding (L7 (ho pins s σ H _ I h) fun ov s1 ⟨x,H1,I1,r1,q1⟩=>?_))
 refine wpAny_bind (wpAny_holding (L7 (hi pins s1 σ H1 _ I1 q1) fun iv s2 ⟨y,H2,I2,r2,q2⟩=>?_))
 refine wpAny_bind (wpAny_standAt (wpAny_bind (wpAny_holding (L7 (hs pins s2 σ H2 x y v ov iv u _ I2 r1 r2 r q2) fun _ s3 ⟨H3,I3,q3⟩=>?_))))
 exact wpAny_release ⟨σ,H3,I3,q3⟩
noncomputable def b24 (te:TE)(g:TG):TS:=fun D σ H=>te σ H fun x H1=>g x σ H1 D.nx
theorem b51 {tg e:Expr}{te:TE}{g:TG}(he:PE X e te)(hg:PG X tg g)(hs:swapsWithSole [tg] e pos.line X.env=pure false:=by rfl)(hw:swappedStores [tg] e X.env=pure none:=by rfl)
  (h1:(assignEach [tg] X.env).map (·.2)=[assign tg X.env]:=by rfl):PS X (.Assign [tg] e pos) (b24 te g):=by
 intro pins s σ H D I h
 refine wpAny_Assign_stores (L7 (he pins s σ H _ I h) fun v s1 ⟨x,H1,I1,r1,q1⟩=>?_) hs hw
 rw [h1]
 exact L7 (hg pins s1 σ H1 x v _ I1 r1 q1) fun _ s2 q=>q
theorem b5E {i:Nat}{x:Str}{e:Expr}{te:TE}{pos':Pos}(hN:X.N.Nodup)(hi:X.N[i]?=some x)(hx:Loc X.env.scope x)(he:PE X e te)(hs:swapsWith e (some (.Name x pos')) pos.line X.env=pure false:=by rfl)(hf:X.fn x=true∨X.env.scope.names.lookup x=some .local:=by first | exact .inl rfl | exact .inr rfl | assumption):
  PS X (.Assign [.Name x pos'] e pos) (b24 te (a28 i)):=by
 intro pins s σ H D I h
 refine wpAny_Assign_Name (L7 (he pins s σ H _ I h) fun v s1 ⟨y,H1,I1,r1,q1⟩=>?_) hs
 exact a7u I1 hN hi hx r1 (fun s2 I2=>⟨_,H1,I2,q1⟩) hf
end
section
variable {X:Cx}{pos:Pos}
noncomputable def b5t (c:TT)(tb:TS):TS:=fun D σ H=>∃ W:Nat→St→Hp→Prop,(∃ m,W m σ H)∧∀ m σ H,W m σ H→
 c σ H fun b H1=>if b=true then ∃ N:St→Hp→Prop,(∀ σ' H',N σ' H'→∃ m',m' < m∧W m' σ' H')∧tb { D with nx:=N,ct:=N,bk:=D.nx } σ H1 else D.nx σ H1
theorem b1x {c:Expr}{body:List Stmt}{tc:TT}{tb:TS}(hp:PassesOwn (model X.prog X.w) X.A X.env X.xe)(hc:PT X c tc)(hb:PSs X body tb):PS X (.While c body [] pos) (b5t tc tb):=by
 intro pins s σ H D I h
 obtain ⟨W,⟨m0,w0⟩,turn⟩:=h
 refine wpAny_While (codeAny_whileLoop (fun n s'=>∃ σ' H',Inv X pins σ' H' s'∧W n σ' H') ?_ m0 ⟨σ,H,I,w0⟩)
 rintro n s1 ⟨σ1,H1,I1,w1⟩
 refine wpAny_passesOwn hp (L7 (hc pins s1 σ1 H1 _ I1 (turn n σ1 H1 w1)) fun b s2 ⟨H2,I2,q2⟩=>?_)
 cases b with
 | true=>
  obtain ⟨N,hN,q2⟩:=q2
  rw [if_pos rfl]
  refine wpAny_passesOwn hp (L7 (hb pins s2 σ1 H2 _ I2 q2) fun f s3 q3=>?_)
  cases f with
  | next=>
   obtain ⟨σ3,H3,I3,n3⟩:=q3
   obtain ⟨m',hm,w3⟩:=hN σ3 H3 n3
   exact ⟨m',hm,σ3,H3,I3,w3⟩
  | cont=>
   obtain ⟨σ3,H3,I3,n3⟩:=q3
   obtain ⟨m',hm,w3⟩:=hN σ3 H3 n3
   exact ⟨m',hm,σ3,H3,I3,w3⟩
  | brk=>exact q3
  | ret v=>exact q3
 | false=>
  rw [if_neg Bool.false_ne_true]
  exact wpAny_execs_nil ⟨σ1,H2,I2,q2⟩
end
structure It where
 go:Nat→Hp→Prop
 yld:Nat→Hp→V→Hp→Prop
 stop:Nat→Hp→Prop
noncomputable def a4w (X:Cx)(pins:List (Addr×Obj))(H:Hp)(b:Addr):Prop:=
 H b=none∧b≠X.env.locals∧b∉X.fs∧(b∈X.ex∨X.s₀.heap.objs.size≤b)∧(∀ x c,X.env.cells.lookup x=some c→c≠b)∧∀ p∈X.pn++pins,p.1≠b
theorem Inv.b1T {X:Cx}{pins:List (Addr×Obj)}{σ:St}{H H':Hp}{s:Shared}{b:Addr}(I:Inv X pins σ H s)(hb:s.heap.objs.size≤b)(hn:H' b=none):a4w X pins H' b:=by
 refine ⟨hn,Nat.ne_of_gt (Nat.lt_of_lt_of_le I.lt hb),I.b57 hb,.inr (Nat.le_trans I.sz hb),fun x c e z=>?_,fun p hp z=>?_⟩
 ·obtain ⟨v,q⟩:=I.cell x c e
  exact absurd (Nat.lt_of_lt_of_le q.lt (by rw [z]; exact hb)) (Nat.lt_irrefl _)
 ·exact absurd (Nat.lt_of_lt_of_le (Heap.lt_size (I.pin p hp).1) (by rw [z]; exact hb)) (Nat.lt_irrefl _)
structure Turn (P:Program) (w:World) (K:PySem.W.Frag) (tg:Expr) (J:It) (fp:List Addr) (it:Addr) (tn:Nat→Heap→Prop):Prop where
 mem:it∈fp
 obj:∀ i h,tn i h→∀ b∈fp,∃ o,h.get? b=some o∧∀ v,o.data≠.cell v
 keep:∀ i h h',tn i h→(∀ b∈fp,∀ o,h.get? b=some o→h'.get? b=some o)→tn i h'
 item:∀ (X:Cx),X.prog=P→X.w=w→X.K=K→X.calm=true→∀ (i:Nat) (pins:List (Addr×Obj)) (s:Shared) (σ:St) (H:Hp) (E:Value→Shared→Prop),Inv X pins σ H s→(∀ b∈fp,a4w X pins H b)→tn i s.heap→J.go i H→
  wpAny (model P w) X.A (pyNext (.ref it)) (fun r s1=>∃ u,r=some u∧
   wpAny (model P w) X.A (letOwnedTupleGo tg (.ref it) u) (fun _ s2=>∃ x H',Inv X pins σ H' s2∧RelV x u∧J.yld i H x H'∧tn (i + 1) s2.heap∧∀ b∈fp,H' b=none) E s1) E s
 done:∀ (X:Cx),X.prog=P→X.w=w→X.K=K→X.calm=true→∀ (i:Nat) (pins:List (Addr×Obj)) (s:Shared) (σ:St) (H:Hp) (E:Value→Shared→Prop),Inv X pins σ H s→(∀ b∈fp,a4w X pins H b)→tn i s.heap→J.stop i H→
  wpAny (model P w) X.A (pyNext (.ref it)) (fun r s1=>r=none∧Inv X pins σ H s1) E s
 self:∀ (A:Around) (i:Nat) (s:Shared) (Q:Value→Shared→Prop) (E:Value→Shared→Prop),tn i s.heap→Q (.ref it) s→wpAny (model P w) A (pyIter (.ref it)) Q E s
noncomputable abbrev TI:=St→Hp→(It→Hp→Prop)→Prop
noncomputable def PIE (X:Cx)(pins:List (Addr×Obj))(σ:St)(tg:Expr)(R:It→Hp→Prop)(itv:Value)(s2:Shared):Prop:=
 ∃ (it:Addr) (fp:List Addr) (tn:Nat→Heap→Prop) (J:It) (H':Hp),itv=.ref it∧Inv X pins σ H' s2∧Turn X.prog X.w X.K tg J fp it tn∧tn 0 s2.heap∧(∀ b∈fp,a4w X pins H' b)∧R J H'
noncomputable def PI (X:Cx)(tg iter:Expr)(wi:TI):Prop:=
 ∀ (pins:List (Addr×Obj)) (s:Shared) (σ:St) (H:Hp) (R:It→Hp→Prop),Inv X pins σ H s→wi σ H R→
  wpAny (model X.prog X.w) X.A (eval iter X.env) (fun v s1=>wpAny (model X.prog X.w) X.A (pyIter v) (PIE X pins σ tg R) X.xe s1) X.xe s
theorem a4o {M:Model}{A:Around}{E:Value→Shared→Prop}{s:Shared}{tg:Expr}{it:Addr}{u:Value}{o:Obj}{n:String}{vs:Array Value}{Q:Unit→Shared→Prop}(ho:s.heap.get? it=some o)(hc:o.cls=.type n)(hd:o.data=.fields vs)
    (hn:["enumerate","zip","dict_itemiterator","dict_reverseitemiterator","odict_iterator","itertools.zip_longest","itertools.pairwise"].contains n=false) (hQ:Q () s):wpAny M A (letOwnedTupleGo tg (.ref it) u) Q E s:=by
  unfold letOwnedTupleGo
  cases tg <;> first
    | exact wpAny_pure hQ
    | (cases u <;> first
        | exact wpAny_pure hQ
        | (refine wpAny_bind (wpAny_load ho ?_)
           rw [hc,hd]
           show wpAny M A (if (["enumerate","zip","dict_itemiterator","dict_reverseitemiterator","odict_iterator","itertools.zip_longest","itertools.pairwise"].contains n && vs[0]? == some (rawInt _))=true then _ else _) Q E s
           rw [if_neg (by intro h; rw [hn,Bool.false_and] at h; cases h)]
           exact wpAny_pure hQ))
noncomputable def Itl (K:PySem.W.Frag)(a:Addr):It:=
 ⟨fun i H=>∃ xs x,L8 K H a xs∧xs[i]?=some x,fun i H x H'=>H'=H∧∀ xs,L8 K H a xs→xs[i]?=some x,fun i H=>∃ xs,L8 K H a xs∧xs.length≤i⟩
noncomputable def Itt (K:PySem.W.Frag)(a:Addr):It:=
 ⟨fun i H=>∃ xs x,W5 K H a xs∧xs[i]?=some x,fun i H x H'=>H'=H∧∀ xs,W5 K H a xs→xs[i]?=some x,fun i H=>∃ xs,W5 K H a xs∧xs.length≤i⟩
noncomputable def Itr (lo:Int)(n:Nat):It:=⟨fun i _=>i < n,fun i H x H'=>H'=H∧x=.int (lo + i),fun i _=>n≤i⟩
theorem b0m {P:Program}{w:World}{K:PySem.W.Frag}{tg:Expr}(a it:Addr):Turn P w K tg (Itl K a) [it] it (fun i h=>h.IsListIter it a i) where
 mem:=by simp
 obj:=fun i h st b hb=>by
  have e:b=it:=by simpa using hb
  subst e
  obtain ⟨o,e,c,d⟩:=st
  exact ⟨o,e,fun v z=>by rw [d] at z; cases z⟩
 keep:=fun i h h' st k=>st.at fun o e=>k it (by simp) o e
 item:=by
  intro X hP hw hK hc i pins s σ H E I hf st hg
  subst hP hw hK
  obtain ⟨xs,x,hq,hx⟩:=hg
  obtain ⟨its,rv,p,hz⟩:=I.list hq
  obtain ⟨u,hu,ru⟩:=rv.get hx
  obtain ⟨f0,f1,f2,f3,f4,f5⟩:=hf it (by simp)
  refine wpAny_pyNext_list_item st p.isList (x:=u) (by simpa using hu) fun h' st' sb=>?_
  have I1:Inv X pins σ H { s with heap:=h' }:=I.turned (t':=s.toks) (fun b o hb e=>(sb.2 b hb).trans e) f0 f1 f3 f4 f5
  obtain ⟨o,e,c,d⟩:=id st'
  exact ⟨u,rfl,a4o (s:={ s with heap:=h' }) e c d (by decide) ⟨x,H,I1,ru,⟨rfl,fun ys hy=>by rw [I.a2u hy hq]; exact hx⟩,st',fun b hb=>(hf b hb).1⟩⟩
 done:=by
  intro X hP hw hK hc i pins s σ H E I hf st hg
  subst hP hw hK
  obtain ⟨xs,hq,hx⟩:=hg
  obtain ⟨its,rv,p,hz⟩:=I.list hq
  obtain ⟨f0,f1,f2,f3,f4,f5⟩:=hf it (by simp)
  have hl:=rv.length
  exact wpAny_pyNext_list_end (I.ok.hd hc) st p.isList (by simp; omega) fun h' eb=>⟨rfl,I.turned (t':=s.toks) (fun b o hb e=>eb b o hb e) f0 f1 f3 f4 f5⟩
 self:=fun _ _ _ _ _ st h=>wpAny_pyIter_listiter st h
theorem a8D {P:Program}{w:World}{K:PySem.W.Frag}{tg:Expr}(a it:Addr):Turn P w K tg (Itt K a) [it] it (fun i h=>h.IsTupleIter it a i) where
 mem:=by simp
 obj:=fun i h st b hb=>by
  have e:b=it:=by simpa using hb
  subst e
  obtain ⟨o,e,c,d⟩:=st
  exact ⟨o,e,fun v z=>by rw [d] at z; cases z⟩
 keep:=fun i h h' st k=>st.at fun o e=>k it (by simp) o e
 item:=by
  intro X hP hw hK hc i pins s σ H E I hf st hg
  subst hP hw hK
  obtain ⟨xs,x,hq,hx⟩:=hg
  obtain ⟨its,rv,p,hz⟩:=I.tuple hq
  obtain ⟨u,hu,ru⟩:=rv.get hx
  obtain ⟨f0,f1,f2,f3,f4,f5⟩:=hf it (by simp)
  refine wpAny_pyNext_tuple_item st (show s.heap.IsTuple a its.toArray from p) (x:=u) (by simpa using hu) fun h' st' sb=>?_
  have I1:Inv X pins σ H { s with heap:=h' }:=I.turned (t':=s.toks) (fun b o hb e=>(sb.2 b hb).trans e) f0 f1 f3 f4 f5
  obtain ⟨o,e,c,d⟩:=id st'
  exact ⟨u,rfl,a4o (s:={ s with heap:=h' }) e c d (by decide) ⟨x,H,I1,ru,⟨rfl,fun ys hy=>by rw [I.a2R hy hq]; exact hx⟩,st',fun b hb=>(hf b hb).1⟩⟩
 done:=by
  intro X hP hw hK hc i pins s σ H E I hf st hg
  subst hP hw hK
  obtain ⟨xs,hq,hx⟩:=hg
  obtain ⟨its,rv,p,hz⟩:=I.tuple hq
  obtain ⟨f0,f1,f2,f3,f4,f5⟩:=hf it (by simp)
  have hl:=rv.length
  exact wpAny_pyNext_tuple_end (I.ok.hd hc) st (show s.heap.IsTuple a its.toArray from p) (by simp; omega) fun h' eb=>⟨rfl,I.turned (t':=s.toks) (fun b o hb e=>eb b o hb e) f0 f1 f3 f4 f5⟩
 self:=fun _ _ _ _ _ st h=>wpAny_pyIter_tupleiter st h
theorem a8s {P:Program}{w:World}{K:PySem.W.Frag}{tg:Expr}(it:Addr)(lo:Int)(n:Nat):Turn P w K tg (Itr lo n) [it] it (fun i h=>IsRangeIter h it (lo + (i:Nat) * 1) ((n:Int) - (i:Nat)) 1) where
 mem:=by simp
 obj:=fun i h st b hb=>by
  have e:b=it:=by simpa using hb
  subst e
  exact ⟨_,st,fun v z=>by
   have z':Data.fields _=Data.cell v:=z
   cases z'⟩
 keep:=fun i h h' st k=>k it (by simp) _ st
 item:=by
  intro X hP hw hK hc i pins s σ H E I hf st hg
  subst hP hw hK
  obtain ⟨f0,f1,f2,f3,f4,f5⟩:=hf it (by simp)
  have W:=Walks.range (prog:=X.prog) (w:=X.w) (I.ok.hd hc) it lo 1 n
  refine W.item i s _ _ hg st fun v h' tk hv st' kk=>?_
  obtain ⟨t,rfl⟩:=hv
  have I1:Inv X pins σ H { s with heap:=h',toks:=tk }:=I.turned (fun b o hb e=>kk b o (by simpa using hb) e) f0 f1 f3 f4 f5
  refine ⟨_,rfl,a4o (s:={ s with heap:=h',toks:=tk }) (n:="range_iterator") st' rfl rfl (by decide) ⟨.int (lo + i),H,I1,⟨t,?_⟩,⟨rfl,rfl⟩,st',fun b hb=>(hf b hb).1⟩⟩
  rw [Int.mul_one]
 done:=by
  intro X hP hw hK hc i pins s σ H E I hf st hg
  subst hP hw hK
  obtain ⟨f0,f1,f2,f3,f4,f5⟩:=hf it (by simp)
  exact wpAny_pyNext_range_end (I.ok.hd hc) st (by have:n≤i:=hg; omega) fun h' eb=>⟨rfl,I.turned (t':=s.toks) (fun b o hb e=>eb b o hb e) f0 f1 f3 f4 f5⟩
 self:=fun _ _ _ _ _ st h=>wpAny_pyIter_rangeiter st h
end L2
namespace L2
open PySem PySem.Spec PyProof.Rows
section
variable {X:Cx}{tg:Expr}
theorem a7m {pins:List (Addr×Obj)}{σ:St}{H:Hp}{s:Shared}{R:It→Hp→Prop}{E:Value→Shared→Prop}{lo hi:Int}{t u v:Tok}{tk:Nat}(I:Inv X pins σ H s)(h1:-(2 ^ 62)≤lo)(h2:lo < 2 ^ 62)(h3:-(2 ^ 62)≤hi)(h4:hi < 2 ^ 62)
  (q:R (Itr lo (hi - lo).toNat) H):wpAny (model X.prog X.w) X.A (pyIter (.ref s.heap.objs.size)) (PIE X pins σ tg R) E { s with heap:=s.heap.push { cls:=.type "range",data:=.fields #[.int lo t,.int hi u,.int 1 v] },toks:=tk }:=by
 refine wpAny_pyIter_range (IsRange.new ..) (small_one h1 h2 h3 h4) ?_
 have I1:Inv X pins σ H { s with heap:=s.heap.push { cls:=.type "range",data:=.fields #[.int lo t,.int hi u,.int 1 v] },toks:=tk }:=I.kept fun b o e=>Heap.get?_push_of_some _ e
 refine ⟨(s.heap.push { cls:=.type "range",data:=.fields #[.int lo t,.int hi u,.int 1 v] }).objs.size,[(s.heap.push { cls:=.type "range",data:=.fields #[.int lo t,.int hi u,.int 1 v] }).objs.size],_,_,H,rfl,
  I1.kept (t':=tk) fun b o e=>Heap.get?_push_of_some _ e,a8s _ lo (hi - lo).toNat,?_,fun b hb=>?_,q⟩
 ·have e1:lo + ((0:Nat):Int) * 1=lo:=by simp
  have e2:(((hi - lo).toNat:Nat):Int) - ((0:Nat):Int)=Builtin.Range.rangeSize lo hi 1:=by rw [rangeSize_one]; split <;> omega
  show IsRangeIter _ _ (lo + ((0:Nat):Int) * 1) ((((hi - lo).toNat:Nat):Int) - ((0:Nat):Int)) 1
  rw [e1,e2]
  exact Heap.get?_push_size _ rfl
 ·have e:b=(s.heap.push { cls:=.type "range",data:=.fields #[.int lo t,.int hi u,.int 1 v] }).objs.size:=by simpa using hb
  subst e
  exact I1.b1T (Nat.le_refl _) (I1.hok.fresh (Nat.le_refl _))
noncomputable def b6x (ta:TA):TI:=fun σ H R=>ta σ H fun vs H1=>∃ j:Int,vs=[.int j]∧-(2 ^ 62)≤j∧j < 2 ^ 62∧R (Itr 0 j.toNat) H1
noncomputable def b7i (ta:TA):TI:=fun σ H R=>ta σ H fun vs H1=>∃ i j:Int,vs=[.int i,.int j]∧(-(2 ^ 62)≤i∧i < 2 ^ 62∧-(2 ^ 62)≤j∧j < 2 ^ 62)∧R (Itr i (j - i).toNat) H1
theorem a96 {a:Expr}{ta:TA}{p pos:Pos}(hg:Gl X "range") (hm:X.mg "range"=none) (ha:PA X [a] ta) (hs:starEach [a] X.env=[(false,eval a X.env)]:=by rfl):PI X tg (.Call (.Name "range" p) [a] [] pos) (b6x ta):=by
 intro pins s σ H R I h
 refine Call_ (X5 I hg hm boot_range (PyProof.Rows.callWith_type1 (L7 (ha pos pins s σ H _ I h) fun us s1 ⟨vs,H1,I1,r1,q1⟩=>?_) hs rfl))
 obtain ⟨j,e,q1,q2,q⟩:=q1
 subst e
 cases r1 with
 | cons r rr=>
  cases rr
  obtain ⟨t,rfl⟩:=r
  exact call_range_1 (a7m I1 (by omega) (by omega) q1 q2 (by simpa using q))
theorem a9V {a b:Expr}{ta:TA}{p pos:Pos}(hg:Gl X "range") (hm:X.mg "range"=none) (ha:PA X [a,b] ta) (hs:starEach [a,b] X.env=[(false,eval a X.env),(false,eval b X.env)]:=by rfl) (hs2:starEach [b] X.env=[(false,eval b X.env)]:=by rfl):
  PI X tg (.Call (.Name "range" p) [a,b] [] pos) (b7i ta):=by
 intro pins s σ H R I h
 refine Call_ (X5 I hg hm boot_range (PyProof.Rows.callWith_type1 (L7 (ha pos pins s σ H _ I h) fun us s1 ⟨vs,H1,I1,r1,q1⟩=>?_) (by rw [hs,hs2]) (by rw [hs2]; rfl)))
 obtain ⟨i,j,e,⟨q1,q2,q3,q4⟩,q⟩:=q1
 subst e
 cases r1 with
 | cons r rr=>
  cases rr with
  | cons r' rr=>
   cases rr
   obtain ⟨t,rfl⟩:=r
   obtain ⟨t',rfl⟩:=r'
   exact call_range_2 (a7m I1 q1 q2 q3 q4 q)
noncomputable def b78 (wi:TI)(g:TG)(tb:TS):TS:=fun D σ H=>wi σ H fun J H1=>∃ W:Nat→Nat→St→Hp→Prop,(∃ m,W 0 m σ H1)∧∀ i m σ H,W i m σ H→
 (J.stop i H∧D.nx σ H)∨(J.go i H∧∃ N:St→Hp→Prop,(∀ σ' H',N σ' H'→∃ m',m' < m∧W (i + 1) m' σ' H')∧∀ x H',J.yld i H x H'→g x σ H' fun σ2 H2=>tb { D with nx:=N,ct:=N,bk:=D.nx } σ2 H2)
noncomputable def a4c (fp:List Addr)(h:Heap):List (Addr×Obj):=fp.filterMap fun b=>(h.get? b).map fun o=>(b,o)
theorem a0e {fp:List Addr}{h:Heap}{b:Addr}{o:Obj}(hb:b∈fp)(e:h.get? b=some o):(b,o)∈a4c fp h:=List.mem_filterMap.mpr ⟨b,hb,by rw [e]; rfl⟩
theorem b0o {fp:List Addr}{h:Heap}{p:Addr×Obj}(hp:p∈a4c fp h):p.1∈fp∧h.get? p.1=some p.2:=by
 obtain ⟨b,hb,e⟩:=List.mem_filterMap.mp hp
 cases q:h.get? b with
 | none=>rw [q] at e; cases e
 | some o=>
  rw [q] at e
  have e':(b,o)=p:=Option.some.inj e
  subst e'
  exact ⟨hb,q⟩
theorem Inv.pinned {pins:List (Addr×Obj)}{σ:St}{H:Hp}{s:Shared}{fp:List Addr}(I:Inv X pins σ H s)(hf:∀ b∈fp,a4w X pins H b)(ho:∀ b∈fp,∃ o,s.heap.get? b=some o∧∀ v,o.data≠.cell v):Inv X (pins++a4c fp s.heap) σ H s:=
 I.a18 fun p hp=>(List.mem_append.mp hp).elim (fun z=>I.pin p (List.mem_append_right _ z)) fun z=>by
  obtain ⟨hb,e⟩:=b0o z
  obtain ⟨f0,f1,f2,_⟩:=hf p.1 hb
  obtain ⟨o,e',d⟩:=ho p.1 hb
  rw [e] at e'; cases e'
  exact ⟨e,f0,f1,f2,d⟩
theorem Inv.a2e {pins pl:List (Addr×Obj)}{σ:St}{H:Hp}{s:Shared}(I:Inv X (pins++pl) σ H s):Inv X pins σ H s:=I.a18 fun p hp=>I.pin p (List.mem_append_right _ (List.mem_append_left _ hp))
theorem b48 {iter:Expr}{body:List Stmt}{wi:TI}{g:TG}{tb:TS}{pos:Pos}(hp:PassesOwn (model X.prog X.w) X.A X.env X.xe)(hc:X.calm=true)(hi:PI X tg iter wi)(hg:PG X tg g)(hb:PSs X body tb)
  (hs:∀ x,foldedSetIterable iter X.env x=pure x:=by intro _; rfl):PS X (.For tg iter body [] pos) (b78 wi g tb):=by
 intro pins s σ H D I h
 refine wpAny_For (L7 (hi pins s σ H _ I h) fun v s1 h1=>L7 h1 fun itv s2 h2=>?_) hs
 obtain ⟨it,fp,tn,J,H2,e,I2,T,st2,f2,W,⟨m0,w0⟩,turn⟩:=h2
 subst e
 
 have stat:∀ {H':Hp},(∀ b∈fp,H' b=none)→∀ b∈fp,a4w X pins H' b:=fun hn b hb=>⟨hn b hb,(f2 b hb).2⟩
 refine codeAny_forLoop_any (fun n s'=>∃ i σ' H',Inv X pins σ' H' s'∧tn i s'.heap∧(∀ b∈fp,H' b=none)∧W i n σ' H') ?_ m0 ⟨0,σ,H2,I2,st2,fun b hb=>(f2 b hb).1,w0⟩
 rintro n s3 ⟨i,σ3,H3,I3,st3,fr3,w3⟩
 rcases turn i n σ3 H3 w3 with ⟨stop,qn⟩ | ⟨go,N,hN,step⟩
 ·refine wpAny_passesOwn hp (L7 (T.done X rfl rfl rfl hc i pins s3 σ3 H3 X.xe I3 (stat fr3) st3 stop) fun r s4 ⟨hr,I4⟩=>?_)
  subst hr
  exact wpAny_execs_nil ⟨σ3,H3,I4,qn⟩
 ·refine wpAny_passesOwn hp (L7 (T.item X rfl rfl rfl hc i pins s3 σ3 H3 X.xe I3 (stat fr3) st3 go) fun r s4 ⟨u,hr,h4⟩=>?_)
  subst hr
  refine wpAny_passesOwn hp (L7 h4 fun _ s5 ⟨x,H5,I5,r5,y5,st5,fr5⟩=>?_)
  have I5':=I5.pinned (stat fr5) (T.obj _ _ st5)
  refine wpAny_passesOwn hp (L7 (hg _ s5 σ3 H5 x u _ I5' r5 (step x H5 y5)) fun _ s6 ⟨σ6,H6,I6,q6⟩=>?_)
  refine wpAny_passesOwn hp (L7 (hb _ s6 σ6 H6 _ I6 q6) fun f s7 q7=>?_)
  have again:∀ {σ7:St} {H7:Hp},Inv X (pins++a4c fp s5.heap) σ7 H7 s7→N σ7 H7→∃ m,m < n∧∃ i σ' H',Inv X pins σ' H' s7∧tn i s7.heap∧(∀ b∈fp,H' b=none)∧W i m σ' H':=fun {σ7 H7} I7 n7=>by
   obtain ⟨m',hm,w7⟩:=hN σ7 H7 n7
   refine ⟨m',hm,i + 1,σ7,H7,I7.a2e,T.keep _ _ _ st5 fun b hb o e=>(I7.pin (b,o) (List.mem_append_right _ (List.mem_append_right _ (a0e hb e)))).1,fun b hb=>?_,w7⟩
   obtain ⟨o,e,d⟩:=T.obj _ _ st5 b hb
   exact (I7.pin (b,o) (List.mem_append_right _ (List.mem_append_right _ (a0e hb e)))).2.1
  cases f with
  | next=>obtain ⟨σ7,H7,I7,n7⟩:=q7; exact again I7 n7
  | cont=>obtain ⟨σ7,H7,I7,n7⟩:=q7; exact again I7 n7
  | brk=>obtain ⟨σ7,H7,I7,q7⟩:=q7; exact ⟨σ7,H7,I7.a2e,q7⟩
  | ret v=>obtain ⟨x7,σ7,H7,I7,r7,q7⟩:=q7; exact ⟨x7,σ7,H7,I7.a2e,r7,q7⟩
end
end L2
namespace L2
open PySem PySem.Spec PyProof.Rows
noncomputable abbrev R2:=V→V→Hp→VK→Prop
noncomputable def OpR (X:Cx)(f:Value→Value→Sem Value)(r:R2):Prop:=
 ∀ (pins:List (Addr×Obj)) (s:Shared) (σ:St) (H:Hp) (x y:V) (v u:Value) (Q:VK),Inv X pins σ H s→RelV x v→RelV y u→r x y H Q→
  wpAny (model X.prog X.w) X.A (f v u) (EP X pins σ Q) X.xe s
noncomputable def UnR (X:Cx)(f:Value→Sem Value)(r:V→Hp→VK→Prop):Prop:=
 ∀ (pins:List (Addr×Obj)) (s:Shared) (σ:St) (H:Hp) (x:V) (v:Value) (Q:VK),Inv X pins σ H s→RelV x v→r x H Q→
  wpAny (model X.prog X.w) X.A (f v) (EP X pins σ Q) X.xe s
noncomputable def K3 (X:Cx)(f:Value)(r:List V→Hp→VK→Prop):Prop:=
 ∀ (pins:List (Addr×Obj)) (s:Shared) (σ:St) (H:Hp) (xs:List V) (us:List Value) (Q:VK),Inv X pins σ H s→Vals xs us→r xs H Q→
  wpAny (model X.prog X.w) X.A (call f us) (EP X pins σ Q) X.xe s
noncomputable def b7Q (X:Cx)(r:V→Hp→(Bool→Hp→Prop)→Prop):Prop:=
 ∀ (pins:List (Addr×Obj)) (s:Shared) (σ:St) (H:Hp) (x:V) (v:Value) (Q:Bool→Hp→Prop),Inv X pins σ H s→RelV x v→r x H Q→
  wpAny (model X.prog X.w) X.A (truthy v) (TP X pins σ Q) X.xe s
noncomputable def tOp (r:R2)(ta tb:TE):TE:=fun σ H Q=>ta σ H fun x H1=>tb σ H1 fun y H2=>r x y H2 Q
noncomputable def tUn (r:V→Hp→VK→Prop)(ta:TE):TE:=fun σ H Q=>ta σ H fun x H1=>r x H1 Q
noncomputable def rI (C:Int→Int→Prop)(g:Int→Int→V):R2:=fun x y H Q=>∃ i j,x=.int i∧y=.int j∧C i j∧Q (g i j) H
noncomputable def rI0 (g:Int→Int→V):R2:=fun x y H Q=>∃ i j,x=.int i∧y=.int j∧Q (g i j) H
noncomputable def rU (g:Int→V):V→Hp→VK→Prop:=fun x H Q=>∃ i,x=.int i∧Q (g i) H
section
variable {X:Cx}{a b c:Expr}{ta tb tc:TE}{pos:Pos}
theorem b5p (ha:PE X a ta)(hb:PE X b tb){pins:List (Addr×Obj)}{s:Shared}{σ:St}{H:Hp}{R:V→V→Hp→Prop}(I:Inv X pins σ H s)
  (h:ta σ H fun x H1=>tb σ H1 fun y H2=>R x y H2) {Q:Value→Shared→Prop} {f:Value→Value→Sem Value}
  (hf:∀ v u s2 x y H2,Inv X pins σ H2 s2→RelV x v→RelV y u→R x y H2→wpAny (model X.prog X.w) X.A (f v u) Q X.xe s2):
  wpAny (model X.prog X.w) X.A (eval a X.env) (fun v s₁=>wpAny (model X.prog X.w) X.A (eval b X.env) (fun u s₂=>wpAny (model X.prog X.w) X.A (f v u) Q X.xe s₂) X.xe s₁) X.xe s:=by
 refine L7 (ha pins s σ H _ I h) fun v s1 ⟨x,H1,I1,r1,q1⟩=>?_
 refine L7 (hb pins s1 σ H1 _ I1 q1) fun u s2 ⟨y,H2,I2,r2,q2⟩=>?_
 exact hf v u s2 x y H2 I2 r1 r2 q2
theorem b7p {op:Operator}{r:R2}(ho:OpR X (binaryOp op) r)(ha:PE X a ta)(hb:PE X b tb):PE X (.BinOp a op b pos) (tOp r ta tb):=by
 intro pins s σ H Q I h
 exact wpAny_BinOp (b5p ha hb I h fun v u s2 x y H2 I2 rx ry q=>ho pins s2 σ H2 x y v u Q I2 rx ry q)
theorem b6m {op:UnaryOp}{r:V→Hp→VK→Prop}(ho:UnR X (unaryOp op) r)(ha:PE X a ta):PE X (.UnaryOp op a pos) (tUn r ta):=by
 intro pins s σ H Q I h
 exact UnaryOp_ (L7 (ha pins s σ H _ I h) fun v s1 ⟨x,H1,I1,r1,q1⟩=>ho pins s1 σ H1 x v Q I1 r1 q1)
theorem opI {f:Value→Value→Sem Value}{C:Int→Int→Prop}{g:Int→Int→Int}
  (rule:∀ (i j:Int) (t u:Tok) (s:Shared) (Q:Value→Shared→Prop) (E:Value→Shared→Prop),C i j→Q (.int (g i j) s.toks) { s with toks:=s.toks + 1 }→wpAny (model X.prog X.w) X.A (f (.int i t) (.int j u)) Q E s):
  OpR X f (rI C fun i j=>.int (g i j)):=by
 intro pins s σ H x y v u Q I rx ry h
 obtain ⟨i,j,rfl,rfl,hc,q⟩:=h
 obtain ⟨t,rfl⟩:=rx
 obtain ⟨t',rfl⟩:=ry
 exact rule i j t t' s _ _ hc ⟨.int (g i j),H,I.tok _,⟨_,rfl⟩,q⟩
theorem b61 {f:Value→Value→Sem Value}{g:Int→Int→Int}
  (rule:∀ (i j:Int) (t u:Tok) (s:Shared) (Q:Value→Shared→Prop) (E:Value→Shared→Prop),Q (.int (g i j) s.toks) { s with toks:=s.toks + 1 }→wpAny (model X.prog X.w) X.A (f (.int i t) (.int j u)) Q E s):
  OpR X f (rI0 fun i j=>.int (g i j)):=by
 intro pins s σ H x y v u Q I rx ry h
 obtain ⟨i,j,rfl,rfl,q⟩:=h
 obtain ⟨t,rfl⟩:=rx
 obtain ⟨t',rfl⟩:=ry
 exact rule i j t t' s _ _ ⟨.int (g i j),H,I.tok _,⟨_,rfl⟩,q⟩
theorem b5L {f:Value→Value→Sem Value}{g:Int→Int→Bool}
  (rule:∀ (i j:Int) (t u:Tok) (s:Shared) (Q:Value→Shared→Prop) (E:Value→Shared→Prop),Q (.bool (g i j)) s→wpAny (model X.prog X.w) X.A (f (.int i t) (.int j u)) Q E s):
  OpR X f (rI0 fun i j=>.bl (g i j)):=by
 intro pins s σ H x y v u Q I rx ry h
 obtain ⟨i,j,rfl,rfl,q⟩:=h
 obtain ⟨t,rfl⟩:=rx
 obtain ⟨t',rfl⟩:=ry
 exact rule i j t t' s _ _ ⟨.bl (g i j),H,I,rfl,q⟩
noncomputable def a95 (i j:Int):Prop:=0 < j∧j < 1073741824
noncomputable def b6z (i j:Int):Prop:=0≤j∧j≤1000000∧i.natAbs < 2 ^ 64
noncomputable def a6Z (i j:Int):Prop:=(-(2 ^ 64) < i∧i < 2 ^ 64)∨(-(2 ^ 64) < j∧j < 2 ^ 64)
theorem a6Z.ok {i j:Int}(h:a6Z i j):IntMulOk i j:=by
 rcases h with ⟨h1,h2⟩ | ⟨h1,h2⟩
 ·exact .of_left (intBits_le_64 h1 h2)
 ·exact .of_right (intBits_le_64 h1 h2)
theorem b5J:OpR X (binaryOp .Add) (rI0 fun i j=>.int (i + j)):=b61 fun _ _ _ _ _ _ _ q=>add_int q
theorem b4H:OpR X (binaryOp .Sub) (rI0 fun i j=>.int (i - j)):=b61 fun _ _ _ _ _ _ _ q=>sub_int q
theorem b5d:OpR X (binaryOp .Mult) (rI a6Z fun i j=>.int (i * j)):=opI fun _ _ _ _ _ _ _ hc q=>mul_int q hc.ok
theorem b25:OpR X (binaryOp .FloorDiv) (rI a95 fun i j=>.int (i / j)):=opI fun i j _ _ _ _ _ hc q=>by
 have h1:(0:Int) < j:=hc.1
 have h2:j < 1073741824:=hc.2
 exact floordiv_int (by omega) (by rw [Int.fdiv_eq_ediv_of_nonneg i (by omega)]; exact q) (.inl (PyProof.noPylong_small (by omega)))
theorem b47:OpR X (binaryOp .Mod) (rI (fun _ j=>0 < j) fun i j=>.int (i % j)):=opI fun i j _ _ _ _ _ hc q=>by
 have h1:(0:Int) < j:=hc
 exact mod_int' (by omega) (by rw [Int.fmod_eq_emod_of_nonneg i (by omega)]; exact q)
theorem unI {f:Value→Sem Value}{g:Int→Int}
  (rule:∀ (i:Int) (t:Tok) (s:Shared) (Q:Value→Shared→Prop) (E:Value→Shared→Prop),Q (.int (g i) s.toks) { s with toks:=s.toks + 1 }→wpAny (model X.prog X.w) X.A (f (.int i t)) Q E s):
  UnR X f (rU fun i=>.int (g i)):=by
 intro pins s σ H x v Q I rx h
 obtain ⟨i,rfl,q⟩:=h
 obtain ⟨t,rfl⟩:=rx
 exact rule i t s _ _ ⟨.int (g i),H,I.tok _,⟨_,rfl⟩,q⟩
theorem b4O:UnR X (unaryOp .USub) (rU fun i=>.int (-i)):=unI fun _ _ _ _ _ q=>neg_int q
end
section
variable {X:Cx}{a b c:Expr}{ta tb tc:TE}{pos:Pos}
theorem a1O {pins:List (Addr×Obj)}{σ:St}{H:Hp}{s:Shared}{Q:VK}{k k':Bool}(I:Inv X pins σ H s)(q:Q (.bl k) H)(e:k=k'):EP X pins σ Q (.bool k') s:=by
 subst e
 exact ⟨.bl k,H,I,rfl,q⟩
theorem b6P:OpR X (compareOp .Lt) (rI0 fun i j=>.bl (decide (i < j))):=b5L fun _ _ _ _ _ _ _ q=>lt_int q
theorem b7n:OpR X (compareOp .LtE) (rI0 fun i j=>.bl (decide (i≤j))):=b5L fun _ _ _ _ _ _ _ q=>le_int q
theorem b4B:OpR X (compareOp .Gt) (rI0 fun i j=>.bl (decide (j < i))):=b5L fun _ _ _ _ _ _ _ q=>gt_int q
theorem a5n:OpR X (compareOp .In) (fun x y H Q=>∃ i j,x=.str i∧y=.str j∧Q (.bl (!(Builtin.Str.occurrences j i 0 j.length 1).isEmpty)) H):=by
 intro pins s σ H x y v u Q I rx ry h
 obtain ⟨i,j,rfl,rfl,q⟩:=h
 obtain ⟨t,rfl⟩:=rx
 obtain ⟨t',rfl⟩:=ry
 exact in_str (a1O I q rfl)
theorem OpR.or {f:Value→Value→Sem Value}{r r':R2}(h:OpR X f r)(h':OpR X f r'):OpR X f (fun x y H Q=>r x y H Q∨r' x y H Q):=by
 intro pins s σ H x y v u Q I rx ry q
 rcases q with q | q
 ·exact h pins s σ H x y v u Q I rx ry q
 ·exact h' pins s σ H x y v u Q I rx ry q
theorem a1J (b:Expr){op:CmpOp}(h:op≠.In:=by decide)(h2:op≠.NotIn:=by decide):behindInMarks op b=false:=by
 have e1:(op == CmpOp.In)=false:=by cases op <;> first | rfl | exact absurd rfl h
 have e2:(op == CmpOp.NotIn)=false:=by cases op <;> first | rfl | exact absurd rfl h2
 cases b <;> simp [behindInMarks,e1,e2]
theorem b3i {op:CmpOp}{r:R2}(ho:OpR X (compareOp op) r)(ha:PE X a ta)(hb:PE X b tb)(hm:behindInMarks op b=false):PE X (.Compare a [op] [b] pos) (tOp r ta tb):=by
 intro pins s σ H Q I h
 exact wpAny_Compare1 (b5p ha hb I h fun v u s2 x y H2 I2 rx ry q=>ho pins s2 σ H2 x y v u Q I2 rx ry q) hm
noncomputable def b6K (t:TE):TT:=fun σ H Q=>t σ H fun x H'=>∃ k,x=.bl k∧Q k H'
theorem b30 {op:CmpOp}{r:R2}(ho:OpR X (compareOp op) r)(ha:PE X a ta)(hb:PE X b tb)(hm:behindInMarks op b=false):PT X (.Compare a [op] [b] pos) (b6K (tOp r ta tb)):=by
 intro pins s σ H Q I h
 refine wpAny_isTrue_Compare1 (L7 (ha pins s σ H _ I h) fun v s1 ⟨x,H1,I1,r1,q1⟩=>L7 (hb pins s1 σ H1 _ I1 q1) fun u s2 ⟨y,H2,I2,r2,q2⟩=>
  L7 (ho pins s2 σ H2 x y v u _ I2 r1 r2 q2) fun c s3 ⟨z,H3,I3,r3,k,e,q3⟩=>?_) hm
 subst e
 cases r3
 exact wpAny_truthy_bool ⟨H3,I3,q3⟩
noncomputable def b4e (K:PySem.W.Frag)(x:V)(H:Hp)(k:Bool):Prop:=
 match x with
 | .A3=>k=false
 | .bl b=>k=b
 | .int i=>k=(i != 0)
 | .str y=>y.length≤sizeLine∧k=((y.length:Int) != 0)
 | .byt y=>y.size≤sizeLine∧k=((y.size:Int) != 0)
 | .ref p=>(∃ xs,L8 K H p xs∧k=!xs.isEmpty)∨(∃ xs,W5 K H p xs∧k=!xs.isEmpty)∨∃ kvs,H p=some (.dK kvs)∧k=!kvs.isEmpty
 | _=>False
theorem a8y {κ:Type}{kvs:List (κ×V)}{vs:List (κ×Value)}(r:KV kvs vs):(!vs.isEmpty)=!kvs.isEmpty:=by
 cases r <;> rfl
theorem a33 {xs:List V}{its:List Value}(r:Vals xs its):(!its.toArray.isEmpty)=!xs.isEmpty:=by
 cases r <;> simp
theorem a1y:(sizeLine:Nat) < 2 ^ 63:=by rw [sizeLine_eq]; decide
theorem b53:b7Q X (fun x H Q=>∃ k,b4e X.K x H k∧Q k H):=by
 intro pins s σ H x v Q I rx h
 obtain ⟨k,e,q⟩:=h
 have hl:=a1y
 have hs:sizeLine=16777216:=sizeLine_eq
 cases x with
 | A3=>
  cases rx
  have e':k=false:=e
  subst e'
  exact truthy_none ⟨H,I,q⟩
 | bl b=>
  cases rx
  have e':k=b:=e
  subst e'
  exact wpAny_truthy_bool ⟨H,I,q⟩
 | int i=>
  obtain ⟨t,rfl⟩:=rx
  have e':k=(i != 0):=e
  subst e'
  exact PySem.P.truthy_int ⟨H,I,q⟩
 | str y=>
  obtain ⟨t,rfl⟩:=rx
  obtain ⟨hy,e'⟩:y.length≤sizeLine∧k=((y.length:Int) != 0):=e
  subst e'
  exact PySem.P.truthy_str (by omega) ⟨H,I.tok _,q⟩
 | byt y=>
  obtain ⟨t,rfl⟩:=rx
  obtain ⟨hy,e'⟩:y.size≤sizeLine∧k=((y.size:Int) != 0):=e
  subst e'
  exact PySem.W.truthy_bytes (by omega) ⟨H,I.tok _,q⟩
 | ref p=>
  cases rx
  have e':(∃ xs,L8 X.K H p xs∧k=!xs.isEmpty)∨(∃ xs,W5 X.K H p xs∧k=!xs.isEmpty)∨∃ kvs,H p=some (.dK kvs)∧k=!kvs.isEmpty:=e
  rcases e' with ⟨xs,hx,e'⟩ | ⟨xs,hx,e'⟩ | ⟨kvs,hx,e'⟩
  ·subst e'
   obtain ⟨its,r,pl,hz⟩:=I.list hx
   have hlen:=r.length
   exact wpAny_truthy_list pl.isList (by simp only [List.size_toArray]; omega) ⟨H,I.tok _,by rw [a33 r]; exact q⟩
  ·subst e'
   obtain ⟨its,r,pl,hz⟩:=I.tuple hx
   have hlen:=r.length
   exact truthy_tuple pl (by simp only [List.size_toArray]; omega) ⟨H,I.tok _,by rw [a33 r]; exact q⟩
  ·subst e'
   obtain ⟨hz,hS,vs,r,m⟩:kvs.length≤sizeLine∧(p == sysModules)=false∧∃ vs,KV kvs vs∧s.heap.DictOf (z5 X.prog X.w) p vs:=I.hok p _ hx
   have hlen:kvs.length=vs.length:=Paired.length r
   exact wpAny_truthy_dict hS m (by omega) ⟨H,I.tok _,by rw [a8y r]; exact q⟩
 | _=>exact (show False from e).elim
theorem b15 (ha:PE X a ta)(he:∀ whole,isTrue a X.env whole=(do let v ← whole; standAt a.pos; holding [v] (truthy v))):
  PT X a (fun σ H Q=>ta σ H fun x H'=>∃ k,b4e X.K x H' k∧Q k H'):=by
 intro pins s σ H Q I h
 exact isTrue_plain (L7 (ha pins s σ H _ I h) fun v s1 ⟨x,H1,I1,r1,q1⟩=>b53 pins s1 σ H1 x v Q I1 r1 q1) (he _)
theorem a8U:OpR X (binaryOp .Add) (fun x y H Q=>∃ i j,x=.str i∧y=.str j∧i.length + j.length≤sizeLine∧Q (.str (i++j)) H):=by
 intro pins s σ H x y v u Q I rx ry h
 obtain ⟨i,j,rfl,rfl,hz,q⟩:=h
 obtain ⟨t,rfl⟩:=rx
 obtain ⟨t',rfl⟩:=ry
 exact add_str (fun t' tk=>⟨.str (i++j),H,I.tok _,⟨_,rfl⟩,q⟩) hz
theorem vals1 {x:V}{us:List Value}(r:Vals [x] us):∃ u,us=[u]∧RelV x u:=by
 cases r with
 | cons r1 r2=>cases r2; exact ⟨_,rfl,r1⟩
theorem vals2 {x y:V}{us:List Value}(r:Vals [x,y] us):∃ u w',us=[u,w']∧RelV x u∧RelV y w':=by
 cases r with
 | cons r1 r2=>
  cases r2 with
  | cons r3 r4=>cases r4; exact ⟨_,_,rfl,r1,r3⟩
theorem b2b:K3 X (.builtin "abs") (fun xs H Q=>∃ i,xs=[.int i]∧Q (.int (if i < 0 then -i else i)) H):=by
 intro pins s σ H xs us Q I r h
 obtain ⟨i,rfl,q⟩:=h
 obtain ⟨u,rfl,t,rfl⟩:=vals1 r
 exact call_abs_int fun u tk=>⟨.int (if i < 0 then -i else i),H,I.tok _,⟨_,rfl⟩,q⟩
end
end L2
namespace L2
open PySem PySem.Spec PyProof.Rows
theorem a1k.some_of {v:V}{o:Option Value}(r:a1k (some v) o):∃ u,o=some u∧RelV v u:=by
 cases o with
 | none=>exact (show False from r).elim
 | some u=>exact ⟨u,rfl,r⟩
theorem a1k.none_of {o:Option Value}(r:a1k none o):o=none:=by
 cases o with
 | none=>rfl
 | some u=>exact (show False from r).elim
section
variable {X:Cx}{pins:List (Addr×Obj)}{σ:St}{H:Hp}{s:Shared}{a C dx:Addr}{fs:List (Str×V)}{f:Str}{v:V}{A:Around}{E:Value→Shared→Prop}
end
end L2
namespace L2
open PySem PySem.Spec PyProof.Rows
structure U5 (k:Nat) (A:Around):Prop where
 hd:A.handled=none
 dp:A.depth + 3 * k + 5 < recursionLimit
 un:A.units + 16 * k + 200 < cLine
theorem U5.mono {j k:Nat}{A:Around}(r:U5 k A)(h:j≤k):U5 j A:=⟨r.hd,by have:=r.dp; omega,by have:=r.un; omega⟩
theorem U5.deeper {k:Nat}{A:Around}(r:U5 (k + 1) A)(env:Env):U5 k (A.deeper env):=
 ⟨r.hd,by have:=r.dp; show A.depth + 1 + 3 * k + 5 < _; omega,by have:=r.un; show A.units + 3 + 16 * k + 200 < _; omega⟩
theorem U5.depth {k:Nat}{A:Around}(r:U5 k A):A.depth < recursionLimit:=by have:=r.dp; omega
theorem U5.units {k:Nat}{A:Around}(r:U5 k A):A.units + 64 < cLine:=by have:=r.un; omega
noncomputable def b7Y:TA:=fun _ H Q=>Q [] H
noncomputable def b66 (ta:TE)(tr:TA):TA:=fun σ H Q=>ta σ H fun x H1=>tr σ H1 fun xs H2=>Q (x::xs) H2
section
variable {X:Cx}{e:Expr}{es:List Expr}{te:TE}{t:TA}{pos:Pos}
theorem b43:PA X [] b7Y:=fun _ _ _ _ H Q I h=>Calls.spliced_nil ⟨[],H,I,.nil,h⟩
theorem b3v (ha:PE X e te)(hr:PA X es t)(hs:starEach (e::es) X.env=(false,eval e X.env)::starEach es X.env:=by rfl):PA X (e::es) (b66 te t):=by
 intro pos pins s σ H Q I h
 rw [hs]
 show wpAny _ _ (spliced ((false,eval e X.env)::backTo pos (starEach es X.env))) _ _ s
 refine Calls.spliced_cons (L7 (ha pins s σ H _ I h) fun u s1 ⟨x,H1,I1,r1,q1⟩=>?_)
 exact L7 (hr pos pins s1 σ H1 _ I1 q1) fun us s2 ⟨xs,H2,I2,r2,q2⟩=>⟨x::xs,H2,I2,.cons r1 r2,q2⟩
noncomputable def b8f (t:TA):TE:=fun σ H Q=>t σ H fun xs H1=>xs.length≤sizeLine∧∀ p,H1 p=none→Q (.ref p) (upd H1 p (.tup xs))
noncomputable def b7H (t:TA):TE:=fun σ H Q=>t σ H fun xs H1=>xs.length≤sizeLine∧∀ p,H1 p=none→Q (.ref p) (upd H1 p (.lst xs))
theorem b56 {x1}(h:PA X es t):PE X (.Tuple es x1 pos) (b8f t):=by
 intro pins s σ H Q I hq
 refine wpAny_Tuple_spliced (L7 (h pos pins s σ H _ I hq) fun us s1 ⟨xs,H1,I1,r,z,q⟩=>⟨by rw [← r.length]; exact z,?_⟩)
 have hf:H1 s1.heap.objs.size=none:=I1.hok.fresh (Nat.le_refl _)
 refine ⟨.ref s1.heap.objs.size,upd H1 s1.heap.objs.size (.tup xs),I1.laid (t':=s1.toks) (fun b u e=>Heap.get?_push_of_some _ e) (Nat.le_refl _) ?_,rfl,q _ hf⟩
 exact ⟨z,us,r,⟨_,Heap.get?_push_size _ rfl,rfl,_,rfl⟩⟩
theorem b46 (h:PA X es t):PE X (.List es pos) (b7H t):=by
 intro pins s σ H Q I hq
 refine wpAny_List_spliced (L7 (h pos pins s σ H _ I hq) fun us s1 ⟨xs,H1,I1,r,z,q⟩=>⟨by rw [← r.length]; exact z,?_⟩)
 have hf:H1 s1.heap.objs.size=none:=I1.hok.fresh (Nat.le_refl _)
 refine ⟨.ref s1.heap.objs.size,upd H1 s1.heap.objs.size (.lst xs),I1.laid (t':=s1.toks) (fun b u e=>Heap.get?_push_of_some _ e) (Nat.le_refl _) ?_,rfl,q _ hf⟩
 exact ⟨z,us,0,r,Heap.get?_push_size _ rfl⟩
end
noncomputable abbrev Sp:=List V→Hp→VK→XK→Prop
noncomputable abbrev CXT:=List Env→Hp→Shared→XK→Value→Shared→Prop
structure b1h (P:Program) (w:World) (K:PySem.W.Frag) (mg:Str→Option Value) (base:Heap) (A:Around) (outer:List Env) (s:Shared) (H:Hp):Prop where
 frames:A.frames=some outer
 mod:Mod K mg base
 bs:∀ b o,base.get? b=some o→s.heap.get? b=some o∧H b=none
 bsz:base.objs.size≤s.heap.objs.size
 a2E:s.heap.FunFrames base outer
 frf:∀ b∈frs outer,H b=none
 hok:HOk P w H s.heap
 bare:AllBare s.gens
noncomputable def CE (outer:List Env)(P:Program)(w:World)(H:Hp)(s:Shared)(Q:VK)(u:Value)(s':Shared):Prop:=
 ∃ v H',s'.os=s.os∧AllBare s'.gens∧Un (frs outer) [] H H' s.heap s'.heap∧HOk P w H' s'.heap∧RelV v u∧Q v H'
noncomputable def CR (CX:CXT)(outer:List Env)(P:Program)(w:World)(H:Hp)(s:Shared)(Q:VK)(E:XK)(r:Result)(s':Shared):Prop:=
 match r with
 | .ok (.ret u)=>CE outer P w H s Q u s'
 | .ok _=>False
 | .error e=>CX outer H s E e s'
structure K5 (P:Program) (w:World) (K:PySem.W.Frag) (mg:Str→Option Value) (base:Heap) (CX:CXT) (k:Nat) (f:Addr) (fd:FuncData) (ps:List Str) (sp:Sp):Prop where
 len:∀ vs H Q E,sp vs H Q E→vs.length=ps.length
 run:∀ (A:Around) (outer:List Env) (s:Shared) (H:Hp) (args:Args) (us:List Value) (vs:List V) (Q:VK) (E:XK),U5 k A→b1h P w K mg base A outer s H→BindsTo s fd args (ps.zip us)→Vals vs us→sp vs H Q E→
  codeAny (model P w) A (.call (.ref f) args) (CR CX outer P w H s Q E) s
theorem K5.imp {P:Program}{w:World}{K:PySem.W.Frag}{mg:Str→Option Value}{base:Heap}{CX:CXT}{k:Nat}{f:Addr}{fd:FuncData}{ps:List Str}{sp sp':Sp}(F:K5 P w K mg base CX k f fd ps sp)
  (h:∀ vs H Q E,sp' vs H Q E→sp vs H Q E):K5 P w K mg base CX k f fd ps sp':=
 ⟨fun vs H Q E q=>F.len vs H Q E (h _ _ _ _ q),fun A outer s H args us vs Q E hr he hb hv hs=>F.run A outer s H args us vs Q E hr he hb hv (h _ _ _ _ hs)⟩
section
variable {X:Cx}{pins:List (Addr×Obj)}{σ:St}{H:Hp}{s s':Shared}
theorem Inv.b7I (I:Inv X pins σ H s):b1h X.prog X.w X.K X.mg X.base X.A X.stack s H:=
 ⟨I.ok.frames,I.ok.mod,I.bs,Nat.le_trans I.ok.bsz I.sz,I.stack,I.a9c,I.hok,I.bare⟩
theorem Inv.after {Q:VK}{u:Value}(I:Inv X pins σ H s)(h:CE X.stack X.prog X.w H s Q u s'):EP X pins σ Q u s':=by
 obtain ⟨v,H',os,bare,un,hok,r,q⟩:=h
 obtain ⟨hh,g,d,t,os'⟩:=s'
 obtain rfl:os'=s.os:=os
 exact ⟨v,H',I.call (h':=hh) (g':=g) (d':=d) (t':=t) (ch:=[]) un hok bare (fun b z=>absurd z (by simp)),r,q⟩
end
noncomputable def b1q (sp:Sp)(dvs:List V)(E:XK)(t:TA):TE:=fun σ H Q=>t σ H fun vs H1=>sp (vs++dvs) H1 Q E
noncomputable def Binds (K:PySem.W.Frag)(fd:FuncData)(ps:List Str)(ds:List Value):Prop:=
 ∀ (s:Shared) (us:List Value),K.In s.heap→(us++ds).length=ps.length→BindsTo s fd ⟨us,[]⟩ (ps.zip (us++ds))
theorem Binds.all {K:PySem.W.Frag}{fd:FuncData}{ps:List Str}(h:∀ us:List Value,us.length=ps.length→bindArgs fd ⟨us,[]⟩=pure (ps.zip us)):Binds K fd ps []:=fun s us _ hl=>by
 rw [List.append_nil] at hl ⊢
 exact .of_eq (h us hl)
noncomputable def Passes (CX:CXT)(X:Cx)(E:XK):Prop:=∀ (pins:List (Addr×Obj)) (σ:St) (H:Hp) (s:Shared) (e:Value) (s':Shared),Inv X pins σ H s→CX X.stack H s E e s'→X.xe e s'
section
variable {X:Cx}{CX:CXT}{k:Nat}{f C:Addr}{fd:FuncData}{ps:List Str}{sp:Sp}{dvs:List V}{ds:List Value}{E:XK}{x m:Str}{p pos apos:Pos}{e o:Expr}{es:List Expr}{ta:TE}{t:TA}
theorem b5F {pins:List (Addr×Obj)}{σ:St}{H:Hp}{s:Shared}{Q:VK}{us:List Value}{vs:List V}(F:K5 X.prog X.w X.K X.mg X.base CX k f fd ps sp)(hr:U5 k X.A)(hb:Binds X.K fd ps ds)(hd:Vals dvs ds)(hx:Passes CX X E)
  (I:Inv X pins σ H s) (r:Vals vs us) (h:sp (vs++dvs) H Q E):wpAny (model X.prog X.w) X.A (call (.ref f) us) (EP X pins σ Q) X.xe s:=by
 have r2:Vals (vs++dvs) (us++ds):=r.append hd
 have hl:(us++ds).length=ps.length:=by rw [← r2.length]; exact F.len _ _ _ _ h
 refine wpAny_call (codeAny_mono (F.run X.A X.stack s H ⟨us,[]⟩ (us++ds) (vs++dvs) Q E hr I.b7I (hb s us I.kIn hl) r2 h) fun r s' hq=>?_)
 cases r with
 | error e=>exact hx pins σ H s e s' I hq
 | ok fl=>
  cases fl with
  | ret u=>exact I.after hq
  | next=>exact False.elim hq
  | brk=>exact False.elim hq
  | cont=>exact False.elim hq
theorem b34 (F:K5 X.prog X.w X.K X.mg X.base CX k f fd ps sp)(hr:U5 k X.A)(hg:Gl X x)(hm:X.mg x=some (.ref f))(hk:PySem.W.keepIn X.K (.ref f)=true)(hb:Binds X.K fd ps ds)(hd:Vals dvs ds)(hx:Passes CX X E)
  (ha:PA X (e::es) t) (hdb:(x == ("__debug__":Str))=false:=by decide) (he:starEach (e::es) X.env=(false,eval e X.env)::starEach es X.env:=by rfl) (hpl:(backTo pos (starEach es X.env)).any (·.1)=false:=by rfl):
  PE X (.Call (.Name x p) (e::es) [] pos) (b1q sp dvs E t):=by
 intro pins s σ H Q I h
 refine wpAny_Call_Name_kw (b3f I hg hm ?_ hdb)
 refine PySem.W.callWith_K (h₀:=X.base) I.ok.mod.kin hk (L7 (ha pos pins s σ H _ I h) fun us s1 ⟨vs,H1,I1,r,q⟩=>⟨I1.kIn,?_⟩) he hpl
 exact b5F F hr hb hd hx I1 r q
end
structure A0 (N P:List Str) (sc:Scope):Prop where
 kind:sc.kind=.function
 co:sc.isCoroutine=false
 gen:sc.isGenerator=false
 nd:N.Nodup
 pre:N.take P.length=P
 par:∀ x∈P,sc.names.lookup x=some .local∨sc.names.lookup x=some .cell
 nofree:∀ y∈sc.names,y.2≠.free
theorem a5D {kindOf:Str→Option NameKind}{x:Str}:∀ {binds:List (Str×Value)} {m:Str→Option Value},(∀ v,(x,v)∉binds)→bindL kindOf binds m x=m x
 | [],_,_=>rfl
 | (n,v)::r,m,h=>by
  unfold bindL
  rw [a5D fun w hw=>h w (List.mem_cons_of_mem _ hw)]
  split
  ·have:x≠n:=by rintro rfl; exact h v List.mem_cons_self
   simp [this]
  ·rfl
theorem a5P {kindOf:Str→Option NameKind}{x:Str}:∀ {binds:List (Str×Value)} {m:Str→Option Value},(∀ v,(x,v)∉binds)→bindC kindOf binds m x=m x
 | [],_,_=>rfl
 | (n,v)::r,m,h=>by
  unfold bindC
  rw [a5P fun w hw=>h w (List.mem_cons_of_mem _ hw)]
  split
  ·rfl
  ·have:x≠n:=by rintro rfl; exact h v List.mem_cons_self
   simp [this]
theorem a5b {kindOf:Str→Option NameKind}{x:Str}{v:Value}:∀ {P:List Str} {vs:List Value} {i:Nat} {m:Str→Option Value},P.Nodup→P[i]?=some x→vs[i]?=some v→kindOf x=some .local→
  bindL kindOf (P.zip vs) m x=some v
 | [],_,_,_,_,h,_,_=>by simp at h
 | _::_,[],_,_,_,_,h,_=>by simp at h
 | p::P,w::vs,0,m,nd,h1,h2,hk=>by
  simp at h1 h2; subst h1; subst h2
  show bindL kindOf ((p,w)::P.zip vs) m p=_
  unfold bindL
  rw [a5D fun v hv=>(List.nodup_cons.mp nd).1 (List.of_mem_zip hv).1,if_pos hk]
  simp
 | p::P,w::vs,i + 1,m,nd,h1,h2,hk=>by
  show bindL kindOf ((p,w)::P.zip vs) m x=_
  unfold bindL
  exact a5b (i:=i) (List.nodup_cons.mp nd).2 (by simpa using h1) (by simpa using h2) hk
theorem a5m {kindOf:Str→Option NameKind}{x:Str}{v:Value}:∀ {P:List Str} {vs:List Value} {i:Nat} {m:Str→Option Value},P.Nodup→P[i]?=some x→vs[i]?=some v→kindOf x≠some .local→
  bindC kindOf (P.zip vs) m x=some v
 | [],_,_,_,_,h,_,_=>by simp at h
 | _::_,[],_,_,_,_,h,_=>by simp at h
 | p::P,w::vs,0,m,nd,h1,h2,hk=>by
  simp at h1 h2; subst h1; subst h2
  show bindC kindOf ((p,w)::P.zip vs) m p=_
  unfold bindC
  rw [a5P fun v hv=>(List.nodup_cons.mp nd).1 (List.of_mem_zip hv).1,if_neg hk]
  simp
 | p::P,w::vs,i + 1,m,nd,h1,h2,hk=>by
  show bindC kindOf ((p,w)::P.zip vs) m x=_
  unfold bindC
  exact a5m (i:=i) (List.nodup_cons.mp nd).2 (by simpa using h1) (by simpa using h2) hk
noncomputable def start (N:List Str)(vs:List V):St:=vs.map some++List.replicate (N.length - vs.length) none
noncomputable def a7A (CX:CXT)(P:Program)(w:World)(K:PySem.W.Frag)(mg:Str→Option Value)(base:Heap)(N:List Str)(qual:Str)(scope:Scope)(f:Addr)(cd:Value)(A:Around)(outer:List Env)(s:Shared)(H:Hp)(E:XK):Cx where
 prog:=P
 w:=w
 K:=K
 mg:=mg
 base:=base
 A:=A.deeper (envOfC qual scope s.heap.objs.size f cd)
 N:=N
 s₀:=s
 H₀:=H
 env:=envOfC qual scope s.heap.objs.size f cd
 outer:=outer
 stack:=envOfC qual scope s.heap.objs.size f cd::outer
 ex:=[]
 calm:=true
 fn:=fun _=>true
 pn:=[]
 xe:=fun e s'=>wpAny (model P w) (A.deeper (envOfC qual scope s.heap.objs.size f cd)) (leaving (envOfC qual scope s.heap.objs.size f cd) e) (fun _ s''=>CX outer H s E e s'') (fun e' s''=>CX outer H s E e' s'') s'
theorem a75 {sc:Scope}{n:Nat}{x:Str}(h:sc.names.lookup x=some .cell):∃ c,(cellsFrom n sc.names []).lookup x=some c:=by
 have q:=PySem.W.cellsFrom_some sc.names n [] (.inl h)
 exact Option.isSome_iff_exists.mp q
theorem b0q {CX:CXT}{P:Program}{w:World}{K:PySem.W.Frag}{mg:Str→Option Value}{base:Heap}{N ps:List Str}{qual:Str}{scope:Scope}{f:Addr}{cd:Value}{A:Around}{outer:List Env}{s s1:Shared}{H:Hp}{E:XK}{us:List Value}{vs:List V}
  (S:A0 N ps scope) (hd:A.handled=none) (e0:b1h P w K mg base A outer s H) (hl:vs.length=ps.length) (r:Vals vs us)
  (x:InCallC s s.heap.objs.size (bindL (envOfC qual scope s.heap.objs.size f cd).kindOf (ps.zip us) fun _=>none) (cellsFrom (s.heap.objs.size + 1) scope.names []) (bindC (envOfC qual scope s.heap.objs.size f cd).kindOf (ps.zip us) fun _=>none) s1):
  Inv (a7A CX P w K mg base N qual scope f cd A outer s H E) [] (start N vs) H s1:=by
 have hpl:ps.length≤N.length:=by have:=congrArg List.length S.pre; rw [List.length_take] at this; omega
 obtain ⟨h1,tk,rfl,hk⟩:=x.done
 have noA:∀ b:Addr,b∉(a7A CX P w K mg base N qual scope f cd A outer s H E).ex:=fun b z=>absurd (show b∈([]:List Addr) from z) (by simp)
 refine ⟨⟨e0.mod,S.kind,rfl,rfl,Nat.le_refl _,fun y z c h1 h2=>?_,fun y hy=>?_,fun y c _ h=>?_,fun _=>hd,Around.frames_deeper e0.frames,.inr ⟨rfl,rfl⟩,fun b z=>absurd z (noA b),e0.bs,e0.bsz,fun b _ _=>noA b,fun b z=>absurd z (noA b),e0.a2E,e0.frf⟩,
  rfl,e0.bare,Un.kept hk,⟨_,x.toInCall.ns,fun i y v h1 h2 h3=>?_⟩,fun y c h=>⟨_,x.cell y c h⟩,e0.hok.fresh (Nat.le_refl _),fun y c h=>?_,fun p hp=>absurd (show p∈([]:List (Addr×Obj)) from hp) (by simp),e0.hok.kept hk,?_⟩
 ·exact name_of_addr x.apart (PySem.mem_of_lookup h1) (PySem.mem_of_lookup h2)
 ·have hy:scope.names.lookup y=some .cell∨scope.names.lookup y=some .free:=hy
  rcases hy with hy | hy
  ·exact a75 hy
  ·exact absurd rfl (S.nofree _ (PySem.mem_of_lookup hy))
 ·exact Nat.le_of_lt (x.above y c (PySem.mem_of_lookup h))
 ·have hi:i < vs.length:=by
   unfold start at h2
   by_cases hi:i < vs.length
   ·exact hi
   ·rw [List.getElem?_append_right (by simpa using hi)] at h2
    rw [List.getElem?_replicate] at h2
    split at h2 <;> cases h2
  have ha:vs[i]?=some v:=by
   unfold start at h2
   rw [List.getElem?_append_left (by simpa using hi),List.getElem?_map] at h2
   cases e:vs[i]? with
   | none=>rw [e] at h2; cases h2
   | some a=>rw [e] at h2; cases h2; rfl
  obtain ⟨u,hu,rv⟩:=r.get ha
  have hp:ps[i]?=some y:=by
   rw [← S.pre,List.getElem?_take_of_lt (by omega)]; exact h1
  have ndP:ps.Nodup:=by rw [← S.pre]; exact S.nd.sublist (List.take_sublist _ _)
  refine ⟨u,rv,?_⟩
  rcases S.par y (List.mem_of_getElem? hp) with k | k
  ·exact .inl ⟨k,a5b ndP hp hu k⟩
  ·obtain ⟨c,e⟩:=a75 (n:=s.heap.objs.size + 1) k
   refine .inr ⟨.inl k,c,e,?_⟩
   have q:=x.cell y c e
   rw [a5m ndP hp hu (by show scope.names.lookup y≠_; rw [k]; decide)] at q
   exact q
 ·exact e0.hok.fresh (Nat.le_of_lt (x.above y c (PySem.mem_of_lookup h)))
 ·unfold start
  show _=N.length
  rw [List.length_append,List.length_map,List.length_replicate]
  omega
theorem b6L {CX:CXT}{P:Program}{w:World}{K:PySem.W.Frag}{mg:Str→Option Value}{base:Heap}{k:Nat}{f:Addr}{name qual:Str}{params:Arguments}{body:List Stmt}{scope:Scope}{dV kV doc pm cdv ct oc:Value}{an od:Option Addr}
  {osl:Array (Option Value)} {N ps:List Str} {sp:Sp} (lk:K.lookup f=some ⟨oc,od,.func (PySem.W.fnOf name qual params body scope dV kV doc pm an cdv ct),osl⟩) (hcd:PySem.W.codeIn K cdv qual=true) (S:A0 N ps scope)
  (len:∀ vs H Q E,sp vs H Q E→vs.length=ps.length)
  (hbody:∀ (A:Around) (outer:List Env) (s:Shared) (H:Hp) (vs:List V) (Q:VK) (E:XK),U5 k (A.deeper (envOfC qual scope s.heap.objs.size f cdv))→sp vs H Q E→
   ∃ t,PSs (a7A CX P w K mg base N qual scope f cdv A outer s H E) body t∧t { nx:=fun _ H'=>Q .A3 H',rt:=Q } (start N vs) H):
  K5 P w K mg base CX (k + 1) f (PySem.W.fnOf name qual params body scope dV kV doc pm an cdv ct) ps sp:=by
 refine ⟨len,fun A outer s H args us vs Q E hr e0 hb r hsp=>?_⟩
 have hl:=len _ _ _ _ hsp
 have KX:K.In s.heap:=e0.mod.kin.keeps fun b o e=>(e0.bs b o e).1
 have lim:s.heap.NoLimit:=e0.mod.nolimit.keeps fun b o e=>(e0.bs b o e).1
 have hkind:∀ y∈ps.zip us,scope.names.lookup y.1=some .local∨(scope.names.lookup y.1=some .cell∧((cellsFrom (s.heap.objs.size + 1) scope.names []).lookup y.1).isSome=true):=fun ⟨n,v⟩ hy=>by
  rcases S.par n (List.of_mem_zip hy).1 with q | q
  ·exact .inl q
  ·exact .inr ⟨q,PySem.W.cellsFrom_some _ _ _ (.inl q)⟩
 refine codeAny_call_function hr.depth (KX _ _ lk) rfl S.co S.gen rfl (PySem.W.codeRec_of KX hcd) (hb _ _ _ _ ?_)
 refine wpAny_newFunctionEnv_cells S.kind hkind fun env he s1 x=>?_
 subst he
 refine ⟨lim.keeps x.toInCall.keep,codeAny_func ?_⟩
 obtain ⟨t,ht,hq⟩:=hbody A outer s H vs Q E (hr.deeper _) hsp
 have I:Inv (a7A CX P w K mg base N qual scope f cdv A outer s H E) [] (start N vs) H s1:=b0q S hr.hd e0 hl r x
 refine wpAny_mono (ht [] s1 (start N vs) H _ I hq) (fun fl s' hs=>?_) fun e s' hs=>hs
 have fin:∀ {σ':St} {H':Hp} {v:V} {u:Value},Inv (a7A CX P w K mg base N qual scope f cdv A outer s H E) [] σ' H' s'→RelV v u→Q v H'→CE outer P w H s Q u s':=
  fun {σ' H' v u} J rv q=>⟨v,H',J.os,J.bare,J.base,J.hok,rv,q⟩
 cases fl with
 | ret u=>
  obtain ⟨v,σ',H',J,rv,q⟩:=hs
  exact fin J rv q
 | next=>
  obtain ⟨σ',H',J,q⟩:=hs
  exact fin (v:=V.A3) (u:=Value.none) J rfl q
 | brk=>
  obtain ⟨_,_,_,q⟩:=hs
  exact False.elim q
 | cont=>
  obtain ⟨_,_,_,q⟩:=hs
  exact False.elim q
end L2
namespace L2
open PySem PySem.Spec PyProof.Rows
section
variable {X:Cx}{x:Str}{p pos:Pos}{e:Expr}{es:List Expr}{t:TA}{id T:String}{r:List V→Hp→VK→Prop}
noncomputable def tCB (r:List V→Hp→VK→Prop)(t:TA):TE:=fun σ H Q=>t σ H fun vs H1=>r vs H1 Q
theorem b2u (hc:K3 X (.builtin id) r)(hg:Gl X x)(hm:X.mg x=none)(hv:bootBuiltins x=some (.builtin id))(ha:PA X (e::es) t)(hn:x≠"__name__":=by decide) (hdb:(x == ("__debug__":Str))=false:=by decide)
  (he:starEach (e::es) X.env=(false,eval e X.env)::starEach es X.env:=by rfl) (hpl:(backTo pos (starEach es X.env)).any (·.1)=false:=by rfl):PE X (.Call (.Name x p) (e::es) [] pos) (tCB r t):=by
 intro pins s σ H Q I h
 refine wpAny_Call_Name_kw (X5 I hg hm hv ?_ hn hdb)
 exact PyProof.Rows.callWith_builtin1 (L7 (ha pos pins s σ H _ I h) fun us s1 ⟨vs,H1,I1,r1,q1⟩=>hc pins s1 σ H1 vs us Q I1 r1 q1) he hpl
theorem b0C (hc:K3 X (.type T) r)(hg:Gl X x)(hm:X.mg x=none)(hv:bootBuiltins x=some (.type T))(ha:PA X (e::es) t)(hn:x≠"__name__":=by decide) (hdb:(x == ("__debug__":Str))=false:=by decide)
  (he:starEach (e::es) X.env=(false,eval e X.env)::starEach es X.env:=by rfl) (hpl:(backTo pos (starEach es X.env)).any (·.1)=false:=by rfl):PE X (.Call (.Name x p) (e::es) [] pos) (tCB r t):=by
 intro pins s σ H Q I h
 refine wpAny_Call_Name_kw (X5 I hg hm hv ?_ hn hdb)
 exact PyProof.Rows.callWith_type1 (L7 (ha pos pins s σ H _ I h) fun us s1 ⟨vs,H1,I1,r1,q1⟩=>hc pins s1 σ H1 vs us Q I1 r1 q1) he hpl
end
end L2
namespace HT
open PySem PyProof.Rows
section
variable {prog:Program}{w:World}{A:Around}{E:Value→Shared→Prop}{s:Shared}
noncomputable def B8 (n d:Nat):Option Int→Nat
 | none=>d
 | some v=>if v < 0 then (v + (n:Int)).toNat else min v.toNat n
theorem a4D (n d:Nat):B8 n d none=d:=rfl
theorem a9d (n d k:Nat):B8 n d (some (k:Int))=min k n:=by
 show (if (k:Int) < 0 then ((k:Int) + (n:Int)).toNat else min (k:Int).toNat n)=min k n
 rw [if_neg (by omega),Int.toNat_natCast]
theorem b1s (n d:Nat)(hd:d≤n)(o:Option Int):B8 n d o≤n:=by
 cases o with
 | none=>exact hd
 | some v=>
  show (if v < 0 then (v + (n:Int)).toNat else min v.toNat n)≤n
  by_cases hv:v < 0
  ·rw [if_pos hv]; omega
  ·rw [if_neg hv]; exact Nat.min_le_right _ _
theorem a83 (v:Int)(n d:Nat):(if v < 0 then max (v + (n:Int)) 0 else min v (n:Int))=((B8 n d (some v):Nat):Int):=by
 show (if v < 0 then max (v + (n:Int)) 0 else min v (n:Int))=(((if v < 0 then (v + (n:Int)).toNat else min v.toNat n):Nat):Int)
 by_cases hv:v < 0
 ·simp only [if_pos hv]; omega
 ·simp only [if_neg hv]; omega
theorem a8A (lo hi:Option Int)(n:Nat):Builtin.Slice.sliceAdjust lo hi 1 (n:Int)=(((B8 n 0 lo:Nat):Int),((B8 n n hi:Nat):Int)):=by
 have h1:¬ ((1:Int) < 0):=by omega
 unfold Builtin.Slice.sliceAdjust
 simp only [h1,if_false]
 refine Prod.ext ?_ ?_
 ·cases lo with
  | none=>rfl
  | some v=>exact a83 v n 0
 ·cases hi with
  | none=>rfl
  | some v=>exact a83 v n n
theorem a8r (i j:Nat):Builtin.Slice.slicePlaces (i:Int) (j:Int) 1=j - i:=by
 unfold Builtin.Slice.slicePlaces
 have h1:(1:Int) > 0:=by omega
 simp only [h1,if_true,Int.ediv_one]
 split <;> omega
theorem a4p {v:Value}{o:Option Int}{Q:Option Int→Shared→Prop}(p:IsPart v o)(h:Q o s):wpAny (model prog w) A (Builtin.Slice.slicePartIndex v) Q E s:=by
 cases p with
 | none=>exact slicePart_none h
 | int i t=>exact slicePart_int h
theorem Z1 {sl:Addr}{vl vu:Value}{lo hi:Option Int}{n:Nat}{Q:Int×Int×Nat→Shared→Prop}(hs:s.heap.IsSliceOf sl vl vu .none)(pl:IsPart vl lo)(pu:IsPart vu hi)
  (h:Q (((B8 n 0 lo:Nat):Int),1,B8 n n hi - B8 n 0 lo) s):wpAny (model prog w) A (Builtin.Slice.sliceApplied (.ref sl) (pure (n:Int))) Q E s:=by
 obtain ⟨os,hos,hcs,hds⟩:=id hs
 unfold Builtin.Slice.sliceApplied Builtin.Slice.sliceFields
 refine wpAny_bind (wpAny_bind (wpAny_field hos hds (x:=vl) rfl (wpAny_bind (wpAny_field hos hds (x:=vu) rfl (wpAny_bind (wpAny_field hos hds (x:=.none) rfl (wpAny_pure ?_)))))))
 refine wpAny_bind (slicePart_none ?_)
 show wpAny _ _ (if ((1:Int) == 0)=true then _ else _) _ _ s
 rw [if_neg (by decide)]
 refine wpAny_bind (a4p pl (wpAny_bind (a4p pu (wpAny_bind (wpAny_pure ?_)))))
 show wpAny _ _ (match Builtin.Slice.sliceAdjust lo hi 1 (n:Int) with | (lo,hi)=>pure (lo,(1:Int),Builtin.Slice.slicePlaces lo hi 1)) _ _ s
 rw [a8A lo hi n]
 show wpAny _ _ (pure (((B8 n 0 lo:Nat):Int),(1:Int),Builtin.Slice.slicePlaces ((B8 n 0 lo:Nat):Int) ((B8 n n hi:Nat):Int) 1)) _ _ s
 rw [a8r]
 exact wpAny_pure h
theorem b1P (xs:Array Value)(i k:Nat):((List.range k).filterMap fun (m:Nat)=>xs[((i:Int) + (m:Int) * 1).toNat]?).toArray=((xs.toList.drop i).take k).toArray:=by
 have e:(fun (m:Nat)=>xs[((i:Int) + (m:Int) * 1).toNat]?)=fun m=>xs[i + m]?:=by
  funext m
  have:((i:Int) + (m:Int) * 1).toNat=i + m:=by omega
  rw [this]
 rw [e]
 have:=pick_run xs i k
 rw [List.filterMap_map] at this
 have e2:((fun x=>xs[x]?) ∘ fun x=>i + x)=fun m=>xs[i + m]?:=rfl
 rw [e2] at this
 rw [this]
theorem a2o {t sl:Addr}{items:Array Value}{vl vu:Value}{lo hi:Option Int}{Q:Value→Shared→Prop}(ht:IsTup s.heap t items)(hs:s.heap.IsSliceOf sl vl vu .none)(pl:IsPart vl lo)(pu:IsPart vu hi)
  (hw:¬ (B8 items.size 0 lo=0∧B8 items.size items.size hi=items.size))
  (h:Q (.ref s.heap.objs.size) { s with heap:=s.heap.push { cls:=.type "tuple",data:=.seq ((items.toList.drop (B8 items.size 0 lo)).take (B8 items.size items.size hi - B8 items.size 0 lo)).toArray } })
  (hsz:items.size≤sizeLine):wpAny (model prog w) A (getItem (.ref t) (.ref sl)) Q E s:=by
 have htake:sizeOk (.seq ((items.toList.drop (B8 items.size 0 lo)).take (B8 items.size items.size hi - B8 items.size 0 lo)).toArray):=by
  show ((items.toList.drop (B8 items.size 0 lo)).take (B8 items.size items.size hi - B8 items.size 0 lo)).toArray.size≤sizeLine
  rw [List.size_toArray,List.length_take,List.length_drop,Array.length_toList]
  omega
 have hj:B8 items.size items.size hi≤items.size:=b1s _ _ (Nat.le_refl _) hi
 obtain ⟨os,hos,hcs,hds⟩:=id hs
 have hTs:s.TypeIs (.ref sl) "slice":=⟨os,hos,hcs⟩
 unfold getItem
 try with_reducible refine wpAny_holding ?_
 first | refine wpAny_bind (wpAny_pure ?_) | skip
 refine wpAny_bind (wpAny_sequenceKey ht.typeIs (by decide) ?_)
 refine wpAny_bind (wpAny_callSpecial?_slot (name:=Str.ofString "__getitem__") ht.typeIs PyProof.Rows.slot_tuple_getitem
  (wpAny_call_entry PyProof.Rows.slot_tuple_getitem ht.typeIs entry_tuple_getitem ?_ (args_tuple_getitem _ _)))
 show wpAny _ _ (Builtin.Tuple.tupleItemsOf (.ref t) >>= _) _ _ s
 refine wpAny_bind (tupleItemsOf_ ht ?_)
 refine wpAny_bind (wpAny_typeOf hTs ?_)
 rw [if_pos (by decide)]
 refine wpAny_bind (Z1 hs pl pu ?_)
 have hno:¬ ((((B8 items.size 0 lo:Nat):Int) == 0 && (1:Int) == 1 && (B8 items.size items.size hi - B8 items.size 0 lo) == items.size)=true):=by
  intro q
  rw [Bool.and_eq_true,Bool.and_eq_true] at q
  have q1:((B8 items.size 0 lo:Nat):Int)=0:=eq_of_beq q.1.1
  have q2:B8 items.size items.size hi - B8 items.size 0 lo=items.size:=eq_of_beq q.2
  exact hw ⟨by omega,by omega⟩
 show wpAny _ _ (if (((B8 items.size 0 lo:Nat):Int) == 0 && (1:Int) == 1 && (B8 items.size items.size hi - B8 items.size 0 lo) == items.size)=true then _ else _) _ _ s
 rw [if_neg hno,b1P]
 first
  | exact wpAny_bind (m:=Builtin.Tuple.tupleExact _) (wpAny_newObj_type (wpAny_pure ⟨_,rfl,wpAny_pure h⟩) htake)
  | exact wpAny_bind (m:=Builtin.Tuple.tupleExact _) (wpAny_newObj_type (wpAny_bind (wpAny_pure (wpAny_pure ⟨_,rfl,wpAny_pure h⟩))) htake)
  | exact wpAny_bind (wpAny_bind (m:=Builtin.Tuple.tupleExact _) (wpAny_newObj_type (wpAny_pure (wpAny_pure ⟨_,rfl,wpAny_pure h⟩)) htake))
  | exact wpAny_bind (wpAny_bind (m:=Builtin.Tuple.tupleExact _) (wpAny_newObj_type (wpAny_pure ⟨_,rfl,wpAny_pure h⟩) htake))
end
end HT
namespace L2
open PySem PySem.Spec PyProof.Rows
noncomputable abbrev TO:=St→Hp→(Option Int→Hp→Prop)→Prop
noncomputable def PO (X:Cx)(e:Option Expr)(t:TO):Prop:=
 ∀ (pins:List (Addr×Obj)) (s:Shared) (σ:St) (H:Hp) (Q:Option Int→Hp→Prop),Inv X pins σ H s→t σ H Q→
  wpAny (model X.prog X.w) X.A (evalPart e X.env) (fun u s'=>∃ o H',Inv X pins σ H' s'∧IsPart u o∧Q o H') X.xe s
noncomputable def b3q:TO:=fun _ H Q=>Q none H
noncomputable def b68 (t:TE):TO:=fun σ H Q=>t σ H fun x H1=>∃ i,x=.int i∧Q (some i) H1
section
variable {X:Cx}{e:Expr}{te:TE}{lo hi:Option Expr}{tl th:TO}{pos p2:Pos}
theorem b3b:PO X none b3q:=by
 intro pins s σ H Q I h
 rw [evalPart_none]
 exact wpAny_pure ⟨none,H,I,.none,h⟩
theorem b3W (h:PE X e te):PO X (some e) (b68 te):=by
 intro pins s σ H Q I hw
 rw [evalPart_some]
 refine L7 (h pins s σ H _ I hw) fun u s1 ⟨x,H1,I1,r1,q1⟩=>?_
 obtain ⟨i,rfl,q⟩:=q1
 obtain ⟨t,rfl⟩:=r1
 exact ⟨some i,H1,I1,.int i t,q⟩
noncomputable def SlR (X:Cx)(r:V→Option Int→Option Int→Hp→VK→Prop):Prop:=
 ∀ (pins:List (Addr×Obj)) (s:Shared) (σ:St) (H:Hp) (x:V) (v vl vu:Value) (lo hi:Option Int) (sl:Addr) (Q:VK),Inv X pins σ H s→RelV x v→s.heap.IsSliceOf sl vl vu .none→IsPart vl lo→IsPart vu hi→r x lo hi H Q→
  ∃ T id,typeLookup (.type T) "__getitem__"=pure (some (.builtin id))∧s.TypeIs v T∧wpAny (model X.prog X.w) X.A (getItem v (.ref sl)) (EP X pins σ Q) X.xe s
theorem SlR.or {r r':V→Option Int→Option Int→Hp→VK→Prop}(h:SlR X r)(h':SlR X r'):SlR X (fun x lo hi H Q=>r x lo hi H Q∨r' x lo hi H Q):=by
 intro pins s σ H x v vl vu lo hi sl Q I rx hs pl pu q
 rcases q with q | q
 ·exact h pins s σ H x v vl vu lo hi sl Q I rx hs pl pu q
 ·exact h' pins s σ H x v vl vu lo hi sl Q I rx hs pl pu q
noncomputable def tSl (r:V→Option Int→Option Int→Hp→VK→Prop)(te:TE)(tl th:TO):TE:=fun σ H Q=>te σ H fun x H1=>tl σ H1 fun l H2=>th σ H2 fun u H3=>r x l u H3 Q
theorem b1A {r:V→Option Int→Option Int→Hp→VK→Prop}(hr:SlR X r)(he:PE X e te)(hl:PO X lo tl)(hu:PO X hi th):PE X (.Subscript e (.Slice lo hi none p2) pos) (tSl r te tl th):=by
 intro pins s σ H Q I h
 refine Subscript_ (L7 (he pins s σ H _ I h) fun v s1 ⟨x,H1,I1,r1,q1⟩=>?_)
 refine wpAny_Slice (L7 (hl pins s1 σ H1 _ I1 q1) fun vl s2 ⟨l,H2,I2,pl,q2⟩=>L7 (hu pins s2 σ H2 _ I2 q2) fun vu s3 ⟨u,H3,I3,pu,q3⟩=>?_)
 rw [evalPart_none]
 refine wpAny_pure ?_
 have I4:Inv X pins σ H3 { s3 with heap:=s3.heap.push { cls:=.type "slice",data:=.fields #[vl,vu,.none] } }:=I3.kept (t':=s3.toks) fun b ob q=>Heap.get?_push_of_some _ q
 obtain ⟨T,id,hT,ht,hg⟩:=hr pins { s3 with heap:=s3.heap.push { cls:=.type "slice",data:=.fields #[vl,vu,.none] } } σ H3 x v vl vu l u s3.heap.objs.size Q I4 r1 (Heap.IsSliceOf.new ..) pl pu q3
 show wpAny (model X.prog X.w) X.A (subscriptTail e (.Slice lo hi none p2) v (.ref s3.heap.objs.size)) (EP X pins σ Q) X.xe { s3 with heap:=s3.heap.push { cls:=.type "slice",data:=.fields #[vl,vu,.none] } }
 exact tail_any (ops:=[.ref s3.heap.objs.size,v]) ht hT hg (by with_unfolding_all rfl)
noncomputable def a45 (xs:List V)(lo hi:Option Int):List V:=(xs.drop (HT.B8 xs.length 0 lo)).take (HT.B8 xs.length xs.length hi - HT.B8 xs.length 0 lo)
theorem a20 (xs:List V)(lo hi:Option Int):(a45 xs lo hi).length≤xs.length:=by
 unfold a45
 rw [List.length_take,List.length_drop]
 omega
noncomputable def b6j (K:PySem.W.Frag):V→Option Int→Option Int→Hp→VK→Prop:=fun x lo hi H Q=>∃ a xs,x=.ref a∧W5 K H a xs∧
 ¬ (HT.B8 xs.length 0 lo=0∧HT.B8 xs.length xs.length hi=xs.length)∧∀ p,H p=none→Q (.ref p) (upd H p (.tup (a45 xs lo hi)))
theorem b4L:SlR X (b6j X.K):=by
 intro pins s σ H x v vl vu lo hi sl Q I rx hs pl pu h
 obtain ⟨a,xs,rfl,hx,hw,q⟩:=h
 cases rx
 obtain ⟨its,r,ht,hz⟩:=I.tuple hx
 have hlen:its.toArray.size=xs.length:=by rw [List.size_toArray]; exact r.length.symm
 refine ⟨"tuple",_,PyProof.Rows.slot_tuple_getitem.lookup,ht.typeIs,?_⟩
 refine HT.a2o ht hs pl pu (by rw [hlen]; exact hw) ?_ (by rw [hlen]; exact hz)
 rw [hlen]
 refine ⟨.ref s.heap.objs.size,_,I.laid (t':=s.toks) (o:=.tup (a45 xs lo hi)) (fun b ob q=>Heap.get?_push_of_some _ q) (Nat.le_refl _) ?_,rfl,q _ (I.hok.fresh (Nat.le_refl _))⟩
 exact ⟨Nat.le_trans (a20 xs lo hi) hz,_,(r.drop (HT.B8 xs.length 0 lo)).take (HT.B8 xs.length xs.length hi - HT.B8 xs.length 0 lo),IsTup.new _ _⟩
end
end L2
namespace L2
open PySem PySem.Spec PyProof.Rows
noncomputable def ixN (n:Nat)(i:Int):Option Nat:=if 0≤i then (if i < n then some i.toNat else none) else if -(n:Int)≤i then some (i + n).toNat else none
noncomputable def atI {α:Type}(xs:List α)(i:Int):Option α:=(ixN xs.length i).bind fun j=>xs[j]?
theorem a85 {n:Nat}{i:Int}{j:Nat}(h:ixN n i=some j):seqIndex? i n=some j∧j < n∧-(n:Int)≤i∧i < n:=by
 unfold ixN at h
 by_cases h0:0≤i
 ·rw [if_pos h0] at h
  by_cases h1:i < n
  ·rw [if_pos h1] at h
   have e:i.toNat=j:=Option.some.inj h
   exact ⟨by rw [seqIndex_of h0 h1,e],by omega,by omega,h1⟩
  ·rw [if_neg h1] at h; cases h
 ·rw [if_neg h0] at h
  by_cases h1:-(n:Int)≤i
  ·rw [if_pos h1] at h
   have e:(i + n).toNat=j:=Option.some.inj h
   exact ⟨by rw [seqIndex_neg (by omega) h1,e],by omega,h1,by omega⟩
  ·rw [if_neg h1] at h; cases h
theorem a6i {α:Type}{xs:List α}{i:Int}{v:α}(h:atI xs i=some v):∃ j,seqIndex? i xs.length=some j∧xs[j]?=some v∧j < xs.length∧-(xs.length:Int)≤i∧i < xs.length:=by
 unfold atI at h
 cases e:ixN xs.length i with
 | none=>rw [e] at h; cases h
 | some j=>
  rw [e] at h
  obtain ⟨h1,h2,h3,h4⟩:=a85 e
  exact ⟨j,h1,h,h2,h3,h4⟩
theorem a87 {α:Type}{xs:List α}{j:Nat}{v:α}(h:xs[j]?=some v):atI xs (j:Int)=some v:=by
 have hj:j < xs.length:=(List.getElem?_eq_some_iff.mp h).1
 have e:ixN xs.length (j:Int)=some j:=by
  unfold ixN
  rw [if_pos (by omega),if_pos (by omega)]; simp
 unfold atI; rw [e]; exact h
theorem b10 {α:Type}(xs:List α)(v:α):atI (xs++[v]) (-1)=some v:=by
 have hl:(xs++[v]).length=xs.length + 1:=by simp
 have e:ixN (xs++[v]).length (-1)=some xs.length:=by
  unfold ixN
  rw [hl,if_neg (by decide),if_pos (by omega)]
  congr 1
  omega
 unfold atI
 rw [e]
 show (xs++[v])[xs.length]?=some v
 simp
noncomputable def a9k (b:Expr):Prop:=∀ o i,subscripted b false o i=operate [o,i] (getItem o i)
noncomputable def IxR (X:Cx)(r:R2):Prop:=
 ∀ (value slice:Expr) (pins:List (Addr×Obj)) (s:Shared) (σ:St) (H:Hp) (x y:V) (v u:Value) (Q:VK),Inv X pins σ H s→RelV x v→RelV y u→r x y H Q→
  subscripted slice false v u=operate [v,u] (getItem v u)→wpAny (model X.prog X.w) X.A (subscriptTail value slice v u) (EP X pins σ Q) X.xe s
noncomputable def MtR (X:Cx)(id:String)(r:V→List V→Hp→VK→Prop):Prop:=
 ∀ (pins:List (Addr×Obj)) (s:Shared) (σ:St) (H:Hp) (x:V) (xs:List V) (v:Value) (us:List Value) (Q:VK),Inv X pins σ H s→RelV x v→Vals xs us→r x xs H Q→
  wpAny (model X.prog X.w) X.A (call (.builtin id) (v::us)) (EP X pins σ Q) X.xe s
section
variable {X:Cx}{a b:Expr}{ta tb:TE}{pos:Pos}
theorem IxR.or {r r':R2}(h:IxR X r)(h':IxR X r'):IxR X (fun x y H Q=>r x y H Q∨r' x y H Q):=by
 intro value slice pins s σ H x y v u Q I rx ry q hs
 rcases q with q | q
 ·exact h value slice pins s σ H x y v u Q I rx ry q hs
 ·exact h' value slice pins s σ H x y v u Q I rx ry q hs
theorem b7k {r:R2}(hr:IxR X r)(ha:PE X a ta)(hb:PE X b tb)(hs:a9k b):PE X (.Subscript a b pos) (tOp r ta tb):=by
 intro pins s σ H Q I h
 exact Subscript_ (b5p ha hb I h fun v u s2 x y H2 I2 rx ry q=>hr a b pins s2 σ H2 x y v u Q I2 rx ry q (hs _ _))
noncomputable def b5Y (K:PySem.W.Frag):R2:=fun x y H Q=>∃ p xs i v,x=.ref p∧y=.int i∧L8 K H p xs∧atI xs i=some v∧Q v H
noncomputable def b5P (K:PySem.W.Frag):R2:=fun x y H Q=>∃ p xs i v,x=.ref p∧y=.int i∧W5 K H p xs∧atI xs i=some v∧Q v H
noncomputable def b7g:R2:=fun x y H Q=>∃ z i c,x=.str z∧y=.int i∧z.length≤sizeLine∧atI z.cps.toList i=some c∧Q (.str ⟨#[c]⟩) H
theorem b3M:IxR X (b5Y X.K):=by
 intro value slice pins s σ H x y v u Q I rx ry h hs
 obtain ⟨p,xs,i,z,rfl,rfl,hq,he,q⟩:=h
 cases rx
 obtain ⟨t,rfl⟩:=ry
 obtain ⟨its,r,pl,hz⟩:=I.list hq
 obtain ⟨j,h1,h2,h3,h4,h5⟩:=a6i he
 obtain ⟨w,ew,rw'⟩:=r.get h2
 have hl:=r.length
 have hn:=a1y
 have fin:EP X pins σ Q w s:=⟨z,H,I,rw',q⟩
 by_cases h0:0≤i
 ·have hj:i.toNat=j:=by
   rw [seqIndex_of h0 h5] at h1
   exact Option.some.inj h1
  exact item_listR pl.isList h0 (by omega) (by rw [hj]; simpa using ew) fin hs
 ·have hj:(i + (its.toArray.size:Int)).toNat=j:=by
   rw [seqIndex_neg (by omega) h4] at h1
   rw [List.size_toArray,← hl]
   exact Option.some.inj h1
  exact subscriptTail_builtinR (x:=w) pl.isList.typeIs slot_list_getitem.lookup
   (wpAny_getItem_list_neg (Q:=fun r s'=>r=w∧EP X pins σ Q r s') pl.isList (by omega) (by rw [List.size_toArray] <;> omega) (by omega) (by rw [hj]; simpa using ew) ⟨rfl,fin⟩) hs
theorem b6c:IxR X (b5P X.K):=by
 intro value slice pins s σ H x y v u Q I rx ry h hs
 obtain ⟨p,xs,i,z,rfl,rfl,hq,he,q⟩:=h
 cases rx
 obtain ⟨t,rfl⟩:=ry
 obtain ⟨its,r,pl,hz⟩:=I.tuple hq
 obtain ⟨j,h1,h2,h3,h4,h5⟩:=a6i he
 obtain ⟨w,ew,rw'⟩:=r.get h2
 have hl:=r.length
 have hn:=a1y
 have fin:EP X pins σ Q w s:=⟨z,H,I,rw',q⟩
 exact subscriptTail_builtinR (x:=w) pl.typeIs slot_tuple_getitem.lookup
  (getItem_tuple (j:=j) (Q:=fun r s'=>r=w∧EP X pins σ Q r s') pl (by omega) (by omega) (by rw [List.size_toArray,← hl]; exact h1) (by simpa using ew) ⟨rfl,fin⟩) hs
theorem b5l:IxR X b7g:=by
 intro value slice pins s σ H x y v u Q I rx ry h hs
 obtain ⟨z,i,c,rfl,rfl,hz,he,q⟩:=h
 obtain ⟨t,rfl⟩:=rx
 obtain ⟨t',rfl⟩:=ry
 obtain ⟨j,h1,h2,h3,h4,h5⟩:=a6i he
 have hl:z.cps.toList.length=z.length:=by simp [Str.length]
 rw [hl] at h1 h4 h5
 have hn:=a1y
 exact tail_any (typeIs_str s z t) slot_str_getitem.lookup (getItem_str (c:=c) (by
  have e1:decide (i < -(2 ^ 63:Int))=false:=decide_eq_false (by omega)
  have e2:decide (i ≥ 2 ^ 63)=false:=decide_eq_false (by omega)
  rw [e1,e2,Bool.or_false]) (by rw [h1]; simpa using h2) ⟨.str ⟨#[c]⟩,H,I.tok _,⟨_,rfl⟩,q⟩) hs
theorem a8O (its:List Value)(n j:Nat)(u:Value):Obj.mapSeq (·.setIfInBounds j u) { cls:=.type "list",data:=.seq its.toArray n }={ cls:=.type "list",data:=.seq (its.set j u).toArray n }:=by
 simp [Obj.mapSeq]
theorem Inv.lst {pins:List (Addr×Obj)}{σ:St}{H:Hp}{s:Shared}{p:Addr}{xs:List V}(I:Inv X pins σ H s)(h:H p=some (.lst xs)):
  ∃ (its:List Value) (n:Nat),Vals xs its∧s.heap.get? p=some { cls:=.type "list",data:=.seq its.toArray n }∧xs.length≤sizeLine:=by
 obtain ⟨z,its,n,r,e⟩:=I.hok p _ h
 exact ⟨its,n,r,e,z⟩
theorem Inv.b40 {pins:List (Addr×Obj)}{σ:St}{H:Hp}{s:Shared}{p:Addr}{xs ys:List V}{its its':List Value}{n n':Nat}{f:Obj→Obj}(I:Inv X pins σ H s)(h:H p=some (.lst xs))
  (ho:s.heap.get? p=some { cls:=.type "list",data:=.seq its.toArray n }) (hf:f { cls:=.type "list",data:=.seq its.toArray n }={ cls:=.type "list",data:=.seq its'.toArray n' }) (r:Vals ys its') (hz:ys.length≤sizeLine) (t:Nat):
  Inv X pins σ (upd H p (.lst ys)) { s with heap:=s.heap.update p f,toks:=t }:=by
 have e:(s.heap.update p f).get? p=some { cls:=.type "list",data:=.seq its'.toArray n' }:=by
  rw [Heap.get?_update_self f ho (by rw [hf] <;> rfl),hf]
 refine I.write (x:=p) (e:=p) (by rw [h]; trivial) (.inl rfl) (fun b u hb q=>(Heap.get?_update_other _ _ (Ne.symm hb)).trans q) ⟨_,e⟩ ?_
 exact ⟨hz,its',n',r,e⟩
noncomputable def b6Y:V→V→V→Hp→(Hp→Prop)→Prop:=fun o i v H Q=>∃ p xs k j,o=.ref p∧i=.int k∧H p=some (.lst xs)∧ixN xs.length k=some j∧Q (upd H p (.lst (xs.set j v)))
theorem set_list:a8L X b6Y:=by
 intro pins s σ H o i v ov iv u Q I ro ri rv h
 obtain ⟨p,xs,k,j,rfl,rfl,hp,hj,q⟩:=h
 cases ro
 obtain ⟨t,rfl⟩:=ri
 obtain ⟨its,n,r,ho,hz⟩:=I.lst hp
 obtain ⟨h1,h2,h3,h4⟩:=a85 hj
 have hl:=r.length
 have hn:=a1y
 have I':Inv X pins σ (upd H p (.lst (xs.set j v))) { s with heap:=s.heap.update p (Obj.mapSeq (·.setIfInBounds j u)) }:=
  I.b40 hp ho (a8O its n j u) (r.set rv j) (by rw [List.length_set]; exact hz) s.toks
 by_cases h0:0≤k
 ·have hk:k.toNat=j:=by
   rw [seqIndex_of h0 h4] at h1
   exact Option.some.inj h1
  exact PySem.W.ki_setAt ho h0 (by omega) (by rw [List.size_toArray,← hl]; exact h4) (by rw [hk]; exact ⟨_,I',q⟩)
 ·have hk:(k + (its.toArray.size:Int)).toNat=j:=by
   rw [seqIndex_neg (by omega) h3] at h1
   rw [List.size_toArray,← hl]
   exact Option.some.inj h1
  exact PySem.W.ki_setBack ho (by omega) (by rw [List.size_toArray,← hl]; exact h3) (by omega) (by rw [hk]; exact ⟨_,I',q⟩)
theorem a6q (lo hi:Option Int)(n:Nat):(sliceBounds lo hi none n).1=((HT.B8 n 0 lo:Nat):Int)∧(sliceBounds lo hi none n).2.1=((HT.B8 n n hi:Nat):Int)∧(sliceBounds lo hi none n).2.2=1:=by
 refine ⟨?_,?_,rfl⟩
 ·cases lo with
  | none=>simp [sliceBounds,HT.B8]
  | some i=>
   simp only [sliceBounds,HT.B8,Option.getD_none,show (1:Int) > 0 by decide,if_true]
   by_cases h:i < 0
   ·simp only [h,if_true] <;> omega
   ·simp only [h,if_false] <;> omega
 ·cases hi with
  | none=>simp [sliceBounds,HT.B8]
  | some i=>
   simp only [sliceBounds,HT.B8,Option.getD_none,show (1:Int) > 0 by decide,if_true]
   by_cases h:i < 0
   ·simp only [h,if_true] <;> omega
   ·simp only [h,if_false] <;> omega
theorem a4P (its:List Value)(lo hi:Option Int):slicePick its.toArray lo hi none=((its.drop (HT.B8 its.length 0 lo)).take (HT.B8 its.length its.length hi - HT.B8 its.length 0 lo)).toArray:=by
 obtain ⟨h1,h2,h3⟩:=a6q lo hi its.toArray.size
 unfold slicePick
 rw [h1,h2,h3]
 simp only [sliceRange_one,pick_run,List.size_toArray] <;> rfl
noncomputable def b6o (K:PySem.W.Frag):V→Option Int→Option Int→Hp→VK→Prop:=fun x lo hi H Q=>∃ a xs,x=.ref a∧L8 K H a xs∧∀ p,H p=none→Q (.ref p) (upd H p (.lst (a45 xs lo hi)))
theorem b3K:SlR X (b6o X.K):=by
 intro pins s σ H x v vl vu lo hi sl Q I rx hs pl pu h
 obtain ⟨a,xs,rfl,hx,q⟩:=h
 cases rx
 obtain ⟨its,r,ht,hz⟩:=I.list hx
 have hlen:=r.length
 refine ⟨"list",_,slot_list_getitem.lookup,ht.isList.typeIs,?_⟩
 refine wpAny_getItem_list_slice ht.isList hs pl pu .none (by simp) ?_ (by rw [List.size_toArray] <;> omega)
 rw [a4P,← hlen]
 refine ⟨.ref s.heap.objs.size,_,I.laid (t':=s.toks) (o:=.lst (a45 xs lo hi)) (fun b ob q=>Heap.get?_push_of_some _ q) (Nat.le_refl _) ?_,rfl,q _ (I.hok.fresh (Nat.le_refl _))⟩
 exact ⟨Nat.le_trans (a20 xs lo hi) hz,_,0,(r.drop (HT.B8 xs.length 0 lo)).take (HT.B8 xs.length xs.length hi - HT.B8 xs.length 0 lo),Heap.get?_push_size _ rfl⟩
theorem a5S:OpR X (compareOp .NotIn) (fun x y H Q=>∃ i j,x=.str i∧y=.str j∧Q (.bl (!(!(Builtin.Str.occurrences j i 0 j.length 1).isEmpty))) H):=by
 intro pins s σ H x y v u Q I rx ry h
 obtain ⟨i,j,rfl,rfl,q⟩:=h
 obtain ⟨t,rfl⟩:=rx
 obtain ⟨t',rfl⟩:=ry
 exact notIn_str ⟨.bl _,H,I,rfl,q⟩
theorem a52:K3 X (.builtin "len") (fun xs H Q=>∃ p ys,xs=[.ref p]∧(L8 X.K H p ys∨W5 X.K H p ys)∧Q (.int ys.length) H):=by
 intro pins s σ H xs us Q I r h
 obtain ⟨p,ys,rfl,hq,q⟩:=h
 obtain ⟨u,rfl,rx⟩:=vals1 r
 cases rx
 have hn:=a1y
 rcases hq with hq | hq
 ·obtain ⟨its,r',pl,hz⟩:=I.list hq
  have hlen:=r'.length
  exact Calls.call_len_list pl.isList (by simp only [List.size_toArray] <;> omega) ⟨.int ys.length,H,I.tok _,⟨s.toks + 1,by rw [List.size_toArray,hlen]⟩,q⟩
 ·obtain ⟨its,r',pl,hz⟩:=I.tuple hq
  have hlen:=r'.length
  exact len_tuple pl (by simp only [List.size_toArray] <;> omega) ⟨.int ys.length,H,I.tok _,⟨s.toks + 1,by rw [List.size_toArray,hlen]⟩,q⟩
theorem a6Q:K3 X (.builtin "len") (fun xs H Q=>∃ z,xs=[.str z]∧z.length≤sizeLine∧Q (.int z.length) H):=by
 intro pins s σ H xs us Q I r h
 obtain ⟨z,rfl,hz,q⟩:=h
 obtain ⟨u,rfl,t,rfl⟩:=vals1 r
 have hn:=a1y
 exact len_str (by omega) ⟨.int z.length,H,I.tok _,⟨_,rfl⟩,q⟩
theorem K3.or {f:Value}{r r':List V→Hp→VK→Prop}(h:K3 X f r)(h':K3 X f r'):K3 X f (fun xs H Q=>r xs H Q∨r' xs H Q):=by
 intro pins s σ H xs us Q I rs q
 rcases q with q | q
 ·exact h pins s σ H xs us Q I rs q
 ·exact h' pins s σ H xs us Q I rs q
theorem a6o:K3 X (.type "list") (fun xs H Q=>∃ p ys,xs=[.ref p]∧(L8 X.K H p ys∨W5 X.K H p ys)∧∀ l,H l=none→Q (.ref l) (upd H l (.lst ys))):=by
 intro pins s σ H xs us Q I r h
 obtain ⟨p,ys,rfl,hq,q⟩:=h
 obtain ⟨u,rfl,rx⟩:=vals1 r
 cases rx
 have fin:∀ (its:List Value),Vals ys its→ys.length≤sizeLine→∀ (h':Heap) (c':Nat),(∀ b o',s.heap.get? b=some o'→h'.get? b=some o')→
   h'.get? s.heap.objs.size=some { cls:=.type "list",dict:=none,data:=.seq its.toArray c',slots:=#[] }→EP X pins σ Q (.ref s.heap.objs.size) { s with heap:=h' }:=fun its r' hz h' c' kp e=>
  ⟨.ref s.heap.objs.size,_,I.laid (t':=s.toks) kp (Nat.le_refl _) (show F3 X.prog X.w _ h' _ (.lst ys) from ⟨hz,its,c',r',e⟩),rfl,q _ (I.hok.fresh (Nat.le_refl _))⟩
 rcases hq with hq | hq
 ·obtain ⟨its,r',pl,hz⟩:=I.list hq
  have hlen:=r'.length
  obtain ⟨o,ho,hc,n,hd⟩:=pl.isList
  exact call_list_seq p (.inl rfl) ho hc hd (fun h' c' kp e=>fin its r' hz h' c' kp e) (by simp only [List.size_toArray] <;> omega)
 ·obtain ⟨its,r',pl,hz⟩:=I.tuple hq
  have hlen:=r'.length
  obtain ⟨o,ho,hc,n,hd⟩:=pl
  exact call_list_seq p (.inr rfl) ho hc hd (fun h' c' kp e=>fin its r' hz h' c' kp e) (by simp only [List.size_toArray] <;> omega)
theorem a46:K3 X (.type "tuple") (fun xs H Q=>∃ p ys,xs=[.ref p]∧((L8 X.K H p ys∧∀ l,H l=none→Q (.ref l) (upd H l (.tup ys)))∨(W5 X.K H p ys∧Q (.ref p) H))):=by
 intro pins s σ H xs us Q I r h
 obtain ⟨p,ys,rfl,h⟩:=h
 obtain ⟨u,rfl,rx⟩:=vals1 r
 cases rx
 rcases h with ⟨hq,q⟩ | ⟨hq,q⟩
 ·obtain ⟨its,r',pl,hz⟩:=I.list hq
  have hlen:=r'.length
  refine call_tuple_list pl.isList (fun h' kp=>?_) (by simp only [List.size_toArray] <;> omega)
  have I1:Inv X pins σ H { s with heap:=h' }:=I.kept (t':=s.toks) kp
  have I2:Inv X pins σ (upd H h'.objs.size (.tup ys)) { s with heap:=h'.push { cls:=.type "tuple",data:=.seq its.toArray } }:=
   I1.laid (t':=s.toks) (fun b o e=>Heap.get?_push_of_some _ e) (Nat.le_refl _) (show F3 X.prog X.w _ _ _ (.tup ys) from ⟨hz,its,r',IsTup.new _ _⟩)
  exact ⟨.ref h'.objs.size,_,I2,rfl,q _ (I1.hok.fresh (Nat.le_refl _))⟩
 ·obtain ⟨its,r',pl,hz⟩:=I.tuple hq
  exact call_tuple_same pl ⟨.ref p,H,I,rfl,q⟩
noncomputable def tyV (K:PySem.W.Frag)(T:String)(x:V)(H:Hp):Prop:=match x with
 | .str _=>T="str"
 | .int _=>T="int"
 | .ref p=>(T="list"∧∃ xs,L8 K H p xs)∨(T="tuple"∧∃ o,K.lookup p=some o∧o.cls=.type "tuple"∧o.dict=none)∨
   (T="dict"∧((∃ kvs,H p=some (.dK kvs))∨∃ kvs,H p=some (.dT kvs)))∨(T="set"∧∃ S n,H p=some (.set S n))
 | _=>False
theorem b5H {pins:List (Addr×Obj)}{σ:St}{H:Hp}{s:Shared}{T:String}{x:V}{v:Value}(I:Inv X pins σ H s)(r:RelV x v)(ty:tyV X.K T x H):
  s.TypeIs v T∧∀ a,v=.ref a→∃ ob,s.heap.get? a=some ob∧ob.dict=none:=by
 cases x with
 | str z=>
  obtain ⟨t,rfl⟩:=r
  cases (show T="str" from ty)
  exact ⟨typeIs_str s z t,fun _ e=>nomatch e⟩
 | int i=>
  obtain ⟨t,rfl⟩:=r
  cases (show T="int" from ty)
  exact ⟨typeIs_int s i t,fun _ e=>nomatch e⟩
 | ref p=>
  cases r
  rcases ty with ⟨rfl,xs,hq⟩ | ⟨rfl,o,hk,hc,hd⟩ | ⟨rfl,hk⟩ | ⟨rfl,S,n,hk⟩
  ·obtain ⟨its,_,pl,_⟩:=I.list hq
   refine ⟨pl.isList.typeIs,fun a e=>?_⟩
   cases e
   obtain ⟨o,n,e,c,hd,_⟩:=pl
   exact ⟨o,e,hd⟩
  ·refine ⟨⟨o,I.kIn p o hk,hc⟩,fun a e=>?_⟩
   cases e
   exact ⟨o,I.kIn _ o hk,hd⟩
  ·have z:∃ o,s.heap.get? p=some o∧o.ExactDict:=by
    rcases hk with ⟨kvs,hk⟩ | ⟨kvs,hk⟩
    ·obtain ⟨_,_,_,_,o,_,_,e,ex,_⟩:=I.hok p _ hk
     exact ⟨o,e,ex⟩
    ·obtain ⟨_,_,_,_,o,_,_,e,ex,_⟩:=I.hok p _ hk
     exact ⟨o,e,ex⟩
   obtain ⟨o,e,ex⟩:=z
   refine ⟨⟨o,e,ex.1⟩,fun a e2=>?_⟩
   cases e2
   exact ⟨o,e,ex.2.1⟩
  ·obtain ⟨o,_,_,_,e,ex,_⟩:=I.hok p _ hk
   refine ⟨⟨o,e,ex.1⟩,fun a e2=>?_⟩
   cases e2
   exact ⟨o,e,ex.2.1⟩
 | _=>exact False.elim ty
noncomputable def tBM (K:PySem.W.Frag)(T:String)(r:V→List V→Hp→VK→Prop)(to:TE)(t:TA):TE:=fun σ H Q=>to σ H fun x H1=>tyV K T x H1∧t σ H1 fun xs H2=>r x xs H2 Q
variable {o e:Expr}{es:List Expr}{to:TE}{t:TA}{name:Str}{apos cpos:Pos}{T id:String}{r:V→List V→Hp→VK→Prop}
theorem a9J (pa:PlainAttrs T)(slot:Slot T name id)(hty:typeOf (.builtin id)=pure (.type "method_descriptor")) (hm:MtR X id r) (ho:PE X o to) (ha:PA X (e::es) t)
  (hbase:attributeBase o name X.env (eval o X.env)=eval o X.env:=by rfl)
  (hfew:((backTo cpos (starEach (e::es) X.env)).all (fun x=>!x.1) && (backToKw cpos (keywordEach [] X.env)).all (fun x=>x.1.isSome)
   && decide ((e::es).length + ([]:List Keyword).length + (if ([]:List Keyword).isEmpty then 0 else 1) < 30))=true:=by rfl)
  (hline:(apos.endLine == cpos.line)=true:=by rfl) (hs:starEach (e::es) X.env=(false,eval e X.env)::starEach es X.env:=by rfl) (hplain:(backTo cpos (starEach es X.env)).any (·.1)=false:=by rfl):
  PE X (.Call (.Attribute o name apos) (e::es) [] cpos) (tBM X.K T r to t):=by
 intro pins s σ H Q I h
 refine wpAny_Call_method_late hbase hfew hline rfl (L7 (ho pins s σ H _ I h) fun v s1 ⟨x,H1,I1,r1,ty,q1⟩=>?_)
 obtain ⟨h1,h2⟩:=b5H I1 r1 ty
 refine ⟨T,id,pa,slot,hty,h1,h2,?_⟩
 have hA:=ha cpos pins s1 σ H1 _ I1 q1
 rw [hs] at hA ⊢
 refine Calls.callWith_builtin (by show (false || (backTo cpos (starEach es X.env)).any (·.1))=false; rw [hplain] <;> rfl) (Calls.evalArgs_plain ?_)
 exact L7 hA fun us s2 ⟨vs,H2,I2,r2,q2⟩=>hm pins s2 σ H2 x vs v us Q I2 r1 r2 q2
end
end L2
namespace L2
open PySem PySem.Spec PyProof.Rows
noncomputable def MtM (X:Cx)(id:String)(r:V→List V→Hp→VK→Prop):Prop:=
 ∀ (pins:List (Addr×Obj)) (s:Shared) (σ:St) (H:Hp) (x:V) (xs:List V) (v:Value) (us:List Value) (Q:VK),Inv X pins σ H s→RelV x v→Vals xs us→r x xs H Q→
  wpAny (model X.prog X.w) X.A (call (.builtin id) (v::us)) (EP X pins σ Q) X.xe s
theorem Vals.one:∀ {x:V} {us:List Value},Vals [x] us→∃ u,us=[u]∧RelV x u
 | _,_,.cons r .nil=>⟨_,rfl,r⟩
section
variable {X:Cx}{pins:List (Addr×Obj)}{σ:St}{H:Hp}{s:Shared}{l b:Addr}{xs ys zs:List V}
theorem Inv.b6v {its its':List Value}{n:Nat}{f:Array Value→Array Value}{t':Nat}(I:Inv X pins σ H s)(hH:H l=some (.lst xs))
  (e:s.heap.get? l=some { cls:=.type "list",data:=.seq its.toArray n }) (hf:f its.toArray=its'.toArray) (hv:Vals ys its') (hz:ys.length≤sizeLine):
  Inv X pins σ (upd H l (.lst ys)) { s with heap:=s.heap.update l (Obj.mapSeq f),toks:=t' }:=by
 have q:=PySem.IsL.update e f
 rw [hf] at q
 refine I.write (x:=l) (e:=l) (by rw [hH]; exact trivial) (.inl rfl) (fun b' u hb hu=>(Heap.get?_update_other s.heap (Obj.mapSeq f) (Ne.symm hb)).trans hu) ⟨_,q⟩ ?_
 exact ⟨hz,its',_,hv,q⟩
theorem Inv.b7W {its:List Value}{t':Nat}(I:Inv X pins σ H s)(hv:Vals ys its)(hz:ys.length≤sizeLine):
  Inv X pins σ (upd H s.heap.objs.size (.lst ys)) { s with heap:=s.heap.push { cls:=.type "list",data:=.seq its.toArray },toks:=t' }:=
 I.laid (fun _ _ q=>Heap.get?_push_of_some _ q) (Nat.le_refl _) ⟨hz,its,0,hv,Heap.get?_push_size _ rfl⟩
theorem Inv.fresh (I:Inv X pins σ H s):H s.heap.objs.size=none:=I.hok.fresh (Nat.le_refl _)
theorem Inv.b7f (I:Inv X pins σ H s)(hH:H l=some (.lst xs)):xs.length≤sizeLine∧∃ (its:List Value) (n:Nat),Vals xs its∧xs.length=its.length∧s.heap.get? l=some { cls:=.type "list",data:=.seq its.toArray n }:=by
 obtain ⟨z,its,n,r,e⟩:=I.hok l _ hH
 exact ⟨z,its,n,r,r.length,e⟩
end
section
variable {X:Cx}
noncomputable def b36:V→List V→Hp→VK→Prop:=fun x vs H Q=>∃ l xs y,x=.ref l∧vs=[y]∧H l=some (.lst xs)∧xs.length < sizeLine∧Q .A3 (upd H l (.lst (xs++[y])))
theorem a9S:MtM X "list.append" b36:=by
 intro pins s σ H x vs v us Q I rx rv h
 obtain ⟨l,xs,y,rfl,rfl,hH,hz,q⟩:=h
 cases rx
 obtain ⟨u,rfl,ru⟩:=rv.one
 obtain ⟨z,its,n,r,hl,e⟩:=I.b7f hH
 refine call_meets F.slot_list_append ⟨_,e,rfl⟩ F.entry_list_append (F.args_list_append_2 _ _) (PySem.list_append l its.toArray n u (by rw [List.size_toArray]; omega)) ⟨e,?_⟩
 refine ⟨.A3,_,I.b6v (its':=its++[u]) hH e (by simp) (r.append (.cons ru .nil)) ?_,rfl,q⟩
 rw [List.length_append,List.length_singleton]
 omega
end
end L2
namespace Att
open PySem PySem.W PySem.Calls PyProof.Rows
theorem a3u {P:Params}{h:Heap}:∀ (ns:List Int) (vs:List Value),WellAll P h vs (ns.map WData.int)→IntsAre vs ns:=by
 intro ns
 induction ns with
 | nil=>
  intro vs w
  rw [List.map_nil] at w
  cases w
  exact .nil
 | cons n ns ih=>
  intro vs w
  rw [List.map_cons] at w
  cases w with
  | cons a b=>
   cases a
   exact .cons _ _ (ih _ b)
theorem b0L {l:OpenLaw}{n:Nat}(hn:l.most=some n){P:Params}{h:Heap}{args:List WData}{vals:List Value}
  (hpre:l.row.toRowW.claim.pre args=true) (hwl:WellAll P h vals args):
  ∃ a vs ns,vals=[Value.ref a]∧args=[WData.list (ns.map WData.int)]∧h.get? a=some { cls:=.type "list",data:=.seq vs.toArray }∧IntsAre vs ns∧ns.length≤n:=by
 have hsh:WShape.hasAll [] args [.list .int]=true:=(pre_splitW hpre).1
 have hc:l.pre.holds [] { args:=args }=true:=(pre_splitW hpre).2
 obtain ⟨d,r,rfl,h1,h2⟩:=hasAllW_cons hsh
 obtain rfl:=hasAllW_nil h2
 obtain ⟨xs,rfl,h3⟩:=hasW_list h1
 obtain ⟨ns,rfl⟩:=items_int h3
 have hlen:ns.length≤n:=by
  unfold OpenLaw.pre at hc
  have h4:(WTm.not (.lt (.lit (.int (n:Int))) (.len (.arg 0)))).holds [] { args:=[.list (ns.map .int)] }=true:=by
   have h4:=(holds_andW hc).1
   rw [hn] at h4
   exact h4
  have h5:=condW_of h4 (w_not (w_lt w_lit (w_len_list (w_arg rfl))))
  rw [List.length_map] at h5
  refine Nat.le_of_not_lt fun q=>?_
  have q':(n:Int) < ((ns.length:Nat):Int):=by omega
  first
   | (rw [decide_eq_true q'] at h5; exact absurd h5 (by decide))
   | (simp at h5; omega)
 cases hwl with
 | cons w1 w2=>
  cases w2
  cases w1 with
  | list ho hall=>exact ⟨_,_,ns,rfl,rfl,ho,a3u ns _ hall,hlen⟩
theorem a98 (l:OpenLaw)(args:List WData):l.row.toRowW.claim.post args (.bool true) args=true:=
 postW_of (r:=l.row.toRowW) (X:=(true == true))
  (show WShape.has [] (.bool true) .bool=true by first | rfl | decide | simp [WShape.has,WShape.arms,WShape.armsAll])
  (show (WTm.eq .res (.lit (.bool true))).value [] { args:=args,res:=some (.bool true),after:=args }=some (.bool (true == true)) from w_eq_bool (w_res rfl) w_lit) rfl
theorem a7J {l:OpenLaw}{n:Nat}{q:Program}{loose:List Str}{XP:(Str→Option Value)→Heap→Prop}{YP:World→Heap→Prop}{d:DefRec}
  (hn:l.most=some n) (hdf:d.params.defaults=[])
  (call:∀ (w:World) (s₀ s₁:Shared) (mg mb:Str→Option Value) (fa:Addr) (o:Obj) (pm cd doc:Value) (a:Addr) (vs:List Value) (ns:List Int),
   Ground q loose [] XP w s₀ mg mb s₁.heap→YP w s₁.heap→
   s₁.heap.get? fa=some o→o.data=.func (docDef d.name d.params d.body d.scope pm cd doc)→s₁.heap.CodeRec cd d.name→mg d.name=some (.ref fa)→
   s₁.heap.get? a=some { cls:=.type "list",data:=.seq vs.toArray }→IntsAre vs ns→ns.length≤n→s₁.gens=#[]→
   codeAny (model l.prog w) callerA (.call (.ref fa) ⟨[.ref a],[]⟩) (fun r s'=>r=.ok (.ret (.bool true))∧OldK s₁.heap s'.heap∧s'.os=s₁.os∧AllBare s'.gens) s₁):
  WalkO q loose XP YP l.row.toRowW d [] (fun f vs=>PySem.call f vs):=by
 intro w s₀ s₁ mg mb G Y fa o pm cd doc dV kV ho hd hcd hD hmg hg args vals as hpre hlay hrd hwl hlo
 obtain rfl:dV=.none:=Dflts.none hD hdf
 obtain rfl:kV=.none:=Dflts.noKw hD
 obtain ⟨a,vs,ns,rfl,rfl,hobj,hints,hlen⟩:=b0L hn hpre hwl
 refine enter_call (codeAny_mono (call w s₀ s₁ mg mb fa o pm cd doc a vs ns G Y ho (fd_plain hd) hcd hmg hobj hints hlen hg) fun r s' hq=>?_)
 obtain ⟨rfl,h2,h3,h4⟩:=hq
 exact ⟨.inl ⟨.bool true,.bool true,[],rfl,fun _=>rfl,.bool true,a98 l _,fun _=>⟨List.Pairwise.nil,fun _ hm=>(nomatch hm)⟩⟩,h2,h3,h4⟩
end Att
namespace L2
open PySem PySem.Spec PyProof.Rows
theorem a5h:∀ {vs:List Value} {ns:List Int},IntsAre vs ns→Vals (ns.map V.int) vs
 | _,_,.nil=>.nil
 | _,_,.cons n t h=>.cons ⟨t,rfl⟩ (a5h h)
noncomputable def b5Z (H:Hp):Prop:=∀ b,H b=none∨∃ o xs,H b=some (.Z9 o (.lst xs))
theorem b2p {P:Program}{w:World}{K:PySem.W.Frag}{mg mb:Str→Option Value}{CX:CXT}{k:Nat}{fa a:Addr}{fd:FuncData}{x:Str}{sp:Sp}{s₁:Shared}{vs:List Value}{ns:List Int}
  (KX:K.In s₁.heap) (hns:s₁.heap.Ns mainGlobals mg) (hb:s₁.heap.Ns builtinsNs mb) (hbb:∀ x:Str,x≠"__name__"→mb x=bootBuiltins x) (hlim:s₁.heap.NoLimit) (hg:s₁.gens=#[])
  (ha:s₁.heap.get? a=some { cls:=.type "list",data:=.seq vs.toArray }) (hi:IntsAre vs ns) (hl:ns.length≤sizeLine) (hr:U5 k callerA)
  (F:∀ base:Heap,K.In base→base.Ns mainGlobals mg→K5 P w K mg base CX k fa fd [x] sp) (hbind:∀ (s:Shared) (u:Value),BindsTo s fd ⟨[u],[]⟩ [(x,u)])
  (hsp:∀ H:Hp,b5Z H→L8 K H a (ns.map V.int)→sp [.ref a] H (fun v _=>v=.bl true) fun _ _ _=>False)
  (hCX:∀ H e s',CX [] H s₁ (fun _ _ _=>False) e s'→False):
  codeAny (model P w) callerA (.call (.ref fa) ⟨[.ref a],[]⟩) (fun r s'=>r=.ok (.ret (.bool true))∧OldK s₁.heap s'.heap∧s'.os=s₁.os∧AllBare s'.gens) s₁:=by
 have rv:=a5h hi
 have lenV:=hi.length
 
 have core:∀ H:Hp,b5Z H→L8 K H a (ns.map V.int)→HOk P w H s₁.heap→(∀ b,H b≠none→b=a)→(H a≠none→K.lookup a=none)→
   codeAny (model P w) callerA (.call (.ref fa) ⟨[.ref a],[]⟩) (fun r s'=>r=.ok (.ret (.bool true))∧OldK s₁.heap s'.heap∧s'.os=s₁.os∧AllBare s'.gens) s₁:=by
  intro H hO hS hok hA hK
  have base_of:∀ {b:Addr} {o:Obj},s₁.heap.get? b=some o→H b=none→(a6G s₁.heap H).get? b=some o:=fun e n=>b2I e n
  have noA:∀ {b:Addr} {o:Obj} {es:Array DictEntry} {ep:Nat},s₁.heap.get? b=some o→o.data=.dict es ep→H b=none:=fun {b o es ep} e d=>by
   cases q:H b with
   | none=>rfl
   | some u=>
    have e':b=a:=hA b (by rw [q]; simp)
    subst e'
    rw [ha] at e; cases e
    have d':Data.seq vs.toArray _=Data.dict es ep:=d
    cases d'
  have nsK:∀ {b:Addr} {m:Str→Option Value},s₁.heap.Ns b m→(a6G s₁.heap H).Ns b m:=fun {b m} ⟨o,es,ep,e,d,r⟩=>⟨o,es,ep,base_of e (noA e d),d,r⟩
  have hKb:K.In (a6G s₁.heap H):=fun b o e=>base_of (KX b o e) (by
   cases q:H b with
   | none=>rfl
   | some u=>
    have e':b=a:=hA b (by rw [q]; simp)
    subst e'
    rw [hK (by rw [q]; simp)] at e; cases e)
  have hM:Mod K mg (a6G s₁.heap H):=⟨hKb,nsK hns,⟨mb,nsK hb,hbb⟩,let ⟨mc,h1,h2⟩:=hlim; ⟨mc,nsK h1,h2⟩⟩
  have e0:b1h P w K mg (a6G s₁.heap H) callerA [] s₁ H:=⟨rfl,hM,fun b o e=>b31 e,Nat.le_of_eq (b0r _ _),trivial,fun b hb=>absurd (show b∈([]:List Addr) from hb) (by simp),hok,.of_eq hg⟩
  refine codeAny_mono ((F _ hKb (nsK hns)).run callerA [] s₁ H ⟨[.ref a],[]⟩ [.ref a] [.ref a] _ _ hr e0 (hbind s₁ (.ref a)) (.cons rfl .nil) (hsp H hO hS)) fun r s' h=>?_
  cases r with
  | error e=>exact (hCX H e s' h).elim
  | ok fl=>
   cases fl with
   | next=>exact False.elim h
   | brk=>exact False.elim h
   | cont=>exact False.elim h
   | ret u=>
    obtain ⟨v,H',os,bare,un,hok',r',q⟩:=h
    have q':v=.bl true:=q
    subst q'
    obtain rfl:u=Value.bool true:=r'
    refine ⟨rfl,OldK.of_keep fun b o e=>?_,os,bare⟩
    cases q:H b with
    | none=>exact un.keep b o e q (by intro z; exact absurd (show b∈([]:List Addr) from z) (by simp)) (by simp)
    | some u=>
     rcases hO b with z | ⟨ob,xs,z⟩
     ·rw [q] at z; cases z
     ·have z2:=un.frzs b ob _ z
      obtain ⟨e1,_⟩:=hok b _ z
      obtain ⟨e2,_⟩:=hok' b _ z2
      rw [e] at e1; cases e1
      exact e2
 cases hk:K.lookup a with
 | some o=>
  
  have e:=KX a o hk
  rw [ha] at e
  cases e
  refine core (fun _=>none) (fun _=>.inl rfl) (.inr ⟨_,vs.toArray,_,hk,rfl,rfl,rfl,by rw [List.size_toArray,lenV]; exact hl,by simpa using rv⟩) (fun b u z=>by have z':(none:Option HO)=some u:=z; cases z') (fun b z=>absurd rfl z) fun z=>absurd rfl z
 | none=>
  refine core (fun b=>if b=a then some (.Z9 { cls:=.type "list",data:=.seq vs.toArray } (.lst (ns.map V.int))) else none) (fun b=>?_) (.inl (.inr ⟨{ cls:=.type "list",data:=.seq vs.toArray },if_pos rfl⟩)) (fun b u z=>?_) (fun b z=>?_) fun _=>hk
  ·by_cases hb:b=a
   ·exact .inr ⟨_,_,if_pos hb⟩
   ·exact .inl (if_neg hb)
  ·by_cases hb:b=a
   ·have z':=(if_pos hb).symm.trans z
    cases z'
    subst hb
    exact ⟨ha,by rw [List.length_map]; exact hl,vs,_,rv,ha⟩
   ·have z':=(if_neg hb).symm.trans z
    cases z'
  ·by_cases hb:b=a
   ·exact hb
   ·exact absurd (if_neg hb) z
end L2
namespace L2
open PySem PySem.Spec PyProof.Rows
noncomputable abbrev KOf {K:PySem.W.Frag}{h:Heap}(_:K.In h):PySem.W.Frag:=K
theorem b27 {l:PySem.W.OpenLaw}{n k:Nat}{q:Program}{loose:List Str}{XP:(Str→Option Value)→Heap→Prop}{YP:World→Heap→Prop}{d:DefRec}{K:Params→PySem.W.Frag}{CX:World→CXT}{sp:World→Sp}{x:Str}
  (hn:l.most=some n) (hn2:n≤sizeLine) (hdf:d.params.defaults=[]) (hr:U5 k callerA)
  (hY:∀ (w:World) (h:Heap),YP w h→(K w.params).In h)
  (F:∀ (w:World) (mg:Str→Option Value) (fa:Addr) (h:Heap),(K w.params).In h→h.Ns mainGlobals mg→mg d.name=some (.ref fa)→
   ∃ fd:FuncData,(∀ (s:Shared) (u:Value),BindsTo s fd ⟨[u],[]⟩ [(x,u)])∧
    ∀ base:Heap,(K w.params).In base→base.Ns mainGlobals mg→K5 l.prog w (K w.params) mg base (CX w) k fa fd [x] (sp w))
  (hsp:∀ (w:World) (H:Hp) (a:Addr) (ns:List Int),ns.length≤n→b5Z H→L8 (K w.params) H a (ns.map V.int)→sp w [.ref a] H (fun v _=>v=.bl true) fun _ _ _=>False)
  (hCX:∀ (w:World) (H:Hp) (s:Shared) (e:Value) (s':Shared),CX w [] H s (fun _ _ _=>False) e s'→False):
  PySem.W.WalkO q loose XP YP l.row.toRowW d [] (fun f vs=>PySem.call f vs):=by
 refine Att.a7J hn hdf fun w s₀ s₁ mg mb fa o pm cd doc a vs ns G Y ho hd hcd hmg hobj hints hlen hg=>?_
 have KX:=hY w _ Y
 obtain ⟨fd,hb,hF⟩:=F w mg fa _ KX G.T.g hmg
 exact b2p KX G.T.g G.T.b G.T.builtins G.T.nolimit hg hobj hints (Nat.le_trans hlen hn2) hr hF hb (fun H hO hS=>hsp w H a ns hlen hO hS) fun H e s'=>hCX w H s₁ e s'
end L2
namespace L2
open PySem PySem.Spec PyProof.Rows
noncomputable def a1U (s:Stmt):Arguments:=match s with
 | .FunctionDef _ a _ _ _ _ _ _ _ _=>a
 | _=>{ posonlyargs:=[],args:=[],vararg:=none,kwonlyargs:=[],kw_defaults:=[],kwarg:=none,defaults:=[] }
noncomputable def W4 (s:Stmt):List Stmt:=match s with
 | .FunctionDef _ _ b _ _ _ _ _ _ _=>b
 | _=>[]
noncomputable def l9 (s:Stmt):Scope:=match s with
 | .FunctionDef _ _ _ _ _ _ sc _ _ _=>sc
 | _=>{ kind:=.function,names:=[],isGenerator:=false,isCoroutine:=false }
noncomputable abbrev CX0:CXT:=fun _ _ _ _ _ _=>False
noncomputable abbrev E0:XK:=fun _ _ _=>False
theorem b7c {X:Cx}:Passes CX0 X E0:=fun _ _ _ _ _ _ _ h=>h.elim
structure Fun (K:PySem.W.Frag) (x qual:Str) (st:Stmt) (f:Addr) (fd:FuncData):Prop where
 ex:∃ (oc:Value) (od:Option Addr) (kV doc pm:Value) (an:Option Addr) (cdv ct:Value) (osl:Array (Option Value)),
  fd=PySem.W.fnOf x qual (a1U st) (W4 st) (l9 st) .none kV doc pm an cdv ct∧K.lookup f=some ⟨oc,od,.func fd,osl⟩∧PySem.W.codeIn K cdv qual=true
 kp:PySem.W.keepIn K (.ref f)=true
section
variable {P:Program}{w:World}{K:PySem.W.Frag}{mg:Str→Option Value}{base:Heap}
theorem Fun.ok {x qual:Str}{st:Stmt}{f:Addr}{fd:FuncData}{N ps:List Str}{k:Nat}{sp:Sp}(F:Fun K x qual st f fd)(S:A0 N ps (l9 st))(len:∀ vs H Q E,sp vs H Q E→vs.length=ps.length)
  (hbody:∀ (cdv:Value) (A:Around) (outer:List Env) (s:Shared) (H:Hp) (vs:List V) (Q:VK) (E:XK),U5 k (A.deeper (envOfC qual (l9 st) s.heap.objs.size f cdv))→sp vs H Q E→
   ∃ t,PSs (a7A CX0 P w K mg base N qual (l9 st) f cdv A outer s H E).nox (W4 st) t∧t { nx:=fun _ H'=>Q .A3 H',rt:=Q } (start N vs) H):K5 P w K mg base CX0 (k + 1) f fd ps sp:=by
 obtain ⟨oc,od,kV,doc,pm,an,cdv,ct,osl,rfl,lk,hcd⟩:=F.ex
 refine b6L lk hcd S len fun A outer s H vs Q E hr hsp=>?_
 obtain ⟨t,h,q⟩:=hbody cdv A outer s H vs Q E hr hsp
 exact ⟨t,h.nox,q⟩
theorem b5I {x qual:Str}{st:Stmt}{f:Addr}{oc:Value}{od an:Option Addr}{osl:Array (Option Value)}{kV doc pm cdv ct:Value}(l:K.lookup f=some ⟨oc,od,.func (PySem.W.fnOf x qual (a1U st) (W4 st) (l9 st) .none kV doc pm an cdv ct),osl⟩)
  (c:PySem.W.codeIn K cdv qual=true) (k:PySem.W.keepIn K (.ref f)=true):Fun K x qual st f (PySem.W.fnOf x qual (a1U st) (W4 st) (l9 st) .none kV doc pm an cdv ct):=⟨⟨oc,od,kV,doc,pm,an,cdv,ct,osl,rfl,l,c⟩,k⟩
end
noncomputable def j4 (H H':Hp):Prop:=∀ b o,H b=some o→H' b=some o
theorem j4.refl (H:Hp):j4 H H:=fun _ _ h=>h
theorem j4.trans {H H1 H2:Hp}(a:j4 H H1)(b:j4 H1 H2):j4 H H2:=fun c o h=>b c o (a c o h)
theorem j4.free {H H':Hp}(e:j4 H H'){l:Addr}(h:H' l=Option.none):H l=Option.none:=by
 cases q:H l with
 | none=>rfl
 | some o=>
  rw [e l o q] at h
  cases h
theorem j4.seq {K:PySem.W.Frag}{H H':Hp}{a:Addr}{xs:List V}(e:j4 H H')(h:L8 K H a xs):L8 K H' a xs:=by
 rcases h with (h | ⟨o,h⟩) | h
 ·exact .inl (.inl (e _ _ h))
 ·exact .inl (.inr ⟨o,e _ _ h⟩)
 ·exact .inr h
end L2
namespace L2
open PySem PySem.Spec PyProof.Rows
section
variable {κ:Type}[DecidableEq κ]
noncomputable def a0X (kvs:List (κ×V))(k:κ):Option V:=(kvs.find? fun kv=>decide (kv.1=k)).map (·.2)
noncomputable def putK (kvs:List (κ×V))(k:κ)(v:V):List (κ×V):=
 if (kvs.any fun kv=>decide (kv.1=k))=true then kvs.map (fun kv=>if kv.1=k then (kv.1,v) else kv) else kvs++[(k,v)]
theorem a1T {p:κ×V}{r:List (κ×V)}{k:κ}(e:p.1=k):a0X (p::r) k=some p.2:=by simp [a0X,List.find?_cons,e]
theorem a1S {p:κ×V}{r:List (κ×V)}{k:κ}(e:¬ p.1=k):a0X (p::r) k=a0X r k:=by simp [a0X,List.find?_cons,e]
theorem a63 (k:κ):∀ kvs:List (κ×V),(kvs.any fun kv=>decide (kv.1=k))=(a0X kvs k).isSome
 | []=>rfl
 | p::r=>by
  rw [List.any_cons]
  by_cases e:p.1=k
  ·simp only [a1T e,decide_eq_true e,Bool.true_or,Option.isSome_some]
  ·rw [a1S e,decide_eq_false e,Bool.false_or]; exact a63 k r
theorem a26 (kvs:List (κ×V))(k:κ)(v:V):(putK kvs k v).length≤kvs.length + 1:=by
 unfold putK
 split
 ·rw [List.length_map]; omega
 ·rw [List.length_append,List.length_cons,List.length_nil]; omega
theorem a1k.Z3 {o:Option V}{u:Option Value}(r:a1k o u):o.isSome=u.isSome:=by
 cases o with
 | none=>cases u with
  | none=>rfl
  | some _=>exact (show False from r).elim
 | some _=>cases u with
  | none=>exact (show False from r).elim
  | some _=>rfl
theorem a1k.getD {o:Option V}{u:Option Value}{d:V}{d':Value}(r:a1k o u)(rd:RelV d d'):RelV (o.getD d) (u.getD d'):=by
 cases o with
 | none=>cases u with
  | none=>exact rd
  | some _=>exact (show False from r).elim
 | some _=>cases u with
  | none=>exact (show False from r).elim
  | some _=>exact r
theorem KV.val {kvs:List (κ×V)}{vs:List (κ×Value)}(r:KV kvs vs)(k:κ):a1k (a0X kvs k) (valueAt vs k):=by
 unfold KV at r
 induction r with
 | nil=>exact True.intro
 | @cons p q ps qs h t ih=>
  obtain ⟨h1,h2⟩:=h
  by_cases e:p.1=k
  ·have e':q.1=k:=h1.symm.trans e
   have b:valueAt (q::qs) k=some q.2:=by simp [valueAt,List.find?_cons,e']
   rw [a1T e,b]; exact h2
  ·have e':¬ q.1=k:=fun z=>e (h1.trans z)
   have b:valueAt (q::qs) k=valueAt qs k:=by simp [valueAt,List.find?_cons,e']
   rw [a1S e,b]; exact ih
theorem KV.any {kvs:List (κ×V)}{vs:List (κ×Value)}(r:KV kvs vs)(k:κ):(kvs.any fun kv=>decide (kv.1=k))=vs.any fun kv=>decide (kv.1=k):=by
 unfold KV at r
 induction r with
 | nil=>rfl
 | cons h t ih=>rw [List.any_cons,List.any_cons,ih,h.1]
theorem KV.repl {kvs:List (κ×V)}{vs:List (κ×Value)}(r:KV kvs vs)(k:κ){y:V}{u:Value}(ry:RelV y u):
  KV (kvs.map fun kv=>if kv.1=k then (kv.1,y) else kv) (vs.map fun kv=>if kv.1=k then (kv.1,u) else kv):=by
 unfold KV at r ⊢
 induction r with
 | nil=>exact .nil
 | @cons p q ps qs h t ih=>
  rw [List.map_cons,List.map_cons]
  refine .cons ?_ ih
  obtain ⟨h1,h2⟩:=h
  by_cases e:p.1=k
  ·rw [if_pos e,if_pos (h1.symm.trans e)]; exact ⟨h1,ry⟩
  ·rw [if_neg e,if_neg (fun z=>e (h1.trans z))]; exact ⟨h1,h2⟩
theorem KV.put {kvs:List (κ×V)}{vs:List (κ×Value)}(r:KV kvs vs)(k:κ){y:V}{u:Value}(ry:RelV y u):KV (putK kvs k y) (stored vs k u):=by
 unfold putK stored
 rw [r.any k]
 by_cases e:(vs.any fun kv=>decide (kv.1=k))=true
 ·rw [if_pos e,if_pos e]; exact r.repl k ry
 ·rw [if_neg e,if_neg e]; exact Paired.snoc r ⟨rfl,ry⟩
theorem KV.length {kvs:List (κ×V)}{vs:List (κ×Value)}(r:KV kvs vs):kvs.length=vs.length:=Paired.length r
end
theorem a24 {P:Program}{w:World}{k:Key}{u:Value}(r:RelV (kV k) u):(z5 P w).is k u=true:=by
 cases k with
 | inl i=>obtain ⟨t,e⟩:=(show ∃ t,u=Value.int i t from r); subst e; exact a7f P w i t
 | inr x=>obtain ⟨t,e⟩:=(show ∃ t,u=Value.str x t from r); subst e; exact a7C P w x t
theorem a5f {P:Program}{w:World}:∀ {ks:List Key} {us:List Value},Vals (ks.map kV) us→ItemsAre (z5 P w) ks us
 | [],_,r=>by rw [List.map_nil] at r; cases r; exact .nil
 | k::ks,_,r=>by
  rw [List.map_cons] at r
  cases r with
  | cons h t=>exact .cons (a24 h) (a5f t)
noncomputable abbrev KT (H:Hp):List (List Key×V)→List (List Key×Addr×Value)→Prop:=Paired fun p q=>p.1=q.1∧H q.2.1=some (.tup (p.1.map kV))∧RelV p.2 q.2.2
theorem KT.val {H:Hp}{kvs:List (List Key×V)}{xs:List (List Key×Addr×Value)}(r:KT H kvs xs)(k:List Key):a1k (a0X kvs k) ((atKey xs k).map (·.2)):=by
 induction r with
 | nil=>exact True.intro
 | @cons p q ps qs h t ih=>
  obtain ⟨h1,_,h2⟩:=h
  by_cases e:p.1=k
  ·have e':q.1=k:=h1.symm.trans e
   have b:atKey (q::qs) k=some q.2:=by simp [atKey,List.find?_cons,e']
   rw [a1T e,b]; exact h2
  ·have e':¬ q.1=k:=fun z=>e (h1.trans z)
   have b:atKey (q::qs) k=atKey qs k:=by simp [atKey,List.find?_cons,e']
   rw [a1S e,b]; exact ih
theorem KT.repl {H:Hp}{kvs:List (List Key×V)}{xs:List (List Key×Addr×Value)}(r:KT H kvs xs)(k:List Key){y:V}{u:Value}(ry:RelV y u):
  KT H (kvs.map fun kv=>if kv.1=k then (kv.1,y) else kv) (xs.map (putAt k u)):=by
 induction r with
 | nil=>exact .nil
 | @cons p q ps qs h t ih=>
  rw [List.map_cons,List.map_cons]
  refine .cons ?_ ih
  obtain ⟨h1,h2,h3⟩:=h
  unfold putAt
  by_cases e:p.1=k
  ·rw [if_pos e,if_pos (h1.symm.trans e)]; exact ⟨h1,h2,ry⟩
  ·rw [if_neg e,if_neg (fun z=>e (h1.trans z))]; exact ⟨h1,h2,h3⟩
theorem KT.put {H:Hp}{kvs:List (List Key×V)}{xs:List (List Key×Addr×Value)}(r:KT H kvs xs)(k:List Key){b:Addr}{y:V}{u:Value}(hb:H b=some (.tup (k.map kV)))(ry:RelV y u):
  KT H (putK kvs k y) (storedH xs k b u):=by
 have e:(kvs.any fun kv=>decide (kv.1=k))=(atKey xs k).isSome:=by
  rw [a63,(r.val k).Z3,Option.isSome_map]
 unfold putK storedH
 rw [e]
 by_cases q:(atKey xs k).isSome=true
 ·rw [if_pos q,if_pos q]; exact r.repl k ry
 ·rw [if_neg q,if_neg q]; exact Paired.snoc r ⟨rfl,hb,ry⟩
theorem KT.keeps {H H':Hp}{kvs:List (List Key×V)}{xs:List (List Key×Addr×Value)}(r:KT H kvs xs)(ht:∀ b ys,H b=some (.tup ys)→H' b=some (.tup ys)):KT H' kvs xs:=
 Paired.b4g r fun _ _ z=>⟨z.1,ht _ _ z.2.1,z.2.2⟩
section
variable {P:Program}{w:World}{H:Hp}{h:Heap}{a:Addr}
theorem b4D {u:HO}(ok:HOk P w H h)(e:Rd H a u):F3 P w H h a u:=e.ok ok
theorem O9 {kvs:List (Key×V)}(ok:HOk P w H h)(e:Rd H a (.dK kvs)):kvs.length≤sizeLine∧(a == sysModules)=false∧∃ vs,KV kvs vs∧h.DictOf (z5 P w) a vs:=
 show F3 P w H h a (.dK kvs) from b4D ok e
theorem b4A {kvs:List (Key×V)}(ok:HOk P w H h)(e:H a=some (.dK kvs)):kvs.length≤sizeLine∧(a == sysModules)=false∧∃ vs,KV kvs vs∧h.DictOf (z5 P w) a vs:=O9 ok (.inl e)
theorem a2M {ks:List Key}(ok:HOk P w H h)(e:H a=some (.tup (ks.map kV))):(tupleKind (z5 P w)).is h ks a:=by
 obtain ⟨_,its,r,o,h1,h2,n,h3⟩:=(show F3 P w H h a (.tup (ks.map kV)) from ok a _ e)
 exact ⟨o,its.toArray,n,h1,h2,h3,by simpa using a5f r⟩
theorem a4t {kvs:List (List Key×V)}(ok:HOk P w H h)(e:Rd H a (.dT kvs)):kvs.length≤sizeLine∧(a == sysModules)=false∧
  ∃ xs,KT H kvs xs∧h.DictOfH (tupleKind (z5 P w)) a xs:=by
 obtain ⟨z,y,xs,r,o,es,ep,h1,h2,h3,h4,h5⟩:=(show F3 P w H h a (.dT kvs) from b4D ok e)
 refine ⟨z,y,xs,r,o,es,ep,h1,h2,h3,h4,fun x hx=>?_,h5⟩
 have all:∀ {l:List (List Key×V)} {m:List (List Key×Addr×Value)},KT H l m→∀ x∈m,(tupleKind (z5 P w)).is h x.1 x.2.1:=by
  intro l m q
  induction q with
  | nil=>intro x hx; exact nomatch hx
  | @cons p q ps qs hq t ih=>
   intro x hx
   rcases List.mem_cons.mp hx with e | hx
   ·subst e
    exact a2M ok (by rw [← hq.1]; exact hq.2.1)
   ·exact ih x hx
 exact all r x hx
theorem b63 {kvs:List (List Key×V)}(ok:HOk P w H h)(e:H a=some (.dT kvs)):kvs.length≤sizeLine∧(a == sysModules)=false∧
  ∃ xs,KT H kvs xs∧h.DictOfH (tupleKind (z5 P w)) a xs:=a4t ok (.inl e)
end
noncomputable def a0D (H:Hp)(a:Addr)(y:V)(r:Option V):Prop:=
 (∃ kvs k,Rd H a (.dK kvs)∧y=kV k∧r=a0X kvs k)∨∃ kvs k b,Rd H a (.dT kvs)∧y=.ref b∧H b=some (.tup (k.map kV))∧r=a0X kvs k
noncomputable def b2y (H:Hp)(a:Addr)(y v:V)(H':Hp):Prop:=
 (∃ kvs k,H a=some (.dK kvs)∧y=kV k∧kvs.length < sizeLine∧H'=upd H a (.dK (putK kvs k v)))∨
 ∃ kvs k b,H a=some (.dT kvs)∧y=.ref b∧H b=some (.tup (k.map kV))∧kvs.length < sizeLine∧H'=upd H a (.dT (putK kvs k v))
theorem b2y.k {H:Hp}{a:Addr}{kvs:List (Key×V)}{k:Key}{v:V}(e:H a=some (.dK kvs))(hl:kvs.length < sizeLine):b2y H a (kV k) v (upd H a (.dK (putK kvs k v))):=.inl ⟨kvs,k,e,rfl,hl,rfl⟩
section
variable {X:Cx}{pins:List (Addr×Obj)}{σ:St}{H:Hp}{s:Shared}{a:Addr}{y v:V}{u r:Value}{o:Option V}{A:Around}{E:Value→Shared→Prop}
theorem Inv.big (I:Inv X pins σ H s):sysModules < s.heap.objs.size:=by
 have h:mainGlobals < s.heap.objs.size:=(I.mod.glob.keeps I.bk).lt
 exact Nat.lt_trans (by decide) h
theorem b0b {Q:Value→Shared→Prop}(hu:A.units + 1 < cLine)(I:Inv X pins σ H s)(g:a0D H a y (some v))(ry:RelV y u)(h:∀ w' s',Inv X pins σ H s'→RelV v w'→Q w' s'):
  wpAny (model X.prog X.w) A (getItem (.ref a) u) Q E s:=by
 rcases g with ⟨kvs,k,e,ey,l⟩ | ⟨kvs,k,b,e,ey,eb,l⟩
 ·subst ey
  obtain ⟨z,hd,vs,rel,dd⟩:=O9 I.hok e
  obtain ⟨w',hw,rw'⟩:=a1k.some_of (v:=v) (o:=valueAt vs k) (by rw [l]; exact rel.val k)
  exact wpAny_getItem_of (a24 ry) dd.mapOf hw (h w' _ (I.tok _) rw')
 ·subst ey
  cases (show u=Value.ref b from ry)
  obtain ⟨z,hd,xs,rel,dd⟩:=a4t I.hok e
  obtain ⟨w',hw,rw'⟩:=a1k.some_of (v:=v) (o:=(atKey xs k).map (·.2)) (by rw [l]; exact rel.val k)
  obtain ⟨p,hp,hp2⟩:=Option.map_eq_some_iff.mp hw
  refine wpAny_getItem_heap (tupleKind_room_in1 hu) (a2M I.hok eb) dd hp ?_
  rw [hp2]
  exact h w' _ (I.tok _) rw'
theorem b7P {Q:Value→Shared→Prop}(hu:A.units + 1 < cLine)(I:Inv X pins σ H s)(g:a0D H a y o)(ry:RelV y u)(h:∀ s',Inv X pins σ H s'→Q (.bool o.isSome) s'):
  wpAny (model X.prog X.w) A (compareOp .In u (.ref a)) Q E s:=by
 rcases g with ⟨kvs,k,e,ey,l⟩ | ⟨kvs,k,b,e,ey,eb,l⟩
 ·subst ey
  obtain ⟨z,hd,vs,rel,dd⟩:=O9 I.hok e
  refine wpAny_in_of (a24 ry) hd dd.mapOf ?_
  rw [← (rel.val k).Z3,← l]
  exact h _ (I.tok _)
 ·subst ey
  cases (show u=Value.ref b from ry)
  obtain ⟨z,hd,xs,rel,dd⟩:=a4t I.hok e
  refine wpAny_in_heap (tupleKind_room_in1 hu) (a2M I.hok eb) hd dd ?_
  have q:=(rel.val k).Z3
  rw [Option.isSome_map] at q
  rw [← q,← l]
  exact h _ (I.tok _)
theorem b3n {Q:Value→Shared→Prop}(hu:A.units + 1 < cLine)(I:Inv X pins σ H s)(g:a0D H a y o)(ry:RelV y u)(h:∀ s',Inv X pins σ H s'→Q (.bool (!o.isSome)) s'):
  wpAny (model X.prog X.w) A (compareOp .NotIn u (.ref a)) Q E s:=by
 rcases g with ⟨kvs,k,e,ey,l⟩ | ⟨kvs,k,b,e,ey,eb,l⟩
 ·subst ey
  obtain ⟨z,hd,vs,rel,dd⟩:=O9 I.hok e
  refine wpAny_notIn_of (a24 ry) hd dd.mapOf ?_
  rw [← (rel.val k).Z3,← l]
  exact h _ (I.tok _)
 ·subst ey
  cases (show u=Value.ref b from ry)
  obtain ⟨z,hd,xs,rel,dd⟩:=a4t I.hok e
  refine wpAny_notIn_heap (tupleKind_room_in1 hu) (a2M I.hok eb) hd dd ?_
  have q:=(rel.val k).Z3
  rw [Option.isSome_map] at q
  rw [← q,← l]
  exact h _ (I.tok _)
theorem a6A {h':Heap}{t':Nat}{ob:HO}(I:Inv X pins σ H s)(mu:Mut (H a))(hs:Heap.SameBut a s.heap h')(he:∃ q,h'.get? a=some q)(new:F3 X.prog X.w (upd H a ob) h' a ob):
  Inv X pins σ (upd H a ob) { s with heap:=h',toks:=t' }:=
 I.write (x:=a) (e:=a) mu (.inl rfl) (fun b q hb z=>(hs.2 b hb).trans z) he new
theorem a6H {P:Program}{w:World}{H':Hp}{h':Heap}{kvs:List (Key×V)}{vs:List (Key×Value)}(z:kvs.length≤sizeLine)(hd:(a == sysModules)=false)(rel:KV kvs vs)(dd:h'.DictOf (z5 P w) a vs):
  F3 P w H' h' a (.dK kvs):=⟨z,hd,vs,rel,dd⟩
theorem b0F {H':Hp}{Q:Unit→Shared→Prop}(hu:A.units + 1 < cLine)(I:Inv X pins σ H s)(g:b2y H a y v H')(ry:RelV y u)(rv:RelV v r)(h:∀ s',Inv X pins σ H' s'→Q () s'):
  wpAny (model X.prog X.w) A (setItem (.ref a) u r) Q E s:=by
 rcases g with ⟨kvs,k,e,ey,l,eH⟩ | ⟨kvs,k,b,e,ey,eb,l,eH⟩
 ·subst ey eH
  obtain ⟨z,hd,vs,rel,dd⟩:=b4A I.hok e
  have hz:vs.length≤sizeLine:=by rw [← rel.length]; exact z
  have hl:(putK kvs k v).length≤sizeLine:=by have:=a26 kvs k v; omega
  refine wpAny_setItem_pairs (hsz:=hz) (a24 ry) dd fun h' dd' hs=>h _ ?_
  have he:∃ q,h'.get? a=some q:=let ⟨q,_,_,hq,_⟩:=dd'; ⟨q,hq⟩
  exact a6A I (by rw [e]; exact True.intro) hs he (a6H hl hd (rel.put k rv) dd')
 ·subst ey eH
  cases (show u=Value.ref b from ry)
  obtain ⟨z,hd,xs,rel,dd⟩:=b63 I.hok e
  have hz:xs.length≤sizeLine:=by rw [← Paired.length rel]; exact z
  have hl:(putK kvs k v).length≤sizeLine:=by have:=a26 kvs k v; omega
  refine wpAny_setItem_heap (hsz:=hz) (tupleKind_room_in1 hu) (a2M I.hok eb) dd fun h' dd' hs=>h _ ?_
  obtain ⟨q,es,ep,hq,h2,h3,h4,_,h5⟩:=dd'
  refine a6A I (by rw [e]; exact True.intro) hs ⟨q,hq⟩ ⟨hl,hd,_,(rel.put k eb rv).keeps fun c ys ec=>?_,q,es,ep,hq,h2,h3,h4,h5⟩
  rw [j6 (b6G ec e (fun z=>nomatch z))]
  exact ec
end
section
variable {X:Cx}{pins:List (Addr×Obj)}{σ:St}{H:Hp}{s:Shared}{a:Addr}{kvs:List (Key×V)}{k:Key}{u:Value}{A:Around}{E:Value→Shared→Prop}
theorem a0Q {Q:Value→Shared→Prop}(I:Inv X pins σ H s)(e:Rd H a (.dK kvs))(h:∀ t s',Inv X pins σ H s'→Q (.int kvs.length t) s'):wpAny (model X.prog X.w) A (call (.builtin "len") [.ref a]) Q E s:=by
 obtain ⟨z,hd,vs,rel,dd⟩:=O9 I.hok e
 refine call_len_dict hd dd (by rw [← rel.length]; rw [sizeLine_eq] at z; omega) ?_
 rw [← rel.length]
 exact h _ _ (I.tok _)
end
theorem a7w {X:Cx}{pins:List (Addr×Obj)}{σ:St}{H:Hp}{s:Shared}{a:Addr}{y:V}{o:Option V}(I:Inv X pins σ H s)(g:a0D H a y o):s.TypeIs (.ref a) "dict":=by
 rcases g with ⟨kvs,k,e,_,_⟩ | ⟨kvs,k,b,e,_,_,_⟩
 ·obtain ⟨_,_,vs,_,dd⟩:=O9 I.hok e
  exact dd.typeIs
 ·obtain ⟨_,_,xs,_,dd⟩:=a4t I.hok e
  exact dd.typeIs
theorem b1r {P:Program}{w:World}{H:Hp}(h:Heap)(hb:sysModules < h.objs.size):F3 P w H (h.push { cls:=.type "dict",data:=.dict #[] }) h.objs.size (.dK []):=
 ⟨Nat.zero_le _,beq_eq_false_iff_ne.mpr (Ne.symm (Nat.ne_of_lt hb)),[],.nil,Heap.DictOf.new h⟩
noncomputable def b6a:TE:=fun _ H Q=>∀ p,H p=none→Q (.ref p) (upd H p (.dK []))
section
variable {X:Cx}{pos:Pos}
theorem b14:PE X (.Dict [] [] pos) b6a:=fun pins s σ H Q I h=>
 wpAny_Dict_empty ⟨.ref s.heap.objs.size,_,I.laid (a:=s.heap.objs.size) (o:=.dK []) (t':=s.toks) (fun _ _ q=>Heap.get?_push_of_some _ q) (Nat.le_refl _) (b1r s.heap I.big),rfl,h _ (I.hok.fresh (Nat.le_refl _))⟩
end
structure M1 (X:Cx) (o:Expr) (m:Str) (apos:Pos) (e:Expr) (cpos:Pos):Prop where
 base:attributeBase o m X.env (eval o X.env)=eval o X.env
 few:((backTo cpos (starEach [e] X.env)).all (fun x=>!x.1) && (backToKw cpos (keywordEach [] X.env)).all (fun x=>x.1.isSome)
  && decide (([e]:List Expr).length + ([]:List Keyword).length + (if ([]:List Keyword).isEmpty then 0 else 1) < 30))=true
 line:(apos.endLine == cpos.line)=true
 trees:backTo cpos (starEach [e] X.env)=[(false,eval e X.env)]
noncomputable def IsD (H:Hp)(a:Addr):Prop:=(∃ kvs,Rd H a (.dK kvs))∨∃ kvs,Rd H a (.dT kvs)
theorem b44 {X:Cx}{pins:List (Addr×Obj)}{σ:St}{H:Hp}{s:Shared}{a:Addr}(I:Inv X pins σ H s)(d:IsD H a):
  s.TypeIs (.ref a) "dict"∧(∀ b,Value.ref a=.ref b→∃ ob,s.heap.get? b=some ob∧ob.dict=none)∧(a == sysModules)=false:=by
 rcases d with ⟨kvs,e⟩ | ⟨kvs,e⟩
 ·obtain ⟨_,hd,vs,_,dd⟩:=O9 I.hok e
  refine ⟨dd.typeIs,fun b q=>?_,hd⟩
  cases q
  obtain ⟨ob,_,_,h1,h2,_⟩:=dd
  exact ⟨ob,h1,h2.2.1⟩
 ·obtain ⟨_,hd,xs,_,dd⟩:=a4t I.hok e
  refine ⟨dd.typeIs,fun b q=>?_,hd⟩
  cases q
  obtain ⟨ob,_,_,h1,h2,_⟩:=dd
  exact ⟨ob,h1,h2.2.1⟩
section
variable {X:Cx}{pins:List (Addr×Obj)}{σ:St}{H:Hp}{s:Shared}{a:Addr}{y d:V}{u r:Value}{o:Option V}{A:Around}{E:Value→Shared→Prop}
theorem a8R {Q:Value→Shared→Prop}(hu:A.units + 1 < cLine)(I:Inv X pins σ H s)(g:a0D H a y o)(ry:RelV y u)(h:∀ w' s',Inv X pins σ H s'→RelV (o.getD .A3) w'→Q w' s'):
  wpAny (model X.prog X.w) A (call (.builtin "dict.get") [.ref a,u]) Q E s:=by
 rcases g with ⟨kvs,k,e,ey,l⟩ | ⟨kvs,k,b,e,ey,eb,l⟩
 ·subst ey
  obtain ⟨z,hd,vs,rel,dd⟩:=O9 I.hok e
  refine call_meetsIn PySem.F.slot_dict_get dd.typeIs PySem.F.entry_dict_get (PySem.F.args_dict_get_2 _ _) (meets_dict_get (z5 X.prog X.w) a (a24 ry) hd) ⟨_,dd.mapOf,h _ _ (I.tok _) ?_⟩
  rw [l]
  exact (rel.val k).getD rfl
 ·subst ey
  cases (show u=Value.ref b from ry)
  obtain ⟨z,hd,xs,rel,dd⟩:=a4t I.hok e
  refine call_meetsIn PySem.F.slot_dict_get dd.typeIs PySem.F.entry_dict_get (PySem.F.args_dict_get_2 _ _) (meetsH_dict_get (tupleKind (z5 X.prog X.w)) a b hd) ⟨tupleKind_room_in1 hu,k,xs,a2M I.hok eb,dd,h _ _ (I.tok _) ?_⟩
  rw [l]
  exact (rel.val k).getD rfl
end
noncomputable def b42 (td ty:TE):TE:=fun σ H Q=>td σ H fun x H1=>∃ a,x=.ref a∧IsD H1 a∧ty σ H1 fun y H2=>∃ o,a0D H2 a y o∧Q (o.getD .A3) H2
section
variable {X:Cx}{o e f:Expr}{apos cpos:Pos}{td ty tx:TE}
theorem b1K (hu:X.A.units + 1 < cLine)(ho:PE X o td)(he:PE X e ty)(m:M1 X o "get" apos e cpos):PE X (.Call (.Attribute o "get" apos) [e] [] cpos) (b42 td ty):=by
 intro pins s σ H Q I h
 refine wpAny_Call_method m.base m.few m.line PySem.F.plainAttrs_dict PySem.F.slot_dict_get PySem.F.type_dict_get (L7 (ho pins s σ H _ I h) fun u s1 ⟨x,H1,I1,rx,a,ex,d,q1⟩=>?_)
 subst ex
 obtain rfl:u=Value.ref a:=rx
 obtain ⟨t1,t2,_⟩:=b44 I1 d
 refine ⟨t1,t2,?_⟩
 rw [m.trees]
 refine Calls.callWith_builtin rfl (Calls.evalArgs_plain (Calls.spliced_cons (L7 (he pins s1 σ H1 _ I1 q1) fun iv s2 ⟨y,H2,I2,ry,ov,g,q2⟩=>Calls.spliced_nil ?_)))
 exact a8R hu I2 g ry fun w' s3 I3 rw'=>⟨_,H2,I3,rw',q2⟩
end
end L2
set_option Elab.async false
set_option linter.all false
set_option maxRecDepth 100000
set_option maxHeartbeats 4000000
namespace L2
open PySem PySem.Spec PyProof.Rows
theorem a1C {env:Env}:∀ (names:List (Str×NameKind)) (cs:List (Str×Addr)),(∀ n,(n,NameKind.free)∈names→∃ c,env.cells.lookup n=some c)→(∀ n c,cs.lookup n=some c→env.cells.lookup n=some c)→
  ∃ cl,(forIn names cs (fun x r=>match x with | (name,kind)=>if (kind == NameKind.free)=true then do
   let c ← cellOf env name
   pure (ForInStep.yield ((name,c)::r)) else pure (ForInStep.yield r)):Sem (List (Str×Addr)))=pure cl∧(∀ n c,cl.lookup n=some c→env.cells.lookup n=some c)∧(∀ n,(n,NameKind.free)∈names→∃ c,cl.lookup n=some c)∧(∀ n c,cs.lookup n=some c→∃ c',cl.lookup n=some c')
 | [],cs,_,h2=>⟨cs,rfl,h2,fun _ h=>by simp at h,fun n c h=>⟨c,h⟩⟩
 | (name,kind)::rest,cs,h1,h2=>by
  have h1':∀ n,(n,NameKind.free)∈rest→∃ c,env.cells.lookup n=some c:=fun n h=>h1 n (List.mem_cons_of_mem _ h)
  rw [List.forIn_cons]
  by_cases hk:kind=NameKind.free
  ·subst hk
   obtain ⟨c,hc⟩:=h1 name List.mem_cons_self
   have h2':∀ n c',((name,c)::cs).lookup n=some c'→env.cells.lookup n=some c':=fun n c' h=>by
    rw [List.lookup_cons] at h
    cases hb:n == name with
    | true=>
     rw [hb] at h
     have e:n=name:=eq_of_beq hb
     subst e
     have e2:c=c':=by simpa using h
     subst e2
     exact hc
    | false=>
     rw [hb] at h
     exact h2 n c' h
   obtain ⟨cl,e,a,b,d⟩:=a1C rest ((name,c)::cs) h1' h2'
   refine ⟨cl,?_,a,fun n hn=>?_,fun n c' h=>?_⟩
   ·have hcell:cellOf env name=pure c:=by unfold cellOf; rw [hc]
    simp only [beq_self_eq_true,if_true,hcell,pure_bind]
    exact e
   ·rcases List.mem_cons.mp hn with hn | hn
    ·have e3:n=name:=(Prod.mk.inj hn).1
     subst e3
     exact d n c (by simp [List.lookup_cons])
    ·exact b n hn
   ·cases hb:n == name with
    | true=>exact d n c (by rw [List.lookup_cons,hb])
    | false=>exact d n c' (by rw [List.lookup_cons,hb]; exact h)
  ·have hb:(kind == NameKind.free)=false:=by simpa using hk
   obtain ⟨cl,e,a,b,d⟩:=a1C rest cs h1' h2
   refine ⟨cl,?_,a,fun n hn=>?_,d⟩
   ·simp only [hb,Bool.false_eq_true,if_false,pure_bind]
    exact e
   ·rcases List.mem_cons.mp hn with hn | hn
    ·exact absurd (Prod.mk.inj hn).2.symm hk
    ·exact b n hn
theorem a8n {scope:Scope}{env:Env}(h:∀ n,(n,NameKind.free)∈scope.names→∃ c,env.cells.lookup n=some c):
  ∃ cl,closureFor scope env=pure cl∧(∀ n c,cl.lookup n=some c→env.cells.lookup n=some c)∧(∀ n,(n,NameKind.free)∈scope.names→∃ c,cl.lookup n=some c):=by
 obtain ⟨cl,e,a,b,_⟩:=a1C (env:=env) scope.names [] h (fun n c h=>by simp at h)
 refine ⟨cl,?_,a,b⟩
 unfold closureFor
 have e':=congrArg (fun (m:Sem (List (Str×Addr)))=>m >>= fun cs=>pure cs) e
 simp only [pure_bind] at e'
 exact e'
noncomputable abbrev Cx.blk (X:Cx)(scope:Scope)(cl:List (Str×Addr))(C:Addr)(M:List Str)(s:Shared)(H:Hp)(ex:List Addr):Cx:=
 { X with N:=M,s₀:=s,H₀:=H,env:=compEnvC scope cl C X.env,outer:=X.stack,stack:=X.stack,ex:=ex,fn:=fun y=>scope.names.lookup y == some .cell,pn:=[],xe:=fun _ _=>False }
structure Blk (X:Cx) (scope:Scope) (M:List Str) (own:Nat) (fr:List Nat):Prop where
 kind:scope.kind=.function
 cells:∀ y∈scope.names,y.2=.cell→scope.names.lookup y.1=some .cell
 names:∀ y∈scope.names,y.2=.local→scope.names.lookup y.1=some .local
 free:∀ y∈scope.names,y.2=.free→X.env.kindOf y.1=some .cell∨X.env.kindOf y.1=some .free
 nd:M.Nodup
 len:M.length=own + fr.length
 at':∀ i j,fr[i]?=some j→M[own + i]?=X.N[j]?∧∃ n,X.N[j]?=some n∧scope.names.lookup n=some .free∧(X.env.kindOf n=some .cell∨X.env.kindOf n=some .free)
noncomputable def seen (own:Nat)(fr:List Nat)(σ:St):St:=List.replicate own none++fr.map fun j=>(σ[j]?).join
theorem a0h {g:Str×NameKind→Str×NameKind}(hg:∀ p,(g p).1=p.1):∀ (names:List (Str×NameKind)) (n:Str),(names.map g).lookup n=(names.lookup n).map fun k=>(g (n,k)).2
 | [],_=>rfl
 | (m,k)::r,n=>by
  have e:g (m,k)=(m,(g (m,k)).2):=Prod.ext (hg (m,k)) rfl
  rw [List.map_cons,e]
  by_cases hx:n=m
  ·subst hx
   simp [List.lookup_cons]
  ·have hb:(n == m)=false:=by simpa using hx
   simp only [List.lookup_cons,hb]
   exact a0h hg r n
theorem Y0 (scope:Scope)(env:Env):∃ g:Str×NameKind→Str×NameKind,(relabel scope env).names=scope.names.map g∧(∀ p,(g p).1=p.1)∧∀ n k,(g (n,k)).2=k∨(k=.free∧(g (n,k)).2=.cell):=by
 refine ⟨_,rfl,fun p=>?_,fun n k=>?_⟩
 ·obtain ⟨n,k⟩:=p
  dsimp only
  split <;> rfl
 ·dsimp only
  by_cases hc:(k == NameKind.free && env.scope.kind == ScopeKind.function && env.kindOf n == some NameKind.cell)=true
  ·rw [if_pos hc]
   refine .inr ⟨?_,rfl⟩
   simp only [Bool.and_eq_true] at hc
   exact eq_of_beq hc.1.1
  ·rw [if_neg hc]
   exact .inl rfl
theorem a6h {scope:Scope}{env:Env}{n:Str}(h:scope.names.lookup n=some .free):(relabel scope env).names.lookup n=some .free∨(relabel scope env).names.lookup n=some .cell:=by
 obtain ⟨g,e,h1,h2⟩:=Y0 scope env
 rw [e,a0h h1,h]
 rcases h2 n .free with q | ⟨_,q⟩
 ·exact .inl (by show some (g (n,.free)).2=_; rw [q])
 ·exact .inr (by show some (g (n,.free)).2=_; rw [q])
theorem a3f {scope:Scope}{env:Env}{n:Str}(h:scope.names.lookup n=some .cell):(relabel scope env).names.lookup n=some .cell:=by
 obtain ⟨g,e,h1,h2⟩:=Y0 scope env
 rw [e,a0h h1,h]
 rcases h2 n .cell with q | ⟨q,_⟩
 ·show some (g (n,.cell)).2=_
  rw [q]
 ·cases q
theorem a6D {scope:Scope}{env:Env}{n:Str}(h:(relabel scope env).names.lookup n=some .cell∨(relabel scope env).names.lookup n=some .free):(n,NameKind.free)∈scope.names∨(n,NameKind.cell)∈scope.names:=by
 obtain ⟨g,e,h1,h2⟩:=Y0 scope env
 rw [e,a0h h1] at h
 cases hk:scope.names.lookup n with
 | none=>rw [hk] at h; rcases h with h | h <;> cases h
 | some k=>
  have hm:=PySem.mem_of_lookup hk
  rw [hk] at h
  have h':(g (n,k)).2=.cell∨(g (n,k)).2=.free:=by
   rcases h with h | h
   ·exact .inl (Option.some.inj h)
   ·exact .inr (Option.some.inj h)
  rcases h2 n k with q | ⟨q,_⟩
  ·rcases h' with z | z
   ·rw [q.symm.trans z] at hm; exact .inr hm
   ·rw [q.symm.trans z] at hm; exact .inl hm
  ·rw [q] at hm; exact .inl hm
theorem A8:∀ (names:List (Str×NameKind)) (n:Nat) (acc:List (Str×Addr)),cellsFrom n names acc=cellsFrom n names []++acc
 | [],_,_=>rfl
 | (x,k)::r,n,acc=>by
  unfold cellsFrom
  split
  ·rw [A8 r (n + 1) ((x,n)::acc),A8 r (n + 1) [(x,n)],List.append_assoc]
   rfl
  ·exact A8 r n acc
theorem U6:∀ (names:List (Str×NameKind)) (n:Nat) (x:Str) (c:Addr),(x,c)∈cellsFrom n names []→(x,NameKind.cell)∈names
 | [],_,_,_,h=>by cases h
 | (y,k)::r,n,x,c,h=>by
  unfold cellsFrom at h
  split at h
  ·rename_i hk
   rw [A8] at h
   rcases List.mem_append.mp h with h | h
   ·exact List.mem_cons_of_mem _ (U6 r (n + 1) x c h)
   ·have e:=List.mem_singleton.mp h
    cases e
    rw [eq_of_beq hk]
    exact List.mem_cons_self
  ·exact List.mem_cons_of_mem _ (U6 r n x c h)
theorem Q6:∀ (names:List (Str×NameKind)) (n:Nat) (x:Str),(x,NameKind.cell)∈names→∃ c,(x,c)∈cellsFrom n names []
 | [],_,_,h=>by cases h
 | (y,k)::r,n,x,h=>by
  unfold cellsFrom
  rcases List.mem_cons.mp h with h | h
  ·cases h
   rw [if_pos (by rfl),A8]
   exact ⟨n,List.mem_append_right _ (List.mem_singleton.mpr rfl)⟩
  ·split
   ·obtain ⟨c,hc⟩:=Q6 r (n + 1) x h
    rw [A8]
    exact ⟨c,List.mem_append_left _ hc⟩
   ·exact Q6 r n x h
theorem X7 {x:Str}:∀ {l:List (Str×Addr)} {c:Addr},(x,c)∈l→∃ c',l.lookup x=some c'
 | (k,v)::r,c,h=>by
  rw [List.lookup_cons]
  cases hb:x == k with
  | true=>exact ⟨v,rfl⟩
  | false=>
   rcases List.mem_cons.mp h with e | h
   ·cases e
    simp at hb
   ·exact X7 h
theorem a1G {scope:Scope}{n:Nat}{cl:List (Str×Addr)}{x:Str}{c:Addr}(h:(cellsFrom n scope.names cl).lookup x=some c):((x,c)∈cellsFrom n scope.names []∧(cellsFrom n scope.names []).lookup x=some c)∨cl.lookup x=some c:=by
 rw [A8,List.lookup_append] at h
 cases e:(cellsFrom n scope.names []).lookup x with
 | some c'=>
  rw [e] at h
  cases h
  exact .inl ⟨mem_of_lookup e,rfl⟩
 | none=>rw [e] at h; exact .inr h
theorem a74 {scope:Scope}{n:Nat}{cl:List (Str×Addr)}{x:Str}(h:(x,NameKind.cell)∈scope.names∨∃ c,cl.lookup x=some c):∃ c,(cellsFrom n scope.names cl).lookup x=some c:=by
 rw [A8,List.lookup_append]
 cases e:(cellsFrom n scope.names []).lookup x with
 | some c'=>exact ⟨c',rfl⟩
 | none=>
  rcases h with h | ⟨c,h⟩
  ·obtain ⟨c,hc⟩:=Q6 scope.names n x h
   obtain ⟨c',e'⟩:=X7 hc
   rw [e] at e'
   cases e'
  ·exact ⟨c,h⟩
theorem a8k {M:Model}{A:Around}{E:Value→Shared→Prop}{s:Shared}{scope:Scope}{env:Env}{cl:List (Str×Addr)}{Q:Env→Shared→Prop}
  (h:Q { scope,locals:=s.heap.objs.size,globals:=env.globals,cells:=cellsFrom (s.heap.objs.size + 1) scope.names cl,qual:=env.qual,func:=none,code:=env.code,frame:=env.frame,builtins:=env.builtins } { s with heap:=pushCells (s.heap.push { cls:=.type "dict",data:=.dict #[] }) scope.names }):
  wpAny M A (newFunctionEnv scope env.globals cl [] env.qual none .none (some env)) Q E s:=by
 simp only [newFunctionEnv,Option.isSome_some,if_true]
 refine wpAny_bind (wpAny_alloc ?_)
 refine wpAny_bind (wpAny_layCells _ (fun name kind cells=>by cases hkc:kind == NameKind.cell <;> simp [hkc]) _ _ _ _ ?_)
 rw [show ({ s with heap:=s.heap.push { cls:=.type "dict",data:=.dict #[] } }:Shared).heap.objs.size=s.heap.objs.size + 1 from Heap.size_push ..]
 exact wpAny_pure h
noncomputable def PF (X:Cx)(ifs:List Expr)(t:TT):Prop:=
 ∀ (pins:List (Addr×Obj)) (s:Shared) (σ:St) (H:Hp) (Q:Bool→Hp→Prop),Inv X pins σ H s→t σ H Q→
  wpAny (model X.prog X.w) X.A (forIn ifs true fun c r=>if r=true then do let ok ← isTrue c X.env (eval c X.env); pure (ForInStep.yield ok) else pure (ForInStep.yield r)) (TP X pins σ Q) X.xe s
noncomputable def b7V:TT:=fun _ H Q=>Q true H
theorem b5N {X:Cx}:PF X [] b7V:=fun _ _ _ H _ I h=>wpAny_tests_nil ⟨H,I,h⟩
theorem b55 {X:Cx}{c:Expr}{t:TT}(h:PT X c t):PF X [c] t:=fun pins s σ H Q I hq=>wpAny_tests_one (h pins s σ H Q I hq)
section
variable {prog:Program}{w:World}{A:Around}{R:Result→Shared→Prop}{s:Shared}
theorem a6p {elt target iter:Expr}{ifs:List Expr}{scope:Scope}{pos:Pos}{it acc:Value}{env:Env}(I:Nat→Shared→Prop)
  (turn:∀ n s,I n s→wpAny (model prog w) A (pyNext it) (fun r s1=>match r with
   | none=>R (.ok .next) s1
   | some v=>wpAny (model prog w) A (letOwnedTupleGo target it v) (fun _ s1'=>wpAny (model prog w) A (assign target env v) (fun _ s2=>
     wpAny (model prog w) A (forIn ifs true fun c r=>if r=true then do let ok ← isTrue c env (eval c env); pure (ForInStep.yield ok) else pure (ForInStep.yield r)) (fun ok s3=>
      if ok=true then wpAny (model prog w) A (eval elt env) (fun x s4=>
       wpAny (model prog w) A (call (.builtin "list.append") [acc,x]) (fun _ s5=>∃ m,m < n∧I m s5) (fun _ _=>False) s4) (fun _ _=>False) s3
      else ∃ m,m < n∧I m s3) (fun _ _=>False) s2) (fun _ _=>False) s1') (fun _ _=>False) s1) (fun _ _=>False) s)
  (n:Nat) (h:I n s):
  codeAny (model prog w) A (.compLoop (.ListComp elt [⟨target,iter,ifs,0⟩] scope pos) 0 it acc env) R s:=by
 refine codeAny_loop rfl I (fun n s hI=>?_) n h
 show wpAny _ A ((compTurn (.ListComp elt [⟨target,iter,ifs,0⟩] scope pos) 0 it acc env).onRaise (fun x=>do noteFrame x env; theTreesLotGoes x)) _ _ s
 refine wpAny_noted ?_
 rw [compTurn_list]
 refine wpAny_bind (wpAny_standAt (wpAny_bind (wpAny_mono (turn n s hI) (fun r s1 h1=>?_) fun _ _ h'=>h'.elim)))
 cases r with
 | none=>exact wpAny_pure h1
 | some v=>
  refine wpAny_bind (wpAny_mono h1 (fun _ s1' h1'=>?_) fun _ _ h'=>h'.elim)
  refine wpAny_bind (wpAny_mono h1' (fun _ s2 h2=>wpAny_bind (wpAny_mono h2 (fun ok s3 h3=>?_) fun _ _ h'=>h'.elim)) fun _ _ h'=>h'.elim)
  cases ok with
  | false=>exact wpAny_pure ⟨rfl,h3⟩
  | true=>
   exact wpAny_bind (wpAny_bind (wpAny_mono h3 (fun x s4 h4=>wpAny_bind (wpAny_mono h4 (fun _ s5 h5=>wpAny_pure (wpAny_pure ⟨rfl,h5⟩)) fun _ _ h'=>h'.elim)) fun _ _ h'=>h'.elim))
end
noncomputable def a6r (own:Nat)(fr:List Nat)(g:TG):Prop:=∀ x σ H R,g x (seen own fr σ) H R→g x (seen own fr σ) H fun σ2 H3=>(∀ (i:Nat) v,(seen own fr σ)[i]?=some (some v)→σ2[i]?=some (some v))∧R σ2 H3
noncomputable def b5r (J:It)(g:TG)(tf:TT)(te:TE)(own:Nat)(fr:List Nat)(σ:St)(Q:VK)(H1:Hp):Prop:=
 ∃ W:Nat→Nat→List V→Hp→Prop,(∃ m,W 0 m [] H1)∧∀ i m ys H2,W i m ys H2→
  (J.stop i H2∧∀ p,H2 p=none→Q (.ref p) (upd H2 p (.lst ys)))∨
  (J.go i H2∧ys.length < sizeLine∧∃ N:List V→Hp→Prop,(∀ ys' H',N ys' H'→∃ m',m' < m∧W (i + 1) m' ys' H')∧
   ∀ x H',J.yld i H2 x H'→g x (seen own fr σ) H' fun σ2 H3=>tf σ2 H3 fun c H4=>if c=true then te σ2 H4 fun y H5=>N (ys++[y]) H5 else N ys H4)
noncomputable def a5y (wi:TI)(g:TG)(tf:TT)(te:TE)(own:Nat)(fr:List Nat):TE:=fun σ H Q=>wi σ H fun J H1=>b5r J g tf te own fr σ Q H1
section
variable {X:Cx}{pins:List (Addr×Obj)}{σ:St}{H H2:Hp}{s s2:Shared}
theorem a73 {own:Nat}{fr:List Nat}{σ:St}{i:Nat}{v:V}(h:(seen own fr σ)[i]?=some (some v)):∃ k j,i=own + k∧fr[k]?=some j∧σ[j]?=some (some v):=by
 unfold seen at h
 by_cases hi:i < own
 ·rw [List.getElem?_append_left (by simpa using hi),List.getElem?_replicate,if_pos hi] at h
  cases h
 ·rw [List.getElem?_append_right (by simpa using hi)] at h
  simp only [List.length_replicate,List.getElem?_map] at h
  cases e:fr[i - own]? with
  | none=>rw [e] at h; cases h
  | some j=>
   rw [e] at h
   simp only [Option.map_some,Option.some.injEq] at h
   refine ⟨i - own,j,by omega,e,?_⟩
   cases q:σ[j]? with
   | none=>rw [q] at h; cases h
   | some o=>
    rw [q] at h
    have h':o=some v:=h
    rw [h']
theorem seen_length (own:Nat)(fr:List Nat)(σ:St):(seen own fr σ).length=own + fr.length:=by
 unfold seen
 rw [List.length_append,List.length_replicate,List.length_map]
theorem a9l {own:Nat}{fr:List Nat}{i:Nat}(hi:i < own):a6r own fr (a28 i):=fun x σ H R h=>⟨fun k v e=>by
 obtain ⟨j,_,rfl,_⟩:=a73 e
 rw [List.getElem?_set_ne (by omega)]
 exact e,h⟩
theorem Inv.block {scope:Scope}{M:List Str}{own:Nat}{fr:List Nat}{cl:List (Str×Addr)}{h1:Heap}{fp:List Addr}{t1:Nat}(B:Blk X scope M own fr)(I:Inv X pins σ H2 s2)
  (cl1:∀ n c,cl.lookup n=some c→X.env.cells.lookup n=some c∨(scope.names.lookup n=some .cell∧s2.heap.objs.size + 1 < c∧h1.IsCell c none)) (cl3:∀ n n' c,cl.lookup n=some c→cl.lookup n'=some c→s2.heap.objs.size + 1 < c→n=n') (cl2:∀ n,(n,NameKind.free)∈scope.names∨(n,NameKind.cell)∈scope.names→∃ c,cl.lookup n=some c)
  (cl4:∀ n c,cl.lookup n=some c→scope.names.lookup n=some .cell→s2.heap.objs.size + 1 < c)
  (hfp:∀ b∈fp,a4w X pins H2 b∧b < s2.heap.objs.size)
  (hns:h1.Ns (s2.heap.objs.size + 1) fun _=>none) (hsb:∀ b o,b < s2.heap.objs.size + 1→(s2.heap.push { cls:=.type "list",data:=.seq ([]:List Value).toArray }).get? b=some o→h1.get? b=some o):
  Inv (X.blk scope cl (s2.heap.objs.size + 1) M { s2 with heap:=s2.heap.push { cls:=.type "list",data:=.seq ([]:List Value).toArray } } H2 (s2.heap.objs.size::fp))
   [(s2.heap.objs.size,{ cls:=.type "list",data:=.seq ([]:List Value).toArray })] (seen own fr σ) H2 { s2 with heap:=h1,toks:=t1 }:=by
 have hpush:∀ b o,s2.heap.get? b=some o→(s2.heap.push { cls:=.type "list",data:=.seq ([]:List Value).toArray }).get? b=some o:=fun b o e=>Heap.get?_push_of_some _ e
 have old:∀ b o,s2.heap.get? b=some o→h1.get? b=some o:=fun b o e=>hsb b o (Nat.lt_succ_of_lt (Heap.lt_size e)) (hpush b o e)
 have hD:h1.get? s2.heap.objs.size=some { cls:=.type "list",data:=.seq ([]:List Value).toArray }:=hsb _ _ (Nat.lt_succ_self _) (Heap.get?_push_size _ rfl)
 have hHD:H2 s2.heap.objs.size=none:=I.hok.fresh (Nat.le_refl _)
 have hHC:H2 (s2.heap.objs.size + 1)=none:=I.hok.fresh (Nat.le_succ _)
 have cellLt:∀ x c,X.env.cells.lookup x=some c→c < s2.heap.objs.size:=fun x c e=>by
  obtain ⟨v,q⟩:=I.cell x c e
  exact q.lt
 have szp:(s2.heap.push { cls:=.type "list",data:=.seq ([]:List Value).toArray }).objs.size=s2.heap.objs.size + 1:=Heap.size_push _ _
 have Ok:(X.blk scope cl (s2.heap.objs.size + 1) M { s2 with heap:=s2.heap.push { cls:=.type "list",data:=.seq ([]:List Value).toArray } } H2 (s2.heap.objs.size::fp)).Ok:=by
  refine ⟨I.ok.mod,B.kind,I.ok.glob,I.ok.blt,?_,?_,?_,?_,I.ok.hd,I.ok.frames,.inl rfl,?_,?_,?_,?_,?_,?_,?_⟩
  ·show (s2.heap.push _).objs.size≤s2.heap.objs.size + 1
   rw [szp]
   exact Nat.le_refl _
  ·intro x y c e1 e2
   rcases cl1 _ _ e1 with q1 | ⟨_,q1,_⟩
   ·rcases cl1 _ _ e2 with q2 | ⟨_,q2,_⟩
    ·exact I.ok.inj x y c q1 q2
    ·exact absurd (Nat.lt_trans (Nat.lt_succ_of_lt (cellLt x c q1)) q2) (Nat.lt_irrefl _)
   ·exact cl3 x y c e1 e2 q1
  ·intro x hx
   exact cl2 x (a6D hx)
  ·intro x c hx e
   have q:=cl4 x c e (eq_of_beq hx)
   show (s2.heap.push _).objs.size≤c
   rw [szp]
   omega
  ·intro b hb
   rcases List.mem_cons.mp hb with rfl | hb
   ·refine ⟨Nat.ne_of_lt (Nat.lt_succ_self _),fun x c e=>?_⟩
    rcases cl1 _ _ e with q | ⟨_,q,_⟩
    ·exact Nat.ne_of_lt (cellLt x c q)
    ·exact Nat.ne_of_gt (Nat.lt_trans (Nat.lt_succ_self _) q)
   ·refine ⟨Nat.ne_of_lt (Nat.lt_succ_of_lt (hfp b hb).2),fun x c e=>?_⟩
    rcases cl1 _ _ e with q | ⟨_,q,_⟩
    ·exact (hfp b hb).1.2.2.2.2.1 x c q
    ·exact Nat.ne_of_gt (Nat.lt_trans (Nat.lt_succ_of_lt (hfp b hb).2) q)
  ·intro b o e
   exact ⟨hpush b o (I.bs b o e).1,(I.bs b o e).2⟩
  ·show X.base.objs.size≤(s2.heap.push _).objs.size
   rw [szp]
   exact Nat.le_succ_of_le (Nat.le_trans I.ok.bsz I.sz)
  ·intro b o e hb
   rcases List.mem_cons.mp hb with rfl | hb
   ·exact absurd (Heap.lt_size (I.bs _ _ e).1) (Nat.lt_irrefl _)
   ·have q:=(hfp b hb).1.2.2.2.1
    rcases q with q | q
    ·exact I.ok.noex b o e q
    ·exact absurd (Nat.lt_of_lt_of_le (Heap.lt_size (I.ok.bs b o e).1) q) (Nat.lt_irrefl _)
  ·intro b hb hf
   have hf':b∈frs X.stack:=hf
   rcases List.mem_cons.mp hb with rfl | hb
   ·rcases List.mem_cons.mp (I.a2H _ hf') with e | e
    ·exact absurd I.lt (by rw [← e]; exact Nat.lt_irrefl _)
    ·exact I.b57 (Nat.le_refl _) e
   ·rcases List.mem_cons.mp (I.a2H _ hf') with e | e
    ·exact (hfp b hb).1.2.1 e
    ·exact (hfp b hb).1.2.2.1 e
  ·have q:=I.stack
   have all:∀ (l:List Env),s2.heap.FunFrames X.base l→(s2.heap.push { cls:=.type "list",data:=.seq ([]:List Value).toArray }).FunFrames X.base l:=by
    intro l
    induction l with
    | nil=>intro _; trivial
    | cons env r ih=>
     intro hl
     obtain ⟨hk,⟨L,o,hf,hn,ho,hd⟩,hr⟩:=hl
     exact ⟨hk,⟨L,o,hf,hn,hpush L o ho,hd⟩,ih hr⟩
   exact all _ q
  ·intro b hb
   exact I.a9c b hb
 refine ⟨Ok,rfl,I.bare,?_,?_,?_,hHC,?_,?_,I.hok.kept old,?_⟩
 ·refine Un.kept fun b u e=>?_
  exact hsb b u (by have:=Heap.lt_size e; rw [szp] at this; exact this) e
 ·refine ⟨_,hns,fun i x v e1 e2 e3=>?_⟩
  obtain ⟨k,j,rfl,hk,hv⟩:=a73 e2
  obtain ⟨e4,n,e5,hfree,hcell⟩:=B.at' k j hk
  have ex:x=n:=by
   have e1':M[own + k]?=some x:=e1
   rw [e4,e5] at e1'
   exact (Option.some.inj e1').symm
  subst ex
  obtain ⟨m,_,hl⟩:=I.loc
  have hvis:Vis X.env.scope x:=by
   rcases hcell with h | h
   ·exact .inr (.inl h)
   ·exact .inr (.inr h)
  obtain ⟨u,ru,lk⟩:=hl j x v e5 hv hvis
  refine ⟨u,ru,.inr ⟨?_,?_⟩⟩
  ·have q:=a6h (scope:=scope) (env:=X.env) hfree
   exact q.symm
  ·have hcell':∃ c,X.env.cells.lookup x=some c∧s2.heap.IsCell c (some u):=by
    rcases lk with ⟨q,_⟩ | ⟨_,q⟩
    ·rcases hcell with h | h
     ·rw [h] at q; cases q
     ·rw [h] at q; cases q
    ·exact q
   obtain ⟨c,e6,e7⟩:=hcell'
   obtain ⟨c',e8⟩:=cl2 x (.inl (PySem.mem_of_lookup hfree))
   rcases cl1 x c' e8 with e9 | ⟨e9,_⟩
   ·rw [e6] at e9
    cases e9
    obtain ⟨o,ho,hd⟩:=e7
    exact ⟨c,e8,o,old c o ho,hd⟩
   ·rw [hfree] at e9
    cases e9
 ·intro x c e
  rcases cl1 _ _ e with q | ⟨_,_,q⟩
  ·obtain ⟨v,o,ho,hd⟩:=I.cell x c q
   exact ⟨v,o,old c o ho,hd⟩
  ·exact ⟨_,q⟩
 ·intro x c e
  rcases cl1 _ _ e with q | ⟨_,q,_⟩
  ·exact I.freeC x c q
  ·exact I.hok.fresh (by omega)
 ·intro p hp
  have e:p=(s2.heap.objs.size,{ cls:=.type "list",data:=.seq ([]:List Value).toArray }):=List.mem_singleton.mp hp
  subst e
  refine ⟨hD,hHD,Nat.ne_of_lt (Nat.lt_succ_self _),fun hf=>?_,fun v z=>?_⟩
  ·rcases List.mem_cons.mp (I.a2H _ hf) with e | e
   ·exact absurd I.lt (by rw [← e]; exact Nat.lt_irrefl _)
   ·exact I.b57 (Nat.le_refl _) e
  ·have z':Data.seq ([]:List Value).toArray _=Data.cell v:=z
   cases z'
 ·rw [seen_length]
  exact B.len.symm
theorem Inv.b13 {scope:Scope}{M:List Str}{cl:List (Str×Addr)}{fp:List Addr}{τ:St}{H':Hp}{s':Shared}{h':Heap}{ys:List V}{its:List Value}{n:Nat}(I:Inv X pins σ H2 s2)
  (hfp:∀ b∈fp,a4w X pins H2 b)
  (J:Inv (X.blk scope cl (s2.heap.objs.size + 1) M { s2 with heap:=s2.heap.push { cls:=.type "list",data:=.seq ([]:List Value).toArray } } H2 (s2.heap.objs.size::fp))
   [(s2.heap.objs.size,{ cls:=.type "list",data:=.seq its.toArray n })] τ H' s')
  (hv:Vals ys its) (hz:ys.length≤sizeLine) (hs:Heap.SameBut (s2.heap.objs.size + 1) s'.heap h'):Inv X pins σ (upd H' s2.heap.objs.size (.lst ys)) { s' with heap:=h' }:=by
 obtain ⟨eD,nD,_,_,_⟩:=J.pin _ (List.mem_append_right _ (List.mem_singleton.mpr rfl))
 have nC:H' (s2.heap.objs.size + 1)=none:=J.free
 have kp:∀ b o,b≠s2.heap.objs.size + 1→s'.heap.get? b=some o→h'.get? b=some o:=fun b o hb e=>(hs.2 b hb).trans e
 have hpush:∀ b o,s2.heap.get? b=some o→(s2.heap.push { cls:=.type "list",data:=.seq ([]:List Value).toArray }).get? b=some o:=fun b o e=>Heap.get?_push_of_some _ e
 have neD:∀ b o,s2.heap.get? b=some o→b≠s2.heap.objs.size:=fun b o e=>Nat.ne_of_lt (Heap.lt_size e)
 have neC:∀ b o,s2.heap.get? b=some o→b≠s2.heap.objs.size + 1:=fun b o e=>Nat.ne_of_lt (Nat.lt_succ_of_lt (Heap.lt_size e))
 have hex:∀ b o,s2.heap.get? b=some o→b∉fp→b∉s2.heap.objs.size::fp:=fun b o e h z=>(List.mem_cons.mp z).elim (neD b o e) h
 have neT:∀ b u,H' b=some u→b≠s2.heap.objs.size:=fun b u e z=>by rw [z,nD] at e; cases e
 have neTC:∀ b u,H' b=some u→b≠s2.heap.objs.size + 1:=fun b u e z=>by rw [z,nC] at e; cases e
 refine I.b7h (s':={ s' with heap:=h' }) (ch:=fp) J.os ?_ ?_ J.bare fun b hb=>?_
 ·refine ⟨fun b o e n hb hx=>?_,fun b o e n hb hx=>?_,fun b o e n hx=>?_,fun b o e hx=>?_,fun b xs e=>?_,fun b o xs e=>?_,fun b ps e=>?_⟩
  ·exact kp b o (neC b o e) (J.base.keep b o (hpush b o e) n hb (hex b o e hx))
  ·obtain ⟨sl,q⟩:=J.base.slot b o (hpush b o e) n hb (hex b o e hx)
   exact ⟨sl,kp b _ (neC b o e) q⟩
  ·rw [j6 (neD b o e)]
   exact J.base.free b o (hpush b o e) n (hex b o e hx)
  ·obtain ⟨o',q⟩:=J.base.there b o (hpush b o e) (hex b o e hx)
   exact ⟨o',kp b _ (neC b o e) q⟩
  ·have q:=J.base.tups b xs e
   rw [j6 (neT b _ q)]
   exact q
  ·have q:=J.base.frzs b o xs e
   rw [j6 (neT b _ q)]
   exact q
  ·obtain ⟨more,q⟩:=J.base.tbls b ps e
   rw [j6 (neT b _ q)]
   exact ⟨more,q⟩
 ·intro a o e
  by_cases ha:a=s2.heap.objs.size
  ·subst ha
   rw [p9] at e
   cases e
   exact ⟨hz,its,n,hv,kp _ _ (Nat.ne_of_lt (Nat.lt_succ_self _)) eD⟩
  ·rw [j6 ha] at e
   refine (J.hok a o e).stay (fun c v hc q=>kp c v ?_ q) (fun c q=>by rw [j6 (neT c _ q)]; exact q) fun c xs q=>by rw [j6 (neT c _ q)]; exact q
   rcases hc with rfl | hc
   ·exact neTC c o e
   ·exact neTC c _ hc
 ·obtain ⟨f0,f1,f2,f3,f4,f5⟩:=hfp b hb
  exact ⟨f3,f1,f4,f5⟩
theorem a8H {E:Value→Shared→Prop}{D:Addr}{its:List Value}{n:Nat}{u:Value}{Q:Value→Shared→Prop}{pr:Program}{w:World}{A:Around}(e:s.heap.get? D=some { cls:=.type "list",data:=.seq its.toArray n }) (hz:its.length≤sizeLine)
  (h:∀ h' n',h'.get? D=some { cls:=.type "list",data:=.seq (its++[u]).toArray n' }→(∀ b o,b≠D→s.heap.get? b=some o→h'.get? b=some o)→Q .none { s with heap:=h' }):
  wpAny (model pr w) A (call (.builtin "list.append") [.ref D,u]) Q E s:=by
 refine call_meets F.slot_list_append ⟨_,e,rfl⟩ F.entry_list_append (F.args_list_append_2 _ _) (PySem.list_append D its.toArray n u (by rw [List.size_toArray]; omega)) ⟨e,?_⟩
 have q:=PySem.IsL.update e (fun xs=>xs.push u)
 have ea:its.toArray.push u=(its++[u]).toArray:=by simp
 have q':(s.heap.update D (Obj.mapSeq fun xs=>xs.push u)).get? D=some { cls:=.type "list",data:=.seq (its++[u]).toArray (if (its.toArray.push u).size == its.toArray.size then n else n + 1) }:=by
  rw [← ea]
  exact q
 exact h _ _ q' fun b o hb eb=>(Heap.get?_update_other s.heap _ (Ne.symm hb)).trans eb
variable {scope:Scope}{M:List Str}{own:Nat}{fr:List Nat}{tg iter elt:Expr}{ifs:List Expr}{pos:Pos}{wi:TI}{g:TG}{tf:TT}{te:TE}
theorem a70 {use:Option (Value→Sem Unit)}{Q':Value→Shared→Prop}{Q:VK}(B:Blk X scope M own fr)(hc:X.calm=true)(hi:PI X tg iter wi)
  (hg:∀ cl C s H ex,PG (X.blk scope cl C M s H ex) tg g) (hk:a6r own fr g) (hf:∀ cl C s H ex,PF (X.blk scope cl C M s H ex) ifs tf) (he:∀ cl C s H ex,PE (X.blk scope cl C M s H ex) elt te)
  (hs:∀ x,foldedSetIterable iter X.env x=pure x) (I:Inv X pins σ H s) (h:a5y wi g tf te own fr σ H Q)
  (fin:∀ (D C:Addr) (H':Hp) (s':Shared),(∃ m,s'.heap.Ns C m)→a4w X pins H' C→Inv X pins σ H' s'→Q (.ref D) H'→compPost (model X.prog X.w) X.A X.xe use Q' (.ref D) C (.ok .next) s'):
  wpAny (model X.prog X.w) X.A (comprehension (.ListComp elt [⟨tg,iter,ifs,0⟩] scope pos) scope X.env (firstIterPos [⟨tg,iter,ifs,0⟩] pos) (newList []) false (eval iter X.env) use) Q' X.xe s:=by
 obtain ⟨cl,hclos,cl1,cl2⟩:=a8n (scope:=scope) (env:=X.env) fun n hn=>I.ok.has n (B.free _ hn rfl)
 refine wpAny_comprehension_free (cl:=cl) rfl hs hclos B.kind B.names ?_
 refine L7 (hi pins s σ H _ I h) fun v s1 h1=>L7 h1 fun itv s2 h2=>?_
 obtain ⟨it,fp,tn,J,H2,e,I2,T,st2,f2,W,⟨m0,w0⟩,turn⟩:=h2
 subst e
 refine wpAny_newObj_type (a8k ?_)
 dsimp only
 have szp:(s2.heap.push { cls:=.type "list",dict:=none,data:=.seq ([]:List Value).toArray }).objs.size=s2.heap.objs.size + 1:=Heap.size_push _ _
 have hns1:=(Heap.Ns.new (s2.heap.push { cls:=.type "list",dict:=none,data:=.seq ([]:List Value).toArray }) (.type "dict")).keeps (pushCells_keeps scope.names _)
 have hkp1:∀ b o,(s2.heap.push { cls:=.type "list",dict:=none,data:=.seq ([]:List Value).toArray }).get? b=some o→(pushCells ((s2.heap.push { cls:=.type "list",dict:=none,data:=.seq ([]:List Value).toArray }).push { cls:=.type "dict",data:=.dict #[] }) scope.names).get? b=some o:=fun b o e=>pushCells_keeps _ _ b o (Heap.get?_push_of_some _ e)
 have ok1:=cellsFrom_ok scope.names ((s2.heap.push { cls:=.type "list",dict:=none,data:=.seq ([]:List Value).toArray }).push { cls:=.type "dict",data:=.dict #[] }) (s2.heap.objs.size + 2) [] ⟨fun _ _ hm=>(nomatch hm),List.Pairwise.nil⟩ (by rw [Heap.size_push,szp]; exact Nat.le_refl _)
 rw [Heap.size_push,szp] at ok1
 rw [szp] at hns1 ⊢
 generalize pushCells ((s2.heap.push { cls:=.type "list",dict:=none,data:=.seq ([]:List Value).toArray }).push { cls:=.type "dict",data:=.dict #[] }) scope.names=h1 at hns1 hkp1 ok1 ⊢
 have cl3:∀ n n' c,(cellsFrom (s2.heap.objs.size + 1 + 1) scope.names cl).lookup n=some c→(cellsFrom (s2.heap.objs.size + 1 + 1) scope.names cl).lookup n'=some c→s2.heap.objs.size + 1 < c→n=n':=by
  intro n n' c e1 e2 hc'
  rcases a1G e1 with ⟨m1,_⟩ | q1
  ·rcases a1G e2 with ⟨m2,_⟩ | q2
   ·exact name_of_addr ok1.apart m1 m2
   ·obtain ⟨v,q⟩:=I2.cell _ _ (cl1 _ _ q2)
    exact absurd (Nat.lt_trans (Nat.lt_succ_of_lt q.lt) hc') (Nat.lt_irrefl _)
  ·obtain ⟨v,q⟩:=I2.cell _ _ (cl1 _ _ q1)
   exact absurd (Nat.lt_trans (Nat.lt_succ_of_lt q.lt) hc') (Nat.lt_irrefl _)
 have cl4:∀ n c,(cellsFrom (s2.heap.objs.size + 1 + 1) scope.names cl).lookup n=some c→X.env.cells.lookup n=some c∨(scope.names.lookup n=some .cell∧s2.heap.objs.size + 1 < c∧h1.IsCell c none):=by
  intro n c e
  rcases a1G e with ⟨m1,_⟩ | q1
  ·obtain ⟨a1,a2⟩:=ok1.empty n c m1
   exact .inr ⟨B.cells _ (U6 _ _ _ _ m1) rfl,by omega,a1⟩
  ·exact .inl (cl1 _ _ q1)
 have cl5:∀ n c,(cellsFrom (s2.heap.objs.size + 1 + 1) scope.names cl).lookup n=some c→scope.names.lookup n=some .cell→s2.heap.objs.size + 1 < c:=by
  intro n c e hn
  obtain ⟨c0,hc0⟩:=Q6 scope.names (s2.heap.objs.size + 1 + 1) n (mem_of_lookup hn)
  obtain ⟨c',e'⟩:=X7 hc0
  rw [A8,List.lookup_append,e'] at e
  cases e
  have:=(ok1.empty n c (mem_of_lookup e')).2
  omega
 have cl6:∀ n,(n,NameKind.free)∈scope.names∨(n,NameKind.cell)∈scope.names→∃ c,(cellsFrom (s2.heap.objs.size + 1 + 1) scope.names cl).lookup n=some c:=fun n h=>a74 (h.symm.imp id (cl2 n))
 generalize cellsFrom (s2.heap.objs.size + 1 + 1) scope.names cl=cx at cl3 cl4 cl5 cl6 ⊢
 have hlt:∀ b∈fp,b < s2.heap.objs.size:=fun b hb=>by
  obtain ⟨o,eo,_⟩:=T.obj _ _ st2 b hb
  exact Heap.lt_size eo
 have hsb2:∀ b o,b < s2.heap.objs.size + 1→(s2.heap.push { cls:=.type "list",data:=.seq ([]:List Value).toArray }).get? b=some o→h1.get? b=some o:=fun b o hb e=>
  hkp1 b o e
 have hns2:h1.Ns (s2.heap.objs.size + 1) fun _=>none:=hns1
 have J0:=Inv.block (cl:=cx) (h1:=h1) (fp:=fp) (t1:=s2.toks) B I2 cl4 cl3 cl6 cl5 (fun b hb=>⟨f2 b hb,hlt b hb⟩) hns2 hsb2
 have st1:tn 0 h1:=T.keep _ _ _ st2 fun b hb o e=>hsb2 b o (Nat.lt_succ_of_lt (hlt b hb)) (Heap.get?_push_of_some _ e)
 
 have stat:∀ {H':Hp} {o:Obj},(∀ b∈fp,H' b=none)→∀ b∈fp,a4w (X.blk scope cx (s2.heap.objs.size + 1) M { s2 with heap:=s2.heap.push { cls:=.type "list",data:=.seq ([]:List Value).toArray } } H2 (s2.heap.objs.size::fp)) [(s2.heap.objs.size,o)] H' b:=by
  intro H' o hn b hb
  obtain ⟨f0,f1,ff,f3,f4,f5⟩:=f2 b hb
  refine ⟨hn b hb,Nat.ne_of_lt (Nat.lt_succ_of_lt (hlt b hb)),fun z=>?_,.inl (List.mem_cons_of_mem _ hb),fun x c e=>?_,fun p hp z=>?_⟩
  ·rcases List.mem_cons.mp (I2.a2H b z) with e | e
   ·exact f1 e
   ·exact ff e
  ·rcases cl4 x c e with q | ⟨_,q,_⟩
   ·exact f4 x c q
   ·exact Nat.ne_of_gt (Nat.lt_trans (Nat.lt_succ_of_lt (hlt b hb)) q)
  ·have e:p=(s2.heap.objs.size,o):=List.mem_singleton.mp hp
   subst e
   exact absurd (hlt b hb) (by rw [← z]; exact Nat.lt_irrefl _)
 have loop:∀ s3:Shared,s3={ s2 with heap:=h1,toks:=s2.toks }→
   codeAny (model X.prog X.w) X.A (.compLoop (.ListComp elt [⟨tg,iter,ifs,0⟩] scope pos) 0 (.ref it) (.ref s2.heap.objs.size) (compEnvC scope cx (s2.heap.objs.size + 1) X.env))
    (compPost (model X.prog X.w) X.A X.xe use Q' (.ref s2.heap.objs.size) (s2.heap.objs.size + 1)) s3:=by
  rintro s3 rfl
  refine a6p (fun n s'=>∃ (i:Nat) (τ:St) (H':Hp) (ys:List V) (its:List Value) (k:Nat),Inv (X.blk scope cx (s2.heap.objs.size + 1) M { s2 with heap:=s2.heap.push { cls:=.type "list",data:=.seq ([]:List Value).toArray } } H2 (s2.heap.objs.size::fp)) [(s2.heap.objs.size,{ cls:=.type "list",data:=.seq its.toArray k })] (seen own fr σ) H' s'∧
   tn i s'.heap∧(∀ b∈fp,H' b=none)∧Vals ys its∧ys.length≤sizeLine∧W i n ys H') ?_ m0 ⟨0,seen own fr σ,H2,[],[],0,J0,st1,fun b hb=>(f2 b hb).1,.nil,Nat.zero_le _,w0⟩
  rintro n s4 ⟨i,τ,H4,ys,its,k,J4,st4,fr4,hv4,hz4,w4⟩
  rcases turn i n ys H4 w4 with ⟨stop,qn⟩ | ⟨go,hz,N,hN,step⟩
  ·refine L7 (T.done (X.blk scope cx (s2.heap.objs.size + 1) M { s2 with heap:=s2.heap.push { cls:=.type "list",data:=.seq ([]:List Value).toArray } } H2 (s2.heap.objs.size::fp)) rfl rfl rfl hc i _ s4 _ H4 _ J4 (stat fr4) st4 stop) fun r s5 ⟨hr,J5⟩=>?_
   subst hr
   obtain ⟨m5,hn5,_⟩:=J5.loc
   have nD:H4 s2.heap.objs.size=none:=(J5.pin _ (List.mem_append_right _ (List.mem_singleton.mpr rfl))).2.1
   exact fin s2.heap.objs.size (s2.heap.objs.size + 1) _ s5 ⟨m5,hn5⟩ (I2.b1T (Nat.le_succ _) (by rw [j6 (Nat.ne_of_gt (Nat.lt_succ_self _))]; exact J5.free)) (Inv.b13 I2 f2 J5 hv4 hz4 (.refl ..)) (qn _ nD)
  ·refine L7 (T.item (X.blk scope cx (s2.heap.objs.size + 1) M { s2 with heap:=s2.heap.push { cls:=.type "list",data:=.seq ([]:List Value).toArray } } H2 (s2.heap.objs.size::fp)) rfl rfl rfl hc i _ s4 _ H4 _ J4 (stat fr4) st4 go) fun r s5 ⟨u,hr,h5⟩=>?_
   subst hr
   refine L7 h5 fun _ s6 ⟨x,H6,J6,r6,y6,st6,fr6⟩=>?_
   have J6':=J6.pinned (stat fr6) (T.obj _ _ st6)
   refine L7 (hg _ _ _ _ _ _ s6 _ H6 x u _ J6' r6 (hk _ _ _ _ (step x H6 y6))) fun _ s7 ⟨σ7,H7,J7,kp7,q7⟩=>?_
   refine L7 (hf _ _ _ _ _ _ s7 σ7 H7 _ J7 q7) fun ok s8 ⟨H8,J8,q8⟩=>?_
   have tnK:∀ {τ':St} {H':Hp} {s':Shared},Inv (X.blk scope cx (s2.heap.objs.size + 1) M { s2 with heap:=s2.heap.push { cls:=.type "list",data:=.seq ([]:List Value).toArray } } H2 (s2.heap.objs.size::fp)) ([(s2.heap.objs.size,{ cls:=.type "list",data:=.seq its.toArray k })]++a4c fp s6.heap) τ' H' s'→
     tn (i + 1) s'.heap∧(∀ b∈fp,H' b=none):=fun {τ' H' s'} K=>by
    refine ⟨T.keep _ _ _ st6 fun b hb o e=>(K.pin (b,o) (List.mem_append_right _ (List.mem_append_right _ (a0e hb e)))).1,fun b hb=>?_⟩
    obtain ⟨o,e,d⟩:=T.obj _ _ st6 b hb
    exact (K.pin (b,o) (List.mem_append_right _ (List.mem_append_right _ (a0e hb e)))).2.1
   have back:∀ {pl:List (Addr×Obj)} {H':Hp} {s':Shared},Inv (X.blk scope cx (s2.heap.objs.size + 1) M { s2 with heap:=s2.heap.push { cls:=.type "list",data:=.seq ([]:List Value).toArray } } H2 (s2.heap.objs.size::fp)) pl σ7 H' s'→Inv (X.blk scope cx (s2.heap.objs.size + 1) M { s2 with heap:=s2.heap.push { cls:=.type "list",data:=.seq ([]:List Value).toArray } } H2 (s2.heap.objs.size::fp)) pl (seen own fr σ) H' s':=fun {pl H' s'} K=>K.weak (by rw [seen_length,K.len]; exact B.len.symm) kp7
   cases ok with
   | false=>
    obtain ⟨hm',hl⟩:=tnK J8
    obtain ⟨m',hm,w8⟩:=hN ys H8 (by simpa using q8)
    exact ⟨m',hm,i + 1,seen own fr σ,H8,ys,its,k,back J8.a2e,hm',hl,hv4,hz4,w8⟩
   | true=>
    simp only [if_true] at q8 ⊢
    refine L7 (he _ _ _ _ _ _ s8 σ7 H8 _ J8 q8) fun u9 s9 ⟨y,H9,J9,r9,q9⟩=>?_
    obtain ⟨hm',hl⟩:=tnK J9
    obtain ⟨m',hm,w9⟩:=hN (ys++[y]) H9 q9
    obtain ⟨eD,nD,d1,d2,d3⟩:=J9.pin (s2.heap.objs.size,{ cls:=.type "list",data:=.seq its.toArray k }) (List.mem_append_right _ (List.mem_append_left _ (List.mem_singleton.mpr rfl)))
    refine a8H eD (by rw [← hv4.length]; exact Nat.le_of_lt hz) fun h' n' e' kp=>?_
    have K0:Inv (X.blk scope cx (s2.heap.objs.size + 1) M { s2 with heap:=s2.heap.push { cls:=.type "list",data:=.seq ([]:List Value).toArray } } H2 (s2.heap.objs.size::fp)) [] σ7 H9 s9:=J9.a18 fun p hp=>absurd hp (by simp)
    have K1:=K0.turned (t':=s9.toks) (h':=h') (it:=s2.heap.objs.size) kp nD d1 (.inl List.mem_cons_self) (fun x c e=>(J9.ok.exf _ List.mem_cons_self).2 x c e) (fun p hp=>absurd (show p∈([]:List (Addr×Obj)) from hp) (by simp))
    have K2:=K1.a18 (pins':=[(s2.heap.objs.size,{ cls:=.type "list",data:=.seq (its++[u9]).toArray n' })]) fun p hp=>by
     have e:p=_:=List.mem_singleton.mp hp
     subst e
     exact ⟨e',nD,d1,d2,fun v z=>by
      have z':Data.seq (its++[u9]).toArray _=Data.cell v:=z
      cases z'⟩
    refine ⟨m',hm,i + 1,seen own fr σ,H9,ys++[y],its++[u9],n',back K2,T.keep _ _ _ hm' fun b hb o e=>kp b o (Nat.ne_of_lt (hlt b hb)) e,hl,hv4.append (.cons r9 .nil),by rw [List.length_append,List.length_singleton]; exact hz,w9⟩
 exact codeAny_compStart_list (loop _ rfl) (T.self X.A 0 _ _ _ st1 (loop _ rfl))
theorem b1m (B:Blk X scope M own fr)(hc:X.calm=true)(hi:PI X tg iter wi)
  (hg:∀ cl C s H ex,PG (X.blk scope cl C M s H ex) tg g) (hk:a6r own fr g) (hf:∀ cl C s H ex,PF (X.blk scope cl C M s H ex) ifs tf) (he:∀ cl C s H ex,PE (X.blk scope cl C M s H ex) elt te)
  (hs:∀ x,foldedSetIterable iter X.env x=pure x:=by intro _; rfl):PE X (.ListComp elt [⟨tg,iter,ifs,0⟩] scope pos) (a5y wi g tf te own fr):=by
 intro pins s σ H Q I h
 rw [eval_ListComp]
 refine a70 (use:=none) B hc hi hg hk hf he hs I h fun D C H' s' ⟨m,hn⟩ fc I' q=>?_
 obtain ⟨f0,f1,f2,f3,f4,f5⟩:=fc
 exact ⟨m,hn,fun h' hs'=>⟨.ref D,H',I'.turned (t':=s'.toks) (fun b o hb e=>(hs'.2 b hb).trans e) f0 f1 f3 f4 f5,rfl,q⟩⟩
theorem b26 {i:Nat}{y:Str}{py spos:Pos}(B:Blk X scope M own fr)(hc:X.calm=true)(hN:X.N.Nodup)(hy:X.N[i]?=some y)(hx:X.env.kindOf y=some .local)(hi:PI X tg iter wi)
  (hg:∀ cl C s H ex,PG (X.blk scope cl C M s H ex) tg g) (hk:a6r own fr g) (hf:∀ cl C s H ex,PF (X.blk scope cl C M s H ex) ifs tf) (he:∀ cl C s H ex,PE (X.blk scope cl C M s H ex) elt te)
  (hsw:swapsWith (.ListComp elt [⟨tg,iter,ifs,0⟩] scope pos) (some (.Name y py)) spos.line X.env=pure true:=by with_unfolding_all rfl)
  (hs:∀ x,foldedSetIterable iter X.env x=pure x:=by intro _; rfl):PS X (.Assign [.Name y py] (.ListComp elt [⟨tg,iter,ifs,0⟩] scope pos) spos) (b24 (a5y wi g tf te own fr) (a28 i)):=by
 intro pins s σ H D I h
 rw [exec_Assign_Name_used _ _ _ _ hsw]
 refine wpAny_bind (wpAny_standAt (wpAny_bind ?_))
 show wpAny _ _ (do let _ ← comprehension (.ListComp elt [⟨tg,iter,ifs,0⟩] scope pos) scope X.env _ (newList []) false (eval iter X.env) (some (assign (.Name y py) X.env))) _ _ s
 refine wpAny_bind (wpAny_mono (a70 (use:=some (assign (.Name y py) X.env)) (Q':=fun _ s'=>SP X pins D .next s') B hc hi hg hk hf he hs I h fun Dl C H' s' ⟨m,hn⟩ fc I' q=>?_) (fun _ s' hq=>wpAny_pure (wpAny_pure hq)) fun _ _ e=>e)
 obtain ⟨f0,f1,f2,f3,f4,f5⟩:=fc
 show wpAny _ _ (assign (.Name y py) X.env (.ref Dl)) _ _ _
 refine wpAny_assign_Name (a5G I' hN hy (.inl hx) (v:=.ref Dl) rfl (fun s2 I2 ⟨a,sb,ha⟩=>?_) (.inr hx))
 have hCa:C≠a:=by
  rcases ha with rfl | ha
  ·exact f1
  ·exact fun z=>f4 _ _ ha z.symm
 refine ⟨m,hn.sameBut sb hCa,fun h' hs'=>?_⟩
 exact ⟨_,H',I2.turned (t':=s2.toks) (fun b o hb e=>(hs'.2 b hb).trans e) f0 f1 f3 f4 f5,q⟩
noncomputable def namesOk (scope:Scope)(fs:List Str):Bool:=scope.names.all fun y=>(y.2 != .cell || scope.names.lookup y.1 == some .cell) && (y.2 != .free || fs.contains y.1) && (y.2 != .local || scope.names.lookup y.1 == some .local)
theorem Blk.mk' {fs:List Str}(kind:scope.kind=.function)(h:namesOk scope fs=true)(nd:M.Nodup)(len:M.length=own + fr.length)(hk:∀ n∈fs,X.env.kindOf n=some .cell∨X.env.kindOf n=some .free)
  (at':∀ i j,fr[i]?=some j→M[own + i]?=X.N[j]?∧∃ n,X.N[j]?=some n∧scope.names.lookup n=some .free∧(X.env.kindOf n=some .cell∨X.env.kindOf n=some .free)):Blk X scope M own fr:=by
 have h':=List.all_eq_true.mp h
 refine ⟨kind,fun y hy e=>?_,fun y hy e=>?_,fun y hy e=>?_,nd,len,at'⟩
 ·have q:=h' y hy
  simp only [Bool.and_eq_true] at q
  have q2:=q.1.1
  rw [e] at q2
  simpa using q2
 ·have q:=h' y hy
  simp only [Bool.and_eq_true] at q
  have q2:=q.2
  rw [e] at q2
  simpa using q2
 ·have q:=h' y hy
  simp only [Bool.and_eq_true] at q
  have q2:=q.1.2
  rw [e] at q2
  exact hk y.1 (by simpa using q2)
theorem b6J {x:Str}{px:Pos}{M':List Str}(B:Blk X scope (x::M') 1 fr)(hi:PI X (.Name x px) iter wi)(hf:∀ cl C s H ex,PF (X.blk scope cl C (x::M') s H ex) ifs tf)(he:∀ cl C s H ex,PE (X.blk scope cl C (x::M') s H ex) elt te)
  (hc:X.calm=true:=by rfl) (hx:scope.names.lookup x=some .local∨scope.names.lookup x=some .cell:=by first | exact .inl rfl | exact .inr rfl) (hs:∀ x,foldedSetIterable iter X.env x=pure x:=by intro _; rfl):PE X (.ListComp elt [⟨.Name x px,iter,ifs,0⟩] scope pos) (a5y wi (a28 0) tf te 1 fr):=
 b1m B hc hi (fun _ _ _ _ _=>a5Y B.nd rfl (hx.imp lookup_relabel_local a3f) (hx.symm.imp (fun h=>by show (scope.names.lookup x == some .cell)=true; rw [h]; rfl) lookup_relabel_local)) (a9l (by decide)) hf he hs
theorem b69 {i:Nat}{y:Str}{py spos:Pos}{x:Str}{px:Pos}{M':List Str}(B:Blk X scope (x::M') 1 fr)(hN:X.N.Nodup)(hi:PI X (.Name x px) iter wi)(hf:∀ cl C s H ex,PF (X.blk scope cl C (x::M') s H ex) ifs tf)(he:∀ cl C s H ex,PE (X.blk scope cl C (x::M') s H ex) elt te)
  (hy:X.N[i]?=some y:=by rfl) (hly:X.env.kindOf y=some .local:=by rfl) (hc:X.calm=true:=by rfl) (hx:scope.names.lookup x=some .local∨scope.names.lookup x=some .cell:=by first | exact .inl rfl | exact .inr rfl)
  (hsw:swapsWith (.ListComp elt [⟨.Name x px,iter,ifs,0⟩] scope pos) (some (.Name y py)) spos.line X.env=pure true:=by with_unfolding_all rfl)
  (hs:∀ x,foldedSetIterable iter X.env x=pure x:=by intro _; rfl):PS X (.Assign [.Name y py] (.ListComp elt [⟨.Name x px,iter,ifs,0⟩] scope pos) spos) (b24 (a5y wi (a28 0) tf te 1 fr) (a28 i)):=
 b26 B hc hN hy hly hi (fun _ _ _ _ _=>a5Y B.nd rfl (hx.imp lookup_relabel_local a3f) (hx.symm.imp (fun h=>by show (scope.names.lookup x == some .cell)=true; rw [h]; rfl) lookup_relabel_local)) (a9l (by decide)) hf he hsw hs
end
end L2
set_option Elab.async false
set_option linter.all false
set_option maxRecDepth 100000
set_option maxHeartbeats 4000000
namespace L2
open PySem PySem.Spec PyProof.Rows
noncomputable abbrev tx (cs:List Nat):Str:=⟨cs.toArray⟩
theorem b5a (x:Str):tx x.cps.toList=x:=by cases x; rfl
theorem b1W {a b:List Nat}:tx a=tx b↔a=b:=by
 constructor
 ·intro h
  have e:a.toArray=b.toArray:=congrArg Str.cps h
  simpa using e
 ·rintro rfl; rfl
theorem a0R (a:List Nat):(tx a).length=a.length:=by show a.toArray.size=a.length; simp
theorem b5g (a b:List Nat):tx a++tx b=tx (a++b):=by
 show Str.mk (a.toArray++b.toArray)=Str.mk (a++b).toArray
 congr 1
 simp
noncomputable def Its (x:Str):It:=⟨fun i _=>i < x.cps.size,fun i H v H'=>H'=H∧∃ c,x.cps[i]?=some c∧v=.str ⟨#[c]⟩,fun i _=>x.cps.size≤i⟩
theorem b0k {P:Program}{w:World}{K:PySem.W.Frag}{tg:Expr}(x:Str)(t:Tok)(it:Addr):Turn P w K tg (Its x) [it] it (fun i h=>h.IsStrIter it "str_ascii_iterator" x t i) where
 mem:=by simp
 obj:=fun i h st b hb=>by
  have e:b=it:=by simpa using hb
  subst e
  obtain ⟨o,e,c,d⟩:=st
  exact ⟨o,e,fun v z=>by rw [d] at z; cases z⟩
 keep:=fun i h h' st k=>let ⟨o,ho,r⟩:=st; ⟨o,k it (by simp) o ho,r⟩
 item:=by
  intro X hP hw hK hc i pins s σ H E I hf st hg
  subst hP hw hK
  obtain ⟨f0,f1,f2,f3,f4,f5⟩:=hf it (by simp)
  have hg':i < x.cps.size:=hg
  refine wpAny_pyNext_ascii_item st (c:=x.cps[i]) (by simp [hg']) fun h' st' sb=>?_
  have I1:Inv X pins σ H { s with heap:=h',toks:=s.toks + 1 }:=I.turned (fun b o hb e=>(sb.2 b hb).trans e) f0 f1 f3 f4 f5
  obtain ⟨o,e,c,d⟩:=id st'
  exact ⟨_,rfl,a4o (s:={ s with heap:=h',toks:=s.toks + 1 }) e c d (by decide) ⟨.str ⟨#[x.cps[i]]⟩,H,I1,⟨_,rfl⟩,⟨rfl,_,by simp [hg'],rfl⟩,st',fun b hb=>(hf b hb).1⟩⟩
 done:=by
  intro X hP hw hK hc i pins s σ H E I hf st hg
  subst hP hw hK
  obtain ⟨f0,f1,f2,f3,f4,f5⟩:=hf it (by simp)
  have hg':x.cps.size≤i:=hg
  exact wpAny_pyNext_ascii_end (I.ok.hd hc) st (by simp [hg']) fun h' eb=>⟨rfl,I.turned (t':=s.toks) (fun b o hb e=>eb b o hb e) f0 f1 f3 f4 f5⟩
 self:=fun _ _ _ _ _ st h=>wpAny_pyIter_striter_ascii st h
theorem b0g {P:Program}{w:World}{K:PySem.W.Frag}{tg:Expr}(x:Str)(t:Tok)(it:Addr):Turn P w K tg (Its x) [it] it (fun i h=>h.IsStrIter it "str_iterator" x t i) where
 mem:=by simp
 obj:=fun i h st b hb=>by
  have e:b=it:=by simpa using hb
  subst e
  obtain ⟨o,e,c,d⟩:=st
  exact ⟨o,e,fun v z=>by rw [d] at z; cases z⟩
 keep:=fun i h h' st k=>let ⟨o,ho,r⟩:=st; ⟨o,k it (by simp) o ho,r⟩
 item:=by
  intro X hP hw hK hc i pins s σ H E I hf st hg
  subst hP hw hK
  obtain ⟨f0,f1,f2,f3,f4,f5⟩:=hf it (by simp)
  have hg':i < x.cps.size:=hg
  refine wpAny_pyNext_wide_item st (c:=x.cps[i]) (by simp [hg']) fun h' st' sb=>?_
  have I1:Inv X pins σ H { s with heap:=h',toks:=s.toks + 1 }:=I.turned (fun b o hb e=>(sb.2 b hb).trans e) f0 f1 f3 f4 f5
  obtain ⟨o,e,c,d⟩:=id st'
  exact ⟨_,rfl,a4o (s:={ s with heap:=h',toks:=s.toks + 1 }) e c d (by decide) ⟨.str ⟨#[x.cps[i]]⟩,H,I1,⟨_,rfl⟩,⟨rfl,_,by simp [hg'],rfl⟩,st',fun b hb=>(hf b hb).1⟩⟩
 done:=by
  intro X hP hw hK hc i pins s σ H E I hf st hg
  subst hP hw hK
  obtain ⟨f0,f1,f2,f3,f4,f5⟩:=hf it (by simp)
  have hg':x.cps.size≤i:=hg
  exact wpAny_pyNext_wide_end (I.ok.hd hc) st (by simp [hg']) fun h' eb=>⟨rfl,I.turned (t':=s.toks) (fun b o hb e=>eb b o hb e) f0 f1 f3 f4 f5⟩
 self:=fun _ _ _ _ _ st h=>wpAny_pyIter_striter_wide st h
section
variable {X:Cx}
noncomputable def a6T (cs:List Nat)(lo hi:Option Int):List Nat:=(cs.drop (HT.B8 cs.length 0 lo)).take (HT.B8 cs.length cs.length hi - HT.B8 cs.length 0 lo)
theorem a8G (lo hi:Option Int)(n:Nat):Builtin.Str.strSliceIndices lo hi 1 n=(List.range (HT.B8 n n hi - HT.B8 n 0 lo)).map fun k=>HT.B8 n 0 lo + k:=by
 have clip:∀ (o:Option Int) (d:Nat) (d':Int),d'=(d:Int)→(match o with | none=>d' | some i=>(if (1:Int) > 0 then max 0 (min (if i < 0 then i + (n:Int) else i) (n:Int)) else max (-1) (min (if i < 0 then i + (n:Int) else i) ((n:Int) - 1))))=((HT.B8 n d o:Nat):Int):=by
  intro o d d' hd
  cases o with
  | none=>exact hd
  | some i=>
   show (if (1:Int) > 0 then max 0 (min (if i < 0 then i + (n:Int) else i) (n:Int)) else _)=(((if i < 0 then (i + (n:Int)).toNat else min i.toNat n):Nat):Int)
   rw [if_pos (by decide)]
   by_cases h:i < 0
   ·rw [if_pos h,if_pos h]; omega
   ·rw [if_neg h,if_neg h]; omega
 unfold Builtin.Str.strSliceIndices
 have e1:=clip lo 0 (if (1:Int) > 0 then 0 else (n:Int) - 1) (by simp)
 have e2:=clip hi n (if (1:Int) > 0 then (n:Int) else -1) (by simp)
 refine Eq.trans (b:=sliceRange ((HT.B8 n 0 lo:Nat):Int) ((HT.B8 n n hi:Nat):Int) 1) ?_ ?_
 ·have e3:∀ a b a' b':Int,a=a'→b=b'→sliceRange a b 1=sliceRange a' b' 1:=fun _ _ _ _ h h'=>by rw [h,h']
  exact e3 _ _ _ _ e1 e2
 unfold sliceRange
 have e3:(if (1:Int) > 0 then (if ((HT.B8 n 0 lo:Nat):Int) < ((HT.B8 n n hi:Nat):Int) then (((HT.B8 n n hi:Nat):Int) - ((HT.B8 n 0 lo:Nat):Int) + 1 - 1) / 1 else 0) else (if ((HT.B8 n 0 lo:Nat):Int) > ((HT.B8 n n hi:Nat):Int) then (((HT.B8 n 0 lo:Nat):Int) - ((HT.B8 n n hi:Nat):Int) - 1 - 1) / (-1) else 0)).toNat=HT.B8 n n hi - HT.B8 n 0 lo:=by
  rw [if_pos (by decide)]
  split <;> omega
 simp only [] at e3 ⊢
 rw [e3]
 refine List.map_congr_left fun k _=>?_
 omega
theorem b6C (cs:List Nat)(i k:Nat)(h:i + k≤cs.length):((List.range k).map fun m=>i + m).filterMap (cs.toArray[·]?)=(cs.drop i).take k:=by
 rw [List.filterMap_map]
 refine List.ext_getElem? fun j=>?_
 have key:∀ (k i:Nat),i + k≤cs.length→(List.range k).filterMap (fun m=>cs[i + m]?)=(cs.drop i).take k:=by
  intro k
  induction k with
  | zero=>intro i _; simp
  | succ k ih=>
   intro i hik
   rw [List.range_succ,List.filterMap_append,ih i (by omega)]
   have hlt:i + k < cs.length:=by omega
   rw [List.take_add_one,List.getElem?_drop]
   simp [hlt]
 have e:((fun x=>cs.toArray[x]?) ∘ fun m=>i + m)=fun m=>cs[i + m]?:=by
  funext m
  simp
 rw [e,key k i h]
theorem a9i (n d:Nat)(hd:d≤n)(o:Option Int):HT.B8 n d o≤n:=HT.b1s n d hd o
theorem a4i {cs:List Nat}{t:Tok}{l u:Option (Int×Tok)}{Q:Value→Shared→Prop}{s:Shared}(hz:cs.length≤sizeLine)(h:∀ t' k,Q (.str (tx (a6T cs (l.map (·.1)) (u.map (·.1)))) t') { s with toks:=k }):(sliceMade (tx cs) t l u none).post Q s:=by
 have hlen:(tx cs).length=cs.length:=a0R cs
 have ei:slicePicked (tx cs) l u none=(List.range (HT.B8 cs.length cs.length (u.map (·.1)) - HT.B8 cs.length 0 (l.map (·.1)))).map fun k=>HT.B8 cs.length 0 (l.map (·.1)) + k:=by
  show Builtin.Str.strSliceIndices (l.map (·.1)) (u.map (·.1)) 1 (tx cs).length=_
  rw [hlen,a8G]
 have h1:=a9i cs.length 0 (Nat.zero_le _) (l.map (·.1))
 have h2:=a9i cs.length cs.length (Nat.le_refl _) (u.map (·.1))
 unfold sliceMade
 by_cases hc:(((none:Option (Int×Tok)).map (·.1)).getD 1 == 1 && (slicePicked (tx cs) l u none).length == (tx cs).length)=true
 ·rw [if_pos hc]
  have hl:HT.B8 cs.length cs.length (u.map (·.1)) - HT.B8 cs.length 0 (l.map (·.1))=cs.length:=by
   rw [Bool.and_eq_true] at hc
   have q:=eq_of_beq hc.2
   rw [ei,hlen,List.length_map,List.length_range] at q
   exact q
  have e:a6T cs (l.map (·.1)) (u.map (·.1))=cs:=by
   unfold a6T
   rw [hl]
   by_cases h0:cs.length=0
   ·have:cs=[]:=List.length_eq_zero_iff.mp h0
    subst this
    simp
   ·have:HT.B8 cs.length 0 (l.map (·.1))=0:=by omega
    rw [this]
    simp
  have q:=h t s.toks
  rw [e] at q
  exact q
 ·rw [if_neg hc]
  have e:(slicePicked (tx cs) l u none).filterMap ((tx cs).cps[·]?)=a6T cs (l.map (·.1)) (u.map (·.1)):=by
   rw [ei]
   by_cases hh:HT.B8 cs.length 0 (l.map (·.1))≤HT.B8 cs.length cs.length (u.map (·.1))
   ·exact b6C cs _ _ (by omega)
   ·have z:HT.B8 cs.length cs.length (u.map (·.1)) - HT.B8 cs.length 0 (l.map (·.1))=0:=by omega
    unfold a6T
    rw [z]
    simp
  rw [e]
  refine ⟨?_,h _ _⟩
  show (a6T cs (l.map (·.1)) (u.map (·.1))).toArray.size≤sizeLine
  unfold a6T
  rw [List.size_toArray,List.length_take,List.length_drop]
  omega
theorem b5W:SlR X (fun x lo hi H Q=>∃ cs:List Nat,x=.str (tx cs)∧cs.length≤1000000∧Q (.str (tx (a6T cs lo hi))) H):=by
 intro pins s σ H x v vl vu lo hi sl Q I rx hs pl pu h
 obtain ⟨cs,rfl,hz,q⟩:=h
 obtain ⟨t,rfl⟩:=rx
 refine ⟨"str",_,F.slot_str_getitem.lookup,typeIs_str s (tx cs) t,?_⟩
 obtain ⟨o,ho,hc,hd⟩:=hs
 have key:∀ (l u:Option (Int×Tok)),vl=partValue l→vu=partValue u→l.map (·.1)=lo→u.map (·.1)=hi→wpAny (model X.prog X.w) X.A (getItem (.str (tx cs) t) (.ref sl)) (EP X pins σ Q) X.xe s:=by
  intro l u e1 e2 e3 e4
  subst e1 e2
  refine wpAny_getItem_str_slice (l:=l) (u:=u) (st:=none) ⟨o,ho,hc,hd⟩ rfl (a4i (by rw [sizeLine_eq]; omega) fun t' k=>?_)
  rw [e3,e4]
  exact ⟨.str _,H,I.tok k,⟨_,rfl⟩,q⟩
 cases pl with
 | none=>
  cases pu with
  | none=>exact key none none rfl rfl rfl rfl
  | int j tj=>exact key none (some (j,tj)) rfl rfl rfl rfl
 | int i ti=>
  cases pu with
  | none=>exact key (some (i,ti)) none rfl rfl rfl rfl
  | int j tj=>exact key (some (i,ti)) (some (j,tj)) rfl rfl rfl rfl
theorem all_range (bs:List Bool):(List.range bs.length).all (fun i=>bs.getD i false)=bs.all id:=by
 have key:∀ (bs pre:List Bool),(List.range' pre.length bs.length).all (fun i=>(pre++bs).getD i false)=bs.all id:=by
  intro bs
  induction bs with
  | nil=>intro pre; rfl
  | cons b r ih=>
   intro pre
   have q:=ih (pre++[b])
   rw [List.length_cons,List.range'_succ,List.all_cons,List.all_cons]
   have e:(pre++b::r).getD pre.length false=b:=by simp
   have e2:pre++b::r=(pre++[b])++r:=by simp
   rw [e,e2]
   have e3:(pre++[b]).length=pre.length + 1:=by simp
   rw [e3] at q
   rw [q]
   rfl
 have q:=key bs []
 simpa [List.range_eq_range'] using q
theorem any_range (bs:List Bool):(List.range bs.length).any (fun i=>bs.getD i false)=bs.any id:=by
 have key:∀ (bs pre:List Bool),(List.range' pre.length bs.length).any (fun i=>(pre++bs).getD i false)=bs.any id:=by
  intro bs
  induction bs with
  | nil=>intro pre; rfl
  | cons b r ih=>
   intro pre
   have q:=ih (pre++[b])
   rw [List.length_cons,List.range'_succ,List.any_cons,List.any_cons]
   have e:(pre++b::r).getD pre.length false=b:=by simp
   have e2:pre++b::r=(pre++[b])++r:=by simp
   rw [e,e2]
   have e3:(pre++[b]).length=pre.length + 1:=by simp
   rw [e3] at q
   rw [q]
   rfl
 have q:=key bs []
 simpa [List.range_eq_range'] using q
theorem a47 {bs:List Bool}{its:List Value}{i:Nat}{v:Value}(r:Vals (bs.map V.bl) its)(h:its[i]?=some v):v=.bool (bs.getD i false):=by
 have hi:i < its.length:=(List.getElem?_eq_some_iff.mp h).1
 have hl:=r.length
 rw [List.length_map] at hl
 have hb:i < bs.length:=by omega
 obtain ⟨u,hu,ru⟩:=r.get (i:=i) (x:=V.bl bs[i]) (by simp [hb])
 rw [h] at hu
 cases hu
 have e:bs.getD i false=bs[i]:=by simp [hb]
 rw [e]
 exact ru
theorem b19 (hc:X.calm=true):K3 X (.builtin "all") (fun xs H Q=>∃ (p:Addr) (bs:List Bool),xs=[.ref p]∧L8 X.K H p (bs.map V.bl)∧Q (.bl (bs.all id)) H):=by
 intro pins s σ H xs us Q I r h
 obtain ⟨p,bs,rfl,hq,q⟩:=h
 obtain ⟨u,rfl,rx⟩:=vals1 r
 cases rx
 obtain ⟨its,rv,pl,hz⟩:=I.list hq
 have hlen:its.toArray.size=bs.length:=by
  rw [List.size_toArray,← rv.length,List.length_map]
 have hp:p < s.heap.objs.size:=by
  obtain ⟨o,ho,_⟩:=pl.isList
  exact Heap.lt_size ho
 refine call_all_walk (wpAny_pyIter_list pl.isList ?_)
 refine ⟨s.heap.objs.size,_,_,its.toArray.size,_,_,fun i=>bs.getD i false,rfl,Walks.list (A:=X.A.in1) (I.ok.hd hc) s.heap.objs.size p (Nat.ne_of_lt hp) its.toArray,And.intro ⟨_,Heap.get?_push_size _ rfl,rfl,rfl⟩ (pl.isList.at fun o e=>Heap.get?_push_of_some _ e),fun i v s1 Q1 E1 hv hQ=>?_,fun h' tk hk=>?_⟩
 ·have ev:v=.bool (bs.getD i false):=a47 rv (by simpa using hv)
  subst ev
  exact wpAny_truthy_bool hQ
 ·rw [hlen,all_range]
  refine ⟨.bl _,H,I.kept (t':=tk) fun b o e=>hk b o (fun z=>?_) (Heap.get?_push_of_some _ e),rfl,q⟩
  have e2:b=s.heap.objs.size:=by simpa using z
  subst e2
  exact absurd (Heap.lt_size e) (Nat.lt_irrefl _)
theorem b2o (hc:X.calm=true):K3 X (.builtin "any") (fun xs H Q=>∃ (p:Addr) (bs:List Bool),xs=[.ref p]∧L8 X.K H p (bs.map V.bl)∧Q (.bl (bs.any id)) H):=by
 intro pins s σ H xs us Q I r h
 obtain ⟨p,bs,rfl,hq,q⟩:=h
 obtain ⟨u,rfl,rx⟩:=vals1 r
 cases rx
 obtain ⟨its,rv,pl,hz⟩:=I.list hq
 have hlen:its.toArray.size=bs.length:=by
  rw [List.size_toArray,← rv.length,List.length_map]
 have hp:p < s.heap.objs.size:=by
  obtain ⟨o,ho,_⟩:=pl.isList
  exact Heap.lt_size ho
 refine call_any_walk (wpAny_pyIter_list pl.isList ?_)
 refine ⟨s.heap.objs.size,_,_,its.toArray.size,_,_,fun i=>bs.getD i false,rfl,Walks.list (A:=X.A.in1) (I.ok.hd hc) s.heap.objs.size p (Nat.ne_of_lt hp) its.toArray,And.intro ⟨_,Heap.get?_push_size _ rfl,rfl,rfl⟩ (pl.isList.at fun o e=>Heap.get?_push_of_some _ e),fun i v s1 Q1 E1 hv hQ=>?_,fun h' tk hk=>?_⟩
 ·have ev:v=.bool (bs.getD i false):=a47 rv (by simpa using hv)
  subst ev
  exact wpAny_truthy_bool hQ
 ·rw [hlen,any_range]
  refine ⟨.bl _,H,I.kept (t':=tk) fun b o e=>hk b o (fun z=>?_) (Heap.get?_push_of_some _ e),rfl,q⟩
  have e2:b=s.heap.objs.size:=by simpa using z
  subst e2
  exact absurd (Heap.lt_size e) (Nat.lt_irrefl _)
end
end L2
set_option Elab.async false
set_option linter.all false
set_option maxRecDepth 100000
set_option maxHeartbeats 4000000
namespace L2
open PySem PySem.Spec PyProof.Rows
noncomputable def Def (K:PySem.W.Frag)(mg:Str→Option Value)(x:Str)(st:Stmt)(ps:List Str):Prop:=
 ∃ (f:Addr) (fd:FuncData),Fun K x x st f fd∧(∀ us:List Value,us.length=ps.length→bindArgs fd ⟨us,[]⟩=pure (ps.zip us))∧mg x=some (.ref f)
theorem J2 {K:PySem.W.Frag}{h:Heap}{mg:Str→Option Value}{x:Str}{st:Stmt}{ps:List Str}{f:Addr}{od an:Option Addr}{sl:Array (Option Value)}{oc kV dc pm cd ct:Value}(X:K.In h)(G:h.Ns mainGlobals mg)
  (a:PySem.W.nsIn K mainGlobals x=some (some (.ref f))) (l:K.lookup f=some ⟨oc,od,.func (PySem.W.fnOf x x (a1U st) (W4 st) (l9 st) .none kV dc pm an cd ct),sl⟩) (c:PySem.W.codeIn K cd x=true) (k:PySem.W.keepIn K (.ref f)=true)
  (b:∀ (kV doc pm:Value) (an:Option Addr) (cdv ct:Value) (us:List Value),us.length=ps.length→bindArgs (PySem.W.fnOf x x (a1U st) (W4 st) (l9 st) .none kV doc pm an cdv ct) ⟨us,[]⟩=pure (ps.zip us)):Def K mg x st ps:=
 ⟨f,_,b5I (st:=st) l c k,fun us hl=>b kV dc pm an cd ct us hl,PySem.W.mg_of X G a⟩
noncomputable def Has (P:Program)(w:World)(K:PySem.W.Frag)(mg:Str→Option Value)(base:Heap)(k:Nat)(x:Str)(ps:List Str)(sp:Sp):Prop:=
 ∃ (f:Addr) (fd:FuncData),K5 P w K mg base CX0 k f fd ps sp∧Binds K fd ps []∧mg x=some (.ref f)∧PySem.W.keepIn K (.ref f)=true
theorem Def.has {P:Program}{w:World}{K:PySem.W.Frag}{mg:Str→Option Value}{base:Heap}{k:Nat}{x:Str}{st:Stmt}{ps:List Str}{sp:Sp}(D:Def K mg x st ps)(h:∀ f fd,Fun K x x st f fd→K5 P w K mg base CX0 k f fd ps sp):Has P w K mg base k x ps sp:=by
 obtain ⟨f,fd,F,b,m⟩:=D
 exact ⟨f,fd,h f fd F,Binds.all b,m,F.kp⟩
section
variable {X:Cx}{k:Nat}{x:Str}{ps:List Str}{sp:Sp}{e:Expr}{es:List Expr}{t:TA}{p pos:Pos}
theorem b6N (h:Has X.prog X.w X.K X.mg X.base k x ps sp)(hr:U5 k X.A)(ha:PA X (e::es) t)(hg:Gl X x:=by rfl)(hdb:(x == ("__debug__":Str))=false:=by decide)
  (he:starEach (e::es) X.env=(false,eval e X.env)::starEach es X.env:=by rfl) (hpl:(backTo pos (starEach es X.env)).any (·.1)=false:=by rfl):PE X (.Call (.Name x p) (e::es) [] pos) (b1q sp [] E0 t):=by
 obtain ⟨f,fd,F,b,m,kp⟩:=h
 exact b34 F hr hg m kp b .nil b7c ha hdb he hpl
theorem pty {n:String}(hm:X.mg x=none)(hv:bootBuiltins x=some (.type n))(hg:Gl X x:=by rfl)(hn:x≠"__name__":=by decide) (hd:(x == ("__debug__":Str))=false:=by decide):PE X (.Name x pos) (tC (.ty n)):=b3Y hg hm hv rfl hn hd
end
theorem a0G {H:Hp}{p:Addr}(h:H p=none)(o:HO):j4 H (upd H p o):=fun b u q=>by rw [j6 (D7 q h)]; exact q
theorem j4.tup {K:PySem.W.Frag}{H H':Hp}{a:Addr}{xs:List V}(e:j4 H H')(h:W5 K H a xs):W5 K H' a xs:=by
 rcases h with (h | ⟨o,h⟩) | h
 ·exact .inl (.inl (e _ _ h))
 ·exact .inl (.inr ⟨o,e _ _ h⟩)
 ·exact .inr h
noncomputable def b1f (K:PySem.W.Frag):Sp:=fun vs H Q _=>∃ (a:Addr) (ns:List Int),vs=[.ref a]∧L8 K H a (ns.map V.int)∧ns.length≤63∧∀ H',Q (.bl true) H'
theorem b2t {l:PySem.W.OpenLaw}{k:Nat}{q:Program}{loose:List Str}{XP:(Str→Option Value)→Heap→Prop}{YP:World→Heap→Prop}{d:DefRec}{K:Params→PySem.W.Frag}{x:Str}(hn:l.most=some 63)(hdf:d.params.defaults=[])(hr:U5 k callerA)
  (hY:∀ (w:World) (h:Heap),YP w h→(K w.params).In h)
  (F:∀ (w:World) (mg:Str→Option Value) (fa:Addr) (h:Heap),(K w.params).In h→h.Ns mainGlobals mg→mg d.name=some (.ref fa)→
   ∃ fd:FuncData,(∀ (s:Shared) (u:Value),BindsTo s fd ⟨[u],[]⟩ [(x,u)])∧∀ base:Heap,(K w.params).In base→base.Ns mainGlobals mg→K5 l.prog w (K w.params) mg base CX0 k fa fd [x] (b1f (K w.params))):
  PySem.W.WalkO q loose XP YP l.row.toRowW d [] (fun f vs=>PySem.call f vs):=
 L2.b27 (n:=63) (k:=k) (x:=x) (CX:=fun _=>CX0) (sp:=fun w=>b1f (K w.params)) hn (by decide) hdf hr hY F (fun _ _ a ns hl _ hS=>⟨a,ns,rfl,hS,hl,fun _=>rfl⟩) fun _ _ _ _ _ z=>z
theorem b5w {P:Program}{w:World}{K:PySem.W.Frag}{mg:Str→Option Value}{fa:Addr}{k:Nat}{st:Stmt}{x n:Str}{sp:Sp}(D:Def K mg n st [x])(hfa:mg n=some (.ref fa))
  (h:∀ f fd,Fun K n n st f fd→∀ base:Heap,K.In base→base.Ns mainGlobals mg→K5 P w K mg base CX0 k f fd [x] sp):
  ∃ fd:FuncData,(∀ (s:Shared) (u:Value),BindsTo s fd ⟨[u],[]⟩ [(x,u)])∧∀ base:Heap,K.In base→base.Ns mainGlobals mg→K5 P w K mg base CX0 k fa fd [x] sp:=by
 obtain ⟨f,fd,F,b,m⟩:=D
 have e:fa=f:=by
  have e:=Option.some.inj (hfa.symm.trans m)
  injection e
 subst e
 exact ⟨fd,fun s u=>.of_eq (b [u] rfl),h fa fd F⟩
noncomputable def a2m (ns:List Int)(k:Int):Int:=if ns.isEmpty then 0 else ns.getD (k % (ns.length:Int)).toNat 0
noncomputable def A6 (ns:List Int)(k:Int):Int:=
 ((a2m ns k + 104729 * (k + 1)) % 4294967291 * 48271 % 4294967279 / 64 * 69621 + (a2m ns k + 104729 * (k + 1)) % 4294967291 * 48271 % 4294967279) % 4294967231
theorem b3h {ns:List Int}{k:Int}(h:ns≠[]):atI (ns.map V.int) (k % ((ns.map V.int).length:Int))=some (.int (a2m ns k)):=by
 have hl:0 < ns.length:=List.length_pos_iff.mpr h
 have h0:0≤k % (ns.length:Int):=Int.emod_nonneg _ (by omega)
 have h1:k % (ns.length:Int) < ns.length:=Int.emod_lt_of_pos _ (by omega)
 rw [List.length_map]
 have e:k % (ns.length:Int)=(((k % (ns.length:Int)).toNat:Nat):Int):=by omega
 rw [e]
 refine a87 ?_
 rw [List.getElem?_map,List.getElem?_eq_getElem (by omega)]
 unfold a2m
 have he:ns.isEmpty=false:=by cases ns with
  | nil=>exact absurd rfl h
  | cons a r=>rfl
 rw [he]
 simp only [Bool.false_eq_true,if_false,Option.map_some,Option.some.injEq,V.int.injEq]
 rw [List.getD_eq_getElem?_getD,List.getElem?_eq_getElem (by omega)]
 rfl
end L2
set_option Elab.async false
set_option linter.all false
set_option maxRecDepth 100000
set_option maxHeartbeats 4000000
namespace L2
open PySem PySem.Spec PyProof.Rows
section
variable {X:Cx}
theorem a4u (hc:X.calm=true):K3 X (.type "list") (fun xs H Q=>∃ a kvs,xs=[.ref a]∧Rd H a (.dK kvs)∧∀ p,H p=none→Q (.ref p) (upd H p (.lst (kvs.map fun kv=>kV kv.1)))):=by
 intro pins s σ H xs us Q I r h
 obtain ⟨a,kvs,rfl,hH,q⟩:=h
 obtain ⟨u,rfl,rx⟩:=vals1 r
 cases rx
 obtain ⟨z,hS,vs,rel,dd⟩:=O9 I.hok hH
 obtain ⟨ep,hat⟩:=dd.dictAt
 have hlen:=rel.length
 refine PySem.W.kdl_call (PySem.W.kdl_dict (knd:=z5 X.prog X.w) (kvs:=vs) (ep:=ep) hS) (I.ok.hd hc) hat (by omega) fun h' tk acc c kp e items=>?_
 refine ⟨.ref s.heap.objs.size,_,I.laid (a:=s.heap.objs.size) (o:=.lst (kvs.map fun kv=>kV kv.1)) (t':=tk) kp (Nat.le_refl _) ?_,rfl,q _ I.fresh⟩
 refine ⟨by rw [List.length_map]; exact z,acc.toList,c,?_,by simpa using e⟩
 have al:acc.toList.length=vs.length:=by rw [Array.length_toList]; exact items.1
 have key:∀ (ks:List (Key×V)) (us:List (Key×Value)) (ws:List Value),KV ks us→ws.length=us.length→(∀ (j:Nat) v,ws[j]?=some v→∃ k x,us[j]?=some (k,x)∧(z5 X.prog X.w).is k v=true)→Vals (ks.map fun kv=>kV kv.1) ws:=by
  intro ks us ws rr
  unfold KV at rr
  induction rr generalizing ws with
  | nil=>
   intro hl _
   have:ws=[]:=List.length_eq_zero_iff.mp hl
   subst this
   exact .nil
  | @cons p q ps qs hpq _ ih=>
   intro hl hw
   cases ws with
   | nil=>simp at hl
   | cons v r=>
    obtain ⟨k,x,e1,e2⟩:=hw 0 v rfl
    have e3:q=(k,x):=Option.some.inj e1
    refine .cons ?_ (ih r (by simpa using hl) fun j v' hv'=>hw (j + 1) v' hv')
    have e4:p.1=k:=by rw [hpq.1,e3]
    show RelV (kV p.1) v
    rw [e4]
    have e5:a3m k v=true:=e2
    rcases A9 e5 with ⟨i,t,rfl,rfl⟩ | ⟨y,t,rfl,rfl⟩
    ·exact ⟨t,rfl⟩
    ·exact ⟨t,rfl⟩
 exact key kvs vs acc.toList rel al fun j v hv=>items.2 j v (by rw [← Array.getElem?_toList]; exact hv)
end
end L2
set_option Elab.async false
set_option linter.all false
set_option maxRecDepth 100000
set_option maxHeartbeats 4000000
namespace Wd
open PySem
end Wd
set_option Elab.async false
set_option linter.all false
set_option maxRecDepth 100000
set_option maxHeartbeats 4000000
set_option Elab.async false
set_option linter.all false
set_option maxRecDepth 100000
set_option maxHeartbeats 4000000
namespace L2
open PySem PySem.Spec PyProof.Rows
section
variable {X:Cx}{e:Expr}{es:List Expr}{te:TE}{pos:Pos}
end
end L2
set_option Elab.async false
set_option linter.all false
set_option maxRecDepth 100000
set_option maxHeartbeats 4000000
namespace L2
open PySem PySem.Spec PyProof.Rows
section
variable {X:Cx}{K:PySem.W.Frag}
theorem a90 (hK:X.K=K):K3 X (.builtin "len") (fun xs H Q=>∃ p ys,xs=[.ref p]∧(L8 K H p ys∨W5 K H p ys)∧Q (.int ys.length) H):=by subst hK; exact a52
theorem b1L (hK:X.K=K):IxR X (b5Y K):=by subst hK; exact b3M
theorem b4c (hK:X.K=K):IxR X (b5P K):=by subst hK; exact b6c
theorem b0H (hK:X.K=K)(hc:X.calm=true):K3 X (.builtin "all") (fun xs H Q=>∃ (p:Addr) (bs:List Bool),xs=[.ref p]∧L8 K H p (bs.map V.bl)∧Q (.bl (bs.all id)) H):=by subst hK; exact b19 hc
theorem b0n (hK:X.K=K)(hc:X.calm=true):K3 X (.builtin "any") (fun xs H Q=>∃ (p:Addr) (bs:List Bool),xs=[.ref p]∧L8 K H p (bs.map V.bl)∧Q (.bl (bs.any id)) H):=by subst hK; exact b2o hc
end
end L2
set_option Elab.async false
set_option linter.all false
set_option maxRecDepth 100000
set_option maxHeartbeats 4000000
namespace L3
open PySem PySem.Spec PyProof.Rows L2
noncomputable abbrev St:=L2.St
inductive D where
 | A3 | bl (b:Bool) | int (i:Int) | str (cs:List Nat) | ty (n:String)
 | tup (xs:List D) | lst (xs:List D) | dct (kvs:List (Key×D))
instance:Inhabited D:=⟨.A3⟩
inductive Rep (K:PySem.W.Frag) (G:Hp):V→D→Prop
 | A3:Rep K G .A3 .A3
 | bl (b:Bool):Rep K G (.bl b) (.bl b)
 | int (i:Int):Rep K G (.int i) (.int i)
 | str (cs:List Nat):Rep K G (.str (tx cs)) (.str cs)
 | ty (n:String):Rep K G (.ty n) (.ty n)
 | tup {a:Addr} {xs:List V} {ds:List D} (h:W5 K G a xs) (hl:xs.length=ds.length) (hr:∀ (j:Nat) x d,xs[j]?=some x→ds[j]?=some d→Rep K G x d):Rep K G (.ref a) (.tup ds)
 | lst {a:Addr} {xs:List V} {ds:List D} (h:L8 K G a xs) (hl:xs.length=ds.length) (hr:∀ (j:Nat) x d,xs[j]?=some x→ds[j]?=some d→Rep K G x d):Rep K G (.ref a) (.lst ds)
 | dct {a:Addr} {kvs:List (Key×V)} {es:List (Key×D)} (h:Rd G a (.dK kvs)) (hk:kvs.map (·.1)=es.map (·.1)) (hr:∀ (j:Nat) p e,kvs[j]?=some p→es[j]?=some e→Rep K G p.2 e.2):Rep K G (.ref a) (.dct es)
theorem Rd.same {G G':Hp}{a:Addr}{u:HO}(s:j4 G G')(h:Rd G a u):Rd G' a u:=by
 rcases h with h | ⟨o,h⟩
 ·exact .inl (s _ _ h)
 ·exact .inr ⟨o,s _ _ h⟩
theorem _root_.L2.a0D.r {H:Hp}{a:Addr}{kvs:List (Key×V)}{k:Key}(e:Rd H a (.dK kvs)):a0D H a (kV k) (a0X kvs k):=.inl ⟨kvs,k,e,rfl,rfl⟩
theorem Rep.same {K:PySem.W.Frag}{G G':Hp}(s:j4 G G'){v:V}{d:D}(h:Rep K G v d):Rep K G' v d:=by
 induction h with
 | A3=>exact .A3
 | bl b=>exact .bl b
 | int i=>exact .int i
 | str cs=>exact .str cs
 | ty n=>exact .ty n
 | tup h hl _ ih=>exact .tup (s.tup h) hl ih
 | lst h hl _ ih=>exact .lst (s.seq h) hl ih
 | dct h hk _ ih=>exact .dct (L3.Rd.same s h) hk ih
structure v5 (K:PySem.W.Frag) (G:Hp) (xs:List V) (ds:List D):Prop where
 len:xs.length=ds.length
 get:∀ (j:Nat) x d,xs[j]?=some x→ds[j]?=some d→Rep K G x d
structure l5 (K:PySem.W.Frag) (G:Hp) (kvs:List (Key×V)) (es:List (Key×D)):Prop where
 keys:kvs.map (·.1)=es.map (·.1)
 get:∀ (j:Nat) p e,kvs[j]?=some p→es[j]?=some e→Rep K G p.2 e.2
section
variable {K:PySem.W.Frag}{G G' H:Hp}
theorem v5.same (s:j4 G G'){xs:List V}{ds:List D}(h:v5 K G xs ds):v5 K G' xs ds:=⟨h.len,fun j x d a b=>(h.get j x d a b).same s⟩
theorem l5.same (s:j4 G G'){kvs:List (Key×V)}{es:List (Key×D)}(h:l5 K G kvs es):l5 K G' kvs es:=⟨h.keys,fun j x d a b=>(h.get j x d a b).same s⟩
theorem v5.nil:v5 K G [] []:=⟨rfl,fun j x d h=>by simp at h⟩
theorem v5.cons {x:V}{d:D}{xs:List V}{ds:List D}(h:Rep K G x d)(r:v5 K G xs ds):v5 K G (x::xs) (d::ds):=by
 refine ⟨by simp [r.len],fun j y e a b=>?_⟩
 cases j with
 | zero=>simp at a b; subst a b; exact h
 | succ j=>exact r.get j y e (by simpa using a) (by simpa using b)
theorem v5.head {x:V}{d:D}{xs:List V}{ds:List D}(r:v5 K G (x::xs) (d::ds)):Rep K G x d:=r.get 0 x d rfl rfl
theorem v5.tail {x:V}{d:D}{xs:List V}{ds:List D}(r:v5 K G (x::xs) (d::ds)):v5 K G xs ds:=⟨by have:=r.len; simpa using this,fun j y e a b=>r.get (j + 1) y e (by simpa using a) (by simpa using b)⟩
theorem v5.append {xs ys:List V}{ds es:List D}(h:v5 K G xs ds)(r:v5 K G ys es):v5 K G (xs++ys) (ds++es):=by
 refine ⟨by simp [h.len,r.len],fun j x d a b=>?_⟩
 by_cases hj:j < xs.length
 ·rw [List.getElem?_append_left hj] at a
  rw [List.getElem?_append_left (by rw [← h.len]; exact hj)] at b
  exact h.get j x d a b
 ·rw [List.getElem?_append_right (by omega)] at a
  rw [List.getElem?_append_right (by rw [← h.len]; omega),← h.len] at b
  exact r.get _ x d a b
theorem v5.one {x:V}{d:D}(h:Rep K G x d):v5 K G [x] [d]:=.cons h .nil
theorem v5.at {xs:List V}{ds:List D}(h:v5 K G xs ds){j:Nat}{d:D}(e:ds[j]?=some d):∃ x,xs[j]?=some x∧Rep K G x d:=by
 have hj:j < xs.length:=by rw [h.len]; exact (List.getElem?_eq_some_iff.mp e).1
 exact ⟨xs[j],by simp [hj],h.get j _ d (by simp [hj]) e⟩
theorem v5.atV {xs:List V}{ds:List D}(h:v5 K G xs ds){j:Nat}{x:V}(e:xs[j]?=some x):∃ d,ds[j]?=some d∧Rep K G x d:=by
 have hj:j < ds.length:=by rw [← h.len]; exact (List.getElem?_eq_some_iff.mp e).1
 exact ⟨ds[j],by simp [hj],h.get j x _ e (by simp [hj])⟩
theorem v5.take {xs:List V}{ds:List D}(h:v5 K G xs ds)(n:Nat):v5 K G (xs.take n) (ds.take n):=by
 refine ⟨by simp [h.len],fun j x d a b=>?_⟩
 rw [List.getElem?_take] at a b
 by_cases hj:j < n
 ·rw [if_pos hj] at a b; exact h.get j x d a b
 ·rw [if_neg hj] at a; cases a
theorem v5.drop {xs:List V}{ds:List D}(h:v5 K G xs ds)(n:Nat):v5 K G (xs.drop n) (ds.drop n):=by
 refine ⟨by simp [h.len],fun j x d a b=>?_⟩
 rw [List.getElem?_drop] at a b
 exact h.get _ x d a b
theorem v5.set {xs:List V}{ds:List D}{x:V}{d:D}(h:v5 K G xs ds)(hx:Rep K G x d)(n:Nat):v5 K G (xs.set n x) (ds.set n d):=by
 refine ⟨by simp [h.len],fun j y e a b=>?_⟩
 by_cases hj:n=j
 ·subst hj
  rw [List.getElem?_set_self' ] at a b
  cases hx1:xs[n]? with
  | none=>rw [hx1] at a; simp at a
  | some _=>
   cases hd1:ds[n]? with
   | none=>rw [hd1] at b; simp at b
   | some _=>
    rw [hx1] at a; rw [hd1] at b
    simp at a b
    subst a b
    exact hx
 ·rw [List.getElem?_set_ne hj] at a b
  exact h.get j y e a b
theorem v5.a9A (ns:List Int):v5 K G (ns.map V.int) (ns.map D.int):=by
 refine ⟨by simp,fun j x d a b=>?_⟩
 rw [List.getElem?_map] at a b
 cases h:ns[j]? with
 | none=>rw [h] at a; cases a
 | some n=>rw [h] at a b; cases a; cases b; exact .int n
end
inductive C where
 | sh (d:D) | ow (l:Bool) (d:D) | fz (es:List (Key×D))
noncomputable abbrev k9:=List (Option C)
inductive W where
 | val (d:D) | slot (i:Nat) | own (d:D)
structure Bs where
 K:PySem.W.Frag
 H0:Hp
 HK:Hp
 G0:Hp
 L:Nat→Option Addr
noncomputable def Lnt (B:Bs)(i:Nat):Bool→Addr→Prop
 | true,p=>B.L i=some p
 | false,p=>B.H0 p=none
noncomputable def E5 (K:PySem.W.Frag)(G H:Hp)(p:Addr):D→Prop
 | .lst ds=>∃ xs,H p=some (.lst xs)∧v5 K G xs ds
 | .dct es=>∃ kvs,H p=some (.dK kvs)∧l5 K G kvs es
 | _=>False
theorem E5.some {K:PySem.W.Frag}{G H:Hp}{p:Addr}{d:D}(h:E5 K G H p d):∃ o,H p=some o:=by
 cases d with
 | lst ds=>obtain ⟨xs,e,_⟩:=h; exact ⟨_,e⟩
 | dct es=>obtain ⟨xs,e,_⟩:=h; exact ⟨_,e⟩
 | _=>exact (show False from h).elim
theorem E5.same {K:PySem.W.Frag}{G G' H H':Hp}{p:Addr}{d:D}(s:j4 G G')(e:H' p=H p)(h:E5 K G H p d):E5 K G' H' p d:=by
 cases d with
 | lst ds=>obtain ⟨xs,q,r⟩:=h; exact ⟨xs,by rw [e]; exact q,r.same s⟩
 | dct es=>obtain ⟨xs,q,r⟩:=h; exact ⟨xs,by rw [e]; exact q,r.same s⟩
 | _=>exact (show False from h).elim
noncomputable def FZ (K:PySem.W.Frag)(G:Hp)(σ:St)(ρ:k9):Prop:=∀ (i:Nat) es,ρ[i]?=some (some (.fz es))→∃ a o kvs,σ[i]?=some (some (.ref a))∧G a=some (.Z9 o (.dK kvs))∧l5 K G kvs es
theorem FZ.same {K:PySem.W.Frag}{G G':Hp}{σ:St}{ρ:k9}(h:FZ K G σ ρ)(s:j4 G G'):FZ K G' σ ρ:=fun i es e=>by
 obtain ⟨a,o,kvs,h1,h2,h3⟩:=h i es e
 exact ⟨a,o,kvs,h1,s _ _ h2,h3.same s⟩
theorem FZ.b3G {K:PySem.W.Frag}{G:Hp}{σ:St}{ρ:k9}{i:Nat}{c:Option C}(h:FZ K G σ ρ)(hc:∀ es,c≠some (.fz es)):FZ K G σ (ρ.set i c):=fun j es e=>by
 by_cases z:i=j
 ·subst z
  rw [List.getElem?_set_self'] at e
  cases q:ρ[i]? with
  | none=>rw [q] at e; cases e
  | some c0=>rw [q] at e; exact absurd (Option.some.inj e) (hc es)
 ·rw [List.getElem?_set_ne z] at e; exact h j es e
theorem FZ.b6W {K:PySem.W.Frag}{G:Hp}{σ:St}{ρ:k9}{i:Nat}{c:Option C}{v:Option V}(h:FZ K G σ ρ)(hc:∀ es,c≠some (.fz es)):FZ K G (σ.set i v) (ρ.set i c):=fun j es e=>by
 by_cases z:i=j
 ·subst z
  rw [List.getElem?_set_self'] at e
  cases q:ρ[i]? with
  | none=>rw [q] at e; cases e
  | some c0=>rw [q] at e; exact absurd (Option.some.inj e) (hc es)
 ·rw [List.getElem?_set_ne z] at e ⊢; exact h j es e
structure RS (B:Bs) (G H:Hp) (σ:St) (ρ:k9):Prop where
 hk:j4 B.HK B.H0
 keep:j4 B.HK H
 g0:j4 B.G0 G
 gH:j4 G H
 gnew:∀ p o,G p=some o→B.G0 p=some o∨B.H0 p=none
 dom:∀ p,H p=none→B.H0 p=none
 len:σ.length=ρ.length
 sh:∀ (i:Nat) d,ρ[i]?=some (some (.sh d))→∃ v,σ[i]?=some (some v)∧Rep B.K G v d
 ow:∀ (i:Nat) l d,ρ[i]?=some (some (.ow l d))→∃ p,σ[i]?=some (some (.ref p))∧G p=none∧B.HK p=none∧Lnt B i l p∧E5 B.K G H p d
 inj:∀ (i j:Nat) l d k e p,ρ[i]?=some (some (.ow l d))→ρ[j]?=some (some (.ow k e))→σ[i]?=some (some (.ref p))→σ[j]?=some (some (.ref p))→i=j
 fz:FZ B.K G σ ρ
noncomputable def F9 (B:Bs)(G H:Hp)(σ:St)(ρ:k9)(v:V):W→Prop
 | .val d=>Rep B.K G v d
 | .slot i=>σ[i]?=some (some v)
 | .own d=>∃ p,v=.ref p∧G p=none∧B.H0 p=none∧E5 B.K G H p d∧∀ (i:Nat) l e,ρ[i]?=some (some (.ow l e))→σ[i]?≠some (some (.ref p))
noncomputable def K9 (K:PySem.W.Frag)(G H:Hp)(v:V)(d:D):Prop:=Rep K G v d∨∃ p,v=.ref p∧E5 K G H p d
section
variable {K:PySem.W.Frag}{G H:Hp}{v:V}
theorem K9.int {i:Int}(h:K9 K G H v (.int i)):v=.int i:=by
 rcases h with h | ⟨p,_,h⟩
 ·cases h; rfl
 ·exact (show False from h).elim
theorem K9.bl {b:Bool}(h:K9 K G H v (.bl b)):v=.bl b:=by
 rcases h with h | ⟨p,_,h⟩
 ·cases h; rfl
 ·exact (show False from h).elim
theorem K9.A3 (h:K9 K G H v .A3):v=.A3:=by
 rcases h with h | ⟨p,_,h⟩
 ·cases h; rfl
 ·exact (show False from h).elim
theorem K9.ty {n:String}(h:K9 K G H v (.ty n)):v=.ty n:=by
 rcases h with h | ⟨p,_,h⟩
 ·cases h; rfl
 ·exact (show False from h).elim
theorem K9.str {cs:List Nat}(h:K9 K G H v (.str cs)):v=.str (tx cs):=by
 rcases h with h | ⟨p,_,h⟩
 ·cases h; rfl
 ·exact (show False from h).elim
theorem K9.tup {ds:List D}(g:j4 G H)(h:K9 K G H v (.tup ds)):∃ a xs,v=.ref a∧W5 K H a xs∧v5 K G xs ds:=by
 rcases h with h | ⟨p,_,h⟩
 ·cases h with
  | tup h hl hr=>exact ⟨_,_,rfl,g.tup h,hl,hr⟩
 ·exact (show False from h).elim
theorem K9.lst {ds:List D}(g:j4 G H)(h:K9 K G H v (.lst ds)):∃ a xs,v=.ref a∧L8 K H a xs∧v5 K G xs ds:=by
 rcases h with h | ⟨p,rfl,xs,e,r⟩
 ·cases h with
  | lst h hl hr=>exact ⟨_,_,rfl,g.seq h,hl,hr⟩
 ·exact ⟨p,xs,rfl,L8.of e,r⟩
theorem K9.dct {es:List (Key×D)}(g:j4 G H)(h:K9 K G H v (.dct es)):∃ a kvs,v=.ref a∧Rd H a (.dK kvs)∧l5 K G kvs es:=by
 rcases h with h | ⟨p,rfl,xs,e,r⟩
 ·cases h with
  | dct h hk hr=>exact ⟨_,_,rfl,L3.Rd.same g h,hk,hr⟩
 ·exact ⟨p,xs,rfl,.inl e,r⟩
end
noncomputable def getD (w:W)(ρ:k9):Option D:=match w with
 | .val d=>some d
 | .own d=>some d
 | .slot i=>match ρ[i]? with
  | some (some (.sh d))=>some d
  | some (some (.ow _ d))=>some d
  | some (some (.fz es))=>some (.dct es)
  | _=>none
section
variable {B:Bs}{G G' H H':Hp}{σ:St}{ρ:k9}{v:V}{w:W}{d:D}
theorem F9.get (R:RS B G H σ ρ)(h:F9 B G H σ ρ v w)(e:getD w ρ=some d):K9 B.K G H v d:=by
 cases w with
 | val d'=>cases e; exact .inl h
 | own d'=>
  cases e
  obtain ⟨p,rfl,_,_,o,_⟩:=h
  exact .inr ⟨p,rfl,o⟩
 | slot i=>
  have h':σ[i]?=some (some v):=h
  unfold getD at e
  simp only [] at e
  split at e
  ·rename_i d' q
   cases e
   obtain ⟨v',q1,r⟩:=R.sh i _ q
   rw [h'] at q1
   cases q1
   exact .inl r
  ·rename_i l d' q
   cases e
   obtain ⟨p,q1,_,_,_,o⟩:=R.ow i _ _ q
   rw [h'] at q1
   cases q1
   exact .inr ⟨p,rfl,o⟩
  ·rename_i es q
   cases e
   obtain ⟨a,o,kvs,q1,q2,q3⟩:=R.fz i _ q
   rw [h'] at q1
   cases q1
   exact .inl (.dct (.inr ⟨o,q2⟩) q3.keys q3.get)
  ·cases e
theorem F9.same {ρ':k9}(s:j4 G G')(h:F9 B G H σ ρ v w)(hw:∀ d,w≠.own d):F9 B G' H' σ ρ' v w:=by
 cases w with
 | val d=>exact Rep.same s h
 | slot i=>exact h
 | own d=>exact absurd rfl (hw d)
theorem RS.Z9 {p:Addr}{d:D}(R:RS B G H σ ρ)(g:G p=none)(h0:B.H0 p=none)(o:E5 B.K G H p d)(ne:∀ (i:Nat) l e,ρ[i]?=some (some (.ow l e))→σ[i]?≠some (some (.ref p))):
  ∃ G',j4 G G'∧RS B G' H σ ρ∧Rep B.K G' (.ref p) d:=by
 obtain ⟨ob,hob⟩:=o.some
 have s:j4 G (upd G p ob):=a0G g ob
 refine ⟨upd G p ob,s,⟨R.hk,R.keep,R.g0.trans s,?_,?_,R.dom,R.len,?_,?_,R.inj,R.fz.same s⟩,?_⟩
 ·intro b u q
  by_cases e:b=p
  ·subst e; rw [p9] at q; cases q; exact hob
  ·rw [j6 e] at q; exact R.gH b u q
 ·intro b u q
  by_cases e:b=p
  ·subst e; exact .inr h0
  ·rw [j6 e] at q; exact R.gnew b u q
 ·intro i d' q
  obtain ⟨v,q1,r⟩:=R.sh i d' q
  exact ⟨v,q1,r.same s⟩
 ·intro i l d' q
  obtain ⟨p',q1,q2,q3,q4,q5⟩:=R.ow i l d' q
  have e:p'≠p:=fun z=>ne i l d' q (by rw [q1,z])
  exact ⟨p',q1,by rw [j6 e]; exact q2,q3,q4,q5.same s rfl⟩
 ·cases d with
  | lst ds=>
   obtain ⟨xs,e,r⟩:=o
   rw [e] at hob
   cases hob
   have r':=r.same s
   exact .lst (L8.of p9) r'.len r'.get
  | dct es=>
   obtain ⟨xs,e,r⟩:=o
   rw [e] at hob
   cases hob
   have r':=r.same s
   exact .dct (.inl p9) r'.keys r'.get
  | _=>exact (show False from o).elim
end
structure Exn where
 cls:Str
 fs:List (Str×D)
inductive R' (α:Type) where
 | ok (a:α) (ρ:k9) | ex (x:Exn) (ρ:k9)
noncomputable abbrev M (α:Type):=k9→Option (R' α)
noncomputable def M.pure {α:Type}(a:α):M α:=fun ρ=>some (.ok a ρ)
noncomputable def M.bind {α β:Type}(m:M α)(f:α→M β):M β:=fun ρ=>match m ρ with
 | none=>none
 | some (.ex x ρ')=>some (.ex x ρ')
 | some (.ok a ρ')=>f a ρ'
theorem M.i9 {α β:Type}{m:M α}{f:α→M β}{ρ ρ':k9}{a:α}(h:m ρ=some (.ok a ρ')):M.bind m f ρ=f a ρ':=by unfold M.bind; rw [h]
theorem M.a3F {α β:Type}{m:M α}{f:α→M β}{ρ ρ':k9}{x:Exn}(h:m ρ=some (.ex x ρ')):M.bind m f ρ=some (.ex x ρ'):=by unfold M.bind; rw [h]
theorem M.bind_none {α β:Type}{m:M α}{f:α→M β}{ρ:k9}(h:m ρ=none):M.bind m f ρ=none:=by unfold M.bind; rw [h]
noncomputable def C7 (w:W):M D:=fun ρ=>match w with
 | .val d=>some (.ok d ρ)
 | .own d=>some (.ok d ρ)
 | .slot i=>match ρ[i]? with
  | some (some (.sh d))=>some (.ok d ρ)
  | some (some (.ow false d))=>some (.ok d (ρ.set i (some (.sh d))))
  | some (some (.fz es))=>some (.ok (.dct es) ρ)
  | _=>none
theorem W3 {w:W}{ρ:k9}{r:R' D}(h:C7 w ρ=some r):∃ d ρ',r=.ok d ρ':=by
 unfold C7 at h
 cases w with
 | val d=>cases h; exact ⟨_,_,rfl⟩
 | own d=>cases h; exact ⟨_,_,rfl⟩
 | slot i=>
  simp only [] at h
  split at h
  ·cases h; exact ⟨_,_,rfl⟩
  ·cases h; exact ⟨_,_,rfl⟩
  ·cases h; exact ⟨_,_,rfl⟩
  ·cases h
section
variable {B:Bs}{G G' H H':Hp}{σ:St}{ρ ρ':k9}{v:V}{w:W}{d:D}
theorem F9.C7 (R:RS B G H σ ρ)(h:F9 B G H σ ρ v w)(e:L3.C7 w ρ=some (.ok d ρ')):∃ G',j4 G G'∧RS B G' H σ ρ'∧Rep B.K G' v d:=by
 unfold L3.C7 at e
 cases w with
 | val d'=>cases e; exact ⟨G,j4.refl G,R,h⟩
 | own d'=>
  cases e
  obtain ⟨p,rfl,g,h0,o,ne⟩:=h
  exact R.Z9 g h0 o ne
 | slot i=>
  have h':σ[i]?=some (some v):=h
  simp only [] at e
  split at e
  ·rename_i d' q
   cases e
   obtain ⟨v',q1,r⟩:=R.sh i _ q
   rw [h'] at q1
   cases q1
   exact ⟨G,j4.refl G,R,r⟩
  ·rename_i d' q
   cases e
   obtain ⟨p,q1,q2,q3,q4,o⟩:=R.ow i _ _ q
   have hi:i < ρ.length:=(List.getElem?_eq_some_iff.mp q).1
   rw [h'] at q1
   cases q1
   
   have R0:RS B G H σ (ρ.set i none):=by
    refine ⟨R.hk,R.keep,R.g0,R.gH,R.gnew,R.dom,by simp [R.len],fun j d' q'=>?_,fun j l d' q'=>?_,fun j k l d' l' e' p' a b=>?_,R.fz.b3G (by intro _ h; cases h)⟩
    ·by_cases z:i=j
     ·subst z; rw [List.getElem?_set_self hi] at q'; cases q'
     ·rw [List.getElem?_set_ne z] at q'; exact R.sh j d' q'
    ·by_cases z:i=j
     ·subst z; rw [List.getElem?_set_self hi] at q'; cases q'
     ·rw [List.getElem?_set_ne z] at q'; exact R.ow j l d' q'
    ·by_cases z:i=j
     ·subst z; rw [List.getElem?_set_self hi] at a; cases a
     ·by_cases z':i=k
      ·subst z'; rw [List.getElem?_set_self hi] at b; cases b
      ·rw [List.getElem?_set_ne z] at a
       rw [List.getElem?_set_ne z'] at b
       exact R.inj j k l d' l' e' p' a b
   obtain ⟨G',s,R',r⟩:=R0.Z9 q2 q4 o fun j l e' q' z=>by
    by_cases zz:i=j
    ·subst zz; rw [List.getElem?_set_self hi] at q'; cases q'
    ·rw [List.getElem?_set_ne zz] at q'
     exact zz (R.inj i j _ _ _ _ p q q' h' z)
   refine ⟨G',s,⟨R'.hk,R'.keep,R'.g0,R'.gH,R'.gnew,R'.dom,by simp [R.len],fun j d' q'=>?_,fun j l d' q'=>?_,fun j k l d' l' e' p' a b=>?_,(R.fz.same s).b3G (by intro _ h; cases h)⟩,r⟩
   ·by_cases z:i=j
    ·subst z
     rw [List.getElem?_set_self hi] at q'
     cases q'
     exact ⟨_,h',r⟩
    ·rw [List.getElem?_set_ne z] at q'
     exact R'.sh j d' (by rw [List.getElem?_set_ne z]; exact q')
   ·by_cases z:i=j
    ·subst z; rw [List.getElem?_set_self hi] at q'; cases q'
    ·rw [List.getElem?_set_ne z] at q'
     exact R'.ow j l d' (by rw [List.getElem?_set_ne z]; exact q')
   ·by_cases z:i=j
    ·subst z; rw [List.getElem?_set_self hi] at a; cases a
    ·by_cases z':i=k
     ·subst z'; rw [List.getElem?_set_self hi] at b; cases b
     ·rw [List.getElem?_set_ne z] at a
      rw [List.getElem?_set_ne z'] at b
      exact R.inj j k l d' l' e' p' a b
  ·rename_i es q
   cases e
   obtain ⟨a,o,kvs,q1,q2,q3⟩:=R.fz i _ q
   rw [h'] at q1
   cases q1
   exact ⟨G,j4.refl G,R,.dct (.inr ⟨o,q2⟩) q3.keys q3.get⟩
  ·cases e
theorem RS.a58 {p:Addr}{xs:List V}{ds:List D}(R:RS B G H σ ρ)(hp:H p=none)(r:v5 B.K G xs ds):∃ G',j4 G G'∧RS B G' (upd H p (.tup xs)) σ ρ∧Rep B.K G' (.ref p) (.tup ds):=by
 have g:G p=none:=R.gH.free hp
 have s:j4 G (upd G p (.tup xs)):=a0G g _
 have sH:j4 H (upd H p (.tup xs)):=a0G hp _
 refine ⟨upd G p (.tup xs),s,⟨R.hk,R.keep.trans sH,R.g0.trans s,?_,?_,?_,R.len,?_,?_,R.inj,R.fz.same s⟩,.tup (W5.of p9) r.len fun j x d a b=>(r.get j x d a b).same s⟩
 ·intro b u q
  by_cases e:b=p
  ·subst e; rw [p9] at q ⊢; exact q
  ·rw [j6 e] at q ⊢; exact R.gH b u q
 ·intro b u q
  by_cases e:b=p
  ·subst e; exact .inr (R.dom _ hp)
  ·rw [j6 e] at q; exact R.gnew b u q
 ·intro b q
  by_cases e:b=p
  ·subst e; exact R.dom _ hp
  ·rw [j6 e] at q; exact R.dom b q
 ·intro i d' q
  obtain ⟨v,q1,q2⟩:=R.sh i d' q
  exact ⟨v,q1,q2.same s⟩
 ·intro i l d' q
  obtain ⟨p',q1,q2,q3,q4,q5⟩:=R.ow i l d' q
  obtain ⟨ob,hob⟩:=q5.some
  have e:p'≠p:=D7 hob hp
  exact ⟨p',q1,by rw [j6 e]; exact q2,q3,q4,q5.same s (j6 e)⟩
theorem RS.heap {p:Addr}{o:HO}(R:RS B G H σ ρ)(hp:H p=none):RS B G (upd H p o) σ ρ:=by
 have sH:j4 H (upd H p o):=a0G hp _
 refine ⟨R.hk,R.keep.trans sH,R.g0,R.gH.trans sH,R.gnew,?_,R.len,R.sh,?_,R.inj,R.fz⟩
 ·intro b q
  by_cases e:b=p
  ·subst e; exact R.dom _ hp
  ·rw [j6 e] at q; exact R.dom b q
 ·intro i l d' q
  obtain ⟨p',q1,q2,q3,q4,q5⟩:=R.ow i l d' q
  obtain ⟨ob,hob⟩:=q5.some
  have e:p'≠p:=D7 hob hp
  exact ⟨p',q1,q2,q3,q4,q5.same (j4.refl G) (j6 e)⟩
theorem RS.b06 {p:Addr}{o:HO}(R:RS B G H σ ρ)(hp:H p=none)(h:E5 B.K G (upd H p o) p d):RS B G (upd H p o) σ ρ∧F9 B G (upd H p o) σ ρ (.ref p) (.own d):=by
 refine ⟨R.heap hp,p,rfl,R.gH.free hp,R.dom _ hp,h,fun i l e q z=>?_⟩
 obtain ⟨p',q1,q2,q3,q4,q5⟩:=R.ow i l e q
 obtain ⟨ob,hob⟩:=q5.some
 rw [q1] at z
 cases z
 rw [hp] at hob
 cases hob
theorem RS.a2x {p:Addr}{xs:List V}{ds:List D}(R:RS B G H σ ρ)(hp:H p=none)(r:v5 B.K G xs ds):RS B G (upd H p (.lst xs)) σ ρ∧F9 B G (upd H p (.lst xs)) σ ρ (.ref p) (.own (.lst ds)):=
 R.b06 hp ⟨xs,p9,r⟩
theorem RS.a8g {p:Addr}{kvs:List (Key×V)}{es:List (Key×D)}(R:RS B G H σ ρ)(hp:H p=none)(r:l5 B.K G kvs es):RS B G (upd H p (.dK kvs)) σ ρ∧F9 B G (upd H p (.dK kvs)) σ ρ (.ref p) (.own (.dct es)):=
 R.b06 hp ⟨kvs,p9,r⟩
theorem RS.write {i:Nat}{l:Bool}{p:Addr}{d':D}{o:HO}(R:RS B G H σ ρ)(hi:ρ[i]?=some (some (.ow l d)))(hs:σ[i]?=some (some (.ref p)))(h:E5 B.K G (upd H p o) p d'):
  RS B G (upd H p o) σ (ρ.set i (some (.ow l d'))):=by
 obtain ⟨p0,q1,q2,q3,q4,q5⟩:=R.ow i l d hi
 rw [hs] at q1
 cases q1
 have hil:i < ρ.length:=(List.getElem?_eq_some_iff.mp hi).1
 refine ⟨R.hk,fun b u q=>?_,R.g0,fun b u q=>?_,R.gnew,fun b q=>?_,by simp [R.len],fun j e q=>?_,fun j k e q=>?_,fun j k a b c e p' x y=>?_,R.fz.b3G (by intro _ h; cases h)⟩
 ·rw [j6 (D7 q q3)]; exact R.keep b u q
 ·rw [j6 (D7 q q2)]; exact R.gH b u q
 ·by_cases z:b=p
  ·subst z; rw [p9] at q; cases q
  ·rw [j6 z] at q; exact R.dom b q
 ·by_cases z:i=j
  ·subst z; rw [List.getElem?_set_self hil] at q; cases q
  ·rw [List.getElem?_set_ne z] at q; exact R.sh j e q
 ·by_cases z:i=j
  ·subst z
   rw [List.getElem?_set_self hil] at q
   cases q
   exact ⟨p,hs,q2,q3,q4,h⟩
  ·rw [List.getElem?_set_ne z] at q
   obtain ⟨p',a1,a2,a3,a4,a5⟩:=R.ow j k e q
   have e':p'≠p:=fun zz=>z (R.inj i j _ _ _ _ p hi q hs (by rw [a1,zz]))
   exact ⟨p',a1,a2,a3,a4,a5.same (j4.refl G) (j6 e')⟩
 ·by_cases z:i=j
  ·by_cases z':i=k
   ·intro _ _; omega
   ·subst z
    rw [List.getElem?_set_ne z'] at y
    intro a1 a2
    exact R.inj i k l d c e p' hi y a1 a2
  ·by_cases z':i=k
   ·subst z'
    rw [List.getElem?_set_ne z] at x
    intro a1 a2
    exact R.inj j i a b l d p' x hi a1 a2
   ·rw [List.getElem?_set_ne z] at x
    rw [List.getElem?_set_ne z'] at y
    exact R.inj j k a b c e p' x y
end
end L3
set_option Elab.async false
set_option linter.all false
set_option maxRecDepth 100000
set_option maxHeartbeats 4000000
namespace L3
open PySem PySem.Spec PyProof.Rows L2
structure a1V (fs xs:List Addr) (h h':Heap):Prop where
 keep:∀ b o,h.get? b=some o→b∉fs→b∉xs→h'.get? b=some o
 slot:∀ b o,h.get? b=some o→b∉xs→∃ sl,h'.get? b=some { o with slots:=sl }
 there:∀ b o,h.get? b=some o→∃ o',h'.get? b=some o'
noncomputable def TrD (h:Heap)(e T:Addr)(cls:Value)(dct:Option Addr)(fl:Value):Prop:=
 ∃ oe vs oT ts,h.get? e=some oe∧oe.cls=cls∧oe.dict=dct∧oe.data=.fields vs∧vs[1]?=some (.ref T)∧T≠e∧h.get? T=some oT∧oT.data=.fields ts∧ts[3]?=some fl
theorem a35 (f:Array Value→Array Value)(o:Obj):(Obj.mapFields f o).dict=o.dict:=by
 obtain ⟨c,d,dt,sl⟩:=o
 cases dt <;> rfl
section
variable {M:Model}{A:Around}{E:Value→Shared→Prop}{s:Shared}{base:Heap}{env:Env}{outer:List Env}{L e T:Addr}{oe:Obj}{vs:Array Value}{cls fl:Value}{dct:Option Addr}{Q:Unit→Shared→Prop}
theorem b2A {head:Value}{hadNext:Bool}(hfr:A.frames=some (env::outer))(hl:s.heap.FunFrames base (env::outer))(hf:env.frame=some L)(he:s.heap.get? e=some oe)(hd:oe.data=.fields vs)(hsz:1 < vs.size)
  (h:∀ h' T',a1V (frs (env::outer)) [e] s.heap h'→s.heap.get? T'=none→TrD h' e T' oe.cls oe.dict (rawInt L)→Q () { s with heap:=h' }):
  wpAny M A (do let a ← frameOf env; let pl ← entryPlaceOf L hadNext; let b ← EntryCells.newEntry head a .none (rawInt L) .none pl; setField (.ref e) 1 b) Q E s:=by
 have hne:e∉(env::outer).filterMap (·.frame):=fun hm=>by
  obtain ⟨_,o,ho,hnf⟩:=hl.mem hm
  rw [he] at ho
  cases ho
  exact hnf vs hd
 refine wpAny_bind (wpAny_frameOf_fun hfr hl hf fun h₁ hs=>?_)
 refine wpAny_bind (wpAny_entryPlaceOf fun pl hpl=>?_)
 unfold EntryCells.newEntry newFields
 refine wpAny_bind (wpAny_newObj_type ?_ (hpl.sizeOk5 _ _ _ _ _))
 have he₁:h₁.get? e=some oe:=(hs.2.1 e hne).trans he
 generalize hO:({ cls:=.type "traceback",dict:=none,data:=.fields ([head,.ref L,.none,rawInt L,.none]++(if pl.isEmpty then List.replicate 6 Value.none else pl)).toArray }:Obj)=O
 have hOf:O.data=.fields ([head,.ref L,.none,rawInt L,.none]++(if pl.isEmpty then List.replicate 6 Value.none else pl)).toArray:=by rw [← hO]
 have hOn:O.isFreed=false:=by rw [← hO]; rfl
 have he₂:=Heap.get?_push_of_some (h:=h₁) O he₁
 have hne2:h₁.objs.size≠e:=Nat.ne_of_gt (Heap.lt_size he₁)
 refine wpAny_setField he₂ hd hsz (h _ h₁.objs.size ?_ ?_ ?_)
 ·have keep:∀ b o,b≠e→h₁.get? b=some o→((h₁.push O).update e (Obj.mapFields (·.setIfInBounds 1 (Value.ref h₁.objs.size)))).get? b=some o:=fun b o hb eb=>by
   rw [Heap.get?_update_other _ _ (Ne.symm hb)]
   exact Heap.get?_push_of_some _ eb
  refine ⟨fun b o eb nf nx=>keep b o (fun q=>nx (by simp [q])) ((hs.2.1 b nf).trans eb),fun b o eb nx=>?_,fun b o eb=>?_⟩
  ·obtain ⟨sl,e1⟩:=hs.2.2 b o eb
   exact ⟨sl,keep b _ (fun q=>nx (by simp [q])) e1⟩
  ·by_cases q:b=e
   ·subst q
    exact ⟨_,Heap.get?_update_self _ he₂ (Obj.isFreed_of_fields (Obj.data_mapFields hd _))⟩
   ·obtain ⟨sl,e1⟩:=hs.2.2 b o eb
    exact ⟨_,keep b _ q e1⟩
 ·exact Heap.get?_none_of_le (by rw [hs.1]; exact Nat.le_refl _)
 ·have hT:=(Heap.get?_update_other (h₁.push O) (Obj.mapFields (·.setIfInBounds 1 (Value.ref h₁.objs.size))) (Ne.symm hne2)).trans (Heap.get?_push_size h₁ hOn)
  refine ⟨_,_,O,_,Heap.get?_update_self _ he₂ (Obj.isFreed_of_fields (Obj.data_mapFields hd _)),Obj.cls_mapFields _ _,a35 _ _,Obj.data_mapFields hd _,by simp [hsz],hne2,hT,hOf,by simp⟩
theorem a6Y {fs:List Addr}{h:Heap}{T:Addr}{oT:Obj}{ts:Array Value}(hT:h.get? T=some oT)(hd:oT.data=.fields ts)(i:Nat)(v:Value):a1V fs [T] h (h.update T (Obj.mapFields (·.setIfInBounds i v))):=by
 have other:∀ b,b≠T→(h.update T (Obj.mapFields (·.setIfInBounds i v))).get? b=h.get? b:=fun b hb=>Heap.get?_update_other _ _ (Ne.symm hb)
 refine ⟨fun b o eb _ nx=>(other b fun q=>nx (by simp [q])).trans eb,fun b o eb nx=>⟨o.slots,(other b fun q=>nx (by simp [q])).trans eb⟩,fun b o eb=>?_⟩
 by_cases q:b=T
 ·subst q
  exact ⟨_,Heap.get?_update_self _ hT (Obj.isFreed_of_fields (Obj.data_mapFields hd _))⟩
 ·exact ⟨o,(other b q).trans eb⟩
theorem a31 {l:List Env}{fs xs:List Addr}{h h':Heap}(hl:h.FunFrames base l)(k:a1V fs xs h h')(hx:∀ x∈xs,∀ o,h.get? x=some o→∃ vs,o.data=.fields vs):h'.FunFrames base l:=
 hl.of_keeps fun b o eb hnf=>by
  obtain ⟨sl,e1⟩:=k.slot b o eb fun m=>by
   obtain ⟨vs,q⟩:=hx b m o eb
   exact hnf vs q
  exact ⟨_,e1,rfl⟩
theorem a8m (hfr:A.frames=some (env::outer))(hl:s.heap.FunFrames base (env::outer))(hf:env.frame=some L)(he:s.heap.get? e=some oe)(hd:oe.data=.fields vs)(h1:vs[1]?=some .none)
  (h:∀ h' T',a1V (frs (env::outer)) [e] s.heap h'→s.heap.get? T'=none→TrD h' e T' oe.cls oe.dict (rawInt L)→Q () { s with heap:=h' }):wpAny M A (noteFrame (.ref e) env) Q E s:=by
 unfold noteFrame
 simp only [hf]
 refine wpAny_bind (wpAny_field he hd h1 ?_)
 rw [if_neg (by decide)]
 exact b2A hfr hl hf he hd (Array.getElem?_eq_some_iff.mp h1).1 h
theorem b0c (hfr:A.frames=some (env::outer))(hl:s.heap.FunFrames base (env::outer))(hf:env.frame=some L)(ht:TrD s.heap e T cls dct .none)
  (h:∀ h' T',a1V (frs (env::outer)) [e,T] s.heap h'→s.heap.get? T'=none→TrD h' e T' cls dct (rawInt L)→Q () { s with heap:=h' }):wpAny M A (noteFrame (.ref e) env) Q E s:=by
 obtain ⟨oe,vs,oT,ts,he,hc,hdc,hd,h1,hTe,hT,hdT,h3⟩:=ht
 subst hc hdc
 unfold noteFrame
 simp only [hf]
 refine wpAny_bind (wpAny_field he hd h1 ?_)
 rw [if_pos (show (Value.ref T != Value.none)=true from by simp)]
 refine wpAny_bind (wpAny_field hT hdT h3 ?_)
 rw [if_neg (show ¬ ((Value.none == rawInt L)=true) from by simp [rawInt])]
 refine wpAny_bind (wpAny_setField hT hdT (Array.getElem?_eq_some_iff.mp h3).1 ?_)
 have k:=a6Y (fs:=frs (env::outer)) hT hdT 3 Value.none
 have he':=(Heap.get?_update_other (h:=s.heap) (Obj.mapFields (·.setIfInBounds 3 Value.none)) hTe).trans he
 refine b2A (base:=base) hfr (a31 hl k fun x hx o ho=>?_) hf he' hd (Array.getElem?_eq_some_iff.mp h1).1 fun h' T' k2 n2 t2=>h h' T' ⟨?_,?_,?_⟩ ?_ t2
 ·rw [List.mem_singleton] at hx
  subst hx
  rw [hT] at ho
  cases ho
  exact ⟨ts,hdT⟩
 ·intro b o eb nf nx
  simp at nx
  exact k2.keep b o (k.keep b o eb nf (by simpa using nx.2)) nf (by simpa using nx.1)
 ·intro b o eb nx
  simp at nx
  obtain ⟨sl,e1⟩:=k.slot b o eb (by simpa using nx.2)
  obtain ⟨sl2,e2⟩:=k2.slot b { o with slots:=sl } e1 (by simpa using nx.1)
  exact ⟨sl2,e2⟩
 ·intro b o eb
  obtain ⟨o1,e1⟩:=k.there b o eb
  exact k2.there b o1 e1
 ·cases q:s.heap.get? T' with
  | none=>rfl
  | some o=>
   obtain ⟨o1,e1⟩:=k.there T' o q
   rw [n2] at e1
   cases e1
theorem b3N {f:Option Addr}(ht:TrD s.heap e T cls dct fl)(h:∀ h',a1V [] [T] s.heap h'→TrD h' e T cls dct (f.elim Value.none fun a=>rawInt a)→Q () { s with heap:=h' }):wpAny M A (setFlight (.ref e) f) Q E s:=by
 obtain ⟨oe,vs,oT,ts,he,hc,hdc,hd,h1,hTe,hT,hdT,h3⟩:=ht
 have hsz:3 < ts.size:=(Array.getElem?_eq_some_iff.mp h3).1
 unfold setFlight
 refine wpAny_bind (wpAny_field he hd h1 ?_)
 rw [if_pos (show (Value.ref T != Value.none)=true from by simp)]
 refine wpAny_setField hT hdT hsz (h _ (a6Y hT hdT 3 _) ?_)
 exact ⟨oe,vs,_,_,(Heap.get?_update_other _ _ hTe).trans he,hc,hdc,hd,h1,hTe,Heap.get?_update_self _ hT (Obj.isFreed_of_fields (Obj.data_mapFields hdT _)),Obj.data_mapFields hdT _,by simp [hsz]⟩
theorem a8N (hf:env.frame=some L)(ht:TrD s.heap e T cls dct (rawInt L))(h:Q () s):wpAny M A (noteFrame (.ref e) env) Q E s:=by
 obtain ⟨oe,vs,oT,ts,he,hc,hdc,hd,h1,hTe,hT,hdT,h3⟩:=ht
 unfold noteFrame
 simp only [hf]
 refine wpAny_bind (wpAny_field he hd h1 ?_)
 rw [if_pos (show (Value.ref T != Value.none)=true from by simp)]
 refine wpAny_bind (wpAny_field hT hdT h3 ?_)
 rw [if_pos (show (rawInt L == rawInt L)=true from by simp)]
 exact wpAny_pure h
end
structure Off (X:Cx) (H:Hp) (a:Addr):Prop where
 new:X.s₀.heap.get? a=none
 free:H a=none
 loc:a≠X.env.locals
 cell:∀ x c,X.env.cells.lookup x=some c→c≠a
section
variable {X:Cx}{pins:List (Addr×Obj)}{σ:St}{H:Hp}{s:Shared}{h':Heap}{xs:List Addr}
theorem b07 {h h':Heap}{a:Addr}{m:Str→Option Value}(n:h.Ns a m)(k:∀ o,h.get? a=some o→∃ sl,h'.get? a=some { o with slots:=sl }):h'.Ns a m:=by
 obtain ⟨o,es,ep,e,d,sk,f⟩:=n
 obtain ⟨sl,e'⟩:=k o e
 exact ⟨_,es,ep,e',d,sk,f⟩
theorem a4a {h h':Heap}{c:Addr}{v:Option Value}(n:h.IsCell c v)(k:∀ o,h.get? c=some o→∃ sl,h'.get? c=some { o with slots:=sl }):h'.IsCell c v:=by
 obtain ⟨o,e,d⟩:=n
 obtain ⟨sl,e'⟩:=k o e
 exact ⟨_,e',d⟩
theorem _root_.L2.Inv.b2R (I:Inv X [] σ H s)(hp:X.pn=[])(k:a1V (X.env.locals::X.fs) xs s.heap h')(hx:∀ a∈xs,Off X H a):Inv X [] σ H { s with heap:=h' }:=by
 have xold:∀ b o,X.s₀.heap.get? b=some o→b∉xs:=fun b o e m=>by rw [(hx b m).new] at e; cases e
 have lold:∀ b o,X.s₀.heap.get? b=some o→b≠X.env.locals:=fun b o e z=>absurd (Nat.lt_of_lt_of_le (Heap.lt_size e) I.ok.above) (by rw [z]; exact Nat.lt_irrefl _)
 have ffree:∀ b∈X.fs,H b=none:=fun b hb=>by
  obtain ⟨_,o,ho,_⟩:=I.ok.a2E.mem hb
  exact I.base.free b o ho (I.ok.frf b hb) fun z=>I.ok.exfs b z hb
 have cs:∀ x c,X.env.cells.lookup x=some c→∀ o,s.heap.get? c=some o→∃ sl,h'.get? c=some { o with slots:=sl }:=fun x c e o eo=>k.slot c o eo fun m=>(hx c m).cell x c e rfl
 refine ⟨I.ok,I.os,I.bare,⟨fun b o e n nf nx=>?_,fun b o e n nf nx=>?_,I.base.free,fun b o e nx=>?_,I.base.tups,I.base.frzs,I.base.tbls⟩,?_,fun x c e=>?_,I.free,I.freeC,?_,fun a o e=>?_,I.len⟩
 ·exact k.keep b o (I.base.keep b o e n nf nx) (fun m=>(List.mem_cons.mp m).elim (lold b o e) nf) (xold b o e)
 ·obtain ⟨sl,e1⟩:=I.base.slot b o e n nf nx
  obtain ⟨sl2,e2⟩:=k.slot b _ e1 (xold b o e)
  exact ⟨sl2,e2⟩
 ·obtain ⟨o1,e1⟩:=I.base.there b o e nx
  exact k.there b o1 e1
 ·obtain ⟨m,n,l⟩:=I.loc
  refine ⟨m,b07 n fun o e=>k.slot _ o e fun z=>(hx _ z).loc rfl,fun i x v e1 e2 e3=>?_⟩
  obtain ⟨u,r,lk⟩:=l i x v e1 e2 e3
  refine ⟨u,r,lk.imp id fun ⟨q,c,ec,ic⟩=>⟨q,c,ec,a4a ic (cs x c ec)⟩⟩
 ·obtain ⟨v,ic⟩:=I.cell x c e
  exact ⟨v,a4a ic (cs x c e)⟩
 ·intro p hp'
  rw [hp] at hp'
  cases hp'
 ·refine (I.hok a o e).stay (fun c v hc q=>k.keep c v q (fun m=>?_) fun m=>?_) (fun _ q=>q) fun _ _ q=>q
  ·have hn:H c=none:=by
    rcases List.mem_cons.mp m with z | z
    ·rw [z]; exact I.free
    ·exact ffree c z
   rcases hc with z | z
   ·rw [z,e] at hn; cases hn
   ·rw [z] at hn; cases hn
  ·have hn:=(hx c m).free
   rcases hc with z | z
   ·rw [z,e] at hn; cases hn
   ·rw [z] at hn; cases hn
noncomputable def b67 (K:PySem.W.Frag)(H:Hp)(x:Exn)(cls:Value)(dct:Option Addr):Prop:=∃ C,cls=.ref C∧PySem.W.nsIn K mainGlobals x.cls=some (some (.ref C))∧x.fs=[]∧dct=none
noncomputable def b6V (X:Cx)(H:Hp)(a:Addr)(cls:Value)(dct:Option Addr)(h:Heap):Prop:=
 (∃ oe vs,h.get? a=some oe∧oe.cls=cls∧oe.dict=dct∧oe.data=.fields vs∧vs[1]?=some .none)∨∃ T fl,TrD h a T cls dct fl∧Off X H T∧(fl=.none∨fl=rawInt X.env.locals)
structure a89 (X:Cx):Prop where
 pn:X.pn=[]
 ex:X.ex=[]
 stk:X.stack=X.env::X.outer
 fr:X.env.frame=some X.env.locals
theorem b2H (I:Inv X pins σ H s){a:Addr}{o:HO}(e:H a=some o):∃ ob,s.heap.get? a=some ob:=by
 have x:=I.hok a o e
 generalize s.heap=h at x
 cases o with
 | lst xs=>obtain ⟨_,_,_,_,e⟩:=x; exact ⟨_,e⟩
 | tup xs=>obtain ⟨_,_,_,ob,e,_⟩:=x; exact ⟨_,e⟩
 | dK kvs=>obtain ⟨_,_,_,_,o,_,_,e,_⟩:=x; exact ⟨_,e⟩
 | dT kvs=>obtain ⟨_,_,_,_,o,_,_,e,_⟩:=x; exact ⟨_,e⟩
 | set S n=>obtain ⟨o,_,_,_,e,_⟩:=x; exact ⟨_,e⟩
 | ins C dx fs=>obtain ⟨_,_,_,e,_⟩:=x; exact ⟨_,e⟩
 | own y=>exact x
 | xd fs=>obtain ⟨_,⟨_,_,_,e,_⟩,_⟩:=x; exact ⟨_,e⟩
 | rng lo hi=>obtain ⟨_,_,_,e⟩:=x; exact ⟨_,e⟩
 | Z9 ob u=>obtain ⟨e,_⟩:=x; exact ⟨_,e⟩
 | tbl ps=>exact ⟨_,show h.get? a=some _ from x⟩
 | met f y=>exact ⟨_,show h.get? a=some _ from x⟩
 | ext φ=>obtain ⟨_,e,_⟩:=x; exact e
theorem a9M (I:Inv X [] σ H s)(F:a89 X){T:Addr}(e:s.heap.get? T=none):Off X H T:=by
 refine ⟨?_,?_,fun z=>?_,fun x c ec z=>?_⟩
 ·cases q:X.s₀.heap.get? T with
  | none=>rfl
  | some o=>
   obtain ⟨o',e'⟩:=I.base.there T o q (by rw [F.ex]; simp)
   rw [e] at e'
   cases e'
 ·cases q:H T with
  | none=>rfl
  | some o=>
   obtain ⟨ob,e'⟩:=b2H I q
   rw [e] at e'
   cases e'
 ·obtain ⟨m,⟨o,_,_,e',_⟩,_⟩:=I.loc
  rw [z,e'] at e
  cases e
 ·obtain ⟨v,o,e',_⟩:=I.cell x c ec
  rw [z,e] at e'
  cases e'
section
variable {M:Model}{E:Value→Shared→Prop}{Q:Unit→Shared→Prop}{a:Addr}{cls:Value}{dct:Option Addr}
theorem a9Z {fs:List Addr}{h h':Heap}(k:a1V [] xs h h'):a1V fs xs h h':=⟨fun b o e _ nx=>k.keep b o e (by simp) nx,k.slot,k.there⟩
theorem noted (I:Inv X [] σ H s)(F:a89 X)(oa:Off X H a)(fl:b6V X H a cls dct s.heap)(h:∀ h' T,Inv X [] σ H { s with heap:=h' }→TrD h' a T cls dct (rawInt X.env.locals)→Off X H T→Q () { s with heap:=h' }):wpAny M X.A (noteFrame (.ref a) X.env) Q E s:=by
 have hfr:X.A.frames=some (X.env::X.outer):=by rw [← F.stk]; exact I.ok.frames
 have hl:s.heap.FunFrames X.base (X.env::X.outer):=by rw [← F.stk]; exact I.stack
 have efr:frs (X.env::X.outer)=X.env.locals::X.fs:=by
  show List.filterMap _ _=_
  rw [List.filterMap_cons,F.fr]
  rfl
 rcases fl with ⟨oe,vs,e,rfl,rfl,d,h1⟩ | ⟨T,fl,t,oT,rfl | rfl⟩
 ·refine a8m hfr hl F.fr e d h1 fun h' T' k n t=>?_
  rw [efr] at k
  exact h h' T' (I.b2R F.pn k fun b hb=>by rw [List.mem_singleton.mp hb]; exact oa) t (a9M I F n)
 ·refine b0c hfr hl F.fr t fun h' T' k n t'=>?_
  rw [efr] at k
  exact h h' T' (I.b2R F.pn k fun b hb=>by
   rcases List.mem_cons.mp hb with z | z
   ·rw [z]; exact oa
   ·rw [List.mem_singleton.mp z]; exact oT) t' (a9M I F n)
 ·exact a8N F.fr t (h s.heap T I t oT)
theorem marked (f:Option Addr)(I:Inv X [] σ H s)(F:a89 X){T:Addr}{fl:Value}(t:TrD s.heap a T cls dct fl)(oT:Off X H T)(h:∀ h',Inv X [] σ H { s with heap:=h' }→TrD h' a T cls dct (f.elim Value.none fun b=>rawInt b)→Q () { s with heap:=h' }):wpAny M X.A (setFlight (.ref a) f) Q E s:=
 b3N t fun h' k t'=>h h' (I.b2R F.pn (a9Z k) fun b hb=>by rw [List.mem_singleton.mp hb]; exact oT) t'
end
end
end L3
set_option Elab.async false
set_option linter.all false
set_option maxRecDepth 100000
set_option maxHeartbeats 4000000
namespace L3
open PySem PySem.Spec PyProof.Rows L2
noncomputable abbrev XP:=Exn→St→Hp→Prop
noncomputable def ExcAt (X:Cx)(x:Exn)(e:Value)(H:Hp)(s:Shared):Prop:=∃ a cls dct,e=.ref a∧b67 X.K H x cls dct∧Off X H a∧b6V X H a cls dct s.heap∧a89 X
noncomputable def XE (X:Cx)(ξ:XP):Value→Shared→Prop:=fun e s'=>∃ x pins σ H,Inv X pins σ H s'∧ExcAt X x e H s'∧ξ x σ H
noncomputable abbrev rz (X:Cx)(ξ:XP):Cx:=X.S4 (XE X ξ)
noncomputable abbrev Rel (α β:Type):=Bs→Hp→Hp→St→k9→β→α→Prop
noncomputable def D6:Rel W V:=fun B G H σ ρ v w=>F9 B G H σ ρ v w
noncomputable def a0E:Rel Bool Bool:=fun _ _ _ _ _ v b=>v=b
noncomputable def stb:W→Bool
 | .own _=>false
 | _=>true
noncomputable def N6:Rel (List W) (List V):=fun B G H σ ρ vs ws=>Paired (fun v w=>F9 B G H σ ρ v w∧stb w=true) vs ws
section
variable {α β α' β':Type}{rel:Rel α β}{rel':Rel α' β'}{B:Bs}{ξ:XP}{G H:Hp}{σ:St}{ρ:k9}
noncomputable def Post (rel:Rel α β)(B:Bs)(ξ:XP)(G:Hp)(σ:St)(Q:β→Hp→Prop):R' α→Prop
 | .ok w ρ'=>∀ v G' H',j4 G G'→RS B G' H' σ ρ'→rel B G' H' σ ρ' v w→Q v H'
 | .ex x ρ'=>∀ G' H',j4 G G'→RS B G' H' σ ρ'→ξ x σ H'
noncomputable def Y8 (rel:Rel α β)(B:Bs)(ξ:XP)(G:Hp)(ρ:k9)(m:M α)(σ:St)(Q:β→Hp→Prop):Prop:=∃ r,m ρ=some r∧Post rel B ξ G σ Q r
noncomputable def TD (rel:Rel α β)(B:Bs)(ξ:XP)(m:M α):St→Hp→(β→Hp→Prop)→Prop:=fun σ H Q=>∃ G ρ,RS B G H σ ρ∧Y8 rel B ξ G ρ m σ Q
theorem Post.same {Q:β→Hp→Prop}{r:R' α}{G':Hp}(s:j4 G G')(h:Post rel B ξ G σ Q r):Post rel B ξ G' σ Q r:=by
 cases r with
 | ok w ρ'=>exact fun v G2 H2 s2=>h v G2 H2 (s.trans s2)
 | ex x ρ'=>exact fun G2 H2 s2=>h G2 H2 (s.trans s2)
theorem Y8.mono {m:M α}{Q Q':β→Hp→Prop}(h:∀ v H,Q v H→Q' v H)(t:Y8 rel B ξ G ρ m σ Q):Y8 rel B ξ G ρ m σ Q':=by
 obtain ⟨r,e,p⟩:=t
 refine ⟨r,e,?_⟩
 cases r with
 | ok w ρ'=>exact fun v G' H' s R q=>h v H' (p v G' H' s R q)
 | ex x ρ'=>exact p
theorem TD.mono {m:M α}{Q Q':β→Hp→Prop}(h:∀ v H,Q v H→Q' v H)(t:TD rel B ξ m σ H Q):TD rel B ξ m σ H Q':=by
 obtain ⟨G,ρ,R,t⟩:=t
 exact ⟨G,ρ,R,t.mono h⟩
theorem TD.bind {m:M α}{f:α→M α'}{Q:β'→Hp→Prop}(R:RS B G H σ ρ)(t:Y8 rel' B ξ G ρ (M.bind m f) σ Q):
  TD rel B ξ m σ H (fun v H1=>∃ G1 ρ1 a,j4 G G1∧RS B G1 H1 σ ρ1∧rel B G1 H1 σ ρ1 v a∧Y8 rel' B ξ G1 ρ1 (f a) σ Q):=by
 obtain ⟨r,e,p⟩:=t
 cases hm:m ρ with
 | none=>rw [M.bind_none hm] at e; cases e
 | some r1=>
  cases r1 with
  | ex x ρ1=>
   rw [M.a3F hm] at e
   cases e
   exact ⟨G,ρ,R,_,hm,p⟩
  | ok a ρ1=>
   rw [M.i9 hm] at e
   exact ⟨G,ρ,R,_,hm,fun v G1 H1 s R1 q=>⟨G1,ρ1,a,s,R1,q,r,e,p.same s⟩⟩
theorem TD.b1j {m:M α}{f:α→M α'}{Q:β'→Hp→Prop}(R:RS B G H σ ρ)(t:Y8 rel' B ξ G ρ (M.bind m f) σ Q):
  TD rel B ξ m σ H (fun v H1=>∃ G1 ρ1 a,m ρ=some (.ok a ρ1)∧j4 G G1∧RS B G1 H1 σ ρ1∧rel B G1 H1 σ ρ1 v a∧Y8 rel' B ξ G1 ρ1 (f a) σ Q):=by
 obtain ⟨r,e,p⟩:=t
 cases hm:m ρ with
 | none=>rw [M.bind_none hm] at e; cases e
 | some r1=>
  cases r1 with
  | ex x ρ1=>
   rw [M.a3F hm] at e
   cases e
   exact ⟨G,ρ,R,_,hm,p⟩
  | ok a ρ1=>
   rw [M.i9 hm] at e
   exact ⟨G,ρ,R,_,hm,fun v G1 H1 s R1 q=>⟨G1,ρ1,a,rfl,s,R1,q,r,e,p.same s⟩⟩
theorem Y8.step {m:M α}{f:α→M α'}{Q:β'→Hp→Prop}(t:Y8 rel' B ξ G ρ (M.bind m f) σ Q)(hm:∀ r,m ρ=some r→∃ a ρ',r=.ok a ρ'):∃ a ρ',m ρ=some (.ok a ρ')∧Y8 rel' B ξ G ρ' (f a) σ Q:=by
 obtain ⟨r,e,p⟩:=t
 cases hr:m ρ with
 | none=>rw [M.bind_none hr] at e; cases e
 | some r1=>
  obtain ⟨a,ρ',rfl⟩:=hm r1 hr
  rw [M.i9 hr] at e
  exact ⟨a,ρ',rfl,r,e,p⟩
end
theorem _root_.L2.PE.imp {X:Cx}{e:Expr}{t t':TE}(h:PE X e t)(i:∀ σ H Q,t' σ H Q→t σ H Q):PE X e t':=fun pins s σ H Q I q=>h pins s σ H Q I (i σ H Q q)
theorem _root_.L2.PT.imp {X:Cx}{e:Expr}{t t':TT}(h:PT X e t)(i:∀ σ H Q,t' σ H Q→t σ H Q):PT X e t':=fun pins s σ H Q I q=>h pins s σ H Q I (i σ H Q q)
theorem _root_.L2.PW.imp {X:Cx}{e:Expr}{t t':TT}(h:PW X e t)(i:∀ σ H Q,t' σ H Q→t σ H Q):PW X e t':=fun wh pins s σ H Q I q=>h wh pins s σ H Q I (i σ H Q q)
theorem _root_.L2.PA.imp {X:Cx}{e:List Expr}{t t':TA}(h:PA X e t)(i:∀ σ H Q,t' σ H Q→t σ H Q):PA X e t':=fun pos pins s σ H Q I q=>h pos pins s σ H Q I (i σ H Q q)
theorem _root_.L2.PS.imp {X:Cx}{e:Stmt}{t t':TS}(h:PS X e t)(i:∀ D σ H,t' D σ H→t D σ H):PS X e t':=fun pins s σ H D I q=>h pins s σ H D I (i D σ H q)
theorem _root_.L2.PSs.imp {X:Cx}{e:List Stmt}{t t':TS}(h:PSs X e t)(i:∀ D σ H,t' D σ H→t D σ H):PSs X e t':=fun pins s σ H D I q=>h pins s σ H D I (i D σ H q)
structure PD (X:Cx) (B:Bs) (e:Expr) (m:M W):Prop where
 ap:∀ ξ,PE (rz X ξ) e (TD D6 B ξ m)
structure PDT (X:Cx) (B:Bs) (e:Expr) (m:M Bool):Prop where
 ap:∀ ξ,PT (rz X ξ) e (TD a0E B ξ m)
structure PDW (X:Cx) (B:Bs) (e:Expr) (m:M Bool):Prop where
 ap:∀ ξ,PW (rz X ξ) e (TD a0E B ξ m)
structure PDA (X:Cx) (B:Bs) (es:List Expr) (m:M (List W)):Prop where
 ap:∀ ξ,PA (rz X ξ) es (TD N6 B ξ m)
theorem PDW.pt {X:Cx}{B:Bs}{e:Expr}{m:M Bool}(h:PDW X B e m):PDT X B e m:=.mk fun ξ=>(h.ap ξ).pt
noncomputable def O3 (m:M W):M W:=M.bind m fun w=>match w with
 | .own d=>M.pure (.val d)
 | w=>M.pure w
theorem b18 {m:M W}{ρ ρ':k9}{d:D}(h:m ρ=some (.ok (.own d) ρ')):O3 m ρ=some (.ok (.val d) ρ'):=by unfold O3; rw [M.i9 h]; rfl
theorem b1a {m:M W}{ρ ρ':k9}{d:D}(h:m ρ=some (.ok (.val d) ρ')):O3 m ρ=some (.ok (.val d) ρ'):=by unfold O3; rw [M.i9 h]; rfl
theorem a93 {m:M W}{ρ ρ':k9}{i:Nat}(h:m ρ=some (.ok (.slot i) ρ')):O3 m ρ=some (.ok (.slot i) ρ'):=by unfold O3; rw [M.i9 h]; rfl
noncomputable def a3q:Rel W V:=fun B G H σ ρ v w=>F9 B G H σ ρ v w∧stb w=true
section
variable {X:Cx}{B:Bs}{e a b c:Expr}{ma mb mc:M W}{pos:Pos}
theorem TD.O3 {ξ:XP}{m:M W}{σ:St}{H:Hp}{Q:VK}(t:TD a3q B ξ (O3 m) σ H Q):TD D6 B ξ m σ H Q:=by
 obtain ⟨G,ρ,R,t⟩:=t
 have t2:=TD.bind (rel:=D6) R t
 refine t2.mono fun v H1 ⟨G1,ρ1,w,s,R1,q,t3⟩=>?_
 obtain ⟨r,er,p⟩:=t3
 cases w with
 | val d=>cases er; exact p v G1 H1 (j4.refl _) R1 ⟨q,rfl⟩
 | slot i=>cases er; exact p v G1 H1 (j4.refl _) R1 ⟨q,rfl⟩
 | own d=>
  cases er
  obtain ⟨pp,rfl,g,h0,o,ne⟩:=q
  obtain ⟨G',s',R',rr⟩:=R1.Z9 g h0 o ne
  exact p _ G' H1 s' R' ⟨rr,rfl⟩
theorem F9.keep {G G' H H':Hp}{σ:St}{ρ ρ':k9}{v:V}{w:W}(s:j4 G G')(h:F9 B G H σ ρ v w)(hw:stb w=true):F9 B G' H' σ ρ' v w:=
 h.same s fun d z=>by rw [z] at hw; cases hw
noncomputable def op2 (f:D→D→Option W)(a b:W):M W:=fun ρ=>match getD a ρ,getD b ρ with
 | some x,some y=>(f x y).map (R'.ok · ρ)
 | _,_=>none
noncomputable def op1 (f:D→Option W)(a:W):M W:=fun ρ=>match getD a ρ with
 | some x=>(f x).map (R'.ok · ρ)
 | _=>none
noncomputable def f7 (f:D→D→Option W)(ma mb:M W):M W:=M.bind (O3 ma) fun x=>M.bind mb fun y=>op2 f x y
noncomputable def mUn (f:D→Option W)(ma:M W):M W:=M.bind ma fun x=>op1 f x
noncomputable def a1j (B:Bs)(r:R2)(f:D→D→Option W):Prop:=∀ {G H:Hp} {σ:St} {ρ:k9} {x y:V} {dx dy:D} {w:W} {Q:VK},RS B G H σ ρ→K9 B.K G H x dx→K9 B.K G H y dy→f dx dy=some w→
 (∀ v G' H',j4 G G'→RS B G' H' σ ρ→F9 B G' H' σ ρ v w→Q v H')→r x y H Q
noncomputable def b4i (B:Bs)(r:V→Hp→VK→Prop)(f:D→Option W):Prop:=∀ {G H:Hp} {σ:St} {ρ:k9} {x:V} {dx:D} {w:W} {Q:VK},RS B G H σ ρ→K9 B.K G H x dx→f dx=some w→
 (∀ v G' H',j4 G G'→RS B G' H' σ ρ→F9 B G' H' σ ρ v w→Q v H')→r x H Q
theorem a9I {ξ:XP}{f:D→D→Option W}{x y:W}{G:Hp}{ρ:k9}{σ:St}{Q:VK}(t:Y8 D6 B ξ G ρ (op2 f x y) σ Q):∃ dx dy w,getD x ρ=some dx∧getD y ρ=some dy∧f dx dy=some w∧∀ v G' H',j4 G G'→RS B G' H' σ ρ→F9 B G' H' σ ρ v w→Q v H':=by
 obtain ⟨r,e,p⟩:=t
 unfold op2 at e
 cases hx:getD x ρ with
 | none=>rw [hx] at e; cases e
 | some dx=>
  cases hy:getD y ρ with
  | none=>rw [hx,hy] at e; cases e
  | some dy=>
   rw [hx,hy] at e
   simp only [] at e
   cases hf:f dx dy with
   | none=>rw [hf] at e; cases e
   | some w=>
    rw [hf] at e
    cases e
    exact ⟨dx,dy,w,rfl,rfl,hf,p⟩
theorem a81 {ξ:XP}{f:D→Option W}{x:W}{G:Hp}{ρ:k9}{σ:St}{Q:VK}(t:Y8 D6 B ξ G ρ (op1 f x) σ Q):∃ dx w,getD x ρ=some dx∧f dx=some w∧∀ v G' H',j4 G G'→RS B G' H' σ ρ→F9 B G' H' σ ρ v w→Q v H':=by
 obtain ⟨r,e,p⟩:=t
 unfold op1 at e
 cases hx:getD x ρ with
 | none=>rw [hx] at e; cases e
 | some dx=>
  rw [hx] at e
  simp only [] at e
  cases hf:f dx with
  | none=>rw [hf] at e; cases e
  | some w=>
   rw [hf] at e
   cases e
   exact ⟨dx,w,rfl,hf,p⟩
theorem a6b {ξ:XP}{r:R2}{f:D→D→Option W}(hi:a1j B r f){σ:St}{H:Hp}{Q:VK}(t:TD D6 B ξ (f7 f ma mb) σ H Q):tOp r (TD D6 B ξ ma) (TD D6 B ξ mb) σ H Q:=by
 obtain ⟨G,ρ,R,t⟩:=t
 have t1:TD a3q B ξ (O3 ma) σ H _:=TD.bind (rel:=a3q) R t
 refine TD.O3 (t1.mono fun x H1 ⟨G1,ρ1,wa,s1,R1,⟨q1,st1⟩,t2⟩=>?_)
 refine (TD.bind (rel:=D6) R1 t2).mono fun y H2 ⟨G2,ρ2,wb,s2,R2,q2,t3⟩=>?_
 obtain ⟨dx,dy,w,e1,e2,e3,p⟩:=a9I t3
 exact hi R2 ((q1.keep s2 st1:F9 B G2 H2 σ ρ2 x wa).get R2 e1) (q2.get R2 e2) e3 p
theorem b2Q {ξ:XP}{r:V→Hp→VK→Prop}{f:D→Option W}(hi:b4i B r f){σ:St}{H:Hp}{Q:VK}(t:TD D6 B ξ (mUn f ma) σ H Q):tUn r (TD D6 B ξ ma) σ H Q:=by
 obtain ⟨G,ρ,R,t⟩:=t
 refine (TD.bind (rel:=D6) R t).mono fun x H1 ⟨G1,ρ1,wa,s1,R1,q1,t2⟩=>?_
 obtain ⟨dx,w,e1,e2,p⟩:=a81 t2
 exact hi R1 (q1.get R1 e1) e2 p
theorem a3T {op:Operator}{r:R2}{f:D→D→Option W}(ho:∀ ξ,OpR (rz X ξ) (binaryOp op) r)(hi:a1j B r f)(ha:PD X B a ma)(hb:PD X B b mb):PD X B (.BinOp a op b pos) (f7 f ma mb):=.mk fun ξ=>
 (b7p (ho ξ) (ha.ap ξ) (hb.ap ξ)).imp fun _ _ _ t=>a6b hi t
theorem b6w {op:UnaryOp}{r:V→Hp→VK→Prop}{f:D→Option W}(ho:∀ ξ,UnR (rz X ξ) (unaryOp op) r)(hi:b4i B r f)(ha:PD X B a ma):PD X B (.UnaryOp op a pos) (mUn f ma):=.mk fun ξ=>
 (b6m (ho ξ) (ha.ap ξ)).imp fun _ _ _ t=>b2Q hi t
theorem a6E {op:CmpOp}{r:R2}{f:D→D→Option W}(ho:∀ ξ,OpR (rz X ξ) (compareOp op) r)(hi:a1j B r f)(ha:PD X B a ma)(hb:PD X B b mb)(hm:behindInMarks op b=false):PD X B (.Compare a [op] [b] pos) (f7 f ma mb):=.mk fun ξ=>
 (b3i (ho ξ) (ha.ap ξ) (hb.ap ξ) hm).imp fun _ _ _ t=>a6b hi t
noncomputable def z6 (m:M W):M Bool:=M.bind m fun w=>fun ρ=>match w with
 | .val (.bl b)=>some (.ok b ρ)
 | _=>none
theorem b1B {ξ:XP}{σ:St}{H:Hp}{Q:Bool→Hp→Prop}{m:M W}(t:TD a0E B ξ (z6 m) σ H Q):TD D6 B ξ m σ H fun x H'=>∃ k,x=.bl k∧Q k H':=by
 obtain ⟨G,ρ,R,t⟩:=t
 refine (TD.bind (rel:=D6) R t).mono fun x H1 ⟨G1,ρ1,w,s1,R1,q1,r,e,p⟩=>?_
 cases w with
 | val d=>
  cases d with
  | bl k=>
   cases e
   have q2:Rep B.K G1 x (.bl k):=q1
   cases q2
   exact ⟨k,rfl,p k G1 H1 (j4.refl _) R1 rfl⟩
  | _=>cases e
 | _=>cases e
theorem a07 {op:CmpOp}{r:R2}{f:D→D→Option W}(ho:∀ ξ,OpR (rz X ξ) (compareOp op) r)(hi:a1j B r f)(ha:PD X B a ma)(hb:PD X B b mb)(hm:behindInMarks op b=false):PDT X B (.Compare a [op] [b] pos) (z6 (f7 f ma mb)):=.mk fun ξ=>
 (b30 (ho ξ) (ha.ap ξ) (hb.ap ξ) hm).imp fun _ _ _ t=>TD.mono (fun _ _ q=>q) (a6b hi (b1B t))
noncomputable def c9 (i:Nat):M W:=fun ρ=>match ρ[i]? with
 | some (some _)=>some (.ok (.slot i) ρ)
 | _=>none
noncomputable def mC (d:D):M W:=M.pure (.val d)
theorem b5u {ξ:XP}{i:Nat}{σ:St}{H:Hp}{Q:VK}(t:TD D6 B ξ (c9 i) σ H Q):b6I i σ H Q:=by
 obtain ⟨G,ρ,R,r,e,p⟩:=t
 unfold c9 at e
 cases h:ρ[i]? with
 | none=>rw [h] at e; cases e
 | some o=>
  cases o with
  | none=>rw [h] at e; cases e
  | some c=>
   rw [h] at e
   cases e
   have hv:∃ v,σ[i]?=some (some v):=by
    cases c with
    | sh d=>obtain ⟨v,q,_⟩:=R.sh i d h; exact ⟨v,q⟩
    | ow l d=>obtain ⟨v,q,_⟩:=R.ow i l d h; exact ⟨_,q⟩
    | fz es=>obtain ⟨a,o,kvs,q,_⟩:=R.fz i es h; exact ⟨_,q⟩
   obtain ⟨v,q⟩:=hv
   exact ⟨v,q,p v G H (j4.refl _) R q⟩
theorem b1k {ξ:XP}{d:D}{v:V}(hv:∀ G,Rep B.K G v d){σ:St}{H:Hp}{Q:VK}(t:TD D6 B ξ (mC d) σ H Q):tC v σ H Q:=by
 obtain ⟨G,ρ,R,r,e,p⟩:=t
 cases e
 exact p v G H (j4.refl _) R (hv G)
theorem dv (i:Nat){x:Str}{pos:Pos}(hN:X.N[i]?=some x:=by rfl)(hv:Vis X.env.scope x:=by first | exact Or.inl rfl | exact Or.inr (Or.inl rfl) | exact Or.inr (Or.inr rfl))(hd:(x == ("__debug__":Str))=false:=by decide) (hcd:(x == ("__classdict__":Str))=false:=by decide):PD X B (.Name x pos) (c9 i):=.mk fun ξ=>
 (b1D (X:=rz X ξ) hN hv hd hcd).imp fun _ _ _ t=>b5u t
theorem i6 {i j pos}:PD X B (.Constant (.int i) j pos) (mC (.int i)):=.mk fun ξ=>(b4Q (X:=rz X ξ)).imp fun _ _ _ t=>b1k (fun _=>.int i) t
theorem a1l {b j pos}:PD X B (.Constant (.bool b) j pos) (mC (.bl b)):=.mk fun ξ=>(b62 (X:=rz X ξ)).imp fun _ _ _ t=>b1k (fun _=>.bl b) t
theorem b4t {j pos}:PD X B (.Constant .none j pos) (mC .A3):=.mk fun ξ=>(b5e (X:=rz X ξ)).imp fun _ _ _ t=>b1k (fun _=>.A3) t
theorem a6z {K:PySem.W.Frag}{G:Hp}(x:Str):Rep K G (.str x) (.str x.cps.toList):=by
 have e:=b5a x
 have r:=Rep.str (K:=K) (G:=G) x.cps.toList
 rw [e] at r
 exact r
theorem b6s {x j pos}:PD X B (.Constant (.str x) j pos) (mC (.str x.cps.toList)):=.mk fun ξ=>(b4M (X:=rz X ξ)).imp fun _ _ _ t=>b1k (fun _=>a6z x) t
theorem a7Z {x:Str}{n:String}(hm:X.mg x=none)(hv:bootBuiltins x=some (.type n))(hg:Gl X x:=by rfl)(hn:x≠"__name__":=by decide) (hd:(x == ("__debug__":Str))=false:=by decide):PD X B (.Name x pos) (mC (.ty n)):=.mk fun ξ=>
 (pty (X:=rz X ξ) hm hv hg hn hd).imp fun _ _ _ t=>b1k (fun _=>.ty n) t
end
noncomputable def V8 (p:Prop)[Decidable p]{α:Type}(x:Option α):Option α:=if p then x else none
theorem r8 {p:Prop}[Decidable p]{α:Type}{x:Option α}(h:p):V8 p x=x:=if_pos h
theorem l8 {p:Prop}[Decidable p]{α:Type}{x:Option α}{a:α}(h:V8 p x=some a):p∧x=some a:=by
 unfold V8 at h
 split at h
 ·exact ⟨‹p›,h⟩
 ·cases h
noncomputable def vI (i:Int):Option W:=some (.val (.int i))
noncomputable def vB (b:Bool):Option W:=some (.val (.bl b))
noncomputable def small (n:Nat):Prop:=n≤1000000
instance (n:Nat):Decidable (small n):=inferInstanceAs (Decidable (n≤1000000))
noncomputable def z8:D→D→Option W
 | .int i,.int j=>vI (i + j)
 | .str a,.str b=>V8 (small (a.length + b.length)) (some (.val (.str (a++b))))
 | .lst a,.lst b=>V8 (small (a.length + b.length)) (some (.own (.lst (a++b))))
 | _,_=>none
noncomputable def a6j:D→D→Option W
 | .int i,.int j=>vI (i - j)
 | _,_=>none
instance (i j:Int):Decidable (a6Z i j):=by unfold a6Z; infer_instance
instance (i j:Int):Decidable (a95 i j):=by unfold a95; infer_instance
instance (i j:Int):Decidable (b6z i j):=by unfold b6z; infer_instance
noncomputable def R8:D→D→Option W
 | .int i,.int j=>V8 (a6Z i j) (vI (i * j))
 | _,_=>none
noncomputable def a3v:D→D→Option W
 | .int i,.int j=>V8 (a95 i j) (vI (i / j))
 | _,_=>none
noncomputable def F5:D→D→Option W
 | .int i,.int j=>V8 (0 < j) (vI (i % j))
 | _,_=>none
noncomputable def P0:D→Option W
 | .int i=>vI (-i)
 | _=>none
noncomputable def a0P (f:Int→Int→Bool):D→D→Option W
 | .int i,.int j=>vB (f i j)
 | _,_=>none
theorem b3j {X:Cx}{K:PySem.W.Frag}(hK:X.K=K):OpR X (binaryOp .Add) (fun x y H Q=>∃ l b xs zs,x=.ref l∧y=.ref b∧L8 K H l xs∧L8 K H b zs∧xs.length + zs.length≤sizeLine∧∀ p,H p=none→Q (.ref p) (upd H p (.lst (xs++zs)))):=by
 subst hK
 intro pins s σ H x y v u Q I rx ry h
 obtain ⟨l,b,xs,zs,rfl,rfl,hH,hB,hz,q⟩:=h
 cases rx
 cases ry
 obtain ⟨its,r,pl,_⟩:=I.list hH
 obtain ⟨its2,r2,pl2,_⟩:=I.list hB
 obtain ⟨⟨cls,dd,data,sl⟩,n,ho,hc,hdd,hd⟩:=pl
 obtain ⟨⟨cls2,dd2,data2,sl2⟩,n2,ho2,hc2,hdd2,hd2⟩:=pl2
 simp only at hc hd hc2 hd2 hdd hdd2
 subst hc hd hc2 hd2 hdd hdd2
 have e1:=r.length
 have e2:=r2.length
 have e:its.toArray++its2.toArray=(its++its2).toArray:=by simp
 refine concat_meets ⟨_,ho,rfl⟩ ⟨_,ho2,rfl⟩ noFill_list_add seq_list_add PySem.F.slot_list_add PySem.F.entry_list_add (PySem.F.args_list_add_2 _ _) (list_addW l b its.toArray its2.toArray n n2 none none sl sl2 (by rw [List.size_toArray,List.size_toArray]; omega)) ⟨ho,ho2,?_⟩
 rw [e]
 exact ⟨.ref _,_,I.b7W (t':=s.toks) (r.append r2) (by rw [List.length_append]; omega),rfl,q _ I.fresh⟩
theorem M9 {n:Nat}(h:small n):n≤sizeLine:=by unfold small at h; rw [sizeLine_eq]; omega
section
variable {X:Cx}{B:Bs}{e a b c:Expr}{ma mb mc:M W}{pos:Pos}
theorem b38 {g:Int→Int→Int}{f:D→D→Option W}(hf:∀ dx dy w,f dx dy=some w→∃ i j,dx=.int i∧dy=.int j∧w=.val (.int (g i j))):a1j B (rI0 fun i j=>.int (g i j)) f:=by
 intro G H σ ρ x y dx dy w Q R hx hy e p
 obtain ⟨i,j,rfl,rfl,rfl⟩:=hf _ _ _ e
 exact ⟨i,j,hx.int,hy.int,p _ G H (j4.refl _) R (.int _)⟩
theorem a8j {P:Int→Int→Prop}{g:Int→Int→Int}{f:D→D→Option W}(hf:∀ dx dy w,f dx dy=some w→∃ i j,dx=.int i∧dy=.int j∧P i j∧w=.val (.int (g i j))):a1j B (rI P fun i j=>.int (g i j)) f:=by
 intro G H σ ρ x y dx dy w Q R hx hy e p
 obtain ⟨i,j,rfl,rfl,hp,rfl⟩:=hf _ _ _ e
 exact ⟨i,j,hx.int,hy.int,hp,p _ G H (j4.refl _) R (.int _)⟩
theorem a3I (g:Int→Int→Bool):a1j B (rI0 fun i j=>.bl (g i j)) (a0P g):=by
 intro G H σ ρ x y dx dy w Q R hx hy e p
 cases dx <;> cases dy <;> first | cases e | skip
 exact ⟨_,_,hx.int,hy.int,p _ G H (j4.refl _) R (.bl _)⟩
theorem b2O:a1j B (rI0 fun i j=>.int (i - j)) a6j:=b38 fun dx dy w e=>by
 cases dx <;> cases dy <;> first | cases e | skip
 exact ⟨_,_,rfl,rfl,rfl⟩
theorem b2K:a1j B (rI a6Z fun i j=>.int (i * j)) R8:=a8j fun dx dy w e=>by
 cases dx <;> cases dy <;> first | cases e | skip
 obtain ⟨h,e⟩:=l8 e
 cases e
 exact ⟨_,_,rfl,rfl,h,rfl⟩
theorem b0Q:a1j B (rI a95 fun i j=>.int (i / j)) a3v:=a8j fun dx dy w e=>by
 cases dx <;> cases dy <;> first | cases e | skip
 obtain ⟨h,e⟩:=l8 e
 cases e
 exact ⟨_,_,rfl,rfl,h,rfl⟩
theorem b01:a1j B (rI (fun _ j=>0 < j) fun i j=>.int (i % j)) F5:=a8j fun dx dy w e=>by
 cases dx <;> cases dy <;> first | cases e | skip
 obtain ⟨h,e⟩:=l8 e
 cases e
 exact ⟨_,_,rfl,rfl,h,rfl⟩
theorem b2a:b4i B (rU fun i=>.int (-i)) P0:=by
 intro G H σ ρ x dx w Q R hx e p
 cases dx <;> first | cases e | skip
 exact ⟨_,hx.int,p _ G H (j4.refl _) R (.int _)⟩
theorem a7y (ha:PD X B a ma)(hb:PD X B b mb):PD X B (.BinOp a .Sub b pos) (f7 a6j ma mb):=a3T (fun _=>b4H) b2O ha hb
theorem a0y (ha:PD X B a ma)(hb:PD X B b mb):PD X B (.BinOp a .Mult b pos) (f7 R8 ma mb):=a3T (fun _=>b5d) b2K ha hb
theorem a7k (ha:PD X B a ma)(hb:PD X B b mb):PD X B (.BinOp a .FloorDiv b pos) (f7 a3v ma mb):=a3T (fun _=>b25) b0Q ha hb
theorem P5 (ha:PD X B a ma)(hb:PD X B b mb):PD X B (.BinOp a .Mod b pos) (f7 F5 ma mb):=a3T (fun _=>b47) b01 ha hb
theorem V5 (ha:PD X B a ma):PD X B (.UnaryOp .USub a pos) (mUn P0 ma):=b6w (fun _=>b4O) b2a ha
theorem C2 (ha:PD X B a ma)(hb:PD X B b mb)(hK:X.K=B.K:=by rfl):PD X B (.BinOp a .Add b pos) (f7 z8 ma mb):=by
 refine a3T (fun ξ=>(b5J (X:=rz X ξ)).or (a8U.or (b3j (K:=B.K) hK))) ?_ ha hb
 intro G H σ ρ x y dx dy w Q R hx hy e p
 cases dx <;> cases dy <;> first | cases e | skip
 ·exact .inl ⟨_,_,hx.int,hy.int,p _ G H (j4.refl _) R (.int _)⟩
 ·obtain ⟨h,e⟩:=l8 e
  cases e
  refine .inr (.inl ⟨_,_,hx.str,hy.str,by rw [a0R,a0R]; exact M9 h,?_⟩)
  rw [b5g]
  exact p _ G H (j4.refl _) R (.str _)
 ·obtain ⟨h,e⟩:=l8 e
  cases e
  obtain ⟨l,xs,rfl,h1,r1⟩:=hx.lst R.gH
  obtain ⟨l2,xs2,rfl,h2,r2⟩:=hy.lst R.gH
  refine .inr (.inr ⟨l,l2,xs,xs2,rfl,rfl,h1,h2,by rw [r1.len,r2.len]; exact M9 h,fun q hq=>?_⟩)
  obtain ⟨R',w'⟩:=R.a2x hq (r1.append r2)
  exact p _ G _ (j4.refl _) R' w'
theorem b77 (ha:PD X B a ma)(hb:PD X B b mb):PD X B (.Compare a [.LtE] [b] pos) (f7 (a0P fun i j=>decide (i≤j)) ma mb):=a6E (fun _=>b7n) (a3I _) ha hb (a1J _)
theorem b6r (ha:PD X B a ma)(hb:PD X B b mb):PD X B (.Compare a [.Gt] [b] pos) (f7 (a0P fun i j=>decide (j < i)) ma mb):=a6E (fun _=>b4B) (a3I _) ha hb (a1J _)
theorem b7S (ha:PD X B a ma)(hb:PD X B b mb):PDT X B (.Compare a [.Lt] [b] pos) (z6 (f7 (a0P fun i j=>decide (i < j)) ma mb)):=a07 (fun _=>b6P) (a3I _) ha hb (a1J _)
theorem b74 (ha:PD X B a ma)(hb:PD X B b mb):PDT X B (.Compare a [.Gt] [b] pos) (z6 (f7 (a0P fun i j=>decide (j < i)) ma mb)):=a07 (fun _=>b4B) (a3I _) ha hb (a1J _)
end
end L3
set_option Elab.async false
set_option linter.all false
set_option maxRecDepth 100000
set_option maxHeartbeats 4000000
namespace L3
open PySem PySem.Spec PyProof.Rows L2
noncomputable def eqL (f:D→D→Option Bool):List D→List D→Option Bool
 | [],[]=>some true
 | [],_::_=>some false
 | _::_,[]=>some false
 | x::xs,y::ys=>match f x y,eqL f xs ys with
  | some a,some b=>some (a && b)
  | _,_=>none
noncomputable def eqF:D→D→Option Bool
 | .A3,.A3=>some true
 | .bl a,.bl b=>some (a == b)
 | .int a,.int b=>some (a == b)
 | .str a,.str b=>some (a == b)
 | .A3,.bl _=>some false
 | .A3,.int _=>some false
 | .A3,.str _=>some false
 | .bl _,.A3=>some false
 | .int _,.A3=>some false
 | .str _,.A3=>some false
 | .tup _,.A3=>some false
 | .lst _,.A3=>some false
 | _,_=>none
noncomputable def Z8:Nat→D→D→Option Bool
 | n + 1,.tup a,.tup b=>eqL (Z8 n) a b
 | n + 1,.lst a,.lst b=>eqL (Z8 n) a b
 | _,d,e=>eqF d e
theorem a9v {f:D→D→Option Bool}:∀ {xs ys:List D} {b:Bool},eqL f xs ys=some b→xs.length≠ys.length→b=false
 | [],[],_,_,h=>absurd rfl h
 | [],_::_,_,e,_=>by cases e; rfl
 | _::_,[],_,e,_=>by cases e; rfl
 | x::xs,y::ys,b,e,h=>by
  unfold eqL at e
  cases h1:f x y with
  | none=>rw [h1] at e; cases e
  | some p=>
   cases h2:eqL f xs ys with
   | none=>rw [h1,h2] at e; cases e
   | some q=>
    rw [h1,h2] at e
    cases e
    rw [a9v h2 (by simpa using h),Bool.and_false]
theorem a6g {f:D→D→Option Bool}:∀ {xs ys:List D} {b:Bool},eqL f xs ys=some b→∃ g:Nat→Bool,(∀ (j:Nat) x y,xs[j]?=some x→ys[j]?=some y→f x y=some (g j))∧b=((List.range (min xs.length ys.length)).all g && (xs.length == ys.length))
 | [],[],_,e=>by cases e; exact ⟨fun _=>true,fun j x y h=>by simp at h,rfl⟩
 | [],_::_,_,e=>by cases e; exact ⟨fun _=>true,fun j x y h=>by simp at h,by simp⟩
 | _::_,[],_,e=>by cases e; exact ⟨fun _=>true,fun j x y _ h=>by simp at h,by simp⟩
 | x::xs,y::ys,b,e=>by
  unfold eqL at e
  cases h1:f x y with
  | none=>rw [h1] at e; cases e
  | some p=>
   cases h2:eqL f xs ys with
   | none=>rw [h1,h2] at e; cases e
   | some q=>
    rw [h1,h2] at e
    cases e
    obtain ⟨g,hg,hq⟩:=a6g h2
    refine ⟨fun j=>if j=0 then p else g (j - 1),fun j x' y' a c=>?_,?_⟩
    ·cases j with
     | zero=>simp at a c; subst a c; simpa using h1
     | succ j=>simpa using hg j x' y' (by simpa using a) (by simpa using c)
    ·have em:min (x::xs).length (y::ys).length=min xs.length ys.length + 1:=by simp only [List.length_cons]; omega
     rw [em,List.range_succ_eq_map,List.all_cons,List.all_map,hq,List.length_cons,List.length_cons]
     simp only [if_pos,Bool.and_assoc]
     congr 2
     simp
theorem a67 {f:D→D→Option Bool}{xs ys:List D}{b:Bool}(h:eqL f xs ys=some b)(hl:xs.length=ys.length):∃ g:Nat→Bool,(∀ (j:Nat) x y,xs[j]?=some x→ys[j]?=some y→f x y=some (g j))∧b=(List.range xs.length).all g:=by
 obtain ⟨g,h1,h2⟩:=a6g h
 refine ⟨g,h1,?_⟩
 rw [h2,hl]
 simp
theorem K9.rep {K:PySem.W.Frag}{G H:Hp}{v:V}{d:D}(g:j4 G H)(h:K9 K G H v d):Rep K H v d:=by
 rcases h with h | ⟨p,rfl,h⟩
 ·exact h.same g
 ·cases d with
  | lst ds=>
   obtain ⟨xs,e,r⟩:=h
   have r':=r.same g
   exact .lst (L8.of e) r'.len r'.get
  | dct es=>
   obtain ⟨xs,e,r⟩:=h
   have r':=r.same g
   exact .dct (.inl e) r'.keys r'.get
  | _=>exact (show False from h).elim
section
variable {X:Cx}{pins:List (Addr×Obj)}{σ:St}{H:Hp}{s:Shared}
theorem str_beq (a b:List Nat):(tx a == tx b)=(a == b):=by
 rw [Bool.eq_iff_iff,beq_iff_eq,beq_iff_eq]
 exact b1W
theorem b3T {A:Around}{a b:Addr}{xs ys:List V}{ds es:List D}{g:Nat→Bool}(I:Inv X pins σ H s)(h1:W5 X.K H a xs)(h2:W5 X.K H b ys)(l1:xs.length=ds.length)(l2:ys.length=es.length)(hu:A.units < cLine)
  (ih:∀ (j:Nat) x y v u,xs[j]?=some x→ys[j]?=some y→RelV x v→RelV y u→SeqAt.EqAt A.in1 s v u (g j)):
  SeqAt.RcAt A s (.ref a) (.ref b) ((List.range (min ds.length es.length)).all g && (ds.length == es.length))∧SeqAt.RcNeAt A s (.ref a) (.ref b) (!((List.range (min ds.length es.length)).all g && (ds.length == es.length))):=by
 obtain ⟨its,rv,p,_⟩:=I.tuple h1
 obtain ⟨its2,rv2,p2,_⟩:=I.tuple h2
 have k1:=rv.length
 have k2:=rv2.length
 have he:∀ j (z1:j < its.toArray.size) (z2:j < its2.toArray.size),SeqAt.EqAt A.in1 s its.toArray[j] its2.toArray[j] (g j):=fun j z1 z2=>by
  have h1':j < xs.length:=by simpa [← k1] using z1
  have h2':j < ys.length:=by simpa [← k2] using z2
  obtain ⟨v1,e1,r1⟩:=rv.get (i:=j) (x:=xs[j]) (by simp [h1'])
  obtain ⟨v2,e2,r2⟩:=rv2.get (i:=j) (x:=ys[j]) (by simp [h2'])
  have f1:its.toArray[j]=v1:=by
   have:=(List.getElem?_eq_some_iff.mp e1).2
   simpa using this
  have f2:its2.toArray[j]=v2:=by
   have:=(List.getElem?_eq_some_iff.mp e2).2
   simpa using this
  rw [f1,f2]
  exact ih j _ _ _ _ (by simp [h1']) (by simp [h2']) r1 r2
 have q1:=SeqAt.RcAt.tuples (e:=g) (A:=A) p p2 hu he
 have q2:=SeqAt.RcNeAt.tuples (e:=g) (A:=A) p p2 hu he
 have e1:its.toArray.size=ds.length:=by rw [List.size_toArray]; omega
 have e2:its2.toArray.size=es.length:=by rw [List.size_toArray]; omega
 rw [e1,e2] at q1 q2
 exact ⟨q1,q2⟩
theorem b4k {A:Around}{a b:Addr}{xs ys:List V}{ds es:List D}{f:D→D→Option Bool}{r:Bool}(I:Inv X pins σ H s)(h1:L8 X.K H a xs)(h2:L8 X.K H b ys)(l1:xs.length=ds.length)(l2:ys.length=es.length)(hu:A.units < cLine)
  (hr:eqL f ds es=some r) (ih:∀ (j:Nat) x y d e k v u,xs[j]?=some x→ys[j]?=some y→ds[j]?=some d→es[j]?=some e→f d e=some k→RelV x v→RelV y u→SeqAt.EqAt A.in1 s v u k):
  SeqAt.RcAt A s (.ref a) (.ref b) r∧SeqAt.RcNeAt A s (.ref a) (.ref b) (!r):=by
 obtain ⟨its,rv,p,_⟩:=I.list h1
 obtain ⟨its2,rv2,p2,_⟩:=I.list h2
 have k1:=rv.length
 have k2:=rv2.length
 have e1:its.toArray.size=ds.length:=by rw [List.size_toArray]; omega
 have e2:its2.toArray.size=es.length:=by rw [List.size_toArray]; omega
 by_cases hl:ds.length=es.length
 ·obtain ⟨g,hg,hb⟩:=a67 hr hl
  have he:∀ j (z1:j < its.toArray.size) (z2:j < its2.toArray.size),SeqAt.EqAt A.in1 s its.toArray[j] its2.toArray[j] (g j):=fun j z1 z2=>by
   have h1':j < xs.length:=by simpa [← k1] using z1
   have h2':j < ys.length:=by simpa [← k2] using z2
   have h3':j < ds.length:=by omega
   have h4':j < es.length:=by omega
   obtain ⟨v1,e1,r1⟩:=rv.get (i:=j) (x:=xs[j]) (by simp [h1'])
   obtain ⟨v2,e2,r2⟩:=rv2.get (i:=j) (x:=ys[j]) (by simp [h2'])
   have f1:its.toArray[j]=v1:=by
    have:=(List.getElem?_eq_some_iff.mp e1).2
    simpa using this
   have f2:its2.toArray[j]=v2:=by
    have:=(List.getElem?_eq_some_iff.mp e2).2
    simpa using this
   rw [f1,f2]
   exact ih j _ _ ds[j] es[j] _ _ _ (by simp [h1']) (by simp [h2']) (by simp [h3']) (by simp [h4']) (hg j _ _ (by simp [h3']) (by simp [h4'])) r1 r2
  have q1:=SeqAt.RcAt.lists (e:=g) (A:=A) p.isList p2.isList (by omega) hu he
  have q2:=SeqAt.RcNeAt.lists (e:=g) (A:=A) p.isList p2.isList (by omega) hu he
  rw [e1,← hb] at q1 q2
  exact ⟨q1,q2⟩
 ·have hb:=a9v hr hl
  subst hb
  have hne:(its.toArray.size != its2.toArray.size)=true:=by rw [e1,e2]; simpa using hl
  exact ⟨SeqAt.RcAt.lists_lengths p.isList p2.isList hne hu,SeqAt.RcNeAt.lists_lengths p.isList p2.isList hne hu⟩
theorem a9j {d e:D}{b:Bool}(h:eqF d e=some b)(I:Inv X pins σ H s){A:Around}{x y:V}{v u:Value}(hx:Rep X.K H x d)(hy:Rep X.K H y e)(rx:RelV x v)(ry:RelV y u)(hu':A.units < cLine):
  SeqAt.EqAt A s v u b∧SeqAt.RcAt A s v u b∧SeqAt.RcNeAt A s v u (!b):=by
 cases hx with
 | A3=>
  cases rx
  cases hy with
  | A3=>cases h; cases ry; exact ⟨SeqAt.EqAt.same _,SeqAt.RcAt.none_none,SeqAt.RcNeAt.none_none⟩
  | bl _=>cases h; cases ry; exact ⟨SeqAt.EqAt.none_bool _,SeqAt.RcAt.none_bool _,SeqAt.RcNeAt.none_bool _⟩
  | int _=>cases h; obtain ⟨t,rfl⟩:=ry; exact ⟨SeqAt.EqAt.none_int _ _,SeqAt.RcAt.none_int _ _,SeqAt.RcNeAt.none_int _ _⟩
  | str _=>cases h; obtain ⟨t,rfl⟩:=ry; exact ⟨SeqAt.EqAt.none_str _ _,SeqAt.RcAt.none_str _ _,SeqAt.RcNeAt.none_str _ _⟩
  | ty _=>cases h
  | tup _ _ _=>cases h
  | lst _ _ _=>cases h
  | dct _ _ _=>cases h
 | bl _=>
  cases rx
  cases hy with
  | A3=>cases h; cases ry; exact ⟨SeqAt.EqAt.bool_none _,SeqAt.RcAt.bool_none _,SeqAt.RcNeAt.bool_none _⟩
  | bl _=>cases h; cases ry; exact ⟨SeqAt.EqAt.bool_bool _ _,SeqAt.RcAt.bool_bool _ _,SeqAt.RcNeAt.bool_bool _ _⟩
  | int _=>cases h
  | str _=>cases h
  | ty _=>cases h
  | tup _ _ _=>cases h
  | lst _ _ _=>cases h
  | dct _ _ _=>cases h
 | int _=>
  obtain ⟨t,rfl⟩:=rx
  cases hy with
  | A3=>cases h; cases ry; exact ⟨SeqAt.EqAt.int_none _ _,SeqAt.RcAt.int_none _ _,SeqAt.RcNeAt.int_none _ _⟩
  | int _=>cases h; obtain ⟨t',rfl⟩:=ry; exact ⟨SeqAt.EqAt.int_int _ _ _ _,SeqAt.RcAt.int_int _ _ _ _,SeqAt.RcNeAt.int_int _ _ _ _⟩
  | bl _=>cases h
  | str _=>cases h
  | ty _=>cases h
  | tup _ _ _=>cases h
  | lst _ _ _=>cases h
  | dct _ _ _=>cases h
 | str cs=>
  obtain ⟨t,rfl⟩:=rx
  cases hy with
  | A3=>cases h; cases ry; exact ⟨SeqAt.EqAt.str_none _ _,SeqAt.RcAt.str_none _ _,SeqAt.RcNeAt.str_none _ _⟩
  | str cs'=>
   have hb:(cs == cs')=b:=Option.some.inj h
   rw [← hb,← str_beq]
   obtain ⟨t',rfl⟩:=ry
   exact ⟨SeqAt.EqAt.str_str _ _ _ _,SeqAt.RcAt.str_str _ _ _ _,SeqAt.RcNeAt.str_str _ _ _ _⟩
  | bl _=>cases h
  | int _=>cases h
  | ty _=>cases h
  | tup _ _ _=>cases h
  | lst _ _ _=>cases h
  | dct _ _ _=>cases h
 | ty _=>cases hy <;> cases h
 | tup h1 _ _=>
  cases rx
  cases hy with
  | A3=>
   cases h
   cases ry
   obtain ⟨its,_,p,_⟩:=I.tuple h1
   exact ⟨SeqAt.EqAt.tuple_none p hu',SeqAt.RcAt.tuple_none p hu',SeqAt.RcNeAt.tuple_none p hu'⟩
  | bl _=>cases h
  | int _=>cases h
  | str _=>cases h
  | ty _=>cases h
  | tup _ _ _=>cases h
  | lst _ _ _=>cases h
  | dct _ _ _=>cases h
 | lst h1 _ _=>
  cases rx
  cases hy with
  | A3=>
   cases h
   cases ry
   obtain ⟨its,_,p,_⟩:=I.list h1
   exact ⟨SeqAt.EqAt.list_none p.isList hu',SeqAt.RcAt.list_none p.isList hu',SeqAt.RcNeAt.list_none p.isList hu'⟩
  | bl _=>cases h
  | int _=>cases h
  | str _=>cases h
  | ty _=>cases h
  | tup _ _ _=>cases h
  | lst _ _ _=>cases h
  | dct _ _ _=>cases h
 | dct _ _ _=>cases hy <;> cases h
theorem Y6 {d e:D}{b:Bool}(h:eqF d e=some b){x:V}(hx:Rep X.K H x d)(hy:Rep X.K H x e):b=true:=by
 cases hx <;> cases hy <;> first | (exfalso; cases h; done) | skip
 all_goals first | (cases h; rfl) | (cases h; simp)
theorem b5f {g:Nat→Bool}{n:Nat}(h:∀ j,j < n→g j=true):(List.range n).all g=true:=by
 rw [List.all_eq_true]
 intro j hj
 exact h j (List.mem_range.mp hj)
theorem a7x {f:D→D→Option Bool}{ds es:List D}{b:Bool}{xs:List V}(h:eqL f ds es=some b)(l1:xs.length=ds.length)(l2:xs.length=es.length)(r1:∀ (j:Nat) x d,xs[j]?=some x→ds[j]?=some d→Rep X.K H x d)(r2:∀ (j:Nat) x d,xs[j]?=some x→es[j]?=some d→Rep X.K H x d)
  (hf:∀ d e k x,f d e=some k→Rep X.K H x d→Rep X.K H x e→k=true):b=true:=by
 obtain ⟨g,hg,hb⟩:=a67 h (by omega)
 rw [hb]
 refine b5f fun j hj=>?_
 have hj2:j < es.length:=by omega
 have hj3:j < xs.length:=by omega
 exact hf ds[j] es[j] _ xs[j] (hg j _ _ (by simp [hj]) (by simp [hj2])) (r1 j _ _ (by simp [hj3]) (by simp [hj])) (r2 j _ _ (by simp [hj3]) (by simp [hj2]))
theorem a7h (I:Inv X pins σ H s):∀ (n:Nat) {d e:D} {b:Bool} {x:V},Z8 n d e=some b→Rep X.K H x d→Rep X.K H x e→b=true:=by
 intro n
 induction n with
 | zero=>
  intro d e b x h hx hy
  exact Y6 (by cases d <;> exact h) hx hy
 | succ n ih=>
  intro d e b x h hx hy
  cases hx with
  | tup h1 l1 r1=>
   cases hy with
   | tup h2 l2 r2=>
    have e:=I.a2R h1 h2
    subst e
    exact a7x (X:=X) (H:=H) (show eqL (Z8 n) _ _=some b from h) l1 l2 r1 r2 fun d e k x a b c=>ih a b c
   | lst h2 l2 r2=>cases h
   | dct h2 l2 r2=>cases h
  | lst h1 l1 r1=>
   cases hy with
   | lst h2 l2 r2=>
    have e:=I.a2u h1 h2
    subst e
    exact a7x (X:=X) (H:=H) (show eqL (Z8 n) _ _=some b from h) l1 l2 r1 r2 fun d e k x a b c=>ih a b c
   | tup h2 l2 r2=>cases h
   | dct h2 l2 r2=>cases h
  | A3=>exact Y6 (X:=X) (H:=H) (by cases e <;> exact h) .A3 hy
  | bl k=>exact Y6 (X:=X) (H:=H) (by cases e <;> exact h) (.bl k) hy
  | int k=>exact Y6 (X:=X) (H:=H) (by cases e <;> exact h) (.int k) hy
  | str k=>exact Y6 (X:=X) (H:=H) (by cases e <;> exact h) (.str k) hy
  | ty k=>exact Y6 (X:=X) (H:=H) (by cases e <;> exact h) (.ty k) hy
  | dct h1 l1 r1=>cases hy <;> cases h
theorem a3H (I:Inv X pins σ H s):∀ (n:Nat) {d e:D} {b:Bool},Z8 n d e=some b→∀ {A:Around} {x y:V} {v u:Value},Rep X.K H x d→Rep X.K H y e→RelV x v→RelV y u→A.units + n < cLine→
  SeqAt.EqAt A s v u b∧SeqAt.RcAt A s v u b∧SeqAt.RcNeAt A s v u (!b):=by
 intro n
 induction n with
 | zero=>
  intro d e b h A x y v u hx hy rx ry hu
  exact a9j (by cases d <;> exact h) I hx hy rx ry (by omega)
 | succ n ih=>
  intro d e b h A x y v u hx hy rx ry hu
  have flat:eqF d e=some b→SeqAt.EqAt A s v u b∧SeqAt.RcAt A s v u b∧SeqAt.RcNeAt A s v u (!b):=fun h'=>a9j h' I hx hy rx ry (by omega)
  cases d with
  | tup ds=>
   cases e with
   | tup es=>
    have hsame:=fun (hy':Rep X.K H x (.tup es))=>a7h I (n + 1) h hx hy'
    cases hx with
    | @tup a xs _ h1 l1 r1=>
     cases hy with
     | @tup a2 xs2 _ h2 l2 r2=>
      cases rx
      cases ry
      obtain ⟨g,hg,hb⟩:=a6g (show eqL (Z8 n) ds es=some b from h)
      have key:=b3T (A:=A) (g:=g) I h1 h2 l1 l2 (by omega) fun j x y v u hx hy rx ry=>by
       have hj1:j < ds.length:=by rw [← l1]; exact (List.getElem?_eq_some_iff.mp hx).1
       have hj2:j < es.length:=by rw [← l2]; exact (List.getElem?_eq_some_iff.mp hy).1
       exact (ih (hg j ds[j] es[j] (by simp [hj1]) (by simp [hj2])) (A:=A.in1) (r1 j x _ hx (by simp [hj1])) (r2 j y _ hy (by simp [hj2])) rx ry (by show A.units + 1 + n < _; omega)).1
      rw [← hb] at key
      refine ⟨?_,key⟩
      by_cases e:a=a2
      ·subst e
       have e2:=hsame (.tup h2 l2 r2)
       subst e2
       exact SeqAt.EqAt.same _
      ·exact SeqAt.EqAt.of_refs e key.1
   | _=>exact flat h
  | lst ds=>
   cases e with
   | lst es=>
    have hsame:=fun (hy':Rep X.K H x (.lst es))=>a7h I (n + 1) h hx hy'
    cases hx with
    | @lst a xs _ h1 l1 r1=>
     cases hy with
     | @lst a2 xs2 _ h2 l2 r2=>
      cases rx
      cases ry
      have key:=b4k (A:=A) I h1 h2 l1 l2 (by omega) (show eqL (Z8 n) ds es=some b from h) fun j x y d e k v u hx hy hd he hk rx ry=>
       (ih hk (A:=A.in1) (r1 j x _ hx hd) (r2 j y _ hy he) rx ry (by show A.units + 1 + n < _; omega)).1
      refine ⟨?_,key⟩
      by_cases e:a=a2
      ·subst e
       have e2:=hsame (.lst h2 l2 r2)
       subst e2
       exact SeqAt.EqAt.same _
      ·exact SeqAt.EqAt.of_refs e key.1
   | _=>exact flat h
  | _=>exact flat (by cases e <;> exact h)
end
theorem b05 {X:Cx}{K:PySem.W.Frag}(hK:X.K=K)(hu:X.A.units + 8 < cLine):OpR X (compareOp .Eq) (fun x y H Q=>∃ d e b,Rep K H x d∧Rep K H y e∧Z8 8 d e=some b∧Q (.bl b) H):=by
 subst hK
 intro pins s σ H x y v u Q I rx ry h
 obtain ⟨d,e,b,hx,hy,hb,q⟩:=h
 exact (a3H I 8 hb hx hy rx ry hu).2.1 _ _ _ _ (a1O I q rfl)
theorem b5Q {X:Cx}{K:PySem.W.Frag}(hK:X.K=K)(hu:X.A.units + 8 < cLine):OpR X (compareOp .NotEq) (fun x y H Q=>∃ d e b,Rep K H x d∧Rep K H y e∧Z8 8 d e=some b∧Q (.bl (!b)) H):=by
 subst hK
 intro pins s σ H x y v u Q I rx ry h
 obtain ⟨d,e,b,hx,hy,hb,q⟩:=h
 exact (a3H I 8 hb hx hy rx ry hu).2.2 _ _ _ _ (a1O I q rfl)
end L3
set_option Elab.async false
set_option linter.all false
set_option maxRecDepth 100000
set_option maxHeartbeats 4000000
namespace L3
open PySem PySem.Spec PyProof.Rows L2
section
variable {X:Cx}{pins:List (Addr×Obj)}{σ:St}{H:Hp}{s:Shared}
theorem P7 {a:Addr}{T T':String}(h:s.TypeIs (.ref a) T)(h':s.TypeIs (.ref a) T'):T=T':=by
 obtain ⟨o,e,c⟩:=h
 obtain ⟨o',e',c'⟩:=h'
 rw [e] at e'
 cases e'
 rw [c] at c'
 injection c'
theorem a9p {xs:List V}{ds es:List D}(l1:xs.length=ds.length)(l2:xs.length=es.length)(h:∀ (j:Nat) x d e,xs[j]?=some x→ds[j]?=some d→es[j]?=some e→d=e):ds=es:=by
 refine List.ext_getElem? fun j=>?_
 by_cases hj:j < xs.length
 ·have h1:j < ds.length:=by omega
  have h2:j < es.length:=by omega
  have e1:ds[j]?=some ds[j]:=by simp [h1]
  have e2:es[j]?=some es[j]:=by simp [h2]
  rw [e1,e2,h j xs[j] _ _ (by simp [hj]) e1 e2]
 ·rw [List.getElem?_eq_none (by omega),List.getElem?_eq_none (by omega)]
theorem b0R {a:Addr}{k1 k2:List (Key×V)}(h1:Rd H a (.dK k1))(h2:Rd H a (.dK k2)):k1=k2:=by
 rcases h1 with h1 | ⟨o,h1⟩ <;> rcases h2 with h2 | ⟨o2,h2⟩ <;> rw [h1] at h2 <;> cases h2 <;> rfl
theorem Rep.inj (I:Inv X pins σ H s){x:V}{d:D}(h:Rep X.K H x d):∀ {e:D},Rep X.K H x e→d=e:=by
 induction h with
 | A3=>intro e h2; cases h2; rfl
 | bl b=>intro e h2; cases h2; rfl
 | int b=>intro e h2; cases h2; rfl
 | ty b=>intro e h2; cases h2; rfl
 | str cs=>
  intro e h2
  generalize hx:V.str (tx cs)=x at h2
  cases h2 <;> first | (cases hx; done) | skip
  rename_i cs'
  have q:tx cs=tx cs':=by injection hx
  rw [b1W.mp q]
 | @tup a xs ds h1 l1 r1 ih=>
  intro e h2
  cases h2 with
  | tup h2 l2 r2=>
   have q:=I.a2R h1 h2
   subst q
   rw [a9p l1 l2 fun j x d e a b c=>ih j x d a b (r2 j x e a c)]
  | lst h2 l2 r2=>
   obtain ⟨_,_,p,_⟩:=I.tuple h1
   obtain ⟨_,_,p2,_⟩:=I.list h2
   exact absurd (P7 p.typeIs p2.isList.typeIs) (by decide)
  | dct h2 l2 r2=>
   obtain ⟨_,_,p,_⟩:=I.tuple h1
   obtain ⟨_,_,vs,_,dd⟩:=O9 I.hok h2
   exact absurd (P7 p.typeIs dd.typeIs) (by decide)
 | @lst a xs ds h1 l1 r1 ih=>
  intro e h2
  cases h2 with
  | lst h2 l2 r2=>
   have q:=I.a2u h1 h2
   subst q
   rw [a9p l1 l2 fun j x d e a b c=>ih j x d a b (r2 j x e a c)]
  | tup h2 l2 r2=>
   obtain ⟨_,_,p,_⟩:=I.list h1
   obtain ⟨_,_,p2,_⟩:=I.tuple h2
   exact absurd (P7 p.isList.typeIs p2.typeIs) (by decide)
  | dct h2 l2 r2=>
   obtain ⟨_,_,p,_⟩:=I.list h1
   obtain ⟨_,_,vs,_,dd⟩:=O9 I.hok h2
   exact absurd (P7 p.isList.typeIs dd.typeIs) (by decide)
 | @dct a kvs ds h1 l1 r1 ih=>
  intro e h2
  cases h2 with
  | @dct _ kvs2 es h2 l2 r2=>
   have ek:=b0R h1 h2
   subst ek
   congr 1
   have z1:kvs.length=ds.length:=by have:=congrArg List.length l1; simpa using this
   have z2:kvs.length=es.length:=by have:=congrArg List.length l2; simpa using this
   refine List.ext_getElem? fun j=>?_
   by_cases hj:j < kvs.length
   ·have h1:j < ds.length:=by omega
    have h2:j < es.length:=by omega
    have e1:ds[j]?=some ds[j]:=by simp [h1]
    have e2:es[j]?=some es[j]:=by simp [h2]
    have k1:(kvs.map (·.1))[j]?=(ds.map (·.1))[j]?:=by rw [l1]
    have k2:(kvs.map (·.1))[j]?=(es.map (·.1))[j]?:=by rw [l2]
    rw [List.getElem?_map,List.getElem?_map,e1,show kvs[j]?=some kvs[j] by simp [hj]] at k1
    rw [List.getElem?_map,List.getElem?_map,e2,show kvs[j]?=some kvs[j] by simp [hj]] at k2
    have q:=ih j kvs[j] ds[j] (by simp [hj]) e1 (r2 j kvs[j] es[j] (by simp [hj]) e2)
    rw [e1,e2]
    congr 1
    refine Prod.ext ?_ q
    simp at k1 k2
    rw [← k1,← k2]
   ·rw [List.getElem?_eq_none (by omega),List.getElem?_eq_none (by omega)]
  | tup h2 l2 r2=>
   obtain ⟨_,_,vs,_,dd⟩:=O9 I.hok h1
   obtain ⟨_,_,p2,_⟩:=I.tuple h2
   exact absurd (P7 dd.typeIs p2.typeIs) (by decide)
  | lst h2 l2 r2=>
   obtain ⟨_,_,vs,_,dd⟩:=O9 I.hok h1
   obtain ⟨_,_,p2,_⟩:=I.list h2
   exact absurd (P7 dd.typeIs p2.isList.typeIs) (by decide)
end
noncomputable def inL (d:D):List D→Option Bool
 | []=>some false
 | y::ys=>match Z8 7 y d,inL d ys with
  | some a,some b=>some (a || b)
  | _,_=>none
open Classical in
noncomputable def N3 (K:PySem.W.Frag) (H:Hp) (d:D) (u:Value):Bool:=decide (∃ y e,RelV y u∧Rep K H y e∧Z8 7 e d=some true)
section
variable {X:Cx}{pins:List (Addr×Obj)}{σ:St}{H:Hp}{s:Shared}
theorem a3U (I:Inv X pins σ H s){y:V}{u:Value}{d e:D}{b:Bool}(r:RelV y u)(h:Rep X.K H y e)(he:Z8 7 e d=some b):N3 X.K H d u=b:=by
 unfold N3
 cases b with
 | true=>exact @decide_eq_true _ (Classical.propDecidable _) ⟨y,e,r,h,he⟩
 | false=>
  refine @decide_eq_false _ (Classical.propDecidable _) ?_
  rintro ⟨y',e',r',h',he'⟩
  have q:=r'.inj r
  subst q
  have q2:=h'.inj I h
  subst q2
  rw [he] at he'
  cases he'
theorem a3V (I:Inv X pins σ H s){d:D}:∀ {ds:List D} {xs:List V} {us:List Value} {b:Bool},inL d ds=some b→v5 X.K H xs ds→Vals xs us→us.any (N3 X.K H d)=b
 | [],[],us,b,h,_,v=>by cases v; cases h; rfl
 | [],_::_,_,_,_,r,_=>by have:=r.len; simp at this
 | _::_,[],_,_,_,r,_=>by have:=r.len; simp at this
 | e::ds,x::xs,us,b,h,r,v=>by
  cases v with
  | cons r1 v=>
   unfold inL at h
   cases h1:Z8 7 e d with
   | none=>rw [h1] at h; cases h
   | some p=>
    cases h2:inL d ds with
    | none=>rw [h1,h2] at h; cases h
    | some q=>
     rw [h1,h2] at h
     cases h
     rw [List.any_cons,a3U I r1 r.head h1,a3V I h2 r.tail v]
theorem a08 (I:Inv X pins σ H s){d:D}{x':V}{w':Value}{A:Around}(hx:Rep X.K H x' d)(rx:RelV x' w')(hu:A.units + 7 < cLine):∀ {ds:List D} {xs:List V} {us:List Value} {b:Bool},inL d ds=some b→v5 X.K H xs ds→Vals xs us→∀ u∈us,SeqAt.EqAt A s u w' (N3 X.K H d u)
 | [],[],us,b,h,_,v=>by cases v; intro u hu; cases hu
 | [],_::_,_,_,_,r,_=>by have:=r.len; simp at this
 | _::_,[],_,_,_,r,_=>by have:=r.len; simp at this
 | e::ds,x::xs,us,b,h,r,v=>by
  cases v with
  | cons r1 v=>
   unfold inL at h
   cases h1:Z8 7 e d with
   | none=>rw [h1] at h; cases h
   | some p=>
    cases h2:inL d ds with
    | none=>rw [h1,h2] at h; cases h
    | some q=>
     intro u hm
     rcases List.mem_cons.mp hm with rfl | hm
     ·rw [a3U I r1 r.head h1]
      exact (a3H I 7 h1 r.head hx r1 rx hu).1
     ·exact a08 I hx rx hu h2 r.tail v u hm
end
theorem b2q {X:Cx}{K:PySem.W.Frag}(hK:X.K=K)(hu:X.A.units + 8 < cLine):OpR X (compareOp .In) (fun x y H Q=>∃ d ds b p xs,Rep K H x d∧y=.ref p∧(L8 K H p xs∨W5 K H p xs)∧v5 K H xs ds∧inL d ds=some b∧Q (.bl b) H):=by
 subst hK
 intro pins s σ H x y v u Q I rx ry h
 obtain ⟨d,ds,b,p,xs,hx,rfl,hq,hr,hb,q⟩:=h
 cases ry
 rcases hq with hq | hq
 ·obtain ⟨its,r,pl,hz⟩:=I.list hq
  refine SeqAt.in_listAt (N3 X.K H d) pl.isList (fun w hw=>a08 I hx rx (by show X.A.units + 1 + 7 < _; omega) hb hr r w (by simpa using hw)) ⟨.bl _,H,I,rfl,?_⟩
  rw [show its.toArray.any (N3 X.K H d)=its.any (N3 X.K H d) by simp,a3V I hb hr r]
  exact q
 ·obtain ⟨its,r,pl,hz⟩:=I.tuple hq
  refine SeqAt.in_tupleAt (N3 X.K H d) pl (fun w hw=>a08 I hx rx (by show X.A.units + 1 + 7 < _; omega) hb hr r w (by simpa using hw)) ⟨.bl _,H,I,rfl,?_⟩
  rw [show its.toArray.any (N3 X.K H d)=its.any (N3 X.K H d) by simp,a3V I hb hr r]
  exact q
theorem b0K {X:Cx}{K:PySem.W.Frag}(hK:X.K=K)(hu:X.A.units + 8 < cLine):OpR X (compareOp .NotIn) (fun x y H Q=>∃ d ds b p xs,Rep K H x d∧y=.ref p∧(L8 K H p xs∨W5 K H p xs)∧v5 K H xs ds∧inL d ds=some b∧Q (.bl (!b)) H):=by
 subst hK
 intro pins s σ H x y v u Q I rx ry h
 obtain ⟨d,ds,b,p,xs,hx,rfl,hq,hr,hb,q⟩:=h
 cases ry
 rcases hq with hq | hq
 ·obtain ⟨its,r,pl,hz⟩:=I.list hq
  refine SeqAt.notIn_listAt (N3 X.K H d) pl.isList (fun w hw=>a08 I hx rx (by show X.A.units + 1 + 7 < _; omega) hb hr r w (by simpa using hw)) ⟨.bl _,H,I,rfl,?_⟩
  rw [show its.toArray.any (N3 X.K H d)=its.any (N3 X.K H d) by simp,a3V I hb hr r]
  exact q
 ·obtain ⟨its,r,pl,hz⟩:=I.tuple hq
  refine SeqAt.notIn_tupleAt (N3 X.K H d) pl (fun w hw=>a08 I hx rx (by show X.A.units + 1 + 7 < _; omega) hb hr r w (by simpa using hw)) ⟨.bl _,H,I,rfl,?_⟩
  rw [show its.toArray.any (N3 X.K H d)=its.any (N3 X.K H d) by simp,a3V I hb hr r]
  exact q
noncomputable def keyOf:D→Option Key
 | .int i=>some (.inl i)
 | .str cs=>some (.inr (tx cs))
 | _=>none
noncomputable def J1 (es:List (Key×D))(k:Key):Option D:=(es.find? fun kv=>decide (kv.1=k)).map (·.2)
noncomputable def putD (es:List (Key×D))(k:Key)(d:D):List (Key×D):=if (es.any fun kv=>decide (kv.1=k))=true then es.map fun kv=>if kv.1=k then (kv.1,d) else kv else es++[(k,d)]
section
variable {K:PySem.W.Frag}{G:Hp}
theorem l5.nil:l5 K G [] []:=⟨rfl,fun j p e h=>by simp at h⟩
theorem l5.cons {p:Key×V}{e:Key×D}{kvs:List (Key×V)}{es:List (Key×D)}(hk:p.1=e.1)(h:Rep K G p.2 e.2)(r:l5 K G kvs es):l5 K G (p::kvs) (e::es):=by
 refine ⟨by rw [List.map_cons,List.map_cons,hk,r.keys],fun j x y a b=>?_⟩
 cases j with
 | zero=>simp at a b; subst a b; exact h
 | succ j=>exact r.get j x y (by simpa using a) (by simpa using b)
theorem l5.inv {p:Key×V}{e:Key×D}{kvs:List (Key×V)}{es:List (Key×D)}(r:l5 K G (p::kvs) (e::es)):p.1=e.1∧Rep K G p.2 e.2∧l5 K G kvs es:=by
 have k:=r.keys
 rw [List.map_cons,List.map_cons] at k
 exact ⟨(List.cons.inj k).1,r.get 0 p e rfl rfl,(List.cons.inj k).2,fun j x y a b=>r.get (j + 1) x y (by simpa using a) (by simpa using b)⟩
theorem l5.len {kvs:List (Key×V)}{es:List (Key×D)}(r:l5 K G kvs es):kvs.length=es.length:=by have:=congrArg List.length r.keys; simpa using this
theorem l5.ind {P:List (Key×V)→List (Key×D)→Prop}(h0:P [] [])(h1:∀ p e kvs es,p.1=e.1→Rep K G p.2 e.2→l5 K G kvs es→P kvs es→P (p::kvs) (e::es)):∀ {kvs:List (Key×V)} {es:List (Key×D)},l5 K G kvs es→P kvs es
 | [],[],_=>h0
 | [],_::_,r=>by have:=r.len; simp at this
 | _::_,[],r=>by have:=r.len; simp at this
 | p::kvs,e::es,r=>by
  obtain ⟨a,b,c⟩:=r.inv
  exact h1 p e kvs es a b c (l5.ind h0 h1 c)
theorem l5.val {kvs:List (Key×V)}{es:List (Key×D)}(r:l5 K G kvs es)(k:Key):(∀ d,J1 es k=some d→∃ v,a0X kvs k=some v∧Rep K G v d)∧(J1 es k=none→a0X kvs k=none):=by
 refine l5.ind (P:=fun kvs es=>(∀ d,J1 es k=some d→∃ v,a0X kvs k=some v∧Rep K G v d)∧(J1 es k=none→a0X kvs k=none)) ⟨fun d h=>by simp [J1] at h,fun _=>rfl⟩ (fun p e kvs es hk hr _ ih=>?_) r
 by_cases h:p.1=k
 ·have h':e.1=k:=by rw [← hk]; exact h
  refine ⟨fun d q=>⟨p.2,a1T h,?_⟩,fun q=>?_⟩
  ·simp [J1,List.find?_cons,h'] at q
   subst q
   exact hr
  ·simp [J1,List.find?_cons,h'] at q
 ·have h':¬ e.1=k:=by rw [← hk]; exact h
  have e1:J1 (e::es) k=J1 es k:=by simp [J1,List.find?_cons,h']
  rw [e1,a1S h]
  exact ih
theorem l5.append {kvs ks:List (Key×V)}{es fs:List (Key×D)}(r:l5 K G kvs es)(r2:l5 K G ks fs):l5 K G (kvs++ks) (es++fs):=
 l5.ind (P:=fun kvs es=>l5 K G (kvs++ks) (es++fs)) r2 (fun p e kvs es hk hr _ ih=>l5.cons hk hr ih) r
theorem l5.put {kvs:List (Key×V)}{es:List (Key×D)}{v:V}{d:D}(r:l5 K G kvs es)(k:Key)(h:Rep K G v d):l5 K G (putK kvs k v) (putD es k d):=by
 have e1:(kvs.any fun kv=>decide (kv.1=k))=(es.any fun kv=>decide (kv.1=k)):=l5.ind (P:=fun kvs es=>(kvs.any fun kv=>decide (kv.1=k))=(es.any fun kv=>decide (kv.1=k))) rfl (fun p e kvs es hk hr _ ih=>by rw [List.any_cons,List.any_cons,hk,ih]) r
 unfold putK putD
 rw [e1]
 split
 ·exact l5.ind (P:=fun kvs es=>l5 K G (kvs.map fun kv=>if kv.1=k then (kv.1,v) else kv) (es.map fun kv=>if kv.1=k then (kv.1,d) else kv)) .nil (fun p e kvs es hk hr _ ih=>by
   rw [List.map_cons,List.map_cons]
   by_cases hp:p.1=k
   ·rw [if_pos hp,if_pos (by rw [← hk]; exact hp)]
    exact l5.cons hk h ih
   ·rw [if_neg hp,if_neg (by rw [← hk]; exact hp)]
    exact l5.cons hk hr ih) r
 ·exact r.append (l5.cons (p:=(k,v)) (e:=(k,d)) rfl h .nil)
theorem a19 {K:PySem.W.Frag}{G H:Hp}{v:V}{d:D}{k:Key}(h:K9 K G H v d)(e:keyOf d=some k):v=kV k:=by
 cases d <;> first | (cases e; done) | skip
 ·cases e; exact h.int
 ·cases e; exact h.str
theorem v5.atI {xs:List V}{ds:List D}(h:v5 K G xs ds){i:Int}{d:D}(e:L2.atI ds i=some d):∃ x,L2.atI xs i=some x∧Rep K G x d:=by
 unfold L2.atI at e ⊢
 rw [h.len]
 cases hj:ixN ds.length i with
 | none=>rw [hj] at e; cases e
 | some j=>
  rw [hj] at e
  exact h.at e
end
theorem a5T {X:Cx}(hu:X.A.units + 8 < cLine):OpR X (compareOp .In) (fun x y H Q=>∃ a o,y=.ref a∧a0D H a x o∧Q (.bl o.isSome) H):=by
 intro pins s σ H x y v u Q I rx ry h
 obtain ⟨a,o,rfl,g,q⟩:=h
 cases ry
 exact b7P (by omega) I g rx fun s' I'=>⟨.bl _,H,I',rfl,q⟩
theorem a2C {X:Cx}(hu:X.A.units + 8 < cLine):OpR X (compareOp .NotIn) (fun x y H Q=>∃ a o,y=.ref a∧a0D H a x o∧Q (.bl (!o.isSome)) H):=by
 intro pins s σ H x y v u Q I rx ry h
 obtain ⟨a,o,rfl,g,q⟩:=h
 cases ry
 exact b3n (by omega) I g rx fun s' I'=>⟨.bl _,H,I',rfl,q⟩
noncomputable def b7N (a b:List Nat):Bool:=!(Builtin.Str.occurrences (tx b) (tx a) 0 (tx b).length 1).isEmpty
noncomputable def b0V:D→D→Option Bool
 | d,.lst ds=>inL d ds
 | d,.tup ds=>inL d ds
 | .str a,.str b=>some (b7N a b)
 | d,.dct es=>(keyOf d).map fun k=>(J1 es k).isSome
 | _,_=>none
noncomputable def inD (d e:D):Option W:=(b0V d e).bind vB
noncomputable def G7 (d e:D):Option W:=(b0V d e).bind fun b=>vB (!b)
section
variable {X:Cx}{B:Bs}{e a b c:Expr}{ma mb mc:M W}{pos:Pos}
theorem b00 {G H:Hp}{σ:St}{ρ:k9}{x y:V}{dx dy:D}{b:Bool}(R:RS B G H σ ρ)(hx:K9 B.K G H x dx)(hy:K9 B.K G H y dy)(e:b0V dx dy=some b):
  (∃ d ds p xs,Rep B.K H x d∧y=.ref p∧(L8 B.K H p xs∨W5 B.K H p xs)∧v5 B.K H xs ds∧inL d ds=some b)∨(∃ i j,x=.str i∧y=.str j∧b=(!(Builtin.Str.occurrences j i 0 j.length 1).isEmpty))∨(∃ a o,y=.ref a∧a0D H a x o∧b=o.isSome):=by
 cases dy with
 | lst ds=>
  obtain ⟨p,xs,rfl,h1,r1⟩:=hy.lst R.gH
  exact .inl ⟨dx,ds,p,xs,hx.rep R.gH,rfl,.inl h1,r1.same R.gH,by cases dx <;> exact e⟩
 | tup ds=>
  obtain ⟨p,xs,rfl,h1,r1⟩:=hy.tup R.gH
  exact .inl ⟨dx,ds,p,xs,hx.rep R.gH,rfl,.inr h1,r1.same R.gH,by cases dx <;> exact e⟩
 | dct es=>
  obtain ⟨p,kvs,rfl,h1,r1⟩:=hy.dct R.gH
  have e':(keyOf dx).map (fun k=>(J1 es k).isSome)=some b:=by cases dx <;> exact e
  cases hk:keyOf dx with
  | none=>rw [hk] at e'; cases e'
  | some k=>
   rw [hk] at e'
   cases e'
   have hv:=a19 hx hk
   subst hv
   refine .inr (.inr ⟨p,a0X kvs k,rfl,a0D.r h1,?_⟩)
   obtain ⟨c1,c2⟩:=r1.val k
   show (J1 es k).isSome=_
   cases hd:J1 es k with
   | none=>rw [c2 hd]; rfl
   | some d=>
    obtain ⟨v,q,_⟩:=c1 d hd
    rw [q]
    rfl
 | str cs=>
  cases dx <;> first | (cases e; done) | skip
  cases e
  exact .inr (.inl ⟨_,_,hx.str,hy.str,rfl⟩)
 | _=>cases dx <;> cases e
theorem a9u:a1j B (fun x y H Q=>(∃ d ds b p xs,Rep B.K H x d∧y=.ref p∧(L8 B.K H p xs∨W5 B.K H p xs)∧v5 B.K H xs ds∧inL d ds=some b∧Q (.bl b) H)∨(∃ i j,x=.str i∧y=.str j∧Q (.bl (!(Builtin.Str.occurrences j i 0 j.length 1).isEmpty)) H)∨(∃ a o,y=.ref a∧a0D H a x o∧Q (.bl o.isSome) H)) inD:=by
 intro G H σ ρ x y dx dy w Q R hx hy e p
 unfold inD at e
 cases hb:b0V dx dy with
 | none=>rw [hb] at e; cases e
 | some b=>
  rw [hb] at e
  cases e
  have fin:Q (.bl b) H:=p _ G H (j4.refl _) R (.bl _)
  rcases b00 R hx hy hb with ⟨d,ds,pp,xs,h1,h2,h3,h4,h5⟩ | ⟨i,j,h1,h2,h3⟩ | ⟨a,o,h1,h2,h3⟩
  ·exact .inl ⟨d,ds,b,pp,xs,h1,h2,h3,h4,h5,fin⟩
  ·exact .inr (.inl ⟨i,j,h1,h2,by rw [← h3]; exact fin⟩)
  ·exact .inr (.inr ⟨a,o,h1,h2,by rw [← h3]; exact fin⟩)
theorem a8b:a1j B (fun x y H Q=>(∃ d ds b p xs,Rep B.K H x d∧y=.ref p∧(L8 B.K H p xs∨W5 B.K H p xs)∧v5 B.K H xs ds∧inL d ds=some b∧Q (.bl (!b)) H)∨(∃ i j,x=.str i∧y=.str j∧Q (.bl (!(!(Builtin.Str.occurrences j i 0 j.length 1).isEmpty))) H)∨(∃ a o,y=.ref a∧a0D H a x o∧Q (.bl (!o.isSome)) H)) G7:=by
 intro G H σ ρ x y dx dy w Q R hx hy e p
 unfold G7 at e
 cases hb:b0V dx dy with
 | none=>rw [hb] at e; cases e
 | some b=>
  rw [hb] at e
  cases e
  have fin:Q (.bl (!b)) H:=p _ G H (j4.refl _) R (.bl _)
  rcases b00 R hx hy hb with ⟨d,ds,pp,xs,h1,h2,h3,h4,h5⟩ | ⟨i,j,h1,h2,h3⟩ | ⟨a,o,h1,h2,h3⟩
  ·exact .inl ⟨d,ds,b,pp,xs,h1,h2,h3,h4,h5,fin⟩
  ·exact .inr (.inl ⟨i,j,h1,h2,by rw [← h3]; exact fin⟩)
  ·exact .inr (.inr ⟨a,o,h1,h2,by rw [← h3]; exact fin⟩)
theorem b1M (hu:X.A.units + 8 < cLine)(ha:PD X B a ma)(hb:PD X B b mb)(hm:behindInMarks .In b=false:=by with_unfolding_all rfl)(hK:X.K=B.K:=by rfl):PD X B (.Compare a [.In] [b] pos) (f7 inD ma mb):=a6E (fun ξ=>(b2q (X:=rz X ξ) hK hu).or (a5n.or (a5T hu))) a9u ha hb hm
theorem b3d (hu:X.A.units + 8 < cLine)(ha:PD X B a ma)(hb:PD X B b mb)(hm:behindInMarks .In b=false:=by with_unfolding_all rfl)(hK:X.K=B.K:=by rfl):PDT X B (.Compare a [.In] [b] pos) (z6 (f7 inD ma mb)):=a07 (fun ξ=>(b2q (X:=rz X ξ) hK hu).or (a5n.or (a5T hu))) a9u ha hb hm
theorem a14 (hu:X.A.units + 8 < cLine)(ha:PD X B a ma)(hb:PD X B b mb)(hm:behindInMarks .NotIn b=false:=by with_unfolding_all rfl)(hK:X.K=B.K:=by rfl):PDT X B (.Compare a [.NotIn] [b] pos) (z6 (f7 G7 ma mb)):=a07 (fun ξ=>(b0K (X:=rz X ξ) hK hu).or (a5S.or (a2C hu))) a8b ha hb hm
end
noncomputable def a0a:D→Bool
 | .A3=>true
 | _=>false
section
variable {X:Cx}{B:Bs}{e a b c:Expr}{ma mb mc:M W}{pos:Pos}
theorem b20 {K:PySem.W.Frag}{G H:Hp}{v:V}{d:D}(h:K9 K G H v d):decide (v=.A3)=a0a d:=by
 cases d with
 | A3=>rw [h.A3]; rfl
 | _=>
  refine decide_eq_false ?_
  rintro rfl
  rcases h with h | ⟨p,e,_⟩
  ·cases h
  ·cases e
theorem a9W:b4i B (fun x H Q=>Q (.bl (!decide (x=.A3))) H) (fun d=>vB (!a0a d)):=by
 intro G H σ ρ x dx w Q R hx e p
 cases e
 rw [b20 hx]
 exact p _ G H (j4.refl _) R (.bl _)
theorem b1p {j pos'}(ha:PD X B a ma):PDT X B (.Compare a [.IsNot] [.Constant .none j pos'] pos) (z6 (mUn (fun d=>vB (!a0a d)) ma)):=.mk fun ξ=>(b5M (b37 (ha.ap ξ))).imp fun _ _ _ t=>b2Q a9W (b1B t)
end
noncomputable def b0I:D→Option Bool
 | .A3=>some false
 | .bl b=>some b
 | .int i=>some (i != 0)
 | .str cs=>V8 (small cs.length) (some ((cs.length:Int) != 0))
 | .lst ds=>some (!ds.isEmpty)
 | .tup ds=>some (!ds.isEmpty)
 | _=>none
noncomputable def C9 (m:M W):M Bool:=M.bind m fun w=>fun ρ=>match getD w ρ with
 | some d=>(b0I d).map (R'.ok · ρ)
 | none=>none
noncomputable def a50 (a b:M Bool):M Bool:=M.bind a fun k=>if k=true then b else M.pure false
noncomputable def mOr (a b:M Bool):M Bool:=M.bind a fun k=>if k=true then M.pure true else b
noncomputable def P4 (a:M Bool):M Bool:=M.bind a fun k=>M.pure (!k)
noncomputable def mBl (w:W):M Bool:=fun ρ=>match getD w ρ with
 | some (.bl b)=>some (.ok b ρ)
 | _=>none
noncomputable def a05 (a b:M W):M W:=M.bind a fun w=>M.bind (mBl w) fun k=>if k=true then b else mC (.bl false)
noncomputable def a8X (a:M W):M W:=M.bind a fun w=>M.bind (mBl w) fun k=>mC (.bl (!k))
theorem a25 {α β:Type}{xs:List α}{ys:List β}(h:xs.length=ys.length):xs.isEmpty=ys.isEmpty:=by
 cases xs <;> cases ys <;> simp_all
section
variable {X:Cx}{B:Bs}{e a b c:Expr}{ma mb mc:M W}{pos:Pos}{rest:List Expr}
theorem b21 {G H:Hp}{σ:St}{ρ:k9}{x:V}{d:D}{k:Bool}(R:RS B G H σ ρ)(h:K9 B.K G H x d)(e:b0I d=some k):b4e B.K x H k:=by
 cases d with
 | A3=>cases e; rw [h.A3]; rfl
 | bl b=>cases e; rw [h.bl]; rfl
 | int i=>cases e; rw [h.int]; rfl
 | str cs=>
  obtain ⟨z,e⟩:=l8 e
  cases e
  rw [h.str]
  exact ⟨by rw [a0R]; exact M9 z,by rw [a0R]⟩
 | lst ds=>
  cases e
  obtain ⟨p,xs,rfl,h1,r1⟩:=h.lst R.gH
  exact .inl ⟨xs,h1,by rw [a25 r1.len]⟩
 | tup ds=>
  cases e
  obtain ⟨p,xs,rfl,h1,r1⟩:=h.tup R.gH
  exact .inr (.inl ⟨xs,h1,by rw [a25 r1.len]⟩)
 | dct es=>cases e
 | ty n=>cases e
theorem N2 (ha:PD X B a ma)(he:∀ whole,isTrue a X.env whole=(do let v ← whole; standAt a.pos; holding [v] (truthy v)):=by exact fun _=>rfl)(hK:X.K=B.K:=by rfl):PDT X B a (C9 ma):=.mk fun ξ=>
 (b15 (X:=rz X ξ) (ha.ap ξ) he).imp fun σ H Q t=>by
  obtain ⟨G,ρ,R,t⟩:=t
  refine (TD.bind (rel:=D6) R t).mono fun x H1 ⟨G1,ρ1,w,s1,R1,q1,r,e,p⟩=>?_
  cases hd:getD w ρ1 with
  | none=>simp only [hd] at e; cases e
  | some d=>
   simp only [hd] at e
   cases hk:b0I d with
   | none=>rw [hk] at e; cases e
   | some k=>
    rw [hk] at e
    cases e
    refine ⟨k,?_,p k G1 H1 (j4.refl _) R1 rfl⟩
    show b4e X.K x H1 k
    rw [hK]
    exact b21 R1 (q1.get R1 hd) hk
theorem b4Z {ξ:XP}{m1 m2:M Bool}{σ:St}{H:Hp}{Q:Bool→Hp→Prop}(t:TD a0E B ξ (a50 m1 m2) σ H Q):b7l (TD a0E B ξ m1) (TD a0E B ξ m2) σ H Q:=by
 obtain ⟨G,ρ,R,t⟩:=t
 refine (TD.bind (rel:=a0E) R t).mono fun k H1 ⟨G1,ρ1,k',s1,R1,q1,t2⟩=>?_
 cases (show k=k' from q1)
 cases k with
 | true=>exact ⟨G1,ρ1,R1,t2⟩
 | false=>
  obtain ⟨r,e,p⟩:=t2
  cases e
  exact p false G1 H1 (j4.refl _) R1 rfl
theorem b6n {ξ:XP}{m1 m2:M Bool}{σ:St}{H:Hp}{Q:Bool→Hp→Prop}(t:TD a0E B ξ (mOr m1 m2) σ H Q):tOr (TD a0E B ξ m1) (TD a0E B ξ m2) σ H Q:=by
 obtain ⟨G,ρ,R,t⟩:=t
 refine (TD.bind (rel:=a0E) R t).mono fun k H1 ⟨G1,ρ1,k',s1,R1,q1,t2⟩=>?_
 cases (show k=k' from q1)
 cases k with
 | false=>exact ⟨G1,ρ1,R1,t2⟩
 | true=>
  obtain ⟨r,e,p⟩:=t2
  cases e
  exact p true G1 H1 (j4.refl _) R1 rfl
theorem a8p {m1:M Bool}(ha:PDT X B a m1):PDW X B (.BoolOp .And [a] pos) m1:=.mk fun ξ=>b3e (ha.ap ξ)
theorem a3i {m1:M Bool}(ha:PDT X B a m1):PDW X B (.BoolOp .Or [a] pos) m1:=.mk fun ξ=>b5q (ha.ap ξ)
theorem w_and {m1 m2:M Bool}(ha:PDT X B a m1)(hb:PDW X B (.BoolOp .And (b::rest) pos) m2):PDW X B (.BoolOp .And (a::b::rest) pos) (a50 m1 m2):=.mk fun ξ=>(b4G (ha.ap ξ) (hb.ap ξ)).imp fun _ _ _ t=>b4Z t
theorem w_or {m1 m2:M Bool}(ha:PDT X B a m1)(hb:PDW X B (.BoolOp .Or (b::rest) pos) m2):PDW X B (.BoolOp .Or (a::b::rest) pos) (mOr m1 m2):=.mk fun ξ=>(b6A (ha.ap ξ) (hb.ap ξ)).imp fun _ _ _ t=>b6n t
theorem a0u {m1:M Bool}(ha:PDT X B a m1):PDT X B (.UnaryOp .Not a pos) (P4 m1):=.mk fun ξ=>(b5C (ha.ap ξ)).imp fun σ H Q t=>by
 obtain ⟨G,ρ,R,t⟩:=t
 refine (TD.bind (rel:=a0E) R t).mono fun k H1 ⟨G1,ρ1,k',s1,R1,q1,r,e,p⟩=>?_
 cases (show k=k' from q1)
 cases e
 exact p (!k) G1 H1 (j4.refl _) R1 rfl
theorem a9B {ξ:XP}{α β:Type}{rel':Rel α β}{w:W}{f:Bool→M α}{G H:Hp}{ρ:k9}{σ:St}{Q:β→Hp→Prop}{x:V}(R:RS B G H σ ρ)(q:F9 B G H σ ρ x w)(t:Y8 rel' B ξ G ρ (M.bind (mBl w) f) σ Q):∃ k,x=.bl k∧Y8 rel' B ξ G ρ (f k) σ Q:=by
 obtain ⟨k,ρ',e,t⟩:=t.step fun r h=>by
  unfold mBl at h
  split at h
  ·cases h; exact ⟨_,_,rfl⟩
  ·cases h
 unfold mBl at e
 split at e
 ·rename_i b hd
  cases e
  exact ⟨k,(q.get R hd).bl,t⟩
 ·cases e
theorem b3t {ξ:XP}{σ:St}{H:Hp}{Q:VK}(t:TD D6 B ξ (a05 ma mb) σ H Q):b4q (TD D6 B ξ ma) (TD D6 B ξ mb) σ H Q:=by
 obtain ⟨G,ρ,R,t⟩:=t
 refine (TD.bind (rel:=D6) R t).mono fun x H1 ⟨G1,ρ1,w,s1,R1,q1,t2⟩=>?_
 obtain ⟨k,rfl,t3⟩:=a9B R1 q1 t2
 refine ⟨k,rfl,?_⟩
 cases k with
 | true=>exact ⟨G1,ρ1,R1,t3⟩
 | false=>
  obtain ⟨r,e,p⟩:=t3
  cases e
  exact p _ G1 H1 (j4.refl _) R1 (.bl _)
theorem a9F {op}(ha:PD X B a ma):PD X B (.BoolOp op [a] pos) ma:=.mk fun ξ=>b5o (ha.ap ξ)
theorem a8Z (ha:PD X B a ma)(hb:PD X B (.BoolOp .And (b::rest) pos) mb):PD X B (.BoolOp .And (a::b::rest) pos) (a05 ma mb):=.mk fun ξ=>(b5O (ha.ap ξ) (hb.ap ξ)).imp fun _ _ _ t=>b3t t
theorem b60 (ha:PD X B a ma):PD X B (.UnaryOp .Not a pos) (a8X ma):=.mk fun ξ=>(b5z (ha.ap ξ)).imp fun σ H Q t=>by
 obtain ⟨G,ρ,R,t⟩:=t
 refine (TD.bind (rel:=D6) R t).mono fun x H1 ⟨G1,ρ1,w,s1,R1,q1,t2⟩=>?_
 obtain ⟨k,rfl,r,e,p⟩:=a9B R1 q1 t2
 cases e
 exact ⟨k,rfl,p _ G1 H1 (j4.refl _) R1 (.bl _)⟩
end
end L3
set_option Elab.async false
set_option linter.all false
set_option maxRecDepth 100000
set_option maxHeartbeats 4000000
namespace L3
open PySem PySem.Spec PyProof.Rows L2
theorem b3o {X:Cx}(hu:X.A.units + 8 < cLine):IxR X (fun x y H Q=>∃ a v,x=.ref a∧a0D H a y (some v)∧Q v H):=by
 intro value slice pins s σ H x y v u Q I rx ry h hs
 obtain ⟨a,z,rfl,g,q⟩:=h
 cases rx
 exact tail_any (a7w I g) PySem.F.slot_dict_getitem.lookup (b0b (by omega) I g ry fun w' s' I' r'=>⟨z,H,I',r',q⟩) hs
noncomputable def v7:D→D→Option W
 | .lst ds,.int i=>(atI ds i).map W.val
 | .tup ds,.int i=>(atI ds i).map W.val
 | .str cs,.int i=>V8 (small cs.length) ((atI cs i).map fun c=>W.val (.str [c]))
 | .dct es,k=>(keyOf k).bind fun k=>(J1 es k).map W.val
 | _,_=>none
section
variable {X:Cx}{B:Bs}{e a b c:Expr}{ma mb mc:M W}{pos:Pos}
theorem b39:a1j B (fun x y H Q=>b5Y B.K x y H Q∨b5P B.K x y H Q∨b7g x y H Q∨∃ a v,x=.ref a∧a0D H a y (some v)∧Q v H) v7:=by
 intro G H σ ρ x y dx dy w Q R hx hy e p
 cases dx with
 | lst ds=>
  cases dy <;> first | (cases e; done) | skip
  obtain ⟨d,e1,rfl⟩:=Option.map_eq_some_iff.mp e
  obtain ⟨q,xs,rfl,h1,r1⟩:=hx.lst R.gH
  obtain ⟨v,e2,r2⟩:=r1.atI e1
  exact .inl ⟨q,xs,_,v,rfl,hy.int,h1,e2,p v G H (j4.refl _) R r2⟩
 | tup ds=>
  cases dy <;> first | (cases e; done) | skip
  obtain ⟨d,e1,rfl⟩:=Option.map_eq_some_iff.mp e
  obtain ⟨q,xs,rfl,h1,r1⟩:=hx.tup R.gH
  obtain ⟨v,e2,r2⟩:=r1.atI e1
  exact .inr (.inl ⟨q,xs,_,v,rfl,hy.int,h1,e2,p v G H (j4.refl _) R r2⟩)
 | str cs=>
  cases dy <;> first | (cases e; done) | skip
  obtain ⟨z,e⟩:=l8 e
  obtain ⟨c,e1,rfl⟩:=Option.map_eq_some_iff.mp e
  refine .inr (.inr (.inl ⟨tx cs,_,c,hx.str,hy.int,by rw [a0R]; exact M9 z,by simpa using e1,p _ G H (j4.refl _) R (.str [c])⟩))
 | dct es=>
  have e':(keyOf dy).bind (fun k=>(J1 es k).map W.val)=some w:=by cases dy <;> exact e
  cases hk:keyOf dy with
  | none=>rw [hk] at e'; cases e'
  | some k=>
   rw [hk] at e'
   obtain ⟨d,e1,rfl⟩:=Option.map_eq_some_iff.mp e'
   obtain ⟨q,kvs,rfl,h1,r1⟩:=hx.dct R.gH
   have hv:=a19 hy hk
   subst hv
   obtain ⟨v,e2,r2⟩:=(r1.val k).1 d e1
   refine .inr (.inr (.inr ⟨q,v,rfl,?_,p v G H (j4.refl _) R r2⟩))
   rw [← e2]
   exact a0D.r h1
 | _=>cases dy <;> cases e
theorem A2 (hu:X.A.units + 8 < cLine)(ha:PD X B a ma)(hb:PD X B b mb)(hs:a9k b:=by exact fun _ _=>rfl)(hK:X.K=B.K:=by rfl):PD X B (.Subscript a b pos) (f7 v7 ma mb):=.mk fun ξ=>
 (b7k (X:=rz X ξ) ((b1L (X:=rz X ξ) (K:=B.K) hK).or ((b4c (X:=rz X ξ) (K:=B.K) hK).or (b5l.or (b3o hu)))) (ha.ap ξ) (hb.ap ξ) hs).imp fun _ _ _ t=>a6b b39 t
end
noncomputable def b49:Rel (Option Int) (Option Int):=fun _ _ _ _ _ v b=>v=b
structure PDO (X:Cx) (B:Bs) (e:Option Expr) (m:M (Option Int)):Prop where
 ap:∀ ξ,PO (rz X ξ) e (TD b49 B ξ m)
noncomputable def a0A (m:M W):M (Option Int):=M.bind m fun w=>fun ρ=>match getD w ρ with
 | some (.int i)=>some (.ok (some i) ρ)
 | _=>none
noncomputable def cutD (ds:List D)(lo hi:Option Int):List D:=(ds.drop (HT.B8 ds.length 0 lo)).take (HT.B8 ds.length ds.length hi - HT.B8 ds.length 0 lo)
noncomputable def slD:D→Option Int→Option Int→Option W
 | .lst ds,lo,hi=>some (.own (.lst (cutD ds lo hi)))
 | .str cs,lo,hi=>V8 (small cs.length) (some (.val (.str (a6T cs lo hi))))
 | .tup ds,lo,hi=>some (.val (.tup (cutD ds lo hi)))
 | _,_,_=>none
noncomputable def mSl (ma:M W)(ml mh:M (Option Int)):M W:=M.bind (O3 ma) fun x=>M.bind ml fun lo=>M.bind mh fun hi=>op1 (fun d=>slD d lo hi) x
theorem b0z {P:Program}{w:World}{A:Around}{E:Value→Shared→Prop}{s:Shared}{t c:Addr}{its:Array Value}{v1 v2:Value}{lo hi:Option Int}{Q:Value→Shared→Prop}(it:IsTup s.heap t its)(is:s.heap.IsSliceOf c v1 v2 .none)(q1:IsPart v1 lo)(q2:IsPart v2 hi)
  (e1:HT.B8 its.size 0 lo=0) (e2:HT.B8 its.size its.size hi=its.size) (q:Q (.ref t) s):wpAny (model P w) A (getItem (.ref t) (.ref c)) Q E s:=by
 have hT:s.TypeIs (.ref c) "slice":=by obtain ⟨o,a1,a2,_⟩:=id is; exact ⟨o,a1,a2⟩
 unfold getItem
 (try with_reducible refine wpAny_holding ?_)
 (first | refine wpAny_bind (wpAny_pure ?_) | skip)
 refine wpAny_bind (wpAny_sequenceKey (T:="tuple") it.typeIs (by decide) ?_)
 refine wpAny_bind (wpAny_callSpecial?_slot (T:="tuple") (name:=Str.ofString "__getitem__") it.typeIs PyProof.Rows.slot_tuple_getitem (wpAny_call_entry (T:="tuple") PyProof.Rows.slot_tuple_getitem it.typeIs PyProof.Rows.entry_tuple_getitem ?_ (PyProof.Rows.args_tuple_getitem _ _)))
 show wpAny (model P w) _ (Builtin.Tuple.tupleItemsOf (.ref t) >>= _) _ _ s
 refine wpAny_bind (PyProof.Rows.tupleItemsOf_ it (wpAny_bind (wpAny_typeOf hT ?_)))
 rw [if_pos (by decide)]
 refine wpAny_bind (HT.Z1 is q1 q2 ?_)
 rw [e1,e2]
 have yes:((((0:Nat):Int) == 0 && (1:Int) == 1 && (its.size - 0) == its.size)=true):=by simp
 show wpAny (model P w) _ (if (((0:Nat):Int) == 0 && (1:Int) == 1 && (its.size - 0) == its.size)=true then _ else _) _ _ s
 rw [if_pos yes]
 obtain ⟨o,a1,a2,_⟩:=id it
 have hX:s.TypeIs (.ref t) "tuple":=⟨o,a1,a2⟩
 obtain ⟨hp,g,d,tk,os⟩:=s
 unfold Builtin.Tuple.tupleIsExact
 repeat (any_goals (first | assumption | wp_step))
 exact ⟨_,rfl,wpAny_pure q⟩
theorem b0Z {X:Cx}{K:PySem.W.Frag}(hK:X.K=K):SlR X (b6o K):=by subst hK; exact b3K
theorem b1u {X:Cx}{K:PySem.W.Frag}(hK:X.K=K):SlR X (fun x lo hi H Q=>∃ a xs,x=.ref a∧W5 K H a xs∧HT.B8 xs.length 0 lo=0∧HT.B8 xs.length xs.length hi=xs.length∧Q (.ref a) H):=by
 subst hK
 intro pins s σ H x v vl vu lo hi sl Q I rx hs pl pu h
 obtain ⟨a,xs,rfl,hx,e1,e2,q⟩:=h
 cases rx
 obtain ⟨its,r,ht,hz⟩:=I.tuple hx
 have hlen:its.toArray.size=xs.length:=by rw [List.size_toArray,r.length]
 exact ⟨"tuple",_,PyProof.Rows.slot_tuple_getitem.lookup,ht.typeIs,b0z ht hs pl pu (by rw [hlen]; exact e1) (by rw [hlen]; exact e2) ⟨.ref a,H,I,rfl,q⟩⟩
theorem b3s {X:Cx}{K:PySem.W.Frag}(hK:X.K=K):SlR X (b6j K):=by subst hK; exact b4L
section
variable {X:Cx}{B:Bs}{e a b c:Expr}{ma mb mc:M W}{pos p2:Pos}{lo hi:Option Expr}
theorem a6l:PDO X B none (M.pure none):=.mk fun ξ pins s σ H Q I h=>b3b pins s σ H Q I (by
 obtain ⟨G,ρ,R,r,e,p⟩:=h
 cases e
 exact p none G H (j4.refl _) R rfl)
theorem a6u (h:PD X B e ma):PDO X B (some e) (a0A ma):=.mk fun ξ pins s σ H Q I t=>b3W (h.ap ξ) pins s σ H Q I (by
 obtain ⟨G,ρ,R,t⟩:=t
 refine (TD.bind (rel:=D6) R t).mono fun x H1 ⟨G1,ρ1,w,s1,R1,q1,r,e,p⟩=>?_
 dsimp only at e
 split at e
 ·rename_i i hd
  cases e
  exact ⟨i,(q1.get R1 hd).int,p (some i) G1 H1 (j4.refl _) R1 rfl⟩
 ·cases e)
theorem b3C {ml mh:M (Option Int)}(ha:PD X B a ma)(hl:PDO X B lo ml)(hh:PDO X B hi mh)(hK:X.K=B.K:=by rfl):PD X B (.Subscript a (.Slice lo hi none p2) pos) (mSl ma ml mh):=.mk fun ξ=>
 (b1A (X:=rz X ξ) ((b0Z (X:=rz X ξ) (K:=B.K) hK).or (b5W.or ((b3s (X:=rz X ξ) (K:=B.K) hK).or (b1u (X:=rz X ξ) (K:=B.K) hK)))) (ha.ap ξ) (hl.ap ξ) (hh.ap ξ)).imp fun σ H Q t=>by
  obtain ⟨G,ρ,R,t⟩:=t
  have t1:TD a3q B ξ (O3 ma) σ H _:=TD.bind (rel:=a3q) R t
  refine TD.O3 (t1.mono fun x H1 ⟨G1,ρ1,wa,s1,R1,⟨q1,st1⟩,t2⟩=>?_)
  refine (TD.bind (rel:=b49) R1 t2).mono fun l H2 ⟨G2,ρ2,l',s2,R2,q2,t3⟩=>?_
  cases (show l=l' from q2)
  refine (TD.bind (rel:=b49) R2 t3).mono fun u H3 ⟨G3,ρ3,u',s3,R3,q3,t4⟩=>?_
  cases (show u=u' from q3)
  obtain ⟨dx,w,e1,e2,p⟩:=a81 t4
  have hx:=(q1.keep (s2.trans s3) st1:F9 B G3 H3 σ ρ3 x wa).get R3 e1
  cases dx with
  | lst ds=>
   cases e2
   obtain ⟨q,xs,rfl,h1,r1⟩:=hx.lst R3.gH
   refine .inl ⟨q,xs,rfl,h1,fun pp hp=>?_⟩
   have r2:v5 B.K G3 (a45 xs l u) (cutD ds l u):=by
    unfold a45 cutD
    rw [r1.len]
    exact (r1.drop _).take _
   obtain ⟨R',w'⟩:=R3.a2x hp r2
   exact p _ G3 _ (j4.refl _) R' w'
  | str cs=>
   obtain ⟨z,e2⟩:=l8 e2
   cases e2
   exact .inr (.inl ⟨cs,hx.str,z,p _ G3 H3 (j4.refl _) R3 (.str _)⟩)
  | tup ds=>
   cases e2
   have hrep:Rep B.K G3 x (.tup ds):=by
    rcases hx with h | ⟨_,_,hf⟩
    ·exact h
    ·exact (show False from hf).elim
   obtain ⟨q,xs,rfl,h1,r1⟩:=hx.tup R3.gH
   by_cases hw:HT.B8 xs.length 0 l=0∧HT.B8 xs.length xs.length u=xs.length
   ·have ec:cutD ds l u=ds:=by
     unfold cutD
     rw [← r1.len,hw.1,hw.2,List.drop_zero,List.take_of_length_le (by rw [r1.len]; omega)]
    rw [ec] at p
    exact .inr (.inr (.inr ⟨q,xs,rfl,h1,hw.1,hw.2,p _ G3 H3 (j4.refl _) R3 hrep⟩))
   ·refine .inr (.inr (.inl ⟨q,xs,rfl,h1,hw,fun pp hp=>?_⟩))
    have r2:v5 B.K G3 (a45 xs l u) (cutD ds l u):=by
     unfold a45 cutD
     rw [r1.len]
     exact (r1.drop _).take _
    obtain ⟨G',s',R',w'⟩:=R3.a58 hp r2
    exact p _ G' _ s' R' w'
  | _=>cases e2
end
noncomputable def g8:M (List W):=M.pure []
noncomputable def c6 (m:M W)(r:M (List W)):M (List W):=M.bind (O3 m) fun x=>M.bind r fun xs=>M.pure (x::xs)
section
variable {X:Cx}{B:Bs}{e a b c:Expr}{es:List Expr}{ma mb mc:M W}{mr:M (List W)}{pos p2:Pos}
theorem i8:PDA X B [] g8:=.mk fun ξ=>(b43 (X:=rz X ξ)).imp fun σ H Q t=>by
 obtain ⟨G,ρ,R,r,e,p⟩:=t
 cases e
 exact p [] G H (j4.refl _) R .nil
theorem a4A {G G' H H':Hp}{σ:St}{ρ ρ':k9}(s:j4 G G'):∀ {vs:List V} {ws:List W},N6 B G H σ ρ vs ws→N6 B G' H' σ ρ' vs ws
 | _,_,.nil=>.nil
 | _,_,.cons ⟨h,st⟩ t=>.cons ⟨h.keep s st,st⟩ (a4A s t)
theorem d7 (ha:PD X B e ma)(hr:PDA X B es mr)(hs:starEach (e::es) X.env=(false,eval e X.env)::starEach es X.env:=by rfl):PDA X B (e::es) (c6 ma mr):=.mk fun ξ=>
 (b3v (X:=rz X ξ) (ha.ap ξ) (hr.ap ξ) hs).imp fun σ H Q t=>by
  obtain ⟨G,ρ,R,t⟩:=t
  have t1:TD a3q B ξ (O3 ma) σ H _:=TD.bind (rel:=a3q) R t
  refine TD.O3 (t1.mono fun x H1 ⟨G1,ρ1,wa,s1,R1,⟨q1,st1⟩,t2⟩=>?_)
  refine (TD.bind (rel:=N6) R1 t2).mono fun xs H2 ⟨G2,ρ2,ws,s2,R2,q2,r,er,p⟩=>?_
  cases er
  exact p (x::xs) G2 H2 (j4.refl _) R2 (.cons ⟨q1.keep s2 st1,st1⟩ q2)
end
noncomputable def a0S:List W→M (List D)
 | []=>M.pure []
 | w::ws=>M.bind (C7 w) fun d=>M.bind (a0S ws) fun ds=>M.pure (d::ds)
noncomputable def F2 (m:M (List W)):M W:=M.bind m fun ws=>M.bind (a0S ws) fun ds ρ=>V8 (small ds.length) (some (.ok (.val (.tup ds)) ρ))
noncomputable def P1 (m:M (List W)):M W:=M.bind m fun ws=>M.bind (a0S ws) fun ds ρ=>V8 (small ds.length) (some (.ok (.own (.lst ds)) ρ))
section
variable {X:Cx}{B:Bs}{e a b c:Expr}{es:List Expr}{ma mb mc:M W}{mr:M (List W)}{pos p2:Pos}
theorem a12:∀ {ws:List W} {ρ:k9} {r:R' (List D)},a0S ws ρ=some r→∃ ds ρ',r=.ok ds ρ'
 | [],_,_,h=>by cases h; exact ⟨_,_,rfl⟩
 | w::ws,ρ,r,h=>by
  unfold a0S at h
  cases h1:C7 w ρ with
  | none=>rw [M.bind_none h1] at h; cases h
  | some r1=>
   obtain ⟨d,ρ1,rfl⟩:=W3 h1
   rw [M.i9 h1] at h
   cases h2:a0S ws ρ1 with
   | none=>rw [M.bind_none h2] at h; cases h
   | some r2=>
    obtain ⟨ds,ρ2,rfl⟩:=a12 h2
    rw [M.i9 h2] at h
    cases h
    exact ⟨_,_,rfl⟩
theorem a2y:∀ {ws:List W} {vs:List V} {G H:Hp} {σ:St} {ρ ρ':k9} {ds:List D},RS B G H σ ρ→N6 B G H σ ρ vs ws→a0S ws ρ=some (.ok ds ρ')→∃ G',j4 G G'∧RS B G' H σ ρ'∧v5 B.K G' vs ds
 | [],_,G,H,σ,ρ,ρ',ds,R,q,e=>by
  cases q
  cases e
  exact ⟨G,j4.refl _,R,.nil⟩
 | w::ws,_,G,H,σ,ρ,ρ',ds,R,q,e=>by
  cases q with
  | @cons v _ vs _ h1 t=>
   unfold a0S at e
   cases hl:C7 w ρ with
   | none=>rw [M.bind_none hl] at e; cases e
   | some r1=>
    obtain ⟨d,ρ1,rfl⟩:=W3 hl
    rw [M.i9 hl] at e
    cases hl2:a0S ws ρ1 with
    | none=>rw [M.bind_none hl2] at e; cases e
    | some r2=>
     obtain ⟨ds2,ρ2,rfl⟩:=a12 hl2
     rw [M.i9 hl2] at e
     cases e
     obtain ⟨G1,s1,R1,rp⟩:=h1.1.C7 R hl
     obtain ⟨G2,s2,R2,rl⟩:=a2y (ρ:=ρ1) R1 (a4A s1 t) hl2
     exact ⟨G2,s1.trans s2,R2,.cons (rp.same s2) rl⟩
theorem G9 {x1}(h:PDA X B es mr):PD X B (.Tuple es x1 pos) (F2 mr):=.mk fun ξ=>(b56 (h.ap ξ)).imp fun σ H Q t=>by
 obtain ⟨G,ρ,R,t⟩:=t
 refine (TD.bind (rel:=N6) R t).mono fun vs H1 ⟨G1,ρ1,ws,s1,R1,q1,t2⟩=>?_
 obtain ⟨ds,ρ2,e2,r,er,p⟩:=t2.step fun r h=>a12 h
 obtain ⟨hz,er⟩:=l8 er
 cases er
 obtain ⟨G2,s2,R2,rl⟩:=a2y R1 q1 e2
 refine ⟨by rw [rl.len]; exact M9 hz,fun pp hp=>?_⟩
 obtain ⟨G3,s3,R3,r3⟩:=R2.a58 hp rl
 exact p _ G3 _ (s2.trans s3) R3 r3
theorem T5 (h:PDA X B es mr):PD X B (.List es pos) (P1 mr):=.mk fun ξ=>(b46 (h.ap ξ)).imp fun σ H Q t=>by
 obtain ⟨G,ρ,R,t⟩:=t
 refine (TD.bind (rel:=N6) R t).mono fun vs H1 ⟨G1,ρ1,ws,s1,R1,q1,t2⟩=>?_
 obtain ⟨ds,ρ2,e2,r,er,p⟩:=t2.step fun r h=>a12 h
 obtain ⟨hz,er⟩:=l8 er
 cases er
 obtain ⟨G2,s2,R2,rl⟩:=a2y R1 q1 e2
 refine ⟨by rw [rl.len]; exact M9 hz,fun pp hp=>?_⟩
 obtain ⟨R3,r3⟩:=R2.a2x hp rl
 exact p _ G2 _ s2 R3 r3
noncomputable def a4x:M W:=M.pure (.own (.dct []))
theorem a8E:PD X B (.Dict [] [] pos) a4x:=.mk fun ξ=>(b14 (X:=rz X ξ)).imp fun σ H Q t=>by
 obtain ⟨G,ρ,R,r,e,p⟩:=t
 cases e
 intro pp hp
 obtain ⟨R3,r3⟩:=R.a8g hp .nil
 exact p _ G _ (j4.refl _) R3 r3
end
noncomputable def R7:List W→k9→Option (List D)
 | [],_=>some []
 | w::ws,ρ=>match getD w ρ,R7 ws ρ with
  | some d,some ds=>some (d::ds)
  | _,_=>none
noncomputable def opN (f:List D→Option W)(ws:List W):M W:=fun ρ=>match R7 ws ρ with
 | some ds=>(f ds).map (R'.ok · ρ)
 | none=>none
noncomputable def B7 (f:List D→Option W)(m:M (List W)):M W:=M.bind m fun ws=>opN f ws
noncomputable abbrev a7V (K:PySem.W.Frag)(G H:Hp):List V→List D→Prop:=Paired fun v d=>K9 K G H v d
noncomputable def a2U (B:Bs)(r:List V→Hp→VK→Prop)(f:List D→Option W):Prop:=∀ {G H:Hp} {σ:St} {ρ:k9} {xs:List V} {ds:List D} {w:W} {Q:VK},RS B G H σ ρ→a7V B.K G H xs ds→f ds=some w→
 (∀ v G' H',j4 G G'→RS B G' H' σ ρ→F9 B G' H' σ ρ v w→Q v H')→r xs H Q
theorem b3X {B:Bs}{ξ:XP}{f:List D→Option W}{ws:List W}{G:Hp}{ρ:k9}{σ:St}{Q:VK}(t:Y8 D6 B ξ G ρ (opN f ws) σ Q):∃ ds w,R7 ws ρ=some ds∧f ds=some w∧∀ v G' H',j4 G G'→RS B G' H' σ ρ→F9 B G' H' σ ρ v w→Q v H':=by
 obtain ⟨r,e,p⟩:=t
 unfold opN at e
 cases hx:R7 ws ρ with
 | none=>rw [hx] at e; cases e
 | some dx=>
  rw [hx] at e
  simp only [] at e
  cases hf:f dx with
  | none=>rw [hf] at e; cases e
  | some w=>
   rw [hf] at e
   cases e
   exact ⟨dx,w,rfl,hf,p⟩
theorem Z5 {B:Bs}{G H:Hp}{σ:St}{ρ:k9}(R:RS B G H σ ρ):∀ {ws:List W} {vs:List V} {ds:List D},N6 B G H σ ρ vs ws→R7 ws ρ=some ds→a7V B.K G H vs ds
 | [],_,ds,q,e=>by cases q; cases e; exact .nil
 | w::ws,_,ds,q,e=>by
  cases q with
  | cons h t=>
   unfold R7 at e
   cases h1:getD w ρ with
   | none=>rw [h1] at e; cases e
   | some d=>
    cases h2:R7 ws ρ with
    | none=>rw [h1,h2] at e; cases e
    | some ds2=>
     rw [h1,h2] at e
     cases e
     exact .cons (h.1.get R h1) (Z5 R t h2)
section
variable {X:Cx}{B:Bs}{e a b c:Expr}{es:List Expr}{ma mb mc:M W}{mr:M (List W)}{pos p:Pos}{x:Str}{id T:String}
theorem a9q {ξ:XP}{r:List V→Hp→VK→Prop}{f:List D→Option W}(hi:a2U B r f){σ:St}{H:Hp}{Q:VK}(t:TD D6 B ξ (B7 f mr) σ H Q):tCB r (TD N6 B ξ mr) σ H Q:=by
 obtain ⟨G,ρ,R,t⟩:=t
 refine (TD.bind (rel:=N6) R t).mono fun vs H1 ⟨G1,ρ1,ws,s1,R1,q1,t2⟩=>?_
 obtain ⟨ds,w,e1,e2,p⟩:=b3X t2
 exact hi R1 (Z5 R1 q1 e1) e2 p
theorem a2v {r:List V→Hp→VK→Prop}{f:List D→Option W}(hc:∀ ξ,K3 (rz X ξ) (.builtin id) r)(hi:a2U B r f)(hg:Gl X x)(hm:X.mg x=none)(hv:bootBuiltins x=some (.builtin id))(ha:PDA X B (e::es) mr)(hn:x≠"__name__":=by decide) (hdb:(x == ("__debug__":Str))=false:=by decide)
  (he:starEach (e::es) X.env=(false,eval e X.env)::starEach es X.env:=by rfl) (hpl:(backTo pos (starEach es X.env)).any (·.1)=false:=by rfl):PD X B (.Call (.Name x p) (e::es) [] pos) (B7 f mr):=.mk fun ξ=>
 (b2u (X:=rz X ξ) (hc ξ) hg hm hv (ha.ap ξ) hn hdb he hpl).imp fun _ _ _ t=>a9q hi t
theorem a4d {r:List V→Hp→VK→Prop}{f:List D→Option W}(hc:∀ ξ,K3 (rz X ξ) (.type T) r)(hi:a2U B r f)(hg:Gl X x)(hm:X.mg x=none)(hv:bootBuiltins x=some (.type T))(ha:PDA X B (e::es) mr)(hn:x≠"__name__":=by decide) (hdb:(x == ("__debug__":Str))=false:=by decide)
  (he:starEach (e::es) X.env=(false,eval e X.env)::starEach es X.env:=by rfl) (hpl:(backTo pos (starEach es X.env)).any (·.1)=false:=by rfl):PD X B (.Call (.Name x p) (e::es) [] pos) (B7 f mr):=.mk fun ξ=>
 (b0C (X:=rz X ξ) (hc ξ) hg hm hv (ha.ap ξ) hn hdb he hpl).imp fun _ _ _ t=>a9q hi t
end
noncomputable def V2:List D→Option W
 | [.lst ds]=>vI ds.length
 | [.tup ds]=>vI ds.length
 | [.str cs]=>V8 (small cs.length) (vI cs.length)
 | [.dct es]=>vI es.length
 | _=>none
noncomputable def S8:List D→Option W
 | [.int i]=>vI i.natAbs
 | _=>none
noncomputable def a0v:List D→Option W
 | [.lst ds]=>some (.own (.lst ds))
 | [.tup ds]=>some (.own (.lst ds))
 | [.dct es]=>some (.own (.lst (es.map fun e=>match e.1 with | .inl i=>D.int i | .inr x=>D.str x.cps.toList)))
 | _=>none
noncomputable def a0m:List D→Option W
 | [.lst ds]=>some (.val (.tup ds))
 | [.tup ds]=>some (.val (.tup ds))
 | _=>none
noncomputable def Z6:List D→Option (List Bool)
 | []=>some []
 | .bl b::ds=>(Z6 ds).map (b::·)
 | _=>none
noncomputable def a40:List D→Option W
 | [.lst ds]=>(Z6 ds).bind fun bs=>vB (bs.all id)
 | _=>none
noncomputable def a7G:List D→Option W
 | [.lst ds]=>(Z6 ds).bind fun bs=>vB (bs.any id)
 | _=>none
theorem a4C:∀ {ds:List D} {bs:List Bool},Z6 ds=some bs→ds=bs.map D.bl
 | [],_,h=>by cases h; rfl
 | .bl b::ds,bs,h=>by
  unfold Z6 at h
  obtain ⟨bs',e,rfl⟩:=Option.map_eq_some_iff.mp h
  rw [a4C e]
  rfl
 | .A3::_,_,h=>by cases h
 | .int _::_,_,h=>by cases h
 | .str _::_,_,h=>by cases h
 | .ty _::_,_,h=>by cases h
 | .tup _::_,_,h=>by cases h
 | .lst _::_,_,h=>by cases h
 | .dct _::_,_,h=>by cases h
theorem b1y {K:PySem.W.Frag}{G:Hp}:∀ {bs:List Bool} {xs:List V},v5 K G xs (bs.map D.bl)→xs=bs.map V.bl
 | [],[],_=>rfl
 | [],_::_,r=>by have:=r.len; simp at this
 | _::_,[],r=>by have:=r.len; simp at this
 | b::bs,x::xs,r=>by
  have h:=r.head
  cases h
  rw [b1y r.tail]
  rfl
section
variable {X:Cx}{B:Bs}{e a b c:Expr}{es:List Expr}{ma mb mc:M W}{mr:M (List W)}{pos p:Pos}
theorem I9 {K:PySem.W.Frag}{G H:Hp}{xs:List V}{d:D}(h:a7V K G H xs [d]):∃ x,xs=[x]∧K9 K G H x d:=by
 cases h with
 | cons h t=>cases t; exact ⟨_,rfl,h⟩
theorem b1v {K:PySem.W.Frag}{G H:Hp}{xs:List V}{d d':D}(h:a7V K G H xs [d,d']):∃ x y,xs=[x,y]∧K9 K G H x d∧K9 K G H y d':=by
 cases h with
 | cons h t=>
  obtain ⟨y,rfl,h2⟩:=I9 t
  exact ⟨_,y,rfl,h,h2⟩
theorem a8i:∀ {X:Cx},K3 X (.builtin "len") (fun xs H Q=>∃ a kvs,xs=[V.ref a]∧Rd H a (.dK kvs)∧Q (.int kvs.length) H):=by
 intro X pins s σ H xs us Q I r h
 obtain ⟨a,kvs,rfl,ha,q⟩:=h
 obtain ⟨u,rfl,ru⟩:=vals1 r
 cases ru
 exact L2.a0Q I ha fun t s' I'=>⟨.int kvs.length,H,I',⟨t,rfl⟩,q⟩
theorem b1U:a2U B (fun xs H Q=>(∃ p ys,xs=[.ref p]∧(L8 B.K H p ys∨W5 B.K H p ys)∧Q (.int ys.length) H)∨(∃ z,xs=[.str z]∧z.length≤sizeLine∧Q (.int z.length) H)∨∃ a kvs,xs=[V.ref a]∧Rd H a (.dK kvs)∧Q (.int kvs.length) H) V2:=by
 intro G H σ ρ xs ds w Q R h e p
 match ds,e with
 | [.lst ds],e=>
  cases e
  obtain ⟨x,rfl,hx⟩:=I9 h
  obtain ⟨q,ys,rfl,h1,r1⟩:=hx.lst R.gH
  exact .inl ⟨q,ys,rfl,.inl h1,by rw [r1.len]; exact p _ G H (j4.refl _) R (.int _)⟩
 | [.tup ds],e=>
  cases e
  obtain ⟨x,rfl,hx⟩:=I9 h
  obtain ⟨q,ys,rfl,h1,r1⟩:=hx.tup R.gH
  exact .inl ⟨q,ys,rfl,.inr h1,by rw [r1.len]; exact p _ G H (j4.refl _) R (.int _)⟩
 | [.str cs],e=>
  obtain ⟨z,e⟩:=l8 e
  cases e
  obtain ⟨x,rfl,hx⟩:=I9 h
  exact .inr (.inl ⟨tx cs,by rw [hx.str],by rw [a0R]; exact M9 z,by rw [a0R]; exact p _ G H (j4.refl _) R (.int _)⟩)
 | [.dct es],e=>
  cases e
  obtain ⟨x,rfl,hx⟩:=I9 h
  obtain ⟨q,ys,rfl,h1,r1⟩:=hx.dct R.gH
  exact .inr (.inr ⟨q,ys,rfl,h1,by rw [r1.len]; exact p _ G H (j4.refl _) R (.int _)⟩)
theorem a0Q (hm:X.mg "len"=none) (ha:PDA X B [e] mr) (hg:Gl X "len":=by rfl) (hK:X.K=B.K:=by rfl) (he:starEach [e] X.env=(false,eval e X.env)::starEach [] X.env:=by rfl) (hpl:(backTo pos (starEach [] X.env)).any (·.1)=false:=by rfl):PD X B (.Call (.Name "len" p) [e] [] pos) (B7 V2 mr):=
 a2v (fun ξ=>(a90 (X:=rz X ξ) (K:=B.K) hK).or (a6Q.or a8i)) b1U hg hm PySem.boot_len ha (by decide) (by decide) he hpl
theorem b1X:a2U B (fun xs H Q=>∃ i,xs=[.int i]∧Q (.int (if i < 0 then -i else i)) H) S8:=by
 intro G H σ ρ xs ds w Q R h e p
 match ds,e with
 | [.int i],e=>
  cases e
  obtain ⟨x,rfl,hx⟩:=I9 h
  refine ⟨i,by rw [hx.int],?_⟩
  have ea:(if i < 0 then -i else i)=((i.natAbs:Nat):Int):=by split <;> omega
  rw [ea]
  exact p _ G H (j4.refl _) R (.int _)
theorem a2n (hm:X.mg "abs"=none) (ha:PDA X B [e] mr) (hg:Gl X "abs":=by rfl) (he:starEach [e] X.env=(false,eval e X.env)::starEach [] X.env:=by rfl) (hpl:(backTo pos (starEach [] X.env)).any (·.1)=false:=by rfl):PD X B (.Call (.Name "abs" p) [e] [] pos) (B7 S8 mr):=
 a2v (fun ξ=>b2b) b1X hg hm PyProof.Rows.boot_abs ha (by decide) (by decide) he hpl
theorem a42 {X:Cx}{K:PySem.W.Frag}(hK:X.K=K):K3 X (.type "list") (fun xs H Q=>∃ p ys,xs=[.ref p]∧(L8 K H p ys∨W5 K H p ys)∧∀ l,H l=none→Q (.ref l) (upd H l (.lst ys))):=by subst hK; exact a6o
theorem a4I {X:Cx}{K:PySem.W.Frag}(hK:X.K=K):K3 X (.type "tuple") (fun xs H Q=>∃ p ys,xs=[.ref p]∧((L8 K H p ys∧∀ l,H l=none→Q (.ref l) (upd H l (.tup ys)))∨(W5 K H p ys∧Q (.ref p) H))):=by subst hK; exact a46
theorem b2M {K:PySem.W.Frag}{G:Hp}{kvs:List (Key×V)}{es:List (Key×D)}(r:l5 K G kvs es):v5 K G (kvs.map fun kv=>kV kv.1) (es.map fun e=>match e.1 with | .inl i=>D.int i | .inr x=>D.str x.cps.toList):=by
 refine l5.ind (P:=fun kvs es=>v5 K G (kvs.map fun kv=>kV kv.1) (es.map fun e=>match e.1 with | .inl i=>D.int i | .inr x=>D.str x.cps.toList)) .nil (fun p e kvs es hk hr _ ih=>?_) r
 rw [List.map_cons,List.map_cons]
 refine .cons ?_ ih
 rw [hk]
 cases e.1 with
 | inl i=>exact .int i
 | inr x=>exact a6z x
theorem b0G:a2U B (fun xs H Q=>(∃ p ys,xs=[.ref p]∧(L8 B.K H p ys∨W5 B.K H p ys)∧∀ l,H l=none→Q (.ref l) (upd H l (.lst ys)))∨∃ a kvs,xs=[.ref a]∧Rd H a (.dK kvs)∧∀ p,H p=none→Q (.ref p) (upd H p (.lst (kvs.map fun kv=>kV kv.1)))) a0v:=by
 intro G H σ ρ xs ds w Q R h e p
 match ds,e with
 | [.lst ds],e=>
  cases e
  obtain ⟨x,rfl,hx⟩:=I9 h
  obtain ⟨q,ys,rfl,h1,r1⟩:=hx.lst R.gH
  refine .inl ⟨q,ys,rfl,.inl h1,fun l hl=>?_⟩
  obtain ⟨R',w'⟩:=R.a2x hl r1
  exact p _ G _ (j4.refl _) R' w'
 | [.tup ds],e=>
  cases e
  obtain ⟨x,rfl,hx⟩:=I9 h
  obtain ⟨q,ys,rfl,h1,r1⟩:=hx.tup R.gH
  refine .inl ⟨q,ys,rfl,.inr h1,fun l hl=>?_⟩
  obtain ⟨R',w'⟩:=R.a2x hl r1
  exact p _ G _ (j4.refl _) R' w'
 | [.dct es],e=>
  cases e
  obtain ⟨x,rfl,hx⟩:=I9 h
  obtain ⟨q,ys,rfl,h1,r1⟩:=hx.dct R.gH
  refine .inr ⟨q,ys,rfl,h1,fun l hl=>?_⟩
  obtain ⟨R',w'⟩:=R.a2x hl (b2M r1)
  exact p _ G _ (j4.refl _) R' w'
theorem a54 (hc:X.calm=true)(hm:X.mg "list"=none) (ha:PDA X B [e] mr) (hg:Gl X "list":=by rfl) (hK:X.K=B.K:=by rfl) (he:starEach [e] X.env=(false,eval e X.env)::starEach [] X.env:=by rfl) (hpl:(backTo pos (starEach [] X.env)).any (·.1)=false:=by rfl):PD X B (.Call (.Name "list" p) [e] [] pos) (B7 a0v mr):=
 a4d (fun ξ=>(a42 (X:=rz X ξ) (K:=B.K) hK).or (a4u hc)) b0G hg hm PyProof.Rows.boot_list ha (by decide) (by decide) he hpl
theorem a8S:a2U B (fun xs H Q=>∃ p ys,xs=[.ref p]∧((L8 B.K H p ys∧∀ l,H l=none→Q (.ref l) (upd H l (.tup ys)))∨(W5 B.K H p ys∧Q (.ref p) H))) a0m:=by
 intro G H σ ρ xs ds w Q R h e p
 match ds,e with
 | [.lst ds],e=>
  cases e
  obtain ⟨x,rfl,hx⟩:=I9 h
  obtain ⟨q,ys,rfl,h1,r1⟩:=hx.lst R.gH
  refine ⟨q,ys,rfl,.inl ⟨h1,fun l hl=>?_⟩⟩
  obtain ⟨G',s',R',w'⟩:=R.a58 hl r1
  exact p _ G' _ s' R' w'
 | [.tup ds],e=>
  cases e
  obtain ⟨x,rfl,hx⟩:=I9 h
  have hx':=hx
  rcases hx with hx | ⟨_,_,hf⟩
  ·cases hx with
   | tup h1 l1 r1=>exact ⟨_,_,rfl,.inr ⟨R.gH.tup h1,p _ G H (j4.refl _) R (.tup h1 l1 r1)⟩⟩
  ·exact (show False from hf).elim
theorem a1W (hm:X.mg "tuple"=none) (ha:PDA X B [e] mr) (hg:Gl X "tuple":=by rfl) (hK:X.K=B.K:=by rfl) (he:starEach [e] X.env=(false,eval e X.env)::starEach [] X.env:=by rfl) (hpl:(backTo pos (starEach [] X.env)).any (·.1)=false:=by rfl):PD X B (.Call (.Name "tuple" p) [e] [] pos) (B7 a0m mr):=
 a4d (fun ξ=>a4I (X:=rz X ξ) (K:=B.K) hK) a8S hg hm PyProof.Rows.boot_tuple ha (by decide) (by decide) he hpl
theorem b1w:a2U B (fun xs H Q=>∃ (p:Addr) (bs:List Bool),xs=[.ref p]∧L8 B.K H p (bs.map V.bl)∧Q (.bl (bs.all id)) H) a40:=by
 intro G H σ ρ xs ds w Q R h e p
 match ds,e with
 | [.lst ds],e=>
  obtain ⟨x,rfl,hx⟩:=I9 h
  have e:(Z6 ds).bind (fun bs=>vB (bs.all id))=some w:=e
  cases hb:Z6 ds with
  | none=>rw [hb] at e; cases e
  | some bs=>
   rw [hb] at e
   cases e
   rw [a4C hb] at hx
   obtain ⟨q,ys,rfl,h1,r1⟩:=hx.lst R.gH
   rw [b1y r1] at h1
   exact ⟨q,bs,rfl,h1,p _ G H (j4.refl _) R (.bl _)⟩
theorem b1V:a2U B (fun xs H Q=>∃ (p:Addr) (bs:List Bool),xs=[.ref p]∧L8 B.K H p (bs.map V.bl)∧Q (.bl (bs.any id)) H) a7G:=by
 intro G H σ ρ xs ds w Q R h e p
 match ds,e with
 | [.lst ds],e=>
  obtain ⟨x,rfl,hx⟩:=I9 h
  have e:(Z6 ds).bind (fun bs=>vB (bs.any id))=some w:=e
  cases hb:Z6 ds with
  | none=>rw [hb] at e; cases e
  | some bs=>
   rw [hb] at e
   cases e
   rw [a4C hb] at hx
   obtain ⟨q,ys,rfl,h1,r1⟩:=hx.lst R.gH
   rw [b1y r1] at h1
   exact ⟨q,bs,rfl,h1,p _ G H (j4.refl _) R (.bl _)⟩
theorem a88 (hc:X.calm=true)(hm:X.mg "all"=none) (ha:PDA X B [e] mr) (hg:Gl X "all":=by rfl) (hK:X.K=B.K:=by rfl) (he:starEach [e] X.env=(false,eval e X.env)::starEach [] X.env:=by rfl) (hpl:(backTo pos (starEach [] X.env)).any (·.1)=false:=by rfl):PD X B (.Call (.Name "all" p) [e] [] pos) (B7 a40 mr):=
 a2v (fun ξ=>b0H (X:=rz X ξ) (K:=B.K) hK hc) b1w hg hm PyProof.Rows.boot_all ha (by decide) (by decide) he hpl
theorem b1l (hc:X.calm=true)(hm:X.mg "any"=none) (ha:PDA X B [e] mr) (hg:Gl X "any":=by rfl) (hK:X.K=B.K:=by rfl) (he:starEach [e] X.env=(false,eval e X.env)::starEach [] X.env:=by rfl) (hpl:(backTo pos (starEach [] X.env)).any (·.1)=false:=by rfl):PD X B (.Call (.Name "any" p) [e] [] pos) (B7 a7G mr):=
 a2v (fun ξ=>b0n (X:=rz X ξ) (K:=B.K) hK hc) b1V hg hm PyProof.Rows.boot_any ha (by decide) (by decide) he hpl
end
end L3
set_option Elab.async false
set_option linter.all false
set_option maxRecDepth 100000
set_option maxHeartbeats 4000000
namespace L3
open PySem PySem.Spec PyProof.Rows L2
inductive SR where
 | nx (ρ:k9) | rt (w:W) (ρ:k9) | bk (ρ:k9) | ct (ρ:k9) | ex (x:Exn) (ρ:k9)
noncomputable abbrev SM:=k9→Option SR
noncomputable def a3e (B:Bs)(ξ:XP)(G:Hp)(Dn:Ends):SR→Prop
 | .nx ρ'=>∀ σ' G' H',j4 G G'→RS B G' H' σ' ρ'→Dn.nx σ' H'
 | .bk ρ'=>∀ σ' G' H',j4 G G'→RS B G' H' σ' ρ'→Dn.bk σ' H'
 | .ct ρ'=>∀ σ' G' H',j4 G G'→RS B G' H' σ' ρ'→Dn.ct σ' H'
 | .rt w ρ'=>∀ v σ' G' H',j4 G G'→RS B G' H' σ' ρ'→F9 B G' H' σ' ρ' v w→Dn.rt v H'
 | .ex x ρ'=>∀ σ' G' H',j4 G G'→RS B G' H' σ' ρ'→ξ x σ' H'
noncomputable def a6m (B:Bs)(ξ:XP)(G:Hp)(ρ:k9)(m:SM)(Dn:Ends):Prop:=∃ r,m ρ=some r∧a3e B ξ G Dn r
noncomputable def SD (B:Bs)(ξ:XP)(m:SM):TS:=fun Dn σ H=>∃ G ρ,RS B G H σ ρ∧a6m B ξ G ρ m Dn
structure PSD (X:Cx) (B:Bs) (st:Stmt) (m:SM):Prop where
 ap:∀ ξ,PS (rz X ξ) st (SD B ξ m)
structure a4T (X:Cx) (B:Bs) (st:List Stmt) (m:SM):Prop where
 ap:∀ ξ,PSs (rz X ξ) st (SD B ξ m)
section
variable {X:Cx}{B:Bs}{ξ:XP}{G G' H:Hp}{σ:St}{ρ:k9}{Dn:Ends}{st:Stmt}{rest:List Stmt}{m1 m2:SM}{e c:Expr}{me:M W}{pos:Pos}
theorem a3e.same {r:SR}(s:j4 G G')(h:a3e B ξ G Dn r):a3e B ξ G' Dn r:=by
 cases r with
 | nx ρ'=>exact fun σ2 G2 H2 s2=>h σ2 G2 H2 (s.trans s2)
 | bk ρ'=>exact fun σ2 G2 H2 s2=>h σ2 G2 H2 (s.trans s2)
 | ct ρ'=>exact fun σ2 G2 H2 s2=>h σ2 G2 H2 (s.trans s2)
 | rt w ρ'=>exact fun v σ2 G2 H2 s2=>h v σ2 G2 H2 (s.trans s2)
 | ex x ρ'=>exact fun σ2 G2 H2 s2=>h σ2 G2 H2 (s.trans s2)
noncomputable def l6 (m1 m2:SM):SM:=fun ρ=>match m1 ρ with
 | some (.nx ρ')=>m2 ρ'
 | r=>r
theorem b3E {m1 m2:SM}{ρ ρ':k9}(h:m1 ρ=some (.nx ρ')):l6 m1 m2 ρ=m2 ρ':=by unfold l6; rw [h]
noncomputable def nxS:SM:=fun ρ=>some (.nx ρ)
theorem F4:a4T X B [] nxS:=.mk fun ξ=>(b32 (X:=rz X ξ)).imp fun Dn σ H t=>by
 obtain ⟨G,ρ,R,r,e,p⟩:=t
 cases e
 exact p σ G H (j4.refl _) R
theorem j5 (h1:PSD X B st m1)(h2:a4T X B rest m2):a4T X B (st::rest) (l6 m1 m2):=.mk fun ξ=>(b04 (h1.ap ξ) (h2.ap ξ)).imp fun Dn σ H t=>by
 obtain ⟨G,ρ,R,r,e,p⟩:=t
 unfold l6 at e
 cases h:m1 ρ with
 | none=>rw [h] at e; cases e
 | some r1=>
  rw [h] at e
  refine ⟨G,ρ,R,r1,h,?_⟩
  cases r1 with
  | nx ρ1=>exact fun σ' G' H' s R'=>⟨G',ρ1,R',r,e,p.same s⟩
  | bk ρ1=>cases e; exact p
  | ct ρ1=>cases e; exact p
  | rt w ρ1=>cases e; exact p
  | ex x ρ1=>cases e; exact p
theorem m6 (h1:PSD X B st m1):a4T X B [st] m1:=.mk fun ξ=>b3a (h1.ap ξ)
noncomputable def N4 {α:Type}(m:M α)(f:α→SM):SM:=fun ρ=>match m ρ with
 | none=>none
 | some (.ex x ρ')=>some (.ex x ρ')
 | some (.ok a ρ')=>f a ρ'
theorem F0 {α:Type}{m:M α}{f:α→SM}{ρ ρ':k9}{a:α}(h:m ρ=some (.ok a ρ')):N4 m f ρ=f a ρ':=by unfold N4; rw [h]
theorem SD.step {α β:Type}{rel:Rel α β}{m:M α}{f:α→SM}(R:RS B G H σ ρ)(t:a6m B ξ G ρ (N4 m f) Dn):TD rel B ξ m σ H (fun v H1=>∃ G1 ρ1 a,j4 G G1∧RS B G1 H1 σ ρ1∧rel B G1 H1 σ ρ1 v a∧a6m B ξ G1 ρ1 (f a) Dn):=by
 obtain ⟨r,e,p⟩:=t
 unfold N4 at e
 cases hm:m ρ with
 | none=>rw [hm] at e; cases e
 | some r1=>
  rw [hm] at e
  cases r1 with
  | ex x ρ1=>
   cases e
   exact ⟨G,ρ,R,_,hm,fun G' H' s R'=>p σ G' H' s R'⟩
  | ok a ρ1=>exact ⟨G,ρ,R,_,hm,fun v G1 H1 s R1 q=>⟨G1,ρ1,a,s,R1,q,r,e,p.same s⟩⟩
theorem SD.b6U {α β:Type}{rel:Rel α β}{m:M α}{f:α→SM}(R:RS B G H σ ρ)(t:a6m B ξ G ρ (N4 m f) Dn):TD rel B ξ m σ H (fun v H1=>∃ G1 ρ1 a,m ρ=some (.ok a ρ1)∧j4 G G1∧RS B G1 H1 σ ρ1∧rel B G1 H1 σ ρ1 v a∧a6m B ξ G1 ρ1 (f a) Dn):=by
 obtain ⟨r,e,p⟩:=t
 unfold N4 at e
 cases hm:m ρ with
 | none=>rw [hm] at e; cases e
 | some r1=>
  rw [hm] at e
  cases r1 with
  | ex x ρ1=>
   cases e
   exact ⟨G,ρ,R,_,hm,fun G' H' s R'=>p σ G' H' s R'⟩
  | ok a ρ1=>exact ⟨G,ρ,R,_,hm,fun v G1 H1 s R1 q=>⟨G1,ρ1,a,rfl,s,R1,q,r,e,p.same s⟩⟩
noncomputable def L5 (m:M W):SM:=N4 m fun _=>nxS
theorem Y4 (he:PD X B e me)(hs:swapsWith e none pos.line X.env=pure false:=by rfl):PSD X B (.Expr e pos) (L5 me):=.mk fun ξ=>(b3x (X:=rz X ξ) (he.ap ξ) hs).imp fun Dn σ H t=>by
 obtain ⟨G,ρ,R,t⟩:=t
 refine (SD.step (rel:=D6) R t).mono fun v H1 ⟨G1,ρ1,a,s1,R1,q1,r,e,p⟩=>?_
 cases e
 exact p σ G1 H1 (j4.refl _) R1
noncomputable def b4V (w:W):SM:=fun ρ=>match w with
 | .val d=>some (.rt (.val d) ρ)
 | .own d=>some (.rt (.own d) ρ)
 | .slot i=>match ρ[i]? with
  | some (some (.sh d))=>some (.rt (.val d) ρ)
  | some (some (.ow false d))=>some (.rt (.own d) (ρ.set i none))
  | _=>none
noncomputable def retS (m:M W):SM:=N4 m b4V
theorem RS.forget {i:Nat}(R:RS B G H σ ρ):RS B G H σ (ρ.set i none):=by
 by_cases hi:i < ρ.length
 ·refine ⟨R.hk,R.keep,R.g0,R.gH,R.gnew,R.dom,by simp [R.len],fun j d' q'=>?_,fun j l d' q'=>?_,fun j k l d' l' e' p' a b=>?_,R.fz.b3G (by intro _ h; cases h)⟩
  ·by_cases z:i=j
   ·subst z; rw [List.getElem?_set_self hi] at q'; cases q'
   ·rw [List.getElem?_set_ne z] at q'; exact R.sh j d' q'
  ·by_cases z:i=j
   ·subst z; rw [List.getElem?_set_self hi] at q'; cases q'
   ·rw [List.getElem?_set_ne z] at q'; exact R.ow j l d' q'
  ·by_cases z:i=j
   ·subst z; rw [List.getElem?_set_self hi] at a; cases a
   ·by_cases z':i=k
    ·subst z'; rw [List.getElem?_set_self hi] at b; cases b
    ·rw [List.getElem?_set_ne z] at a
     rw [List.getElem?_set_ne z'] at b
     exact R.inj j k l d' l' e' p' a b
 ·rw [List.set_eq_of_length_le (by omega)]
  exact R
theorem B0 (he:PD X B e me):PSD X B (.Return (some e) pos) (retS me):=.mk fun ξ=>(b5x (he.ap ξ)).imp fun Dn σ H t=>by
 obtain ⟨G,ρ,R,t⟩:=t
 refine (SD.step (rel:=D6) R t).mono fun v H1 ⟨G1,ρ1,w,s1,R1,q1,r,e,p⟩=>?_
 unfold b4V at e
 cases w with
 | val d=>cases e; exact p v σ G1 H1 (j4.refl _) R1 q1
 | own d=>cases e; exact p v σ G1 H1 (j4.refl _) R1 q1
 | slot i=>
  have h':σ[i]?=some (some v):=q1
  simp only [] at e
  split at e
  ·rename_i d' q
   cases e
   obtain ⟨v',q1,r⟩:=R1.sh i _ q
   rw [h'] at q1
   cases q1
   exact p v σ G1 H1 (j4.refl _) R1 r
  ·rename_i d' q
   cases e
   obtain ⟨pp,q1,q2,q3,q4,o⟩:=R1.ow i _ _ q
   have hi:i < ρ1.length:=(List.getElem?_eq_some_iff.mp q).1
   rw [h'] at q1
   cases q1
   refine p _ σ G1 H1 (j4.refl _) R1.forget ⟨pp,rfl,q2,q4,o,fun j l e' q' z=>?_⟩
   by_cases zz:i=j
   ·subst zz; rw [List.getElem?_set_self hi] at q'; cases q'
   ·rw [List.getElem?_set_ne zz] at q'
    exact zz (R1.inj i j _ _ _ _ pp q q' h' z)
  ·cases e
noncomputable def Y5 (c:M Bool)(a b:SM):SM:=N4 c fun k=>if k=true then a else b
theorem O6 {mc:M Bool}{a b:List Stmt}(hc:PDT X B c mc)(ha:a4T X B a m1)(hb:a4T X B b m2):PSD X B (.If c a b pos) (Y5 mc m1 m2):=.mk fun ξ=>(b6T (hc.ap ξ) (ha.ap ξ) (hb.ap ξ)).imp fun Dn σ H t=>by
 obtain ⟨G,ρ,R,t⟩:=t
 refine (SD.step (rel:=a0E) R t).mono fun k H1 ⟨G1,ρ1,k',s1,R1,q1,t2⟩=>?_
 cases (show k=k' from q1)
 cases k with
 | true=>exact ⟨G1,ρ1,R1,t2⟩
 | false=>exact ⟨G1,ρ1,R1,t2⟩
theorem RS.a9r {i:Nat}{v:V}{d:D}(R:RS B G H σ ρ)(hi:i < ρ.length)(h:Rep B.K G v d):RS B G H (σ.set i (some v)) (ρ.set i (some (.sh d))):=by
 have hs:i < σ.length:=by rw [R.len]; exact hi
 refine ⟨R.hk,R.keep,R.g0,R.gH,R.gnew,R.dom,by simp [R.len],fun j d' q'=>?_,fun j l d' q'=>?_,fun j k l d' l' e' p' a b=>?_,R.fz.b6W (by intro _ h; cases h)⟩
 ·by_cases z:i=j
  ·subst z
   rw [List.getElem?_set_self hi] at q'
   cases q'
   exact ⟨v,by rw [List.getElem?_set_self hs],h⟩
  ·rw [List.getElem?_set_ne z] at q' ⊢; exact R.sh j d' q'
 ·by_cases z:i=j
  ·subst z; rw [List.getElem?_set_self hi] at q'; cases q'
  ·rw [List.getElem?_set_ne z] at q' ⊢; exact R.ow j l d' q'
 ·by_cases z:i=j
  ·subst z; rw [List.getElem?_set_self hi] at a; cases a
  ·by_cases z':i=k
   ·subst z'; rw [List.getElem?_set_self hi] at b; cases b
   ·rw [List.getElem?_set_ne z] at a ⊢
    rw [List.getElem?_set_ne z'] at b ⊢
    exact R.inj j k l d' l' e' p' a b
theorem RS.b7o {i:Nat}{v:V}{d:D}(R:RS B G H σ ρ)(hi:i < ρ.length)(h:F9 B G H σ ρ v (.own d)):RS B G H (σ.set i (some v)) (ρ.set i (some (.ow false d))):=by
 obtain ⟨p,rfl,g,h0,o,ne⟩:=h
 have hs:i < σ.length:=by rw [R.len]; exact hi
 refine ⟨R.hk,R.keep,R.g0,R.gH,R.gnew,R.dom,by simp [R.len],fun j d' q'=>?_,fun j l d' q'=>?_,fun j k l d' l' e' p' a b=>?_,R.fz.b6W (by intro _ h; cases h)⟩
 ·by_cases z:i=j
  ·subst z; rw [List.getElem?_set_self hi] at q'; cases q'
  ·rw [List.getElem?_set_ne z] at q' ⊢; exact R.sh j d' q'
 ·by_cases z:i=j
  ·subst z
   rw [List.getElem?_set_self hi] at q'
   cases q'
   refine ⟨p,by rw [List.getElem?_set_self hs],g,?_,h0,o⟩
   cases hq:B.HK p with
   | none=>rfl
   | some ob=>rw [R.hk p ob hq] at h0; cases h0
  ·rw [List.getElem?_set_ne z] at q' ⊢; exact R.ow j l d' q'
 ·by_cases z:i=j
  ·by_cases z':i=k
   ·intro _ _; omega
   ·subst z
    rw [List.getElem?_set_self hs,List.getElem?_set_ne z']
    rw [List.getElem?_set_ne z'] at b
    intro a1 a2
    cases a1
    exact absurd a2 (ne k l' e' b)
  ·by_cases z':i=k
   ·subst z'
    rw [List.getElem?_set_self hs,List.getElem?_set_ne z]
    rw [List.getElem?_set_ne z] at a
    intro a1 a2
    cases a2
    exact absurd a1 (ne j l d' a)
   ·rw [List.getElem?_set_ne z] at a ⊢
    rw [List.getElem?_set_ne z'] at b ⊢
    exact R.inj j k l d' l' e' p' a b
noncomputable def a6U (i:Nat)(w:W):SM:=fun ρ=>if i < ρ.length then match w with
 | .own d=>some (.nx (ρ.set i (some (.ow false d))))
 | w=>match C7 w ρ with
  | some (.ok d ρ')=>some (.nx (ρ'.set i (some (.sh d))))
  | _=>none
 else none
noncomputable def n9 (i:Nat)(m:M W):SM:=N4 m (a6U i)
theorem b1N {w:W}{ρ ρ':k9}{d:D}(h:C7 w ρ=some (.ok d ρ')):ρ'.length=ρ.length:=by
 unfold C7 at h
 cases w with
 | val d=>cases h; rfl
 | own d=>cases h; rfl
 | slot i=>
  simp only [] at h
  split at h
  ·cases h; rfl
  ·cases h; simp
  ·cases h; rfl
  ·cases h
theorem a5g {i:Nat}{w:W}{v:V}{r:SR}(R:RS B G H σ ρ)(q:F9 B G H σ ρ v w)(e:a6U i w ρ=some r):∃ ρ' G',r=.nx ρ'∧j4 G G'∧RS B G' H (σ.set i (some v)) ρ':=by
 unfold a6U at e
 split at e
 ·rename_i hi
  cases w with
  | own d=>cases e; exact ⟨_,G,rfl,j4.refl _,R.b7o hi q⟩
  | val d=>
   cases e
   exact ⟨_,G,rfl,j4.refl _,R.a9r hi q⟩
  | slot j=>
   simp only [] at e
   split at e
   ·rename_i d ρ1 hl
    cases e
    obtain ⟨G',s',R',r'⟩:=q.C7 R hl
    exact ⟨_,G',rfl,s',R'.a9r (by rw [b1N hl]; exact hi) r'⟩
   ·cases e
 ·cases e
theorem w6 {i:Nat}{x:Str}{pos':Pos}(he:PD X B e me)(hN:X.N.Nodup)(hi:X.N[i]?=some x:=by rfl)(hx:Loc X.env.scope x:=by first | exact Or.inl rfl | exact Or.inr rfl)(hs:swapsWith e (some (.Name x pos')) pos.line X.env=pure false:=by rfl)(hf:X.fn x=true∨X.env.scope.names.lookup x=some .local:=by first | exact .inl rfl | exact .inr rfl):
  PSD X B (.Assign [.Name x pos'] e pos) (n9 i me):=.mk fun ξ=>(b5E (X:=rz X ξ) hN hi hx (he.ap ξ) hs hf).imp fun Dn σ H t=>by
 obtain ⟨G,ρ,R,t⟩:=t
 refine (SD.step (rel:=D6) R t).mono fun v H1 ⟨G1,ρ1,w,s1,R1,q1,r,e,p⟩=>?_
 obtain ⟨ρ',G',rfl,s',R'⟩:=a5g R1 q1 e
 exact p _ G' H1 s' R'
end
structure Gives (K:PySem.W.Frag) (Gs:Hp) (J:It) (ds:List D):Prop where
 go:∀ (G H:Hp) (i:Nat),j4 Gs G→j4 G H→i < ds.length→J.go i H
 stop:∀ (G H:Hp),j4 Gs G→j4 G H→J.stop ds.length H
 yld:∀ (G H H':Hp) (i:Nat) (x:V),j4 Gs G→j4 G H→i < ds.length→J.yld i H x H'→H'=H∧∃ d,ds[i]?=some d∧Rep K G x d
noncomputable def TDI (B:Bs)(ξ:XP)(m:M (List D)):TI:=fun σ H R=>∃ G ρ r,RS B G H σ ρ∧m ρ=some r∧match r with
 | .ok ds ρ'=>∀ J G' H',j4 G G'→RS B G' H' σ ρ'→Gives B.K G' J ds→R J H'
 | .ex x ρ'=>∀ G' H',j4 G G'→RS B G' H' σ ρ'→ξ x σ H'
structure PDI (X:Cx) (B:Bs) (tg iter:Expr) (m:M (List D)):Prop where
 ap:∀ ξ,PI (rz X ξ) tg iter (TDI B ξ m)
theorem _root_.L2.PI.imp {X:Cx}{tg e:Expr}{t t':TI}(h:PI X tg e t)(i:∀ σ H R,t' σ H R→t σ H R):PI X tg e t':=fun pins s σ H R I q=>h pins s σ H R I (i σ H R q)
noncomputable def itD:D→Option (List D)
 | .lst ds=>some ds
 | .tup ds=>some ds
 | .str cs=>some (cs.map fun c=>D.str [c])
 | _=>none
noncomputable def A1 (m:M W):M (List D):=M.bind m fun w=>M.bind (C7 w) fun d=>fun ρ=>(itD d).map (R'.ok · ρ)
section
variable {X:Cx}{B:Bs}{tg e a b c:Expr}{ma mb mc:M W}{mr:M (List W)}{pos p:Pos}
noncomputable def b8h (K:PySem.W.Frag)(tl:TE):TI:=fun σ H R=>tl σ H fun x H1=>(∃ a xs,x=.ref a∧L8 K H1 a xs∧R (Itl K a) H1)∨(∃ a xs,x=.ref a∧W5 K H1 a xs∧R (Itt K a) H1)∨∃ y,x=.str y∧R (Its y) H1
theorem b4K {l:Expr}{tl:TE}{K:PySem.W.Frag}(hK:X.K=K)(hl:PE X l tl):PI X tg l (b8h K tl):=by
 subst hK
 intro pins s σ H R I h
 refine L7 (hl pins s σ H _ I h) fun v s1 ⟨x,H1,I1,r1,q1⟩=>?_
 have fp:∀ b∈[s1.heap.objs.size],a4w X pins H1 b:=fun b hb=>by
  have e:b=s1.heap.objs.size:=by simpa using hb
  subst e
  exact I1.b1T (Nat.le_refl _) (I1.hok.fresh (Nat.le_refl _))
 rcases q1 with ⟨a,xs,rfl,hq,q⟩ | ⟨a,xs,rfl,hq,q⟩ | ⟨y,rfl,q⟩
 ·cases r1
  obtain ⟨its,rv,p,hz⟩:=I1.list hq
  refine wpAny_pyIter_list p.isList ?_
  exact ⟨s1.heap.objs.size,[s1.heap.objs.size],_,_,H1,rfl,I1.kept (t':=s1.toks) fun b o e=>Heap.get?_push_of_some _ e,b0m a _,⟨_,Heap.get?_push_size _ rfl,rfl,rfl⟩,fp,q⟩
 ·cases r1
  obtain ⟨its,rv,p,hz⟩:=I1.tuple hq
  refine wpAny_pyIter_tuple (show s1.heap.IsTuple a its.toArray from p) ?_
  exact ⟨s1.heap.objs.size,[s1.heap.objs.size],_,_,H1,rfl,I1.kept (t':=s1.toks) fun b o e=>Heap.get?_push_of_some _ e,a8D a _,⟨_,Heap.get?_push_size _ rfl,rfl,rfl⟩,fp,q⟩
 ·obtain ⟨t,rfl⟩:=r1
  cases ha:y.cps.all (· < 128)
  ·exact wpAny_pyIter_wide ha ⟨s1.heap.objs.size,[s1.heap.objs.size],_,Its y,H1,rfl,I1.kept (t':=s1.toks) fun b o e=>Heap.get?_push_of_some _ e,b0g y t _,⟨_,Heap.get?_push_size _ rfl,rfl,rfl⟩,fp,q⟩
  ·exact wpAny_pyIter_ascii ha ⟨s1.heap.objs.size,[s1.heap.objs.size],_,Its y,H1,rfl,I1.kept (t':=s1.toks) fun b o e=>Heap.get?_push_of_some _ e,b0k y t _,⟨_,Heap.get?_push_size _ rfl,rfl,rfl⟩,fp,q⟩
theorem a8T {K:PySem.W.Frag}{G:Hp}{a:Addr}{xs:List V}{ds:List D}(h:L8 K G a xs)(r:v5 K G xs ds):Gives K G (Itl K a) ds where
 go:=fun G' H i s1 s2 hi=>by
  have hx:i < xs.length:=by rw [r.len]; exact hi
  exact ⟨xs,xs[i],(s1.trans s2).seq h,by simp [hx]⟩
 stop:=fun G' H s1 s2=>⟨xs,(s1.trans s2).seq h,by rw [r.len]; exact Nat.le_refl _⟩
 yld:=fun G' H H' i x s1 s2 hi y=>by
  obtain ⟨rfl,y⟩:=y
  have e:=y xs ((s1.trans s2).seq h)
  obtain ⟨d,e2,r2⟩:=r.atV e
  exact ⟨rfl,d,e2,r2.same s1⟩
theorem b0v {K:PySem.W.Frag}{G:Hp}{a:Addr}{xs:List V}{ds:List D}(h:W5 K G a xs)(r:v5 K G xs ds):Gives K G (Itt K a) ds where
 go:=fun G' H i s1 s2 hi=>by
  have hx:i < xs.length:=by rw [r.len]; exact hi
  exact ⟨xs,xs[i],(s1.trans s2).tup h,by simp [hx]⟩
 stop:=fun G' H s1 s2=>⟨xs,(s1.trans s2).tup h,by rw [r.len]; exact Nat.le_refl _⟩
 yld:=fun G' H H' i x s1 s2 hi y=>by
  obtain ⟨rfl,y⟩:=y
  have e:=y xs ((s1.trans s2).tup h)
  obtain ⟨d,e2,r2⟩:=r.atV e
  exact ⟨rfl,d,e2,r2.same s1⟩
theorem b0B {K:PySem.W.Frag}{G:Hp}(cs:List Nat):Gives K G (Its (tx cs)) (cs.map fun c=>D.str [c]) where
 go:=fun G' H i s1 s2 hi=>by
  show i < (tx cs).cps.size
  simpa using hi
 stop:=fun G' H s1 s2=>by
  show (tx cs).cps.size≤_
  simp
 yld:=fun G' H H' i x s1 s2 hi y=>by
  obtain ⟨rfl,c,hc,rfl⟩:=y
  refine ⟨rfl,.str [c],?_,.str [c]⟩
  rw [List.getElem?_map]
  have hc':cs[i]?=some c:=by simpa using hc
  rw [hc']
  rfl
theorem a27 {K:PySem.W.Frag}{G:Hp}(lo:Int)(n:Nat):Gives K G (Itr lo n) ((List.range n).map fun k=>D.int (lo + ((k:Nat):Int))) where
 go:=fun G' H i s1 s2 hi=>by
  show i < n
  simpa using hi
 stop:=fun G' H s1 s2=>by
  show n≤_
  simp
 yld:=fun G' H H' i x s1 s2 hi y=>by
  obtain ⟨rfl,rfl⟩:=y
  have hi':i < n:=by simpa using hi
  refine ⟨rfl,.int (lo + i),?_,.int _⟩
  rw [List.getElem?_map,List.getElem?_range hi']
  rfl
theorem T7 (ha:PD X B e ma)(hK:X.K=B.K:=by rfl):PDI X B tg e (A1 ma):=.mk fun ξ=>(b4K (X:=rz X ξ) (K:=B.K) hK (ha.ap ξ)).imp fun σ H Rr t=>by
 obtain ⟨G,ρ,r,R,e,p⟩:=t
 have conv:Y8 (rel:=(fun (B:Bs) (G H:Hp) (σ:St) (ρ:k9) (J:It) (ds:List D)=>Gives B.K G J ds)) B ξ G ρ (A1 ma) σ (fun J H=>Rr J H):=by
  refine ⟨r,e,?_⟩
  cases r with
  | ok ds ρ'=>exact fun J G' H' s R' g=>p J G' H' s R' g
  | ex x ρ'=>exact p
 refine (TD.bind (rel:=D6) R conv).mono fun x H1 ⟨G1,ρ1,w,s1,R1,q1,t2⟩=>?_
 obtain ⟨d,ρ2,e2,r2,er,p2⟩:=t2.step fun r h=>W3 h
 obtain ⟨G2,s2,R2,rp⟩:=q1.C7 R1 e2
 cases hd:itD d with
 | none=>rw [hd] at er; cases er
 | some ds=>
  rw [hd] at er
  cases er
  cases rp with
  | @lst a xs ds' h l r=>
   cases hd
   refine .inl ⟨a,xs,rfl,R2.gH.seq h,p2 (Itl B.K a) G2 H1 s2 R2 ?_⟩
   exact a8T h ⟨l,r⟩
  | @tup a xs ds' h l r=>
   cases hd
   exact .inr (.inl ⟨a,xs,rfl,R2.gH.tup h,p2 (Itt B.K a) G2 H1 s2 R2 (b0v h ⟨l,r⟩)⟩)
  | str cs=>
   cases hd
   exact .inr (.inr ⟨tx cs,rfl,p2 (Its (tx cs)) G2 H1 s2 R2 (b0B cs)⟩)
  | _=>cases hd
end
end L3
set_option Elab.async false
set_option linter.all false
set_option maxRecDepth 100000
set_option maxHeartbeats 4000000
namespace L3
open PySem PySem.Spec PyProof.Rows L2
noncomputable def ints1:List D→Option (List D)
 | [.int n]=>V8 (-(2 ^ 62)≤n∧n < 2 ^ 62) (some ((List.range n.toNat).map fun k=>D.int (0 + ((k:Nat):Int))))
 | _=>none
noncomputable def ints2:List D→Option (List D)
 | [.int i,.int j]=>V8 (-(2 ^ 62)≤i∧i < 2 ^ 62∧-(2 ^ 62)≤j∧j < 2 ^ 62) (some ((List.range (j - i).toNat).map fun k=>D.int (i + ((k:Nat):Int))))
 | _=>none
noncomputable def U0 (f:List D→Option (List D))(m:M (List W)):M (List D):=M.bind m fun ws=>fun ρ=>match R7 ws ρ with
 | some ds=>(f ds).map (R'.ok · ρ)
 | none=>none
noncomputable def b6k:Rel (List D) It:=fun B G H σ ρ J ds=>Gives B.K G J ds
section
variable {X:Cx}{B:Bs}{tg e a b c:Expr}{ma mb mc:M W}{mr:M (List W)}{pos p:Pos}
theorem a8I {ξ:XP}{m:M (List D)}{σ:St}{H:Hp}{Rr:It→Hp→Prop}(t:TDI B ξ m σ H Rr):∃ G ρ,RS B G H σ ρ∧Y8 b6k B ξ G ρ m σ Rr:=by
 obtain ⟨G,ρ,r,R,e,p⟩:=t
 refine ⟨G,ρ,R,r,e,?_⟩
 cases r with
 | ok ds ρ'=>exact fun J G' H' s R' g=>p J G' H' s R' g
 | ex x ρ'=>exact p
theorem a9C {ξ:XP}{f:List D→Option (List D)}{ws:List W}{G:Hp}{ρ:k9}{σ:St}{Rr:It→Hp→Prop}(t:Y8 b6k B ξ G ρ (fun ρ=>match R7 ws ρ with | some ds=>(f ds).map (R'.ok · ρ) | none=>none) σ Rr):∃ ds es,R7 ws ρ=some ds∧f ds=some es∧∀ J G' H',j4 G G'→RS B G' H' σ ρ→Gives B.K G' J es→Rr J H':=by
 obtain ⟨r,e,p⟩:=t
 cases hx:R7 ws ρ with
 | none=>simp only [hx] at e; cases e
 | some ds=>
  simp only [hx] at e
  cases hf:f ds with
  | none=>rw [hf] at e; cases e
  | some es=>
   rw [hf] at e
   cases e
   exact ⟨ds,es,rfl,hf,p⟩
theorem M5 (hm:X.mg "range"=none) (ha:PDA X B [a] mr) (hg:Gl X "range":=by rfl) (hs:starEach [a] X.env=[(false,eval a X.env)]:=by rfl):PDI X B tg (.Call (.Name "range" p) [a] [] pos) (U0 ints1 mr):=.mk fun ξ=>
 (a96 (X:=rz X ξ) hg hm (ha.ap ξ) hs).imp fun σ H Rr t=>by
  obtain ⟨G,ρ,R,t⟩:=a8I t
  refine (TD.bind (rel:=N6) R t).mono fun vs H1 ⟨G1,ρ1,ws,s1,R1,q1,t2⟩=>?_
  obtain ⟨ds,es,e1,e2,p⟩:=a9C t2
  have h:=Z5 R1 q1 e1
  match ds,e2 with
  | [.int n],e2=>
   obtain ⟨z,e2⟩:=l8 e2
   cases e2
   obtain ⟨x,rfl,hx⟩:=I9 h
   exact ⟨n,by rw [hx.int],z.1,z.2,p _ G1 H1 (j4.refl _) R1 (a27 0 n.toNat)⟩
theorem a7D (hm:X.mg "range"=none) (ha:PDA X B [a,b] mr) (hg:Gl X "range":=by rfl) (hs:starEach [a,b] X.env=[(false,eval a X.env),(false,eval b X.env)]:=by rfl) (hs2:starEach [b] X.env=[(false,eval b X.env)]:=by rfl):PDI X B tg (.Call (.Name "range" p) [a,b] [] pos) (U0 ints2 mr):=.mk fun ξ=>
 (a9V (X:=rz X ξ) hg hm (ha.ap ξ) hs hs2).imp fun σ H Rr t=>by
  obtain ⟨G,ρ,R,t⟩:=a8I t
  refine (TD.bind (rel:=N6) R t).mono fun vs H1 ⟨G1,ρ1,ws,s1,R1,q1,t2⟩=>?_
  obtain ⟨ds,es,e1,e2,p⟩:=a9C t2
  have h:=Z5 R1 q1 e1
  match ds,e2 with
  | [.int i,.int j],e2=>
   obtain ⟨z,e2⟩:=l8 e2
   cases e2
   obtain ⟨x,y,rfl,hx,hy⟩:=b1v h
   exact ⟨i,j,by rw [hx.int,hy.int],z,p _ G1 H1 (j4.refl _) R1 (a27 i (j - i).toNat)⟩
end
noncomputable abbrev FT:=D→k9→Option k9
noncomputable def TDG (B:Bs)(f:FT):TG:=fun v σ H Rr=>∃ G ρ d ρ',RS B G H σ ρ∧Rep B.K G v d∧f d ρ=some ρ'∧∀ σ' G' H',j4 G G'→RS B G' H' σ' ρ'→Rr σ' H'
structure PDG (X:Cx) (B:Bs) (tg:Expr) (f:FT):Prop where
 ap:∀ ξ,PG (rz X ξ) tg (TDG B f)
theorem _root_.L2.PG.imp {X:Cx}{tg:Expr}{t t':TG}(h:PG X tg t)(i:∀ v σ H R,t' v σ H R→t v σ H R):PG X tg t':=fun pins s σ H v u Q I r q=>h pins s σ H v u Q I r (i v σ H _ q)
noncomputable def E4 (i:Nat):FT:=fun d ρ=>if i < ρ.length then some (ρ.set i (some (.sh d))) else none
section
variable {X:Cx}{B:Bs}{tg e:Expr}{pos:Pos}
theorem Q4 {i:Nat}{x:Str}(hN:X.N.Nodup)(hi:X.N[i]?=some x:=by rfl)(hx:Loc X.env.scope x:=by first | exact Or.inl rfl | exact Or.inr rfl)(hf:X.fn x=true∨X.env.scope.names.lookup x=some .local:=by first | exact .inl rfl | exact .inr rfl):PDG X B (.Name x pos) (E4 i):=.mk fun ξ=>
 (a5Y (X:=rz X ξ) hN hi hx hf).imp fun v σ H Rr t=>by
  obtain ⟨G,ρ,d,ρ',R,h,e,p⟩:=t
  unfold E4 at e
  split at e
  ·cases e
   exact p _ G H (j4.refl _) (R.a9r ‹_› h)
  ·cases e
end
noncomputable def forL (tg:FT)(b:SM):List D→SM
 | []=>fun ρ=>some (.nx ρ)
 | d::ds=>fun ρ=>match tg d ρ with
  | none=>none
  | some ρ1=>match b ρ1 with
   | some (.nx ρ2)=>forL tg b ds ρ2
   | some (.ct ρ2)=>forL tg b ds ρ2
   | some (.bk ρ2)=>some (.nx ρ2)
   | r=>r
noncomputable def a0n (mi:M (List D))(tg:FT)(b:SM):SM:=N4 mi fun ds=>forL tg b ds
theorem a4F {X:Cx}{ξ:XP}:PassesOwn (model X.prog X.w) X.A X.env (XE X ξ):=by
 rintro e s' ⟨x,pins,σ,H,I,⟨a,cls,dct,rfl,ix,oa,fl,F⟩,q⟩
 have I0:Inv X [] σ H s':=I.a18 fun p hp=>absurd hp (by simp)
 refine noted I0 F oa fl fun h' T I2 t oT=>?_
 obtain ⟨oe,vs,oT',ts,he,hc,hdc,hd,h1,r⟩:=id t
 refine wpAny_bind (wpAny_field he hd h1 ?_)
 rw [if_neg (show ¬ ((Value.ref T == Value.none)=true) from by simp)]
 rw [F.fr]
 exact marked (some X.env.locals) I2 F t oT fun h3 I3 t3=>⟨x,[],σ,H,I3,⟨a,cls,dct,rfl,ix,oa,.inr ⟨T,_,t3,oT,.inr rfl⟩,F⟩,q⟩
section
variable {X:Cx}{B:Bs}{tg iter:Expr}{body:List Stmt}{mi:M (List D)}{f:FT}{mb:SM}{pos:Pos}
theorem Z0 (hi:PDI X B tg iter mi)(hg:PDG X B tg f)(hb:a4T X B body mb)(hc:X.calm=true:=by rfl)(hs:∀ x,foldedSetIterable iter X.env x=pure x:=by intro _; rfl):PSD X B (.For tg iter body [] pos) (a0n mi f mb):=.mk fun ξ=>
 (b48 (X:=rz X ξ) a4F hc (hi.ap ξ) (hg.ap ξ) (hb.ap ξ) hs).imp fun Dn σ H t=>by
  obtain ⟨G,ρ,R,r,e,p⟩:=t
  unfold a0n N4 at e
  cases hm:mi ρ with
  | none=>rw [hm] at e; cases e
  | some r1=>
   rw [hm] at e
   cases r1 with
   | ex x ρ1=>
    cases e
    exact ⟨G,ρ,_,R,hm,fun G' H' s R'=>p σ G' H' s R'⟩
   | ok ds ρ1=>
    refine ⟨G,ρ,_,R,hm,fun J Gs H1 s1 R1 gv=>?_⟩
    refine ⟨fun i m σ H=>∃ G ρ r,m=ds.length - i∧i≤ds.length∧j4 Gs G∧RS B G H σ ρ∧forL f mb (ds.drop i) ρ=some r∧a3e B ξ G Dn r,⟨ds.length,Gs,ρ1,r,by simp,Nat.zero_le _,j4.refl _,R1,by simpa using e,p.same s1⟩,?_⟩
    rintro i m σ2 H2 ⟨G2,ρ2,r2,rfl,hle,s2,R2,e2,p2⟩
    by_cases hlt:i < ds.length
    ·have ed:ds.drop i=ds[i]::ds.drop (i + 1):=List.drop_eq_getElem_cons hlt
     rw [ed] at e2
     unfold forL at e2
     cases ht:f ds[i] ρ2 with
     | none=>rw [ht] at e2; cases e2
     | some ρ3=>
      rw [ht] at e2
      refine .inr ⟨gv.go G2 H2 i s2 R2.gH hlt,fun σ' H'=>∃ G' ρ' r',j4 Gs G'∧RS B G' H' σ' ρ'∧forL f mb (ds.drop (i + 1)) ρ'=some r'∧a3e B ξ G' Dn r',fun σ' H' ⟨G',ρ',r',a1,a2,a3,a4⟩=>⟨ds.length - (i + 1),by omega,G',ρ',r',rfl,hlt,a1,a2,a3,a4⟩,fun x H' y=>?_⟩
      obtain ⟨rfl,d,hd,rx⟩:=gv.yld G2 H2 H' i x s2 R2.gH hlt y
      have ed2:d=ds[i]:=by
       rw [List.getElem?_eq_getElem hlt] at hd
       exact (Option.some.inj hd).symm
      subst ed2
      refine ⟨G2,ρ2,_,ρ3,R2,rx,ht,fun σ3 G3 H3 s3 R3=>?_⟩
      cases hbr:mb ρ3 with
      | none=>simp only [hbr] at e2; cases e2
      | some rb=>
       simp only [hbr] at e2
       refine ⟨G3,ρ3,R3,rb,hbr,?_⟩
       cases rb with
       | nx ρ4=>exact fun σ4 G4 H4 s4 R4=>⟨G4,ρ4,r2,(s2.trans s3).trans s4,R4,e2,p2.same (s3.trans s4)⟩
       | ct ρ4=>exact fun σ4 G4 H4 s4 R4=>⟨G4,ρ4,r2,(s2.trans s3).trans s4,R4,e2,p2.same (s3.trans s4)⟩
       | bk ρ4=>
        cases e2
        exact fun σ4 G4 H4 s4 R4=>p2 σ4 G4 H4 (s3.trans s4) R4
       | rt w ρ4=>
        cases e2
        exact fun v σ4 G4 H4 s4 R4 q4=>p2 v σ4 G4 H4 (s3.trans s4) R4 q4
       | ex x ρ4=>
        cases e2
        exact fun σ4 G4 H4 s4 R4=>p2 σ4 G4 H4 (s3.trans s4) R4
    ·have ei:i=ds.length:=by omega
     subst ei
     rw [List.drop_length] at e2
     cases e2
     exact .inl ⟨gv.stop G2 H2 s2 R2.gH,p2 σ2 G2 H2 (j4.refl _) R2⟩
end
noncomputable def E2 (c:M Bool)(b:SM):Nat→SM
 | 0=>fun _=>none
 | n + 1=>N4 c fun k=>if k=true then (fun ρ=>match b ρ with
   | some (.nx ρ2)=>E2 c b n ρ2
   | some (.ct ρ2)=>E2 c b n ρ2
   | some (.bk ρ2)=>some (.nx ρ2)
   | r=>r) else nxS
section
variable {X:Cx}{B:Bs}{c:Expr}{body:List Stmt}{mc:M Bool}{mb:SM}{pos:Pos}
theorem a9y (n:Nat)(hc:PDT X B c mc)(hb:a4T X B body mb):PSD X B (.While c body [] pos) (E2 mc mb n):=.mk fun ξ=>
 (b1x (X:=rz X ξ) a4F (hc.ap ξ) (hb.ap ξ)).imp fun Dn σ H t=>by
  obtain ⟨G,ρ,R,r,e,p⟩:=t
  refine ⟨fun m σ H=>∃ G ρ r,RS B G H σ ρ∧E2 mc mb m ρ=some r∧a3e B ξ G Dn r,⟨n,G,ρ,r,R,e,p⟩,?_⟩
  rintro m σ2 H2 ⟨G2,ρ2,r2,R2,e2,p2⟩
  cases m with
  | zero=>cases e2
  | succ m=>
   unfold E2 at e2
   refine (SD.step (rel:=a0E) R2 ⟨r2,e2,p2⟩).mono fun k H3 ⟨G3,ρ3,k',s3,R3,q3,r3,e3,p3⟩=>?_
   cases (show k=k' from q3)
   cases k with
   | false=>
    cases e3
    exact p3 σ2 G3 H3 (j4.refl _) R3
   | true=>
    rw [if_pos rfl] at e3
    refine ⟨fun σ' H'=>∃ G' ρ' r',RS B G' H' σ' ρ'∧E2 mc mb m ρ'=some r'∧a3e B ξ G' Dn r',fun σ' H' ⟨G',ρ',r',a1,a2,a3⟩=>⟨m,Nat.lt_succ_self _,G',ρ',r',a1,a2,a3⟩,?_⟩
    cases hbr:mb ρ3 with
    | none=>simp only [hbr] at e3; cases e3
    | some rb=>
     simp only [hbr] at e3
     refine ⟨G3,ρ3,R3,rb,hbr,?_⟩
     cases rb with
     | nx ρ4=>exact fun σ4 G4 H4 s4 R4=>⟨G4,ρ4,r3,R4,e3,p3.same s4⟩
     | ct ρ4=>exact fun σ4 G4 H4 s4 R4=>⟨G4,ρ4,r3,R4,e3,p3.same s4⟩
     | bk ρ4=>cases e3; exact fun σ4 G4 H4 s4 R4=>p3 σ4 G4 H4 s4 R4
     | rt w ρ4=>cases e3; exact fun v σ4 G4 H4 s4 R4 q4=>p3 v σ4 G4 H4 s4 R4 q4
     | ex x ρ4=>cases e3; exact fun σ4 G4 H4 s4 R4=>p3 σ4 G4 H4 s4 R4
end
noncomputable def tyD (T:String):D→Bool
 | .str _=>T == "str"
 | .lst _=>T == "list"
 | .dct _=>T == "dict"
 | _=>false
noncomputable def chk (T:String)(w:W):M Unit:=fun ρ=>match getD w ρ with
 | some d=>if tyD T d=true then some (.ok () ρ) else none
 | none=>none
theorem a0V {T:String}{w:W}{ρ:k9}{r:R' Unit}(h:chk T w ρ=some r):r=.ok () ρ∧∃ d,getD w ρ=some d∧tyD T d=true:=by
 unfold chk at h
 split at h
 ·rename_i d hd
  split at h
  ·cases h
   exact ⟨rfl,d,hd,‹_›⟩
  ·cases h
 ·cases h
theorem a8t {B:Bs}{G H:Hp}{σ:St}{ρ:k9}{x:V}{d:D}{T:String}(R:RS B G H σ ρ)(h:K9 B.K G H x d)(t:tyD T d=true)(hT:T≠"dict":=by decide):tyV B.K T x H:=by
 cases d with
 | str cs=>rw [h.str]; exact eq_of_beq t
 | lst ds=>
  obtain ⟨p,xs,rfl,h1,r1⟩:=h.lst R.gH
  exact .inl ⟨eq_of_beq t,xs,h1⟩
 | dct es=>
  exact absurd (eq_of_beq t) hT
 | _=>cases t
theorem a2p {i:Nat}{w:W}{ρ ρ':k9}(h:c9 i ρ=some (.ok w ρ')):w=.slot i∧ρ'=ρ:=by
 unfold c9 at h
 split at h
 ·cases h; exact ⟨rfl,rfl⟩
 ·cases h
noncomputable def a2b (i:Nat)(d:D):M W:=fun ρ=>match ρ[i]? with
 | some (some (.ow l (.lst ds)))=>V8 (small ds.length) (some (.ok (.val .A3) (ρ.set i (some (.ow l (.lst (ds++[d])))))))
 | _=>none
noncomputable def D4 (i:Nat)(m:M (List W)):M W:=M.bind (c9 i) fun x=>M.bind (chk "list" x) fun _=>M.bind m fun ws=>match ws with
 | [w]=>M.bind (C7 w) (a2b i)
 | _=>fun _=>none
section
variable {X:Cx}{B:Bs}{o e:Expr}{es:List Expr}{mr:M (List W)}{apos cpos opos:Pos}{x:Str}
theorem slot_of {G H:Hp}{σ:St}{ρ:k9}{i:Nat}{l:Bool}{d:D}(R:RS B G H σ ρ)(h:ρ[i]?=some (some (.ow l d))){v:V}(hv:σ[i]?=some (some v)):∃ p,v=.ref p∧G p=none∧E5 B.K G H p d:=by
 obtain ⟨p,q1,q2,q3,q4,q5⟩:=R.ow i l d h
 rw [hv] at q1
 cases q1
 exact ⟨p,rfl,q2,q5⟩
theorem S3 (i:Nat)(ho:PD X B o (c9 i))(ha:PDA X B [e] mr)
  (hbase:attributeBase o "append" X.env (eval o X.env)=eval o X.env:=by rfl)
  (hfew:((backTo cpos (starEach [e] X.env)).all (fun x=>!x.1) && (backToKw cpos (keywordEach [] X.env)).all (fun x=>x.1.isSome)
   && decide (([e]:List Expr).length + ([]:List Keyword).length + (if ([]:List Keyword).isEmpty then 0 else 1) < 30))=true:=by rfl)
  (hline:(apos.endLine == cpos.line)=true:=by rfl) (hs:starEach [e] X.env=(false,eval e X.env)::starEach [] X.env:=by rfl) (hplain:(backTo cpos (starEach [] X.env)).any (·.1)=false:=by rfl) (hK:X.K=B.K:=by rfl):
  PD X B (.Call (.Attribute o "append" apos) [e] [] cpos) (D4 i mr):=.mk fun ξ=>
 (a9J (X:=rz X ξ) PySem.F.plainAttrs_list PySem.F.slot_list_append PySem.F.type_list_append a9S (ho.ap ξ) (ha.ap ξ) hbase hfew hline hs hplain).imp fun σ H Q t=>by
  obtain ⟨G,ρ,R,t⟩:=t
  refine (TD.b1j (rel:=D6) R t).mono fun x H1 ⟨G1,ρ1,w,er,s1,R1,q1,t2⟩=>?_
  obtain ⟨rfl,rfl⟩:=a2p er
  have hv:σ[i]?=some (some x):=q1
  obtain ⟨u,ρ2,e2,t3⟩:=t2.step fun r h=>⟨(),_,(a0V h).1⟩
  obtain ⟨e3,d,hd,ty⟩:=a0V e2
  cases e3
  refine ⟨by show tyV X.K "list" x H1; rw [hK]; exact a8t R1 (q1.get R1 hd) ty,?_⟩
  refine (TD.bind (rel:=N6) R1 t3).mono fun vs H2 ⟨G2,ρ2,ws,s2,R2,q2,t4⟩=>?_
  match ws,q2,t4 with
  | [],_,⟨r,er,_⟩=>cases er
  | _::_::_,_,⟨r,er,_⟩=>cases er
  | [w],q2,t4=>
   cases q2 with
   | @cons v _ vs _ h t=>
    cases t
    obtain ⟨dv,ρ3,e4,r,er,p⟩:=t4.step fun r h=>W3 h
    obtain ⟨G3,s3,R3,rv⟩:=h.1.C7 R2 e4
    unfold a2b at er
    split at er
    ·rename_i l ds hi
     obtain ⟨hz,er⟩:=l8 er
     cases er
     obtain ⟨pp,rfl,g,xs,hx,rl⟩:=slot_of R3 hi hv
     refine ⟨pp,xs,v,rfl,rfl,hx,?_,?_⟩
     ·rw [rl.len,sizeLine_eq]; unfold small at hz; omega
     ·exact p .A3 G3 _ s3 (R3.write hi hv ⟨xs++[v],p9,rl.append (.one rv)⟩) .A3
    ·cases er
end
end L3
set_option Elab.async false
set_option linter.all false
set_option maxRecDepth 100000
set_option maxHeartbeats 4000000
namespace L3
open PySem PySem.Spec PyProof.Rows L2
inductive FR where
 | ret (w:W) (fin:List D) | exc (x:Exn) (fin:List D)
inductive S0 (K:PySem.W.Frag) (G H:Hp):List Bool→List V→List D→List Addr→Prop
 | nil:S0 K G H [] [] [] []
 | sh {v:V} {d:D} {ms:List Bool} {vs:List V} {ds:List D} {ps:List Addr} (h:Rep K G v d) (r:S0 K G H ms vs ds ps):S0 K G H (false::ms) (v::vs) (d::ds) ps
 | ln {p:Addr} {d:D} {ms:List Bool} {vs:List V} {ds:List D} {ps:List Addr} (g:G p=none) (o:E5 K G H p d) (n:p∉ps) (r:S0 K G H ms vs ds ps):S0 K G H (true::ms) (.ref p::vs) (d::ds) (p::ps)
noncomputable def minus (H:Hp)(ps:List Addr):Hp:=fun b=>if b∈ps then none else H b
theorem a7p {H:Hp}{ps:List Addr}{b:Addr}(h:b∈ps):minus H ps b=none:=if_pos h
theorem a1a {H:Hp}{ps:List Addr}{b:Addr}(h:b∉ps):minus H ps b=H b:=if_neg h
theorem Q2 (H:Hp)(ps:List Addr):j4 (minus H ps) H:=fun b o e=>by
 unfold minus at e
 split at e
 ·cases e
 ·exact e
structure After (K:PySem.W.Frag) (G H:Hp) (ps:List Addr) (G' H':Hp) (fin:List D):Prop where
 keep:j4 (minus H ps) H'
 gg:j4 G G'
 gH:j4 G' H'
 gnew:∀ p o,G' p=some o→G p=some o∨H p=none
 dom:∀ p,H' p=none→H p=none
 lent:Paired (fun p d=>G' p=none∧E5 K G' H' p d) ps fin
noncomputable def a6I (K:PySem.W.Frag)(H G' H':Hp)(v:V):W→Prop
 | .val d=>Rep K G' v d
 | .own d=>∃ p,v=.ref p∧G' p=none∧H p=none∧E5 K G' H' p d
 | .slot _=>False
noncomputable def M8 (K:PySem.W.Frag)(ms:List Bool)(fm:List D→Option FR):Sp:=fun vs H Q E=>∃ G ds ps r,j4 G H∧S0 K G H ms vs ds ps∧fm ds=some r∧match r with
 | .ret w fin=>∀ v G' H',After K G H ps G' H' fin→a6I K H G' H' v w→Q v H'
 | .exc _ _=>False
theorem M8.imp {K:PySem.W.Frag}{ms:List Bool}{fm fm':List D→Option FR}(h:∀ ds r,fm ds=some r→fm' ds=some r):∀ vs H Q E,M8 K ms fm vs H Q E→M8 K ms fm' vs H Q E:=by
 rintro vs H Q E ⟨G,ds,ps,r,a,b,c,d⟩
 exact ⟨G,ds,ps,r,a,b,h ds r c,d⟩
theorem S0.len {K:PySem.W.Frag}{G H:Hp}:∀ {ms:List Bool} {vs:List V} {ds:List D} {ps:List Addr},S0 K G H ms vs ds ps→vs.length=ms.length∧ds.length=ms.length
 | _,_,_,_,.nil=>⟨rfl,rfl⟩
 | _,_,_,_,.sh _ r=>by obtain ⟨a,b⟩:=r.len; exact ⟨by simp [a],by simp [b]⟩
 | _,_,_,_,.ln _ _ _ r=>by obtain ⟨a,b⟩:=r.len; exact ⟨by simp [a],by simp [b]⟩
noncomputable def a3P (m:Bool)(d:D):Option C:=some (if m=true then .ow true d else .sh d)
noncomputable def cells:List Bool→List D→k9
 | m::ms,d::ds=>a3P m d::cells ms ds
 | _,_=>[]
noncomputable def z7 (n:Nat)(ms:List Bool)(ds:List D):k9:=cells ms ds++List.replicate (n - ds.length) none
noncomputable def X6:List Bool→k9→Option (List D)
 | [],_=>some []
 | false::ms,_::ρ=>X6 ms ρ
 | true::ms,some (.ow true d)::ρ=>(X6 ms ρ).map (d::·)
 | _,_=>none
noncomputable def a7F (ms:List Bool):SR→Option FR
 | .nx ρ=>(X6 ms ρ).map (FR.ret (.val .A3))
 | .rt (.slot _) _=>none
 | .rt w ρ=>(X6 ms ρ).map (FR.ret w)
 | .ex x ρ=>(X6 ms ρ).map (FR.exc x)
 | _=>none
noncomputable def G8 (m:SM)(n:Nat)(ms:List Bool)(ds:List D):Option FR:=(m (z7 n ms ds)).bind (a7F ms)
noncomputable def S7:List Bool→List Addr→Nat→Option Addr
 | [],_,_=>none
 | false::_,_,0=>none
 | false::ms,ps,i + 1=>S7 ms ps i
 | true::_,p::_,0=>some p
 | true::ms,_::ps,i + 1=>S7 ms ps i
 | true::_,[],_=>none
section
variable {K:PySem.W.Frag}{G H:Hp}
theorem a5L:∀ {ms:List Bool} {ds:List D},ds.length=ms.length→(cells ms ds).length=ms.length
 | [],[],_=>rfl
 | [],_::_,h=>by simp at h
 | _::_,[],h=>by simp at h
 | m::ms,d::ds,h=>by
  show (cells ms ds).length + 1=ms.length + 1
  rw [a5L (by simpa using h)]
theorem X3:∀ {ms:List Bool} {vs:List V} {ds:List D} {ps:List Addr} {i:Nat} {c:C},S0 K G H ms vs ds ps→(cells ms ds)[i]?=some (some c)→
  ∃ v,vs[i]?=some v∧((∃ d,c=.sh d∧Rep K G v d)∨∃ p d,c=.ow true d∧v=.ref p∧p∈ps∧S7 ms ps i=some p∧G p=none∧E5 K G H p d)
 | _,_,_,_,i,c,.nil,e=>by simp [cells] at e
 | _,_,_,_,0,c,.sh h r,e=>by
  simp [cells,a3P] at e
  subst e
  exact ⟨_,rfl,.inl ⟨_,rfl,h⟩⟩
 | _,_,_,_,i + 1,c,.sh h r,e=>by
  obtain ⟨v,e1,h1⟩:=X3 (i:=i) r (by simpa [cells] using e)
  exact ⟨v,by simpa using e1,h1⟩
 | _,_,_,_,0,c,.ln g o n r,e=>by
  simp [cells,a3P] at e
  subst e
  exact ⟨_,rfl,.inr ⟨_,_,rfl,rfl,List.mem_cons_self,rfl,g,o⟩⟩
 | _,_,_,_,i + 1,c,.ln g o n r,e=>by
  obtain ⟨v,e1,h1⟩:=X3 (i:=i) r (by simpa [cells] using e)
  refine ⟨v,by simpa using e1,?_⟩
  rcases h1 with h1 | ⟨p,d,a,b,c1,c2,d1,e2⟩
  ·exact .inl h1
  ·exact .inr ⟨p,d,a,b,List.mem_cons_of_mem _ c1,c2,d1,e2⟩
theorem b1R {ms:List Bool}{vs:List V}{ds:List D}{ps:List Addr}(r:S0 K G H ms vs ds ps):∀ {i j:Nat} {p:Addr},S7 ms ps i=some p→S7 ms ps j=some p→i=j:=by
 have mem:∀ {ms:List Bool} {ps:List Addr} {i:Nat} {p:Addr},S7 ms ps i=some p→p∈ps:=by
  intro ms
  induction ms with
  | nil=>intro ps i p h; cases h
  | cons m ms ih=>
   intro ps i p h
   cases m with
   | false=>
    cases i with
    | zero=>cases h
    | succ i=>exact ih (i:=i) h
   | true=>
    cases ps with
    | nil=>cases i <;> cases h
    | cons q ps=>
     cases i with
     | zero=>cases h; exact List.mem_cons_self
     | succ i=>exact List.mem_cons_of_mem _ (ih (i:=i) h)
 induction r with
 | nil=>intro i j p h; cases h
 | sh h r ih=>
  intro i j p a b
  cases i with
  | zero=>cases a
  | succ i=>
   cases j with
   | zero=>cases b
   | succ j=>rw [ih (i:=i) (j:=j) a b]
 | ln g o n r ih=>
  intro i j p a b
  cases i with
  | zero=>
   cases a
   cases j with
   | zero=>rfl
   | succ j=>exact absurd (mem (i:=j) b) n
  | succ i=>
   cases j with
   | zero=>cases b; exact absurd (mem (i:=i) a) n
   | succ j=>rw [ih (i:=i) (j:=j) a b]
theorem Z7 {N:List Str}{vs:List V}{i:Nat}{v:V}(h:vs[i]?=some v):(start N vs)[i]?=some (some v):=by
 unfold L2.start
 have hi:i < vs.length:=(List.getElem?_eq_some_iff.mp h).1
 rw [List.getElem?_append_left (by simpa using hi),List.getElem?_map,h]
 rfl
theorem U9 {n:Nat}{ms:List Bool}{ds:List D}{i:Nat}{c:C}(h:(z7 n ms ds)[i]?=some (some c)):(cells ms ds)[i]?=some (some c):=by
 unfold z7 at h
 by_cases hi:i < (cells ms ds).length
 ·rw [List.getElem?_append_left hi] at h
  exact h
 ·rw [List.getElem?_append_right (by omega),List.getElem?_replicate] at h
  split at h <;> cases h
theorem a66 {N:List Str}{ms:List Bool}{vs:List V}{ds:List D}{ps:List Addr}(g:j4 G H)(r:S0 K G H ms vs ds ps)(hl:vs.length≤N.length):
  RS ⟨K,H,minus H ps,G,S7 ms ps⟩ G H (start N vs) (z7 N.length ms ds):=by
 obtain ⟨l1,l2⟩:=r.len
 refine ⟨Q2 H ps,Q2 H ps,j4.refl _,g,fun p o e=>.inl e,fun p e=>e,?_,fun i d e=>?_,fun i l d e=>?_,fun i j l d k e p a b=>?_,fun i es e=>?_⟩
 ·unfold L2.start z7
  rw [List.length_append,List.length_append,List.length_map,List.length_replicate,List.length_replicate,a5L l2]
  omega
 ·obtain ⟨v,e1,h1⟩:=X3 r (U9 e)
  rcases h1 with ⟨d',q,h⟩ | ⟨p,d',q,_⟩
  ·cases q
   exact ⟨v,Z7 e1,h⟩
  ·cases q
 ·obtain ⟨v,e1,h1⟩:=X3 r (U9 e)
  rcases h1 with ⟨d',q,h⟩ | ⟨p,d',q,rfl,m,la,gp,o⟩
  ·cases q
  ·cases q
   exact ⟨p,Z7 e1,gp,a7p m,la,o⟩
 ·obtain ⟨v,e1,h1⟩:=X3 r (U9 a)
  obtain ⟨v2,e2,h2⟩:=X3 r (U9 b)
  rcases h1 with ⟨d',q,h⟩ | ⟨p1,d',q,rfl,m,la,gp,o⟩
  ·cases q
  rcases h2 with ⟨d2,q2,h⟩ | ⟨p2,d2,q2,rfl,m2,la2,gp2,o2⟩
  ·cases q2
  intro x y
  rw [Z7 e1] at x
  rw [Z7 e2] at y
  cases x
  cases y
  exact b1R r la la2
 ·obtain ⟨v,e1,h1⟩:=X3 r (U9 e)
  rcases h1 with ⟨d',q,h⟩ | ⟨p1,d',q,_⟩ <;> cases q
theorem a06 {B:Bs}{G' H':Hp}{σ:St}{ρ:k9}(R:RS B G' H' σ ρ):∀ {ms:List Bool} {vs:List V} {ds:List D} {ps:List Addr} (_:S0 K G H ms vs ds ps) (k:Nat) (ρ':k9) (fin:List D),(∀ i,ρ'[i]?=ρ[k + i]?)→(∀ i,S7 ms ps i=B.L (k + i))→X6 ms ρ'=some fin→Paired (fun p d=>G' p=none∧E5 B.K G' H' p d) ps fin
 | _,_,_,_,.nil,k,ρ',fin,_,_,e=>by cases e; exact .nil
 | _,_,_,_,.sh h r,k,ρ',fin,hρ,hL,e=>by
  cases ρ' with
  | nil=>cases e
  | cons c ρ'=>
   refine a06 R r (k + 1) ρ' fin (fun i=>?_) (fun i=>?_) e
   ·have:=hρ (i + 1)
    rw [List.getElem?_cons_succ] at this
    rw [this]
    congr 1
    omega
   ·have:=hL (i + 1)
    rw [show k + 1 + i=k + (i + 1) by omega,← this]
    rfl
 | _,_,_,_,.ln (p:=p) g o n r,k,ρ',fin,hρ,hL,e=>by
  cases ρ' with
  | nil=>cases e
  | cons c ρ'=>
   match c,e with
   | some (.ow true d),e=>
    obtain ⟨fin',e',rfl⟩:=Option.map_eq_some_iff.mp e
    refine .cons ?_ (a06 R r (k + 1) ρ' fin' (fun i=>?_) (fun i=>?_) e')
    ·have h0:=hρ 0
     obtain ⟨p',q1,q2,q3,q4,q5⟩:=R.ow (k + 0) true d h0.symm
     have q6:B.L (k + 0)=some p':=q4
     rw [← hL 0] at q6
     have q7:some p=some p':=q6
     cases q7
     exact ⟨q2,q5⟩
    ·have:=hρ (i + 1)
     rw [List.getElem?_cons_succ] at this
     rw [this]
     congr 1
     omega
    ·have:=hL (i + 1)
     rw [show k + 1 + i=k + (i + 1) by omega,← this]
     rfl
   | none,e=>cases e
   | some (.sh _),e=>cases e
   | some (.ow false _),e=>cases e
end
theorem _root_.L2.PSs.a0J {X:Cx}{E E':Value→Shared→Prop}{st:List Stmt}{t:TS}(h:PSs (X.S4 E) st t)(i:∀ e s,E e s→E' e s):PSs (X.S4 E') st t:=fun pins s σ H D I hw=>
 wpAny_mono (h pins s σ H D (I.O4.S4 _) hw) (fun _ _ q=>by
  have q1:=q.O4
  cases ‹Flow› with
  | next=>obtain ⟨σ',H',I,q⟩:=q1; exact ⟨σ',H',I.S4 _,q⟩
  | brk=>obtain ⟨σ',H',I,q⟩:=q1; exact ⟨σ',H',I.S4 _,q⟩
  | cont=>obtain ⟨σ',H',I,q⟩:=q1; exact ⟨σ',H',I.S4 _,q⟩
  | ret u=>obtain ⟨v,σ',H',I,r,q⟩:=q1; exact ⟨v,σ',H',I.S4 _,r,q⟩) fun e s z=>i e s z
section
variable {P:Program}{w:World}{K:PySem.W.Frag}{mg:Str→Option Value}{base:Heap}
theorem R9 {x:Str}{st:Stmt}{f:Addr}{fd:FuncData}{N ps:List Str}{ms:List Bool}{k:Nat}{m:SM}(F:Fun K x x st f fd)(S:A0 N ps (l9 st))(hm:ms.length=ps.length)
  (hbody:∀ (cdv:Value) (A:Around) (outer:List Env) (s:Shared) (H:Hp) (E:XK) (H0 HK G0:Hp) (L:Nat→Option Addr),U5 k (A.deeper (envOfC x (l9 st) s.heap.objs.size f cdv))→
   a4T (a7A CX0 P w K mg base N x (l9 st) f cdv A outer s H E) ⟨K,H0,HK,G0,L⟩ (W4 st) m):K5 P w K mg base CX0 (k + 1) f fd ps (M8 K ms (G8 m N.length ms)):=by
 have hpl:ps.length≤N.length:=by have:=congrArg List.length S.pre; rw [List.length_take] at this; omega
 refine F.ok S (fun vs H Q E h=>?_) (fun cdv A outer s H vs Q E hr h=>?_)
 ·obtain ⟨G,ds,pp,r,_,a,_⟩:=h
  rw [a.len.1,hm]
 obtain ⟨G,ds,pp,r,g,a,hf,q⟩:=h
 refine ⟨_,((hbody cdv A outer s H E H (minus H pp) G (S7 ms pp) hr).ap fun _ _ _=>False).a0J (fun e s z=>?_),?_⟩
 ·obtain ⟨_,_,_,_,_,_,z⟩:=z
  exact z
 have R0:=a66 (N:=N) g a (by rw [a.len.1,hm]; exact hpl)
 unfold G8 at hf
 cases hs:m (z7 N.length ms ds) with
 | none=>rw [hs] at hf; cases hf
 | some sr=>
  rw [hs] at hf
  have hf':a7F ms sr=some r:=hf
  refine ⟨G,z7 N.length ms ds,R0,sr,hs,?_⟩
  have fin:∀ {ρ':k9} {σ':St} {G' H':Hp} {fins:List D},X6 ms ρ'=some fins→RS ⟨K,H,minus H pp,G,S7 ms pp⟩ G' H' σ' ρ'→After K G H pp G' H' fins:=fun {ρ' σ' G' H' fins} e R'=>
   ⟨R'.keep,R'.g0,R'.gH,R'.gnew,R'.dom,a06 R' a 0 ρ' fins (fun i=>by rw [Nat.zero_add]) (fun i=>by rw [Nat.zero_add]) e⟩
  cases sr with
  | nx ρ'=>
   obtain ⟨fins,e,rfl⟩:=Option.map_eq_some_iff.mp hf'
   exact fun σ' G' H' s' R'=>q .A3 G' H' (fin e R') .A3
  | rt w' ρ'=>
   cases w' with
   | slot i=>cases hf'
   | val d=>
    obtain ⟨fins,e,rfl⟩:=Option.map_eq_some_iff.mp hf'
    exact fun v σ' G' H' s' R' rw'=>q v G' H' (fin e R') rw'
   | own d=>
    obtain ⟨fins,e,rfl⟩:=Option.map_eq_some_iff.mp hf'
    exact fun v σ' G' H' s' R' rw'=>q v G' H' (fin e R') (let ⟨p,a1,a2,a3,a4,_⟩:=rw'; ⟨p,a1,a2,a3,a4⟩)
  | ex x ρ'=>
   obtain ⟨fins,e,rfl⟩:=Option.map_eq_some_iff.mp hf'
   exact q.elim
  | bk ρ'=>cases hf'
  | ct ρ'=>cases hf'
theorem hu8 {A:Around}{k:Nat}(hr:U5 k A):A.units + 8 < cLine:=by have:=hr.units; omega
theorem b28 {K:PySem.W.Frag}{fm:List D→Option FR}(h:∀ ns:List Int,ns.length≤63→fm [.lst (ns.map D.int)]=some (.ret (.val (.bl true)) [])):∀ vs H Q E,b1f K vs H Q E→M8 K [false] fm vs H Q E:=by
 rintro vs H Q E ⟨a,ns,rfl,hS,hl,q⟩
 refine ⟨H,[.lst (ns.map D.int)],[],_,j4.refl _,.sh (.lst hS (v5.a9A (K:=K) (G:=H) ns).len (v5.a9A (K:=K) (G:=H) ns).get) .nil,h ns hl,fun v G' H' _ r=>?_⟩
 cases (show Rep K G' v (.bl true) from r)
 exact q H'
end
end L3
set_option Elab.async false
set_option linter.all false
set_option maxRecDepth 100000
set_option maxHeartbeats 4000000
namespace L3
open PySem PySem.Spec PyProof.Rows L2
noncomputable def a1s:Nat→D→Bool
 | _,.A3=>true
 | _,.bl _=>true
 | _,.int _=>true
 | _,.str _=>true
 | _,.ty _=>true
 | n + 1,.tup ds=>ds.all (a1s n)
 | _,_=>false
noncomputable abbrev Q8 (d:D):Bool:=a1s 6 d
noncomputable def a3j:W→Bool
 | .val d=>Q8 d
 | .own (.lst ds)=>ds.all Q8
 | .own (.dct es)=>es.all fun e=>Q8 e.2
 | _=>false
noncomputable def Y7:D→Bool
 | .lst ds=>ds.all Q8
 | .dct es=>es.all fun e=>Q8 e.2
 | _=>false
noncomputable def a8z:Option HO→Prop
 | some (.lst _)=>True
 | some (.dK _)=>True
 | _=>False
section
variable {K:PySem.W.Frag}{G H:Hp}{bs:List Addr}
theorem a99 {a:Addr}{xs:List V}(hb:∀ b∈bs,a8z (G b))(h:W5 K G a xs):W5 K (minus G bs) a xs:=by
 rcases h with (h | ⟨o,h⟩) | h
 ·refine .inl (.inl ?_)
  rw [a1a fun m=>?_]
  ·exact h
  ·have:=hb a m; rw [h] at this; exact this
 ·refine .inl (.inr ⟨o,?_⟩)
  rw [a1a fun m=>?_]
  ·exact h
  ·have:=hb a m; rw [h] at this; exact this
 ·exact .inr h
theorem Rep.minus:∀ (n:Nat) {v:V} {d:D},(∀ b∈bs,a8z (G b))→a1s n d=true→Rep K G v d→Rep K (minus G bs) v d:=by
 intro n
 induction n with
 | zero=>
  intro v d hb hf h
  cases h with
  | A3=>exact .A3
  | bl b=>exact .bl b
  | int b=>exact .int b
  | str b=>exact .str b
  | ty b=>exact .ty b
  | tup _ _ _=>cases hf
  | lst _ _ _=>cases hf
  | dct _ _ _=>cases hf
 | succ n ih=>
  intro v d hb hf h
  cases h with
  | A3=>exact .A3
  | bl b=>exact .bl b
  | int b=>exact .int b
  | str b=>exact .str b
  | ty b=>exact .ty b
  | @tup a xs ds h l r=>
   have hf':=List.all_eq_true.mp (show ds.all (a1s n)=true from hf)
   exact .tup (a99 hb h) l fun j x d a b=>ih hb (hf' d (List.mem_of_getElem? b)) (r j x d a b)
  | lst _ _ _=>cases hf
  | dct _ _ _=>cases hf
theorem v5.minus {xs:List V}{ds:List D}(hb:∀ b∈bs,a8z (G b))(hf:ds.all Q8=true)(h:v5 K G xs ds):v5 K (minus G bs) xs ds:=
 ⟨h.len,fun j x d a b=>Rep.minus 6 hb (List.all_eq_true.mp hf d (List.mem_of_getElem? b)) (h.get j x d a b)⟩
theorem l5.minus {xs:List (Key×V)}{ds:List (Key×D)}(hb:∀ b∈bs,a8z (G b))(hf:(ds.all fun e=>Q8 e.2)=true)(h:l5 K G xs ds):l5 K (minus G bs) xs ds:=
 ⟨h.keys,fun j x d a b=>Rep.minus 6 hb (List.all_eq_true.mp hf d (List.mem_of_getElem? b)) (h.get j x d a b)⟩
theorem E5.minus {p:Addr}{d:D}(hb:∀ b∈bs,a8z (G b))(hf:Y7 d=true)(h:E5 K G H p d):E5 K (minus G bs) H p d:=by
 cases d with
 | lst ds=>obtain ⟨xs,e,r⟩:=h; exact ⟨xs,e,r.minus hb hf⟩
 | dct es=>obtain ⟨xs,e,r⟩:=h; exact ⟨xs,e,r.minus hb hf⟩
 | _=>exact (show False from h).elim
end
noncomputable def L0:List Bool→List W→k9→Option (List D)
 | [],[],_=>some []
 | false::ms,w::ws,ρ=>match getD w ρ,L0 ms ws ρ with
  | some d,some ds=>some (d::ds)
  | _,_=>none
 | true::ms,.slot i::ws,ρ=>match ρ[i]?,L0 ms ws ρ with
  | some (some (.ow _ d)),some ds=>some (d::ds)
  | _,_=>none
 | _,_,_=>none
noncomputable def E8:List Bool→List W→List Nat
 | true::ms,.slot i::ws=>i::E8 ms ws
 | _::ms,_::ws=>E8 ms ws
 | _,_=>[]
noncomputable def V7 (ρ:k9):List Bool→List W→List Nat
 | false::ms,.slot i::ws=>match ρ[i]? with
  | some (some (.ow _ _))=>i::V7 ρ ms ws
  | _=>V7 ρ ms ws
 | _::ms,_::ws=>V7 ρ ms ws
 | _,_=>[]
noncomputable def a7g:List Nat→List D→k9→Option k9
 | [],[],ρ=>some ρ
 | i::is,d::ds,ρ=>match ρ[i]? with
  | some (some (.ow l _))=>a7g is ds (ρ.set i (some (.ow l d)))
  | _=>none
 | _,_,_=>none
noncomputable def a0U:List Nat→k9→Option k9
 | [],ρ=>some ρ
 | i::is,ρ=>match ρ[i]? with
  | some (some (.ow false d))=>a0U is (ρ.set i (some (.sh d)))
  | some (some (.sh _))=>a0U is ρ
  | _=>none
noncomputable def a4e (ls bs:List Nat):Bool:=decide ls.Nodup && ls.all fun i=>!bs.contains i
noncomputable def a7P (ms:List Bool)(fm:List D→Option FR)(ws:List W):M W:=fun ρ=>match L0 ms ws ρ with
 | none=>none
 | some ds=>if a4e (E8 ms ws) (V7 ρ ms ws)=true then match fm ds with
  | some (.ret w fin)=>match a7g (E8 ms ws) fin ρ with
   | none=>none
   | some ρ1=>if (a3j w && fin.all Y7)=true then some (.ok w ρ1) else (a0U (V7 ρ ms ws) ρ1).map (R'.ok w ·)
  | _=>none
  else none
noncomputable def n5 (ms:List Bool)(fm:List D→Option FR)(m:M (List W)):M W:=M.bind m fun ws=>a7P ms fm ws
noncomputable def n8 (σ:St)(is:List Nat):List Addr:=is.filterMap fun i=>match σ[i]? with
 | some (some (V.ref p))=>some p
 | _=>none
section
variable {B:Bs}{G H:Hp}{σ:St}{ρ:k9}
theorem L4 {is:List Nat}{p:Addr}:p∈n8 σ is↔∃ i∈is,σ[i]?=some (some (.ref p)):=by
 unfold n8
 rw [List.mem_filterMap]
 constructor
 ·rintro ⟨i,hi,e⟩
  refine ⟨i,hi,?_⟩
  split at e
  ·cases e; assumption
  ·cases e
 ·rintro ⟨i,hi,e⟩
  exact ⟨i,hi,by rw [e]⟩
noncomputable def plus (G H:Hp)(bs:List Addr):Hp:=fun b=>if b∈bs then H b else G b
theorem T8 {bs:List Addr}{b:Addr}(h:b∈bs):plus G H bs b=H b:=if_pos h
theorem O0 {bs:List Addr}{b:Addr}(h:b∉bs):plus G H bs b=G b:=if_neg h
theorem a1f:∀ {ms:List Bool} {ws:List W} {i:Nat},i∈V7 ρ ms ws→∃ l d,ρ[i]?=some (some (.ow l d))
 | [],[],i,h=>by cases h
 | [],_::_,i,h=>by cases h
 | true::_,[],i,h=>by cases h
 | false::_,[],i,h=>by cases h
 | true::ms,w::ws,i,h=>by
  have h':i∈V7 ρ ms ws:=by cases w <;> exact h
  exact a1f h'
 | false::ms,.val _::ws,i,h=>a1f (ms:=ms) (ws:=ws) h
 | false::ms,.own _::ws,i,h=>a1f (ms:=ms) (ws:=ws) h
 | false::ms,.slot j::ws,i,h=>by
  unfold V7 at h
  split at h
  ·rename_i l d hj
   rcases List.mem_cons.mp h with rfl | h
   ·exact ⟨l,d,hj⟩
   ·exact a1f h
  ·exact a1f h
theorem args_call (R:RS B G H σ ρ){bs:List Addr}(g1:j4 G (plus G H bs)):∀ {ms:List Bool} {ws:List W} {vs:List V} {ds:List D},N6 B G H σ ρ vs ws→L0 ms ws ρ=some ds→(∀ i∈V7 ρ ms ws,∀ p,σ[i]?=some (some (.ref p))→p∈bs)→(∀ i∈E8 ms ws,∀ p,σ[i]?=some (some (.ref p))→p∉bs)→(E8 ms ws).Nodup→
  S0 B.K (plus G H bs) H ms vs ds (n8 σ (E8 ms ws))
 | [],[],_,ds,q,e,_,_,_=>by cases q; cases e; exact .nil
 | [],_::_,_,_,_,e,_,_,_=>by cases e
 | true::_,[],_,_,_,e,_,_,_=>by cases e
 | false::_,[],_,_,_,e,_,_,_=>by cases e
 | false::ms,w::ws,_,ds,q,e,hb,hl,nd=>by
  cases q with
  | @cons v _ vs _ h t=>
   unfold L0 at e
   cases h1:getD w ρ with
   | none=>rw [h1] at e; cases e
   | some d=>
    cases h2:L0 ms ws ρ with
    | none=>rw [h1,h2] at e; cases e
    | some ds2=>
     rw [h1,h2] at e
     cases e
     have el:E8 (false::ms) (w::ws)=E8 ms ws:=by cases w <;> rfl
     rw [el] at hl nd ⊢
     have hb2:∀ i∈V7 ρ ms ws,∀ p,σ[i]?=some (some (.ref p))→p∈bs:=fun i hi=>hb i (by
      cases w with
      | slot j=>
       unfold V7
       split
       ·exact List.mem_cons_of_mem _ hi
       ·exact hi
      | val _=>exact hi
      | own _=>exact hi)
     refine .sh ?_ (args_call R g1 t h2 hb2 hl nd)
     rcases h.1.get R h1 with r | ⟨p,rfl,o⟩
     ·exact r.same g1
     ·
      cases w with
      | val _=>cases h1; exact Rep.same g1 h.1
      | own _=>exact absurd (show false=true from h.2) Bool.false_ne_true
      | slot j=>
       have hv:σ[j]?=some (some (.ref p)):=h.1
       have hj:∃ l d',ρ[j]?=some (some (.ow l d'))∨(∃ d',ρ[j]?=some (some (.sh d')))∨∃ es,ρ[j]?=some (some (.fz es)):=by
        unfold getD at h1
        simp only [] at h1
        split at h1
        ·rename_i d' q; exact ⟨true,d',.inr (.inl ⟨_,q⟩)⟩
        ·rename_i l d' q; exact ⟨l,d',.inl q⟩
        ·rename_i es q; exact ⟨true,.A3,.inr (.inr ⟨es,q⟩)⟩
        ·cases h1
       obtain ⟨l,d',hj | ⟨d2,hj⟩ | ⟨es,hj⟩⟩:=hj
       ·have ed:d=d':=by
         unfold getD at h1
         simp only [hj] at h1
         exact (Option.some.inj h1).symm
        subst ed
        have hp:p∈bs:=hb j (by unfold V7; rw [hj]; exact List.mem_cons_self) p hv
        cases d with
        | lst ds=>
         obtain ⟨xs,e,r⟩:=o
         have r':=r.same g1
         exact .lst (L8.of (by rw [T8 hp]; exact e)) r'.len r'.get
        | dct es=>
         obtain ⟨xs,e,r⟩:=o
         have r':=r.same g1
         exact .dct (.inl (by rw [T8 hp]; exact e)) r'.keys r'.get
        | _=>exact (show False from o).elim
       ·obtain ⟨v',q1,r⟩:=R.sh j d2 hj
        rw [hv] at q1
        cases q1
        have ed:d=d2:=by
         unfold getD at h1
         simp only [hj] at h1
         exact (Option.some.inj h1).symm
        subst ed
        exact r.same g1
       ·obtain ⟨a,ob,kvs,q1,q2,q3⟩:=R.fz j es hj
        rw [hv] at q1
        cases q1
        have ed:d=.dct es:=by
         unfold getD at h1
         simp only [hj] at h1
         exact (Option.some.inj h1).symm
        subst ed
        have r':=q3.same g1
        exact .dct (.inr ⟨ob,g1 _ _ q2⟩) r'.keys r'.get
 | true::ms,.val _::ws,_,ds,q,e,_,_,_=>by cases e
 | true::ms,.own _::ws,_,ds,q,e,_,_,_=>by cases e
 | true::ms,.slot i::ws,_,ds,q,e,hb,hl,nd=>by
  cases q with
  | @cons v _ vs _ h t=>
   unfold L0 at e
   split at e
   ·rename_i l d ds2 hi h2
    cases e
    have hv:σ[i]?=some (some v):=h.1
    obtain ⟨p,q1,q2,q3,q4,q5⟩:=R.ow i l d hi
    rw [hv] at q1
    cases q1
    have el:E8 (true::ms) (.slot i::ws)=i::E8 ms ws:=rfl
    rw [el] at hl nd ⊢
    obtain ⟨n1,n2⟩:=List.nodup_cons.mp nd
    have ea:n8 σ (i::E8 ms ws)=p::n8 σ (E8 ms ws):=by
     unfold n8
     rw [List.filterMap_cons,hv]
    rw [ea]
    have hp:p∉bs:=hl i List.mem_cons_self p hv
    refine .ln (by rw [O0 hp]; exact q2) (q5.same g1 rfl) (fun m=>?_) (args_call R g1 t h2 (fun j hj=>hb j hj) (fun j hj=>hl j (List.mem_cons_of_mem _ hj)) n2)
    obtain ⟨j,hj,ej⟩:=L4.mp m
    have hoj:∃ l d,ρ[j]?=some (some (.ow l d)):=by
     clear hl n1 n2 nd ea m
     have key:∀ {ms:List Bool} {ws:List W} {ds:List D},L0 ms ws ρ=some ds→∀ j∈E8 ms ws,∃ l d,ρ[j]?=some (some (.ow l d)):=by
      intro ms
      induction ms with
      | nil=>intro ws ds e j hj; cases ws <;> cases hj
      | cons m ms ih=>
       intro ws ds e j hj
       cases ws with
       | nil=>cases m <;> cases hj
       | cons w ws=>
        cases m with
        | false=>
         have el:E8 (false::ms) (w::ws)=E8 ms ws:=by cases w <;> rfl
         rw [el] at hj
         unfold L0 at e
         split at e
         ·rename_i h2; exact ih h2 j hj
         ·cases e
        | true=>
         cases w with
         | val _=>cases e
         | own _=>cases e
         | slot k=>
          unfold L0 at e
          split at e
          ·rename_i l d ds2 hk h2
           rcases List.mem_cons.mp hj with rfl | hj
           ·exact ⟨l,d,hk⟩
           ·exact ih h2 j hj
          ·cases e
     exact key h2 j hj
    obtain ⟨l2,d2,hj2⟩:=hoj
    have:=R.inj i j l d l2 d2 p hi hj2 hv ej
    subst this
    exact n1 hj
   ·cases e
theorem a7K:∀ {is:List Nat} {ds:List D} {ρ ρ':k9},a7g is ds ρ=some ρ'→is.Nodup→ρ'.length=ρ.length∧(∀ i,i∉is→ρ'[i]?=ρ[i]?)∧∀ (k i:Nat),is[k]?=some i→∃ l d d',ρ[i]?=some (some (.ow l d))∧ds[k]?=some d'∧ρ'[i]?=some (some (.ow l d'))
 | [],[],ρ,ρ',e,_=>by cases e; exact ⟨rfl,fun _ _=>rfl,fun k i h=>by simp at h⟩
 | [],_::_,_,_,e,_=>by cases e
 | _::_,[],_,_,e,_=>by cases e
 | i::is,d::ds,ρ,ρ',e,nd=>by
  unfold a7g at e
  split at e
  ·rename_i l d0 hi
   have hil:i < ρ.length:=(List.getElem?_eq_some_iff.mp hi).1
   obtain ⟨n1,n2⟩:=List.nodup_cons.mp nd
   obtain ⟨a,b,c⟩:=a7K e n2
   refine ⟨by rw [a]; simp,fun j hj=>?_,fun k j hk=>?_⟩
   ·rw [b j fun m=>hj (List.mem_cons_of_mem _ m),List.getElem?_set_ne fun z=>hj (by rw [z]; exact List.mem_cons_self)]
   ·cases k with
    | zero=>
     simp at hk
     subst hk
     exact ⟨l,d0,d,hi,rfl,by rw [b i n1,List.getElem?_set_self hil]⟩
    | succ k=>
     have hk':is[k]?=some j:=by simpa using hk
     obtain ⟨l',d1,d2,e1,e2,e3⟩:=c k j hk'
     have hne:i≠j:=fun z=>n1 (by rw [z]; exact List.mem_of_getElem? hk')
     rw [List.getElem?_set_ne hne] at e1
     exact ⟨l',d1,d2,e1,by simpa using e2,e3⟩
  ·cases e
theorem a1z:∀ {is:List Nat} {ρ ρ':k9},a0U is ρ=some ρ'→ρ'.length=ρ.length∧(∀ i,i∉is→ρ'[i]?=ρ[i]?)∧∀ i∈is,∃ d,ρ'[i]?=some (some (.sh d))∧(ρ[i]?=some (some (.ow false d))∨ρ[i]?=some (some (.sh d)))
 | [],ρ,ρ',e=>by cases e; exact ⟨rfl,fun _ _=>rfl,fun i h=>by cases h⟩
 | i::is,ρ,ρ',e=>by
  unfold a0U at e
  split at e
  ·rename_i d hi
   have hil:i < ρ.length:=(List.getElem?_eq_some_iff.mp hi).1
   obtain ⟨a,b,c⟩:=a1z e
   refine ⟨by rw [a]; simp,fun j hj=>?_,fun j hj=>?_⟩
   ·rw [b j fun m=>hj (List.mem_cons_of_mem _ m),List.getElem?_set_ne fun z=>hj (by rw [z]; exact List.mem_cons_self)]
   ·by_cases z:i=j
    ·subst z
     by_cases m:i∈is
     ·obtain ⟨d',e1,e2⟩:=c i m
      rw [List.getElem?_set_self hil] at e2
      rcases e2 with e2 | e2
      ·cases e2
      ·cases e2
       exact ⟨d,e1,.inl hi⟩
     ·exact ⟨d,by rw [b i m,List.getElem?_set_self hil],.inl hi⟩
    ·have hj':j∈is:=by rcases List.mem_cons.mp hj with h | h; exact absurd h.symm z; exact h
     obtain ⟨d',e1,e2⟩:=c j hj'
     rw [List.getElem?_set_ne z] at e2
     exact ⟨d',e1,e2⟩
  ·rename_i d hi
   obtain ⟨a,b,c⟩:=a1z e
   refine ⟨a,fun j hj=>b j fun m=>hj (List.mem_cons_of_mem _ m),fun j hj=>?_⟩
   rcases List.mem_cons.mp hj with rfl | hj
   ·by_cases m:j∈is
    ·exact c j m
    ·exact ⟨d,by rw [b j m]; exact hi,.inr hi⟩
   ·exact c j hj
  ·cases e
theorem a5x:∀ {is:List Nat} {k i:Nat} {p:Addr},(∀ j∈is,∃ q,σ[j]?=some (some (.ref q)))→is[k]?=some i→σ[i]?=some (some (.ref p))→(n8 σ is)[k]?=some p
 | [],k,i,p,_,h,_=>by simp at h
 | j::is,k,i,p,ha,h,e=>by
  obtain ⟨q,hq⟩:=ha j List.mem_cons_self
  have ea:n8 σ (j::is)=q::n8 σ is:=by
   unfold n8
   rw [List.filterMap_cons,hq]
  rw [ea]
  cases k with
  | zero=>
   simp at h
   subst h
   rw [hq] at e
   cases e
   rfl
  | succ k=>exact a5x (fun l hl=>ha l (List.mem_cons_of_mem _ hl)) (by simpa using h) e
theorem a1B {α β:Type}{F:α→β→Prop}:∀ {xs:List α} {ys:List β} {k:Nat} {x:α} {y:β},Paired F xs ys→xs[k]?=some x→ys[k]?=some y→F x y
 | _,_,0,_,_,.cons h _,a,b=>by simp at a b; subst a b; exact h
 | _,_,k + 1,_,_,.cons _ t,a,b=>a1B (k:=k) t (by simpa using a) (by simpa using b)
 | _,_,_,_,_,.nil,a,_=>by simp at a
theorem b4I {p:Addr}{d:D}{K:PySem.W.Frag}(o:E5 K G H p d):a8z (H p):=by
 cases d with
 | lst ds=>obtain ⟨xs,e,_⟩:=o; rw [e]; exact True.intro
 | dct es=>obtain ⟨xs,e,_⟩:=o; rw [e]; exact True.intro
 | _=>exact (show False from o).elim
theorem a0k {bi li:List Nat}{G' H':Hp}{fin:List D}{ρ1 ρ2:k9}{v:V}{w:W}(R:RS B G H σ ρ)(hbi:∀ i∈bi,∃ l d,ρ[i]?=some (some (.ow l d)))(hli:∀ i∈li,∃ l d,ρ[i]?=some (some (.ow l d)))(nd:li.Nodup)(ap:∀ i∈li,i∉bi)
  (A:After B.K (plus G H (n8 σ bi)) H (n8 σ li) G' H' fin) (hs:a7g li fin ρ=some ρ1) (rr:a6I B.K H G' H' v w)
  (hend:((a3j w && fin.all Y7)=true∧ρ2=ρ1)∨a0U bi ρ1=some ρ2):∃ Gn,j4 G Gn∧RS B Gn H' σ ρ2∧F9 B Gn H' σ ρ2 v w:=by
 have refs:∀ {i l d},ρ[i]?=some (some (.ow l d))→∃ p,σ[i]?=some (some (.ref p))∧G p=none∧B.HK p=none∧Lnt B i l p∧E5 B.K G H p d:=fun h=>R.ow _ _ _ h
 have hlr:∀ j∈li,∃ q,σ[j]?=some (some (.ref q)):=fun j hj=>by
  obtain ⟨l,d,h⟩:=hli j hj
  obtain ⟨p,q,_⟩:=refs h
  exact ⟨p,q⟩
 have inB:∀ {b},b∈n8 σ bi→∃ i l d,i∈bi∧ρ[i]?=some (some (.ow l d))∧σ[i]?=some (some (.ref b))∧G b=none∧B.HK b=none∧Lnt B i l b∧E5 B.K G H b d:=fun {b} hb=>by
  obtain ⟨i,hi,e⟩:=L4.mp hb
  obtain ⟨l,d,h⟩:=hbi i hi
  obtain ⟨p,q1,q2,q3,q4,q5⟩:=refs h
  rw [e] at q1
  cases q1
  exact ⟨i,l,d,hi,h,e,q2,q3,q4,q5⟩
 have inL:∀ {b},b∈n8 σ li→∃ i l d,i∈li∧ρ[i]?=some (some (.ow l d))∧σ[i]?=some (some (.ref b))∧G b=none∧B.HK b=none:=fun {b} hb=>by
  obtain ⟨i,hi,e⟩:=L4.mp hb
  obtain ⟨l,d,h⟩:=hli i hi
  obtain ⟨p,q1,q2,q3,q4,q5⟩:=refs h
  rw [e] at q1
  cases q1
  exact ⟨i,l,d,hi,h,e,q2,q3⟩
 have s1:j4 G (plus G H (n8 σ bi)):=fun b o e=>by
  rw [O0 fun m=>?_]
  ·exact e
  ·obtain ⟨_,_,_,_,_,_,g,_⟩:=inB m
   rw [e] at g
   cases g
 have s2:j4 G G':=s1.trans A.gg
 have bsLD:∀ b∈n8 σ bi,a8z (G' b):=fun b hb=>by
  obtain ⟨i,l,d,_,_,_,_,_,_,o⟩:=inB hb
  obtain ⟨ob,hob⟩:=o.some
  have e:=A.gg b ob (by rw [T8 hb]; exact hob)
  have z:=b4I o
  rw [hob] at z
  rw [e]
  exact z
 obtain ⟨len1,out1,at1⟩:=a7K hs nd
 
 have keepH:∀ b o,H b=some o→b∉n8 σ li→H' b=some o:=fun b o e hb=>A.keep b o (by rw [a1a hb]; exact e)
 have keepK:j4 B.HK H':=fun b o e=>keepH b o (R.keep b o e) fun m=>by
  obtain ⟨_,_,_,_,_,_,_,hk⟩:=inL m
  rw [e] at hk
  cases hk
 have notG':∀ p,G p=none→p∉n8 σ bi→(∃ o,H p=some o)→G' p=none:=fun p g nb ⟨o,ho⟩=>by
  cases hg:G' p with
  | none=>rfl
  | some ob=>
   rcases A.gnew p ob hg with z | z
   ·rw [O0 nb,g] at z; cases z
   ·rw [ho] at z; cases z
 
 have lentOk:∀ {i},i∈li→∀ {l d'},ρ1[i]?=some (some (.ow l d'))→∃ p,σ[i]?=some (some (.ref p))∧G' p=none∧B.HK p=none∧Lnt B i l p∧E5 B.K G' H' p d'∧d'∈fin:=fun {i} hi {l d'} e=>by
  obtain ⟨k,hk⟩:=List.getElem?_of_mem hi
  obtain ⟨l0,d0,d1,e0,e1,e2⟩:=at1 k i hk
  rw [e] at e2
  cases e2
  obtain ⟨p,q1,q2,q3,q4,q5⟩:=refs e0
  have hp:=a5x hlr hk q1
  obtain ⟨z1,z2⟩:=a1B A.lent hp e1
  exact ⟨p,q1,z1,q3,q4,z2,List.mem_of_getElem? e1⟩
 have otherOk:∀ {i},i∉li→∀ {l d'},ρ1[i]?=some (some (.ow l d'))→∃ p,σ[i]?=some (some (.ref p))∧G p=none∧B.HK p=none∧Lnt B i l p∧E5 B.K G H p d'∧H' p=H p∧ρ[i]?=some (some (.ow l d')):=fun {i} hi {l d'} e=>by
  rw [out1 i hi] at e
  obtain ⟨p,q1,q2,q3,q4,q5⟩:=refs e
  obtain ⟨o,ho⟩:=q5.some
  refine ⟨p,q1,q2,q3,q4,q5,?_,e⟩
  rw [ho]
  refine keepH p o ho fun m=>?_
  obtain ⟨j,l2,d2,hj,ej,ej2,_⟩:=inL m
  exact hi (by rw [R.inj i j _ _ _ _ p e ej q1 ej2]; exact hj)
 have sh1:∀ {i:Nat} {d':D},ρ1[i]?=some (some (C.sh d'))→ρ[i]?=some (some (C.sh d')):=fun {i d'} e=>by
  by_cases hi:i∈li
  ·obtain ⟨k,hk⟩:=List.getElem?_of_mem hi
   obtain ⟨l0,d0,d1,e0,e1,e2⟩:=at1 k i hk
   rw [e] at e2
   cases e2
  ·rw [out1 i hi] at e
   exact e
 have fz1:∀ {i:Nat} {es:List (Key×D)},ρ1[i]?=some (some (C.fz es))→ρ[i]?=some (some (C.fz es)):=fun {i es} e=>by
  by_cases hi:i∈li
  ·obtain ⟨k,hk⟩:=List.getElem?_of_mem hi
   obtain ⟨l0,d0,d1,e0,e1,e2⟩:=at1 k i hk
   rw [e] at e2
   cases e2
  ·rw [out1 i hi] at e
   exact e
 have inj1:∀ {i j:Nat} {l:Bool} {d:D} {k:Bool} {e:D} {p:Addr},ρ1[i]?=some (some (.ow l d))→ρ1[j]?=some (some (.ow k e))→σ[i]?=some (some (.ref p))→σ[j]?=some (some (.ref p))→i=j:=fun {i j l d k e p} a b c f=>by
  have old:∀ {i:Nat} {l:Bool} {d:D},ρ1[i]?=some (some (.ow l d))→∃ l d,ρ[i]?=some (some (.ow l d)):=fun {i l d} a=>by
   by_cases hi:i∈li
   ·exact hli i hi
   ·rw [out1 i hi] at a; exact ⟨_,_,a⟩
  obtain ⟨l1,d1,a1⟩:=old a
  obtain ⟨l2,d2,a2⟩:=old b
  exact R.inj i j l1 d1 l2 d2 p a1 a2 c f
 rcases hend with ⟨hf,rfl⟩ | hsh
 ·
  rw [Bool.and_eq_true] at hf
  obtain ⟨fw,ff⟩:=hf
  have sN:j4 G (minus G' (n8 σ bi)):=fun b o e=>by
   rw [a1a fun m=>?_]
   ·exact s2 b o e
   ·obtain ⟨_,_,_,_,_,_,g,_⟩:=inB m
    rw [e] at g
    cases g
  refine ⟨minus G' (n8 σ bi),sN,⟨R.hk,keepK,R.g0.trans sN,(Q2 _ _).trans A.gH,fun b o e=>?_,fun b e=>R.dom b (A.dom b e),by rw [len1]; exact R.len,fun i d e=>?_,fun i l d e=>?_,fun i j l d k e p a b c f=>inj1 a b c f,fun i es e=>(R.fz.same sN) i es (fz1 e)⟩,?_⟩
  ·have e':=Q2 _ _ b o e
   have nb:b∉n8 σ bi:=fun m=>by rw [a7p m] at e; cases e
   rcases A.gnew b o e' with z | z
   ·rw [O0 nb] at z
    exact R.gnew b o z
   ·exact .inr (R.dom b z)
  ·obtain ⟨v,q1,q2⟩:=R.sh i d (sh1 e)
   exact ⟨v,q1,q2.same sN⟩
  ·by_cases hi:i∈li
   ·obtain ⟨p,q1,q2,q3,q4,q5,q6⟩:=lentOk hi e
    refine ⟨p,q1,?_,q3,q4,q5.minus bsLD (List.all_eq_true.mp ff d q6)⟩
    unfold minus
    split
    ·rfl
    ·exact q2
   ·obtain ⟨p,q1,q2,q3,q4,q5,q6,q7⟩:=otherOk hi e
    refine ⟨p,q1,?_,q3,q4,q5.same sN q6⟩
    unfold minus
    split
    ·rfl
    ·exact notG' p q2 ‹_› q5.some
  ·cases w with
   | val d=>exact Rep.minus 6 bsLD fw rr
   | slot i=>exact rr.elim
   | own d=>
    obtain ⟨p,rfl,g,h0,o⟩:=rr
    have fo:Y7 d=true:=by
     cases d with
     | lst ds=>exact fw
     | dct es=>exact fw
     | _=>exact (show False from o).elim
    refine ⟨p,rfl,?_,R.dom p h0,o.minus bsLD fo,fun i l e he z=>?_⟩
    ·unfold minus
     split
     ·rfl
     ·exact g
    ·have hz:∃ ob,H p=some ob:=by
      by_cases hi:i∈li
      ·obtain ⟨l0,d0,a0⟩:=hli i hi
       obtain ⟨p',q1,_,_,_,q5⟩:=refs a0
       rw [z] at q1
       cases q1
       exact q5.some
      ·obtain ⟨p',q1,q2,q3,q4,q5,_⟩:=otherOk hi he
       rw [z] at q1
       cases q1
       exact q5.some
     obtain ⟨ob,hob⟩:=hz
     rw [h0] at hob
     cases hob
 ·
  obtain ⟨len2,out2,at2⟩:=a1z hsh
  have ow2:∀ {i:Nat} {l:Bool} {d:D},ρ2[i]?=some (some (.ow l d))→i∉bi∧ρ1[i]?=some (some (.ow l d)):=fun {i l d} e=>by
   have hi:i∉bi:=fun m=>by
    obtain ⟨d',e1,_⟩:=at2 i m
    rw [e] at e1
    cases e1
   exact ⟨hi,by rw [← out2 i hi]; exact e⟩
  have fz2:∀ {i:Nat} {es:List (Key×D)},ρ2[i]?=some (some (C.fz es))→ρ1[i]?=some (some (C.fz es)):=fun {i es} e=>by
   have hi:i∉bi:=fun m=>by
    obtain ⟨d',e1,_⟩:=at2 i m
    rw [e] at e1
    cases e1
   rw [← out2 i hi]
   exact e
  refine ⟨G',s2,⟨R.hk,keepK,R.g0.trans s2,A.gH,fun b o e=>?_,fun b e=>R.dom b (A.dom b e),by rw [len2,len1]; exact R.len,fun i d e=>?_,fun i l d e=>?_,fun i j l d k e p a b c f=>inj1 (ow2 a).2 (ow2 b).2 c f,fun i es e=>(R.fz.same s2) i es (fz1 (fz2 e))⟩,?_⟩
  ·rcases A.gnew b o e with z | z
   ·by_cases m:b∈n8 σ bi
    ·obtain ⟨i,l,d,hi,h,e2,g,_,ln,o'⟩:=inB m
     obtain ⟨d',e3,e4⟩:=at2 i hi
     have hil:i∉li:=fun mm=>ap i mm hi
     rw [out1 i hil,h] at e4
     rcases e4 with e4 | e4
     ·cases e4
      exact .inr ln
     ·cases e4
    ·rw [O0 m] at z
     exact R.gnew b o z
   ·exact .inr (R.dom b z)
  ·by_cases hi:i∈bi
   ·obtain ⟨d',e1,e2⟩:=at2 i hi
    rw [e] at e1
    cases e1
    have hil:i∉li:=fun mm=>ap i mm hi
    rw [out1 i hil] at e2
    rcases e2 with e2 | e2
    ·obtain ⟨p,q1,q2,q3,q4,q5⟩:=refs e2
     have hp:p∈n8 σ bi:=L4.mpr ⟨i,hi,q1⟩
     refine ⟨_,q1,?_⟩
     cases d with
     | lst ds=>
      obtain ⟨xs,e,r⟩:=q5
      have r':=r.same s2
      exact .lst (L8.of (A.gg p _ (by rw [T8 hp]; exact e))) r'.len r'.get
     | dct es=>
      obtain ⟨xs,e,r⟩:=q5
      have r':=r.same s2
      exact .dct (.inl (A.gg p _ (by rw [T8 hp]; exact e))) r'.keys r'.get
     | _=>exact (show False from q5).elim
    ·obtain ⟨v,q1,q2⟩:=R.sh i d e2
     exact ⟨v,q1,q2.same s2⟩
   ·rw [out2 i hi] at e
    obtain ⟨v,q1,q2⟩:=R.sh i d (sh1 e)
    exact ⟨v,q1,q2.same s2⟩
  ·obtain ⟨hb,e1⟩:=ow2 e
   by_cases hi:i∈li
   ·obtain ⟨p,q1,q2,q3,q4,q5,_⟩:=lentOk hi e1
    exact ⟨p,q1,q2,q3,q4,q5⟩
   ·obtain ⟨p,q1,q2,q3,q4,q5,q6,q7⟩:=otherOk hi e1
    refine ⟨p,q1,notG' p q2 (fun m=>?_) q5.some,q3,q4,q5.same s2 q6⟩
    obtain ⟨j,l2,d2,hj,ej,ej2,_⟩:=inB m
    exact hb (by rw [R.inj i j _ _ _ _ p q7 ej q1 ej2]; exact hj)
  ·cases w with
   | val d=>exact rr
   | slot i=>exact rr.elim
   | own d=>
    obtain ⟨p,rfl,g,h0,o⟩:=rr
    refine ⟨p,rfl,g,R.dom p h0,o,fun i l e he z=>?_⟩
    obtain ⟨hb,e1⟩:=ow2 he
    have hz:∃ ob,H p=some ob:=by
     by_cases hi:i∈li
     ·obtain ⟨l0,d0,a0⟩:=hli i hi
      obtain ⟨p',q1,_,_,_,q5⟩:=refs a0
      rw [z] at q1
      cases q1
      exact q5.some
     ·obtain ⟨p',q1,q2,q3,q4,q5,_⟩:=otherOk hi e1
      rw [z] at q1
      cases q1
      exact q5.some
    obtain ⟨ob,hob⟩:=hz
    rw [h0] at hob
    cases hob
theorem b1e:∀ {ms:List Bool} {ws:List W} {ds:List D},L0 ms ws ρ=some ds→∀ j∈E8 ms ws,∃ l d,ρ[j]?=some (some (.ow l d)):=by
 intro ms
 induction ms with
 | nil=>intro ws ds e j hj; cases ws <;> cases hj
 | cons m ms ih=>
  intro ws ds e j hj
  cases ws with
  | nil=>cases m <;> cases hj
  | cons w ws=>
   cases m with
   | false=>
    have el:E8 (false::ms) (w::ws)=E8 ms ws:=by cases w <;> rfl
    rw [el] at hj
    unfold L0 at e
    split at e
    ·rename_i h2; exact ih h2 j hj
    ·cases e
   | true=>
    cases w with
    | val _=>cases e
    | own _=>cases e
    | slot k=>
     unfold L0 at e
     split at e
     ·rename_i l d ds2 hk h2
      rcases List.mem_cons.mp hj with rfl | hj
      ·exact ⟨l,d,hk⟩
      ·exact ih h2 j hj
     ·cases e
end
section
variable {X:Cx}{B:Bs}{k:Nat}{x:Str}{ps:List Str}{ms:List Bool}{fm:List D→Option FR}{e:Expr}{es:List Expr}{mr:M (List W)}{p pos:Pos}
theorem b3y {ξ:XP}{σ:St}{H:Hp}{Q:VK}(t:TD D6 B ξ (n5 ms fm mr) σ H Q):b1q (M8 B.K ms fm) [] E0 (TD N6 B ξ mr) σ H Q:=by
 obtain ⟨G,ρ,R,t⟩:=t
 refine (TD.bind (rel:=N6) R t).mono fun vs H1 ⟨G1,ρ1,ws,s1,R1,q1,r,er,pp⟩=>?_
 rw [List.append_nil]
 unfold a7P at er
 cases ha:L0 ms ws ρ1 with
 | none=>simp only [ha] at er; cases er
 | some ds=>
  simp only [ha] at er
  split at er
  ·rename_i hap
   unfold a4e at hap
   rw [Bool.and_eq_true] at hap
   have nd:(E8 ms ws).Nodup:=of_decide_eq_true hap.1
   have ap:∀ i∈E8 ms ws,i∉V7 ρ1 ms ws:=fun i hi m=>by
    have:=List.all_eq_true.mp hap.2 i hi
    simp at this
    exact this m
   split at er
   ·rename_i w fin hfm
    split at er
    ·cases er
    ·rename_i ρ2 hs
     have hli:=b1e ha
     have hbi:∀ i∈V7 ρ1 ms ws,∃ l d,ρ1[i]?=some (some (.ow l d)):=fun i hi=>a1f hi
     have s2:j4 G1 (plus G1 H1 (n8 σ (V7 ρ1 ms ws))):=fun b o e=>by
      rw [O0 fun m=>?_]
      ·exact e
      ·obtain ⟨i,hi,e2⟩:=L4.mp m
       obtain ⟨l,d,h⟩:=hbi i hi
       obtain ⟨p',a1,a2,_⟩:=R1.ow i l d h
       rw [e2] at a1
       cases a1
       rw [e] at a2
       cases a2
     have gH:j4 (plus G1 H1 (n8 σ (V7 ρ1 ms ws))) H1:=fun b o e=>by
      by_cases m:b∈n8 σ (V7 ρ1 ms ws)
      ·rw [T8 m] at e; exact e
      ·rw [O0 m] at e; exact R1.gH b o e
     have A:=args_call R1 s2 q1 ha (fun i hi p' e=>L4.mpr ⟨i,hi,e⟩) (fun i hi p' e m=>by
      obtain ⟨j,hj,ej⟩:=L4.mp m
      obtain ⟨l,d,h⟩:=hli i hi
      obtain ⟨l2,d2,h2⟩:=hbi j hj
      have:=R1.inj i j l d l2 d2 p' h h2 e ej
      subst this
      exact ap i hi hj) nd
     refine ⟨_,ds,_,_,gH,A,hfm,fun v G' H' af rr=>?_⟩
     split at er
     ·rename_i hfl
      cases er
      obtain ⟨Gn,sn,Rn,wn⟩:=a0k R1 hbi hli nd ap af hs rr (.inl ⟨hfl,rfl⟩)
      exact pp v Gn H' sn Rn wn
     ·obtain ⟨ρ3,hsh,rfl⟩:=Option.map_eq_some_iff.mp er
      obtain ⟨Gn,sn,Rn,wn⟩:=a0k R1 hbi hli nd ap af hs rr (.inr hsh)
      exact pp v Gn H' sn Rn wn
   ·cases er
  ·cases er
theorem z9 (h:Has X.prog X.w X.K X.mg X.base k x ps (M8 X.K ms fm))(hr:U5 k X.A)(ha:PDA X B (e::es) mr)(hg:Gl X x:=by rfl)(hK:X.K=B.K:=by rfl)(hdb:(x == ("__debug__":Str))=false:=by decide)
  (he:starEach (e::es) X.env=(false,eval e X.env)::starEach es X.env:=by rfl) (hpl:(backTo pos (starEach es X.env)).any (·.1)=false:=by rfl):PD X B (.Call (.Name x p) (e::es) [] pos) (n5 ms fm mr):=.mk fun ξ=>
 (b6N (X:=rz X ξ) h hr (ha.ap ξ) hg hdb he hpl).imp fun σ H Q t=>by
  have t':=b3y t
  rw [← hK] at t'
  exact t'
end
end L3
set_option Elab.async false
set_option linter.all false
set_option maxRecDepth 100000
set_option maxHeartbeats 4000000
namespace L3
open PySem PySem.Spec PyProof.Rows L2
noncomputable def b5T (X:Cx)(scope:Scope):List (Str×Nat)→Prop
 | []=>True
 | c::r=>(X.N[c.2]?=some c.1∧scope.names.lookup c.1=some .free∧(X.env.kindOf c.1=some .cell∨X.env.kindOf c.1=some .free))∧b5T X scope r
theorem a59 {X:Cx}{scope:Scope}:∀ {cs:List (Str×Nat)},b5T X scope cs→∀ c∈cs,X.N[c.2]?=some c.1∧scope.names.lookup c.1=some .free∧(X.env.kindOf c.1=some .cell∨X.env.kindOf c.1=some .free)
 | [],_,c,h=>by cases h
 | c::r,h,c',hm=>by
  rcases List.mem_cons.mp hm with rfl | hm
  ·exact h.1
  ·exact a59 h.2 c' hm
theorem a0K {X:Cx}{scope:Scope}{x:Str}(cs:List (Str×Nat))(hc:b5T X scope cs)(kind:scope.kind=.function:=by rfl)(h:namesOk scope (cs.map (·.1))=true:=by decide +kernel)(nd:(x::cs.map (·.1)).Nodup:=by decide +kernel):Blk X scope (x::cs.map (·.1)) 1 (cs.map (·.2)):=by
 refine Blk.mk' (fs:=cs.map (·.1)) kind h nd (by simp; omega) (fun n hn=>?_) fun i j e=>?_
 ·obtain ⟨c,hm,rfl⟩:=List.mem_map.mp hn
  exact (a59 hc c hm).2.2
 ·rw [List.getElem?_map] at e
  cases hi:cs[i]? with
  | none=>rw [hi] at e; cases e
  | some c=>
   rw [hi] at e
   cases e
   obtain ⟨a,b,d⟩:=a59 hc c (List.mem_of_getElem? hi)
   refine ⟨?_,c.1,a,b,d⟩
   rw [Nat.add_comm,List.getElem?_cons_succ,List.getElem?_map,hi]
   exact a.symm
theorem _root_.L2.PE.a0J {X:Cx}{E E':Value→Shared→Prop}{e:Expr}{t:TE}(h:PE (X.S4 E) e t)(i:∀ e s,E e s→E' e s):PE (X.S4 E') e t:=fun pins s σ H Q I hw=>
 wpAny_mono (h pins s σ H Q (I.O4.S4 _) hw) (fun _ _ ⟨v,H',I',r,q⟩=>⟨v,H',I'.O4.S4 _,r,q⟩) fun e s z=>i e s z
theorem _root_.L2.PF.a0J {X:Cx}{E E':Value→Shared→Prop}{e:List Expr}{t:TT}(h:PF (X.S4 E) e t)(i:∀ e s,E e s→E' e s):PF (X.S4 E') e t:=fun pins s σ H Q I hw=>
 wpAny_mono (h pins s σ H Q (I.O4.S4 _) hw) (fun _ _ ⟨H',I',q⟩=>⟨H',I'.O4.S4 _,q⟩) fun e s z=>i e s z
theorem _root_.L2.PF.imp {X:Cx}{e:List Expr}{t t':TT}(h:PF X e t)(i:∀ σ H Q,t' σ H Q→t σ H Q):PF X e t':=fun pins s σ H Q I q=>h pins s σ H Q I (i σ H Q q)
structure PDF (X:Cx) (B:Bs) (e:List Expr) (m:M Bool):Prop where
 ap:∀ ξ,PF (rz X ξ) e (TD a0E B ξ m)
noncomputable def E6:M Bool:=M.pure true
theorem U8 {X:Cx}{B:Bs}:PDF X B [] E6:=.mk fun ξ=>(b5N (X:=rz X ξ)).imp fun σ H Q t=>by
 obtain ⟨G,ρ,R,r,e,p⟩:=t
 cases e
 exact p true G H (j4.refl _) R rfl
theorem b4u {X:Cx}{B:Bs}{c:Expr}{m:M Bool}(h:PDT X B c m):PDF X B [c] m:=.mk fun ξ=>b55 (h.ap ξ)
noncomputable def b7U:Option C→Option C
 | some (.ow _ d)=>some (.sh d)
 | c=>c
noncomputable def T6 (own:Nat)(fr:List Nat)(ρ:k9):k9:=List.replicate own none++fr.map fun j=>b7U (ρ[j]?).join
noncomputable def compTurn (tg:FT)(mt:M Bool)(me:M W)(ρ:k9)(d:D):Option (Option D):=match tg d ρ with
 | none=>none
 | some ρ1=>match mt ρ1 with
  | some (.ok false _)=>some none
  | some (.ok true ρ2)=>match M.bind me C7 ρ2 with
   | some (.ok y _)=>some (some y)
   | _=>none
  | _=>none
noncomputable def D3 (tg:FT)(mt:M Bool)(me:M W)(ρ:k9):List D→Option (List D)
 | []=>some []
 | d::ds=>match compTurn tg mt me ρ d,D3 tg mt me ρ ds with
  | some (some y),some ys=>some (y::ys)
  | some none,some ys=>some ys
  | _,_=>none
noncomputable def a1N (ρ:k9)(fr:List Nat):List Nat:=fr.filter fun j=>match ρ[j]? with
 | some (some (.ow _ _))=>true
 | _=>false
noncomputable def b2P (tg:FT)(mt:M Bool)(me:M W)(own:Nat)(fr:List Nat)(ds:List D):M W:=fun ρ=>match D3 tg mt me (T6 own fr ρ) ds with
 | none=>none
 | some ys=>V8 (small ds.length) (if ys.all Q8=true then some (.ok (.own (.lst ys)) ρ) else (a0U (a1N ρ fr) ρ).map (R'.ok (.own (.lst ys)) ·))
noncomputable def C6 (mi:M (List D))(tg:FT)(mt:M Bool)(me:M W)(own:Nat)(fr:List Nat):M W:=M.bind mi fun ds=>b2P tg mt me own fr ds
theorem b1S {ρ:k9}{fr:List Nat}{i:Nat}(h:i∈a1N ρ fr):i∈fr∧∃ l d,ρ[i]?=some (some (.ow l d)):=by
 unfold a1N at h
 obtain ⟨h1,h2⟩:=List.mem_filter.mp h
 refine ⟨h1,?_⟩
 split at h2
 ·exact ⟨_,_,‹_›⟩
 ·cases h2
section
variable {B:Bs}{G H:Hp}{σ:St}{ρ:k9}{own:Nat}{fr:List Nat}
theorem a1c {i:Nat}{c:C}(h:(T6 own fr ρ)[i]?=some (some c)):∃ k j,i=own + k∧fr[k]?=some j∧((∃ d,c=.sh d∧(ρ[j]?=some (some (.sh d))∨∃ l,ρ[j]?=some (some (.ow l d))))∨∃ es,c=.fz es∧ρ[j]?=some (some (.fz es))):=by
 unfold T6 at h
 by_cases hi:i < own
 ·rw [List.getElem?_append_left (by simpa using hi),List.getElem?_replicate,if_pos hi] at h
  cases h
 ·rw [List.getElem?_append_right (by simpa using hi)] at h
  simp only [List.length_replicate,List.getElem?_map] at h
  cases e:fr[i - own]? with
  | none=>rw [e] at h; cases h
  | some j=>
   rw [e] at h
   simp only [Option.map_some,Option.some.injEq] at h
   refine ⟨i - own,j,by omega,e,?_⟩
   cases q:ρ[j]? with
   | none=>rw [q] at h; cases h
   | some o=>
    rw [q] at h
    cases o with
    | none=>cases h
    | some c0=>
     cases c0 with
     | sh d=>cases h; exact .inl ⟨d,rfl,.inl rfl⟩
     | ow l d=>cases h; exact .inl ⟨d,rfl,.inr ⟨l,rfl⟩⟩
     | fz es=>cases h; exact .inr ⟨es,rfl,rfl⟩
theorem a6a {k j:Nat}{v:V}(h:fr[k]?=some j)(e:σ[j]?=some (some v)):(seen own fr σ)[own + k]?=some (some v):=by
 unfold L2.seen
 rw [List.getElem?_append_right (by simp)]
 simp only [List.length_replicate,List.getElem?_map,Nat.add_sub_cancel_left,h,Option.map_some,e]
 rfl
theorem b11 {H1 H2 Gb:Hp}(R:RS B G H1 σ ρ)(sg:j4 (plus G H1 (n8 σ (a1N ρ fr))) Gb)(gb:j4 Gb H2)(kp:j4 H1 H2)(gnew:∀ p o,Gb p=some o→plus G H1 (n8 σ (a1N ρ fr)) p=some o∨H1 p=none)(dom:∀ p,H2 p=none→H1 p=none)(s0:j4 G (plus G H1 (n8 σ (a1N ρ fr)))):
  RS ⟨B.K,H1,H1,plus G H1 (n8 σ (a1N ρ fr)),fun _=>none⟩ Gb H2 (seen own fr σ) (T6 own fr ρ):=by
 refine ⟨j4.refl _,kp,sg,gb,gnew,dom,?_,fun i d e=>?_,fun i l d e=>?_,fun i j l d k e p a b=>?_,fun i es e=>?_⟩
 ·rw [L2.seen_length]
  unfold T6
  simp
 ·obtain ⟨k,j,rfl,hk,⟨d',q,h⟩ | ⟨_,q,_⟩⟩:=a1c e <;> cases q
  rcases h with h | ⟨l,h⟩
  ·obtain ⟨v,q1,q2⟩:=R.sh j d h
   exact ⟨v,a6a hk q1,(q2.same s0).same sg⟩
  ·obtain ⟨p,q1,q2,q3,q4,q5⟩:=R.ow j l d h
   have hp:p∈n8 σ (a1N ρ fr):=L4.mpr ⟨j,List.mem_filter.mpr ⟨List.mem_of_getElem? hk,by rw [h]⟩,q1⟩
   refine ⟨_,a6a hk q1,?_⟩
   cases d with
   | lst ds=>
    obtain ⟨xs,e,r⟩:=q5
    have r':=(r.same s0).same sg
    exact .lst (L8.of (sg p _ (by rw [T8 hp]; exact e))) r'.len r'.get
   | dct es=>
    obtain ⟨xs,e,r⟩:=q5
    have r':=(r.same s0).same sg
    exact .dct (.inl (sg p _ (by rw [T8 hp]; exact e))) r'.keys r'.get
   | _=>exact (show False from q5).elim
 ·obtain ⟨k,j,rfl,hk,⟨d',q,h⟩ | ⟨_,q,_⟩⟩:=a1c e <;> cases q
 ·obtain ⟨k,j,rfl,hk,⟨d',q,h⟩ | ⟨_,q,_⟩⟩:=a1c a <;> cases q
 ·obtain ⟨k,j,rfl,hk,⟨d',q,h⟩ | ⟨es',q,h⟩⟩:=a1c e <;> cases q
  obtain ⟨a,o,kvs,q1,q2,q3⟩:=R.fz j es h
  exact ⟨a,o,kvs,a6a hk q1,sg _ _ (s0 _ _ q2),(q3.same s0).same sg⟩
end
noncomputable abbrev X0:XP:=fun _ _ _=>False
section
variable {X:Cx}{B:Bs}{mi:M (List D)}{mt:M Bool}{me:M W}{own:Nat}{fr:List Nat}
theorem a7Y {ξ:XP}{tf:TT}{te:TE}(hf:∀ B',B'.K=B.K→∀ σ H Q,TD a0E B' X0 mt σ H Q→tf σ H Q)(he:∀ B',B'.K=B.K→∀ σ H Q,TD D6 B' X0 me σ H Q→te σ H Q){σ:St}{H:Hp}{Q:VK}(t:TD D6 B ξ (C6 mi (E4 0) mt me 1 fr) σ H Q):
  a5y (TDI B ξ mi) (a28 0) tf te 1 fr σ H Q:=by
 obtain ⟨G,ρ,R,r,e,pq⟩:=t
 unfold C6 at e
 cases hm:mi ρ with
 | none=>rw [M.bind_none hm] at e; cases e
 | some r1=>
  cases r1 with
  | ex x ρ1=>
   rw [M.a3F hm] at e
   cases e
   exact ⟨G,ρ,_,R,hm,pq⟩
  | ok ds ρ1=>
   rw [M.i9 hm] at e
   refine ⟨G,ρ,_,R,hm,fun J G1 H1 s1 R1 gv=>?_⟩
   unfold b2P at e
   cases hc:D3 (E4 0) mt me (T6 1 fr ρ1) ds with
   | none=>rw [hc] at e; cases e
   | some ys=>
    rw [hc] at e
    simp only [] at e
    obtain ⟨hz,e⟩:=l8 e
    have hbi:∀ i∈a1N ρ1 fr,∃ l d,ρ1[i]?=some (some (.ow l d)):=fun i hi=>(b1S hi).2
    have s0:j4 G1 (plus G1 H1 (n8 σ (a1N ρ1 fr))):=fun b o e=>by
     rw [O0 fun m=>?_]
     ·exact e
     ·obtain ⟨i,hi,e2⟩:=L4.mp m
      obtain ⟨l,d,h⟩:=hbi i hi
      obtain ⟨p',a1,a2,_⟩:=R1.ow i l d h
      rw [e2] at a1
      cases a1
      rw [e] at a2
      cases a2
    have gH0:j4 (plus G1 H1 (n8 σ (a1N ρ1 fr))) H1:=fun b o e=>by
     by_cases m:b∈n8 σ (a1N ρ1 fr)
     ·rw [T8 m] at e; exact e
     ·rw [O0 m] at e; exact R1.gH b o e
    generalize hGp:plus G1 H1 (n8 σ (a1N ρ1 fr))=Gp at s0 gH0
    refine ⟨fun i m zs H2=>∃ Gb acc rest,m=ds.length - i∧i≤ds.length∧j4 Gp Gb∧j4 Gb H2∧j4 H1 H2∧(∀ p o,Gb p=some o→Gp p=some o∨H1 p=none)∧(∀ p,H2 p=none→H1 p=none)∧v5 B.K Gb zs acc∧acc.length≤i∧D3 (E4 0) mt me (T6 1 fr ρ1) (ds.drop i)=some rest∧acc++rest=ys,
     ⟨ds.length,Gp,[],ys,by simp,Nat.zero_le _,j4.refl _,gH0,j4.refl _,fun p o e=>.inl e,fun p e=>e,.nil,Nat.le_refl _,by simpa using hc,rfl⟩,?_⟩
    rintro i m zs H2 ⟨Gb,acc,rest,rfl,hle,a1,a2,a3,a4,a5,a6,a7,a8,a9⟩
    by_cases hlt:i < ds.length
    ·have ed:ds.drop i=ds[i]::ds.drop (i + 1):=List.drop_eq_getElem_cons hlt
     rw [ed] at a8
     unfold D3 at a8
     cases ht:compTurn (E4 0) mt me (T6 1 fr ρ1) ds[i] with
     | none=>rw [ht] at a8; cases a8
     | some oy=>
      cases hr:D3 (E4 0) mt me (T6 1 fr ρ1) (ds.drop (i + 1)) with
      | none=>rw [ht,hr] at a8; cases oy <;> cases a8
      | some rest'=>
       rw [ht,hr] at a8
       refine .inr ⟨gv.go Gb H2 i (s0.trans a1) a2 hlt,?_,fun zs' H'=>∃ Gb acc rest,j4 Gp Gb∧j4 Gb H'∧j4 H1 H'∧(∀ p o,Gb p=some o→Gp p=some o∨H1 p=none)∧(∀ p,H' p=none→H1 p=none)∧v5 B.K Gb zs' acc∧acc.length≤i + 1∧D3 (E4 0) mt me (T6 1 fr ρ1) (ds.drop (i + 1))=some rest∧acc++rest=ys,
        fun zs' H' ⟨Gb',acc',rest',b1,b2,b3,b4,b5,b6,b7,b8,b9⟩=>⟨ds.length - (i + 1),by omega,Gb',acc',rest',rfl,hlt,b1,b2,b3,b4,b5,b6,b7,b8,b9⟩,fun x H' y=>?_⟩
       ·rw [a6.len,sizeLine_eq]; unfold small at hz; omega
       obtain ⟨rfl,d,hd,rx⟩:=gv.yld Gb H2 H' i x (s0.trans a1) a2 hlt y
       have ed2:d=ds[i]:=by
        rw [List.getElem?_eq_getElem hlt] at hd
        exact (Option.some.inj hd).symm
       subst ed2
       have Rb:RS ⟨B.K,H1,H1,Gp,fun _=>none⟩ Gb H' (seen 1 fr σ) (T6 1 fr ρ1):=by
        subst hGp
        exact b11 R1 a1 a2 a3 a4 a5 s0
       unfold compTurn at ht
       cases hg:E4 0 ds[i] (T6 1 fr ρ1) with
       | none=>rw [hg] at ht; cases ht
       | some ρ2=>
        rw [hg] at ht
        simp only [] at ht
        have hg':=hg
        unfold E4 at hg'
        split at hg'
        ·rename_i hl0
         cases hg'
         have Rb2:=Rb.a9r hl0 rx
         show tf ((seen 1 fr σ).set 0 (some x)) H' _
         refine hf ⟨B.K,H1,H1,Gp,fun _=>none⟩ rfl _ _ _ ⟨Gb,_,Rb2,?_⟩
         cases hmt:mt ((T6 1 fr ρ1).set 0 (some (.sh ds[i]))) with
         | none=>rw [hmt] at ht; cases ht
         | some r3=>
          rw [hmt] at ht
          cases r3 with
          | ex x' ρ3=>cases ht
          | ok k ρ3=>
           refine ⟨_,hmt,fun k' G3 H3 s3 R3 qk=>?_⟩
           cases (show k'=k from qk)
           cases k with
           | false=>
            cases ht
            cases a8
            rw [if_neg Bool.false_ne_true]
            exact ⟨G3,acc,rest,a1.trans s3,R3.gH,R3.keep,R3.gnew,R3.dom,a6.same s3,by omega,hr,a9⟩
           | true=>
            rw [if_pos rfl]
            simp only [] at ht
            cases hme:M.bind me C7 ρ3 with
            | none=>rw [hme] at ht; cases ht
            | some r4=>
             rw [hme] at ht
             cases r4 with
             | ex x' ρ4=>cases ht
             | ok y' ρ4=>
              cases ht
              cases a8
              cases hm2:me ρ3 with
              | none=>rw [M.bind_none hm2] at hme; cases hme
              | some r5=>
               cases r5 with
               | ex x' ρ5=>rw [M.a3F hm2] at hme; cases hme
               | ok w ρ5=>
                rw [M.i9 hm2] at hme
                refine he ⟨B.K,H1,H1,Gp,fun _=>none⟩ rfl _ _ _ ⟨G3,ρ3,R3,_,hm2,fun v G5 H5 s5 R5 q5=>?_⟩
                obtain ⟨G6,s6,R6,r6⟩:=q5.C7 R5 hme
                have sa:=(s3.trans s5).trans s6
                exact ⟨G6,acc++[y'],rest',a1.trans sa,R6.gH,R6.keep,R6.gnew,R6.dom,(a6.same sa).append (.one r6),by rw [List.length_append]; show acc.length + 1≤i + 1; omega,hr,by rw [List.append_assoc]; exact a9⟩
        ·cases hg'
    ·have ei:i=ds.length:=by omega
     subst ei
     rw [List.drop_length] at a8
     cases a8
     rw [List.append_nil] at a9
     subst a9
     refine .inl ⟨gv.stop Gb H2 (s0.trans a1) a2,fun p hp=>?_⟩
     have gp:Gb p=none:=a2.free hp
     have sH:j4 H2 (upd H2 p (.lst zs)):=a0G hp _
     have A:After B.K (plus G1 H1 (n8 σ (a1N ρ1 fr))) H1 (n8 σ []) Gb (upd H2 p (.lst zs)) []:=by
      rw [hGp]
      refine ⟨fun b o e=>sH b o (a3 b o (Q2 _ _ b o e)),a1,a2.trans sH,a4,fun b e=>?_,.nil⟩
      by_cases z:b=p
      ·subst z; exact a5 _ hp
      ·rw [j6 z] at e; exact a5 b e
     have rr:a6I B.K H1 Gb (upd H2 p (.lst zs)) (.ref p) (.own (.lst acc)):=⟨p,rfl,gp,a5 p hp,zs,p9,a6⟩
     split at e
     ·rename_i hfl
      cases e
      obtain ⟨Gn,sn,Rn,wn⟩:=a0k (li:=[]) R1 hbi (fun i h=>by cases h) List.nodup_nil (fun i h=>by cases h) A rfl rr (.inl ⟨by rw [List.all_nil,Bool.and_true]; exact hfl,rfl⟩)
      exact pq _ Gn _ (s1.trans sn) Rn wn
     ·obtain ⟨ρ3,hsh,rfl⟩:=Option.map_eq_some_iff.mp e
      obtain ⟨Gn,sn,Rn,wn⟩:=a0k (li:=[]) R1 hbi (fun i h=>by cases h) List.nodup_nil (fun i h=>by cases h) A rfl rr (.inr hsh)
      exact pq _ Gn _ (s1.trans sn) Rn wn
variable {x:Str}{px pos:Pos}{M':List Str}{scope:Scope}{iter elt:Expr}{ifs:List Expr}
theorem xe0 {Y:Cx}:∀ e s,XE Y X0 e s→False:=fun e s ⟨_,_,_,_,_,_,h⟩=>h
theorem P6 (Bk:Blk X scope (x::M') 1 fr)(hi:PDI X B (.Name x px) iter mi)(hf:∀ cl C s H ex H0 HK G0 L,PDF (X.blk scope cl C (x::M') s H ex) ⟨B.K,H0,HK,G0,L⟩ ifs mt)(he:∀ cl C s H ex H0 HK G0 L,PD (X.blk scope cl C (x::M') s H ex) ⟨B.K,H0,HK,G0,L⟩ elt me)
  (hc:X.calm=true:=by rfl) (hx:scope.names.lookup x=some .local∨scope.names.lookup x=some .cell:=by first | exact .inl rfl | exact .inr rfl) (hs:∀ x,foldedSetIterable iter X.env x=pure x:=by intro _; rfl):PD X B (.ListComp elt [⟨.Name x px,iter,ifs,0⟩] scope pos) (C6 mi (E4 0) mt me 1 fr):=.mk fun ξ=>by
 have Bk':Blk (rz X ξ) scope (x::M') 1 fr:=⟨Bk.kind,Bk.cells,Bk.names,Bk.free,Bk.nd,Bk.len,Bk.at'⟩
 refine (b6J (X:=rz X ξ) (tf:=fun σ H Q=>∃ B',B'.K=B.K∧TD a0E B' X0 mt σ H Q) (te:=fun σ H Q=>∃ B',B'.K=B.K∧TD D6 B' X0 me σ H Q) Bk' (hi.ap ξ) (fun cl C s H ex=>?_) (fun cl C s H ex=>?_) hc hx hs).imp fun σ H Q t=>a7Y (fun B' hB σ H Q t=>⟨B',hB,t⟩) (fun B' hB σ H Q t=>⟨B',hB,t⟩) t
 ·intro pins s' σ' H' Q I ⟨B',hB,t⟩
  obtain ⟨K',h0,hk,g0,l⟩:=B'
  cases (show K'=B.K from hB)
  exact PF.a0J (X:=X.blk scope cl C (x::M') s H ex) ((hf cl C s H ex h0 hk g0 l).ap X0) xe0 pins s' σ' H' Q I t
 ·intro pins s' σ' H' Q I ⟨B',hB,t⟩
  obtain ⟨K',h0,hk,g0,l⟩:=B'
  cases (show K'=B.K from hB)
  exact PE.a0J (X:=X.blk scope cl C (x::M') s H ex) ((he cl C s H ex h0 hk g0 l).ap X0) xe0 pins s' σ' H' Q I t
theorem a6f {i:Nat}{y:Str}{py spos:Pos}(Bk:Blk X scope (x::M') 1 fr)(hN:X.N.Nodup)(hi:PDI X B (.Name x px) iter mi)(hf:∀ cl C s H ex H0 HK G0 L,PDF (X.blk scope cl C (x::M') s H ex) ⟨B.K,H0,HK,G0,L⟩ ifs mt)(he:∀ cl C s H ex H0 HK G0 L,PD (X.blk scope cl C (x::M') s H ex) ⟨B.K,H0,HK,G0,L⟩ elt me)
  (hy:X.N[i]?=some y:=by rfl) (hly:X.env.kindOf y=some .local:=by rfl) (hc:X.calm=true:=by rfl) (hx:scope.names.lookup x=some .local∨scope.names.lookup x=some .cell:=by first | exact .inl rfl | exact .inr rfl)
  (hsw:swapsWith (.ListComp elt [⟨.Name x px,iter,ifs,0⟩] scope pos) (some (.Name y py)) spos.line X.env=pure true:=by with_unfolding_all rfl)
  (hs:∀ x,foldedSetIterable iter X.env x=pure x:=by intro _; rfl):PSD X B (.Assign [.Name y py] (.ListComp elt [⟨.Name x px,iter,ifs,0⟩] scope pos) spos) (n9 i (C6 mi (E4 0) mt me 1 fr)):=.mk fun ξ=>by
 have Bk':Blk (rz X ξ) scope (x::M') 1 fr:=⟨Bk.kind,Bk.cells,Bk.names,Bk.free,Bk.nd,Bk.len,Bk.at'⟩
 refine (b69 (X:=rz X ξ) (tf:=fun σ H Q=>∃ B',B'.K=B.K∧TD a0E B' X0 mt σ H Q) (te:=fun σ H Q=>∃ B',B'.K=B.K∧TD D6 B' X0 me σ H Q) Bk' hN (hi.ap ξ) (fun cl C s H ex=>?_) (fun cl C s H ex=>?_) hy hly hc hx hsw hs).imp fun Dn σ H t=>?_
 ·intro pins s' σ' H' Q I ⟨B',hB,t⟩
  obtain ⟨K',h0,hk,g0,l⟩:=B'
  cases (show K'=B.K from hB)
  exact PF.a0J (X:=X.blk scope cl C (x::M') s H ex) ((hf cl C s H ex h0 hk g0 l).ap X0) xe0 pins s' σ' H' Q I t
 ·intro pins s' σ' H' Q I ⟨B',hB,t⟩
  obtain ⟨K',h0,hk,g0,l⟩:=B'
  cases (show K'=B.K from hB)
  exact PE.a0J (X:=X.blk scope cl C (x::M') s H ex) ((he cl C s H ex h0 hk g0 l).ap X0) xe0 pins s' σ' H' Q I t
 ·obtain ⟨G,ρ,R,t⟩:=t
  refine a7Y (fun B' hB σ H Q t=>⟨B',hB,t⟩) (fun B' hB σ H Q t=>⟨B',hB,t⟩) ((SD.step (rel:=D6) R t).mono fun v H1 ⟨G1,ρ1,w,s1,R1,q1,r,e,p⟩=>?_)
  obtain ⟨ρ',G',rfl,s',R'⟩:=a5g R1 q1 e
  exact p _ G' H1 s' R'
end
end L3
set_option Elab.async false
set_option linter.all false
set_option maxRecDepth 100000
set_option maxHeartbeats 4000000
namespace L3
open PySem PySem.Spec PyProof.Rows L2
noncomputable def b4w:D→D→Option W
 | .dct es,k=>(keyOf k).map fun k=>W.val ((J1 es k).getD .A3)
 | _,_=>none
noncomputable def a7H (mo me:M W):M W:=M.bind (O3 mo) fun x=>M.bind (chk "dict" x) fun _=>M.bind me fun y=>op2 b4w x y
noncomputable def b4r:D→D→D→Option W
 | .dct es,k,z=>(keyOf k).map fun k=>W.val ((J1 es k).getD z)
 | _,_,_=>none
noncomputable def b4F (mo me mf:M W):M W:=M.bind (O3 mo) fun x=>M.bind (chk "dict" x) fun _=>M.bind (O3 me) fun y=>M.bind mf fun z=>M.bind (C7 z) fun dz=>op2 (fun a b=>b4r a b dz) x y
section
variable {X:Cx}{B:Bs}{o e f value:Expr}{mo me mf mv:M W}{mr:M (List W)}{apos cpos pos pos':Pos}
theorem b2e {K:PySem.W.Frag}{G:Hp}{kvs:List (Key×V)}{es:List (Key×D)}{k:Key}{z:V}{dz:D}(r:l5 K G kvs es)(hz:Rep K G z dz):Rep K G ((a0X kvs k).getD z) ((J1 es k).getD dz):=by
 obtain ⟨a,b⟩:=r.val k
 cases hd:J1 es k with
 | none=>rw [b hd]; exact hz
 | some d=>
  obtain ⟨v,e,rv⟩:=a d hd
  rw [e]
  exact rv
theorem a8R (hu:X.A.units + 8 < cLine)(ho:PD X B o mo)(he:PD X B e me)(m:M1 X o "get" apos e cpos:=by exact ⟨rfl,rfl,rfl,rfl⟩):PD X B (.Call (.Attribute o "get" apos) [e] [] cpos) (a7H mo me):=.mk fun ξ=>
 (b1K (X:=rz X ξ) (show X.A.units + 1 < cLine by omega) (ho.ap ξ) (he.ap ξ) ⟨m.base,m.few,m.line,m.trees⟩).imp fun σ H Q t=>by
  obtain ⟨G,ρ,R,t⟩:=t
  have t1:TD a3q B ξ (O3 mo) σ H _:=TD.bind (rel:=a3q) R t
  refine TD.O3 (t1.mono fun x H1 ⟨G1,ρ1,wa,s1,R1,⟨q1,st1⟩,t2⟩=>?_)
  obtain ⟨u,ρ2,e2,t3⟩:=t2.step fun r h=>⟨(),_,(a0V h).1⟩
  obtain ⟨e3,d,hd,ty⟩:=a0V e2
  cases e3
  cases d <;> first | (cases ty; done) | (exact absurd ty (by decide)) | skip
  obtain ⟨a,kvs,rfl,h1,r1⟩:=(q1.get R1 hd).dct R1.gH
  refine ⟨a,rfl,.inl ⟨kvs,h1⟩,?_⟩
  refine (TD.bind (rel:=D6) R1 t3).mono fun y H2 ⟨G2,ρ2,wb,s2,R2,q2,t4⟩=>?_
  obtain ⟨dx,dy,w,e4,e5,e6,p⟩:=a9I t4
  have hx:=(q1.keep s2 st1:F9 B G2 H2 σ ρ2 _ wa).get R2 e4
  cases dx <;> first | (cases e6; done) | skip
  obtain ⟨k,hk,rfl⟩:=Option.map_eq_some_iff.mp e6
  obtain ⟨a',kvs',ea,h1',r1'⟩:=hx.dct R2.gH
  cases ea
  have hv:=a19 (q2.get R2 e5) hk
  subst hv
  exact ⟨_,a0D.r h1',p _ G2 H2 (j4.refl _) R2 (b2e r1' .A3)⟩
end
noncomputable def a2t (i:Nat)(k d:D):SM:=fun ρ=>match ρ[i]? with
 | some (some (.ow l (.dct es)))=>match keyOf k with
  | some k=>V8 (small es.length) (some (.nx (ρ.set i (some (.ow l (.dct (putD es k d)))))))
  | none=>none
 | some (some (.ow l (.lst ds)))=>match k with
  | .int j=>match ixN ds.length j with
   | some n=>some (.nx (ρ.set i (some (.ow l (.lst (ds.set n d))))))
   | none=>none
  | _=>none
 | _=>none
noncomputable def a1Y (i:Nat)(mv mk:M W):SM:=N4 (O3 mv) fun wv=>N4 (c9 i) fun _=>N4 mk fun wk=>N4 (C7 wv) fun d ρ=>match getD wk ρ with
 | some k=>a2t i k d ρ
 | none=>none
theorem set_dict {X:Cx}(hu:X.A.units + 8 < cLine):a8L X (fun o i v H Q=>∃ a H',o=.ref a∧b2y H a i v H'∧Q H'):=by
 intro pins s σ H o i v ov iv u Q I ro ri rv h
 obtain ⟨a,H',rfl,g,q⟩:=h
 cases ro
 exact b0F (by omega) I g ri rv fun s' I'=>⟨H',I',q⟩
theorem _root_.L2.a8L.or {X:Cx}{t t':b4l}(h:a8L X t)(h':a8L X t'):a8L X (fun o i v H Q=>t o i v H Q∨t' o i v H Q):=by
 intro pins s σ H o i v ov iv u Q I ro ri rv q
 rcases q with q | q
 ·exact h pins s σ H o i v ov iv u Q I ro ri rv q
 ·exact h' pins s σ H o i v ov iv u Q I ro ri rv q
section
variable {X:Cx}{B:Bs}{ξ:XP}{G H:Hp}{σ:St}{ρ:k9}{Dn:Ends}{o e value:Expr}{mo me mv:M W}{pos pos':Pos}
theorem SD.b7a {m:M W}{f:W→SM}(R:RS B G H σ ρ)(t:a6m B ξ G ρ (N4 (O3 m) f) Dn):TD D6 B ξ m σ H (fun v H1=>∃ G1 ρ1 a,j4 G G1∧RS B G1 H1 σ ρ1∧(F9 B G1 H1 σ ρ1 v a∧stb a=true)∧a6m B ξ G1 ρ1 (f a) Dn):=
 TD.O3 (SD.step (rel:=a3q) R t)
theorem SD.quiet {α:Type}{m:M α}{f:α→SM}(t:a6m B ξ G ρ (N4 m f) Dn)(hm:∀ r,m ρ=some r→∃ a ρ',r=.ok a ρ'):∃ a ρ',m ρ=some (.ok a ρ')∧a6m B ξ G ρ' (f a) Dn:=by
 obtain ⟨r,e,p⟩:=t
 unfold N4 at e
 cases hr:m ρ with
 | none=>rw [hr] at e; cases e
 | some r1=>
  obtain ⟨a,ρ',rfl⟩:=hm r1 hr
  rw [hr] at e
  exact ⟨a,ρ',rfl,r,e,p⟩
theorem a5w (i:Nat)(hu:X.A.units + 8 < cLine)(hv:PD X B value mv)(ho:PD X B o (c9 i))(hi:PD X B e me)(hs:swapsWithSole [.Subscript o e pos'] value pos.line X.env=pure false:=by rfl)(hw:swappedStores [.Subscript o e pos'] value X.env=pure none:=by rfl)
  (h1:(assignEach [.Subscript o e pos'] X.env).map (·.2)=[assign (.Subscript o e pos') X.env]:=by rfl)
  (ha:∀ v,assign (.Subscript o e pos') X.env v=(do
   let ov ← holding [v] (eval o X.env)
   let iv ← holding [v,ov] (eval e X.env)
   standAt pos'
   holding [v,ov,iv] (setItem ov iv v)
   release [v,ov,iv] []):=by intro _; rfl):PSD X B (.Assign [.Subscript o e pos'] value pos) (a1Y i mv me):=.mk fun ξ=>
 (b51 (X:=rz X ξ) (hv.ap ξ) (b54 (X:=rz X ξ) (ho.ap ξ) (hi.ap ξ) (set_list.or (set_dict hu)) ha) hs hw h1).imp fun Dn σ H t=>by
  obtain ⟨G,ρ,R,t⟩:=t
  refine (SD.b7a R t).mono fun v H1 ⟨G1,ρ1,wv,s1,R1,⟨q1,st1⟩,t2⟩=>?_
  refine (SD.b6U (rel:=D6) R1 t2).mono fun x H2 ⟨G2,ρ2,wo,er,s2,R2,q2,t3⟩=>?_
  obtain ⟨rfl,rfl⟩:=a2p er
  have hx:σ[i]?=some (some x):=q2
  refine (SD.step (rel:=D6) R2 t3).mono fun y H3 ⟨G3,ρ3,wk,s3,R3,q3,t4⟩=>?_
  obtain ⟨d,ρ4,e4,r,er,p⟩:=SD.quiet t4 fun r h=>W3 h
  have q1':F9 B G3 H3 σ ρ3 v wv:=q1.keep (s2.trans s3) st1
  obtain ⟨G4,s4,R4,rv⟩:=q1'.C7 R3 e4
  cases hk:getD wk ρ4 with
  | none=>simp only [hk] at er; cases er
  | some dk=>
   simp only [hk] at er
   have hy:K9 B.K G4 H3 y dk:=by
    cases wk with
    | val _=>exact F9.get R4 (q3.keep s4 rfl:F9 B G4 H3 σ ρ4 y _) hk
    | slot _=>exact F9.get R4 (q3.keep s4 rfl:F9 B G4 H3 σ ρ4 y _) hk
    | own d'=>
     cases hk
     unfold a2t at er
     exfalso
     obtain ⟨pp,rfl,_,_,oo,_⟩:=q3
     cases dk <;> first | exact (show False from oo).elim | skip
     ·split at er
      ·simp [keyOf] at er
      ·cases er
      ·cases er
     ·split at er
      ·simp [keyOf] at er
      ·cases er
      ·cases er
   unfold a2t at er
   split at er
   ·rename_i l es hi
    split at er
    ·rename_i k hkk
     obtain ⟨hz,er⟩:=l8 er
     cases er
     obtain ⟨pp,rfl,g,kvs,hx',rl⟩:=slot_of R4 hi hx
     have hv':=a19 hy hkk
     subst hv'
     refine .inr ⟨pp,_,rfl,b2y.k hx' ?_,?_⟩
     ·rw [rl.len,sizeLine_eq]; unfold small at hz; omega
     ·exact p σ G4 _ s4 (R4.write hi hx ⟨_,p9,rl.put k rv⟩)
    ·cases er
   ·rename_i l ds hi
    split at er
    ·rename_i j
     split at er
     ·rename_i n hn
      cases er
      obtain ⟨pp,rfl,g,xs,hx',rl⟩:=slot_of R4 hi hx
      refine .inl ⟨pp,xs,j,n,rfl,hy.int,hx',by rw [rl.len]; exact hn,?_⟩
      exact p σ G4 _ s4 (R4.write hi hx ⟨_,p9,rl.set rv n⟩)
     ·cases er
    ·cases er
   ·cases er
end
noncomputable def tyN:D→String
 | .A3=>"NoneType"
 | .bl _=>"bool"
 | .int _=>"int"
 | .str _=>"str"
 | .tup _=>"tuple"
 | .lst _=>"list"
 | .dct _=>"dict"
 | .ty _=>"type"
noncomputable def b0P (a b:String):Bool:=a == b || (a == "bool" && b == "int")
noncomputable def b71:D→Bool
 | .ty _=>true
 | _=>false
noncomputable def a0f:List D→Option W
 | [d,.ty T]=>V8 (b71 d=false∧T∈["int","bool","str","list","tuple","dict"]) (vB (b0P (tyN d) T))
 | _=>none
theorem b2Y (K:PySem.W.Frag):∀ a∈["NoneType","bool","int","str","tuple","list","dict"],∀ b∈["int","bool","str","list","tuple","dict"],PySem.W.kitOne K (.type a) (.type b)=some (b0P a b):=by
 intro a ha b hb
 simp only [List.mem_cons,List.not_mem_nil,or_false] at ha hb
 rcases ha with rfl | rfl | rfl | rfl | rfl | rfl | rfl <;> rcases hb with rfl | rfl | rfl | rfl | rfl | rfl <;> kernel_rfl
theorem a9O {X:Cx}{K:PySem.W.Frag}(hK:X.K=K):K3 X (.builtin "isinstance") (fun xs H Q=>∃ x T d,xs=[x,.ty T]∧Rep K H x d∧(∀ n,d≠.ty n)∧T∈["int","bool","str","list","tuple","dict"]∧Q (.bl (b0P (tyN d) T)) H):=by
 subst hK
 intro pins s σ H xs us Q I r h
 obtain ⟨x,T,d,rfl,hx,hn,hT,q⟩:=h
 obtain ⟨u,w',rfl,ru,rw'⟩:=vals2 r
 cases rw'
 have fin:∀ tk,EP X pins σ Q (.bool (b0P (tyN d) T)) { s with toks:=tk }:=fun tk=>⟨.bl _,H,I.tok tk,rfl,q⟩
 have tab:=fun a ha=>b2Y X.K a ha T hT
 cases hx with
 | A3=>cases ru; exact PySem.W.kia_one PySem.W.kitx_none I.kIn True.intro (tab _ (by simp)) (fun z=>nomatch z) fin
 | bl b=>cases ru; exact PySem.W.kia_one PySem.W.kitx_bool I.kIn True.intro (tab _ (by simp)) (fun z=>nomatch z) fin
 | int i=>obtain ⟨t,rfl⟩:=ru; exact PySem.W.kia_one PySem.W.kitx_int I.kIn True.intro (tab _ (by simp)) (fun z=>nomatch z) fin
 | str cs=>obtain ⟨t,rfl⟩:=ru; exact PySem.W.kia_one PySem.W.kitx_str I.kIn True.intro (tab _ (by simp)) (fun z=>nomatch z) fin
 | ty n=>exact absurd rfl (hn n)
 | tup h _ _=>
  cases ru
  obtain ⟨_,_,p,_⟩:=I.tuple h
  obtain ⟨o,h1,h2,_⟩:=p
  exact PySem.W.kia_one PySem.W.kitx_tuple I.kIn ⟨o,h1,h2⟩ (tab _ (by simp)) (fun z=>nomatch z) fin
 | lst h _ _=>
  cases ru
  obtain ⟨_,_,p,_⟩:=I.list h
  obtain ⟨o,n,h1,h2,_⟩:=p
  exact PySem.W.kia_one PySem.W.kitx_list I.kIn ⟨o,h1,h2⟩ (tab _ (by simp)) (fun z=>nomatch z) fin
 | dct h _ _=>
  cases ru
  obtain ⟨_,_,vs,_,dd⟩:=O9 I.hok h
  obtain ⟨o,es,ep,h1,h2,_⟩:=dd
  exact PySem.W.kia_one PySem.W.kitx_dict I.kIn ⟨o,h1,h2.1⟩ (tab _ (by simp)) (fun z=>nomatch z) fin
section
variable {X:Cx}{B:Bs}{e a b c:Expr}{es:List Expr}{mr:M (List W)}{pos p:Pos}
theorem b03:a2U B (fun xs H Q=>∃ x T d,xs=[x,.ty T]∧Rep B.K H x d∧(∀ n,d≠.ty n)∧T∈["int","bool","str","list","tuple","dict"]∧Q (.bl (b0P (tyN d) T)) H) a0f:=by
 intro G H σ ρ xs ds w Q R h e p
 match ds,e with
 | [d,.ty T],e=>
  obtain ⟨⟨hn,hT⟩,e⟩:=l8 e
  cases e
  obtain ⟨x,y,rfl,hx,hy⟩:=b1v h
  exact ⟨x,T,d,by rw [hy.ty],hx.rep R.gH,(fun n z=>by rw [z] at hn; cases hn),hT,p _ G H (j4.refl _) R (.bl _)⟩
theorem a23 (hm:X.mg "isinstance"=none) (ha:PDA X B [e,a] mr) (hg:Gl X "isinstance":=by rfl) (hK:X.K=B.K:=by rfl) (he:starEach [e,a] X.env=(false,eval e X.env)::starEach [a] X.env:=by rfl) (hpl:(backTo pos (starEach [a] X.env)).any (·.1)=false:=by rfl):PD X B (.Call (.Name "isinstance" p) [e,a] [] pos) (B7 a0f mr):=
 a2v (fun ξ=>a9O (X:=rz X ξ) (K:=B.K) hK) b03 hg hm PyProof.Rows.boot_isinstance ha (by decide) (by decide) he hpl
end
noncomputable def intsOf:List D→Option (List Int)
 | []=>some []
 | .int i::ds=>(intsOf ds).map (i::·)
 | _=>none
theorem y9:∀ {ds:List D} {ns:List Int},intsOf ds=some ns→ds=ns.map D.int
 | [],_,h=>by cases h; rfl
 | .int b::ds,bs,h=>by
  unfold intsOf at h
  obtain ⟨bs',e,rfl⟩:=Option.map_eq_some_iff.mp h
  rw [y9 e]
  rfl
 | .A3::_,_,h=>by cases h
 | .bl _::_,_,h=>by cases h
 | .str _::_,_,h=>by cases h
 | .ty _::_,_,h=>by cases h
 | .tup _::_,_,h=>by cases h
 | .lst _::_,_,h=>by cases h
 | .dct _::_,_,h=>by cases h
end L3
namespace L3
open PySem PySem.Spec PyProof.Rows L2
noncomputable def a7d (f:D→D→Option Bool)(fs:List (Key×D)):List (Key×D)→Option Bool
 | []=>some true
 | e::es=>match J1 fs e.1 with
  | none=>some false
  | some y=>match f e.2 y,a7d f fs es with
   | some a,some b=>some (a && b)
   | _,_=>none
noncomputable def eqT:D→D→Option Bool
 | .dct es,.dct fs=>if es.length=fs.length then a7d (Z8 6) fs es else some false
 | d,e=>Z8 8 d e
noncomputable def M4 (d e:D):Option W:=(eqT d e).bind vB
noncomputable def a0C (d e:D):Option W:=(eqT d e).bind fun b=>vB (!b)
section
variable {X:Cx}{pins:List (Addr×Obj)}{σ:St}{H:Hp}{s:Shared}
theorem a9o (I:Inv X pins σ H s){A:Around}{fs:List (Key×D)}{kvs2:List (Key×V)}{vs2:List (Key×Value)}(hu:A.units + 6 < cLine)(r2:l5 X.K H kvs2 fs)(k2:KV kvs2 vs2):∀ {es:List (Key×D)} {kvs:List (Key×V)} {vs:List (Key×Value)} {b:Bool},a7d (Z8 6) fs es=some b→l5 X.K H kvs es→KV kvs vs→PySem.W.KeqHits A s vs2 vs b:=by
 intro es kvs vs b h r k
 revert vs b
 refine l5.ind (P:=fun kvs es=>∀ {vs:List (Key×Value)} {b:Bool},a7d (Z8 6) fs es=some b→KV kvs vs→PySem.W.KeqHits A s vs2 vs b) ?_ ?_ r
 ·intro vs b h k
  cases k
  cases h
  exact .nil
 ·intro p e kvs es hk hr _ ih vs b h k
  unfold KV at k
  cases k with
  | @cons _ q _ qs hpq t=>
   unfold a7d at h
   have e2:=k2.val p.1
   obtain ⟨c1,c2⟩:=r2.val p.1
   have hq:q=(p.1,q.2):=by rw [hpq.1]
   rw [hq]
   cases hv:J1 fs e.1 with
   | none=>
    rw [hv] at h
    cases h
    rw [← hk] at hv
    rw [c2 hv] at e2
    exact .miss (a1k.none_of e2)
   | some y=>
    rw [hv] at h
    simp only [] at h
    cases h1:Z8 6 e.2 y with
    | none=>rw [h1] at h; cases h
    | some a=>
     cases h2:a7d (Z8 6) fs es with
     | none=>rw [h1,h2] at h; cases h
     | some b2=>
      rw [h1,h2] at h
      cases h
      rw [← hk] at hv
      obtain ⟨v,ev,rv⟩:=c1 y hv
      rw [ev] at e2
      obtain ⟨u,eu,ru⟩:=a1k.some_of e2
      exact .hit eu (a3H I 6 h1 hr rv hpq.2 ru hu).1 (ih h2 t)
end
theorem a9N {X:Cx}{K:PySem.W.Frag}(hK:X.K=K)(hu:X.A.units + 8 < cLine):OpR X (compareOp .Eq) (fun x y H Q=>∃ a c kvs1 kvs2 es fs b,x=.ref a∧y=.ref c∧Rd H a (.dK kvs1)∧Rd H c (.dK kvs2)∧l5 K H kvs1 es∧l5 K H kvs2 fs∧eqT (.dct es) (.dct fs)=some b∧Q (.bl b) H):=by
 subst hK
 intro pins s σ H x y v u Q I rx ry h
 obtain ⟨a,c,kvs1,kvs2,es,fs,b,rfl,rfl,ha,hb,r1,r2,e,q⟩:=h
 cases rx
 cases ry
 obtain ⟨z,hS,vs,rel,dd⟩:=O9 I.hok ha
 obtain ⟨z2,hS2,vs2,rel2,dd2⟩:=O9 I.hok hb
 have l1:=rel.length
 have l2:=rel2.length
 have l3:=r1.len
 have l4:=r2.len
 have e:(if es.length=fs.length then a7d (Z8 6) fs es else some false)=some b:=e
 split at e
 ·rename_i hl
  refine PySem.W.keq_eq (r:=b) hS hS2 dd dd2 (by omega) (fun _=>a9o I (by show X.A.units + 1 + 6 < _; omega) r2 rel2 e r1 rel) ?_
  have e2:(vs.length == vs2.length && b)=b:=by rw [show (vs.length == vs2.length)=true by simp; omega,Bool.true_and]
  rw [e2]
  exact a1O I q rfl
 ·rename_i hl
  cases e
  refine PySem.W.keq_eq (r:=true) hS hS2 dd dd2 (by omega) (fun z=>absurd z (by omega)) ?_
  have e2:(vs.length == vs2.length && true)=false:=by rw [show (vs.length == vs2.length)=false by simp; omega,Bool.false_and]
  rw [e2]
  exact a1O I q rfl
theorem b3A {X:Cx}{K:PySem.W.Frag}(hK:X.K=K)(hu:X.A.units + 8 < cLine):OpR X (compareOp .NotEq) (fun x y H Q=>∃ a c kvs1 kvs2 es fs b,x=.ref a∧y=.ref c∧Rd H a (.dK kvs1)∧Rd H c (.dK kvs2)∧l5 K H kvs1 es∧l5 K H kvs2 fs∧eqT (.dct es) (.dct fs)=some b∧Q (.bl (!b)) H):=by
 subst hK
 intro pins s σ H x y v u Q I rx ry h
 obtain ⟨a,c,kvs1,kvs2,es,fs,b,rfl,rfl,ha,hb,r1,r2,e,q⟩:=h
 cases rx
 cases ry
 obtain ⟨z,hS,vs,rel,dd⟩:=O9 I.hok ha
 obtain ⟨z2,hS2,vs2,rel2,dd2⟩:=O9 I.hok hb
 have l1:=rel.length
 have l2:=rel2.length
 have l3:=r1.len
 have l4:=r2.len
 have e:(if es.length=fs.length then a7d (Z8 6) fs es else some false)=some b:=e
 split at e
 ·rename_i hl
  refine PySem.W.keq_ne (r:=b) hS hS2 dd dd2 (by omega) (fun _=>a9o I (by show X.A.units + 1 + 6 < _; omega) r2 rel2 e r1 rel) ?_
  have e2:(vs.length == vs2.length && b)=b:=by rw [show (vs.length == vs2.length)=true by simp; omega,Bool.true_and]
  rw [e2]
  exact a1O I q rfl
 ·rename_i hl
  cases e
  refine PySem.W.keq_ne (r:=true) hS hS2 dd dd2 (by omega) (fun z=>absurd z (by omega)) ?_
  have e2:(vs.length == vs2.length && true)=false:=by rw [show (vs.length == vs2.length)=false by simp; omega,Bool.false_and]
  rw [e2]
  exact a1O I q rfl
section
variable {X:Cx}{B:Bs}{e a b c:Expr}{ma mb mc:M W}{pos:Pos}
theorem a5I {d e:D}{b:Bool}(h:eqT d e=some b):(∃ es fs,d=.dct es∧e=.dct fs)∨Z8 8 d e=some b:=by
 unfold eqT at h
 split at h
 ·exact .inl ⟨_,_,rfl,rfl⟩
 ·exact .inr h
theorem a7E:a1j B (fun x y H Q=>(∃ d e b,Rep B.K H x d∧Rep B.K H y e∧Z8 8 d e=some b∧Q (.bl b) H)∨∃ a c kvs1 kvs2 es fs b,x=.ref a∧y=.ref c∧Rd H a (.dK kvs1)∧Rd H c (.dK kvs2)∧l5 B.K H kvs1 es∧l5 B.K H kvs2 fs∧eqT (.dct es) (.dct fs)=some b∧Q (.bl b) H) M4:=by
 intro G H σ ρ x y dx dy w Q R hx hy e p
 unfold M4 at e
 cases hb:eqT dx dy with
 | none=>rw [hb] at e; cases e
 | some b=>
  rw [hb] at e
  cases e
  rcases a5I hb with ⟨es,fs,rfl,rfl⟩ | h8
  ·obtain ⟨a1,k1,rfl,h1,r1⟩:=hx.dct R.gH
   obtain ⟨a2,k2,rfl,h2,r2⟩:=hy.dct R.gH
   exact .inr ⟨a1,a2,k1,k2,es,fs,b,rfl,rfl,h1,h2,r1.same R.gH,r2.same R.gH,hb,p _ G H (j4.refl _) R (.bl _)⟩
  ·exact .inl ⟨dx,dy,b,hx.rep R.gH,hy.rep R.gH,h8,p _ G H (j4.refl _) R (.bl _)⟩
theorem b1Z:a1j B (fun x y H Q=>(∃ d e b,Rep B.K H x d∧Rep B.K H y e∧Z8 8 d e=some b∧Q (.bl (!b)) H)∨∃ a c kvs1 kvs2 es fs b,x=.ref a∧y=.ref c∧Rd H a (.dK kvs1)∧Rd H c (.dK kvs2)∧l5 B.K H kvs1 es∧l5 B.K H kvs2 fs∧eqT (.dct es) (.dct fs)=some b∧Q (.bl (!b)) H) a0C:=by
 intro G H σ ρ x y dx dy w Q R hx hy e p
 unfold a0C at e
 cases hb:eqT dx dy with
 | none=>rw [hb] at e; cases e
 | some b=>
  rw [hb] at e
  cases e
  rcases a5I hb with ⟨es,fs,rfl,rfl⟩ | h8
  ·obtain ⟨a1,k1,rfl,h1,r1⟩:=hx.dct R.gH
   obtain ⟨a2,k2,rfl,h2,r2⟩:=hy.dct R.gH
   exact .inr ⟨a1,a2,k1,k2,es,fs,b,rfl,rfl,h1,h2,r1.same R.gH,r2.same R.gH,hb,p _ G H (j4.refl _) R (.bl _)⟩
  ·exact .inl ⟨dx,dy,b,hx.rep R.gH,hy.rep R.gH,h8,p _ G H (j4.refl _) R (.bl _)⟩
theorem a9b (hu:X.A.units + 8 < cLine)(ha:PD X B a ma)(hb:PD X B b mb)(hK:X.K=B.K:=by rfl):PD X B (.Compare a [.Eq] [b] pos) (f7 M4 ma mb):=a6E (fun ξ=>(b05 (X:=rz X ξ) hK hu).or (a9N hK hu)) a7E ha hb (a1J _)
theorem a2Z (hu:X.A.units + 8 < cLine)(ha:PD X B a ma)(hb:PD X B b mb)(hK:X.K=B.K:=by rfl):PDT X B (.Compare a [.Eq] [b] pos) (z6 (f7 M4 ma mb)):=a07 (fun ξ=>(b05 (X:=rz X ξ) hK hu).or (a9N hK hu)) a7E ha hb (a1J _)
theorem a7B (hu:X.A.units + 8 < cLine)(ha:PD X B a ma)(hb:PD X B b mb)(hK:X.K=B.K:=by rfl):PDT X B (.Compare a [.NotEq] [b] pos) (z6 (f7 a0C ma mb)):=a07 (fun ξ=>(b5Q (X:=rz X ξ) hK hu).or (b3A hK hu)) b1Z ha hb (a1J _)
end
end L3
set_option Elab.async false
set_option linter.all false
set_option maxRecDepth 100000
set_option maxHeartbeats 4000000
namespace L3
open PySem PySem.Spec PyProof.Rows L2
noncomputable def opM (f:D→List D→Option W)(x:W)(ws:List W):M W:=fun ρ=>match getD x ρ,R7 ws ρ with
 | some d,some ds=>(f d ds).map (R'.ok · ρ)
 | _,_=>none
noncomputable def mMt (T:String)(f:D→List D→Option W)(mo:M W)(m:M (List W)):M W:=M.bind (O3 mo) fun x=>M.bind (chk T x) fun _=>M.bind m fun ws=>opM f x ws
noncomputable def b6i (B:Bs)(r:V→List V→Hp→VK→Prop)(f:D→List D→Option W):Prop:=∀ {G H:Hp} {σ:St} {ρ:k9} {x:V} {dx:D} {xs:List V} {ds:List D} {w:W} {Q:VK},RS B G H σ ρ→K9 B.K G H x dx→a7V B.K G H xs ds→f dx ds=some w→
 (∀ v G' H',j4 G G'→RS B G' H' σ ρ→F9 B G' H' σ ρ v w→Q v H')→r x xs H Q
theorem b3k {B:Bs}{ξ:XP}{f:D→List D→Option W}{x:W}{ws:List W}{G:Hp}{ρ:k9}{σ:St}{Q:VK}(t:Y8 D6 B ξ G ρ (opM f x ws) σ Q):∃ d ds w,getD x ρ=some d∧R7 ws ρ=some ds∧f d ds=some w∧∀ v G' H',j4 G G'→RS B G' H' σ ρ→F9 B G' H' σ ρ v w→Q v H':=by
 obtain ⟨r,e,p⟩:=t
 unfold opM at e
 cases hx:getD x ρ with
 | none=>rw [hx] at e; cases e
 | some d=>
  cases hy:R7 ws ρ with
  | none=>rw [hx,hy] at e; cases e
  | some ds=>
   rw [hx,hy] at e
   simp only [] at e
   cases hf:f d ds with
   | none=>rw [hf] at e; cases e
   | some w=>
    rw [hf] at e
    cases e
    exact ⟨d,ds,w,rfl,rfl,hf,p⟩
section
variable {X:Cx}{B:Bs}{o e:Expr}{es:List Expr}{mo:M W}{mr:M (List W)}{apos cpos:Pos}{name:Str}{T id:String}
theorem b7X {r:V→List V→Hp→VK→Prop}{f:D→List D→Option W}(pa:PlainAttrs T)(slot:Slot T name id)(hty:typeOf (.builtin id)=pure (.type "method_descriptor")) (hm:∀ ξ,MtR (rz X ξ) id r) (hi:b6i B r f) (ho:PD X B o mo) (ha:PDA X B (e::es) mr)
  (hK:X.K=B.K)
  (hbase:attributeBase o name X.env (eval o X.env)=eval o X.env)
  (hfew:((backTo cpos (starEach (e::es) X.env)).all (fun x=>!x.1) && (backToKw cpos (keywordEach [] X.env)).all (fun x=>x.1.isSome)
   && decide ((e::es).length + ([]:List Keyword).length + (if ([]:List Keyword).isEmpty then 0 else 1) < 30))=true)
  (hline:(apos.endLine == cpos.line)=true) (hs:starEach (e::es) X.env=(false,eval e X.env)::starEach es X.env) (hplain:(backTo cpos (starEach es X.env)).any (·.1)=false) (hT:T≠"dict":=by decide):
  PD X B (.Call (.Attribute o name apos) (e::es) [] cpos) (mMt T f mo mr):=.mk fun ξ=>
 (a9J (X:=rz X ξ) pa slot hty (hm ξ) (ho.ap ξ) (ha.ap ξ) hbase hfew hline hs hplain).imp fun σ H Q t=>by
  obtain ⟨G,ρ,R,t⟩:=t
  have t1:TD a3q B ξ (O3 mo) σ H _:=TD.bind (rel:=a3q) R t
  refine TD.O3 (t1.mono fun x H1 ⟨G1,ρ1,wa,s1,R1,⟨q1,st1⟩,t2⟩=>?_)
  obtain ⟨u,ρ2,e2,t3⟩:=t2.step fun r h=>⟨(),_,(a0V h).1⟩
  obtain ⟨e3,d,hd,ty⟩:=a0V e2
  cases e3
  refine ⟨by show tyV X.K T x H1; rw [hK]; exact a8t R1 (q1.get R1 hd) ty hT,?_⟩
  refine (TD.bind (rel:=N6) R1 t3).mono fun vs H2 ⟨G2,ρ2,ws,s2,R2,q2,t4⟩=>?_
  obtain ⟨dx,ds,w,e4,e5,e6,p⟩:=b3k t4
  exact hi R2 ((q1.keep s2 st1:F9 B G2 H2 σ ρ2 x wa).get R2 e4) (Z5 R2 q2 e5) e6 p
end
section
variable {X:Cx}{B:Bs}{e v1 v2:Expr}{es:List Expr}{me:M W}{pos:Pos}
end
end L3
set_option Elab.async false
set_option linter.all false
set_option maxRecDepth 100000
set_option maxHeartbeats 4000000
set_option Elab.async false
set_option linter.all false
set_option maxRecDepth 100000
set_option maxHeartbeats 4000000
namespace L3
open PySem L2
noncomputable def stW:W→W
 | .own d=>.val d
 | w=>w
section
variable {m ma mb mo mk mf:M W}{mr:M (List W)}{ρ ρ1 ρ2 ρ3 ρ4:k9}{w wa wb wc:W}{ws:List W}{d dx dy dz:D}{ds:List D}{i j:Nat}{k k2:Bool}{f:D→D→Option W}{s1 s2:SM}{r:Option SR}{c c1 c2:M Bool}
theorem O8:getD (stW w) ρ=getD w ρ:=by cases w <;> rfl
theorem V9 (h:m ρ=some (.ok w ρ1)):O3 m ρ=some (.ok (stW w) ρ1):=by
 cases w with
 | own d=>exact b18 h
 | val d=>exact b1a h
 | slot i=>exact a93 h
theorem k6:mC d ρ=some (.ok (.val d) ρ):=rfl
theorem d8 {c:C}(h:ρ[i]?=some (some c)):c9 i ρ=some (.ok (.slot i) ρ):=by unfold c9; rw [h]
theorem f9 (ha:ma ρ=some (.ok wa ρ1))(hb:mb ρ1=some (.ok wb ρ2))(hx:getD wa ρ2=some dx)(hy:getD wb ρ2=some dy)(hf:f dx dy=some w):f7 f ma mb ρ=some (.ok w ρ2):=by
 unfold f7
 rw [M.i9 (V9 ha),M.i9 hb]
 unfold op2
 rw [O8,hx,hy]
 simp only [hf,Option.map_some]
theorem U7 {f:D→Option W}(ha:ma ρ=some (.ok wa ρ1))(hx:getD wa ρ1=some dx)(hf:f dx=some w):mUn f ma ρ=some (.ok w ρ1):=by
 unfold mUn
 rw [M.i9 ha]
 unfold op1
 rw [hx]
 simp only [hf,Option.map_some]
theorem i7:g8 ρ=some (.ok [] ρ):=rfl
theorem d9 (ha:ma ρ=some (.ok wa ρ1))(hb:mr ρ1=some (.ok ws ρ2)):c6 ma mr ρ=some (.ok (stW wa::ws) ρ2):=by
 unfold c6
 rw [M.i9 (V9 ha),M.i9 hb]
 rfl
theorem B3 {f:List D→Option W}(ha:mr ρ=some (.ok ws ρ1))(hx:R7 ws ρ1=some ds)(hf:f ds=some w):B7 f mr ρ=some (.ok w ρ1):=by
 unfold B7
 rw [M.i9 ha]
 unfold opN
 rw [hx]
 simp only [hf,Option.map_some]
theorem W6 {ms:List Bool}{fm:List D→Option FR}{fin:List D}(ha:mr ρ=some (.ok ws ρ1))(hx:L0 ms ws ρ1=some ds)(hp:a4e (E8 ms ws) (V7 ρ1 ms ws)=true)(hf:fm ds=some (.ret w fin))(hs:a7g (E8 ms ws) fin ρ1=some ρ2)
  (he:(a3j w && fin.all Y7)=true):n5 ms fm mr ρ=some (.ok w ρ2):=by
 unfold n5
 rw [M.i9 ha]
 unfold a7P
 rw [hx]
 simp only []
 rw [if_pos hp,hf]
 simp only [hs]
 rw [if_pos he]
theorem A5 {ms:List Bool}{fm:List D→Option FR}{fin:List D}(ha:mr ρ=some (.ok ws ρ1))(hx:L0 ms ws ρ1=some ds)(hp:a4e (E8 ms ws) (V7 ρ1 ms ws)=true)(hf:fm ds=some (.ret w fin))(hs:a7g (E8 ms ws) fin ρ1=some ρ2)
  (he:V7 ρ1 ms ws=[]):n5 ms fm mr ρ=some (.ok w ρ2):=by
 unfold n5
 rw [M.i9 ha]
 unfold a7P
 rw [hx]
 simp only []
 rw [if_pos hp,hf]
 simp only [hs]
 split
 ·rfl
 ·rw [he]
  rfl
theorem b2z {ms:List Bool}{fm:List D→Option FR}{fin:List D}(ha:mr ρ=some (.ok ws ρ1))(hx:L0 ms ws ρ1=some ds)(hp:a4e (E8 ms ws) (V7 ρ1 ms ws)=true)(hf:fm ds=some (.ret w fin))(hs:a7g (E8 ms ws) fin ρ1=some ρ2)
  (he:(a3j w && fin.all Y7)=false) (hh:a0U (V7 ρ1 ms ws) ρ2=some ρ3):n5 ms fm mr ρ=some (.ok w ρ3):=by
 unfold n5
 rw [M.i9 ha]
 unfold a7P
 rw [hx]
 simp only []
 rw [if_pos hp,hf]
 simp only [hs]
 rw [if_neg (by rw [he]; exact Bool.false_ne_true),hh]
 rfl
theorem C0 (ha:m ρ=some (.ok (.val (.bl k)) ρ1)):z6 m ρ=some (.ok k ρ1):=by unfold z6; rw [M.i9 ha]
theorem D8 (ha:m ρ=some (.ok w ρ1))(hx:getD w ρ1=some d)(hf:b0I d=some k):C9 m ρ=some (.ok k ρ1):=by
 unfold C9
 rw [M.i9 ha]
 simp only [hx,hf,Option.map_some]
theorem a30 (ha:c1 ρ=some (.ok k ρ1))(hb:c2 ρ1=some (.ok k2 ρ1)):a50 c1 c2 ρ=some (.ok (k && k2) ρ1):=by
 unfold a50
 rw [M.i9 ha]
 cases k with
 | true=>exact hb
 | false=>rfl
theorem b3g (ha:c1 ρ=some (.ok k ρ1))(hk:k=false):a50 c1 c2 ρ=some (.ok false ρ1):=by
 subst hk
 unfold a50
 rw [M.i9 ha]
 rfl
theorem b7b (ha:c1 ρ=some (.ok k ρ1))(hb:c2 ρ1=some (.ok k2 ρ1)):mOr c1 c2 ρ=some (.ok (k || k2) ρ1):=by
 unfold mOr
 rw [M.i9 ha]
 cases k with
 | true=>rfl
 | false=>exact hb
theorem b0O (ha:c1 ρ=some (.ok k ρ1))(hk:k=true):mOr c1 c2 ρ=some (.ok true ρ1):=by
 subst hk
 unfold mOr
 rw [M.i9 ha]
 rfl
theorem a0Y {rr:Option (R' Bool)}(ha:c1 ρ=some (.ok k ρ1))(hk:k=false)(hb:c2 ρ1=rr):mOr c1 c2 ρ=rr:=by
 subst hk
 unfold mOr
 rw [M.i9 ha]
 exact hb
theorem S9 (ha:c1 ρ=some (.ok k ρ1)):P4 c1 ρ=some (.ok (!k) ρ1):=by unfold P4; rw [M.i9 ha]; rfl
theorem b4p (hx:getD w ρ=some (.bl k)):mBl w ρ=some (.ok k ρ):=by unfold mBl; rw [hx]
theorem a2h {rr:Option (R' W)}(ha:ma ρ=some (.ok wa ρ1))(hx:getD wa ρ1=some (.bl k))(hk:k=true)(hb:mb ρ1=rr):a05 ma mb ρ=rr:=by
 subst hk
 unfold a05
 rw [M.i9 ha,M.i9 (b4p hx)]
 exact hb
theorem b3D (ha:ma ρ=some (.ok wa ρ1))(hx:getD wa ρ1=some (.bl k)):a8X ma ρ=some (.ok (.val (.bl (!k))) ρ1):=by
 unfold a8X
 rw [M.i9 ha,M.i9 (b4p hx)]
 rfl
theorem P9 (ha:mr ρ=some (.ok ws ρ1))(hl:a0S ws ρ1=some (.ok ds ρ2))(hz:small ds.length):F2 mr ρ=some (.ok (.val (.tup ds)) ρ2):=by
 unfold F2
 rw [M.i9 ha,M.i9 hl]
 exact r8 hz
theorem Q3 (ha:mr ρ=some (.ok ws ρ1))(hl:a0S ws ρ1=some (.ok ds ρ2))(hz:small ds.length):P1 mr ρ=some (.ok (.own (.lst ds)) ρ2):=by
 unfold P1
 rw [M.i9 ha,M.i9 hl]
 exact r8 hz
theorem a49 {l:Bool}{ds0:List D}(h0:ρ[i]?=some (some (.ow l (.lst ds0))))(ha:mr ρ=some (.ok [w] ρ1))(hl:C7 w ρ1=some (.ok d ρ2))(h1:ρ2[i]?=some (some (.ow l (.lst ds))))(hz:small ds.length):
  D4 i mr ρ=some (.ok (.val .A3) (ρ2.set i (some (.ow l (.lst (ds++[d])))))):=by
 unfold D4
 have hc:chk "list" (.slot i) ρ=some (.ok () ρ):=by
  unfold chk getD
  simp only [h0]
  rfl
 rw [M.i9 (d8 h0),M.i9 hc,M.i9 ha]
 show M.bind (C7 w) (a2b i) ρ1=_
 rw [M.i9 hl]
 unfold a2b
 rw [h1]
 exact r8 hz
theorem b3p {es es2:List (Key×D)}{kk:Key}(ha:mo ρ=some (.ok wa ρ1))(h0:getD wa ρ1=some (.dct es2))(hb:mk ρ1=some (.ok wb ρ2))(hx:getD wa ρ2=some (.dct es))(hy:getD wb ρ2=some dy)(hk:keyOf dy=some kk):a7H mo mk ρ=some (.ok (.val ((J1 es kk).getD .A3)) ρ2):=by
 unfold a7H
 have hc:chk "dict" (stW wa) ρ1=some (.ok () ρ1):=by
  unfold chk
  rw [O8,h0]
  rfl
 rw [M.i9 (V9 ha),M.i9 hc,M.i9 hb]
 unfold op2
 rw [O8,hx,hy]
 simp only [b4w,hk,Option.map_some]
theorem b4a {es es2:List (Key×D)}{kk:Key}(ha:mo ρ=some (.ok wa ρ1))(h0:getD wa ρ1=some (.dct es2))(hb:mk ρ1=some (.ok wb ρ2))(hc':mf ρ2=some (.ok wc ρ3))(hl:C7 wc ρ3=some (.ok dz ρ4))(hx:getD wa ρ4=some (.dct es))(hy:getD wb ρ4=some dy)(hk:keyOf dy=some kk):b4F mo mk mf ρ=some (.ok (.val ((J1 es kk).getD dz)) ρ4):=by
 unfold b4F
 have hc:chk "dict" (stW wa) ρ1=some (.ok () ρ1):=by
  unfold chk
  rw [O8,h0]
  rfl
 rw [M.i9 (V9 ha),M.i9 hc,M.i9 (V9 hb),M.i9 hc',M.i9 hl]
 unfold op2
 rw [O8,O8,hx,hy]
 simp only [b4r,hk,Option.map_some]
theorem b4s {T:String}{f:D→List D→Option W}(ha:mo ρ=some (.ok wa ρ1))(h0:getD wa ρ1=some d)(ht:tyD T d=true)(hb:mr ρ1=some (.ok ws ρ2))(hx:getD wa ρ2=some dx)(hy:R7 ws ρ2=some ds)(hf:f dx ds=some w):mMt T f mo mr ρ=some (.ok w ρ2):=by
 unfold mMt
 have hc:chk T (stW wa) ρ1=some (.ok () ρ1):=by
  unfold chk
  rw [O8,h0]
  simp only [ht,if_true]
 rw [M.i9 (V9 ha),M.i9 hc,M.i9 hb]
 unfold opM
 rw [O8,hx,hy]
 simp only [hf,Option.map_some]
theorem a2f {n:Int}(ha:m ρ=some (.ok w ρ1))(hx:getD w ρ1=some (.int n)):a0A m ρ=some (.ok (some n) ρ1):=by
 unfold a0A
 rw [M.i9 ha]
 simp only [hx]
theorem a68:(M.pure none:M (Option Int)) ρ=some (.ok none ρ):=rfl
theorem a7I {ml mh:M (Option Int)}{lo hi:Option Int}(ha:ma ρ=some (.ok wa ρ1))(hl:ml ρ1=some (.ok lo ρ2))(hh:mh ρ2=some (.ok hi ρ3))(hx:getD wa ρ3=some dx)(hf:slD dx lo hi=some w):mSl ma ml mh ρ=some (.ok w ρ3):=by
 unfold mSl
 rw [M.i9 (V9 ha),M.i9 hl,M.i9 hh]
 unfold op1
 rw [O8,hx]
 simp only [hf,Option.map_some]
theorem g9 (h1:s1 ρ=some (.nx ρ1))(h2:s2 ρ1=r):l6 s1 s2 ρ=r:=by rw [b3E h1]; exact h2
theorem F8 (h1:s1 ρ=some (.rt w ρ1)):l6 s1 s2 ρ=some (.rt w ρ1):=by unfold l6; rw [h1]
theorem B6:nxS ρ=some (.nx ρ):=rfl
theorem u5 (ha:m ρ=some (.ok w ρ1))(hs:a6U i w ρ1=some (.nx ρ2)):n9 i m ρ=some (.nx ρ2):=by unfold n9; rw [F0 ha]; exact hs
theorem L6 {sr:SR}(ha:m ρ=some (.ok w ρ1))(hs:b4V w ρ1=some sr):retS m ρ=some sr:=by unfold retS; rw [F0 ha]; exact hs
theorem a3K (ha:m ρ=some (.ok w ρ1)):L5 m ρ=some (.nx ρ1):=by unfold L5; rw [F0 ha]; rfl
theorem C8 (hc:c ρ=some (.ok k ρ1))(hk:k=true)(h:s1 ρ1=r):Y5 c s1 s2 ρ=r:=by subst hk; unfold Y5; rw [F0 hc]; exact h
theorem v8 (hc:c ρ=some (.ok k ρ1))(hk:k=false)(h:s2 ρ1=r):Y5 c s1 s2 ρ=r:=by subst hk; unfold Y5; rw [F0 hc]; exact h
theorem a2L (hv:m ρ=some (.ok wa ρ1)){c0:C}(h0:ρ1[i]?=some (some c0))(hk:mk ρ1=some (.ok wb ρ2))(hl:C7 (stW wa) ρ2=some (.ok d ρ3))(hy:getD wb ρ3=some dy)(hp:a2t i dy d ρ3=r):a1Y i m mk ρ=r:=by
 unfold a1Y
 rw [F0 (V9 hv),F0 (d8 h0),F0 hk,F0 hl]
 simp only [hy]
 exact hp
theorem O7 {mi:M (List D)}{tg:FT}(hi:mi ρ=some (.ok ds ρ1))(h:forL tg s1 ds ρ1=r):a0n mi tg s1 ρ=r:=by unfold a0n; rw [F0 hi]; exact h
theorem T3 {g:List D→Option (List D)}{es:List D}(ha:mr ρ=some (.ok ws ρ1))(hx:R7 ws ρ1=some ds)(hf:g ds=some es):U0 g mr ρ=some (.ok es ρ1):=by
 unfold U0
 rw [M.i9 ha]
 simp only [hx,hf,Option.map_some]
theorem L1 {es:List D}(ha:m ρ=some (.ok w ρ1))(hl:C7 w ρ1=some (.ok d ρ2))(hf:itD d=some es):A1 m ρ=some (.ok es ρ2):=by
 unfold A1
 rw [M.i9 ha,M.i9 hl]
 simp only [hf,Option.map_some]
theorem D0 {mi:M (List D)}{tg:FT}{mt:M Bool}{me:M W}{own:Nat}{fr:List Nat}{ys:List D}(hi:mi ρ=some (.ok ds ρ1))(hz:small ds.length)(hc:D3 tg mt me (T6 own fr ρ1) ds=some ys)(hf:ys.all Q8=true∨a1N ρ1 fr=[]):C6 mi tg mt me own fr ρ=some (.ok (.own (.lst ys)) ρ1):=by
 unfold C6
 rw [M.i9 hi]
 unfold b2P
 rw [hc]
 simp only []
 rw [r8 hz]
 rcases hf with hf | hf
 ·rw [if_pos hf]
 ·split
  ·rfl
  ·rw [hf]
   rfl
theorem a09 {tg:FT}{me:M W}(g:D→D):∀ (ds:List D),(∀ d∈ds,∃ ρ1 w ρ2 ρ3,tg d ρ=some ρ1∧me ρ1=some (.ok w ρ2)∧C7 w ρ2=some (.ok (g d) ρ3))→D3 tg E6 me ρ ds=some (ds.map g)
 | [],_=>rfl
 | d::ds,h=>by
  obtain ⟨ρ1,w,ρ2,ρ3,h1,h2,h3⟩:=h d List.mem_cons_self
  unfold D3 compTurn
  rw [h1]
  have hy:E6 ρ1=some (.ok true ρ1):=rfl
  simp only [hy]
  rw [M.i9 h2,h3,a09 g ds fun x hx=>h x (List.mem_cons_of_mem _ hx)]
  rfl
theorem E7 {den:SM}{n:Nat}{ms:List Bool}{sr:SR}{fr:FR}(h:den (z7 n ms ds)=some sr)(ho:a7F ms sr=some fr):G8 den n ms ds=some fr:=by unfold G8; rw [h]; exact ho
theorem a5r {tg:FT}(g:List D→k9)(hs:∀ pre d post,ds=pre++d::post→∃ ρ1,tg d (g pre)=some ρ1∧(s1 ρ1=some (.nx (g (pre++[d])))∨s1 ρ1=some (.ct (g (pre++[d]))))):forL tg s1 ds (g [])=some (.nx (g ds)):=by
 have key:∀ (es pre:List D),ds=pre++es→forL tg s1 es (g pre)=some (.nx (g ds)):=by
  intro es
  induction es with
  | nil=>intro pre h; rw [h,List.append_nil]; rfl
  | cons d es ih=>
   intro pre h
   obtain ⟨ρ1,e1,e2⟩:=hs pre d es h
   have q:=ih (pre++[d]) (by rw [h]; simp)
   unfold forL
   rw [e1]
   rcases e2 with e2 | e2
   ·simp only [e2]; exact q
   ·simp only [e2]; exact q
 exact key ds [] rfl
theorem W0 {a b:Int}(h:a6Z a b):R8 (.int a) (.int b)=some (.val (.int (a * b))):=r8 h
theorem a6C {a b:Int}(h:a95 a b):a3v (.int a) (.int b)=some (.val (.int (a / b))):=r8 h
theorem N9 {a b:Int}(h:0 < b):F5 (.int a) (.int b)=some (.val (.int (a % b))):=r8 h
end
end L3
set_option Elab.async false
set_option linter.all false
set_option maxRecDepth 100000
set_option maxHeartbeats 4000000
set_option Elab.async false
set_option linter.all false
set_option maxRecDepth 100000
set_option maxHeartbeats 4000000
namespace L3
open PySem PySem.Spec PyProof.Rows L2
section
variable {K:PySem.W.Frag}{G:Hp}
end
end L3
set_option Elab.async false
set_option linter.all false
set_option maxRecDepth 100000
set_option maxHeartbeats 4000000
namespace L3
open PySem PySem.Spec PyProof.Rows L2
noncomputable def a0p:SM:=fun _=>none
theorem W9 {X:Cx}{B:Bs}{st:Stmt}:PSD X B st a0p:=.mk fun ξ=>(b1c (X:=rz X ξ)).imp fun Dn σ H t=>by
 obtain ⟨G,ρ,R,r,e,p⟩:=t
 cases e
noncomputable def a1F (d:D):List D→Option (List Bool)
 | []=>some []
 | y::ys=>match Z8 7 y d,a1F d ys with
  | some a,some b=>some (a::b)
  | _,_=>none
theorem b1J {d:D}:∀ {ds:List D} {bs:List Bool},a1F d ds=some bs→∃ b,inL d ds=some b
 | [],_,_=>⟨false,rfl⟩
 | y::ys,bs,h=>by
  unfold a1F at h
  cases h1:Z8 7 y d with
  | none=>rw [h1] at h; cases h
  | some p=>
   cases h2:a1F d ys with
   | none=>rw [h1,h2] at h; cases h
   | some q=>
    obtain ⟨b,hb⟩:=b1J h2
    exact ⟨p || b,by unfold inL; rw [h1,hb]⟩
noncomputable def P8:List Bool→Option Nat
 | []=>none
 | true::_=>some 0
 | false::r=>(P8 r).map (· + 1)
theorem a5F:∀ {bs:List Bool} {j:Nat},P8 bs=some j→bs[j]?=some true∧∀ m,m < j→bs[m]?=some false
 | [],_,h=>by cases h
 | true::_,_,h=>by cases h; exact ⟨rfl,fun m hm=>by omega⟩
 | false::r,j,h=>by
  unfold P8 at h
  obtain ⟨k,hk,rfl⟩:=Option.map_eq_some_iff.mp h
  obtain ⟨h1,h2⟩:=a5F hk
  refine ⟨by simpa using h1,fun m hm=>?_⟩
  cases m with
  | zero=>rfl
  | succ m=>simpa using h2 m (by omega)
section
variable {X:Cx}{pins:List (Addr×Obj)}{σ:St}{H:Hp}{s:Shared}
theorem a9H (I:Inv X pins σ H s){d:D}:∀ {ds:List D} {xs:List V} {us:List Value} {bs:List Bool},a1F d ds=some bs→v5 X.K H xs ds→Vals xs us→us.map (N3 X.K H d)=bs
 | [],[],us,b,h,_,v=>by cases v; cases h; rfl
 | [],_::_,_,_,_,r,_=>by have:=r.len; simp at this
 | _::_,[],_,_,_,r,_=>by have:=r.len; simp at this
 | e::ds,x::xs,us,b,h,r,v=>by
  cases v with
  | cons r1 v=>
   unfold a1F at h
   cases h1:Z8 7 e d with
   | none=>rw [h1] at h; cases h
   | some p=>
    cases h2:a1F d ds with
    | none=>rw [h1,h2] at h; cases h
    | some q=>
     rw [h1,h2] at h
     cases h
     rw [List.map_cons,a3U I r1 r.head h1,a9H I h2 r.tail v]
end
theorem b0M {X:Cx}{K:PySem.W.Frag}(hK:X.K=K)(hu:X.A.units + 8 < cLine):MtR X "list.index" (fun x xs H Q=>∃ p ys ds y d bs j,x=.ref p∧xs=[y]∧Rep K H y d∧L8 K H p ys∧v5 K H ys ds∧a1F d ds=some bs∧P8 bs=some j∧Q (.int ((j:Nat):Int)) H):=by
 subst hK
 intro pins s σ H x xs v us Q I rx rv h
 obtain ⟨p,ys,ds,y,d,bs,j,rfl,rfl,hy,hq,hr,hb,hj,q⟩:=h
 cases rx
 obtain ⟨u,rfl,ru⟩:=vals1 rv
 obtain ⟨its,r,pl,hz⟩:=I.list hq
 obtain ⟨b,hb'⟩:=b1J hb
 obtain ⟨⟨cls,dd,data,sl⟩,n,ho,hc,hdd,hd⟩:=pl
 simp only at hc hd hdd
 subst hc hd hdd
 have e:=a9H I hb hr r
 obtain ⟨h1,h2⟩:=a5F hj
 have hjl:j < its.length:=by
  have:=(List.getElem?_eq_some_iff.mp h1).1
  rw [← e] at this
  simpa using this
 have hit:N3 X.K H d its.toArray[j]=true:=by
  rw [← e,List.getElem?_map,List.getElem?_eq_getElem hjl] at h1
  simpa using h1
 have hno:∀ m (hm:m < its.toArray.size),m < j→N3 X.K H d its.toArray[m]=false:=by
  intro m hm hlt
  have h3:=h2 m hlt
  rw [← e,List.getElem?_map,List.getElem?_eq_getElem (by simpa using hm)] at h3
  simpa using h3
 have hl:=r.length
 rw [sizeLine_eq] at hz
 refine call_meets PySem.F.slot_list_index ⟨_,ho,rfl⟩ PySem.F.entry_list_index (PySem.F.args_list_index_2 _ _) (SeqAt.list_indexAt p its.toArray n none sl u (N3 X.K H d) j (by simpa using hjl) (by omega) hit hno) ⟨ho,fun w hw=>a08 I hy ru (by show X.A.units + 1 + 7 < _; omega) hb' hr r w (by simpa using hw),?_⟩
 exact ⟨.int _,H,I.tok _,⟨_,rfl⟩,q⟩
noncomputable def a3Y:D→List D→Option W
 | .lst ds,[d]=>(a1F d ds).bind fun bs=>(P8 bs).bind fun j=>vI ((j:Nat):Int)
 | _,_=>none
section
variable {X:Cx}{B:Bs}{o e:Expr}{mo:M W}{mr:M (List W)}{apos cpos:Pos}
theorem a8V:b6i B (fun x xs H Q=>∃ p ys ds y d bs j,x=.ref p∧xs=[y]∧Rep B.K H y d∧L8 B.K H p ys∧v5 B.K H ys ds∧a1F d ds=some bs∧P8 bs=some j∧Q (.int ((j:Nat):Int)) H) a3Y:=by
 intro G H σ ρ x dx xs ds w Q R hx h e p
 match dx,ds,e with
 | .lst ds,[d],e=>
  obtain ⟨y,rfl,hy⟩:=I9 h
  have e:(a1F d ds).bind (fun bs=>(P8 bs).bind fun j=>vI ((j:Nat):Int))=some w:=e
  cases hb:a1F d ds with
  | none=>rw [hb] at e; cases e
  | some bs=>
   rw [hb] at e
   have e:(P8 bs).bind (fun j=>vI ((j:Nat):Int))=some w:=e
   cases hj:P8 bs with
   | none=>rw [hj] at e; cases e
   | some j=>
    rw [hj] at e
    cases e
    obtain ⟨q,ys,rfl,h1,r1⟩:=hx.lst R.gH
    exact ⟨q,ys,ds,y,d,bs,j,rfl,rfl,hy.rep R.gH,h1,r1.same R.gH,hb,hj,p _ G H (j4.refl _) R (.int _)⟩
theorem b23 (hu:X.A.units + 8 < cLine)(ho:PD X B o mo)(ha:PDA X B [e] mr)(hK:X.K=B.K:=by rfl)(hbase:attributeBase o "index" X.env (eval o X.env)=eval o X.env:=by rfl)
  (hfew:((backTo cpos (starEach [e] X.env)).all (fun x=>!x.1) && (backToKw cpos (keywordEach [] X.env)).all (fun x=>x.1.isSome) && decide (([e]:List Expr).length + ([]:List Keyword).length + (if ([]:List Keyword).isEmpty then 0 else 1) < 30))=true:=by rfl)
  (hline:(apos.endLine == cpos.line)=true:=by rfl) (hs:starEach [e] X.env=(false,eval e X.env)::starEach [] X.env:=by rfl) (hplain:(backTo cpos (starEach [] X.env)).any (·.1)=false:=by rfl):PD X B (.Call (.Attribute o "index" apos) [e] [] cpos) (mMt "list" a3Y mo mr):=
 b7X PySem.F.plainAttrs_list PySem.F.slot_list_index PySem.F.type_list_index (fun ξ=>b0M (X:=rz X ξ) (K:=B.K) hK hu) a8V ho ha hK hbase hfew hline hs hplain
end
section
variable {tg:FT}{mt:M Bool}{me:M W}{ρ ρ1 ρ2 ρ3 ρ4:k9}{d y:D}{w:W}
theorem a65 (h1:tg d ρ=some ρ1)(h2:mt ρ1=some (.ok true ρ2))(h3:me ρ2=some (.ok w ρ3))(h4:C7 w ρ3=some (.ok y ρ4)):compTurn tg mt me ρ d=some (some y):=by
 unfold compTurn
 rw [h1]
 simp only [h2]
 rw [M.i9 h3,h4]
theorem b3Q (h1:tg d ρ=some ρ1)(h2:mt ρ1=some (.ok false ρ2)):compTurn tg mt me ρ d=some none:=by
 unfold compTurn
 rw [h1]
 simp only [h2]
end
theorem b2C {α:Type}(xs:List α)(k:Nat):(xs.drop (HT.B8 xs.length 0 (some (k:Int)))).take (HT.B8 xs.length xs.length none - HT.B8 xs.length 0 (some (k:Int)))=xs.drop k:=by
 rw [HT.a9d,HT.a4D]
 by_cases h:k≤xs.length
 ·rw [Nat.min_eq_left h,List.take_of_length_le (by simp)]
 ·rw [Nat.min_eq_right (by omega),List.take_of_length_le (by simp),List.drop_eq_nil_of_le (Nat.le_refl _),List.drop_eq_nil_of_le (by omega)]
theorem b5i {α:Type}(xs:List α)(k:Nat):(xs.drop (HT.B8 xs.length 0 none)).take (HT.B8 xs.length xs.length (some (k:Int)) - HT.B8 xs.length 0 none)=xs.take k:=by
 rw [HT.a9d,HT.a4D,List.drop_zero,Nat.sub_zero]
 by_cases h:k≤xs.length
 ·rw [Nat.min_eq_left h]
 ·rw [Nat.min_eq_right (by omega),List.take_of_length_le (Nat.le_refl _),List.take_of_length_le (by omega)]
theorem b5K (n d:Nat):HT.B8 n d (some (-1))=n - 1:=by
 show (if (-1:Int) < 0 then ((-1:Int) + (n:Int)).toNat else min (-1:Int).toNat n)=n - 1
 rw [if_pos (by decide)]
 omega
theorem b2N {α:Type}(xs:List α):(xs.drop (HT.B8 xs.length 0 none)).take (HT.B8 xs.length xs.length (some (-1)) - HT.B8 xs.length 0 none)=xs.dropLast:=by
 rw [b5K,HT.a4D,List.drop_zero,Nat.sub_zero,List.dropLast_eq_take]
theorem a8c {X:Cx}{B:Bs}{x:Str}{cs:List Nat}{j pos}(h:x.cps.toList=cs):PD X B (.Constant (.str x) j pos) (mC (.str cs)):=by
 subst h
 exact b6s
end L3
set_option maxRecDepth 100000
namespace PySem
open PyProof.Rows
theorem F.a51:typeLookup (.type "list") "keys"=pure none:=by rw [typeLookup_type,builtinLookup_eq_fast]; kernel_rfl
theorem F.a3x:typeLookup (.type "list") "__getattr__"=pure none:=by rw [typeLookup_type,builtinLookup_eq_fast]; kernel_rfl
theorem F.M6:isSubtype (.type "AttributeError") (.type "AttributeError")=pure true:=by rw [isSubtype_type]; kernel_rfl
section
variable {prog:Program}{w:World}{A:Around}{E:Value→Shared→Prop}{h:Heap}{g:Array GenState}{d:Drawn}{t:Nat}{os:OsState}{a:Addr}{items:Array Value}{n:Nat}{sl:Array (Option Value)}
theorem a4q {α:Type}{msg:Str}{Q:α→Shared→Prop}(hh:A.handled=none)(hm:msg.length≤sizeLine)
   (hE:∀ x h' t',(∀ b o,h.get? b=some o→h'.get? b=some o)→(∃ o,h'.get? x=some o∧o.cls=.type "AttributeError")→E (.ref x) ⟨h',g,d,t',os⟩):
    wpAny (model prog w) A (raiseAttrError (.ref a) (Str.ofString "keys") msg:Sem α) Q E ⟨h,g,d,t,os⟩:=by
  have f1:=F.M6
  unfold raiseAttrError mkStr
  repeat (any_goals (first | assumption | wp_step))
  refine wpAny_raiseNew_none hh (hE _ _ _ (fun b o hb=>?_) ⟨_,Heap.get?_update_self _ (Heap.get?_push_size _ rfl) rfl,rfl⟩)
  refine Eq.trans (Heap.get?_update_other _ _ ?_) (Heap.get?_push_of_some _ (Heap.get?_push_of_some _ hb))
  have:=Heap.lt_size hb
  intro z
  rw [← z] at this
  have e:=PyProof.Rows.size_push' h { cls:=Value.type "tuple",data:=Data.seq #[Value.str msg t] }
  rw [e] at this
  exact Nat.lt_irrefl _ (Nat.lt_trans (Nat.lt_succ_self _) this)
theorem a3z {tk:Tok}{Q:Fin→Shared→Prop}(hh:A.handled=none)(hx:h.get? a=some { cls:=.type "list",dict:=none,data:=.seq items n,slots:=sl })
   (hE:∀ x h' t',(∀ b o,h.get? b=some o→h'.get? b=some o)→(∃ o,h'.get? x=some o∧o.cls=.type "AttributeError")→E (.ref x) ⟨h',g,d,t',os⟩):
    wpAny (model prog w) A (Builtin.«object.__getattribute__» ⟨[.ref a,.str "keys" tk],[]⟩) Q E ⟨h,g,d,t,os⟩:=by
  have hT:(⟨h,g,d,t,os⟩:Shared).TypeIs (.ref a) "list":=⟨_,hx,rfl⟩
  have f4:=F.a51
  repeat (any_goals (first | assumption | wp_step))
  refine a4q hh ?_ hE
  decide +kernel
theorem a4J {tk:Tok}{R:Result→Shared→Prop}(hh:A.handled=none)(hx:h.get? a=some { cls:=.type "list",dict:=none,data:=.seq items n,slots:=sl })
   (hE:∀ x h' t',(∀ b o,h.get? b=some o→h'.get? b=some o)→(∃ o,h'.get? x=some o∧o.cls=.type "AttributeError")→R (.error (.ref x)) ⟨h',g,d,t',os⟩):
    codeAny (model prog w) A (.call (.builtin "list.__getattribute__") ⟨[.ref a,.str "keys" tk],[]⟩) R ⟨h,g,d,t,os⟩:=
  codeAny_call_builtin F.slot_list_getattribute.plain F.entry_list_ga (F.slot_list_getattribute.check _ _ _ _ _ _ _ _ (show (⟨h,g,d,t,os⟩:Shared).TypeIs (.ref a) "list" from ⟨_,hx,rfl⟩) (F.args_list_getattribute_2 _ _) (a3z hh hx hE))
theorem a6n {tk:Tok}{Q:Value→Shared→Prop}(hh:A.handled=none)(hx:h.get? a=some { cls:=.type "list",dict:=none,data:=.seq items n,slots:=sl })
   (hE:∀ x h' t',(∀ b o,h.get? b=some o→h'.get? b=some o)→(∃ o,h'.get? x=some o∧o.cls=.type "AttributeError")→E (.ref x) ⟨h',g,d,t',os⟩):wpAny (model prog w) A (getAttrBy (.ref a) (.str "keys" tk) false) Q E ⟨h,g,d,t,os⟩:=by
  have hT:(⟨h,g,d,t,os⟩:Shared).TypeIs (.ref a) "list":=⟨_,hx,rfl⟩
  have f2:=F.slot_list_getattribute.lookup
  have f3:=F.slot_list_getattribute.bind (.ref a)
  have f5:=F.a3x
  have f6:=F.M6
  repeat (any_goals (first | assumption | wp_step))
  refine a4J hh hx fun x h' t' kp ex=>?_
  have hT':(⟨h',g,d,t',os⟩:Shared).TypeIs (.ref x) "AttributeError":=ex
  repeat (any_goals (first | assumption | wp_step))
  exact hE x h' t' kp ex
theorem a4N {Q:Option Value→Shared→Prop}(hh:A.handled=none)(hx:h.get? a=some { cls:=.type "list",dict:=none,data:=.seq items n,slots:=sl })
   (hQ:∀ h' t',(∀ b o,h.get? b=some o→h'.get? b=some o)→Q none ⟨h',g,d,t',os⟩):wpAny (model prog w) A (getAttr? (.ref a) "keys") Q E ⟨h,g,d,t,os⟩:=by
  unfold getAttr? getAttrBy?
  have f6:=F.M6
  repeat (any_goals (first | assumption | with_reducible apply a6n hh hx | wp_step))
  intro x h' t' kp ex
  have hT':(⟨h',g,d,t',os⟩:Shared).TypeIs (.ref x) "AttributeError":=ex
  repeat (any_goals (first | assumption | wp_step))
  exact hQ h' t' kp
end
theorem F.C1:entryFor table "dict.update.loop"=some Builtin.«dict.update.loop»:=entryFor_of_tree (by kernel_rfl)
theorem F.u0:plainId "dict.update.loop"=true:=by decide +kernel
noncomputable def b6O (d it:Addr)(h h':Heap):Prop:=∀ b o,b≠d→b≠it→h.get? b=some o→h'.get? b=some o
section
variable {prog:Program}{w:World}{A:Around}{E:Value→Shared→Prop}{K:Type}[DecidableEq K]{knd:KeyKind prog w K}
theorem a7W (d it l : Addr) (items : Array Value) (ps : List (K × Value)) (hh : A.in1.handled = none) (hdl : l ≠ d) (hil : l ≠ it) (hdi : d ≠ it) (result : Value) (hlen : ps.length = items.size) (R : Result → Shared → Prop) :
  ∀ (m i : Nat) (kvs : List (K × Value)) (s : Shared), m = ps.length - i → i ≤ ps.length →
   s.heap.DictOf knd d kvs → s.heap.IsListIter it l i → s.heap.IsList l items →
   (∀ (j : Nat) (p : K × Value), ps[j]? = some p → ∃ t key, items[j]? = some (.ref t) ∧ t ≠ d ∧ t ≠ it ∧ s.heap.IsTuple t #[key, p.2] ∧ knd.is p.1 key = true) →
   kvs.length + m ≤ sizeLine →
   (∀ h' tk, h'.DictOf knd d (merged kvs (ps.drop i)) → b6O d it s.heap h' → R (.ok (.ret result)) { s with heap := h', toks := tk }) →
   codeAny (model prog w) A (.builtin "dict.update.loop" ⟨[.ref d, .ref it, rawInt i, result], []⟩) R s := by
  intro m
  induction m with
  | zero =>
    intro i kvs s hm hi hd hit hl hps hsz hR
    have hin : i = ps.length := by omega
    refine codeAny_builtin F.C1 ?_
    rw [Around.under_plainId F.u0 _]
    show wpAny _ A.in1 (pyNext (.ref it) >>= _) _ _ s
    refine wpAny_bind (wpAny_pyNext_list_end hh hit hl (by rw [Array.getElem?_eq_none]; omega) fun h' eb => ?_)
    show wpAny _ A.in1 (Builtin.Dict.addKeywords d [] >>= fun _ => ret result) _ _ _
    refine wpAny_bind (wpAny_pure (wpAny_pure ?_))
    refine hR h' s.toks ?_ fun b o hb hb2 e => eb b o hb2 e
    rw [hin, List.drop_length]
    obtain ⟨o, es, ep, ho, rest⟩ := hd
    exact ⟨o, es, ep, eb d o hdi ho, rest⟩
  | succ m ih =>
    intro i kvs s hm hi hd hit hl hps hsz hR
    have hlt : i < ps.length := by omega
    obtain ⟨t, key, ht, htd, hti, htup, hkey⟩ := hps i ps[i] (List.getElem?_eq_getElem hlt)
    refine codeAny_builtin F.C1 ?_
    rw [Around.under_plainId F.u0 _]
    show wpAny _ A.in1 (pyNext (.ref it) >>= _) _ _ s
    refine wpAny_bind (wpAny_pyNext_list_item hit hl ht fun h' hit' sb => ?_)
    have kp : ∀ b o, b ≠ it → s.heap.get? b = some o → h'.get? b = some o := fun b o hb e => (sb.2 b hb).trans e
    have hd' : h'.DictOf knd d kvs := by obtain ⟨o, es, ep, ho, rest⟩ := hd; exact ⟨o, es, ep, kp d o hdi ho, rest⟩
    have htup' : h'.IsTuple t #[key, ps[i].2] := by obtain ⟨o, ho, rest⟩ := htup; exact ⟨o, kp t o hti ho, rest⟩
    have hT : ({ s with heap := h' } : Shared).TypeIs (.ref t) "tuple" := by obtain ⟨o, ho, hc, _⟩ := htup'; exact ⟨o, ho, hc⟩
    obtain ⟨ot, hot, hct, nt, hdt⟩ := id htup'
    show wpAny _ A.in1 (holding [Value.ref t] _ >>= _) _ _ { s with heap := h' }
    refine wpAny_bind (wpAny_holding ?_)
    refine wpAny_bind (wpAny_tryCatch ?_)
    unfold Builtin.Dict.pairItems
    refine wpAny_bind (wpAny_typeOf hT ?_)
    rw [if_pos (by decide)]
    refine wpAny_bind ?_
    unfold seqItems?
    refine wpAny_bind (wpAny_load hot ?_)
    rw [hdt]
    refine wpAny_pure (wpAny_pure ?_)
    show wpAny _ A.in1 (holding [key, ps[i].2] (dictSet d key ps[i].2)) _ _ { s with heap := h' }
    refine wpAny_holding (wpAny_dictSet_pairs (s := { s with heap := h' }) (k := ps[i].1) hkey hd' (fun h2 hd2 sb2 => ?_) (by omega))
    have kp2 : ∀ b o, b ≠ d → b ≠ it → s.heap.get? b = some o → h2.get? b = some o := fun b o hb hb2 e => (sb2.2 b hb).trans (kp b o hb2 e)
    have hc : ((i : Int) + 1) = ((i + 1 : Nat) : Int) := by push_cast; rfl
    refine wpAny_pure ⟨plainId_quiet F.u0 _, ?_⟩
    rw [hc]
    refine ih (i + 1) (stored kvs ps[i].1 ps[i].2) { s with heap := h2, toks := s.toks + 1 } (by omega) (by omega) hd2 ?_ ?_ ?_ ?_ fun h3 tk hd3 kp3 => ?_
    · obtain ⟨o, ho, rest⟩ := hit'
      exact ⟨o, (sb2.2 it (Ne.symm hdi)).trans ho, rest⟩
    · obtain ⟨o, ho, rest⟩ := hl
      exact ⟨o, kp2 l o hdl hil ho, rest⟩
    · intro j p hj
      obtain ⟨t, key, a1, a2, a3, ⟨o, ho, rest⟩, a5⟩ := hps j p hj
      exact ⟨t, key, a1, a2, a3, ⟨o, kp2 t o a2 a3 ho, rest⟩, a5⟩
    · have := stored_length_le kvs ps[i].1 ps[i].2
      omega
    · refine hR h3 tk ?_ fun b o hb hb2 e => kp3 b o hb hb2 (kp2 b o hb hb2 e)
      rw [List.drop_eq_getElem_cons hlt]
      exact hd3
theorem a3D {s:Shared}{l:Addr}{items:Array Value}{n:Nat}{sl:Array (Option Value)}(ps:List (K×Value)){Q:Value→Shared→Prop}(hh:A.handled=none)(hl:s.heap.get? l=some { cls:=.type "list",dict:=none,data:=.seq items n,slots:=sl }) (hlen:ps.length=items.size) (hsz:ps.length≤sizeLine)
  (hps:∀ (j:Nat) (p:K×Value),ps[j]?=some p→∃ t key,items[j]?=some (.ref t)∧s.heap.IsTuple t #[key,p.2]∧knd.is p.1 key=true)
  (h:∀ h' tk,h'.DictOf knd s.heap.objs.size (merged [] ps)→(∀ b o,s.heap.get? b=some o→h'.get? b=some o)→Q (.ref s.heap.objs.size) { s with heap:=h',toks:=tk }):
  wpAny (model prog w) A (call (.type "dict") [.ref l]) Q E s:=by
 refine callType_codes (Q₁:=fun obj s₁=>obj=.ref s.heap.objs.size∧s₁={ s with heap:=s.heap.push { cls:=.type "dict",data:=.dict #[] } }) F.kt_called_dict (F.kt_typeCall_dict_1 _) F.entry_dict_init (kt_code_dict_new _ ⟨rfl,rfl⟩) ?_
 rintro obj s₁ ⟨rfl,rfl⟩
 have hnew:(s.heap.push { cls:=.type "dict",data:=.dict #[] }).DictOf knd s.heap.objs.size []:=Heap.DictOf.new s.heap
 refine ⟨hnew.typeIs,F.args_dict_init_2 _ _,?_⟩
 unfold Builtin.«dict.__init__»
 refine wpAny_bind ?_
 unfold Builtin.Dict.selfAndRest
 refine wpAny_bind (wpAny_notOrdered_dict hnew.typeIs ?_)
 show wpAny _ _ (pure (s.heap.objs.size,[Value.ref l])) _ _ _
 refine wpAny_pure ?_
 show wpAny _ _ (Builtin.Dict.updateFrom "dict.__init__" s.heap.objs.size (.ref l) [] .none) _ _ _
 unfold Builtin.Dict.updateFrom
 have hl1:(s.heap.push { cls:=.type "dict",data:=.dict #[] }).get? l=some { cls:=.type "list",dict:=none,data:=.seq items n,slots:=sl }:=Heap.get?_push_of_some _ hl
 have hlt:=Heap.lt_size hl
 refine wpAny_bind (wpAny_typeOf (T:="list") ⟨_,hl1,rfl⟩ ?_)
 rw [if_pos (by decide)]
 refine wpAny_bind (a4N (h:=s.heap.push { cls:=.type "dict",data:=.dict #[] }) (by exact hh) hl1 fun h1 t1 kp1=>?_)
 rw [if_pos (show (none:Option Value).isNone=true from rfl)]
 refine wpAny_bind (wpAny_rule ?_)
 have hl2:=kp1 _ _ hl1
 refine wpAny_bind (wpAny_pyIter_list (items:=items) ⟨_,hl2,rfl,n,rfl⟩ ?_)
 refine wpAny_pure ⟨plainId_quiet F.u0 _,?_⟩
 have hd1:h1.get? s.heap.objs.size=some { cls:=.type "dict",data:=.dict #[] }:=kp1 _ _ (Heap.get?_push_size _ rfl)
 have hlt1:=Heap.lt_size hd1
 have kp2:∀ b o,s.heap.get? b=some o→(h1.push { cls:=.type "list_iterator",data:=.fields #[.ref l,.int 0 0] }).get? b=some o:=fun b o e=>Heap.get?_push_of_some _ (kp1 _ _ (Heap.get?_push_of_some _ e))
 refine a7W (knd:=knd) s.heap.objs.size h1.objs.size l items ps (by exact hh) (Nat.ne_of_lt hlt) (fun z=>?_) (Nat.ne_of_lt hlt1) .none hlen _ ps.length 0 [] _ rfl (Nat.zero_le _) ?_ ?_ ?_ ?_ (by simpa using hsz) fun h' tk hd' kp'=>⟨rfl,?_⟩
 ·have:=Heap.lt_size (kp1 _ _ hl1)
  rw [← z] at this
  exact Nat.lt_irrefl _ this
 ·obtain ⟨o,es,ep,ho,rest⟩:=hnew
  exact ⟨o,es,ep,Heap.get?_push_of_some _ (kp1 _ _ ho),rest⟩
 ·exact ⟨_,Heap.get?_push_size _ rfl,rfl,rfl⟩
 ·exact ⟨_,Heap.get?_push_of_some _ hl2,rfl,n,rfl⟩
 ·intro j p hj
  obtain ⟨t,key,a1,⟨o,ho,rest⟩,a5⟩:=hps j p hj
  have hlo:=Heap.lt_size ho
  refine ⟨t,key,a1,Nat.ne_of_lt hlo,Nat.ne_of_lt (Heap.lt_size (kp1 _ _ (Heap.get?_push_of_some _ ho))),⟨o,kp2 _ _ ho,rest⟩,a5⟩
 ·refine h h' tk (by simpa using hd') fun b o e=>?_
  exact kp' b o (Nat.ne_of_lt (Heap.lt_size e)) (Nat.ne_of_lt (Heap.lt_size (kp1 _ _ (Heap.get?_push_of_some _ e)))) (kp2 b o e)
end
end PySem
set_option Elab.async false
set_option linter.all false
set_option maxRecDepth 100000
set_option maxHeartbeats 4000000
namespace L3
open PySem PySem.Spec PyProof.Rows L2
noncomputable def a2J (kvs prs:List (Key×V)):List (Key×V):=prs.foldl (fun acc p=>putK acc p.1 p.2) kvs
noncomputable def a1m (es ps:List (Key×D)):List (Key×D):=ps.foldl (fun acc p=>putD acc p.1 p.2) es
theorem a2S:∀ {prs:List (Key×V)} {ps:List (Key×Value)} {kvs:List (Key×V)} {vs:List (Key×Value)},KV prs ps→KV kvs vs→KV (a2J kvs prs) (merged vs ps):=by
 intro prs ps kvs vs h
 unfold KV at h
 induction h generalizing kvs vs with
 | nil=>intro r; exact r
 | @cons p q ps qs hpq _ ih=>
  intro r
  have e:KV (putK kvs p.1 p.2) (stored vs q.1 q.2):=by rw [← hpq.1]; exact r.put p.1 hpq.2
  exact ih e
theorem a6x {K:PySem.W.Frag}{G:Hp}{prs:List (Key×V)}{ps:List (Key×D)}(h:l5 K G prs ps):∀ {kvs:List (Key×V)} {es:List (Key×D)},l5 K G kvs es→l5 K G (a2J kvs prs) (a1m es ps):=by
 refine l5.ind (P:=fun prs ps=>∀ {kvs:List (Key×V)} {es:List (Key×D)},l5 K G kvs es→l5 K G (a2J kvs prs) (a1m es ps)) ?_ ?_ h
 ·intro kvs es r; exact r
 ·intro p e prs ps hk hr _ ih kvs es r
  have q:l5 K G (putK kvs p.1 p.2) (putD es e.1 e.2):=by rw [hk]; exact r.put e.1 hr
  exact ih q
section
variable {X:Cx}{pins:List (Addr×Obj)}{σ:St}{H:Hp}{s:Shared}
theorem a7r (I:Inv X pins σ H s):∀ {prs:List (Key×V)} {ys:List V} {its:List Value},ys.length=prs.length→(∀ (j:Nat) y pr,ys[j]?=some y→prs[j]?=some pr→∃ t,y=.ref t∧W5 X.K H t [kV pr.1,pr.2])→Vals ys its→
  ∃ ps:List (Key×Value),KV prs ps∧∀ (j:Nat) p,ps[j]?=some p→∃ t key,its[j]?=some (.ref t)∧s.heap.IsTuple t #[key,p.2]∧(z5 X.prog X.w).is p.1 key=true
 | [],[],its,_,_,v=>by cases v; exact ⟨[],.nil,fun j p h=>by simp at h⟩
 | [],_::_,_,h,_,_=>by simp at h
 | _::_,[],_,h,_,_=>by simp at h
 | pr::prs,y::ys,its,hl,hq,v=>by
  cases v with
  | @cons _ u _ us ru v=>
   obtain ⟨ps,hkv,hps⟩:=a7r I (prs:=prs) (ys:=ys) (by simpa using hl) (fun j y pr a b=>hq (j + 1) y pr (by simpa using a) (by simpa using b)) v
   obtain ⟨t,rfl,ht⟩:=hq 0 y pr rfl rfl
   cases ru
   obtain ⟨its2,r2,p2,_⟩:=I.tuple ht
   cases r2 with
   | @cons _ key _ us2 rk r2=>
    cases r2 with
    | @cons _ u2 _ us3 ru2 r2=>
     cases r2
     refine ⟨(pr.1,u2)::ps,.cons ⟨rfl,ru2⟩ hkv,fun j p h=>?_⟩
     cases j with
     | zero=>
      have e:(pr.1,u2)=p:=by simpa using h
      subst e
      exact ⟨t,key,rfl,p2,a24 rk⟩
     | succ j=>
      obtain ⟨t',key',a1,a2,a3⟩:=hps j p (by simpa using h)
      exact ⟨t',key',by simpa using a1,a2,a3⟩
end
theorem a2V {X:Cx}{K:PySem.W.Frag}(hK:X.K=K)(hc:X.calm=true):K3 X (.type "dict") (fun xs H Q=>∃ p ys prs,xs=[.ref p]∧L8 K H p ys∧ys.length=prs.length∧(∀ (j:Nat) y pr,ys[j]?=some y→prs[j]?=some pr→∃ t,y=.ref t∧W5 K H t [kV pr.1,pr.2])∧∀ l,H l=none→Q (.ref l) (upd H l (.dK (a2J [] prs)))):=by
 subst hK
 intro pins s σ H xs us Q I r h
 obtain ⟨p,ys,prs,rfl,hq,hl,hp,q⟩:=h
 obtain ⟨u,rfl,ru⟩:=vals1 r
 cases ru
 obtain ⟨its,rv,pl,hz⟩:=I.list hq
 obtain ⟨ps,hkv,hps⟩:=a7r I hl hp rv
 obtain ⟨⟨cls,dd,data,sl⟩,n,ho,hcl,hdd,hd⟩:=pl
 simp only at hcl hd hdd
 subst hcl hd hdd
 have l1:=hkv.length
 have l2:=rv.length
 have hn:(a2J [] prs).length≤sizeLine:=by
  have e:=(a2S hkv (kvs:=[]) (vs:=[]) .nil).length
  have e2:=merged_length_le ([]:List (Key×Value)) ps
  simp at e2
  omega
 refine a3D (knd:=z5 X.prog X.w) ps (I.ok.hd hc) ho (by rw [List.size_toArray]; omega) (by omega) (fun j p hj=>?_) fun h' tk hd' kp=>?_
 ·obtain ⟨t,key,a1,a2,a3⟩:=hps j p hj
  exact ⟨t,key,by simpa using a1,a2,a3⟩
 ·exact ⟨.ref s.heap.objs.size,_,I.laid (a:=s.heap.objs.size) (o:=.dK (a2J [] prs)) (t':=tk) kp (Nat.le_refl _) (a6H hn (beq_eq_false_iff_ne.mpr (Ne.symm (Nat.ne_of_lt I.big))) (a2S hkv .nil) hd'),rfl,q _ I.fresh⟩
noncomputable def pairD:D→Option (Key×D)
 | .tup [k,v]=>(keyOf k).map fun k=>(k,v)
 | _=>none
noncomputable def S6:List D→Option (List (Key×D))
 | []=>some []
 | d::ds=>(pairD d).bind fun p=>(S6 ds).map (p::·)
noncomputable def a0c:List D→Option W
 | [.lst ds]=>(S6 ds).map fun ps=>.own (.dct (a1m [] ps))
 | _=>none
theorem a9x {K:PySem.W.Frag}{G H:Hp}(g:j4 G H):∀ {ds:List D} {ps:List (Key×D)} {ys:List V},S6 ds=some ps→v5 K G ys ds→
  ∃ prs,l5 K G prs ps∧ys.length=prs.length∧∀ (j:Nat) y pr,ys[j]?=some y→prs[j]?=some pr→∃ t,y=.ref t∧W5 K H t [kV pr.1,pr.2]
 | [],ps,[],h,_=>by cases h; exact ⟨[],.nil,rfl,fun j y pr h=>by simp at h⟩
 | [],_,_::_,_,r=>by have:=r.len; simp at this
 | _::_,_,[],_,r=>by have:=r.len; simp at this
 | d::ds,ps,y::ys,h,r=>by
  have h':(pairD d).bind (fun p=>(S6 ds).map (p::·))=some ps:=h
  cases hd:pairD d with
  | none=>rw [hd] at h'; cases h'
  | some p0=>
   rw [hd] at h'
   obtain ⟨ps2,h2,rfl⟩:=Option.map_eq_some_iff.mp (show (S6 ds).map (p0::·)=some ps from h')
   obtain ⟨prs,a1,a2,a3⟩:=a9x g h2 r.tail
   unfold pairD at hd
   split at hd
   ·rename_i k v
    obtain ⟨k',hk,rfl⟩:=Option.map_eq_some_iff.mp hd
    have hy:=r.head
    cases hy with
    | @tup a xs _ hs hl hr=>
     match xs,hl with
     | [x1,x2],_=>
      have e1:=hr 0 x1 k rfl rfl
      have e2:=hr 1 x2 v rfl rfl
      have ek:x1=kV k':=a19 (G:=G) (H:=H) (.inl e1) hk
      subst ek
      refine ⟨(k',x2)::prs,.cons rfl e2 a1,by simp [a2],fun j y pr hj hp=>?_⟩
      cases j with
      | zero=>
       have z1:V.ref a=y:=by simpa using hj
       have z2:(k',x2)=pr:=by simpa using hp
       subst z1 z2
       exact ⟨a,rfl,g.tup hs⟩
      | succ j=>exact a3 j y pr (by simpa using hj) (by simpa using hp)
   ·cases hd
section
variable {X:Cx}{B:Bs}{e:Expr}{mr:M (List W)}{pos p:Pos}
theorem a8o:a2U B (fun xs H Q=>∃ p ys prs,xs=[.ref p]∧L8 B.K H p ys∧ys.length=prs.length∧(∀ (j:Nat) y pr,ys[j]?=some y→prs[j]?=some pr→∃ t,y=.ref t∧W5 B.K H t [kV pr.1,pr.2])∧∀ l,H l=none→Q (.ref l) (upd H l (.dK (a2J [] prs)))) a0c:=by
 intro G H σ ρ xs ds w Q R h e p
 match ds,e with
 | [.lst ds],e=>
  obtain ⟨ps,hp,rfl⟩:=Option.map_eq_some_iff.mp (show (S6 ds).map (fun ps=>W.own (.dct (a1m [] ps)))=some w from e)
  obtain ⟨x,rfl,hx⟩:=I9 h
  obtain ⟨q,ys,rfl,h1,r1⟩:=hx.lst R.gH
  obtain ⟨prs,a1,a2,a3⟩:=a9x R.gH hp r1
  refine ⟨q,ys,prs,rfl,h1,a2,a3,fun l hl=>?_⟩
  obtain ⟨R',w'⟩:=R.a8g hl (a6x a1 l5.nil)
  exact p _ G _ (j4.refl _) R' w'
theorem a6L (hc:X.calm=true)(hm:X.mg "dict"=none) (ha:PDA X B [e] mr) (hg:Gl X "dict":=by rfl) (hK:X.K=B.K:=by rfl) (he:starEach [e] X.env=(false,eval e X.env)::starEach [] X.env:=by rfl) (hpl:(backTo pos (starEach [] X.env)).any (·.1)=false:=by rfl):PD X B (.Call (.Name "dict" p) [e] [] pos) (B7 a0c mr):=
 a4d (fun ξ=>a2V (X:=rz X ξ) (K:=B.K) hK hc) a8o hg hm PyProof.Rows.boot_dict ha (by decide) (by decide) he hpl
end
end L3
set_option Elab.async false
set_option linter.all false
set_option maxRecDepth 100000
set_option maxHeartbeats 4000000
namespace L3
open PySem PySem.Spec PyProof.Rows L2
section
variable {P:Program}{w:World}{K:PySem.W.Frag}{G G' H H':Hp}{h h':Heap}{a b p:Addr}{o:Obj}{kvs:List (Key×V)}
theorem b4U (x:HOk P w H h)(e:H a=some (.dK kvs))(ho:h.get? a=some o):HOk P w (upd H a (.Z9 o (.dK kvs))) h:=by
 have k1:∀ c b,H c=some (.own b)→upd H a (.Z9 o (.dK kvs)) c=some (.own b):=fun c b r=>by
  rw [j6 (by rintro rfl; rw [e] at r; cases r)]; exact r
 have k2:∀ c xs,H c=some (.tup xs)→upd H a (.Z9 o (.dK kvs)) c=some (.tup xs):=fun c b r=>by
  rw [j6 (by rintro rfl; rw [e] at r; cases r)]; exact r
 intro b u q
 by_cases z:b=a
 ·subst z
  rw [p9] at q
  cases q
  exact ⟨ho,(x _ _ e).stay (fun c v _ r=>r) (fun c r=>k1 c _ r) k2⟩
 ·rw [j6 z] at q
  exact (x b u q).stay (fun c v _ r=>r) (fun c r=>k1 c _ r) k2
theorem b4R (x:HOk P w H h)(e:H a=some (.Z9 o (.dK kvs))):HOk P w (upd H a (.dK kvs)) h:=by
 have k1:∀ c b,H c=some (.own b)→upd H a (.dK kvs) c=some (.own b):=fun c b r=>by
  rw [j6 (by rintro rfl; rw [e] at r; cases r)]; exact r
 have k2:∀ c xs,H c=some (.tup xs)→upd H a (.dK kvs) c=some (.tup xs):=fun c b r=>by
  rw [j6 (by rintro rfl; rw [e] at r; cases r)]; exact r
 intro b u q
 by_cases z:b=a
 ·subst z
  rw [p9] at q
  cases q
  obtain ⟨_,q⟩:=x _ _ e
  exact q.stay (fun c v _ r=>r) (fun c r=>k1 c _ r) k2
 ·rw [j6 z] at q
  exact (x b u q).stay (fun c v _ r=>r) (fun c r=>k1 c _ r) k2
theorem b7m {fs:List Addr}(u:Un fs [] (upd H a (.Z9 o (.dK kvs))) H' h h')(e:H a=some (.dK kvs)):Un fs [] H (upd H' a (.dK kvs)) h h':=by
 have ne:∀ {b},H b=none→b≠a:=fun q z=>by rw [z,e] at q; cases q
 refine ⟨fun b ob q n h1 h2=>u.keep b ob q (by rw [j6 (ne n)]; exact n) h1 h2,fun b ob q n h1 h2=>u.slot b ob q (by rw [j6 (ne n)]; exact n) h1 h2,fun b ob q n h1=>?_,u.there,fun b xs q=>?_,fun b ob v q=>?_,fun b ps q=>?_⟩
 ·rw [j6 (ne n)]
  exact u.free b ob q (by rw [j6 (ne n)]; exact n) h1
 ·have z:b≠a:=by rintro rfl; rw [e] at q; cases q
  rw [j6 z]
  exact u.tups b xs (by rw [j6 z]; exact q)
 ·have z:b≠a:=by rintro rfl; rw [e] at q; cases q
  rw [j6 z]
  exact u.frzs b ob v (by rw [j6 z]; exact q)
 ·have z:b≠a:=by rintro rfl; rw [e] at q; cases q
  rw [j6 z]
  exact u.tbls b ps (by rw [j6 z]; exact q)
structure Sw (a:Addr) (kvs:List (Key×V)) (G G':Hp):Prop where
 out:∀ b,b≠a→G' b=G b
 was:Rd G a (.dK kvs)
 now:Rd G' a (.dK kvs)
theorem Sw.rd {u:HO}(s:Sw a kvs G G')(h:Rd G b u)(z:b≠a):Rd G' b u:=by
 rcases h with h | ⟨o,h⟩
 ·exact .inl (by rw [s.out b z]; exact h)
 ·exact .inr ⟨o,by rw [s.out b z]; exact h⟩
theorem b50 {u v:HO}(h1:Rd G a u)(h2:Rd G a v)(n1:∀ o x,u≠.Z9 o x)(n2:∀ o x,v≠.Z9 o x):u=v:=by
 rcases h1 with h1 | ⟨o1,h1⟩ <;> rcases h2 with h2 | ⟨o2,h2⟩ <;> rw [h1] at h2
 ·exact Option.some.inj h2
 ·exact absurd (Option.some.inj h2) (n1 _ _)
 ·exact absurd (Option.some.inj h2).symm (n2 _ _)
 ·cases h2; rfl
theorem Sw.ne {u:HO}(s:Sw a kvs G G')(h:Rd G b u)(n:∀ o x,u≠.Z9 o x)(hu:u≠.dK kvs):b≠a:=by
 rintro rfl
 exact hu (b50 h s.was n (by intro o x z; cases z))
theorem Sw.tup {xs:List V}(s:Sw a kvs G G')(h:W5 K G b xs):W5 K G' b xs:=by
 rcases h with h | h
 ·exact .inl (s.rd h (s.ne h (by intro o x z; cases z) (by intro z; cases z)))
 ·exact .inr h
theorem Sw.lst {xs:List V}(s:Sw a kvs G G')(h:L8 K G b xs):L8 K G' b xs:=by
 rcases h with h | h
 ·exact .inl (s.rd h (s.ne h (by intro o x z; cases z) (by intro z; cases z)))
 ·exact .inr h
theorem Sw.dct {ks:List (Key×V)}(s:Sw a kvs G G')(h:Rd G b (.dK ks)):Rd G' b (.dK ks):=by
 by_cases z:b=a
 ·subst z
  rw [b0R h s.was]
  exact s.now
 ·exact s.rd h z
theorem Sw.rep (s:Sw a kvs G G'){v:V}{d:D}(h:Rep K G v d):Rep K G' v d:=by
 induction h with
 | A3=>exact .A3
 | bl b=>exact .bl b
 | int i=>exact .int i
 | str cs=>exact .str cs
 | ty n=>exact .ty n
 | tup h hl _ ih=>exact .tup (s.tup h) hl ih
 | lst h hl _ ih=>exact .lst (s.lst h) hl ih
 | dct h hk _ ih=>exact .dct (s.dct h) hk ih
theorem Sw.b7K (s:Sw a kvs G G'){xs:List V}{ds:List D}(h:v5 K G xs ds):v5 K G' xs ds:=⟨h.len,fun j x d a b=>s.rep (h.get j x d a b)⟩
theorem Sw.b4v (s:Sw a kvs G G'){xs:List (Key×V)}{ds:List (Key×D)}(h:l5 K G xs ds):l5 K G' xs ds:=⟨h.keys,fun j x d a b=>s.rep (h.get j x d a b)⟩
theorem Sw.own (s:Sw a kvs G G'){d:D}(e:H' p=H p)(h:E5 K G H p d):E5 K G' H' p d:=by
 cases d with
 | lst ds=>obtain ⟨xs,q,r⟩:=h; exact ⟨xs,by rw [e]; exact q,s.b7K r⟩
 | dct es=>obtain ⟨xs,q,r⟩:=h; exact ⟨xs,by rw [e]; exact q,s.b4v r⟩
 | _=>exact (show False from h).elim
theorem Sw.args (s:Sw a kvs G G')(hg:∀ p,G p=none→G' p=none)(hH:∀ p,G p=none→H' p=H p):∀ {ms:List Bool} {vs:List V} {ds:List D} {ps:List Addr},S0 K G H ms vs ds ps→S0 K G' H' ms vs ds ps
 | _,_,_,_,.nil=>.nil
 | _,_,_,_,.sh h r=>.sh (s.rep h) (Sw.args s hg hH r)
 | _,_,_,_,.ln g o n r=>.ln (hg _ g) (s.own (hH _ g) o) n (Sw.args s hg hH r)
end
noncomputable def b2T (i:Nat)(ρ:k9):k9:=match ρ[i]? with
 | some (some (.sh (.dct es)))=>ρ.set i (some (.fz es))
 | _=>ρ
noncomputable def a5l (m:SM)(n:Nat)(ms:List Bool)(i:Nat)(ds:List D):Option FR:=(m (b2T i (z7 n ms ds))).bind (a7F ms)
noncomputable def a8q (K:PySem.W.Frag)(ms:List Bool)(i:Nat)(fm:List D→Option FR):Sp:=fun vs H Q E=>∃ G ds ps r,j4 G H∧S0 K G H ms vs ds ps∧(∃ a o kvs es,vs[i]?=some (.ref a)∧G a=some (.Z9 o (.dK kvs))∧ds[i]?=some (.dct es)∧l5 K G kvs es)∧fm ds=some r∧match r with
 | .ret w fin=>∀ v G' H',After K G H ps G' H' fin→a6I K H G' H' v w→Q v H'
 | .exc _ _=>False
theorem a2X:∀ {ms:List Bool} {ds:List D} {i:Nat} {m:Bool} {d:D},ms[i]?=some m→ds[i]?=some d→(cells ms ds)[i]?=some (a3P m d)
 | m::ms,d::ds,0,_,_,h1,h2=>by simp at h1 h2; subst h1 h2; rfl
 | m::ms,d::ds,i + 1,_,_,h1,h2=>by
  show (cells ms ds)[i]?=_
  exact a2X (by simpa using h1) (by simpa using h2)
 | [],_,_,_,_,h1,_=>by simp at h1
 | _::_,[],_,_,_,_,h2=>by simp at h2
theorem RS.b7T {B:Bs}{G H:Hp}{σ:St}{ρ:k9}{i:Nat}{es:List (Key×D)}(R:RS B G H σ ρ)(hi:ρ[i]?=some (some (.sh (.dct es))))(hf:∃ a o kvs,σ[i]?=some (some (.ref a))∧G a=some (.Z9 o (.dK kvs))∧l5 B.K G kvs es):RS B G H σ (ρ.set i (some (.fz es))):=by
 have hil:i < ρ.length:=(List.getElem?_eq_some_iff.mp hi).1
 refine ⟨R.hk,R.keep,R.g0,R.gH,R.gnew,R.dom,by simp [R.len],fun j d' q'=>?_,fun j l d' q'=>?_,fun j k l d' l' e' p' a b=>?_,fun j es' q'=>?_⟩
 ·by_cases z:i=j
  ·subst z; rw [List.getElem?_set_self hil] at q'; cases q'
  ·rw [List.getElem?_set_ne z] at q'; exact R.sh j d' q'
 ·by_cases z:i=j
  ·subst z; rw [List.getElem?_set_self hil] at q'; cases q'
  ·rw [List.getElem?_set_ne z] at q'; exact R.ow j l d' q'
 ·by_cases z:i=j
  ·subst z; rw [List.getElem?_set_self hil] at a; cases a
  ·by_cases z':i=k
   ·subst z'; rw [List.getElem?_set_self hil] at b; cases b
   ·rw [List.getElem?_set_ne z] at a
    rw [List.getElem?_set_ne z'] at b
    exact R.inj j k l d' l' e' p' a b
 ·by_cases z:i=j
  ·subst z
   rw [List.getElem?_set_self hil] at q'
   cases q'
   exact hf
  ·rw [List.getElem?_set_ne z] at q'; exact R.fz j es' q'
section
variable {P:Program}{w:World}{K:PySem.W.Frag}{mg:Str→Option Value}{base:Heap}
theorem b4N {x:Str}{st:Stmt}{f:Addr}{fd:FuncData}{N ps:List Str}{ms:List Bool}{k i:Nat}{m:SM}(F:Fun K x x st f fd)(S:A0 N ps (l9 st))(hm:ms.length=ps.length)(hmi:ms[i]?=some false)
  (hbody:∀ (cdv:Value) (A:Around) (outer:List Env) (s:Shared) (H:Hp) (E:XK) (H0 HK G0:Hp) (L:Nat→Option Addr),U5 k (A.deeper (envOfC x (l9 st) s.heap.objs.size f cdv))→
   a4T (a7A CX0 P w K mg base N x (l9 st) f cdv A outer s H E) ⟨K,H0,HK,G0,L⟩ (W4 st) m):K5 P w K mg base CX0 (k + 1) f fd ps (a8q K ms i (a5l m N.length ms i)):=by
 have hpl:ps.length≤N.length:=by have:=congrArg List.length S.pre; rw [List.length_take] at this; omega
 refine F.ok S (fun vs H Q E h=>?_) (fun cdv A outer s H vs Q E hr h=>?_)
 ·obtain ⟨G,ds,pp,r,_,a,_⟩:=h
  rw [a.len.1,hm]
 obtain ⟨G,ds,pp,r,g,a,⟨a0,o0,kvs,es,hv0,hG0,hd0,hr0⟩,hf,q⟩:=h
 refine ⟨_,((hbody cdv A outer s H E H (minus H pp) G (S7 ms pp) hr).ap fun _ _ _=>False).a0J (fun e s z=>?_),?_⟩
 ·obtain ⟨_,_,_,_,_,_,z⟩:=z
  exact z
 have R00:=a66 (N:=N) g a (by rw [a.len.1,hm]; exact hpl)
 have hcell:(z7 N.length ms ds)[i]?=some (some (.sh (.dct es))):=by
  have h1:=a2X hmi hd0
  unfold z7
  rw [List.getElem?_append_left (List.getElem?_eq_some_iff.mp h1).1,h1]
  rfl
 have R0:=R00.b7T hcell ⟨a0,o0,kvs,Z7 hv0,hG0,hr0⟩
 have hE:b2T i (z7 N.length ms ds)=(z7 N.length ms ds).set i (some (.fz es)):=by unfold b2T; rw [hcell]
 unfold a5l at hf
 rw [hE] at hf
 cases hs:m ((z7 N.length ms ds).set i (some (.fz es))) with
 | none=>rw [hs] at hf; cases hf
 | some sr=>
  rw [hs] at hf
  have hf':a7F ms sr=some r:=hf
  refine ⟨G,_,R0,sr,hs,?_⟩
  have fin:∀ {ρ':k9} {σ':St} {G' H':Hp} {fins:List D},X6 ms ρ'=some fins→RS ⟨K,H,minus H pp,G,S7 ms pp⟩ G' H' σ' ρ'→After K G H pp G' H' fins:=fun {ρ' σ' G' H' fins} e R'=>
   ⟨R'.keep,R'.g0,R'.gH,R'.gnew,R'.dom,a06 R' a 0 ρ' fins (fun i=>by rw [Nat.zero_add]) (fun i=>by rw [Nat.zero_add]) e⟩
  cases sr with
  | nx ρ'=>
   obtain ⟨fins,e,rfl⟩:=Option.map_eq_some_iff.mp hf'
   exact fun σ' G' H' s' R'=>q .A3 G' H' (fin e R') .A3
  | rt w' ρ'=>
   cases w' with
   | slot i=>cases hf'
   | val d=>
    obtain ⟨fins,e,rfl⟩:=Option.map_eq_some_iff.mp hf'
    exact fun v σ' G' H' s' R' rw'=>q v G' H' (fin e R') rw'
   | own d=>
    obtain ⟨fins,e,rfl⟩:=Option.map_eq_some_iff.mp hf'
    exact fun v σ' G' H' s' R' rw'=>q v G' H' (fin e R') (let ⟨p,a1,a2,a3,a4,_⟩:=rw'; ⟨p,a1,a2,a3,a4⟩)
  | ex x ρ'=>
   obtain ⟨fins,e,rfl⟩:=Option.map_eq_some_iff.mp hf'
   exact q.elim
  | bk ρ'=>cases hf'
  | ct ρ'=>cases hf'
theorem b6d {G H:Hp}{ms:List Bool}{vs:List V}{ds:List D}{ps:List Addr}{i:Nat}{d:D}(r:S0 K G H ms vs ds ps)(h1:ms[i]?=some false)(h2:ds[i]?=some d):∃ v,vs[i]?=some v∧Rep K G v d:=by
 obtain ⟨v,e,h⟩:=X3 r (a2X h1 h2)
 rcases h with ⟨d',q,h⟩ | ⟨p,d',q,_⟩
 ·cases q
  exact ⟨v,e,h⟩
 ·cases q
theorem b8c {f:Addr}{fd:FuncData}{ps:List Str}{ms:List Bool}{k i:Nat}{fm:List D→Option FR}(F:K5 P w K mg base CX0 k f fd ps (a8q K ms i fm))(hm:ms.length=ps.length)(hmi:ms[i]?=some false)(hd:∀ ds r,fm ds=some r→∃ es,ds[i]?=some (.dct es)):
  K5 P w K mg base CX0 k f fd ps (M8 K ms fm):=by
 refine ⟨fun vs H Q E h=>?_,fun A outer s H args us vs Q E hr e0 hb hv h=>?_⟩
 ·obtain ⟨G,ds,pp,r,_,a,_⟩:=h
  rw [a.len.1,hm]
 obtain ⟨G,ds,pp,r,g,ar,hf,q⟩:=h
 obtain ⟨es,hes⟩:=hd ds r hf
 obtain ⟨v,hvi,hrep⟩:=b6d ar hmi hes
 cases hrep with
 | @dct a kvs _ hrd hk hrr=>
  rcases hrd with hG | ⟨o,hG⟩
  ·have hH:=g _ _ hG
   obtain ⟨z1,z2,vs',z3,o,es',ep,ho,z4⟩:=(show F3 P w H s.heap a (.dK kvs) from e0.hok a _ hH)
   have ne:∀ {b},H b=none→b≠a:=fun q z=>by rw [z,hH] at q; cases q
   have neG:∀ {b},G b=none→b≠a:=fun q z=>by rw [z,hG] at q; cases q
   have e1:b1h P w K mg base A outer s (upd H a (.Z9 o (.dK kvs))):=⟨e0.frames,e0.mod,fun b ob q=>⟨(e0.bs b ob q).1,by rw [j6 (ne (e0.bs b ob q).2)]; exact (e0.bs b ob q).2⟩,e0.bsz,e0.a2E,fun b q=>by rw [j6 (ne (e0.frf b q))]; exact e0.frf b q,b4U e0.hok hH ho,e0.bare⟩
   have sw:Sw a kvs G (upd G a (.Z9 o (.dK kvs))):=⟨fun b z=>j6 z,.inl hG,.inr ⟨o,p9⟩⟩
   have gs:j4 (upd G a (.Z9 o (.dK kvs))) (upd H a (.Z9 o (.dK kvs))):=fun b u q=>by
    by_cases z:b=a
    ·subst z; rw [p9] at q ⊢; exact q
    ·rw [j6 z] at q ⊢; exact g b u q
   refine codeAny_mono (F.run A outer s (upd H a (.Z9 o (.dK kvs))) args us vs (fun v H'=>Q v (upd H' a (.dK kvs))) E hr e1 hb hv ⟨upd G a (.Z9 o (.dK kvs)),ds,pp,r,gs,sw.args (fun p z=>by rw [j6 (neG z)]; exact z) (fun p z=>j6 (neG z)) ar,⟨a,o,kvs,es,hvi,p9,hes,sw.b4v ⟨hk,hrr⟩⟩,hf,?_⟩) fun rr s' hcr=>?_
   ·cases r with
    | exc x fin=>exact q
    | ret w' fin=>
     intro v G' H' A' rr
     have hGa:G' a=some (.Z9 o (.dK kvs)):=A'.gg a _ p9
     have hHa:H' a=some (.Z9 o (.dK kvs)):=A'.gH a _ hGa
     have sw':Sw a kvs G' (upd G' a (.dK kvs)):=⟨fun b z=>j6 z,.inr ⟨o,hGa⟩,.inl p9⟩
     have neG':∀ {b},G' b=none→b≠a:=fun q z=>by rw [z,hGa] at q; cases q
     refine q v (upd G' a (.dK kvs)) (upd H' a (.dK kvs)) ⟨fun b u e=>?_,fun b u e=>?_,fun b u e=>?_,fun b u e=>?_,fun b e=>?_,?_⟩ ?_
     ·by_cases z:b=a
      ·subst z
       have:=Q2 _ _ _ _ e
       rw [hH] at this
       rw [p9]
       exact this
      ·rw [j6 z]
       refine A'.keep b u ?_
       unfold minus at e ⊢
       split at e
       ·cases e
       ·rename_i hn; rw [if_neg hn,j6 z]; exact e
     ·by_cases z:b=a
      ·subst z; rw [hG] at e; rw [p9]; exact e
      ·rw [j6 z]; exact A'.gg b u (by rw [j6 z]; exact e)
     ·by_cases z:b=a
      ·subst z; rw [p9] at e ⊢; exact e
      ·rw [j6 z] at e ⊢; exact A'.gH b u e
     ·by_cases z:b=a
      ·subst z; rw [p9] at e; rw [hG]; exact .inl e
      ·rw [j6 z] at e
       rcases A'.gnew b u e with y | y
       ·rw [j6 z] at y; exact .inl y
       ·rw [j6 z] at y; exact .inr y
     ·by_cases z:b=a
      ·subst z; rw [p9] at e; cases e
      ·rw [j6 z] at e
       have y:=A'.dom b e
       rw [j6 z] at y
       exact y
     ·exact L2.Paired.imp' (fun p d ⟨z1,z2⟩=>⟨by rw [j6 (neG' z1)]; exact z1,sw'.own (j6 (neG' z1)) z2⟩) A'.lent
     ·cases w' with
      | val d=>exact sw'.rep rr
      | slot j=>exact rr.elim
      | own d=>
       obtain ⟨p,rfl,y1,y2,y3⟩:=rr
       have zp:p≠a:=neG' y1
       refine ⟨p,rfl,by rw [j6 zp]; exact y1,by rw [j6 zp] at y2; exact y2,sw'.own (j6 zp) y3⟩
   ·cases rr with
    | error e=>exact hcr
    | ok fl=>
     cases fl with
     | ret u=>
      obtain ⟨v,H',b1,b2,b3,b4,b5,b6⟩:=hcr
      exact ⟨v,upd H' a (.dK kvs),b1,b2,b7m b3 hH,b4R b4 (b3.frzs a o _ p9),b5,b6⟩
     | next=>exact hcr
     | brk=>exact hcr
     | cont=>exact hcr
  ·exact F.run A outer s H args us vs Q E hr e0 hb hv ⟨G,ds,pp,r,g,ar,⟨a,o,kvs,es,hvi,hG,hes,⟨hk,hrr⟩⟩,hf,q⟩
end
noncomputable def Itd (a:Addr)(o:Obj)(kvs:List (Key×V)):It:=
 ⟨fun i H=>H a=some (.Z9 o (.dK kvs))∧i < kvs.length,fun i H x H'=>H'=H∧∃ kv,kvs[i]?=some kv∧x=kV kv.1,fun i H=>H a=some (.Z9 o (.dK kvs))∧kvs.length≤i⟩
theorem b3F {k:Key}{v:Value}(h:a3m k v=true):RelV (kV k) v:=by
 rcases A9 h with ⟨i,t,rfl,rfl⟩ | ⟨x,t,rfl,rfl⟩
 ·exact ⟨t,rfl⟩
 ·exact ⟨t,rfl⟩
theorem b0u {P:Program}{w:World}{K:PySem.W.Frag}{tg:Expr}(a it:Addr)(o:Obj)(kvs:List (Key×V))(ep:Nat)(hep:∃ es,o.data=.dict es ep):Turn P w K tg (Itd a o kvs) [it] it (fun i h=>h.IsKeyIter it a i kvs.length ep) where
 mem:=by simp
 obj:=fun i h st b hb=>by
  have e:b=it:=by simpa using hb
  subst e
  obtain ⟨o,e,c,d⟩:=st
  exact ⟨o,e,fun v z=>by rw [d] at z; cases z⟩
 keep:=fun i h h' st k=>by
  obtain ⟨o,e,c,d⟩:=st
  exact ⟨o,k it (by simp) o e,c,d⟩
 item:=by
  intro X hP hw hK hc i pins s σ H E I hf st hg
  subst hP hw hK
  obtain ⟨hH,hlt⟩:=hg
  obtain ⟨ho,z1,z2,vs,rel,o',es',ep',ho',r1,r2,r3⟩:=(show F3 X.prog X.w H s.heap a (.Z9 o (.dK kvs)) from I.hok a _ hH)
  obtain ⟨es,hes⟩:=hep
  have eo:o'=o:=by rw [ho] at ho'; exact (Option.some.inj ho').symm
  subst eo
  have eep:ep'=ep:=by rw [hes] at r2; cases r2; rfl
  subst eep
  have hl:=rel.length
  have hm:s.heap.DictAt (z5 X.prog X.w) a vs ep':=⟨o',es',ho,r1,r2,r3⟩
  obtain ⟨f0,f1,f2,f3,f4,f5⟩:=hf it (by simp)
  have hvi:vs[i]?=some vs[i]:=List.getElem?_eq_getElem (by omega)
  have hki:kvs[i]?=some kvs[i]:=List.getElem?_eq_getElem hlt
  have hkk:kvs[i].1=vs[i].1:=(a1B rel hki hvi).1
  refine wpAny_pyNext_dict_item (kvs:=vs) (k:=vs[i].1) (v:=vs[i].2) (by rw [← hl]; exact st) hm (by rw [hvi]) fun key h' hkey st' sb=>?_
  have I1:Inv X pins σ H { s with heap:=h' }:=I.turned (t':=s.toks) (fun b o hb e=>(sb.2 b hb).trans e) f0 f1 f3 f4 f5
  obtain ⟨oi,e,c,d⟩:=id st'
  refine ⟨key,rfl,a4o (s:={ s with heap:=h' }) e c d (by decide) ⟨kV kvs[i].1,H,I1,?_,⟨rfl,kvs[i],hki,rfl⟩,by rw [hl]; exact st',fun b hb=>(hf b hb).1⟩⟩
  rw [hkk]
  exact b3F hkey
 done:=by
  intro X hP hw hK hc i pins s σ H E I hf st hg
  subst hP hw hK
  obtain ⟨hH,hle⟩:=hg
  obtain ⟨ho,z1,z2,vs,rel,o',es',ep',ho',r1,r2,r3⟩:=(show F3 X.prog X.w H s.heap a (.Z9 o (.dK kvs)) from I.hok a _ hH)
  obtain ⟨es,hes⟩:=hep
  have eo:o'=o:=by rw [ho] at ho'; exact (Option.some.inj ho').symm
  subst eo
  have eep:ep'=ep:=by rw [hes] at r2; cases r2; rfl
  subst eep
  have hl:=rel.length
  have hm:s.heap.DictAt (z5 X.prog X.w) a vs ep':=⟨o',es',ho,r1,r2,r3⟩
  obtain ⟨f0,f1,f2,f3,f4,f5⟩:=hf it (by simp)
  exact wpAny_pyNext_dict_end (I.ok.hd hc) (kvs:=vs) (by rw [← hl]; exact st) hm (List.getElem?_eq_none (by omega)) fun h' eb=>⟨rfl,I.turned (t':=s.toks) (fun b o hb e=>eb b o hb e) f0 f1 f3 f4 f5⟩
 self:=fun _ _ _ _ _ st h=>wpAny_pyIter_keyiter st h
section
variable {X:Cx}{tg:Expr}
theorem b3H {l:Expr}{tl:TE}(hl:PE X l tl):PI X tg l (fun σ H R=>tl σ H fun x H1=>∃ a o kvs,x=.ref a∧H1 a=some (.Z9 o (.dK kvs))∧R (Itd a o kvs) H1):=by
 intro pins s σ H R I h
 refine L7 (hl pins s σ H _ I h) fun v s1 ⟨x,H1,I1,r1,a,o,kvs,ex,hH,q⟩=>?_
 subst ex
 cases r1
 obtain ⟨ho,z1,z2,vs,rel,o',es',ep,ho',r1,r2,r3⟩:=(show F3 X.prog X.w H1 s1.heap a (.Z9 o (.dK kvs)) from I1.hok a _ hH)
 have eo:o'=o:=by rw [ho] at ho'; exact (Option.some.inj ho').symm
 subst eo
 have hlen:=rel.length
 refine wpAny_pyIter_dict (knd:=z5 X.prog X.w) (kvs:=vs) (ep:=ep) z2 ⟨o',es',ho,r1,r2,r3⟩ ?_
 refine ⟨s1.heap.objs.size,[s1.heap.objs.size],_,_,H1,rfl,I1.kept (t':=s1.toks) fun b o e=>Heap.get?_push_of_some _ e,b0u a _ o' kvs ep ⟨es',r2⟩,?_,fun b hb=>?_,q⟩
 ·rw [hlen]
  exact ⟨_,Heap.get?_push_size _ rfl,rfl,rfl⟩
 ·have e:b=s1.heap.objs.size:=by simpa using hb
  subst e
  exact I1.b1T (Nat.le_refl _) (I1.hok.fresh (Nat.le_refl _))
end
noncomputable def a4f (k:Key):D:=match k with
 | .inl i=>D.int i
 | .inr x=>D.str x.cps.toList
noncomputable def a5J (i:Nat):M (List D):=fun ρ=>match ρ[i]? with
 | some (some (.fz es))=>some (.ok (es.map fun e=>a4f e.1) ρ)
 | _=>none
theorem b3r {K:PySem.W.Frag}{G:Hp}(k:Key):Rep K G (kV k) (a4f k):=by
 cases k with
 | inl i=>exact .int i
 | inr x=>exact a6z x
section
variable {X:Cx}{B:Bs}{tg:Expr}
theorem b5A (i:Nat){x:Str}{pos:Pos}(hN:X.N[i]?=some x:=by rfl)(hv:Vis X.env.scope x:=by first | exact Or.inl rfl | exact Or.inr (Or.inl rfl) | exact Or.inr (Or.inr rfl))(hd:(x == ("__debug__":Str))=false:=by decide) (hcd:(x == ("__classdict__":Str))=false:=by decide):PDI X B tg (.Name x pos) (a5J i):=.mk fun ξ=>
 (b3H (b1D (X:=rz X ξ) (i:=i) (pos:=pos) hN hv hd hcd)).imp fun σ H Rr t=>by
  obtain ⟨G,ρ,r,R,e,p⟩:=t
  unfold a5J at e
  split at e
  ·rename_i es he
   cases e
   obtain ⟨a,o,kvs,q1,q2,q3⟩:=R.fz i es he
   refine ⟨.ref a,q1,a,o,kvs,rfl,R.gH _ _ q2,p (Itd a o kvs) G H (j4.refl _) R ⟨fun G1 H1 j s1 s2 hj=>?_,fun G1 H1 s1 s2=>?_,fun G1 H1 H2 j y s1 s2 hj hy=>?_⟩⟩
   ·refine ⟨s2 _ _ (s1 _ _ q2),?_⟩
    rw [List.length_map,← q3.len] at hj
    exact hj
   ·refine ⟨s2 _ _ (s1 _ _ q2),?_⟩
    rw [List.length_map,← q3.len]
    exact Nat.le_refl _
   ·obtain ⟨rfl,kv,hk,rfl⟩:=hy
    have hk':(kvs.map (·.1))[j]?=some kv.1:=by rw [List.getElem?_map,hk]; rfl
    rw [q3.keys,List.getElem?_map] at hk'
    obtain ⟨e,he1,he2⟩:=Option.map_eq_some_iff.mp hk'
    refine ⟨rfl,a4f kv.1,?_,b3r _⟩
    rw [List.getElem?_map,he1]
    show some (a4f e.1)=_
    rw [he2]
  ·cases e
end
end L3
set_option Elab.async false
set_option linter.all false
set_option maxRecDepth 100000
set_option maxHeartbeats 4000000
namespace L3
open PySem PySem.Spec PyProof.Rows L2
theorem a8q.imp {K:PySem.W.Frag}{ms:List Bool}{i:Nat}{fm fm':List D→Option FR}(h:∀ ds r,fm ds=some r→fm' ds=some r):∀ vs H Q E,a8q K ms i fm vs H Q E→a8q K ms i fm' vs H Q E:=by
 rintro vs H Q E ⟨G,ds,ps,r,a,b,b2,c,d⟩
 exact ⟨G,ds,ps,r,a,b,b2,h ds r c,d⟩
end L3
set_option Elab.async false
set_option linter.all false
set_option maxRecDepth 100000
set_option maxHeartbeats 4000000
namespace L3
open PySem L2
section
variable {tg:FT}{b:SM}{c:M Bool}{ρ ρ1 ρ2:k9}{d:D}{ds:List D}{w:W}{n i j:Nat}{r:Option SR}{es:List (Key×D)}
theorem K6 (h1:tg d ρ=some ρ1)(h2:b ρ1=some (.nx ρ2))(h3:forL tg b ds ρ2=r):forL tg b (d::ds) ρ=r:=by
 unfold forL
 rw [h1]
 simp only [h2]
 exact h3
theorem a0F (h1:tg d ρ=some ρ1)(h2:b ρ1=some (.rt w ρ2)):forL tg b (d::ds) ρ=some (.rt w ρ2):=by
 unfold forL
 rw [h1]
 simp only [h2]
theorem b4f (hc:c ρ=some (.ok false ρ1)):E2 c b (n + 1) ρ=some (.nx ρ1):=by
 unfold E2
 rw [F0 hc]
 rfl
theorem a3L (hc:c ρ=some (.ok true ρ1))(hb:b ρ1=some (.nx ρ2))(h:E2 c b n ρ2=r):E2 c b (n + 1) ρ=r:=by
 unfold E2
 rw [F0 hc]
 show (match b ρ1 with | some (.nx ρ2)=>E2 c b n ρ2 | some (.ct ρ2)=>E2 c b n ρ2 | some (.bk ρ2)=>some (.nx ρ2) | r=>r)=r
 rw [hb]
 exact h
theorem a6B (hc:c ρ=some (.ok true ρ1))(hb:b ρ1=some (.rt w ρ2)):E2 c b (n + 1) ρ=some (.rt w ρ2):=by
 unfold E2
 rw [F0 hc]
 show (match b ρ1 with | some (.nx ρ2)=>E2 c b n ρ2 | some (.ct ρ2)=>E2 c b n ρ2 | some (.bk ρ2)=>some (.nx ρ2) | r=>r)=_
 rw [hb]
theorem b3l (h:ρ[i]?=some (some (.fz es))):a5J i ρ=some (.ok (es.map fun e=>a4f e.1) ρ):=by
 unfold a5J
 rw [h]
theorem a8Y {den:SM}{ms:List Bool}{sr:SR}{fr:FR}(h:den (b2T i (z7 n ms ds))=some sr)(ho:a7F ms sr=some fr):a5l den n ms i ds=some fr:=by unfold a5l; rw [h]; exact ho
end
end L3
set_option Elab.async false
set_option linter.all false
set_option maxRecDepth 100000
set_option maxHeartbeats 4000000
set_option Elab.async false
set_option linter.all false
set_option maxRecDepth 100000
set_option maxHeartbeats 4000000
namespace L3
open PySem PySem.Spec PyProof.Rows L2
noncomputable def b3m:V→List V→Hp→VK→Prop:=fun x vs H Q=>∃ l xs k y,x=.ref l∧vs=[.int ((k:Nat):Int),y]∧H l=some (.lst xs)∧xs.length < sizeLine∧k≤1000000∧Q .A3 (upd H l (.lst (xs.take k++y::xs.drop k)))
theorem a62 {y:V}{u:Value}(hy:RelV y u):∀ {xs:List V} {its:List Value} (k:Nat),Vals xs its→Vals (xs.take k++y::xs.drop k) (its.take k++u::its.drop k)
 | _,_,0,r=>.cons hy r
 | _,_,k + 1,.nil=>.cons hy .nil
 | _,_,k + 1,.cons r1 r2=>.cons r1 (a62 hy k r2)
theorem b3Z (its:List Value)(k:Nat)(u:Value):(its.toArray.extract 0 (min k its.toArray.size)).push u++its.toArray.extract (min k its.toArray.size)=(its.take k++u::its.drop k).toArray:=by
 apply Array.toList_inj.mp
 by_cases h:k≤its.length
 ·simp [Nat.min_eq_left h]
  exact List.take_of_length_le (by rw [List.length_drop]; omega)
 ·have h':its.length≤k:=by omega
  simp [Nat.min_eq_right h',List.drop_of_length_le h',List.take_of_length_le h']
theorem a9P {X:Cx}:MtM X "list.insert" b3m:=by
 intro pins s σ H x vs v us Q I rx rv h
 obtain ⟨l,xs,k,y,rfl,rfl,hH,hz,hk,q⟩:=h
 cases rx
 obtain ⟨u1,u2,rfl,r1,r2⟩:=vals2 rv
 obtain ⟨t1,rfl⟩:=r1
 obtain ⟨z,its,n,r,hl,e⟩:=I.b7f hH
 have hfit:¬ (!Builtin.List.listFitsIndex ((k:Nat):Int))=true:=by
  unfold Builtin.List.listFitsIndex
  have h1:(-(2 ^ 63:Int)≤((k:Nat):Int)):=by omega
  have h2:(((k:Nat):Int) < 2 ^ 63):=by omega
  rw [decide_eq_true h1,decide_eq_true h2]
  exact Bool.false_ne_true
 have hsz:its.toArray.size≤sizeLine:=by rw [List.size_toArray]; omega
 generalize hx:((k:Nat):Int)=x at *
 have m:=PySem.AutoSeq1.list_insert_list_int_val_1 l its.toArray n x t1 u2 hfit hsz
 refine call_meets F.slot_list_insert ⟨_,e,rfl⟩ F.entry_list_insert (F.args_list_insert_3 _ _ _) m ⟨e,?_⟩
 refine ⟨.A3,_,I.b6v (its':=its.take k++u2::its.drop k) hH e ?_ (a62 r2 k r) ?_,rfl,q⟩
 ·subst hx
  have e0:¬ (((k:Nat):Int) < 0):=by omega
  simp only [if_neg e0,Int.toNat_natCast]
  exact b3Z its k u2
 rw [List.length_append,List.length_cons,List.length_take,List.length_drop]
 omega
noncomputable def a2j (i:Nat)(n:Int)(d:D):M W:=fun ρ=>match ρ[i]? with
 | some (some (.ow l (.lst ds)))=>V8 (small ds.length∧0≤n∧n≤1000000) (some (.ok (.val .A3) (ρ.set i (some (.ow l (.lst (ds.take n.toNat++d::ds.drop n.toNat)))))))
 | _=>none
noncomputable def a9X (w:W):M Int:=fun ρ=>match getD w ρ with
 | some (.int n)=>some (.ok n ρ)
 | _=>none
theorem a9g {w:W}{ρ:k9}{r:R' Int}(h:a9X w ρ=some r):∃ n,getD w ρ=some (.int n)∧r=.ok n ρ:=by
 unfold a9X at h
 split at h
 ·rename_i n e
  cases h
  exact ⟨n,e,rfl⟩
 ·cases h
noncomputable def a2k (i:Nat)(m:M (List W)):M W:=M.bind (c9 i) fun x=>M.bind (chk "list" x) fun _=>M.bind m fun ws=>match ws with
 | [wi,w]=>M.bind (a9X wi) fun n=>M.bind (C7 w) (a2j i n)
 | _=>fun _=>none
section
variable {X:Cx}{B:Bs}{o e e2:Expr}{es:List Expr}{mr:M (List W)}{apos cpos opos:Pos}{x:Str}
theorem b2f {K:PySem.W.Frag}{G:Hp}{v:V}{d:D}(hv:Rep K G v d):∀ {xs:List V} {ds:List D} (k:Nat),v5 K G xs ds→v5 K G (xs.take k++v::xs.drop k) (ds.take k++d::ds.drop k):=by
 intro xs ds k r
 exact (r.take k).append (.cons hv (r.drop k))
theorem b2m (i:Nat)(ho:PD X B o (c9 i))(ha:PDA X B [e,e2] mr)
  (hbase:attributeBase o "insert" X.env (eval o X.env)=eval o X.env:=by rfl)
  (hfew:((backTo cpos (starEach [e,e2] X.env)).all (fun x=>!x.1) && (backToKw cpos (keywordEach [] X.env)).all (fun x=>x.1.isSome)
   && decide (([e,e2]:List Expr).length + ([]:List Keyword).length + (if ([]:List Keyword).isEmpty then 0 else 1) < 30))=true:=by rfl)
  (hline:(apos.endLine == cpos.line)=true:=by rfl) (hs:starEach [e,e2] X.env=(false,eval e X.env)::starEach [e2] X.env:=by rfl) (hplain:(backTo cpos (starEach [e2] X.env)).any (·.1)=false:=by rfl) (hK:X.K=B.K:=by rfl):
  PD X B (.Call (.Attribute o "insert" apos) [e,e2] [] cpos) (a2k i mr):=.mk fun ξ=>
 (a9J (X:=rz X ξ) PySem.F.plainAttrs_list PySem.F.slot_list_insert PySem.F.type_list_insert a9P (ho.ap ξ) (ha.ap ξ) hbase hfew hline hs hplain).imp fun σ H Q t=>by
  obtain ⟨G,ρ,R,t⟩:=t
  refine (TD.b1j (rel:=D6) R t).mono fun x H1 ⟨G1,ρ1,w,er,s1,R1,q1,t2⟩=>?_
  obtain ⟨rfl,rfl⟩:=a2p er
  have hv:σ[i]?=some (some x):=q1
  obtain ⟨u,ρ2,e2,t3⟩:=t2.step fun r h=>⟨(),_,(a0V h).1⟩
  obtain ⟨e3,d,hd,ty⟩:=a0V e2
  cases e3
  refine ⟨by show tyV X.K "list" x H1; rw [hK]; exact a8t R1 (q1.get R1 hd) ty,?_⟩
  refine (TD.bind (rel:=N6) R1 t3).mono fun vs H2 ⟨G2,ρ2,ws,s2,R2,q2,t4⟩=>?_
  match ws,q2,t4 with
  | [],_,⟨r,er,_⟩=>cases er
  | [_],_,⟨r,er,_⟩=>cases er
  | _::_::_::_,_,⟨r,er,_⟩=>cases er
  | [wi,w],q2,t4=>
   cases q2 with
   | @cons v1 _ vs _ h1 t1=>
    cases t1 with
    | @cons v _ vs _ h t=>
     cases t
     obtain ⟨n,ρ2',e0,t5⟩:=t4.step fun r h=>by
      obtain ⟨n,_,e⟩:=a9g h
      exact ⟨n,_,e⟩
     obtain ⟨n',hgi,e0'⟩:=a9g e0
     cases e0'
     obtain ⟨dv,ρ3,e4,r,er,p⟩:=t5.step fun r h=>W3 h
     obtain ⟨G3,s3,R3,rv⟩:=h.1.C7 R2 e4
     unfold a2j at er
     split at er
     ·rename_i l ds hi
      obtain ⟨⟨hz,hn0,hn1⟩,er⟩:=l8 er
      cases er
      obtain ⟨pp,rfl,g,xs,hx,rl⟩:=slot_of R3 hi hv
      have hn:v1=.int ((n.toNat:Nat):Int):=by
       have:v1=.int n:=(h1.1.get R2 hgi).int
       rw [this,Int.toNat_of_nonneg hn0]
      refine ⟨pp,xs,n.toNat,v,rfl,by rw [hn],hx,?_,by omega,?_⟩
      ·rw [rl.len,sizeLine_eq]; unfold small at hz; omega
      ·exact p .A3 G3 _ s3 (R3.write hi hv ⟨xs.take n.toNat++v::xs.drop n.toNat,p9,b2f rv n.toNat rl⟩) .A3
     ·cases er
variable {ρ ρ1 ρ2 ρ3:k9}{wi w:W}{d:D}{ds ds0:List D}{i:Nat}{n:Int}{l:Bool}
theorem b3P (h0:ρ[i]?=some (some (.ow l (.lst ds0))))(ha:mr ρ=some (.ok [wi,w] ρ1))(hn:getD wi ρ1=some (.int n))(hl:C7 w ρ1=some (.ok d ρ2))(h1:ρ2[i]?=some (some (.ow l (.lst ds))))(hz:small ds.length)(hn0:0≤n)(hn1:n≤1000000)
  (hs:ρ2.set i (some (.ow l (.lst (ds.take n.toNat++d::ds.drop n.toNat))))=ρ3):L5 (a2k i mr) ρ=some (.nx ρ3):=by
 subst hs
 refine a3K (w:=.val .A3) ?_
 unfold a2k
 have hc:chk "list" (.slot i) ρ=some (.ok () ρ):=by
  unfold chk getD
  simp only [h0]
  rfl
 have hg:a9X wi ρ1=some (.ok n ρ1):=by unfold a9X; rw [hn]
 rw [M.i9 (d8 h0),M.i9 hc,M.i9 ha]
 show M.bind (a9X wi) (fun n=>M.bind (C7 w) (a2j i n)) ρ1=_
 rw [M.i9 hg,M.i9 hl]
 unfold a2j
 rw [h1]
 exact r8 ⟨hz,hn0,hn1⟩
end
end L3
set_option Elab.async false
set_option linter.all false
set_option maxRecDepth 100000
set_option maxHeartbeats 4000000
namespace L3
open PySem PySem.Spec PyProof.Rows L2
end L3
set_option Elab.async false
set_option linter.all false
set_option maxRecDepth 100000
set_option maxHeartbeats 4000000
namespace L3
open PySem PySem.Spec PyProof.Rows L2
end L3
set_option Elab.async false
set_option linter.all false
set_option maxRecDepth 100000
set_option maxHeartbeats 4000000
set_option Elab.async false
set_option linter.all false
set_option maxRecDepth 100000
set_option maxHeartbeats 4000000
namespace L3
open PySem PySem.Spec PyProof.Rows L2
section
variable {X:Cx}{B:Bs}{st:Stmt}{rest sts:List Stmt}{m1 m2 m:SM}
end
end L3
set_option Elab.async false
set_option linter.all false
set_option maxRecDepth 100000
set_option maxHeartbeats 4000000
namespace L3
open PySem PySem.Spec PyProof.Rows L2
end L3
set_option Elab.async false
set_option linter.all false
set_option maxRecDepth 100000
set_option maxHeartbeats 4000000
set_option Elab.async false
set_option linter.all false
set_option maxRecDepth 100000
set_option maxHeartbeats 4000000
set_option Elab.async false
set_option linter.all false
set_option maxRecDepth 100000
set_option maxHeartbeats 4000000
set_option Elab.async false
set_option linter.all false
set_option maxRecDepth 100000
set_option maxHeartbeats 4000000
set_option Elab.async false
set_option linter.all false
set_option maxRecDepth 100000
set_option maxHeartbeats 4000000
set_option Elab.async false
set_option linter.all false
set_option maxRecDepth 100000
set_option maxHeartbeats 4000000
namespace L3
open PySem PySem.Spec PyProof.Rows L2
noncomputable def Kept (h h':Heap):Prop:=∀ b o,h.get? b=some o→h'.get? b=some o
end L3
set_option Elab.async false
set_option linter.all false
set_option maxRecDepth 100000
set_option maxHeartbeats 4000000
namespace L3
open PySem PySem.Spec PyProof.Rows L2
end L3
set_option Elab.async false
set_option linter.all false
set_option maxRecDepth 100000
set_option maxHeartbeats 4000000
set_option Elab.async false
set_option linter.all false
set_option maxRecDepth 100000
set_option maxHeartbeats 4000000
set_option Elab.async false
set_option linter.all false
set_option maxRecDepth 100000
set_option maxHeartbeats 4000000
namespace L3
open PySem PySem.Spec PyProof.Rows L2
open AutoSeq1 (wpAny_loadPart')
theorem b6X (a v:Value):checkTypeCall "enumerate" ⟨[a],[("start",v)]⟩=pure ():=by kernel_rfl
theorem b6l (a v:Value):checkBuiltinCall "enumerate.__new__" ⟨[.type "enumerate",a],[("start",v)]⟩=pure ():=by kernel_rfl
theorem b7e (o a v:Value):argsOk "object.__init__" ⟨[o,a],[("start",v)]⟩:=by unfold argsOk; kernel_rfl
theorem b4S (l:Addr)(items:Array Value)(n:Nat)(dct:Option Addr)(sl:Array (Option Value))(t:Tok):
  Meets (Builtin.«enumerate.__new__» ⟨[.type "enumerate",.ref l],[("start",.int 1 t)]⟩) (fun _ R s=>s.heap.get? l=some { cls:=.type "list",dict:=dct,data:=.seq items n,slots:=sl }∧
   R (.ok (.ret (.ref (s.heap.push { cls:=.type "list_iterator",data:=.fields #[.ref l,.int 0 0] }).objs.size)))
    { s with heap:=(s.heap.push { cls:=.type "list_iterator",data:=.fields #[.ref l,.int 0 0] }).push { cls:=.type "enumerate",data:=.fields #[.none,.bool false,.ref s.heap.objs.size,rawInt 1,.none,.none] } }):=
 .of_wp fun prog w A R s h=>by
  obtain ⟨hp,g,d,tk,os⟩:=s
  obtain ⟨hl,h⟩:=h
  have hsub:=sub_enumerate
  have hL:Heap.IsList (Shared.heap ⟨hp,g,d,tk,os⟩) l items:=⟨_,hl,rfl,n,rfl⟩
  wp_walk using wpAny_loadPart' hl
  refine wpAny_stack_any fun st=>wpAny_pure ?_
  split
  ·rename_i c _ _ _ _ _
   cases (c == Value.type "enumerate")
   ·wp_walk using wpAny_loadPart' hl,wpAny_pyIter_list hL
    all_goals exact ⟨_,rfl,h⟩
   ·wp_walk using wpAny_loadPart' hl,wpAny_pyIter_list hL
    all_goals exact ⟨_,rfl,h⟩
  ·wp_walk using wpAny_loadPart' hl,wpAny_pyIter_list hL
   all_goals exact ⟨_,rfl,h⟩
theorem b3I {T newId:String}{self:Value}{rest:List Value}{kw:List (Str×Value)}(hl:typeLookup (.type T) "__init__"=pure (some (.builtin "object.__init__")))
  (hm:Bind.madeBy (.type T)=pure (some newId)) (hne:(some newId != some "object.__new__")=true):
  Meets (Builtin.«object.__init__» ⟨self::rest,kw⟩) (fun _ R s=>s.TypeIs self T∧R (.ok (.ret .none)) s):=by
 refine Meets.of_wp fun prog w A R s hs=>?_
 obtain ⟨hT,hq⟩:=hs
 cases rest with
 | nil=>
  cases kw with
  | nil=>exact wpAny_pure ⟨_,rfl,hq⟩
  | cons k kw=>
   repeat (any_goals (first | assumption | wp_step))
   exact ⟨_,rfl,hq⟩
 | cons a rest=>
  repeat (any_goals (first | assumption | wp_step))
  exact ⟨_,rfl,hq⟩
section
variable {prog:Program}{w:World}{A:Around}{E:Value→Shared→Prop}{s:Shared}
theorem b2V {l:Addr}{items:Array Value}{t:Tok}{Q:Value→Shared→Prop}(hL:s.heap.IsList l items)
  (h:∀ h',IsEnum h' (s.heap.objs.size + 1) s.heap.objs.size 1 .none→h'.IsListIter s.heap.objs.size l 0→Kept s.heap h'→Q (.ref (s.heap.objs.size + 1)) { s with heap:=h' }):
  wpAny (model prog w) A (call (.type "enumerate") [.ref l] [("start",.int 1 t)]) Q E s:=by
 obtain ⟨⟨c,dct,dt,sl⟩,hl,hc,n,hd⟩:=hL
 replace hc:c=.type "list":=hc
 replace hd:dt=.seq items n:=hd
 subst hc hd
 have ft:=F.called_enumerate
 obtain ⟨c,tl,hmro⟩:=ft.mro
 have hmade:=ft.made
 have hsub:=ft.sub
 have hct:=b6X (.ref l) (.int 1 t)
 have hz:(s.heap.push { cls:=.type "list_iterator",data:=.fields #[.ref l,.int 0 0] }).objs.size=s.heap.objs.size + 1:=Heap.size_push ..
 refine wpAny_call (codeAny_of_tree (show wpAny _ _ (callAny (.type "enumerate") _) _ _ _ from wpAny_pure ⟨Code.quiet_builtin _ (by decide +kernel),codeAny_builtin F.entry_type_call ?_⟩))
 rw [Around.under_plain (weight_type_call_type "enumerate" [.ref l] [("start",.int 1 t)]) (units_type_call_type "enumerate" [.ref l] [("start",.int 1 t)])]
 have h1:=ft.notType
 have h2:=ft.canCreate
 repeat (any_goals (first | assumption | wp_step))
 refine codeAny_mono (codeAny_call_builtin ft.plain F.entry_enumerate_new (wpAny_of_eq (b6l (.ref l) (.int 1 t)) (b4S l items n dct sl t prog w A.in1 (wants (fun obj s1=>obj=.ref (s.heap.objs.size + 1)∧s1={ s with heap:=(s.heap.push { cls:=.type "list_iterator",data:=.fields #[.ref l,.int 0 0] }).push { cls:=.type "enumerate",data:=.fields #[.none,.bool false,.ref s.heap.objs.size,rawInt 1,.none,.none] } }) E) s ⟨hl,by rw [hz]; exact ⟨rfl,rfl⟩⟩))) fun r s1 hr=>?_
 cases r with
 | error e=>exact hr
 | ok fl=>
  cases fl with
  | ret obj=>
   obtain ⟨rfl,rfl⟩:=hr
   have he:IsEnum ((s.heap.push { cls:=.type "list_iterator",data:=.fields #[.ref l,.int 0 0] }).push { cls:=.type "enumerate",data:=.fields #[.none,.bool false,.ref s.heap.objs.size,rawInt 1,.none,.none] }) (s.heap.objs.size + 1) s.heap.objs.size 1 .none:=by
    have:=Heap.get?_push_size (s.heap.push { cls:=.type "list_iterator",data:=.fields #[.ref l,.int 0 0] }) (o:={ cls:=.type "enumerate",data:=.fields #[.none,.bool false,.ref s.heap.objs.size,rawInt 1,.none,.none] }) rfl
    rw [hz] at this
    exact this
   have hq:=h _ he ⟨_,Heap.get?_push_of_some _ (Heap.get?_push_size _ rfl),rfl,rfl⟩ (fun b o x=>Heap.get?_push_of_some _ (Heap.get?_push_of_some _ x))
   have hT:({ s with heap:=(s.heap.push { cls:=.type "list_iterator",data:=.fields #[.ref l,.int 0 0] }).push { cls:=.type "enumerate",data:=.fields #[.none,.bool false,.ref s.heap.objs.size,rawInt 1,.none,.none] } }:Shared).TypeIs (.ref (s.heap.objs.size + 1)) "enumerate":=⟨_,he,rfl⟩
   have hli:=ft.init.lookup
   have hbi:=ft.init.bind (.ref (s.heap.objs.size + 1))
   repeat (any_goals (first | assumption | wp_step))
   refine codeAny_mono (codeAny_call_builtin ft.init.plain F.entry_object_init (ft.init.check _ _ _ _ _ _ _ _ hT (b7e _ _ _) (b3I ft.init.lookup ft.made (by decide) prog w A.in1 (wants (fun r s2=>r=.none∧Q (.ref (s.heap.objs.size + 1)) s2) E) _ ⟨hT,rfl,hq⟩))) fun r2 s2 hr2=>?_
   cases r2 with
   | error e=>exact hr2
   | ok fl2=>
    cases fl2 with
    | ret r=>
     obtain ⟨rfl,hq⟩:=hr2
     repeat (any_goals (first | assumption | wp_step))
    | _=>exact hr2.elim
  | _=>exact hr.elim
end
end L3
set_option Elab.async false
set_option linter.all false
set_option maxRecDepth 100000
set_option maxHeartbeats 4000000
namespace L3
open PySem PySem.Spec PyProof.Rows L2
theorem a8F:typeLookup (.type "enumerate") "keys"=pure none:=by rw [typeLookup_type,builtinLookup_eq_fast]; kernel_rfl
theorem a44:typeLookup (.type "enumerate") "__getattr__"=pure none:=by rw [typeLookup_type,builtinLookup_eq_fast]; kernel_rfl
theorem a76:entryFor table "enumerate.__getattribute__"=some Builtin.«object.__getattribute__»:=
 entryFor_alias (id':="object.__getattribute__") (by kernel_rfl) (by first | rfl | decide +kernel | (unfold String.splitOn; simp +decide [String.splitOnAux])) (by decide +kernel) (by kernel_rfl)
section
variable {prog:Program}{w:World}{A:Around}{E:Value→Shared→Prop}{h:Heap}{g:Array GenState}{d:Drawn}{t:Nat}{os:OsState}{a:Addr}{fs:Array Value}
theorem a4S {tk:Tok}{Q:Fin→Shared→Prop}(hh:A.handled=none)(hx:h.get? a=some { cls:=.type "enumerate",dict:=none,data:=.fields fs,slots:=#[] })
   (hE:∀ x h' t',(∀ b o,h.get? b=some o→h'.get? b=some o)→(∃ o,h'.get? x=some o∧o.cls=.type "AttributeError")→E (.ref x) ⟨h',g,d,t',os⟩):
    wpAny (model prog w) A (Builtin.«object.__getattribute__» ⟨[.ref a,.str "keys" tk],[]⟩) Q E ⟨h,g,d,t,os⟩:=by
  have hT:(⟨h,g,d,t,os⟩:Shared).TypeIs (.ref a) "enumerate":=⟨_,hx,rfl⟩
  have f4:=a8F
  repeat (any_goals (first | assumption | wp_step))
  refine PySem.a4q hh ?_ hE
  decide +kernel
theorem a57 {tk:Tok}{R:Result→Shared→Prop}(hh:A.handled=none)(hx:h.get? a=some { cls:=.type "enumerate",dict:=none,data:=.fields fs,slots:=#[] })
   (hE:∀ x h' t',(∀ b o,h.get? b=some o→h'.get? b=some o)→(∃ o,h'.get? x=some o∧o.cls=.type "AttributeError")→R (.error (.ref x)) ⟨h',g,d,t',os⟩):
    codeAny (model prog w) A (.call (.builtin "enumerate.__getattribute__") ⟨[.ref a,.str "keys" tk],[]⟩) R ⟨h,g,d,t,os⟩:=
  codeAny_call_builtin F.slot_enumerate_getattribute.plain a76 (F.slot_enumerate_getattribute.check _ _ _ _ _ _ _ _ (show (⟨h,g,d,t,os⟩:Shared).TypeIs (.ref a) "enumerate" from ⟨_,hx,rfl⟩) (F.args_enumerate_getattribute_2 _ _) (a4S hh hx hE))
theorem a8Q {tk:Tok}{Q:Value→Shared→Prop}(hh:A.handled=none)(hx:h.get? a=some { cls:=.type "enumerate",dict:=none,data:=.fields fs,slots:=#[] })
   (hE:∀ x h' t',(∀ b o,h.get? b=some o→h'.get? b=some o)→(∃ o,h'.get? x=some o∧o.cls=.type "AttributeError")→E (.ref x) ⟨h',g,d,t',os⟩):wpAny (model prog w) A (getAttrBy (.ref a) (.str "keys" tk) false) Q E ⟨h,g,d,t,os⟩:=by
  have hT:(⟨h,g,d,t,os⟩:Shared).TypeIs (.ref a) "enumerate":=⟨_,hx,rfl⟩
  have f2:=F.slot_enumerate_getattribute.lookup
  have f3:=F.slot_enumerate_getattribute.bind (.ref a)
  have f5:=a44
  have f6:=PySem.F.M6
  repeat (any_goals (first | assumption | wp_step))
  refine a57 hh hx fun x h' t' kp ex=>?_
  have hT':(⟨h',g,d,t',os⟩:Shared).TypeIs (.ref x) "AttributeError":=ex
  repeat (any_goals (first | assumption | wp_step))
  exact hE x h' t' kp ex
theorem a6P {Q:Option Value→Shared→Prop}(hh:A.handled=none)(hx:h.get? a=some { cls:=.type "enumerate",dict:=none,data:=.fields fs,slots:=#[] })
   (hQ:∀ h' t',(∀ b o,h.get? b=some o→h'.get? b=some o)→Q none ⟨h',g,d,t',os⟩):wpAny (model prog w) A (getAttr? (.ref a) "keys") Q E ⟨h,g,d,t,os⟩:=by
  unfold getAttr? getAttrBy?
  have f6:=PySem.F.M6
  repeat (any_goals (first | assumption | with_reducible apply a8Q hh hx | wp_step))
  intro x h' t' kp ex
  have hT':(⟨h',g,d,t',os⟩:Shared).TypeIs (.ref x) "AttributeError":=ex
  repeat (any_goals (first | assumption | wp_step))
  exact hQ h' t' kp
end
structure a8B (b0:Nat) (h:Heap) (e it:Addr) (i:Int):Prop where
 ex:∃ f0 f1 old,h.get? e=some { cls:=.type "enumerate",dict:=none,data:=.fields #[f0,.bool f1,.ref it,rawInt i,.none,old],slots:=#[] }∧(f0=.none∨∃ (a:Nat) (o:Obj),f0=rawInt a∧b0≤a∧a≠e∧a≠it∧h.get? a=some o)
theorem a78 {M:Model}{A:Around}{E:Value→Shared→Prop}{s:Shared}{a:Addr}{Q:Option Obj→Shared→Prop}(h:Q (s.heap.get? a) s):wpAny M A (loadIfAlive a) Q E s:=fun _ _ _=>h
section
variable {prog:Program}{w:World}{A:Around}{E:Value→Shared→Prop}{s:Shared}
theorem b1o {b0:Nat}{e it l:Addr}{j:Nat}{i:Int}{items:Array Value}{x:Value}{Q:Value→Shared→Prop}(hE:a8B b0 s.heap e it i)(hI:s.heap.IsListIter it l j)(hl:s.heap.IsList l items)(hx:items[j]?=some x)(hne:e≠it)(hb0:b0≤s.heap.objs.size)
  (hQ:∀ h',a8B b0 h' e it (i + 1)→h'.IsListIter it l (j + 1)→h'.get? s.heap.objs.size=some { cls:=.type "tuple",data:=.seq #[.int i s.toks,x] }→(∀ b o,b≠e→b≠it→s.heap.get? b=some o→h'.get? b=some o)→Q (.ref s.heap.objs.size) { s with heap:=h',toks:=s.toks + 1 }):
  wpAny (model prog w) A (Builtin.«enumerate.__next__» ⟨[.ref e],[]⟩) (fun fin s'=>∃ v,fin=.done (.ret v)∧Q v s') E s:=by
 obtain ⟨hp,g,d,tk,os⟩:=s
 obtain ⟨f0,f1,old,h0,hf⟩:=hE.ex
 refine wpAny_bind (m:=field (.ref e) 2) (wpAny_field h0 rfl (x:=.ref it) rfl (wpAny_bind (wpAny_nextOf_list_item hI hl hx fun h1 hI1 b1=>?_)))
 have b1:Heap.SameBut it hp h1:=b1
 have g1:=(b1.2 e hne).trans h0
 refine wpAny_bind (m:=field (.ref e) 3) (wpAny_field (s:=⟨h1,g,d,tk,os⟩) g1 rfl (x:=rawInt i) rfl ?_)
 refine wpAny_bind (m:=field (.ref e) 4) (wpAny_field (s:=⟨h1,g,d,tk,os⟩) g1 rfl (x:=.none) rfl ?_)
 refine wpAny_bind (m:=mkInt i) (wpAny_mkInt ?_)
 refine wpAny_bind (m:=setField (.ref e) 3 (rawInt (i + 1))) (wpAny_setField_rec (s:=⟨h1,g,d,tk + 1,os⟩) g1 (by simp) fun h2 g2 b2=>?_)
 have b2:Heap.SameBut e h1 h2:=b2
 refine wpAny_bind (m:=setField (.ref e) 4 .none) (wpAny_setField_rec (s:=⟨h2,g,d,tk + 1,os⟩) g2 (by simp) fun h3 g3 b3=>?_)
 have b3:Heap.SameBut e h2 h3:=b3
 have g3:h3.get? e=some { cls:=.type "enumerate",dict:=none,data:=.fields #[f0,.bool f1,.ref it,rawInt (i + 1),.none,old],slots:=#[] }:=g3
 refine wpAny_bind (m:=newTuple [.int i tk,x]) (wpAny_newTuple ?_)
 have hz:h3.objs.size=hp.objs.size:=by rw [b3.1,b2.1,b1.1]
 have g4:(h3.push { cls:=.type "tuple",data:=.seq #[.int i tk,x] }).get? e=some { cls:=.type "enumerate",dict:=none,data:=.fields #[f0,.bool f1,.ref it,rawInt (i + 1),.none,old],slots:=#[] }:=Heap.get?_push_of_some _ g3
 have t4:(h3.push { cls:=.type "tuple",data:=.seq #[.int i tk,x] }).get? hp.objs.size=some { cls:=.type "tuple",data:=.seq #[.int i tk,x] }:=by rw [← hz]; exact Heap.get?_push_size _ rfl
 have k4:∀ b o,b≠e→b≠it→hp.get? b=some o→(h3.push { cls:=.type "tuple",data:=.seq #[.int i tk,x] }).get? b=some o:=fun b o z1 z2 q=>Heap.get?_push_of_some _ ((b3.2 b z1).trans ((b2.2 b z1).trans ((b1.2 b z2).trans q)))
 have i4:(h3.push { cls:=.type "tuple",data:=.seq #[.int i tk,x] }).IsListIter it l (j + 1):=by
  obtain ⟨o,ho,r⟩:=hI1
  exact ⟨o,Heap.get?_push_of_some _ ((b3.2 it (Ne.symm hne)).trans ((b2.2 it (Ne.symm hne)).trans ho)),r⟩
 have hel:e < hp.objs.size:=Heap.lt_size h0
 have hil:it < hp.objs.size:=by obtain ⟨o,ho,_⟩:=hI; exact Heap.lt_size ho
 generalize h3.push { cls:=.type "tuple",data:=.seq #[.int i tk,x] }=h4 at *
 rw [hz]
 rcases hf with rfl | ⟨a,o,rfl,a0,ae,ai,ho⟩
 ·refine wpAny_bind (m:=Builtin.SmallTypes.ownedTupleIsFree (.ref e)) (wpAny_bind (wpAny_field (s:=⟨h4,g,d,tk + 1,os⟩) g4 rfl (x:=.none) rfl (wpAny_pure ?_)))
  simp only [if_true]
  refine wpAny_bind (wpAny_rule (wpAny_bind (wpAny_field (s:=⟨h4,g,d,tk + 1,os⟩) g4 rfl (x:=old) rfl (wpAny_bind (wpAny_setField_rec (s:=⟨h4,g,d,tk + 1,os⟩) g4 (by simp) fun h5 g5 b5=>?_)))))
  have b5:Heap.SameBut e h4 h5:=b5
  refine wpAny_bind (m:=Builtin.SmallTypes.ownedTupleHandOut (.ref e) (.ref hp.objs.size)) (wpAny_bind (wpAny_setField_rec (s:=⟨h5,g,d,tk + 1,os⟩) g5 (by simp) fun h6 g6 b6=>wpAny_setField_rec (s:=⟨h6,g,d,tk + 1,os⟩) g6 (by simp) fun h7 g7 b7=>?_))
  have b6:Heap.SameBut e h5 h6:=b6
  have b7:Heap.SameBut e h6 h7:=b7
  have k7:∀ b o,b≠e→h4.get? b=some o→h7.get? b=some o:=fun b o z q=>(b7.2 b z).trans ((b6.2 b z).trans ((b5.2 b z).trans q))
  have t7:=k7 _ _ (Nat.ne_of_gt hel) t4
  refine wpAny_bind (wpAny_letGo (wpAny_pure ⟨_,rfl,hQ h7 ⟨⟨_,_,_,g7,.inr ⟨hp.objs.size,_,rfl,hb0,Nat.ne_of_gt hel,Nat.ne_of_gt hil,t7⟩⟩⟩ ?_ t7 fun b o z1 z2 q=>k7 b o z1 (k4 b o z1 z2 q)⟩))
  obtain ⟨o,ho,r⟩:=i4
  exact ⟨o,k7 _ _ (Ne.symm hne) ho,r⟩
 ·have ho4:=k4 a o ae ai ho
  have fin:∀ h7,(∃ f1',h7.get? e=some { cls:=.type "enumerate",dict:=none,data:=.fields #[rawInt a,.bool f1',.ref it,rawInt (i + 1),.none,old],slots:=#[] })→(∀ b o,b≠e→h4.get? b=some o→h7.get? b=some o)→Q (.ref hp.objs.size) ⟨h7,g,d,tk + 1,os⟩:=by
   intro h7 ⟨f1',g7⟩ k7
   refine hQ h7 ⟨⟨_,_,_,g7,.inr ⟨a,o,rfl,a0,ae,ai,k7 _ _ ae ho4⟩⟩⟩ ?_ (k7 _ _ (Nat.ne_of_gt hel) t4) fun b o z1 z2 q=>k7 b o z1 (k4 b o z1 z2 q)
   obtain ⟨o,ho,r⟩:=i4
   exact ⟨o,k7 _ _ (Ne.symm hne) ho,r⟩
  refine wpAny_bind (m:=Builtin.SmallTypes.ownedTupleIsFree (.ref e)) (wpAny_bind (wpAny_field (s:=⟨h4,g,d,tk + 1,os⟩) g4 rfl (x:=rawInt a) rfl ?_))
  refine wpAny_bind (m:=loadIfAlive ((a:Int).toNat)) (a78 (s:=⟨h4,g,d,tk + 1,os⟩) ?_)
  rw [show ((a:Nat):Int).toNat=a from rfl]
  rw [show (Shared.heap ⟨h4,g,d,tk + 1,os⟩).get? a=some o from ho4]
  show wpAny _ _ (field (.ref e) 1 >>= fun _=>_) _ _ _
  refine wpAny_bind (wpAny_field (s:=⟨h4,g,d,tk + 1,os⟩) g4 rfl (x:=.bool f1) rfl ?_)
  cases f1 with
  | true=>exact wpAny_pure (wpAny_pure ⟨_,rfl,fin h4 ⟨true,g4⟩ fun _ _ _ q=>q⟩)
  | false=>exact wpAny_bind (wpAny_setField_rec (s:=⟨h4,g,d,tk + 1,os⟩) g4 (by simp) fun h7 g7 b7=>wpAny_pure (wpAny_pure ⟨_,rfl,fin h7 ⟨true,g7⟩ fun b o z q=>((show Heap.SameBut e h4 h7 from b7).2 b z).trans q⟩))
theorem b4b {b0:Nat}{e it l:Addr}{j:Nat}{i:Int}{items:Array Value}{x:Value}{Q:Option Value→Shared→Prop}(hE:a8B b0 s.heap e it i)(hI:s.heap.IsListIter it l j)(hl:s.heap.IsList l items)(hx:items[j]?=some x)(hne:e≠it)(hb0:b0≤s.heap.objs.size)
  (hQ:∀ h',a8B b0 h' e it (i + 1)→h'.IsListIter it l (j + 1)→h'.get? s.heap.objs.size=some { cls:=.type "tuple",data:=.seq #[.int i s.toks,x] }→(∀ b o,b≠e→b≠it→s.heap.get? b=some o→h'.get? b=some o)→Q (some (.ref s.heap.objs.size)) { s with heap:=h',toks:=s.toks + 1 }):
  wpAny (model prog w) A (pyNext (.ref e)) Q E s:=by
 obtain ⟨f0,f1,old,h0,hf⟩:=id hE.ex
 have hT:s.TypeIs (.ref e) "enumerate":=⟨_,h0,rfl⟩
 unfold pyNext
 exact wpAny_bind (wpAny_attempt (wpAny_callSpecial?_slot (name:=Str.ofString "__next__") hT F.slot_enumerate_next (wpAny_call_entry F.slot_enumerate_next hT F.entry_enumerate_next (b1o hE hI hl hx hne hb0 fun h' a b c k=>wpAny_pure (hQ h' a b c k)) (F.args_enumerate_next_1 _))))
theorem b6b {b0:Nat}{e it l:Addr}{j:Nat}{i:Int}{items:Array Value}{Q:Option Value→Shared→Prop}(hh:A.handled=none)(hE:a8B b0 s.heap e it i)(hI:s.heap.IsListIter it l j)(hl:s.heap.IsList l items)(hx:items[j]?=none)
  (hQ:∀ h',Heap.ExtBut it s.heap h'→Q none { s with heap:=h' }):wpAny (model prog w) A (pyNext (.ref e)) Q E s:=by
 obtain ⟨f0,f1,old,h0,hf⟩:=id hE.ex
 have hT:s.TypeIs (.ref e) "enumerate":=⟨_,h0,rfl⟩
 unfold pyNext
 refine wpAny_bind (wpAny_attempt (wpAny_callSpecial?_slot (name:=Str.ofString "__next__") hT F.slot_enumerate_next (wpAny_call_entry F.slot_enumerate_next hT F.entry_enumerate_next (wpAny_bind (m:=field (.ref e) 2) (wpAny_field h0 rfl (x:=.ref it) rfl ?_)) (F.args_enumerate_next_1 _))))
 refine wpAny_bind (wpAny_nextOf_list_end hh hI hl hx fun h' x he' hx'=>?_)
 obtain ⟨o,ho,hc⟩:=hx'
 exact wpAny_bind (wpAny_isInstance (T:="StopIteration") (b:=true) ⟨o,ho,hc⟩ isSubtype_stop (wpAny_pure (hQ _ he')))
end
end L3
set_option Elab.async false
set_option linter.all false
set_option maxRecDepth 100000
set_option maxHeartbeats 4000000
namespace L3
open PySem PySem.Spec PyProof.Rows L2
section
variable {prog:Program}{w:World}{A:Around}{E:Value→Shared→Prop}{K:Type}[DecidableEq K]{knd:KeyKind prog w K}
theorem b5h (d e it l : Addr) (items : Array Value) (ps : List (K × Value)) (hh : A.in1.handled = none) (hdl : l ≠ d) (hil : l ≠ it) (hel : l ≠ e) (hdi : d ≠ it) (hde : d ≠ e) (hei : e ≠ it) (b0 : Nat) (hdb : d < b0) (result : Value) (hlen : ps.length = items.size)
    (hps : ∀ (j : Nat) (p : K × Value), ps[j]? = some p → items[j]? = some p.2 ∧ ∀ tk, knd.is p.1 (.int ((j : Int) + 1) tk) = true) (R : Result → Shared → Prop) :
  ∀ (m i : Nat) (kvs : List (K × Value)) (s : Shared), m = ps.length - i → i ≤ ps.length → b0 ≤ s.heap.objs.size →
   s.heap.DictOf knd d kvs → a8B b0 s.heap e it ((i : Int) + 1) → s.heap.IsListIter it l i → s.heap.IsList l items → kvs.length + m ≤ sizeLine →
   (∀ h' tk, h'.DictOf knd d (merged kvs (ps.drop i)) → (∀ b o, b ≠ d → b ≠ it → b ≠ e → s.heap.get? b = some o → h'.get? b = some o) → R (.ok (.ret result)) { s with heap := h', toks := tk }) →
   codeAny (model prog w) A (.builtin "dict.update.loop" ⟨[.ref d, .ref e, rawInt i, result], []⟩) R s := by
  intro m
  induction m with
  | zero =>
    intro i kvs s hm hi hds hd hE hit hl hsz hR
    have hin : i = ps.length := by omega
    refine codeAny_builtin PySem.F.C1 (by
      rw [Around.under_plainId PySem.F.u0 _]
      show wpAny _ A.in1 (pyNext (.ref e) >>= fun _ => _) _ _ s
      refine wpAny_bind (b6b hh hE hit hl (by rw [Array.getElem?_eq_none]; omega) fun h' eb => ?_)
      show wpAny _ A.in1 (Builtin.Dict.addKeywords d [] >>= fun _ => ret result) _ _ _
      refine wpAny_bind (wpAny_pure (wpAny_pure (hR h' s.toks ?_ fun b o hb hb2 hb3 q => eb b o hb2 q)))
      rw [hin, List.drop_length]
      obtain ⟨o, es, ep, ho, rest⟩ := hd
      exact ⟨o, es, ep, eb d o hdi ho, rest⟩)
  | succ m ih =>
    intro i kvs s hm hi hds hd hE hit hl hsz hR
    have hlt : i < ps.length := by omega
    obtain ⟨hx, hkey⟩ := hps i ps[i] (List.getElem?_eq_getElem hlt)
    refine codeAny_builtin PySem.F.C1 (by
      rw [Around.under_plainId PySem.F.u0 _]
      show wpAny _ A.in1 (pyNext (.ref e) >>= fun _ => _) _ _ s
      refine wpAny_bind (b4b hE hit hl hx hei hds fun h' hE' hit' ht kp => ?_)
      have hd' : h'.DictOf knd d kvs := by obtain ⟨o, es, ep, ho, rest⟩ := hd; exact ⟨o, es, ep, kp d o hde hdi ho, rest⟩
      have hT : ({ s with heap := h', toks := s.toks + 1 } : Shared).TypeIs (.ref s.heap.objs.size) "tuple" := ⟨_, ht, rfl⟩
      show wpAny _ A.in1 (holding [Value.ref s.heap.objs.size] _ >>= fun _ => _) _ _ { s with heap := h', toks := s.toks + 1 }
      refine wpAny_bind (wpAny_holding (wpAny_bind (wpAny_tryCatch ?_)))
      unfold Builtin.Dict.pairItems
      refine wpAny_bind (wpAny_typeOf hT ?_)
      rw [if_pos (by decide)]
      refine wpAny_bind (wpAny_seqItems ht rfl (wpAny_pure ?_))
      show wpAny _ A.in1 (holding [.int ((i : Int) + 1) s.toks, ps[i].2] (dictSet d (.int ((i : Int) + 1) s.toks) ps[i].2)) _ _ { s with heap := h', toks := s.toks + 1 }
      refine wpAny_holding (wpAny_dictSet_pairs (s := { s with heap := h', toks := s.toks + 1 }) (k := ps[i].1) (hkey _) hd' (fun h2 hd2 sb2 => ?_) (by omega))
      have sb2 : Heap.SameBut d h' h2 := sb2
      have kp2 : ∀ b o, b ≠ d → b ≠ it → b ≠ e → s.heap.get? b = some o → h2.get? b = some o := fun b o z1 z2 z3 q => (sb2.2 b z1).trans (kp b o z3 z2 q)
      have hc : ((i : Int) + 1) = ((i + 1 : Nat) : Int) := by push_cast; rfl
      refine wpAny_pure ⟨plainId_quiet PySem.F.u0 _, ?_⟩
      obtain ⟨f0, f1, old, g0, gf⟩ := hE'.ex
      have g2 : h2.get? e = some { cls := .type "enumerate", dict := none, data := .fields #[f0, .bool f1, .ref it, rawInt ((i : Int) + 1 + 1), .none, old], slots := #[] } := (sb2.2 e (Ne.symm hde)).trans g0
      have hE2 : a8B b0 h2 e it (((i + 1 : Nat) : Int) + 1) := by
        refine ⟨⟨f0, f1, old, by rw [← hc]; exact g2, ?_⟩⟩
        rcases gf with gf | ⟨a, o, rfl, z0, z1, z2, z3⟩
        · exact .inl gf
        · exact .inr ⟨a, o, rfl, z0, z1, z2, (sb2.2 a (Nat.ne_of_gt (Nat.lt_of_lt_of_le hdb z0))).trans z3⟩
      rw [hc]
      refine ih (i + 1) (stored kvs ps[i].1 ps[i].2) { s with heap := h2, toks := s.toks + 1 + 1 } (by omega) (by omega) ?_ hd2 hE2 ?_ ?_ ?_ fun h3 tk hd3 kp3 => ?_
      · show b0 ≤ h2.objs.size
        rw [sb2.1]
        exact Nat.le_of_lt (Nat.lt_of_le_of_lt hds (Heap.lt_size ht))
      · obtain ⟨o, ho, rest⟩ := hit'
        exact ⟨o, (sb2.2 it (Ne.symm hdi)).trans ho, rest⟩
      · obtain ⟨o, ho, rest⟩ := hl
        exact ⟨o, kp2 l o hdl hil hel ho, rest⟩
      · have := stored_length_le kvs ps[i].1 ps[i].2
        omega
      · refine hR h3 tk ?_ fun b o z1 z2 z3 q => kp3 b o z1 z2 z3 (kp2 b o z1 z2 z3 q)
        rw [List.drop_eq_getElem_cons hlt]
        exact hd3)
theorem a5U {s:Shared}{e it l:Addr}{items:Array Value}(ps:List (K×Value)){Q:Value→Shared→Prop}(hh:A.handled=none)(hE:IsEnum s.heap e it 1 .none)(hit:s.heap.IsListIter it l 0)(hl:s.heap.IsList l items)(hil:l≠it)(hel:l≠e)(hei:e≠it)(hlen:ps.length=items.size)(hsz:ps.length≤sizeLine)
  (hps:∀ (j:Nat) (p:K×Value),ps[j]?=some p→items[j]?=some p.2∧∀ tk,knd.is p.1 (.int ((j:Int) + 1) tk)=true)
  (h:∀ h' tk,h'.DictOf knd s.heap.objs.size (merged [] ps)→(∀ b o,b≠e→b≠it→s.heap.get? b=some o→h'.get? b=some o)→Q (.ref s.heap.objs.size) { s with heap:=h',toks:=tk }):
  wpAny (model prog w) A (call (.type "dict") [.ref e]) Q E s:=by
 refine callType_codes (Q₁:=fun obj s₁=>obj=.ref s.heap.objs.size∧s₁={ s with heap:=s.heap.push { cls:=.type "dict",data:=.dict #[] } }) F.kt_called_dict (F.kt_typeCall_dict_1 _) F.entry_dict_init (kt_code_dict_new _ ⟨rfl,rfl⟩) ?_
 rintro obj s₁ ⟨rfl,rfl⟩
 have hnew:(s.heap.push { cls:=.type "dict",data:=.dict #[] }).DictOf knd s.heap.objs.size []:=Heap.DictOf.new s.heap
 refine ⟨hnew.typeIs,F.args_dict_init_2 _ _,?_⟩
 unfold Builtin.«dict.__init__»
 refine wpAny_bind ?_
 unfold Builtin.Dict.selfAndRest
 refine wpAny_bind (wpAny_notOrdered_dict hnew.typeIs ?_)
 show wpAny _ _ (pure (s.heap.objs.size,[Value.ref e])) _ _ _
 refine wpAny_pure ?_
 show wpAny _ _ (Builtin.Dict.updateFrom "dict.__init__" s.heap.objs.size (.ref e) [] .none) _ _ _
 unfold Builtin.Dict.updateFrom
 have e1:(s.heap.push { cls:=.type "dict",data:=.dict #[] }).get? e=some { cls:=.type "enumerate",dict:=none,data:=.fields #[.none,.bool false,.ref it,rawInt 1,.none,.none],slots:=#[] }:=Heap.get?_push_of_some _ hE
 have elt:=Heap.lt_size hE
 refine wpAny_bind (wpAny_typeOf (T:="enumerate") ⟨_,e1,rfl⟩ ?_)
 rw [if_pos (by decide)]
 refine wpAny_bind (a6P (h:=s.heap.push { cls:=.type "dict",data:=.dict #[] }) (by exact hh) e1 fun h1 t1 kp1=>?_)
 rw [if_pos (show (none:Option Value).isNone=true from rfl)]
 have e2:=kp1 _ _ e1
 refine wpAny_bind (wpAny_rule (wpAny_bind (wpAny_pyIter_enum (i:=1) (old:=.none) e2 ?_)))
 refine wpAny_pure ⟨plainId_quiet PySem.F.u0 _,?_⟩
 have hd1:h1.get? s.heap.objs.size=some { cls:=.type "dict",data:=.dict #[] }:=kp1 _ _ (Heap.get?_push_size _ rfl)
 have kp2:∀ b o,s.heap.get? b=some o→h1.get? b=some o:=fun b o q=>kp1 _ _ (Heap.get?_push_of_some _ q)
 have llt:l < s.heap.objs.size:=let ⟨o,ho,_⟩:=hl; Heap.lt_size ho
 have ilt:it < s.heap.objs.size:=let ⟨o,ho,_⟩:=hit; Heap.lt_size ho
 refine b5h (knd:=knd) s.heap.objs.size e it l items ps (by exact hh) (Nat.ne_of_lt llt) hil hel (Nat.ne_of_gt ilt) (Nat.ne_of_gt elt) hei (s.heap.objs.size + 1) (Nat.lt_succ_self _) .none hlen hps _ ps.length 0 [] _ rfl (Nat.zero_le _) (Heap.lt_size hd1) ?_ ⟨⟨_,_,_,e2,.inl rfl⟩⟩ ?_ ?_ (by simpa using hsz) fun h' tk hd' kp'=>⟨rfl,?_⟩
 ·obtain ⟨o,es,ep,ho,rest⟩:=hnew
  exact ⟨o,es,ep,kp1 _ _ ho,rest⟩
 ·obtain ⟨o,ho,rest⟩:=hit
  exact ⟨o,kp2 _ _ ho,rest⟩
 ·obtain ⟨o,ho,rest⟩:=hl
  exact ⟨o,kp2 _ _ ho,rest⟩
 ·exact h h' tk (by simpa using hd') fun b o z1 z2 q=>kp' b o (Nat.ne_of_lt (Heap.lt_size q)) z2 z1 (kp2 b o q)
end
section
variable {M:Model}{A:Around}{E:Value→Shared→Prop}{s:Shared}{env:Env}
theorem a8d {pos:Pos}{T:String}{e:Expr}{kws:List Keyword}{Q:Value→Shared→Prop}
  (h:wpAny M A (spliced (backTo pos (starEach [e] env))) (fun vs s₁=>wpAny M A (evalAll ((backToKw pos (keywordEach kws env)).map (·.2))) (fun kvs s₂=>wpAny M A (call (.type T) vs (((backToKw pos (keywordEach kws env)).filterMap (·.1)).zip kvs)) Q E s₂) E s₁) E s)
  (he:backTo pos (starEach [e] env)=(false,eval e env)::backTo pos (starEach [] env):=by rfl)
  (hplain:(backTo pos (starEach [e] env)).any (·.1)=false:=by rfl) (hall:(backToKw pos (keywordEach kws env)).all (·.1.isSome)=true:=by rfl) (hkw:(backToKw pos (keywordEach kws env)).any (·.1.isNone)=false:=by rfl):
  wpAny M A (callWith pos (.type T) [] (backTo pos (starEach [e] env)) (backToKw pos (keywordEach kws env))) Q E s:=by
 have h':wpAny M A (evalArgs (.type T) true (backTo pos (starEach [e] env)) (backToKw pos (keywordEach kws env))) (fun a s₁=>wpAny M A (call (.type T) ([]++a.pos) a.kw) Q E s₁) E s:=by
  rw [he] at h ⊢
  exact evalArgs_kwB hall h
 unfold callWith
 refine wpAny_bind (wpAny_holding (wpAny_mono h' (fun a s1 h1=>wpAny_bind (wpAny_standAt ?_)) fun _ _ x=>x))
 simp only [hplain,hkw,Bool.or_false]
 exact wpAny_bind (wpAny_pure (wpAny_bind (wpAny_mono h1 (fun r s2 hr=>wpAny_bind (wpAny_holding (wpAny_point (wpAny_pure hr)))) fun _ _ x=>x)))
end
noncomputable def b0l (k:Int):List V→List (Key×V)
 | []=>[]
 | x::xs=>(.inl k,x)::b0l (k + 1) xs
noncomputable def a4W (k:Int):List Value→List (Key×Value)
 | []=>[]
 | x::xs=>(.inl k,x)::a4W (k + 1) xs
theorem a8W:∀ {xs:List V} {us:List Value} (k:Int),Vals xs us→KV (b0l k xs) (a4W k us)
 | _,_,_,.nil=>.nil
 | _,_,k,.cons r rs=>.cons ⟨rfl,r⟩ (a8W (k + 1) rs)
theorem a2c:∀ (us:List Value) (k:Int),(a4W k us).length=us.length
 | [],_=>rfl
 | u::us,k=>by
  show (a4W (k + 1) us).length + 1=_
  rw [a2c us,List.length_cons]
theorem a9h:∀ (us:List Value) (k:Int) (j:Nat) (p:Key×Value),(a4W k us)[j]?=some p→us[j]?=some p.2∧p.1=.inl (k + j)
 | u::us,k,0,p,h=>by
  have:(Sum.inl k,u)=p:=by simpa [a4W] using h
  subst this
  exact ⟨rfl,by simp⟩
 | u::us,k,j + 1,p,h=>by
  obtain ⟨a,b⟩:=a9h us (k + 1) j p (by simpa [a4W] using h)
  refine ⟨by simpa using a,?_⟩
  rw [b]
  congr 1
  push_cast
  omega
 | [],_,_,_,h=>by simp [a4W] at h
section
variable {X:Cx}{p pos p2 pos2 kp cp:Pos}{nn:Nat}{e:Expr}{t:TA}
noncomputable def b6H (K:PySem.W.Frag):List V→Hp→VK→Prop:=fun xs H Q=>∃ l ys,xs=[.ref l]∧L8 K H l ys∧ys.length≤1000000∧∀ d,H d=none→Q (.ref d) (upd H d (.dK (a2J [] (b0l 1 ys))))
theorem a71 {K:PySem.W.Frag}(hK:X.K=K)(hc:X.calm=true)(hg1:Gl X "dict") (hm1:X.mg "dict"=none) (hg2:Gl X "enumerate") (hm2:X.mg "enumerate"=none) (ha:PA X [e] t)
  (he1:starEach [Expr.Call (.Name "enumerate" p2) [e] [⟨some "start",.Constant (.int 1) nn cp,kp⟩] pos2] X.env=(false,eval (Expr.Call (.Name "enumerate" p2) [e] [⟨some "start",.Constant (.int 1) nn cp,kp⟩] pos2) X.env)::starEach [] X.env) (hpl1:(backTo pos (starEach [] X.env)).any (·.1)=false)
  (h1:backTo pos2 (starEach [e] X.env)=(false,eval e X.env)::backTo pos2 (starEach [] X.env)) (h2:(backTo pos2 (starEach [e] X.env)).any (·.1)=false) (h3:(backToKw pos2 (keywordEach [⟨some "start",.Constant (.int 1) nn cp,kp⟩] X.env)).all (·.1.isSome)=true) (h4:(backToKw pos2 (keywordEach [⟨some "start",.Constant (.int 1) nn cp,kp⟩] X.env)).any (·.1.isNone)=false)
  (hks:(backToKw pos2 (keywordEach [⟨some "start",.Constant (.int 1) nn cp,kp⟩] X.env)).filterMap (·.1)=[("start":Str)])
  (hcst:∀ (s:Shared) (Q:Value→Shared→Prop),(∀ tk tk',Q (.int 1 tk) { s with toks:=tk' })→wpAny (model X.prog X.w) X.A (eval (.Constant (.int 1) nn cp) X.env) Q X.xe s):
  PE X (.Call (.Name "dict" p) [.Call (.Name "enumerate" p2) [e] [⟨some "start",.Constant (.int 1) nn cp,kp⟩] pos2] [] pos) (tCB (b6H K) t):=by
 subst hK
 intro pins s σ H Q I h
 refine wpAny_Call_Name_kw (X5 I hg1 hm1 PyProof.Rows.boot_dict ?_ (by decide) (by decide))
 refine PyProof.Rows.callWith_type1 ?_ he1 hpl1
 rw [he1]
 show wpAny _ _ (spliced ((false,eval (Expr.Call (.Name "enumerate" p2) [e] [⟨some "start",.Constant (.int 1) nn cp,kp⟩] pos2) X.env)::backTo pos (starEach [] X.env))) _ _ s
 refine Calls.spliced_cons (wpAny_Call_Name_kw (X5 I hg2 hm2 (u:=.type "enumerate") (by decide +kernel) ?_ (by decide) (by decide)))
 refine a8d (L7 (ha pos2 pins s σ H _ I h) fun us s1 ⟨vs,H1,I1,r1,l,ys,ev,hq,hz,q⟩=>?_) h1 h2 h3 h4
 subst ev
 obtain ⟨u,rfl,ru⟩:=vals1 r1
 cases ru
 refine kws_cons (hcst s1 _ fun tk tk'=>kws_nil ?_)
 rw [hks]
 have I1':Inv X pins σ H1 { s1 with toks:=tk' }:=I1.tok _
 obtain ⟨its,rv,pl,hsl⟩:=I1'.list hq
 refine b2V (t:=tk) pl.isList fun h' hE hit kp=>Calls.spliced_nil ?_
 have hlt:l < s1.heap.objs.size:=let ⟨o,ho,_⟩:=pl.isList; Heap.lt_size ho
 have I2:Inv X pins σ H1 { s1 with heap:=h',toks:=tk' }:=I1'.kept (t':=tk') kp
 have hl2:h'.IsList l its.toArray:=let ⟨o,ho,r⟩:=pl.isList; ⟨o,kp _ _ ho,r⟩
 have hn:=rv.length
 have hml:(a2J [] (b0l 1 ys)).length≤sizeLine:=by
  have e1:=(a2S (a8W 1 rv) (kvs:=[]) (vs:=[]) .nil).length
  have e2:=merged_length_le ([]:List (Key×Value)) (a4W 1 its)
  rw [a2c] at e2
  simp at e2
  have:=sizeLine_eq
  omega
 refine a5U (knd:=z5 X.prog X.w) (a4W 1 its) (I1.ok.hd hc) hE hit hl2 (Nat.ne_of_lt hlt) (Nat.ne_of_lt (Nat.lt_succ_of_lt hlt)) (Nat.ne_of_gt (Nat.lt_succ_self _)) (by rw [a2c,List.size_toArray]) (by rw [a2c,sizeLine_eq]; omega) (fun j pr hj=>?_) fun h2' tk2 hd' kp2=>?_
 ·obtain ⟨a,b⟩:=a9h its 1 j pr hj
  refine ⟨by simpa using a,fun tk=>?_⟩
  rw [b,Int.add_comm]
  exact a24 (k:=.inl ((j:Int) + 1)) ⟨tk,rfl⟩
 ·have kp3:∀ b o,s1.heap.get? b=some o→h2'.get? b=some o:=fun b o q=>kp2 b o (Nat.ne_of_lt (Nat.lt_succ_of_lt (Heap.lt_size q))) (Nat.ne_of_lt (Heap.lt_size q)) (kp b o q)
  have hsz:s1.heap.objs.size≤h'.objs.size:=Nat.le_of_lt (let ⟨o,ho,_⟩:=hit; Heap.lt_size ho)
  exact ⟨.ref h'.objs.size,_,I1'.laid (a:=h'.objs.size) (o:=.dK (a2J [] (b0l 1 ys))) (t':=tk2) kp3 hsz (a6H hml (beq_eq_false_iff_ne.mpr (Ne.symm (Nat.ne_of_lt (Nat.lt_of_lt_of_le I1.big hsz)))) (a2S (a8W 1 rv) .nil) hd'),rfl,q _ (I1'.hok.fresh hsz)⟩
end
end L3
set_option Elab.async false
set_option linter.all false
set_option maxRecDepth 100000
set_option maxHeartbeats 4000000
namespace L3
open PySem PySem.Spec PyProof.Rows L2
noncomputable def b0x (k:Int):List D→List (Key×D)
 | []=>[]
 | d::ds=>(.inl k,d)::b0x (k + 1) ds
noncomputable def a82:List D→Option W
 | [.lst ds]=>V8 (ds.length≤1000000) (some (.own (.dct (a1m [] (b0x 1 ds)))))
 | _=>none
theorem num_rep {K:PySem.W.Frag}{G:Hp}:∀ {ys:List V} {ds:List D} (k:Int),v5 K G ys ds→l5 K G (b0l k ys) (b0x k ds)
 | [],[],_,_=>l5.nil
 | [],_::_,_,r=>by have:=r.len; simp at this
 | _::_,[],_,r=>by have:=r.len; simp at this
 | y::ys,d::ds,k,r=>l5.cons rfl r.head (num_rep (k + 1) r.tail)
section
variable {X:Cx}{B:Bs}{e:Expr}{mr:M (List W)}{nn:Nat}{p pos p2 pos2 kp cp:Pos}
theorem b0h:a2U B (b6H B.K) a82:=by
 intro G H σ ρ xs ds w Q R h ev pp
 match ds,ev with
 | [.lst ds],ev=>
  obtain ⟨hz,ev⟩:=l8 ev
  cases ev
  obtain ⟨x,rfl,hx⟩:=I9 h
  obtain ⟨q,ys,rfl,h1,r1⟩:=hx.lst R.gH
  refine ⟨q,ys,rfl,h1,by rw [r1.len]; exact hz,fun l hl=>?_⟩
  obtain ⟨R',w'⟩:=R.a8g hl (a6x (num_rep 1 r1) l5.nil)
  exact pp _ G _ (j4.refl _) R' w'
theorem a8h (hc:X.calm=true)(hm1:X.mg "dict"=none) (hm2:X.mg "enumerate"=none) (ha:PDA X B [e] mr) (hg1:Gl X "dict":=by rfl) (hg2:Gl X "enumerate":=by rfl) (hK:X.K=B.K:=by rfl)
  (he1:starEach [Expr.Call (.Name "enumerate" p2) [e] [⟨some "start",.Constant (.int 1) nn cp,kp⟩] pos2] X.env=(false,eval (Expr.Call (.Name "enumerate" p2) [e] [⟨some "start",.Constant (.int 1) nn cp,kp⟩] pos2) X.env)::starEach [] X.env:=by rfl) (hpl1:(backTo pos (starEach [] X.env)).any (·.1)=false:=by rfl)
  (h1:backTo pos2 (starEach [e] X.env)=(false,eval e X.env)::backTo pos2 (starEach [] X.env):=by rfl) (h2:(backTo pos2 (starEach [e] X.env)).any (·.1)=false:=by rfl) (h3:(backToKw pos2 (keywordEach [⟨some "start",.Constant (.int 1) nn cp,kp⟩] X.env)).all (·.1.isSome)=true:=by rfl) (h4:(backToKw pos2 (keywordEach [⟨some "start",.Constant (.int 1) nn cp,kp⟩] X.env)).any (·.1.isNone)=false:=by rfl)
  (hks:(backToKw pos2 (keywordEach [⟨some "start",.Constant (.int 1) nn cp,kp⟩] X.env)).filterMap (·.1)=[("start":Str)]:=by rfl):
  PD X B (.Call (.Name "dict" p) [.Call (.Name "enumerate" p2) [e] [⟨some "start",.Constant (.int 1) nn cp,kp⟩] pos2] [] pos) (B7 a82 mr):=.mk fun ξ=>
 (a71 (X:=rz X ξ) (K:=B.K) hK hc hg1 hm1 hg2 hm2 (ha.ap ξ) he1 hpl1 h1 h2 h3 h4 hks (fun s Q h=>wpAny_Constant_int (h _ _))).imp fun _ _ _ t=>a9q b0h t
end
noncomputable def Itv (K:PySem.W.Frag)(a:Addr)(n:Nat):It:=
 ⟨fun i H=>i < n∧∃ xs,L8 K H a xs∧xs.length=n,fun i H x H'=>H'=H∧∀ xs,L8 K H a xs→xs[n - 1 - i]?=some x,fun i H=>n≤i∧∃ xs,L8 K H a xs∧xs.length=n⟩
theorem b09 {P:Program}{w:World}{K:PySem.W.Frag}{tg:Expr}(a it:Addr)(n:Nat):Turn P w K tg (Itv K a n) [it] it (fun i h=>i≤n∧h.IsRevIter it a ((n:Int) - 1 - (i:Int))) where
 mem:=by simp
 obj:=fun i h st b hb=>by
  have e:b=it:=by simpa using hb
  subst e
  obtain ⟨_,o,e,c,d⟩:=st
  exact ⟨o,e,fun v z=>by rw [d] at z; cases z⟩
 keep:=fun i h h' st k=>⟨st.1,st.2.at fun o e=>k it (by simp) o e⟩
 item:=by
  intro X hP hw hK hc i pins s σ H E I hf st hg
  subst hP hw hK
  obtain ⟨hlt,xs,hq,hn⟩:=hg
  obtain ⟨its,rv,p,hz⟩:=I.list hq
  have hl:=rv.length
  obtain ⟨x,hx⟩:∃ x,xs[n - 1 - i]?=some x:=⟨_,List.getElem?_eq_getElem (by omega)⟩
  obtain ⟨u,hu,ru⟩:=rv.get hx
  obtain ⟨f0,f1,f2,f3,f4,f5⟩:=hf it (by simp)
  have e1:(n:Int) - 1 - (i:Int)=((n - 1 - i:Nat):Int):=by omega
  have st2:=st.2
  rw [e1] at st2
  refine wpAny_pyNext_rev_item st2 p.isList (x:=u) (by simpa using hu) fun h' st' sb=>?_
  have e2:((n - 1 - i:Nat):Int) - 1=(n:Int) - 1 - ((i + 1:Nat):Int):=by omega
  rw [e2] at st'
  have I1:Inv X pins σ H { s with heap:=h' }:=I.turned (t':=s.toks) (fun b o hb e=>(sb.2 b hb).trans e) f0 f1 f3 f4 f5
  obtain ⟨o,e,c,d⟩:=id st'
  exact ⟨u,rfl,a4o (s:={ s with heap:=h' }) e c d (by decide) ⟨x,H,I1,ru,⟨rfl,fun ys hy=>by rw [I.a2u hy hq]; exact hx⟩,⟨hlt,st'⟩,fun b hb=>(hf b hb).1⟩⟩
 done:=by
  intro X hP hw hK hc i pins s σ H E I hf st hg
  subst hP hw hK
  obtain ⟨hle,xs,hq,hn⟩:=hg
  obtain ⟨f0,f1,f2,f3,f4,f5⟩:=hf it (by simp)
  have st2:=st.2
  rw [show (n:Int) - 1 - (i:Int)=-1 by have:=st.1; omega] at st2
  exact wpAny_pyNext_rev_end (I.ok.hd hc) st2 fun h' he'=>⟨rfl,I.turned (t':=s.toks) (fun b o hb e=>he' b o hb e) f0 f1 f3 f4 f5⟩
 self:=fun _ _ _ _ _ st h=>wpAny_pyIter_revIter st.2 h
section
variable {X:Cx}{tg e:Expr}{t:TA}{p pos:Pos}
theorem b5R {K:PySem.W.Frag}(hK:X.K=K)(hg:Gl X "reversed") (hm:X.mg "reversed"=none) (ha:PA X [e] t) (he:starEach [e] X.env=(false,eval e X.env)::starEach [] X.env) (hpl:(backTo pos (starEach [] X.env)).any (·.1)=false):
  PI X tg (.Call (.Name "reversed" p) [e] [] pos) (fun σ H R=>t σ H fun vs H1=>∃ a xs,vs=[.ref a]∧L8 K H1 a xs∧R (Itv K a xs.length) H1):=by
 subst hK
 intro pins s σ H R I h
 refine wpAny_Call_Name_kw (X5 I hg hm (u:=.type "reversed") (by decide +kernel) ?_ (by decide) (by decide))
 refine PyProof.Rows.callWith_type1 (L7 (ha pos pins s σ H _ I h) fun us s1 ⟨vs,H1,I1,r1,a,xs,ev,hq,q⟩=>?_) he hpl
 subst ev
 obtain ⟨u,rfl,ru⟩:=vals1 r1
 cases ru
 obtain ⟨its,rv,pl,hz⟩:=I1.list hq
 have hl:=rv.length
 refine call_reversed_list pl.isList ?_
 have hit:(s1.heap.push (revObj a ((its.toArray.size:Int) - 1))).IsRevIter s1.heap.objs.size a ((xs.length:Int) - 1 - ((0:Nat):Int)):=by
  rw [show (xs.length:Int) - 1 - ((0:Nat):Int)=(its.toArray.size:Int) - 1 by rw [List.size_toArray,hl]; omega]
  exact ⟨_,Heap.get?_push_size _ rfl,rfl,rfl⟩
 refine wpAny_pyIter_revIter hit ?_
 refine ⟨s1.heap.objs.size,[s1.heap.objs.size],_,_,H1,rfl,I1.kept (t':=s1.toks) fun b o e=>Heap.get?_push_of_some _ e,b09 a _ xs.length,⟨Nat.zero_le _,hit⟩,fun b hb=>?_,q⟩
 have e:b=s1.heap.objs.size:=by simpa using hb
 subst e
 exact I1.b1T (Nat.le_refl _) (I1.hok.fresh (Nat.le_refl _))
end
noncomputable def b2g (m:M (List W)):M (List D):=M.bind m fun ws=>match ws with
 | [w]=>M.bind (C7 w) fun d=>fun ρ=>match d with
  | .lst ds=>some (.ok ds.reverse ρ)
  | _=>none
 | _=>fun _=>none
theorem b0e {K:PySem.W.Frag}{G:Hp}{a:Addr}{xs:List V}{ds:List D}(h:L8 K G a xs)(r:v5 K G xs ds):Gives K G (Itv K a xs.length) ds.reverse where
 go:=fun G' H i s1 s2 hi=>by
  rw [List.length_reverse,← r.len] at hi
  exact ⟨hi,xs,(s1.trans s2).seq h,rfl⟩
 stop:=fun G' H s1 s2=>⟨by rw [List.length_reverse,r.len]; exact Nat.le_refl _,xs,(s1.trans s2).seq h,rfl⟩
 yld:=fun G' H H' i x s1 s2 hi y=>by
  obtain ⟨rfl,y⟩:=y
  have ex:=y xs ((s1.trans s2).seq h)
  obtain ⟨d,e2,r2⟩:=r.atV ex
  rw [List.length_reverse] at hi
  exact ⟨rfl,d,by rw [List.getElem?_reverse hi,← r.len]; exact e2,r2.same s1⟩
section
variable {X:Cx}{B:Bs}{tg e:Expr}{mr:M (List W)}{p pos:Pos}
theorem b6h (hm:X.mg "reversed"=none) (ha:PDA X B [e] mr) (hg:Gl X "reversed":=by rfl) (hK:X.K=B.K:=by rfl) (he:starEach [e] X.env=(false,eval e X.env)::starEach [] X.env:=by rfl) (hpl:(backTo pos (starEach [] X.env)).any (·.1)=false:=by rfl):
  PDI X B tg (.Call (.Name "reversed" p) [e] [] pos) (b2g mr):=.mk fun ξ=>(b5R (X:=rz X ξ) (K:=B.K) hK hg hm (ha.ap ξ) he hpl).imp fun σ H Rr t=>by
 obtain ⟨G,ρ,R,t⟩:=a8I t
 refine (TD.bind (rel:=N6) R t).mono fun vs H1 ⟨G1,ρ1,ws,s1,R1,q1,t2⟩=>?_
 match ws,q1,t2 with
 | [],_,⟨r,er,_⟩=>cases er
 | _::_::_,_,⟨r,er,_⟩=>cases er
 | [w],q1,t2=>
  cases q1 with
  | @cons v _ vs _ h t1=>
   cases t1
   obtain ⟨d,ρ2,e2,r2,er,p2⟩:=t2.step fun r h=>W3 h
   obtain ⟨G2,s2,R2,rp⟩:=h.1.C7 R1 e2
   cases d with
   | lst ds=>
    cases er
    cases rp with
    | @lst a xs ds' hs l r=>exact ⟨a,xs,rfl,R2.gH.seq hs,p2 (Itv B.K a xs.length) G2 H1 s2 R2 (b0e hs ⟨l,r⟩)⟩
   | _=>cases er
end
theorem b4X {mr:M (List W)}{ρ ρ1 ρ2:k9}{w:W}{ds:List D}(ha:mr ρ=some (.ok [w] ρ1))(hl:C7 w ρ1=some (.ok (.lst ds) ρ2)):b2g mr ρ=some (.ok ds.reverse ρ2):=by
 unfold b2g
 rw [M.i9 ha]
 show M.bind (C7 w) _ ρ1=_
 rw [M.i9 hl]
end L3
set_option Elab.async false
set_option linter.all false
set_option maxRecDepth 100000
set_option maxHeartbeats 4000000
namespace L3
open PySem PySem.Spec PyProof.Rows L2
open AutoSeq1 (wpAny_loadPart')
theorem b3S:typeLookup (.type "list_reverseiterator") "__len__"=pure none:=by rw [typeLookup_type,builtinLookup_eq_fast]; kernel_rfl
theorem b0W:typeLookup (.type "list_reverseiterator") "__length_hint__"=pure (some (.builtin "list_reverseiterator.__length_hint__")):=by rw [typeLookup_type,builtinLookup_eq_fast]; kernel_rfl
theorem b3c:isSubtype (.type "list_reverseiterator") (.type "list_reverseiterator")=pure true:=by rw [isSubtype_type]; kernel_rfl
section
variable {prog:Program}{w:World}{A:Around}{E:Value→Shared→Prop}{s:Shared}{it l:Addr}{items:Array Value}
theorem b33 {Q:List Value→Shared→Prop}(hh:A.handled=none)(hit:s.heap.IsRevIter it l ((items.size:Int) - 1))(hl:s.heap.IsList l items)(hne:l≠it)(hn:items.size≤sizeLine)
  (hQ:∀ s' acc,Moved [it] (fun a b=>b=a) s s'→ItemsOf (fun i v=>items[items.size - 1 - i]?=some v) acc items.size→Q acc.toList s'):wpAny (model prog w) A (collect (.ref it)) Q E s:=by
 have W:=(Walks.listRev (prog:=prog) (w:=w) (A:=A.in1) hh it l hne items).toS
 have ilt:it < s.heap.objs.size:=let ⟨o,ho,_⟩:=hit; Heap.lt_size ho
 have llt:l < s.heap.objs.size:=let ⟨o,ho,_⟩:=hl; Heap.lt_size ho
 have hSf:s.heap.objs.size∉[it,l]:=by
  intro z
  simp only [List.mem_cons,List.not_mem_nil,or_false] at z
  rcases z with z | z
  ·exact Nat.ne_of_gt ilt z
  ·exact Nat.ne_of_gt llt z
 have e0:(items.size:Int) - 1 - ((0:Nat):Int)=(items.size:Int) - 1:=by omega
 unfold collect
 refine wpAny_bind (wpAny_runValue (codeAny_builtin F.entry_proto_collect (by
  rw [Around.under_plainId F.plain_proto_collect _]
  show wpAny _ A.in1 (newList [] >>= fun l=>again (.builtin "list.__iadd__" ⟨[l,.ref it],[]⟩)) _ _ s
  refine wpAny_bind (wpAny_newObj_type (wpAny_pure ⟨plainId_quiet F.plain_list_iadd _,codeAny_builtin F.entry_list_iadd ?_⟩))
  rw [Around.under_plainId F.plain_list_iadd _]
  have S1:(s.heap.push { cls:=.type "list",data:=.seq ([]:List Value).toArray }).get? s.heap.objs.size=some { cls:=.type "list",data:=.seq ([]:List Value).toArray }:=Heap.get?_push_size _ rfl
  have hit1:(s.heap.push { cls:=.type "list",data:=.seq ([]:List Value).toArray }).IsRevIter it l ((items.size:Int) - 1 - ((0:Nat):Int)):=by rw [e0]; exact hit.at fun o q=>Heap.get?_push_of_some _ q
  have hl1:(s.heap.push { cls:=.type "list",data:=.seq ([]:List Value).toArray }).IsList l items:=hl.at fun o q=>Heap.get?_push_of_some _ q
  have hT:({ s with heap:=s.heap.push { cls:=.type "list",data:=.seq ([]:List Value).toArray } }:Shared).TypeIs (.ref it) "list_reverseiterator":=let ⟨o,ho,hc,_⟩:=hit1; ⟨o,ho,hc⟩
  have n1:Builtin.List.listSameRef (.ref s.heap.objs.size) (.ref it)=false:=by simp [Builtin.List.listSameRef,Nat.ne_of_gt ilt]
  show wpAny _ A.in1 (Builtin.List.listExtendWith (.ref s.heap.objs.size) (.ref it) (.ref s.heap.objs.size)) _ _ _
  unfold Builtin.List.listExtendWith
  refine wpAny_bind (wpAny_typeOf hT ?_)
  rw [if_neg (by rw [n1]; decide)]
  refine wpAny_bind (wpAny_pyIter_revIter hit1 (wpAny_bind (wpAny_holding ?_)))
  unfold Builtin.List.listLengthHint
  refine wpAny_bind (wpAny_specialOf hT b3S ?_)
  show wpAny _ A.in1 (specialOf (Value.ref it) (Str.ofString "__length_hint__") >>= fun _=>_) _ _ _
  refine wpAny_bind (wpAny_specialOf hT b0W ?_)
  generalize hid:("list_reverseiterator.__length_hint__":String)=id0
  wp_delta
  rw [show splitId id0=some ("list_reverseiterator","__length_hint__") from by subst hid; decide +kernel]
  subst hid
  refine wpAny_bind (wpAny_isInstance (b:=true) hT b3c (wpAny_pure ?_))
  rw [if_neg (by decide)]
  refine wpAny_pure ⟨plainId_quiet F.plain_extend_loop _,codeAny_extend_loopS W hn _ hSf _ items.size 0 _ _ _ rfl (Nat.zero_le _) ⟨Nat.zero_le _,hit1,hl1⟩ S1 (ItemsOf.nil _) fun s' acc' c' hm hS' hacc=>?_⟩
  show wpAny _ A (load s.heap.objs.size >>= fun _=>_) _ _ s'
  exact wpAny_bind (wpAny_load hS' (wpAny_pure (hQ s' acc' (Moved.drop_new (o:={ cls:=.type "list",data:=.seq ([]:List Value).toArray }) (tk:=s.toks) hm (Nat.le_refl _)) hacc))))))
theorem a55 {Q:Value→Shared→Prop}(hh:A.handled=none)(hit:s.heap.IsRevIter it l ((items.size:Int) - 1))(hl:s.heap.IsList l items)(hne:l≠it)(hn:items.size≤sizeLine)
  (h:∀ s' acc,Moved [it] (fun a b=>b=a) s s'→ItemsOf (fun i v=>items[items.size - 1 - i]?=some v) acc items.size→Q (.ref s'.heap.objs.size) { s' with heap:=s'.heap.push { cls:=.type "tuple",data:=.seq acc } }):
  codeAny (model prog w) A (.call (.builtin "tuple.__new__") ⟨[.type "tuple",.ref it],[]⟩) (wants Q E) s:=by
 refine codeAny_of_tree (show wpAny _ A.in1 (do checkBuiltinCall "tuple.__new__" ⟨[.type "tuple",.ref it],[]⟩; again (.builtin "tuple.__new__" ⟨[.type "tuple",.ref it],[]⟩)) _ _ s from wpAny_bind (wpAny_of_eq (F.newCall_tuple_1 _) (wpAny_pure ⟨plainId_quiet F.plain_tuple_new _,codeAny_builtin F.entry_tuple_new ?_⟩)))
 rw [Around.under_plainId F.plain_tuple_new _]
 have s1:=sub_tuple_self
 have s2:=init_tuple_lookup
 have s3:=madeHere_tuple
 have hT:s.TypeIs (.ref it) "list_reverseiterator":=hit.typeIs
 have hh1:A.in1.handled=none:=hh
 wp_walk using wpAny_typeOf hT,b33 (A:=A.in1) hh1 hit hl hne hn
 intro s' acc hm hacc
 show wpAny _ _ (Builtin.Tuple.tupleExact acc.toList.toArray >>= fun v=>ret v) _ _ _
 unfold Builtin.Tuple.tupleExact
 have e:acc.toList.toArray=acc:=by simp
 rw [e]
 exact wpAny_bind (wpAny_newObj_type (wpAny_pure (h s' acc hm hacc)) (by show acc.size≤sizeLine; rw [hacc.1]; exact hn))
theorem a56 {Q:Value→Shared→Prop}(hh:A.handled=none)(hit:s.heap.IsRevIter it l ((items.size:Int) - 1))(hl:s.heap.IsList l items)(hne:l≠it)(hn:items.size≤sizeLine)
  (h:∀ s' acc,Moved [it] (fun a b=>b=a) s s'→ItemsOf (fun i v=>items[items.size - 1 - i]?=some v) acc items.size→Q (.ref s'.heap.objs.size) { s' with heap:=s'.heap.push { cls:=.type "tuple",data:=.seq acc } }):
  wpAny (model prog w) A (call (.type "tuple") [.ref it]) Q E s:=by
 refine callType_codes (Q₁:=fun obj s₁=>s₁.TypeIs obj "tuple"∧Q obj s₁) F.called_tuple (F.typeCall_tuple_1 _) F.entry_object_init (a55 (A:=A.in1) hh hit hl hne hn fun s' acc hm hacc=>⟨⟨_,Heap.get?_push_size _ rfl,rfl⟩,h s' acc hm hacc⟩) fun obj s₁ h₁=>?_
 exact ⟨h₁.1,F.args_object_init_2 obj _,object_init_meets F.called_tuple.init.lookup F.called_tuple.made (by decide) prog w A.in1 _ s₁ ⟨h₁.1,rfl,h₁.2⟩⟩
end
theorem b1C {xs:List V}{its:List Value}{acc:Array Value}(rv:Vals xs its)(h:ItemsOf (fun i v=>its.toArray[its.toArray.size - 1 - i]?=some v) acc its.toArray.size):acc.toList=its.reverse:=by
 apply List.ext_getElem?
 intro j
 have hs:acc.size=its.length:=by rw [h.1,List.size_toArray]
 by_cases hj:j < its.length
 ·have ha:acc[j]?=some (acc[j]'(by omega)):=Array.getElem?_eq_getElem (by omega)
  have q:=h.2 j _ ha
  rw [List.size_toArray] at q
  rw [Array.getElem?_toList,ha,List.getElem?_reverse hj]
  rw [List.getElem?_toArray] at q
  exact q.symm
 ·rw [List.getElem?_eq_none (by rw [Array.length_toList]; omega),List.getElem?_eq_none (by rw [List.length_reverse]; omega)]
theorem a77:∀ {xs:List V} {us:List Value},Vals xs us→Vals xs.reverse us.reverse
 | _,_,.nil=>.nil
 | _,_,.cons r rs=>by
  rw [List.reverse_cons,List.reverse_cons]
  exact (a77 rs).append (.cons r .nil)
section
variable {X:Cx}{e:Expr}{t:TA}{p pos p2 pos2:Pos}
noncomputable def trR (K:PySem.W.Frag):List V→Hp→VK→Prop:=fun vs H Q=>∃ a xs,vs=[.ref a]∧L8 K H a xs∧∀ l,H l=none→Q (.ref l) (upd H l (.tup xs.reverse))
theorem a92 {K:PySem.W.Frag}(hK:X.K=K)(hc:X.calm=true)(hg1:Gl X "tuple") (hm1:X.mg "tuple"=none) (hg2:Gl X "reversed") (hm2:X.mg "reversed"=none) (ha:PA X [e] t)
  (he1:starEach [Expr.Call (.Name "reversed" p2) [e] [] pos2] X.env=(false,eval (Expr.Call (.Name "reversed" p2) [e] [] pos2) X.env)::starEach [] X.env) (hpl1:(backTo pos (starEach [] X.env)).any (·.1)=false)
  (he2:starEach [e] X.env=(false,eval e X.env)::starEach [] X.env) (hpl2:(backTo pos2 (starEach [] X.env)).any (·.1)=false):
  PE X (.Call (.Name "tuple" p) [.Call (.Name "reversed" p2) [e] [] pos2] [] pos) (tCB (trR K) t):=by
 subst hK
 intro pins s σ H Q I h
 refine wpAny_Call_Name_kw (X5 I hg1 hm1 PyProof.Rows.boot_tuple ?_ (by decide) (by decide))
 refine PyProof.Rows.callWith_type1 ?_ he1 hpl1
 rw [he1]
 show wpAny _ _ (spliced ((false,eval (Expr.Call (.Name "reversed" p2) [e] [] pos2) X.env)::backTo pos (starEach [] X.env))) _ _ s
 refine Calls.spliced_cons (wpAny_Call_Name_kw (X5 I hg2 hm2 (u:=.type "reversed") (by decide +kernel) ?_ (by decide) (by decide)))
 refine PyProof.Rows.callWith_type1 (L7 (ha pos2 pins s σ H _ I h) fun us s1 ⟨vs,H1,I1,r1,a,xs,ev,hq,q⟩=>?_) he2 hpl2
 subst ev
 obtain ⟨u,rfl,ru⟩:=vals1 r1
 cases ru
 obtain ⟨its,rv,pl,hz⟩:=I1.list hq
 have hl:=rv.length
 have hlt:a < s1.heap.objs.size:=let ⟨o,ho,_⟩:=pl.isList; Heap.lt_size ho
 refine call_reversed_list pl.isList (Calls.spliced_nil ?_)
 have hit:(s1.heap.push (revObj a ((its.toArray.size:Int) - 1))).IsRevIter s1.heap.objs.size a ((its.toArray.size:Int) - 1):=⟨_,Heap.get?_push_size _ rfl,rfl,rfl⟩
 have hl2:(s1.heap.push (revObj a ((its.toArray.size:Int) - 1))).IsList a its.toArray:=let ⟨o,ho,r⟩:=pl.isList; ⟨o,Heap.get?_push_of_some _ ho,r⟩
 refine a56 (I1.ok.hd hc) hit hl2 (Nat.ne_of_lt hlt) (by rw [List.size_toArray]; omega) fun s' acc hm hacc=>?_
 obtain ⟨h',g',d',tk',os'⟩:=s'
 have e1:g'=s1.gens:=hm.gens
 have e2:d'=s1.drawn:=hm.drawn
 have e3:os'=s1.os:=hm.os
 subst e1 e2 e3
 have kp:∀ b o,s1.heap.get? b=some o→h'.get? b=some o:=fun b o z=>hm.heap b o (fun m=>Nat.ne_of_lt (Heap.lt_size z) (List.mem_singleton.mp m)) (Heap.get?_push_of_some _ z)
 have I2:Inv X pins σ H1 { s1 with heap:=h',toks:=tk' }:=I1.kept kp
 have ea:=b1C rv hacc
 have eo:(Data.seq acc:Data)=.seq (its.reverse).toArray:=by rw [← ea]
 have I3:Inv X pins σ (upd H1 h'.objs.size (.tup xs.reverse)) { s1 with heap:=h'.push { cls:=.type "tuple",data:=.seq acc },toks:=tk' }:=by
  rw [eo]
  exact I2.laid (t':=tk') (fun b o e=>Heap.get?_push_of_some _ e) (Nat.le_refl _) (show F3 X.prog X.w _ _ _ (.tup xs.reverse) from ⟨by rw [List.length_reverse]; exact hz,its.reverse,a77 rv,IsTup.new _ _⟩)
 exact ⟨.ref h'.objs.size,_,I3,rfl,q _ (I2.hok.fresh (Nat.le_refl _))⟩
end
theorem a7o {K:PySem.W.Frag}{G:Hp}:∀ {xs:List V} {ds:List D},v5 K G xs ds→v5 K G xs.reverse ds.reverse
 | [],[],_=>v5.nil
 | [],_::_,r=>by have:=r.len; simp at this
 | _::_,[],r=>by have:=r.len; simp at this
 | x::xs,d::ds,r=>by
  rw [List.reverse_cons,List.reverse_cons]
  exact (a7o r.tail).append (v5.one r.head)
noncomputable def a3O:List D→Option W
 | [.lst ds]=>some (.val (.tup ds.reverse))
 | _=>none
section
variable {X:Cx}{B:Bs}{e:Expr}{mr:M (List W)}{p pos p2 pos2:Pos}
theorem a7c:a2U B (trR B.K) a3O:=by
 intro G H σ ρ xs ds w Q R h ev pp
 match ds,ev with
 | [.lst ds],ev=>
  cases ev
  obtain ⟨x,rfl,hx⟩:=I9 h
  obtain ⟨q,ys,rfl,h1,r1⟩:=hx.lst R.gH
  refine ⟨q,ys,rfl,h1,fun l hl=>?_⟩
  obtain ⟨G',s',R',w'⟩:=R.a58 hl (a7o r1)
  exact pp _ G' _ s' R' w'
theorem b0X (hc:X.calm=true)(hm1:X.mg "tuple"=none) (hm2:X.mg "reversed"=none) (ha:PDA X B [e] mr) (hg1:Gl X "tuple":=by rfl) (hg2:Gl X "reversed":=by rfl) (hK:X.K=B.K:=by rfl)
  (he1:starEach [Expr.Call (.Name "reversed" p2) [e] [] pos2] X.env=(false,eval (Expr.Call (.Name "reversed" p2) [e] [] pos2) X.env)::starEach [] X.env:=by rfl) (hpl1:(backTo pos (starEach [] X.env)).any (·.1)=false:=by rfl)
  (he2:starEach [e] X.env=(false,eval e X.env)::starEach [] X.env:=by rfl) (hpl2:(backTo pos2 (starEach [] X.env)).any (·.1)=false:=by rfl):
  PD X B (.Call (.Name "tuple" p) [.Call (.Name "reversed" p2) [e] [] pos2] [] pos) (B7 a3O mr):=.mk fun ξ=>
 (a92 (X:=rz X ξ) (K:=B.K) hK hc hg1 hm1 hg2 hm2 (ha.ap ξ) he1 hpl1 he2 hpl2).imp fun _ _ _ t=>a9q a7c t
end
end L3
set_option Elab.async false
set_option linter.all false
set_option maxRecDepth 100000
set_option maxHeartbeats 4000000
namespace L3
open PySem PySem.Spec PyProof.Rows L2
noncomputable def b3L:V→List V→Hp→VK→Prop:=fun x vs H Q=>∃ a b kvs more,x=.ref a∧vs=[.ref b]∧a≠b∧H a=some (.dK kvs)∧Rd H b (.dK more)∧kvs.length + more.length≤sizeLine∧Q .A3 (upd H a (.dK (a2J kvs more)))
theorem b0d {X:Cx}:MtM X "dict.update" b3L:=by
 intro pins s σ H x vs v us Q I rx rv h
 obtain ⟨a,b,kvs,more,rfl,rfl,hab,hH,hB,hz,q⟩:=h
 cases rx
 obtain ⟨u,rfl,ru⟩:=rv.one
 cases ru
 obtain ⟨z,hd,vs,rel,dd⟩:=b4A I.hok hH
 obtain ⟨z2,hd2,vs2,rel2,dd2⟩:=O9 I.hok hB
 have l1:=rel.length
 have l2:=rel2.length
 have hl:(a2J kvs more).length≤sizeLine:=by
  have e:=(a2S rel2 rel).length
  have e2:=merged_length_le vs vs2
  omega
 refine call_meetsIn PySem.F.slot_dict_update dd.typeIs PySem.F.entry_dict_update (PySem.F.args_dict_update_2 _ _) (meets_dict_update (z5 X.prog X.w) a b hab hd2)
  ⟨vs,vs2,dd,dd2,by omega,fun h' dd' _ hs=>?_⟩
 have he:∃ q,h'.get? a=some q:=let ⟨q,_,_,hq,_⟩:=dd'; ⟨q,hq⟩
 exact ⟨.A3,_,a6A I (by rw [hH]; exact True.intro) hs he (a6H hl hd (a2S rel2 rel) dd'),rfl,q⟩
noncomputable def a13 (i:Nat)(d:D):M W:=fun ρ=>match ρ[i]?,d with
 | some (some (.ow l (.dct es))),.dct ps=>V8 (small (es.length + ps.length)) (some (.ok (.val .A3) (ρ.set i (some (.ow l (.dct (a1m es ps)))))))
 | _,_=>none
noncomputable def b1I (i:Nat):M Unit:=fun ρ=>match ρ[i]? with
 | some (some (.ow _ (.dct _)))=>some (.ok () ρ)
 | _=>none
theorem a9z {i:Nat}{ρ:k9}{r:R' Unit}(h:b1I i ρ=some r):r=.ok () ρ∧∃ l es,ρ[i]?=some (some (.ow l (.dct es))):=by
 unfold b1I at h
 split at h
 ·rename_i l es e
  cases h
  exact ⟨rfl,l,es,e⟩
 ·cases h
noncomputable def a3G (i:Nat)(m:M (List W)):M W:=M.bind (c9 i) fun x=>M.bind (b1I i) fun _=>M.bind m fun ws=>match ws with
 | [w]=>M.bind (C7 w) (a13 i)
 | _=>fun _=>none
section
variable {X:Cx}{B:Bs}{o e:Expr}{mr:M (List W)}{apos cpos opos:Pos}{x:Str}
theorem b2h (i:Nat)(ho:PD X B o (c9 i))(ha:PDA X B [e] mr)
  (hbase:attributeBase o "update" X.env (eval o X.env)=eval o X.env:=by rfl)
  (hfew:((backTo cpos (starEach [e] X.env)).all (fun x=>!x.1) && (backToKw cpos (keywordEach [] X.env)).all (fun x=>x.1.isSome)
   && decide (([e]:List Expr).length + ([]:List Keyword).length + (if ([]:List Keyword).isEmpty then 0 else 1) < 30))=true:=by rfl)
  (hline:(apos.endLine == cpos.line)=true:=by rfl) (hs:starEach [e] X.env=(false,eval e X.env)::starEach [] X.env:=by rfl) (hplain:(backTo cpos (starEach [] X.env)).any (·.1)=false:=by rfl) (hK:X.K=B.K:=by rfl):
  PD X B (.Call (.Attribute o "update" apos) [e] [] cpos) (a3G i mr):=.mk fun ξ=>
 (a9J (X:=rz X ξ) PySem.F.plainAttrs_dict PySem.F.slot_dict_update PySem.F.type_dict_update b0d (ho.ap ξ) (ha.ap ξ) hbase hfew hline hs hplain).imp fun σ H Q t=>by
  obtain ⟨G,ρ,R,t⟩:=t
  refine (TD.b1j (rel:=D6) R t).mono fun x H1 ⟨G1,ρ1,w,er,s1,R1,q1,t2⟩=>?_
  obtain ⟨rfl,rfl⟩:=a2p er
  have hv:σ[i]?=some (some x):=q1
  obtain ⟨u,ρ2,e2,t3⟩:=t2.step fun r h=>⟨(),_,(a9z h).1⟩
  obtain ⟨e3,l0,es0,h0⟩:=a9z e2
  cases e3
  obtain ⟨p0,rfl,g0,kvs0,hx0,_⟩:=slot_of R1 h0 hv
  refine ⟨.inr (.inr (.inl ⟨rfl,.inl ⟨kvs0,hx0⟩⟩)),?_⟩
  refine (TD.bind (rel:=N6) R1 t3).mono fun vs H2 ⟨G2,ρ2,ws,s2,R2,q2,t4⟩=>?_
  match ws,q2,t4 with
  | [],_,⟨r,er,_⟩=>cases er
  | _::_::_,_,⟨r,er,_⟩=>cases er
  | [w],q2,t4=>
   cases q2 with
   | @cons v _ vs _ h t=>
    cases t
    obtain ⟨dv,ρ3,e4,r,er,p⟩:=t4.step fun r h=>W3 h
    obtain ⟨G3,s3,R3,rv⟩:=h.1.C7 R2 e4
    unfold a13 at er
    split at er
    ·rename_i l es ps hi
     obtain ⟨hz,er⟩:=l8 er
     cases er
     obtain ⟨pp,ep,g,kvs,hx,rl⟩:=slot_of R3 hi hv
     cases ep
     obtain ⟨b,more,rfl,hb,rb⟩:=K9.dct R3.gH (.inl rv)
     have hab:p0≠b:=by
      rintro rfl
      obtain ⟨o,ho⟩:∃ o,G3 p0=some o:=by
       cases rv with
       | dct hg _=>rcases hg with hg | ⟨_,hg⟩ <;> exact ⟨_,hg⟩
      rw [g] at ho
      cases ho
     refine ⟨p0,b,kvs,more,rfl,rfl,hab,hx,hb,?_,?_⟩
     ·have e1:=rl.len
      have e2:=rb.len
      rw [e1,e2,sizeLine_eq]; unfold small at hz; omega
     ·exact p .A3 G3 _ s3 (R3.write hi hv ⟨a2J kvs more,p9,a6x rb rl⟩) .A3
    ·cases er
variable {ρ ρ1 ρ2 ρ3:k9}{w:W}{es es0 ps:List (Key×D)}{i:Nat}{l:Bool}
theorem b0t (h0:ρ[i]?=some (some (.ow l (.dct es0))))(ha:mr ρ=some (.ok [w] ρ1))(hl:C7 w ρ1=some (.ok (.dct ps) ρ2))(h1:ρ2[i]?=some (some (.ow l (.dct es))))(hz:small (es.length + ps.length))
  (hs:ρ2.set i (some (.ow l (.dct (a1m es ps))))=ρ3):L5 (a3G i mr) ρ=some (.nx ρ3):=by
 subst hs
 refine a3K (w:=.val .A3) ?_
 unfold a3G
 have hc:b1I i ρ=some (.ok () ρ):=by
  unfold b1I
  rw [h0]
 rw [M.i9 (d8 h0),M.i9 hc,M.i9 ha]
 show M.bind (C7 w) (a13 i) ρ1=_
 rw [M.i9 hl]
 unfold a13
 rw [h1]
 exact r8 hz
end
end L3
set_option Elab.async false
set_option linter.all false
set_option maxRecDepth 100000
set_option maxHeartbeats 4000000
namespace K20
open PySem L2 L3
noncomputable def top (i:Nat):Stmt:=PySem.Challenge.pw_clausekeep_k20_whole_solved.main.body.getD i (.Pass ⟨0,0,0,0⟩)
noncomputable abbrev a1P:Stmt:=top 1
theorem a3a:A0 ["clauses"] ["clauses"] (l9 a1P):=⟨rfl,rfl,rfl,by decide +kernel,rfl,by decide +kernel,by decide +kernel⟩
noncomputable abbrev a0M:Stmt:=top 2
theorem a2d:A0 ["literals"] ["literals"] (l9 a0M):=⟨rfl,rfl,rfl,by decide +kernel,rfl,by decide +kernel,by decide +kernel⟩
noncomputable abbrev a4g:Stmt:=top 3
theorem a5d:A0 ["truths","clause","found","literal"] ["truths","clause"] (l9 a4g):=⟨rfl,rfl,rfl,by decide +kernel,rfl,by decide +kernel,by decide +kernel⟩
noncomputable abbrev a4s:Stmt:=top 5
theorem a5O:A0 ["variables","clauses","table","steps","chosen","truths","reasons","conflict","free","step","clause"] ["variables","clauses"] (l9 a4s):=⟨rfl,rfl,rfl,by decide +kernel,rfl,by decide +kernel,by decide +kernel⟩
noncomputable abbrev a4G:Stmt:=top 6
theorem a5p:A0 ["table","truths","reasons","grown","number","literals"] ["table","truths","reasons"] (l9 a4G):=⟨rfl,rfl,rfl,by decide +kernel,rfl,by decide +kernel,by decide +kernel⟩
noncomputable abbrev a2F:Stmt:=top 7
theorem a4L:A0 ["table","chosen","truths","reasons","conflict","needed","hints","variable","clause"] ["table","chosen","truths","reasons","conflict"] (l9 a2F):=⟨rfl,rfl,rfl,by decide +kernel,rfl,by decide +kernel,by decide +kernel⟩
noncomputable abbrev a1M:Stmt:=top 9
theorem a29:A0 ["_law_script","_law_k"] ["_law_script","_law_k"] (l9 a1M):=⟨rfl,rfl,rfl,by decide +kernel,rfl,by decide +kernel,by decide +kernel⟩
noncomputable abbrev a2O:Stmt:=top 10
theorem a4y:A0 ["_law_script","_law_k","_law_number"] ["_law_script","_law_k"] (l9 a2O):=⟨rfl,rfl,rfl,by decide +kernel,rfl,by decide +kernel,by decide +kernel⟩
noncomputable abbrev a0I:Stmt:=top 11
theorem a17:A0 ["_law_found"] ["_law_found"] (l9 a0I):=⟨rfl,rfl,rfl,by decide +kernel,rfl,by decide +kernel,by decide +kernel⟩
noncomputable abbrev a0o:Stmt:=top 13
theorem a1x:A0 ["_law_script","_law_base","_law_variables","_law_most","_law_number","_law_size","_law_found","_law_k","_law_part"] ["_law_script","_law_base","_law_variables","_law_most"] (l9 a0o):=⟨rfl,rfl,rfl,by decide +kernel,rfl,by decide +kernel,by decide +kernel⟩
noncomputable abbrev Y3:Stmt:=top 14
theorem a00:A0 ["_law_script","_law_base","_law_variables","_law_many"] ["_law_script","_law_base"] (l9 Y3):=⟨rfl,rfl,rfl,by decide +kernel,rfl,by decide +kernel,by decide +kernel⟩
noncomputable abbrev a0d:Stmt:=top 15
theorem a1v:A0 ["_law_variables","_law_clauses","_law_found","_law_number","_law_model","_law_k"] ["_law_variables","_law_clauses"] (l9 a0d):=⟨rfl,rfl,rfl,by decide +kernel,rfl,by decide +kernel,by decide +kernel⟩
noncomputable abbrev a1L:Stmt:=top 16
theorem a3b:A0 ["_law_true_ones","_law_clause_here","_law_found","_law_literal"] ["_law_true_ones","_law_clause_here"] (l9 a1L):=⟨rfl,rfl,rfl,by decide +kernel,rfl,by decide +kernel,by decide +kernel⟩
noncomputable abbrev a1Q:Stmt:=top 18
theorem a3d:A0 ["_law_table_here","_law_true_ones","_law_hints_here","_law_used","_law_hint","_law_left"] ["_law_table_here","_law_true_ones","_law_hints_here"] (l9 a1Q):=⟨rfl,rfl,rfl,by decide +kernel,rfl,by decide +kernel,by decide +kernel⟩
noncomputable abbrev X8:Stmt:=top 20
theorem a0T:A0 ["_law_table_here","_law_clause_here","_law_hints_here","_law_true_ones","_law_end","_law_groups","_law_hint","_law_wanted"] ["_law_table_here","_law_clause_here","_law_hints_here"] (l9 X8):=⟨rfl,rfl,rfl,by decide +kernel,rfl,by decide +kernel,by decide +kernel⟩
noncomputable abbrev a0l:Stmt:=top 24
theorem a1q:A0 ["_law_formula_here","_law_steps_here","_law_table_here","_law_k","_law_top","_law_step","_law_one","_law_good"] ["_law_formula_here","_law_steps_here"] (l9 a0l):=⟨rfl,rfl,rfl,by decide +kernel,rfl,by decide +kernel,by decide +kernel⟩
noncomputable abbrev a1E:Stmt:=top 26
theorem a3g:A0 ["_law_script","_law_base","_law_clauses","_law_number","_law_one","_law_at","_law_k","_law_variables","_law_many"] ["_law_script","_law_base"] (l9 a1E):=⟨rfl,rfl,rfl,by decide +kernel,rfl,by decide +kernel,by decide +kernel⟩
noncomputable abbrev b1G:Stmt:=top 27
theorem b2L:A0 ["_law_script","_law_formula_here","_law_handed","_law_found","_law_models_here","_law_step"] ["_law_script"] (l9 b1G):=⟨rfl,rfl,rfl,by decide +kernel,rfl,by decide +kernel,by decide +kernel⟩
noncomputable def a7z:D→Bool
 | .int _=>true
 | _=>false
noncomputable def b65:D→Bool
 | .ty _=>false
 | _=>true
noncomputable def W8:List D→Option FR
 | [.lst ds,.int k]=>(intsOf ds).map fun ns=>.ret (.val (.int (a2m ns k))) []
 | _=>none
noncomputable def l7:List D→Option FR
 | [.lst ds,.int k]=>(intsOf ds).map fun ns=>.ret (.val (.int (A6 ns k))) []
 | _=>none
noncomputable def D5:List D→Option FR
 | [d]=>V8 (b65 d=true) (some (.ret (.val (.bl (a7z d))) []))
 | _=>none
noncomputable def a7O (p v:Int):Int:=(1 + p / 2 % v) * (1 - 2 * (p % 2))
noncomputable def sizeV (n most:Int):Int:=if n % 6=0 then 1 else if n % 6=1 then 2 else if n % 6=2 then 3 else if n % 6=3 then 2 else if n % 6=4 then 3 else n / 6 % (most + 1)
noncomputable def A7 (ns:List Int)(b v most:Int):List Int:=(List.range (sizeV (A6 ns b) most).toNat).map fun (k:Nat)=>a7O (A6 ns (b + 1 + (k:Int))) v
noncomputable def C5:List D→Option FR
 | [.lst ds,.int b,.int v,.int most]=>(intsOf ds).bind fun ns=>V8 (0 < v∧v < 1000∧0≤most∧most < 1000) (some (.ret (.val (.tup ((A7 ns b v most).map D.int))) []))
 | _=>none
noncomputable def pairsOf:List (Key×D)→Option (List (Int×Int))
 | []=>some []
 | (.inl k,.int v)::r=>(pairsOf r).map ((k,v)::·)
 | _=>none
noncomputable def j8 (ts:List (Int×Int)):List (Key×D):=ts.map fun kv=>(.inl kv.1,.int kv.2)
noncomputable def j9 (ts:List (Int×Int))(k:Int):Option Int:=(ts.find? fun kv=>decide (kv.1=k)).map (·.2)
noncomputable def V6 (acc:List Int)(l:Int):List Int:=if l∈acc then acc else acc++[l]
noncomputable def Z4 (ts:List (Int×Int))(acc:List Int)(l:Int):List Int:=if j9 ts l.natAbs=some (-l) then acc else V6 acc l
noncomputable def A4 (ts:List (Int×Int))(ls:List Int):List Int:=ls.foldl (Z4 ts) []
noncomputable def Z2:List D→Option FR
 | [.dct es,.tup ds]=>(pairsOf es).bind fun ts=>(intsOf ds).bind fun ls=>V8 (ls.length≤1000) (some (.ret (.own (.lst ((A4 ts ls).map D.int))) []))
 | _=>none
noncomputable def j7 (cs:List (List Int)):List D:=cs.map fun c=>D.tup (c.map D.int)
noncomputable def x6 (ns:List Int)(b:Int):Int×List (List Int):=(1 + A6 ns b % 4,(List.range (A6 ns (b + 1) % 9).toNat).map fun (k:Nat)=>A7 ns (b + 2 + 5 * (k:Int)) (1 + A6 ns b % 4) 4)
noncomputable def K7:List D→Option FR
 | [.lst ds,.int b]=>(intsOf ds).map fun ns=>.ret (.val (.tup [.int (x6 ns b).1,.lst (j7 (x6 ns b).2)])) []
 | _=>none
noncomputable def pwV (j:Int):Int:=if j=0 then 1 else if j=1 then 2 else if j=2 then 4 else if j=3 then 8 else 16
noncomputable def a6R (v:Int):Nat:=if v=1 then 2 else if v=2 then 4 else if v=3 then 8 else 16
noncomputable def a4Q (v n:Int)(k:Nat):Int:=((k:Int) + 1) * (2 * (n / pwV (v - 1 - k) % 2) - 1)
noncomputable def Q0 (v n:Int):List Int:=(List.range v.toNat).map (a4Q v n)
noncomputable def a2a (c M:List Int):Bool:=c.any fun l=>decide (l∈M)
noncomputable def b0J (cs:List (List Int))(M:List Int):Bool:=cs.all fun c=>a2a c M
noncomputable def x8 (v:Int)(cs:List (List Int)):List (List Int):=((List.range (a6R v)).map fun (n:Nat)=>Q0 v (n:Int)).filter (b0J cs)
noncomputable def B4:List D→Option (List (List Int))
 | []=>some []
 | .tup ds::r=>(intsOf ds).bind fun c=>(B4 r).map (c::·)
 | _=>none
noncomputable def C3:List D→Option FR
 | [.int v,.lst ds]=>(B4 ds).bind fun cs=>V8 (0 < v∧v≤4∧cs.length≤1000∧(cs.all fun c=>decide (c.length≤1000))=true) (some (.ret (.own (.lst (j7 (x8 v cs)))) []))
 | _=>none
noncomputable abbrev F1:=List (Int×Int)
noncomputable def F6 (ts:F1)(k v:Int):F1:=if (ts.any fun kv=>decide (kv.1=k))=true then ts.map fun kv=>if kv.1=k then (kv.1,v) else kv else ts++[(k,v)]
noncomputable def v9 (x:Int):Int:=(x.natAbs:Int)
noncomputable def F7 (ls:List Int):F1:=ls.foldl (fun ts l=>F6 ts (v9 l) l) []
noncomputable def O5:List D→Option FR
 | [.lst ds]=>(intsOf ds).bind fun ls=>V8 (ls.length≤1000) (some (.ret (.own (.dct (j8 (F7 ls)))) []))
 | _=>none
noncomputable abbrev Tab:=List (Int×List Int)
noncomputable def u7 (T:Tab):List (Key×D):=T.map fun kv=>(.inl kv.1,.tup (kv.2.map D.int))
noncomputable def tabOf:List (Key×D)→Option Tab
 | []=>some []
 | (.inl k,.tup ds)::r=>(intsOf ds).bind fun c=>(tabOf r).map ((k,c)::·)
 | _=>none
noncomputable def B5 (T:Tab)(k:Int):Option (List Int):=(T.find? fun kv=>decide (kv.1=k)).map (·.2)
noncomputable def okT (T:Tab):Bool:=decide (T.length≤60) && T.all fun kv=>decide (kv.2.length≤1000)
noncomputable def w5:Int→List (List Int)→Tab
 | _,[]=>[]
 | k,c::cs=>(k,c)::w5 (k + 1) cs
noncomputable def Q9:List D→Option FR
 | [.lst ds]=>(B4 ds).bind fun cs=>V8 (cs.length≤1000) (some (.ret (.own (.dct (u7 (w5 1 cs)))) []))
 | _=>none
noncomputable def scan1 (ts rs:F1)(g:Bool)(n:Int):List Int→Option (F1×F1×Bool)
 | []=>none
 | [l]=>if (j9 ts (v9 l)).isSome=true then some (ts,rs,g) else some (F6 ts (v9 l) l,F6 rs (v9 l) n,true)
 | _=>some (ts,rs,g)
noncomputable def J3:F1→F1→Bool→Tab→Option Int×F1×F1×Bool
 | ts,rs,g,[]=>(none,ts,rs,g)
 | ts,rs,g,kv::ns=>match scan1 ts rs g kv.1 (A4 ts kv.2) with
  | none=>(some kv.1,ts,rs,g)
  | some (ts',rs',g')=>J3 ts' rs' g' ns
noncomputable def K4 (T:Tab):Nat→F1→F1→Option (Option Int×F1×F1)
 | 0,_,_=>none
 | n + 1,ts,rs=>match J3 ts rs false T with
  | (some k,ts',rs',_)=>some (some k,ts',rs')
  | (none,ts',rs',false)=>some (none,ts',rs')
  | (none,ts',rs',true)=>K4 T n ts' rs'
noncomputable def a8K:Option Int→D
 | none=>.A3
 | some k=>.int k
noncomputable def U1:List D→Option FR
 | [.dct es,.dct fs,.dct gs]=>(tabOf es).bind fun T=>(pairsOf fs).bind fun ts=>(pairsOf gs).bind fun rs=>V8 (okT T=true∧(T.map (·.1)).Nodup∧ts.length≤1000∧rs.length≤1000) ((K4 T 99 ts rs).map fun r=>.ret (.val (a8K r.1)) [.dct (j8 r.2.1),.dct (j8 r.2.2)])
 | _=>none
noncomputable def T9 (c:List Int):List Int:=(c.map v9).foldl V6 []
noncomputable def N8 (T:Tab)(rs:F1):List Int→List Int→List Int→Option (List Int×List Int)
 | [],hs,nd=>some (hs,nd)
 | x::xs,hs,nd=>if x∈nd∧(j9 rs x).isSome=true then (B5 T ((j9 rs x).getD 0)).bind fun c=>N8 T rs xs (hs++[(j9 rs x).getD 0]) ((T9 c).foldl V6 nd) else N8 T rs xs hs nd
noncomputable def T4 (T:Tab)(ch:List Int)(ts rs:F1)(k:Int):Option (List Int×List Int):=(B5 T k).bind fun c=>(N8 T rs (ts.map (·.1)).reverse [k] (T9 c)).map fun r=>((ch.filter fun l=>decide (v9 l∈r.2)).map (fun l=>-l),r.1.reverse)
noncomputable abbrev W2:=Int×List Int×List Int
noncomputable def n6 (s:W2):D:=.tup [.str [97,100,100],.int s.1,.tup (s.2.1.map D.int),.tup (s.2.2.map D.int)]
noncomputable def V4:List D→Option FR
 | [.dct es,.lst ds,.dct fs,.dct gs,.int k]=>(tabOf es).bind fun T=>(intsOf ds).bind fun ch=>(pairsOf fs).bind fun ts=>(pairsOf gs).bind fun rs=>V8 (okT T=true∧ch.length≤1000∧ts.length≤20∧rs.length≤1000∧(T.all fun kv=>decide (kv.2.length≤100))=true) ((T4 T ch ts rs k).map fun r=>.ret (.val (n6 (((T.length + 1:Nat):Int),r.1,r.2))) [])
 | _=>none
noncomputable def E3 (v:Int)(ts:F1):List Int:=((List.range v.toNat).map fun k=>(1:Int) + ((k:Nat):Int)).filter fun x=>!(j9 ts x).isSome
noncomputable def a4m (v:Int)(ts:F1):List Int:=((List.range v.toNat).map fun k=>(1:Int) + ((k:Nat):Int)).map fun x=>(j9 ts x).getD 0
noncomputable def okS (cs:List (List Int))(st:List W2)(ch:List Int):Bool:=decide (cs.length≤50∧st.length≤50∧ch.length≤20) && cs.all fun c=>decide (c.length≤100)
noncomputable def x9 (v:Int):Nat→List (List Int)→List W2→List Int→Option (Option (List Int)×List W2)
 | 0,_,_,_=>none
 | n + 1,cs,st,ch=>if okS cs st ch=true then match K4 (w5 1 cs) 99 (F7 ch) [] with
  | none=>none
  | some (some k,ts,rs)=>if ts.length≤20∧rs.length≤1000 then match T4 (w5 1 cs) ch ts rs k with
   | none=>none
   | some (c,hs)=>match c.getLast? with
    | none=>some (none,st++[(((cs.length + 1:Nat):Int),c,hs)])
    | some l=>if -l∈ch then x9 v n (cs++[c]) (st++[(((cs.length + 1:Nat):Int),c,hs)]) (ch.takeWhile fun x=>!decide (x=-l)) else none
   else none
  | some (none,ts,rs)=>match E3 v ts with
   | []=>some (some (a4m v ts),[])
   | x::_=>x9 v n cs st (ch++[-x])
  else none
noncomputable def V0:Option (List Int)→D
 | none=>.A3
 | some M=>.tup (M.map D.int)
noncomputable def U3:List D→Option FR
 | [.int v,.lst ds]=>(B4 ds).bind fun cs=>V8 (0≤v∧v≤1000) ((x9 v 99999 cs [] []).map fun r=>.ret (.val (.tup [V0 r.1,.lst (r.2.map n6)])) [])
 | _=>none
noncomputable def a0i (tr acc:List Int)(l:Int):List Int:=if -l∈tr∨l∈acc then acc else acc++[l]
noncomputable def u6 (tr ls:List Int):List Int:=ls.foldl (a0i tr) []
noncomputable def O2 (tr:List Int):List Int→Int ⊕ Int
 | []=>.inl 2
 | [l]=>if l∈tr then .inl 0 else .inr l
 | _=>.inl 0
noncomputable def W7:List D→Option FR
 | [.lst ts,.tup ds]=>(intsOf ts).bind fun tr=>(intsOf ds).bind fun ls=>V8 (ls.length≤1000) (some (.ret (.own (.lst ((u6 tr ls).map D.int))) []))
 | _=>none
noncomputable def D9 (T:Tab):List Int→Int→List Int→Int×Int×List Int
 | tr,u,[]=>(1,u,tr)
 | tr,u,h::hs=>if h < 0 then (1,u,tr) else match B5 T h with
  | none=>(0,u,tr)
  | some c=>match O2 tr (u6 tr c) with
   | .inl z=>(z,u + 1,tr)
   | .inr l=>D9 T (tr++[l]) (u + 1) hs
noncomputable def S2:List D→Option FR
 | [.dct es,.lst ts,.lst ds]=>(tabOf es).bind fun T=>(intsOf ts).bind fun tr=>(intsOf ds).bind fun hs=>V8 (okT T=true∧tr.length + hs.length≤100000) (some (.ret (.val (.tup [.int (D9 T tr 0 hs).1,.int (D9 T tr 0 hs).2.1])) [.lst ((D9 T tr 0 hs).2.2.map D.int)]))
 | _=>none
noncomputable def a4V (T:Tab)(c hs:List Int):Bool:=okT T && decide (c.length≤1000∧hs.length≤1000) && !(c.any fun l=>decide (-l∈c)) && decide ((D9 T (c.map fun l=>-l) 0 hs).1=2)
noncomputable def E9:List D→Option FR
 | [.dct es,.tup cs,.lst ds]=>(tabOf es).bind fun T=>(intsOf cs).bind fun c=>(intsOf ds).bind fun hs=>V8 (a4V T c hs=true) (some (.ret (.val (.bl true)) []))
 | _=>none
noncomputable def a2Q (v:Int):List (List Int)→List W2→Bool
 | _,[]=>false
 | cs,s::st=>decide (s.1=((cs.length + 1:Nat):Int)∧s.2.1.length≤1000∧cs.length≤60) && (s.2.1.all fun l=>decide (v9 l≤v)) && a4V (w5 1 cs) s.2.1 s.2.2 && (s.2.1.isEmpty || a2Q v (cs++[s.2.1]) st)
noncomputable def a7T:D→Option W2
 | .tup [.str [97,100,100],.int n,.tup cs,.tup hs]=>(intsOf cs).bind fun c=>(intsOf hs).map fun h=>(n,c,h)
 | _=>none
noncomputable def a0g:List D→Option (List W2)
 | []=>some []
 | d::ds=>(a7T d).bind fun s=>(a0g ds).map (s::·)
noncomputable def M3:List D→Option FR
 | [.tup [.int v,.lst ds],.lst ss]=>(B4 ds).bind fun cs=>(a0g ss).bind fun st=>V8 (a2Q v cs st=true∧cs.length≤60∧st.length≤1000) (some (.ret (.val (.tup [.int (-1),.bl true])) []))
 | _=>none
section
variable {P:Program}{w:World}{K:PySem.W.Frag}{mg:Str→Option Value}{base:Heap}{f:Addr}{fd:FuncData}
noncomputable abbrev a10:SM:=(l6 (Y5 (C9 (c9 0)) (retS (f7 v7 (c9 0) (f7 F5 (c9 1) (B7 V2 (c6 (c9 0) g8))))) nxS)
 (retS (mC (.int 0))))
theorem a5X (F:Fun K "_law_cell" "_law_cell" a1M f fd) (z_len:mg "len"=none):
  K5 P w K mg base CX0 1 f fd ["_law_script","_law_k"] (M8 K [false,false] (G8 a10 2 [false,false])):=
 have nd:=a29.nd
 R9 (k:=0) F a29 rfl (fun cdv A outer s H E H0 HK G0 L hr=>by
  have hu:=hu8 hr
  exact (j5 (O6 (N2 (dv 0)) (m6 (B0 (A2 hu (dv 0) (P5 (dv 1) (a0Q z_len (d7 (dv 0) i8)))))) F4)
   (m6 (B0 i6))))
noncomputable abbrev a3o:SM:=(l6 (n9 2 (f7 F5 (f7 z8 (n5 [false,false] W8 (c6 (c9 0) (c6 (c9 1) g8))) (f7 R8 (mC (.int 104729)) (f7 z8 (c9 1) (mC (.int 1))))) (mC (.int 4294967291))))
 (l6 (n9 2 (f7 F5 (f7 R8 (c9 2) (mC (.int 48271))) (mC (.int 4294967279))))
 (retS (f7 F5 (f7 z8 (f7 R8 (f7 a3v (c9 2) (mC (.int 64))) (mC (.int 69621))) (c9 2)) (mC (.int 4294967231))))))
theorem a7L (F:Fun K "_law_mix" "_law_mix" a2O f fd)
  (h_law_cell:Has P w K mg base 1 "_law_cell" ["_law_script","_law_k"] (M8 K [false,false] W8)):
  K5 P w K mg base CX0 2 f fd ["_law_script","_law_k"] (M8 K [false,false] (G8 a3o 3 [false,false])):=
 have nd:=a4y.nd
 R9 (k:=1) F a4y rfl (fun cdv A outer s H E H0 HK G0 L hr=>by
  have hu:=hu8 hr
  exact (j5 (w6 (i:=2) (P5 (C2 (z9 h_law_cell (hr.mono (by decide)) (d7 (dv 0) (d7 (dv 1) i8))) (a0y i6 (C2 (dv 1) i6))) i6) nd)
   (j5 (w6 (i:=2) (P5 (a0y (dv 2) i6) i6) nd)
   (m6 (B0 (P5 (C2 (a0y (a7k (dv 2) i6) i6) (dv 2)) i6))))))
noncomputable abbrev a1r:SM:=(retS (a05 (B7 a0f (c6 (c9 0) (c6 (mC (.ty "int")) g8))) (a8X (B7 a0f (c6 (c9 0) (c6 (mC (.ty "bool")) g8))))))
theorem a41 (F:Fun K "_law_whole" "_law_whole" a0I f fd) (z_isinstance:mg "isinstance"=none) (z_int:mg "int"=none) (z_bool:mg "bool"=none):
  K5 P w K mg base CX0 1 f fd ["_law_found"] (M8 K [false] (G8 a1r 1 [false])):=
 have nd:=a17.nd
 R9 (k:=0) F a17 rfl (fun cdv A outer s H E H0 HK G0 L hr=>by
  have hu:=hu8 hr
  exact (m6 (B0 (a8Z (a23 z_isinstance (d7 (dv 0) (d7 (a7Z z_int PyProof.Rows.boot_int) i8))) (a9F (b60 (a23 z_isinstance (d7 (dv 0) (d7 (a7Z z_bool PyProof.Rows.boot_bool) i8)))))))))
noncomputable abbrev a3w:SM:=(l6 (n9 8 (n5 [false,false] l7 (c6 (c9 0) (c6 (f7 z8 (f7 z8 (c9 1) (mC (.int 1))) (c9 7)) g8))))
 (L5 (D4 6 (c6 (f7 R8 (f7 z8 (mC (.int 1)) (f7 F5 (f7 a3v (c9 8) (mC (.int 2))) (c9 2))) (f7 a6j (mC (.int 1)) (f7 R8 (mC (.int 2)) (f7 F5 (c9 8) (mC (.int 2)))))) g8))))
noncomputable abbrev a0L:SM:=(l6 (n9 4 (n5 [false,false] l7 (c6 (c9 0) (c6 (c9 1) g8))))
 (l6 (n9 5 (f7 v7 (P1 (c6 (mC (.int 1)) (c6 (mC (.int 2)) (c6 (mC (.int 3)) (c6 (mC (.int 2)) (c6 (mC (.int 3)) (c6 (f7 F5 (f7 a3v (c9 4) (mC (.int 6))) (f7 z8 (c9 3) (mC (.int 1)))) g8))))))) (f7 F5 (c9 4) (mC (.int 6)))))
 (l6 (n9 6 (P1 g8))
 (l6 (a0n (U0 ints1 (c6 (c9 5) g8)) (E4 7) a3w)
 (retS (B7 a0m (c6 (c9 6) g8)))))))
theorem a37 (F:Fun K "_law_clause" "_law_clause" a0o f fd) (z_range:mg "range"=none) (z_tuple:mg "tuple"=none)
  (h_law_mix:Has P w K mg base 2 "_law_mix" ["_law_script","_law_k"] (M8 K [false,false] l7)):
  K5 P w K mg base CX0 3 f fd ["_law_script","_law_base","_law_variables","_law_most"] (M8 K [false,false,false,false] (G8 a0L 9 [false,false,false,false])):=
 have nd:=a1x.nd
 R9 (k:=2) F a1x rfl (fun cdv A outer s H E H0 HK G0 L hr=>by
  have hu:=hu8 hr
  exact (j5 (w6 (i:=4) (z9 h_law_mix (hr.mono (by decide)) (d7 (dv 0) (d7 (dv 1) i8))) nd)
   (j5 (w6 (i:=5) (A2 hu (T5 (d7 i6 (d7 i6 (d7 i6 (d7 i6 (d7 i6 (d7 (P5 (a7k (dv 4) i6) (C2 (dv 3) i6)) i8))))))) (P5 (dv 4) i6)) nd)
   (j5 (w6 (i:=6) (T5 i8) nd)
   (j5 (Z0 (M5 z_range (d7 (dv 5) i8)) (Q4 (i:=7) nd) (j5 (w6 (i:=8) (z9 h_law_mix (hr.mono (by decide)) (d7 (dv 0) (d7 (C2 (C2 (dv 1) i6) (dv 7)) i8))) nd)
   (m6 (Y4 (S3 6 (dv 6) (d7 (a0y (C2 i6 (P5 (a7k (dv 8) i6) (dv 2))) (a7y i6 (a0y i6 (P5 (dv 8) i6)))) i8))))))
   (m6 (B0 (a1W z_tuple (d7 (dv 6) i8)))))))))
noncomputable abbrev a0q:SM:=(l6 (n9 2 (f7 z8 (mC (.int 1)) (f7 F5 (n5 [false,false] l7 (c6 (c9 0) (c6 (c9 1) g8))) (mC (.int 4)))))
 (l6 (n9 3 (f7 F5 (n5 [false,false] l7 (c6 (c9 0) (c6 (f7 z8 (c9 1) (mC (.int 1))) g8))) (mC (.int 9))))
 (retS (F2 (c6 (c9 2) (c6 (C6 (U0 ints1 (c6 (c9 3) g8)) (E4 0) E6 (n5 [false,false,false,false] C5 (c6 (c9 1) (c6 (f7 z8 (f7 z8 (c9 2) (mC (.int 2))) (f7 R8 (mC (.int 5)) (c9 0))) (c6 (c9 3) (c6 (mC (.int 4)) g8))))) 1 [0,1,2]) g8))))))
theorem a3t (F:Fun K "_law_formula" "_law_formula" Y3 f fd) (z_range:mg "range"=none)
  (h_law_mix:Has P w K mg base 2 "_law_mix" ["_law_script","_law_k"] (M8 K [false,false] l7))
  (h_law_clause:Has P w K mg base 3 "_law_clause" ["_law_script","_law_base","_law_variables","_law_most"] (M8 K [false,false,false,false] C5)):
  K5 P w K mg base CX0 4 f fd ["_law_script","_law_base"] (M8 K [false,false] (G8 a0q 4 [false,false])):=
 have nd:=a00.nd
 R9 (k:=3) F a00 rfl (fun cdv A outer s H E H0 HK G0 L hr=>by
  have hu:=hu8 hr
  exact (j5 (w6 (i:=2) (C2 i6 (P5 (z9 h_law_mix (hr.mono (by decide)) (d7 (dv 0) (d7 (dv 1) i8))) i6)) nd)
   (j5 (w6 (i:=3) (P5 (z9 h_law_mix (hr.mono (by decide)) (d7 (dv 0) (d7 (C2 (dv 1) i6) i8))) i6) nd)
   (m6 (B0 (G9 (d7 (dv 2) (d7 (P6 (a0K [("_law_script",0),("_law_base",1),("_law_variables",2)] ⟨⟨rfl,rfl,.inl rfl⟩,⟨⟨rfl,rfl,.inl rfl⟩,⟨⟨rfl,rfl,.inl rfl⟩,trivial⟩⟩⟩) (M5 z_range (d7 (dv 3) i8)) (fun _ _ _ _ _ _ _ _ _=>U8) (fun _ _ _ _ _ _ _ _ _=>(z9 h_law_clause (hr.mono (by decide)) (d7 (dv 1) (d7 (C2 (C2 (dv 2) i6) (a0y i6 (dv 0))) (d7 (dv 3) (d7 i6 i8))))))) i8))))))))
noncomputable abbrev S5:SM:=(L5 (D4 4 (c6 (f7 R8 (f7 z8 (c9 5) (mC (.int 1))) (f7 a6j (f7 R8 (mC (.int 2)) (f7 F5 (f7 a3v (c9 3) (f7 v7 (P1 (c6 (mC (.int 1)) (c6 (mC (.int 2)) (c6 (mC (.int 4)) (c6 (mC (.int 8)) (c6 (mC (.int 16)) g8)))))) (f7 a6j (f7 a6j (c9 0) (mC (.int 1))) (c9 5)))) (mC (.int 2)))) (mC (.int 1)))) g8)))
noncomputable abbrev a0s:SM:=(l6 (n9 4 (P1 g8))
 (l6 (a0n (U0 ints1 (c6 (c9 0) g8)) (E4 5) S5)
 (Y5 (C9 (B7 a40 (c6 (C6 (A1 (c9 1)) (E4 0) E6 (B7 a7G (c6 (C6 (A1 (c9 0)) (E4 0) E6 (f7 inD (c9 0) (c9 1)) 1 [1]) g8)) 1 [4]) g8))) (L5 (D4 2 (c6 (B7 a0m (c6 (c9 4) g8)) g8))) nxS)))
noncomputable abbrev a01:SM:=(l6 (n9 2 (P1 g8))
 (l6 (a0n (U0 ints1 (c6 (f7 v7 (P1 (c6 (mC (.int 1)) (c6 (mC (.int 2)) (c6 (mC (.int 4)) (c6 (mC (.int 8)) (c6 (mC (.int 16)) (c6 (mC (.int 32)) g8))))))) (c9 0)) g8)) (E4 3) a0s)
 (retS (c9 2))))
theorem a4n (F:Fun K "_law_models" "_law_models" a0d f fd) (z_range:mg "range"=none) (z_all:mg "all"=none) (z_any:mg "any"=none) (z_tuple:mg "tuple"=none):
  K5 P w K mg base CX0 1 f fd ["_law_variables","_law_clauses"] (M8 K [false,false] (G8 a01 6 [false,false])):=
 have nd:=a1v.nd
 R9 (k:=0) F a1v rfl (fun cdv A outer s H E H0 HK G0 L hr=>by
  have hu:=hu8 hr
  exact (j5 (w6 (i:=2) (T5 i8) nd)
   (j5 (Z0 (M5 z_range (d7 (A2 hu (T5 (d7 i6 (d7 i6 (d7 i6 (d7 i6 (d7 i6 (d7 i6 i8))))))) (dv 0)) i8)) (Q4 (i:=3) nd) (j5 (w6 (i:=4) (T5 i8) nd)
   (j5 (Z0 (M5 z_range (d7 (dv 0) i8)) (Q4 (i:=5) nd) (m6 (Y4 (S3 4 (dv 4) (d7 (a0y (C2 (dv 5) i6) (a7y (a0y i6 (P5 (a7k (dv 3) (A2 hu (T5 (d7 i6 (d7 i6 (d7 i6 (d7 i6 (d7 i6 i8)))))) (a7y (a7y (dv 0) i6) (dv 5)))) i6)) i6)) i8)))))
   (m6 (O6 (N2 (a88 rfl z_all (d7 (P6 (a0K [("_law_model",4)] ⟨⟨rfl,rfl,.inl rfl⟩,trivial⟩) (T7 (dv 1)) (fun _ _ _ _ _ _ _ _ _=>U8) (fun _ _ _ _ _ _ _ _ _=>(b1l rfl z_any (d7 (P6 (a0K [("_law_model",1)] ⟨⟨rfl,rfl,.inl rfl⟩,trivial⟩) (T7 (dv 0)) (fun _ _ _ _ _ _ _ _ _=>U8) (fun _ _ _ _ _ _ _ _ _=>(b1M hu (dv 0) (dv 1)))) i8)))) i8))) (m6 (Y4 (S3 2 (dv 2) (d7 (a1W z_tuple (d7 (dv 4) i8)) i8)))) F4)))))
   (m6 (B0 (dv 2))))))
noncomputable abbrev a16:SM:=(retS (B7 a82 (c6 (c9 0) g8)))
theorem a6d (F:Fun K "numbered" "numbered" a1P f fd) (z_dict:mg "dict"=none) (z_enumerate:mg "enumerate"=none):
  K5 P w K mg base CX0 1 f fd ["clauses"] (M8 K [false] (G8 a16 1 [false])):=
 have nd:=a3a.nd
 R9 (k:=0) F a3a rfl (fun cdv A outer s H E H0 HK G0 L hr=>by
  have hu:=hu8 hr
  exact (m6 (B0 (a8h rfl z_dict z_enumerate (d7 (dv 0) i8)))))
noncomputable abbrev a1u:SM:=(retS (B7 a0c (c6 (C6 (A1 (c9 0)) (E4 0) E6 (F2 (c6 (B7 S8 (c6 (c9 0) g8)) (c6 (c9 0) g8))) 1 []) g8)))
theorem a4Z (F:Fun K "truths_of" "truths_of" a0M f fd) (z_dict:mg "dict"=none) (z_abs:mg "abs"=none):
  K5 P w K mg base CX0 1 f fd ["literals"] (M8 K [false] (G8 a1u 1 [false])):=
 have nd:=a2d.nd
 R9 (k:=0) F a2d rfl (fun cdv A outer s H E H0 HK G0 L hr=>by
  have hu:=hu8 hr
  exact (m6 (B0 (a6L rfl z_dict (d7 (P6 (a0K [] trivial) (T7 (dv 0)) (fun _ _ _ _ _ _ _ _ _=>U8) (fun _ _ _ _ _ _ _ _ _=>(G9 (d7 (a2n z_abs (d7 (dv 0) i8)) (d7 (dv 0) i8))))) i8)))))
noncomputable abbrev a7X:SM:=(Y5 (z6 (f7 a0C (a7H (c9 0) (B7 S8 (c6 (c9 3) g8))) (mUn P0 (c9 3)))) (a1Y 2 (mC (.bl true)) (c9 3)) nxS)
noncomputable abbrev a4j:SM:=(l6 (n9 2 a4x)
 (l6 (a0n (A1 (c9 1)) (E4 3) a7X)
 (retS (B7 a0v (c6 (c9 2) g8)))))
theorem a8P (F:Fun K "opened" "opened" a4g f fd) (z_abs:mg "abs"=none) (z_list:mg "list"=none):
  K5 P w K mg base CX0 1 f fd ["truths","clause"] (M8 K [false,false] (G8 a4j 4 [false,false])):=
 have nd:=a5d.nd
 R9 (k:=0) F a5d rfl (fun cdv A outer s H E H0 HK G0 L hr=>by
  have hu:=hu8 hr
  exact (j5 (w6 (i:=2) a8E nd)
   (j5 (Z0 (T7 (dv 1)) (Q4 (i:=3) nd) (m6 (O6 (a7B hu (a8R hu (dv 0) (a2n z_abs (d7 (dv 3) i8))) (V5 (dv 3))) (m6 (a5w 2 hu a1l (dv 2) (dv 3))) F4)))
   (m6 (B0 (a54 rfl z_list (d7 (dv 2) i8)))))))
noncomputable abbrev a3p:SM:=(l6 (n9 5 (n5 [false,false] Z2 (c6 (c9 1) (c6 (f7 v7 (c9 0) (c9 4)) g8))))
 (l6 (Y5 (z6 (f7 M4 (c9 5) (P1 g8))) (retS (c9 4)) nxS)
 (Y5 (a50 (z6 (f7 M4 (B7 V2 (c6 (c9 5) g8)) (mC (.int 1)))) (z6 (f7 G7 (B7 S8 (c6 (f7 v7 (c9 5) (mC (.int 0))) g8)) (c9 1)))) (l6 (a1Y 1 (f7 v7 (c9 5) (mC (.int 0))) (B7 S8 (c6 (f7 v7 (c9 5) (mC (.int 0))) g8)))
 (l6 (a1Y 2 (c9 4) (B7 S8 (c6 (f7 v7 (c9 5) (mC (.int 0))) g8)))
 (n9 3 (mC (.bl true))))) nxS)))
noncomputable abbrev a3c:SM:=(l6 (n9 3 (mC (.bl false)))
 (a0n (a5J 0) (E4 4) a3p))
noncomputable abbrev a4B:SM:=(l6 (n9 3 (mC (.bl true)))
 (l6 (E2 (C9 (c9 3)) a3c 100)
 (retS (mC .A3))))
theorem a8f (F:Fun K "spread" "spread" a4G f fd) (z_len:mg "len"=none) (z_abs:mg "abs"=none)
  (h_opened:Has P w K mg base 1 "opened" ["truths","clause"] (M8 K [false,false] Z2)):
  K5 P w K mg base CX0 2 f fd ["table","truths","reasons"] (a8q K [false,true,true] 0 (a5l a4B 6 [false,true,true] 0)):=
 have nd:=a5p.nd
 b4N (k:=1) F a5p rfl rfl (fun cdv A outer s H E H0 HK G0 L hr=>by
  have hu:=hu8 hr
  exact (j5 (w6 (i:=3) a1l nd)
   (j5 (a9y 100 (N2 (dv 3)) (j5 (w6 (i:=3) a1l nd)
   (m6 (Z0 (b5A 0) (Q4 (i:=4) nd) (j5 (w6 (i:=5) (z9 h_opened (hr.mono (by decide)) (d7 (dv 1) (d7 (A2 hu (dv 0) (dv 4)) i8))) nd)
   (j5 (O6 (a2Z hu (dv 5) (T5 i8)) (m6 (B0 (dv 4))) F4)
   (m6 (O6 ((w_and (a2Z hu (a0Q z_len (d7 (dv 5) i8)) i6) (a8p (a14 hu (a2n z_abs (d7 (A2 hu (dv 5) i6) i8)) (dv 1))))).pt (j5 (a5w 1 hu (A2 hu (dv 5) i6) (dv 1) (a2n z_abs (d7 (A2 hu (dv 5) i6) i8)))
   (j5 (a5w 2 hu (dv 4) (dv 2) (a2n z_abs (d7 (A2 hu (dv 5) i6) i8)))
   (m6 (w6 (i:=3) a1l nd)))) F4))))))))
   (m6 (B0 b4t)))))
noncomputable abbrev a2l:SM:=(Y5 (a50 (z6 (f7 inD (c9 7) (c9 5))) (z6 (f7 inD (c9 7) (c9 3)))) (l6 (L5 (D4 6 (c6 (f7 v7 (c9 3) (c9 7)) g8)))
 (L5 (a3G 5 (c6 (B7 a0c (c6 (C6 (A1 (f7 v7 (c9 0) (f7 v7 (c9 3) (c9 7)))) (E4 0) E6 (F2 (c6 (B7 S8 (c6 (c9 0) g8)) (c6 (mC (.bl true)) g8))) 1 []) g8)) g8)))) nxS)
noncomputable abbrev a2Y:SM:=(l6 (n9 5 (B7 a0c (c6 (C6 (A1 (f7 v7 (c9 0) (c9 4))) (E4 0) E6 (F2 (c6 (B7 S8 (c6 (c9 0) g8)) (c6 (mC (.bl true)) g8))) 1 []) g8)))
 (l6 (n9 6 (P1 (c6 (c9 4) g8)))
 (l6 (a0n (b2g (c6 (B7 a0v (c6 (c9 2) g8)) g8)) (E4 7) a2l)
 (l6 (n9 8 (C6 (A1 (c9 1)) (E4 0) (z6 (f7 inD (B7 S8 (c6 (c9 0) g8)) (c9 1))) (mUn P0 (c9 0)) 1 [5]))
 (retS (F2 (c6 (mC (.str [97,100,100])) (c6 (f7 z8 (B7 V2 (c6 (c9 0) g8)) (mC (.int 1))) (c6 (B7 a0m (c6 (c9 8) g8)) (c6 (B7 a3O (c6 (c9 6) g8)) g8))))))))))
theorem a7U (F:Fun K "learned" "learned" a2F f fd) (z_dict:mg "dict"=none) (z_abs:mg "abs"=none) (z_reversed:mg "reversed"=none) (z_list:mg "list"=none) (z_len:mg "len"=none) (z_tuple:mg "tuple"=none):
  K5 P w K mg base CX0 1 f fd ["table","chosen","truths","reasons","conflict"] (M8 K [false,false,false,false,false] (G8 a2Y 9 [false,false,false,false,false])):=
 have nd:=a4L.nd
 R9 (k:=0) F a4L rfl (fun cdv A outer s H E H0 HK G0 L hr=>by
  have hu:=hu8 hr
  exact (j5 (w6 (i:=5) (a6L rfl z_dict (d7 (P6 (a0K [] trivial) (T7 (A2 hu (dv 0) (dv 4))) (fun _ _ _ _ _ _ _ _ _=>U8) (fun _ _ _ _ _ _ _ _ _=>(G9 (d7 (a2n z_abs (d7 (dv 0) i8)) (d7 a1l i8))))) i8)) nd)
   (j5 (w6 (i:=6) (T5 (d7 (dv 4) i8)) nd)
   (j5 (Z0 (b6h z_reversed (d7 (a54 rfl z_list (d7 (dv 2) i8)) i8)) (Q4 (i:=7) nd) (m6 (O6 ((w_and (b3d hu (dv 7) (dv 5)) (a8p (b3d hu (dv 7) (dv 3))))).pt (j5 (Y4 (S3 6 (dv 6) (d7 (A2 hu (dv 3) (dv 7)) i8)))
   (m6 (Y4 (b2h 5 (dv 5) (d7 (a6L rfl z_dict (d7 (P6 (a0K [] trivial) (T7 (A2 hu (dv 0) (A2 hu (dv 3) (dv 7)))) (fun _ _ _ _ _ _ _ _ _=>U8) (fun _ _ _ _ _ _ _ _ _=>(G9 (d7 (a2n z_abs (d7 (dv 0) i8)) (d7 a1l i8))))) i8)) i8))))) F4)))
   (j5 (a6f (i:=8) (a0K [("needed",5)] ⟨⟨rfl,rfl,.inl rfl⟩,trivial⟩) nd (T7 (dv 1)) (fun _ _ _ _ _ _ _ _ _=>b4u (b3d hu (a2n z_abs (d7 (dv 0) i8)) (dv 1))) (fun _ _ _ _ _ _ _ _ _=>(V5 (dv 0))))
   (m6 (B0 (G9 (d7 (a8c (cs:=[97,100,100]) (by decide +kernel)) (d7 (C2 (a0Q z_len (d7 (dv 0) i8)) i6) (d7 (a1W z_tuple (d7 (dv 8) i8)) (d7 (b0X rfl z_tuple z_reversed (d7 (dv 6) i8)) i8))))))))))))
noncomputable abbrev a22:SM:=(l6 (n9 5 (n5 [false] O5 (c6 (c9 4) g8)))
 (l6 (n9 6 a4x)
 (l6 (n9 7 (n5 [false,true,true] U1 (c6 (c9 2) (c6 (c9 5) (c6 (c9 6) g8)))))
 (l6 (n9 8 (C6 (U0 ints2 (c6 (mC (.int 1)) (c6 (f7 z8 (c9 0) (mC (.int 1))) g8))) (E4 0) (z6 (f7 G7 (c9 0) (c9 1))) (c9 0) 1 [5]))
 (Y5 (z6 (mUn (fun d=>vB (!a0a d)) (c9 7))) (l6 (n9 9 (n5 [false,false,false,false,false] V4 (c6 (c9 2) (c6 (c9 4) (c6 (c9 5) (c6 (c9 6) (c6 (c9 7) g8)))))))
 (l6 (n9 10 (f7 v7 (c9 9) (mC (.int 2))))
 (l6 (L5 (D4 3 (c6 (c9 9) g8)))
 (l6 (Y5 (z6 (f7 M4 (c9 10) (F2 g8))) (retS (F2 (c6 (mC .A3) (c6 (c9 3) g8)))) nxS)
 (l6 (a1Y 2 (c9 10) (f7 v7 (c9 9) (mC (.int 1))))
 (n9 4 (mSl (c9 4) (M.pure none) (a0A (mMt "list" a3Y (c9 4) (c6 (mUn P0 (f7 v7 (c9 10) (mUn P0 (mC (.int 1))))) g8)))))))))) (Y5 (C9 (c9 8)) (L5 (D4 4 (c6 (mUn P0 (f7 v7 (c9 8) (mC (.int 0)))) g8))) (retS (F2 (c6 (B7 a0m (c6 (C6 (U0 ints2 (c6 (mC (.int 1)) (c6 (f7 z8 (c9 0) (mC (.int 1))) g8))) (E4 0) E6 (f7 v7 (c9 1) (c9 0)) 1 [5]) g8)) (c6 (P1 g8) g8))))))))))
noncomputable abbrev a3S:SM:=(l6 (n9 2 (n5 [false] Q9 (c6 (c9 1) g8)))
 (l6 (n9 3 (P1 g8))
 (l6 (n9 4 (P1 g8))
 (E2 (C9 (mC (.bl true))) a22 100000))))
theorem a8l (F:Fun K "solved" "solved" a4s f fd) (z_range:mg "range"=none) (z_tuple:mg "tuple"=none)
  (h_numbered:Has P w K mg base 1 "numbered" ["clauses"] (M8 K [false] Q9))
  (h_truths_of:Has P w K mg base 1 "truths_of" ["literals"] (M8 K [false] O5))
  (h_spread:Has P w K mg base 2 "spread" ["table","truths","reasons"] (M8 K [false,true,true] U1))
  (h_learned:Has P w K mg base 1 "learned" ["table","chosen","truths","reasons","conflict"] (M8 K [false,false,false,false,false] V4)):
  K5 P w K mg base CX0 3 f fd ["variables","clauses"] (M8 K [false,false] (G8 a3S 11 [false,false])):=
 have nd:=a5O.nd
 R9 (k:=2) F a5O rfl (fun cdv A outer s H E H0 HK G0 L hr=>by
  have hu:=hu8 hr
  exact (j5 (w6 (i:=2) (z9 h_numbered (hr.mono (by decide)) (d7 (dv 1) i8)) nd)
   (j5 (w6 (i:=3) (T5 i8) nd)
   (j5 (w6 (i:=4) (T5 i8) nd)
   (m6 (a9y 100000 (N2 a1l) (j5 (w6 (i:=5) (z9 h_truths_of (hr.mono (by decide)) (d7 (dv 4) i8)) nd)
   (j5 (w6 (i:=6) a8E nd)
   (j5 (w6 (i:=7) (z9 h_spread (hr.mono (by decide)) (d7 (dv 2) (d7 (dv 5) (d7 (dv 6) i8)))) nd)
   (j5 (a6f (i:=8) (a0K [("truths",5)] ⟨⟨rfl,rfl,.inl rfl⟩,trivial⟩) nd (a7D z_range (d7 i6 (d7 (C2 (dv 0) i6) i8))) (fun _ _ _ _ _ _ _ _ _=>b4u (a14 hu (dv 0) (dv 1))) (fun _ _ _ _ _ _ _ _ _=>(dv 0)))
   (m6 (O6 (b1p (dv 7)) (j5 (w6 (i:=9) (z9 h_learned (hr.mono (by decide)) (d7 (dv 2) (d7 (dv 4) (d7 (dv 5) (d7 (dv 6) (d7 (dv 7) i8)))))) nd)
   (j5 (w6 (i:=10) (A2 hu (dv 9) i6) nd)
   (j5 (Y4 (S3 3 (dv 3) (d7 (dv 9) i8)))
   (j5 (O6 (a2Z hu (dv 10) (G9 i8)) (m6 (B0 (G9 (d7 b4t (d7 (dv 3) i8))))) F4)
   (j5 (a5w 2 hu (dv 10) (dv 2) (A2 hu (dv 9) i6))
   (m6 (w6 (i:=4) (b3C (dv 4) a6l (a6u (b23 hu (dv 4) (d7 (V5 (A2 hu (dv 10) (V5 i6))) i8)))) nd))))))) (m6 (O6 (N2 (dv 8)) (m6 (Y4 (S3 4 (dv 4) (d7 (V5 (A2 hu (dv 8) i6)) i8)))) (m6 (B0 (G9 (d7 (a1W z_tuple (d7 (P6 (a0K [("truths",5)] ⟨⟨rfl,rfl,.inl rfl⟩,trivial⟩) (a7D z_range (d7 i6 (d7 (C2 (dv 0) i6) i8))) (fun _ _ _ _ _ _ _ _ _=>U8) (fun _ _ _ _ _ _ _ _ _=>(A2 hu (dv 1) (dv 0)))) i8)) (d7 (T5 i8) i8)))))))))))))))))))
noncomputable abbrev a1t:SM:=(Y5 (a50 (z6 (f7 G7 (mUn P0 (c9 3)) (c9 0))) (z6 (f7 G7 (c9 3) (c9 2)))) (L5 (D4 2 (c6 (c9 3) g8))) nxS)
noncomputable abbrev a1Z:SM:=(l6 (n9 2 (P1 g8))
 (l6 (a0n (A1 (c9 1)) (E4 3) a1t)
 (retS (c9 2))))
theorem a6k (F:Fun K "_law_open" "_law_open" a1L f fd):
  K5 P w K mg base CX0 1 f fd ["_law_true_ones","_law_clause_here"] (M8 K [false,false] (G8 a1Z 4 [false,false])):=
 have nd:=a3b.nd
 R9 (k:=0) F a3b rfl (fun cdv A outer s H E H0 HK G0 L hr=>by
  have hu:=hu8 hr
  exact (j5 (w6 (i:=2) (T5 i8) nd)
   (j5 (Z0 (T7 (dv 1)) (Q4 (i:=3) nd) (m6 (O6 ((w_and (a14 hu (V5 (dv 3)) (dv 0)) (a8p (a14 hu (dv 3) (dv 2))))).pt (m6 (Y4 (S3 2 (dv 2) (d7 (dv 3) i8)))) F4)))
   (m6 (B0 (dv 2))))))
noncomputable abbrev Q7:SM:=(l6 (Y5 (z6 (f7 (a0P fun i j=>decide (i < j)) (c9 4) (mC (.int 0)))) (retS (F2 (c6 (mC (.int 1)) (c6 (c9 3) g8)))) nxS)
 (l6 (Y5 (z6 (f7 G7 (c9 4) (c9 0))) (retS (F2 (c6 (mC (.int 0)) (c6 (c9 3) g8)))) nxS)
 (l6 (n9 5 (n5 [false,false] W7 (c6 (c9 1) (c6 (f7 v7 (c9 0) (c9 4)) g8))))
 (l6 (n9 3 (f7 z8 (c9 3) (mC (.int 1))))
 (l6 (Y5 (P4 (C9 (c9 5))) (retS (F2 (c6 (mC (.int 2)) (c6 (c9 3) g8)))) nxS)
 (l6 (Y5 (mOr (z6 (f7 (a0P fun i j=>decide (j < i)) (B7 V2 (c6 (c9 5) g8)) (mC (.int 1)))) (z6 (f7 inD (f7 v7 (c9 5) (mC (.int 0))) (c9 1)))) (retS (F2 (c6 (mC (.int 0)) (c6 (c9 3) g8)))) nxS)
 (L5 (D4 1 (c6 (f7 v7 (c9 5) (mC (.int 0))) g8)))))))))
noncomputable abbrev a1R:SM:=(l6 (n9 3 (mC (.int 0)))
 (l6 (a0n (A1 (c9 2)) (E4 4) Q7)
 (retS (F2 (c6 (mC (.int 1)) (c6 (c9 3) g8))))))
theorem a6N (F:Fun K "_law_walk" "_law_walk" a1Q f fd) (z_len:mg "len"=none)
  (h_law_open:Has P w K mg base 1 "_law_open" ["_law_true_ones","_law_clause_here"] (M8 K [false,false] W7)):
  K5 P w K mg base CX0 2 f fd ["_law_table_here","_law_true_ones","_law_hints_here"] (M8 K [false,true,false] (G8 a1R 6 [false,true,false])):=
 have nd:=a3d.nd
 R9 (k:=1) F a3d rfl (fun cdv A outer s H E H0 HK G0 L hr=>by
  have hu:=hu8 hr
  exact (j5 (w6 (i:=3) i6 nd)
   (j5 (Z0 (T7 (dv 2)) (Q4 (i:=4) nd) (j5 (O6 (b7S (dv 4) i6) (m6 (B0 (G9 (d7 i6 (d7 (dv 3) i8))))) F4)
   (j5 (O6 (a14 hu (dv 4) (dv 0)) (m6 (B0 (G9 (d7 i6 (d7 (dv 3) i8))))) F4)
   (j5 (w6 (i:=5) (z9 h_law_open (hr.mono (by decide)) (d7 (dv 1) (d7 (A2 hu (dv 0) (dv 4)) i8))) nd)
   (j5 (w6 (i:=3) (C2 (dv 3) i6) nd)
   (j5 (O6 (a0u (N2 (dv 5))) (m6 (B0 (G9 (d7 i6 (d7 (dv 3) i8))))) F4)
   (j5 (O6 ((w_or (b74 (a0Q z_len (d7 (dv 5) i8)) i6) (a3i (b3d hu (A2 hu (dv 5) i6) (dv 1))))).pt (m6 (B0 (G9 (d7 i6 (d7 (dv 3) i8))))) F4)
   (m6 (Y4 (S3 1 (dv 1) (d7 (A2 hu (dv 5) i6) i8)))))))))))
   (m6 (B0 (G9 (d7 i6 (d7 (dv 3) i8))))))))
noncomputable abbrev a0z:SM:=(l6 (Y5 (C9 (B7 a7G (c6 (C6 (A1 (c9 1)) (E4 0) E6 (f7 inD (mUn P0 (c9 0)) (c9 1)) 1 [1]) g8))) (retS (mC (.bl true))) nxS)
 (l6 (n9 3 (C6 (A1 (c9 1)) (E4 0) E6 (mUn P0 (c9 0)) 1 []))
 (l6 (n9 4 (n5 [false,true,false] S2 (c6 (c9 0) (c6 (c9 3) (c6 (c9 2) g8)))))
 (l6 (Y5 (mOr (z6 (f7 a0C (f7 v7 (c9 4) (mC (.int 0))) (mC (.int 1)))) (z6 (f7 M4 (c9 1) (F2 g8)))) (retS (f7 M4 (f7 v7 (c9 4) (mC (.int 0))) (mC (.int 2)))) nxS)
 (l6 a0p
 (l6 a0p
 (l6 a0p
 (l6 a0p
 a0p))))))))
theorem a3s (F:Fun K "_law_follows" "_law_follows" X8 f fd) (z_any:mg "any"=none)
  (h_law_walk:Has P w K mg base 2 "_law_walk" ["_law_table_here","_law_true_ones","_law_hints_here"] (M8 K [false,true,false] S2)):
  K5 P w K mg base CX0 3 f fd ["_law_table_here","_law_clause_here","_law_hints_here"] (M8 K [false,false,false] (G8 a0z 8 [false,false,false])):=
 have nd:=a0T.nd
 R9 (k:=2) F a0T rfl (fun cdv A outer s H E H0 HK G0 L hr=>by
  have hu:=hu8 hr
  exact (j5 (O6 (N2 (b1l rfl z_any (d7 (P6 (a0K [("_law_clause_here",1)] ⟨⟨rfl,rfl,.inl rfl⟩,trivial⟩) (T7 (dv 1)) (fun _ _ _ _ _ _ _ _ _=>U8) (fun _ _ _ _ _ _ _ _ _=>(b1M hu (V5 (dv 0)) (dv 1)))) i8))) (m6 (B0 a1l)) F4)
   (j5 (w6 (i:=3) (P6 (a0K [] trivial) (T7 (dv 1)) (fun _ _ _ _ _ _ _ _ _=>U8) (fun _ _ _ _ _ _ _ _ _=>(V5 (dv 0)))) nd)
   (j5 (w6 (i:=4) (z9 h_law_walk (hr.mono (by decide)) (d7 (dv 0) (d7 (dv 3) (d7 (dv 2) i8)))) nd)
   (j5 (O6 ((w_or (a7B hu (A2 hu (dv 4) i6) i6) (a3i (a2Z hu (dv 1) (G9 i8))))).pt (m6 (B0 (a9b hu (A2 hu (dv 4) i6) i6))) F4)
   (j5 W9
   (j5 W9
   (j5 W9
   (j5 W9
   (m6 W9))))))))))
noncomputable abbrev a0x:SM:=(a1Y 2 (f7 v7 (f7 v7 (c9 0) (mC (.int 1))) (c9 3)) (f7 z8 (c9 3) (mC (.int 1))))
noncomputable abbrev a0t:SM:=(l6 (n9 5 (f7 v7 (c9 1) (c9 3)))
 (Y5 (z6 (f7 M4 (f7 v7 (c9 5) (mC (.int 0))) (mC (.str [100,114,111,112])))) a0p (l6 (n9 7 (a05 (f7 (a0P fun i j=>decide (j < i)) (f7 v7 (c9 5) (mC (.int 1))) (c9 4)) (B7 a40 (c6 (C6 (A1 (f7 v7 (c9 5) (mC (.int 2)))) (E4 0) E6 (f7 (a0P fun i j=>decide (i≤j)) (B7 S8 (c6 (c9 0) g8)) (f7 v7 (c9 1) (mC (.int 0)))) 1 [0]) g8))))
 (l6 (Y5 (mOr (P4 (C9 (c9 7))) (P4 (C9 (n5 [false,false,false] E9 (c6 (c9 2) (c6 (f7 v7 (c9 5) (mC (.int 2))) (c6 (B7 a0v (c6 (f7 v7 (c9 5) (mC (.int 3))) g8)) g8))))))) a0p nxS)
 (l6 (n9 4 (f7 v7 (c9 5) (mC (.int 1))))
 (l6 (a1Y 2 (f7 v7 (c9 5) (mC (.int 2))) (c9 4))
 (Y5 (z6 (f7 M4 (f7 v7 (c9 5) (mC (.int 2))) (F2 g8))) (retS (F2 (c6 (mUn P0 (mC (.int 1))) (c6 (mC (.bl true)) g8)))) nxS)))))))
noncomputable abbrev a03:SM:=(l6 (n9 2 a4x)
 (l6 (a0n (U0 ints1 (c6 (B7 V2 (c6 (f7 v7 (c9 0) (mC (.int 1))) g8)) g8)) (E4 3) a0x)
 (l6 (n9 4 (B7 V2 (c6 (f7 v7 (c9 0) (mC (.int 1))) g8)))
 (l6 (a0n (U0 ints1 (c6 (B7 V2 (c6 (c9 1) g8)) g8)) (E4 3) a0t)
 a0p))))
theorem a3W (F:Fun K "_law_played" "_law_played" a0l f fd) (z_range:mg "range"=none) (z_len:mg "len"=none) (z_all:mg "all"=none) (z_abs:mg "abs"=none) (z_list:mg "list"=none)
  (h_law_follows:Has P w K mg base 3 "_law_follows" ["_law_table_here","_law_clause_here","_law_hints_here"] (M8 K [false,false,false] E9)):
  K5 P w K mg base CX0 4 f fd ["_law_formula_here","_law_steps_here"] (M8 K [false,false] (G8 a03 8 [false,false])):=
 have nd:=a1q.nd
 R9 (k:=3) F a1q rfl (fun cdv A outer s H E H0 HK G0 L hr=>by
  have hu:=hu8 hr
  exact (j5 (w6 (i:=2) a8E nd)
   (j5 (Z0 (M5 z_range (d7 (a0Q z_len (d7 (A2 hu (dv 0) i6) i8)) i8)) (Q4 (i:=3) nd) (m6 (a5w 2 hu (A2 hu (A2 hu (dv 0) i6) (dv 3)) (dv 2) (C2 (dv 3) i6))))
   (j5 (w6 (i:=4) (a0Q z_len (d7 (A2 hu (dv 0) i6) i8)) nd)
   (j5 (Z0 (M5 z_range (d7 (a0Q z_len (d7 (dv 1) i8)) i8)) (Q4 (i:=3) nd) (j5 (w6 (i:=5) (A2 hu (dv 1) (dv 3)) nd)
   (m6 (O6 (a2Z hu (A2 hu (dv 5) i6) (a8c (cs:=[100,114,111,112]) (by decide +kernel))) (m6 W9) (j5 (w6 (i:=7) (a8Z (b6r (A2 hu (dv 5) i6) (dv 4)) (a9F (a88 rfl z_all (d7 (P6 (a0K [("_law_formula_here",0)] ⟨⟨rfl,rfl,.inl rfl⟩,trivial⟩) (T7 (A2 hu (dv 5) i6)) (fun _ _ _ _ _ _ _ _ _=>U8) (fun _ _ _ _ _ _ _ _ _=>(b77 (a2n z_abs (d7 (dv 0) i8)) (A2 hu (dv 1) i6)))) i8)))) nd)
   (j5 (O6 ((w_or (a0u (N2 (dv 7))) (a3i (a0u (N2 (z9 h_law_follows (hr.mono (by decide)) (d7 (dv 2) (d7 (A2 hu (dv 5) i6) (d7 (a54 rfl z_list (d7 (A2 hu (dv 5) i6) i8)) i8))))))))).pt (m6 W9) F4)
   (j5 (w6 (i:=4) (A2 hu (dv 5) i6) nd)
   (j5 (a5w 2 hu (A2 hu (dv 5) i6) (dv 2) (dv 4))
   (m6 (O6 (a2Z hu (A2 hu (dv 5) i6) (G9 i8)) (m6 (B0 (G9 (d7 (V5 i6) (d7 a1l i8))))) F4))))))))))
   (m6 W9))))))
noncomputable abbrev a1w:SM:=(l6 (n9 4 (C6 (U0 ints1 (c6 (mC (.int 3)) g8)) (E4 0) E6 (f7 R8 (f7 z8 (mC (.int 1)) (c9 0)) (f7 a6j (mC (.int 1)) (f7 R8 (mC (.int 2)) (f7 F5 (f7 a3v (c9 1) (f7 v7 (P1 (c6 (mC (.int 1)) (c6 (mC (.int 2)) (c6 (mC (.int 4)) g8)))) (c9 0))) (mC (.int 2)))))) 1 [3]))
 (l6 (n9 5 (f7 F5 (n5 [false,false] l7 (c6 (c9 0) (c6 (f7 z8 (f7 z8 (c9 1) (mC (.int 2))) (c9 3)) g8))) (mC (.int 3))))
 (L5 (a2k 2 (c6 (f7 F5 (n5 [false,false] l7 (c6 (c9 0) (c6 (f7 z8 (c9 1) (mC (.int 3))) g8))) (f7 z8 (B7 V2 (c6 (c9 2) g8)) (mC (.int 1)))) (c6 (B7 a0m (c6 (f7 z8 (mSl (c9 4) (a0A (c9 5)) (M.pure none)) (mSl (c9 4) (M.pure none) (a0A (c9 5)))) g8)) g8))))))
noncomputable abbrev M0:SM:=(l6 (n9 7 (f7 z8 (mC (.int 1)) (f7 F5 (n5 [false,false] l7 (c6 (c9 0) (c6 (f7 z8 (c9 1) (f7 R8 (mC (.int 3)) (c9 6))) g8))) (mC (.int 3)))))
 (l6 (n9 8 (f7 z8 (mC (.int 2)) (f7 F5 (n5 [false,false] l7 (c6 (c9 0) (c6 (f7 z8 (f7 z8 (c9 1) (mC (.int 2))) (c9 6)) g8))) (mC (.int 11)))))
 (l6 (n9 2 (C6 (U0 ints1 (c6 (c9 8) g8)) (E4 0) E6 (n5 [false,false,false,false] C5 (c6 (c9 1) (c6 (f7 z8 (f7 z8 (f7 z8 (c9 2) (mC (.int 4))) (f7 R8 (mC (.int 5)) (c9 0))) (c9 3)) (c6 (c9 4) (c6 (mC (.int 3)) g8))))) 1 [0,1,6,7]))
 (Y5 (P4 (C9 (n5 [false,false] C3 (c6 (c9 7) (c6 (c9 2) g8))))) (retS (F2 (c6 (c9 7) (c6 (c9 2) g8)))) nxS))))
noncomputable abbrev a0j:SM:=(l6 (Y5 (z6 (f7 M4 (f7 F5 (n5 [false,false] l7 (c6 (c9 0) (c6 (f7 z8 (c9 1) (mC (.int 1))) g8))) (mC (.int 4))) (mC (.int 0)))) (l6 (n9 2 (P1 g8))
 (l6 (a0n (U0 ints1 (c6 (mC (.int 8)) g8)) (E4 3) a1w)
 (retS (F2 (c6 (mC (.int 3)) (c6 (c9 2) g8)))))) nxS)
 (l6 (a0n (U0 ints1 (c6 (mC (.int 6)) g8)) (E4 6) M0)
 (retS (F2 (c6 (mC (.int 2)) (c6 (P1 (c6 (F2 (c6 (mC (.int 1)) (c6 (mC (.int 2)) g8))) (c6 (F2 (c6 (mUn P0 (mC (.int 1))) (c6 (mC (.int 2)) g8))) (c6 (F2 (c6 (mC (.int 1)) (c6 (mUn P0 (mC (.int 2))) g8))) (c6 (F2 (c6 (mUn P0 (mC (.int 1))) (c6 (mUn P0 (mC (.int 2))) g8))) g8))))) g8))))))
noncomputable def X4:List D→Option FR:=G8 a0j 9 [false,false]
theorem a4R:∀ ds r,X4 ds=some r→G8 a0j 9 [false,false] ds=some r:=fun _ _ h=>h
theorem a6M (F:Fun K "_law_none" "_law_none" a1E f fd) (z_range:mg "range"=none) (z_len:mg "len"=none) (z_tuple:mg "tuple"=none)
  (h_law_mix:Has P w K mg base 2 "_law_mix" ["_law_script","_law_k"] (M8 K [false,false] l7))
  (h_law_clause:Has P w K mg base 3 "_law_clause" ["_law_script","_law_base","_law_variables","_law_most"] (M8 K [false,false,false,false] C5))
  (h_law_models:Has P w K mg base 1 "_law_models" ["_law_variables","_law_clauses"] (M8 K [false,false] C3)):
  K5 P w K mg base CX0 4 f fd ["_law_script","_law_base"] (M8 K [false,false] (G8 a0j 9 [false,false])):=
 have nd:=a3g.nd
 R9 (k:=3) F a3g rfl (fun cdv A outer s H E H0 HK G0 L hr=>by
  have hu:=hu8 hr
  exact (j5 (O6 (a2Z hu (P5 (z9 h_law_mix (hr.mono (by decide)) (d7 (dv 0) (d7 (C2 (dv 1) i6) i8))) i6) i6) (j5 (w6 (i:=2) (T5 i8) nd)
   (j5 (Z0 (M5 z_range (d7 i6 i8)) (Q4 (i:=3) nd) (j5 (a6f (i:=4) (a0K [("_law_number",3)] ⟨⟨rfl,rfl,.inl rfl⟩,trivial⟩) nd (M5 z_range (d7 i6 i8)) (fun _ _ _ _ _ _ _ _ _=>U8) (fun _ _ _ _ _ _ _ _ _=>(a0y (C2 i6 (dv 0)) (a7y i6 (a0y i6 (P5 (a7k (dv 1) (A2 hu (T5 (d7 i6 (d7 i6 (d7 i6 i8)))) (dv 0))) i6))))))
   (j5 (w6 (i:=5) (P5 (z9 h_law_mix (hr.mono (by decide)) (d7 (dv 0) (d7 (C2 (C2 (dv 1) i6) (dv 3)) i8))) i6) nd)
   (m6 (Y4 (b2m 2 (dv 2) (d7 (P5 (z9 h_law_mix (hr.mono (by decide)) (d7 (dv 0) (d7 (C2 (dv 1) i6) i8))) (C2 (a0Q z_len (d7 (dv 2) i8)) i6)) (d7 (a1W z_tuple (d7 (C2 (b3C (dv 4) (a6u (dv 5)) a6l) (b3C (dv 4) a6l (a6u (dv 5)))) i8)) i8))))))))
   (m6 (B0 (G9 (d7 i6 (d7 (dv 2) i8))))))) F4)
   (j5 (Z0 (M5 z_range (d7 i6 i8)) (Q4 (i:=6) nd) (j5 (w6 (i:=7) (C2 i6 (P5 (z9 h_law_mix (hr.mono (by decide)) (d7 (dv 0) (d7 (C2 (dv 1) (a0y i6 (dv 6))) i8))) i6)) nd)
   (j5 (w6 (i:=8) (C2 i6 (P5 (z9 h_law_mix (hr.mono (by decide)) (d7 (dv 0) (d7 (C2 (C2 (dv 1) i6) (dv 6)) i8))) i6)) nd)
   (j5 (a6f (i:=2) (a0K [("_law_script",0),("_law_base",1),("_law_k",6),("_law_variables",7)] ⟨⟨rfl,rfl,.inl rfl⟩,⟨⟨rfl,rfl,.inl rfl⟩,⟨⟨rfl,rfl,.inl rfl⟩,⟨⟨rfl,rfl,.inl rfl⟩,trivial⟩⟩⟩⟩) nd (M5 z_range (d7 (dv 8) i8)) (fun _ _ _ _ _ _ _ _ _=>U8) (fun _ _ _ _ _ _ _ _ _=>(z9 h_law_clause (hr.mono (by decide)) (d7 (dv 1) (d7 (C2 (C2 (C2 (dv 2) i6) (a0y i6 (dv 0))) (dv 3)) (d7 (dv 4) (d7 i6 i8)))))))
   (m6 (O6 (a0u (N2 (z9 h_law_models (hr.mono (by decide)) (d7 (dv 7) (d7 (dv 2) i8))))) (m6 (B0 (G9 (d7 (dv 7) (d7 (dv 2) i8))))) F4))))))
   (m6 (B0 (G9 (d7 i6 (d7 (T5 (d7 (G9 (d7 i6 (d7 i6 i8))) (d7 (G9 (d7 (V5 i6) (d7 i6 i8))) (d7 (G9 (d7 i6 (d7 (V5 i6) i8))) (d7 (G9 (d7 (V5 i6) (d7 (V5 i6) i8))) i8))))) i8))))))))
noncomputable abbrev a4h:SM:=(l6 (Y5 (mOr (P4 (C9 (B7 a0f (c6 (c9 5) (c6 (mC (.ty "tuple")) g8))))) (mOr (z6 (f7 a0C (f7 v7 (c9 5) (mC (.int 0))) (mC (.str [97,100,100])))) (P4 (C9 (B7 a0f (c6 (f7 v7 (c9 5) (mC (.int 2))) (c6 (mC (.ty "tuple")) g8))))))) (retS (mC (.bl false))) nxS)
 (Y5 (mOr (P4 (C9 (B7 a0f (c6 (f7 v7 (c9 5) (mC (.int 3))) (c6 (mC (.ty "tuple")) g8))))) (P4 (C9 (B7 a40 (c6 (C6 (A1 (f7 v7 (c9 5) (mC (.int 3)))) (E4 0) E6 (a05 (n5 [false] D5 (c6 (c9 0) g8)) (f7 (a0P fun i j=>decide (j < i)) (c9 0) (mC (.int 0)))) 1 []) g8))))) (retS (mC (.bl false))) nxS))
noncomputable abbrev a9n:SM:=(l6 (n9 1 (n5 [false,false] K7 (c6 (c9 0) (c6 (mC (.int 0)) g8))))
 (l6 (Y5 (z6 (f7 M4 (f7 F5 (n5 [false,false] l7 (c6 (c9 0) (c6 (mC (.int 49)) g8))) (mC (.int 2))) (mC (.int 0)))) (n9 1 (n5 [false,false] X4 (c6 (c9 0) (c6 (mC (.int 0)) g8)))) nxS)
 (l6 (n9 2 (B7 a0v (c6 (f7 v7 (c9 1) (mC (.int 1))) g8)))
 (l6 (n9 3 (n5 [false,false] U3 (c6 (f7 v7 (c9 1) (mC (.int 0))) (c6 (c9 2) g8))))
 (l6 (Y5 (mOr (P4 (C9 (B7 a0f (c6 (c9 3) (c6 (mC (.ty "tuple")) g8))))) (mOr (z6 (f7 a0C (B7 V2 (c6 (c9 3) g8)) (mC (.int 2)))) (z6 (f7 a0C (c9 2) (f7 v7 (c9 1) (mC (.int 1))))))) (retS (mC (.bl false))) nxS)
 (l6 (n9 4 (n5 [false,false] C3 (c6 (f7 v7 (c9 1) (mC (.int 0))) (c6 (f7 v7 (c9 1) (mC (.int 1))) g8))))
 (l6 (Y5 (C9 (c9 4)) (l6 (Y5 (mOr (P4 (C9 (B7 a0f (c6 (f7 v7 (c9 3) (mC (.int 0))) (c6 (mC (.ty "tuple")) g8))))) (P4 (C9 (B7 a40 (c6 (C6 (A1 (f7 v7 (c9 3) (mC (.int 0)))) (E4 0) E6 (n5 [false] D5 (c6 (c9 0) g8)) 1 []) g8))))) (retS (mC (.bl false))) nxS)
 (retS (a05 (f7 inD (f7 v7 (c9 3) (mC (.int 0))) (c9 4)) (f7 M4 (f7 v7 (c9 3) (mC (.int 1))) (P1 g8))))) nxS)
 (l6 (Y5 (mOr (z6 (mUn (fun d=>vB (!a0a d)) (f7 v7 (c9 3) (mC (.int 0))))) (P4 (C9 (B7 a0f (c6 (f7 v7 (c9 3) (mC (.int 1))) (c6 (mC (.ty "list")) g8)))))) (retS (mC (.bl false))) nxS)
 (l6 (a0n (A1 (f7 v7 (c9 3) (mC (.int 1)))) (E4 5) a4h)
 (l6 (Y5 (C9 (B7 a7G (c6 (C6 (A1 (mSl (f7 v7 (c9 3) (mC (.int 1))) (M.pure none) (a0A (mUn P0 (mC (.int 1)))))) (E4 0) E6 (f7 M4 (f7 v7 (c9 0) (mC (.int 2))) (F2 g8)) 1 []) g8))) (retS (mC (.bl false))) nxS)
 (retS (f7 M4 (n5 [false,false] M3 (c6 (c9 1) (c6 (f7 v7 (c9 3) (mC (.int 1))) g8))) (F2 (c6 (mUn P0 (mC (.int 1))) (c6 (mC (.bl true)) g8)))))))))))))))
theorem b29 (F:Fun K "law" "law" b1G f fd) (z_list:mg "list"=none) (z_isinstance:mg "isinstance"=none) (z_tuple:mg "tuple"=none) (z_len:mg "len"=none) (z_all:mg "all"=none) (z_any:mg "any"=none)
  (h_law_formula:Has P w K mg base 4 "_law_formula" ["_law_script","_law_base"] (M8 K [false,false] K7))
  (h_law_mix:Has P w K mg base 2 "_law_mix" ["_law_script","_law_k"] (M8 K [false,false] l7))
  (h_law_none:Has P w K mg base 4 "_law_none" ["_law_script","_law_base"] (M8 K [false,false] X4))
  (h_solved:Has P w K mg base 3 "solved" ["variables","clauses"] (M8 K [false,false] U3))
  (h_law_models:Has P w K mg base 1 "_law_models" ["_law_variables","_law_clauses"] (M8 K [false,false] C3))
  (h_law_whole:Has P w K mg base 1 "_law_whole" ["_law_found"] (M8 K [false] D5))
  (h_law_played:Has P w K mg base 4 "_law_played" ["_law_formula_here","_law_steps_here"] (M8 K [false,false] M3)):
  K5 P w K mg base CX0 5 f fd ["_law_script"] (M8 K [false] (G8 a9n 6 [false])):=
 have nd:=b2L.nd
 R9 (k:=4) F b2L rfl (fun cdv A outer s H E H0 HK G0 L hr=>by
  have hu:=hu8 hr
  exact (j5 (w6 (i:=1) (z9 h_law_formula (hr.mono (by decide)) (d7 (dv 0) (d7 i6 i8))) nd)
   (j5 (O6 (a2Z hu (P5 (z9 h_law_mix (hr.mono (by decide)) (d7 (dv 0) (d7 i6 i8))) i6) i6) (m6 (w6 (i:=1) (z9 h_law_none (hr.mono (by decide)) (d7 (dv 0) (d7 i6 i8))) nd)) F4)
   (j5 (w6 (i:=2) (a54 rfl z_list (d7 (A2 hu (dv 1) i6) i8)) nd)
   (j5 (w6 (i:=3) (z9 h_solved (hr.mono (by decide)) (d7 (A2 hu (dv 1) i6) (d7 (dv 2) i8))) nd)
   (j5 (O6 ((w_or (a0u (N2 (a23 z_isinstance (d7 (dv 3) (d7 (a7Z z_tuple PyProof.Rows.boot_tuple) i8))))) (w_or (a7B hu (a0Q z_len (d7 (dv 3) i8)) i6) (a3i (a7B hu (dv 2) (A2 hu (dv 1) i6)))))).pt (m6 (B0 a1l)) F4)
   (j5 (w6 (i:=4) (z9 h_law_models (hr.mono (by decide)) (d7 (A2 hu (dv 1) i6) (d7 (A2 hu (dv 1) i6) i8))) nd)
   (j5 (O6 (N2 (dv 4)) (j5 (O6 ((w_or (a0u (N2 (a23 z_isinstance (d7 (A2 hu (dv 3) i6) (d7 (a7Z z_tuple PyProof.Rows.boot_tuple) i8))))) (a3i (a0u (N2 (a88 rfl z_all (d7 (P6 (a0K [] trivial) (T7 (A2 hu (dv 3) i6)) (fun _ _ _ _ _ _ _ _ _=>U8) (fun _ _ _ _ _ _ _ _ _=>(z9 h_law_whole (hr.mono (by decide)) (d7 (dv 0) i8)))) i8))))))).pt (m6 (B0 a1l)) F4)
   (m6 (B0 (a8Z (b1M hu (A2 hu (dv 3) i6) (dv 4)) (a9F (a9b hu (A2 hu (dv 3) i6) (T5 i8))))))) F4)
   (j5 (O6 ((w_or (b1p (A2 hu (dv 3) i6)) (a3i (a0u (N2 (a23 z_isinstance (d7 (A2 hu (dv 3) i6) (d7 (a7Z z_list PyProof.Rows.boot_list) i8)))))))).pt (m6 (B0 a1l)) F4)
   (j5 (Z0 (T7 (A2 hu (dv 3) i6)) (Q4 (i:=5) nd) (j5 (O6 ((w_or (a0u (N2 (a23 z_isinstance (d7 (dv 5) (d7 (a7Z z_tuple PyProof.Rows.boot_tuple) i8))))) (w_or (a7B hu (A2 hu (dv 5) i6) (a8c (cs:=[97,100,100]) (by decide +kernel))) (a3i (a0u (N2 (a23 z_isinstance (d7 (A2 hu (dv 5) i6) (d7 (a7Z z_tuple PyProof.Rows.boot_tuple) i8))))))))).pt (m6 (B0 a1l)) F4)
   (m6 (O6 ((w_or (a0u (N2 (a23 z_isinstance (d7 (A2 hu (dv 5) i6) (d7 (a7Z z_tuple PyProof.Rows.boot_tuple) i8))))) (a3i (a0u (N2 (a88 rfl z_all (d7 (P6 (a0K [] trivial) (T7 (A2 hu (dv 5) i6)) (fun _ _ _ _ _ _ _ _ _=>U8) (fun _ _ _ _ _ _ _ _ _=>(a8Z (z9 h_law_whole (hr.mono (by decide)) (d7 (dv 0) i8)) (a9F (b6r (dv 0) i6))))) i8))))))).pt (m6 (B0 a1l)) F4))))
   (j5 (O6 (N2 (b1l rfl z_any (d7 (P6 (a0K [] trivial) (T7 (b3C (A2 hu (dv 3) i6) a6l (a6u (V5 i6)))) (fun _ _ _ _ _ _ _ _ _=>U8) (fun _ _ _ _ _ _ _ _ _=>(a9b hu (A2 hu (dv 0) i6) (G9 i8)))) i8))) (m6 (B0 a1l)) F4)
   (m6 (B0 (a9b hu (z9 h_law_played (hr.mono (by decide)) (d7 (dv 1) (d7 (A2 hu (dv 3) i6) i8))) (G9 (d7 (V5 i6) (d7 a1l i8)))))))))))))))))
end
theorem b5y {a b:D}{w:W}(h:v7 a b=some w):v7 a b=some w:=h
theorem b2W {a b:D}{w:W}(h:M4 a b=some w):M4 a b=some w:=h
theorem b3B {a b:D}{w:W}(h:a0C a b=some w):a0C a b=some w:=h
theorem a5T {a b:D}{w:W}(h:inD a b=some w):inD a b=some w:=h
theorem a2C {a b:D}{w:W}(h:G7 a b=some w):G7 a b=some w:=h
theorem a5Z {ρ:k9}:a4x ρ=some (.ok (.own (.dct [])) ρ):=rfl
theorem a9E {s1:SM}{ρ ρ1 ρ2:k9}(h:s1 ρ=some (.nx ρ1))(e:ρ1=ρ2):s1 ρ=some (.nx ρ2):=e ▸ h
local macro_rules | `(tactic| walk_at "op")=>`(tactic| first
  | with_reducible assumption
  | (with_reducible apply N9
     · first | decide | omega | assumption)
  | (with_reducible apply a6C
     · first | exact ⟨by decide,by decide⟩ | assumption | exact ⟨by omega,by omega⟩)
  | (with_reducible apply W0
     · first | exact .inl ⟨by decide,by decide⟩ | exact .inr ⟨by decide,by decide⟩ | assumption | exact .inl ⟨by omega,by omega⟩ | exact .inr ⟨by omega,by omega⟩)
  | (with_reducible apply b5y
     · first | assumption | rfl)
  | (with_reducible apply b2W
     · first | assumption | rfl)
  | (with_reducible apply b3B
     · first | assumption | rfl)
  | (with_reducible apply a5T
     · first | assumption | rfl)
  | (with_reducible apply a2C
     · first | assumption | rfl)
  | rfl
  | assumption)
local macro_rules | `(tactic| walk_at "ev")=>`(tactic| first
  | with_reducible assumption
  | with_reducible exact k6
  | with_reducible exact i7
  | with_reducible exact a5Z
  | with_reducible exact B6
  | (with_reducible apply a9E B6
     · rfl)
  | (with_reducible apply d8
     · rfl)
  | (with_reducible apply d9
     · walk_at "ev"
     · walk_at "ev")
  | (with_reducible apply f9
     · walk_at "ev"
     · walk_at "ev"
     · rfl
     · rfl
     · walk_at "op")
  | (with_reducible apply U7
     · walk_at "ev"
     · rfl
     · walk_at "op")
  | (with_reducible apply B3
     · walk_at "ev"
     · rfl
     · walk_at "op")
  | (with_reducible apply A5
     · walk_at "ev"
     · rfl
     · rfl
     · walk_at "fm"
     · rfl
     · rfl)
  | (with_reducible apply C0
     · walk_at "ev")
  | (with_reducible apply D8
     · walk_at "ev"
     · rfl
     · walk_at "op")
  | (with_reducible apply u5
     · walk_at "ev"
     · rfl)
  | (with_reducible apply L6
     · walk_at "ev"
     · rfl)
  | (with_reducible apply a3K
     · walk_at "ev")
  | (with_reducible apply Q3
     · walk_at "ev"
     · rfl
     · first | assumption | exact Nat.le_of_ble_eq_true rfl)
  | (with_reducible apply P9
     · walk_at "ev"
     · rfl
     · first | assumption | exact Nat.le_of_ble_eq_true rfl)
  | (with_reducible apply g9
     · walk_at "ev"
     · walk_at "ev")
  | (with_reducible apply S9
     · walk_at "ev")
  | (with_reducible apply b3D
     · walk_at "ev"
     · rfl)
  | (with_reducible apply a2L
     · walk_at "ev"
     · rfl
     · walk_at "ev"
     · rfl
     · rfl
     · walk_at "fm")
  | (with_reducible apply b3p
     · walk_at "ev"
     · rfl
     · walk_at "ev"
     · rfl
     · rfl
     · rfl)
  | (with_reducible apply b4a
     · walk_at "ev"
     · rfl
     · walk_at "ev"
     · walk_at "ev"
     · rfl
     · rfl
     · rfl
     · rfl)
  | (with_reducible apply a49
     · rfl
     · walk_at "ev"
     · rfl
     · rfl
     · walk_at "fm")
  | (with_reducible apply O7
     · walk_at "ev"
     · walk_at "fm")
  | (with_reducible apply T3
     · walk_at "ev"
     · rfl
     · walk_at "op")
  | (with_reducible apply L1
     · walk_at "ev"
     · rfl
     · rfl)
  | (with_reducible apply W6
     · walk_at "ev"
     · rfl
     · rfl
     · walk_at "fm"
     · rfl
     · first | rfl | assumption)
  | (with_reducible apply a2h
     · walk_at "ev"
     · rfl
     · rfl
     · walk_at "ev")
  | (with_reducible apply a30
     · walk_at "ev"
     · walk_at "ev")
  | (with_reducible apply b7b
     · walk_at "ev"
     · walk_at "ev")
  | (with_reducible apply b4s
     · walk_at "ev"
     · rfl
     · rfl
     · walk_at "ev"
     · rfl
     · rfl
     · walk_at "op")
  | with_reducible exact a68
  | (with_reducible apply a2f
     · walk_at "ev"
     · rfl)
  | (with_reducible apply a7I
     · walk_at "ev"
     · walk_at "ev"
     · walk_at "ev"
     · rfl
     · walk_at "op")
  | (with_reducible apply D0
     · walk_at "ev"
     · walk_at "fm"
     · walk_at "fm"
     · first | exact .inr rfl | exact .inl (by assumption)))
theorem k8 (ns:List Int):intsOf (ns.map D.int)=some ns:=by
 induction ns with
 | nil=>rfl
 | cons n r ih=>simp [intsOf,ih]
theorem a6J {α β:Type}(f:α→β)(xs:List α)(i:Int):L2.atI (xs.map f) i=(L2.atI xs i).map f:=by
 unfold L2.atI
 rw [List.length_map]
 cases ixN xs.length i with
 | none=>rfl
 | some j=>simp
theorem b1O {ns:List Int}{k:Int}(h:ns≠[]):L2.atI ns (k % (ns.length:Int))=some (a2m ns k):=by
 have q:=b3h (ns:=ns) (k:=k) h
 rw [a6J,List.length_map] at q
 cases e:L2.atI ns (k % (ns.length:Int)) with
 | none=>rw [e] at q; cases q
 | some v=>
  rw [e] at q
  have:V.int v=V.int (a2m ns k):=Option.some.inj q
  injection this with z
  rw [z]
theorem I8 (ns:List Int):(ns.map D.int).all Q8=true:=by
 rw [List.all_map,List.all_eq_true]
 intro x _
 rfl
theorem a6O {ns:List Int}{k:Int}:W8 [.lst (ns.map D.int),.int k]=some (.ret (.val (.int (a2m ns k))) []):=by
 show (intsOf (ns.map D.int)).map _=_
 rw [k8]
 rfl
theorem V3 {ns:List Int}{k:Int}:l7 [.lst (ns.map D.int),.int k]=some (.ret (.val (.int (A6 ns k))) []):=by
 show (intsOf (ns.map D.int)).map _=_
 rw [k8]
 rfl
local macro_rules | `(tactic| walk_at "fm")=>`(tactic| first | assumption | exact a6O | exact V3 | rfl)
theorem a4Y:∀ ds r,W8 ds=some r→G8 a10 2 [false,false] ds=some r:=by
 intro ds r h
 match ds,h with
 | [.lst ds,.int k],h=>
  cases hb:intsOf ds with
  | none=>have h':(intsOf ds).map _=some r:=h; rw [hb] at h'; cases h'
  | some ns=>
   have:=y9 hb
   subst this
   rw [a6O] at h
   cases h
   cases ns with
   | nil=>rfl
   | cons n r=>
    have q:v7 (.lst ((n::r).map D.int)) (.int (k % ((((n::r).map D.int).length:Nat):Int)))=some (.val (.int (a2m (n::r) k))):=by
     show (L2.atI _ _).map _=_
     rw [List.length_map,a6J,b1O (by simp)]
     rfl
    have hp:(0:Int) < ((((n::r).map D.int).length:Nat):Int):=by simp
    apply E7
    ·apply F8
     apply C8
     ·walk_at "ev"
     ·rfl
     ·walk_at "ev"
    ·rfl
theorem a5W:∀ ds r,l7 ds=some r→G8 a3o 3 [false,false] ds=some r:=by
 intro ds r h
 match ds,h with
 | [.lst ds,.int k],h=>
  cases hb:intsOf ds with
  | none=>have h':(intsOf ds).map _=some r:=h; rw [hb] at h'; cases h'
  | some ns=>
   have:=y9 hb
   subst this
   rw [V3] at h
   cases h
   apply E7
   ·walk_at "ev"
   ·rfl
theorem a38:∀ ds r,D5 ds=some r→G8 a1r 1 [false] ds=some r:=by
 intro ds r h
 match ds,h with
 | [d],h=>
  obtain ⟨hn,h⟩:=l8 h
  cases h
  cases d <;> first | rfl | cases hn
theorem a79 {d:D}(h:b65 d=true):D5 [d]=some (.ret (.val (.bl (a7z d))) []):=r8 h
noncomputable def toI:D→Int
 | .int i=>i
 | _=>0
theorem b4o (m x most:Int)(hx:x=m / 6 % (most + 1)):v7 (.lst [.int 1,.int 2,.int 3,.int 2,.int 3,.int x]) (.int (m % 6))=some (.val (.int (sizeV m most))):=by
 have h:m % 6=0∨m % 6=1∨m % 6=2∨m % 6=3∨m % 6=4∨m % 6=5:=by omega
 unfold sizeV
 subst hx
 rcases h with h | h | h | h | h | h <;> rw [h] <;> rfl
theorem b3z (m most:Int)(h:0≤most):0≤sizeV m most:=by
 unfold sizeV
 have:=Int.emod_nonneg (m / 6) (b:=most + 1) (by omega)
 split <;> (try split) <;> (try split) <;> (try split) <;> (try split) <;> omega
theorem a6s (m most:Int)(h:0≤most):sizeV m most≤most + 3:=by
 unfold sizeV
 have:=Int.emod_lt_of_pos (m / 6) (b:=most + 1) (by omega)
 split <;> (try split) <;> (try split) <;> (try split) <;> (try split) <;> omega
theorem a2B {ns:List Int}{b v most:Int}(h1:0 < v)(h2:v < 1000)(h3:0≤most)(h4:most < 1000):C5 [.lst (ns.map D.int),.int b,.int v,.int most]=some (.ret (.val (.tup ((A7 ns b v most).map D.int))) []):=by
 show (intsOf (ns.map D.int)).bind _=_
 rw [k8]
 exact r8 ⟨h1,h2,h3,h4⟩
noncomputable def a6S (ns:List Int)(b v most:Int)(n sz:Int)(pre:List D):k9:=[some (.sh (.lst (ns.map D.int))),some (.sh (.int b)),some (.sh (.int v)),some (.sh (.int most)),some (.sh (.int n)),some (.sh (.int sz)),
 some (.ow false (.lst (pre.map fun d=>D.int (a7O (A6 ns (b + 1 + toI d)) v)))),pre.getLast?.map fun d=>C.sh d,pre.getLast?.map fun d=>C.sh (.int (A6 ns (b + 1 + toI d)))]
theorem a3A:∀ ds r,C5 ds=some r→G8 a0L 9 [false,false,false,false] ds=some r:=by
 intro ds r h
 match ds,h with
 | [.lst ds,.int b,.int v,.int most],h=>
  cases hb:intsOf ds with
  | none=>have h':(intsOf ds).bind _=some r:=h; rw [hb] at h'; cases h'
  | some ns=>
   have:=y9 hb
   subst this
   have h':(intsOf (ns.map D.int)).bind _=some r:=h
   rw [k8] at h'
   obtain ⟨⟨h1,h2,h3,h4⟩,_⟩:=l8 h'
   rw [a2B h1 h2 h3 h4] at h
   cases h
   have hsz:=b4o (A6 ns b) (A6 ns b / 6 % (most + 1)) most rfl
   have hlo:=b3z (A6 ns b) most h3
   have hhi:=a6s (A6 ns b) most h3
   generalize hS:sizeV (A6 ns b) most=S at hsz hlo hhi
   have hi:ints1 [.int S]=some ((List.range S.toNat).map fun k=>D.int (0 + ((k:Nat):Int))):=r8 ⟨by omega,by omega⟩
   have hl:=a5r (ds:=(List.range S.toNat).map fun k=>D.int (0 + ((k:Nat):Int))) (tg:=E4 7) (s1:=(l6 (n9 8 (n5 [false,false] l7 (c6 (c9 0) (c6 (f7 z8 (f7 z8 (c9 1) (mC (.int 1))) (c9 7)) g8))))
 (L5 (D4 6 (c6 (f7 R8 (f7 z8 (mC (.int 1)) (f7 F5 (f7 a3v (c9 8) (mC (.int 2))) (c9 2))) (f7 a6j (mC (.int 1)) (f7 R8 (mC (.int 2)) (f7 F5 (c9 8) (mC (.int 2)))))) g8))))) (a6S ns b v most (A6 ns b) S) (by
    intro pre d post e
    have hd:d∈((List.range S.toNat).map fun k=>D.int (0 + ((k:Nat):Int))):=by rw [e]; simp
    obtain ⟨k,_,rfl⟩:=List.mem_map.mp hd
    have hz:small (pre.map fun d=>D.int (a7O (A6 ns (b + 1 + toI d)) v)).length:=by
     have:=congrArg List.length e
     simp at this
     show List.length _≤1000000
     rw [List.length_map]
     omega
    refine ⟨_,rfl,.inl ?_⟩
    apply a9E
    ·walk_at "ev"
    ·simp [a6S,a7O,toI])
   apply E7
   ·walk_at "ev"
   ·simp [a6S,a7F,X6,A7,hS,toI,Function.comp_def]
noncomputable def keyed (acc:List Int):List (Key×D):=acc.map fun l=>(.inl l,.bl true)
theorem Q5:∀ {es:List (Key×D)} {ts:List (Int×Int)},pairsOf es=some ts→es=j8 ts
 | [],ts,h=>by cases h; rfl
 | (.inl k,.int v)::r,ts,h=>by
  cases hr:pairsOf r with
  | none=>simp [pairsOf,hr] at h
  | some t2=>
   simp [pairsOf,hr] at h
   subst h
   rw [Q5 hr]
   rfl
 | (.inr k,_)::r,ts,h=>by simp [pairsOf] at h
 | (.inl k,.A3)::r,ts,h=>by simp [pairsOf] at h
 | (.inl k,.bl _)::r,ts,h=>by simp [pairsOf] at h
 | (.inl k,.str _)::r,ts,h=>by simp [pairsOf] at h
 | (.inl k,.tup _)::r,ts,h=>by simp [pairsOf] at h
 | (.inl k,.lst _)::r,ts,h=>by simp [pairsOf] at h
 | (.inl k,.dct _)::r,ts,h=>by simp [pairsOf] at h
 | (.inl k,.ty _)::r,ts,h=>by simp [pairsOf] at h
theorem C4 (ts:List (Int×Int)):pairsOf (j8 ts)=some ts:=by
 induction ts with
 | nil=>rfl
 | cons t r ih=>
  show (pairsOf (j8 r)).map _=_
  rw [ih]
  rfl
theorem a2r (ts:List (Int×Int))(k:Int):J1 (j8 ts) (.inl k)=(j9 ts k).map D.int:=by
 induction ts with
 | nil=>rfl
 | cons t r ih=>
  unfold J1 j9 j8 at *
  rw [List.map_cons,List.find?_cons,List.find?_cons]
  by_cases h:t.1=k
  ·simp [h]
  ·have h2:decide ((Sum.inl t.1:Key)=Sum.inl k)=false:=by simp [h]
   simp only [h2,decide_eq_false h]
   exact ih
theorem a9T (acc:List Int)(k:Int):(J1 (keyed acc) (.inl k)).isSome=decide (k∈acc):=by
 induction acc with
 | nil=>rfl
 | cons t r ih=>
  unfold J1 keyed at *
  rw [List.map_cons,List.find?_cons]
  by_cases h:t=k
  ·simp [h]
  ·have h':¬ k=t:=fun e=>h e.symm
   have h2:decide ((Sum.inl t:Key)=Sum.inl k)=false:=by simp [h]
   simp only [h2]
   rw [ih]
   simp [h']
theorem b4d {ts:List (Int×Int)}{k j:Int}:a0C ((J1 (j8 ts) (.inl k)).getD .A3) (.int j)=some (.val (.bl (decide (j9 ts k≠some j)))):=by
 rw [a2r]
 cases j9 ts k with
 | none=>rfl
 | some v=>
  show some (W.val (.bl (!(v == j))))=_
  by_cases h:v=j <;> simp [h]
theorem a5K (acc:List Int)(l:Int):putD (keyed acc) (.inl l) (.bl true)=keyed (V6 acc l):=by
 unfold putD V6
 by_cases h:l∈acc
 ·rw [if_pos h,if_pos (by simp [keyed,h])]
  unfold keyed
  rw [List.map_map]
  apply List.map_congr_left
  intro x _
  simp
 ·rw [if_neg h,if_neg (by simpa [keyed] using h)]
  simp [keyed]
theorem a7R (acc:List Int)(l:Int):(V6 acc l).length≤acc.length + 1:=by unfold V6; split <;> simp
theorem a9U (ts:List (Int×Int))(acc:List Int)(l:Int):(Z4 ts acc l).length≤acc.length + 1:=by
 unfold Z4
 split
 ·omega
 ·exact a7R _ _
theorem a5e (ts:List (Int×Int)):∀ (ls acc:List Int),(ls.foldl (Z4 ts) acc).length≤acc.length + ls.length
 | [],acc=>by simp
 | l::ls,acc=>by
  have:=a5e ts ls (Z4 ts acc l)
  have:=a9U ts acc l
  simp only [List.foldl_cons,List.length_cons]
  omega
theorem b12 (ts:List (Int×Int))(ls:List Int):(A4 ts ls).length≤ls.length:=by
 have:=a5e ts ls []
 simp at this
 exact this
theorem a5C (ts:List (Int×Int))(ls:List Int)(l:Int):A4 ts (ls++[l])=Z4 ts (A4 ts ls) l:=by simp [A4,List.foldl_append]
theorem a5M {ts:List (Int×Int)}{ls:List Int}(h:ls.length≤1000):Z2 [.dct (j8 ts),.tup (ls.map D.int)]=some (.ret (.own (.lst ((A4 ts ls).map D.int))) []):=by
 show (pairsOf (j8 ts)).bind _=_
 rw [C4]
 show (intsOf (ls.map D.int)).bind _=_
 rw [k8]
 exact r8 h
noncomputable def a5B (ts:List (Int×Int))(ls:List Int)(pre:List D):k9:=[some (.sh (.dct (j8 ts))),some (.sh (.tup (ls.map D.int))),some (.ow false (.dct (keyed (A4 ts (pre.map toI))))),pre.getLast?.map fun d=>C.sh d]
theorem a7S:∀ ds r,Z2 ds=some r→G8 a4j 4 [false,false] ds=some r:=by
 intro ds r h
 match ds,h with
 | [.dct es,.tup ds],h=>
  cases hp:pairsOf es with
  | none=>have h':(pairsOf es).bind _=some r:=h; rw [hp] at h'; cases h'
  | some ts=>
  cases hb:intsOf ds with
  | none=>have h':(pairsOf es).bind _=some r:=h; rw [hp] at h'; have h':(intsOf ds).bind _=some r:=h'; rw [hb] at h'; cases h'
  | some ls=>
   have:=y9 hb
   subst this
   have:=Q5 hp
   subst this
   have hlen:ls.length≤1000:=by
    have h':(pairsOf (j8 ts)).bind _=some r:=h
    rw [C4] at h'
    have h2:(intsOf (ls.map D.int)).bind _=some r:=h'
    rw [k8] at h2
    exact (l8 h2).1
   rw [a5M hlen] at h
   cases h
   have hl:=a5r (ds:=ls.map D.int) (tg:=E4 3) (s1:=(Y5 (z6 (f7 a0C (a7H (c9 0) (B7 S8 (c6 (c9 3) g8))) (mUn P0 (c9 3)))) (a1Y 2 (mC (.bl true)) (c9 3)) nxS)) (a5B ts ls) (by
    intro pre d post e
    have hd:d∈ls.map D.int:=by rw [e]; simp
    obtain ⟨l,_,rfl⟩:=List.mem_map.mp hd
    have hz:small (keyed (A4 ts (pre.map toI))).length:=by
     have:=congrArg List.length e
     have:=b12 ts (pre.map toI)
     simp [keyed] at *
     show List.length _≤1000000
     omega
    have hn:=b4d (ts:=ts) (k:=l.natAbs) (j:=-l)
    refine ⟨_,rfl,.inl ?_⟩
    by_cases hc:j9 ts l.natAbs=some (-l)
    ·apply a9E
     ·apply v8
      ·walk_at "ev"
      ·simp [hc]
      ·walk_at "ev"
     ·simp [a5B,a5C,toI,Z4,hc]
    ·have hput:a2t 2 (.int l) (.bl true) ((a5B ts ls pre).set 3 (some (.sh (.int l))))=some (.nx (((a5B ts ls pre).set 3 (some (.sh (.int l)))).set 2 (some (.ow false (.dct (keyed (V6 (A4 ts (pre.map toI)) l))))))):=by
      rw [← a5K]
      exact r8 hz
     apply a9E
     ·apply C8
      ·walk_at "ev"
      ·simp [hc]
      ·walk_at "ev"
     ·simp [a5B,a5C,toI,Z4,hc])
   apply E7
   ·walk_at "ev"
   ·simp [a5B,a7F,X6,keyed,toI,Function.comp_def]
theorem a7n (ts:F1)(k v:Int):putD (j8 ts) (.inl k) (.int v)=j8 (F6 ts k v):=by
 unfold putD F6 j8
 have e:((ts.map fun kv=>((Sum.inl kv.1:Key),D.int kv.2)).any fun kv=>decide (kv.1=Sum.inl k))=ts.any fun kv=>decide (kv.1=k):=by
  rw [List.any_map]
  congr 1
  funext kv
  simp
 rw [e]
 split
 ·rw [List.map_map,List.map_map]
  refine List.map_congr_left fun kv _=>?_
  by_cases h:kv.1=k
  ·simp [h]
  ·simp [h]
 ·simp
theorem a0O (ts:F1)(k v:Int):(F6 ts k v).length≤ts.length + 1:=by
 unfold F6
 split
 ·simp
 ·simp
theorem b17 (ls:List Int):∀ ts:F1,a1m (j8 ts) (ls.map fun l=>((Sum.inl (v9 l):Key),D.int l))=j8 (ls.foldl (fun ts l=>F6 ts (v9 l) l) ts):=by
 induction ls with
 | nil=>intro ts; rfl
 | cons l r ih=>
  intro ts
  show a1m (putD (j8 ts) (.inl (v9 l)) (.int l)) _=_
  rw [a7n,ih]
  rfl
theorem a8x (ls:List Int):S6 (ls.map fun l=>D.tup [.int (v9 l),.int l])=some (ls.map fun l=>((Sum.inl (v9 l):Key),D.int l)):=by
 induction ls with
 | nil=>rfl
 | cons l r ih=>
  show (pairD (.tup [.int (v9 l),.int l])).bind _=_
  show (S6 _).map _=_
  rw [ih]
  rfl
theorem a5R {ls:List Int}(h:ls.length≤1000):O5 [.lst (ls.map D.int)]=some (.ret (.own (.dct (j8 (F7 ls)))) []):=by
 show (intsOf (ls.map D.int)).bind _=_
 rw [k8]
 exact r8 h
theorem a4K:∀ ds r,O5 ds=some r→G8 a1u 1 [false] ds=some r:=by
 intro ds r h
 match ds,h with
 | [.lst ds],h=>
  cases hb:intsOf ds with
  | none=>have h':(intsOf ds).bind _=some r:=h; rw [hb] at h'; cases h'
  | some ls=>
   have:=y9 hb
   subst this
   have h':(intsOf (ls.map D.int)).bind _=some r:=h
   rw [k8] at h'
   obtain ⟨h1,_⟩:=l8 h'
   rw [a5R h1] at h
   cases h
   have hc:D3 (E4 0) E6 (F2 (c6 (B7 S8 (c6 (c9 0) g8)) (c6 (c9 0) g8))) (T6 1 [] (z7 1 [false] [.lst (ls.map D.int)])) (ls.map D.int)=some (ls.map fun l=>D.tup [.int (v9 l),.int l]):=by
    rw [show (ls.map fun l=>D.tup [.int (v9 l),.int l])=(ls.map D.int).map (fun d=>D.tup [.int (v9 (toI d)),.int (toI d)]) by simp [toI,Function.comp_def]]
    apply a09
    intro d hd
    obtain ⟨l,_,rfl⟩:=List.mem_map.mp hd
    refine ⟨[some (.sh (.int l))],.val (.tup [.int (v9 l),.int l]),[some (.sh (.int l))],[some (.sh (.int l))],rfl,?_,rfl⟩
    walk_at "ev"
   have hz:small (ls.map D.int).length:=by rw [List.length_map]; unfold small; omega
   have hfl:(ls.map fun l=>D.tup [.int (v9 l),.int l]).all Q8=true:=by
    rw [List.all_map,List.all_eq_true]
    intro x _
    rfl
   have hm:=D0 (mi:=A1 (c9 0)) (ρ:=z7 1 [false] [.lst (ls.map D.int)]) (own:=1) (fr:=[]) (by walk_at "ev") hz hc (.inl hfl)
   have hd:a0c [.lst (ls.map fun l=>D.tup [.int (v9 l),.int l])]=some (.own (.dct (j8 (F7 ls)))):=by
    show (S6 _).map _=_
    rw [a8x]
    show some (W.own (.dct (a1m (j8 []) _)))=_
    rw [b17]
    rfl
   apply E7
   ·walk_at "ev"
   ·rfl
theorem a2D (ts:F1):Y7 (.dct (j8 ts))=true:=by
 show (j8 ts).all _=true
 unfold j8
 rw [List.all_map,List.all_eq_true]
 intro x _
 rfl
local macro_rules | `(tactic| walk_at "fm")=>`(tactic| first | assumption | exact a6O | exact V3 | rfl)
theorem B9 {n:Nat}(h:n≤100000):small n:=by unfold small; omega
theorem a4r (l:Int)(acc:List Int):inL (.int l) (acc.map D.int)=some (decide (l∈acc)):=by
 induction acc with
 | nil=>rfl
 | cons a r ih=>
  show (match Z8 7 (.int a) (.int l),inL (.int l) (r.map D.int) with | some a,some b=>some (a || b) | _,_=>none)=_
  rw [ih]
  show some ((a == l) || decide (l∈r))=_
  by_cases h:l=a
  ·simp [h]
  ·have h':¬ a=l:=fun e=>h e.symm
   simp [h,h']
theorem b4J (l:Int)(c:List Int):inD (.int l) (.tup (c.map D.int))=some (.val (.bl (decide (l∈c)))):=by
 show (inL (.int l) (c.map D.int)).bind _=_
 rw [a4r]
 rfl
theorem b2d (l:Int)(c:List Int):inD (.int l) (.lst (c.map D.int))=some (.val (.bl (decide (l∈c)))):=by
 show (inL (.int l) (c.map D.int)).bind _=_
 rw [a4r]
 rfl
theorem a9s (l:Int)(c:List Int):G7 (.int l) (.lst (c.map D.int))=some (.val (.bl (!decide (l∈c)))):=by
 show (inL (.int l) (c.map D.int)).bind _=_
 rw [a4r]
 rfl
theorem b1t (bs:List Bool):Z6 (bs.map D.bl)=some bs:=by
 induction bs with
 | nil=>rfl
 | cons b r ih=>
  show (Z6 (r.map D.bl)).map _=_
  rw [ih]
  rfl
theorem a5V (bs:List Bool):a40 [.lst (bs.map D.bl)]=some (.val (.bl (bs.all id))):=by
 show (Z6 _).bind _=_
 rw [b1t]
 rfl
theorem a6e (bs:List Bool):a7G [.lst (bs.map D.bl)]=some (.val (.bl (bs.any id))):=by
 show (Z6 _).bind _=_
 rw [b1t]
 rfl
theorem U4 (bs:List Bool):(bs.map D.bl).all Q8=true:=by
 rw [List.all_map,List.all_eq_true]
 intro x _
 rfl
theorem a0b {i:Nat}{mr:M (List W)}{w:W}{d:D}{ds:List D}{ρ ρ1 ρ2 ρ3:k9}{l:Bool}{ds0:List D}(h0:ρ[i]?=some (some (.ow l (.lst ds0))))(ha:mr ρ=some (.ok [w] ρ1))(hl:C7 w ρ1=some (.ok d ρ2))(h1:ρ2[i]?=some (some (.ow l (.lst ds))))(hz:small ds.length)(hs:ρ2.set i (some (.ow l (.lst (ds++[d]))))=ρ3):L5 (D4 i mr) ρ=some (.nx ρ3):=by
 subst hs
 exact a3K (a49 h0 ha hl h1 hz)
theorem eq_int (a b:Int):M4 (.int a) (.int b)=some (.val (.bl (decide (a=b)))):=by
 show some (W.val (.bl (a == b)))=_
 by_cases h:a=b <;> simp [h]
section
variable {tg:FT}{mt:M Bool}{me:M W}{ρ ρ1 ρ2 ρ3 ρ4:k9}{d y:D}{w:W}
theorem turn_if {k:Bool}(h1:tg d ρ=some ρ1)(h2:mt ρ1=some (.ok k ρ2))(h3:k=true→∃ w ρ3 ρ4,me ρ2=some (.ok w ρ3)∧C7 w ρ3=some (.ok y ρ4)):compTurn tg mt me ρ d=some (if k=true then some y else none):=by
 cases k with
 | true=>
  obtain ⟨w,ρ3,ρ4,a,b⟩:=h3 rfl
  exact a65 h1 h2 a b
 | false=>exact b3Q h1 h2
theorem a2N {α:Type}{f g:α→D}{t:α→Bool}{xs:List α}(h:∀ x∈xs,compTurn tg mt me ρ (f x)=some (if t x=true then some (g x) else none)):D3 tg mt me ρ (xs.map f)=some ((xs.filter t).map g):=by
 induction xs with
 | nil=>rfl
 | cons x r ih=>
  have h1:=h x List.mem_cons_self
  have ih:=ih fun y hy=>h y (List.mem_cons_of_mem _ hy)
  rw [List.map_cons]
  unfold D3
  rw [h1]
  cases hx:t x with
  | true=>rw [List.filter_cons_of_pos hx,ih]; rfl
  | false=>rw [List.filter_cons_of_neg (by rw [hx]; decide),ih]; rfl
theorem K8 {α:Type}{f g:α→D}{xs:List α}(h:∀ x∈xs,∃ ρ1 w ρ2 ρ3,tg (f x) ρ=some ρ1∧me ρ1=some (.ok w ρ2)∧C7 w ρ2=some (.ok (g x) ρ3)):D3 tg E6 me ρ (xs.map f)=some (xs.map g):=by
 have:=a2N (tg:=tg) (mt:=E6) (me:=me) (ρ:=ρ) (f:=f) (g:=g) (t:=fun _=>true) (xs:=xs) (fun x hx=>by
  obtain ⟨ρ1,w,ρ2,ρ3,a,b,c⟩:=h x hx
  exact a65 a rfl b c)
 rw [this,List.filter_eq_self.mpr (fun _ _=>rfl)]
end
theorem b35 (O tr:List Int):D3 (E4 0) E6 (f7 inD (c9 0) (c9 1)) [none,some (.sh (.lst (tr.map D.int)))] (O.map D.int)=some ((O.map fun l=>decide (l∈tr)).map D.bl):=by
 rw [List.map_map]
 exact K8 fun l _=>⟨_,_,_,_,rfl,f9 (d8 rfl) (d8 rfl) rfl rfl (b2d l tr),rfl⟩
theorem b5j {cs:List (List Int)}{k:Nat}{c:List Int}(h:cs[k]?=some c):v7 (.lst (j7 cs)) (.int (k:Int))=some (.val (.tup (c.map D.int))):=by
 show (L2.atI (j7 cs) (k:Int)).map W.val=_
 rw [a87 (v:=D.tup (c.map D.int)) (by unfold j7; rw [List.getElem?_map,h]; rfl)]
 rfl
theorem a11 (cs:List (List Int)):(j7 cs).length=cs.length:=List.length_map _
theorem Y9 (c:List Int):Q8 (.tup (c.map D.int))=true:=by
 show (c.map D.int).all (a1s 5)=true
 rw [List.all_map,List.all_eq_true]
 intro x _
 rfl
theorem b1i (cs:List (List Int)):(j7 cs).all Q8=true:=by
 unfold j7
 rw [List.all_map,List.all_eq_true]
 intro c _
 exact Y9 c
theorem b0j (cs:List (List Int)):(a3j (.own (.lst (j7 cs))) && ([]:List D).all Y7)=true:=by
 show ((j7 cs).all _ && true)=true
 rw [Bool.and_true]
 unfold j7
 rw [List.all_map,List.all_eq_true]
 intro c _
 exact Y9 c
theorem a7j (n:Nat)(a b:Int):Z8 n (.int a) (.int b)=some (decide (a=b)):=by
 have:eqF (.int a) (.int b)=some (decide (a=b)):=by
  show some (a == b)=_
  by_cases h:a=b <;> simp [h]
 cases n <;> exact this
theorem a2P (n:Nat):∀ a b:List Int,eqL (Z8 n) (a.map D.int) (b.map D.int)=some (decide (a=b))
 | [],[]=>by simp [eqL]
 | [],_::_=>by simp [eqL]
 | _::_,[]=>by simp [eqL]
 | x::r,y::t=>by
  show (match Z8 n (.int x) (.int y),eqL (Z8 n) (r.map D.int) (t.map D.int) with | some a,some b=>some (a && b) | _,_=>none)=_
  rw [a7j,a2P n r t]
  by_cases h1:x=y <;> by_cases h2:r=t <;> simp [h1,h2]
theorem a9L (n:Nat):∀ a b:List (List Int),eqL (Z8 (n + 1)) (j7 a) (j7 b)=some (decide (a=b))
 | [],[]=>by simp [eqL,j7]
 | [],_::_=>by simp [eqL,j7]
 | _::_,[]=>by simp [eqL,j7]
 | x::r,y::t=>by
  show (match eqL (Z8 n) (x.map D.int) (y.map D.int),eqL (Z8 (n + 1)) (j7 r) (j7 t) with | some a,some b=>some (a && b) | _,_=>none)=_
  rw [a2P,a9L n r t]
  by_cases h1:x=y <;> by_cases h2:r=t <;> simp [h1,h2]
theorem b5v (a b:List (List Int)):a0C (.lst (j7 a)) (.lst (j7 b))=some (.val (.bl (!decide (a=b)))):=by
 show (eqL (Z8 7) (j7 a) (j7 b)).bind _=_
 rw [a9L]
 rfl
theorem a0H:∀ {ds:List D} {cs:List (List Int)},B4 ds=some cs→ds=j7 cs
 | [],cs,h=>by cases h; rfl
 | .tup ds::r,cs,h=>by
  have h':(intsOf ds).bind (fun c=>(B4 r).map (c::·))=some cs:=h
  cases hc:intsOf ds with
  | none=>rw [hc] at h'; cases h'
  | some c=>
   rw [hc] at h'
   obtain ⟨cs2,h2,rfl⟩:=Option.map_eq_some_iff.mp (show (B4 r).map (c::·)=some cs from h')
   rw [a0H h2,y9 hc]
   rfl
 | .A3::r,cs,h=>by simp [B4] at h
 | .bl _::r,cs,h=>by simp [B4] at h
 | .int _::r,cs,h=>by simp [B4] at h
 | .str _::r,cs,h=>by simp [B4] at h
 | .ty _::r,cs,h=>by simp [B4] at h
 | .lst _::r,cs,h=>by simp [B4] at h
 | .dct _::r,cs,h=>by simp [B4] at h
theorem N5 (cs:List (List Int)):B4 (j7 cs)=some cs:=by
 induction cs with
 | nil=>rfl
 | cons c r ih=>
  show (intsOf (c.map D.int)).bind (fun c=>(B4 (j7 r)).map (c::·))=_
  rw [k8]
  show (B4 (j7 r)).map (c::·)=_
  rw [ih]
  rfl
theorem b0i {v:Int}(h1:0 < v)(h2:v≤4):v=1∨v=2∨v=3∨v=4:=by omega
theorem b5s {v:Int}(h1:0 < v)(h2:v≤4):v7 (.lst [.int 1,.int 2,.int 4,.int 8,.int 16,.int 32]) (.int v)=some (.val (.int (a6R v:Nat))):=by
 rcases b0i h1 h2 with rfl | rfl | rfl | rfl <;> rfl
theorem b6M {j:Int}(h1:0≤j)(h2:j < 5):v7 (.lst [.int 1,.int 2,.int 4,.int 8,.int 16]) (.int j)=some (.val (.int (pwV j))):=by
 have:j=0∨j=1∨j=2∨j=3∨j=4:=by omega
 rcases this with rfl | rfl | rfl | rfl | rfl <;> rfl
theorem b5U (j:Int):0 < pwV j∧pwV j < 1073741824:=by
 unfold pwV
 split <;> (try split) <;> (try split) <;> (try split) <;> omega
theorem b5X (v:Int):a6R v≤16:=by
 unfold a6R
 split <;> (try split) <;> (try split) <;> omega
noncomputable def mdE (v:Int)(cs F:List (List Int))(n:Int)(M:List Int)(o5:Option C):k9:=[some (.sh (.int v)),some (.sh (.lst (j7 cs))),some (.ow false (.lst (j7 F))),some (.sh (.int n)),some (.ow false (.lst (M.map D.int))),o5]
theorem a4H (v:Int)(cs F:List (List Int))(n:Int)(h1:0 < v)(h2:v≤4):∀ (m k:Nat) (o5:Option C),m + k=v.toNat→∃ o',forL (E4 5) S5 ((List.range' k m).map fun j=>D.int (0 + ((j:Nat):Int))) (mdE v cs F n ((List.range k).map (a4Q v n)) o5)=some (.nx (mdE v cs F n (Q0 v n) o'))
 | 0,k,o5,h=>⟨o5,by rw [show k=v.toNat by omega]; rfl⟩
 | m + 1,k,o5,h=>by
  obtain ⟨o',ih⟩:=a4H v cs F n h1 h2 m (k + 1) (some (.sh (.int (k:Int)))) (by omega)
  refine ⟨o',?_⟩
  rw [List.range'_succ,List.map_cons,Int.zero_add]
  refine K6 rfl ?_ ih
  have hk:(k:Int) < v:=by omega
  have pa:=b6M (j:=v - 1 - (k:Int)) (by omega) (by omega)
  have dv:a3v (.int n) (.int (pwV (v - 1 - (k:Int))))=some (.val (.int (n / pwV (v - 1 - (k:Int))))):=a6C (b5U _)
  have hz:small (((List.range k).map (a4Q v n)).map D.int).length:=by unfold small; rw [List.length_map,List.length_map,List.length_range]; omega
  have es:((List.range (k + 1)).map (a4Q v n)).map D.int=((List.range k).map (a4Q v n)).map D.int++[D.int (a4Q v n k)]:=by rw [List.range_succ,List.map_append,List.map_append]; rfl
  unfold mdE
  rw [es]
  exact a0b rfl (d9 (f9 (f9 (d8 rfl) k6 rfl rfl rfl) (f9 (f9 k6 (f9 (f9 (d8 rfl) (f9 (Q3 (d9 k6 (d9 k6 (d9 k6 (d9 k6 (d9 k6 i7))))) rfl (Nat.le_of_ble_eq_true rfl)) (f9 (f9 (d8 rfl) k6 rfl rfl rfl) (d8 rfl) rfl rfl rfl) rfl rfl pa) rfl rfl dv) k6 rfl rfl (N9 (by decide))) rfl rfl (W0 (.inl ⟨by decide,by decide⟩))) k6 rfl rfl rfl) rfl rfl (W0 (.inl ⟨by omega,by omega⟩))) i7) rfl rfl hz rfl
theorem any_eq (O M:List Int):(O.map fun l=>decide (l∈M)).any id=a2a O M:=by rw [List.any_map]; rfl
noncomputable def anD (M:List Int):D→D
 | .tup ds=>.bl (a2a ((intsOf ds).getD []) M)
 | _=>.A3
theorem b2k (M:List Int)(cs:List (List Int))(hl:∀ c∈cs,c.length≤1000):D3 (E4 0) E6 (B7 a7G (c6 (C6 (A1 (c9 0)) (E4 0) E6 (f7 inD (c9 0) (c9 1)) 1 [1]) g8)) [none,some (.sh (.lst (M.map D.int)))] (j7 cs)=some ((cs.map fun c=>a2a c M).map D.bl):=by
 rw [show (cs.map fun c=>a2a c M).map D.bl=(j7 cs).map (anD M) by
  unfold j7
  rw [List.map_map,List.map_map]
  refine List.map_congr_left fun c _=>?_
  show D.bl (a2a c M)=D.bl (a2a ((intsOf (c.map D.int)).getD []) M)
  rw [k8]
  rfl]
 apply a09
 intro d hd
 obtain ⟨c,hc,rfl⟩:=List.mem_map.mp hd
 have e:anD M (.tup (c.map D.int))=.bl (a2a c M):=by
  show D.bl (a2a ((intsOf (c.map D.int)).getD []) M)=_
  rw [k8]
  rfl
 rw [e]
 have cl:=hl c hc
 have m1:=D0 (mi:=A1 (c9 0)) (own:=1) (fr:=[1]) (ρ:=[some (.sh (.tup (c.map D.int))),some (.sh (.lst (M.map D.int)))]) (ρ1:=[some (.sh (.tup (c.map D.int))),some (.sh (.lst (M.map D.int)))]) (L1 (d8 rfl) rfl rfl) (by unfold small; rw [List.length_map]; omega) (b35 c M) (.inl (U4 _))
 have an:=a6e (c.map fun l=>decide (l∈M))
 rw [any_eq] at an
 exact ⟨[some (.sh (.tup (c.map D.int))),some (.sh (.lst (M.map D.int)))],.val (.bl (a2a c M)),[some (.sh (.tup (c.map D.int))),some (.sh (.lst (M.map D.int)))],[some (.sh (.tup (c.map D.int))),some (.sh (.lst (M.map D.int)))],rfl,B3 (d9 m1 i7) rfl an,rfl⟩
noncomputable def moE (v:Int)(cs F:List (List Int))(o3 o4 o5:Option C):k9:=[some (.sh (.int v)),some (.sh (.lst (j7 cs))),some (.ow false (.lst (j7 F))),o3,o4,o5]
theorem a0Z (v:Int)(cs:List (List Int))(h1:0 < v)(h2:v≤4)(hz:cs.length≤1000)(hl:∀ c∈cs,c.length≤1000):∀ (js:List Nat) (F:List (List Int)) (o3 o4 o5:Option C),F.length + js.length≤1000→∃ p3 p4 p5,forL (E4 3) a0s (js.map fun j=>D.int (0 + ((j:Nat):Int))) (moE v cs F o3 o4 o5)=some (.nx (moE v cs (F++(js.map fun (n:Nat)=>Q0 v (n:Int)).filter (b0J cs)) p3 p4 p5))
 | [],F,o3,o4,o5,_=>⟨o3,o4,o5,by rw [List.map_nil,List.map_nil,List.filter_nil,List.append_nil]; rfl⟩
 | j::js,F,o3,o4,o5,hn=>by
  rw [List.length_cons] at hn
  have jz:(0:Int) + (j:Int)=(j:Int):=Int.zero_add _
  obtain ⟨q5,hm⟩:=a4H v cs F (j:Int) h1 h2 v.toNat 0 o5 (by omega)
  rw [← List.range_eq_range'] at hm
  have hi:ints1 [.int v]=some ((List.range v.toNat).map fun k=>D.int (0 + ((k:Nat):Int))):=r8 ⟨by omega,by omega⟩
  have s1:n9 4 (P1 g8) (moE v cs F (some (.sh (.int (j:Int)))) o4 o5)=some (.nx (mdE v cs F (j:Int) ((List.range 0).map (a4Q v (j:Int))) o5)):=u5 (Q3 i7 rfl (Nat.le_of_ble_eq_true rfl)) rfl
  have s2:a0n (U0 ints1 (c6 (c9 0) g8)) (E4 5) S5 (mdE v cs F (j:Int) ((List.range 0).map (a4Q v (j:Int))) o5)=some (.nx (mdE v cs F (j:Int) (Q0 v (j:Int)) q5)):=O7 (T3 (d9 (d8 rfl) i7) rfl hi) hm
  have m3:=D0 (mi:=A1 (c9 1)) (own:=1) (fr:=[4]) (ρ:=mdE v cs F (j:Int) (Q0 v (j:Int)) q5) (ρ1:=mdE v cs F (j:Int) (Q0 v (j:Int)) q5) (L1 (d8 rfl) rfl rfl) (by unfold small j7; rw [List.length_map]; omega) (b2k (Q0 v (j:Int)) cs hl) (.inl (U4 _))
  have al:=a5V (cs.map fun c=>a2a c (Q0 v (j:Int)))
  have ea:(cs.map fun c=>a2a c (Q0 v (j:Int))).all id=b0J cs (Q0 v (j:Int)):=by rw [List.all_map]; rfl
  rw [ea] at al
  have c3:=D8 (B3 (d9 m3 i7) rfl al) rfl (k:=b0J cs (Q0 v (j:Int))) rfl
  rw [List.map_cons,List.map_cons,jz]
  cases hs:b0J cs (Q0 v (j:Int)) with
  | false=>
   obtain ⟨p3,p4,p5,ih⟩:=a0Z v cs h1 h2 hz hl js F (some (.sh (.int (j:Int)))) (some (.ow false (.lst ((Q0 v (j:Int)).map D.int)))) q5 (by omega)
   refine ⟨p3,p4,p5,?_⟩
   rw [List.filter_cons_of_neg (by rw [hs]; exact Bool.false_ne_true)]
   exact K6 rfl (g9 s1 (g9 s2 (v8 c3 hs B6))) ih
  | true=>
   obtain ⟨p3,p4,p5,ih⟩:=a0Z v cs h1 h2 hz hl js (F++[Q0 v (j:Int)]) (some (.sh (.int (j:Int)))) (some (.ow false (.lst ((Q0 v (j:Int)).map D.int)))) q5 (by rw [List.length_append,List.length_singleton]; omega)
   refine ⟨p3,p4,p5,?_⟩
   rw [List.filter_cons_of_pos hs,List.append_cons]
   have hzF:small (j7 F).length:=by unfold small j7; rw [List.length_map]; omega
   have eF:j7 (F++[Q0 v (j:Int)])=j7 F++[D.tup ((Q0 v (j:Int)).map D.int)]:=by unfold j7; rw [List.map_append]; rfl
   have s4:L5 (D4 2 (c6 (B7 a0m (c6 (c9 4) g8)) g8)) (mdE v cs F (j:Int) (Q0 v (j:Int)) q5)=some (.nx (mdE v cs (F++[Q0 v (j:Int)]) (j:Int) (Q0 v (j:Int)) q5)):=by
    unfold mdE
    rw [eF]
    exact a0b rfl (d9 (B3 (d9 (d8 rfl) i7) rfl rfl) i7) rfl rfl hzF rfl
   exact K6 rfl (g9 s1 (g9 s2 (C8 c3 hs s4))) ih
theorem a2T {v:Int}{cs:List (List Int)}(h1:0 < v)(h2:v≤4)(hz:cs.length≤1000)(hl:∀ c∈cs,c.length≤1000):C3 [.int v,.lst (j7 cs)]=some (.ret (.own (.lst (j7 (x8 v cs)))) []):=by
 show (B4 (j7 cs)).bind _=_
 rw [N5]
 exact r8 ⟨h1,h2,hz,List.all_eq_true.mpr fun c hc=>decide_eq_true (hl c hc)⟩
theorem a3r:∀ ds r,C3 ds=some r→G8 a01 6 [false,false] ds=some r:=by
 intro ds r h
 match ds,h with
 | [.int v,.lst ds],h=>
  cases hc:B4 ds with
  | none=>have h':(B4 ds).bind _=some r:=h; rw [hc] at h'; cases h'
  | some cs=>
   have e:=a0H hc
   subst e
   have h':(B4 (j7 cs)).bind _=some r:=h
   rw [N5] at h'
   obtain ⟨⟨h1,h2,h3,h4⟩,_⟩:=l8 h'
   have hl:∀ c∈cs,c.length≤1000:=fun c hc=>of_decide_eq_true (List.all_eq_true.mp h4 c hc)
   rw [a2T h1 h2 h3 hl] at h
   cases h
   have cl:=b5X v
   obtain ⟨p3,p4,p5,hL⟩:=a0Z v cs h1 h2 h3 hl (List.range (a6R v)) [] none none none (by rw [List.length_range,List.length_nil]; omega)
   have hi:ints1 [.int ((a6R v:Nat):Int)]=some ((List.range (a6R v)).map fun k=>D.int (0 + ((k:Nat):Int))):=r8 ⟨by omega,by omega⟩
   have s1:n9 2 (P1 g8) (z7 6 [false,false] [.int v,.lst (j7 cs)])=some (.nx (moE v cs [] none none none)):=u5 (Q3 i7 rfl (Nat.le_of_ble_eq_true rfl)) rfl
   exact E7 (g9 s1 (g9 (O7 (T3 (d9 (f9 (Q3 (d9 k6 (d9 k6 (d9 k6 (d9 k6 (d9 k6 (d9 k6 i7)))))) rfl (Nat.le_of_ble_eq_true rfl)) (d8 rfl) rfl rfl (b5s h1 h2)) i7) rfl hi) hL) (L6 (d8 rfl) rfl))) rfl
theorem tabOf_eq:∀ {es:List (Key×D)} {T:Tab},tabOf es=some T→es=u7 T
 | [],T,h=>by cases h; rfl
 | (.inl k,.tup ds)::r,T,h=>by
  have h':(intsOf ds).bind (fun c=>(tabOf r).map ((k,c)::·))=some T:=h
  cases hc:intsOf ds with
  | none=>rw [hc] at h'; cases h'
  | some c=>
   rw [hc] at h'
   obtain ⟨T2,h2,rfl⟩:=Option.map_eq_some_iff.mp (show (tabOf r).map ((k,c)::·)=some T from h')
   rw [tabOf_eq h2,y9 hc]
   rfl
 | (.inr k,_)::r,T,h=>by simp [tabOf] at h
 | (.inl k,.A3)::r,T,h=>by simp [tabOf] at h
 | (.inl k,.bl _)::r,T,h=>by simp [tabOf] at h
 | (.inl k,.int _)::r,T,h=>by simp [tabOf] at h
 | (.inl k,.str _)::r,T,h=>by simp [tabOf] at h
 | (.inl k,.ty _)::r,T,h=>by simp [tabOf] at h
 | (.inl k,.lst _)::r,T,h=>by simp [tabOf] at h
 | (.inl k,.dct _)::r,T,h=>by simp [tabOf] at h
theorem N1 (T:Tab):tabOf (u7 T)=some T:=by
 induction T with
 | nil=>rfl
 | cons t r ih=>
  show (intsOf (t.2.map D.int)).bind (fun c=>(tabOf (u7 r)).map ((t.1,c)::·))=_
  rw [k8]
  show (tabOf (u7 r)).map ((t.1,t.2)::·)=_
  rw [ih]
  rfl
theorem a7t (T:Tab)(k:Int):J1 (u7 T) (.inl k)=(B5 T k).map fun c=>D.tup (c.map D.int):=by
 induction T with
 | nil=>rfl
 | cons t r ih=>
  unfold J1 B5 u7 at *
  rw [List.map_cons,List.find?_cons,List.find?_cons]
  by_cases h:t.1=k
  ·simp [h]
  ·have h2:decide ((Sum.inl t.1:Key)=Sum.inl k)=false:=by simp [h]
   simp only [h2,decide_eq_false h]
   exact ih
theorem a6t {T:Tab}(h:okT T=true):T.length≤60∧∀ kv∈T,kv.2.length≤1000:=by
 unfold okT at h
 simp only [Bool.and_eq_true,decide_eq_true_eq,List.all_eq_true] at h
 exact h
theorem a1e {T:Tab}{k:Int}{c:List Int}(h:B5 T k=some c):(k,c)∈T:=by
 unfold B5 at h
 cases e:T.find? fun kv=>decide (kv.1=k) with
 | none=>rw [e] at h; cases h
 | some kv=>
  rw [e] at h
  have h1:=List.mem_of_find?_eq_some e
  have h2:=List.find?_some e
  simp at h2 h
  rw [← h2,← h]
  exact h1
theorem a86 (T:Tab)(h:Int):G7 (.int h) (.dct (u7 T))=some (.val (.bl (!(B5 T h).isSome))):=by
 show vB (!(J1 (u7 T) (.inl h)).isSome)=_
 rw [a7t]
 cases B5 T h <;> rfl
theorem a53 {T:Tab}{h:Int}{c:List Int}(e:B5 T h=some c):v7 (.dct (u7 T)) (.int h)=some (.val (.tup (c.map D.int))):=by
 show (J1 (u7 T) (.inl h)).map _=_
 rw [a7t,e]
 rfl
theorem b52 (ts:F1)(k:Int):inD (.int k) (.dct (j8 ts))=some (.val (.bl (j9 ts k).isSome)):=by
 show vB (J1 (j8 ts) (.inl k)).isSome=_
 rw [a2r]
 cases j9 ts k <;> rfl
theorem b3V (ls:List Int):M4 (.lst (ls.map D.int)) (.lst [])=some (.val (.bl ls.isEmpty)):=by cases ls <;> rfl
theorem a5s (ls:List Int):(a3j (.own (.lst (ls.map D.int))) && ([]:List D).all Y7)=true:=by
 show (List.all _ _ && true)=true
 rw [I8]
 rfl
theorem a0N:∀ (cs:List (List Int)) (k:Int),(w5 k cs).length=cs.length
 | [],_=>rfl
 | c::cs,k=>by show (w5 (k + 1) cs).length + 1=_; rw [a0N cs]; rfl
theorem O1:∀ (cs:List (List Int)) (k:Int) (kv:Int×List Int),kv∈w5 k cs→k≤kv.1∧kv.1 < k + cs.length∧kv.2∈cs
 | c::cs,k,kv,h=>by
  rcases List.mem_cons.mp h with rfl | h
  ·exact ⟨Int.le_refl _,by simp only [List.length_cons]; omega,List.mem_cons_self⟩
  ·obtain ⟨a,b,d⟩:=O1 cs (k + 1) kv h
   exact ⟨by omega,by simp only [List.length_cons]; omega,List.mem_cons_of_mem _ d⟩
theorem V1:∀ (cs:List (List Int)) (k:Int),((w5 k cs).map (·.1)).Nodup
 | [],_=>List.nodup_nil
 | c::cs,k=>by
  show (k::(w5 (k + 1) cs).map (·.1)).Nodup
  rw [List.nodup_cons]
  refine ⟨fun h=>?_,V1 cs (k + 1)⟩
  obtain ⟨kv,hm,e⟩:=List.mem_map.mp h
  have:=(O1 cs (k + 1) kv hm).1
  omega
theorem a2I (c:List Int):∀ (cs:List (List Int)) (k:Int),w5 k (cs++[c])=w5 k cs++[(k + cs.length,c)]
 | [],k=>by show [(k,c)]=[(k + ((0:Nat):Int),c)]; rw [show k + ((0:Nat):Int)=k by omega]
 | d::cs,k=>by
  show (k,d)::w5 (k + 1) (cs++[c])=(k,d)::(w5 (k + 1) cs++[(k + ((cs.length + 1:Nat):Int),c)])
  rw [a2I c cs (k + 1),show k + 1 + (cs.length:Int)=k + ((cs.length + 1:Nat):Int) by omega]
theorem a72:∀ (cs:List (List Int)) (k:Int),b0x k (j7 cs)=u7 (w5 k cs)
 | [],_=>rfl
 | c::cs,k=>by
  show (Sum.inl k,D.tup (c.map D.int))::b0x (k + 1) (j7 cs)=_
  rw [a72 cs]
  rfl
theorem a6F {T:Tab}{k:Int}{c:List Int}(h:∀ kv∈T,kv.1≠k):putD (u7 T) (.inl k) (.tup (c.map D.int))=u7 (T++[(k,c)]):=by
 unfold putD
 rw [if_neg]
 ·unfold u7; rw [List.map_append]; rfl
 ·intro e
  obtain ⟨x,hx,hk⟩:=List.any_eq_true.mp e
  unfold u7 at hx
  obtain ⟨kv,hm,rfl⟩:=List.mem_map.mp hx
  exact h kv hm (Sum.inl.inj (of_decide_eq_true hk))
theorem a9a:∀ (U T:Tab),((T++U).map (·.1)).Nodup→a1m (u7 T) (u7 U)=u7 (T++U)
 | [],T,_=>by rw [List.append_nil]; rfl
 | kv::U,T,h=>by
  have hk:∀ x∈T,x.1≠kv.1:=fun x hx e=>by
   rw [List.map_append,List.map_cons,List.nodup_append] at h
   exact h.2.2 x.1 (List.mem_map_of_mem hx) kv.1 List.mem_cons_self e
  show a1m (putD (u7 T) (.inl kv.1) (.tup (kv.2.map D.int))) (u7 U)=_
  rw [a6F hk,a9a U (T++[(kv.1,kv.2)]) (by rw [List.append_assoc]; exact h),List.append_assoc]
  rfl
theorem a3k {cs:List (List Int)}(h:cs.length≤1000):Q9 [.lst (j7 cs)]=some (.ret (.own (.dct (u7 (w5 1 cs)))) []):=by
 show (B4 (j7 cs)).bind _=_
 rw [N5]
 exact r8 h
theorem a43:∀ ds r,Q9 ds=some r→G8 a16 1 [false] ds=some r:=by
 intro ds r h
 match ds,h with
 | [.lst ds],h=>
  cases hc:B4 ds with
  | none=>have h':(B4 ds).bind _=some r:=h; rw [hc] at h'; cases h'
  | some cs=>
   have e:=a0H hc
   subst e
   have h':(B4 (j7 cs)).bind _=some r:=h
   rw [N5] at h'
   obtain ⟨h1,_⟩:=l8 h'
   rw [a3k h1] at h
   cases h
   have e1:a82 [.lst (j7 cs)]=some (.own (.dct (u7 (w5 1 cs)))):=by
    show V8 _ (some (W.own (.dct (a1m (u7 []) (b0x 1 (j7 cs))))))=_
    rw [a72,a9a (w5 1 cs) [] (by rw [List.nil_append]; exact V1 cs 1),List.nil_append]
    exact r8 (by rw [a11]; omega)
   exact E7 (L6 (B3 (d9 (d8 rfl) i7) rfl e1) rfl) rfl
theorem keys_map (T:Tab):((u7 T).map fun e=>a4f e.1)=(T.map (·.1)).map D.int:=by
 unfold u7
 rw [List.map_map,List.map_map]
 rfl
theorem a3E {T:Tab}(hd:(T.map (·.1)).Nodup){kv:Int×List Int}(h:kv∈T):B5 T kv.1=some kv.2:=by
 induction T with
 | nil=>cases h
 | cons t r ih=>
  rw [List.map_cons,List.nodup_cons] at hd
  unfold B5 at *
  rw [List.find?_cons]
  rcases List.mem_cons.mp h with rfl | h
  ·simp
  ·have:t.1≠kv.1:=fun e=>hd.1 (by rw [e]; exact List.mem_map_of_mem h)
   simp only [decide_eq_false this]
   exact ih hd.2 h
theorem a9f (ts:F1)(k:Int):G7 (.int k) (.dct (j8 ts))=some (.val (.bl (!(j9 ts k).isSome))):=by
 show vB (!(J1 (j8 ts) (.inl k)).isSome)=_
 rw [a2r]
 cases j9 ts k <;> rfl
theorem a8w {ts:F1}{k l:Int}(h:j9 ts k=some l):v7 (.dct (j8 ts)) (.int k)=some (.val (.int l)):=by
 show (J1 (j8 ts) (.inl k)).map _=_
 rw [a2r,h]
 rfl
theorem b08 (hs:List Int):V2 [.lst (hs.map D.int)]=some (.val (.int (hs.length:Nat))):=by
 show some (W.val (.int _))=_
 rw [List.length_map]
theorem b16 (ts:F1):(j8 ts).length=ts.length:=List.length_map _
noncomputable def srE (T:Tab)(ts rs:F1)(g:Bool)(o4 o5:Option C):k9:=[some (.fz (u7 T)),some (.ow true (.dct (j8 ts))),some (.ow true (.dct (j8 rs))),some (.sh (.bl g)),o4,o5]
theorem b1H {ρ:k9}{i:Nat}{l:Bool}{ts:F1}{k v:Int}(h:ρ[i]?=some (some (.ow l (.dct (j8 ts)))))(hz:ts.length≤100000):a2t i (.int k) (.int v) ρ=some (.nx (ρ.set i (some (.ow l (.dct (j8 (F6 ts k v))))))):=by
 unfold a2t
 rw [h]
 show V8 (small (j8 ts).length) (some (SR.nx (ρ.set i (some (.ow l (.dct (putD (j8 ts) (.inl k) (.int v))))))))=_
 rw [a7n]
 exact r8 (by unfold small; rw [b16]; omega)
theorem a1d {T:Tab}(hT:okT T=true)(hd:(T.map (·.1)).Nodup):∀ (U:Tab) (ts rs:F1) (g:Bool) (o4 o5:Option C),(∀ kv∈U,kv∈T)→ts.length + U.length≤90000→rs.length + U.length≤90000→
  ∃ p4 p5,forL (E4 4) a3p ((U.map (·.1)).map D.int) (srE T ts rs g o4 o5)=some (match J3 ts rs g U with
   | (some k,ts',rs',g')=>SR.rt (.val (.int k)) (srE T ts' rs' g' p4 p5)
   | (none,ts',rs',g')=>SR.nx (srE T ts' rs' g' p4 p5))
 | [],ts,rs,g,o4,o5,_,_,_=>⟨o4,o5,rfl⟩
 | kv::U,ts,rs,g,o4,o5,hU,h1,h2=>by
  rw [List.length_cons] at h1 h2
  have hm:=hU kv List.mem_cons_self
  have hl:=a3E hd hm
  have hc:=(a6t hT).2 _ hm
  have i1:=a53 hl
  have fo:=a5M (ts:=ts) hc
  have fl:=a5s (A4 ts kv.2)
  have en:=b3V (A4 ts kv.2)
  have ln:=b08 (A4 ts kv.2)
  have s1:n9 5 (n5 [false,false] Z2 (c6 (c9 1) (c6 (f7 v7 (c9 0) (c9 4)) g8))) (srE T ts rs g (some (.sh (.int kv.1))) o5)=some (.nx (srE T ts rs g (some (.sh (.int kv.1))) (some (.ow false (.lst ((A4 ts kv.2).map D.int)))))):=
   u5 (W6 (d9 (d8 rfl) (d9 (f9 (d8 rfl) (d8 rfl) rfl rfl i1) i7)) rfl rfl fo rfl fl) rfl
  have es:J3 ts rs g (kv::U)=match scan1 ts rs g kv.1 (A4 ts kv.2) with | none=>(some kv.1,ts,rs,g) | some (ts',rs',g')=>J3 ts' rs' g' U:=rfl
  rw [es]
  generalize A4 ts kv.2=X at *
  have c2:z6 (f7 M4 (c9 5) (P1 g8)) (srE T ts rs g (some (.sh (.int kv.1))) (some (.ow false (.lst (X.map D.int)))))=some (.ok X.isEmpty (srE T ts rs g (some (.sh (.int kv.1))) (some (.ow false (.lst (X.map D.int)))))):=C0 (f9 (d8 rfl) (Q3 i7 rfl (Nat.le_of_ble_eq_true rfl)) rfl rfl en)
  have c3:z6 (f7 M4 (B7 V2 (c6 (c9 5) g8)) (mC (.int 1))) (srE T ts rs g (some (.sh (.int kv.1))) (some (.ow false (.lst (X.map D.int)))))=some (.ok (decide ((X.length:Int)=1)) (srE T ts rs g (some (.sh (.int kv.1))) (some (.ow false (.lst (X.map D.int)))))):=C0 (f9 (B3 (d9 (d8 rfl) i7) rfl ln) k6 rfl rfl (eq_int _ _))
  match X,s1,c2,c3 with
  | [],s1,c2,c3=>exact ⟨some (.sh (.int kv.1)),some (.ow false (.lst [])),a0F rfl (g9 s1 (F8 (C8 c2 rfl (L6 (d8 rfl) rfl))))⟩
  | [l],s1,c2,c3=>
   have ab:S8 [.int l]=some (.val (.int (v9 l))):=rfl
   have m0:∀ {ρ:k9},ρ[5]?=some (some (.ow false (.lst [.int l])))→f7 v7 (c9 5) (mC (.int 0)) ρ=some (.ok (.val (.int l)) ρ):=fun {ρ} h=>f9 (d8 h) k6 (show getD (.slot 5) ρ=some (.lst [.int l]) by unfold getD; simp only [h]) rfl rfl
   have m1:∀ {ρ:k9},ρ[5]?=some (some (.ow false (.lst [.int l])))→B7 S8 (c6 (f7 v7 (c9 5) (mC (.int 0))) g8) ρ=some (.ok (.val (.int (v9 l))) ρ):=fun {ρ} h=>B3 (d9 (m0 h) i7) rfl ab
   have c4:z6 (f7 G7 (B7 S8 (c6 (f7 v7 (c9 5) (mC (.int 0))) g8)) (c9 1)) (srE T ts rs g (some (.sh (.int kv.1))) (some (.ow false (.lst [.int l]))))=some (.ok (!(j9 ts (v9 l)).isSome) (srE T ts rs g (some (.sh (.int kv.1))) (some (.ow false (.lst [.int l]))))):=C0 (f9 (m1 rfl) (d8 rfl) rfl rfl (a9f ts (v9 l)))
   have c5:=a30 (c2:=z6 (f7 G7 (B7 S8 (c6 (f7 v7 (c9 5) (mC (.int 0))) g8)) (c9 1))) c3 c4
   by_cases hs:(j9 ts (v9 l)).isSome=true
   ·obtain ⟨p4,p5,ih⟩:=a1d hT hd U ts rs g (some (.sh (.int kv.1))) (some (.ow false (.lst [.int l]))) (fun x hx=>hU x (List.mem_cons_of_mem _ hx)) (by omega) (by omega)
    refine ⟨p4,p5,?_⟩
    rw [show scan1 ts rs g kv.1 [l]=some (ts,rs,g) from if_pos hs]
    exact K6 rfl (g9 s1 (g9 (v8 c2 rfl B6) (v8 c5 (by rw [hs]; simp) B6))) ih
   ·have hs':(j9 ts (v9 l)).isSome=false:=by simpa using hs
    have l1:=a0O ts (v9 l) l
    have l2:=a0O rs (v9 l) kv.1
    obtain ⟨p4,p5,ih⟩:=a1d hT hd U (F6 ts (v9 l) l) (F6 rs (v9 l) kv.1) true (some (.sh (.int kv.1))) (some (.ow false (.lst [.int l]))) (fun x hx=>hU x (List.mem_cons_of_mem _ hx)) (by omega) (by omega)
    refine ⟨p4,p5,?_⟩
    rw [show scan1 ts rs g kv.1 [l]=some (F6 ts (v9 l) l,F6 rs (v9 l) kv.1,true) from if_neg hs]
    have s3:a1Y 1 (f7 v7 (c9 5) (mC (.int 0))) (B7 S8 (c6 (f7 v7 (c9 5) (mC (.int 0))) g8)) (srE T ts rs g (some (.sh (.int kv.1))) (some (.ow false (.lst [.int l]))))=some (.nx (srE T (F6 ts (v9 l) l) rs g (some (.sh (.int kv.1))) (some (.ow false (.lst [.int l]))))):=a2L (m0 rfl) rfl (m1 rfl) rfl rfl (b1H rfl (by omega))
    have s4:a1Y 2 (c9 4) (B7 S8 (c6 (f7 v7 (c9 5) (mC (.int 0))) g8)) (srE T (F6 ts (v9 l) l) rs g (some (.sh (.int kv.1))) (some (.ow false (.lst [.int l]))))=some (.nx (srE T (F6 ts (v9 l) l) (F6 rs (v9 l) kv.1) g (some (.sh (.int kv.1))) (some (.ow false (.lst [.int l]))))):=a2L (d8 rfl) rfl (m1 rfl) rfl rfl (b1H rfl (by omega))
    exact K6 rfl (g9 s1 (g9 (v8 c2 rfl B6) (C8 c5 (by rw [hs']; simp) (g9 s3 (g9 s4 (u5 k6 rfl)))))) ih
  | a::b::X,s1,c2,c3=>
   obtain ⟨p4,p5,ih⟩:=a1d hT hd U ts rs g (some (.sh (.int kv.1))) (some (.ow false (.lst ((a::b::X).map D.int)))) (fun x hx=>hU x (List.mem_cons_of_mem _ hx)) (by omega) (by omega)
   exact ⟨p4,p5,K6 rfl (g9 s1 (g9 (v8 c2 rfl B6) (v8 (b3g c3 (by simp; omega)) rfl B6))) ih⟩
theorem scan_len:∀ (U:Tab) (ts rs:F1) (g:Bool),(J3 ts rs g U).2.1.length≤ts.length + U.length∧(J3 ts rs g U).2.2.1.length≤rs.length + U.length
 | [],ts,rs,g=>⟨Nat.le_refl _,Nat.le_refl _⟩
 | kv::U,ts,rs,g=>by
  have es:J3 ts rs g (kv::U)=match scan1 ts rs g kv.1 (A4 ts kv.2) with | none=>(some kv.1,ts,rs,g) | some (ts',rs',g')=>J3 ts' rs' g' U:=rfl
  rw [es,List.length_cons]
  generalize A4 ts kv.2=X
  match X with
  | []=>exact ⟨by show ts.length≤_; omega,by show rs.length≤_; omega⟩
  | [l]=>
   by_cases hs:(j9 ts (v9 l)).isSome=true
   ·rw [show scan1 ts rs g kv.1 [l]=some (ts,rs,g) from if_pos hs]
    have:=scan_len U ts rs g
    exact ⟨by show (J3 ts rs g U).2.1.length≤_; omega,by show (J3 ts rs g U).2.2.1.length≤_; omega⟩
   ·rw [show scan1 ts rs g kv.1 [l]=some (F6 ts (v9 l) l,F6 rs (v9 l) kv.1,true) from if_neg hs]
    have:=scan_len U (F6 ts (v9 l) l) (F6 rs (v9 l) kv.1) true
    have l1:=a0O ts (v9 l) l
    have l2:=a0O rs (v9 l) kv.1
    exact ⟨by show (J3 (F6 ts (v9 l) l) (F6 rs (v9 l) kv.1) true U).2.1.length≤_; omega,by show (J3 (F6 ts (v9 l) l) (F6 rs (v9 l) kv.1) true U).2.2.1.length≤_; omega⟩
  | a::b::X=>
   have:=scan_len U ts rs g
   exact ⟨by show (J3 ts rs g U).2.1.length≤_; omega,by show (J3 ts rs g U).2.2.1.length≤_; omega⟩
theorem a21 {T:Tab}(hT:okT T=true)(hd:(T.map (·.1)).Nodup):∀ (n:Nat) (ts rs:F1) (o4 o5:Option C) (r:Option Int×F1×F1),n≤100→ts.length + 60 * n≤20000→rs.length + 60 * n≤20000→K4 T n ts rs=some r→
  ∃ g p4 p5,E2 (C9 (c9 3)) a3c (n + 1) (srE T ts rs true o4 o5)=some (match r with
   | (some k,ts',rs')=>SR.rt (.val (.int k)) (srE T ts' rs' g p4 p5)
   | (none,ts',rs')=>SR.nx (srE T ts' rs' g p4 p5))
 | 0,ts,rs,o4,o5,r,_,_,_,h=>by cases h
 | n + 1,ts,rs,o4,o5,r,hn,h1,h2,h=>by
  have Tl:=(a6t hT).1
  obtain ⟨p4,p5,hf⟩:=a1d hT hd T ts rs false o4 o5 (fun _ h=>h) (by omega) (by omega)
  have sl:=scan_len T ts rs false
  have cT:C9 (c9 3) (srE T ts rs true o4 o5)=some (.ok true (srE T ts rs true o4 o5)):=D8 (d8 rfl) rfl rfl
  have s0:n9 3 (mC (.bl false)) (srE T ts rs true o4 o5)=some (.nx (srE T ts rs false o4 o5)):=u5 k6 rfl
  have hw:a5J 0 (srE T ts rs false o4 o5)=some (.ok ((T.map (·.1)).map D.int) (srE T ts rs false o4 o5)):=by
   rw [← keys_map]
   exact b3l rfl
  have hb:=g9 s0 (O7 hw hf)
  have eV:K4 T (n + 1) ts rs=match J3 ts rs false T with
   | (some k,ts',rs',_)=>some (some k,ts',rs')
   | (none,ts',rs',false)=>some (none,ts',rs')
   | (none,ts',rs',true)=>K4 T n ts' rs':=rfl
  rw [eV] at h
  match hX:J3 ts rs false T,h,hb with
  | (some k,ts',rs',g'),h,hb=>
   cases h
   exact ⟨g',p4,p5,a6B cT hb⟩
  | (none,ts',rs',false),h,hb=>
   cases h
   exact ⟨false,p4,p5,a3L cT hb (b4f (D8 (d8 rfl) rfl rfl))⟩
  | (none,ts',rs',true),h,hb=>
   rw [hX] at sl
   have sl1:ts'.length≤_:=sl.1
   have sl2:rs'.length≤_:=sl.2
   obtain ⟨g,q4,q5,ih⟩:=a21 hT hd n ts' rs' p4 p5 r (by omega) (by omega) (by omega) h
   exact ⟨g,q4,q5,a3L cT hb ih⟩
theorem b0a {T:Tab}{ts rs:F1}{r:Option Int×F1×F1}(h1:okT T=true)(h2:(T.map (·.1)).Nodup)(h3:ts.length≤1000)(h4:rs.length≤1000)(h:K4 T 99 ts rs=some r):U1 [.dct (u7 T),.dct (j8 ts),.dct (j8 rs)]=some (.ret (.val (a8K r.1)) [.dct (j8 r.2.1),.dct (j8 r.2.2)]):=by
 show (tabOf (u7 T)).bind _=_
 rw [N1]
 show (pairsOf (j8 ts)).bind _=_
 rw [C4]
 show (pairsOf (j8 rs)).bind _=_
 rw [C4]
 show V8 _ ((K4 T 99 ts rs).map _)=_
 rw [h]
 exact r8 ⟨h1,h2,h3,h4⟩
theorem a8C:∀ ds r,U1 ds=some r→∃ es,ds[0]?=some (.dct es):=by
 intro ds r h
 match ds,h with
 | [.dct es,.dct fs,.dct gs],h=>exact ⟨es,rfl⟩
theorem a60:∀ ds r,U1 ds=some r→a5l a4B 6 [false,true,true] 0 ds=some r:=by
 intro ds r h
 match ds,h with
 | [.dct es,.dct fs,.dct gs],h=>
  cases ht:tabOf es with
  | none=>have h':(tabOf es).bind _=some r:=h; rw [ht] at h'; cases h'
  | some T=>
   cases hp:pairsOf fs with
   | none=>have h':(tabOf es).bind _=some r:=h; rw [ht] at h'; have h':(pairsOf fs).bind _=some r:=h'; rw [hp] at h'; cases h'
   | some ts=>
    cases hi:pairsOf gs with
    | none=>have h':(tabOf es).bind _=some r:=h; rw [ht] at h'; have h':(pairsOf fs).bind _=some r:=h'; rw [hp] at h'; have h':(pairsOf gs).bind _=some r:=h'; rw [hi] at h'; cases h'
    | some rs=>
     have e1:=tabOf_eq ht
     have e2:=Q5 hp
     have e3:=Q5 hi
     subst e1 e2 e3
     have h':(tabOf (u7 T)).bind _=some r:=h
     rw [N1] at h'
     have h':(pairsOf (j8 ts)).bind _=some r:=h'
     rw [C4] at h'
     have h':(pairsOf (j8 rs)).bind _=some r:=h'
     rw [C4] at h'
     obtain ⟨⟨g1,g2,g3,g4⟩,h''⟩:=l8 h'
     obtain ⟨b,hb,rfl⟩:=Option.map_eq_some_iff.mp h''
     clear h h' h'' ht hp hi
     obtain ⟨g,p4,p5,hL⟩:=a21 g1 g2 99 ts rs none none b (by omega) (by omega) (by omega) hb
     have s1:n9 3 (mC (.bl true)) (b2T 0 (z7 6 [false,true,true] [.dct (u7 T),.dct (j8 ts),.dct (j8 rs)]))=some (.nx (srE T ts rs true none none)):=u5 k6 rfl
     match b,hL with
     | (some k,ts',rs'),hL=>exact a8Y (g9 s1 (F8 hL)) rfl
     | (none,ts',rs'),hL=>exact a8Y (g9 s1 (g9 hL (L6 k6 rfl))) rfl
theorem a2W:∀ (ks nd:List Int),a1m (keyed nd) (keyed ks)=keyed (ks.foldl V6 nd)
 | [],nd=>rfl
 | k::ks,nd=>by
  show a1m (putD (keyed nd) (.inl k) (.bl true)) (keyed ks)=_
  rw [a5K,a2W ks]
  rfl
theorem a2i:∀ ks:List Int,S6 (ks.map fun k=>D.tup [.int k,.bl true])=some (keyed ks)
 | []=>rfl
 | k::ks=>by
  show (pairD (.tup [.int k,.bl true])).bind _=_
  show (S6 _).map _=_
  rw [a2i ks]
  rfl
theorem a5z (ks:List Int):(keyed ks).length=ks.length:=List.length_map _
theorem a4v:∀ (ks nd:List Int),(ks.foldl V6 nd).length≤nd.length + ks.length
 | [],nd=>Nat.le_refl _
 | k::ks,nd=>by
  have h1:=a4v ks (V6 nd k)
  have h2:=a7R nd k
  rw [List.foldl_cons,List.length_cons]
  omega
theorem a7s (c:List Int):(T9 c).length≤c.length:=by
 have:=a4v (c.map v9) []
 rw [List.length_map,List.length_nil,Nat.zero_add] at this
 exact this
theorem a7a {mi:M (List D)}{ρ:k9}{c:List Int}(hi:mi ρ=some (.ok (c.map D.int) ρ))(hc:c.length≤1000):B7 a0c (c6 (C6 mi (E4 0) E6 (F2 (c6 (B7 S8 (c6 (c9 0) g8)) (c6 (mC (.bl true)) g8))) 1 []) g8) ρ=some (.ok (.own (.dct (keyed (T9 c)))) ρ):=by
 have hc1:D3 (E4 0) E6 (F2 (c6 (B7 S8 (c6 (c9 0) g8)) (c6 (mC (.bl true)) g8))) (T6 1 [] ρ) (c.map D.int)=some (c.map fun l=>D.tup [.int (v9 l),.bl true]):=by
  apply K8
  intro l _
  exact ⟨[some (.sh (.int l))],.val (.tup [.int (v9 l),.bl true]),[some (.sh (.int l))],[some (.sh (.int l))],rfl,P9 (d9 (B3 (d9 (d8 rfl) i7) rfl rfl) (d9 k6 i7)) rfl (Nat.le_of_ble_eq_true rfl),rfl⟩
 have hfl:(c.map fun l=>D.tup [.int (v9 l),.bl true]).all Q8=true:=by
  rw [List.all_map,List.all_eq_true]
  intro x _
  rfl
 have m:=D0 (own:=1) (fr:=[]) hi (B9 (by rw [List.length_map]; omega)) hc1 (.inl hfl)
 have hd:a0c [.lst (c.map fun l=>D.tup [.int (v9 l),.bl true])]=some (.own (.dct (keyed (T9 c)))):=by
  show (S6 _).map _=_
  rw [show (c.map fun l=>D.tup [.int (v9 l),.bl true])=(c.map v9).map (fun k=>D.tup [.int k,.bl true]) by rw [List.map_map]; rfl,a2i]
  show some (W.own (.dct (a1m (keyed []) (keyed (c.map v9)))))=_
  rw [a2W]
  rfl
 exact B3 (d9 m i7) rfl hd
theorem in_keyed (nd:List Int)(k:Int):inD (.int k) (.dct (keyed nd))=some (.val (.bl (decide (k∈nd)))):=by
 show vB (J1 (keyed nd) (.inl k)).isSome=_
 rw [a9T]
 rfl
theorem a7v (acc:List Int)(l:Int):(acc++[l]).map D.int=acc.map D.int++[D.int l]:=by simp
noncomputable def leE (T:Tab)(ch:List Int)(ts rs:F1)(k:Int)(nd hs:List Int)(o7:Option C):k9:=[some (.sh (.dct (u7 T))),some (.sh (.lst (ch.map D.int))),some (.sh (.dct (j8 ts))),some (.sh (.dct (j8 rs))),some (.sh (.int k)),some (.ow false (.dct (keyed nd))),some (.ow false (.lst (hs.map D.int))),o7,none]
theorem a2K {T:Tab}{ch:List Int}{ts rs:F1}{k:Int}(hT:∀ kv∈T,kv.2.length≤100):∀ (xs hs nd:List Int) (o7:Option C) (r:List Int×List Int),hs.length + xs.length≤1000→nd.length + 100 * xs.length≤90000→N8 T rs xs hs nd=some r→
  ∃ p7,forL (E4 7) a2l (xs.map D.int) (leE T ch ts rs k nd hs o7)=some (.nx (leE T ch ts rs k r.2 r.1 p7))
 | [],hs,nd,o7,r,_,_,h=>by cases h; exact ⟨o7,rfl⟩
 | x::xs,hs,nd,o7,r,h1,h2,h=>by
  rw [List.length_cons] at h1 h2
  have c1:z6 (f7 inD (c9 7) (c9 5)) (leE T ch ts rs k nd hs (some (.sh (.int x))))=some (.ok (decide (x∈nd)) (leE T ch ts rs k nd hs (some (.sh (.int x))))):=C0 (f9 (d8 rfl) (d8 rfl) rfl rfl (in_keyed nd x))
  have c2:z6 (f7 inD (c9 7) (c9 3)) (leE T ch ts rs k nd hs (some (.sh (.int x))))=some (.ok (j9 rs x).isSome (leE T ch ts rs k nd hs (some (.sh (.int x))))):=C0 (f9 (d8 rfl) (d8 rfl) rfl rfl (b52 rs x))
  have c3:=a30 c1 c2
  have eB:N8 T rs (x::xs) hs nd=if x∈nd∧(j9 rs x).isSome=true then (B5 T ((j9 rs x).getD 0)).bind fun c=>N8 T rs xs (hs++[(j9 rs x).getD 0]) ((T9 c).foldl V6 nd) else N8 T rs xs hs nd:=rfl
  rw [eB] at h
  by_cases hx:x∈nd∧(j9 rs x).isSome=true
  ·rw [if_pos hx] at h
   obtain ⟨q,hq⟩:=Option.isSome_iff_exists.mp hx.2
   rw [hq] at h
   have h:(B5 T q).bind (fun c=>N8 T rs xs (hs++[q]) ((T9 c).foldl V6 nd))=some r:=h
   obtain ⟨c,hc,h⟩:=Option.bind_eq_some_iff.mp h
   have cl:=hT _ (a1e hc)
   have cl:c.length≤100:=cl
   have al:=a7s c
   have fl:=a4v (T9 c) nd
   obtain ⟨p7,ih⟩:=a2K hT (ch:=ch) (ts:=ts) (k:=k) xs (hs++[q]) ((T9 c).foldl V6 nd) (some (.sh (.int x))) r (by rw [List.length_append,List.length_singleton]; omega) (by omega) h
   refine ⟨p7,K6 rfl (C8 c3 (by rw [decide_eq_true hx.1,hx.2]; rfl) (g9 (ρ1:=leE T ch ts rs k nd (hs++[q]) (some (.sh (.int x)))) ?_ ?_)) ih⟩
   ·refine a0b rfl (d9 (f9 (d8 rfl) (d8 rfl) rfl rfl (a8w hq)) i7) rfl rfl (B9 (by rw [List.length_map]; omega)) ?_
    unfold leE
    rw [a7v]
    rfl
   ·refine b0t rfl (d9 (a7a (c:=c) (L1 (f9 (d8 rfl) (f9 (d8 rfl) (d8 rfl) rfl rfl (a8w hq)) rfl rfl (a53 hc)) rfl rfl) (by omega)) i7) rfl rfl (B9 (by rw [a5z,a5z]; omega)) ?_
    rw [a2W]
    rfl
  ·rw [if_neg hx] at h
   obtain ⟨p7,ih⟩:=a2K hT (ch:=ch) (ts:=ts) (k:=k) xs hs nd (some (.sh (.int x))) r (by omega) (by omega) h
   refine ⟨p7,K6 rfl (v8 c3 ?_ B6) ih⟩
   by_cases hn:x∈nd
   ·have:(j9 rs x).isSome=false:=by
     cases hh:(j9 rs x).isSome with
     | false=>rfl
     | true=>exact absurd ⟨hn,hh⟩ hx
    rw [this,Bool.and_false]
   ·rw [decide_eq_false hn,Bool.false_and]
theorem a2s {T:Tab}{rs:F1}:∀ (xs hs nd:List Int) (r:List Int×List Int),N8 T rs xs hs nd=some r→r.1.length≤hs.length + xs.length
 | [],hs,nd,r,h=>by cases h; exact Nat.le_refl _
 | x::xs,hs,nd,r,h=>by
  have eB:N8 T rs (x::xs) hs nd=if x∈nd∧(j9 rs x).isSome=true then (B5 T ((j9 rs x).getD 0)).bind fun c=>N8 T rs xs (hs++[(j9 rs x).getD 0]) ((T9 c).foldl V6 nd) else N8 T rs xs hs nd:=rfl
  rw [eB] at h
  rw [List.length_cons]
  split at h
  ·obtain ⟨c,hc,h⟩:=Option.bind_eq_some_iff.mp h
   have:=a2s xs _ _ r h
   rw [List.length_append,List.length_singleton] at this
   omega
  ·have:=a2s xs _ _ r h
   omega
theorem a8e {T:Tab}{ch:List Int}{ts rs:F1}{k:Int}{r:List Int×List Int}(h1:okT T=true)(h2:ch.length≤1000)(h3:ts.length≤20)(h4:rs.length≤1000)(h5:(T.all fun kv=>decide (kv.2.length≤100))=true)(h:T4 T ch ts rs k=some r):
  V4 [.dct (u7 T),.lst (ch.map D.int),.dct (j8 ts),.dct (j8 rs),.int k]=some (.ret (.val (n6 (((T.length + 1:Nat):Int),r.1,r.2))) []):=by
 show (tabOf (u7 T)).bind _=_
 rw [N1]
 show (intsOf (ch.map D.int)).bind _=_
 rw [k8]
 show (pairsOf (j8 ts)).bind _=_
 rw [C4]
 show (pairsOf (j8 rs)).bind _=_
 rw [C4]
 show V8 _ ((T4 T ch ts rs k).map _)=_
 rw [h]
 exact r8 ⟨h1,h2,h3,h4,h5⟩
theorem b0y (ts:F1):a0v [.dct (j8 ts)]=some (.own (.lst ((ts.map (·.1)).map D.int))):=by
 show some (W.own (.lst ((j8 ts).map fun e=>a4f e.1)))=_
 unfold j8
 rw [List.map_map,List.map_map]
 rfl
theorem a6K:∀ ds r,V4 ds=some r→G8 a2Y 9 [false,false,false,false,false] ds=some r:=by
 intro ds r h
 match ds,h with
 | [.dct es,.lst ds,.dct fs,.dct gs,.int k],h=>
  cases ht:tabOf es with
  | none=>have h':(tabOf es).bind _=some r:=h; rw [ht] at h'; cases h'
  | some T=>
   cases hj:intsOf ds with
   | none=>have h':(tabOf es).bind _=some r:=h; rw [ht] at h'; have h':(intsOf ds).bind _=some r:=h'; rw [hj] at h'; cases h'
   | some ch=>
    cases hp:pairsOf fs with
    | none=>have h':(tabOf es).bind _=some r:=h; rw [ht] at h'; have h':(intsOf ds).bind _=some r:=h'; rw [hj] at h'; have h':(pairsOf fs).bind _=some r:=h'; rw [hp] at h'; cases h'
    | some ts=>
     cases hi:pairsOf gs with
     | none=>have h':(tabOf es).bind _=some r:=h; rw [ht] at h'; have h':(intsOf ds).bind _=some r:=h'; rw [hj] at h'; have h':(pairsOf fs).bind _=some r:=h'; rw [hp] at h'; have h':(pairsOf gs).bind _=some r:=h'; rw [hi] at h'; cases h'
     | some rs=>
      have e1:=tabOf_eq ht
      have e2:=Q5 hp
      have e3:=Q5 hi
      have e4:=y9 hj
      subst e1 e2 e3 e4
      have h':(tabOf (u7 T)).bind _=some r:=h
      rw [N1] at h'
      have h':(intsOf (ch.map D.int)).bind _=some r:=h'
      rw [k8] at h'
      have h':(pairsOf (j8 ts)).bind _=some r:=h'
      rw [C4] at h'
      have h':(pairsOf (j8 rs)).bind _=some r:=h'
      rw [C4] at h'
      obtain ⟨⟨g1,g2,g3,g4,g5⟩,h''⟩:=l8 h'
      obtain ⟨b,hb,rfl⟩:=Option.map_eq_some_iff.mp h''
      clear h h' h'' ht hp hi hj
      have hT:∀ kv∈T,kv.2.length≤100:=fun kv hm=>of_decide_eq_true (List.all_eq_true.mp g5 kv hm)
      obtain ⟨c,hc,hb⟩:=Option.bind_eq_some_iff.mp hb
      obtain ⟨q,hq,rfl⟩:=Option.map_eq_some_iff.mp hb
      have cl:c.length≤100:=hT _ (a1e hc)
      have al:=a7s c
      obtain ⟨p7,hL⟩:=a2K (ch:=ch) (ts:=ts) (k:=k) hT (ts.map (·.1)).reverse [k] (T9 c) none q (by rw [List.length_reverse,List.length_map,List.length_singleton]; omega) (by rw [List.length_reverse,List.length_map]; omega) hq
      have bl:=a2s _ _ _ _ hq
      rw [List.length_reverse,List.length_map,List.length_singleton] at bl
      have s1:n9 5 (B7 a0c (c6 (C6 (A1 (f7 v7 (c9 0) (c9 4))) (E4 0) E6 (F2 (c6 (B7 S8 (c6 (c9 0) g8)) (c6 (mC (.bl true)) g8))) 1 []) g8)) (z7 9 [false,false,false,false,false] [.dct (u7 T),.lst (ch.map D.int),.dct (j8 ts),.dct (j8 rs),.int k])=some (.nx [some (.sh (.dct (u7 T))),some (.sh (.lst (ch.map D.int))),some (.sh (.dct (j8 ts))),some (.sh (.dct (j8 rs))),some (.sh (.int k)),some (.ow false (.dct (keyed (T9 c)))),none,none,none]):=u5 (a7a (c:=c) (L1 (f9 (d8 rfl) (d8 rfl) rfl rfl (a53 hc)) rfl rfl) (by omega)) rfl
      have s2:n9 6 (P1 (c6 (c9 4) g8)) [some (.sh (.dct (u7 T))),some (.sh (.lst (ch.map D.int))),some (.sh (.dct (j8 ts))),some (.sh (.dct (j8 rs))),some (.sh (.int k)),some (.ow false (.dct (keyed (T9 c)))),none,none,none]=some (.nx (leE T ch ts rs k (T9 c) [k] none)):=u5 (Q3 (d9 (d8 rfl) i7) rfl (Nat.le_of_ble_eq_true rfl)) rfl
      have hr:b2g (c6 (B7 a0v (c6 (c9 2) g8)) g8) (leE T ch ts rs k (T9 c) [k] none)=some (.ok ((ts.map (·.1)).reverse.map D.int) (leE T ch ts rs k (T9 c) [k] none)):=by
       rw [List.map_reverse]
       exact b4X (ρ1:=leE T ch ts rs k (T9 c) [k] none) (d9 (B3 (d9 (d8 rfl) i7) rfl (b0y ts)) i7) rfl
      have hc3:D3 (E4 0) (z6 (f7 inD (B7 S8 (c6 (c9 0) g8)) (c9 1))) (mUn P0 (c9 0)) [none,some (.sh (.dct (keyed q.2)))] (ch.map D.int)=some ((ch.filter fun l=>decide (v9 l∈q.2)).map fun l=>D.int (-l)):=by
       apply a2N
       intro l _
       exact turn_if (ρ1:=[some (.sh (.int l)),some (.sh (.dct (keyed q.2)))]) (ρ2:=[some (.sh (.int l)),some (.sh (.dct (keyed q.2)))]) rfl (C0 (f9 (B3 (d9 (d8 rfl) i7) rfl rfl) (d8 rfl) rfl rfl (in_keyed q.2 (v9 l)))) (fun _=>⟨_,_,_,U7 (d8 rfl) rfl rfl,rfl⟩)
      rw [show ((ch.filter fun l=>decide (v9 l∈q.2)).map fun l=>D.int (-l))=((ch.filter fun l=>decide (v9 l∈q.2)).map fun l=>-l).map D.int by rw [List.map_map]; rfl] at hc3
      have m4:=D0 (mi:=A1 (c9 1)) (own:=1) (fr:=[5]) (ρ:=leE T ch ts rs k q.2 q.1 p7) (ρ1:=leE T ch ts rs k q.2 q.1 p7) (L1 (d8 rfl) rfl rfl) (B9 (by rw [List.length_map]; omega)) hc3 (.inl (I8 _))
      generalize hcl:(ch.filter fun l=>decide (v9 l∈q.2)).map (fun l=>-l)=cl' at *
      have ln:V2 [.dct (u7 T)]=some (.val (.int (T.length:Nat))):=by
       show some (W.val (.int ((u7 T).length:Nat)))=_
       rw [show (u7 T).length=T.length from List.length_map _]
      have ad:z8 (.int (T.length:Nat)) (.int 1)=some (.val (.int ((T.length + 1:Nat):Int))):=by
       show some (W.val (.int _))=_
       rw [show ((T.length:Nat):Int) + 1=((T.length + 1:Nat):Int) by omega]
      have tr:a3O [.lst (q.1.map D.int)]=some (.val (.tup (q.1.reverse.map D.int))):=by
       show some (W.val (.tup (q.1.map D.int).reverse))=_
       rw [← List.map_reverse]
      exact E7 (g9 s1 (g9 s2 (g9 (O7 hr hL) (g9 (u5 m4 rfl) (L6 (P9 (d9 k6 (d9 (f9 (B3 (d9 (d8 rfl) i7) rfl ln) k6 rfl rfl ad) (d9 (B3 (d9 (d8 rfl) i7) rfl rfl) (d9 (B3 (d9 (d8 rfl) i7) rfl tr) i7)))) rfl (Nat.le_of_ble_eq_true rfl)) rfl))))) rfl
theorem a6y (ls:List Int):M4 (.tup (ls.map D.int)) (.tup [])=some (.val (.bl ls.isEmpty)):=by cases ls <;> rfl
theorem a5v (d:Int):∀ ds:List Int,a1F (.int d) (ds.map D.int)=some (ds.map fun x=>decide (x=d))
 | []=>rfl
 | x::xs=>by
  show (match Z8 7 (.int x) (.int d),a1F (.int d) (xs.map D.int) with | some a,some b=>some (a::b) | _,_=>none)=_
  rw [a5v d xs,a7j]
  rfl
theorem a4M {d:Int}:∀ {ds:List Int},d∈ds→∃ j:Nat,P8 (ds.map fun x=>decide (x=d))=some j∧ds.take j=ds.takeWhile (fun x=>!decide (x=d))
 | x::xs,h=>by
  by_cases e:x=d
  ·refine ⟨0,?_,?_⟩
   ·rw [List.map_cons,decide_eq_true e]; rfl
   ·rw [List.takeWhile_cons_of_neg (by simp [e])]; rfl
  ·have h':d∈xs:=by
    rcases List.mem_cons.mp h with z | z
    ·exact absurd z.symm e
    ·exact z
   obtain ⟨j,h1,h2⟩:=a4M h'
   refine ⟨j + 1,?_,?_⟩
   ·rw [List.map_cons,decide_eq_false e]
    show (P8 _).map _=_
    rw [h1]
    rfl
   ·rw [List.takeWhile_cons_of_pos (by simp [e]),List.take_succ_cons,h2]
theorem b2l {ds:List Int}{d:Int}{j:Nat}(h:P8 (ds.map fun x=>decide (x=d))=some j):a3Y (.lst (ds.map D.int)) [.int d]=some (.val (.int (j:Int))):=by
 show (a1F (.int d) (ds.map D.int)).bind _=_
 rw [a5v]
 show (P8 _).bind _=_
 rw [h]
 rfl
theorem b2c (hs:List Int)(k:Nat):slD (.lst (hs.map D.int)) none (some (k:Int))=some (.own (.lst ((hs.take k).map D.int))):=by
 show some (W.own (.lst (cutD _ none (some (k:Int)))))=_
 unfold cutD
 rw [L3.b5i,List.map_take]
theorem b2s {c:List Int}{l:Int}(h:c.getLast?=some l):v7 (.tup (c.map D.int)) (.int (-1))=some (.val (.int l)):=by
 obtain ⟨d,rfl⟩:=List.getLast?_eq_some_iff.mp h
 rw [a7v]
 show (L2.atI (d.map D.int++[D.int l]) (-1)).map W.val=_
 rw [b10]
 rfl
theorem b0Y {cs:List (List Int)}{st:List W2}{ch:List Int}(h:okS cs st ch=true):cs.length≤50∧st.length≤50∧ch.length≤20∧∀ c∈cs,c.length≤100:=by
 unfold okS at h
 simp only [Bool.and_eq_true,decide_eq_true_eq,List.all_eq_true] at h
 exact ⟨h.1.1,h.1.2.1,h.1.2.2,h.2⟩
theorem a9D {cs:List (List Int)}(h1:cs.length≤60)(h2:∀ c∈cs,c.length≤100):okT (w5 1 cs)=true:=by
 unfold okT
 rw [Bool.and_eq_true,a0N,List.all_eq_true]
 refine ⟨decide_eq_true h1,fun kv hm=>decide_eq_true ?_⟩
 have:=h2 _ (O1 cs 1 kv hm).2.2
 omega
theorem b3u {cs:List (List Int)}(h2:∀ c∈cs,c.length≤100):((w5 1 cs).all fun kv=>decide (kv.2.length≤100))=true:=List.all_eq_true.mpr fun kv hm=>decide_eq_true (h2 _ (O1 cs 1 kv hm).2.2)
theorem b2S (s:W2):Q8 (n6 s)=true:=by
 have a:=Y9 s.2.1
 have b:=Y9 s.2.2
 have a':(s.2.1.map D.int).all (a1s 4)=true:=by rw [List.all_map,List.all_eq_true]; intro x _; rfl
 have b':(s.2.2.map D.int).all (a1s 4)=true:=by rw [List.all_map,List.all_eq_true]; intro x _; rfl
 show (true && (true && ((s.2.1.map D.int).all (a1s 4) && ((s.2.2.map D.int).all (a1s 4) && true))))=true
 rw [a',b']
 rfl
theorem a34:∀ (ls:List Int) (ts:F1),(ls.foldl (fun ts l=>F6 ts (v9 l) l) ts).length≤ts.length + ls.length
 | [],ts=>Nat.le_refl _
 | l::ls,ts=>by
  have h1:=a34 ls (F6 ts (v9 l) l)
  have h2:=a0O ts (v9 l) l
  rw [List.foldl_cons,List.length_cons]
  omega
noncomputable def soE (v:Int)(cs0 cs:List (List Int))(st:List W2)(ch:List Int)(o5 o6 o7 o8 o9 o10:Option C):k9:=[some (.sh (.int v)),some (.sh (.lst (j7 cs0))),some (.ow false (.dct (u7 (w5 1 cs)))),some (.ow false (.lst (st.map n6))),some (.ow false (.lst (ch.map D.int))),o5,o6,o7,o8,o9,o10]
theorem a5i {v:Int}(h0:0≤v)(h1:v≤1000){ρ:k9}(h:ρ[0]?=some (some (.sh (.int v)))):U0 ints2 (c6 (mC (.int 1)) (c6 (f7 z8 (c9 0) (mC (.int 1))) g8)) ρ=some (.ok (((List.range v.toNat).map fun k=>(1:Int) + ((k:Nat):Int)).map D.int) ρ):=by
 have g0:getD (.slot 0) ρ=some (.int v):=by unfold getD; simp only [h]
 have hi:ints2 [.int 1,.int (v + 1)]=some (((List.range v.toNat).map fun k=>(1:Int) + ((k:Nat):Int)).map D.int):=by
  show V8 _ (some ((List.range (v + 1 - 1).toNat).map fun k=>D.int (1 + ((k:Nat):Int))))=_
  rw [show v + 1 - 1=v by omega,List.map_map]
  exact r8 ⟨by omega,by omega,by omega,by omega⟩
 exact T3 (d9 k6 (d9 (f9 (d8 h) k6 g0 rfl rfl) i7)) rfl hi
theorem a9R (ts:F1)(xs:List Int):D3 (E4 0) (z6 (f7 G7 (c9 0) (c9 1))) (c9 0) [none,some (.sh (.dct (j8 ts)))] (xs.map D.int)=some ((xs.filter fun x=>!(j9 ts x).isSome).map D.int):=by
 apply a2N
 intro x _
 exact turn_if (ρ1:=[some (.sh (.int x)),some (.sh (.dct (j8 ts)))]) (ρ2:=[some (.sh (.int x)),some (.sh (.dct (j8 ts)))]) rfl (C0 (f9 (d8 rfl) (d8 rfl) rfl rfl (a9f ts x))) (fun _=>⟨_,_,_,d8 rfl,rfl⟩)
theorem a9Q {ts:F1}{xs:List Int}(h:∀ x∈xs,(j9 ts x).isSome=true):D3 (E4 0) E6 (f7 v7 (c9 1) (c9 0)) [none,some (.sh (.dct (j8 ts)))] (xs.map D.int)=some ((xs.map fun x=>(j9 ts x).getD 0).map D.int):=by
 rw [List.map_map]
 apply K8
 intro x hx
 obtain ⟨q,hq⟩:=Option.isSome_iff_exists.mp (h x hx)
 refine ⟨[some (.sh (.int x)),some (.sh (.dct (j8 ts)))],.val (.int q),[some (.sh (.int x)),some (.sh (.dct (j8 ts)))],[some (.sh (.int x)),some (.sh (.dct (j8 ts)))],rfl,f9 (d8 rfl) (d8 rfl) rfl rfl (a8w hq),?_⟩
 show some (R'.ok (D.int q) _)=some (.ok (D.int ((j9 ts x).getD 0)) _)
 rw [hq]
 rfl
theorem a04 {v:Int}(h0:0≤v)(h1:v≤1000)(cs0:List (List Int)):∀ (n:Nat) (cs:List (List Int)) (st:List W2) (ch:List Int) (o5 o6 o7 o8 o9 o10:Option C) (r:Option (List Int)×List W2),x9 v n cs st ch=some r→
  ∃ a b ρ,E2 (C9 (mC (.bl true))) a22 (n + 1) (soE v cs0 cs st ch o5 o6 o7 o8 o9 o10)=some (.rt (.val (.tup [V0 r.1,.lst (r.2.map n6)])) (a::b::ρ))
 | 0,cs,st,ch,o5,o6,o7,o8,o9,o10,r,h=>by cases h
 | n + 1,cs,st,ch,o5,o6,o7,o8,o9,o10,r,h=>by
  have eV:x9 v (n + 1) cs st ch=if okS cs st ch=true then match K4 (w5 1 cs) 99 (F7 ch) [] with
   | none=>none
   | some (some k,ts,rs)=>if ts.length≤20∧rs.length≤1000 then match T4 (w5 1 cs) ch ts rs k with
    | none=>none
    | some (c,hs)=>match c.getLast? with
     | none=>some (none,st++[(((cs.length + 1:Nat):Int),c,hs)])
     | some l=>if -l∈ch then x9 v n (cs++[c]) (st++[(((cs.length + 1:Nat):Int),c,hs)]) (ch.takeWhile fun x=>!decide (x=-l)) else none
    else none
   | some (none,ts,rs)=>match E3 v ts with
    | []=>some (some (a4m v ts),[])
    | x::_=>x9 v n cs st (ch++[-x])
   else none:=rfl
  rw [eV] at h
  by_cases hok:okS cs st ch=true
  ·rw [if_pos hok] at h
   obtain ⟨k1,k2,k3,k4⟩:=b0Y hok
   have hT:=a9D (by omega:cs.length≤60) k4
   have hnd:=V1 cs 1
   have tl:(F7 ch).length≤ch.length:=by
    have:=a34 ch []
    rw [List.length_nil,Nat.zero_add] at this
    exact this
   have cT:∀ {ρ:k9},C9 (mC (.bl true)) ρ=some (.ok true ρ):=fun {ρ}=>D8 k6 rfl rfl
   have s5:n9 5 (n5 [false] O5 (c6 (c9 4) g8)) (soE v cs0 cs st ch o5 o6 o7 o8 o9 o10)=some (.nx (soE v cs0 cs st ch (some (.ow false (.dct (j8 (F7 ch))))) o6 o7 o8 o9 o10)):=u5 (W6 (d9 (d8 rfl) i7) rfl rfl (a5R (by omega)) rfl (by rw [Bool.and_eq_true]; exact ⟨a2D _,rfl⟩)) rfl
   have s6:n9 6 a4x (soE v cs0 cs st ch (some (.ow false (.dct (j8 (F7 ch))))) o6 o7 o8 o9 o10)=some (.nx (soE v cs0 cs st ch (some (.ow false (.dct (j8 (F7 ch))))) (some (.ow false (.dct (j8 [])))) o7 o8 o9 o10)):=u5 a5Z rfl
   cases hs:K4 (w5 1 cs) 99 (F7 ch) [] with
   | none=>rw [hs] at h; cases h
   | some q=>
    rw [hs] at h
    have fs:=b0a hT hnd (by omega) (by rw [List.length_nil]; omega) hs
    obtain ⟨qk,ts,rs⟩:=q
    have fq:(a3j (.val (a8K qk)) && ([D.dct (j8 ts),D.dct (j8 rs)]).all Y7)=true:=by
     rw [Bool.and_eq_true]
     refine ⟨by cases qk <;> rfl,?_⟩
     show (Y7 _ && (Y7 _ && true))=true
     rw [a2D,a2D]
     rfl
    have s7:n9 7 (n5 [false,true,true] U1 (c6 (c9 2) (c6 (c9 5) (c6 (c9 6) g8)))) (soE v cs0 cs st ch (some (.ow false (.dct (j8 (F7 ch))))) (some (.ow false (.dct (j8 [])))) o7 o8 o9 o10)=some (.nx (soE v cs0 cs st ch (some (.ow false (.dct (j8 ts)))) (some (.ow false (.dct (j8 rs)))) (some (.sh (a8K qk))) o8 o9 o10)):=u5 (W6 (d9 (d8 rfl) (d9 (d8 rfl) (d9 (d8 rfl) i7))) rfl rfl fs rfl fq) rfl
    have m8:=D0 (mi:=U0 ints2 (c6 (mC (.int 1)) (c6 (f7 z8 (c9 0) (mC (.int 1))) g8))) (own:=1) (fr:=[5]) (a5i h0 h1 (ρ:=soE v cs0 cs st ch (some (.ow false (.dct (j8 ts)))) (some (.ow false (.dct (j8 rs)))) (some (.sh (a8K qk))) o8 o9 o10) rfl) (B9 (by rw [List.length_map,List.length_map,List.length_range]; omega)) (a9R ts _) (.inl (I8 _))
    have s8:n9 8 (C6 (U0 ints2 (c6 (mC (.int 1)) (c6 (f7 z8 (c9 0) (mC (.int 1))) g8))) (E4 0) (z6 (f7 G7 (c9 0) (c9 1))) (c9 0) 1 [5]) (soE v cs0 cs st ch (some (.ow false (.dct (j8 ts)))) (some (.ow false (.dct (j8 rs)))) (some (.sh (a8K qk))) o8 o9 o10)=some (.nx (soE v cs0 cs st ch (some (.ow false (.dct (j8 ts)))) (some (.ow false (.dct (j8 rs)))) (some (.sh (a8K qk))) (some (.ow false (.lst ((E3 v ts).map D.int)))) o9 o10)):=u5 m8 rfl
    cases qk with
    | some k=>
     have h:(if ts.length≤20∧rs.length≤1000 then match T4 (w5 1 cs) ch ts rs k with
      | none=>none
      | some (c,hs)=>match c.getLast? with
       | none=>some (none,st++[(((cs.length + 1:Nat):Int),c,hs)])
       | some l=>if -l∈ch then x9 v n (cs++[c]) (st++[(((cs.length + 1:Nat):Int),c,hs)]) (ch.takeWhile fun x=>!decide (x=-l)) else none
      else none)=some r:=h
     by_cases hl:ts.length≤20∧rs.length≤1000
     ·rw [if_pos hl] at h
      cases hL:T4 (w5 1 cs) ch ts rs k with
      | none=>rw [hL] at h; cases h
      | some cq=>
       rw [hL] at h
       obtain ⟨c,hs'⟩:=cq
       have fL:=a8e hT (by omega) hl.1 hl.2 (b3u k4) hL
       rw [a0N] at fL
       have c7:z6 (mUn (fun d=>vB (!a0a d)) (c9 7)) (soE v cs0 cs st ch (some (.ow false (.dct (j8 ts)))) (some (.ow false (.dct (j8 rs)))) (some (.sh (.int k))) (some (.ow false (.lst ((E3 v ts).map D.int)))) o9 o10)=some (.ok true (soE v cs0 cs st ch (some (.ow false (.dct (j8 ts)))) (some (.ow false (.dct (j8 rs)))) (some (.sh (.int k))) (some (.ow false (.lst ((E3 v ts).map D.int)))) o9 o10)):=C0 (U7 (d8 rfl) rfl rfl)
       have h:(match c.getLast? with
        | none=>some (none,st++[(((cs.length + 1:Nat):Int),c,hs')])
        | some l=>if -l∈ch then x9 v n (cs++[c]) (st++[(((cs.length + 1:Nat):Int),c,hs')]) (ch.takeWhile fun x=>!decide (x=-l)) else none)=some r:=h
       generalize hsp:((((cs.length + 1:Nat):Int),c,hs'):W2)=sp at *
       have fp:=b2S sp
       have s9:n9 9 (n5 [false,false,false,false,false] V4 (c6 (c9 2) (c6 (c9 4) (c6 (c9 5) (c6 (c9 6) (c6 (c9 7) g8)))))) (soE v cs0 cs st ch (some (.ow false (.dct (j8 ts)))) (some (.ow false (.dct (j8 rs)))) (some (.sh (.int k))) (some (.ow false (.lst ((E3 v ts).map D.int)))) o9 o10)=some (.nx (soE v cs0 cs st ch (some (.ow false (.dct (j8 ts)))) (some (.ow false (.dct (j8 rs)))) (some (.sh (.int k))) (some (.ow false (.lst ((E3 v ts).map D.int)))) (some (.sh (n6 sp))) o10)):=u5 (W6 (d9 (d8 rfl) (d9 (d8 rfl) (d9 (d8 rfl) (d9 (d8 rfl) (d9 (d8 rfl) i7))))) rfl rfl fL rfl (by rw [Bool.and_eq_true]; exact ⟨fp,rfl⟩)) rfl
       have i2:v7 (n6 sp) (.int 2)=some (.val (.tup (c.map D.int))):=by rw [← hsp]; rfl
       have i1:v7 (n6 sp) (.int 1)=some (.val (.int ((cs.length + 1:Nat):Int))):=by rw [← hsp]; rfl
       have s10:n9 10 (f7 v7 (c9 9) (mC (.int 2))) (soE v cs0 cs st ch (some (.ow false (.dct (j8 ts)))) (some (.ow false (.dct (j8 rs)))) (some (.sh (.int k))) (some (.ow false (.lst ((E3 v ts).map D.int)))) (some (.sh (n6 sp))) o10)=some (.nx (soE v cs0 cs st ch (some (.ow false (.dct (j8 ts)))) (some (.ow false (.dct (j8 rs)))) (some (.sh (.int k))) (some (.ow false (.lst ((E3 v ts).map D.int)))) (some (.sh (n6 sp))) (some (.sh (.tup (c.map D.int)))))):=u5 (f9 (d8 rfl) k6 rfl rfl i2) rfl
       have s11:L5 (D4 3 (c6 (c9 9) g8)) (soE v cs0 cs st ch (some (.ow false (.dct (j8 ts)))) (some (.ow false (.dct (j8 rs)))) (some (.sh (.int k))) (some (.ow false (.lst ((E3 v ts).map D.int)))) (some (.sh (n6 sp))) (some (.sh (.tup (c.map D.int)))))=some (.nx (soE v cs0 cs (st++[sp]) ch (some (.ow false (.dct (j8 ts)))) (some (.ow false (.dct (j8 rs)))) (some (.sh (.int k))) (some (.ow false (.lst ((E3 v ts).map D.int)))) (some (.sh (n6 sp))) (some (.sh (.tup (c.map D.int)))))):=by
        refine a0b rfl (d9 (d8 rfl) i7) rfl rfl (B9 (by rw [List.length_map]; omega)) ?_
        unfold soE
        rw [List.map_append]
        rfl
       have c12:z6 (f7 M4 (c9 10) (F2 g8)) (soE v cs0 cs (st++[sp]) ch (some (.ow false (.dct (j8 ts)))) (some (.ow false (.dct (j8 rs)))) (some (.sh (.int k))) (some (.ow false (.lst ((E3 v ts).map D.int)))) (some (.sh (n6 sp))) (some (.sh (.tup (c.map D.int)))))=some (.ok c.isEmpty (soE v cs0 cs (st++[sp]) ch (some (.ow false (.dct (j8 ts)))) (some (.ow false (.dct (j8 rs)))) (some (.sh (.int k))) (some (.ow false (.lst ((E3 v ts).map D.int)))) (some (.sh (n6 sp))) (some (.sh (.tup (c.map D.int)))))):=C0 (f9 (d8 rfl) (P9 i7 rfl (Nat.le_of_ble_eq_true rfl)) rfl rfl (a6y c))
       cases hg:c.getLast? with
       | none=>
        rw [hg] at h
        cases h
        have hc:c=[]:=List.getLast?_eq_none_iff.mp hg
        exact ⟨_,_,_,a6B cT (g9 s5 (g9 s6 (g9 s7 (g9 s8 (C8 c7 rfl (g9 s9 (g9 s10 (g9 s11 (F8 (C8 c12 (by rw [hc]; rfl) (L6 (P9 (d9 k6 (d9 (d8 rfl) i7)) rfl (Nat.le_of_ble_eq_true rfl)) rfl)))))))))))⟩
       | some l=>
        rw [hg] at h
        have h:(if -l∈ch then x9 v n (cs++[c]) (st++[sp]) (ch.takeWhile fun x=>!decide (x=-l)) else none)=some r:=h
        by_cases hin:-l∈ch
        ·rw [if_pos hin] at h
         obtain ⟨j,j1,j2⟩:=a4M hin
         have cne:c.isEmpty=false:=by
          cases c with
          | nil=>cases hg
          | cons _ _=>rfl
         have s13:a1Y 2 (c9 10) (f7 v7 (c9 9) (mC (.int 1))) (soE v cs0 cs (st++[sp]) ch (some (.ow false (.dct (j8 ts)))) (some (.ow false (.dct (j8 rs)))) (some (.sh (.int k))) (some (.ow false (.lst ((E3 v ts).map D.int)))) (some (.sh (n6 sp))) (some (.sh (.tup (c.map D.int)))))=some (.nx (soE v cs0 (cs++[c]) (st++[sp]) ch (some (.ow false (.dct (j8 ts)))) (some (.ow false (.dct (j8 rs)))) (some (.sh (.int k))) (some (.ow false (.lst ((E3 v ts).map D.int)))) (some (.sh (n6 sp))) (some (.sh (.tup (c.map D.int)))))):=by
          refine a2L (d8 rfl) rfl (f9 (d8 rfl) k6 rfl rfl i1) rfl rfl ?_
          have ep:putD (u7 (w5 1 cs)) (.inl ((cs.length + 1:Nat):Int)) (.tup (c.map D.int))=u7 (w5 1 (cs++[c])):=by
           rw [a2I,a6F (fun kv hm e=>by have:=(O1 cs 1 kv hm).2.1; omega)]
           rw [show ((cs.length + 1:Nat):Int)=1 + (cs.length:Int) by omega]
          show V8 (small (u7 (w5 1 cs)).length) (some (SR.nx _))=_
          rw [r8 (by show _≤1000000; rw [show (u7 (w5 1 cs)).length=(w5 1 cs).length from List.length_map _,a0N]; omega)]
          unfold soE
          rw [← ep]
          rfl
         have s14:n9 4 (mSl (c9 4) (M.pure none) (a0A (mMt "list" a3Y (c9 4) (c6 (mUn P0 (f7 v7 (c9 10) (mUn P0 (mC (.int 1))))) g8)))) (soE v cs0 (cs++[c]) (st++[sp]) ch (some (.ow false (.dct (j8 ts)))) (some (.ow false (.dct (j8 rs)))) (some (.sh (.int k))) (some (.ow false (.lst ((E3 v ts).map D.int)))) (some (.sh (n6 sp))) (some (.sh (.tup (c.map D.int)))))=some (.nx (soE v cs0 (cs++[c]) (st++[sp]) (ch.takeWhile fun x=>!decide (x=-l)) (some (.ow false (.dct (j8 ts)))) (some (.ow false (.dct (j8 rs)))) (some (.sh (.int k))) (some (.ow false (.lst ((E3 v ts).map D.int)))) (some (.sh (n6 sp))) (some (.sh (.tup (c.map D.int)))))):=by
          rw [← j2]
          exact u5 (a7I (d8 rfl) a68 (a2f (b4s (d8 rfl) rfl rfl (d9 (U7 (f9 (d8 rfl) (U7 k6 rfl rfl) rfl rfl (b2s hg)) rfl rfl) i7) rfl rfl (b2l j1)) rfl) rfl (b2c ch j)) rfl
         obtain ⟨a,b,ρ,ih⟩:=a04 h0 h1 cs0 n (cs++[c]) (st++[sp]) (ch.takeWhile fun x=>!decide (x=-l)) (some (.ow false (.dct (j8 ts)))) (some (.ow false (.dct (j8 rs)))) (some (.sh (.int k))) (some (.ow false (.lst ((E3 v ts).map D.int)))) (some (.sh (n6 sp))) (some (.sh (.tup (c.map D.int)))) r h
         exact ⟨a,b,ρ,a3L cT (g9 s5 (g9 s6 (g9 s7 (g9 s8 (C8 c7 rfl (g9 s9 (g9 s10 (g9 s11 (g9 (v8 c12 cne B6) (g9 s13 s14)))))))))) ih⟩
        ·rw [if_neg hin] at h; cases h
     ·rw [if_neg hl] at h; cases h
    | none=>
     have h:(match E3 v ts with
      | []=>some (some (a4m v ts),[])
      | x::_=>x9 v n cs st (ch++[-x]))=some r:=h
     have c7:z6 (mUn (fun d=>vB (!a0a d)) (c9 7)) (soE v cs0 cs st ch (some (.ow false (.dct (j8 ts)))) (some (.ow false (.dct (j8 rs)))) (some (.sh .A3)) (some (.ow false (.lst ((E3 v ts).map D.int)))) o9 o10)=some (.ok false (soE v cs0 cs st ch (some (.ow false (.dct (j8 ts)))) (some (.ow false (.dct (j8 rs)))) (some (.sh .A3)) (some (.ow false (.lst ((E3 v ts).map D.int)))) o9 o10)):=C0 (U7 (d8 rfl) rfl rfl)
     cases hf:E3 v ts with
     | nil=>
      rw [hf] at h c7 s8
      cases h
      have all:∀ x∈(List.range v.toNat).map (fun k=>(1:Int) + ((k:Nat):Int)),(j9 ts x).isSome=true:=fun x hx=>by
       cases hh:(j9 ts x).isSome with
       | true=>rfl
       | false=>
        have:x∈E3 v ts:=List.mem_filter.mpr ⟨hx,by rw [hh]; rfl⟩
        rw [hf] at this
        cases this
      have c8:C9 (c9 8) (soE v cs0 cs st ch (some (.ow false (.dct (j8 ts)))) (some (.ow false (.dct (j8 rs)))) (some (.sh .A3)) (some (.ow false (.lst []))) o9 o10)=some (.ok false (soE v cs0 cs st ch (some (.ow false (.dct (j8 ts)))) (some (.ow false (.dct (j8 rs)))) (some (.sh .A3)) (some (.ow false (.lst []))) o9 o10)):=D8 (d8 rfl) rfl rfl
      have m9:=D0 (mi:=U0 ints2 (c6 (mC (.int 1)) (c6 (f7 z8 (c9 0) (mC (.int 1))) g8))) (own:=1) (fr:=[5]) (a5i h0 h1 (ρ:=soE v cs0 cs st ch (some (.ow false (.dct (j8 ts)))) (some (.ow false (.dct (j8 rs)))) (some (.sh .A3)) (some (.ow false (.lst []))) o9 o10) rfl) (B9 (by rw [List.length_map,List.length_map,List.length_range]; omega)) (a9Q all) (.inl (I8 _))
      exact ⟨_,_,_,a6B cT (g9 s5 (g9 s6 (g9 s7 (g9 s8 (v8 c7 rfl (v8 c8 rfl (L6 (P9 (d9 (B3 (d9 m9 i7) rfl rfl) (d9 (Q3 i7 rfl (Nat.le_of_ble_eq_true rfl)) i7)) rfl (Nat.le_of_ble_eq_true rfl)) rfl)))))))⟩
     | cons x xs=>
      rw [hf] at h c7 s8
      have h:x9 v n cs st (ch++[-x])=some r:=h
      have c8:C9 (c9 8) (soE v cs0 cs st ch (some (.ow false (.dct (j8 ts)))) (some (.ow false (.dct (j8 rs)))) (some (.sh .A3)) (some (.ow false (.lst ((x::xs).map D.int)))) o9 o10)=some (.ok true (soE v cs0 cs st ch (some (.ow false (.dct (j8 ts)))) (some (.ow false (.dct (j8 rs)))) (some (.sh .A3)) (some (.ow false (.lst ((x::xs).map D.int)))) o9 o10)):=D8 (d8 rfl) rfl rfl
      have ix0:v7 (.lst ((x::xs).map D.int)) (.int 0)=some (.val (.int x)):=by simp [v7,L2.atI,ixN]
      have s9:L5 (D4 4 (c6 (mUn P0 (f7 v7 (c9 8) (mC (.int 0)))) g8)) (soE v cs0 cs st ch (some (.ow false (.dct (j8 ts)))) (some (.ow false (.dct (j8 rs)))) (some (.sh .A3)) (some (.ow false (.lst ((x::xs).map D.int)))) o9 o10)=some (.nx (soE v cs0 cs st (ch++[-x]) (some (.ow false (.dct (j8 ts)))) (some (.ow false (.dct (j8 rs)))) (some (.sh .A3)) (some (.ow false (.lst ((x::xs).map D.int)))) o9 o10)):=by
       refine a0b rfl (d9 (U7 (f9 (d8 rfl) k6 rfl rfl ix0) rfl rfl) i7) rfl rfl (B9 (by rw [List.length_map]; omega)) ?_
       unfold soE
       rw [a7v]
       rfl
      obtain ⟨a,b,ρ,ih⟩:=a04 h0 h1 cs0 n cs st (ch++[-x]) (some (.ow false (.dct (j8 ts)))) (some (.ow false (.dct (j8 rs)))) (some (.sh .A3)) (some (.ow false (.lst ((x::xs).map D.int)))) o9 o10 r h
      exact ⟨a,b,ρ,a3L cT (g9 s5 (g9 s6 (g9 s7 (g9 s8 (v8 c7 rfl (C8 c8 rfl s9)))))) ih⟩
  ·rw [if_neg hok] at h; cases h
theorem b0f {v:Int}{cs:List (List Int)}{r:Option (List Int)×List W2}(h0:0≤v)(h1:v≤1000)(h:x9 v 99999 cs [] []=some r):U3 [.int v,.lst (j7 cs)]=some (.ret (.val (.tup [V0 r.1,.lst (r.2.map n6)])) []):=by
 show (B4 (j7 cs)).bind _=_
 rw [N5]
 show V8 _ ((x9 v 99999 cs [] []).map _)=_
 rw [h]
 exact r8 ⟨h0,h1⟩
theorem a8M {v:Int}{n:Nat}{cs:List (List Int)}{st:List W2}{ch:List Int}{r:Option (List Int)×List W2}(h:x9 v n cs st ch=some r):okS cs st ch=true:=by
 cases n with
 | zero=>cases h
 | succ n=>
  unfold x9 at h
  split at h
  ·assumption
  ·cases h
theorem a6W:∀ ds r,U3 ds=some r→G8 a3S 11 [false,false] ds=some r:=by
 intro ds r h
 match ds,h with
 | [.int v,.lst ds],h=>
  cases hc:B4 ds with
  | none=>have h':(B4 ds).bind _=some r:=h; rw [hc] at h'; cases h'
  | some cs=>
   have e:=a0H hc
   subst e
   have h':(B4 (j7 cs)).bind _=some r:=h
   rw [N5] at h'
   obtain ⟨⟨h0,h1⟩,h''⟩:=l8 h'
   obtain ⟨b,hb,rfl⟩:=Option.map_eq_some_iff.mp h''
   clear h h' h'' hc
   obtain ⟨a,b',ρ,hL⟩:=a04 h0 h1 cs 99999 cs [] [] none none none none none none b hb
   have ok:=b0Y (a8M hb)
   have s1:n9 2 (n5 [false] Q9 (c6 (c9 1) g8)) (z7 11 [false,false] [.int v,.lst (j7 cs)])=some (.nx [some (.sh (.int v)),some (.sh (.lst (j7 cs))),some (.ow false (.dct (u7 (w5 1 cs)))),none,none,none,none,none,none,none,none]):=by
    refine u5 (W6 (d9 (d8 rfl) i7) rfl rfl (a3k (by omega)) rfl ?_) rfl
    rw [Bool.and_eq_true]
    refine ⟨?_,rfl⟩
    show (u7 (w5 1 cs)).all (fun e=>Q8 e.2)=true
    unfold u7
    rw [List.all_map,List.all_eq_true]
    intro kv _
    exact Y9 kv.2
   have s2:n9 3 (P1 g8) [some (.sh (.int v)),some (.sh (.lst (j7 cs))),some (.ow false (.dct (u7 (w5 1 cs)))),none,none,none,none,none,none,none,none]=some (.nx [some (.sh (.int v)),some (.sh (.lst (j7 cs))),some (.ow false (.dct (u7 (w5 1 cs)))),some (.ow false (.lst [])),none,none,none,none,none,none,none]):=u5 (Q3 i7 rfl (Nat.le_of_ble_eq_true rfl)) rfl
   have s3:n9 4 (P1 g8) [some (.sh (.int v)),some (.sh (.lst (j7 cs))),some (.ow false (.dct (u7 (w5 1 cs)))),some (.ow false (.lst [])),none,none,none,none,none,none,none]=some (.nx (soE v cs cs [] [] none none none none none none)):=u5 (Q3 i7 rfl (Nat.le_of_ble_eq_true rfl)) rfl
   exact E7 (g9 s1 (g9 s2 (g9 s3 hL))) rfl
structure Mdl (v:Nat) (M:List Int):Prop where
 rng:∀ x∈M,x≠0∧x.natAbs≤v
 tot:∀ x:Int,x≠0→x.natAbs≤v→x∈M∨-x∈M
 con:∀ x∈M,-x∉M
theorem b5b {v:Nat}{f:Nat→Int}(h:∀ k,k < v→f k=(k:Int) + 1∨f k=-((k:Int) + 1)):Mdl v ((List.range v).map f):=by
 have mem:∀ x,x∈(List.range v).map f↔∃ k,k < v∧f k=x:=by
  intro x
  rw [List.mem_map]
  constructor
  ·rintro ⟨k,hk,e⟩; exact ⟨k,List.mem_range.mp hk,e⟩
  ·rintro ⟨k,hk,e⟩; exact ⟨k,List.mem_range.mpr hk,e⟩
 refine ⟨fun x hx=>?_,fun x h0 h1=>?_,fun x hx hy=>?_⟩
 ·obtain ⟨k,hk,rfl⟩:=(mem x).mp hx
  have:=h k hk
  omega
 ·have hk:=h (x.natAbs - 1) (by omega)
  have:f (x.natAbs - 1)=x∨f (x.natAbs - 1)=-x:=by omega
  rcases this with e | e
  ·exact .inl ((mem x).mpr ⟨_,by omega,e⟩)
  ·exact .inr ((mem (-x)).mpr ⟨_,by omega,e⟩)
 ·obtain ⟨k,hk,e1⟩:=(mem x).mp hx
  obtain ⟨j,hj,e2⟩:=(mem (-x)).mp hy
  have a:=h k hk
  have b:=h j hj
  have:k=j:=by omega
  subst this
  omega
theorem b1d (v:Nat)(n:Int):Mdl v (Q0 (v:Int) n):=by
 refine b5b (f:=a4Q (v:Int) n) fun k hk=>?_
 unfold a4Q
 have h:n / pwV ((v:Int) - 1 - (k:Int)) % 2=0∨n / pwV ((v:Int) - 1 - (k:Int)) % 2=1:=by omega
 rcases h with h | h <;> rw [h] <;> omega
theorem b2w:(∀ a∈[(1:Int),-1],∃ n∈List.range 2,Q0 1 (n:Int)=[a])∧(∀ a∈[(1:Int),-1],∀ b∈[(2:Int),-2],∃ n∈List.range 4,Q0 2 (n:Int)=[a,b])∧(∀ a∈[(1:Int),-1],∀ b∈[(2:Int),-2],∀ c∈[(3:Int),-3],∃ n∈List.range 8,Q0 3 (n:Int)=[a,b,c])∧∀ a∈[(1:Int),-1],∀ b∈[(2:Int),-2],∀ c∈[(3:Int),-3],∀ d∈[(4:Int),-4],∃ n∈List.range 16,Q0 4 (n:Int)=[a,b,c,d]:=by decide +kernel
theorem b4h {v:Nat}(h1:1≤v)(h4:v≤4){f:Nat→Int}(h:∀ k,k < v→f k=(k:Int) + 1∨f k=-((k:Int) + 1)):∃ n,n < a6R (v:Int)∧Q0 (v:Int) (n:Int)=(List.range v).map f:=by
 have m:∀ k,k < v→f k∈[(k:Int) + 1,-((k:Int) + 1)]:=fun k hk=>by
  rcases h k hk with e | e <;> rw [e] <;> simp
 obtain ⟨a1,a2,a3,a4⟩:=b2w
 have hv:v=1∨v=2∨v=3∨v=4:=by omega
 rcases hv with rfl | rfl | rfl | rfl
 ·obtain ⟨n,hn,e⟩:=a1 (f 0) (m 0 (by omega))
  exact ⟨n,List.mem_range.mp hn,e⟩
 ·obtain ⟨n,hn,e⟩:=a2 (f 0) (m 0 (by omega)) (f 1) (m 1 (by omega))
  exact ⟨n,List.mem_range.mp hn,e⟩
 ·obtain ⟨n,hn,e⟩:=a3 (f 0) (m 0 (by omega)) (f 1) (m 1 (by omega)) (f 2) (m 2 (by omega))
  exact ⟨n,List.mem_range.mp hn,e⟩
 ·obtain ⟨n,hn,e⟩:=a4 (f 0) (m 0 (by omega)) (f 1) (m 1 (by omega)) (f 2) (m 2 (by omega)) (f 3) (m 3 (by omega))
  exact ⟨n,List.mem_range.mp hn,e⟩
theorem a9t {acc:List Int}{l x:Int}:x∈V6 acc l↔x∈acc∨x=l:=by
 unfold V6
 split
 ·rename_i h
  constructor
  ·exact .inl
  ·rintro (h' | rfl)
   ·exact h'
   ·exact h
 ·simp
theorem b4j {acc:List Int}{l:Int}(h:acc.Nodup):(V6 acc l).Nodup:=by
 unfold V6
 split
 ·exact h
 ·rename_i hn
  rw [List.nodup_append]
  refine ⟨h,by simp,fun a ha b hb e=>?_⟩
  rw [List.mem_singleton] at hb
  exact hn (by rw [← hb,← e]; exact ha)
theorem a1X:∀ (ks nd:List Int) (x:Int),x∈ks.foldl V6 nd↔x∈nd∨x∈ks
 | [],nd,x=>by simp
 | k::ks,nd,x=>by
  rw [List.foldl_cons,a1X ks,a9t,List.mem_cons]
  constructor
  ·rintro ((h | h) | h)
   ·exact .inl h
   ·exact .inr (.inl h)
   ·exact .inr (.inr h)
  ·rintro (h | h | h)
   ·exact .inl (.inl h)
   ·exact .inl (.inr h)
   ·exact .inr h
theorem a6v {c:List Int}{x:Int}:x∈T9 c↔∃ l∈c,v9 l=x:=by
 unfold T9
 rw [a1X,List.mem_map]
 simp
theorem a7M (ts:F1):∀ (ls acc:List Int) (x:Int),x∈ls.foldl (Z4 ts) acc↔x∈acc∨(x∈ls∧j9 ts (v9 x)≠some (-x))
 | [],acc,x=>by simp
 | l::ls,acc,x=>by
  rw [List.foldl_cons,a7M ts ls,List.mem_cons]
  have e:x∈Z4 ts acc l↔x∈acc∨(x=l∧j9 ts (v9 x)≠some (-x)):=by
   unfold Z4
   split
   ·rename_i h
    constructor
    ·exact .inl
    ·rintro (h' | ⟨rfl,h'⟩)
     ·exact h'
     ·exact absurd h h'
   ·rename_i h
    rw [a9t]
    constructor
    ·rintro (h' | rfl)
     ·exact .inl h'
     ·exact .inr ⟨rfl,h⟩
    ·rintro (h' | ⟨rfl,_⟩)
     ·exact .inl h'
     ·exact .inr rfl
  rw [e]
  constructor
  ·rintro ((h | ⟨h,h'⟩) | ⟨h,h'⟩)
   ·exact .inl h
   ·exact .inr ⟨.inl h,h'⟩
   ·exact .inr ⟨.inr h,h'⟩
  ·rintro (h | ⟨h | h,h'⟩)
   ·exact .inl (.inl h)
   ·exact .inl (.inr ⟨h,h'⟩)
   ·exact .inr ⟨h,h'⟩
theorem a1g {ts:F1}{c:List Int}{x:Int}:x∈A4 ts c↔x∈c∧j9 ts (v9 x)≠some (-x):=by
 unfold A4
 rw [a7M]
 simp
theorem a7q (ts:F1):∀ (ls acc:List Int),acc.Nodup→(ls.foldl (Z4 ts) acc).Nodup
 | [],acc,h=>h
 | l::ls,acc,h=>by
  rw [List.foldl_cons]
  refine a7q ts ls _ ?_
  unfold Z4
  split
  ·exact h
  ·exact b4j h
theorem b3J (ts:F1)(c:List Int):(A4 ts c).Nodup:=a7q ts c [] List.nodup_nil
theorem a3h {x:Int}:∀ {X:List Int},X.Nodup→(∀ y∈X,y=x)→X=[]∨X=[x]
 | [],_,_=>.inl rfl
 | [a],_,h=>by rw [h a List.mem_cons_self]; exact .inr rfl
 | a::b::X,hd,h=>by
  rw [List.nodup_cons] at hd
  have e1:=h a List.mem_cons_self
  have e2:=h b (List.mem_cons_of_mem _ List.mem_cons_self)
  exact absurd (by rw [e1,e2]; exact List.mem_cons_self) hd.1
theorem a5E (tr:List Int):∀ (c acc:List Int) (x:Int),x∈c.foldl (a0i tr) acc↔x∈acc∨(x∈c∧-x∉tr)
 | [],acc,x=>by simp
 | l::c,acc,x=>by
  rw [List.foldl_cons,a5E tr c,List.mem_cons]
  have e:x∈a0i tr acc l↔x∈acc∨(x=l∧-x∉tr):=by
   unfold a0i
   split
   ·rename_i h
    constructor
    ·exact .inl
    ·rintro (h' | ⟨rfl,h'⟩)
     ·exact h'
     ·rcases h with h | h
      ·exact absurd h h'
      ·exact h
   ·rename_i h
    rw [List.mem_append,List.mem_singleton]
    constructor
    ·rintro (h' | rfl)
     ·exact .inl h'
     ·exact .inr ⟨rfl,fun z=>h (.inl z)⟩
    ·rintro (h' | ⟨rfl,_⟩)
     ·exact .inl h'
     ·exact .inr rfl
  rw [e]
  constructor
  ·rintro ((h | ⟨h,h'⟩) | ⟨h,h'⟩)
   ·exact .inl h
   ·exact .inr ⟨.inl h,h'⟩
   ·exact .inr ⟨.inr h,h'⟩
  ·rintro (h | ⟨h | h,h'⟩)
   ·exact .inl (.inl h)
   ·exact .inl (.inr ⟨h,h'⟩)
   ·exact .inr ⟨h,h'⟩
theorem a0W {tr c:List Int}{x:Int}:x∈u6 tr c↔x∈c∧-x∉tr:=by
 unfold u6
 rw [a5E]
 simp
theorem a5q (tr:List Int):∀ (ls acc:List Int),acc.Nodup→(ls.foldl (a0i tr) acc).Nodup
 | [],acc,h=>h
 | l::ls,acc,h=>by
  rw [List.foldl_cons]
  refine a5q tr ls _ ?_
  unfold a0i
  split
  ·exact h
  ·rename_i hn
   rw [List.nodup_append]
   refine ⟨h,by simp,fun a ha b hb e=>?_⟩
   rw [List.mem_singleton] at hb
   exact hn (.inr (by rw [← hb,← e]; exact ha))
theorem b2G (tr c:List Int):(u6 tr c).Nodup:=a5q tr c [] List.nodup_nil
theorem a02 {ts:F1}{k l:Int}(h:j9 ts k=some l):(k,l)∈ts:=by
 unfold j9 at h
 cases e:ts.find? fun kv=>decide (kv.1=k) with
 | none=>rw [e] at h; cases h
 | some kv=>
  rw [e] at h
  have h1:=List.mem_of_find?_eq_some e
  have h2:=List.find?_some e
  simp at h2 h
  rw [← h2,← h]
  exact h1
theorem M7 {ts:F1}{k:Int}:j9 ts k=none↔∀ kv∈ts,kv.1≠k:=by
 unfold j9
 rw [Option.map_eq_none_iff,List.find?_eq_none]
 simp
theorem a2q (ts us:F1)(k:Int):j9 (ts++us) k=(j9 ts k).or (j9 us k):=by
 unfold j9
 rw [List.find?_append]
 cases ts.find? (fun kv=>decide (kv.1=k)) <;> rfl
theorem a3N {ts:F1}{k v:Int}(h:j9 ts k=none):F6 ts k v=ts++[(k,v)]:=by
 unfold F6
 rw [if_neg]
 intro e
 obtain ⟨x,hx,hk⟩:=List.any_eq_true.mp e
 exact M7.mp h x hx (of_decide_eq_true hk)
theorem a84 (x:Int):v9 (-x)=v9 x:=by unfold v9; rw [Int.natAbs_neg]
inductive Gr (T:Tab) (t0:F1):F1→F1→Prop
 | base:Gr T t0 t0 []
 | step {ts rs:F1} {n l:Int} {c:List Int}:Gr T t0 ts rs→(n,c)∈T→A4 ts c=[l]→j9 ts (v9 l)=none→Gr T t0 (ts++[(v9 l,l)]) (rs++[(v9 l,n)])
section
variable {T:Tab}{t0:F1}
theorem Gr.b4z {ts rs:F1}(g:Gr T t0 ts rs):∀ kv∈rs,∃ l,(kv.1,l)∈ts:=by
 induction g with
 | base=>intro kv h; cases h
 | step _ _ _ _ ih=>
  intro kv h
  rcases List.mem_append.mp h with h | h
  ·obtain ⟨l,hl⟩:=ih kv h
   exact ⟨l,List.mem_append_left _ hl⟩
  ·rw [List.mem_singleton] at h
   rw [h]
   exact ⟨_,List.mem_append_right _ List.mem_cons_self⟩
theorem Gr.b8d {ts rs:F1}(g:Gr T t0 ts rs):ts.length=t0.length + rs.length:=by
 induction g with
 | base=>rfl
 | step _ _ _ _ ih=>rw [List.length_append,List.length_append,ih]; rfl
theorem Gr.b4E {ts rs:F1}(g:Gr T t0 ts rs){k l:Int}(h:j9 t0 k=some l):j9 ts k=some l:=by
 induction g with
 | base=>exact h
 | step _ _ _ _ ih=>rw [a2q,ih]; rfl
theorem Gr.put {ts rs:F1}(g:Gr T t0 ts rs){n l:Int}{c:List Int}(hm:(n,c)∈T)(ho:A4 ts c=[l])(hn:j9 ts (v9 l)=none):Gr T t0 (F6 ts (v9 l) l) (F6 rs (v9 l) n):=by
 rw [a3N hn,a3N (M7.mpr fun kv h e=>?_)]
 ·exact .step g hm ho hn
 ·obtain ⟨q,hq⟩:=g.b4z kv h
  exact M7.mp hn _ hq e
theorem b0w (ts rs:F1)(g:Bool)(kv:Int×List Int)(U:Tab):J3 ts rs g (kv::U)=match scan1 ts rs g kv.1 (A4 ts kv.2) with | none=>(some kv.1,ts,rs,g) | some (ts',rs',g')=>J3 ts' rs' g' U:=rfl
structure Scn (T:Tab) (t0 ts rs:F1) (g:Bool) (U:Tab) (z:Option Int×F1×F1×Bool):Prop where
 gr:Gr T t0 z.2.1 z.2.2.1
 cf:∀ k,z.1=some k→∃ c,(k,c)∈T∧A4 z.2.1 c=[]
 fx:z.1=none→z.2.2.2=false→g=false∧z.2.1=ts∧z.2.2.1=rs∧∀ kv∈U,A4 ts kv.2≠[]∧∀ l,A4 ts kv.2=[l]→j9 ts (v9 l)≠none
 lt:z.2.2.2=true→g=true∨ts.length < z.2.1.length
 le:ts.length≤z.2.1.length
theorem a3M:∀ (U:Tab) (ts rs:F1) (g:Bool),Gr T t0 ts rs→(∀ kv∈U,kv∈T)→Scn T t0 ts rs g U (J3 ts rs g U)
 | [],ts,rs,g,h,_=>⟨h,fun k z=>(by cases z),fun _ z=>⟨z,rfl,rfl,fun kv hk=>(by cases hk)⟩,fun z=>.inl z,Nat.le_refl _⟩
 | kv::U,ts,rs,g,h,hU=>by
  have hm:=hU kv List.mem_cons_self
  have hU':∀ x∈U,x∈T:=fun x hx=>hU x (List.mem_cons_of_mem _ hx)
  rw [b0w]
  cases ho:A4 ts kv.2 with
  | nil=>exact ⟨h,fun k z=>⟨kv.2,by cases z; exact hm,ho⟩,fun z=>(by cases z),fun z=>.inl z,Nat.le_refl _⟩
  | cons a X=>
   cases X with
   | nil=>
    cases hs:j9 ts (v9 a) with
    | some q=>
     rw [show scan1 ts rs g kv.1 [a]=some (ts,rs,g) from if_pos (by rw [hs]; rfl)]
     have ih:=a3M U ts rs g h hU'
     refine ⟨ih.gr,ih.cf,fun z1 z2=>?_,ih.lt,ih.le⟩
     obtain ⟨a1,a2,a3,a4⟩:=ih.fx z1 z2
     refine ⟨a1,a2,a3,fun x hx=>?_⟩
     rcases List.mem_cons.mp hx with rfl | hx
     ·rw [ho]
      refine ⟨by simp,fun l e=>?_⟩
      cases e
      rw [hs]
      simp
     ·exact a4 x hx
    | none=>
     rw [show scan1 ts rs g kv.1 [a]=some (F6 ts (v9 a) a,F6 rs (v9 a) kv.1,true) from if_neg (by rw [hs]; simp)]
     have ih:=a3M U _ _ true (h.put hm ho hs) hU'
     have hl:(F6 ts (v9 a) a).length=ts.length + 1:=by rw [a3N hs,List.length_append]; rfl
     have le:=ih.le
     rw [hl] at le
     exact ⟨ih.gr,ih.cf,fun z1 z2=>(by cases (ih.fx z1 z2).1),fun _=>.inr (by show ts.length < (J3 (F6 ts (v9 a) a) (F6 rs (v9 a) kv.1) true U).2.1.length; omega),by show ts.length≤(J3 (F6 ts (v9 a) a) (F6 rs (v9 a) kv.1) true U).2.1.length; omega⟩
   | cons b X=>
    have ih:=a3M U ts rs g h hU'
    refine ⟨ih.gr,ih.cf,fun z1 z2=>?_,ih.lt,ih.le⟩
    obtain ⟨a1,a2,a3,a4⟩:=ih.fx z1 z2
    refine ⟨a1,a2,a3,fun x hx=>?_⟩
    rcases List.mem_cons.mp hx with rfl | hx
    ·rw [ho]
     exact ⟨by simp,fun l e=>(by cases e)⟩
    ·exact a4 x hx
structure Spr (T:Tab) (t0:F1) (z:Option Int×F1×F1):Prop where
 gr:Gr T t0 z.2.1 z.2.2
 cf:∀ k,z.1=some k→∃ c,(k,c)∈T∧A4 z.2.1 c=[]
 fx:z.1=none→∀ kv∈T,A4 z.2.1 kv.2≠[]∧∀ l,A4 z.2.1 kv.2=[l]→j9 z.2.1 (v9 l)≠none
theorem a48 {m:Nat}(hm:∀ ts rs,Gr T t0 ts rs→ts.length≤m):∀ (n:Nat) (ts rs:F1),Gr T t0 ts rs→m < n + ts.length→∃ z,K4 T n ts rs=some z∧Spr T t0 z
 | 0,ts,rs,h,hn=>by have:=hm ts rs h; omega
 | n + 1,ts,rs,h,hn=>by
  have S:=a3M T ts rs false h (fun _ h=>h)
  have e:K4 T (n + 1) ts rs=match J3 ts rs false T with
   | (some k,ts',rs',_)=>some (some k,ts',rs')
   | (none,ts',rs',false)=>some (none,ts',rs')
   | (none,ts',rs',true)=>K4 T n ts' rs':=rfl
  rw [e]
  match hz:J3 ts rs false T,S with
  | (some k,ts',rs',g'),S=>exact ⟨_,rfl,S.gr,S.cf,fun z=>(by cases z)⟩
  | (none,ts',rs',false),S=>
   obtain ⟨_,a2,a3,a4⟩:=S.fx rfl rfl
   have a2:ts'=ts:=a2
   subst a2
   exact ⟨_,rfl,S.gr,fun k z=>(by cases z),fun _=>a4⟩
  | (none,ts',rs',true),S=>
   have lt:ts.length < ts'.length:=by
    rcases S.lt rfl with z | z
    ·cases z
    ·exact z
   exact a48 hm n ts' rs' S.gr (by omega)
end
noncomputable def wgo (T:Tab):List Int→List Int→Option (List Int)
 | tr,[]=>some tr
 | tr,h::hs=>match B5 T h with
  | none=>none
  | some c=>match O2 tr (u6 tr c) with
   | .inl _=>none
   | .inr l=>wgo T (tr++[l]) hs
theorem b4m {T:Tab}{tr:List Int}{h l:Int}{c:List Int}{hs:List Int}(hc:B5 T h=some c)(ho:u6 tr c=[l])(hn:l∉tr):wgo T tr (h::hs)=wgo T (tr++[l]) hs:=by
 show (match B5 T h with | none=>none | some c=>match O2 tr (u6 tr c) with | .inl _=>none | .inr l=>wgo T (tr++[l]) hs)=_
 rw [hc]
 show (match O2 tr (u6 tr c) with | .inl _=>none | .inr l=>wgo T (tr++[l]) hs)=_
 rw [ho,show O2 tr [l]=.inr l from if_neg hn]
theorem a7l {T:Tab}{h l:Int}{c:List Int}(hc:B5 T h=some c):∀ {hs tr tr':List Int},wgo T tr hs=some tr'→u6 tr' c=[l]→l∉tr'→wgo T tr (hs++[h])=some (tr'++[l])
 | [],tr,tr',h1,h2,h3=>by
  cases h1
  exact b4m hc h2 h3
 | x::hs,tr,tr',h1,h2,h3=>by
  have e:∀ ys,wgo T tr (x::ys)=match B5 T x with | none=>none | some c=>match O2 tr (u6 tr c) with | .inl _=>none | .inr l=>wgo T (tr++[l]) ys:=fun _=>rfl
  rw [List.cons_append,e]
  rw [e] at h1
  cases hx:B5 T x with
  | none=>rw [hx] at h1; cases h1
  | some d=>
   rw [hx] at h1
   have h1:(match O2 tr (u6 tr d) with | .inl _=>none | .inr l=>wgo T (tr++[l]) hs)=some tr':=h1
   show (match O2 tr (u6 tr d) with | .inl _=>none | .inr l=>wgo T (tr++[l]) (hs++[h]))=_
   cases hs1:O2 tr (u6 tr d) with
   | inl z=>rw [hs1] at h1; cases h1
   | inr y=>
    rw [hs1] at h1
    exact a7l hc (hs:=hs) h1 h2 h3
theorem a5j {T:Tab}{M:List Int}(hT:∀ kv∈T,∃ l∈kv.2,l∈M)(con:∀ x∈M,-x∉M):∀ {hs tr tr':List Int},(∀ t∈tr,t∈M)→wgo T tr hs=some tr'→∀ t∈tr',t∈M
 | [],tr,tr',h,e=>by cases e; exact h
 | x::hs,tr,tr',h,e=>by
  have e':(match B5 T x with | none=>none | some c=>match O2 tr (u6 tr c) with | .inl _=>none | .inr l=>wgo T (tr++[l]) hs)=some tr':=e
  cases hx:B5 T x with
  | none=>rw [hx] at e'; cases e'
  | some d=>
   rw [hx] at e'
   have e':(match O2 tr (u6 tr d) with | .inl _=>none | .inr l=>wgo T (tr++[l]) hs)=some tr':=e'
   obtain ⟨l,l1,l2⟩:=hT _ (a1e hx)
   have hl:l∈u6 tr d:=a0W.mpr ⟨l1,fun z=>con l l2 (h _ z)⟩
   match hX:u6 tr d,hl,e' with
   | [],hl,e'=>cases hl
   | [y],hl,e'=>
    rw [List.mem_singleton] at hl
    subst hl
    by_cases hy:l∈tr
    ·rw [show O2 tr [l]=.inl 0 from if_pos hy] at e'; cases e'
    ·rw [show O2 tr [l]=.inr l from if_neg hy] at e'
     refine a5j hT con (fun t ht=>?_) (show wgo T (tr++[l]) hs=some tr' from e')
     rcases List.mem_append.mp ht with ht | ht
     ·exact h t ht
     ·rw [List.mem_singleton] at ht; rw [ht]; exact l2
   | a::b::r,hl,e'=>cases e'
noncomputable abbrev chT (ch:List Int):F1:=ch.map fun l=>(v9 l,l)
theorem a5a (T:Tab)(rs:F1)(x:Int)(xs hs nd:List Int):N8 T rs (x::xs) hs nd=if x∈nd∧(j9 rs x).isSome=true then (B5 T ((j9 rs x).getD 0)).bind fun c=>N8 T rs xs (hs++[(j9 rs x).getD 0]) ((T9 c).foldl V6 nd) else N8 T rs xs hs nd:=rfl
theorem a5A {T:Tab}{rs:F1}:∀ {xs:List Int} (hs nd:List Int),(∀ x∈xs,j9 rs x=none)→N8 T rs xs hs nd=some (hs,nd)
 | [],hs,nd,_=>rfl
 | x::xs,hs,nd,h=>by
  rw [a5a,if_neg (by rw [h x List.mem_cons_self]; simp)]
  exact a5A hs nd fun y hy=>h y (List.mem_cons_of_mem _ hy)
structure Bk (T:Tab) (ch:List Int) (ts:F1) (nd0 hs nd D:List Int):Prop where
 sub:∀ x∈nd0,x∈nd
 key:∀ x∈nd,x∈nd0∨∃ l,(x,l)∈ts
 go:wgo T (ch.filter fun l=>decide (v9 l∈nd)) hs.reverse=some D
 all:∀ kv∈ts,kv.1∈nd→kv.2∈D
 tru:∀ l∈D,(v9 l,l)∈ts
 hin:∀ h∈hs,∃ c,(h,c)∈T
theorem b0D {T:Tab}{ch:List Int}(hnd:(T.map (·.1)).Nodup){ts rs:F1}(g:Gr T (chT ch) ts rs):∀ (rsF:F1),(∀ kv∈ts,j9 rsF kv.1=j9 rs kv.1)→∀ (hs0 nd0:List Int),∃ hs nd D,N8 T rsF (ts.map (·.1)).reverse hs0 nd0=some (hs0++hs,nd)∧Bk T ch ts nd0 hs nd D:=by
 induction g with
 | base=>
  intro rsF hF hs0 nd0
  refine ⟨[],nd0,ch.filter fun l=>decide (v9 l∈nd0),?_,fun _ h=>h,fun _ h=>.inl h,rfl,fun kv hk h=>?_,fun l hl=>?_,fun h hh=>(by cases hh)⟩
  ·rw [List.append_nil]
   refine a5A hs0 nd0 fun x hx=>?_
   rw [List.mem_reverse] at hx
   obtain ⟨kv,hk,rfl⟩:=List.mem_map.mp hx
   exact hF kv hk
  ·obtain ⟨l,hl,rfl⟩:=List.mem_map.mp hk
   exact List.mem_filter.mpr ⟨hl,decide_eq_true h⟩
  ·exact List.mem_map.mpr ⟨l,(List.mem_filter.mp hl).1,rfl⟩
 | @step ts rs n l c g hm ho hn ih=>
  intro rsF hF hs0 nd0
  have hr:j9 rs (v9 l)=none:=M7.mpr fun kv h e=>by
   obtain ⟨q,hq⟩:=g.b4z kv h
   exact M7.mp hn _ hq e
  have hFl:j9 rsF (v9 l)=some n:=by
   rw [hF (v9 l,l) (List.mem_append_right _ List.mem_cons_self),a2q,hr]
   show j9 [(v9 l,n)] (v9 l)=_
   unfold j9
   rw [List.find?_cons_of_pos (by simp)]
   rfl
  have hF':∀ kv∈ts,j9 rsF kv.1=j9 rs kv.1:=fun kv hk=>by
   rw [hF kv (List.mem_append_left _ hk),a2q]
   have:j9 [(v9 l,n)] kv.1=none:=M7.mpr fun x hx=>by
    rw [List.mem_singleton] at hx
    rw [hx]
    exact fun z=>M7.mp hn kv hk z.symm
   rw [this]
   cases j9 rs kv.1 <;> rfl
  have hc:B5 T n=some c:=a3E hnd hm
  have vars:∀ y∈c,y=l∨j9 ts (v9 y)=some (-y):=fun y hy=>by
   by_cases z:j9 ts (v9 y)=some (-y)
   ·exact .inr z
   ·have:y∈A4 ts c:=a1g.mpr ⟨hy,z⟩
    rw [ho,List.mem_singleton] at this
    exact .inl this
  have lc:l∈c:=(a1g.mp (by rw [ho]; exact List.mem_cons_self)).1
  have er:((ts++[(v9 l,l)]).map (·.1)).reverse=v9 l::(ts.map (·.1)).reverse:=by simp
  rw [er,a5a]
  by_cases hx:v9 l∈nd0
  ·rw [if_pos ⟨hx,by rw [hFl]; rfl⟩,hFl]
   show ∃ hs nd D,(B5 T n).bind (fun c=>N8 T rsF (ts.map (·.1)).reverse (hs0++[n]) ((T9 c).foldl V6 nd0))=some (hs0++hs,nd)∧_
   rw [hc]
   obtain ⟨hs,nd,D,hb,B⟩:=ih rsF hF' (hs0++[n]) ((T9 c).foldl V6 nd0)
   have inn:∀ y∈c,v9 y∈nd:=fun y hy=>B.sub _ ((a1X _ _ _).mpr (.inr (a6v.mpr ⟨y,hy,rfl⟩)))
   have nD:∀ y,v9 y=v9 l→y∉D:=fun y e h=>M7.mp hn _ (B.tru y h) e
   have ol:u6 D c=[l]:=by
    have h1:∀ y∈u6 D c,y=l:=fun y hy=>by
     obtain ⟨y1,y2⟩:=a0W.mp hy
     rcases vars y y1 with e | e
     ·exact e
     ·exact absurd (B.all _ (a02 e) (inn y y1)) y2
    have h2:l∈u6 D c:=a0W.mpr ⟨lc,nD (-l) (a84 l)⟩
    rcases a3h (b2G D c) h1 with e | e
    ·rw [e] at h2; cases h2
    ·exact e
   refine ⟨n::hs,nd,D++[l],by rw [show hs0++n::hs=hs0++[n]++hs by simp]; exact hb,fun x h=>B.sub x ((a1X _ _ _).mpr (.inl h)),fun x h=>?_,?_,fun kv hk h=>?_,fun y hy=>?_,fun h hh=>?_⟩
   ·rcases B.key x h with h | ⟨q,h⟩
    ·rcases (a1X _ _ _).mp h with h | h
     ·exact .inl h
     ·obtain ⟨y,y1,rfl⟩:=a6v.mp h
      rcases vars y y1 with e | e
      ·rw [e]; exact .inr ⟨l,List.mem_append_right _ List.mem_cons_self⟩
      ·exact .inr ⟨-y,List.mem_append_left _ (a02 e)⟩
    ·exact .inr ⟨q,List.mem_append_left _ h⟩
   ·rw [List.reverse_cons]
    exact a7l hc B.go ol (nD l rfl)
   ·rcases List.mem_append.mp hk with hk | hk
    ·exact List.mem_append_left _ (B.all kv hk h)
    ·rw [List.mem_singleton] at hk
     rw [hk]
     exact List.mem_append_right _ List.mem_cons_self
   ·rcases List.mem_append.mp hy with hy | hy
    ·exact List.mem_append_left _ (B.tru y hy)
    ·rw [List.mem_singleton] at hy
     rw [hy]
     exact List.mem_append_right _ List.mem_cons_self
   ·rcases List.mem_cons.mp hh with rfl | hh
    ·exact ⟨c,hm⟩
    ·exact B.hin h hh
  ·rw [if_neg (fun z=>hx z.1)]
   obtain ⟨hs,nd,D,hb,B⟩:=ih rsF hF' hs0 nd0
   refine ⟨hs,nd,D,hb,B.sub,fun x h=>?_,B.go,fun kv hk h=>?_,fun y hy=>List.mem_append_left _ (B.tru y hy),B.hin⟩
   ·rcases B.key x h with h | ⟨q,h⟩
    ·exact .inl h
    ·exact .inr ⟨q,List.mem_append_left _ h⟩
   ·rcases List.mem_append.mp hk with hk | hk
    ·exact B.all kv hk h
    ·rw [List.mem_singleton] at hk
     subst hk
     rcases B.key _ h with h | ⟨q,h⟩
     ·exact absurd h hx
     ·exact absurd rfl (M7.mp hn _ h)
structure Lrn (T:Tab) (ch:List Int) (k:Int) (cc C hs D:List Int):Prop where
 sub:∀ l∈C,-l∈ch
 len:C.length≤ch.length
 go:wgo T (C.map fun l=>-l) hs=some D
 ends:u6 D cc=[]
 hin:∀ h∈hs,∃ c,(h,c)∈T
theorem b1Q {T:Tab}{ch:List Int}(hnd:(T.map (·.1)).Nodup){ts rs:F1}(g:Gr T (chT ch) ts rs){k:Int}{cc:List Int}(hk:(k,cc)∈T)(ho:A4 ts cc=[]):∃ C hs D,T4 T ch ts rs k=some (C,hs++[k])∧Lrn T ch k cc C hs D:=by
 obtain ⟨hs,nd,D,hb,B⟩:=b0D hnd g rs (fun _ _=>rfl) [k] (T9 cc)
 refine ⟨(ch.filter fun l=>decide (v9 l∈nd)).map (fun l=>-l),hs.reverse,D,?_,fun l hl=>?_,?_,?_,?_,fun h hh=>B.hin h (List.mem_reverse.mp hh)⟩
 ·unfold T4
  rw [show B5 T k=some cc from a3E hnd hk]
  show (N8 T rs (ts.map (·.1)).reverse [k] (T9 cc)).map _=_
  rw [hb]
  show some (_,([k]++hs).reverse)=_
  rw [List.reverse_append]
  rfl
 ·obtain ⟨x,hx,rfl⟩:=List.mem_map.mp hl
  rw [Int.neg_neg]
  exact (List.mem_filter.mp hx).1
 ·rw [List.length_map]
  exact List.length_filter_le _ _
 ·rw [List.map_map,show ((fun l:Int=>-l) ∘ fun l=>-l)=id by funext x; simp,List.map_id]
  exact B.go
 ·cases hX:u6 D cc with
  | nil=>rfl
  | cons y r=>
   obtain ⟨y1,y2⟩:=a0W.mp (show y∈u6 D cc by rw [hX]; exact List.mem_cons_self)
   have z:j9 ts (v9 y)=some (-y):=Classical.byContradiction fun z=>by
    have:y∈A4 ts cc:=a1g.mpr ⟨y1,z⟩
    rw [ho] at this
    cases this
   exact absurd (B.all _ (a02 z) (B.sub _ (a6v.mpr ⟨y,y1,rfl⟩))) y2
theorem b2B:∀ (v:Nat) (xs:List Int),xs.Nodup→(∀ x∈xs,1≤x∧x≤(v:Int))→xs.length≤v
 | 0,xs,_,h=>by
  cases xs with
  | nil=>exact Nat.le_refl _
  | cons a r=>have:=h a List.mem_cons_self; omega
 | v + 1,xs,hd,h=>by
  have ih:=b2B v (xs.erase ((v:Int) + 1)) (hd.erase _) fun x hx=>by
   obtain ⟨a,b⟩:=(hd.mem_erase_iff).mp hx
   have:=h x b
   omega
  have:=List.length_erase (a:=(v:Int) + 1) (l:=xs)
  split at this <;> omega
structure KO (v:Nat) (ts:F1):Prop where
 nd:(ts.map (·.1)).Nodup
 ok:∀ kv∈ts,kv.1=v9 kv.2∧kv.2≠0∧kv.2.natAbs≤v
theorem KO.len {v:Nat}{ts:F1}(h:KO v ts):ts.length≤v:=by
 have:=b2B v (ts.map (·.1)) h.nd fun x hx=>by
  obtain ⟨kv,hk,rfl⟩:=List.mem_map.mp hx
  obtain ⟨a,b,c⟩:=h.ok kv hk
  rw [a]
  unfold v9
  omega
 rwa [List.length_map] at this
theorem Gr.ko {v:Nat}{T:Tab}{t0 ts rs:F1}(hT:∀ kv∈T,∀ l∈kv.2,l≠0∧l.natAbs≤v)(h0:KO v t0)(g:Gr T t0 ts rs):KO v ts:=by
 induction g with
 | base=>exact h0
 | @step ts rs n l c g hm ho hn ih=>
  have lc:l∈c:=(a1g.mp (by rw [ho]; exact List.mem_cons_self)).1
  refine ⟨?_,fun kv hk=>?_⟩
  ·rw [List.map_append,List.nodup_append]
   refine ⟨ih.nd,by simp,fun a ha b hb e=>?_⟩
   obtain ⟨kv,hk,rfl⟩:=List.mem_map.mp ha
   have hb:b=v9 l:=by simpa using hb
   exact M7.mp hn kv hk (by rw [e,hb])
  ·rcases List.mem_append.mp hk with hk | hk
   ·exact ih.ok kv hk
   ·rw [List.mem_singleton] at hk
    rw [hk]
    exact ⟨rfl,hT _ hm l lc⟩
structure Chs (v:Nat) (ch:List Int):Prop where
 nd:(ch.map v9).Nodup
 ok:∀ l∈ch,l < 0∧l.natAbs≤v
theorem Chs.ko {v:Nat}{ch:List Int}(h:Chs v ch):KO v (chT ch):=by
 refine ⟨?_,fun kv hk=>?_⟩
 ·rw [List.map_map]
  exact h.nd
 ·obtain ⟨l,hl,rfl⟩:=List.mem_map.mp hk
  have:=h.ok l hl
  exact ⟨rfl,by omega,this.2⟩
theorem Chs.len {v:Nat}{ch:List Int}(h:Chs v ch):ch.length≤v:=by
 have:=h.ko.len
 rwa [List.length_map] at this
theorem a39:∀ (ch:List Int) (ts:F1),(ch.map v9).Nodup→(∀ l∈ch,j9 ts (v9 l)=none)→ch.foldl (fun ts l=>F6 ts (v9 l) l) ts=ts++chT ch
 | [],ts,_,_=>by rw [List.foldl_nil]; simp
 | l::ch,ts,hd,h=>by
  rw [List.map_cons,List.nodup_cons] at hd
  rw [List.foldl_cons,a3N (h l List.mem_cons_self),a39 ch _ hd.2 fun x hx=>?_]
  ·simp
  ·rw [a2q,h x (List.mem_cons_of_mem _ hx)]
   show j9 [(v9 l,l)] (v9 x)=none
   refine M7.mpr fun kv hk=>?_
   rw [List.mem_singleton] at hk
   rw [hk]
   exact fun z=>hd.1 (by show v9 l∈_; rw [show v9 l=v9 x from z]; exact List.mem_map_of_mem hx)
theorem Chs.b41 {v:Nat}{ch:List Int}(h:Chs v ch):F7 ch=chT ch:=by
 unfold F7
 rw [a39 ch [] h.nd fun _ _=>rfl,List.nil_append]
theorem Chs.look {v:Nat}{ch:List Int}(h:Chs v ch){l:Int}(hl:l∈ch):j9 (chT ch) (v9 l)=some l:=by
 cases e:j9 (chT ch) (v9 l) with
 | none=>exact absurd rfl (M7.mp e _ (List.mem_map_of_mem hl))
 | some q=>
  have hq:=a02 e
  obtain ⟨x,hx,e2⟩:=List.mem_map.mp hq
  have e3:v9 x=v9 l:=congrArg Prod.fst e2
  have e4:x=q:=congrArg Prod.snd e2
  have a:=h.ok x hx
  have b:=h.ok l hl
  unfold v9 at e3
  have:x=l:=by omega
  rw [← e4,this]
theorem a4E {v:Nat}{x:Int}:x∈(List.range v).map (fun k=>(1:Int) + ((k:Nat):Int))↔1≤x∧x≤(v:Int):=by
 rw [List.mem_map]
 constructor
 ·rintro ⟨k,hk,rfl⟩
  have:=List.mem_range.mp hk
  omega
 ·rintro ⟨h1,h2⟩
  exact ⟨(x - 1).toNat,List.mem_range.mpr (by omega),by omega⟩
noncomputable def a1o:List Int→List (List Int)
 | []=>[[]]
 | x::xs=>a1o xs++(a1o xs).map (x::·)
theorem a5H:∀ xs:List Int,(a1o xs).length=2 ^ xs.length
 | []=>rfl
 | x::xs=>by
  show (a1o xs++(a1o xs).map (x::·)).length=_
  rw [List.length_append,List.length_map,a5H xs,List.length_cons,Nat.pow_succ]
  omega
theorem a5o (p:Int→Bool):∀ xs:List Int,xs.filter p∈a1o xs
 | []=>List.mem_cons_self
 | x::xs=>by
  have ih:=a5o p xs
  show _∈a1o xs++(a1o xs).map (x::·)
  cases h:p x with
  | true=>rw [List.filter_cons_of_pos h]; exact List.mem_append_right _ (List.mem_map_of_mem ih)
  | false=>rw [List.filter_cons_of_neg (by rw [h]; simp)]; exact List.mem_append_left _ ih
theorem filter_lt {α:Type}{p q:α→Bool}(hi:∀ x,q x=true→p x=true){a:α}(h1:p a=true)(h2:q a=false):∀ {l:List α},a∈l→(l.filter q).length < (l.filter p).length
 | x::l,h=>by
  have le:(l.filter q).length≤(l.filter p).length:=by
   rw [← List.countP_eq_length_filter,← List.countP_eq_length_filter]
   exact List.countP_mono_left fun x _=>hi x
  by_cases hx:q x=true
  ·rw [List.filter_cons_of_pos hx,List.filter_cons_of_pos (hi x hx),List.length_cons,List.length_cons]
   have:a∈l:=by
    rcases List.mem_cons.mp h with z | z
    ·rw [z,hx] at h2; cases h2
    ·exact z
   have:=filter_lt hi h1 h2 this
   omega
  ·rw [List.filter_cons_of_neg hx]
   by_cases hp:p x=true
   ·rw [List.filter_cons_of_pos hp,List.length_cons]; omega
   ·rw [List.filter_cons_of_neg hp]
    have:a∈l:=by
     rcases List.mem_cons.mp h with z | z
     ·rw [z] at h1; exact absurd h1 hp
     ·exact z
    exact filter_lt hi h1 h2 this
noncomputable abbrev vrs (v:Nat):List Int:=(List.range v).map (fun k=>(1:Int) + ((k:Nat):Int))
noncomputable def muP (cs:List (List Int))(S:List Int):Bool:=cs.all fun c=>c.any fun l=>!decide (l∈S)
noncomputable def mu (v:Nat)(cs:List (List Int)):Nat:=((a1o (vrs v)).filter (muP cs)).length
theorem b6t (v:Nat)(cs:List (List Int)):mu v cs≤2 ^ v:=by
 have:=List.length_filter_le (muP cs) (a1o (vrs v))
 rw [a5H,List.length_map,List.length_range] at this
 exact this
theorem b6B {v:Nat}{cs:List (List Int)}{ch C:List Int}(hch:Chs v ch)(J:∀ c∈cs,∃ l∈c,-l∉ch)(hC:∀ l∈C,-l∈ch):mu v (cs++[C]) < mu v cs:=by
 refine filter_lt (p:=muP cs) (q:=muP (cs++[C])) (fun S h=>?_) (a:=(vrs v).filter fun x=>decide (x∈C)) ?_ ?_ (a5o _ _)
 ·unfold muP at *
  rw [List.all_append,Bool.and_eq_true] at h
  exact h.1
 ·unfold muP
  rw [List.all_eq_true]
  intro c hc
  obtain ⟨l,l1,l2⟩:=J c hc
  refine List.any_eq_true.mpr ⟨l,l1,?_⟩
  have:l∉(vrs v).filter fun x=>decide (x∈C):=fun z=>l2 (hC l (of_decide_eq_true (List.mem_filter.mp z).2))
  simp only [decide_eq_false this,Bool.not_false]
 ·unfold muP
  rw [List.all_append]
  have:([C].all fun c=>c.any fun l=>!decide (l∈(vrs v).filter fun x=>decide (x∈C)))=false:=by
   show ((C.any fun l=>!decide (l∈(vrs v).filter fun x=>decide (x∈C))) && true)=false
   rw [Bool.and_true,List.any_eq_false]
   intro l hl
   have a:=hch.ok _ (hC l hl)
   have:l∈(vrs v).filter fun x=>decide (x∈C):=List.mem_filter.mpr ⟨a4E.mpr ⟨by omega,by omega⟩,decide_eq_true hl⟩
   rw [decide_eq_true this]
   simp
  rw [this,Bool.and_false]
inductive a1H (cs0:List (List Int)):List (List Int)→List W2→Prop
 | nil:a1H cs0 cs0 []
 | snoc {cs:List (List Int)} {st:List W2} {c hs D cc:List Int} {k:Int}:a1H cs0 cs st→c≠[]→c.length≤20→hs.length≤20→wgo (w5 1 cs) (c.map fun l=>-l) hs=some D→(k,cc)∈w5 1 cs→u6 D cc=[]→(∀ h∈hs,∃ c,(h,c)∈w5 1 cs)→(∀ l∈c,0 < l)→a1H cs0 (cs++[c]) (st++[(((cs.length + 1:Nat):Int),c,hs++[k])])
theorem a1H.len {cs0 cs:List (List Int)}{st:List W2}(h:a1H cs0 cs st):cs.length=cs0.length + st.length:=by
 induction h with
 | nil=>rfl
 | snoc _ _ _ _ _ _ _ _ _ ih=>rw [List.length_append,List.length_append,ih]; rfl
theorem a1H.b7L {cs0 cs:List (List Int)}{st:List W2}(h:a1H cs0 cs st){c:List Int}(hc:c∈cs0):c∈cs:=by
 induction h with
 | nil=>exact hc
 | snoc _ _ _ _ _ _ _ _ _ ih=>exact List.mem_append_left _ ih
theorem a3X {cs:List (List Int)}{v:Nat}{M:List Int}(hM:Mdl v M)(hs:∀ c∈cs,∃ l∈c,l∈M){c hh D cc:List Int}{k:Int}(hc:∀ l∈c,l≠0∧l.natAbs≤v)(hw:wgo (w5 1 cs) (c.map fun l=>-l) hh=some D)(hk:(k,cc)∈w5 1 cs)(he:u6 D cc=[]):∃ l∈c,l∈M:=by
 apply Classical.byContradiction
 intro hno
 have hT:∀ kv∈w5 1 cs,∃ l∈kv.2,l∈M:=fun kv hm=>hs _ (O1 cs 1 kv hm).2.2
 have hD:=a5j hT hM.con (fun t ht=>by
  obtain ⟨l,hl,rfl⟩:=List.mem_map.mp ht
  rcases hM.tot l (hc l hl).1 (hc l hl).2 with z | z
  ·exact absurd ⟨l,hl,z⟩ hno
  ·exact z) hw
 obtain ⟨l,l1,l2⟩:=hT _ hk
 have:l∈u6 D cc:=a0W.mpr ⟨l1,fun z=>hM.con l l2 (hD _ z)⟩
 rw [he] at this
 cases this
inductive Res (v:Nat) (cs0:List (List Int)):Option (List Int)×List W2→Prop
 | model {f:Nat→Int}:(∀ k,k < v→f k=(k:Int) + 1∨f k=-((k:Int) + 1))→(∀ c∈cs0,∃ l∈c,l∈(List.range v).map f)→Res v cs0 (some ((List.range v).map f),[])
 | none {cs:List (List Int)} {st:List W2} {hs D cc:List Int} {k:Int}:a1H cs0 cs st→(∀ c∈cs,∀ l∈c,l≠0∧l.natAbs≤v)→cs.length≤50→hs.length≤20→wgo (w5 1 cs) [] hs=some D→(k,cc)∈w5 1 cs→u6 D cc=[]→(∀ h∈hs,∃ c,(h,c)∈w5 1 cs)→Res v cs0 (none,st++[(((cs.length + 1:Nat):Int),[],hs++[k])])
theorem a1H.sat {v:Nat}{cs0 cs:List (List Int)}{st:List W2}(h:a1H cs0 cs st)(hl:∀ c∈cs,∀ l∈c,l≠0∧l.natAbs≤v){M:List Int}(hM:Mdl v M)(hs:∀ c∈cs0,∃ l∈c,l∈M):∀ c∈cs,∃ l∈c,l∈M:=by
 induction h with
 | nil=>exact hs
 | @snoc cs st c hh D cc k _ _ _ _ hw hk he _ _ ih=>
  have ih:=ih fun c hc=>hl c (List.mem_append_left _ hc)
  intro d hd
  rcases List.mem_append.mp hd with hd | hd
  ·exact ih d hd
  ·rw [List.mem_singleton] at hd
   rw [hd]
   exact a3X hM ih (hl c (List.mem_append_right _ List.mem_cons_self)) hw hk he
structure SI (v:Nat) (cs0 cs:List (List Int)) (st:List W2) (ch:List Int):Prop where
 stp:a1H cs0 cs st
 lit:∀ c∈cs,∀ l∈c,l≠0∧l.natAbs≤v
 len:∀ c∈cs,c.length≤100
 chs:Chs v ch
 jj:ch≠[]→∀ c∈cs,∃ l∈c,-l∉ch
 siz:cs.length + mu v cs≤50
theorem a4k {v:Nat}(hv:v≤18){cs0:List (List Int)}:∀ (n:Nat) (cs:List (List Int)) (st:List W2) (ch:List Int),SI v cs0 cs st ch→mu v cs * (v + 1) + (v - ch.length) < n→∃ r,x9 (v:Int) n cs st ch=some r∧Res v cs0 r
 | 0,_,_,_,_,h=>absurd h (Nat.not_lt_zero _)
 | n + 1,cs,st,ch,I,hn=>by
  have cl:=I.chs.len
  have sl:=I.stp.len
  have z:=I.siz
  have hok:okS cs st ch=true:=by
   unfold okS
   rw [Bool.and_eq_true,List.all_eq_true]
   exact ⟨decide_eq_true ⟨by omega,by omega,by omega⟩,fun c hc=>decide_eq_true (I.len c hc)⟩
  have hTl:∀ kv∈w5 1 cs,∀ l∈kv.2,l≠0∧l.natAbs≤v:=fun kv hm=>I.lit _ (O1 cs 1 kv hm).2.2
  have hT:F7 ch=chT ch:=I.chs.b41
  obtain ⟨q,hq,S⟩:=a48 (T:=w5 1 cs) (t0:=chT ch) (m:=v) (fun ts rs g=>(g.ko hTl I.chs.ko).len) 99 (chT ch) [] .base (by omega)
  have hnd:=V1 cs 1
  have ev:x9 (v:Int) (n + 1) cs st ch=if okS cs st ch=true then match K4 (w5 1 cs) 99 (F7 ch) [] with
   | none=>none
   | some (some k,ts,rs)=>if ts.length≤20∧rs.length≤1000 then match T4 (w5 1 cs) ch ts rs k with
    | none=>none
    | some (c,hs)=>match c.getLast? with
     | none=>some (none,st++[(((cs.length + 1:Nat):Int),c,hs)])
     | some l=>if -l∈ch then x9 v n (cs++[c]) (st++[(((cs.length + 1:Nat):Int),c,hs)]) (ch.takeWhile fun x=>!decide (x=-l)) else none
    else none
   | some (none,ts,rs)=>match E3 v ts with
    | []=>some (some (a4m v ts),[])
    | x::_=>x9 v n cs st (ch++[-x])
   else none:=rfl
  rw [ev,if_pos hok,hT,hq]
  obtain ⟨qk,ts,rs⟩:=q
  have G:Gr (w5 1 cs) (chT ch) ts rs:=S.gr
  have K:=G.ko hTl I.chs.ko
  have tl:=K.len
  have rl:=G.b8d
  cases qk with
  | some k=>
   obtain ⟨cc,hk,ho⟩:=S.cf k rfl
   obtain ⟨C,hs,D,hL,L⟩:=b1Q hnd G hk ho
   show ∃ r,(if ts.length≤20∧rs.length≤1000 then match T4 (w5 1 cs) ch ts rs k with
    | none=>none
    | some (c,hs)=>match c.getLast? with
     | none=>some (none,st++[(((cs.length + 1:Nat):Int),c,hs)])
     | some l=>if -l∈ch then x9 v n (cs++[c]) (st++[(((cs.length + 1:Nat):Int),c,hs)]) (ch.takeWhile fun x=>!decide (x=-l)) else none
    else none)=some r∧_
   have hsl:hs.length≤20:=by
    have:=hL
    unfold T4 at this
    obtain ⟨c1,_,h2⟩:=Option.bind_eq_some_iff.mp this
    obtain ⟨q2,h3,h4⟩:=Option.map_eq_some_iff.mp h2
    have bl:=a2s _ _ _ _ h3
    have e:q2.1.reverse=hs++[k]:=congrArg Prod.snd h4
    have e2:=congrArg List.length e
    rw [List.length_reverse,List.length_append,List.length_singleton] at e2
    rw [List.length_reverse,List.length_map,List.length_singleton] at bl
    omega
   rw [if_pos ⟨by omega,by omega⟩,hL]
   show ∃ r,(match C.getLast? with
    | none=>some (none,st++[(((cs.length + 1:Nat):Int),C,hs++[k])])
    | some l=>if -l∈ch then x9 v n (cs++[C]) (st++[(((cs.length + 1:Nat):Int),C,hs++[k])]) (ch.takeWhile fun x=>!decide (x=-l)) else none)=some r∧_
   cases hg:C.getLast? with
   | none=>
    have hC:C=[]:=List.getLast?_eq_none_iff.mp hg
    subst hC
    exact ⟨_,rfl,.none I.stp I.lit (by omega) hsl L.go hk L.ends L.hin⟩
   | some l=>
    have lC:l∈C:=List.mem_of_getLast? hg
    have hl:=L.sub l lC
    have cne:C≠[]:=fun e=>by rw [e] at lC; cases lC
    have chne:ch≠[]:=fun e=>by rw [e] at hl; cases hl
    have J:=I.jj chne
    have lt:=b6B I.chs J L.sub
    show ∃ r,(if -l∈ch then x9 v n (cs++[C]) (st++[(((cs.length + 1:Nat):Int),C,hs++[k])]) (ch.takeWhile fun x=>!decide (x=-l)) else none)=some r∧_
    rw [if_pos hl]
    have pre:(ch.takeWhile fun x=>!decide (x=-l)).Sublist ch:=(List.takeWhile_prefix _).sublist
    have Clen:=L.len
    refine a4k hv n (cs++[C]) _ _ ⟨.snoc I.stp cne (by omega) hsl L.go hk L.ends L.hin (fun x hx=>by have:=(I.chs.ok _ (L.sub x hx)).1; omega),fun c hc=>?_,fun c hc=>?_,⟨(pre.map v9).nodup I.chs.nd,fun x hx=>I.chs.ok x (pre.subset hx)⟩,fun _ c hc=>?_,?_⟩ ?_
    ·rcases List.mem_append.mp hc with hc | hc
     ·exact I.lit c hc
     ·rw [List.mem_singleton] at hc
      rw [hc]
      intro x hx
      have:=I.chs.ok _ (L.sub x hx)
      omega
    ·rcases List.mem_append.mp hc with hc | hc
     ·exact I.len c hc
     ·rw [List.mem_singleton] at hc
      rw [hc]
      omega
    ·rcases List.mem_append.mp hc with hc | hc
     ·obtain ⟨x,x1,x2⟩:=J c hc
      exact ⟨x,x1,fun y=>x2 (pre.subset y)⟩
     ·rw [List.mem_singleton] at hc
      rw [hc]
      refine ⟨l,lC,fun y=>?_⟩
      have:=List.all_takeWhile (p:=fun x=>!decide (x=-l)) (l:=ch)
      have:=List.all_eq_true.mp this _ y
      simp at this
    ·rw [List.length_append,List.length_singleton]; omega
    ·have h1:mu v (cs++[C]) * (v + 1) + (v + 1)≤mu v cs * (v + 1):=by
      have:=Nat.mul_le_mul_right (v + 1) (show mu v (cs++[C]) + 1≤mu v cs from lt)
      rw [Nat.add_mul,Nat.one_mul] at this
      exact this
     omega
  | none=>
   have fx:=S.fx rfl
   have fx:∀ kv∈w5 1 cs,A4 ts kv.2≠[]∧∀ l,A4 ts kv.2=[l]→j9 ts (v9 l)≠none:=fx
   have fxc:∀ c∈cs,∃ n,(n,c)∈w5 1 cs:=fun c hc=>by
    have:∀ (ds:List (List Int)) (j:Int),c∈ds→∃ n,(n,c)∈w5 j ds:=by
     intro ds
     induction ds with
     | nil=>intro j h; cases h
     | cons d ds ih=>
      intro j h
      rcases List.mem_cons.mp h with rfl | h
      ·exact ⟨j,List.mem_cons_self⟩
      ·obtain ⟨m,hm⟩:=ih (j + 1) h
       exact ⟨m,List.mem_cons_of_mem _ hm⟩
    exact this cs 1 hc
   show ∃ r,(match E3 v ts with
    | []=>some (some (a4m v ts),[])
    | x::_=>x9 v n cs st (ch++[-x]))=some r∧_
   cases hf:E3 v ts with
   | nil=>
    have all:∀ x:Int,1≤x→x≤(v:Int)→∃ l,j9 ts x=some l:=fun x h1 h2=>by
     cases hh:j9 ts x with
     | some l=>exact ⟨l,rfl⟩
     | none=>
      have:x∈E3 v ts:=List.mem_filter.mpr ⟨by rw [Int.toNat_natCast]; exact a4E.mpr ⟨h1,h2⟩,by rw [hh]; rfl⟩
      rw [hf] at this
      cases this
    have key:∀ {x l:Int},j9 ts x=some l→x=v9 l:=fun h=>(K.ok _ (a02 h)).1
    have et:a4m (v:Int) ts=(List.range v).map fun k=>(j9 ts (1 + ((k:Nat):Int))).getD 0:=by
     unfold a4m
     rw [Int.toNat_natCast,List.map_map]
     rfl
    refine ⟨_,rfl,?_⟩
    rw [et]
    refine .model (fun k hk=>?_) fun c hc=>?_
    ·obtain ⟨l,hl⟩:=all (1 + (k:Int)) (by omega) (by omega)
     rw [hl]
     have:=key hl
     unfold v9 at this
     show l=_∨l=_
     omega
    ·obtain ⟨m,hm⟩:=fxc c (I.stp.b7L hc)
     have ne:=(fx _ hm).1
     obtain ⟨y,hy⟩:=List.exists_mem_of_ne_nil _ ne
     obtain ⟨y1,y2⟩:=a1g.mp hy
     have yl:=hTl _ hm y y1
     obtain ⟨l,hl⟩:=all (v9 y) (by unfold v9; omega) (by unfold v9; omega)
     have e:=key hl
     have:l=y:=by
      rw [hl] at y2
      have:l≠-y:=fun z=>y2 (by rw [z])
      unfold v9 at e
      omega
     refine ⟨y,y1,List.mem_map.mpr ⟨y.natAbs - 1,List.mem_range.mpr (by omega),?_⟩⟩
     have e2:(1:Int) + ((y.natAbs - 1:Nat):Int)=v9 y:=by unfold v9; omega
     rw [e2,hl,this]
     rfl
   | cons x xs=>
    have hx:x∈E3 v ts:=by rw [hf]; exact List.mem_cons_self
    obtain ⟨x1,x2⟩:=List.mem_filter.mp hx
    rw [Int.toNat_natCast] at x1
    have x1:=a4E.mp x1
    have xn:j9 ts x=none:=by
     cases hh:j9 ts x with
     | none=>rfl
     | some l=>rw [hh] at x2; cases x2
    have xch:∀ l∈ch,v9 l≠x:=fun l hl e=>by
     have:=G.b4E (I.chs.look hl)
     rw [e,xn] at this
     cases this
    have chs':Chs v (ch++[-x]):=by
     refine ⟨?_,fun l hl=>?_⟩
     ·rw [List.map_append,List.nodup_append]
      refine ⟨I.chs.nd,by simp,fun a ha b hb e=>?_⟩
      obtain ⟨l,hl,rfl⟩:=List.mem_map.mp ha
      have hb:b=v9 (-x):=by simpa using hb
      refine xch l hl ?_
      rw [e,hb]
      unfold v9
      omega
     ·rcases List.mem_append.mp hl with hl | hl
      ·exact I.chs.ok l hl
      ·rw [List.mem_singleton] at hl
       omega
    have cl':=chs'.len
    rw [List.length_append,List.length_singleton] at cl'
    show ∃ r,x9 v n cs st (ch++[-x])=some r∧_
    refine a4k hv n cs st (ch++[-x]) ⟨I.stp,I.lit,I.len,chs',fun _ c hc=>?_,I.siz⟩ ?_
    ·apply Classical.byContradiction
     intro hno
     have hno:∀ l∈c,-l∈ch++[-x]:=fun l hl=>Classical.byContradiction fun z=>hno ⟨l,hl,z⟩
     obtain ⟨m,hm⟩:=fxc c hc
     obtain ⟨f1,f2⟩:=fx _ hm
     have only:∀ y∈A4 ts c,y=x:=fun y hy=>by
      obtain ⟨y1,y2⟩:=a1g.mp hy
      rcases List.mem_append.mp (hno y y1) with z | z
      ·have:=G.b4E (I.chs.look z)
       rw [a84] at this
       exact absurd this y2
      ·rw [List.mem_singleton] at z
       omega
     rcases a3h (b3J ts c) only with e | e
     ·exact f1 e
     ·refine f2 x e ?_
      rw [show v9 x=x by unfold v9; omega]
      exact xn
    ·rw [List.length_append,List.length_singleton]
     omega
theorem a7N {v:Nat}{cs0:List (List Int)}(hv:v≤10)(hl:∀ c∈cs0,∀ l∈c,l≠0∧l.natAbs≤v)(hc:∀ c∈cs0,c.length≤100)(hn:cs0.length + 2 ^ v≤50):∃ r,x9 (v:Int) 99999 cs0 [] []=some r∧Res v cs0 r:=by
 have ml:=b6t v cs0
 refine a4k (by omega) 99999 cs0 [] [] ⟨.nil,hl,hc,⟨List.nodup_nil,fun l h=>(by cases h)⟩,fun h=>absurd rfl h,by omega⟩ ?_
 have:mu v cs0 * (v + 1)≤50 * 11:=Nat.mul_le_mul (by omega) (by omega)
 rw [List.length_nil]
 omega
theorem b5D {p v:Int}(h:0 < v):a7O p v≠0:=by
 unfold a7O
 have h1:=Int.emod_nonneg (p / 2) (b:=v) (by omega)
 have h2:p % 2=0∨p % 2=1:=by omega
 rcases h2 with h2 | h2 <;> rw [h2]
 ·omega
 ·intro h
  omega
theorem a91 {ns:List Int}{b v most:Int}(h:0 < v):∀ l∈A7 ns b v most,l≠0:=by
 intro l hl
 obtain ⟨k,_,rfl⟩:=List.mem_map.mp hl
 exact b5D h
theorem a8u (ns:List Int)(b:Int):0 < (x6 ns b).1∧(x6 ns b).1≤4:=by
 have h1:=Int.emod_nonneg (A6 ns b) (b:=4) (by decide)
 have h2:=Int.emod_lt_of_pos (A6 ns b) (b:=4) (by decide)
 show 0 < 1 + A6 ns b % 4∧1 + A6 ns b % 4≤4
 omega
theorem b1E (ns:List Int)(b:Int):(x6 ns b).2.length≤8:=by
 have h1:=Int.emod_nonneg (A6 ns (b + 1)) (b:=9) (by decide)
 have h2:=Int.emod_lt_of_pos (A6 ns (b + 1)) (b:=9) (by decide)
 show ((List.range (A6 ns (b + 1) % 9).toNat).map _).length≤8
 rw [List.length_map,List.length_range]
 omega
theorem a4z {ns:List Int}{b:Int}:K7 [.lst (ns.map D.int),.int b]=some (.ret (.val (.tup [.int (x6 ns b).1,.lst (j7 (x6 ns b).2)])) []):=by
 show (intsOf (ns.map D.int)).map _=_
 rw [k8]
 rfl
theorem a2z:∀ ds r,K7 ds=some r→G8 a0q 4 [false,false] ds=some r:=by
 intro ds r h
 match ds,h with
 | [.lst ds,.int b],h=>
  cases hb:intsOf ds with
  | none=>have h':(intsOf ds).map _=some r:=h; rw [hb] at h'; cases h'
  | some ns=>
   have:=y9 hb
   subst this
   rw [a4z] at h
   cases h
   have hv:=a8u ns b
   have h1:=Int.emod_nonneg (A6 ns (b + 1)) (b:=9) (by decide)
   have h2:=Int.emod_lt_of_pos (A6 ns (b + 1)) (b:=9) (by decide)
   have hS:∃ S,S=A6 ns (b + 1) % 9:=⟨_,rfl⟩
   obtain ⟨S,hS⟩:=hS
   have hV:∃ v,v=(x6 ns b).1:=⟨_,rfl⟩
   obtain ⟨v,hV⟩:=hV
   have e2:(x6 ns b).2=(List.range S.toNat).map fun (k:Nat)=>A7 ns (b + 2 + 5 * (k:Int)) v 4:=by rw [hS,hV]; rfl
   rw [← hV] at hv ⊢
   rw [e2]
   rw [← hS] at h1 h2
   have hi:ints1 [.int S]=some ((List.range S.toNat).map fun k=>D.int (0 + ((k:Nat):Int))):=r8 ⟨by omega,by omega⟩
   have hc:D3 (E4 0) E6 (n5 [false,false,false,false] C5 (c6 (c9 1) (c6 (f7 z8 (f7 z8 (c9 2) (mC (.int 2))) (f7 R8 (mC (.int 5)) (c9 0))) (c6 (c9 3) (c6 (mC (.int 4)) g8))))) [none,some (.sh (.lst (ns.map D.int))),some (.sh (.int b)),some (.sh (.int v))] ((List.range S.toNat).map fun k=>D.int (0 + ((k:Nat):Int)))=some (j7 ((List.range S.toNat).map fun (k:Nat)=>A7 ns (b + 2 + 5 * (k:Int)) v 4)):=by
    rw [show j7 ((List.range S.toNat).map fun (k:Nat)=>A7 ns (b + 2 + 5 * (k:Int)) v 4)=((List.range S.toNat).map fun k=>D.int (0 + ((k:Nat):Int))).map (fun d=>D.tup ((A7 ns (b + 2 + 5 * (toI d)) v 4).map D.int)) by
     unfold j7
     rw [List.map_map,List.map_map]
     refine List.map_congr_left fun k _=>?_
     show D.tup ((A7 ns (b + 2 + 5 * (k:Int)) v 4).map D.int)=D.tup ((A7 ns (b + 2 + 5 * (0 + (k:Int))) v 4).map D.int)
     rw [Int.zero_add]]
    apply a09
    intro d hd
    obtain ⟨k,_,rfl⟩:=List.mem_map.mp hd
    show ∃ ρ1 w ρ2 ρ3,_∧_∧C7 w ρ2=some (.ok (D.tup ((A7 ns (b + 2 + 5 * (0 + (k:Int))) v 4).map D.int)) ρ3)
    generalize (0:Int) + (k:Int)=j
    have fc:=a2B (ns:=ns) (b:=b + 2 + 5 * j) (v:=v) (most:=4) hv.1 (by omega) (by decide) (by decide)
    exact ⟨[some (.sh (.int j)),some (.sh (.lst (ns.map D.int))),some (.sh (.int b)),some (.sh (.int v))],.val (.tup ((A7 ns (b + 2 + 5 * j) v 4).map D.int)),[some (.sh (.int j)),some (.sh (.lst (ns.map D.int))),some (.sh (.int b)),some (.sh (.int v))],[some (.sh (.int j)),some (.sh (.lst (ns.map D.int))),some (.sh (.int b)),some (.sh (.int v))],rfl,
     A5 (d9 (d8 rfl) (d9 (f9 (f9 (d8 rfl) k6 rfl rfl rfl) (f9 k6 (d8 rfl) rfl rfl (W0 (.inl ⟨by decide,by decide⟩))) rfl rfl rfl) (d9 (d8 rfl) (d9 k6 i7)))) rfl rfl fc rfl rfl,rfl⟩
   have m1:=D0 (mi:=U0 ints1 (c6 (c9 3) g8)) (own:=1) (fr:=[0,1,2]) (ρ:=[some (.sh (.lst (ns.map D.int))),some (.sh (.int b)),some (.sh (.int v)),some (.sh (.int S))]) (ρ1:=[some (.sh (.lst (ns.map D.int))),some (.sh (.int b)),some (.sh (.int v)),some (.sh (.int S))]) (T3 (d9 (d8 rfl) i7) rfl hi) (by unfold small; rw [List.length_map,List.length_range]; omega) hc (.inr rfl)
   have s1:n9 2 (f7 z8 (mC (.int 1)) (f7 F5 (n5 [false,false] l7 (c6 (c9 0) (c6 (c9 1) g8))) (mC (.int 4)))) (z7 4 [false,false] [.lst (ns.map D.int),.int b])=some (.nx [some (.sh (.lst (ns.map D.int))),some (.sh (.int b)),some (.sh (.int v)),none]):=by
    rw [hV]
    exact u5 (f9 k6 (f9 (A5 (d9 (d8 rfl) (d9 (d8 rfl) i7)) rfl rfl V3 rfl rfl) k6 rfl rfl (N9 (by decide))) rfl rfl rfl) rfl
   have s2:n9 3 (f7 F5 (n5 [false,false] l7 (c6 (c9 0) (c6 (f7 z8 (c9 1) (mC (.int 1))) g8))) (mC (.int 9))) [some (.sh (.lst (ns.map D.int))),some (.sh (.int b)),some (.sh (.int v)),none]=some (.nx [some (.sh (.lst (ns.map D.int))),some (.sh (.int b)),some (.sh (.int v)),some (.sh (.int S))]):=by
    rw [hS]
    exact u5 (f9 (A5 (d9 (d8 rfl) (d9 (f9 (d8 rfl) k6 rfl rfl rfl) i7)) rfl rfl V3 rfl rfl) k6 rfl rfl (N9 (by decide))) rfl
   exact E7 (g9 s1 (g9 s2 (L6 (P9 (d9 (d8 rfl) (d9 m1 i7)) rfl (Nat.le_of_ble_eq_true rfl)) rfl))) rfl
theorem b59 {p v:Int}(hv:0 < v):(a7O p v).natAbs≤v.toNat:=by
 unfold a7O
 have h1:=Int.emod_nonneg (p / 2) (b:=v) (by omega)
 have h2:=Int.emod_lt_of_pos (p / 2) (b:=v) hv
 have h3:p % 2=0∨p % 2=1:=by omega
 generalize p / 2 % v=a at *
 rcases h3 with h3 | h3 <;> rw [h3] <;> omega
theorem a5Q {ns:List Int}{b v most:Int}(hv:0 < v):∀ l∈A7 ns b v most,l≠0∧l.natAbs≤v.toNat:=by
 intro l hl
 refine ⟨a91 hv l hl,?_⟩
 obtain ⟨k,_,rfl⟩:=List.mem_map.mp hl
 exact b59 hv
theorem a9Y {ns:List Int}{b v:Int}:(A7 ns b v 4).length≤7:=by
 unfold A7
 rw [List.length_map,List.length_range]
 have:=a6s (A6 ns b) 4 (by decide)
 omega
theorem b2F {ns:List Int}{b:Int}{c:List Int}(hc:c∈(x6 ns b).2):c.length≤7∧∀ l∈c,l≠0∧l.natAbs≤(x6 ns b).1.toNat:=by
 obtain ⟨k,_,rfl⟩:=List.mem_map.mp hc
 exact ⟨a9Y,a5Q (a8u ns b).1⟩
theorem a7b {v:Int}{cs:List (List Int)}{M:List Int}:M∈x8 v cs↔(∃ n:Nat,n < a6R v∧M=Q0 v (n:Int))∧∀ c∈cs,∃ l∈c,l∈M:=by
 unfold x8 b0J
 rw [List.mem_filter,List.mem_map,List.all_eq_true]
 have any:∀ c:List Int,a2a c M=true↔∃ l∈c,l∈M:=fun c=>by
  unfold a2a
  rw [List.any_eq_true]
  simp
 constructor
 ·rintro ⟨⟨n,hn,rfl⟩,h⟩
  exact ⟨⟨n,List.mem_range.mp hn,rfl⟩,fun c hc=>(any c).mp (h c hc)⟩
 ·rintro ⟨⟨n,hn,rfl⟩,h⟩
  exact ⟨⟨n,List.mem_range.mpr hn,rfl⟩,fun c hc=>(any c).mpr (h c hc)⟩
noncomputable def opE (tr c acc:List Int)(o:Option C):k9:=[some (.sh (.lst (tr.map D.int))),some (.sh (.tup (c.map D.int))),some (.ow false (.lst (acc.map D.int))),o]
theorem a1I (tr c0:List Int):∀ (c acc:List Int) (o:Option C),acc.length + c.length≤100000→∃ o',forL (E4 3) a1t (c.map D.int) (opE tr c0 acc o)=some (.nx (opE tr c0 (c.foldl (a0i tr) acc) o'))
 | [],acc,o,_=>⟨o,rfl⟩
 | l::c,acc,o,hl=>by
  rw [List.length_cons] at hl
  have n1:=a9s (-l) tr
  have ng:P0 (.int l)=some (.val (.int (-l))):=rfl
  have n2:=a9s l acc
  rw [List.foldl_cons]
  by_cases h:-l∈tr∨l∈acc
  ·obtain ⟨o',ih⟩:=a1I tr c0 c acc (some (.sh (.int l))) (by omega)
   refine ⟨o',?_⟩
   rw [show a0i tr acc l=acc from if_pos h]
   refine K6 rfl ?_ ih
   unfold opE
   refine v8 (k:=(!decide (-l∈tr)) && (!decide (l∈acc))) (ρ1:=[some (.sh (.lst (tr.map D.int))),some (.sh (.tup (c0.map D.int))),some (.ow false (.lst (acc.map D.int))),some (.sh (.int l))]) ?_ ?_ B6
   ·exact a30 (C0 (f9 (U7 (d8 rfl) rfl ng) (d8 rfl) rfl rfl n1)) (C0 (f9 (d8 rfl) (d8 rfl) rfl rfl n2))
   ·rcases h with h | h
    ·simp [h]
    ·simp [h]
  ·obtain ⟨o',ih⟩:=a1I tr c0 c (acc++[l]) (some (.sh (.int l))) (by rw [List.length_append,List.length_singleton]; omega)
   refine ⟨o',?_⟩
   rw [show a0i tr acc l=acc++[l] from if_neg h]
   refine K6 rfl ?_ ih
   have hz:small (acc.map D.int).length:=by unfold small; rw [List.length_map]; omega
   unfold opE
   rw [a7v]
   refine C8 (k:=(!decide (-l∈tr)) && (!decide (l∈acc))) (ρ1:=[some (.sh (.lst (tr.map D.int))),some (.sh (.tup (c0.map D.int))),some (.ow false (.lst (acc.map D.int))),some (.sh (.int l))]) ?_ ?_ ?_
   ·exact a30 (C0 (f9 (U7 (d8 rfl) rfl ng) (d8 rfl) rfl rfl n1)) (C0 (f9 (d8 rfl) (d8 rfl) rfl rfl n2))
   ·rw [not_or] at h
    simp [h]
   ·exact a0b rfl (d9 (d8 rfl) i7) rfl rfl hz rfl
theorem a7i {tr c:List Int}(h:c.length≤1000):W7 [.lst (tr.map D.int),.tup (c.map D.int)]=some (.ret (.own (.lst ((u6 tr c).map D.int))) []):=by
 show (intsOf (tr.map D.int)).bind _=_
 rw [k8]
 show (intsOf (c.map D.int)).bind _=_
 rw [k8]
 exact r8 h
theorem a4U:∀ ds r,W7 ds=some r→G8 a1Z 4 [false,false] ds=some r:=by
 intro ds r h
 match ds,h with
 | [.lst ts,.tup ds],h=>
  cases ht:intsOf ts with
  | none=>have h':(intsOf ts).bind _=some r:=h; rw [ht] at h'; cases h'
  | some tr=>
   cases hi:intsOf ds with
   | none=>have h':(intsOf ts).bind _=some r:=h; rw [ht] at h'; have h':(intsOf ds).bind _=some r:=h'; rw [hi] at h'; cases h'
   | some c=>
    have e1:=y9 ht
    have e2:=y9 hi
    subst e1 e2
    have h':(intsOf (tr.map D.int)).bind _=some r:=h
    rw [k8] at h'
    have h':(intsOf (c.map D.int)).bind _=some r:=h'
    rw [k8] at h'
    obtain ⟨h1,_⟩:=l8 h'
    rw [a7i h1] at h
    cases h
    obtain ⟨o',hl⟩:=a1I tr c c [] none (by simp; omega)
    apply E7
    ·apply g9
     ·walk_at "ev"
     ·apply g9
      ·exact O7 (ds:=c.map D.int) (ρ1:=opE tr c [] none) (by unfold opE; walk_at "ev") hl
      ·unfold opE
       walk_at "ev"
    ·rfl
theorem a97 {T:Tab}{h:Int}(e:B5 T h=none):G7 (.int h) (.dct (u7 T))=some (.val (.bl true)):=by rw [a86,e]; rfl
theorem a8J {T:Tab}{h:Int}{c:List Int}(e:B5 T h=some c):G7 (.int h) (.dct (u7 T))=some (.val (.bl false)):=by rw [a86,e]; rfl
noncomputable def waE (T:Tab)(hs tr:List Int)(u:Int)(o4 o5:Option C):k9:=[some (.sh (.dct (u7 T))),some (.ow true (.lst (tr.map D.int))),some (.sh (.lst (hs.map D.int))),some (.sh (.int u)),o4,o5]
noncomputable def waR (T:Tab)(hs0:List Int)(z:Int×Int×List Int)(r:Option SR):Prop:=∃ u' o4' o5',r=some (.rt (.val (.tup [.int z.1,.int z.2.1])) (waE T hs0 z.2.2 u' o4' o5'))∨(r=some (.nx (waE T hs0 z.2.2 u' o4' o5'))∧z.1=1∧z.2.1=u')
theorem a1A (T:Tab)(tr:List Int)(u h:Int)(hs:List Int){c:List Int}(h0:¬ h < 0)(e:B5 T h=some c):D9 T tr u (h::hs)=match O2 tr (u6 tr c) with
   | .inl z=>(z,u + 1,tr)
   | .inr l=>D9 T (tr++[l]) (u + 1) hs:=by
 show (if h < 0 then _ else _)=_
 rw [if_neg h0,e]
 all_goals rfl
theorem a3R (T:Tab)(hT:okT T=true)(hs0:List Int):∀ (hs tr:List Int) (u:Int) (o4 o5:Option C),tr.length + hs.length≤100000→waR T hs0 (D9 T tr u hs) (forL (E4 4) Q7 (hs.map D.int) (waE T hs0 tr u o4 o5))
 | [],tr,u,o4,o5,_=>⟨u,o4,o5,.inr ⟨rfl,rfl,rfl⟩⟩
 | h::hs,tr,u,o4,o5,hl=>by
  rw [List.length_cons] at hl
  by_cases h0:h < 0
  ·have e:D9 T tr u (h::hs)=(1,u,tr):=if_pos h0
   rw [e]
   refine ⟨u,some (.sh (.int h)),o5,.inl (a0F rfl ?_)⟩
   unfold waE
   apply F8
   apply C8
   ·walk_at "ev"
   ·simp [h0]
   ·walk_at "ev"
  ·cases hc:B5 T h with
   | none=>
    have e:D9 T tr u (h::hs)=(0,u,tr):=by
     show (if h < 0 then _ else _)=_
     rw [if_neg h0,hc]
    rw [e]
    have n1:=a97 hc
    refine ⟨u,some (.sh (.int h)),o5,.inl (a0F rfl ?_)⟩
    unfold waE
    apply g9
    ·apply v8
     ·walk_at "ev"
     ·simp [h0]
     ·exact B6
    ·apply F8
     apply C8
     ·walk_at "ev"
     ·rfl
     ·walk_at "ev"
   | some c=>
    have n1:=a8J hc
    have ix:=a53 hc
    have cl:c.length≤1000:=(a6t hT).2 _ (a1e hc)
    have fo:=a7i (tr:=tr) cl
    have fl:=a5s (u6 tr c)
    have e:=a1A T tr u h hs h0 hc
    have ln:V2 [.lst ((u6 tr c).map D.int)]=some (.val (.int ((u6 tr c).length:Nat))):=by
     show some (W.val (.int _))=_
     rw [List.length_map]
    generalize u6 tr c=X at *
    
    have pre:∀ r:Option SR,(l6 (Y5 (P4 (C9 (c9 5))) (retS (F2 (c6 (mC (.int 2)) (c6 (c9 3) g8)))) nxS)
 (l6 (Y5 (mOr (z6 (f7 (a0P fun i j=>decide (j < i)) (B7 V2 (c6 (c9 5) g8)) (mC (.int 1)))) (z6 (f7 inD (f7 v7 (c9 5) (mC (.int 0))) (c9 1)))) (retS (F2 (c6 (mC (.int 0)) (c6 (c9 3) g8)))) nxS)
 (L5 (D4 1 (c6 (f7 v7 (c9 5) (mC (.int 0))) g8))))) (waE T hs0 tr (u + 1) (some (.sh (.int h))) (some (.ow false (.lst (X.map D.int)))))=r→Q7 (waE T hs0 tr u (some (.sh (.int h))) o5)=r:=by
     intro r hr
     unfold waE at *
     apply g9
     ·apply v8
      ·walk_at "ev"
      ·simp [h0]
      ·exact B6
     ·apply g9
      ·apply v8
       ·walk_at "ev"
       ·rfl
       ·exact B6
      ·apply g9
       ·walk_at "ev"
       ·apply g9
        ·walk_at "ev"
        ·exact hr
    match X with
    | []=>
     have e:D9 T tr u (h::hs)=(2,u + 1,tr):=e
     rw [e]
     refine ⟨u + 1,some (.sh (.int h)),some (.ow false (.lst [])),.inl (a0F rfl (pre _ ?_))⟩
     unfold waE
     apply F8
     apply C8
     ·walk_at "ev"
     ·rfl
     ·walk_at "ev"
    | [l]=>
     have i1:=b2d l tr
     by_cases hm:l∈tr
     ·have e2:O2 tr [l]=.inl 0:=if_pos hm
      rw [e2] at e
      have e:D9 T tr u (h::hs)=(0,u + 1,tr):=e
      rw [e]
      rw [decide_eq_true hm] at i1
      refine ⟨u + 1,some (.sh (.int h)),some (.ow false (.lst [.int l])),.inl (a0F rfl (pre _ ?_))⟩
      unfold waE
      apply g9
      ·apply v8
       ·walk_at "ev"
       ·rfl
       ·exact B6
      ·apply F8
       apply C8
       ·walk_at "ev"
       ·rfl
       ·walk_at "ev"
     ·have e2:O2 tr [l]=.inr l:=if_neg hm
      rw [e2] at e
      have e:D9 T tr u (h::hs)=D9 T (tr++[l]) (u + 1) hs:=e
      rw [e]
      rw [decide_eq_false hm] at i1
      obtain ⟨u',o4',o5',ih⟩:=a3R T hT hs0 hs (tr++[l]) (u + 1) (some (.sh (.int h))) (some (.ow false (.lst [.int l]))) (by rw [List.length_append,List.length_singleton]; omega)
      have hz:small (tr.map D.int).length:=by unfold small; rw [List.length_map]; omega
      have hb:Q7 (waE T hs0 tr u (some (.sh (.int h))) o5)=some (.nx (waE T hs0 (tr++[l]) (u + 1) (some (.sh (.int h))) (some (.ow false (.lst [.int l]))))):=by
       apply pre
       unfold waE
       rw [a7v]
       apply g9
       ·apply v8
        ·walk_at "ev"
        ·rfl
        ·exact B6
       ·apply g9
        ·apply v8
         ·walk_at "ev"
         ·rfl
         ·exact B6
        ·exact a0b rfl (d9 (f9 (d8 rfl) k6 rfl rfl rfl) i7) rfl rfl hz rfl
      refine ⟨u',o4',o5',?_⟩
      rcases ih with ih | ⟨ih,i2⟩
      ·exact .inl (K6 rfl hb ih)
      ·exact .inr ⟨K6 rfl hb ih,i2⟩
    | l::l2::r2=>
     have e:D9 T tr u (h::hs)=(0,u + 1,tr):=e
     rw [e]
     refine ⟨u + 1,some (.sh (.int h)),some (.ow false (.lst ((l::l2::r2).map D.int))),.inl (a0F rfl (pre _ ?_))⟩
     unfold waE
     apply g9
     ·apply v8
      ·walk_at "ev"
      ·rfl
      ·exact B6
     ·apply F8
      apply C8
      ·apply b0O
       ·walk_at "ev"
       ·simp; omega
      ·rfl
      ·walk_at "ev"
theorem a7Q {T:Tab}{tr hs:List Int}(h1:okT T=true)(h2:tr.length + hs.length≤100000):S2 [.dct (u7 T),.lst (tr.map D.int),.lst (hs.map D.int)]=some (.ret (.val (.tup [.int (D9 T tr 0 hs).1,.int (D9 T tr 0 hs).2.1])) [.lst ((D9 T tr 0 hs).2.2.map D.int)]):=by
 show (tabOf (u7 T)).bind _=_
 rw [N1]
 show (intsOf (tr.map D.int)).bind _=_
 rw [k8]
 show (intsOf (hs.map D.int)).bind _=_
 rw [k8]
 exact r8 ⟨h1,h2⟩
theorem a4X:∀ ds r,S2 ds=some r→G8 a1R 6 [false,true,false] ds=some r:=by
 intro ds r h
 match ds,h with
 | [.dct es,.lst ts,.lst ds],h=>
  cases hT:tabOf es with
  | none=>have h':(tabOf es).bind _=some r:=h; rw [hT] at h'; cases h'
  | some T=>
   cases ht:intsOf ts with
   | none=>have h':(tabOf es).bind _=some r:=h; rw [hT] at h'; have h':(intsOf ts).bind _=some r:=h'; rw [ht] at h'; cases h'
   | some tr=>
    cases hi:intsOf ds with
    | none=>have h':(tabOf es).bind _=some r:=h; rw [hT] at h'; have h':(intsOf ts).bind _=some r:=h'; rw [ht] at h'; have h':(intsOf ds).bind _=some r:=h'; rw [hi] at h'; cases h'
    | some hs=>
     have e0:=tabOf_eq hT
     have e1:=y9 ht
     have e2:=y9 hi
     subst e0 e1 e2
     have h':(tabOf (u7 T)).bind _=some r:=h
     rw [N1] at h'
     have h':(intsOf (tr.map D.int)).bind _=some r:=h'
     rw [k8] at h'
     have h':(intsOf (hs.map D.int)).bind _=some r:=h'
     rw [k8] at h'
     obtain ⟨⟨g1,g2⟩,_⟩:=l8 h'
     rw [a7Q g1 g2] at h
     cases h
     clear h' hT ht hi
     obtain ⟨u',o4',o5',hl⟩:=a3R T g1 hs hs tr 0 none none g2
     generalize D9 T tr 0 hs=z at *
     obtain ⟨z1,z2,z3⟩:=z
     have s1:n9 3 (mC (.int 0)) (z7 6 [false,true,false] [.dct (u7 T),.lst (tr.map D.int),.lst (hs.map D.int)])=some (.nx (waE T hs tr 0 none none)):=by unfold waE; walk_at "ev"
     have it:A1 (c9 2) (waE T hs tr 0 none none)=some (.ok (hs.map D.int) (waE T hs tr 0 none none)):=by unfold waE; walk_at "ev"
     rcases hl with hl | ⟨hl,i1,i2⟩
     ·exact E7 (g9 s1 (F8 (O7 it hl))) rfl
     ·have i1:z1=1:=i1
      have i2:z2=u':=i2
      subst i1 i2
      have rt:retS (F2 (c6 (mC (.int 1)) (c6 (c9 3) g8))) (waE T hs z3 z2 o4' o5')=some (.rt (.val (.tup [.int 1,.int z2])) (waE T hs z3 z2 o4' o5')):=by unfold waE; walk_at "ev"
      exact E7 (g9 s1 (g9 (O7 it hl) rt)) rfl
theorem a36 {T:Tab}{c hs:List Int}(h:a4V T c hs=true):E9 [.dct (u7 T),.tup (c.map D.int),.lst (hs.map D.int)]=some (.ret (.val (.bl true)) []):=by
 show (tabOf (u7 T)).bind _=_
 rw [N1]
 show (intsOf (c.map D.int)).bind _=_
 rw [k8]
 show (intsOf (hs.map D.int)).bind _=_
 rw [k8]
 exact r8 h
theorem a2G:∀ ds r,E9 ds=some r→G8 a0z 8 [false,false,false] ds=some r:=by
 intro ds r h
 match ds,h with
 | [.dct es,.tup cs,.lst ds],h=>
  cases hT:tabOf es with
  | none=>have h':(tabOf es).bind _=some r:=h; rw [hT] at h'; cases h'
  | some T=>
   cases ht:intsOf cs with
   | none=>have h':(tabOf es).bind _=some r:=h; rw [hT] at h'; have h':(intsOf cs).bind _=some r:=h'; rw [ht] at h'; cases h'
   | some c=>
    cases hi:intsOf ds with
    | none=>have h':(tabOf es).bind _=some r:=h; rw [hT] at h'; have h':(intsOf cs).bind _=some r:=h'; rw [ht] at h'; have h':(intsOf ds).bind _=some r:=h'; rw [hi] at h'; cases h'
    | some hs=>
     have e0:=tabOf_eq hT
     have e1:=y9 ht
     have e2:=y9 hi
     subst e0 e1 e2
     have h':(tabOf (u7 T)).bind _=some r:=h
     rw [N1] at h'
     have h':(intsOf (c.map D.int)).bind _=some r:=h'
     rw [k8] at h'
     have h':(intsOf (hs.map D.int)).bind _=some r:=h'
     rw [k8] at h'
     obtain ⟨g,_⟩:=l8 h'
     rw [a36 g] at h
     cases h
     clear h' hT ht hi
     unfold a4V at g
     simp only [Bool.and_eq_true,decide_eq_true_eq] at g
     obtain ⟨⟨⟨g1,g2,g3⟩,g4⟩,g5⟩:=g
     have g4:(c.any fun l=>decide (-l∈c))=false:=by simpa using g4
     have hc1:D3 (E4 0) E6 (f7 inD (mUn P0 (c9 0)) (c9 1)) [none,some (.sh (.tup (c.map D.int)))] (c.map D.int)=some ((c.map fun l=>decide (-l∈c)).map D.bl):=by
      rw [List.map_map]
      apply K8
      intro l _
      exact ⟨[some (.sh (.int l)),some (.sh (.tup (c.map D.int)))],.val (.bl (decide (-l∈c))),[some (.sh (.int l)),some (.sh (.tup (c.map D.int)))],[some (.sh (.int l)),some (.sh (.tup (c.map D.int)))],rfl,f9 (U7 (d8 rfl) rfl rfl) (d8 rfl) rfl rfl (b4J (-l) c),rfl⟩
     have hc2:D3 (E4 0) E6 (mUn P0 (c9 0)) [none] (c.map D.int)=some ((c.map fun l=>-l).map D.int):=by
      rw [List.map_map]
      apply K8
      intro l _
      exact ⟨[some (.sh (.int l))],.val (.int (-l)),[some (.sh (.int l))],[some (.sh (.int l))],rfl,U7 (d8 rfl) rfl rfl,rfl⟩
     have zs:small (c.map D.int).length:=B9 (by rw [List.length_map]; omega)
     have m1:=D0 (mi:=A1 (c9 1)) (own:=1) (fr:=[1]) (ρ:=z7 8 [false,false,false] [.dct (u7 T),.tup (c.map D.int),.lst (hs.map D.int)]) (ρ1:=z7 8 [false,false,false] [.dct (u7 T),.tup (c.map D.int),.lst (hs.map D.int)]) (L1 (d8 rfl) rfl rfl) zs hc1 (.inl (U4 _))
     have m2:=D0 (mi:=A1 (c9 1)) (own:=1) (fr:=[]) (ρ:=z7 8 [false,false,false] [.dct (u7 T),.tup (c.map D.int),.lst (hs.map D.int)]) (ρ1:=z7 8 [false,false,false] [.dct (u7 T),.tup (c.map D.int),.lst (hs.map D.int)]) (L1 (d8 rfl) rfl rfl) zs hc2 (.inl (I8 _))
     have an:=a6e (c.map fun l=>decide (-l∈c))
     rw [List.any_map,show (c.any (id ∘ fun l=>decide (-l∈c)))=false from g4] at an
     have c1:=D8 (B3 (d9 m1 i7) rfl an) rfl (k:=false) rfl
     have fw:=a7Q (T:=T) (tr:=c.map fun l=>-l) (hs:=hs) g1 (by rw [List.length_map]; omega)
     generalize D9 T (c.map fun l=>-l) 0 hs=z at *
     obtain ⟨z1,z2,z3⟩:=z
     have g5:z1=2:=g5
     subst g5
     have s3:n9 3 (C6 (A1 (c9 1)) (E4 0) E6 (mUn P0 (c9 0)) 1 []) (z7 8 [false,false,false] [.dct (u7 T),.tup (c.map D.int),.lst (hs.map D.int)])=some (.nx [some (.sh (.dct (u7 T))),some (.sh (.tup (c.map D.int))),some (.sh (.lst (hs.map D.int))),some (.ow false (.lst ((c.map fun l=>-l).map D.int))),none,none,none,none]):=u5 m2 rfl
     have s4:n9 4 (n5 [false,true,false] S2 (c6 (c9 0) (c6 (c9 3) (c6 (c9 2) g8)))) [some (.sh (.dct (u7 T))),some (.sh (.tup (c.map D.int))),some (.sh (.lst (hs.map D.int))),some (.ow false (.lst ((c.map fun l=>-l).map D.int))),none,none,none,none]=some (.nx [some (.sh (.dct (u7 T))),some (.sh (.tup (c.map D.int))),some (.sh (.lst (hs.map D.int))),some (.ow false (.lst (z3.map D.int))),some (.sh (.tup [.int 2,.int z2])),none,none,none]):=u5 (A5 (d9 (d8 rfl) (d9 (d8 rfl) (d9 (d8 rfl) i7))) rfl rfl fw rfl rfl) rfl
     have i0:v7 (.tup [.int 2,.int z2]) (.int 0)=some (.val (.int 2)):=rfl
     exact E7 (g9 (v8 c1 rfl B6) (g9 s3 (g9 s4 (F8 (C8 (b0O (C0 (f9 (f9 (d8 rfl) k6 rfl rfl i0) k6 rfl rfl rfl)) rfl) rfl (L6 (f9 (f9 (d8 rfl) k6 rfl rfl i0) k6 rfl rfl rfl) rfl)))))) rfl
theorem b2D {d:D}{s:W2}(h:a7T d=some s):d=n6 s:=by
 unfold a7T at h
 split at h
 ·rename_i n cs hs
  obtain ⟨c,hc,h⟩:=Option.bind_eq_some_iff.mp h
  obtain ⟨q,hq,rfl⟩:=Option.map_eq_some_iff.mp h
  rw [y9 hc,y9 hq]
  rfl
 ·cases h
theorem b22 (s:W2):a7T (n6 s)=some s:=by
 show (intsOf (s.2.1.map D.int)).bind (fun c=>(intsOf (s.2.2.map D.int)).map fun h=>((s.1,c,h):W2))=_
 rw [k8,k8]
 rfl
theorem a5u:∀ {ds:List D} {st:List W2},a0g ds=some st→ds=st.map n6
 | [],st,h=>by cases h; rfl
 | d::ds,st,h=>by
  obtain ⟨s,hs,h⟩:=Option.bind_eq_some_iff.mp h
  obtain ⟨r,hr,rfl⟩:=Option.map_eq_some_iff.mp h
  rw [b2D hs,a5u hr]
  rfl
theorem a1K:∀ st:List W2,a0g (st.map n6)=some st
 | []=>rfl
 | s::st=>by
  show (a7T (n6 s)).bind (fun s=>(a0g (st.map n6)).map (s::·))=_
  rw [b22,a1K st]
  rfl
noncomputable def plE (v:Int)(cs0:List (List Int))(st0:List W2)(cs:List (List Int))(o3 o4 o5 o7:Option C):k9:=[some (.sh (.tup [.int v,.lst (j7 cs0)])),some (.sh (.lst (st0.map n6))),some (.ow false (.dct (u7 (w5 1 cs)))),o3,o4,o5,none,o7]
theorem a9e {cs:List (List Int)}{c:List Int}{k:Int}(hk:k=((cs.length + 1:Nat):Int))(hz:cs.length≤1000){ρ:k9}(h:ρ[2]?=some (some (.ow false (.dct (u7 (w5 1 cs)))))):a2t 2 (.int k) (.tup (c.map D.int)) ρ=some (.nx (ρ.set 2 (some (.ow false (.dct (u7 (w5 1 (cs++[c])))))))):=by
 have ep:putD (u7 (w5 1 cs)) (.inl k) (.tup (c.map D.int))=u7 (w5 1 (cs++[c])):=by
  rw [a2I,a6F (fun kv hm e=>by have:=(O1 cs 1 kv hm).2.1; omega)]
  rw [show k=1 + (cs.length:Int) by omega]
 unfold a2t
 rw [h]
 show V8 (small (u7 (w5 1 cs)).length) (some (SR.nx (ρ.set 2 (some (.ow false (.dct (putD (u7 (w5 1 cs)) (.inl k) (.tup (c.map D.int)))))))))=_
 rw [ep]
 exact r8 (by show _≤1000000; rw [show (u7 (w5 1 cs)).length=(w5 1 cs).length from List.length_map _,a0N]; omega)
theorem a5t {v:Int}{cs0:List (List Int)}{st0:List W2}(hz:cs0.length≤1000):∀ (m k:Nat) (o3:Option C),m + k=cs0.length→∃ p3,forL (E4 3) a0x ((List.range' k m).map fun j=>D.int (0 + ((j:Nat):Int))) (plE v cs0 st0 (cs0.take k) o3 none none none)=some (.nx (plE v cs0 st0 cs0 p3 none none none))
 | 0,k,o3,h=>⟨o3,by rw [List.take_of_length_le (by omega)]; rfl⟩
 | m + 1,k,o3,h=>by
  obtain ⟨p3,ih⟩:=a5t hz m (k + 1) (some (.sh (.int (k:Int)))) (by omega)
  refine ⟨p3,?_⟩
  rw [List.range'_succ,List.map_cons,Int.zero_add]
  have hk:k < cs0.length:=by omega
  obtain ⟨c,hc⟩:∃ c,cs0[k]?=some c:=⟨cs0[k],List.getElem?_eq_getElem hk⟩
  have et:cs0.take (k + 1)=cs0.take k++[c]:=by rw [List.take_add_one,hc]; rfl
  have i1:v7 (.tup [.int v,.lst (j7 cs0)]) (.int 1)=some (.val (.lst (j7 cs0))):=rfl
  rw [et] at ih
  refine K6 rfl (a2L (f9 (f9 (d8 rfl) k6 rfl rfl i1) (d8 rfl) rfl rfl (b5j hc)) rfl (f9 (d8 rfl) k6 rfl rfl rfl) rfl rfl (a9e (cs:=cs0.take k) (c:=c) (by rw [List.length_take,Nat.min_eq_left (by omega)]; omega) (by rw [List.length_take]; omega) rfl)) ih
theorem b4P {st:List W2}{k:Nat}{s:W2}(h:st[k]?=some s):v7 (.lst (st.map n6)) (.int (k:Int))=some (.val (n6 s)):=by
 show (L2.atI (st.map n6) (k:Int)).map W.val=_
 rw [a6J,show L2.atI st (k:Int)=st[k]? by unfold L2.atI ixN; have z:=(List.getElem?_eq_some_iff.mp h).1; simp [z],h]
 rfl
theorem a5k {v:Int}{cs0:List (List Int)}{st0:List W2}:∀ (rest:List W2) (k:Nat) (cs:List (List Int)) (o3 o5 o7:Option C),st0.drop k=rest→a2Q v cs rest=true→∃ a b ρ,forL (E4 3) a0t ((List.range' k rest.length).map fun j=>D.int (0 + ((j:Nat):Int))) (plE v cs0 st0 cs o3 (some (.sh (.int (cs.length:Nat)))) o5 o7)=some (.rt (.val (.tup [.int (-1),.bl true])) (a::b::ρ))
 | [],k,cs,o3,o5,o7,_,h=>by cases h
 | s::rest,k,cs,o3,o5,o7,hd,h=>by
  have hd1:st0[k]?=some s:=by
   have:=congrArg (·[0]?) hd
   simpa [List.getElem?_drop] using this
  have hd2:st0.drop (k + 1)=rest:=by
   have:=congrArg List.tail hd
   rwa [List.tail_drop] at this
  have h':(decide (s.1=((cs.length + 1:Nat):Int)∧s.2.1.length≤1000∧cs.length≤60) && (s.2.1.all fun l=>decide (v9 l≤v)) && a4V (w5 1 cs) s.2.1 s.2.2 && (s.2.1.isEmpty || a2Q v (cs++[s.2.1]) rest))=true:=h
  simp only [Bool.and_eq_true,decide_eq_true_eq] at h'
  obtain ⟨⟨⟨⟨h1,h2,h3⟩,h4⟩,h5⟩,h6⟩:=h'
  obtain ⟨n,c,hs⟩:=s
  have h1:n=((cs.length + 1:Nat):Int):=h1
  have h2:c.length≤1000:=h2
  have h4:(c.all fun l=>decide (v9 l≤v))=true:=h4
  have h5:a4V (w5 1 cs) c hs=true:=h5
  have h6:(c.isEmpty || a2Q v (cs++[c]) rest)=true:=h6
  have ix:=b4P hd1
  rw [List.length_cons,List.range'_succ,List.map_cons,Int.zero_add]
  have s5:n9 5 (f7 v7 (c9 1) (c9 3)) (plE v cs0 st0 cs (some (.sh (.int (k:Int)))) (some (.sh (.int (cs.length:Nat)))) o5 o7)=some (.nx (plE v cs0 st0 cs (some (.sh (.int (k:Int)))) (some (.sh (.int (cs.length:Nat)))) (some (.sh (n6 (n,c,hs)))) o7)):=u5 (f9 (d8 rfl) (d8 rfl) rfl rfl ix) rfl
  have j0:v7 (n6 (n,c,hs)) (.int 0)=some (.val (.str [97,100,100])):=rfl
  have j1:v7 (n6 (n,c,hs)) (.int 1)=some (.val (.int n)):=rfl
  have j2:v7 (n6 (n,c,hs)) (.int 2)=some (.val (.tup (c.map D.int))):=rfl
  have j3:v7 (n6 (n,c,hs)) (.int 3)=some (.val (.tup (hs.map D.int))):=rfl
  have f0:v7 (.tup [.int v,.lst (j7 cs0)]) (.int 0)=some (.val (.int v)):=rfl
  have t5:z6 (f7 M4 (f7 v7 (c9 5) (mC (.int 0))) (mC (.str [100,114,111,112]))) (plE v cs0 st0 cs (some (.sh (.int (k:Int)))) (some (.sh (.int (cs.length:Nat)))) (some (.sh (n6 (n,c,hs)))) o7)=some (.ok false (plE v cs0 st0 cs (some (.sh (.int (k:Int)))) (some (.sh (.int (cs.length:Nat)))) (some (.sh (n6 (n,c,hs)))) o7)):=C0 (f9 (f9 (d8 rfl) k6 rfl rfl j0) k6 rfl rfl rfl)
  have hc:D3 (E4 0) E6 (f7 (a0P fun i j=>decide (i≤j)) (B7 S8 (c6 (c9 0) g8)) (f7 v7 (c9 1) (mC (.int 0)))) [none,some (.sh (.tup [.int v,.lst (j7 cs0)]))] (c.map D.int)=some ((c.map fun l=>decide (v9 l≤v)).map D.bl):=by
   rw [List.map_map]
   apply K8
   intro l _
   exact ⟨[some (.sh (.int l)),some (.sh (.tup [.int v,.lst (j7 cs0)]))],.val (.bl (decide (v9 l≤v))),[some (.sh (.int l)),some (.sh (.tup [.int v,.lst (j7 cs0)]))],[some (.sh (.int l)),some (.sh (.tup [.int v,.lst (j7 cs0)]))],rfl,f9 (B3 (d9 (d8 rfl) i7) rfl rfl) (f9 (d8 rfl) k6 rfl rfl f0) rfl rfl rfl,rfl⟩
  have m7:=D0 (mi:=A1 (f7 v7 (c9 5) (mC (.int 2)))) (own:=1) (fr:=[0]) (ρ:=plE v cs0 st0 cs (some (.sh (.int (k:Int)))) (some (.sh (.int (cs.length:Nat)))) (some (.sh (n6 (n,c,hs)))) o7) (ρ1:=plE v cs0 st0 cs (some (.sh (.int (k:Int)))) (some (.sh (.int (cs.length:Nat)))) (some (.sh (n6 (n,c,hs)))) o7) (L1 (f9 (d8 rfl) k6 rfl rfl j2) rfl rfl) (B9 (by rw [List.length_map]; omega)) hc (.inl (U4 _))
  have al:=a5V (c.map fun l=>decide (v9 l≤v))
  rw [List.all_map,show (c.all (id ∘ fun l=>decide (v9 l≤v)))=true from h4] at al
  have gt:a0P (fun i j=>decide (j < i)) (.int n) (.int (cs.length:Nat))=some (.val (.bl true)):=by
   show some (W.val (.bl (decide (((cs.length:Nat):Int) < n))))=_
   rw [decide_eq_true (by omega)]
  have s7:n9 7 (a05 (f7 (a0P fun i j=>decide (j < i)) (f7 v7 (c9 5) (mC (.int 1))) (c9 4)) (B7 a40 (c6 (C6 (A1 (f7 v7 (c9 5) (mC (.int 2)))) (E4 0) E6 (f7 (a0P fun i j=>decide (i≤j)) (B7 S8 (c6 (c9 0) g8)) (f7 v7 (c9 1) (mC (.int 0)))) 1 [0]) g8))) (plE v cs0 st0 cs (some (.sh (.int (k:Int)))) (some (.sh (.int (cs.length:Nat)))) (some (.sh (n6 (n,c,hs)))) o7)=some (.nx (plE v cs0 st0 cs (some (.sh (.int (k:Int)))) (some (.sh (.int (cs.length:Nat)))) (some (.sh (n6 (n,c,hs)))) (some (.sh (.bl true))))):=u5 (a2h (k:=true) (f9 (f9 (d8 rfl) k6 rfl rfl j1) (d8 rfl) rfl rfl gt) rfl rfl (B3 (d9 m7 i7) rfl al)) rfl
  have cf:n5 [false,false,false] E9 (c6 (c9 2) (c6 (f7 v7 (c9 5) (mC (.int 2))) (c6 (B7 a0v (c6 (f7 v7 (c9 5) (mC (.int 3))) g8)) g8))) (plE v cs0 st0 cs (some (.sh (.int (k:Int)))) (some (.sh (.int (cs.length:Nat)))) (some (.sh (n6 (n,c,hs)))) (some (.sh (.bl true))))=some (.ok (.val (.bl true)) (plE v cs0 st0 cs (some (.sh (.int (k:Int)))) (some (.sh (.int (cs.length:Nat)))) (some (.sh (n6 (n,c,hs)))) (some (.sh (.bl true))))):=W6 (d9 (d8 rfl) (d9 (f9 (d8 rfl) k6 rfl rfl j2) (d9 (B3 (d9 (f9 (d8 rfl) k6 rfl rfl j3) i7) rfl rfl) i7))) rfl rfl (a36 h5) rfl rfl
  have t7:mOr (P4 (C9 (c9 7))) (P4 (C9 (n5 [false,false,false] E9 (c6 (c9 2) (c6 (f7 v7 (c9 5) (mC (.int 2))) (c6 (B7 a0v (c6 (f7 v7 (c9 5) (mC (.int 3))) g8)) g8)))))) (plE v cs0 st0 cs (some (.sh (.int (k:Int)))) (some (.sh (.int (cs.length:Nat)))) (some (.sh (n6 (n,c,hs)))) (some (.sh (.bl true))))=some (.ok false (plE v cs0 st0 cs (some (.sh (.int (k:Int)))) (some (.sh (.int (cs.length:Nat)))) (some (.sh (n6 (n,c,hs)))) (some (.sh (.bl true))))):=a0Y (S9 (D8 (d8 rfl) rfl (k:=true) rfl)) rfl (S9 (D8 cf rfl (k:=true) rfl))
  have s8:n9 4 (f7 v7 (c9 5) (mC (.int 1))) (plE v cs0 st0 cs (some (.sh (.int (k:Int)))) (some (.sh (.int (cs.length:Nat)))) (some (.sh (n6 (n,c,hs)))) (some (.sh (.bl true))))=some (.nx (plE v cs0 st0 cs (some (.sh (.int (k:Int)))) (some (.sh (.int n))) (some (.sh (n6 (n,c,hs)))) (some (.sh (.bl true))))):=u5 (f9 (d8 rfl) k6 rfl rfl j1) rfl
  have s9:a1Y 2 (f7 v7 (c9 5) (mC (.int 2))) (c9 4) (plE v cs0 st0 cs (some (.sh (.int (k:Int)))) (some (.sh (.int n))) (some (.sh (n6 (n,c,hs)))) (some (.sh (.bl true))))=some (.nx (plE v cs0 st0 (cs++[c]) (some (.sh (.int (k:Int)))) (some (.sh (.int n))) (some (.sh (n6 (n,c,hs)))) (some (.sh (.bl true))))):=a2L (f9 (d8 rfl) k6 rfl rfl j2) rfl (d8 rfl) rfl rfl (a9e (cs:=cs) (c:=c) h1 (by omega) rfl)
  have t9:z6 (f7 M4 (f7 v7 (c9 5) (mC (.int 2))) (F2 g8)) (plE v cs0 st0 (cs++[c]) (some (.sh (.int (k:Int)))) (some (.sh (.int n))) (some (.sh (n6 (n,c,hs)))) (some (.sh (.bl true))))=some (.ok c.isEmpty (plE v cs0 st0 (cs++[c]) (some (.sh (.int (k:Int)))) (some (.sh (.int n))) (some (.sh (n6 (n,c,hs)))) (some (.sh (.bl true))))):=C0 (f9 (f9 (d8 rfl) k6 rfl rfl j2) (P9 i7 rfl (Nat.le_of_ble_eq_true rfl)) rfl rfl (a6y c))
  cases hem:c.isEmpty with
  | true=>exact ⟨_,_,_,a0F rfl (g9 s5 (v8 t5 rfl (g9 s7 (g9 (v8 t7 rfl B6) (g9 s8 (g9 s9 (C8 t9 hem (L6 (P9 (d9 (U7 k6 rfl rfl) (d9 k6 i7)) rfl (Nat.le_of_ble_eq_true rfl)) rfl))))))))⟩
  | false=>
   rw [hem,Bool.false_or] at h6
   obtain ⟨a,b,ρ,ih⟩:=a5k rest (k + 1) (cs++[c]) (some (.sh (.int (k:Int)))) (some (.sh (n6 (n,c,hs)))) (some (.sh (.bl true))) hd2 h6
   rw [List.length_append,List.length_singleton,← h1] at ih
   exact ⟨a,b,ρ,K6 rfl (g9 s5 (v8 t5 rfl (g9 s7 (g9 (v8 t7 rfl B6) (g9 s8 (g9 s9 (v8 t9 hem B6))))))) ih⟩
theorem a5N {v:Int}{cs:List (List Int)}{st:List W2}(h:a2Q v cs st=true)(h1:cs.length≤60)(h2:st.length≤1000):M3 [.tup [.int v,.lst (j7 cs)],.lst (st.map n6)]=some (.ret (.val (.tup [.int (-1),.bl true])) []):=by
 show (B4 (j7 cs)).bind _=_
 rw [N5]
 show (a0g (st.map n6)).bind _=_
 rw [a1K]
 exact r8 ⟨h,h1,h2⟩
theorem a3y:∀ ds r,M3 ds=some r→G8 a03 8 [false,false] ds=some r:=by
 intro ds r h
 match ds,h with
 | [.tup [.int v,.lst ds],.lst ss],h=>
  cases hT:B4 ds with
  | none=>have h':(B4 ds).bind _=some r:=h; rw [hT] at h'; cases h'
  | some cs=>
   cases ht:a0g ss with
   | none=>have h':(B4 ds).bind _=some r:=h; rw [hT] at h'; have h':(a0g ss).bind _=some r:=h'; rw [ht] at h'; cases h'
   | some st=>
    have e0:=a0H hT
    have e1:=a5u ht
    subst e0 e1
    have h':(B4 (j7 cs)).bind _=some r:=h
    rw [N5] at h'
    have h':(a0g (st.map n6)).bind _=some r:=h'
    rw [a1K] at h'
    obtain ⟨⟨g1,g2,g3⟩,_⟩:=l8 h'
    rw [a5N g1 g2 g3] at h
    cases h
    clear h' hT ht
    have i1:v7 (.tup [.int v,.lst (j7 cs)]) (.int 1)=some (.val (.lst (j7 cs))):=rfl
    have ln:V2 [.lst (j7 cs)]=some (.val (.int (cs.length:Nat))):=by
     show some (W.val (.int _))=_
     rw [a11]
    have ls:V2 [.lst (st.map n6)]=some (.val (.int (st.length:Nat))):=by
     show some (W.val (.int _))=_
     rw [List.length_map]
    obtain ⟨p3,hF⟩:=a5t (v:=v) (cs0:=cs) (st0:=st) (by omega) cs.length 0 none (by omega)
    obtain ⟨a,b,ρ,hL⟩:=a5k (v:=v) (cs0:=cs) (st0:=st) st 0 cs p3 none none rfl g1
    have r1:ints1 [.int (cs.length:Nat)]=some ((List.range' 0 cs.length).map fun j=>D.int (0 + ((j:Nat):Int))):=by
     rw [← List.range_eq_range']
     exact r8 ⟨by omega,by omega⟩
    have r2:ints1 [.int (st.length:Nat)]=some ((List.range' 0 st.length).map fun j=>D.int (0 + ((j:Nat):Int))):=by
     rw [← List.range_eq_range']
     exact r8 ⟨by omega,by omega⟩
    have s1:n9 2 a4x (z7 8 [false,false] [.tup [.int v,.lst (j7 cs)],.lst (st.map n6)])=some (.nx (plE v cs st (cs.take 0) none none none none)):=u5 a5Z rfl
    have s3:n9 4 (B7 V2 (c6 (f7 v7 (c9 0) (mC (.int 1))) g8)) (plE v cs st cs p3 none none none)=some (.nx (plE v cs st cs p3 (some (.sh (.int (cs.length:Nat)))) none none)):=u5 (B3 (d9 (f9 (d8 rfl) k6 rfl rfl i1) i7) rfl ln) rfl
    exact E7 (g9 s1 (g9 (O7 (T3 (d9 (B3 (d9 (f9 (d8 rfl) k6 rfl rfl i1) i7) rfl ln) i7) rfl r1) hF) (g9 s3 (F8 (O7 (T3 (d9 (B3 (d9 (d8 rfl) i7) rfl ls) i7) rfl r2) hL))))) rfl
structure GdF (v:Int) (cs:List (List Int)):Prop where
 lo:1≤v
 hi:v≤4
 len:cs.length≤16
 cl:∀ c∈cs,c.length≤7∧∀ l∈c,l≠0∧l.natAbs≤v.toNat
noncomputable def noE (ns:List Int)(b:Int)(o2 o3 o4 o5 o6 o7 o8:Option C):k9:=[some (.sh (.lst (ns.map D.int))),some (.sh (.int b)),o2,o3,o4,o5,o6,o7,o8]
noncomputable def sgL (n:Nat)(k:Int):Int:=(1 + k) * (1 - 2 * ((n:Int) / (if k=0 then 1 else if k=1 then 2 else 4) % 2))
theorem b6D (n:Nat){k:Int}(h0:0≤k)(h2:k≤2):sgL n k≠0∧(sgL n k).natAbs≤3:=by
 unfold sgL
 generalize (n:Int) / (if k=0 then 1 else if k=1 then 2 else 4)=q
 have h3:q % 2=0∨q % 2=1:=by omega
 rcases h3 with h3 | h3 <;> rw [h3] <;> omega
theorem b4n (n:Nat):D3 (E4 0) E6 (f7 R8 (f7 z8 (mC (.int 1)) (c9 0)) (f7 a6j (mC (.int 1)) (f7 R8 (mC (.int 2)) (f7 F5 (f7 a3v (c9 1) (f7 v7 (P1 (c6 (mC (.int 1)) (c6 (mC (.int 2)) (c6 (mC (.int 4)) g8)))) (c9 0))) (mC (.int 2)))))) [none,some (.sh (.int (n:Int)))] (([0,1,2]:List Int).map D.int)=some ((([0,1,2]:List Int).map (sgL n)).map D.int):=by
 rw [List.map_map]
 apply K8
 intro k hk
 have h:k=0∨k=1∨k=2:=by simpa using hk
 have hp:∃ p:Int,0 < p∧p < 1073741824∧v7 (.lst [.int 1,.int 2,.int 4]) (.int k)=some (.val (.int p))∧p=(if k=0 then 1 else if k=1 then 2 else 4):=by
  rcases h with rfl | rfl | rfl
  ·exact ⟨1,by decide,by decide,rfl,rfl⟩
  ·exact ⟨2,by decide,by decide,rfl,rfl⟩
  ·exact ⟨4,by decide,by decide,rfl,rfl⟩
 obtain ⟨p,p1,p2,p3,p4⟩:=hp
 have dv:a3v (.int (n:Int)) (.int p)=some (.val (.int ((n:Int) / p))):=a6C ⟨p1,p2⟩
 have md:F5 (.int ((n:Int) / p)) (.int 2)=some (.val (.int ((n:Int) / p % 2))):=N9 (by decide)
 have m2:R8 (.int 2) (.int ((n:Int) / p % 2))=some (.val (.int (2 * ((n:Int) / p % 2)))):=W0 (.inl ⟨by decide,by decide⟩)
 have m1:R8 (.int (1 + k)) (.int (1 - 2 * ((n:Int) / p % 2)))=some (.val (.int (sgL n k))):=by
  have:sgL n k=(1 + k) * (1 - 2 * ((n:Int) / p % 2)):=by unfold sgL; rw [← p4]
  rw [this]
  exact W0 (.inl ⟨by omega,by omega⟩)
 exact ⟨[some (.sh (.int k)),some (.sh (.int (n:Int)))],.val (.int (sgL n k)),[some (.sh (.int k)),some (.sh (.int (n:Int)))],[some (.sh (.int k)),some (.sh (.int (n:Int)))],rfl,f9 (f9 k6 (d8 rfl) rfl rfl rfl) (f9 k6 (f9 k6 (f9 (f9 (d8 rfl) (f9 (Q3 (d9 k6 (d9 k6 (d9 k6 i7))) rfl (Nat.le_of_ble_eq_true rfl)) (d8 rfl) rfl rfl p3) rfl rfl dv) k6 rfl rfl md) rfl rfl m2) rfl rfl rfl) rfl rfl m1,rfl⟩
theorem b1Y (hs:List Int)(k:Nat):slD (.lst (hs.map D.int)) (some (k:Int)) none=some (.own (.lst ((hs.drop k).map D.int))):=by
 show some (W.own (.lst (cutD _ (some (k:Int)) none)))=_
 unfold cutD
 rw [L3.b2C,List.map_drop]
theorem b1b {a b:List Int}(h:a.length + b.length≤100000):z8 (.lst (a.map D.int)) (.lst (b.map D.int))=some (.own (.lst ((a++b).map D.int))):=by
 show V8 (small ((a.map D.int).length + (b.map D.int).length)) (some (W.own (.lst (a.map D.int++b.map D.int))))=_
 rw [← List.map_append]
 exact r8 (B9 (by rw [List.length_map,List.length_map]; exact h))
theorem b3R (cs:List (List Int))(i:Nat)(c:List Int):j7 (cs.take i++c::cs.drop i)=(j7 cs).take i++D.tup (c.map D.int)::(j7 cs).drop i:=by
 unfold j7
 rw [List.map_append,List.map_cons,List.map_take,List.map_drop]
theorem a4b (ns:List Int)(b:Int):∀ (m k:Nat) (cs:List (List Int)) (o3 o4 o5:Option C),cs.length=k→m + k=8→(∀ c∈cs,c.length≤7∧∀ l∈c,l≠0∧l.natAbs≤3)→
  ∃ ds p3 p4 p5,forL (E4 3) a1w ((List.range' k m).map fun j=>D.int (0 + ((j:Nat):Int))) (noE ns b (some (.ow false (.lst (j7 cs)))) o3 o4 o5 none none none)=some (.nx (noE ns b (some (.ow false (.lst (j7 ds)))) p3 p4 p5 none none none))∧ds.length=8∧∀ c∈ds,c.length≤7∧∀ l∈c,l≠0∧l.natAbs≤3
 | 0,k,cs,o3,o4,o5,h1,h2,h3=>⟨cs,o3,o4,o5,rfl,by omega,h3⟩
 | m + 1,k,cs,o3,o4,o5,h1,h2,h3=>by
  have q1:=Int.emod_nonneg (A6 ns (b + 2 + (k:Int))) (b:=3) (by omega)
  obtain ⟨a,ha⟩:∃ a:Nat,A6 ns (b + 2 + (k:Int)) % 3=(a:Int):=⟨(A6 ns (b + 2 + (k:Int)) % 3).toNat,by omega⟩
  have q2:=Int.emod_nonneg (A6 ns (b + 3)) (b:=((cs.length:Nat):Int) + 1) (by omega)
  have q3:=Int.emod_lt_of_pos (A6 ns (b + 3)) (b:=((cs.length:Nat):Int) + 1) (by omega)
  have md:F5 (.int (A6 ns (b + 2 + (k:Int)))) (.int 3)=some (.val (.int (a:Int))):=by
   rw [← ha]
   exact N9 (by decide)
  have md2:F5 (.int (A6 ns (b + 3))) (.int (((cs.length:Nat):Int) + 1))=some (.val (.int (A6 ns (b + 3) % (((cs.length:Nat):Int) + 1)))):=N9 (by omega)
  generalize A6 ns (b + 3) % (((cs.length:Nat):Int) + 1)=i at *
  have eO:(([0,1,2]:List Int).map (sgL k)).length=3:=rfl
  have one_rg:∀ l∈([0,1,2]:List Int).map (sgL k),l≠0∧l.natAbs≤3:=fun l hl=>by
   obtain ⟨j,hj,rfl⟩:=List.mem_map.mp hl
   have h:j=0∨j=1∨j=2:=by simpa using hj
   exact b6D k (by omega) (by omega)
  have hcomp:=b4n k
  generalize ([0,1,2]:List Int).map (sgL k)=one at *
  have mc:=D0 (mi:=U0 ints1 (c6 (mC (.int 3)) g8)) (own:=1) (fr:=[3]) (ρ:=noE ns b (some (.ow false (.lst (j7 cs)))) (some (.sh (.int (k:Int)))) o4 o5 none none none) (ρ1:=noE ns b (some (.ow false (.lst (j7 cs)))) (some (.sh (.int (k:Int)))) o4 o5 none none none) (ds:=([0,1,2]:List Int).map D.int) (T3 (d9 k6 i7) rfl rfl) (Nat.le_of_ble_eq_true rfl) hcomp (.inl (I8 _))
  have s1:=u5 (i:=4) (ρ2:=noE ns b (some (.ow false (.lst (j7 cs)))) (some (.sh (.int (k:Int)))) (some (.ow false (.lst (one.map D.int)))) o5 none none none) mc rfl
  have s2:n9 5 (f7 F5 (n5 [false,false] l7 (c6 (c9 0) (c6 (f7 z8 (f7 z8 (c9 1) (mC (.int 2))) (c9 3)) g8))) (mC (.int 3))) (noE ns b (some (.ow false (.lst (j7 cs)))) (some (.sh (.int (k:Int)))) (some (.ow false (.lst (one.map D.int)))) o5 none none none)=some (.nx (noE ns b (some (.ow false (.lst (j7 cs)))) (some (.sh (.int (k:Int)))) (some (.ow false (.lst (one.map D.int)))) (some (.sh (.int (a:Int)))) none none none)):=u5 (f9 (A5 (d9 (d8 rfl) (d9 (f9 (f9 (d8 rfl) k6 rfl rfl rfl) (d8 rfl) rfl rfl rfl) i7)) rfl rfl V3 rfl rfl) k6 rfl rfl md) rfl
  have ln:V2 [.lst (j7 cs)]=some (.val (.int (cs.length:Nat))):=by
   show some (W.val (.int _))=_
   rw [a11]
  have ad:=b1b (a:=one.drop a) (b:=one.take a) (by rw [List.length_drop,List.length_take]; omega)
  have cl:(one.drop a++one.take a).length≤7:=by rw [List.length_append,List.length_drop,List.length_take]; omega
  have cr:∀ l∈one.drop a++one.take a,l≠0∧l.natAbs≤3:=fun l hl=>by
   rcases List.mem_append.mp hl with h | h
   ·exact one_rg l (List.mem_of_mem_drop h)
   ·exact one_rg l (List.mem_of_mem_take h)
  have s3:L5 (a2k 2 (c6 (f7 F5 (n5 [false,false] l7 (c6 (c9 0) (c6 (f7 z8 (c9 1) (mC (.int 3))) g8))) (f7 z8 (B7 V2 (c6 (c9 2) g8)) (mC (.int 1)))) (c6 (B7 a0m (c6 (f7 z8 (mSl (c9 4) (a0A (c9 5)) (M.pure none)) (mSl (c9 4) (M.pure none) (a0A (c9 5)))) g8)) g8))) (noE ns b (some (.ow false (.lst (j7 cs)))) (some (.sh (.int (k:Int)))) (some (.ow false (.lst (one.map D.int)))) (some (.sh (.int (a:Int)))) none none none)=some (.nx (noE ns b (some (.ow false (.lst (j7 (cs.take i.toNat++(one.drop a++one.take a)::cs.drop i.toNat))))) (some (.sh (.int (k:Int)))) (some (.ow false (.lst (one.map D.int)))) (some (.sh (.int (a:Int)))) none none none)):=by
   refine b3P rfl (d9 (f9 (A5 (d9 (d8 rfl) (d9 (f9 (d8 rfl) k6 rfl rfl rfl) i7)) rfl rfl V3 rfl rfl) (f9 (B3 (d9 (d8 rfl) i7) rfl ln) k6 rfl rfl rfl) rfl rfl md2) (d9 (B3 (d9 (f9 (a7I (d8 rfl) (a2f (d8 rfl) rfl) a68 rfl (b1Y one a)) (a7I (d8 rfl) a68 (a2f (d8 rfl) rfl) rfl (b2c one a)) rfl rfl ad) i7) rfl rfl) i7)) rfl rfl rfl (B9 (by rw [a11]; omega)) q2 (by omega) ?_
   rw [b3R]
   rfl
  obtain ⟨ds,p3,p4,p5,ih,d1,d2⟩:=a4b ns b m (k + 1) (cs.take i.toNat++(one.drop a++one.take a)::cs.drop i.toNat) (some (.sh (.int (k:Int)))) (some (.ow false (.lst (one.map D.int)))) (some (.sh (.int (a:Int)))) (by rw [List.length_append,List.length_cons,List.length_take,List.length_drop]; omega) (by omega) (fun c hc=>by
   rcases List.mem_append.mp hc with hc | hc
   ·exact h3 c (List.mem_of_mem_take hc)
   ·rcases List.mem_cons.mp hc with rfl | hc
    ·exact ⟨cl,cr⟩
    ·exact h3 c (List.mem_of_mem_drop hc))
  refine ⟨ds,p3,p4,p5,?_,d1,d2⟩
  rw [List.range'_succ,List.map_cons,Int.zero_add]
  exact K6 rfl (g9 s1 (g9 s2 s3)) ih
theorem a7e (ns:List Int)(b:Int):∀ (m k:Nat) (o2 o6 o7 o8:Option C),(∃ v cs a b' ρ,forL (E4 6) M0 ((List.range' k m).map fun j=>D.int (0 + ((j:Nat):Int))) (noE ns b o2 none none none o6 o7 o8)=some (.rt (.val (.tup [.int v,.lst (j7 cs)])) (a::b'::ρ))∧GdF v cs)∨∃ ρ,forL (E4 6) M0 ((List.range' k m).map fun j=>D.int (0 + ((j:Nat):Int))) (noE ns b o2 none none none o6 o7 o8)=some (.nx ρ)∧∃ p2 p6 p7 p8,ρ=noE ns b p2 none none none p6 p7 p8
 | 0,k,o2,o6,o7,o8=>.inr ⟨_,rfl,o2,o6,o7,o8,rfl⟩
 | m + 1,k,o2,o6,o7,o8=>by
  have q1:=Int.emod_nonneg (A6 ns (b + 3 * (k:Int))) (b:=3) (by omega)
  have q2:=Int.emod_lt_of_pos (A6 ns (b + 3 * (k:Int))) (b:=3) (by omega)
  have q3:=Int.emod_nonneg (A6 ns (b + 2 + (k:Int))) (b:=11) (by omega)
  have q4:=Int.emod_lt_of_pos (A6 ns (b + 2 + (k:Int))) (b:=11) (by omega)
  have md1:F5 (.int (A6 ns (b + 3 * (k:Int)))) (.int 3)=some (.val (.int (A6 ns (b + 3 * (k:Int)) % 3))):=N9 (by decide)
  have md2:F5 (.int (A6 ns (b + 2 + (k:Int)))) (.int 11)=some (.val (.int (A6 ns (b + 2 + (k:Int)) % 11))):=N9 (by decide)
  have mu3:R8 (.int 3) (.int (k:Int))=some (.val (.int (3 * (k:Int)))):=W0 (.inl ⟨by decide,by decide⟩)
  generalize A6 ns (b + 3 * (k:Int)) % 3=x at *
  generalize A6 ns (b + 2 + (k:Int)) % 11=y at *
  have s7:n9 7 (f7 z8 (mC (.int 1)) (f7 F5 (n5 [false,false] l7 (c6 (c9 0) (c6 (f7 z8 (c9 1) (f7 R8 (mC (.int 3)) (c9 6))) g8))) (mC (.int 3)))) (noE ns b o2 none none none (some (.sh (.int (k:Int)))) o7 o8)=some (.nx (noE ns b o2 none none none (some (.sh (.int (k:Int)))) (some (.sh (.int (1 + x)))) o8)):=u5 (f9 k6 (f9 (A5 (d9 (d8 rfl) (d9 (f9 (d8 rfl) (f9 k6 (d8 rfl) rfl rfl mu3) rfl rfl rfl) i7)) rfl rfl V3 rfl rfl) k6 rfl rfl md1) rfl rfl rfl) rfl
  have s8:n9 8 (f7 z8 (mC (.int 2)) (f7 F5 (n5 [false,false] l7 (c6 (c9 0) (c6 (f7 z8 (f7 z8 (c9 1) (mC (.int 2))) (c9 6)) g8))) (mC (.int 11)))) (noE ns b o2 none none none (some (.sh (.int (k:Int)))) (some (.sh (.int (1 + x)))) o8)=some (.nx (noE ns b o2 none none none (some (.sh (.int (k:Int)))) (some (.sh (.int (1 + x)))) (some (.sh (.int (2 + y)))))):=u5 (f9 k6 (f9 (A5 (d9 (d8 rfl) (d9 (f9 (f9 (d8 rfl) k6 rfl rfl rfl) (d8 rfl) rfl rfl rfl) i7)) rfl rfl V3 rfl rfl) k6 rfl rfl md2) rfl rfl rfl) rfl
  have hc:D3 (E4 0) E6 (n5 [false,false,false,false] C5 (c6 (c9 1) (c6 (f7 z8 (f7 z8 (f7 z8 (c9 2) (mC (.int 4))) (f7 R8 (mC (.int 5)) (c9 0))) (c9 3)) (c6 (c9 4) (c6 (mC (.int 3)) g8))))) [none,some (.sh (.lst (ns.map D.int))),some (.sh (.int b)),some (.sh (.int (k:Int))),some (.sh (.int (1 + x)))] ((List.range (2 + y).toNat).map fun j=>D.int (0 + ((j:Nat):Int)))=some (j7 ((List.range (2 + y).toNat).map fun (j:Nat)=>A7 ns (b + 4 + 5 * (0 + (j:Int)) + (k:Int)) (1 + x) 3)):=by
   unfold j7
   rw [List.map_map]
   apply K8
   intro j _
   have mu5:R8 (.int 5) (.int (0 + (j:Int)))=some (.val (.int (5 * (0 + (j:Int))))):=W0 (.inl ⟨by decide,by decide⟩)
   have fc:=a2B (ns:=ns) (b:=b + 4 + 5 * (0 + (j:Int)) + (k:Int)) (v:=1 + x) (most:=3) (by omega) (by omega) (by decide) (by decide)
   exact ⟨[some (.sh (.int (0 + (j:Int)))),some (.sh (.lst (ns.map D.int))),some (.sh (.int b)),some (.sh (.int (k:Int))),some (.sh (.int (1 + x)))],.val (.tup ((A7 ns (b + 4 + 5 * (0 + (j:Int)) + (k:Int)) (1 + x) 3).map D.int)),[some (.sh (.int (0 + (j:Int)))),some (.sh (.lst (ns.map D.int))),some (.sh (.int b)),some (.sh (.int (k:Int))),some (.sh (.int (1 + x)))],[some (.sh (.int (0 + (j:Int)))),some (.sh (.lst (ns.map D.int))),some (.sh (.int b)),some (.sh (.int (k:Int))),some (.sh (.int (1 + x)))],rfl,A5 (d9 (d8 rfl) (d9 (f9 (f9 (f9 (d8 rfl) k6 rfl rfl rfl) (f9 k6 (d8 rfl) rfl rfl mu5) rfl rfl rfl) (d8 rfl) rfl rfl rfl) (d9 (d8 rfl) (d9 k6 i7)))) rfl rfl fc rfl rfl,rfl⟩
  have hi:ints1 [.int (2 + y)]=some ((List.range (2 + y).toNat).map fun j=>D.int (0 + ((j:Nat):Int))):=r8 ⟨by omega,by omega⟩
  have good:GdF (1 + x) ((List.range (2 + y).toNat).map fun (j:Nat)=>A7 ns (b + 4 + 5 * (0 + (j:Int)) + (k:Int)) (1 + x) 3):=by
   refine ⟨by omega,by omega,by rw [List.length_map,List.length_range]; omega,fun c hc=>?_⟩
   obtain ⟨j,_,rfl⟩:=List.mem_map.mp hc
   refine ⟨?_,a5Q (by omega)⟩
   unfold A7
   rw [List.length_map,List.length_range]
   have:=a6s (A6 ns (b + 4 + 5 * (0 + (j:Int)) + (k:Int))) 3 (by decide)
   omega
  generalize (List.range (2 + y).toNat).map (fun (j:Nat)=>A7 ns (b + 4 + 5 * (0 + (j:Int)) + (k:Int)) (1 + x) 3)=cs at *
  have mc:=D0 (mi:=U0 ints1 (c6 (c9 8) g8)) (own:=1) (fr:=[0,1,6,7]) (ρ:=noE ns b o2 none none none (some (.sh (.int (k:Int)))) (some (.sh (.int (1 + x)))) (some (.sh (.int (2 + y))))) (ρ1:=noE ns b o2 none none none (some (.sh (.int (k:Int)))) (some (.sh (.int (1 + x)))) (some (.sh (.int (2 + y))))) (T3 (d9 (d8 rfl) i7) rfl hi) (B9 (by rw [List.length_map,List.length_range]; omega)) hc (.inl (b1i _))
  have s2:=u5 (i:=2) (ρ2:=noE ns b (some (.ow false (.lst (j7 cs)))) none none none (some (.sh (.int (k:Int)))) (some (.sh (.int (1 + x)))) (some (.sh (.int (2 + y))))) mc rfl
  have fm:=a2T (v:=1 + x) (cs:=cs) (by omega) (by have:=good.hi; omega) (by have:=good.len; omega) (fun c hc=>by have:=(good.cl c hc).1; omega)
  have tm:∀ Ms:List (List Int),b0I (.lst (j7 Ms))=some (!Ms.isEmpty):=fun Ms=>by cases Ms <;> rfl
  have t2:=S9 (D8 (W6 (mr:=c6 (c9 7) (c6 (c9 2) g8)) (ρ:=noE ns b (some (.ow false (.lst (j7 cs)))) none none none (some (.sh (.int (k:Int)))) (some (.sh (.int (1 + x)))) (some (.sh (.int (2 + y))))) (ρ2:=noE ns b (some (.ow false (.lst (j7 cs)))) none none none (some (.sh (.int (k:Int)))) (some (.sh (.int (1 + x)))) (some (.sh (.int (2 + y))))) (ms:=[false,false]) (d9 (d8 rfl) (d9 (d8 rfl) i7)) rfl rfl fm rfl (b0j _)) rfl (tm _))
  rw [List.range'_succ,List.map_cons,Int.zero_add]
  cases he:(x8 (1 + x) cs).isEmpty with
  | true=>
   rw [he] at t2
   exact .inl ⟨1 + x,cs,_,_,_,a0F rfl (g9 s7 (g9 s8 (g9 s2 (C8 t2 rfl (L6 (P9 (d9 (d8 rfl) (d9 (d8 rfl) i7)) rfl (Nat.le_of_ble_eq_true rfl)) rfl))))),good⟩
  | false=>
   rw [he] at t2
   have go:∀ {r:Option SR},forL (E4 6) M0 ((List.range' (k + 1) m).map fun j=>D.int (0 + ((j:Nat):Int))) (noE ns b (some (.ow false (.lst (j7 cs)))) none none none (some (.sh (.int (k:Int)))) (some (.sh (.int (1 + x)))) (some (.sh (.int (2 + y)))))=r→forL (E4 6) M0 (D.int (k:Int)::(List.range' (k + 1) m).map fun j=>D.int (0 + ((j:Nat):Int))) (noE ns b o2 none none none o6 o7 o8)=r:=fun {r} h=>K6 rfl (g9 s7 (g9 s8 (g9 s2 (v8 t2 rfl B6)))) h
   rcases a7e ns b m (k + 1) (some (.ow false (.lst (j7 cs)))) (some (.sh (.int (k:Int)))) (some (.sh (.int (1 + x)))) (some (.sh (.int (2 + y)))) with ⟨v,cs',a,b',ρ,ih,g⟩ | ⟨ρ,ih,h⟩
   ·exact .inl ⟨v,cs',a,b',ρ,go ih,g⟩
   ·exact .inr ⟨ρ,go ih,h⟩
theorem b2X (ns:List Int)(b:Int):∃ v cs,X4 [.lst (ns.map D.int),.int b]=some (.ret (.val (.tup [.int v,.lst (j7 cs)])) [])∧GdF v cs:=by
 have md:F5 (.int (A6 ns (b + 1))) (.int 4)=some (.val (.int (A6 ns (b + 1) % 4))):=N9 (by decide)
 have c1:z6 (f7 M4 (f7 F5 (n5 [false,false] l7 (c6 (c9 0) (c6 (f7 z8 (c9 1) (mC (.int 1))) g8))) (mC (.int 4))) (mC (.int 0))) (z7 9 [false,false] [.lst (ns.map D.int),.int b])=some (.ok (decide (A6 ns (b + 1) % 4=0)) (noE ns b none none none none none none none)):=C0 (f9 (f9 (A5 (d9 (d8 rfl) (d9 (f9 (d8 rfl) k6 rfl rfl rfl) i7)) rfl rfl V3 rfl rfl) k6 rfl rfl md) k6 rfl rfl (eq_int _ _))
 by_cases h:A6 ns (b + 1) % 4=0
 ·obtain ⟨ds,p3,p4,p5,hL,d1,d2⟩:=a4b ns b 8 0 [] none none none rfl rfl (fun c hc=>by cases hc)
  have hi:ints1 [.int 8]=some ((List.range' 0 8).map fun j=>D.int (0 + ((j:Nat):Int))):=rfl
  have s2:n9 2 (P1 g8) (noE ns b none none none none none none none)=some (.nx (noE ns b (some (.ow false (.lst (j7 [])))) none none none none none none)):=u5 (Q3 i7 rfl (Nat.le_of_ble_eq_true rfl)) rfl
  refine ⟨3,ds,E7 (F8 (C8 c1 (decide_eq_true h) (g9 s2 (g9 (O7 (T3 (d9 k6 i7) rfl hi) hL) (L6 (P9 (d9 k6 (d9 (d8 rfl) i7)) rfl (Nat.le_of_ble_eq_true rfl)) rfl))))) rfl,by decide,by decide,by omega,d2⟩
 ·have hi:ints1 [.int 6]=some ((List.range' 0 6).map fun j=>D.int (0 + ((j:Nat):Int))):=rfl
  rcases a7e ns b 6 0 none none none none with ⟨v,cs,a,b',ρ,hL,g⟩ | ⟨ρ,hL,p2,p6,p7,p8,rfl⟩
  ·exact ⟨v,cs,E7 (g9 (v8 c1 (decide_eq_false h) B6) (F8 (O7 (T3 (d9 k6 i7) rfl hi) hL))) rfl,g⟩
  ·refine ⟨2,[[1,2],[-1,2],[1,-2],[-1,-2]],E7 (g9 (v8 c1 (decide_eq_false h) B6) (g9 (O7 (T3 (d9 k6 i7) rfl hi) hL) (L6 (w:=.val (.tup [.int 2,.lst (j7 [[1,2],[-1,2],[1,-2],[-1,-2]])])) (ρ1:=noE ns b p2 none none none p6 p7 p8) rfl rfl))) rfl,by decide,by decide,by decide,?_⟩
   decide
theorem a4l {T:Tab}{k:Int}{cc:List Int}(hk:B5 T k=some cc)(k0:0 < k):∀ {hs tr D:List Int} {u:Int},wgo T tr hs=some D→u6 D cc=[]→(∀ h∈hs,0 < h)→(D9 T tr u (hs++[k])).1=2
 | [],tr,D,u,h1,h2,_=>by
  cases h1
  rw [List.nil_append,a1A T tr u k [] (by omega) hk,h2]
  rfl
 | x::hs,tr,D,u,h1,h2,h3=>by
  have x0:=h3 x List.mem_cons_self
  have e:(match B5 T x with | none=>none | some c=>match O2 tr (u6 tr c) with | .inl _=>none | .inr l=>wgo T (tr++[l]) hs)=some D:=h1
  cases hx:B5 T x with
  | none=>rw [hx] at e; cases e
  | some d=>
   rw [hx] at e
   have e:(match O2 tr (u6 tr d) with | .inl _=>none | .inr l=>wgo T (tr++[l]) hs)=some D:=e
   rw [List.cons_append,a1A T tr u x (hs++[k]) (by omega) hx]
   cases hs1:O2 tr (u6 tr d) with
   | inl z=>rw [hs1] at e; cases e
   | inr y=>
    rw [hs1] at e
    exact a4l hk k0 (hs:=hs) e h2 fun h hh=>h3 h (List.mem_cons_of_mem _ hh)
theorem a1b {cs:List (List Int)}{k:Int}{c:List Int}(h:(k,c)∈w5 1 cs):0 < k:=by
 have:=(O1 cs 1 _ h).1
 have:(1:Int)≤k:=this
 omega
theorem b0S {cs:List (List Int)}{c hs D cc:List Int}{k:Int}(h1:cs.length≤50)(h2:∀ d∈cs,d.length≤100)(h3:c.length≤20)(h4:hs.length≤20)(hw:wgo (w5 1 cs) (c.map fun l=>-l) hs=some D)(hk:(k,cc)∈w5 1 cs)(he:u6 D cc=[])(hh:∀ h∈hs,∃ c,(h,c)∈w5 1 cs)(hp:∀ l∈c,0 < l):a4V (w5 1 cs) c (hs++[k])=true:=by
 unfold a4V
 rw [Bool.and_eq_true,Bool.and_eq_true,Bool.and_eq_true]
 refine ⟨⟨⟨a9D (by omega) h2,decide_eq_true ⟨by omega,by rw [List.length_append,List.length_singleton]; omega⟩⟩,?_⟩,decide_eq_true (a4l (a3E (V1 cs 1) hk) (a1b hk) hw he fun h hm=>by
  obtain ⟨d,hd⟩:=hh h hm
  exact a1b hd)⟩
 have:(c.any fun l=>decide (-l∈c))=false:=by
  rw [List.any_eq_false]
  intro l hl z
  have:=hp _ (of_decide_eq_true z)
  have:=hp l hl
  omega
 rw [this]
 rfl
theorem a6X {v:Int}{cs:List (List Int)}{c hs:List Int}{st:List W2}(h1:cs.length≤50)(h2:c.length≤20)(h3:∀ l∈c,v9 l≤v)(h4:a4V (w5 1 cs) c hs=true):a2Q v cs ((((cs.length + 1:Nat):Int),c,hs)::st)=(c.isEmpty || a2Q v (cs++[c]) st):=by
 show (decide ((((cs.length + 1:Nat):Int))=((cs.length + 1:Nat):Int)∧c.length≤1000∧cs.length≤60) && (c.all fun l=>decide (v9 l≤v)) && a4V (w5 1 cs) c hs && (c.isEmpty || a2Q v (cs++[c]) st))=_
 rw [decide_eq_true ⟨rfl,by omega,by omega⟩,h4,List.all_eq_true.mpr fun l hl=>decide_eq_true (h3 l hl)]
 rfl
theorem a1H.chk {v:Nat}{cs0 cs:List (List Int)}{st:List W2}(h:a1H cs0 cs st)(h0:∀ c∈cs0,c.length≤100)(hl:∀ c∈cs,∀ l∈c,l≠0∧l.natAbs≤v)(hn:cs.length≤50):(∀ c∈cs,c.length≤100)∧∀ st2,a2Q (v:Int) cs0 (st++st2)=a2Q (v:Int) cs st2:=by
 induction h with
 | nil=>exact ⟨h0,fun _=>rfl⟩
 | @snoc cs st c hh D cc k _ cne c20 h20 hw hk he hin hp ih=>
  rw [List.length_append,List.length_singleton] at hn
  obtain ⟨i1,i2⟩:=ih (fun c hc=>hl c (List.mem_append_left _ hc)) (by omega)
  refine ⟨fun d hd=>?_,fun st2=>?_⟩
  ·rcases List.mem_append.mp hd with hd | hd
   ·exact i1 d hd
   ·rw [List.mem_singleton] at hd
    rw [hd]
    omega
  ·rw [List.append_assoc,i2]
   show a2Q (v:Int) cs ((((cs.length + 1:Nat):Int),c,hh++[k])::st2)=_
   rw [a6X (by omega) c20 (fun l hm=>by have:=(hl c (List.mem_append_right _ List.mem_cons_self) l hm).2; unfold v9; omega) (b0S (by omega) i1 c20 h20 hw hk he hin hp)]
   have:c.isEmpty=false:=by
    cases c with
    | nil=>exact absurd rfl cne
    | cons _ _=>rfl
   rw [this,Bool.false_or]
theorem a1H.each {cs0 cs:List (List Int)}{st:List W2}(h:a1H cs0 cs st):∀ s∈st,s.2.1≠[]∧s.2.2.length≤21∧∀ x∈s.2.2,0 < x:=by
 induction h with
 | nil=>intro s hs; cases hs
 | @snoc cs st c hh D cc k _ cne c20 h20 hw hk he hin hp ih=>
  intro s hs
  rcases List.mem_append.mp hs with hs | hs
  ·exact ih s hs
  ·rw [List.mem_singleton] at hs
   rw [hs]
   refine ⟨cne,by show (hh++[k]).length≤21; rw [List.length_append,List.length_singleton]; omega,fun x hx=>?_⟩
   rcases List.mem_append.mp hx with hx | hx
   ·obtain ⟨d,hd⟩:=hin x hx
    exact a1b hd
   ·rw [List.mem_singleton] at hx
    rw [hx]
    exact a1b hk
theorem a9m (M:List Int):∀ Ms:List (List Int),inL (.tup (M.map D.int)) (j7 Ms)=some (decide (M∈Ms))
 | []=>rfl
 | x::r=>by
  show (match eqL (Z8 6) (x.map D.int) (M.map D.int),inL (.tup (M.map D.int)) (j7 r) with | some a,some b=>some (a || b) | _,_=>none)=_
  rw [a2P,a9m M r]
  by_cases h1:x=M
  ·simp [h1]
  ·have:¬ M=x:=fun e=>h1 e.symm
   simp [h1,this]
theorem b4T (M:List Int)(Ms:List (List Int)):inD (.tup (M.map D.int)) (.lst (j7 Ms))=some (.val (.bl (decide (M∈Ms)))):=by
 show (inL (.tup (M.map D.int)) (j7 Ms)).bind _=_
 rw [a9m]
 rfl
noncomputable def N7 (ns:List Int)(v:Int)(cs:List (List Int))(o2 o3 o4 o5:Option C):k9:=[some (.sh (.lst (ns.map D.int))),some (.sh (.tup [.int v,.lst (j7 cs)])),o2,o3,o4,o5]
theorem a94 (hs:List Int):D3 (E4 0) E6 (n5 [false] D5 (c6 (c9 0) g8)) [none] (hs.map D.int)=some ((hs.map fun _=>true).map D.bl):=by
 rw [List.map_map]
 apply K8
 intro l _
 exact ⟨[some (.sh (.int l))],.val (.bl true),[some (.sh (.int l))],[some (.sh (.int l))],rfl,A5 (d9 (d8 rfl) i7) rfl rfl (a79 (d:=.int l) rfl) rfl rfl,rfl⟩
theorem b2E (hs:List Int):a40 [.lst ((hs.map fun _=>true).map D.bl)]=some (.val (.bl true)):=by
 rw [a5V,List.all_map]
 congr 3
 exact List.all_eq_true.mpr fun _ _=>rfl
theorem a3Z (ns:List Int)(v:Int)(cs:List (List Int))(o2 o3 o4:Option C):∀ (st:List W2) (o5:Option C),(∀ s∈st,s.2.2.length≤21∧∀ x∈s.2.2,0 < x)→∃ p5,forL (E4 5) a4h (st.map n6) (N7 ns v cs o2 o3 o4 o5)=some (.nx (N7 ns v cs o2 o3 o4 p5))
 | [],o5,_=>⟨o5,rfl⟩
 | (n,c,hs)::st,o5,h=>by
  obtain ⟨p5,ih⟩:=a3Z ns v cs o2 o3 o4 st (some (.sh (n6 (n,c,hs)))) fun s hm=>h s (List.mem_cons_of_mem _ hm)
  refine ⟨p5,?_⟩
  have hh:=h _ List.mem_cons_self
  have hl:hs.length≤21:=hh.1
  have hp:∀ x∈hs,0 < x:=hh.2
  have j0:v7 (n6 (n,c,hs)) (.int 0)=some (.val (.str [97,100,100])):=rfl
  have j2:v7 (n6 (n,c,hs)) (.int 2)=some (.val (.tup (c.map D.int))):=rfl
  have j3:v7 (n6 (n,c,hs)) (.int 3)=some (.val (.tup (hs.map D.int))):=rfl
  have hc:D3 (E4 0) E6 (a05 (n5 [false] D5 (c6 (c9 0) g8)) (f7 (a0P fun i j=>decide (j < i)) (c9 0) (mC (.int 0)))) [none] (hs.map D.int)=some ((hs.map fun _=>true).map D.bl):=by
   rw [List.map_map]
   apply K8
   intro l hm
   have gt:a0P (fun i j=>decide (j < i)) (.int l) (.int 0)=some (.val (.bl true)):=by
    show some (W.val (.bl (decide (0 < l))))=_
    rw [decide_eq_true (hp l hm)]
   exact ⟨[some (.sh (.int l))],.val (.bl true),[some (.sh (.int l))],[some (.sh (.int l))],rfl,a2h (k:=true) (A5 (d9 (d8 rfl) i7) rfl rfl (a79 (d:=.int l) rfl) rfl rfl) rfl rfl (f9 (d8 rfl) k6 rfl rfl gt),rfl⟩
  have m:=D0 (mi:=A1 (f7 v7 (c9 5) (mC (.int 3)))) (own:=1) (fr:=[]) (ρ:=N7 ns v cs o2 o3 o4 (some (.sh (n6 (n,c,hs))))) (ρ1:=N7 ns v cs o2 o3 o4 (some (.sh (n6 (n,c,hs))))) (L1 (f9 (d8 rfl) k6 rfl rfl j3) rfl rfl) (B9 (by rw [List.length_map]; omega)) hc (.inl (U4 _))
  have t1:mOr (P4 (C9 (B7 a0f (c6 (c9 5) (c6 (mC (.ty "tuple")) g8))))) (mOr (z6 (f7 a0C (f7 v7 (c9 5) (mC (.int 0))) (mC (.str [97,100,100])))) (P4 (C9 (B7 a0f (c6 (f7 v7 (c9 5) (mC (.int 2))) (c6 (mC (.ty "tuple")) g8)))))) (N7 ns v cs o2 o3 o4 (some (.sh (n6 (n,c,hs)))))=some (.ok false (N7 ns v cs o2 o3 o4 (some (.sh (n6 (n,c,hs)))))):=a0Y (S9 (D8 (B3 (d9 (d8 rfl) (d9 k6 i7)) rfl rfl) rfl (k:=true) rfl)) rfl (a0Y (C0 (f9 (f9 (d8 rfl) k6 rfl rfl j0) k6 rfl rfl rfl)) rfl (S9 (D8 (B3 (d9 (f9 (d8 rfl) k6 rfl rfl j2) (d9 k6 i7)) rfl rfl) rfl (k:=true) rfl)))
  have t2:=a0Y (c1:=P4 (C9 (B7 a0f (c6 (f7 v7 (c9 5) (mC (.int 3))) (c6 (mC (.ty "tuple")) g8))))) (ρ:=N7 ns v cs o2 o3 o4 (some (.sh (n6 (n,c,hs))))) (ρ1:=N7 ns v cs o2 o3 o4 (some (.sh (n6 (n,c,hs))))) (S9 (D8 (B3 (d9 (f9 (d8 rfl) k6 rfl rfl j3) (d9 k6 i7)) rfl rfl) rfl (k:=true) rfl)) rfl (S9 (D8 (B3 (d9 m i7) rfl (b2E hs)) rfl (k:=true) rfl))
  exact K6 rfl (g9 (v8 t1 rfl B6) (v8 t2 rfl B6)) ih
theorem b0A (st:List W2):D3 (E4 0) E6 (f7 M4 (f7 v7 (c9 0) (mC (.int 2))) (F2 g8)) [none] (st.map n6)=some ((st.map fun s=>s.2.1.isEmpty).map D.bl):=by
 rw [List.map_map]
 apply K8
 intro s _
 have j2:v7 (n6 s) (.int 2)=some (.val (.tup (s.2.1.map D.int))):=rfl
 exact ⟨[some (.sh (n6 s))],.val (.bl s.2.1.isEmpty),[some (.sh (n6 s))],[some (.sh (n6 s))],rfl,f9 (f9 (d8 rfl) k6 rfl rfl j2) (P9 i7 rfl (Nat.le_of_ble_eq_true rfl)) rfl rfl (a6y _),rfl⟩
theorem b3O (Ms:List (List Int)):b0I (.lst (j7 Ms))=some (!Ms.isEmpty):=by cases Ms <;> rfl
theorem b0U (d:D)(ds:List D):(a3j (.val (.tup [d,.lst ds])) && ([]:List D).all Y7)=false:=by
 show ((a1s 5 d && (false && true)) && true)=false
 simp
theorem a61 (ns:List Int){v:Nat}{cs:List (List Int)}(g:GdF (v:Int) cs):∃ a ρ,(l6 (n9 2 (B7 a0v (c6 (f7 v7 (c9 1) (mC (.int 1))) g8)))
 (l6 (n9 3 (n5 [false,false] U3 (c6 (f7 v7 (c9 1) (mC (.int 0))) (c6 (c9 2) g8))))
 (l6 (Y5 (mOr (P4 (C9 (B7 a0f (c6 (c9 3) (c6 (mC (.ty "tuple")) g8))))) (mOr (z6 (f7 a0C (B7 V2 (c6 (c9 3) g8)) (mC (.int 2)))) (z6 (f7 a0C (c9 2) (f7 v7 (c9 1) (mC (.int 1))))))) (retS (mC (.bl false))) nxS)
 (l6 (n9 4 (n5 [false,false] C3 (c6 (f7 v7 (c9 1) (mC (.int 0))) (c6 (f7 v7 (c9 1) (mC (.int 1))) g8))))
 (l6 (Y5 (C9 (c9 4)) (l6 (Y5 (mOr (P4 (C9 (B7 a0f (c6 (f7 v7 (c9 3) (mC (.int 0))) (c6 (mC (.ty "tuple")) g8))))) (P4 (C9 (B7 a40 (c6 (C6 (A1 (f7 v7 (c9 3) (mC (.int 0)))) (E4 0) E6 (n5 [false] D5 (c6 (c9 0) g8)) 1 []) g8))))) (retS (mC (.bl false))) nxS)
 (retS (a05 (f7 inD (f7 v7 (c9 3) (mC (.int 0))) (c9 4)) (f7 M4 (f7 v7 (c9 3) (mC (.int 1))) (P1 g8))))) nxS)
 (l6 (Y5 (mOr (z6 (mUn (fun d=>vB (!a0a d)) (f7 v7 (c9 3) (mC (.int 0))))) (P4 (C9 (B7 a0f (c6 (f7 v7 (c9 3) (mC (.int 1))) (c6 (mC (.ty "list")) g8)))))) (retS (mC (.bl false))) nxS)
 (l6 (a0n (A1 (f7 v7 (c9 3) (mC (.int 1)))) (E4 5) a4h)
 (l6 (Y5 (C9 (B7 a7G (c6 (C6 (A1 (mSl (f7 v7 (c9 3) (mC (.int 1))) (M.pure none) (a0A (mUn P0 (mC (.int 1)))))) (E4 0) E6 (f7 M4 (f7 v7 (c9 0) (mC (.int 2))) (F2 g8)) 1 []) g8))) (retS (mC (.bl false))) nxS)
 (retS (f7 M4 (n5 [false,false] M3 (c6 (c9 1) (c6 (f7 v7 (c9 3) (mC (.int 1))) g8))) (F2 (c6 (mUn P0 (mC (.int 1))) (c6 (mC (.bl true)) g8)))))))))))))
 (N7 ns (v:Int) cs none none none none)=some (.rt (.val (.bl true)) (a::ρ)):=by
 have hv1:=g.lo
 have hv4:=g.hi
 have hlen:=g.len
 have hcl:=g.cl
 rw [Int.toNat_natCast] at hcl
 have hp:2 ^ v≤16:=Nat.pow_le_pow_right (n:=2) (by omega) (show v≤4 by omega)
 obtain ⟨r,hS,R⟩:=a7N (v:=v) (cs0:=cs) (by omega) (fun c hc=>(hcl c hc).2) (fun c hc=>by have:=(hcl c hc).1; omega) (by omega)
 have fs:=b0f (v:=(v:Int)) (by omega) (by omega) hS
 have fm:=a2T (v:=(v:Int)) (cs:=cs) (by omega) (by omega) (by omega) (fun c hc=>by have:=(hcl c hc).1; omega)
 have i0:v7 (.tup [.int (v:Int),.lst (j7 cs)]) (.int 0)=some (.val (.int (v:Int))):=rfl
 have i1:v7 (.tup [.int (v:Int),.lst (j7 cs)]) (.int 1)=some (.val (.lst (j7 cs))):=rfl
 have s2:n9 2 (B7 a0v (c6 (f7 v7 (c9 1) (mC (.int 1))) g8)) (N7 ns (v:Int) cs none none none none)=some (.nx (N7 ns (v:Int) cs (some (.ow false (.lst (j7 cs)))) none none none)):=u5 (B3 (d9 (f9 (d8 rfl) k6 rfl rfl i1) i7) rfl rfl) rfl
 have s3:n9 3 (n5 [false,false] U3 (c6 (f7 v7 (c9 1) (mC (.int 0))) (c6 (c9 2) g8))) (N7 ns (v:Int) cs (some (.ow false (.lst (j7 cs)))) none none none)=some (.nx (N7 ns (v:Int) cs (some (.sh (.lst (j7 cs)))) (some (.sh (.tup [V0 r.1,.lst (r.2.map n6)]))) none none)):=u5 (b2z (d9 (f9 (d8 rfl) k6 rfl rfl i0) (d9 (d8 rfl) i7)) rfl rfl fs rfl (b0U _ _) rfl) rfl
 have nc:=b5v cs cs
 rw [decide_eq_true rfl] at nc
 have t4:mOr (P4 (C9 (B7 a0f (c6 (c9 3) (c6 (mC (.ty "tuple")) g8))))) (mOr (z6 (f7 a0C (B7 V2 (c6 (c9 3) g8)) (mC (.int 2)))) (z6 (f7 a0C (c9 2) (f7 v7 (c9 1) (mC (.int 1)))))) (N7 ns (v:Int) cs (some (.sh (.lst (j7 cs)))) (some (.sh (.tup [V0 r.1,.lst (r.2.map n6)]))) none none)=some (.ok false (N7 ns (v:Int) cs (some (.sh (.lst (j7 cs)))) (some (.sh (.tup [V0 r.1,.lst (r.2.map n6)]))) none none)):=a0Y (S9 (D8 (B3 (d9 (d8 rfl) (d9 k6 i7)) rfl rfl) rfl (k:=true) rfl)) rfl (a0Y (C0 (f9 (B3 (d9 (d8 rfl) i7) rfl rfl) k6 rfl rfl rfl)) rfl (C0 (f9 (d8 rfl) (f9 (d8 rfl) k6 rfl rfl i1) rfl rfl nc)))
 have s5:n9 4 (n5 [false,false] C3 (c6 (f7 v7 (c9 1) (mC (.int 0))) (c6 (f7 v7 (c9 1) (mC (.int 1))) g8))) (N7 ns (v:Int) cs (some (.sh (.lst (j7 cs)))) (some (.sh (.tup [V0 r.1,.lst (r.2.map n6)]))) none none)=some (.nx (N7 ns (v:Int) cs (some (.sh (.lst (j7 cs)))) (some (.sh (.tup [V0 r.1,.lst (r.2.map n6)]))) (some (.ow false (.lst (j7 (x8 (v:Int) cs))))) none)):=u5 (A5 (d9 (f9 (d8 rfl) k6 rfl rfl i0) (d9 (f9 (d8 rfl) k6 rfl rfl i1) i7)) rfl rfl fm rfl rfl) rfl
 have t6:C9 (c9 4) (N7 ns (v:Int) cs (some (.sh (.lst (j7 cs)))) (some (.sh (.tup [V0 r.1,.lst (r.2.map n6)]))) (some (.ow false (.lst (j7 (x8 (v:Int) cs))))) none)=some (.ok (!(x8 (v:Int) cs).isEmpty) (N7 ns (v:Int) cs (some (.sh (.lst (j7 cs)))) (some (.sh (.tup [V0 r.1,.lst (r.2.map n6)]))) (some (.ow false (.lst (j7 (x8 (v:Int) cs))))) none)):=D8 (d8 rfl) rfl (b3O _)
 cases R with
 | @model f hf hs=>
  obtain ⟨n,hn,e⟩:=b4h (by omega) (by omega) hf
  have hin:(List.range v).map f∈x8 (v:Int) cs:=a7b.mpr ⟨⟨n,hn,e.symm⟩,hs⟩
  have hne:(!(x8 (v:Int) cs).isEmpty)=true:=by
   cases hm:x8 (v:Int) cs with
   | nil=>rw [hm] at hin; cases hin
   | cons _ _=>rfl
  have Ml:((List.range v).map f).length≤1000:=by rw [List.length_map,List.length_range]; omega
  generalize (List.range v).map f=M at *
  have k0:v7 (.tup [V0 (some M),.lst ([].map n6)]) (.int 0)=some (.val (.tup (M.map D.int))):=rfl
  have k1:v7 (.tup [V0 (some M),.lst ([].map n6)]) (.int 1)=some (.val (.lst [])):=rfl
  have m:=D0 (mi:=A1 (f7 v7 (c9 3) (mC (.int 0)))) (own:=1) (fr:=[]) (ρ:=N7 ns (v:Int) cs (some (.sh (.lst (j7 cs)))) (some (.sh (.tup [V0 (some M),.lst ([].map n6)]))) (some (.ow false (.lst (j7 (x8 (v:Int) cs))))) none) (ρ1:=N7 ns (v:Int) cs (some (.sh (.lst (j7 cs)))) (some (.sh (.tup [V0 (some M),.lst ([].map n6)]))) (some (.ow false (.lst (j7 (x8 (v:Int) cs))))) none) (L1 (f9 (d8 rfl) k6 rfl rfl k0) rfl rfl) (B9 (by rw [List.length_map]; omega)) (a94 M) (.inl (U4 _))
  have ic:=b4T M (x8 (v:Int) cs)
  rw [decide_eq_true hin] at ic
  have t7:=a0Y (c1:=P4 (C9 (B7 a0f (c6 (f7 v7 (c9 3) (mC (.int 0))) (c6 (mC (.ty "tuple")) g8))))) (ρ:=N7 ns (v:Int) cs (some (.sh (.lst (j7 cs)))) (some (.sh (.tup [V0 (some M),.lst ([].map n6)]))) (some (.ow false (.lst (j7 (x8 (v:Int) cs))))) none) (ρ1:=N7 ns (v:Int) cs (some (.sh (.lst (j7 cs)))) (some (.sh (.tup [V0 (some M),.lst ([].map n6)]))) (some (.ow false (.lst (j7 (x8 (v:Int) cs))))) none) (S9 (D8 (B3 (d9 (f9 (d8 rfl) k6 rfl rfl k0) (d9 k6 i7)) rfl rfl) rfl (k:=true) rfl)) rfl (S9 (D8 (B3 (d9 m i7) rfl (b2E M)) rfl (k:=true) rfl))
  exact ⟨_,_,g9 s2 (g9 s3 (g9 (v8 t4 rfl B6) (g9 s5 (F8 (C8 t6 hne (g9 (v8 t7 rfl B6) (L6 (a2h (k:=true) (f9 (f9 (d8 rfl) k6 rfl rfl k0) (d8 rfl) rfl rfl ic) rfl rfl (f9 (f9 (d8 rfl) k6 rfl rfl k1) (Q3 i7 rfl (Nat.le_of_ble_eq_true rfl)) rfl rfl rfl)) rfl)))))))⟩
 | @none cs' st hh D cc k hst hl h50 h20 hw hk he hin=>
  have hmt:x8 (v:Int) cs=[]:=by
   cases hm:x8 (v:Int) cs with
   | nil=>rfl
   | cons M Ms=>
    have hM:M∈x8 (v:Int) cs:=by rw [hm]; exact List.mem_cons_self
    obtain ⟨⟨n,_,rfl⟩,hs⟩:=a7b.mp hM
    have mm:=b1d v (n:Int)
    obtain ⟨l,l1,_⟩:=a3X mm (hst.sat hl mm hs) (c:=[]) (fun l h=>(by cases h)) hw hk he
    cases l1
  have hne:(!(x8 (v:Int) cs).isEmpty)=false:=by rw [hmt]; rfl
  obtain ⟨c1,c2⟩:=hst.chk (fun c hc=>by have:=(hcl c hc).1; omega) hl h50
  have sl:=hst.len
  have ck:a2Q (v:Int) cs (st++[(((cs'.length + 1:Nat):Int),[],hh++[k])])=true:=by
   rw [c2,a6X (c:=[]) h50 (by decide) (fun l h=>(by cases h)) (b0S (c:=[]) h50 c1 (by decide) h20 hw hk he hin (fun l h=>(by cases h)))]
   rfl
  have each:∀ s∈st++[(((cs'.length + 1:Nat):Int),[],hh++[k])],s.2.2.length≤21∧∀ x∈s.2.2,0 < x:=fun s hs=>by
   rcases List.mem_append.mp hs with hs | hs
   ·exact (hst.each s hs).2
   ·rw [List.mem_singleton] at hs
    rw [hs]
    refine ⟨by show (hh++[k]).length≤21; rw [List.length_append,List.length_singleton]; omega,fun x hx=>?_⟩
    rcases List.mem_append.mp hx with hx | hx
    ·obtain ⟨d,hd⟩:=hin x hx
     exact a1b hd
    ·rw [List.mem_singleton] at hx
     rw [hx]
     exact a1b hk
  have dl:(st++[(((cs'.length + 1:Nat):Int),[],hh++[k])]).dropLast=st:=List.dropLast_concat
  have ll:(st++[((((cs'.length + 1:Nat):Int),[],hh++[k]):W2)]).length≤60:=by rw [List.length_append,List.length_singleton]; omega
  have no:(st.map fun s=>s.2.1.isEmpty).any id=false:=by
   rw [List.any_map,List.any_eq_false]
   intro s hs
   have:=(hst.each s hs).1
   cases hx:s.2.1 with
   | nil=>exact absurd hx this
   | cons _ _=>simp [hx]
  generalize st++[((((cs'.length + 1:Nat):Int),[],hh++[k]):W2)]=S at *
  have k0:v7 (.tup [V0 none,.lst (S.map n6)]) (.int 0)=some (.val .A3):=rfl
  have k1:v7 (.tup [V0 none,.lst (S.map n6)]) (.int 1)=some (.val (.lst (S.map n6))):=rfl
  have t7:mOr (z6 (mUn (fun d=>vB (!a0a d)) (f7 v7 (c9 3) (mC (.int 0))))) (P4 (C9 (B7 a0f (c6 (f7 v7 (c9 3) (mC (.int 1))) (c6 (mC (.ty "list")) g8))))) (N7 ns (v:Int) cs (some (.sh (.lst (j7 cs)))) (some (.sh (.tup [V0 none,.lst (S.map n6)]))) (some (.ow false (.lst (j7 (x8 (v:Int) cs))))) none)=some (.ok false (N7 ns (v:Int) cs (some (.sh (.lst (j7 cs)))) (some (.sh (.tup [V0 none,.lst (S.map n6)]))) (some (.ow false (.lst (j7 (x8 (v:Int) cs))))) none)):=a0Y (C0 (U7 (f9 (d8 rfl) k6 rfl rfl k0) rfl rfl)) rfl (S9 (D8 (B3 (d9 (f9 (d8 rfl) k6 rfl rfl k1) (d9 k6 i7)) rfl rfl) rfl (k:=true) rfl))
  obtain ⟨p5,hL⟩:=a3Z ns (v:Int) cs (some (.sh (.lst (j7 cs)))) (some (.sh (.tup [V0 none,.lst (S.map n6)]))) (some (.ow false (.lst (j7 (x8 (v:Int) cs))))) S none each
  have sd:slD (.lst (S.map n6)) none (some (-1))=some (.own (.lst (st.map n6))):=by
   show some (W.own (.lst (cutD _ none (some (-1)))))=_
   unfold cutD
   rw [L3.b2N,← List.map_dropLast,dl]
  have stl:st.length≤60:=by omega
  have m8:=D0 (mi:=A1 (mSl (f7 v7 (c9 3) (mC (.int 1))) (M.pure none) (a0A (mUn P0 (mC (.int 1)))))) (own:=1) (fr:=[]) (ρ:=N7 ns (v:Int) cs (some (.sh (.lst (j7 cs)))) (some (.sh (.tup [V0 none,.lst (S.map n6)]))) (some (.ow false (.lst (j7 (x8 (v:Int) cs))))) p5) (ρ1:=N7 ns (v:Int) cs (some (.sh (.lst (j7 cs)))) (some (.sh (.tup [V0 none,.lst (S.map n6)]))) (some (.ow false (.lst (j7 (x8 (v:Int) cs))))) p5) (L1 (a7I (f9 (d8 rfl) k6 rfl rfl k1) a68 (a2f (U7 k6 rfl rfl) rfl) rfl sd) rfl rfl) (B9 (by rw [List.length_map]; omega)) (b0A st) (.inl (U4 _))
  have an:=a6e (st.map fun s=>s.2.1.isEmpty)
  rw [no] at an
  have t8:=D8 (B3 (d9 m8 i7) rfl an) rfl (k:=false) rfl
  have fp:=a5N (v:=(v:Int)) ck (by omega) (by omega)
  exact ⟨_,_,g9 s2 (g9 s3 (g9 (v8 t4 rfl B6) (g9 s5 (g9 (v8 t6 hne B6) (g9 (v8 t7 rfl B6) (g9 (O7 (L1 (f9 (d8 rfl) k6 rfl rfl k1) rfl rfl) hL) (g9 (v8 t8 rfl B6) (L6 (f9 (A5 (d9 (d8 rfl) (d9 (f9 (d8 rfl) k6 rfl rfl k1) i7)) rfl rfl fp rfl rfl) (P9 (d9 (U7 k6 rfl rfl) (d9 k6 i7)) rfl (Nat.le_of_ble_eq_true rfl)) rfl rfl rfl) rfl))))))))⟩
theorem b2r:∀ ns:List Int,ns.length≤63→G8 a9n 6 [false] [.lst (ns.map D.int)]=some (.ret (.val (.bl true)) []):=by
 intro ns _
 have ff:=a4z (ns:=ns) (b:=0)
 have hv:=a8u ns 0
 have hl8:=b1E ns 0
 have hr:=fun c (hc:c∈(x6 ns 0).2)=>b2F hc
 have g0:GdF (x6 ns 0).1 (x6 ns 0).2:=⟨by omega,by omega,by omega,hr⟩
 have s1:n9 1 (n5 [false,false] K7 (c6 (c9 0) (c6 (mC (.int 0)) g8))) (z7 6 [false] [.lst (ns.map D.int)])=some (.nx (N7 ns (x6 ns 0).1 (x6 ns 0).2 none none none none)):=u5 (A5 (d9 (d8 rfl) (d9 k6 i7)) rfl rfl ff rfl rfl) rfl
 have md:F5 (.int (A6 ns 49)) (.int 2)=some (.val (.int (A6 ns 49 % 2))):=N9 (by decide)
 have t2:z6 (f7 M4 (f7 F5 (n5 [false,false] l7 (c6 (c9 0) (c6 (mC (.int 49)) g8))) (mC (.int 2))) (mC (.int 0))) (N7 ns (x6 ns 0).1 (x6 ns 0).2 none none none none)=some (.ok (decide (A6 ns 49 % 2=0)) (N7 ns (x6 ns 0).1 (x6 ns 0).2 none none none none)):=C0 (f9 (f9 (A5 (d9 (d8 rfl) (d9 k6 i7)) rfl rfl V3 rfl rfl) k6 rfl rfl md) k6 rfl rfl (eq_int _ _))
 by_cases h:A6 ns 49 % 2=0
 ·obtain ⟨v,cs,fn,g⟩:=b2X ns 0
  obtain ⟨w,rfl⟩:∃ w:Nat,v=(w:Int):=⟨v.toNat,by have:=g.lo; omega⟩
  obtain ⟨a,ρ,hL⟩:=a61 ns g
  exact E7 (g9 s1 (g9 (C8 t2 (decide_eq_true h) (u5 (A5 (d9 (d8 rfl) (d9 k6 i7)) rfl rfl fn rfl rfl) rfl)) hL)) rfl
 ·obtain ⟨w,hw⟩:∃ w:Nat,(x6 ns 0).1=(w:Int):=⟨(x6 ns 0).1.toNat,by omega⟩
  rw [hw] at g0 t2 s1
  obtain ⟨a,ρ,hL⟩:=a61 ns g0
  exact E7 (g9 s1 (g9 (v8 t2 (decide_eq_false h) B6) hL)) rfl
end K20
namespace L2
theorem ar1 {α:Type}{P:List α→Prop}(h:∀ a0,P [a0]):∀ us:List α,us.length=1→P us
 | [a0],_=>h a0
theorem ar2 {α:Type}{P:List α→Prop}(h:∀ a0 a1,P [a0,a1]):∀ us:List α,us.length=2→P us
 | [a0,a1],_=>h a0 a1
theorem ar3 {α:Type}{P:List α→Prop}(h:∀ a0 a1 a2,P [a0,a1,a2]):∀ us:List α,us.length=3→P us
 | [a0,a1,a2],_=>h a0 a1 a2
theorem ar4 {α:Type}{P:List α→Prop}(h:∀ a0 a1 a2 a3,P [a0,a1,a2,a3]):∀ us:List α,us.length=4→P us
 | [a0,a1,a2,a3],_=>h a0 a1 a2 a3
theorem ar5 {α:Type}{P:List α→Prop}(h:∀ a0 a1 a2 a3 a4,P [a0,a1,a2,a3,a4]):∀ us:List α,us.length=5→P us
 | [a0,a1,a2,a3,a4],_=>h a0 a1 a2 a3 a4
end L2
open PySem PySem.W PyProof.Rows
set_option maxRecDepth 100000 in
set_option maxHeartbeats 0 in
theorem PySem.Challenge.cw_clausekeep_k20_whole_solved_holds : PySem.Challenge.rw_clausekeep_k20_whole_solved.Holds := by
 w_on; o_law; k_head; (case hw=>w_witness2)
 k_fill
 refine L2.b2t (l:=PySem.Challenge.rw_clausekeep_k20_whole_solved) (k:=5) (x:="_law_script") rfl rfl ⟨rfl,by decide,by decide⟩ (fun w h Y=>PySem.W.kIn_of Y) ?F
 case F=>
  intro w mg fa h KX G hmg
  have D_law_cell:L2.Def (L2.KOf KX) mg "_law_cell" K20.a1M ["_law_script","_law_k"]:=by
   refine' L2.J2 KX G ?a ?l ?c ?k ?b
   (case a | l | c | k=>(dsimp only [L2.KOf]; k_is))
   (case b=>exact fun _ _ _ _ _ _=>L2.ar2 (fun _ _=>rfl))
  have D_law_mix:L2.Def (L2.KOf KX) mg "_law_mix" K20.a2O ["_law_script","_law_k"]:=by
   refine' L2.J2 KX G ?a ?l ?c ?k ?b
   (case a | l | c | k=>(dsimp only [L2.KOf]; k_is))
   (case b=>exact fun _ _ _ _ _ _=>L2.ar2 (fun _ _=>rfl))
  have D_law_whole:L2.Def (L2.KOf KX) mg "_law_whole" K20.a0I ["_law_found"]:=by
   refine' L2.J2 KX G ?a ?l ?c ?k ?b
   (case a | l | c | k=>(dsimp only [L2.KOf]; k_is))
   (case b=>exact fun _ _ _ _ _ _=>L2.ar1 (fun _=>rfl))
  have D_law_clause:L2.Def (L2.KOf KX) mg "_law_clause" K20.a0o ["_law_script","_law_base","_law_variables","_law_most"]:=by
   refine' L2.J2 KX G ?a ?l ?c ?k ?b
   (case a | l | c | k=>(dsimp only [L2.KOf]; k_is))
   (case b=>exact fun _ _ _ _ _ _=>L2.ar4 (fun _ _ _ _=>rfl))
  have D_law_formula:L2.Def (L2.KOf KX) mg "_law_formula" K20.Y3 ["_law_script","_law_base"]:=by
   refine' L2.J2 KX G ?a ?l ?c ?k ?b
   (case a | l | c | k=>(dsimp only [L2.KOf]; k_is))
   (case b=>exact fun _ _ _ _ _ _=>L2.ar2 (fun _ _=>rfl))
  have D_law_models:L2.Def (L2.KOf KX) mg "_law_models" K20.a0d ["_law_variables","_law_clauses"]:=by
   refine' L2.J2 KX G ?a ?l ?c ?k ?b
   (case a | l | c | k=>(dsimp only [L2.KOf]; k_is))
   (case b=>exact fun _ _ _ _ _ _=>L2.ar2 (fun _ _=>rfl))
  have D_numbered:L2.Def (L2.KOf KX) mg "numbered" K20.a1P ["clauses"]:=by
   refine' L2.J2 KX G ?a ?l ?c ?k ?b
   (case a | l | c | k=>(dsimp only [L2.KOf]; k_is))
   (case b=>exact fun _ _ _ _ _ _=>L2.ar1 (fun _=>rfl))
  have D_truths_of:L2.Def (L2.KOf KX) mg "truths_of" K20.a0M ["literals"]:=by
   refine' L2.J2 KX G ?a ?l ?c ?k ?b
   (case a | l | c | k=>(dsimp only [L2.KOf]; k_is))
   (case b=>exact fun _ _ _ _ _ _=>L2.ar1 (fun _=>rfl))
  have D_opened:L2.Def (L2.KOf KX) mg "opened" K20.a4g ["truths","clause"]:=by
   refine' L2.J2 KX G ?a ?l ?c ?k ?b
   (case a | l | c | k=>(dsimp only [L2.KOf]; k_is))
   (case b=>exact fun _ _ _ _ _ _=>L2.ar2 (fun _ _=>rfl))
  have D_spread:L2.Def (L2.KOf KX) mg "spread" K20.a4G ["table","truths","reasons"]:=by
   refine' L2.J2 KX G ?a ?l ?c ?k ?b
   (case a | l | c | k=>(dsimp only [L2.KOf]; k_is))
   (case b=>exact fun _ _ _ _ _ _=>L2.ar3 (fun _ _ _=>rfl))
  have D_learned:L2.Def (L2.KOf KX) mg "learned" K20.a2F ["table","chosen","truths","reasons","conflict"]:=by
   refine' L2.J2 KX G ?a ?l ?c ?k ?b
   (case a | l | c | k=>(dsimp only [L2.KOf]; k_is))
   (case b=>exact fun _ _ _ _ _ _=>L2.ar5 (fun _ _ _ _ _=>rfl))
  have D_solved:L2.Def (L2.KOf KX) mg "solved" K20.a4s ["variables","clauses"]:=by
   refine' L2.J2 KX G ?a ?l ?c ?k ?b
   (case a | l | c | k=>(dsimp only [L2.KOf]; k_is))
   (case b=>exact fun _ _ _ _ _ _=>L2.ar2 (fun _ _=>rfl))
  have D_law_open:L2.Def (L2.KOf KX) mg "_law_open" K20.a1L ["_law_true_ones","_law_clause_here"]:=by
   refine' L2.J2 KX G ?a ?l ?c ?k ?b
   (case a | l | c | k=>(dsimp only [L2.KOf]; k_is))
   (case b=>exact fun _ _ _ _ _ _=>L2.ar2 (fun _ _=>rfl))
  have D_law_walk:L2.Def (L2.KOf KX) mg "_law_walk" K20.a1Q ["_law_table_here","_law_true_ones","_law_hints_here"]:=by
   refine' L2.J2 KX G ?a ?l ?c ?k ?b
   (case a | l | c | k=>(dsimp only [L2.KOf]; k_is))
   (case b=>exact fun _ _ _ _ _ _=>L2.ar3 (fun _ _ _=>rfl))
  have D_law_follows:L2.Def (L2.KOf KX) mg "_law_follows" K20.X8 ["_law_table_here","_law_clause_here","_law_hints_here"]:=by
   refine' L2.J2 KX G ?a ?l ?c ?k ?b
   (case a | l | c | k=>(dsimp only [L2.KOf]; k_is))
   (case b=>exact fun _ _ _ _ _ _=>L2.ar3 (fun _ _ _=>rfl))
  have D_law_played:L2.Def (L2.KOf KX) mg "_law_played" K20.a0l ["_law_formula_here","_law_steps_here"]:=by
   refine' L2.J2 KX G ?a ?l ?c ?k ?b
   (case a | l | c | k=>(dsimp only [L2.KOf]; k_is))
   (case b=>exact fun _ _ _ _ _ _=>L2.ar2 (fun _ _=>rfl))
  have D_law_none:L2.Def (L2.KOf KX) mg "_law_none" K20.a1E ["_law_script","_law_base"]:=by
   refine' L2.J2 KX G ?a ?l ?c ?k ?b
   (case a | l | c | k=>(dsimp only [L2.KOf]; k_is))
   (case b=>exact fun _ _ _ _ _ _=>L2.ar2 (fun _ _=>rfl))
  have D_law:L2.Def (L2.KOf KX) mg "law" K20.b1G ["_law_script"]:=by
   refine' L2.J2 KX G ?a ?l ?c ?k ?b
   (case a | l | c | k=>(dsimp only [L2.KOf]; k_is))
   (case b=>exact fun _ _ _ _ _ _=>L2.ar1 (fun _=>rfl))
  have z_len:mg "len"=none:=PySem.W.mg_none_of KX G (by k_is)
  have z_isinstance:mg "isinstance"=none:=PySem.W.mg_none_of KX G (by k_is)
  have z_int:mg "int"=none:=PySem.W.mg_none_of KX G (by k_is)
  have z_bool:mg "bool"=none:=PySem.W.mg_none_of KX G (by k_is)
  have z_range:mg "range"=none:=PySem.W.mg_none_of KX G (by k_is)
  have z_tuple:mg "tuple"=none:=PySem.W.mg_none_of KX G (by k_is)
  have z_all:mg "all"=none:=PySem.W.mg_none_of KX G (by k_is)
  have z_any:mg "any"=none:=PySem.W.mg_none_of KX G (by k_is)
  have z_dict:mg "dict"=none:=PySem.W.mg_none_of KX G (by k_is)
  have z_enumerate:mg "enumerate"=none:=PySem.W.mg_none_of KX G (by k_is)
  have z_abs:mg "abs"=none:=PySem.W.mg_none_of KX G (by k_is)
  have z_list:mg "list"=none:=PySem.W.mg_none_of KX G (by k_is)
  have z_reversed:mg "reversed"=none:=PySem.W.mg_none_of KX G (by k_is)
  have H_law_cell:=fun base=>D_law_cell.has (P:=PySem.Challenge.rw_clausekeep_k20_whole_solved.prog) (w:=w) (base:=base) fun f fd F=>(K20.a5X F z_len).imp (L3.M8.imp K20.a4Y)
  have H_law_mix:=fun base=>D_law_mix.has (P:=PySem.Challenge.rw_clausekeep_k20_whole_solved.prog) (w:=w) (base:=base) fun f fd F=>(K20.a7L F (H_law_cell base)).imp (L3.M8.imp K20.a5W)
  have H_law_whole:=fun base=>D_law_whole.has (P:=PySem.Challenge.rw_clausekeep_k20_whole_solved.prog) (w:=w) (base:=base) fun f fd F=>(K20.a41 F z_isinstance z_int z_bool).imp (L3.M8.imp K20.a38)
  have H_law_clause:=fun base=>D_law_clause.has (P:=PySem.Challenge.rw_clausekeep_k20_whole_solved.prog) (w:=w) (base:=base) fun f fd F=>(K20.a37 F z_range z_tuple (H_law_mix base)).imp (L3.M8.imp K20.a3A)
  have H_law_formula:=fun base=>D_law_formula.has (P:=PySem.Challenge.rw_clausekeep_k20_whole_solved.prog) (w:=w) (base:=base) fun f fd F=>(K20.a3t F z_range (H_law_mix base) (H_law_clause base)).imp (L3.M8.imp K20.a2z)
  have H_law_models:=fun base=>D_law_models.has (P:=PySem.Challenge.rw_clausekeep_k20_whole_solved.prog) (w:=w) (base:=base) fun f fd F=>(K20.a4n F z_range z_all z_any z_tuple).imp (L3.M8.imp K20.a3r)
  have H_numbered:=fun base=>D_numbered.has (P:=PySem.Challenge.rw_clausekeep_k20_whole_solved.prog) (w:=w) (base:=base) fun f fd F=>(K20.a6d F z_dict z_enumerate).imp (L3.M8.imp K20.a43)
  have H_truths_of:=fun base=>D_truths_of.has (P:=PySem.Challenge.rw_clausekeep_k20_whole_solved.prog) (w:=w) (base:=base) fun f fd F=>(K20.a4Z F z_dict z_abs).imp (L3.M8.imp K20.a4K)
  have H_opened:=fun base=>D_opened.has (P:=PySem.Challenge.rw_clausekeep_k20_whole_solved.prog) (w:=w) (base:=base) fun f fd F=>(K20.a8P F z_abs z_list).imp (L3.M8.imp K20.a7S)
  have H_spread:=fun base=>D_spread.has (P:=PySem.Challenge.rw_clausekeep_k20_whole_solved.prog) (w:=w) (base:=base) fun f fd F=>L3.b8c ((K20.a8f F z_len z_abs (H_opened base)).imp (L3.a8q.imp K20.a60)) rfl rfl K20.a8C
  have H_learned:=fun base=>D_learned.has (P:=PySem.Challenge.rw_clausekeep_k20_whole_solved.prog) (w:=w) (base:=base) fun f fd F=>(K20.a7U F z_dict z_abs z_reversed z_list z_len z_tuple).imp (L3.M8.imp K20.a6K)
  have H_solved:=fun base=>D_solved.has (P:=PySem.Challenge.rw_clausekeep_k20_whole_solved.prog) (w:=w) (base:=base) fun f fd F=>(K20.a8l F z_range z_tuple (H_numbered base) (H_truths_of base) (H_spread base) (H_learned base)).imp (L3.M8.imp K20.a6W)
  have H_law_open:=fun base=>D_law_open.has (P:=PySem.Challenge.rw_clausekeep_k20_whole_solved.prog) (w:=w) (base:=base) fun f fd F=>(K20.a6k F ).imp (L3.M8.imp K20.a4U)
  have H_law_walk:=fun base=>D_law_walk.has (P:=PySem.Challenge.rw_clausekeep_k20_whole_solved.prog) (w:=w) (base:=base) fun f fd F=>(K20.a6N F z_len (H_law_open base)).imp (L3.M8.imp K20.a4X)
  have H_law_follows:=fun base=>D_law_follows.has (P:=PySem.Challenge.rw_clausekeep_k20_whole_solved.prog) (w:=w) (base:=base) fun f fd F=>(K20.a3s F z_any (H_law_walk base)).imp (L3.M8.imp K20.a2G)
  have H_law_played:=fun base=>D_law_played.has (P:=PySem.Challenge.rw_clausekeep_k20_whole_solved.prog) (w:=w) (base:=base) fun f fd F=>(K20.a3W F z_range z_len z_all z_abs z_list (H_law_follows base)).imp (L3.M8.imp K20.a3y)
  have H_law_none:=fun base=>D_law_none.has (P:=PySem.Challenge.rw_clausekeep_k20_whole_solved.prog) (w:=w) (base:=base) fun f fd F=>(K20.a6M F z_range z_len z_tuple (H_law_mix base) (H_law_clause base) (H_law_models base)).imp (L3.M8.imp K20.a4R)
  exact L2.b5w D_law hmg (fun f fd F base _ _=>(K20.b29 F z_list z_isinstance z_tuple z_len z_all z_any (H_law_formula base) (H_law_mix base) (H_law_none base) (H_solved base) (H_law_models base) (H_law_whole base) (H_law_played base)).imp (L3.b28 K20.b2r))
#print axioms PySem.Challenge.cw_clausekeep_k20_whole_solved_holds
